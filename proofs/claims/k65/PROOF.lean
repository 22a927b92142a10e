import PyProof.Rows.All
import Wide.All
import OpenK.AllK
import Wide.FinOn
import Lean
import PyProof.EqAt
import PyProof.EqKinds
import PyProof.TupleCall
import PyProof.NeData
import PySem.Challenge.RW_caseways_k65_whole_nothing_read_beyond
local macro_rules | `(tactic| omega) => `(tactic| first | with_reducible assumption | lia | omega +splitDisjunctions)
set_option Elab.async false
set_option linter.all false
set_option maxRecDepth 100000
theorem ω {p : Prop}(h : p := by omega) : p := h
theorem δ {p : Prop}(h : p := by decide) : p := h
theorem ψ {p : Prop}(h : p := by decide +kernel) : p := h
open List (all_cons all_map cons_append filterMap_map flatten_cons forIn_cons getElem_inj length_set map_drop map_nil nodup_append of_mem_zip pairwise_map sum_cons)
open PySem.Heap (size_update)
open Option (bind_some getD_none isSome_map)
open PySem.W (findCls fnOf mg_of nsIn nsOkIn readsIn tailIn)
open Array (toList_map)
open Nat (add_comm le_of_lt le_succ ne_of_gt not_lt not_lt_zero)
open Int (mul_one natCast_pow one_mul)
open PySem renaming Value → An, wpAny_bind → Ap, Shared → AA, wpAny_pure → AE, starEach → AJ, wpAny → AK, mainGlobals → AL, model → AN, sizeLine → AQ, Program → AW, Builtin → A7, Around → Bi, PyData → Bz, World → BB, wpAny_ite_false → BD, compareOp → B0, wpAny_of_eq → B3, wpAny_mono → B5, wpAny_newObj_type → B6, wpAny_field → B7, wpAny_holding → B8, FuncData → Co, backTo → CA, boot_len → CD, wpAny_setField_rec → CM, mem_of_lookup → CO, keywordEach → C6, NameKind → C7, wpAny_truthy_bool → C9, assignEach → DA, attributeBase → DC, wpAny_ite_true → DF, foldedSetIterable → DI, argBest → D3, wpAny_pyIter_list → D8, wpAny_loadPart_at → D9, Spec → Ev, wpAny_standAt → Ex, holding → EB, rawInt → EC, binaryOp → ED, backToKw → EE, cLine → EI, sysModules → EJ, bootBuiltins → EK, wpAny_Call_Name_kw → EM, wpAny_passesOwn → ES, behindInMarks → ET, wpAny_pyIter_enum → EW, sizeLine_eq → EZ, codeAny_call_builtin → E8, Scope → Ff, wpAny_callSpecial?_slot → Fm, setFlight → Fs, Keyword → FC, swapsWith → FO, assign → FR, wpAny_call_entry → FU, swapsWithSole → F2, sliceBounds → F5, excClassObj → F6, wpAny_isSubtype_exc → Gc, standAt → GA, codeAny_mono → GB, wpAny_call → GL, typeLookup → GM, call_meets → GN, wpAny_letOwnedTupleGo_enum → GS, wpAny_pyIter_tuple → GU, wpAny_seqItems → GV, tupleKind_room_in1 → GW, notedBy → Hb, IsEnum → He, GenState → Hn, noteFrame → HC, wpAny_rule → HI, wpAny_pyNext_list_item → HK, codeAny → HL, ExcBaseFacts → HV, wpAny_execs_nil → Ix, letOwnedTupleGo → Iy, codeAny_builtin → IB, CmpOp → IG, compEnvC → IL, wpAny_tryCatch → IP, wpAny_letGo → IQ, tupleKind → Jn, getItem → JA, callerA → JE, Model → Kk, swappedStores → Kt, strLen_append → KB
open List renaming mem_singleton → Au, getElem?_eq_getElem → AC, getElem?_eq_some_iff → AG, mem_cons_of_mem → AH, length_map → AI, mem_cons_self → AM, mem_cons → AO, length_append → AR, range → AU, size_toArray → AZ, mem_append_right → A0, mem_of_getElem? → A2, getElem?_map → A4, replicate → A5, length_singleton → A9, length_cons → Be, mem_append → BC, not_mem_nil → BE, mem_append_left → BG, getElem?_append_right → BH, filterMap → BI, mem_filter → BN, map_append → BS, getD_eq_getElem?_getD → Cf, pairwise_cons → CF, Nodup → CL, length_pos_iff → C0, pairwise_append → C3, append_nil → C4, pairwise_singleton → C5, getElem?_append_left → C8, append_assoc → Da, map_cons → Dx, length_replicate → DB, mem_map → DE, getElem_mem → DS, length_filter_le → DT, length_eq_zero_iff → DZ, lookup_cons → D7, length_range → Ee, getElem?_eq_none → EG, filter_cons_of_pos → EO, filter_cons_of_neg → ER, length_take → E2, all_eq_true → E4, take_length → Fa, mem_range → Fc, nodup_cons → Fk, getElem?_set_self → FA, replicate_succ → FD, take_add_one → FE, length_nil → FS, getElem?_toArray → FY, mem_iff_getElem? → F0, eq_nil_of_length_eq_zero → F7, toArray → GG, map_map → GH, nil_append → GO, getElem?_cons_succ → GY, getElem?_cons_zero → G1, getElem?_eq_none_iff → G2, drop_eq_getElem_cons → Ha, drop_eq_nil_of_le → Hd, contains_cons → Hm, map → HE, find?_cons → HP, take_of_length_le → HR, foldl_append → HZ, getElem?_set_ne → Iq, getLast?_concat → IA, eq_nil_or_concat → IE, length_drop → IH, any_cons → II, mem_iff_getElem → IM, nodup_nil → JJ, filterMap_cons → JO, getElem?_range → JU, map_congr_left → JY, map_eq_nil_iff → Kb, flatMap_append → Ki, mem_filterMap → Kx, set_cons_zero → KE, set_cons_succ → KF
open And renaming intro → AB
open PySem.W renaming Frag → AD, keepIn → CB, codeIn → CC, findIn → CY, mg_none_of → D2, looks_findIn → FH, Looks → FK, looks_clsIn → Hc, looks_mroIn → IR
open PySem.Heap renaming get?_push_of_some → AF, lt_size → A3, get?_push_size → BA, get?_update_other → BF, SameBut → C2, size_push → D5, get?_update_self → FV
open Option.some renaming inj → AV
open Nat renaming lt_of_lt_of_le → AX, le_refl → A6, ne_of_lt → BO, le_trans → BQ, lt_irrefl → CU, lt_succ_self → Db, lt_of_le_of_lt → DH, zero_le → DL, pow_le_pow_right → DU, lt_or_ge → E3, zero_add → FF, add_sub_cancel → FG, lt_succ_of_lt → F3, two_pow_pos → F9, sub_self → HH, testBit_lt_two_pow → HU, max_eq_right → Ic
open Bool renaming false_ne_true → AY, and_eq_true → Cc, not_false → C1, not_true → EU, true_and → F4, eq_iff_iff → F8, or_true → HQ, false_eq_true → KA
open PySem.Data renaming fields → A8, seq → HA
open PySem.SeqAt renaming EqAt → BM
open PySem.PassesOwn renaming never → BU
open Sum renaming inl → B1, inr → IZ
open PyProof.Rows renaming arrOf → B2, callWith_type1 → B9, wpS_bind → Cb, wpS_pure → De, Keyed → D1, pendingOf → D6, envOfC → EA, pairsOf → EX, SortSt → E9, IntsAre → Fh, wpS_forRange → FL, slot_tuple_getitem → FM, seqObj → F1, AllBare → Go, failedOf → IU, wpS_mono → IX, boot_max → IY
open Array renaming getElem?_setIfInBounds_self_of_lt → B4, getElem?_eq_some_iff → Cs, length_toList → Kn
open Ne renaming symm → Ch
open Option renaming map_eq_some_iff → Cn
open Int renaming toNat → Ct, le_refl → CS, toNat_natCast → DD, emod_lt_of_pos → DV, eq_ofNat_of_zero_le → EH, emod_nonneg → E5
open PySem.Obj renaming mapSeq → CH
open False renaming elim → DJ
open PySem.Code renaming builtin → DM, quiet_builtin → D0
open ForInStep renaming yield → D4
open Or renaming inl → EF
open PySem.Calls renaming spliced_cons → EL, callWith_builtin → EN, spliced_nil → EV, evalArgs_plain → E6, Name_function_global → GI
open PySem.F renaming slot_tuple_iterator_next → E7, excBase_ValueError → G0, plainAttrs_list → HG, slot_dict_get → IC, args_list_append_2 → IJ, entry_list_append → JP
open Classical renaming propDecidable → Fu
open PySem.IsL renaming update → FX
open PySem.Str renaming ofString → HM
open PySem.Paired renaming length → Kj
namespace L2
open PySem PySem.Spec PyProof.Rows
noncomputable abbrev Key:=Sum Int Str
noncomputable def Dr:Key->An->Bool
 | .inl k,v=>An.isInt k v
 | .inr x,v=>An.isStrOf x v
noncomputable def acR (w:BB):Key->Int
 | .inl k=>hashInt k
 | .inr x=>hashStr w x
theorem dB:∀{k:Key}{v:An},Dr k v=true->(∃i t,k=B1 i/\v=An.int i t)\/(∃x t,k=IZ x/\v=An.str x t)
 | .inl i,v,h=>by
  obtain⟨t,e⟩:=An.isInt_shape (k:=i) (v:=v) h;exact .inl ⟨i,t,rfl,e⟩
 | .inr x,v,h=>by
  obtain⟨t,e⟩:=An.isStrOf_shape (x:=x) (v:=v) h;exact .inr ⟨x,t,rfl,e⟩
theorem Pr (i:Int)(t:Tok):Dr (.inl i) (.int i t)=true:=by simp [Dr,An.isInt]
theorem Pq (x:Str)(t:Tok):Dr (.inr x) (.str x t)=true:=by simp [Dr,An.isStrOf]
theorem aa7 (a b:Int):decide ((B1 a:Key)=B1 b)=(a == b):=by
 by_cases e:a=b
 ·subst e;simp
 have h:¬(B1 a:Key)=B1 b:=fun q=>e (B1.inj q);rw[decide_eq_false h];exact(beq_eq_false_iff_ne.mpr e).symm
theorem aa4 (a b:Str):decide ((IZ a:Key)=IZ b)=decide (a=b):=by
 by_cases e:a=b
 ·subst e;simp
 have h:¬(IZ a:Key)=IZ b:=fun q=>e (IZ.inj q);rw[decide_eq_false h,decide_eq_false e]
theorem aa6 (a:Int)(b:Str):decide ((B1 a:Key)=IZ b)=false:=decide_eq_false (fun q=>nomatch q)
theorem aa5 (a:Str)(b:Int):decide ((IZ a:Key)=B1 b)=false:=decide_eq_false (fun q=>nomatch q)
noncomputable def cP (prog:AW)(w:BB):PySem.KeyKind prog w Key where
 is:=Dr
 hash:=acR w
 inj:=fun v a b ha hb=>by
  rcases dB ha with⟨i,t,rfl,rfl⟩|⟨x,t,rfl,rfl⟩
  ·rcases dB hb with⟨j,u,rfl,e⟩|⟨y,u,rfl,e⟩
   ·injection e with e1 _;rw[e1]
   exact nomatch e
  rcases dB hb with⟨j,u,rfl,e⟩|⟨y,u,rfl,e⟩
  ·exact nomatch e
  injection e with e1 _;rw[e1]
 byValue:=fun k v h=>by
  rcases dB h with⟨i,t,rfl,rfl⟩|⟨x,t,rfl,rfl⟩ <;> rfl
 pyHash:=fun hv h=>by
  rcases dB hv with⟨i,t,rfl,rfl⟩|⟨x,t,rfl,rfl⟩
  ·exact wpAny_pyHash_int h
  exact wpAny_pyHash_str h
 eqBool:=fun hu hv h=>by
  rcases dB hu with⟨i,t,rfl,rfl⟩|⟨x,t,rfl,rfl⟩
  ·rcases dB hv with⟨j,u,rfl,rfl⟩|⟨y,u,rfl,rfl⟩
   ·rw[aa7] at h;exact wpAny_eqBool_int h
   rw[aa6] at h;exact BM.int_str i t y u _ _ _ _ h
  rcases dB hv with⟨j,u,rfl,rfl⟩|⟨y,u,rfl,rfl⟩
  ·rw[aa5] at h;exact BM.str_int x t j u _ _ _ _ h
  rw[aa4] at h;exact wpAny_eqBool_str h
 «strs»:=fun k x t v h=>by
  rcases dB h with⟨i,u,rfl,e⟩|⟨y,u,rfl,e⟩
  ·exact nomatch e
  injection e with e1 _;subst e1;cases v <;> rfl
theorem Ho (prog:AW)(w:BB)(i:Int)(t:Tok):(cP prog w).is (.inl i) (.int i t)=true:=Pr i t
theorem Hj (prog:AW)(w:BB)(x:Str)(t:Tok):(cP prog w).is (.inr x) (.str x t)=true:=Pq x t
inductive V where
 | non|bl (b:Bool)|int (i:Int)|str (x:Str)|byt (b:Array UInt8)|flt (b:UInt64)|ref (a:Addr)|ty (n:String)
 deriving DecidableEq
noncomputable def RelV:V->An->Prop
 | .non,u=>u=An.none
 | .bl b,u=>u=An.bool b
 | .int i,u=>∃t,u=An.int i t
 | .str x,u=>∃t,u=An.str x t
 | .byt b,u=>∃t,u=An.bytes b t
 | .flt b,u=>∃t,u=An.float b t
 | .ref a,u=>u=An.ref a
 | .ty n,u=>u=An.type n
noncomputable abbrev Vals:List V->List An->Prop:=Paired RelV
theorem Vals.length {xs:List V}{us:List An}(r:Vals xs us):xs.length=us.length:=Kj r
theorem Vals.get:∀{xs:List V}{us:List An}{i:Nat}{x:V},Vals xs us->xs[i]?=some x->∃u,us[i]?=some u/\RelV x u
 | _,_,_,_,.nil,e=>by simp at e
 | _,_,0,_,.cons r _,e=>by simp at e;subst e;exact⟨_,rfl,r⟩
 | _,_,i+1,x,.cons _ t,e=>by
  obtain⟨u,h1,h2⟩:=Vals.get (i:=i) (x:=x) t (by simpa using e);exact⟨u,by simpa using h1,h2⟩
theorem Vals.set {x:V}{u:An}(r:RelV x u):∀{xs:List V}{us:List An}(i:Nat),Vals xs us->Vals (xs.set i x) (us.set i u)
 | _,_,_,.nil=>.nil
 | _,_,0,.cons _ t=>.cons r t
 | _,_,i+1,.cons q t=>.cons q (Vals.set r i t)
theorem Vals.append:∀{xs ys:List V}{us ws:List An},Vals xs us->Vals ys ws->Vals (xs++ys) (us++ws)
 | _,_,_,_,.nil,s=>s
 | _,_,_,_,.cons r t,s=>.cons r (Vals.append t s)
theorem Vals.take:∀{xs:List V}{us:List An}(n:Nat),Vals xs us->Vals (xs.take n) (us.take n)
 | _,_,0,_=>.nil
 | _,_,_+1,.nil=>.nil
 | _,_,n+1,.cons r t=>.cons r (Vals.take n t)
theorem Vals.drop:∀{xs:List V}{us:List An}(n:Nat),Vals xs us->Vals (xs.drop n) (us.drop n)
 | _,_,0,r=>r
 | _,_,_+1,.nil=>.nil
 | _,_,n+1,.cons _ t=>Vals.drop n t
theorem Vals.none_of:∀{xs:List V}{us:List An}{i:Nat},Vals xs us->xs[i]?=none->us[i]?=none:=fun {xs us i} r e=>by
 have h1:=r.length;have h2:xs.length<=i:=G2.mp e;exact G2.mpr ω
noncomputable def wY:Option V->Option An->Prop
 | some v,some u=>RelV v u
 | none,none=>True
 | _,_=>False
noncomputable def KV {κ:Type}:List (κ×V)->List (κ×An)->Prop:=Paired fun(p:κ×V)(q:κ×An)=>p.1=q.1/\RelV p.2 q.2
noncomputable def kV:Key->V
 | .inl i=>.int i
 | .inr x=>.str x
inductive HO where
 /-- a list -/
 | lst (xs:List V)
 /-- a tuple (never changes) -/
 | tup (xs:List V)
 /-- a dict whose keys are ints and texts;one whose keys are tuples of ints and texts (the empty one is both) -/
 | dK (kvs:List (Key×V))|dT (kvs:List (List Key×V))
 /-- a set of ints: its members,its size -/
 | set (S:Int->Bool) (n:Nat)
 /-- an instance of the class at C,its dict at dx,its attributes -/
 | ins (C dx:Addr) (fs:List (Str×V))
 /-- the dict of the instance at x -/
 | own (x:Addr)
 /-- the dict of an exception -/
 | xd (fs:List (Str×V))
 /-- a bound method,f of x -/
 | met (f x:Addr)
 /-- a range object lo,lo+1,.. below hi -/
 | rng (lo hi:Int)
 /-- a thing that is known to the object (the script;a dict while a loop walks it): read,never written while it is so -/
 | frz (o:Obj) (u:HO)
 /-- a code object's table -/
 | tbl (ps:Array An)
 /-- any other thing,by what is true of its one object (a def of one's own: SetO a S n:=HO.ext fun h=>..) -/
 | ext (φ:Heap->Prop)
noncomputable abbrev Hp:=Addr->Option HO
noncomputable def upd (H:Hp)(a:Addr)(o:HO):Hp:=fun b=>if b=a then some o else H b
theorem au {H:Hp}{a:Addr}{o:HO}:upd H a o a=some o:=by unfold upd;rw[if_pos rfl]
theorem aH {H:Hp}{a b:Addr}{o:HO}(h:b≠a):upd H a o b=H b:=by unfold upd;rw[if_neg h]
theorem acd {H:Hp}{a b:Addr}{o u:HO}(h:H a=some o)(h':H b=some u)(d:o≠u):a≠b:=by
 intro e;subst e;rw[h] at h';exact d (AV h')
theorem aF {H:Hp}{a b:Addr}{o:HO}(h:H a=some o)(h':H b=none):a≠b:=by
 intro e;subst e;rw[h] at h';cases h'
section
variable (P:AW)(w:BB)
noncomputable def d9 (H:Hp)(h:Heap)(a:Addr):HO->Prop
 | .lst xs=>xs.length<=AQ/\∃(its:List An)(n:Nat),Vals xs its/\h.get? a=some { cls:=.type "list",data:=.seq its.toArray n }
 | .tup xs=>xs.length<=AQ/\∃its:List An,Vals xs its/\IsTup h a its.toArray
 | .dK kvs=>kvs.length<=AQ/\(a == EJ)=false/\∃vs,KV kvs vs/\h.DictOf (cP P w) a vs
 | .dT kvs=>kvs.length<=AQ/\(a == EJ)=false/\∃xs:List (List Key×Addr×An),
   Paired (fun(p:List Key×V)(q:List Key×Addr×An)=>p.1=q.1/\H q.2.1=some (.tup (p.1.map kV))/\RelV p.2 q.2.2) kvs xs /\
   ∃o es ep,h.get? a=some o/\o.ExactDict/\o.data=.dict es ep/\es.toList=xs.map (entryOfKey (Jn (cP P w)))/\(xs.map (·.1)).Nodup
 | .set S n=>h.SetOf (intKind P w) a S n
 | .ins C dx fs=>H dx=some (.own a)/\fs.length<=1000/\dx≠a/\h.get? a=some (PySem.W.instObj C dx) /\
   ∃mA,h.Ns1 dx mA/\(∀f,wY (fs.lookup f) (mA f))/\PySem.Within mA (fs.map (·.1))
 | .own _=>∃o,h.get? a=some o
 | .xd fs=>∃mA,h.Ns1 a mA/\∀f,wY (fs.lookup f) (mA f)
 | .rng lo hi=>∃t u v,h.get? a=some { cls:=.type "range",data:=.fields #[.int lo t,.int hi u,.int 1 v] }
 | .frz o u=>h.get? a=some o/\d9 H h a u
 | .tbl ps=>h.get? a=some { cls:=.none,data:=.fields ps }
 | .met f x=>h.get? a=some (PySem.W.methodObj (.ref f) (.ref x))
 | .ext φ=>φ h/\(∃o,h.get? a=some o)/\∀h1 h2:Heap,φ h1->(∀o,h1.get? a=some o->h2.get? a=some o)->φ h2
noncomputable def HOk (H:Hp)(h:Heap):Prop:=∀a o,H a=some o->d9 P w H h a o
end
section
variable {P:AW}{w:BB}{H H':Hp}{h h':Heap}{a:Addr}{o:HO}
theorem d9.lt (x:d9 P w H h a o):a<h.objs.size:=by
 cases o with
 | lst xs=>obtain⟨_,_,_,_,e⟩:=x;exact A3 e
 | tup xs=>obtain⟨_,_,_,p⟩:=x;exact p.lt
 | dK kvs=>obtain⟨_,_,_,_,o,_,_,e,_⟩:=x;exact A3 e
 | dT kvs=>obtain⟨_,_,_,_,o,_,_,e,_⟩:=x;exact A3 e
 | set S n=>obtain⟨o,_,_,_,e,_⟩:=x;exact A3 e
 | ins C dx fs=>obtain⟨_,_,_,e,_⟩:=x;exact A3 e
 | own y=>obtain⟨_,e⟩:=x;exact A3 e
 | xd fs=>obtain⟨_,⟨_,_,_,e,_⟩,_⟩:=x;exact A3 e
 | rng lo hi=>obtain⟨_,_,_,e⟩:=x;exact A3 e
 | frz ob u=>obtain⟨e,_⟩:=x;exact A3 e
 | tbl ps=>exact A3 (show h.get? a=some _ from x)
 | met f y=>exact A3 (show h.get? a=some _ from x)
 | ext φ=>obtain⟨_,⟨_,e⟩,_⟩:=x;exact A3 e
theorem Paired.aaU {α β:Type}{F G:α->β->Prop}:∀{l₁:List α}{l₂:List β},Paired F l₁ l₂->(∀a b,F a b->G a b)->Paired G l₁ l₂
 | _,_,.nil,_=>.nil
 | _,_,.cons r t,f=>.cons (f _ _ r) (Paired.aaU t f)
theorem d9.stay (x:d9 P w H h a o)(k:∀b u,(b=a\/H b=some (.own a))->h.get? b=some u->h'.get? b=some u)
  (ho:∀b,H b=some (.own a)->H' b=some (.own a)) (ht:∀b xs,H b=some (.tup xs)->H' b=some (.tup xs)):d9 P w H' h' a o:=by
 induction o with
 | lst xs=>obtain⟨z,its,n,r,e⟩:=x;exact⟨z,its,n,r,k _ _ (.inl rfl) e⟩
 | tup xs=>obtain⟨z,its,r,ob,e,c⟩:=x;exact⟨z,its,r,ob,k _ _ (.inl rfl) e,c⟩
 | dK kvs=>obtain⟨z,y,vs,r,ob,es,ep,e,c⟩:=x;exact⟨z,y,vs,r,ob,es,ep,k _ _ (.inl rfl) e,c⟩
 | dT kvs=>
  obtain⟨z,y,xs,r,ob,es,ep,e,c⟩:=x;exact⟨z,y,xs,Paired.aaU r fun p q z=>⟨z.1,ht _ _ z.2.1,z.2.2⟩,ob,es,ep,k _ _ (.inl rfl) e,c⟩
 | set S n=>obtain⟨ob,es,ep,t,e,c⟩:=x;exact⟨ob,es,ep,t,k _ _ (.inl rfl) e,c⟩
 | ins C dx fs=>
  obtain⟨d,z,ne,e,mA,⟨od,es,ep,e2,c⟩,r⟩:=x;exact⟨ho _ d,z,ne,k _ _ (.inl rfl) e,mA,⟨od,es,ep,k _ _ (.inr d) e2,c⟩,r⟩
 | own y=>obtain⟨ob,e⟩:=x;exact⟨ob,k _ _ (.inl rfl) e⟩
 | xd fs=>obtain⟨mA,⟨od,es,ep,e,c⟩,r⟩:=x;exact⟨mA,⟨od,es,ep,k _ _ (.inl rfl) e,c⟩,r⟩
 | rng lo hi=>obtain⟨t,u,v,e⟩:=x;exact⟨t,u,v,k _ _ (.inl rfl) e⟩
 | frz ob u ih=>obtain⟨e,q⟩:=x;exact⟨k _ _ (.inl rfl) e,ih q⟩
 | tbl ps=>
  have e:h.get? a=some { cls:=.none,data:=.fields ps }:=x;show h'.get? a=some { cls:=.none,data:=.fields ps };exact k a _ (.inl rfl) e
 | met f y=>
  have e:h.get? a=some (PySem.W.methodObj (.ref f) (.ref y)):=x;show h'.get? a=some (PySem.W.methodObj (.ref f) (.ref y));exact k a _ (.inl rfl) e
 | ext φ=>obtain⟨p,⟨o,e⟩,st⟩:=x;exact⟨st _ _ p fun o q=>k _ _ (.inl rfl) q,⟨o,k _ _ (.inl rfl) e⟩,st⟩
theorem HOk.lt (x:HOk P w H h)(e:H a=some o):a<h.objs.size:=(x a o e).lt
theorem HOk.fresh (x:HOk P w H h)(e:h.objs.size<=a):H a=none:=by
 cases q:H a with
 | none=>rfl
 | some u=>exact absurd (AX (x.lt q) e) (CU _)
theorem HOk.kept (x:HOk P w H h)(k:∀b u,h.get? b=some u->h'.get? b=some u):HOk P w H h':=fun a o e=>
 (x a o e).stay (fun b u _ q=>k b u q) (fun _ q=>q) fun _ _ q=>q
theorem HOk.laid (x:HOk P w H h)(k:∀b u,h.get? b=some u->h'.get? b=some u)(hp:h.objs.size<=a)(new:d9 P w (upd H a o) h' a o):HOk P w (upd H a o) h':=fun b u e=>by
 have hn:=x.fresh hp;by_cases hb:b=a
 ·subst hb;rw[au] at e;cases e;exact new
 rw[aH hb] at e;exact(x b u e).stay (fun c v _ q=>k c v q) (fun c q=>by rw[aH (aF q hn)];exact q) fun c xs q=>by rw[aH (aF q hn)];exact q
end
noncomputable def Rd (H:Hp)(a:Addr)(u:HO):Prop:=H a=some u\/∃o,H a=some (.frz o u)
theorem Rd.ok {P:AW}{w:BB}{H:Hp}{h:Heap}{a:Addr}{u:HO}(r:Rd H a u)(x:HOk P w H h):d9 P w H h a u:=by
 rcases r with r|⟨o,r⟩
 ·exact x a u r
 obtain⟨_,q⟩:=x a _ r;exact q
noncomputable def Mut:Option HO->Prop
 | some (.lst _)=>True
 | some (.dK _)=>True
 | some (.dT _)=>True
 | some (.set _ _)=>True
 | some (.ins _ _ _)=>True
 | some (.ext _)=>True
 | _=>False
section
variable {P:AW}{w:BB}{H:Hp}{h h':Heap}{x e:Addr}{o':HO}
theorem HOk.write (ok:HOk P w H h)(mu:Mut (H x))(he:e=x\/H e=some (.own x))(k:∀b u,b≠e->h.get? b=some u->h'.get? b=some u)(heo:∃u,h'.get? e=some u)
  (new:d9 P w (upd H x o') h' x o'):HOk P w (upd H x o') h':=fun b u q=>by
 have nown:∀c y,H c=some (.own y)->c≠x:=fun c y r z=>by subst z;rw[r] at mu;exact mu
 have ntup:∀c xs,H c=some (.tup xs)->c≠x:=fun c xs r z=>by subst z;rw[r] at mu;exact mu
 by_cases hb:b=x
 ·subst hb;rw[au] at q;cases q;exact new
 rw[aH hb] at q;by_cases hbe:b=e
 ·have q':H b=some (.own x):=by
   rcases he with z|z
   ·exact absurd (hbe.trans z) hb
   rw[hbe];exact z
  rw[q] at q';cases q';obtain⟨v,hv⟩:=heo;exact⟨v,by rw[hbe];exact hv⟩
 refine(ok b u q).stay (fun c v hc r=>k c v ?_ r) (fun c r=>by rw[aH (nown c b r)];exact r) fun c xs r=>by rw[aH (ntup c xs r)];exact r
 rcases hc with rfl|hc
 ·exact hbe
 rintro rfl;rcases he with z|z
 ·exact nown c b hc z
 rw[hc] at z;cases z;exact hb rfl
end
structure Un (fs ex:List Addr)(H H':Hp)(h h':Heap):Prop where
 keep:∀b o,h.get? b=some o->H b=none->b∉fs->b∉ex->h'.get? b=some o
 slot:∀b o,h.get? b=some o->H b=none->b∈fs->b∉ex->∃sl,h'.get? b=some { o with slots:=sl }
 free:∀b o,h.get? b=some o->H b=none->b∉ex->H' b=none
 there:∀b o,h.get? b=some o->b∉ex->∃o',h'.get? b=some o'
 tups:∀b xs,H b=some (.tup xs)->H' b=some (.tup xs)
 frzs:∀b o u,H b=some (.frz o u)->H' b=some (.frz o u)
 tbls:∀b ps,H b=some (.tbl ps)->∃more,H' b=some (.tbl (ps++more))
section
variable {fs fs' ex ex':List Addr}{H H1 H2:Hp}{h h1 h2 h':Heap}{a x e:Addr}{o:HO}
theorem Un.any (u:Un fs ex H H1 h h1){b:Addr}{ob:Obj}(q:h.get? b=some ob)(n:H b=none)(hx:b∉ex):∃sl,h1.get? b=some { ob with slots:=sl }:=by
 by_cases hb:b∈fs
 ·exact u.slot b ob q n hb hx
 exact⟨ob.slots,u.keep b ob q n hb hx⟩
theorem Un.kept (k:∀b u,h.get? b=some u->h'.get? b=some u):Un fs ex H H h h':=
 ⟨fun b ob q _ _ _=>k b ob q,fun b ob q _ _ _=>⟨ob.slots,k b ob q⟩,fun _ _ _ n _=>n,fun b ob q _=>⟨ob,k b ob q⟩,fun _ _ q=>q,fun _ _ _ q=>q,fun _ ps q=>⟨#[],by rw[q];simp⟩⟩
theorem Un.refl:Un fs ex H H h h:=Un.kept fun _ _ q=>q
theorem Un.laid (k:∀b u,h.get? b=some u->h'.get? b=some u)(hp:h.objs.size<=a)(hn:H a=none):Un fs ex H (upd H a o) h h' where
 keep:=fun b u q _ _ _=>k b u q
 slot:=fun b u q _ _ _=>⟨u.slots,k b u q⟩
 free:=fun b u q n _=>by rw[aH (BO (AX (A3 q) hp))];exact n
 there:=fun b u q _=>⟨u,k b u q⟩
 tups:=fun b xs q=>by rw[aH (aF q hn)];exact q
 frzs:=fun b u xs q=>by rw[aH (aF q hn)];exact q
 tbls:=fun b ps q=>⟨#[],by rw[aH (aF q hn),q];simp⟩
theorem Un.write (mu:Mut (H x))(he:e=x\/H e=some (.own x))(k:∀b u,b≠e->h.get? b=some u->h'.get? b=some u)(heo:∃u,h'.get? e=some u):Un fs ex H (upd H x o) h h':=by
 have hx:∀b,H b=none->b≠x:=fun b n z=>by subst z;rw[n] at mu;exact mu
 have hb:∀b,H b=none->b≠e:=fun b n z=>by
  subst z;rcases he with r|r
  ·exact hx b n r
  rw[n] at r;cases r
 have hm:∀b u,H b=some u->¬Mut (some u)->b≠x:=fun b u q nm z=>by subst z;rw[q] at mu;exact nm mu
 refine⟨fun b u q n _ _=>k b u (hb b n) q,fun b u q n _ _=>⟨u.slots,k b u (hb b n) q⟩,fun b u q n _=>by rw[aH (hx b n)];exact n,fun b u q _=>?_,
  fun b xs q=>by rw[aH (hm b _ q fun z=>z)];exact q,fun b u xs q=>by rw[aH (hm b _ q fun z=>z)];exact q,fun b ps q=>⟨#[],by rw[aH (hm b _ q fun z=>z),q];simp⟩⟩
 by_cases hbe:b=e
 ·subst hbe;exact heo
 exact⟨u,k b u hbe q⟩
end
noncomputable def trk (h:Heap)(H:Hp):List Addr:=(AU h.objs.size).filter fun a=>(H a).isSome
noncomputable def Ft (h:Heap)(H:Hp):Heap:=PySem.W.hideAll h (trk h H)
theorem Py (h:Heap)(H:Hp):(Ft h H).objs.size=h.objs.size:=PySem.W.hideAll_size _ _
theorem U5 {h:Heap}{H:Hp}{b:Addr}{o:Obj}(e:h.get? b=some o)(n:H b=none):(Ft h H).get? b=some o:=
 PySem.W.hideAll_get _ e fun hm=>by
  have q:(H b).isSome=true:=(BN.mp hm).2;rw[n] at q;simp at q
theorem Yk {h:Heap}{H:Hp}{b:Addr}{o:Obj}(e:(Ft h H).get? b=some o):h.get? b=some o/\H b=none:=by
 have e':h.get? b=some o:=PySem.W.of_hideAll (trk h H) e;refine⟨e',?_⟩;cases q:H b with
 | none=>rfl
 | some x=>
  have hm:b∈trk h H:=BN.mpr ⟨Fc.mpr (A3 e'),by simp [q]⟩;have z:(Ft h H).get? b=none:=PySem.W.hideAll_none (trk h H) hm;rw[z] at e;cases e
structure Mod (K:AD)(mg:Str->Option An)(base:Heap):Prop where
 kin:K.In base
 glob:base.Ns AL mg
 blt:∃mb,base.Ns builtinsNs mb/\∀x:Str,x ≠ "__name__" -> mb x=EK x
 nolimit:base.NoLimit
structure Cx where
 prog:AW
 w:BB
 K:AD
 mg:Str->Option An
 base:Heap
 A:Bi
 N:List Str
 s₀:AA
 H₀:Hp
 env:Env
 outer:List Env
 stack:List Env
 ex:List Addr
 fn:Str->Bool
 calm:Bool
 pn:List (Addr×Obj)
 xe:An->AA->Prop
noncomputable def frs (l:List Env):List Addr:=l.filterMap (·.frame)
noncomputable abbrev Cx.fs (X:Cx):List Addr:=frs X.outer
noncomputable def Vis (sc:Ff)(x:Str):Prop:=sc.names.lookup x=some .local\/sc.names.lookup x=some .cell\/sc.names.lookup x=some .free
noncomputable def Loc (sc:Ff)(x:Str):Prop:=sc.names.lookup x=some .local\/sc.names.lookup x=some .cell
noncomputable def Look (env:Env)(h:Heap)(m:Str->Option An)(x:Str)(u:An):Prop:=
 (env.kindOf x=some .local/\m x=some u)\/((env.kindOf x=some .cell\/env.kindOf x=some .free)/\∃c,env.cells.lookup x=some c/\h.IsCell c (some u))
structure Cx.Ok (X:Cx):Prop where
 mod:Mod X.K X.mg X.base
 kind:X.env.scope.kind=.function
 glob:X.env.globals=AL
 blt:X.env.builtins=builtinsNs
 above:X.s₀.heap.objs.size<=X.env.locals
 inj:∀x y c,X.env.cells.lookup x=some c->X.env.cells.lookup y=some c->x=y
 has:∀x,(X.env.kindOf x=some .cell\/X.env.kindOf x=some .free)->∃c,X.env.cells.lookup x=some c
 cab:∀x c,X.fn x=true->X.env.cells.lookup x=some c->X.s₀.heap.objs.size<=c
 hd:X.calm=true->X.A.handled=none
 frames:X.A.frames=some X.stack
 stk:X.stack=X.outer\/(X.stack=X.env::X.outer/\X.env.frame=some X.env.locals)
 exf:∀b∈X.ex,b≠X.env.locals/\∀x c,X.env.cells.lookup x=some c->c≠b
 bs:∀b o,X.base.get? b=some o->X.s₀.heap.get? b=some o/\X.H₀ b=none
 bsz:X.base.objs.size<=X.s₀.heap.objs.size
 noex:∀b o,X.base.get? b=some o->b∉X.ex
 exfs:∀b∈X.ex,b∉X.fs
 oN:X.s₀.heap.FunFrames X.base X.outer
 frf:∀b∈X.fs,X.H₀ b=none
structure Inv (X:Cx)(pins:List (Addr×Obj))(σ:List (Option V))(H:Hp)(s:AA):Prop where
 ok:X.Ok
 os:s.os=X.s₀.os
 bare:Go s.gens
 base:Un X.fs X.ex X.H₀ H X.s₀.heap s.heap
 loc:∃m,s.heap.Ns X.env.locals m/\∀(i:Nat)(x:Str)(v:V),X.N[i]?=some x->σ[i]?=some (some v)->Vis X.env.scope x->∃u,RelV v u/\Look X.env s.heap m x u
 cell:∀x c,X.env.cells.lookup x=some c->∃v,s.heap.IsCell c v
 free:H X.env.locals=none
 freeC:∀x c,X.env.cells.lookup x=some c->H c=none
 pin:∀p∈X.pn++pins,s.heap.get? p.1=some p.2/\H p.1=none/\p.1≠X.env.locals/\p.1∉X.fs/\∀v,p.2.data≠.cell v
 hok:HOk X.prog X.w H s.heap
 len:σ.length=X.N.length
section
variable {X:Cx}{pins:List (Addr×Obj)}{σ:List (Option V)}{H H':Hp}{s:AA}{h':Heap}
theorem Cx.Ok.acO (ok:X.Ok){b:Addr}{o:Obj}(e:X.base.get? b=some o):b∉X.fs:=fun hb=>by
 have:=(ok.oN.mem hb).1;rw[e] at this;cases this
theorem Inv.bs (I:Inv X pins σ H s):∀b o,X.base.get? b=some o->s.heap.get? b=some o/\H b=none:=fun b o e=>
 ⟨I.base.keep b o (I.ok.bs b o e).1 (I.ok.bs b o e).2 (I.ok.acO e) (I.ok.noex b o e),I.base.free b o (I.ok.bs b o e).1 (I.ok.bs b o e).2 (I.ok.noex b o e)⟩
theorem Inv.bk (I:Inv X pins σ H s):∀b o,X.base.get? b=some o->s.heap.get? b=some o:=fun b o e=>(I.bs b o e).1
theorem Inv.mod (I:Inv X pins σ H s):Mod X.K X.mg X.base:=I.ok.mod
theorem Inv.kIn (I:Inv X pins σ H s):X.K.In s.heap:=I.ok.mod.kin.keeps I.bk
theorem Inv.lt (I:Inv X pins σ H s):X.env.locals<s.heap.objs.size:=let ⟨_,hn,_⟩:=I.loc;hn.lt
theorem Inv.sz (I:Inv X pins σ H s):X.s₀.heap.objs.size<=s.heap.objs.size:=BQ I.ok.above (le_of_lt I.lt)
theorem Inv.aaR (I:Inv X pins σ H s){a:Addr}(h:s.heap.objs.size<=a):a∉X.fs:=fun hb=>by
 obtain⟨_,o,ho,_⟩:=I.ok.oN.mem hb;exact absurd (AX (A3 ho) (BQ I.sz h)) (CU _)
theorem Inv.cne (I:Inv X pins σ H s):∀x c,X.env.cells.lookup x=some c->c≠X.env.locals:=fun x c e z=>by
 obtain⟨v,o,ho,hd⟩:=I.cell x c e;obtain⟨m,⟨o',es,ep,ho',hd',_⟩,_⟩:=I.loc;rw[z,ho'] at ho;cases ho;rw[hd'] at hd;cases hd
theorem Inv.oN (I:Inv X pins σ H s):s.heap.FunFrames X.base X.outer:=by
 have all:∀(l:List Env),(∀b∈frs l,b∈X.fs)->X.s₀.heap.FunFrames X.base l->s.heap.FunFrames X.base l:=by
  intro l
  induction l with
  | nil=>intro _ _;trivial
  | cons env r ih=>
   intro hs hl;obtain⟨hk,⟨L,o,hf,hn,ho,hd⟩,hr⟩:=hl;have hL:L∈X.fs:=hs L (by unfold frs;rw[JO,hf];exact AM);obtain⟨sl,e⟩:=I.base.slot L o ho (I.ok.frf L hL) hL fun z=>I.ok.exfs L z hL;exact⟨hk,⟨L,_,hf,hn,e,hd⟩,ih (fun b hb=>hs b (by unfold frs;rw[JO,hf];exact AH _ hb)) hr⟩
 exact all X.outer (fun _ hb=>hb) I.ok.oN
theorem Inv.stack (I:Inv X pins σ H s):s.heap.FunFrames X.base X.stack:=by
 rcases I.ok.stk with e|⟨e,hf⟩
 ·rw[e];exact I.oN
 rw[e];obtain⟨m,hn,_⟩:=I.loc;refine .cons (by rw[I.ok.kind];decide) hf hn ?_ I.oN;exact Heap.get?_none_of_le (BQ I.ok.bsz I.ok.above)
theorem Inv.vQ (I:Inv X pins σ H s):∀b∈frs X.stack,b∈X.env.locals::X.fs:=fun b hb=>by
 rcases I.ok.stk with e|⟨e,hf⟩
 ·rw[e] at hb;exact AH _ hb
 rw[e] at hb;unfold frs at hb;rw[JO,hf] at hb;exact hb
theorem Inv.ur (I:Inv X pins σ H s):∀b∈frs X.stack,H b=none:=fun b hb=>by
 rcases AO.mp (I.vQ b hb) with e|hb
 ·rw[e];exact I.free
 obtain⟨_,o,ho,_⟩:=I.ok.oN.mem hb;exact I.base.free b o ho (I.ok.frf b hb) fun z=>I.ok.exfs b z hb
theorem Inv.step {g':Array Hn}{t':Nat}{d':Drawn}{ch:List Addr}(I:Inv X pins σ H s)
  (hch:∀b∈ch,(b∈X.ex\/X.s₀.heap.objs.size<=b)/\b≠X.env.locals/\(∀x c,X.env.cells.lookup x=some c->c≠b)/\∀p∈X.pn++pins,p.1≠b)
  (keep:∀b o,b≠X.env.locals->b∉X.fs->b∉ch->s.heap.get? b=some o->H b=none->h'.get? b=some o)
  (slot:∀b o,b≠X.env.locals->b∈X.fs->b∉ch->s.heap.get? b=some o->H b=none->∃sl,h'.get? b=some { o with slots:=sl }) (free:∀b o,b∉ch->s.heap.get? b=some o->H b=none->H' b=none)
  (there:∀b o,b∉ch->s.heap.get? b=some o->∃o',h'.get? b=some o')
  (tups:∀b xs,H b=some (.tup xs)->H' b=some (.tup xs)) (frzs:∀b o u,H b=some (.frz o u)->H' b=some (.frz o u)) (tbls:∀b ps,H b=some (.tbl ps)->∃more,H' b=some (.tbl (ps++more)))
  (ns:∀m,s.heap.Ns X.env.locals m->h'.Ns X.env.locals m) (hok:HOk X.prog X.w H' h') (hg:Go g') :
  Inv X pins σ H' { s with heap:=h',gens:=g',drawn:=d',toks:=t' }:=by
 have neL:∀b o,X.s₀.heap.get? b=some o->b≠X.env.locals:=fun b o e=>BO (AX (A3 e) I.ok.above);have neC:∀b o,X.s₀.heap.get? b=some o->b∉X.ex->b∉ch:=fun b o e hx hb=>by
  rcases(hch b hb).1 with z|z
  ·exact hx z
  exact absurd (AX (A3 e) z) (CU _)
 have cellK:∀x c,X.env.cells.lookup x=some c->∀v,s.heap.IsCell c v->h'.IsCell c v:=fun x c e v ⟨o,ho,hd⟩=>by
  have nch:c∉ch:=fun z=>(hch c z).2.2.1 x c e rfl;by_cases hc:c∈X.fs
  ·obtain⟨sl,q⟩:=slot c o (I.cne x c e) hc nch ho (I.freeC x c e);exact⟨_,q,hd⟩
  exact⟨o,keep c o (I.cne x c e) hc nch ho (I.freeC x c e),hd⟩
 refine⟨I.ok,I.os,hg,⟨fun b o e n hb hx=>?_,fun b o e n hb hx=>?_,fun b o e n hx=>?_,fun b o e hx=>?_,fun b xs e=>tups b xs (I.base.tups b xs e),fun b o xs e=>frzs b o xs (I.base.frzs b o xs e),fun b ps e=>?_⟩,?_,fun x c e=>?_,?_,fun x c e=>?_,fun p hp=>?_,hok,I.len⟩
 ·exact keep b o (neL b o e) hb (neC b o e hx) (I.base.keep b o e n hb hx) (I.base.free b o e n hx)
 ·obtain⟨sl,e1⟩:=I.base.slot b o e n hb hx;obtain⟨sl',e2⟩:=slot b _ (neL b o e) hb (neC b o e hx) e1 (I.base.free b o e n hx);exact⟨sl',e2⟩
 ·obtain⟨o',e1⟩:=I.base.there b o e hx;exact free b o' (neC b o e hx) e1 (I.base.free b o e n hx)
 ·obtain⟨o',e1⟩:=I.base.there b o e hx;exact there b o' (neC b o e hx) e1
 ·obtain⟨m1,e1⟩:=I.base.tbls b ps e;obtain⟨m2,e2⟩:=tbls b _ e1;exact⟨m1++m2,by rw[e2,Array.append_assoc]⟩
 ·obtain⟨m,hn,hl⟩:=I.loc;refine⟨m,ns m hn,fun i x v e1 e2 e3=>?_⟩;obtain⟨u,r,l⟩:=hl i x v e1 e2 e3;refine⟨u,r,?_⟩;rcases l with l|⟨k,c,e,z⟩
  ·exact .inl l
  exact .inr ⟨k,c,e,cellK x c e _ z⟩
 ·obtain⟨v,z⟩:=I.cell x c e;exact⟨v,cellK x c e v z⟩
 ·obtain⟨m,⟨o,_,_,ho,_⟩,_⟩:=I.loc;exact free _ o (fun z=>(hch _ z).2.1 rfl) ho I.free
 ·obtain⟨v,o,ho,hd⟩:=I.cell x c e;exact free c o (fun z=>(hch c z).2.2.1 x c e rfl) ho (I.freeC x c e)
 obtain⟨e,n,ne,nf,d⟩:=I.pin p hp;have nch:p.1∉ch:=fun z=>(hch p.1 z).2.2.2 p hp rfl;exact⟨keep p.1 p.2 ne nf nch e n,free p.1 p.2 nch e n,ne,nf,d⟩
theorem Inv.un {t':Nat}(I:Inv X pins σ H s)(u:Un X.fs [] H H' s.heap h')(hok:HOk X.prog X.w H' h'):Inv X pins σ H' { s with heap:=h',toks:=t' }:=by
 obtain⟨m,⟨o,es,ep,ho,r⟩,_⟩:=id I.loc;obtain⟨sl,hL⟩:=u.any ho I.free (by simp);exact I.step (g':=s.gens) (d':=s.drawn) (ch:=[]) (fun _ z=>nomatch z) (fun b o _ hb _ e n=>u.keep b o e n hb (by simp)) (fun b o _ hb _ e n=>u.slot b o e n hb (by simp)) (fun b o _ e n=>u.free b o e n (by simp)) (fun b o _ e=>u.there b o e (by simp)) u.tups u.frzs u.tbls (fun m' hm=>by
  obtain⟨o',es',ep',ho',r'⟩:=hm;rw[ho] at ho';cases ho';exact⟨_,es',ep',hL,r'⟩) hok I.bare
theorem Inv.call {g':Array Hn}{t':Nat}{d':Drawn}{ch:List Addr}(I:Inv X pins σ H s)(u:Un (frs X.stack) ch H H' s.heap h')(hok:HOk X.prog X.w H' h')(hg:Go g')
  (hch:∀b∈ch,(b∈X.ex\/X.s₀.heap.objs.size<=b)/\b≠X.env.locals/\(∀x c,X.env.cells.lookup x=some c->c≠b)/\∀p∈X.pn++pins,p.1≠b) :
  Inv X pins σ H' { s with heap:=h',gens:=g',drawn:=d',toks:=t' }:=by
 obtain⟨m,⟨o,es,ep,ho,r⟩,_⟩:=id I.loc;obtain⟨sl,hL⟩:=u.any ho I.free fun z=>(hch _ z).2.1 rfl;exact I.step (ch:=ch) hch (fun b o hL hb hc e n=>u.keep b o e n (fun z=>(AO.mp (I.vQ b z)).elim hL hb) hc) (fun b o _ _ hc e n=>u.any e n hc) (fun b o hc e n=>u.free b o e n hc) (fun b o hc e=>u.there b o e hc) u.tups u.frzs u.tbls (fun m' hm=>by
  obtain⟨o',es',ep',ho',r'⟩:=hm;rw[ho] at ho';cases ho';exact⟨_,es',ep',hL,r'⟩) hok hg
theorem Inv.turned {t':Nat}{it:Addr}(I:Inv X pins σ H s)(k:∀b o,b≠it->s.heap.get? b=some o->h'.get? b=some o)(hn:H it=none)(hL:it≠X.env.locals)
  (h1:it∈X.ex\/X.s₀.heap.objs.size<=it) (h2:∀x c,X.env.cells.lookup x=some c->c≠it) (h3:∀p∈X.pn++pins,p.1≠it):Inv X pins σ H { s with heap:=h',toks:=t' }:=by
 have nit:∀b u,H b=some u->b≠it:=fun b u e z=>by rw[z,hn] at e;cases e
 refine I.step (g':=s.gens) (d':=s.drawn) (ch:=[it]) (fun b hb=>?_) (fun b o _ _ hc e _=>k b o (fun z=>hc (by simp [z])) e) (fun b o _ _ hc e _=>⟨o.slots,k b o (fun z=>hc (by simp [z])) e⟩) (fun _ _ _ _ n=>n)
  (fun b o hc e=>⟨o,k b o (fun z=>hc (by simp [z])) e⟩) (fun _ _ e=>e) (fun _ _ _ e=>e) (fun b ps e=>⟨#[],by rw[e];simp⟩) (fun m hm=>?_) (fun b u e=>?_) I.bare
 ·have e:b=it:=by simpa using hb
  subst e;exact⟨h1,hL,h2,h3⟩
 ·obtain⟨o,es,ep,ho,r⟩:=hm;exact⟨o,es,ep,k _ o (Ch hL) ho,r⟩
 refine(I.hok b u e).stay (fun c v hc q=>k c v ?_ q) (fun _ q=>q) fun _ _ q=>q;rcases hc with z|z
 ·rw[z];exact nit b u e
 exact nit c _ z
theorem Inv.tok (I:Inv X pins σ H s)(t:Nat):Inv X pins σ H { s with toks:=t }:=I.un (h':=s.heap) (t':=t) Un.refl I.hok
theorem Inv.kept {t':Nat}(I:Inv X pins σ H s)(k:∀b u,s.heap.get? b=some u->h'.get? b=some u):Inv X pins σ H { s with heap:=h',toks:=t' }:=I.un (Un.kept k) (I.hok.kept k)
theorem Inv.laid {a:Addr}{o:HO}{t':Nat}(I:Inv X pins σ H s)(k:∀b u,s.heap.get? b=some u->h'.get? b=some u)(hp:s.heap.objs.size<=a)(new:d9 X.prog X.w (upd H a o) h' a o) :
  Inv X pins σ (upd H a o) { s with heap:=h',toks:=t' }:=I.un (Un.laid k hp (I.hok.fresh hp)) (I.hok.laid k hp new)
theorem Inv.write {x e:Addr}{o:HO}{t':Nat}(I:Inv X pins σ H s)(mu:Mut (H x))(he:e=x\/H e=some (.own x))(k:∀b u,b≠e->s.heap.get? b=some u->h'.get? b=some u)(heo:∃u,h'.get? e=some u)
  (new:d9 X.prog X.w (upd H x o) h' x o):Inv X pins σ (upd H x o) { s with heap:=h',toks:=t' }:=I.un (Un.write mu he k heo) (I.hok.write mu he k heo new)
theorem Inv.qP {pins':List (Addr×Obj)}(I:Inv X pins σ H s)(h:∀p∈pins',s.heap.get? p.1=some p.2/\H p.1=none/\p.1≠X.env.locals/\p.1∉X.fs/\∀v,p.2.data≠.cell v):Inv X pins' σ H s:=
 ⟨I.ok,I.os,I.bare,I.base,I.loc,I.cell,I.free,I.freeC,fun p hp=>(BC.mp hp).elim (fun z=>I.pin p (BG _ z)) (h p),I.hok,I.len⟩
theorem zE {N:List Str}(hN:N.Nodup){i j:Nat}{x:Str}(a:N[i]?=some x)(b:N[j]?=some x):i=j:=by
 obtain⟨h1,e1⟩:=AG.mp a;obtain⟨h2,e2⟩:=AG.mp b;exact(getElem_inj hN).mp (e1.trans e2.symm)
theorem Cr {M:Kk}{A:Bi}{E:An->AA->Prop}{i:Nat}{x:Str}{v:V}{u:An}{Q:Unit->AA->Prop}(I:Inv X pins σ H s)(hN:X.N.Nodup)(hi:X.N[i]?=some x)(hx:Loc X.env.scope x)(r:RelV v u)
  (h:∀s',Inv X pins (σ.set i (some v)) H s'->(∃a,C2 a s.heap s'.heap/\(a=X.env.locals\/X.env.cells.lookup x=some a))->Q () s') (hf:X.fn x=true\/X.env.scope.names.lookup x=some .local:=by first|exact .inl rfl|exact .inr rfl|assumption):AK M A (storeName X.env x u) Q E s:=by
 obtain⟨m,hn,hl⟩:=id I.loc;have hcls:(X.env.scope.kind == .class||(X.env.scope.kind == .module&&X.env.locals != X.env.globals))=false:=by rw[I.ok.kind];rfl
 have hiσ:i<σ.length:=by rw[I.len];exact(AG.mp hi).1
 have cne:=I.cne;have tracked:∀{a:Addr}{h':Heap},(∃o,s.heap.get? a=some o/\H a=none)->C2 a s.heap h'->HOk X.prog X.w H h':=fun {a h'} ha hs b ob e=>by
  obtain⟨_,_,hfree⟩:=ha;refine(I.hok b ob e).stay (fun c w' hc q=>(hs.2 c ?_).trans q) (fun _ q=>q) fun _ _ q=>q;rintro rfl;rcases hc with rfl|hc
  ·rw[hfree] at e;cases e
  rw[hfree] at hc;cases hc
 rcases hx with hk|hk
 ·refine wpAny_storeName_local hk hn (fun h' hn' hs=>?_) hcls;obtain⟨oL,_,_,hoL,_⟩:=id hn;refine h _ ⟨I.ok,I.os,I.bare,⟨fun b o e n hb hx=>?_,fun b o e n hb hx=>?_,I.base.free,fun b o e hx=>?_,I.base.tups,I.base.frzs,I.base.tbls⟩,⟨_,hn',fun j y v' e1 e2 e3=>?_⟩,fun y c e=>?_,I.free,I.freeC,fun p hp=>?_,tracked ⟨oL,hoL,I.free⟩ hs,by simpa using I.len⟩ ⟨_,hs,.inl rfl⟩
  ·exact(hs.2 b (BO (AX (A3 e) I.ok.above))).trans (I.base.keep b o e n hb hx)
  ·obtain⟨sl,e1⟩:=I.base.slot b o e n hb hx;exact⟨sl,(hs.2 b (BO (AX (A3 e) I.ok.above))).trans e1⟩
  ·obtain⟨o',e1⟩:=I.base.there b o e hx;exact⟨o',(hs.2 b (BO (AX (A3 e) I.ok.above))).trans e1⟩
  ·by_cases hj:j=i
   ·subst hj;rw[hi] at e1;cases e1;rw[FA hiσ] at e2;cases e2;exact⟨u,r,.inl ⟨hk,by simp⟩⟩
   rw[Iq (Ch hj)] at e2;obtain⟨u',r',q⟩:=hl j y v' e1 e2 e3;refine⟨u',r',?_⟩;rcases q with⟨k,e⟩|⟨k,c,e,z⟩
   ·refine .inl ⟨k,?_⟩;have:y≠x:=fun e=>hj (zE hN e1 (e ▸ hi));simp [this,e]
   exact .inr ⟨k,c,e,z.sameBut hs (cne y c e)⟩
  ·obtain⟨w',z⟩:=I.cell y c e;exact⟨w',z.sameBut hs (cne y c e)⟩
  obtain⟨e,n,ne,nf,d⟩:=I.pin p hp;exact⟨(hs.2 p.1 ne).trans e,n,ne,nf,d⟩
 have hfn:X.fn x=true:=by
  rcases hf with z|z
  ·exact z
  rw[z] at hk;cases hk
 obtain⟨c,hc⟩:=I.ok.has x (.inl hk);obtain⟨w',z⟩:=I.cell x c hc;refine wpAny_storeName_cell I.ok.kind hk hc z (fun h' hc' hs=>?_);obtain⟨oc,hoc,hocd⟩:=id z;refine h { s with heap:=h' } ⟨I.ok,I.os,I.bare,⟨fun b o e n hb hx=>?_,fun b o e n hb hx=>?_,I.base.free,fun b o e hx=>?_,I.base.tups,I.base.frzs,I.base.tbls⟩,⟨m,hn.sameBut hs (Ch (cne x c hc)),fun j y v' e1 e2 e3=>?_⟩,fun y c' e=>?_,I.free,I.freeC,fun p hp=>?_,tracked ⟨oc,hoc,I.freeC x c hc⟩ hs,by simpa using I.len⟩ ⟨c,hs,.inr hc⟩
 ·exact(hs.2 b (BO (AX (A3 e) (I.ok.cab x c hfn hc)))).trans (I.base.keep b o e n hb hx)
 ·obtain⟨sl,e1⟩:=I.base.slot b o e n hb hx;exact⟨sl,(hs.2 b (BO (AX (A3 e) (I.ok.cab x c hfn hc)))).trans e1⟩
 ·obtain⟨o',e1⟩:=I.base.there b o e hx;exact⟨o',(hs.2 b (BO (AX (A3 e) (I.ok.cab x c hfn hc)))).trans e1⟩
 ·by_cases hj:j=i
  ·subst hj;rw[hi] at e1;cases e1;rw[FA hiσ] at e2;cases e2;exact⟨u,r,.inr ⟨.inl hk,c,hc,hc'⟩⟩
  rw[Iq (Ch hj)] at e2;obtain⟨u',r',q⟩:=hl j y v' e1 e2 e3;refine⟨u',r',?_⟩;rcases q with q|⟨k,c',e,z'⟩
  ·exact .inl q
  refine .inr ⟨k,c',e,z'.sameBut hs ?_⟩;rintro rfl;exact hj (zE hN e1 (I.ok.inj _ _ _ e hc ▸ hi))
 ·by_cases hcc:c'=c
  ·subst hcc;exact⟨_,hc'⟩
  obtain⟨w2,z2⟩:=I.cell y c' e;exact⟨w2,z2.sameBut hs hcc⟩
 obtain⟨e,n,ne,nf,d⟩:=I.pin p hp;refine⟨(hs.2 p.1 ?_).trans e,n,ne,nf,d⟩;intro q;rw[q,hoc] at e;have q':oc=p.2:=AV e;exact d w' (by rw[<- q'];exact hocd)
theorem mR {M:Kk}{A:Bi}{E:An->AA->Prop}{i:Nat}{x:Str}{v:V}{u:An}{Q:Unit->AA->Prop}(I:Inv X pins σ H s)(hN:X.N.Nodup)(hi:X.N[i]?=some x)(hx:Loc X.env.scope x)(r:RelV v u)
  (h:∀s',Inv X pins (σ.set i (some v)) H s'->Q () s') (hf:X.fn x=true\/X.env.scope.names.lookup x=some .local:=by first|exact .inl rfl|exact .inr rfl|assumption):AK M A (storeName X.env x u) Q E s:=
 Cr I hN hi hx r (fun s' I' _=>h s' I') hf
theorem Inv.call' {s':AA}{ch:List Addr}(I:Inv X pins σ H s)(ho:s'.os=s.os)(u:Un (frs X.stack) ch H H' s.heap s'.heap)(hok:HOk X.prog X.w H' s'.heap)(hg:Go s'.gens)
  (hch:∀b∈ch,(b∈X.ex\/X.s₀.heap.objs.size<=b)/\b≠X.env.locals/\(∀x c,X.env.cells.lookup x=some c->c≠b)/\∀p∈X.pn++pins,p.1≠b):Inv X pins σ H' s':=by
 obtain⟨h',g',d',t',o'⟩:=s';have e:o'=s.os:=ho;subst e;exact I.call (g':=g') (t':=t') (d':=d') u hok hg hch
end
noncomputable abbrev XK:=An->Option Addr->Hp->Prop
noncomputable abbrev St:=List (Option V)
noncomputable abbrev VK:=V->Hp->Prop
noncomputable abbrev TE:=St->Hp->VK->Prop
noncomputable abbrev TT:=St->Hp->(Bool->Hp->Prop)->Prop
noncomputable abbrev TA:=St->Hp->(List V->Hp->Prop)->Prop
structure Ends where
 nx:St->Hp->Prop
 rt:VK
 bk:St->Hp->Prop:=fun _ _=>False
 ct:St->Hp->Prop:=fun _ _=>False
noncomputable abbrev TS:=Ends->St->Hp->Prop
noncomputable def EP (X:Cx)(pins:List (Addr×Obj))(σ:St)(Q:VK)(u:An)(s':AA):Prop:=∃v H',Inv X pins σ H' s'/\RelV v u/\Q v H'
noncomputable def TP (X:Cx)(pins:List (Addr×Obj))(σ:St)(Q:Bool->Hp->Prop)(b:Bool)(s':AA):Prop:=∃H',Inv X pins σ H' s'/\Q b H'
noncomputable def AP (X:Cx)(pins:List (Addr×Obj))(σ:St)(Q:List V->Hp->Prop)(us:List An)(s':AA):Prop:=∃vs H',Inv X pins σ H' s'/\Vals vs us/\Q vs H'
noncomputable def SP (X:Cx)(pins:List (Addr×Obj))(D:Ends)(f:Flow)(s':AA):Prop:=
 match f with
 | .next=>∃σ' H',Inv X pins σ' H' s'/\D.nx σ' H'
 | .brk=>∃σ' H',Inv X pins σ' H' s'/\D.bk σ' H'
 | .cont=>∃σ' H',Inv X pins σ' H' s'/\D.ct σ' H'
 | .ret u=>∃v σ' H',Inv X pins σ' H' s'/\RelV v u/\D.rt v H'
noncomputable def PE (X:Cx)(e:Expr)(t:TE):Prop:=
 ∀(pins:List (Addr×Obj)) (s:AA) (σ:St) (H:Hp) (Q:VK),Inv X pins σ H s->t σ H Q->AK (AN X.prog X.w) X.A (eval e X.env) (EP X pins σ Q) X.xe s
noncomputable def PT (X:Cx)(e:Expr)(t:TT):Prop:=
 ∀(pins:List (Addr×Obj)) (s:AA) (σ:St) (H:Hp) (Q:Bool->Hp->Prop),Inv X pins σ H s->t σ H Q->AK (AN X.prog X.w) X.A (isTrue e X.env (eval e X.env)) (TP X pins σ Q) X.xe s
noncomputable def PW (X:Cx)(e:Expr)(t:TT):Prop:=
 ∀(whole:Sem An)(pins:List (Addr×Obj)) (s:AA) (σ:St) (H:Hp) (Q:Bool->Hp->Prop),Inv X pins σ H s->t σ H Q->AK (AN X.prog X.w) X.A (isTrue e X.env whole) (TP X pins σ Q) X.xe s
theorem PW.pt {X:Cx}{e:Expr}{t:TT}(h:PW X e t):PT X e t:=h _
noncomputable def PA (X:Cx)(es:List Expr)(t:TA):Prop:=
 ∀(pos:Pos)(pins:List (Addr×Obj)) (s:AA) (σ:St) (H:Hp) (Q:List V->Hp->Prop),Inv X pins σ H s->t σ H Q->AK (AN X.prog X.w) X.A (spliced (CA pos (AJ es X.env))) (AP X pins σ Q) X.xe s
noncomputable def PS (X:Cx)(st:Stmt)(t:TS):Prop:=
 ∀(pins:List (Addr×Obj)) (s:AA) (σ:St) (H:Hp) (D:Ends),Inv X pins σ H s->t D σ H->AK (AN X.prog X.w) X.A (exec st X.env) (SP X pins D) X.xe s
noncomputable def PSs (X:Cx)(st:List Stmt)(t:TS):Prop:=
 ∀(pins:List (Addr×Obj)) (s:AA) (σ:St) (H:Hp) (D:Ends),Inv X pins σ H s->t D σ H->AK (AN X.prog X.w) X.A (execs st X.env) (SP X pins D) X.xe s
theorem thn {α:Type}{t:Sem α}{Q Q':α->AA->Prop}{M:Kk}{A:Bi}{E:An->AA->Prop}{s:AA}(h:AK M A t Q E s)(hQ:∀a s,Q a s->Q' a s):AK M A t Q' E s:=B5 h hQ fun _ _ x=>x
theorem thE {t:Sem An}{X:Cx}{pins:List (Addr×Obj)}{σ:St}{Q:VK}{Q':An->AA->Prop}{M:Kk}{A:Bi}{E:An->AA->Prop}{s:AA}(h:AK M A t (EP X pins σ Q) E s)(hQ:∀u s x H,Inv X pins σ H s->RelV x u->Q x H->Q' u s):AK M A t Q' E s:=thn h fun u s z=>by
 obtain⟨x,H,I,r,q⟩:=z;exact hQ u s x H I r q
theorem thA {t:Sem (List An)}{X:Cx}{pins:List (Addr×Obj)}{σ:St}{Q:List V->Hp->Prop}{Q':List An->AA->Prop}{M:Kk}{A:Bi}{E:An->AA->Prop}{s:AA}(h:AK M A t (AP X pins σ Q) E s)(hQ:∀u s x H,Inv X pins σ H s->Vals x u->Q x H->Q' u s):AK M A t Q' E s:=thn h fun u s z=>by
 obtain⟨x,H,I,r,q⟩:=z;exact hQ u s x H I r q
theorem thT {t:Sem Bool}{X:Cx}{pins:List (Addr×Obj)}{σ:St}{Q:Bool->Hp->Prop}{Q':Bool->AA->Prop}{M:Kk}{A:Bi}{E:An->AA->Prop}{s:AA}(h:AK M A t (TP X pins σ Q) E s)(hQ:∀u s H,Inv X pins σ H s->Q u H->Q' u s):AK M A t Q' E s:=thn h fun u s z=>by
 obtain⟨H,I,q⟩:=z;exact hQ u s H I q
section
variable {X:Cx}
noncomputable def Eh (i:Nat):TE:=fun σ H Q=>∃v,σ[i]?=some (some v)/\Q v H
noncomputable def tC (v:V):TE:=fun _ H Q=>Q v H
theorem Tp {i:Nat}{x:Str}{pos:Pos}(hN:X.N[i]?=some x) (hv:Vis X.env.scope x) (hd:(x == ("__debug__" : Str))=false:=by decide) (hcd:(x == ("__classdict__" : Str))=false:=by decide):PE X (.Name x pos) (Eh i):=by
 intro pins s σ H Q I h;obtain⟨v,e,h⟩:=h;obtain⟨m,hn,hl⟩:=I.loc;obtain⟨u,r,l⟩:=hl i x v hN e hv;have fin:EP X pins σ Q u s:=⟨v,H,I,r,h⟩;rcases l with⟨hk,hm⟩|⟨hk,c,hc,hcell⟩
 ·exact wpAny_Name (wpAny_loadName_local I.ok.kind hk hn hm fin) hd
 rcases hk with hk|hk
 ·exact wpAny_Name (wpAny_loadName_cell I.ok.kind hk hc hcell fin) hd
 exact wpAny_Name (wpAny_loadName_free I.ok.kind hk hc hcell fin hcd) hd
theorem aaA {i j pos}:PE X (.Constant (.int i) j pos) (tC (.int i)):=fun _ _ _ H _ I h=>wpAny_Constant_int ⟨.int i,H,I.tok _,⟨_,rfl⟩,h⟩
theorem ab1 {b j pos}:PE X (.Constant (.bool b) j pos) (tC (.bl b)):=fun _ _ _ H _ I h=>Constant_bool ⟨.bl b,H,I,rfl,h⟩
theorem aay {j pos}:PE X (.Constant .none j pos) (tC .non):=fun _ _ _ H _ I h=>Constant_none ⟨.non,H,I,rfl,h⟩
theorem aax {x j pos}:PE X (.Constant (.str x) j pos) (tC (.str x)):=fun _ _ _ H _ I h=>Calls.Constant_str ⟨.str x,H,I.tok _,⟨_,rfl⟩,h⟩
noncomputable def Gl (X:Cx)(x:Str):Prop:=X.env.kindOf x=some .globalImplicit
theorem Fq {E:An->AA->Prop}{pins:List (Addr×Obj)}{s:AA}{σ:St}{H:Hp}{x:Str}{u:An}{pos:Pos}{Q:An->AA->Prop}(I:Inv X pins σ H s)(hg:Gl X x)(hm:X.mg x=some u)(h:Q u s)
  (hd:(x == ("__debug__" : Str))=false:=by decide):AK (AN X.prog X.w) X.A (eval (.Name x pos) X.env) Q E s:=
 GI I.ok.kind hg (Calls.loadGlobal_global (by rw[I.ok.glob];exact I.mod.glob.keeps I.bk) hm h) hd
theorem mH {E:An->AA->Prop}{pins:List (Addr×Obj)}{s:AA}{σ:St}{H:Hp}{x:Str}{u:An}{pos:Pos}{Q:An->AA->Prop}(I:Inv X pins σ H s)(hg:Gl X x)(hm:X.mg x=none)(hv:EK x=some u)(h:Q u s)
  (hn:x ≠ "__name__" := by decide) (hd:(x == ("__debug__" : Str))=false:=by decide):AK (AN X.prog X.w) X.A (eval (.Name x pos) X.env) Q E s:=by
 obtain⟨mb,h1,h2⟩:=I.mod.blt;exact GI I.ok.kind hg (Calls.loadGlobal_builtin (by rw[I.ok.glob];exact I.mod.glob.keeps I.bk) hm (by rw[I.ok.blt];exact h1.keeps I.bk) ((h2 x hn).trans hv) h) hd
variable {a b:Expr}{ta tb:TE}{pos:Pos}
noncomputable def PC (X:Cx)(op:IG)(a b:Expr)(t:TE):Prop:=
 ∀(pins:List (Addr×Obj)) (s:AA) (σ:St) (H:Hp) (Q:VK),Inv X pins σ H s->t σ H Q ->
  AK (AN X.prog X.w) X.A (eval a X.env) (fun v s₁=>AK (AN X.prog X.w) X.A (eval b X.env) (fun u s₂=>AK (AN X.prog X.w) X.A (B0 op v u) (EP X pins σ Q) X.xe s₂) X.xe s₁) X.xe s
noncomputable def tB (t:TE):TT:=fun σ H Q=>t σ H fun x H1=>∃c,x=.bl c/\Q c H1
theorem aai {op:IG}{t:TE}(h:PC X op a b t)(h1:ET op b=false:=by first|exact nobehind _ δ δ|rfl):PT X (.Compare a [op] [b] pos) (tB t):=by
 intro pins s σ H Q I hw;refine wpAny_isTrue_Compare1 (thn (h pins s σ H _ I hw) fun v s1 h1=>thn h1 fun u s2 h2=>thE h2 fun c s3 x H1 I1 r1 q1=>?_) h1;obtain⟨d,rfl,q⟩:=q1;cases r1;exact C9 ⟨H1,I1,q⟩
theorem aaf {e:Expr}{t:TE}(h:PE X e t)(he:∀whole,isTrue e X.env whole=(do let v <- whole;GA e.pos;EB [v] (truthy v)):=by intro _;rfl):PT X e (tB t):=by
 intro pins s σ H Q I hw;refine isTrue_plain (thE (h pins s σ H _ I hw) fun v s1 x H1 I1 r1 q1=>?_) (he _);obtain⟨d,rfl,q⟩:=q1;cases r1;exact C9 ⟨H1,I1,q⟩
variable {tA tB':TT}{rest:List Expr}
noncomputable def Wn (t u:TT):TT:=fun σ H Q=>t σ H fun c H1=>if c=true then u σ H1 Q else Q false H1
noncomputable def tOr (t u:TT):TT:=fun σ H Q=>t σ H fun c H1=>if c=true then Q true H1 else u σ H1 Q
noncomputable def Wl (t:TT):TT:=fun σ H Q=>t σ H fun c H1=>Q (!c) H1
theorem Xc (ha:PT X a tA):PW X (.BoolOp .And [a] pos) tA:=by
 intro wh pins s σ H Q I h;refine isTrue_and (thn (ha pins s σ H Q I h) fun c s1 e=>?_);cases c with
 | true=>exact isTrue_and_nil e
 | false=>exact e
theorem aad (ha:PT X a tA):PW X (.BoolOp .Or [a] pos) tA:=by
 intro wh pins s σ H Q I h;refine isTrue_or (thn (ha pins s σ H Q I h) fun c s1 e=>?_);cases c with
 | false=>exact isTrue_or_nil e
 | true=>exact e
theorem aae (ha:PT X a tA)(hb:PW X (.BoolOp .And (b::rest) pos) tB'):PW X (.BoolOp .And (a::b::rest) pos) (Wn tA tB'):=by
 intro wh pins s σ H Q I h;refine isTrue_and (thT (ha pins s σ H _ I h) fun c s1 H1 I1 q1=>?_);cases c with
 | true=>exact hb wh pins s1 σ H1 Q I1 q1
 | false=>exact⟨H1,I1,q1⟩
theorem abQ (ha:PT X a tA)(hb:PW X (.BoolOp .Or (b::rest) pos) tB'):PW X (.BoolOp .Or (a::b::rest) pos) (tOr tA tB'):=by
 intro wh pins s σ H Q I h;refine isTrue_or (thT (ha pins s σ H _ I h) fun c s1 H1 I1 q1=>?_);cases c with
 | true=>exact⟨H1,I1,q1⟩
 | false=>exact hb wh pins s1 σ H1 Q I1 q1
theorem aah (ha:PT X a tA):PT X (.UnaryOp .Not a pos) (Wl tA):=by
 intro pins s σ H Q I h;exact isTrue_not (ha pins s σ H (fun c H1=>Q (!c) H1) I h)
noncomputable def tIf (t:TT)(ta tb:TE):TE:=fun σ H Q=>t σ H fun c H1=>if c=true then ta σ H1 Q else tb σ H1 Q
theorem Tv {c:Expr}(hc:PT X c tA)(ha:PE X a ta)(hb:PE X b tb):PE X (.IfExp c a b pos) (tIf tA ta tb):=by
 intro pins s σ H Q I h;refine wpAny_IfExp (thT (hc pins s σ H _ I h) fun d s1 H1 I1 q1=>?_);cases d with
 | true=>exact ha pins s1 σ H1 Q I1 q1
 | false=>exact hb pins s1 σ H1 Q I1 q1
end
noncomputable def SqL (K:AD)(H:Hp)(a:Addr)(xs:List V):Prop:=
 Rd H a (.lst xs) \/
  ∃(o:Obj)(its:Array An)(n:Nat),K.lookup a=some o/\o.cls=.type "list" /\ o.dict=none/\o.data=.seq its n/\its.size<=AQ/\Vals xs its.toList
noncomputable def SqT (K:AD)(H:Hp)(a:Addr)(xs:List V):Prop:=
 Rd H a (.tup xs) \/
  ∃(o:Obj)(its:Array An)(n:Nat),K.lookup a=some o/\o.cls=.type "tuple" /\ o.data=.seq its n/\its.size<=AQ/\Vals xs its.toList
noncomputable def acX:An->Option V
 | .none=>some .non
 | .bool b=>some (.bl b)
 | .int i _=>some (.int i)
 | .str x _=>some (.str x)
 | .bytes b _=>some (.byt b)
 | .float b _=>some (.flt b)
 | .ref a=>some (.ref a)
 | .type n=>some (.ty n)
 | _=>none
theorem RelV.abs {x:V}{u:An}(r:RelV x u):acX u=some x:=by
 cases x with
 | non=>cases r;rfl
 | bl _=>cases r;rfl
 | int _=>obtain⟨t,rfl⟩:=r;rfl
 | str _=>obtain⟨t,rfl⟩:=r;rfl
 | byt _=>obtain⟨t,rfl⟩:=r;rfl
 | flt _=>obtain⟨t,rfl⟩:=r;rfl
 | ref _=>cases r;rfl
 | ty _=>cases r;rfl
theorem RelV.inj {x y:V}{u:An}(r:RelV x u)(q:RelV y u):x=y:=AV (r.abs.symm.trans q.abs)
theorem Vals.inj:∀{xs ys:List V}{us:List An},Vals xs us->Vals ys us->xs=ys
 | _,_,_,.nil,.nil=>rfl
 | _,_,_,.cons r t,.cons r' t'=>by rw[r.inj r',Vals.inj t t']
section
variable {X:Cx}{pins:List (Addr×Obj)}{σ:St}{H:Hp}{s:AA}{a:Addr}{xs ys:List V}
theorem SqL.of {K:AD}(h:H a=some (.lst xs)):SqL K H a xs:=.inl (.inl h)
theorem SqT.of {K:AD}(h:H a=some (.tup xs)):SqT K H a xs:=.inl (.inl h)
theorem Inv.list (I:Inv X pins σ H s)(h:SqL X.K H a xs):∃its:List An,Vals xs its/\PlainL s.heap a its.toArray/\xs.length<=AQ:=by
 rcases h with h|⟨o,its,n,hk,hc,hd,hs,hz,r⟩
 ·obtain⟨z,its,n,r,e⟩:=h.ok I.hok;exact⟨its,r,⟨_,n,e,rfl,rfl,rfl⟩,z⟩
 refine⟨its.toList,r,⟨o,n,I.kIn a o hk,hc,hd,by simpa using hs⟩,?_⟩;have e:=r.length;simp only[Kn] at e;omega
theorem Inv.tuple (I:Inv X pins σ H s)(h:SqT X.K H a xs):∃its:List An,Vals xs its/\IsTup s.heap a its.toArray/\xs.length<=AQ:=by
 rcases h with h|⟨o,its,n,hk,hc,hs,hz,r⟩
 ·obtain⟨z,its,r,p⟩:=h.ok I.hok;exact⟨its,r,p,z⟩
 refine⟨its.toList,r,⟨o,I.kIn a o hk,hc,n,by simpa using hs⟩,?_⟩;have e:=r.length;simp only[Kn] at e;omega
theorem Inv.qu (I:Inv X pins σ H s)(h:SqL X.K H a xs)(h':SqL X.K H a ys):xs=ys:=by
 obtain⟨its,r,⟨o,n,e,_,_,d⟩,_⟩:=I.list h;obtain⟨its',r',⟨o',n',e',_,_,d'⟩,_⟩:=I.list h';rw[e] at e';cases e';rw[d] at d';injection d' with d1 _;have:its=its':=by simpa using congrArg Array.toList d1
 subst this;exact r.inj r'
theorem Inv.Cj (I:Inv X pins σ H s)(h:SqT X.K H a xs)(h':SqT X.K H a ys):xs=ys:=by
 obtain⟨its,r,⟨o,e,_,n,d⟩,_⟩:=I.tuple h;obtain⟨its',r',⟨o',e',_,n',d'⟩,_⟩:=I.tuple h';rw[e] at e';cases e';rw[d] at d';injection d' with d1 _;have:its=its':=by simpa using congrArg Array.toList d1
 subst this;exact r.inj r'
end
noncomputable abbrev Cx.wish (X:Cx)(E:An->AA->Prop):Cx:={ X with xe:=E }
noncomputable abbrev Cx.nox (X:Cx):Cx:=X.wish fun _ _=>False
theorem Cx.Ok.wish {X:Cx}(ok:X.Ok)(E:An->AA->Prop):(X.wish E).Ok:=
 ⟨ok.mod,ok.kind,ok.glob,ok.blt,ok.above,ok.inj,ok.has,ok.cab,ok.hd,ok.frames,ok.stk,ok.exf,ok.bs,ok.bsz,ok.noex,ok.exfs,ok.oN,ok.frf⟩
theorem Cx.Ok.pC {X:Cx}{E:An->AA->Prop}(ok:(X.wish E).Ok):X.Ok:=
 ⟨ok.mod,ok.kind,ok.glob,ok.blt,ok.above,ok.inj,ok.has,ok.cab,ok.hd,ok.frames,ok.stk,ok.exf,ok.bs,ok.bsz,ok.noex,ok.exfs,ok.oN,ok.frf⟩
section
variable {X:Cx}{pins:List (Addr×Obj)}{σ:St}{H:Hp}{s:AA}{E:An->AA->Prop}
theorem Inv.wish (I:Inv X pins σ H s)(E:An->AA->Prop):Inv (X.wish E) pins σ H s:=⟨I.ok.wish E,I.os,I.bare,I.base,I.loc,I.cell,I.free,I.freeC,I.pin,I.hok,I.len⟩
theorem Inv.pC (I:Inv (X.wish E) pins σ H s):Inv X pins σ H s:=⟨I.ok.pC,I.os,I.bare,I.base,I.loc,I.cell,I.free,I.freeC,I.pin,I.hok,I.len⟩
theorem SP.pC {D:Ends}{f:Flow}{s':AA}(h:SP (X.wish E) pins D f s'):SP X pins D f s':=by
 cases f with
 | next=>obtain⟨σ',H',I,q⟩:=h;exact⟨σ',H',I.pC,q⟩
 | brk=>obtain⟨σ',H',I,q⟩:=h;exact⟨σ',H',I.pC,q⟩
 | cont=>obtain⟨σ',H',I,q⟩:=h;exact⟨σ',H',I.pC,q⟩
 | ret u=>obtain⟨v,σ',H',I,r,q⟩:=h;exact⟨v,σ',H',I.pC,r,q⟩
theorem PSs.nox {st:List Stmt}{t:TS}(h:PSs X.nox st t):PSs X st t:=fun pins s σ H D I hw=>
 B5 (h pins s σ H D (I.wish _) hw) (fun _ _ q=>q.pC) fun _ _ z=>DJ z
end
section
variable {X:Cx}{st:Stmt}{rest:List Stmt}{t u:TS}{e:Expr}{te:TE}{pos:Pos}
noncomputable def Gp:TS:=fun D σ H=>D.nx σ H
noncomputable def Nz (t u:TS):TS:=fun D σ H=>t { D with nx:=u D } σ H
theorem Xh:PSs X [] Gp:=fun _ _ σ H _ I h=>Ix ⟨σ,H,I,h⟩
theorem S9 (h1:PS X st t)(h2:PSs X rest u):PSs X (st::rest) (Nz t u):=by
 intro pins s σ H D I h;refine wpAny_execs_cons (thn (h1 pins s σ H { D with nx:=u D } I h) fun f s1 q=>?_);cases f with
 | next=>
  obtain⟨σ',H',I',q⟩:=q;exact h2 pins s1 σ' H' D I' q
 | ret v=>exact q
 | brk=>exact q
 | cont=>exact q
theorem Xg (h1:PS X st t):PSs X [st] t:=by
 intro pins s σ H D I h;refine wpAny_execs_cons (thn (h1 pins s σ H D I h) fun f s1 q=>?_);cases f with
 | next=>exact Ix q
 | ret v=>exact q
 | brk=>exact q
 | cont=>exact q
theorem Inv.quiet {pins:List (Addr×Obj)}{σ:St}{H:Hp}{s:AA}(I:Inv X pins σ H s):interactive X.env=false:=by simp [interactive,I.ok.kind]
noncomputable def Ri (te:TE):TS:=fun D σ H=>te σ H fun _ H1=>D.nx σ H1
theorem Xl (he:PE X e te)(hs:FO e none pos.line X.env=pure false:=by rfl):PS X (.Expr e pos) (Ri te):=by
 intro pins s σ H D I h;exact wpAny_Expr_any (thE (he pins s σ H _ I h) fun v s1 x H1 I1 r1 q1=>⟨σ,H1,I1,q1⟩) I.quiet hs
noncomputable def Q9 (te:TE):TS:=fun D σ H=>te σ H D.rt
theorem aak (he:PE X e te):PS X (.Return (some e) pos) (Q9 te):=by
 intro pins s σ H D I h;exact wpAny_Return_some (thE (he pins s σ H _ I h) fun v s1 x H1 I1 r1 q1=>⟨x,σ,H1,I1,r1,q1⟩)
noncomputable def NP (c:TT)(t u:TS):TS:=fun D σ H=>c σ H fun b H1=>if b=true then t D σ H1 else u D σ H1
theorem abS {c:Expr}{a b:List Stmt}{tc:TT}(hc:PT X c tc)(ha:PSs X a t)(hb:PSs X b u):PS X (.If c a b pos) (NP tc t u):=by
 intro pins s σ H D I h;refine wpAny_If (thT (hc pins s σ H _ I h) fun d s1 H1 I1 q1=>?_);cases d with
 | true=>exact ha pins s1 σ H1 D I1 q1
 | false=>exact hb pins s1 σ H1 D I1 q1
end
noncomputable abbrev TG:=V->St->Hp->(St->Hp->Prop)->Prop
noncomputable abbrev TGs:=List V->St->Hp->(St->Hp->Prop)->Prop
noncomputable def PG (X:Cx)(target:Expr)(t:TG):Prop:=
 ∀(pins:List (Addr×Obj)) (s:AA) (σ:St) (H:Hp) (v:V) (u:An) (Q:St->Hp->Prop),Inv X pins σ H s->RelV v u->t v σ H Q ->
  AK (AN X.prog X.w) X.A (FR target X.env u) (fun _ s'=>∃σ' H',Inv X pins σ' H' s'/\Q σ' H') X.xe s
noncomputable def PGs (X:Cx)(ts:List Expr)(t:TGs):Prop:=
 ∀(pins:List (Addr×Obj)) (s:AA) (σ:St) (H:Hp) (vs:List V) (us:List An) (Q:St->Hp->Prop),Inv X pins σ H s->Vals vs us->t vs σ H Q ->
  AK (AN X.prog X.w) X.A (assignInOrder ((DA ts X.env).map (·.2)) us) (fun _ s'=>∃σ' H',Inv X pins σ' H' s'/\Q σ' H') X.xe s
noncomputable abbrev Qw:=V->V->V->Hp->(Hp->Prop)->Prop
noncomputable def Qx (X:Cx)(t:Qw):Prop:=
 ∀(pins:List (Addr×Obj)) (s:AA) (σ:St) (H:Hp) (o i v:V) (ov iv u:An) (Q:Hp->Prop),Inv X pins σ H s->RelV o ov->RelV i iv->RelV v u->t o i v H Q ->
  AK (AN X.prog X.w) X.A (setItem ov iv u) (fun _ s'=>∃H',Inv X pins σ H' s'/\Q H') X.xe s
noncomputable abbrev TIp:=V->V->Hp->VK->Prop
noncomputable def PIp (X:Cx)(op:Operator)(t:TIp):Prop:=
 ∀(pins:List (Addr×Obj)) (s:AA) (σ:St) (H:Hp) (x y:V) (v u:An) (Q:VK),Inv X pins σ H s->RelV x v->RelV y u->t x y H Q ->
  AK (AN X.prog X.w) X.A (inplaceOp op v u) (EP X pins σ Q) X.xe s
section
variable {X:Cx}{pos:Pos}
noncomputable def lE (i:Nat):TG:=fun v σ H Q=>Q (σ.set i (some v)) H
theorem LR {i:Nat}{x:Str}(hN:X.N.Nodup)(hi:X.N[i]?=some x)(hx:Loc X.env.scope x)(hf:X.fn x=true\/X.env.scope.names.lookup x=some .local:=by first|exact .inl rfl|exact .inr rfl|assumption):PG X (.Name x pos) (lE i):=by
 intro pins s σ H v u Q I r h;exact wpAny_assign_Name (mR I hN hi hx r (fun s' I'=>⟨_,H,I',h⟩) hf)
noncomputable def YD:TGs:=fun vs σ H Q=>vs=[]/\Q σ H
noncomputable def HN (t:TG)(u:TGs):TGs:=fun vs σ H Q=>∃v r,vs=v::r/\t v σ H fun σ' H'=>u r σ' H' Q
theorem Xy:PGs X [] YD:=by
 intro pins s σ H vs us Q I r h;obtain⟨e,h⟩:=h;subst e;cases r;exact assignInOrder_nil ⟨σ,H,I,h⟩
theorem Tj {e:Expr}{es:List Expr}{t:TG}{u:TGs}(h1:PG X e t)(h2:PGs X es u)
  (hs:(DA (e::es) X.env).map (·.2)=FR e X.env::(DA es X.env).map (·.2):=by rfl):PGs X (e::es) (HN t u):=by
 intro pins s σ H vs us Q I r h;obtain⟨v,vr,e1,h⟩:=h;subst e1;cases r with
 | cons r rr=>
  rw[hs];refine assignInOrder_cons (thn (h1 pins s σ H _ _ _ I r h) fun _ s1 ⟨σ1,H1,I1,q1⟩=>?_);exact h2 pins s1 σ1 H1 _ _ Q I1 rr q1
noncomputable def acS (K:AD)(n:Nat)(t:TGs):TG:=fun v σ H Q=>∃a xs,v=.ref a/\SqT K H a xs/\xs.length=n/\t xs σ H Q
theorem aav {es:List Expr}{k:Nat}{t:TGs}{n:Nat}(hc:X.calm=true)(h:PGs X es t)
  (hn:(DA es X.env).length=n:=by rfl) (hst:(DA es X.env).findIdx? (·.1)=none:=by rfl):PG X (.Tuple es k pos) (acS X.K n t):=by
 intro pins s σ H v u Q I r hw;obtain⟨a,xs,e1,hq,hl,hw⟩:=hw;subst e1;cases r;obtain⟨its,rv,ht,hz⟩:=I.tuple hq;refine assign_Tuple_tuple (I.ok.hd hc) ht (by simp [hn,<- hl,rv.length]) hst fun h' hx=>?_;have I1:Inv X pins σ H { s with heap:=h' }:=I.kept (t':=s.toks) fun b o e=>hx b o (BO (A3 e)) e;exact h pins _ σ H xs _ Q I1 (by simpa using rv) hw
noncomputable def U7 (to ti:TE)(t:Qw):TG:=fun v σ H Q=>to σ H fun o H1=>ti σ H1 fun i H2=>t o i v H2 fun H3=>Q σ H3
theorem Jx {o i:Expr}{to ti:TE}{t:Qw}(ho:PE X o to)(hi:PE X i ti)(hs:Qx X t)
  (ha:∀v,FR (.Subscript o i pos) X.env v=(do
   let ov <- EB [v] (eval o X.env)
   let iv <- EB [v,ov] (eval i X.env)
   GA pos
   EB [v,ov,iv] (setItem ov iv v)
   release [v,ov,iv] []):=by intro _;rfl):PG X (.Subscript o i pos) (U7 to ti t):=by
 intro pins s σ H v u Q I r h;rw[ha];refine Ap (B8 (thE (ho pins s σ H _ I h) fun ov s1 x H1 I1 r1 q1=>?_));refine Ap (B8 (thE (hi pins s1 σ H1 _ I1 q1) fun iv s2 y H2 I2 r2 q2=>?_));refine Ap (Ex (Ap (B8 (thn (hs pins s2 σ H2 x y v ov iv u _ I2 r1 r2 r q2) fun _ s3 ⟨H3,I3,q3⟩=>?_))));exact wpAny_release ⟨σ,H3,I3,q3⟩
noncomputable def Bm (te:TE)(g:TG):TS:=fun D σ H=>te σ H fun x H1=>g x σ H1 D.nx
theorem aao {tg e:Expr}{te:TE}{g:TG}(he:PE X e te)(hg:PG X tg g)(hs:F2 [tg] e pos.line X.env=pure false:=by rfl)(hw:Kt [tg] e X.env=pure none:=by rfl)
  (h1:(DA [tg] X.env).map (·.2)=[FR tg X.env]:=by rfl):PS X (.Assign [tg] e pos) (Bm te g):=by
 intro pins s σ H D I h;refine wpAny_Assign_stores (thE (he pins s σ H _ I h) fun v s1 x H1 I1 r1 q1=>?_) hs hw;rw[h1];exact thn (hg pins s1 σ H1 x v _ I1 r1 q1) fun _ s2 q=>q
theorem aaj {i:Nat}{x:Str}{e:Expr}{te:TE}{pos':Pos}(hN:X.N.Nodup)(hi:X.N[i]?=some x)(hx:Loc X.env.scope x)(he:PE X e te)(hs:FO e (some (.Name x pos')) pos.line X.env=pure false:=by rfl)(hf:X.fn x=true\/X.env.scope.names.lookup x=some .local:=by first|exact .inl rfl|exact .inr rfl|assumption) :
  PS X (.Assign [.Name x pos'] e pos) (Bm te (lE i)):=by
 intro pins s σ H D I h;refine wpAny_Assign_Name (thE (he pins s σ H _ I h) fun v s1 y H1 I1 r1 q1=>?_) hs;exact mR I1 hN hi hx r1 (fun s2 I2=>⟨_,H1,I2,q1⟩) hf
noncomputable def ZF (i j:Nat)(ta:TA):TS:=fun D σ H=>ta σ H fun vs H1=>∃v w,vs=[v,w]/\D.nx ((σ.set i (some v)).set j (some w)) H1
theorem aal {i j:Nat}{x y:Str}{a b:Expr}{ta:TA}{px py pt:Pos}{kt k2 pt2}(hc:X.calm=true)(hN:X.N.Nodup)(hi:X.N[i]?=some x)(hj:X.N[j]?=some y)(hij:i≠j)
  (hx:X.env.scope.names.lookup x=some .local) (hy:X.env.scope.names.lookup y=some .local) (ha:PA X [a,b] ta)
  (hw:Kt [.Tuple [.Name x px,.Name y py] kt pt] (.Tuple [a,b] k2 pt2) X.env=pure (some [x,y]))
  (hs:F2 [.Tuple [.Name x px,.Name y py] kt pt] (.Tuple [a,b] k2 pt2) pos.line X.env=pure false:=by rfl) :
  PS X (.Assign [.Tuple [.Name x px,.Name y py] kt pt] (.Tuple [a,b] k2 pt2) pos) (ZF i j ta):=by
 intro pins s σ H D I h;rw[exec_Assign_arm];refine Ap (Ex ?_);rw[hs];refine Ap (AE ?_);rw[if_neg δ];refine Ap (Tuple_ (thA (ha _ pins s σ H _ I h) fun us s1 vs H1 I1 r1 q1=>?_));obtain⟨v,w,e1,q1⟩:=q1;subst e1;obtain⟨u1,u2,rfl,rv,rw'⟩:∃u1 u2,us=[u1,u2]/\RelV v u1/\RelV w u2:=by
  cases r1 with
  | cons p q=>
   cases q with
   | cons p' q'=>
    cases q';exact⟨_,_,rfl,p,p'⟩
 refine B6 ?_ (by show 2<=AQ;decide);have I2:Inv X pins σ H1 { s1 with heap:=s1.heap.push { cls:=.type "tuple",data:=.seq [u1,u2].toArray } }:=I1.kept (t':=s1.toks) fun b o e=>AF _ e;rw[hw];refine Ap (AE ?_);show AK (AN X.prog X.w) X.A (do rule "assign.swapped-stores";let items <- unpackItems (.ref s1.heap.objs.size) 2 none;assignInOrder [fun v=>bindName X.env y v,fun v=>bindName X.env x v] items.reverse;pure Flow.next) _ _ _;refine Ap (HI (Ap (unpackItems_tuple (items:=#[u1,u2]) (I.ok.hd hc) (IsTup.new s1.heap _) fun h' hx'=>?_)));have I3:=I2.kept (h':=h') (t':=s1.toks) fun b o e=>hx' b o (BO (A3 e)) e;show AK _ _ (assignInOrder [fun v=>bindName X.env y v,fun v=>bindName X.env x v] [u2,u1] >>= fun _=>pure Flow.next) _ _ _;refine Ap (assignInOrder_cons (wpAny_bindName (mR I3 hN hj (.inl hy) rw' (fun s2 I4=>?_) (.inr hy))));refine assignInOrder_cons (wpAny_bindName (mR I4 hN hi (.inl hx) rv (fun s3 I5=>assignInOrder_nil (AE ?_)) (.inr hx)));rw[List.set_comm _ _ (Ch hij)] at I5;exact⟨_,H1,I5,q1⟩
noncomputable def ZK (i:Nat)(te:TE)(ti:TIp):TS:=fun D σ H=>∃x,σ[i]?=some (some x)/\te σ H fun y H1=>ti x y H1 fun z H2=>D.nx (σ.set i (some z)) H2
theorem aan {i:Nat}{x:Str}{e:Expr}{te:TE}{op:Operator}{ti:TIp}{pos':Pos}(hN:X.N.Nodup)(hi:X.N[i]?=some x)(hx:Loc X.env.scope x)(he:PE X e te)(ho:PIp X op ti)(hf:X.fn x=true\/X.env.scope.names.lookup x=some .local:=by first|exact .inl rfl|exact .inr rfl|assumption) :
  PS X (.AugAssign (.Name x pos') op e pos) (ZK i te ti):=by
 intro pins s σ H D I h;obtain⟨v,e1,h⟩:=h;obtain⟨m,hn,hl⟩:=I.loc;have vis:Vis X.env.scope x:=by rcases hx with k|k;exact .inl k;exact .inr (.inl k)
 obtain⟨u,r,l⟩:=hl i x v hi e1 vis;refine wpAny_AugAssign_Name ?_;have go:AK (AN X.prog X.w) X.A (eval e X.env) (fun w s₂=>AK (AN X.prog X.w) X.A (inplaceOp op u w) (fun r s₃=>AK (AN X.prog X.w) X.A (storeName X.env x r) (fun _=>SP X pins D .next) X.xe s₃) X.xe s₂) X.xe s:=by
  refine thE (he pins s σ H _ I h) fun w s1 y H1 I1 r1 q1=>?_;refine thE (ho pins s1 σ H1 v y u w _ I1 r r1 q1) fun z s2 zv H2 I2 r2 q2=>?_;exact mR I2 hN hi hx r2 (fun s3 I3=>⟨_,H2,I3,q2⟩) hf
 rcases l with⟨hk,hm⟩|⟨hk,c,hc,hcell⟩
 ·exact wpAny_loadName_local I.ok.kind hk hn hm go
 rcases hk with hk|hk
 ·exact wpAny_loadName_cell I.ok.kind hk hc hcell go
 rcases hx with k|k
 ·have:X.env.scope.names.lookup x=some .free:=hk;rw[k] at this;cases this
 have:X.env.scope.names.lookup x=some .free:=hk;rw[k] at this;cases this
noncomputable def ipI (f:Int->Int->Int):TIp:=fun x y H Q=>∃i j,x=.int i/\y=.int j/\Q (.int (f i j)) H
theorem J7:PIp X .Add (ipI fun i j=>i+j):=by
 intro pins s σ H x y v u Q I r1 r2 h;obtain⟨i,j,e1,e2,q⟩:=h;subst e1;subst e2;obtain⟨t,rfl⟩:=r1;obtain⟨t',rfl⟩:=r2;exact iadd_int ⟨.int _,H,I.tok _,⟨_,rfl⟩,q⟩
noncomputable def Eg (c:TT)(tb:TS):TS:=fun D σ H=>∃W:Nat->St->Hp->Prop,(∃m,W m σ H)/\∀m σ H,W m σ H ->
 c σ H fun b H1=>if b=true then ∃N:St->Hp->Prop,(∀σ' H',N σ' H'->∃m',m'<m/\W m' σ' H')/\tb { D with nx:=N,ct:=N,bk:=D.nx } σ H1 else D.nx σ H1
theorem Tc {c:Expr}{body:List Stmt}{tc:TT}{tb:TS}(hp:PassesOwn (AN X.prog X.w) X.A X.env X.xe)(hc:PT X c tc)(hb:PSs X body tb):PS X (.While c body [] pos) (Eg tc tb):=by
 intro pins s σ H D I h;obtain⟨W,⟨m0,w0⟩,turn⟩:=h;refine wpAny_While (codeAny_whileLoop (fun n s'=>∃σ' H',Inv X pins σ' H' s'/\W n σ' H') ?_ m0 ⟨σ,H,I,w0⟩);rintro n s1 ⟨σ1,H1,I1,w1⟩;refine ES hp (thT (hc pins s1 σ1 H1 _ I1 (turn n σ1 H1 w1)) fun b s2 H2 I2 q2=>?_);cases b with
 | true=>
  obtain⟨N,hN,q2⟩:=q2;rw[if_pos rfl];refine ES hp (thn (hb pins s2 σ1 H2 _ I2 q2) fun f s3 q3=>?_);cases f with
  | next=>
   obtain⟨σ3,H3,I3,n3⟩:=q3;obtain⟨m',hm,w3⟩:=hN σ3 H3 n3;exact⟨m',hm,σ3,H3,I3,w3⟩
  | cont=>
   obtain⟨σ3,H3,I3,n3⟩:=q3;obtain⟨m',hm,w3⟩:=hN σ3 H3 n3;exact⟨m',hm,σ3,H3,I3,w3⟩
  | brk=>exact q3
  | ret v=>exact q3
 | false=>
  rw[if_neg AY];exact Ix ⟨σ1,H2,I2,q2⟩
end
structure It where
 go:Nat->Hp->Prop
 yld:Nat->Hp->V->Hp->Prop
 stop:Nat->Hp->Prop
noncomputable def yD (X:Cx)(pins:List (Addr×Obj))(H:Hp)(b:Addr):Prop:=
 H b=none/\b≠X.env.locals/\b∉X.fs/\(b∈X.ex\/X.s₀.heap.objs.size<=b)/\(∀x c,X.env.cells.lookup x=some c->c≠b)/\∀p∈X.pn++pins,p.1≠b
theorem Inv.HW {X:Cx}{pins:List (Addr×Obj)}{σ:St}{H H':Hp}{s:AA}{b:Addr}(I:Inv X pins σ H s)(hb:s.heap.objs.size<=b)(hn:H' b=none):yD X pins H' b:=by
 refine⟨hn,ne_of_gt (AX I.lt hb),I.aaR hb,.inr (BQ I.sz hb),fun x c e z=>?_,fun p hp z=>?_⟩
 ·obtain⟨v,q⟩:=I.cell x c e;exact absurd (AX q.lt (by rw[z];exact hb)) (CU _)
 exact absurd (AX (A3 (I.pin p hp).1) (by rw[z];exact hb)) (CU _)
structure Turn (P:AW)(w:BB)(K:AD)(tg:Expr)(J:It)(fp:List Addr)(it:Addr)(tn:Nat->Heap->Prop):Prop where
 mem:it∈fp
 obj:∀i h,tn i h->∀b∈fp,∃o,h.get? b=some o/\∀v,o.data≠.cell v
 keep:∀i h h',tn i h->(∀b∈fp,∀o,h.get? b=some o->h'.get? b=some o)->tn i h'
 item:∀(X:Cx),X.prog=P->X.w=w->X.K=K->X.calm=true->∀(i:Nat)(pins:List (Addr×Obj)) (s:AA) (σ:St) (H:Hp) (E:An->AA->Prop),Inv X pins σ H s->(∀b∈fp,yD X pins H b)->tn i s.heap->J.go i H ->
  AK (AN P w) X.A (pyNext (.ref it)) (fun r s1=>∃u,r=some u /\
   AK (AN P w) X.A (Iy tg (.ref it) u) (fun _ s2=>∃x H',Inv X pins σ H' s2/\RelV x u/\J.yld i H x H'/\tn (i+1) s2.heap/\∀b∈fp,H' b=none) E s1) E s
 done:∀(X:Cx),X.prog=P->X.w=w->X.K=K->X.calm=true->∀(i:Nat)(pins:List (Addr×Obj)) (s:AA) (σ:St) (H:Hp) (E:An->AA->Prop),Inv X pins σ H s->(∀b∈fp,yD X pins H b)->tn i s.heap->J.stop i H ->
  AK (AN P w) X.A (pyNext (.ref it)) (fun r s1=>r=none/\Inv X pins σ H s1) E s
 self:∀(A:Bi)(i:Nat)(s:AA)(Q:An->AA->Prop)(E:An->AA->Prop),tn i s.heap->Q (.ref it) s->AK (AN P w) A (pyIter (.ref it)) Q E s
noncomputable abbrev TI:=St->Hp->(It->Hp->Prop)->Prop
noncomputable def PIE (X:Cx)(pins:List (Addr×Obj))(σ:St)(tg:Expr)(R:It->Hp->Prop)(itv:An)(s2:AA):Prop:=
 ∃(it:Addr)(fp:List Addr)(tn:Nat->Heap->Prop)(J:It)(H':Hp),itv=.ref it/\Inv X pins σ H' s2/\Turn X.prog X.w X.K tg J fp it tn/\tn 0 s2.heap/\(∀b∈fp,yD X pins H' b)/\R J H'
noncomputable def PI (X:Cx)(tg iter:Expr)(wi:TI):Prop:=
 ∀(pins:List (Addr×Obj)) (s:AA) (σ:St) (H:Hp) (R:It->Hp->Prop),Inv X pins σ H s->wi σ H R ->
  AK (AN X.prog X.w) X.A (eval iter X.env) (fun v s1=>AK (AN X.prog X.w) X.A (pyIter v) (PIE X pins σ tg R) X.xe s1) X.xe s
theorem Mv {M:Kk}{A:Bi}{E:An->AA->Prop}{s:AA}{tg:Expr}{it:Addr}{u:An}{o:Obj}{n:String}{vs:Array An}{Q:Unit->AA->Prop}(ho:s.heap.get? it=some o)(hc:o.cls=.type n)(hd:o.data=.fields vs)
  (hn:["enumerate","zip","dict_itemiterator","dict_reverseitemiterator","odict_iterator","itertools.zip_longest","itertools.pairwise"].contains n=false) (hQ:Q () s):AK M A (Iy tg (.ref it) u) Q E s:=by
 unfold Iy;cases tg <;> first
  | exact AE hQ
  | (cases u <;> first
    | exact AE hQ
    | (refine Ap (wpAny_load ho ?_)
       rw[hc,hd];show AK M A (if (["enumerate","zip","dict_itemiterator","dict_reverseitemiterator","odict_iterator","itertools.zip_longest","itertools.pairwise"].contains n&&vs[0]? == some (EC _))=true then _ else _) Q E s;rw[if_neg (by intro h;rw[hn,Bool.false_and] at h;cases h)];exact AE hQ))
noncomputable def Itl (K:AD)(a:Addr):It:=
 ⟨fun i H=>∃xs x,SqL K H a xs/\xs[i]?=some x,fun i H x H'=>H'=H/\∀xs,SqL K H a xs->xs[i]?=some x,fun i H=>∃xs,SqL K H a xs/\xs.length<=i⟩
noncomputable def Itt (K:AD)(a:Addr):It:=
 ⟨fun i H=>∃xs x,SqT K H a xs/\xs[i]?=some x,fun i H x H'=>H'=H/\∀xs,SqT K H a xs->xs[i]?=some x,fun i H=>∃xs,SqT K H a xs/\xs.length<=i⟩
noncomputable def Itr (lo:Int)(n:Nat):It:=⟨fun i _=>i<n,fun i H x H'=>H'=H/\x=.int (lo+i),fun i _=>n<=i⟩
theorem Nt {P:AW}{w:BB}{K:AD}{tg:Expr}(a it:Addr):Turn P w K tg (Itl K a) [it] it (fun i h=>h.IsListIter it a i) where
 mem:=by simp
 obj:=fun i h st b hb=>by
  have e:b=it:=by simpa using hb
  subst e;obtain⟨o,e,c,d⟩:=st;exact⟨o,e,fun v z=>by rw[d] at z;cases z⟩
 keep:=fun i h h' st k=>st.at fun o e=>k it (by simp) o e
 item:=by
  intro X hP hw hK hc i pins s σ H E I hf st hg;subst hP hw hK;obtain⟨xs,x,hq,hx⟩:=hg;obtain⟨its,rv,p,hz⟩:=I.list hq;obtain⟨u,hu,ru⟩:=rv.get hx;obtain⟨f0,f1,f2,f3,f4,f5⟩:=hf it (by simp);refine HK st p.isList (x:=u) (by simpa using hu) fun h' st' sb=>?_;have I1:Inv X pins σ H { s with heap:=h' }:=I.turned (t':=s.toks) (fun b o hb e=>(sb.2 b hb).trans e) f0 f1 f3 f4 f5;obtain⟨o,e,c,d⟩:=id st';exact⟨u,rfl,Mv (s:={ s with heap:=h' }) e c d δ ⟨x,H,I1,ru,⟨rfl,fun ys hy=>by rw[I.qu hy hq];exact hx⟩,st',fun b hb=>(hf b hb).1⟩⟩
 done:=by
  intro X hP hw hK hc i pins s σ H E I hf st hg;subst hP hw hK;obtain⟨xs,hq,hx⟩:=hg;obtain⟨its,rv,p,hz⟩:=I.list hq;obtain⟨f0,f1,f2,f3,f4,f5⟩:=hf it (by simp);have hl:=rv.length;exact wpAny_pyNext_list_end (I.ok.hd hc) st p.isList (by simp;omega) fun h' eb=>⟨rfl,I.turned (t':=s.toks) (fun b o hb e=>eb b o hb e) f0 f1 f3 f4 f5⟩
 self:=fun _ _ _ _ _ st h=>wpAny_pyIter_listiter st h
theorem Jb {P:AW}{w:BB}{K:AD}{tg:Expr}(a it:Addr):Turn P w K tg (Itt K a) [it] it (fun i h=>h.IsTupleIter it a i) where
 mem:=by simp
 obj:=fun i h st b hb=>by
  have e:b=it:=by simpa using hb
  subst e;obtain⟨o,e,c,d⟩:=st;exact⟨o,e,fun v z=>by rw[d] at z;cases z⟩
 keep:=fun i h h' st k=>st.at fun o e=>k it (by simp) o e
 item:=by
  intro X hP hw hK hc i pins s σ H E I hf st hg;subst hP hw hK;obtain⟨xs,x,hq,hx⟩:=hg;obtain⟨its,rv,p,hz⟩:=I.tuple hq;obtain⟨u,hu,ru⟩:=rv.get hx;obtain⟨f0,f1,f2,f3,f4,f5⟩:=hf it (by simp);refine wpAny_pyNext_tuple_item st (show s.heap.IsTuple a its.toArray from p) (x:=u) (by simpa using hu) fun h' st' sb=>?_;have I1:Inv X pins σ H { s with heap:=h' }:=I.turned (t':=s.toks) (fun b o hb e=>(sb.2 b hb).trans e) f0 f1 f3 f4 f5;obtain⟨o,e,c,d⟩:=id st';exact⟨u,rfl,Mv (s:={ s with heap:=h' }) e c d δ ⟨x,H,I1,ru,⟨rfl,fun ys hy=>by rw[I.Cj hy hq];exact hx⟩,st',fun b hb=>(hf b hb).1⟩⟩
 done:=by
  intro X hP hw hK hc i pins s σ H E I hf st hg;subst hP hw hK;obtain⟨xs,hq,hx⟩:=hg;obtain⟨its,rv,p,hz⟩:=I.tuple hq;obtain⟨f0,f1,f2,f3,f4,f5⟩:=hf it (by simp);have hl:=rv.length;exact wpAny_pyNext_tuple_end (I.ok.hd hc) st (show s.heap.IsTuple a its.toArray from p) (by simp;omega) fun h' eb=>⟨rfl,I.turned (t':=s.toks) (fun b o hb e=>eb b o hb e) f0 f1 f3 f4 f5⟩
 self:=fun _ _ _ _ _ st h=>wpAny_pyIter_tupleiter st h
theorem Jc {P:AW}{w:BB}{K:AD}{tg:Expr}(it:Addr)(lo:Int)(n:Nat):Turn P w K tg (Itr lo n) [it] it (fun i h=>IsRangeIter h it (lo+(i:Nat)*1) ((n:Int)-(i:Nat)) 1) where
 mem:=by simp
 obj:=fun i h st b hb=>by
  have e:b=it:=by simpa using hb
  subst e;exact⟨_,st,fun v z=>by
   have z':A8 _=Data.cell v:=z;cases z'⟩
 keep:=fun i h h' st k=>k it (by simp) _ st
 item:=by
  intro X hP hw hK hc i pins s σ H E I hf st hg;subst hP hw hK;obtain⟨f0,f1,f2,f3,f4,f5⟩:=hf it (by simp);have W:=Walks.range (prog:=X.prog) (w:=X.w) (I.ok.hd hc) it lo 1 n;refine W.item i s _ _ hg st fun v h' tk hv st' kk=>?_;obtain⟨t,rfl⟩:=hv;have I1:Inv X pins σ H { s with heap:=h',toks:=tk }:=I.turned (fun b o hb e=>kk b o (by simpa using hb) e) f0 f1 f3 f4 f5;refine⟨_,rfl,Mv (s:={ s with heap:=h',toks:=tk }) (n := "range_iterator") st' rfl rfl δ ⟨.int (lo+i),H,I1,⟨t,?_⟩,⟨rfl,rfl⟩,st',fun b hb=>(hf b hb).1⟩⟩;rw[mul_one]
 done:=by
  intro X hP hw hK hc i pins s σ H E I hf st hg;subst hP hw hK;obtain⟨f0,f1,f2,f3,f4,f5⟩:=hf it (by simp);exact wpAny_pyNext_range_end (I.ok.hd hc) st (by have:n<=i:=hg;omega) fun h' eb=>⟨rfl,I.turned (t':=s.toks) (fun b o hb e=>eb b o hb e) f0 f1 f3 f4 f5⟩
 self:=fun _ _ _ _ _ st h=>wpAny_pyIter_rangeiter st h
section
variable {X:Cx}{tg:Expr}
theorem RW {pins:List (Addr×Obj)}{σ:St}{H:Hp}{s:AA}{R:It->Hp->Prop}{E:An->AA->Prop}{lo hi:Int}{t u v:Tok}{tk:Nat}(I:Inv X pins σ H s)(h1:-(2^62)<=lo)(h2:lo<2^62)(h3:-(2^62)<=hi)(h4:hi<2^62)
  (q:R (Itr lo (hi-lo).toNat) H):AK (AN X.prog X.w) X.A (pyIter (.ref s.heap.objs.size)) (PIE X pins σ tg R) E { s with heap:=s.heap.push { cls:=.type "range",data:=.fields #[.int lo t,.int hi u,.int 1 v] },toks:=tk }:=by
 refine wpAny_pyIter_range (IsRange.new ..) (small_one h1 h2 h3 h4) ?_;have I1:Inv X pins σ H { s with heap:=s.heap.push { cls:=.type "range",data:=.fields #[.int lo t,.int hi u,.int 1 v] },toks:=tk }:=I.kept fun b o e=>AF _ e;refine⟨(s.heap.push { cls:=.type "range",data:=.fields #[.int lo t,.int hi u,.int 1 v] }).objs.size,[(s.heap.push { cls:=.type "range",data:=.fields #[.int lo t,.int hi u,.int 1 v] }).objs.size],_,_,H,rfl,
  I1.kept (t':=tk) fun b o e=>AF _ e,Jc _ lo (hi-lo).toNat,?_,fun b hb=>?_,q⟩
 ·have e1:lo+((0:Nat):Int)*1=lo:=by simp
  have e2:(((hi-lo).toNat:Nat):Int)-((0:Nat):Int)=A7.Range.rangeSize lo hi 1:=by rw[rangeSize_one];split <;> omega
  show IsRangeIter _ _ (lo+((0:Nat):Int)*1) ((((hi-lo).toNat:Nat):Int)-((0:Nat):Int)) 1;rw[e1,e2];exact BA _ rfl
 have e:b=(s.heap.push { cls:=.type "range",data:=.fields #[.int lo t,.int hi u,.int 1 v] }).objs.size:=by simpa using hb
 subst e;exact I1.HW (A6 _) (I1.hok.fresh (A6 _))
noncomputable def Ht (ta:TA):TI:=fun σ H R=>ta σ H fun vs H1=>∃j:Int,vs=[.int j]/\-(2^62)<=j/\j<2^62/\R (Itr 0 j.toNat) H1
theorem Ol {a:Expr}{ta:TA}{p pos:Pos}(hg:Gl X "range") (hm:X.mg "range" = none) (ha:PA X [a] ta) (hs:AJ [a] X.env=[(false,eval a X.env)]:=by rfl):PI X tg (.Call (.Name "range" p) [a] [] pos) (Ht ta):=by
 intro pins s σ H R I h;refine Call_ (mH I hg hm boot_range (B9 (thA (ha pos pins s σ H _ I h) fun us s1 vs H1 I1 r1 q1=>?_) hs rfl));obtain⟨j,e,q1,q2,q⟩:=q1;subst e;cases r1 with
 | cons r rr=>
  cases rr;obtain⟨t,rfl⟩:=r;exact call_range_1 (RW I1 ω ω q1 q2 (by simpa using q))
noncomputable def ZG (wi:TI)(g:TG)(tb:TS):TS:=fun D σ H=>wi σ H fun J H1=>∃W:Nat->Nat->St->Hp->Prop,(∃m,W 0 m σ H1)/\∀i m σ H,W i m σ H ->
 (J.stop i H/\D.nx σ H)\/(J.go i H/\∃N:St->Hp->Prop,(∀σ' H',N σ' H'->∃m',m'<m/\W (i+1) m' σ' H')/\∀x H',J.yld i H x H'->g x σ H' fun σ2 H2=>tb { D with nx:=N,ct:=N,bk:=D.nx } σ2 H2)
noncomputable def mC (fp:List Addr)(h:Heap):List (Addr×Obj):=fp.filterMap fun b=>(h.get? b).map fun o=>(b,o)
theorem oF {fp:List Addr}{h:Heap}{b:Addr}{o:Obj}(hb:b∈fp)(e:h.get? b=some o):(b,o)∈mC fp h:=Kx.mpr ⟨b,hb,by rw[e];rfl⟩
theorem v7 {fp:List Addr}{h:Heap}{p:Addr×Obj}(hp:p∈mC fp h):p.1∈fp/\h.get? p.1=some p.2:=by
 obtain⟨b,hb,e⟩:=Kx.mp hp;cases q:h.get? b with
 | none=>rw[q] at e;cases e
 | some o=>
  rw[q] at e;have e':(b,o)=p:=AV e;subst e';exact⟨hb,q⟩
theorem Inv.pinned {pins:List (Addr×Obj)}{σ:St}{H:Hp}{s:AA}{fp:List Addr}(I:Inv X pins σ H s)(hf:∀b∈fp,yD X pins H b)(ho:∀b∈fp,∃o,s.heap.get? b=some o/\∀v,o.data≠.cell v):Inv X (pins++mC fp s.heap) σ H s:=
 I.qP fun p hp=>(BC.mp hp).elim (fun z=>I.pin p (A0 _ z)) fun z=>by
  obtain⟨hb,e⟩:=v7 z;obtain⟨f0,f1,f2,_⟩:=hf p.1 hb;obtain⟨o,e',d⟩:=ho p.1 hb;rw[e] at e';cases e';exact⟨e,f0,f1,f2,d⟩
theorem Inv.pD {pins pl:List (Addr×Obj)}{σ:St}{H:Hp}{s:AA}(I:Inv X (pins++pl) σ H s):Inv X pins σ H s:=I.qP fun p hp=>I.pin p (A0 _ (BG _ hp))
theorem aam {iter:Expr}{body:List Stmt}{wi:TI}{g:TG}{tb:TS}{pos:Pos}(hp:PassesOwn (AN X.prog X.w) X.A X.env X.xe)(hc:X.calm=true)(hi:PI X tg iter wi)(hg:PG X tg g)(hb:PSs X body tb)
  (hs:∀x,DI iter X.env x=pure x:=by intro _;rfl):PS X (.For tg iter body [] pos) (ZG wi g tb):=by
 intro pins s σ H D I h;refine wpAny_For (thn (hi pins s σ H _ I h) fun v s1 h1=>thn h1 fun itv s2 h2=>?_) hs;obtain⟨it,fp,tn,J,H2,e,I2,T,st2,f2,W,⟨m0,w0⟩,turn⟩:=h2;subst e
 -- what stays true of the iterator's objects through the loop
 have stat:∀{H':Hp},(∀b∈fp,H' b=none)->∀b∈fp,yD X pins H' b:=fun hn b hb=>⟨hn b hb,(f2 b hb).2⟩;refine codeAny_forLoop_any (fun n s'=>∃i σ' H',Inv X pins σ' H' s'/\tn i s'.heap/\(∀b∈fp,H' b=none)/\W i n σ' H') ?_ m0 ⟨0,σ,H2,I2,st2,fun b hb=>(f2 b hb).1,w0⟩;rintro n s3 ⟨i,σ3,H3,I3,st3,fr3,w3⟩;rcases turn i n σ3 H3 w3 with⟨stop,qn⟩|⟨go,N,hN,step⟩
 ·refine ES hp (thn (T.done X rfl rfl rfl hc i pins s3 σ3 H3 X.xe I3 (stat fr3) st3 stop) fun r s4 ⟨hr,I4⟩=>?_);subst hr;exact Ix ⟨σ3,H3,I4,qn⟩
 refine ES hp (thn (T.item X rfl rfl rfl hc i pins s3 σ3 H3 X.xe I3 (stat fr3) st3 go) fun r s4 ⟨u,hr,h4⟩=>?_);subst hr;refine ES hp (thn h4 fun _ s5 ⟨x,H5,I5,r5,y5,st5,fr5⟩=>?_);have I5':=I5.pinned (stat fr5) (T.obj _ _ st5);refine ES hp (thn (hg _ s5 σ3 H5 x u _ I5' r5 (step x H5 y5)) fun _ s6 ⟨σ6,H6,I6,q6⟩=>?_);refine ES hp (thn (hb _ s6 σ6 H6 _ I6 q6) fun f s7 q7=>?_);have again:∀{σ7:St}{H7:Hp},Inv X (pins++mC fp s5.heap) σ7 H7 s7->N σ7 H7->∃m,m<n/\∃i σ' H',Inv X pins σ' H' s7/\tn i s7.heap/\(∀b∈fp,H' b=none)/\W i m σ' H':=fun {σ7 H7} I7 n7=>by
  obtain⟨m',hm,w7⟩:=hN σ7 H7 n7;refine⟨m',hm,i+1,σ7,H7,I7.pD,T.keep _ _ _ st5 fun b hb o e=>(I7.pin (b,o) (A0 _ (A0 _ (oF hb e)))).1,fun b hb=>?_,w7⟩;obtain⟨o,e,d⟩:=T.obj _ _ st5 b hb;exact(I7.pin (b,o) (A0 _ (A0 _ (oF hb e)))).2.1
 cases f with
 | next=>obtain⟨σ7,H7,I7,n7⟩:=q7;exact again I7 n7
 | cont=>obtain⟨σ7,H7,I7,n7⟩:=q7;exact again I7 n7
 | brk=>obtain⟨σ7,H7,I7,q7⟩:=q7;exact⟨σ7,H7,I7.pD,q7⟩
 | ret v=>obtain⟨x7,σ7,H7,I7,r7,q7⟩:=q7;exact⟨x7,σ7,H7,I7.pD,r7,q7⟩
end
theorem Vd {K:AD}{a:Addr}{xs:List V}{g:TG}{tb:TS}{D:Ends}{σ:St}{H:Hp}(Pv:Nat->St->Hp->Prop)(h0:Pv 0 σ H)(hl:∀i σ H,i<=xs.length->Pv i σ H->SqL K H a xs)
  (hs:∀i x σ H,xs[i]?=some x->Pv i σ H->g x σ H fun σ2 H2=>tb { D with nx:=Pv (i+1),ct:=Pv (i+1),bk:=D.nx } σ2 H2) (hd:∀σ H,Pv xs.length σ H->D.nx σ H) :
  ∃W:Nat->Nat->St->Hp->Prop,(∃m,W 0 m σ H)/\∀i m σ H,W i m σ H ->
   ((Itl K a).stop i H/\D.nx σ H)\/((Itl K a).go i H/\∃N:St->Hp->Prop,(∀σ' H',N σ' H'->∃m',m'<m/\W (i+1) m' σ' H')/\∀x H',(Itl K a).yld i H x H'->g x σ H' fun σ2 H2=>tb { D with nx:=N,ct:=N,bk:=D.nx } σ2 H2):=by
 refine⟨fun i m σ H=>m=xs.length-i/\i<=xs.length/\Pv i σ H,⟨xs.length,by simp,DL _,h0⟩,?_⟩;rintro i m σ H ⟨rfl,hi,p⟩;have q:=hl i σ H hi p;by_cases hlt:i<xs.length
 ·refine .inr ⟨⟨xs,xs[i],q,by simp [hlt]⟩,Pv (i+1),fun σ' H' p'=>⟨xs.length-(i+1),ω,rfl,hlt,p'⟩,fun x H' y=>?_⟩;obtain⟨e,y⟩:=y;subst e;exact hs i x σ _ (y xs q) p
 have e:i=xs.length:=ω;subst e;exact .inl ⟨⟨xs,q,A6 _⟩,hd σ H p⟩
theorem PB {lo:Int}{n:Nat}{g:TG}{tb:TS}{D:Ends}{σ:St}{H:Hp}(Pv:Nat->St->Hp->Prop)(h0:Pv 0 σ H)
  (hs:∀i σ H,i<n->Pv i σ H->g (.int (lo+i)) σ H fun σ2 H2=>tb { D with nx:=Pv (i+1),ct:=Pv (i+1),bk:=D.nx } σ2 H2) (hd:∀σ H,Pv n σ H->D.nx σ H) :
  ∃W:Nat->Nat->St->Hp->Prop,(∃m,W 0 m σ H)/\∀i m σ H,W i m σ H ->
   ((Itr lo n).stop i H/\D.nx σ H)\/((Itr lo n).go i H/\∃N:St->Hp->Prop,(∀σ' H',N σ' H'->∃m',m'<m/\W (i+1) m' σ' H')/\∀x H',(Itr lo n).yld i H x H'->g x σ H' fun σ2 H2=>tb { D with nx:=N,ct:=N,bk:=D.nx } σ2 H2):=by
 refine⟨fun i m σ H=>m=n-i/\i<=n/\Pv i σ H,⟨n,by simp,DL _,h0⟩,?_⟩;rintro i m σ H ⟨rfl,hi,p⟩;by_cases hlt:i<n
 ·refine .inr ⟨hlt,Pv (i+1),fun σ' H' p'=>⟨n-(i+1),ω,rfl,hlt,p'⟩,fun x H' y=>?_⟩;obtain⟨e,y⟩:=y;subst e y;exact hs i σ _ hlt p
 have e:i=n:=ω;subst e;exact .inl ⟨A6 _,hd σ H p⟩
noncomputable abbrev R2:=V->V->Hp->VK->Prop
noncomputable def OpR (X:Cx)(f:An->An->Sem An)(r:R2):Prop:=
 ∀(pins:List (Addr×Obj)) (s:AA) (σ:St) (H:Hp) (x y:V) (v u:An) (Q:VK),Inv X pins σ H s->RelV x v->RelV y u->r x y H Q ->
  AK (AN X.prog X.w) X.A (f v u) (EP X pins σ Q) X.xe s
noncomputable def UnR (X:Cx)(f:An->Sem An)(r:V->Hp->VK->Prop):Prop:=
 ∀(pins:List (Addr×Obj)) (s:AA) (σ:St) (H:Hp) (x:V) (v:An) (Q:VK),Inv X pins σ H s->RelV x v->r x H Q ->
  AK (AN X.prog X.w) X.A (f v) (EP X pins σ Q) X.xe s
noncomputable def fO (X:Cx)(f:An)(r:List V->Hp->VK->Prop):Prop:=
 ∀(pins:List (Addr×Obj)) (s:AA) (σ:St) (H:Hp) (xs:List V) (us:List An) (Q:VK),Inv X pins σ H s->Vals xs us->r xs H Q ->
  AK (AN X.prog X.w) X.A (call f us) (EP X pins σ Q) X.xe s
noncomputable def acZ (X:Cx)(r:V->Hp->(Bool->Hp->Prop)->Prop):Prop:=
 ∀(pins:List (Addr×Obj)) (s:AA) (σ:St) (H:Hp) (x:V) (v:An) (Q:Bool->Hp->Prop),Inv X pins σ H s->RelV x v->r x H Q ->
  AK (AN X.prog X.w) X.A (truthy v) (TP X pins σ Q) X.xe s
noncomputable def tOp (r:R2)(ta tb:TE):TE:=fun σ H Q=>ta σ H fun x H1=>tb σ H1 fun y H2=>r x y H2 Q
noncomputable def tUn (r:V->Hp->VK->Prop)(ta:TE):TE:=fun σ H Q=>ta σ H fun x H1=>r x H1 Q
noncomputable def rI (C:Int->Int->Prop)(g:Int->Int->V):R2:=fun x y H Q=>∃i j,x=.int i/\y=.int j/\C i j/\Q (g i j) H
noncomputable def rI0 (g:Int->Int->V):R2:=fun x y H Q=>∃i j,x=.int i/\y=.int j/\Q (g i j) H
noncomputable def rU (g:Int->V):V->Hp->VK->Prop:=fun x H Q=>∃i,x=.int i/\Q (g i) H
section
variable {X:Cx}{a b c:Expr}{ta tb tc:TE}{pos:Pos}
theorem abt (ha:PE X a ta)(hb:PE X b tb){pins:List (Addr×Obj)}{s:AA}{σ:St}{H:Hp}{R:V->V->Hp->Prop}(I:Inv X pins σ H s)
  (h:ta σ H fun x H1=>tb σ H1 fun y H2=>R x y H2) {Q:An->AA->Prop} {f:An->An->Sem An}
  (hf:∀v u s2 x y H2,Inv X pins σ H2 s2->RelV x v->RelV y u->R x y H2->AK (AN X.prog X.w) X.A (f v u) Q X.xe s2) :
  AK (AN X.prog X.w) X.A (eval a X.env) (fun v s₁=>AK (AN X.prog X.w) X.A (eval b X.env) (fun u s₂=>AK (AN X.prog X.w) X.A (f v u) Q X.xe s₂) X.xe s₁) X.xe s:=by
 refine thE (ha pins s σ H _ I h) fun v s1 x H1 I1 r1 q1=>?_;refine thE (hb pins s1 σ H1 _ I1 q1) fun u s2 y H2 I2 r2 q2=>?_;exact hf v u s2 x y H2 I2 r1 r2 q2
theorem abW {op:Operator}{r:R2}(ho:OpR X (ED op) r)(ha:PE X a ta)(hb:PE X b tb):PE X (.BinOp a op b pos) (tOp r ta tb):=by
 intro pins s σ H Q I h;exact wpAny_BinOp (abt ha hb I h fun v u s2 x y H2 I2 rx ry q=>ho pins s2 σ H2 x y v u Q I2 rx ry q)
theorem abV {op:UnaryOp}{r:V->Hp->VK->Prop}(ho:UnR X (unaryOp op) r)(ha:PE X a ta):PE X (.UnaryOp op a pos) (tUn r ta):=by
 intro pins s σ H Q I h;exact UnaryOp_ (thE (ha pins s σ H _ I h) fun v s1 x H1 I1 r1 q1=>ho pins s1 σ H1 x v Q I1 r1 q1)
theorem opI {f:An->An->Sem An}{C:Int->Int->Prop}{g:Int->Int->Int}
  (rule:∀(i j:Int)(t u:Tok)(s:AA)(Q:An->AA->Prop)(E:An->AA->Prop),C i j->Q (.int (g i j) s.toks) { s with toks:=s.toks+1 }->AK (AN X.prog X.w) X.A (f (.int i t) (.int j u)) Q E s) :
  OpR X f (rI C fun i j=>.int (g i j)):=by
 intro pins s σ H x y v u Q I rx ry h;obtain⟨i,j,rfl,rfl,hc,q⟩:=h;obtain⟨t,rfl⟩:=rx;obtain⟨t',rfl⟩:=ry;exact rule i j t t' s _ _ hc ⟨.int (g i j),H,I.tok _,⟨_,rfl⟩,q⟩
theorem aaL {f:An->An->Sem An}{g:Int->Int->Int}
  (rule:∀(i j:Int)(t u:Tok)(s:AA)(Q:An->AA->Prop)(E:An->AA->Prop),Q (.int (g i j) s.toks) { s with toks:=s.toks+1 }->AK (AN X.prog X.w) X.A (f (.int i t) (.int j u)) Q E s) :
  OpR X f (rI0 fun i j=>.int (g i j)):=by
 intro pins s σ H x y v u Q I rx ry h;obtain⟨i,j,rfl,rfl,q⟩:=h;obtain⟨t,rfl⟩:=rx;obtain⟨t',rfl⟩:=ry;exact rule i j t t' s _ _ ⟨.int (g i j),H,I.tok _,⟨_,rfl⟩,q⟩
theorem X6 {f:An->An->Sem An}{g:Int->Int->Bool}
  (rule:∀(i j:Int)(t u:Tok)(s:AA)(Q:An->AA->Prop)(E:An->AA->Prop),Q (.bool (g i j)) s->AK (AN X.prog X.w) X.A (f (.int i t) (.int j u)) Q E s) :
  OpR X f (rI0 fun i j=>.bl (g i j)):=by
 intro pins s σ H x y v u Q I rx ry h;obtain⟨i,j,rfl,rfl,q⟩:=h;obtain⟨t,rfl⟩:=rx;obtain⟨t',rfl⟩:=ry;exact rule i j t t' s _ _ ⟨.bl (g i j),H,I,rfl,q⟩
noncomputable def abE (i j:Int):Prop:=0<=j/\j<=1000000/\i.natAbs<2^64
noncomputable def Qz (i j:Int):Prop:=(-(2^64)<i/\i<2^64)\/(-(2^64)<j/\j<2^64)
theorem Qz.ok {i j:Int}(h:Qz i j):IntMulOk i j:=by
 rcases h with⟨h1,h2⟩|⟨h1,h2⟩
 ·exact .of_left (intBits_le_64 h1 h2)
 exact .of_right (intBits_le_64 h1 h2)
theorem Ja (k:Nat):(0:Int)<=2^k:=by
 rw[two_pow_cast];exact Int.natCast_nonneg _
theorem aaK:OpR X (ED .Add) (rI0 fun i j=>.int (i+j)):=aaL fun _ _ _ _ _ _ _ q=>add_int q
theorem cU:OpR X (ED .Sub) (rI0 fun i j=>.int (i-j)):=aaL fun _ _ _ _ _ _ _ q=>sub_int q
theorem aaF:OpR X (ED .Mult) (rI Qz fun i j=>.int (i*j)):=opI fun _ _ _ _ _ _ _ hc q=>mul_int q hc.ok
theorem jJ:OpR X (ED .Mod) (rI (fun _ j=>0<j) fun i j=>.int (i%j)):=opI fun i j _ _ _ _ _ hc q=>by
 have h1:(0:Int)<j:=hc;exact mod_int' ω (by rw[Int.fmod_eq_emod_of_nonneg i ω];exact q)
theorem vZ:OpR X (ED .Pow) (rI abE fun i j=>.int (i^j.toNat)):=opI fun _ _ _ _ _ _ _ hc q=>pow_int_small hc.1 hc.2.1 hc.2.2 q
theorem Jy:OpR X (ED .LShift) (rI abE fun i j=>.int (i*2^j.toNat)):=opI fun _ _ _ _ _ _ _ hc q=>lshift_int_small hc.1 hc.2.1 hc.2.2 q
theorem TY:OpR X (ED .RShift) (rI (fun _ j=>0<=j) fun i j=>.int (i/2^j.toNat)):=opI fun i j _ _ _ _ _ hc q=>
 rshift_int hc (by rw[Int.fdiv_eq_ediv_of_nonneg i (Ja _)];exact q)
theorem T4:OpR X (ED .BitAnd) (rI0 fun i j=>.int (A7.bitAnd i j)):=aaL fun _ _ _ _ _ _ _ q=>and_int q
theorem unI {f:An->Sem An}{g:Int->Int}
  (rule:∀(i:Int)(t:Tok)(s:AA)(Q:An->AA->Prop)(E:An->AA->Prop),Q (.int (g i) s.toks) { s with toks:=s.toks+1 }->AK (AN X.prog X.w) X.A (f (.int i t)) Q E s) :
  UnR X f (rU fun i=>.int (g i)):=by
 intro pins s σ H x v Q I rx h;obtain⟨i,rfl,q⟩:=h;obtain⟨t,rfl⟩:=rx;exact rule i t s _ _ ⟨.int (g i),H,I.tok _,⟨_,rfl⟩,q⟩
theorem fP:UnR X (unaryOp .USub) (rU fun i=>.int (-i)):=unI fun _ _ _ _ _ q=>neg_int q
end
noncomputable def Wx:V->V->Bool
 | .non,.non=>true | .non,.int _=>true | .int _,.non=>true | .non,.bl _=>true | .bl _,.non=>true | .non,.str _=>true | .str _,.non=>true
 | .int _,.int _=>true | .bl _,.bl _=>true | .str _,.str _=>true | .byt _,.byt _=>true
 | .int _,.str _=>true | .str _,.int _=>true | .bl _,.str _=>true | .str _,.bl _=>true
 | _,_=>false
noncomputable def rEq:R2:=fun x y H Q=>Wx x y=true/\Q (.bl (decide (x=y))) H
noncomputable def rNe:R2:=fun x y H Q=>Wx x y=true/\Q (.bl (!decide (x=y))) H
theorem MP {i j:Int}:decide (V.int i=V.int j)=(i == j):=by
 rw[F8];simp
theorem Vq {i j:Bool}:decide (V.bl i=V.bl j)=(i == j):=by
 rw[F8];simp
theorem MN {i j:Str}:decide (V.str i=V.str j)=(i == j):=by
 rw[F8];simp
theorem MT {i j:Array UInt8}:decide (V.byt i=V.byt j)=(i.toList == j.toList):=by
 rw[F8];cases i;cases j;simp
section
variable {X:Cx}{a b c:Expr}{ta tb tc:TE}{pos:Pos}
theorem cu {pins:List (Addr×Obj)}{σ:St}{H:Hp}{s:AA}{Q:VK}{k k':Bool}(I:Inv X pins σ H s)(q:Q (.bl k) H)(e:k=k'):EP X pins σ Q (.bool k') s:=by
 subst e;exact⟨.bl k,H,I,rfl,q⟩
theorem ab5:OpR X (B0 .Eq) rEq:=by
 intro pins s σ H x y v u Q I rx ry h;obtain⟨hs,q⟩:=h;cases x with
 | non=>
  cases rx;cases y with
  | non=>cases ry;exact PySem.EqNone.eq_none_none (cu I q (by simp))
  | bl j=>cases ry;exact PySem.EqNone.eq_none_bool (cu I q (by simp))
  | int j=>obtain⟨t',rfl⟩:=ry;exact PySem.EqNone.eq_none_int (cu I q (by simp))
  | str j=>obtain⟨t',rfl⟩:=ry;exact PySem.EqNone.eq_none_str (cu I q (by simp))
  | _=>exact absurd (show false=true from hs) AY
 | bl i=>
  cases rx;cases y with
  | non=>cases ry;exact PySem.EqNone.eq_bool_none (cu I q (by simp))
  | bl j=>cases ry;exact eq_bool (cu I q Vq)
  | str j=>obtain⟨t',rfl⟩:=ry;exact PySem.EqMixed.eq_bool_str (cu I q (by simp))
  | _=>exact absurd (show false=true from hs) AY
 | int i=>
  obtain⟨t,rfl⟩:=rx;cases y with
  | non=>cases ry;exact PySem.EqNone.eq_int_none (cu I q (by simp))
  | int j=>obtain⟨t',rfl⟩:=ry;exact eq_int (cu I q MP)
  | str j=>obtain⟨t',rfl⟩:=ry;exact PySem.EqMixed.eq_int_str (cu I q (by simp))
  | _=>exact absurd (show false=true from hs) AY
 | str i=>
  obtain⟨t,rfl⟩:=rx;cases y with
  | non=>cases ry;exact PySem.EqNone.eq_str_none (cu I q (by simp))
  | bl j=>cases ry;exact PySem.EqMixed.eq_str_bool (cu I q (by simp))
  | int j=>obtain⟨t',rfl⟩:=ry;exact PySem.EqMixed.eq_str_int (cu I q (by simp))
  | str j=>obtain⟨t',rfl⟩:=ry;exact eq_str (cu I q MN)
  | _=>exact absurd (show false=true from hs) AY
 | byt i=>
  obtain⟨t,rfl⟩:=rx;cases y with
  | byt j=>obtain⟨t',rfl⟩:=ry;exact PySem.W.eq_bytes (cu I q MT)
  | _=>exact absurd (show false=true from hs) AY
 | _=>cases y <;> exact absurd (show false=true from hs) AY
theorem ab4:OpR X (B0 .NotEq) rNe:=by
 intro pins s σ H x y v u Q I rx ry h;obtain⟨hs,q⟩:=h;cases x with
 | non=>
  cases rx;cases y with
  | non=>cases ry;exact PySem.EqNone.ne_none_none (cu I q (by simp))
  | bl j=>cases ry;exact PySem.EqNone.ne_none_bool (cu I q (by simp))
  | int j=>obtain⟨t',rfl⟩:=ry;exact PySem.EqNone.ne_none_int (cu I q (by simp))
  | str j=>obtain⟨t',rfl⟩:=ry;exact PySem.EqNone.ne_none_str (cu I q (by simp))
  | _=>exact absurd (show false=true from hs) AY
 | bl i=>
  cases rx;cases y with
  | non=>cases ry;exact PySem.EqNone.ne_bool_none (cu I q (by simp))
  | bl j=>cases ry;exact ne_bool (cu I q (congrArg not Vq))
  | str j=>obtain⟨t',rfl⟩:=ry;exact PySem.EqMixed.ne_bool_str (cu I q (by simp))
  | _=>exact absurd (show false=true from hs) AY
 | int i=>
  obtain⟨t,rfl⟩:=rx;cases y with
  | non=>cases ry;exact PySem.EqNone.ne_int_none (cu I q (by simp))
  | int j=>obtain⟨t',rfl⟩:=ry;exact ne_int (cu I q (congrArg not MP))
  | str j=>obtain⟨t',rfl⟩:=ry;exact PySem.EqMixed.ne_int_str (cu I q (by simp))
  | _=>exact absurd (show false=true from hs) AY
 | str i=>
  obtain⟨t,rfl⟩:=rx;cases y with
  | non=>cases ry;exact PySem.EqNone.ne_str_none (cu I q (by simp))
  | bl j=>cases ry;exact PySem.EqMixed.ne_str_bool (cu I q (by simp))
  | int j=>obtain⟨t',rfl⟩:=ry;exact PySem.EqMixed.ne_str_int (cu I q (by simp))
  | str j=>obtain⟨t',rfl⟩:=ry;exact ne_str (cu I q (congrArg not MN))
  | _=>exact absurd (show false=true from hs) AY
 | byt i=>
  obtain⟨t,rfl⟩:=rx;cases y with
  | byt j=>obtain⟨t',rfl⟩:=ry;exact PySem.W.ne_bytes (cu I q (congrArg not MT))
  | _=>exact absurd (show false=true from hs) AY
 | _=>cases y <;> exact absurd (show false=true from hs) AY
theorem mX:OpR X (B0 .Lt) (rI0 fun i j=>.bl (decide (i<j))):=X6 fun _ _ _ _ _ _ _ q=>lt_int q
theorem xG:OpR X (B0 .LtE) (rI0 fun i j=>.bl (decide (i<=j))):=X6 fun _ _ _ _ _ _ _ q=>le_int q
theorem Mg:OpR X (B0 .Gt) (rI0 fun i j=>.bl (decide (j<i))):=X6 fun _ _ _ _ _ _ _ q=>gt_int q
theorem T3:OpR X (B0 .GtE) (rI0 fun i j=>.bl (decide (j<=i))):=X6 fun _ _ _ _ _ _ _ q=>ge_int q
theorem aaG:OpR X (B0 .Is) (fun x y H Q=>y=.non/\Q (.bl (decide (x=.non))) H):=by
 intro pins s σ H x y v u Q I rx ry h;obtain⟨rfl,q⟩:=h;cases ry;refine is_none_gen (cu I q ?_);cases x <;> first
  | (cases rx;rfl)
  | (obtain⟨t,rfl⟩:=rx;rfl)
theorem uR:OpR X (B0 .IsNot) (fun x y H Q=>y=.non/\Q (.bl (!decide (x=.non))) H):=by
 intro pins s σ H x y v u Q I rx ry h;obtain⟨rfl,q⟩:=h;cases ry;refine isnot_none_gen (cu I q ?_);cases x <;> first
  | (cases rx;rfl)
  | (obtain⟨t,rfl⟩:=rx;rfl)
theorem aU (b:Expr){op:IG}(h:op≠.In:=by decide)(h2:op≠.NotIn:=by decide):ET op b=false:=by
 have e1:(op == IG.In)=false:=by cases op <;> first|rfl|exact absurd rfl h
 have e2:(op == IG.NotIn)=false:=by cases op <;> first|rfl|exact absurd rfl h2
 cases b <;> simp [ET,e1,e2]
theorem XS {op:IG}{r:R2}(ho:OpR X (B0 op) r)(ha:PE X a ta)(hb:PE X b tb)(hm:ET op b=false):PE X (.Compare a [op] [b] pos) (tOp r ta tb):=by
 intro pins s σ H Q I h;exact wpAny_Compare1 (abt ha hb I h fun v u s2 x y H2 I2 rx ry q=>ho pins s2 σ H2 x y v u Q I2 rx ry q) hm
noncomputable def yQ (t:TE):TT:=fun σ H Q=>t σ H fun x H'=>∃k,x=.bl k/\Q k H'
theorem Xf {op:IG}{r:R2}(ho:OpR X (B0 op) r)(ha:PE X a ta)(hb:PE X b tb)(hm:ET op b=false):PT X (.Compare a [op] [b] pos) (yQ (tOp r ta tb)):=by
 intro pins s σ H Q I h;refine wpAny_isTrue_Compare1 (thE (ha pins s σ H _ I h) fun v s1 x H1 I1 r1 q1=>thE (hb pins s1 σ H1 _ I1 q1) fun u s2 y H2 I2 r2 q2=>
  thn (ho pins s2 σ H2 x y v u _ I2 r1 r2 q2) fun c s3 ⟨z,H3,I3,r3,k,e,q3⟩=>?_) hm
 subst e;cases r3;exact C9 ⟨H3,I3,q3⟩
noncomputable def yS (r r':R2)(ta tb tc:TE):TE:=fun σ H Q=>ta σ H fun x H1=>tb σ H1 fun y H2=>r x y H2 fun z H3=>∃k,z=.bl k /\
 (if k=true then tc σ H3 fun w' H4=>r' y w' H4 Q else Q (.bl false) H3)
theorem TQ {op op':IG}{r r':R2}(ho:OpR X (B0 op) r)(ho':OpR X (B0 op') r')(ha:PE X a ta)(hb:PE X b tb)(hc:PE X c tc)
  (hm:lastMarks [op,op'] [b,c]=false:=by with_unfolding_all rfl):PE X (.Compare a [op,op'] [b,c] pos) (yS r r' ta tb tc):=by
 intro pins s σ H Q I h;refine Compare_chain (thE (ha pins s σ H _ I h) fun v s1 x H1 I1 r1 q1=>chain_link (thE (hb pins s1 σ H1 _ I1 q1) fun u s2 y H2 I2 r2 q2=>
  thn (ho pins s2 σ H2 x y v u _ I2 r1 r2 q2) fun d s3 ⟨z,H3,I3,r3,k,e,q3⟩=>?_)) hm
 subst e;cases r3;refine C9 ?_;cases k with
 | false=>exact ite_ff ⟨.bl false,H3,I3,rfl,q3⟩
 | true=>exact ite_tt (chain_last (thn (hc pins s3 σ H3 _ I3 q3) fun w' s4 ⟨z',H4,I4,r4,q4⟩=>ho' pins s4 σ H4 y z' u w' Q I4 r2 r4 q4))
theorem S8 {op op':IG}{r r':R2}(ho:OpR X (B0 op) r)(ho':OpR X (B0 op') r')(ha:PE X a ta)(hb:PE X b tb)(hc:PE X c tc)
  (hm:lastMarks [op,op'] [b,c]=false:=by with_unfolding_all rfl):PT X (.Compare a [op,op'] [b,c] pos) (yQ (yS r r' ta tb tc)):=by
 intro pins s σ H Q I h;refine isTrue_chain (thE (ha pins s σ H _ I h) fun v s1 x H1 I1 r1 q1=>test_link (thE (hb pins s1 σ H1 _ I1 q1) fun u s2 y H2 I2 r2 q2=>
  thn (ho pins s2 σ H2 x y v u _ I2 r1 r2 q2) fun d s3 ⟨z,H3,I3,r3,k,e,q3⟩=>?_)) hm
 subst e;cases r3;refine C9 ?_;cases k with
 | false=>
  obtain⟨k',e',q'⟩:=q3;cases e';exact ite_ff ⟨H3,I3,q'⟩
 | true=>
  refine ite_tt (test_last (thn (hc pins s3 σ H3 _ I3 q3) fun w' s4 ⟨z',H4,I4,r4,q4⟩=>thn (ho' pins s4 σ H4 y z' u w' _ I4 r2 r4 q4) fun d' s5 ⟨z2,H5,I5,r5,k2,e2,q5⟩=>?_));subst e2;cases r5;exact C9 ⟨H5,I5,q5⟩
noncomputable def acY (K:AD)(x:V)(H:Hp)(k:Bool):Prop:=
 match x with
 | .non=>k=false
 | .bl b=>k=b
 | .int i=>k=(i != 0)
 | .str y=>y.length<=AQ/\k=((y.length:Int) != 0)
 | .byt y=>y.size<=AQ/\k=((y.size:Int) != 0)
 | .ref p=>(∃xs,SqL K H p xs/\k=!xs.isEmpty)\/(∃xs,SqT K H p xs/\k=!xs.isEmpty)\/∃kvs,H p=some (.dK kvs)/\k=!kvs.isEmpty
 | _=>False
theorem J6 {κ:Type}{kvs:List (κ×V)}{vs:List (κ×An)}(r:KV kvs vs):(!vs.isEmpty)=!kvs.isEmpty:=by
 cases r <;> rfl
theorem Ag {xs:List V}{its:List An}(r:Vals xs its):(!its.toArray.isEmpty)=!xs.isEmpty:=by
 cases r <;> simp
theorem Ac:(AQ:Nat)<2^63:=by rw[EZ];decide
theorem Zy:acZ X (fun x H Q=>∃k,acY X.K x H k/\Q k H):=by
 intro pins s σ H x v Q I rx h;obtain⟨k,e,q⟩:=h;have hl:=Ac;have hs:AQ=16777216:=EZ;cases x with
 | non=>
  cases rx;have e':k=false:=e;subst e';exact truthy_none ⟨H,I,q⟩
 | bl b=>
  cases rx;have e':k=b:=e;subst e';exact C9 ⟨H,I,q⟩
 | int i=>
  obtain⟨t,rfl⟩:=rx;have e':k=(i != 0):=e;subst e';exact PySem.P.truthy_int ⟨H,I,q⟩
 | str y=>
  obtain⟨t,rfl⟩:=rx;obtain⟨hy,e'⟩:y.length<=AQ/\k=((y.length:Int) != 0):=e;subst e';exact PySem.P.truthy_str ω ⟨H,I.tok _,q⟩
 | byt y=>
  obtain⟨t,rfl⟩:=rx;obtain⟨hy,e'⟩:y.size<=AQ/\k=((y.size:Int) != 0):=e;subst e';exact PySem.W.truthy_bytes ω ⟨H,I.tok _,q⟩
 | ref p=>
  cases rx;have e':(∃xs,SqL X.K H p xs/\k=!xs.isEmpty)\/(∃xs,SqT X.K H p xs/\k=!xs.isEmpty)\/∃kvs,H p=some (.dK kvs)/\k=!kvs.isEmpty:=e;rcases e' with⟨xs,hx,e'⟩|⟨xs,hx,e'⟩|⟨kvs,hx,e'⟩
  ·subst e';obtain⟨its,r,pl,hz⟩:=I.list hx;have hlen:=r.length;exact wpAny_truthy_list pl.isList (by simp only[AZ];omega) ⟨H,I.tok _,by rw[Ag r];exact q⟩
  ·subst e';obtain⟨its,r,pl,hz⟩:=I.tuple hx;have hlen:=r.length;exact truthy_tuple pl (by simp only[AZ];omega) ⟨H,I.tok _,by rw[Ag r];exact q⟩
  subst e';obtain⟨hz,hS,vs,r,m⟩:kvs.length<=AQ/\(p == EJ)=false/\∃vs,KV kvs vs/\s.heap.DictOf (cP X.prog X.w) p vs:=I.hok p _ hx;have hlen:kvs.length=vs.length:=Kj r;exact wpAny_truthy_dict hS m ω ⟨H,I.tok _,by rw[J6 r];exact q⟩
 | _=>exact(show False from e).elim
theorem vals1 {x:V}{us:List An}(r:Vals [x] us):∃u,us=[u]/\RelV x u:=by
 cases r with
 | cons r1 r2=>cases r2;exact⟨_,rfl,r1⟩
theorem vals2 {x y:V}{us:List An}(r:Vals [x,y] us):∃u w',us=[u,w']/\RelV x u/\RelV y w':=by
 cases r with
 | cons r1 r2=>
  cases r2 with
  | cons r3 r4=>cases r4;exact⟨_,_,rfl,r1,r3⟩
theorem Ih:fO X (.builtin "abs") (fun xs H Q=>∃i,xs=[.int i]/\Q (.int (if i<0 then -i else i)) H):=by
 intro pins s σ H xs us Q I r h;obtain⟨i,rfl,q⟩:=h;obtain⟨u,rfl,t,rfl⟩:=vals1 r;exact call_abs_int fun u tk=>⟨.int (if i<0 then -i else i),H,I.tok _,⟨_,rfl⟩,q⟩
theorem Qj (hc:X.calm=true):fO X (.builtin "max") (fun xs H Q=>∃i j,xs=[.int i,.int j]/\Q (.int (if j>i then j else i)) H):=by
 intro pins s σ H xs us Q I r h;obtain⟨i,j,rfl,q⟩:=h;obtain⟨u,w',rfl,⟨t,rfl⟩,⟨t',rfl⟩⟩:=vals2 r;refine max_two_ints (I.ok.hd hc) fun h' tk k=>⟨_,H,I.kept k,?_,q⟩;by_cases hj:j>i
 ·rw[if_pos hj,if_pos hj];exact⟨_,rfl⟩
 rw[if_neg hj,if_neg hj];exact⟨_,rfl⟩
theorem Qh (hc:X.calm=true):fO X (.builtin "min") (fun xs H Q=>∃i j,xs=[.int i,.int j]/\Q (.int (if j<i then j else i)) H):=by
 intro pins s σ H xs us Q I r h;obtain⟨i,j,rfl,q⟩:=h;obtain⟨u,w',rfl,⟨t,rfl⟩,⟨t',rfl⟩⟩:=vals2 r;refine min_two_ints (I.ok.hd hc) fun h' tk k=>⟨_,H,I.kept k,?_,q⟩;by_cases hj:j<i
 ·rw[if_pos hj,if_pos hj];exact⟨_,rfl⟩
 rw[if_neg hj,if_neg hj];exact⟨_,rfl⟩
theorem DR:fO X (.type "int") (fun xs H Q=>(∃i,xs=[.int i]/\Q (.int i) H)\/∃k,xs=[.bl k]/\Q (.int (if k then 1 else 0)) H):=by
 intro pins s σ H xs us Q I r h;rcases h with⟨i,rfl,q⟩|⟨k,rfl,q⟩
 ·obtain⟨u,rfl,t,rfl⟩:=vals1 r;exact call_int_int ⟨.int i,H,I,⟨_,rfl⟩,q⟩
 obtain⟨u,rfl,r1⟩:=vals1 r;cases r1;exact call_int_bool ⟨.int (if k then 1 else 0),H,I.tok _,⟨_,rfl⟩,q⟩
end
theorem wY.some_of {v:V}{o:Option An}(r:wY (some v) o):∃u,o=some u/\RelV v u:=by
 cases o with
 | none=>exact(show False from r).elim
 | some u=>exact⟨u,rfl,r⟩
structure Cls (K:AD)(C:Addr):Prop where
 pg:PySem.W.plainGet K C Str.empty=true
 hd:PySem.W.hasDictIn K C=true
 po:PySem.W.plainOver K C=true
 sa:CY K (.ref C) "__setattr__" = some (some (.builtin "object.__setattr__"))
section
variable {X:Cx}{pins:List (Addr×Obj)}{σ:St}{H:Hp}{s:AA}{a C dx:Addr}{fs:List (Str×V)}{f:Str}{v:V}{A:Bi}{E:An->AA->Prop}
theorem Za {prog:AW}{w:BB}{env:Env}{e:Expr}{f:Str}{pos:Pos}{s:AA}{Q:An->AA->Prop}(hb:DC e f env (eval e env)=eval e env)
  (h:AK (AN prog w) A (eval e env) (fun o s₁=>AK (AN prog w) A (getAttr o f true) Q E s₁) E s):AK (AN prog w) A (eval (.Attribute e f pos) env) Q E s:=
 Attribute_any_ h (by rw[arm_eval_Attribute,hb])
end
section
variable {X:Cx}{pins:List (Addr×Obj)}{σ:St}{H:Hp}{s:AA}{A:Bi}{E:An->AA->Prop}{Q:An->AA->Prop}{c:An}{b:Bool}
inductive Bh (K:AD)(H:Hp):V->An->Prop where
 | non:Bh K H .non (.type "NoneType")
 | bl (x:Bool):Bh K H (.bl x) (.type "bool")
 | int (i:Int):Bh K H (.int i) (.type "int")
 | str (x:Str):Bh K H (.str x) (.type "str")
 | flt (x:UInt64):Bh K H (.flt x) (.type "float")
 | lst {a:Addr} {xs:List V} (e:H a=some (.lst xs)):Bh K H (.ref a) (.type "list")
 | frz {a:Addr} {o:Obj} {xs:List V} (e:H a=some (.frz o (.lst xs))):Bh K H (.ref a) (.type "list")
 | tup {a:Addr} {xs:List V} (e:H a=some (.tup xs)):Bh K H (.ref a) (.type "tuple")
 | dK {a:Addr} {kvs:List (Key×V)} (e:H a=some (.dK kvs)):Bh K H (.ref a) (.type "dict")
 | dT {a:Addr} {kvs:List (List Key×V)} (e:H a=some (.dT kvs)):Bh K H (.ref a) (.type "dict")
 | ins {a C dx:Addr} {fs:List (Str×V)} (e:H a=some (.ins C dx fs)) (cl:Cls K C) (ha:CY K (.ref C) "__class__" = some (some (.builtin "object.__class__")))
   (hn:PySem.W.specialIn K (.builtin "object.__class__") "__get__" = some (some (.builtin "getset_descriptor.__get__"))) (htk:PySem.W.takesIn K (.builtin "object.__class__")=some true)
   (hm:PySem.W.mroIn K C (.type "object")=some true):Bh K H (.ref a) (.ref C)
end
structure gh (k:Nat)(A:Bi):Prop where
 hd:A.handled=none
 dp:A.depth+3*k+5<recursionLimit
 un:A.units+16*k+200<EI
 gd:A.guards=some []
theorem gh.mono {j k:Nat}{A:Bi}(r:gh k A)(h:j<=k):gh j A:=⟨r.hd,by have:=r.dp;omega,by have:=r.un;omega,r.gd⟩
theorem gh.deeper {k:Nat}{A:Bi}(r:gh (k+1) A)(env:Env):gh k (A.deeper env):=
 ⟨r.hd,by have:=r.dp;show A.depth+1+3*k+5<_;omega,by have:=r.un;show A.units+3+16*k+200<_;omega,r.gd⟩
theorem J2 {A:Bi}{C:Addr}{us:List An}{kw:List (Str×An)}:(A.under (.builtin "type.__call__" ⟨.ref C::us,kw⟩)).depth=A.depth+1:=by
 first|rfl|simp [Bi.under,Code.weight,Code.isCreation,Code.isGuard,Code.isCaller,Code.frames,Code.isFrame,guardIds]
theorem J1 {A:Bi}{C:Addr}{us:List An}{kw:List (Str×An)}:(A.under (.builtin "type.__call__" ⟨.ref C::us,kw⟩)).units=A.units+1:=by
 first|rfl|simp [Bi.under,Code.cUnits,Code.frames,Code.isFrame]
theorem gh.make {k:Nat}{A:Bi}(r:gh (k+1) A) (C:Addr) (us:List An) (kw:List (Str×An)):gh k (A.under (.builtin "type.__call__" ⟨.ref C::us,kw⟩)):=
 ⟨r.hd,by have:=r.dp;rw[J2];omega,by have:=r.un;rw[J1];omega,by have:=r.gd;first|exact this|simpa [Bi.under,Code.guards,Code.isGuard,pushGuards,guardIds] using this⟩
theorem gh.depth {k:Nat}{A:Bi}(r:gh k A):A.depth<recursionLimit:=by have:=r.dp;omega
theorem gh.bH {k:Nat}{A:Bi}(r:gh k A):A.units<EI:=by have:=r.un;omega
noncomputable def NK:TA:=fun _ H Q=>Q [] H
noncomputable def Cp (ta:TE)(tr:TA):TA:=fun σ H Q=>ta σ H fun x H1=>tr σ H1 fun xs H2=>Q (x::xs) H2
section
variable {X:Cx}{e:Expr}{es:List Expr}{te:TE}{t:TA}{pos:Pos}
theorem aaD:PA X [] NK:=fun _ _ _ _ H Q I h=>EV ⟨[],H,I,.nil,h⟩
theorem X5 (ha:PE X e te)(hr:PA X es t)(hs:AJ (e::es) X.env=(false,eval e X.env)::AJ es X.env:=by rfl):PA X (e::es) (Cp te t):=by
 intro pos pins s σ H Q I h;rw[hs];show AK _ _ (spliced ((false,eval e X.env)::CA pos (AJ es X.env))) _ _ s;refine EL (thE (ha pins s σ H _ I h) fun u s1 x H1 I1 r1 q1=>?_);exact thA (hr pos pins s1 σ H1 _ I1 q1) fun us s2 xs H2 I2 r2 q2=>⟨x::xs,H2,I2,.cons r1 r2,q2⟩
noncomputable def Q8 (t:TA):TE:=fun σ H Q=>t σ H fun xs H1=>xs.length<=AQ/\∀p,H1 p=none->Q (.ref p) (upd H1 p (.tup xs))
noncomputable def Rf (t:TA):TE:=fun σ H Q=>t σ H fun xs H1=>xs.length<=AQ/\∀p,H1 p=none->Q (.ref p) (upd H1 p (.lst xs))
theorem aaw {x1}(h:PA X es t):PE X (.Tuple es x1 pos) (Q8 t):=by
 intro pins s σ H Q I hq;refine wpAny_Tuple_spliced (thn (h pos pins s σ H _ I hq) fun us s1 ⟨xs,H1,I1,r,z,q⟩=>⟨by rw[<- r.length];exact z,?_⟩);have hf:H1 s1.heap.objs.size=none:=I1.hok.fresh (A6 _);refine⟨.ref s1.heap.objs.size,upd H1 s1.heap.objs.size (.tup xs),I1.laid (t':=s1.toks) (fun b u e=>AF _ e) (A6 _) ?_,rfl,q _ hf⟩;exact⟨z,us,r,⟨_,BA _ rfl,rfl,_,rfl⟩⟩
theorem aaz (h:PA X es t):PE X (.List es pos) (Rf t):=by
 intro pins s σ H Q I hq;refine wpAny_List_spliced (thn (h pos pins s σ H _ I hq) fun us s1 ⟨xs,H1,I1,r,z,q⟩=>⟨by rw[<- r.length];exact z,?_⟩);have hf:H1 s1.heap.objs.size=none:=I1.hok.fresh (A6 _);refine⟨.ref s1.heap.objs.size,upd H1 s1.heap.objs.size (.lst xs),I1.laid (t':=s1.toks) (fun b u e=>AF _ e) (A6 _) ?_,rfl,q _ hf⟩;exact⟨z,us,0,r,BA _ rfl⟩
end
noncomputable abbrev Sp:=List V->Hp->VK->XK->Prop
noncomputable abbrev CXT:=List Env->Hp->AA->XK->An->AA->Prop
structure KR (P:AW)(w:BB)(K:AD)(mg:Str->Option An)(base:Heap)(A:Bi)(outer:List Env)(s:AA)(H:Hp):Prop where
 frames:A.frames=some outer
 mod:Mod K mg base
 bs:∀b o,base.get? b=some o->s.heap.get? b=some o/\H b=none
 bsz:base.objs.size<=s.heap.objs.size
 oN:s.heap.FunFrames base outer
 frf:∀b∈frs outer,H b=none
 hok:HOk P w H s.heap
 bare:Go s.gens
noncomputable def CE (outer:List Env)(P:AW)(w:BB)(H:Hp)(s:AA)(Q:VK)(u:An)(s':AA):Prop:=
 ∃v H',s'.os=s.os/\Go s'.gens/\Un (frs outer) [] H H' s.heap s'.heap/\HOk P w H' s'.heap/\RelV v u/\Q v H'
noncomputable def CR (CX:CXT)(outer:List Env)(P:AW)(w:BB)(H:Hp)(s:AA)(Q:VK)(E:XK)(r:Result)(s':AA):Prop:=
 match r with
 | .ok (.ret u)=>CE outer P w H s Q u s'
 | .ok _=>False
 | .error e=>CX outer H s E e s'
structure cQ (P:AW)(w:BB)(K:AD)(mg:Str->Option An)(base:Heap)(CX:CXT)(k:Nat)(f:Addr)(fd:Co)(ps:List Str)(sp:Sp):Prop where
 len:∀vs H Q E,sp vs H Q E->vs.length=ps.length
 run:∀(A:Bi)(outer:List Env)(s:AA)(H:Hp)(args:Args)(us:List An)(vs:List V)(Q:VK)(E:XK),gh k A->KR P w K mg base A outer s H->BindsTo s fd args (ps.zip us)->Vals vs us->sp vs H Q E ->
  HL (AN P w) A (.call (.ref f) args) (CR CX outer P w H s Q E) s
theorem KR.make {P:AW}{w:BB}{K:AD}{mg:Str->Option An}{base:Heap}{A:Bi}{outer:List Env}{s:AA}{H:Hp}(e:KR P w K mg base A outer s H)(C:Addr)(us:List An)(kw:List (Str×An)) :
  KR P w K mg base (A.under (.builtin "type.__call__" ⟨.ref C::us,kw⟩)) outer s H:=⟨by first|exact e.frames|(simpa [Bi.under,Code.envs,Code.isFrame,pushEnvs] using e.frames),e.mod,e.bs,e.bsz,e.oN,e.frf,e.hok,e.bare⟩
section
variable {X:Cx}{pins:List (Addr×Obj)}{σ:St}{H:Hp}{s s':AA}
theorem Inv.env0 (I:Inv X pins σ H s):KR X.prog X.w X.K X.mg X.base X.A X.stack s H:=
 ⟨I.ok.frames,I.ok.mod,I.bs,BQ I.ok.bsz I.sz,I.stack,I.ur,I.hok,I.bare⟩
theorem Inv.after {Q:VK}{u:An}(I:Inv X pins σ H s)(h:CE X.stack X.prog X.w H s Q u s'):EP X pins σ Q u s':=by
 obtain⟨v,H',os,bare,un,hok,r,q⟩:=h;obtain⟨hh,g,d,t,os'⟩:=s';obtain rfl:os'=s.os:=os;exact⟨v,H',I.call (h':=hh) (g':=g) (d':=d) (t':=t) (ch:=[]) un hok bare (fun b z=>absurd z (by simp)),r,q⟩
end
noncomputable def uq (sp:Sp)(dvs:List V)(E:XK)(t:TA):TE:=fun σ H Q=>t σ H fun vs H1=>sp (vs++dvs) H1 Q E
noncomputable def Binds (K:AD)(fd:Co)(ps:List Str)(ds:List An):Prop:=
 ∀(s:AA)(us:List An),K.In s.heap->(us++ds).length=ps.length->BindsTo s fd ⟨us,[]⟩ (ps.zip (us++ds))
theorem Binds.all {K:AD}{fd:Co}{ps:List Str}(h:∀us:List An,us.length=ps.length->bindArgs fd ⟨us,[]⟩=pure (ps.zip us)):Binds K fd ps []:=fun s us _ hl=>by
 rw[C4] at hl |-;exact .of_eq (h us hl)
noncomputable def qI (CX:CXT)(X:Cx)(E:XK):Prop:=∀(pins:List (Addr×Obj)) (σ:St) (H:Hp) (s:AA) (e:An) (s':AA),Inv X pins σ H s->CX X.stack H s E e s'->X.xe e s'
section
variable {X:Cx}{CX:CXT}{k:Nat}{f C:Addr}{fd:Co}{ps:List Str}{sp:Sp}{dvs:List V}{ds:List An}{E:XK}{x m:Str}{p pos apos:Pos}{e o:Expr}{es:List Expr}{ta:TE}{t:TA}
theorem ZV {pins:List (Addr×Obj)}{σ:St}{H:Hp}{s:AA}{Q:VK}{us:List An}{vs:List V}(F:cQ X.prog X.w X.K X.mg X.base CX k f fd ps sp)(hr:gh k X.A)(hb:Binds X.K fd ps ds)(hd:Vals dvs ds)(hx:qI CX X E)
  (I:Inv X pins σ H s) (r:Vals vs us) (h:sp (vs++dvs) H Q E):AK (AN X.prog X.w) X.A (call (.ref f) us) (EP X pins σ Q) X.xe s:=by
 have r2:Vals (vs++dvs) (us++ds):=r.append hd;have hl:(us++ds).length=ps.length:=by rw[<- r2.length];exact F.len _ _ _ _ h
 refine GL (GB (F.run X.A X.stack s H ⟨us,[]⟩ (us++ds) (vs++dvs) Q E hr I.env0 (hb s us I.kIn hl) r2 h) fun r s' hq=>?_);cases r with
 | error e=>exact hx pins σ H s e s' I hq
 | ok fl=>
  cases fl with
  | ret u=>exact I.after hq
  | next=>exact DJ hq
  | brk=>exact DJ hq
  | cont=>exact DJ hq
theorem Mf (F:cQ X.prog X.w X.K X.mg X.base CX k f fd ps sp)(hr:gh k X.A)(hg:Gl X x)(hm:X.mg x=some (.ref f))(hk:CB X.K (.ref f)=true)(hb:Binds X.K fd ps ds)(hd:Vals dvs ds)(hx:qI CX X E)
  (ha:PA X (e::es) t) (hdb:(x == ("__debug__" : Str))=false:=by decide) (he:AJ (e::es) X.env=(false,eval e X.env)::AJ es X.env:=by rfl) (hpl:(CA pos (AJ es X.env)).any (·.1)=false:=by rfl) :
  PE X (.Call (.Name x p) (e::es) [] pos) (uq sp dvs E t):=by
 intro pins s σ H Q I h;refine EM (Fq I hg hm ?_ hdb);refine PySem.W.callWith_K (h₀:=X.base) I.ok.mod.kin hk (thA (ha pos pins s σ H _ I h) fun us s1 vs H1 I1 r q=>⟨I1.kIn,?_⟩) he hpl;exact ZV F hr hb hd hx I1 r q
end
noncomputable def PK (X:Cx)(kws:List FC)(t:TA):Prop:=
 ∀(pos:Pos)(pins:List (Addr×Obj)) (s:AA) (σ:St) (H:Hp) (Q:List V->Hp->Prop),Inv X pins σ H s->t σ H Q->AK (AN X.prog X.w) X.A (evalAll ((EE pos (C6 kws X.env)).map (·.2))) (AP X pins σ Q) X.xe s
section
variable {X:Cx}{CX:CXT}{k:Nat}{f C:Addr}{fd:Co}{ps ks:List Str}{sp:Sp}{E:XK}{x m:Str}{p pos apos kpos:Pos}{e o:Expr}{es:List Expr}{kws:List FC}{te ta:TE}{t tk:TA}{nm:Option Str}
theorem aaq:PK X [] NK:=fun _ _ _ _ H Q I h=>wpAny_evalAll_nil ⟨[],H,I,.nil,h⟩
theorem Xv (ha:PE X e te)(hr:PK X kws t):PK X (⟨nm,e,kpos⟩::kws) (Cp te t):=by
 intro pos pins s σ H Q I h;show AK _ _ (evalAll ((do let v <- eval e X.env;GA pos;pure v)::(EE pos (C6 kws X.env)).map (·.2))) _ _ s;refine wpAny_evalAll_cons (Ap (thE (ha pins s σ H _ I h) fun u s1 x H1 I1 r1 q1=>Ap (Ex (AE ?_))));exact thA (hr pos pins s1 σ H1 _ I1 q1) fun us s2 xs H2 I2 r2 q2=>⟨x::xs,H2,I2,.cons r1 r2,q2⟩
variable {g:List An->List An->List An}{gV:List V->List V->List V}
end
structure bx (N P:List Str)(sc:Ff):Prop where
 kind:sc.kind=.function
 co:sc.isCoroutine=false
 gen:sc.isGenerator=false
 nd:N.Nodup
 pre:N.take P.length=P
 par:∀x∈P,sc.names.lookup x=some .local\/sc.names.lookup x=some .cell
 nofree:∀y∈sc.names,y.2≠.free
theorem DY {kindOf:Str->Option C7}{x:Str}:∀{binds:List (Str×An)}{m:Str->Option An},(∀v,(x,v)∉binds)->bindL kindOf binds m x=m x
 | [],_,_=>rfl
 | (n,v)::r,m,h=>by
  unfold bindL;rw[DY fun w hw=>h w (AH _ hw)];split
  ·have:x≠n:=by rintro rfl;exact h v AM
   simp [this]
  rfl
theorem Eb {kindOf:Str->Option C7}{x:Str}:∀{binds:List (Str×An)}{m:Str->Option An},(∀v,(x,v)∉binds)->bindC kindOf binds m x=m x
 | [],_,_=>rfl
 | (n,v)::r,m,h=>by
  unfold bindC;rw[Eb fun w hw=>h w (AH _ hw)];split
  ·rfl
  have:x≠n:=by rintro rfl;exact h v AM
  simp [this]
theorem Ea {kindOf:Str->Option C7}{x:Str}{v:An}:∀{P:List Str}{vs:List An}{i:Nat}{m:Str->Option An},P.Nodup->P[i]?=some x->vs[i]?=some v->kindOf x=some .local ->
  bindL kindOf (P.zip vs) m x=some v
 | [],_,_,_,_,h,_,_=>by simp at h
 | _::_,[],_,_,_,_,h,_=>by simp at h
 | p::P,w::vs,0,m,nd,h1,h2,hk=>by
  simp at h1 h2;subst h1;subst h2;show bindL kindOf ((p,w)::P.zip vs) m p=_;unfold bindL;rw[DY fun v hv=>(Fk.mp nd).1 (of_mem_zip hv).1,if_pos hk];simp
 | p::P,w::vs,i+1,m,nd,h1,h2,hk=>by
  show bindL kindOf ((p,w)::P.zip vs) m x=_;unfold bindL;exact Ea (i:=i) (Fk.mp nd).2 (by simpa using h1) (by simpa using h2) hk
theorem Ec {kindOf:Str->Option C7}{x:Str}{v:An}:∀{P:List Str}{vs:List An}{i:Nat}{m:Str->Option An},P.Nodup->P[i]?=some x->vs[i]?=some v->kindOf x≠some .local ->
  bindC kindOf (P.zip vs) m x=some v
 | [],_,_,_,_,h,_,_=>by simp at h
 | _::_,[],_,_,_,_,h,_=>by simp at h
 | p::P,w::vs,0,m,nd,h1,h2,hk=>by
  simp at h1 h2;subst h1;subst h2;show bindC kindOf ((p,w)::P.zip vs) m p=_;unfold bindC;rw[Eb fun v hv=>(Fk.mp nd).1 (of_mem_zip hv).1,if_neg hk];simp
 | p::P,w::vs,i+1,m,nd,h1,h2,hk=>by
  show bindC kindOf ((p,w)::P.zip vs) m x=_;unfold bindC;exact Ec (i:=i) (Fk.mp nd).2 (by simpa using h1) (by simpa using h2) hk
noncomputable def start (N:List Str)(vs:List V):St:=vs.map some++A5 (N.length-vs.length) none
noncomputable def yx (CX:CXT)(P:AW)(w:BB)(K:AD)(mg:Str->Option An)(base:Heap)(N:List Str)(qual:Str)(scope:Ff)(f:Addr)(cd:An)(A:Bi)(outer:List Env)(s:AA)(H:Hp)(E:XK):Cx where
 prog:=P
 w:=w
 K:=K
 mg:=mg
 base:=base
 A:=A.deeper (EA qual scope s.heap.objs.size f cd)
 N:=N
 s₀:=s
 H₀:=H
 env:=EA qual scope s.heap.objs.size f cd
 outer:=outer
 stack:=EA qual scope s.heap.objs.size f cd::outer
 ex:=[]
 calm:=true
 fn:=fun _=>true
 pn:=[]
 xe:=fun e s'=>AK (AN P w) (A.deeper (EA qual scope s.heap.objs.size f cd)) (leaving (EA qual scope s.heap.objs.size f cd) e) (fun _ s''=>CX outer H s E e s'') (fun e' s''=>CX outer H s E e' s'') s'
theorem Ig {sc:Ff}{n:Nat}{x:Str}(h:sc.names.lookup x=some .cell):∃c,(cellsFrom n sc.names []).lookup x=some c:=by
 have q:=PySem.W.cellsFrom_some sc.names n [] (.inl h);exact Option.isSome_iff_exists.mp q
theorem Pu {CX:CXT}{P:AW}{w:BB}{K:AD}{mg:Str->Option An}{base:Heap}{N ps:List Str}{qual:Str}{scope:Ff}{f:Addr}{cd:An}{A:Bi}{outer:List Env}{s s1:AA}{H:Hp}{E:XK}{us:List An}{vs:List V}
  (S:bx N ps scope) (hd:A.handled=none) (e0:KR P w K mg base A outer s H) (hl:vs.length=ps.length) (r:Vals vs us)
  (x:InCallC s s.heap.objs.size (bindL (EA qual scope s.heap.objs.size f cd).kindOf (ps.zip us) fun _=>none) (cellsFrom (s.heap.objs.size+1) scope.names []) (bindC (EA qual scope s.heap.objs.size f cd).kindOf (ps.zip us) fun _=>none) s1) :
  Inv (yx CX P w K mg base N qual scope f cd A outer s H E) [] (start N vs) H s1:=by
 have hpl:ps.length<=N.length:=by have:=congrArg List.length S.pre;rw[E2] at this;omega
 obtain⟨h1,tk,rfl,hk⟩:=x.done;have noA:∀b:Addr,b∉(yx CX P w K mg base N qual scope f cd A outer s H E).ex:=fun b z=>absurd (show b∈([]:List Addr) from z) (by simp);refine⟨⟨e0.mod,S.kind,rfl,rfl,A6 _,fun y z c h1 h2=>?_,fun y hy=>?_,fun y c _ h=>?_,fun _=>hd,Bi.frames_deeper e0.frames,.inr ⟨rfl,rfl⟩,fun b z=>absurd z (noA b),e0.bs,e0.bsz,fun b _ _=>noA b,fun b z=>absurd z (noA b),e0.oN,e0.frf⟩,
  rfl,e0.bare,Un.kept hk,⟨_,x.toInCall.ns,fun i y v h1 h2 h3=>?_⟩,fun y c h=>⟨_,x.cell y c h⟩,e0.hok.fresh (A6 _),fun y c h=>?_,fun p hp=>absurd (show p∈([]:List (Addr×Obj)) from hp) (by simp),e0.hok.kept hk,?_⟩
 ·exact name_of_addr x.apart (CO h1) (CO h2)
 ·have hy:scope.names.lookup y=some .cell\/scope.names.lookup y=some .free:=hy;rcases hy with hy|hy
  ·exact Ig hy
  exact absurd rfl (S.nofree _ (CO hy))
 ·exact le_of_lt (x.above y c (CO h))
 ·have hi:i<vs.length:=by
   unfold start at h2;by_cases hi:i<vs.length
   ·exact hi
   rw[BH (by simpa using hi)] at h2;rw[List.getElem?_replicate] at h2;split at h2 <;> cases h2
  have ha:vs[i]?=some v:=by
   unfold start at h2;rw[C8 (by simpa using hi),A4] at h2;cases e:vs[i]? with
   | none=>rw[e] at h2;cases h2
   | some a=>rw[e] at h2;cases h2;rfl
  obtain⟨u,hu,rv⟩:=r.get ha;have hp:ps[i]?=some y:=by
   rw[<- S.pre,List.getElem?_take_of_lt ω];exact h1
  have ndP:ps.Nodup:=by rw[<- S.pre];exact S.nd.sublist (List.take_sublist _ _)
  refine⟨u,rv,?_⟩;rcases S.par y (A2 hp) with k|k
  ·exact .inl ⟨k,Ea ndP hp hu k⟩
  obtain⟨c,e⟩:=Ig (n:=s.heap.objs.size+1) k;refine .inr ⟨.inl k,c,e,?_⟩;have q:=x.cell y c e;rw[Ec ndP hp hu (by show scope.names.lookup y≠_;rw[k];decide)] at q;exact q
 ·exact e0.hok.fresh (le_of_lt (x.above y c (CO h)))
 unfold start;show _=N.length;rw[AR,AI,DB];omega
theorem Zr {CX:CXT}{P:AW}{w:BB}{K:AD}{mg:Str->Option An}{base:Heap}{k:Nat}{f:Addr}{name qual:Str}{params:Arguments}{body:List Stmt}{scope:Ff}{dV kV doc pm cdv ct oc:An}{an od:Option Addr}
  {osl:Array (Option An)} {N ps:List Str} {sp:Sp} (lk:K.lookup f=some ⟨oc,od,.func (fnOf name qual params body scope dV kV doc pm an cdv ct),osl⟩) (hcd:CC K cdv qual=true) (S:bx N ps scope)
  (len:∀vs H Q E,sp vs H Q E->vs.length=ps.length)
  (hbody:∀(A:Bi)(outer:List Env)(s:AA)(H:Hp)(vs:List V)(Q:VK)(E:XK),gh k (A.deeper (EA qual scope s.heap.objs.size f cdv))->sp vs H Q E ->
   ∃t,PSs (yx CX P w K mg base N qual scope f cdv A outer s H E) body t/\t { nx:=fun _ H'=>Q .non H',rt:=Q } (start N vs) H) :
  cQ P w K mg base CX (k+1) f (fnOf name qual params body scope dV kV doc pm an cdv ct) ps sp:=by
 refine⟨len,fun A outer s H args us vs Q E hr e0 hb r hsp=>?_⟩;have hl:=len _ _ _ _ hsp;have KX:K.In s.heap:=e0.mod.kin.keeps fun b o e=>(e0.bs b o e).1;have lim:s.heap.NoLimit:=e0.mod.nolimit.keeps fun b o e=>(e0.bs b o e).1;have hkind:∀y∈ps.zip us,scope.names.lookup y.1=some .local\/(scope.names.lookup y.1=some .cell/\((cellsFrom (s.heap.objs.size+1) scope.names []).lookup y.1).isSome=true):=fun⟨n,v⟩ hy=>by
  rcases S.par n (of_mem_zip hy).1 with q|q
  ·exact .inl q
  exact .inr ⟨q,PySem.W.cellsFrom_some _ _ _ (.inl q)⟩
 refine codeAny_call_function hr.depth (KX _ _ lk) rfl S.co S.gen rfl (PySem.W.codeRec_of KX hcd) (hb _ _ _ _ ?_);refine wpAny_newFunctionEnv_cells S.kind hkind fun env he s1 x=>?_;subst he;refine⟨lim.keeps x.toInCall.keep,codeAny_func ?_⟩;obtain⟨t,ht,hq⟩:=hbody A outer s H vs Q E (hr.deeper _) hsp;have I:Inv (yx CX P w K mg base N qual scope f cdv A outer s H E) [] (start N vs) H s1:=Pu S hr.hd e0 hl r x;refine B5 (ht [] s1 (start N vs) H _ I hq) (fun fl s' hs=>?_) fun e s' hs=>hs;have fin:∀{σ':St}{H':Hp}{v:V}{u:An},Inv (yx CX P w K mg base N qual scope f cdv A outer s H E) [] σ' H' s'->RelV v u->Q v H'->CE outer P w H s Q u s':=
  fun {σ' H' v u} J rv q=>⟨v,H',J.os,J.bare,J.base,J.hok,rv,q⟩
 cases fl with
 | ret u=>
  obtain⟨v,σ',H',J,rv,q⟩:=hs;exact fin J rv q
 | next=>
  obtain⟨σ',H',J,q⟩:=hs;exact fin (v:=V.non) (u:=An.none) J rfl q
 | brk=>
  obtain⟨_,_,_,q⟩:=hs;exact DJ q
 | cont=>
  obtain⟨_,_,_,q⟩:=hs;exact DJ q
section
variable {X:Cx}{x:Str}{p pos:Pos}{e:Expr}{es:List Expr}{t:TA}{id T:String}{r:List V->Hp->VK->Prop}
noncomputable def tCB (r:List V->Hp->VK->Prop)(t:TA):TE:=fun σ H Q=>t σ H fun vs H1=>r vs H1 Q
theorem TV (hc:fO X (.builtin id) r) (hg:Gl X x) (hm:X.mg x=none) (hv:EK x=some (.builtin id)) (ha:PA X (e::es) t) (hn:x ≠ "__name__" := by decide) (hdb:(x == ("__debug__" : Str))=false:=by decide)
  (he:AJ (e::es) X.env=(false,eval e X.env)::AJ es X.env:=by rfl) (hpl:(CA pos (AJ es X.env)).any (·.1)=false:=by rfl):PE X (.Call (.Name x p) (e::es) [] pos) (tCB r t):=by
 intro pins s σ H Q I h;refine EM (mH I hg hm hv ?_ hn hdb);exact PyProof.Rows.callWith_builtin1 (thA (ha pos pins s σ H _ I h) fun us s1 vs H1 I1 r1 q1=>hc pins s1 σ H1 vs us Q I1 r1 q1) he hpl
theorem Oq (hc:fO X (.type T) r) (hg:Gl X x) (hm:X.mg x=none) (hv:EK x=some (.type T)) (ha:PA X (e::es) t) (hn:x ≠ "__name__" := by decide) (hdb:(x == ("__debug__" : Str))=false:=by decide)
  (he:AJ (e::es) X.env=(false,eval e X.env)::AJ es X.env:=by rfl) (hpl:(CA pos (AJ es X.env)).any (·.1)=false:=by rfl):PE X (.Call (.Name x p) (e::es) [] pos) (tCB r t):=by
 intro pins s σ H Q I h;refine EM (mH I hg hm hv ?_ hn hdb);exact B9 (thA (ha pos pins s σ H _ I h) fun us s1 vs H1 I1 r1 q1=>hc pins s1 σ H1 vs us Q I1 r1 q1) he hpl
end
end L2
namespace HT
open PySem PyProof.Rows
noncomputable def lexLt:List Int->List Int->Bool
 | [],[]=>false
 | [],_::_=>true
 | _::_,[]=>false
 | x::xs,y::ys=>if x=y then lexLt xs ys else decide (x<y)
theorem tU (x y:Int)(xs ys:List Int):lexLt (x::xs) (y::ys)=if x=y then lexLt xs ys else decide (x<y):=rfl
theorem sI:lexLt [] []=false:=rfl
theorem Ad (y:Int)(ys:List Int):lexLt [] (y::ys)=true:=rfl
theorem Ae (x:Int)(xs:List Int):lexLt (x::xs) []=false:=rfl
theorem Vk (A:Bi)(s:AA)(a:Int)(t:Tok)(c:Int)(u:Tok):∃e,BM A s (.int a t) (.int c u) e/\(e=true↔a=c):=
 ⟨(a == c),BM.int_int a t c u,by simp⟩
theorem RV (A:Bi)(s:AA)(a:Int)(t:Tok)(c:Int)(u:Tok)(prog:AW)(w:BB)(E:An->AA->Prop)(Q:An->AA->Prop)(h:Q (.bool (decide (a<c))) s) :
  AK (AN prog w) A (richCompare .Lt (.int a t) (.int c u)) Q E s:=
 (PyProof.Rows.lt_int h:AK (AN prog w) A (B0 .Lt (.int a t) (.int c u)) Q E s)
section
open PySem.SeqAt
open PySem.AutoSeq1 (wpAny_loadPart')
open PySem.MeetsSeq PySem.MeetsSeq2 PySem.MeetsSeq3
theorem Bl (l b:Addr)(items items2:Array An)(n n2:Nat)(dd dd2:Option Addr)(sl sl2:Array (Option An))(ns ms:List Int)(hi:Fh items.toList ns)(hj:Fh items2.toList ms) :
  Meets (A7.«tuple.__lt__» ⟨[.ref l,.ref b],[]⟩)
   (fun _ R s=>s.heap.get? l=some { cls:=.type "tuple",dict:=dd,data:=.seq items n,slots:=sl }/\s.heap.get? b=some { cls:=.type "tuple",dict:=dd2,data:=.seq items2 n2,slots:=sl2 } /\
    R (.ok (.ret (.bool (lexLt ns ms)))) s):=
 .of_wp fun prog w A R s h=>by
  obtain⟨hp,g,d,tk,os⟩:=s;obtain⟨hl,hb,h⟩:=h;have f2:=AutoSeq1.sub_tuple_tuple;have z1:items.size=ns.length:=by rw[<- hi.length];simp
  have z2:items2.size=ms.length:=by rw[<- hj.length];simp
  wp_walk using wpAny_loadPart' hl,wpAny_loadPart' hb,wpAny_forIn_list _ (fun rest b s'=>b.1=none/\s'=⟨hp,g,d,tk,os⟩/\∃(vs ws:List An)(ns' ms':List Int),rest=vs.zip ws /\
   Fh vs ns'/\Fh ws ms'/\ns'.length+items2.size=ms'.length+items.size/\R (.ok (.ret (.bool (lexLt ns' ms')))) ⟨hp,g,d,tk,os⟩) _
  case turn=>
   rintro⟨y,x⟩ rest b s' ⟨hb',rfl,vs,ws,ns',ms',hz,hvi,hwi,hlen,hR⟩;cases hvi with
   | nil=>rw[List.zip_nil_left] at hz;cases hz
   | cons a t hvi'=>
    cases hwi with
    | nil=>rw[List.zip_nil_right] at hz;cases hz
    | cons c u hwi'=>
     rw[List.zip_cons_cons] at hz;injection hz with hyx hrest;injection hyx with hy hx;subst hy hx;rw[tU] at hR;simp only[Be] at hlen;obtain⟨e,he,hiff⟩:=Vk A.in1 ⟨hp,g,d,tk,os⟩ a t c u;refine Ap (he prog w _ _ ?_);cases e with
     | true=>
      rw[if_pos (hiff.mp rfl)] at hR
      wp_walk
      exact⟨rfl,rfl,_,_,_,_,hrest,hvi',hwi',ω,hR⟩
     | false=>
      rw[if_neg (fun q=>absurd (hiff.mpr q) AY)] at hR;have hri:=RV A.in1 ⟨hp,g,d,tk,os⟩ a t c u prog w
      wp_walk using hri
      exact⟨_,rfl,by simpa using hR⟩
  case fin=>
   rintro⟨b1,b2⟩ s' ⟨hb',rfl,vs,ws,ns',ms',hz,hvi,hwi,hlen,hR⟩;simp only at hb';subst hb';have hv:lexLt ns' ms'=decide (items.size<items2.size):=by
    cases hvi with
    | nil=>
     cases hwi with
     | nil=>
      simp only[FS] at hlen;rw[sI];exact(decide_eq_false ω).symm
     | cons c u hw=>
      simp only[FS,Be] at hlen;rw[Ad];exact(decide_eq_true ω).symm
    | cons a t hv=>
     cases hwi with
     | nil=>
      simp only[FS,Be] at hlen;rw[Ae];exact(decide_eq_false ω).symm
     | cons c u hw=>
      rw[List.zip_cons_cons] at hz;cases hz
   rw[hv] at hR
   wp_walk
   exact⟨_,rfl,by simpa [A7.Tuple.tupleCompareSizes] using hR⟩
  case h=>
   exact⟨rfl,rfl,items.toList,items2.toList,ns,ms,rfl,hi,hj,ω,h⟩
end
section
variable {prog:AW}{w:BB}{A:Bi}{E:An->AA->Prop}{s:AA}
noncomputable def sIx (n d:Nat):Option Int->Nat
 | none=>d
 | some v=>if v<0 then (v+(n:Int)).toNat else min v.toNat n
theorem ZR (n d:Nat)(hd:d<=n)(o:Option Int):sIx n d o<=n:=by
 cases o with
 | none=>exact hd
 | some v=>
  show(if v<0 then (v+(n:Int)).toNat else min v.toNat n)<=n;by_cases hv:v<0
  ·rw[if_pos hv];omega
  rw[if_neg hv];exact Nat.min_le_right _ _
theorem M9 (v:Int)(n d:Nat):(if v<0 then max (v+(n:Int)) 0 else min v (n:Int))=((sIx n d (some v):Nat):Int):=by
 show(if v<0 then max (v+(n:Int)) 0 else min v (n:Int))=(((if v<0 then (v+(n:Int)).toNat else min v.toNat n):Nat):Int);by_cases hv:v<0
 ·simp only[if_pos hv];omega
 simp only[if_neg hv];omega
theorem KH (lo hi:Option Int)(n:Nat):A7.Slice.sliceAdjust lo hi 1 (n:Int)=(((sIx n 0 lo:Nat):Int),((sIx n n hi:Nat):Int)):=by
 have h1:¬((1:Int)<0):=ω;unfold A7.Slice.sliceAdjust;simp only[h1,if_false];refine Prod.ext ?_ ?_
 ·cases lo with
  | none=>rfl
  | some v=>exact M9 v n 0
 cases hi with
 | none=>rfl
 | some v=>exact M9 v n n
theorem Jw (i j:Nat):A7.Slice.slicePlaces (i:Int) (j:Int) 1=j-i:=by
 unfold A7.Slice.slicePlaces;have h1:(1:Int)>0:=ω;simp only[h1,if_true,Int.ediv_one];split <;> omega
theorem yU {v:An}{o:Option Int}{Q:Option Int->AA->Prop}(p:IsPart v o)(h:Q o s):AK (AN prog w) A (A7.Slice.slicePartIndex v) Q E s:=by
 cases p with
 | none=>exact slicePart_none h
 | int i t=>exact slicePart_int h
theorem vU {sl:Addr}{vl vu:An}{lo hi:Option Int}{n:Nat}{Q:Int×Int×Nat->AA->Prop}(hs:s.heap.IsSliceOf sl vl vu .none)(pl:IsPart vl lo)(pu:IsPart vu hi)
  (h:Q (((sIx n 0 lo:Nat):Int),1,sIx n n hi-sIx n 0 lo) s):AK (AN prog w) A (A7.Slice.sliceApplied (.ref sl) (pure (n:Int))) Q E s:=by
 obtain⟨os,hos,hcs,hds⟩:=id hs;unfold A7.Slice.sliceApplied A7.Slice.sliceFields;refine Ap (Ap (B7 hos hds (x:=vl) rfl (Ap (B7 hos hds (x:=vu) rfl (Ap (B7 hos hds (x:=.none) rfl (AE ?_)))))));refine Ap (slicePart_none ?_);show AK _ _ (if ((1:Int) == 0)=true then _ else _) _ _ s;rw[if_neg δ];refine Ap (yU pl (Ap (yU pu (Ap (AE ?_)))));show AK _ _ (match A7.Slice.sliceAdjust lo hi 1 (n:Int) with|(lo,hi)=>pure (lo,(1:Int),A7.Slice.slicePlaces lo hi 1)) _ _ s
 rw[KH lo hi n];show AK _ _ (pure (((sIx n 0 lo:Nat):Int),(1:Int),A7.Slice.slicePlaces ((sIx n 0 lo:Nat):Int) ((sIx n n hi:Nat):Int) 1)) _ _ s;rw[Jw];exact AE h
theorem Tg (xs:Array An)(i k:Nat):((AU k).filterMap fun(m:Nat)=>xs[((i:Int)+(m:Int)*1).toNat]?).toArray=((xs.toList.drop i).take k).toArray:=by
 have e:(fun(m:Nat)=>xs[((i:Int)+(m:Int)*1).toNat]?)=fun m=>xs[i+m]?:=by
  funext m;have:((i:Int)+(m:Int)*1).toNat=i+m:=by omega
  rw[this]
 rw[e];have:=pick_run xs i k;rw[filterMap_map] at this;have e2:((fun x=>xs[x]?)∘fun x=>i+x)=fun m=>xs[i+m]?:=rfl;rw[e2] at this;rw[this]
theorem vg {t sl:Addr}{items:Array An}{vl vu:An}{lo hi:Option Int}{Q:An->AA->Prop}(ht:IsTup s.heap t items)(hs:s.heap.IsSliceOf sl vl vu .none)(pl:IsPart vl lo)(pu:IsPart vu hi)
  (hw:¬(sIx items.size 0 lo=0/\sIx items.size items.size hi=items.size))
  (h:Q (.ref s.heap.objs.size) { s with heap:=s.heap.push { cls:=.type "tuple",data:=.seq ((items.toList.drop (sIx items.size 0 lo)).take (sIx items.size items.size hi-sIx items.size 0 lo)).toArray } })
  (hsz:items.size<=AQ):AK (AN prog w) A (JA (.ref t) (.ref sl)) Q E s:=by
 have htake:sizeOk (.seq ((items.toList.drop (sIx items.size 0 lo)).take (sIx items.size items.size hi-sIx items.size 0 lo)).toArray):=by
  show((items.toList.drop (sIx items.size 0 lo)).take (sIx items.size items.size hi-sIx items.size 0 lo)).toArray.size<=AQ;rw[AZ,E2,IH,Kn];omega
 have hj:sIx items.size items.size hi<=items.size:=ZR _ _ (A6 _) hi;obtain⟨os,hos,hcs,hds⟩:=id hs;have hTs:s.TypeIs (.ref sl) "slice" := ⟨os,hos,hcs⟩;unfold JA
 try with_reducible refine B8 ?_
 first|refine Ap (AE ?_)|skip
 refine Ap (wpAny_sequenceKey ht.typeIs δ ?_);refine Ap (Fm (name:=HM "__getitem__") ht.typeIs FM
  (FU FM ht.typeIs entry_tuple_getitem ?_ (args_tuple_getitem _ _)))
 show AK _ _ (A7.Tuple.tupleItemsOf (.ref t) >>= _) _ _ s;refine Ap (tupleItemsOf_ ht ?_);refine Ap (wpAny_typeOf hTs ?_);rw[if_pos δ];refine Ap (vU hs pl pu ?_);have hno:¬((((sIx items.size 0 lo:Nat):Int) == 0&&(1:Int) == 1&&(sIx items.size items.size hi-sIx items.size 0 lo) == items.size)=true):=by
  intro q;rw[Cc,Cc] at q;have q1:((sIx items.size 0 lo:Nat):Int)=0:=eq_of_beq q.1.1;have q2:sIx items.size items.size hi-sIx items.size 0 lo=items.size:=eq_of_beq q.2;exact hw ⟨ω,ω⟩
 show AK _ _ (if (((sIx items.size 0 lo:Nat):Int) == 0&&(1:Int) == 1&&(sIx items.size items.size hi-sIx items.size 0 lo) == items.size)=true then _ else _) _ _ s;rw[if_neg hno,Tg]
 first
  | exact Ap (m:=A7.Tuple.tupleExact _) (B6 (AE ⟨_,rfl,AE h⟩) htake)
  | exact Ap (m:=A7.Tuple.tupleExact _) (B6 (Ap (AE (AE ⟨_,rfl,AE h⟩))) htake)
  | exact Ap (Ap (m:=A7.Tuple.tupleExact _) (B6 (AE (AE ⟨_,rfl,AE h⟩)) htake))
  | exact Ap (Ap (m:=A7.Tuple.tupleExact _) (B6 (AE ⟨_,rfl,AE h⟩) htake))
end
end HT
namespace L2
open PySem PySem.Spec PyProof.Rows
noncomputable abbrev TO:=St->Hp->(Option Int->Hp->Prop)->Prop
noncomputable def PO (X:Cx)(e:Option Expr)(t:TO):Prop:=
 ∀(pins:List (Addr×Obj)) (s:AA) (σ:St) (H:Hp) (Q:Option Int->Hp->Prop),Inv X pins σ H s->t σ H Q ->
  AK (AN X.prog X.w) X.A (evalPart e X.env) (fun u s'=>∃o H',Inv X pins σ H' s'/\IsPart u o/\Q o H') X.xe s
noncomputable def Ej:TO:=fun _ H Q=>Q none H
noncomputable def Rc (t:TE):TO:=fun σ H Q=>t σ H fun x H1=>∃i,x=.int i/\Q (some i) H1
section
variable {X:Cx}{e:Expr}{te:TE}{lo hi:Option Expr}{tl th:TO}{pos p2:Pos}
theorem Xu:PO X none Ej:=by
 intro pins s σ H Q I h;rw[evalPart_none];exact AE ⟨none,H,I,.none,h⟩
theorem Xr (h:PE X e te):PO X (some e) (Rc te):=by
 intro pins s σ H Q I hw;rw[evalPart_some];refine thE (h pins s σ H _ I hw) fun u s1 x H1 I1 r1 q1=>?_;obtain⟨i,rfl,q⟩:=q1;obtain⟨t,rfl⟩:=r1;exact⟨some i,H1,I1,.int i t,q⟩
noncomputable def SlR (X:Cx)(r:V->Option Int->Option Int->Hp->VK->Prop):Prop:=
 ∀(pins:List (Addr×Obj)) (s:AA) (σ:St) (H:Hp) (x:V) (v vl vu:An) (lo hi:Option Int) (sl:Addr) (Q:VK),Inv X pins σ H s->RelV x v->s.heap.IsSliceOf sl vl vu .none->IsPart vl lo->IsPart vu hi->r x lo hi H Q ->
  ∃T id,GM (.type T) "__getitem__" = pure (some (.builtin id))/\s.TypeIs v T/\AK (AN X.prog X.w) X.A (JA v (.ref sl)) (EP X pins σ Q) X.xe s
noncomputable def tSl (r:V->Option Int->Option Int->Hp->VK->Prop)(te:TE)(tl th:TO):TE:=fun σ H Q=>te σ H fun x H1=>tl σ H1 fun l H2=>th σ H2 fun u H3=>r x l u H3 Q
theorem Tq {r:V->Option Int->Option Int->Hp->VK->Prop}(hr:SlR X r)(he:PE X e te)(hl:PO X lo tl)(hu:PO X hi th):PE X (.Subscript e (.Slice lo hi none p2) pos) (tSl r te tl th):=by
 intro pins s σ H Q I h;refine Subscript_ (thE (he pins s σ H _ I h) fun v s1 x H1 I1 r1 q1=>?_);refine wpAny_Slice (thn (hl pins s1 σ H1 _ I1 q1) fun vl s2 ⟨l,H2,I2,pl,q2⟩=>thn (hu pins s2 σ H2 _ I2 q2) fun vu s3 ⟨u,H3,I3,pu,q3⟩=>?_);rw[evalPart_none];refine AE ?_;have I4:Inv X pins σ H3 { s3 with heap:=s3.heap.push { cls:=.type "slice",data:=.fields #[vl,vu,.none] } }:=I3.kept (t':=s3.toks) fun b ob q=>AF _ q;obtain⟨T,id,hT,ht,hg⟩:=hr pins { s3 with heap:=s3.heap.push { cls:=.type "slice",data:=.fields #[vl,vu,.none] } } σ H3 x v vl vu l u s3.heap.objs.size Q I4 r1 (Heap.IsSliceOf.new ..) pl pu q3;show AK (AN X.prog X.w) X.A (subscriptTail e (.Slice lo hi none p2) v (.ref s3.heap.objs.size)) (EP X pins σ Q) X.xe { s3 with heap:=s3.heap.push { cls:=.type "slice",data:=.fields #[vl,vu,.none] } };exact tail_any (ops:=[.ref s3.heap.objs.size,v]) ht hT hg (by with_unfolding_all rfl)
noncomputable def qF (xs:List V)(lo hi:Option Int):List V:=(xs.drop (HT.sIx xs.length 0 lo)).take (HT.sIx xs.length xs.length hi-HT.sIx xs.length 0 lo)
theorem xY (xs:List V)(lo hi:Option Int):(qF xs lo hi).length<=xs.length:=by
 unfold qF;rw[E2,IH];omega
noncomputable def acB (K:AD):V->Option Int->Option Int->Hp->VK->Prop:=fun x lo hi H Q=>∃a xs,x=.ref a/\SqT K H a xs /\
 ¬(HT.sIx xs.length 0 lo=0/\HT.sIx xs.length xs.length hi=xs.length)/\∀p,H p=none->Q (.ref p) (upd H p (.tup (qF xs lo hi)))
theorem ZP:SlR X (acB X.K):=by
 intro pins s σ H x v vl vu lo hi sl Q I rx hs pl pu h;obtain⟨a,xs,rfl,hx,hw,q⟩:=h;cases rx;obtain⟨its,r,ht,hz⟩:=I.tuple hx;have hlen:its.toArray.size=xs.length:=by rw[AZ];exact r.length.symm
 refine⟨"tuple",_,FM.lookup,ht.typeIs,?_⟩;refine HT.vg ht hs pl pu (by rw[hlen];exact hw) ?_ (by rw[hlen];exact hz);rw[hlen];refine⟨.ref s.heap.objs.size,_,I.laid (t':=s.toks) (o:=.tup (qF xs lo hi)) (fun b ob q=>AF _ q) (A6 _) ?_,rfl,q _ (I.hok.fresh (A6 _))⟩;exact⟨BQ (xY xs lo hi) hz,_,(r.drop (HT.sIx xs.length 0 lo)).take (HT.sIx xs.length xs.length hi-HT.sIx xs.length 0 lo),IsTup.new _ _⟩
end
noncomputable def ixN (n:Nat)(i:Int):Option Nat:=if 0<=i then (if i<n then some i.toNat else none) else if -(n:Int)<=i then some (i+n).toNat else none
noncomputable def atI {α:Type}(xs:List α)(i:Int):Option α:=(ixN xs.length i).bind fun j=>xs[j]?
theorem Mr {n:Nat}{i:Int}{j:Nat}(h:ixN n i=some j):seqIndex? i n=some j/\j<n/\-(n:Int)<=i/\i<n:=by
 unfold ixN at h;by_cases h0:0<=i
 ·rw[if_pos h0] at h;by_cases h1:i<n
  ·rw[if_pos h1] at h;have e:i.toNat=j:=AV h;exact⟨by rw[seqIndex_of h0 h1,e],ω,ω,h1⟩
  rw[if_neg h1] at h;cases h
 rw[if_neg h0] at h;by_cases h1:-(n:Int)<=i
 ·rw[if_pos h1] at h;have e:(i+n).toNat=j:=AV h;exact⟨by rw[seqIndex_neg ω h1,e],ω,h1,ω⟩
 rw[if_neg h1] at h;cases h
theorem Ni {α:Type}{xs:List α}{i:Int}{v:α}(h:atI xs i=some v):∃j,seqIndex? i xs.length=some j/\xs[j]?=some v/\j<xs.length/\-(xs.length:Int)<=i/\i<xs.length:=by
 unfold atI at h;cases e:ixN xs.length i with
 | none=>rw[e] at h;cases h
 | some j=>
  rw[e] at h;obtain⟨h1,h2,h3,h4⟩:=Mr e;exact⟨j,h1,h,h2,h3,h4⟩
theorem bJ {α:Type}{xs:List α}{j:Nat}{v:α}(h:xs[j]?=some v):atI xs (j:Int)=some v:=by
 have hj:j<xs.length:=(AG.mp h).1;have e:ixN xs.length (j:Int)=some j:=by
  unfold ixN;rw[if_pos ω,if_pos ω];simp
 unfold atI;rw[e];exact h
noncomputable def Nk (b:Expr):Prop:=∀o i,subscripted b false o i=operate [o,i] (JA o i)
noncomputable def IxR (X:Cx)(r:R2):Prop:=
 ∀(value slice:Expr)(pins:List (Addr×Obj)) (s:AA) (σ:St) (H:Hp) (x y:V) (v u:An) (Q:VK),Inv X pins σ H s->RelV x v->RelV y u->r x y H Q ->
  subscripted slice false v u=operate [v,u] (JA v u)->AK (AN X.prog X.w) X.A (subscriptTail value slice v u) (EP X pins σ Q) X.xe s
section
variable {X:Cx}{a b:Expr}{ta tb:TE}{pos:Pos}
theorem abX {r:R2}(hr:IxR X r)(ha:PE X a ta)(hb:PE X b tb)(hs:Nk b):PE X (.Subscript a b pos) (tOp r ta tb):=by
 intro pins s σ H Q I h;exact Subscript_ (abt ha hb I h fun v u s2 x y H2 I2 rx ry q=>hr a b pins s2 σ H2 x y v u Q I2 rx ry q (hs _ _))
noncomputable def abP (K:AD):R2:=fun x y H Q=>∃p xs i v,x=.ref p/\y=.int i/\SqL K H p xs/\atI xs i=some v/\Q v H
noncomputable def acG (K:AD):R2:=fun x y H Q=>∃p xs i v,x=.ref p/\y=.int i/\SqT K H p xs/\atI xs i=some v/\Q v H
theorem Mp:IxR X (abP X.K):=by
 intro value slice pins s σ H x y v u Q I rx ry h hs;obtain⟨p,xs,i,z,rfl,rfl,hq,he,q⟩:=h;cases rx;obtain⟨t,rfl⟩:=ry;obtain⟨its,r,pl,hz⟩:=I.list hq;obtain⟨j,h1,h2,h3,h4,h5⟩:=Ni he;obtain⟨w,ew,rw'⟩:=r.get h2;have hl:=r.length;have hn:=Ac;have fin:EP X pins σ Q w s:=⟨z,H,I,rw',q⟩;by_cases h0:0<=i
 ·have hj:i.toNat=j:=by
   rw[seqIndex_of h0 h5] at h1;exact AV h1
  exact item_listR pl.isList h0 ω (by rw[hj];simpa using ew) fin hs
 have hj:(i+(its.toArray.size:Int)).toNat=j:=by
  rw[seqIndex_neg ω h4] at h1;rw[AZ,<- hl];exact AV h1
 exact subscriptTail_builtinR (x:=w) pl.isList.typeIs slot_list_getitem.lookup
  (wpAny_getItem_list_neg (Q:=fun r s'=>r=w/\EP X pins σ Q r s') pl.isList ω (by rw[AZ] <;> omega) ω (by rw[hj];simpa using ew) ⟨rfl,fin⟩) hs
theorem aa8:IxR X (acG X.K):=by
 intro value slice pins s σ H x y v u Q I rx ry h hs;obtain⟨p,xs,i,z,rfl,rfl,hq,he,q⟩:=h;cases rx;obtain⟨t,rfl⟩:=ry;obtain⟨its,r,pl,hz⟩:=I.tuple hq;obtain⟨j,h1,h2,h3,h4,h5⟩:=Ni he;obtain⟨w,ew,rw'⟩:=r.get h2;have hl:=r.length;have hn:=Ac;have fin:EP X pins σ Q w s:=⟨z,H,I,rw',q⟩;exact subscriptTail_builtinR (x:=w) pl.typeIs slot_tuple_getitem.lookup
  (getItem_tuple (j:=j) (Q:=fun r s'=>r=w/\EP X pins σ Q r s') pl ω ω (by rw[AZ,<- hl];exact h1) (by simpa using ew) ⟨rfl,fin⟩) hs
theorem J0 (its:List An) (n j:Nat) (u:An):CH (·.setIfInBounds j u) { cls:=.type "list",data:=.seq its.toArray n }={ cls:=.type "list",data:=.seq (its.set j u).toArray n }:=by
 simp [CH]
theorem Inv.lst {pins:List (Addr×Obj)}{σ:St}{H:Hp}{s:AA}{p:Addr}{xs:List V}(I:Inv X pins σ H s)(h:H p=some (.lst xs)) :
  ∃(its:List An)(n:Nat),Vals xs its/\s.heap.get? p=some { cls:=.type "list",data:=.seq its.toArray n }/\xs.length<=AQ:=by
 obtain⟨z,its,n,r,e⟩:=I.hok p _ h;exact⟨its,n,r,e,z⟩
theorem Inv.aaY {pins:List (Addr×Obj)}{σ:St}{H:Hp}{s:AA}{p:Addr}{xs ys:List V}{its its':List An}{n n':Nat}{f:Obj->Obj}(I:Inv X pins σ H s)(h:H p=some (.lst xs))
  (ho:s.heap.get? p=some { cls:=.type "list",data:=.seq its.toArray n }) (hf:f { cls:=.type "list",data:=.seq its.toArray n }={ cls:=.type "list",data:=.seq its'.toArray n' }) (r:Vals ys its') (hz:ys.length<=AQ) (t:Nat) :
  Inv X pins σ (upd H p (.lst ys)) { s with heap:=s.heap.update p f,toks:=t }:=by
 have e:(s.heap.update p f).get? p=some { cls:=.type "list",data:=.seq its'.toArray n' }:=by
  rw[FV f ho (by rw[hf] <;> rfl),hf]
 refine I.write (x:=p) (e:=p) (by rw[h];trivial) (.inl rfl) (fun b u hb q=>(BF _ _ (Ch hb)).trans q) ⟨_,e⟩ ?_;exact⟨hz,its',n',r,e⟩
noncomputable def abO:V->V->V->Hp->(Hp->Prop)->Prop:=fun o i v H Q=>∃p xs k j,o=.ref p/\i=.int k/\H p=some (.lst xs)/\ixN xs.length k=some j/\Q (upd H p (.lst (xs.set j v)))
theorem set_list:Qx X abO:=by
 intro pins s σ H o i v ov iv u Q I ro ri rv h;obtain⟨p,xs,k,j,rfl,rfl,hp,hj,q⟩:=h;cases ro;obtain⟨t,rfl⟩:=ri;obtain⟨its,n,r,ho,hz⟩:=I.lst hp;obtain⟨h1,h2,h3,h4⟩:=Mr hj;have hl:=r.length;have hn:=Ac;have I':Inv X pins σ (upd H p (.lst (xs.set j v))) { s with heap:=s.heap.update p (CH (·.setIfInBounds j u)) }:=
  I.aaY hp ho (J0 its n j u) (r.set rv j) (by rw[length_set];exact hz) s.toks
 by_cases h0:0<=k
 ·have hk:k.toNat=j:=by
   rw[seqIndex_of h0 h4] at h1;exact AV h1
  exact PySem.W.ki_setAt ho h0 ω (by rw[AZ,<- hl];exact h4) (by rw[hk];exact⟨_,I',q⟩)
 have hk:(k+(its.toArray.size:Int)).toNat=j:=by
  rw[seqIndex_neg ω h3] at h1;rw[AZ,<- hl];exact AV h1
 exact PySem.W.ki_setBack ho ω (by rw[AZ,<- hl];exact h3) ω (by rw[hk];exact⟨_,I',q⟩)
theorem El (lo hi:Option Int)(n:Nat):(F5 lo hi none n).1=((HT.sIx n 0 lo:Nat):Int)/\(F5 lo hi none n).2.1=((HT.sIx n n hi:Nat):Int)/\(F5 lo hi none n).2.2=1:=by
 refine⟨?_,?_,rfl⟩
 ·cases lo with
  | none=>simp [F5,HT.sIx]
  | some i=>
   simp only[F5,HT.sIx,getD_none,show(1:Int)>0 by decide,if_true];by_cases h:i<0
   ·simp only[h,if_true] <;> omega
   simp only[h,if_false] <;> omega
 cases hi with
 | none=>simp [F5,HT.sIx]
 | some i=>
  simp only[F5,HT.sIx,getD_none,show(1:Int)>0 by decide,if_true];by_cases h:i<0
  ·simp only[h,if_true] <;> omega
  simp only[h,if_false] <;> omega
theorem Bp (its:List An)(lo hi:Option Int):slicePick its.toArray lo hi none=((its.drop (HT.sIx its.length 0 lo)).take (HT.sIx its.length its.length hi-HT.sIx its.length 0 lo)).toArray:=by
 obtain⟨h1,h2,h3⟩:=El lo hi its.toArray.size;unfold slicePick;rw[h1,h2,h3];simp only[sliceRange_one,pick_run,AZ] <;> rfl
noncomputable def acC (K:AD):V->Option Int->Option Int->Hp->VK->Prop:=fun x lo hi H Q=>∃a xs,x=.ref a/\SqL K H a xs/\∀p,H p=none->Q (.ref p) (upd H p (.lst (qF xs lo hi)))
theorem Wv:SlR X (acC X.K):=by
 intro pins s σ H x v vl vu lo hi sl Q I rx hs pl pu h;obtain⟨a,xs,rfl,hx,q⟩:=h;cases rx;obtain⟨its,r,ht,hz⟩:=I.list hx;have hlen:=r.length;refine⟨"list",_,slot_list_getitem.lookup,ht.isList.typeIs,?_⟩;refine wpAny_getItem_list_slice ht.isList hs pl pu .none (by simp) ?_ (by rw[AZ] <;> omega)
 rw[Bp,<- hlen];refine⟨.ref s.heap.objs.size,_,I.laid (t':=s.toks) (o:=.lst (qF xs lo hi)) (fun b ob q=>AF _ q) (A6 _) ?_,rfl,q _ (I.hok.fresh (A6 _))⟩;exact⟨BQ (xY xs lo hi) hz,_,0,(r.drop (HT.sIx xs.length 0 lo)).take (HT.sIx xs.length xs.length hi-HT.sIx xs.length 0 lo),BA _ rfl⟩
noncomputable def jd:V->Bool
 | .non=>true
 | .bl _=>true
 | .int _=>true
 | .str _=>true
 | _=>false
noncomputable def eqV:V->V->Bool
 | .non,.non=>true
 | .bl a,.bl b=>a == b
 | .bl a,.int b=>(if a then 1 else 0) == b
 | .int a,.bl b=>a == (if b then 1 else 0)
 | .int a,.int b=>a == b
 | .str a,.str b=>a == b
 | _,_=>false
theorem Vl {A:Bi}{s:AA}{y x:V}{u v:An}(ry:RelV y u)(rx:RelV x v)(fy:jd y=true)(fx:jd x=true):BM A s u v (eqV y x):=by
 cases y with
 | non=>
  cases ry;cases x with
  | non=>cases rx;exact BM.same _
  | bl b=>cases rx;exact BM.none_bool b
  | int b=>obtain⟨t,rfl⟩:=rx;exact BM.none_int b t
  | str b=>obtain⟨t,rfl⟩:=rx;exact BM.none_str b t
  | _=>exact absurd (show false=true from fx) AY
 | bl a=>
  cases ry;cases x with
  | non=>cases rx;exact BM.bool_none a
  | bl b=>cases rx;exact BM.bool_bool a b
  | int b=>obtain⟨t,rfl⟩:=rx;exact BM.bool_int a b t
  | str b=>obtain⟨t,rfl⟩:=rx;exact BM.bool_str a b t
  | _=>exact absurd (show false=true from fx) AY
 | int a=>
  obtain⟨t',rfl⟩:=ry;cases x with
  | non=>cases rx;exact BM.int_none a t'
  | bl b=>cases rx;exact BM.int_bool a t' b
  | int b=>obtain⟨t,rfl⟩:=rx;exact BM.int_int a t' b t
  | str b=>obtain⟨t,rfl⟩:=rx;exact BM.int_str a t' b t
  | _=>exact absurd (show false=true from fx) AY
 | str a=>
  obtain⟨t',rfl⟩:=ry;cases x with
  | non=>cases rx;exact BM.str_none a t'
  | bl b=>cases rx;exact BM.str_bool a t' b
  | int b=>obtain⟨t,rfl⟩:=rx;exact BM.str_int a t' b t
  | str b=>obtain⟨t,rfl⟩:=rx;exact BM.str_str a t' b t
  | _=>exact absurd (show false=true from fx) AY
 | _=>exact absurd (show false=true from fy) AY
noncomputable def eqU (x:V)(u:An):Bool:=match u with
 | .none=>eqV .non x
 | .bool b=>eqV (.bl b) x
 | .int i _=>eqV (.int i) x
 | .str z _=>eqV (.str z) x
 | _=>false
theorem Vj {x y:V}{u:An}(r:RelV y u)(f:jd y=true):eqU x u=eqV y x:=by
 cases y with
 | non=>cases r;rfl
 | bl b=>cases r;rfl
 | int i=>obtain⟨t,rfl⟩:=r;rfl
 | str z=>obtain⟨t,rfl⟩:=r;rfl
 | _=>exact absurd (show false=true from f) AY
theorem Gf {x:V}:∀{xs:List V}{us:List An},Vals xs us->xs.all jd=true->us.any (eqU x)=xs.any fun y=>eqV y x
 | _,_,.nil,_=>rfl
 | y::xs,u::us,.cons r t,f=>by
  rw[all_cons,Cc] at f;rw[II,II,Vj r f.1,Gf t f.2]
theorem Aa {A:Bi}{s:AA}{x:V}{v:An}(rx:RelV x v)(fx:jd x=true):∀{xs:List V}{us:List An},Vals xs us->xs.all jd=true->∀u∈us,BM A s u v (eqU x u)
 | _,_,.nil,_=>fun u hu=>by cases hu
 | y::xs,u::us,.cons r t,f=>fun u' hu=>by
  rw[all_cons,Cc] at f;rcases AO.mp hu with rfl|hu
  ·rw[Vj r f.1];exact Vl r rx f.1 fx
  exact Aa rx fx t f.2 u' hu
noncomputable def inV (x:V)(xs:List V):Bool:=xs.any fun y=>eqV y x
noncomputable def rIn (K:AD)(neg:Bool):R2:=fun x y H Q=>∃p xs,y=.ref p/\(SqL K H p xs\/SqT K H p xs)/\jd x=true/\xs.all jd=true/\Q (.bl (if neg then !inV x xs else inV x xs)) H
theorem Ov:OpR X (B0 .In) (rIn X.K false):=by
 intro pins s σ H x y v u Q I rx ry h;obtain⟨p,xs,rfl,hq,fx,fs,q⟩:=h;cases ry;rcases hq with hq|hq
 ·obtain⟨its,r,pl,hz⟩:=I.list hq;refine SeqAt.in_listAt (eqU x) pl.isList (fun w hw=>Aa rx fx r fs w (by simpa using hw)) ⟨.bl _,H,I,rfl,?_⟩;rw[show its.toArray.any (eqU x)=its.any (eqU x) by simp,Gf r fs];exact q
 obtain⟨its,r,pl,hz⟩:=I.tuple hq;refine SeqAt.in_tupleAt (eqU x) pl (fun w hw=>Aa rx fx r fs w (by simpa using hw)) ⟨.bl _,H,I,rfl,?_⟩;rw[show its.toArray.any (eqU x)=its.any (eqU x) by simp,Gf r fs];exact q
theorem jU:fO X (.builtin "len") (fun xs H Q=>∃p ys,xs=[.ref p]/\(SqL X.K H p ys\/SqT X.K H p ys)/\Q (.int ys.length) H):=by
 intro pins s σ H xs us Q I r h;obtain⟨p,ys,rfl,hq,q⟩:=h;obtain⟨u,rfl,rx⟩:=vals1 r;cases rx;have hn:=Ac;rcases hq with hq|hq
 ·obtain⟨its,r',pl,hz⟩:=I.list hq;have hlen:=r'.length;exact Calls.call_len_list pl.isList (by simp only[AZ] <;> omega) ⟨.int ys.length,H,I.tok _,⟨s.toks+1,by rw[AZ,hlen]⟩,q⟩
 obtain⟨its,r',pl,hz⟩:=I.tuple hq;have hlen:=r'.length;exact len_tuple pl (by simp only[AZ] <;> omega) ⟨.int ys.length,H,I.tok _,⟨s.toks+1,by rw[AZ,hlen]⟩,q⟩
theorem BV:fO X (.type "tuple") (fun xs H Q=>∃p ys,xs=[.ref p]/\((SqL X.K H p ys/\∀l,H l=none->Q (.ref l) (upd H l (.tup ys)))\/(SqT X.K H p ys/\Q (.ref p) H))):=by
 intro pins s σ H xs us Q I r h;obtain⟨p,ys,rfl,h⟩:=h;obtain⟨u,rfl,rx⟩:=vals1 r;cases rx;rcases h with⟨hq,q⟩|⟨hq,q⟩
 ·obtain⟨its,r',pl,hz⟩:=I.list hq;have hlen:=r'.length;refine call_tuple_list pl.isList (fun h' kp=>?_) (by simp only[AZ] <;> omega)
  have I1:Inv X pins σ H { s with heap:=h' }:=I.kept (t':=s.toks) kp;have I2:Inv X pins σ (upd H h'.objs.size (.tup ys)) { s with heap:=h'.push { cls:=.type "tuple",data:=.seq its.toArray } }:=
   I1.laid (t':=s.toks) (fun b o e=>AF _ e) (A6 _) (show d9 X.prog X.w _ _ _ (.tup ys) from⟨hz,its,r',IsTup.new _ _⟩)
  exact⟨.ref h'.objs.size,_,I2,rfl,q _ (I1.hok.fresh (A6 _))⟩
 obtain⟨its,r',pl,hz⟩:=I.tuple hq;exact call_tuple_same pl ⟨.ref p,H,I,rfl,q⟩
noncomputable def tyV (K:AD)(T:String)(x:V)(H:Hp):Prop:=match x with
 | .str _=>T = "str"
 | .int _=>T = "int"
 | .ref p=>(T = "list" /\ ∃xs,SqL K H p xs)\/(T = "tuple" /\ ∃o,K.lookup p=some o/\o.cls=.type "tuple" /\ o.dict=none) \/
   (T = "dict" /\ ((∃kvs,H p=some (.dK kvs))\/∃kvs,H p=some (.dT kvs)))\/(T = "set" /\ ∃S n,H p=some (.set S n))
 | _=>False
theorem IW {pins:List (Addr×Obj)}{σ:St}{H:Hp}{s:AA}{T:String}{x:V}{v:An}(I:Inv X pins σ H s)(r:RelV x v)(ty:tyV X.K T x H) :
  s.TypeIs v T/\∀a,v=.ref a->∃ob,s.heap.get? a=some ob/\ob.dict=none:=by
 cases x with
 | str z=>
  obtain⟨t,rfl⟩:=r;cases (show T = "str" from ty);exact⟨typeIs_str s z t,fun _ e=>nomatch e⟩
 | int i=>
  obtain⟨t,rfl⟩:=r;cases (show T = "int" from ty);exact⟨typeIs_int s i t,fun _ e=>nomatch e⟩
 | ref p=>
  cases r;rcases ty with⟨rfl,xs,hq⟩|⟨rfl,o,hk,hc,hd⟩|⟨rfl,hk⟩|⟨rfl,S,n,hk⟩
  ·obtain⟨its,_,pl,_⟩:=I.list hq;refine⟨pl.isList.typeIs,fun a e=>?_⟩;cases e;obtain⟨o,n,e,c,hd,_⟩:=pl;exact⟨o,e,hd⟩
  ·refine⟨⟨o,I.kIn p o hk,hc⟩,fun a e=>?_⟩;cases e;exact⟨o,I.kIn _ o hk,hd⟩
  ·have z:∃o,s.heap.get? p=some o/\o.ExactDict:=by
    rcases hk with⟨kvs,hk⟩|⟨kvs,hk⟩
    ·obtain⟨_,_,_,_,o,_,_,e,ex,_⟩:=I.hok p _ hk;exact⟨o,e,ex⟩
    obtain⟨_,_,_,_,o,_,_,e,ex,_⟩:=I.hok p _ hk;exact⟨o,e,ex⟩
   obtain⟨o,e,ex⟩:=z;refine⟨⟨o,e,ex.1⟩,fun a e2=>?_⟩;cases e2;exact⟨o,e,ex.2.1⟩
  obtain⟨o,_,_,_,e,ex,_⟩:=I.hok p _ hk;refine⟨⟨o,e,ex.1⟩,fun a e2=>?_⟩;cases e2;exact⟨o,e,ex.2.1⟩
 | _=>exact DJ ty
variable {o e:Expr}{es:List Expr}{to:TE}{t:TA}{name:Str}{apos cpos:Pos}{T id:String}{r:V->List V->Hp->VK->Prop}
end
noncomputable def MtM (X:Cx)(id:String)(r:V->List V->Hp->VK->Prop):Prop:=
 ∀(pins:List (Addr×Obj)) (s:AA) (σ:St) (H:Hp) (x:V) (xs:List V) (v:An) (us:List An) (Q:VK),Inv X pins σ H s->RelV x v->Vals xs us->r x xs H Q ->
  AK (AN X.prog X.w) X.A (call (.builtin id) (v::us)) (EP X pins σ Q) X.xe s
theorem Vals.one:∀{x:V}{us:List An},Vals [x] us->∃u,us=[u]/\RelV x u:=fun h=>by
 cases h with
 | cons r h=>
  cases h;exact⟨_,rfl,r⟩
theorem Vals.zero:∀{us:List An},Vals [] us->us=[]
 | _,.nil=>rfl
theorem Vals.dropLast {xs:List V}{us:List An}(h:Vals xs us):Vals xs.dropLast us.dropLast:=by
 induction h with
 | nil=>exact .nil
 | cons r t ih=>
  cases t with
  | nil=>exact .nil
  | cons q t'=>exact .cons r ih
theorem Vals.rep {xs:List V}{us:List An}(h:Vals xs us):∀k:Nat,Vals (A5 k xs).flatten (A5 k us).flatten
 | 0=>.nil
 | k+1=>by
  rw[FD,FD,flatten_cons,flatten_cons];exact Vals.append h (Vals.rep h k)
theorem Kq {α:Type}(l:List α):l.eraseIdx (l.length-1)=l.dropLast:=by
 induction l with
 | nil=>rfl
 | cons a r ih=>
  cases r with
  | nil=>rfl
  | cons b r=>
   have e:(a::b::r).length-1=((b::r).length-1)+1:=by
    have h1:(a::b::r).length=r.length+2:=rfl;have h2:(b::r).length=r.length+1:=rfl;omega
   rw[e,List.eraseIdx_cons_succ,ih]
   all_goals rfl
theorem foldl_rep (its:List An):∀(k:Nat)(acc:List An),
  List.foldl (fun x1 x2=>x1++x2) acc.toArray (A5 k its.toArray)=(acc++(A5 k its).flatten).toArray
 | 0,acc=>by simp
 | k+1,acc=>by
  have e:acc.toArray++its.toArray=(acc++its).toArray:=by simp
  have e2:(acc++its)++(A5 k its).flatten=acc++(A5 (k+1) its).flatten:=by
   rw[FD,flatten_cons,Da]
  rw[<- e2,<- foldl_rep its k (acc++its),<- e,FD,List.foldl_cons]
section
variable {X:Cx}{pins:List (Addr×Obj)}{σ:St}{H:Hp}{s:AA}{l b:Addr}{xs ys zs:List V}
theorem Inv.aa0 {its its':List An}{n:Nat}{f:Array An->Array An}{t':Nat}(I:Inv X pins σ H s)(hH:H l=some (.lst xs))
  (e:s.heap.get? l=some { cls:=.type "list",data:=.seq its.toArray n }) (hf:f its.toArray=its'.toArray) (hv:Vals ys its') (hz:ys.length<=AQ) :
  Inv X pins σ (upd H l (.lst ys)) { s with heap:=s.heap.update l (CH f),toks:=t' }:=by
 have q:=FX e f;rw[hf] at q;refine I.write (x:=l) (e:=l) (by rw[hH];exact trivial) (.inl rfl) (fun b' u hb hu=>(BF s.heap (CH f) (Ch hb)).trans hu) ⟨_,q⟩ ?_;exact⟨hz,its',_,hv,q⟩
theorem Inv.ace {its:List An}{t':Nat}(I:Inv X pins σ H s)(hv:Vals ys its)(hz:ys.length<=AQ) :
  Inv X pins σ (upd H s.heap.objs.size (.lst ys)) { s with heap:=s.heap.push { cls:=.type "list",data:=.seq its.toArray },toks:=t' }:=
 I.laid (fun _ _ q=>AF _ q) (A6 _) ⟨hz,its,0,hv,BA _ rfl⟩
theorem Inv.fresh (I:Inv X pins σ H s):H s.heap.objs.size=none:=I.hok.fresh (A6 _)
theorem Inv.J3 (I:Inv X pins σ H s) (hH:H l=some (.lst xs)):xs.length<=AQ/\∃(its:List An)(n:Nat),Vals xs its/\xs.length=its.length/\s.heap.get? l=some { cls:=.type "list",data:=.seq its.toArray n }:=by
 obtain⟨z,its,n,r,e⟩:=I.hok l _ hH;exact⟨z,its,n,r,r.length,e⟩
theorem GR {n:Nat}(h:n<=AQ):A7.List.listTooLong n=false:=by
 unfold A7.List.listTooLong;exact decide_eq_false ω
end
section
variable {X:Cx}
noncomputable def W2:V->List V->Hp->VK->Prop:=fun x vs H Q=>∃l xs y,x=.ref l/\vs=[y]/\H l=some (.lst xs)/\xs.length<AQ/\Q .non (upd H l (.lst (xs++[y])))
theorem Pb:MtM X "list.append" W2:=by
 intro pins s σ H x vs v us Q I rx rv h;obtain⟨l,xs,y,rfl,rfl,hH,hz,q⟩:=h;cases rx;obtain⟨u,rfl,ru⟩:=rv.one;obtain⟨z,its,n,r,hl,e⟩:=I.J3 hH;refine GN F.slot_list_append ⟨_,e,rfl⟩ JP (IJ _ _) (PySem.list_append l its.toArray n u (by rw[AZ];omega)) ⟨e,?_⟩;refine⟨.non,_,I.aa0 (its':=its++[u]) hH e (by simp) (r.append (.cons ru .nil)) ?_,rfl,q⟩;rw[AR,A9];omega
noncomputable def WW:V->List V->Hp->VK->Prop:=fun x vs H Q=>∃l b xs zs,x=.ref l/\vs=[.ref b]/\H l=some (.lst xs)/\H b=some (.lst zs)/\xs.length+zs.length<=AQ/\Q .non (upd H l (.lst (xs++zs)))
theorem Pa:MtM X "list.extend" WW:=by
 intro pins s σ H x vs v us Q I rx rv h;obtain⟨l,b,xs,zs,rfl,rfl,hH,hB,hz,q⟩:=h;cases rx;obtain⟨u,rfl,ru⟩:=rv.one;cases ru;obtain⟨z,its,n,r,hl,e⟩:=I.J3 hH;obtain⟨z2,its2,n2,r2,hl2,e2⟩:=I.J3 hB;have hsz:its.toArray.size+its2.toArray.size<=AQ:=by rw[AZ,AZ];omega
 have hlong:¬(!its.toArray.isEmpty&&A7.List.listTooLong (its.toArray.size+its2.toArray.size))=true:=by
  rw[GR hsz,Bool.and_false];exact AY
 refine GN F.slot_list_extend ⟨_,e,rfl⟩ F.entry_list_extend (F.args_list_extend_2 _ _)
  (AutoSeq1.list_extend_list_list_0 l its.toArray n b its2.toArray n2 hlong (by rw[AZ];omega) ω) ⟨e,e2,?_⟩
 refine⟨.non,_,I.aa0 (its':=its++its2) hH e (by simp) (r.append r2) ?_,rfl,q⟩;rw[AR];omega
noncomputable def acE:V->List V->Hp->VK->Prop:=fun x vs H Q=>∃l xs y,x=.ref l/\vs=[]/\H l=some (.lst xs)/\xs[xs.length-1]?=some y/\Q y (upd H l (.lst xs.dropLast))
theorem aaT:MtM X "list.pop" acE:=by
 intro pins s σ H x vs v us Q I rx rv h;obtain⟨l,xs,y,rfl,rfl,hH,hy,q⟩:=h;cases rx;have hus:=rv.zero;subst hus;obtain⟨z,its,n,r,hl,e⟩:=I.J3 hH;obtain⟨u,hu,ru⟩:=r.get hy;have hy':its.toArray[its.toArray.size-1]?=some u:=by
  show its.toArray[its.length-1]?=some u;rw[<- Array.getElem?_toList,<- hl];exact hu
 refine GN F.slot_list_pop ⟨_,e,rfl⟩ F.entry_list_pop (F.args_list_pop_1 _) (MeetsSeq.list_pop_last l its.toArray n u hy' (by rw[AZ];omega)) ⟨e,?_⟩;refine⟨y,_,I.aa0 (its':=its.dropLast) hH e ?_ r.dropLast ?_,ru,q⟩
 ·show its.toArray.eraseIdxIfInBounds (its.toArray.size-1)=its.dropLast.toArray;rw[AZ,List.eraseIdxIfInBounds_toArray,Kq]
 rw[List.length_dropLast];omega
noncomputable def acJ:R2:=fun x y H Q=>∃l b xs zs,x=.ref l/\y=.ref b/\H l=some (.lst xs)/\H b=some (.lst zs)/\xs.length+zs.length<=AQ/\∀p,H p=none->Q (.ref p) (upd H p (.lst (xs++zs)))
theorem aaJ:OpR X (ED .Add) acJ:=by
 intro pins s σ H x y v u Q I rx ry h;obtain⟨l,b,xs,zs,rfl,rfl,hH,hB,hz,q⟩:=h;cases rx;cases ry;obtain⟨z,its,n,r,hl,e⟩:=I.J3 hH;obtain⟨z2,its2,n2,r2,hl2,e2⟩:=I.J3 hB;refine PySem.P.add_list e e2 ?_ (by rw[AZ,AZ];omega);have ea:its.toArray++its2.toArray=(its++its2).toArray:=by simp
 rw[ea];exact⟨.ref _,_,I.ace (t':=s.toks) (r.append r2) (by rw[AR];omega),rfl,q _ I.fresh⟩
noncomputable def acD:R2:=fun x y H Q=>∃l k xs,x=.ref l/\y=.int k/\H l=some (.lst xs)/\-(2^63)<=k/\k<2^63/\xs.length*k.toNat<=AQ /\
 ∀p,H p=none->Q (.ref p) (upd H p (.lst (A5 k.toNat xs).flatten))
theorem len_rep {α:Type}(xs:List α)(k:Nat):(A5 k xs).flatten.length=k*xs.length:=by
 induction k with
 | zero=>simp
 | succ k ih=>rw[FD,flatten_cons,AR,ih,Nat.succ_mul,add_comm]
theorem aaE:OpR X (ED .Mult) acD:=by
 intro pins s σ H x y v u Q I rx ry h;obtain⟨l,k,xs,rfl,rfl,hH,h1,h2,hz,q⟩:=h;cases rx;obtain⟨t,rfl⟩:=ry;obtain⟨z,its,n,r,hl,e⟩:=I.J3 hH;have hlen:its.toArray.size*k.toNat<=AQ:=by rw[AZ,<- hl];exact hz
 have hcap:¬its.toArray.size*k.toNat>(2^63-1)/8:=by
  have:(AQ:Nat)<=(2^63-1)/8:=by decide
  omega
 have hfit:¬(!Builtin.List.listFitsIndex k)=true:=by
  rw[fitsIndex_both h1 h2];exact AY
 have hlong:¬A7.List.listTooLong (its.toArray.size*k.toNat)=true:=by
  rw[GR hlen];exact AY
 have hnew:List.foldl (fun x1 x2=>x1++x2) #[] (A5 (if its.toArray.isEmpty=true then 0 else k.toNat) its.toArray)=(A5 k.toNat its).flatten.toArray:=by
  have f0:∀m:Nat,List.foldl (fun x1 x2=>x1++x2) #[] (A5 m its.toArray)=(A5 m its).flatten.toArray:=fun m=>by
   have:=foldl_rep its m [];rw[GO] at this;exact this
  rw[f0];cases its with
  | nil=>simp
  | cons a r'=>rw[if_neg (by simp)]
 refine wpAny_binaryOp_repeat_ref (T := "list") (U := "int") δ ⟨_,e,rfl⟩ (fun s'=>typeIs_int s' k t) noFill_list_mul F.fills_int_mul F.slot_int_rmul repeat_list F.slot_int_index.lookup
  (GN F.slot_int_rmul (typeIs_int s k t) F.entry_int_rmul (F.args_int_rmul_2 _ _) (int___rmul___int_list k t l its.toArray n)
   ⟨e,rfl,⟨_,e,rfl⟩,GN F.slot_list_mul ⟨_,e,rfl⟩ F.entry_list_mul (F.args_list_mul_2 _ _) (AutoListH.list___mul___list_int_3 l its.toArray n k t hfit hcap hlong) ⟨e,?_⟩⟩)
 rw[hnew];exact⟨.ref _,_,I.ace (t':=s.toks) (r.rep k.toNat) (by rw[len_rep,Nat.mul_comm];exact hz),rfl,q _ I.fresh⟩
end
end L2
namespace Att
open PySem PySem.W PySem.Calls PyProof.Rows
theorem yh {P:Params}{h:Heap}:∀(ns:List Int)(vs:List An),WellAll P h vs (ns.map WData.int)->Fh vs ns:=by
 intro ns
 induction ns with
 | nil=>
  intro vs w;rw[map_nil] at w;cases w;exact .nil
 | cons n ns ih=>
  intro vs w;rw[Dx] at w;cases w with
  | cons a b=>
   cases a;exact .cons _ _ (ih _ b)
theorem NZ {l:OpenLaw}{n:Nat}(hn:l.most=some n){P:Params}{h:Heap}{args:List WData}{vals:List An}
  (hpre:l.row.toRowW.claim.pre args=true) (hwl:WellAll P h vals args) :
  ∃a vs ns,vals=[An.ref a]/\args=[WData.list (ns.map WData.int)]/\h.get? a=some { cls:=.type "list",data:=.seq vs.toArray }/\Fh vs ns/\ns.length<=n:=by
 have hsh:WShape.hasAll [] args [.list .int]=true:=(pre_splitW hpre).1;have hc:l.pre.holds [] { args:=args }=true:=(pre_splitW hpre).2;obtain⟨d,r,rfl,h1,h2⟩:=hasAllW_cons hsh;obtain rfl:=hasAllW_nil h2;obtain⟨xs,rfl,h3⟩:=hasW_list h1;obtain⟨ns,rfl⟩:=items_int h3;have hlen:ns.length<=n:=by
  unfold OpenLaw.pre at hc;have h4:(WTm.not (.lt (.lit (.int (n:Int))) (.len (.arg 0)))).holds [] { args:=[.list (ns.map .int)] }=true:=by
   have h4:=(holds_andW hc).1;rw[hn] at h4;exact h4
  have h5:=condW_of h4 (w_not (w_lt w_lit (w_len_list (w_arg rfl))));rw[AI] at h5;refine Nat.le_of_not_lt fun q=>?_;have q':(n:Int)<((ns.length:Nat):Int):=ω
  first
   | (rw[decide_eq_true q'] at h5;exact absurd h5 δ)
   | (simp at h5;omega)
 cases hwl with
 | cons w1 w2=>
  cases w2;cases w1 with
  | list ho hall=>exact⟨_,_,ns,rfl,rfl,ho,yh ns _ hall,hlen⟩
theorem Oh (l:OpenLaw)(args:List WData):l.row.toRowW.claim.post args (.bool true) args=true:=
 postW_of (r:=l.row.toRowW) (X:=(true == true))
  (show WShape.has [] (.bool true) .bool=true by first|rfl|decide|simp [WShape.has,WShape.arms,WShape.armsAll])
  (show(WTm.eq .res (.lit (.bool true))).value [] { args:=args,res:=some (.bool true),after:=args }=some (.bool (true == true)) from w_eq_bool (w_res rfl) w_lit) rfl
theorem Iu {l:OpenLaw}{n:Nat}{q:AW}{loose:List Str}{XP:(Str->Option An)->Heap->Prop}{YP:BB->Heap->Prop}{d:DefRec}
  (hn:l.most=some n) (hdf:d.params.defaults=[])
  (call:∀(w:BB)(s₀ s₁:AA)(mg mb:Str->Option An)(fa:Addr)(o:Obj)(pm cd doc:An)(a:Addr)(vs:List An)(ns:List Int),
   Ground q loose [] XP w s₀ mg mb s₁.heap->YP w s₁.heap ->
   s₁.heap.get? fa=some o->o.data=.func (docDef d.name d.params d.body d.scope pm cd doc)->s₁.heap.CodeRec cd d.name->mg d.name=some (.ref fa) ->
   s₁.heap.get? a=some { cls:=.type "list",data:=.seq vs.toArray }->Fh vs ns->ns.length<=n->s₁.gens=#[] ->
   HL (AN l.prog w) JE (.call (.ref fa) ⟨[.ref a],[]⟩) (fun r s'=>r=.ok (.ret (.bool true))/\OldK s₁.heap s'.heap/\s'.os=s₁.os/\Go s'.gens) s₁) :
  WalkO q loose XP YP l.row.toRowW d [] (fun f vs=>PySem.call f vs):=by
 intro w s₀ s₁ mg mb G Y fa o pm cd doc dV kV ho hd hcd hD hmg hg args vals as hpre hlay hrd hwl hlo;obtain rfl:dV=.none:=Dflts.none hD hdf;obtain rfl:kV=.none:=Dflts.noKw hD;obtain⟨a,vs,ns,rfl,rfl,hobj,hints,hlen⟩:=NZ hn hpre hwl;refine enter_call (GB (call w s₀ s₁ mg mb fa o pm cd doc a vs ns G Y ho (fd_plain hd) hcd hmg hobj hints hlen hg) fun r s' hq=>?_);obtain⟨rfl,h2,h3,h4⟩:=hq;exact⟨.inl ⟨.bool true,.bool true,[],rfl,fun _=>rfl,.bool true,Oh l _,fun _=>⟨List.Pairwise.nil,fun _ hm=>(nomatch hm)⟩⟩,h2,h3,h4⟩
end Att
namespace L2
open PySem PySem.Spec PyProof.Rows
theorem Ci:∀{vs:List An}{ns:List Int},Fh vs ns->Vals (ns.map V.int) vs
 | _,_,.nil=>.nil
 | _,_,.cons n t h=>.cons ⟨t,rfl⟩ (Ci h)
noncomputable def Only (H:Hp):Prop:=∀b,H b=none\/∃o xs,H b=some (.frz o (.lst xs))
theorem Uy {P:AW}{w:BB}{K:AD}{mg mb:Str->Option An}{CX:CXT}{k:Nat}{fa a:Addr}{fd:Co}{x:Str}{sp:Sp}{s₁:AA}{vs:List An}{ns:List Int}
  (KX:K.In s₁.heap) (hns:s₁.heap.Ns AL mg) (hb:s₁.heap.Ns builtinsNs mb) (hbb:∀x:Str,x ≠ "__name__" -> mb x=EK x) (hlim:s₁.heap.NoLimit) (hg:s₁.gens=#[])
  (ha:s₁.heap.get? a=some { cls:=.type "list",data:=.seq vs.toArray }) (hi:Fh vs ns) (hl:ns.length<=AQ) (hr:gh k JE)
  (F:∀base:Heap,K.In base->base.Ns AL mg->cQ P w K mg base CX k fa fd [x] sp) (hbind:∀(s:AA)(u:An),BindsTo s fd ⟨[u],[]⟩ [(x,u)])
  (hsp:∀H:Hp,Only H->SqL K H a (ns.map V.int)->sp [.ref a] H (fun v _=>v=.bl true) fun _ _ _=>False)
  (hCX:∀H e s',CX [] H s₁ (fun _ _ _=>False) e s'->False) :
  HL (AN P w) JE (.call (.ref fa) ⟨[.ref a],[]⟩) (fun r s'=>r=.ok (.ret (.bool true))/\OldK s₁.heap s'.heap/\s'.os=s₁.os/\Go s'.gens) s₁:=by
 have rv:=Ci hi;have lenV:=hi.length
 -- from an abstract heap in which nothing but the script may be tracked
 have core:∀H:Hp,Only H->SqL K H a (ns.map V.int)->HOk P w H s₁.heap->(∀b,H b≠none->b=a)->(H a≠none->K.lookup a=none) ->
   HL (AN P w) JE (.call (.ref fa) ⟨[.ref a],[]⟩) (fun r s'=>r=.ok (.ret (.bool true))/\OldK s₁.heap s'.heap/\s'.os=s₁.os/\Go s'.gens) s₁:=by
  intro H hO hS hok hA hK;have base_of:∀{b:Addr}{o:Obj},s₁.heap.get? b=some o->H b=none->(Ft s₁.heap H).get? b=some o:=fun e n=>U5 e n;have noA:∀{b:Addr}{o:Obj}{es:Array DictEntry}{ep:Nat},s₁.heap.get? b=some o->o.data=.dict es ep->H b=none:=fun {b o es ep} e d=>by
   cases q:H b with
   | none=>rfl
   | some u=>
    have e':b=a:=hA b (by rw[q];simp);subst e';rw[ha] at e;cases e;have d':HA vs.toArray _=Data.dict es ep:=d;cases d'
  have nsK:∀{b:Addr}{m:Str->Option An},s₁.heap.Ns b m->(Ft s₁.heap H).Ns b m:=fun {b m} ⟨o,es,ep,e,d,r⟩=>⟨o,es,ep,base_of e (noA e d),d,r⟩;have hKb:K.In (Ft s₁.heap H):=fun b o e=>base_of (KX b o e) (by
   cases q:H b with
   | none=>rfl
   | some u=>
    have e':b=a:=hA b (by rw[q];simp);subst e';rw[hK (by rw[q];simp)] at e;cases e)
  have hM:Mod K mg (Ft s₁.heap H):=⟨hKb,nsK hns,⟨mb,nsK hb,hbb⟩,let ⟨mc,h1,h2⟩:=hlim;⟨mc,nsK h1,h2⟩⟩;have e0:KR P w K mg (Ft s₁.heap H) JE [] s₁ H:=⟨rfl,hM,fun b o e=>Yk e,Nat.le_of_eq (Py _ _),trivial,fun b hb=>absurd (show b∈([]:List Addr) from hb) (by simp),hok,.of_eq hg⟩;refine GB ((F _ hKb (nsK hns)).run JE [] s₁ H ⟨[.ref a],[]⟩ [.ref a] [.ref a] _ _ hr e0 (hbind s₁ (.ref a)) (.cons rfl .nil) (hsp H hO hS)) fun r s' h=>?_;cases r with
  | error e=>exact(hCX H e s' h).elim
  | ok fl=>
   cases fl with
   | next=>exact DJ h
   | brk=>exact DJ h
   | cont=>exact DJ h
   | ret u=>
    obtain⟨v,H',os,bare,un,hok',r',q⟩:=h;have q':v=.bl true:=q;subst q';obtain rfl:u=An.bool true:=r';refine⟨rfl,OldK.of_keep fun b o e=>?_,os,bare⟩;cases q:H b with
    | none=>exact un.keep b o e q (by intro z;exact absurd (show b∈([]:List Addr) from z) (by simp)) (by simp)
    | some u=>
     rcases hO b with z|⟨ob,xs,z⟩
     ·rw[q] at z;cases z
     have z2:=un.frzs b ob _ z;obtain⟨e1,_⟩:=hok b _ z;obtain⟨e2,_⟩:=hok' b _ z2;rw[e] at e1;cases e1;exact e2
 cases hk:K.lookup a with
 | some o=>
  -- the script is one of the module's own objects
  have e:=KX a o hk;rw[ha] at e;cases e;refine core (fun _=>none) (fun _=>.inl rfl) (.inr ⟨_,vs.toArray,_,hk,rfl,rfl,rfl,by rw[AZ,lenV];exact hl,by simpa using rv⟩) (fun b u z=>by have z':(none:Option HO)=some u:=z;cases z') (fun b z=>absurd rfl z) fun z=>absurd rfl z
 | none=>
  refine core (fun b=>if b=a then some (.frz { cls:=.type "list",data:=.seq vs.toArray } (.lst (ns.map V.int))) else none) (fun b=>?_) (.inl (.inr ⟨{ cls:=.type "list",data:=.seq vs.toArray },if_pos rfl⟩)) (fun b u z=>?_) (fun b z=>?_) fun _=>hk
  ·by_cases hb:b=a
   ·exact .inr ⟨_,_,if_pos hb⟩
   exact .inl (if_neg hb)
  ·by_cases hb:b=a
   ·have z':=(if_pos hb).symm.trans z;cases z';subst hb;exact⟨ha,by rw[AI];exact hl,vs,_,rv,ha⟩
   have z':=(if_neg hb).symm.trans z;cases z'
  by_cases hb:b=a
  ·exact hb
  exact absurd (if_neg hb) z
theorem Wg {l:PySem.W.OpenLaw}{n k:Nat}{q:AW}{loose:List Str}{XP:(Str->Option An)->Heap->Prop}{YP:BB->Heap->Prop}{d:DefRec}{K:Params->AD}{CX:BB->CXT}{sp:BB->Sp}{x:Str}
  (hn:l.most=some n) (hn2:n<=AQ) (hdf:d.params.defaults=[]) (hr:gh k JE)
  (hY:∀(w:BB)(h:Heap),YP w h->(K w.params).In h)
  (F:∀(w:BB)(mg:Str->Option An)(fa:Addr)(h:Heap),(K w.params).In h->h.Ns AL mg->mg d.name=some (.ref fa) ->
   ∃fd:Co,(∀(s:AA)(u:An),BindsTo s fd ⟨[u],[]⟩ [(x,u)]) /\
    ∀base:Heap,(K w.params).In base->base.Ns AL mg->cQ l.prog w (K w.params) mg base (CX w) k fa fd [x] (sp w))
  (hsp:∀(w:BB)(H:Hp)(a:Addr)(ns:List Int),ns.length<=n->Only H->SqL (K w.params) H a (ns.map V.int)->sp w [.ref a] H (fun v _=>v=.bl true) fun _ _ _=>False)
  (hCX:∀(w:BB)(H:Hp)(s:AA)(e:An)(s':AA),CX w [] H s (fun _ _ _=>False) e s'->False) :
  PySem.W.WalkO q loose XP YP l.row.toRowW d [] (fun f vs=>PySem.call f vs):=by
 refine Att.Iu hn hdf fun w s₀ s₁ mg mb fa o pm cd doc a vs ns G Y ho hd hcd hmg hobj hints hlen hg=>?_;have KX:=hY w _ Y;obtain⟨fd,hb,hF⟩:=F w mg fa _ KX G.T.g hmg;exact Uy KX G.T.g G.T.b G.T.builtins G.T.nolimit hg hobj hints (BQ hlen hn2) hr hF hb (fun H hO hS=>hsp w H a ns hlen hO hS) fun H e s'=>hCX w H s₁ e s'
noncomputable def inClass (s:Stmt)(j:Nat):Stmt:=match s with
 | .ClassDef _ _ _ body _ _ _ _ _ _ _=>body.getD j (.Pass ⟨0,0,0,0⟩)
 | _=>.Pass ⟨0,0,0,0⟩
noncomputable def bh (s:Stmt):Arguments:=match s with
 | .FunctionDef _ a _ _ _ _ _ _ _ _=>a
 | _=>{ posonlyargs:=[],args:=[],vararg:=none,kwonlyargs:=[],kw_defaults:=[],kwarg:=none,defaults:=[] }
noncomputable def bf (s:Stmt):List Stmt:=match s with
 | .FunctionDef _ _ b _ _ _ _ _ _ _=>b
 | _=>[]
noncomputable def aj (s:Stmt):Ff:=match s with
 | .FunctionDef _ _ _ _ _ _ sc _ _ _=>sc
 | _=>{ kind:=.function,names:=[],isGenerator:=false,isCoroutine:=false }
noncomputable abbrev CX0:CXT:=fun _ _ _ _ _ _=>False
noncomputable abbrev E0:XK:=fun _ _ _=>False
theorem ab3 {X:Cx}:qI CX0 X E0:=fun _ _ _ _ _ _ _ h=>h.elim
structure Fun (K:AD)(x qual:Str)(st:Stmt)(f:Addr)(fd:Co):Prop where
 ex:∃(oc:An)(od:Option Addr)(kV doc pm:An)(an:Option Addr)(cdv ct:An)(osl:Array (Option An)),
  fd=fnOf x qual (bh st) (bf st) (aj st) .none kV doc pm an cdv ct/\K.lookup f=some ⟨oc,od,.func fd,osl⟩/\CC K cdv qual=true
 kp:CB K (.ref f)=true
section
variable {P:AW}{w:BB}{K:AD}{mg:Str->Option An}{base:Heap}
theorem Fun.ok {x qual:Str}{st:Stmt}{f:Addr}{fd:Co}{N ps:List Str}{k:Nat}{sp:Sp}(F:Fun K x qual st f fd)(S:bx N ps (aj st))(len:∀vs H Q E,sp vs H Q E->vs.length=ps.length)
  (hbody:∀(cdv:An)(A:Bi)(outer:List Env)(s:AA)(H:Hp)(vs:List V)(Q:VK)(E:XK),gh k (A.deeper (EA qual (aj st) s.heap.objs.size f cdv))->sp vs H Q E ->
   ∃t,PSs (yx CX0 P w K mg base N qual (aj st) f cdv A outer s H E).nox (bf st) t/\t { nx:=fun _ H'=>Q .non H',rt:=Q } (start N vs) H):cQ P w K mg base CX0 (k+1) f fd ps sp:=by
 obtain⟨oc,od,kV,doc,pm,an,cdv,ct,osl,rfl,lk,hcd⟩:=F.ex;refine Zr lk hcd S len fun A outer s H vs Q E hr hsp=>?_;obtain⟨t,h,q⟩:=hbody cdv A outer s H vs Q E hr hsp;exact⟨t,h.nox,q⟩
theorem Fun.binds {x qual:Str}{st:Stmt}{f:Addr}{fd:Co}{ps:List Str}(F:Fun K x qual st f fd)
  (h:∀(kV doc pm:An)(an:Option Addr)(cdv ct:An)(us:List An),us.length=ps.length->bindArgs (fnOf x qual (bh st) (bf st) (aj st) .none kV doc pm an cdv ct) ⟨us,[]⟩=pure (ps.zip us)):Binds K fd ps []:=by
 obtain⟨oc,od,kV,doc,pm,an,cdv,ct,osl,rfl,lk,hcd⟩:=F.ex;exact .all (h kV doc pm an cdv ct)
theorem Km {x qual:Str}{st:Stmt}{f:Addr}{oc:An}{od an:Option Addr}{osl:Array (Option An)}{kV doc pm cdv ct:An}(l:K.lookup f=some ⟨oc,od,.func (fnOf x qual (bh st) (bf st) (aj st) .none kV doc pm an cdv ct),osl⟩)
  (c:CC K cdv qual=true) (k:CB K (.ref f)=true):Fun K x qual st f (fnOf x qual (bh st) (bf st) (aj st) .none kV doc pm an cdv ct):=⟨⟨oc,od,kV,doc,pm,an,cdv,ct,osl,rfl,l,c⟩,k⟩
end
noncomputable def Same (H H':Hp):Prop:=∀b o,H b=some o->H' b=some o
theorem Same.refl (H:Hp):Same H H:=fun _ _ h=>h
theorem Same.trans {H H1 H2:Hp}(a:Same H H1)(b:Same H1 H2):Same H H2:=fun c o h=>b c o (a c o h)
theorem Same.seq {K:AD}{H H':Hp}{a:Addr}{xs:List V}(e:Same H H')(h:SqL K H a xs):SqL K H' a xs:=by
 rcases h with(h|⟨o,h⟩)|h
 ·exact .inl (.inl (e _ _ h))
 ·exact .inl (.inr ⟨o,e _ _ h⟩)
 exact .inr h
end L2
set_option maxHeartbeats 4000000
namespace L2
open PySem PySem.Spec PyProof.Rows
theorem Bc {env:Env}:∀(names:List (Str×C7)) (acc:List (Str×Addr)),
  (∀y∈names,y.2=.free->∃c,env.cells.lookup y.1=some c)->(∀x c,acc.lookup x=some c->env.cells.lookup x=some c) ->
  ∃cl,(forIn names acc fun(y:Str×C7)(r:List (Str×Addr))=>(match y with
   | (name,kind)=>if (kind == .free)=true then (do let a <- cellOf env name;pure (D4 ((name,a)::r))) else pure (D4 r):Sem (ForInStep (List (Str×Addr)))))=pure cl /\
   (∀x c,cl.lookup x=some c->env.cells.lookup x=some c)/\(∀y∈names,y.2=.free->∃c,cl.lookup y.1=some c)/\(∀x c,acc.lookup x=some c->∃c',cl.lookup x=some c')
 | [],acc,_,ha=>⟨acc,rfl,ha,fun _ h=>(nomatch h),fun x c h=>⟨c,h⟩⟩
 | (n,k)::r,acc,hf,ha=>by
  have hf':∀y∈r,y.2=.free->∃c,env.cells.lookup y.1=some c:=fun y hy=>hf y (AH _ hy);by_cases hk:k=.free
  ·subst hk;obtain⟨c0,e0⟩:=hf (n,.free) AM rfl;have hce:cellOf env n=pure c0:=by unfold cellOf;rw[e0]
   have ha2:∀x c,((n,c0)::acc).lookup x=some c->env.cells.lookup x=some c:=fun x c h=>by
    rw[D7] at h;cases hx:x == n with
    | true=>
     rw[hx] at h;have e1:x=n:=by simpa using hx
     rw[e1,e0];exact h
    | false=>
     rw[hx] at h;exact ha x c h
   obtain⟨cl,e,h1,h2,h3⟩:=Bc r ((n,c0)::acc) hf' ha2;refine⟨cl,?_,h1,fun y hy hz=>?_,fun x c h=>?_⟩
   ·rw[forIn_cons];simp only[beq_self_eq_true,if_true,hce];exact e
   ·rcases AO.mp hy with q|q
    ·subst q;exact h3 n c0 (by simp)
    exact h2 y q hz
   cases hx:x == n with
   | true=>exact h3 x c0 (by rw[D7,hx])
   | false=>exact h3 x c (by rw[D7,hx];exact h)
  have hb:(k == C7.free)=false:=by simpa using hk
  obtain⟨cl,e,h1,h2,h3⟩:=Bc r acc hf' ha;refine⟨cl,?_,h1,fun y hy hz=>?_,h3⟩
  ·rw[forIn_cons];simp only[hb,KA,if_false];exact e
  rcases AO.mp hy with q|q
  ·subst q;exact absurd hz hk
  exact h2 y q hz
theorem M8 {env:Env}{scope:Ff}(hf:∀y∈scope.names,y.2=.free->∃c,env.cells.lookup y.1=some c) :
  ∃cl,closureFor scope env=pure cl/\(∀x c,cl.lookup x=some c->env.cells.lookup x=some c)/\(∀y∈scope.names,y.2=.free->∃c,cl.lookup y.1=some c):=by
 obtain⟨cl,e,h1,h2,_⟩:=Bc (env:=env) scope.names [] hf (fun x c h=>by simp at h);refine⟨cl,?_,h1,h2⟩;unfold closureFor;show(forIn scope.names [] _ >>= fun r=>pure r)=_;rw[show(forIn scope.names ([]:List (Str×Addr)) fun(y:Str×C7)(r:List (Str×Addr))=>(match y with
   | (name,kind)=>if (kind == .free)=true then (do let a <- cellOf env name;pure (D4 ((name,a)::r))) else pure (D4 r):Sem (ForInStep (List (Str×Addr)))))=pure cl from e]
 rfl
section
variable {prog:AW}{w:BB}{A:Bi}{R:Result->AA->Prop}{s:AA}
theorem DQ {elt tg iter:Expr}{ifs:List Expr}{scope:Ff}{pos:Pos}{it acc:An}{env:Env}(J:Nat->AA->Prop)
  (turn:∀n s,J n s->AK (AN prog w) A (pyNext it) (fun r s1=>match r with
   | none=>R (.ok .next) s1
   | some v=>AK (AN prog w) A (Iy tg it v) (fun _ s1'=>AK (AN prog w) A (FR tg env v) (fun _ s2=>
     AK (AN prog w) A (forIn ifs true fun c r=>if r=true then do let ok <- isTrue c env (eval c env);pure (D4 ok) else pure (D4 r)) (fun ok s3=>
      if ok=true then AK (AN prog w) A (eval elt env) (fun x s4=>
       AK (AN prog w) A (call (.builtin "list.append") [acc,x]) (fun _ s5=>∃m,m<n/\J m s5) (Hb (AN prog w) A env fun e z=>R (.error e) z) s4) (Hb (AN prog w) A env fun e z=>R (.error e) z) s3
      else ∃m,m<n/\J m s3) (Hb (AN prog w) A env fun e z=>R (.error e) z) s2) (Hb (AN prog w) A env fun e z=>R (.error e) z) s1') (Hb (AN prog w) A env fun e z=>R (.error e) z) s1) (Hb (AN prog w) A env fun e z=>R (.error e) z) s)
  (n:Nat) (h:J n s):HL (AN prog w) A (.compLoop (.ListComp elt [⟨tg,iter,ifs,0⟩] scope pos) 0 it acc env) R s:=by
 refine codeAny_loop rfl J (fun n z hJ=>?_) n h;show AK _ A ((compTurn (.ListComp elt [⟨tg,iter,ifs,0⟩] scope pos) 0 it acc env).onRaise (fun y=>do HC y env;theTreesLotGoes y)) _ _ z;refine wpAny_noted ?_;rw[compTurn_list];refine Ap (Ex (Ap (B5 (turn n z hJ) (fun r s1 h1=>?_) fun _ _ q=>q)));cases r with
 | none=>exact AE h1
 | some v=>
  refine Ap (B5 h1 (fun _ s1' h1'=>?_) fun _ _ q=>q);refine Ap (B5 h1' (fun _ s2 h2=>Ap (B5 h2 (fun ok s3 h3=>?_) fun _ _ q=>q)) fun _ _ q=>q);cases ok with
  | false=>exact AE ⟨rfl,h3⟩
  | true=>
   exact Ap (Ap (B5 h3 (fun x s4 h4=>Ap (B5 h4 (fun _ s5 h5=>AE (AE ⟨rfl,h5⟩)) fun _ _ q=>q)) fun _ _ q=>q))
end
noncomputable def rN (mp:List (Option Nat))(σ:St):St:=mp.map fun o=>match o with
 | some j=>(σ[j]?).join
 | none=>none
noncomputable def cA (X:Cx)(N:List Str)(scope:Ff)(cl:List (Str×Addr))(C:Addr)(s:AA)(H:Hp)(fp:List Addr):Cx:=
 { X with N:=N,s₀:=s,H₀:=H,env:=IL scope cl C X.env,outer:=X.stack,stack:=X.stack,ex:=fp,fn:=fun _=>false,pn:=[],xe:=fun _ _=>False }
noncomputable def sG (NX:List Str)(names:List (Str×C7)):List Str->List (Option Nat)->Bool
 | [],[]=>true
 | x::r,o::q=>(match o with
   | none=>names.lookup x == some .local
   | some j=>NX[j]? == some x&&names.lookup x == some .free)&&sG NX names r q
 | _,_=>false
theorem Dq {NX:List Str}{names:List (Str×C7)}:∀{N:List Str}{mp:List (Option Nat)}{i j:Nat}{x:Str},sG NX names N mp=true->N[i]?=some x->mp[i]?=some (some j)->NX[j]?=some x/\names.lookup x=some .free
 | [],_,i,_,_,_,h,_=>by simp at h
 | _::_,[],_,_,_,h,_,_=>by simp [sG] at h
 | y::r,o::q,0,j,x,h,h1,h2=>by
  simp at h1 h2;subst h1 h2;unfold sG at h;simp only[Cc,beq_iff_eq] at h;exact h.1
 | y::r,o::q,i+1,j,x,h,h1,h2=>by
  unfold sG at h;rw[Cc] at h;exact Dq (i:=i) h.2 (by simpa using h1) (by simpa using h2)
theorem Dp {NX:List Str}{names:List (Str×C7)}:∀{N:List Str}{mp:List (Option Nat)},sG NX names N mp=true->mp.length=N.length
 | [],[],_=>rfl
 | [],_::_,h=>by simp [sG] at h
 | _::_,[],h=>by simp [sG] at h
 | _::r,_::q,h=>by
  unfold sG at h;rw[Cc] at h;simp [Dp h.2]
structure xZ (NX:List Str)(kX:List (Str×C7))(N:List Str)(mp:List (Option Nat))(scope:Ff):Prop where
 kind:scope.kind=.function
 nocell:∀y∈scope.names,y.2≠.cell
 locs:∀y∈scope.names,y.2=.local->scope.names.lookup y.1=some .local
 fre:∀y∈scope.names,y.2=.free->kX.lookup y.1=some .cell\/kX.lookup y.1=some .free
 map:sG NX scope.names N mp=true
noncomputable def PTs (X:Cx)(cs:List Expr)(t:TT):Prop:=
 ∀(pins:List (Addr×Obj)) (s:AA) (σ:St) (H:Hp) (Q:Bool->Hp->Prop),Inv X pins σ H s->t σ H Q ->
  AK (AN X.prog X.w) X.A (forIn cs true fun c r=>if r=true then do let ok <- isTrue c X.env (eval c X.env);pure (D4 ok) else pure (D4 r)) (TP X pins σ Q) X.xe s
noncomputable def Zz:TT:=fun _ H Q=>Q true H
theorem Xe {X:Cx}:PTs X [] Zz:=fun _ _ _ H _ I h=>wpAny_tests_nil ⟨H,I,h⟩
theorem Xd {X:Cx}{c:Expr}{t:TT}(h:PT X c t):PTs X [c] t:=fun pins s σ H Q I q=>wpAny_tests_one (h pins s σ H Q I q)
noncomputable def Cq (mp:List (Option Nat))(wi:TI)(g:TG)(tc:TT)(te:TE):TE:=fun σ H Q=>wi σ H fun J H1=>
 ∃W:Nat->Nat->List V->St->Hp->Prop,(∃m,W 0 m [] (rN mp σ) H1)/\∀i m acc τ H2,W i m acc τ H2 ->
  (J.stop i H2/\∀d,H2 d=none->Q (.ref d) (upd H2 d (.lst acc))) \/
  (J.go i H2/\acc.length<AQ/\∃N:List V->St->Hp->Prop,(∀acc' τ' H',N acc' τ' H'->∃m',m'<m/\W (i+1) m' acc' τ' H')/\∀x H3,J.yld i H2 x H3->g x τ H3 fun τ1 H4=>tc τ1 H4 fun b H5=>
   if b=true then te τ1 H5 fun v H6=>N (acc++[v]) τ1 H6 else N acc τ1 H5)
theorem iZ {env:Env}:∀{names:List (Str×C7)}{x:Str}{k:C7},(names.map fun(n,k)=>if (k == C7.free&&env.scope.kind == .function&&env.kindOf n == some .cell) then (n,C7.cell) else (n,k)).lookup x=some k ->
  names.lookup x=some k\/(k=.cell/\names.lookup x=some .free)
 | [],_,_,h=>by simp at h
 | (n,k0)::r,x,k,h=>by
  have ih:=@iZ env r x k;rw[Dx] at h;by_cases hc:(k0 == C7.free&&env.scope.kind == .function&&env.kindOf n == some .cell)=true
  ·simp only[hc,if_true] at h;cases hx:x == n with
   | true=>
    rw[D7,hx] at h;have hk:k0=.free:=by
     rw[Cc,Cc] at hc;simpa using hc.1.1
    right;refine⟨(AV h).symm,?_⟩;rw[D7,hx,hk]
   | false=>
    rw[D7,hx] at h;rw[D7,hx];exact ih h
  simp only[hc,if_false] at h;cases hx:x == n with
  | true=>
   rw[if_neg (by simp),D7,hx] at h;rw[D7,hx];exact .inl h
  | false=>
   rw[if_neg (by simp),D7,hx] at h;rw[D7,hx];exact ih h
theorem na0 {b D E:Nat}(h:b<E)(hD:E=D):b≠D:=by omega
theorem na1 {b D E C:Nat}(h:b<E)(hD:E=D)(hC:C=D+1):b≠C:=by omega
theorem na2 {C D:Nat}(hC:C=D+1):D≠C:=by omega
theorem na3 {C D E:Nat}(hD:E=D)(hC:C=D+1):E<=C:=by omega
theorem na4 {D E:Nat}(hD:E=D):E<=D:=by omega
section
variable {X:Cx}{NX N:List Str}{kX:List (Str×C7)}{mp:List (Option Nat)}{scope:Ff}{pins:List (Addr×Obj)}{σ:St}{s s':AA}{H:Hp}{fp:List Addr}{cl:List (Str×Addr)}{C:Addr}
theorem Ku (hkX:X.env.scope.names=kX)(S:xZ NX kX N mp scope)(I:Inv X pins σ H s)(hfp:∀b∈fp,yD X pins H b)(hold:∀b∈fp,b<s.heap.objs.size)(hC:s.heap.objs.size<=C)
  (hsub:∀x c,cl.lookup x=some c->X.env.cells.lookup x=some c) (hhas:∀y∈scope.names,y.2=.free->∃c,cl.lookup y.1=some c):(cA X N scope cl C s H fp).Ok where
 mod:=I.ok.mod
 kind:=S.kind
 glob:=I.ok.glob
 blt:=I.ok.blt
 above:=hC
 inj:=fun x y c h1 h2=>I.ok.inj x y c (hsub x c h1) (hsub y c h2)
 has:=fun x h=>by
  have key:scope.names.lookup x=some .free:=by
   rcases h with h|h
   ·rcases iZ (env:=X.env) (names:=scope.names) h with q|⟨_,q⟩
    ·exact absurd rfl (S.nocell _ (CO q))
    exact q
   rcases iZ (env:=X.env) (names:=scope.names) h with q|⟨q,_⟩
   ·exact q
   cases q
  exact hhas _ (CO key) rfl
 cab:=fun x c h=>by cases h
 hd:=I.ok.hd
 frames:=I.ok.frames
 stk:=.inl rfl
 exf:=fun b hb=>⟨BO (AX (hold b hb) hC),fun x c e=>(hfp b hb).2.2.2.2.1 x c (hsub x c e)⟩
 bs:=I.bs
 bsz:=BQ I.ok.bsz I.sz
 noex:=fun b o e hb=>by
  rcases(hfp b hb).2.2.2.1 with q|q
  ·exact I.ok.noex b o e q
  exact absurd (AX (AX (A3 e) I.ok.bsz) q) (CU _)
 exfs:=fun b hb hz=>by
  obtain⟨_,h1,h2,_⟩:=hfp b hb;rcases AO.mp (I.vQ b hz) with q|q
  ·exact h1 q
  exact h2 q
 oN:=I.stack
 frf:=I.ur
theorem M7 (hNX:X.N=NX)(hkX:X.env.scope.names=kX)(S:xZ NX kX N mp scope)(I:Inv X pins σ H s)(hfp:∀b∈fp,yD X pins H b)(hold:∀b∈fp,b<s.heap.objs.size)(hC:s.heap.objs.size<=C)
  (hsub:∀x c,cl.lookup x=some c->X.env.cells.lookup x=some c) (hhas:∀y∈scope.names,y.2=.free->∃c,cl.lookup y.1=some c)
  (ho:s'.os=s.os) (hg:s'.gens=s.gens) (hn:∃m,s'.heap.Ns C m) (hk:∀b o,s.heap.get? b=some o->s'.heap.get? b=some o) {pl:List (Addr×Obj)}
  (hp:∀p∈pl,s'.heap.get? p.1=some p.2/\H p.1=none/\p.1≠C/\p.1∉frs X.stack/\∀v,p.2.data≠.cell v) :
  Inv (cA X N scope cl C s H fp) pl (rN mp σ) H s' where
 ok:=Ku hkX S I hfp hold hC hsub hhas
 os:=ho
 bare:=by rw[hg];exact I.bare
 base:=Un.kept hk
 loc:=by
  obtain⟨m,hm⟩:=hn;refine⟨m,hm,fun i x v h1 h2 h3=>?_⟩;have h2':(mp.map fun o=>match o with|some j=>(σ[j]?).join|none=>none)[i]?=some (some v):=h2
  rw[A4] at h2';cases e:mp[i]? with
  | none=>rw[e] at h2';cases h2'
  | some o=>
   rw[e] at h2';cases o with
   | none=>cases h2'
   | some j=>
    have h4:(σ[j]?).join=some v:=by simpa using h2'
    have h5:σ[j]?=some (some v):=by
     cases q:σ[j]? with
     | none=>rw[q] at h4;cases h4
     | some z=>rw[q] at h4;rw[show z=some v from h4]
    obtain⟨g1,g2⟩:=Dq S.map h1 e;have fk:=S.fre _ (CO g2) rfl;obtain⟨m0,_,hl⟩:=I.loc;have vis:Vis X.env.scope x:=by
     rcases fk with q|q
     ·exact .inr (.inl (by rw[hkX];exact q))
     exact .inr (.inr (by rw[hkX];exact q))
    obtain⟨u,r,l⟩:=hl j x v (by rw[hNX];exact g1) h5 vis;refine⟨u,r,.inr ?_⟩;have l':∃c,X.env.cells.lookup x=some c/\s.heap.IsCell c (some u):=by
     rcases l with⟨q,_⟩|⟨_,q⟩
     ·have q':X.env.scope.names.lookup x=some .local:=q;rw[hkX] at q';rcases fk with z|z
      ·rw[q'] at z;cases z
      rw[q'] at z;cases z
     exact q
    obtain⟨c,hc,oc,hoc,hd⟩:=l';obtain⟨c',hc'⟩:=hhas _ (CO g2) rfl;have ec:c'=c:=by
     have:=hsub x c' hc';rw[hc] at this;exact(AV this).symm
    subst ec;refine⟨?_,c',hc',oc,hk _ _ hoc,hd⟩;rcases h3 with q|q|q
    ·rcases iZ (env:=X.env) (names:=scope.names) q with z|⟨z,_⟩
     ·rw[g2] at z;cases z
     cases z
    ·exact .inl q
    exact .inr q
 cell:=fun x c e=>by
  obtain⟨v,o,h1,h2⟩:=I.cell x c (hsub x c e);exact⟨v,o,hk _ _ h1,h2⟩
 free:=I.hok.fresh hC
 freeC:=fun x c e=>I.freeC x c (hsub x c e)
 pin:=fun p hpp=>hp p (by simpa [cA] using hpp)
 hok:=I.hok.kept hk
 len:=by
  show(mp.map _).length=N.length;rw[AI];exact Dp S.map
set_option maxHeartbeats 8000000 in
theorem Ma {tg iter elt:Expr}{ifs:List Expr}{pos:Pos}{wi:TI}{g:TG}{tc:TT}{te:TE}(N:List Str)(mp:List (Option Nat))(hNX:X.N=NX)(hkX:X.env.scope.names=kX)(S:xZ NX kX N mp scope)(hc:X.calm=true)
  (hi:PI X tg iter wi) (hg:∀cl C s H fp,PG (cA X N scope cl C s H fp) tg g) (ht:∀cl C s H fp,PTs (cA X N scope cl C s H fp) ifs tc) (he:∀cl C s H fp,PE (cA X N scope cl C s H fp) elt te)
  (hs:∀x,DI iter X.env x=pure x:=by intro _;rfl):PE X (.ListComp elt [⟨tg,iter,ifs,0⟩] scope pos) (Cq mp wi g tc te):=by
 intro pins s σ H Q I h;obtain⟨cl,hcl,hsub,hhas⟩:=M8 (env:=X.env) (scope:=scope) fun y hy hf=>I.ok.has y.1 (by
  rcases S.fre y hy hf with q|q
  ·exact .inl (show X.env.scope.names.lookup y.1=_ by rw[hkX];exact q)
  exact .inr (show X.env.scope.names.lookup y.1=_ by rw[hkX];exact q))
 rw[eval_ListComp];refine wpAny_comprehension_free (use:=none) rfl hs hcl S.kind S.locs ?_;refine thn (hi pins s σ H _ I h) fun v s1 h1=>thn h1 fun itv s2 h2=>?_;obtain⟨it,fp,tn,J,H2,e,I2,T,st2,f2,W,⟨m0,w0⟩,turn⟩:=h2;subst e;refine B6 (wpAny_newFunctionEnv S.nocell (by intro y hy;simp at hy) (fun h3 hns hsb=>?_) S.kind);dsimp only at hns hsb |-;have hold:∀b∈fp,b<s2.heap.objs.size:=fun b hb=>by
  obtain⟨o,q,_⟩:=T.obj _ _ st2 b hb;exact A3 q
 generalize hD:s2.heap.objs.size=D at hns hsb;generalize hH2:s2.heap.push { cls:=.type "list",dict:=none,data:=.seq ([]:List An).toArray }=P2 at hns hsb |-;have hC:P2.objs.size=D+1:=by rw[<- hH2,D5,hD]
 generalize hC':P2.objs.size=C at hns hsb |-;rw[hC'] at hC;have old:∀b o,s2.heap.get? b=some o->h3.get? b=some o:=fun b o q=>by
  have hb:=A3 q;exact hsb.extBut b o (na1 hb hD hC) (AF _ (hH2 ▸ AF _ q))
 have accD:h3.get? D=some { cls:=.type "list",data:=.seq ([]:List An).toArray }:=
  hsb.extBut _ _ (na2 hC) (AF _ (by rw[<- hH2,<- hD];exact BA _ rfl))
 have hfr:D∉frs X.stack:=fun z=>by
  rcases AO.mp (I2.vQ D z) with q|q
  ·exact na0 I2.lt hD q.symm
  exact I2.aaR (na4 hD) q
 have I0:Inv (cA X N scope cl C s2 H2 fp) [(D,{ cls:=.type "list",data:=.seq ([]:List An).toArray })] (rN mp σ) H2 { s2 with heap:=h3,toks:=s2.toks+([]:List (Str×An)).length }:=
  M7 (s':={ s2 with heap:=h3,toks:=s2.toks+([]:List (Str×An)).length }) hNX hkX S I2 f2 hold (na3 hD hC) hsub hhas rfl rfl ⟨_,hns⟩ old fun p hp=>by
   have ep:=Au.mp hp;subst ep;exact⟨accD,I2.hok.fresh (na4 hD),na2 hC,hfr,fun v z=>by cases z⟩
 have T0:tn 0 h3:=T.keep _ _ _ st2 fun b _ o q=>old b o q;have loop:∀z:AA,z={ s2 with heap:=h3,toks:=s2.toks+([]:List (Str×An)).length } ->
   HL (AN X.prog X.w) X.A (.compLoop (.ListComp elt [⟨tg,iter,ifs,0⟩] scope pos) 0 (.ref it) (.ref D) (IL scope cl C X.env))
    (compPost (AN X.prog X.w) X.A X.xe none (EP X pins σ Q) (.ref D) C) z:=by
  rintro z rfl;have stat:∀{H':Hp}{pl:List (Addr×Obj)},(∀b∈fp,H' b=none)->(∀p∈pl,p.1=D)->∀b∈fp,yD (cA X N scope cl C s2 H2 fp) pl H' b:=fun hn hp b hb=>by
   have hb2:=hold b hb;refine⟨hn b hb,na1 hb2 hD hC,(Ku hkX S I2 f2 hold (na3 hD hC) hsub hhas).exfs b hb,.inl hb,fun x c q=>(f2 b hb).2.2.2.2.1 x c (hsub x c q),fun p hpp=>?_⟩;have hpD:=hp p (by simpa [cA] using hpp);rw[hpD];exact(na0 hb2 hD).symm
  refine DQ (env:=IL scope cl C X.env) (fun n z=>∃i acc τ H' its k,Inv (cA X N scope cl C s2 H2 fp) [(D,{ cls:=.type "list",data:=.seq (GG its) k })] τ H' z/\tn i z.heap/\(∀b∈fp,H' b=none)/\Vals acc its/\acc.length<=AQ/\W i n acc τ H')
   ?_ m0 ⟨0,[],_,H2,[],0,I0,T0,fun b hb=>(f2 b hb).1,.nil,DL _,w0⟩
  rintro n s5 ⟨i,acc,τ,H5,its,k,I5,st5,fr5,va,hz,w5⟩;rcases turn i n acc τ H5 w5 with⟨stop,qn⟩|⟨go,hz2,N9,hN9,step⟩
  ·refine thn (T.done (cA X N scope cl C s2 H2 fp) rfl rfl rfl hc i _ s5 τ H5 _ I5 (stat fr5 (by simp)) st5 stop) fun r s6 ⟨hr,I6⟩=>?_;subst hr;obtain⟨m6,hn6,_⟩:=I6.loc;refine⟨m6,hn6,fun h' sb=>?_⟩;obtain⟨dD,nD,_,_,_⟩:=I6.pin (D,_) (A0 _ (Au.mpr rfl));have U:=I6.base;have nC:H5 C=none:=I6.free;have ne:∀b o,s2.heap.get? b=some o->b≠C/\b≠D:=fun b o q=>by
    exact⟨na1 (A3 q) hD hC,na0 (A3 q) hD⟩
   have keepC:∀b o,b≠C->s6.heap.get? b=some o->h'.get? b=some o:=fun b o hb q=>(sb.2 b hb).trans q;have U':Un (frs X.stack) fp H2 (upd H5 D (.lst acc)) s2.heap h':=by
    refine⟨fun b o q n1 hb hx=>keepC b o (ne b o q).1 (U.keep b o q n1 hb hx),fun b o q n1 hb hx=>?_,fun b o q n1 hx=>?_,fun b o q hx=>?_,fun b xs q=>?_,fun b o xs q=>?_,fun b ps q=>?_⟩
    ·obtain⟨sl,z⟩:=U.slot b o q n1 hb hx;exact⟨sl,keepC b _ (ne b o q).1 z⟩
    ·rw[aH (ne b o q).2];exact U.free b o q n1 hx
    ·obtain⟨o',z⟩:=U.there b o q hx;exact⟨o',keepC b _ (ne b o q).1 z⟩
    ·have z:=U.tups b xs q;rw[aH (aF z nD)];exact z
    ·have z:=U.frzs b o xs q;rw[aH (aF z nD)];exact z
    obtain⟨more,z⟩:=U.tbls b ps q;exact⟨more,by rw[aH (aF z nD)];exact z⟩
   have hok:HOk X.prog X.w (upd H5 D (.lst acc)) h':=fun b u q=>by
    by_cases hb:b=D
    ·subst hb;rw[au] at q;cases q;exact⟨hz,its,k,va,keepC _ _ (na2 hC) dD⟩
    rw[aH hb] at q;refine(I6.hok b u q).stay (fun c v hcc z=>keepC c v ?_ z) (fun c z=>by rw[aH (aF z nD)];exact z) fun c xs z=>by rw[aH (aF z nD)];exact z
    rcases hcc with z1|z1
    ·subst z1;exact aF q nC
    exact aF z1 nC
   have I7:Inv X pins σ (upd H5 D (.lst acc)) { s6 with heap:=h' }:=I2.call' (s':={ s6 with heap:=h' }) (ch:=fp) I6.os U' hok I6.bare fun b hb=>by
    obtain⟨_,a2,_,a4,a5,a6⟩:=f2 b hb;exact⟨a4,a2,a5,a6⟩
   exact⟨.ref D,_,I7,rfl,qn D nD⟩
  refine thn (T.item (cA X N scope cl C s2 H2 fp) rfl rfl rfl hc i _ s5 τ H5 _ I5 (stat fr5 (by simp)) st5 go) fun r s6 ⟨u,hr,h6⟩=>?_;subst hr;refine thn h6 fun _ s7 ⟨x,H7,I7,r7,y7,st7,fr7⟩=>?_;have I7':=I7.pinned (stat fr7 (by simp)) (T.obj _ _ st7);have no:∀{α:Type}{t:Sem α}{Q1 Q2:α->AA->Prop}{E:An->AA->Prop}{z:AA},AK (AN X.prog X.w) X.A t Q1 (fun _ _=>False) z->(∀a z,Q1 a z->Q2 a z)->AK (AN X.prog X.w) X.A t Q2 E z:=
   fun q f=>B5 q f fun _ _ z=>z.elim
  refine no (hg cl C s2 H2 fp _ s7 τ H7 x u _ I7' r7 (step x H7 y7)) fun _ s8 ⟨τ1,H8,I8,q8⟩=>?_;refine no (ht cl C s2 H2 fp _ s8 τ1 H8 _ I8 q8) fun ok s9 ⟨H9,I9,q9⟩=>?_;have again:∀{H':Hp}{z:AA}{its':List An}{k':Nat},Inv (cA X N scope cl C s2 H2 fp) ([(D,{ cls:=.type "list",data:=.seq (GG its') k' })]++mC fp s7.heap) τ1 H' z ->
    tn (i+1) z.heap/\(∀b∈fp,H' b=none)/\Inv (cA X N scope cl C s2 H2 fp) [(D,{ cls:=.type "list",data:=.seq (GG its') k' })] τ1 H' z:=fun {H' z its' k'} Iz=>by
   have get:∀b∈fp,∀o,s7.heap.get? b=some o->z.heap.get? b=some o/\H' b=none:=fun b hb o q=>by
    obtain⟨a1,a2,_⟩:=Iz.pin (b,o) (A0 _ (A0 _ (oF hb q)));exact⟨a1,a2⟩
   refine⟨T.keep _ _ _ st7 fun b hb o q=>(get b hb o q).1,fun b hb=>?_,Iz.pD⟩;obtain⟨o,q,_⟩:=T.obj _ _ st7 b hb;exact(get b hb o q).2
  cases ok with
  | false=>
   rw[if_neg AY] at q9 |-;obtain⟨m',hm,w9⟩:=hN9 _ _ _ q9;obtain⟨a1,a2,a3⟩:=again I9;exact⟨m',hm,i+1,acc,τ1,H9,its,k,a3,a1,a2,va,hz,w9⟩
  | true=>
   rw[if_pos rfl] at q9 |-;refine no (he cl C s2 H2 fp _ s9 τ1 H9 _ I9 q9) fun y s10 ⟨v,H10,I10,rv,q10⟩=>?_;obtain⟨m',hm,w10⟩:=hN9 _ _ _ q10;obtain⟨a1,a2,a3⟩:=again I10;obtain⟨dD,nD,_,_,_⟩:=a3.pin (D,_) (A0 _ (Au.mpr rfl));have hlen:=va.length;refine GN F.slot_list_append ⟨_,dD,rfl⟩ JP (IJ _ _) (PySem.list_append D its.toArray k y (by rw[AZ];omega)) ⟨dD,?_⟩;obtain⟨k',q⟩:∃k',(s10.heap.update D (CH fun a=>a.push y)).get? D=some { cls:=.type "list",data:=.seq (its++[y]).toArray k' }:=by
    have q:=FX dD (fun a=>a.push y);rw[show its.toArray.push y=(its++[y]).toArray by simp] at q;exact⟨_,q⟩
   have a4:Inv (cA X N scope cl C s2 H2 fp) (mC fp s7.heap) τ1 H10 s10:=I10.qP fun p hp=>I10.pin p (A0 _ (A0 _ hp));have a5:Inv (cA X N scope cl C s2 H2 fp) (mC fp s7.heap) τ1 H10 { s10 with heap:=s10.heap.update D (CH fun a=>a.push y),toks:=s10.toks }:=
    a4.turned (it:=D) (fun b o hb z=>(BF _ _ (Ch hb)).trans z) nD (na2 hC) (.inr (na4 hD))
     (fun x c z=>by
      obtain⟨_,o,h1,_⟩:=I2.cell x c (hsub x c z);exact na0 (A3 h1) hD) fun p hp=>by
      have hb:=(v7 (by simpa [cA] using hp)).1;exact na0 (hold _ hb) hD
   obtain⟨b1,b2,b3⟩:=(show tn (i+1) (s10.heap.update D (CH fun a=>a.push y))/\(∀b∈fp,H10 b=none)/\True from
    ⟨T.keep _ _ _ a1 fun b hb o z=>(BF _ _ (na0 (hold b hb) hD).symm).trans z,a2,trivial⟩)
   refine⟨m',hm,i+1,acc++[v],τ1,H10,its++[y],k',a5.qP fun p hp=>?_,b1,b2,va.append (.cons rv .nil),by rw[AR,A9];omega,w10⟩;have ep:=Au.mp hp;subst ep;exact⟨q,nD,na2 hC,hfr,fun v z=>by cases z⟩
 have e1:{ newEnv scope C X.env.globals cl X.env.qual none .none (some X.env) X.env.builtins with scope:=relabel scope X.env }=IL scope cl C X.env:=rfl;exact codeAny_compStart_list (loop _ rfl) (T.self _ 0 _ _ _ T0 (loop _ rfl))
end
section
variable {X:Cx}{pins:List (Addr×Obj)}{σ:St}{H:Hp}{s:AA}
theorem Inv.K4 {ch:List Addr}{h':Heap}{t':Nat}(I:Inv X pins σ H s)(hf:∀b∈ch,yD X pins H b)(k:∀b o,b∉ch->s.heap.get? b=some o->h'.get? b=some o):Inv X pins σ H { s with heap:=h',toks:=t' }:=by
 have nit:∀b u,H b=some u->b∉ch:=fun b u e z=>by rw[(hf b z).1] at e;cases e
 refine I.step (g':=s.gens) (d':=s.drawn) (ch:=ch) (fun b hb=>?_) (fun b o _ _ hc e _=>k b o hc e) (fun b o _ _ hc e _=>⟨o.slots,k b o hc e⟩) (fun _ _ _ _ n=>n)
  (fun b o hc e=>⟨o,k b o hc e⟩) (fun _ _ e=>e) (fun _ _ _ e=>e) (fun b ps e=>⟨#[],by rw[e];simp⟩) (fun m hm=>?_) (fun b u e=>?_) I.bare
 ·obtain⟨_,a2,_,a4,a5,a6⟩:=hf b hb;exact⟨a4,a2,a5,a6⟩
 ·obtain⟨o,es,ep,ho,r⟩:=hm;exact⟨o,es,ep,k _ o (fun z=>(hf _ z).2.1 rfl) ho,r⟩
 refine(I.hok b u e).stay (fun c v hc q=>k c v ?_ q) (fun _ q=>q) fun _ _ q=>q;rcases hc with z|z
 ·rw[z];exact nit b u e
 exact nit c _ z
theorem Inv.K3 {ch:List Addr}{h':Heap}{t':Nat}{p:Addr}{o:HO}(I:Inv X pins σ H s)(hf:∀b∈ch,yD X pins H b)(k:∀b o,b∉ch->s.heap.get? b=some o->h'.get? b=some o)(hp:s.heap.objs.size<=p)
  (new:d9 X.prog X.w (upd H p o) h' p o):Inv X pins σ (upd H p o) { s with heap:=h',toks:=t' }:=by
 have hn:H p=none:=I.hok.fresh hp;have nit:∀b u,H b=some u->b∉ch:=fun b u e z=>by rw[(hf b z).1] at e;cases e
 have lt:∀b u,s.heap.get? b=some u->b≠p:=fun b u e=>BO (AX (A3 e) hp);refine I.step (g':=s.gens) (d':=s.drawn) (ch:=ch) (fun b hb=>?_) (fun b o _ _ hc e _=>k b o hc e) (fun b o _ _ hc e _=>⟨o.slots,k b o hc e⟩) (fun b o _ e n=>by rw[aH (lt b o e)];exact n)
  (fun b o hc e=>⟨o,k b o hc e⟩) (fun b xs e=>by rw[aH (aF e hn)];exact e) (fun b u xs e=>by rw[aH (aF e hn)];exact e) (fun b ps e=>⟨#[],by rw[aH (aF e hn),e];simp⟩) (fun m hm=>?_) (fun b u e=>?_) I.bare
 ·obtain⟨_,a2,_,a4,a5,a6⟩:=hf b hb;exact⟨a4,a2,a5,a6⟩
 ·obtain⟨o,es,ep,ho,r⟩:=hm;exact⟨o,es,ep,k _ o (fun z=>(hf _ z).2.1 rfl) ho,r⟩
 by_cases hb:b=p
 ·subst hb;rw[au] at e;cases e;exact new
 rw[aH hb] at e;refine(I.hok b u e).stay (fun c v hc q=>k c v ?_ q) (fun c q=>by rw[aH (aF q hn)];exact q) fun c xs q=>by rw[aH (aF q hn)];exact q
 rcases hc with z|z
 ·rw[z];exact nit b u e
 exact nit c _ z
end
noncomputable def Itz (K:AD)(a b:Addr):It:=
 ⟨fun i H=>∃xs ys x y,SqL K H a xs/\SqL K H b ys/\xs[i]?=some x/\ys[i]?=some y,
  fun i H v H'=>∃p x y,v=.ref p/\H p=none/\H'=upd H p (.tup [x,y])/\(∀xs,SqL K H a xs->xs[i]?=some x)/\∀ys,SqL K H b ys->ys[i]?=some y,
  fun i H=>∃xs ys,SqL K H a xs/\SqL K H b ys/\(xs[i]?=none\/ys[i]?=none)⟩
theorem QZ {P:AW}{w:BB}{K:AD}{es:List Expr}{kk:Nat}{tpos:Pos}{z TI TO i1 i2 l1 l2:Addr}(D:ZipApart z TI TO i1 i2 l1 l2) :
  Turn P w K (.Tuple es kk tpos) (Itz K l1 l2) [z,TI,TO,i1,i2] z (fun i h=>IsZip h z TI TO .none/\IsPair h TI (.ref i1) (.ref i2)/\(∃a b,IsPair h TO a b)/\h.IsListIter i1 l1 i/\h.IsListIter i2 l2 i) where
 mem:=by simp
 obj:=fun i h st b hb=>by
  obtain⟨hz,hTI,⟨a,b',hTO⟩,⟨o1,e1,c1,d1⟩,⟨o2,e2,c2,d2⟩⟩:=st;simp only[AO,BE,or_false] at hb;rcases hb with rfl|rfl|rfl|rfl|rfl
  ·exact⟨_,hz,fun v q=>by cases q⟩
  ·exact⟨_,hTI,fun v q=>by cases q⟩
  ·exact⟨_,hTO,fun v q=>by cases q⟩
  ·exact⟨o1,e1,fun v q=>by rw[d1] at q;cases q⟩
  exact⟨o2,e2,fun v q=>by rw[d2] at q;cases q⟩
 keep:=fun i h h' st k=>by
  obtain⟨hz,hTI,⟨a,b',hTO⟩,h1,h2⟩:=st;exact⟨k z (by simp) _ hz,k TI (by simp) _ hTI,⟨a,b',k TO (by simp) _ hTO⟩,h1.at fun o e=>k i1 (by simp) o e,h2.at fun o e=>k i2 (by simp) o e⟩
 item:=by
  intro X hP hw hK hc i pins s σ H E I hf st hg;subst hP hw hK;obtain⟨xs,ys,x,y,q1,q2,hx,hy⟩:=hg;obtain⟨its1,rv1,p1,hz1⟩:=I.list q1;obtain⟨its2,rv2,p2,hz2⟩:=I.list q2;obtain⟨u1,hu1,ru1⟩:=rv1.get hx;obtain⟨u2,hu2,ru2⟩:=rv2.get hy;obtain⟨hz,hTI,⟨a,b',hTO⟩,h1,h2⟩:=st;refine wpAny_pyNext_zip_item D hz hTI hTO h1 h2 p1.isList p2.isList (x:=u1) (y:=u2) (by simpa using hu1) (by simpa using hu2) fun h' a1 a2 a3 a4 a5 a6 hk=>?_;have new:d9 X.prog X.w (upd H s.heap.objs.size (.tup [x,y])) h' s.heap.objs.size (.tup [x,y]):=⟨by show 2<=AQ;decide,[u1,u2],.cons ru1 (.cons ru2 .nil),_,a5,rfl,_,rfl⟩;have I1:Inv X pins σ (upd H s.heap.objs.size (.tup [x,y])) { s with heap:=h' }:=I.K3 (t':=s.toks) (ch:=[z,TO,i1,i2]) (fun b hb=>hf b (by
   simp only[AO,BE,or_false] at hb |-;rcases hb with r|r|r|r <;> simp [r]))
   (fun b o hb e=>hk b o (fun q=>hb (by simp [q])) (fun q=>hb (by simp [q])) (fun q=>hb (by simp [q])) (fun q=>hb (by simp [q])) e) (A6 _) new
  have hTI':IsPair h' TI (.ref i1) (.ref i2):=hk _ _ D.TIz D.TITO D.TIi1 D.TIi2 hTI;have hsz:∀b,b∈[z,TI,TO,i1,i2]->b≠s.heap.objs.size:=fun b hb=>by
   obtain⟨_,_,hlt,_⟩:=hf b hb;have lt:∃o,s.heap.get? b=some o:=by
    simp only[AO,BE,or_false] at hb;rcases hb with rfl|rfl|rfl|rfl|rfl
    ·exact⟨_,hz⟩
    ·exact⟨_,hTI⟩
    ·exact⟨_,hTO⟩
    ·obtain⟨o,e,_⟩:=h1;exact⟨o,e⟩
    obtain⟨o,e,_⟩:=h2;exact⟨o,e⟩
   obtain⟨o,e⟩:=lt;exact BO (A3 e)
  refine⟨_,rfl,wpAny_letOwnedTupleGo_zip (s:={ s with heap:=h' }) a1 fun h'' z2 sb=>?_⟩;have fz:=hf z (by simp);have I2:Inv X pins σ (upd H s.heap.objs.size (.tup [x,y])) { s with heap:=h'' }:=Inv.turned (s:={ s with heap:=h' }) (it:=z) (t':=s.toks) I1 (fun b o hb e=>(sb.2 b hb).trans e) (by rw[aH (hsz z (by simp))];exact fz.1) fz.2.1 fz.2.2.2.1 fz.2.2.2.2.1 fz.2.2.2.2.2;refine⟨.ref s.heap.objs.size,_,I2,rfl,⟨_,x,y,rfl,I.fresh,rfl,fun xs' q=>by rw[I.qu q q1];exact hx,fun ys' q=>by rw[I.qu q q2];exact hy⟩,
   ⟨z2,(sb.2 _ D.TIz).trans hTI',⟨_,_,(sb.2 _ D.TOz).trans a2⟩,a3.extBut sb.extBut D.i1z,a4.extBut sb.extBut D.i2z⟩,fun b hb=>by rw[aH (hsz b hb)];exact(hf b hb).1⟩
 done:=by
  intro X hP hw hK hc i pins s σ H E I hf st hg;subst hP hw hK;obtain⟨xs,ys,q1,q2,hx⟩:=hg;obtain⟨its1,rv1,p1,hz1⟩:=I.list q1;obtain⟨its2,rv2,p2,hz2⟩:=I.list q2;obtain⟨hz,hTI,⟨a,b',hTO⟩,h1,h2⟩:=st;have hend:its1.toArray[i]?=none\/its2.toArray[i]?=none:=by
   rcases hx with r|r
   ·exact .inl (by simpa using rv1.none_of r)
   exact .inr (by simpa using rv2.none_of r)
  refine wpAny_pyNext_zip_end (I.ok.hd hc) D hz hTI hTO h1 h2 p1.isList p2.isList hend fun h' hk=>⟨rfl,?_⟩;exact I.K4 (t':=s.toks) (ch:=[z,TO,i1,i2]) (fun b hb=>hf b (by
   simp only[AO,BE,or_false] at hb |-;rcases hb with r|r|r|r <;> simp [r]))
   (fun b o hb e=>hk b o (fun q=>hb (by simp [q])) (fun q=>hb (by simp [q])) (fun q=>hb (by simp [q])) (fun q=>hb (by simp [q])) e)
 self:=fun _ _ _ _ _ st h=>wpAny_pyIter_zip st.1 h
noncomputable def abg (K:AD)(ta:TA):TI:=fun σ H R=>ta σ H fun vs H1=>∃a b,vs=[.ref a,.ref b]/\(∃xs,SqL K H1 a xs)/\(∃ys,SqL K H1 b ys)/\R (Itz K a b) H1
section
variable {X:Cx}
theorem aau {es:List Expr}{kk:Nat}{tpos:Pos}{a b:Expr}{ta:TA}{p pos:Pos}(hg:Gl X "zip") (hm:X.mg "zip" = none) (ha:PA X [a,b] ta) (hs:AJ [a,b] X.env=[(false,eval a X.env),(false,eval b X.env)]:=by rfl) (hs2:AJ [b] X.env=[(false,eval b X.env)]:=by rfl) :
  PI X (.Tuple es kk tpos) (.Call (.Name "zip" p) [a,b] [] pos) (abg X.K ta):=by
 intro pins s σ H R I h;refine Call_ (mH I hg hm boot_zip (B9 (thA (ha pos pins s σ H _ I h) fun us s1 vs H1 I1 r1 q1=>?_) (by rw[hs,hs2]) (by rw[hs2];rfl)));obtain⟨l1,l2,e,⟨xs,g1⟩,⟨ys,g2⟩,q⟩:=q1;subst e;cases r1 with
 | cons r rr=>
  cases rr with
  | cons r' rr=>
   cases rr;cases r;cases r';obtain⟨its1,rv1,p1,hz1⟩:=I1.list g1;obtain⟨its2,rv2,p2,hz2⟩:=I1.list g2;have lt1:l1<s1.heap.objs.size:=by obtain⟨_,e,_⟩:=p1.isList;exact A3 e
   have lt2:l2<s1.heap.objs.size:=by obtain⟨_,e,_⟩:=p2.isList;exact A3 e
   refine call_zip_2 p1.isList p2.isList fun h' b1 b2 b3 b4 b5 b6 hk=>?_;refine wpAny_pyIter_zip (s:={ s1 with heap:=h' }) b1 ?_;have I2:Inv X pins σ H1 { s1 with heap:=h' }:=I1.kept (t':=s1.toks) hk;have D:ZipApart (s1.heap.objs.size+4) (s1.heap.objs.size+2) (s1.heap.objs.size+3) s1.heap.objs.size (s1.heap.objs.size+1) l1 l2:=by
    revert lt1 lt2;generalize s1.heap.objs.size=n;intro lt1 lt2;have lt1':@LT.lt Nat _ l1 n:=lt1;have lt2':@LT.lt Nat _ l2 n:=lt2;constructor <;> (intro(z:@Eq Nat _ _);omega)
   refine⟨_,_,_,_,H1,rfl,I2,QZ D,⟨b1,b2,⟨_,_,b3⟩,b4,b5⟩,fun b hb=>?_,q⟩;have hle:s1.heap.objs.size<=b:=by
    simp only[AO,BE,or_false] at hb;rcases hb with rfl|rfl|rfl|rfl|rfl <;> simp
   exact I1.HW hle (I1.hok.fresh hle)
end
noncomputable def Ite (K:AD)(a:Addr):It:=
 ⟨fun i H=>∃xs x,SqL K H a xs/\xs[i]?=some x,
  fun i H v H'=>∃p x,v=.ref p/\H p=none/\H'=upd H p (.tup [.int (i:Nat),x])/\∀xs,SqL K H a xs->xs[i]?=some x,
  fun i H=>∃xs,SqL K H a xs/\xs[i]?=none⟩
theorem Nv {P:AW}{w:BB}{K:AD}{es:List Expr}{kk:Nat}{tpos:Pos}{e it l:Addr}(hne:e≠it) :
  Turn P w K (.Tuple es kk tpos) (Ite K l) [e,it] e (fun i h=>(∃old,He h e it ((i:Nat):Int) old)/\h.IsListIter it l i) where
 mem:=by simp
 obj:=fun i h st b hb=>by
  obtain⟨⟨old,he⟩,⟨o1,e1,c1,d1⟩⟩:=st;simp only[AO,BE,or_false] at hb;rcases hb with rfl|rfl
  ·exact⟨_,he,fun v q=>by cases q⟩
  exact⟨o1,e1,fun v q=>by rw[d1] at q;cases q⟩
 keep:=fun i h h' st k=>by
  obtain⟨⟨old,he⟩,h1⟩:=st;exact⟨⟨old,k e (by simp) _ he⟩,h1.at fun o q=>k it (by simp) o q⟩
 item:=by
  intro X hP hw hK hc i pins s σ H E I hf st hg;subst hP hw hK;obtain⟨xs,x,q1,hx⟩:=hg;obtain⟨its1,rv1,p1,hz1⟩:=I.list q1;obtain⟨u1,hu1,ru1⟩:=rv1.get hx;obtain⟨⟨old,he⟩,h1⟩:=st;refine wpAny_pyNext_enum_item he h1 p1.isList (x:=u1) (by simpa using hu1) hne fun h' a1 a2 a3 a4 hk=>?_;have new:d9 X.prog X.w (upd H s.heap.objs.size (.tup [.int (i:Nat),x])) h' s.heap.objs.size (.tup [.int (i:Nat),x]):=⟨by show 2<=AQ;decide,[.int (i:Nat) s.toks,u1],.cons ⟨_,rfl⟩ (.cons ru1 .nil),_,a3,rfl,_,rfl⟩;have I1:Inv X pins σ (upd H s.heap.objs.size (.tup [.int (i:Nat),x])) { s with heap:=h',toks:=s.toks+1 }:=I.K3 (ch:=[e,it]) hf
   (fun b o hb q=>hk b o (fun z=>hb (by simp [z])) (fun z=>hb (by simp [z])) q) (A6 _) new
  have hsz:∀b,b∈[e,it]->b≠s.heap.objs.size:=fun b hb=>by
   have lt:∃o,s.heap.get? b=some o:=by
    simp only[AO,BE,or_false] at hb;rcases hb with rfl|rfl
    ·exact⟨_,he⟩
    obtain⟨o,q,_⟩:=h1;exact⟨o,q⟩
   obtain⟨o,q⟩:=lt;exact BO (A3 q)
  refine⟨_,rfl,GS (s:={ s with heap:=h',toks:=s.toks+1 }) a1 fun h'' z2 sb=>?_⟩;have fz:=hf e (by simp);have I2:Inv X pins σ (upd H s.heap.objs.size (.tup [.int (i:Nat),x])) { s with heap:=h'',toks:=s.toks+1 }:=Inv.turned (s:={ s with heap:=h',toks:=s.toks+1 }) (it:=e) I1 (fun b o hb q=>(sb.2 b hb).trans q) (by rw[aH (hsz e (by simp))];exact fz.1) fz.2.1 fz.2.2.2.1 fz.2.2.2.2.1 fz.2.2.2.2.2;refine⟨.ref s.heap.objs.size,_,I2,rfl,⟨_,x,rfl,I.fresh,rfl,fun xs' q=>by rw[I.qu q q1];exact hx⟩,
   ⟨⟨_,by simpa using z2⟩,a2.extBut sb.extBut hne.symm⟩,fun b hb=>by rw[aH (hsz b hb)];exact(hf b hb).1⟩
 done:=by
  intro X hP hw hK hc i pins s σ H E I hf st hg;subst hP hw hK;obtain⟨xs,q1,hx⟩:=hg;obtain⟨its1,rv1,p1,hz1⟩:=I.list q1;obtain⟨⟨old,he⟩,h1⟩:=st;refine wpAny_pyNext_enum_end (I.ok.hd hc) he h1 p1.isList (by simpa using rv1.none_of hx) fun h' hk=>⟨rfl,?_⟩;exact I.K4 (t':=s.toks) (ch:=[e,it]) hf (fun b o hb q=>hk b o (fun z=>hb (by simp [z])) q)
 self:=fun _ _ _ _ _ st h=>by
  obtain⟨⟨old,he⟩,_⟩:=st;exact EW he h
noncomputable def Dt (K:AD)(ta:TA):TI:=fun σ H R=>ta σ H fun vs H1=>∃a,vs=[.ref a]/\(∃xs,SqL K H1 a xs)/\R (Ite K a) H1
section
variable {X:Cx}
theorem Xx {es:List Expr}{kk:Nat}{tpos:Pos}{a:Expr}{ta:TA}{p pos:Pos}(hg:Gl X "enumerate") (hm:X.mg "enumerate" = none) (ha:PA X [a] ta) (hs:AJ [a] X.env=[(false,eval a X.env)]:=by rfl) :
  PI X (.Tuple es kk tpos) (.Call (.Name "enumerate" p) [a] [] pos) (Dt X.K ta):=by
 intro pins s σ H R I h;refine Call_ (mH I hg hm PyProof.Rows.Boot.«enumerate» (B9 (thA (ha pos pins s σ H _ I h) fun us s1 vs H1 I1 r1 q1=>?_) hs rfl));obtain⟨l1,e,⟨xs,g1⟩,q⟩:=q1;subst e;cases r1 with
 | cons r rr=>
  cases rr;cases r;obtain⟨its1,rv1,p1,hz1⟩:=I1.list g1;refine call_enumerate_list p1.isList fun h' b1 b2 b3 hk=>?_;refine EW (s:={ s1 with heap:=h' }) b1 ?_;have I2:Inv X pins σ H1 { s1 with heap:=h' }:=I1.kept (t':=s1.toks) hk;refine⟨_,_,_,_,H1,rfl,I2,Nv (ne_of_gt (Db _)),⟨⟨_,b1⟩,b2⟩,fun b hb=>?_,q⟩;have hle:s1.heap.objs.size<=b:=by
   simp only[AO,BE,or_false] at hb;rcases hb with rfl|rfl <;> simp
  exact I1.HW hle (I1.hok.fresh hle)
end
theorem Vals.bools:∀{bs:List Bool}{us:List An},Vals (bs.map V.bl) us->us=bs.map An.bool
 | [],_,.nil=>rfl
 | _::_,_,.cons r t=>by rw[Vals.bools t,(show _=An.bool _ from r)];rfl
section
variable {X:Cx}
theorem Qo (bs:List Bool):((AU bs.length).any fun i=>(bs[i]?).getD false)=bs.any id:=by
 rw[F8,List.any_eq_true,List.any_eq_true];constructor
 ·intro⟨i,hi,h⟩;have hi':=Fc.mp hi;rw[AC hi'] at h;exact⟨_,DS hi',h⟩
 intro⟨b,hb,h⟩;obtain⟨i,hi,rfl⟩:=List.getElem_of_mem hb;exact⟨i,Fc.mpr hi,by rw[AC hi];exact h⟩
noncomputable def Z1 (K:AD)(f:List Bool->Bool):List V->Hp->VK->Prop:=fun xs H Q=>∃p bs,xs=[.ref p]/\SqL K H p (HE V.bl bs)/\Q (.bl (f bs)) H
theorem Vv (hc:X.calm=true):fO X (.builtin "any") (Z1 X.K fun bs=>bs.any id):=by
 intro pins s σ H xs us Q I r h;obtain⟨p,bs,rfl,hq,q⟩:=h;cases r with
 | cons r rr=>
  cases rr;cases r;obtain⟨its,rv,pl,hz⟩:=I.list hq;have e:=rv.bools;subst e;have lt:p<s.heap.objs.size:=by obtain⟨_,e,_⟩:=pl.isList;exact A3 e
  refine call_any_walk (D8 pl.isList ?_);refine⟨s.heap.objs.size,[s.heap.objs.size,p],[s.heap.objs.size],(bs.map An.bool).toArray.size,_,_,fun i=>(bs[i]?).getD false,rfl,Walks.list (A:=X.A.in1) (I.ok.hd hc) _ p (BO lt) _,
   ⟨⟨_,BA _ rfl,rfl,rfl⟩,pl.isList.push _⟩,fun i v s' Q' E' hP hQ=>?_,fun h' tk hk=>?_⟩
  ·have e:(bs.map An.bool)[i]?=some v:=by simpa using hP
   rw[A4] at e;cases z:bs[i]? with
   | none=>rw[z] at e;cases e
   | some b=>
    rw[z] at e;have e':An.bool b=v:=AV e;subst e';dsimp only at hQ;rw[z] at hQ;exact C9 hQ
  rw[AZ,AI,Qo];refine⟨.bl _,H,I.kept fun b o e=>hk b o (fun hm=>?_) (AF _ e),rfl,q⟩;rw[Au.mp hm] at e;exact CU _ (A3 e)
end
inductive Tn (H:Hp):V->String->Prop where
 | non:Tn H .non "NoneType"
 | bl (b:Bool):Tn H (.bl b) "bool"
 | int (i:Int):Tn H (.int i) "int"
 | str (x:Str):Tn H (.str x) "str"
 | lst {a:Addr} {xs:List V} (e:H a=some (.lst xs)):Tn H (.ref a) "list"
 | tup {a:Addr} {xs:List V} (e:H a=some (.tup xs)):Tn H (.ref a) "tuple"
section
variable {X:Cx}
noncomputable def Zw (i j:Int):Prop:=0<j/\j<2^70
theorem zq:OpR X (ED .FloorDiv) (rI Zw fun i j=>.int (i/j)):=opI fun i j _ _ _ _ _ hc q=>by
 have h1:(0:Int)<j:=hc.1;have h2:j<2^70:=hc.2;refine floordiv_int ω (by rw[Int.fdiv_eq_ediv_of_nonneg i ω];exact q) (.inl (PyProof.noPylong_of_log2 ?_));have h3:j.natAbs≠0:=ω;have h4:j.natAbs.log2<70:=(Nat.log2_lt h3).mpr ω;omega
end
noncomputable def cW (p:Addr)(H H':Hp):Prop:=∀b o,b≠p->H b=some o->H' b=some o
theorem cW.trans {p:Addr}{H H1 H2:Hp}(a:cW p H H1)(b:cW p H1 H2):cW p H H2:=fun c o n h=>b c o n (a c o n h)
theorem cW.upd {p:Addr}{H:Hp}{o:HO}:cW p H (upd H p o):=fun b u n h=>by rw[aH n];exact h
theorem Same.x {p:Addr}{H H':Hp}(h:Same H H'):cW p H H':=fun b o _ q=>h b o q
theorem aA {H:Hp}{p:Addr}{o:HO}(h:H p=none):Same H (upd H p o):=fun b u q=>by rw[aH (aF q h)];exact q
structure Cal (P:AW)(w:BB)(K:AD)(mg:Str->Option An)(base:Heap)(x:Str)(k:Nat)(ps:List Str)(sp:Sp):Prop where
 ex:∃(f:Addr)(fd:Co),cQ P w K mg base CX0 k f fd ps sp/\Binds K fd ps []/\CB K (.ref f)=true/\mg x=some (.ref f)
section
variable {X:Cx}{k:Nat}{ps:List Str}{sp:Sp}{x:Str}{p pos:Pos}{e:Expr}{es:List Expr}{t:TA}
theorem aaB (C:Cal X.prog X.w X.K X.mg X.base x k ps sp) (hr:gh k X.A) (hg:Gl X x) (ha:PA X (e::es) t) (hdb:(x == ("__debug__" : Str))=false:=by decide)
  (he:AJ (e::es) X.env=(false,eval e X.env)::AJ es X.env:=by rfl) (hpl:(CA pos (AJ es X.env)).any (·.1)=false:=by rfl):PE X (.Call (.Name x p) (e::es) [] pos) (uq sp [] E0 t):=by
 obtain⟨f,fd,F,b,kp,hm⟩:=C.ex;exact Mf F hr hg hm kp b .nil ab3 ha hdb he hpl
end
structure Wa (K:AD)(mg:Str->Option An)(x:Str)(st:Stmt)(ps:List Str)(f:Addr)(fd:Co):Prop where
 fn:Fun K x x st f fd
 bd:Binds K fd ps []
 nm:mg x=some (.ref f)
theorem Wa.cal {P:AW}{w:BB}{K:AD}{mg:Str->Option An}{base:Heap}{x:Str}{st:Stmt}{ps:List Str}{f:Addr}{fd:Co}{k:Nat}{sp:Sp}(D:Wa K mg x st ps f fd)(F:cQ P w K mg base CX0 k f fd ps sp):Cal P w K mg base x k ps sp:=
 ⟨f,fd,F,D.bd,D.fn.kp,D.nm⟩
theorem RK (i j:Int):Wx (.int i) (.int j)=true:=rfl
theorem RJ (i j:Str):Wx (.str i) (.str j)=true:=rfl
theorem acv {α:Type}(a:α)(r:List α):atI (a::r) 0=some a:=bJ (j:=0) rfl
theorem V2 {α:Type}(a b:α)(r:List α):atI (a::b::r) 1=some b:=bJ (j:=1) rfl
theorem acu {α:Type}(a b c:α)(r:List α):atI (a::b::c::r) 2=some c:=bJ (j:=2) rfl
theorem UL:ixN 3 0=some 0/\ixN 3 1=some 1/\ixN 3 2=some 2:=⟨δ,δ,δ⟩
theorem aQ {n:Nat}(h:n<=1000000):n<=AQ:=BQ h δ
noncomputable def ixq (o:Option HO)(i:Int)(H:Hp)(Q:VK):Prop:=match o with
 | some (.lst xs)=>∃v,atI xs i=some v/\Q v H
 | some (.tup xs)=>∃v,atI xs i=some v/\Q v H
 | _=>False
noncomputable def stq (o:Option HO)(p:Addr)(k:Int)(v:V)(H:Hp)(Q:Hp->Prop):Prop:=match o with
 | some (.lst xs)=>∃j,ixN xs.length k=some j/\Q (upd H p (.lst (xs.set j v)))
 | _=>False
noncomputable def lnq (o:Option HO)(H:Hp)(Q:VK):Prop:=match o with
 | some (.lst ys)=>Q (.int ys.length) H
 | some (.tup ys)=>Q (.int ys.length) H
 | _=>False
noncomputable def Z6:R2:=fun x y H Q=>match x,y with
 | .ref p,.int i=>ixq (H p) i H Q
 | _,_=>False
noncomputable def R0:V->V->V->Hp->(Hp->Prop)->Prop:=fun o i v H Q=>match o,i with
 | .ref p,.int k=>stq (H p) p k v H Q
 | _,_=>False
noncomputable def Sh:List V->Hp->VK->Prop:=fun xs H Q=>match xs with
 | [.ref p]=>lnq (H p) H Q
 | _=>False
theorem Sq (p:Addr)(i:Int)(H:Hp)(Q:VK):Z6 (.ref p) (.int i) H Q=ixq (H p) i H Q:=rfl
theorem Oa (p:Addr)(k:Int)(v:V)(H:Hp)(Q:Hp->Prop):R0 (.ref p) (.int k) v H Q=stq (H p) p k v H Q:=rfl
theorem Oc (p:Addr)(H:Hp)(Q:VK):Sh [.ref p] H Q=lnq (H p) H Q:=rfl
theorem Wq (xs:List V)(p:Addr)(k:Int)(v:V)(H:Hp)(Q:Hp->Prop):stq (some (.lst xs)) p k v H Q=∃j,ixN xs.length k=some j/\Q (upd H p (.lst (xs.set j v))):=rfl
theorem Yr (xs:List V)(H:Hp)(Q:VK):lnq (some (.lst xs)) H Q=Q (.int xs.length) H:=rfl
theorem Yq (xs:List V)(H:Hp)(Q:VK):lnq (some (.tup xs)) H Q=Q (.int xs.length) H:=rfl
section
variable {X:Cx}
theorem aP:IxR X Z6:=by
 intro value slice pins s σ H x y v u Q I rx ry h hs;unfold Z6 at h;split at h
 ·rename_i p i;unfold ixq at h;split at h
  ·rename_i xs e;obtain⟨z,hz,q⟩:=h;exact Mp value slice pins s σ H _ _ v u Q I rx ry ⟨p,xs,i,z,rfl,rfl,SqL.of e,hz,q⟩ hs
  ·rename_i xs e;obtain⟨z,hz,q⟩:=h;exact aa8 value slice pins s σ H _ _ v u Q I rx ry ⟨p,xs,i,z,rfl,rfl,SqT.of e,hz,q⟩ hs
  exact h.elim
 exact h.elim
theorem Cv:Qx X R0:=by
 intro pins s σ H o i v ov iv u Q I ro ri rv h;unfold R0 at h;split at h
 ·rename_i p k;unfold stq at h;split at h
  ·rename_i xs e;obtain⟨j,hj,q⟩:=h;exact set_list pins s σ H _ _ v ov iv u Q I ro ri rv ⟨p,xs,k,j,rfl,rfl,e,hj,q⟩
  exact h.elim
 exact h.elim
theorem dJ:fO X (.builtin "len") Sh:=by
 intro pins s σ H xs us Q I r h;unfold Sh at h;split at h
 ·rename_i p;unfold lnq at h;split at h
  ·rename_i ys e;exact jU pins s σ H _ us Q I r ⟨p,ys,rfl,.inl (SqL.of e),h⟩
  ·rename_i ys e;exact jU pins s σ H _ us Q I r ⟨p,ys,rfl,.inr (SqT.of e),h⟩
  exact h.elim
 exact h.elim
end
noncomputable def Ss:List V->Hp->VK->Prop:=fun xs H Q=>match xs with
 | [.int i]=>Q (.int i) H
 | [.bl k]=>Q (.int (if k then 1 else 0)) H
 | _=>False
theorem WT (k:Bool)(H:Hp)(Q:VK):Ss [.bl k] H Q=Q (.int (if k then 1 else 0)) H:=rfl
theorem Bd {X:Cx}:fO X (.type "int") Ss:=by
 intro pins s σ H xs us Q I r h;unfold Ss at h;split at h
 ·exact DR pins s σ H _ us Q I r (.inl ⟨_,rfl,h⟩)
 ·exact DR pins s σ H _ us Q I r (.inr ⟨_,rfl,h⟩)
 exact h.elim
theorem aM {t u:TS}{D:Ends}{σ:St}{H:Hp}(h:∀k,k=u D->t { D with nx:=k } σ H):Nz t u D σ H:=h _ rfl
theorem lF {wi:TI}{g:TG}{tb:TS}{D:Ends}{σ:St}{H:Hp}(h:∀R:It->Hp->Prop,R=(fun J H1=>∃W:Nat->Nat->St->Hp->Prop,(∃m,W 0 m σ H1)/\∀i m σ H,W i m σ H ->
  (J.stop i H/\D.nx σ H)\/(J.go i H/\∃N:St->Hp->Prop,(∀σ' H',N σ' H'->∃m',m'<m/\W (i+1) m' σ' H')/\∀x H',J.yld i H x H'->g x σ H' fun σ2 H2=>tb { D with nx:=N,ct:=N,bk:=D.nx } σ2 H2))->wi σ H R):ZG wi g tb D σ H:=h _ rfl
theorem Zq {lo:Int}{n:Nat}{g:TG}{tb:TS}{D:Ends}{σ:St}{H:Hp}{R:It->Hp->Prop}(hR:R=(fun J H1=>∃W:Nat->Nat->St->Hp->Prop,(∃m,W 0 m σ H1)/\∀i m σ H,W i m σ H ->
  (J.stop i H/\D.nx σ H)\/(J.go i H/\∃N:St->Hp->Prop,(∀σ' H',N σ' H'->∃m',m'<m/\W (i+1) m' σ' H')/\∀x H',J.yld i H x H'->g x σ H' fun σ2 H2=>tb { D with nx:=N,ct:=N,bk:=D.nx } σ2 H2)))
  (Pv:Nat->St->Hp->Prop) (h0:Pv 0 σ H) (hs:∀i σ H,i<n->Pv i σ H->g (.int (lo+i)) σ H fun σ2 H2=>tb { D with nx:=Pv (i+1),ct:=Pv (i+1),bk:=D.nx } σ2 H2) (hd:∀σ H,Pv n σ H->D.nx σ H):R (Itr lo n) H:=by
 subst hR;exact PB Pv h0 hs hd
theorem Ay {K:AD}{a:Addr}{xs:List V}{g:TG}{tb:TS}{D:Ends}{σ:St}{H:Hp}{R:It->Hp->Prop}(hR:R=(fun J H1=>∃W:Nat->Nat->St->Hp->Prop,(∃m,W 0 m σ H1)/\∀i m σ H,W i m σ H ->
  (J.stop i H/\D.nx σ H)\/(J.go i H/\∃N:St->Hp->Prop,(∀σ' H',N σ' H'->∃m',m'<m/\W (i+1) m' σ' H')/\∀x H',J.yld i H x H'->g x σ H' fun σ2 H2=>tb { D with nx:=N,ct:=N,bk:=D.nx } σ2 H2)))
  (Pv:Nat->St->Hp->Prop) (h0:Pv 0 σ H) (hl:∀i σ H,i<=xs.length->Pv i σ H->SqL K H a xs) (hs:∀i x σ H,xs[i]?=some x->Pv i σ H->g x σ H fun σ2 H2=>tb { D with nx:=Pv (i+1),ct:=Pv (i+1),bk:=D.nx } σ2 H2) (hd:∀σ H,Pv xs.length σ H->D.nx σ H):R (Itl K a) H:=by
 subst hR;exact Vd Pv h0 hl hs hd
noncomputable def KZ (mp:List (Option Nat))(g:TG)(tc:TT)(te:TE)(σ:St)(Q:VK)(J:It)(H1:Hp):Prop:=∃W:Nat->Nat->List V->St->Hp->Prop,(∃m,W 0 m [] (rN mp σ) H1)/\∀i m acc τ H2,W i m acc τ H2 ->
  (J.stop i H2/\∀d,H2 d=none->Q (.ref d) (upd H2 d (.lst acc))) \/
  (J.go i H2/\acc.length<AQ/\∃N:List V->St->Hp->Prop,(∀acc' τ' H',N acc' τ' H'->∃m',m'<m/\W (i+1) m' acc' τ' H')/\∀x H3,J.yld i H2 x H3->g x τ H3 fun τ1 H4=>tc τ1 H4 fun b H5=>
   if b=true then te τ1 H5 fun v H6=>N (acc++[v]) τ1 H6 else N acc τ1 H5)
theorem gC {mp:List (Option Nat)}{wi:TI}{g:TG}{tc:TT}{te:TE}{σ:St}{H:Hp}{Q:VK}(h:∀R:It->Hp->Prop,R=KZ mp g tc te σ Q->wi σ H R):Cq mp wi g tc te σ H Q:=h _ rfl
theorem FW {J:It}{mp:List (Option Nat)}{g:TG}{tc:TT}{te:TE}{σ:St}{H:Hp}{Q:VK}{R:It->Hp->Prop}(hR:R=KZ mp g tc te σ Q)(n:Nat)(hz:n<=AQ)(Pv:Nat->List V->St->Hp->Prop)(h0:Pv 0 [] (rN mp σ) H)
  (hl:∀i acc τ H,Pv i acc τ H->acc.length<=i) (hgo:∀i acc τ H,i<n->Pv i acc τ H->J.go i H) (hst:∀acc τ H,Pv n acc τ H->J.stop n H)
  (hs:∀i acc τ H x H3,i<n->Pv i acc τ H->J.yld i H x H3->g x τ H3 fun τ1 H4=>tc τ1 H4 fun b H5=>if b=true then te τ1 H5 fun v H6=>Pv (i+1) (acc++[v]) τ1 H6 else Pv (i+1) acc τ1 H5)
  (hd:∀acc τ H d,Pv n acc τ H->H d=none->Q (.ref d) (upd H d (.lst acc))):R J H:=by
 subst hR;refine⟨fun i m acc τ H2=>m=n-i/\i<=n/\Pv i acc τ H2,⟨_,rfl,DL _,h0⟩,?_⟩;rintro i m acc τ H2 ⟨rfl,hi,p⟩;have q3:=hl i acc τ H2 p;by_cases hlt:i<n
 ·exact .inr ⟨hgo i acc τ H2 hlt p,ω,Pv (i+1),fun acc' τ' H' q=>⟨_,ω,rfl,hlt,q⟩,fun x H3 y=>hs i acc τ H2 x H3 hlt p y⟩
 have e:i=n:=ω;subst e;exact .inl ⟨hst acc τ H2 p,fun d hd'=>hd acc τ H2 d p hd'⟩
structure Nm (N:List Str)(sc:Ff)(i:Nat)(x:Str):Prop where
 hN:N[i]?=some x
 hv:Loc sc x
 hd:(x == ("__debug__" : Str))=false
 hcd:(x == ("__classdict__" : Str))=false
noncomputable def ab9 (N:List Str) (sc:Ff) (i:Nat) (x:Str):Bool:=decide (N[i]?=some x)&&(decide (sc.names.lookup x=some .local)||decide (sc.names.lookup x=some .cell)) && !(x == ("__debug__" : Str)) && !(x == ("__classdict__" : Str))
theorem Nm.of {N:List Str}{sc:Ff}{i:Nat}{x:Str}(h:ab9 N sc i x=true):Nm N sc i x:=by
 unfold ab9 at h;rw[Cc,Cc,Cc,Bool.or_eq_true] at h;obtain⟨⟨⟨h1,h2⟩,h3⟩,h4⟩:=h;exact⟨of_decide_eq_true h1,h2.elim (fun z=>.inl (of_decide_eq_true z)) (fun z=>.inr (of_decide_eq_true z)),by simpa using h3,by simpa using h4⟩
structure Bn (x:Str):Prop where
 hn:x ≠ "__name__"
 hd:(x == ("__debug__" : Str))=false
section
variable {X:Cx}{i:Nat}{x:Str}{pos pos' p:Pos}{e:Expr}{es:List Expr}{te:TE}{t:TA}{k:Nat}{ps:List Str}{sp:Sp}{id T:String}{r:List V->Hp->VK->Prop}
theorem pn (n:Nm X.N X.env.scope i x):PE X (.Name x pos) (Eh i):=Tp n.hN (n.hv.elim .inl fun z=>.inr (.inl z)) n.hd n.hcd
theorem abR (n:Nm X.N X.env.scope i x)(hN:X.N.Nodup)(he:PE X e te)(hs:FO e (some (.Name x pos')) pos.line X.env=pure false:=by rfl)(hf:X.fn x=true\/X.env.scope.names.lookup x=some .local:=by exact .inl rfl) :
  PS X (.Assign [.Name x pos'] e pos) (Bm te (lE i)):=aaj hN n.hN n.hv he hs hf
theorem abU (n:Nm X.N X.env.scope i x)(hN:X.N.Nodup)(hf:X.fn x=true\/X.env.scope.names.lookup x=some .local:=by exact .inl rfl):PG X (.Name x pos) (lE i):=LR hN n.hN n.hv hf
theorem abZ (C:Cal X.prog X.w X.K X.mg X.base x k ps sp)(hr:gh k X.A)(hg:Gl X x)(hdb:Bn x)(ha:PA X (e::es) t)
  (he:AJ (e::es) X.env=(false,eval e X.env)::AJ es X.env:=by rfl) (hpl:(CA pos (AJ es X.env)).any (·.1)=false:=by rfl):PE X (.Call (.Name x p) (e::es) [] pos) (uq sp [] E0 t):=
 aaB C hr hg ha hdb.hd he hpl
theorem ab0 (hc:fO X (.builtin id) r)(hg:Gl X x)(hm:X.mg x=none)(hv:EK x=some (.builtin id))(b:Bn x)(ha:PA X (e::es) t)
  (he:AJ (e::es) X.env=(false,eval e X.env)::AJ es X.env:=by rfl) (hpl:(CA pos (AJ es X.env)).any (·.1)=false:=by rfl):PE X (.Call (.Name x p) (e::es) [] pos) (tCB r t):=TV hc hg hm hv ha b.hn b.hd he hpl
theorem abY (hc:fO X (.type T) r)(hg:Gl X x)(hm:X.mg x=none)(hv:EK x=some (.type T))(b:Bn x)(ha:PA X (e::es) t)
  (he:AJ (e::es) X.env=(false,eval e X.env)::AJ es X.env:=by rfl) (hpl:(CA pos (AJ es X.env)).any (·.1)=false:=by rfl):PE X (.Call (.Name x p) (e::es) [] pos) (tCB r t):=Oq hc hg hm hv ha b.hn b.hd he hpl
end
theorem je:Bn "len" := ⟨ψ,ψ⟩
theorem VD:Bn "abs" := ⟨ψ,ψ⟩
theorem wX:Bn "min" := ⟨ψ,ψ⟩
theorem uf:Bn "max" := ⟨ψ,ψ⟩
theorem abp:Bn "any" := ⟨ψ,ψ⟩
theorem VB:Bn "int" := ⟨ψ,ψ⟩
theorem abo:Bn "sum" := ⟨ψ,ψ⟩
theorem Vz:Bn "tuple" := ⟨ψ,ψ⟩
theorem Qp:Bn "sorted" := ⟨ψ,ψ⟩
noncomputable def gtq (o:Option HO)(n:Nat)(t:TGs)(σ:St)(H:Hp)(Q:St->Hp->Prop):Prop:=match o with
 | some (.tup xs)=>xs.length=n/\t xs σ H Q
 | _=>False
noncomputable def Hx (n:Nat)(t:TGs):TG:=fun v σ H Q=>match v with
 | .ref a=>gtq (H a) n t σ H Q
 | _=>False
theorem Dv (n:Nat)(t:TGs)(a:Addr)(σ:St)(H:Hp)(Q:St->Hp->Prop):Hx n t (.ref a) σ H Q=gtq (H a) n t σ H Q:=rfl
theorem Mu (xs:List V)(n:Nat)(t:TGs)(σ:St)(H:Hp)(Q:St->Hp->Prop):gtq (some (.tup xs)) n t σ H Q=(xs.length=n/\t xs σ H Q):=rfl
noncomputable def qtq (o:Option HO)(f:List Bool->Bool)(H:Hp)(Q:VK):Prop:=match o with
 | some (.lst xs)=>∃bs,xs=HE V.bl bs/\Q (.bl (f bs)) H
 | _=>False
noncomputable def Eo (f:List Bool->Bool):List V->Hp->VK->Prop:=fun xs H Q=>match xs with
 | [.ref p]=>qtq (H p) f H Q
 | _=>False
theorem GD (f:List Bool->Bool)(p:Addr)(H:Hp)(Q:VK):Eo f [.ref p] H Q=qtq (H p) f H Q:=rfl
theorem W5 (f:List Bool->Bool)(xs:List V)(H:Hp)(Q:VK):qtq (some (.lst xs)) f H Q=∃bs,xs=HE V.bl bs/\Q (.bl (f bs)) H:=rfl
section
variable {X:Cx}{es:List Expr}{k:Nat}{t:TGs}{n:Nat}{pos:Pos}
theorem Xz (hc:X.calm=true)(h:PGs X es t)(hn:(DA es X.env).length=n:=by rfl)(hst:(DA es X.env).findIdx? (·.1)=none:=by rfl):PG X (.Tuple es k pos) (Hx n t):=by
 intro pins s σ H v u Q I r hw;unfold Hx at hw;split at hw
 ·rename_i a;unfold gtq at hw;split at hw
  ·rename_i xs e;exact aav hc h hn hst pins s σ H _ u Q I r ⟨a,xs,rfl,SqT.of e,hw.1,hw.2⟩
  exact hw.elim
 exact hw.elim
theorem Qm (hc:X.calm=true):fO X (.builtin "any") (Eo fun bs=>bs.any id):=by
 intro pins s σ H xs us Q I r h;unfold Eo at h;split at h
 ·rename_i p;unfold qtq at h;split at h
  ·rename_i ys e;obtain⟨bs,rfl,q⟩:=h;exact Vv hc pins s σ H _ us Q I r ⟨p,bs,rfl,SqL.of e,q⟩
  exact h.elim
 exact h.elim
end
noncomputable def R8:List V->Hp->VK->Prop:=fun xs H Q=>match xs with
 | [.int i,.int j]=>Q (.int (if j<i then j else i)) H
 | _=>False
noncomputable def Sd:List V->Hp->VK->Prop:=fun xs H Q=>match xs with
 | [.int i,.int j]=>Q (.int (if j>i then j else i)) H
 | _=>False
theorem R7 (i j:Int)(H:Hp)(Q:VK):R8 [.int i,.int j] H Q=Q (.int (if j<i then j else i)) H:=rfl
theorem R9 (i j:Int)(H:Hp)(Q:VK):Sd [.int i,.int j] H Q=Q (.int (if j>i then j else i)) H:=rfl
theorem rD {X:Cx}(hc:X.calm=true):fO X (.builtin "min") R8:=by
 intro pins s σ H xs us Q I r h;unfold R8 at h;split at h
 ·exact Qh hc pins s σ H _ us Q I r ⟨_,_,rfl,h⟩
 exact h.elim
theorem jZ {X:Cx}(hc:X.calm=true):fO X (.builtin "max") Sd:=by
 intro pins s σ H xs us Q I r h;unfold Sd at h;split at h
 ·exact Qj hc pins s σ H _ us Q I r ⟨_,_,rfl,h⟩
 exact h.elim
structure QE (X:Cx)(e:Expr)(t:TE):Prop where
 h:PE X e t
structure QT (X:Cx)(e:Expr)(t:TT):Prop where
 h:PT X e t
structure QW (X:Cx)(e:Expr)(t:TT):Prop where
 h:PW X e t
structure QA (X:Cx)(es:List Expr)(t:TA):Prop where
 h:PA X es t
structure QS (X:Cx)(st:Stmt)(t:TS):Prop where
 h:PS X st t
structure QB (X:Cx)(st:List Stmt)(t:TS):Prop where
 h:PSs X st t
structure QG (X:Cx)(e:Expr)(t:TG):Prop where
 h:PG X e t
structure QGs (X:Cx)(es:List Expr)(t:TGs):Prop where
 h:PGs X es t
structure QI (X:Cx)(tg e:Expr)(t:TI):Prop where
 h:PI X tg e t
structure QC (X:Cx)(cs:List Expr)(t:TT):Prop where
 h:PTs X cs t
section
variable {X:Cx}{i:Nat}{x:Str}{pos pos' p tpos:Pos}{e a b c o:Expr}{es rest:List Expr}{te ta tb tc to ti:TE}{tA tB':TT}{t:TA}{k n kk:Nat}{ps:List Str}{sp:Sp}{id T:String}{r:List V->Hp->VK->Prop}{st:Stmt}{sts:List Stmt}{ts us:TS}{tg iter:Expr}{wi:TI}{g:TG}{gs:TGs}
theorem Od (h:Nm X.N X.env.scope i x):QE X (.Name x pos) (Eh i):=⟨pn h⟩
theorem acK (i:Nat) {x:Str}{pos:Pos}(hN:X.N[i]?=some x:=by rfl) (hv:Vis X.env.scope x:=by first|exact EF rfl|exact Or.inr (EF rfl)|exact Or.inr (Or.inr rfl)) (hd:(x == ("__debug__" : Str))=false:=by decide)
  (hcd:(x == ("__classdict__" : Str))=false:=by decide):QE X (.Name x pos) (Eh i):=⟨Tp hN hv hd hcd⟩
theorem aq {i j pos}:QE X (.Constant (.int i) j pos) (tC (.int i)):=⟨aaA⟩
theorem GK {b j pos}:QE X (.Constant (.bool b) j pos) (tC (.bl b)):=⟨ab1⟩
theorem jH {j pos}:QE X (.Constant .none j pos) (tC .non):=⟨aay⟩
theorem bB {x j pos}:QE X (.Constant (.str x) j pos) (tC (.str x)):=⟨aax⟩
theorem aN {op:Operator}{r:R2}(ho:OpR X (ED op) r)(ha:QE X a ta)(hb:QE X b tb):QE X (.BinOp a op b pos) (tOp r ta tb):=⟨abW ho ha.h hb.h⟩
theorem jA {op:UnaryOp}{r:V->Hp->VK->Prop}(ho:UnR X (unaryOp op) r)(ha:QE X a ta):QE X (.UnaryOp op a pos) (tUn r ta):=⟨abV ho ha.h⟩
theorem pN {op:IG}{r:R2}(ho:OpR X (B0 op) r)(ha:QE X a ta)(hb:QE X b tb)(hm:ET op b=false):QE X (.Compare a [op] [b] pos) (tOp r ta tb):=⟨XS ho ha.h hb.h hm⟩
theorem aW {op:IG}{r:R2}(ho:OpR X (B0 op) r)(ha:QE X a ta)(hb:QE X b tb)(hm:ET op b=false):QT X (.Compare a [op] [b] pos) (yQ (tOp r ta tb)):=⟨Xf ho ha.h hb.h hm⟩
theorem S6 {op op':IG}{r r':R2}(ho:OpR X (B0 op) r)(ho':OpR X (B0 op') r')(ha:QE X a ta)(hb:QE X b tb)(hc:QE X c tc)
  (hm:lastMarks [op,op'] [b,c]=false:=by with_unfolding_all rfl):QE X (.Compare a [op,op'] [b,c] pos) (yS r r' ta tb tc):=⟨TQ ho ho' ha.h hb.h hc.h hm⟩
theorem Sx {op op':IG}{r r':R2}(ho:OpR X (B0 op) r)(ho':OpR X (B0 op') r')(ha:QE X a ta)(hb:QE X b tb)(hc:QE X c tc)
  (hm:lastMarks [op,op'] [b,c]=false:=by with_unfolding_all rfl):QT X (.Compare a [op,op'] [b,c] pos) (yQ (yS r r' ta tb tc)):=⟨S8 ho ho' ha.h hb.h hc.h hm⟩
theorem GJ (hc:QT X c tA)(ha:QE X a ta)(hb:QE X b tb):QE X (.IfExp c a b pos) (tIf tA ta tb):=⟨Tv hc.h ha.h hb.h⟩
theorem aG {r:R2}(hr:IxR X r)(ha:QE X a ta)(hb:QE X b tb)(hs:Nk b):QE X (.Subscript a b pos) (tOp r ta tb):=⟨abX hr ha.h hb.h hs⟩
theorem bZ (h:QA X es t):QE X (.List es pos) (Rf t):=⟨aaz h.h⟩
theorem bK {x1}(h:QA X es t):QE X (.Tuple es x1 pos) (Q8 t):=⟨aaw h.h⟩
theorem aB:QA X [] NK:=⟨aaD⟩
theorem ak (ha:QE X e te)(hr:QA X es t)(hs:AJ (e::es) X.env=(false,eval e X.env)::AJ es X.env:=by rfl):QA X (e::es) (Cp te t):=⟨X5 ha.h hr.h hs⟩
theorem bF (C:Cal X.prog X.w X.K X.mg X.base x k ps sp)(hr:gh k X.A)(hg:Gl X x)(hdb:Bn x)(ha:QA X (e::es) t)
  (he:AJ (e::es) X.env=(false,eval e X.env)::AJ es X.env:=by rfl) (hpl:(CA pos (AJ es X.env)).any (·.1)=false:=by rfl):QE X (.Call (.Name x p) (e::es) [] pos) (uq sp [] E0 t):=⟨abZ C hr hg hdb ha.h he hpl⟩
theorem dz (hc:fO X (.builtin id) r)(hg:Gl X x)(hm:X.mg x=none)(hv:EK x=some (.builtin id))(b:Bn x)(ha:QA X (e::es) t)
  (he:AJ (e::es) X.env=(false,eval e X.env)::AJ es X.env:=by rfl) (hpl:(CA pos (AJ es X.env)).any (·.1)=false:=by rfl):QE X (.Call (.Name x p) (e::es) [] pos) (tCB r t):=⟨ab0 hc hg hm hv b ha.h he hpl⟩
theorem SQ (hc:fO X (.type T) r)(hg:Gl X x)(hm:X.mg x=none)(hv:EK x=some (.type T))(b:Bn x)(ha:QA X (e::es) t)
  (he:AJ (e::es) X.env=(false,eval e X.env)::AJ es X.env:=by rfl) (hpl:(CA pos (AJ es X.env)).any (·.1)=false:=by rfl):QE X (.Call (.Name x p) (e::es) [] pos) (tCB r t):=⟨abY hc hg hm hv b ha.h he hpl⟩
theorem Jr (ha:QT X a tA):QT X (.UnaryOp .Not a pos) (Wl tA):=⟨aah ha.h⟩
theorem Ep (h:QE X e te)(he:∀whole,isTrue e X.env whole=(do let v <- whole;GA e.pos;EB [v] (truthy v)):=by intro _;rfl):QT X e (tB te):=⟨aaf h.h he⟩
theorem jx (ha:QT X a tA):QW X (.BoolOp .And [a] pos) tA:=⟨Xc ha.h⟩
theorem Jq (ha:QT X a tA):QW X (.BoolOp .Or [a] pos) tA:=⟨aad ha.h⟩
theorem kE (ha:QT X a tA)(hb:QW X (.BoolOp .And (b::rest) pos) tB'):QW X (.BoolOp .And (a::b::rest) pos) (Wn tA tB'):=⟨aae ha.h hb.h⟩
theorem Sw (ha:QT X a tA)(hb:QW X (.BoolOp .Or (b::rest) pos) tB'):QW X (.BoolOp .Or (a::b::rest) pos) (tOr tA tB'):=⟨abQ ha.h hb.h⟩
theorem vX (h:QW X e tA):QT X e tA:=⟨h.h.pt⟩
theorem bC:QB X [] Gp:=⟨Xh⟩
theorem aJ (h:QS X st ts):QB X [st] ts:=⟨Xg h.h⟩
theorem aD (h:QS X st ts)(h2:QB X sts us):QB X (st::sts) (Nz ts us):=⟨S9 h.h h2.h⟩
theorem aV (he:QE X e te):QS X (.Return (some e) pos) (Q9 te):=⟨aak he.h⟩
theorem bR {c:Expr}{a b:List Stmt}{tc:TT}(hc:QT X c tc)(ha:QB X a ts)(hb:QB X b us):QS X (.If c a b pos) (NP tc ts us):=⟨abS hc.h ha.h hb.h⟩
theorem fB (he:QE X e te)(hs:FO e none pos.line X.env=pure false:=by rfl):QS X (.Expr e pos) (Ri te):=⟨Xl he.h hs⟩
theorem bG (h:Nm X.N X.env.scope i x)(hN:X.N.Nodup)(he:QE X e te)(hs:FO e (some (.Name x pos')) pos.line X.env=pure false:=by rfl)(hf:X.fn x=true\/X.env.scope.names.lookup x=some .local:=by exact .inl rfl) :
  QS X (.Assign [.Name x pos'] e pos) (Bm te (lE i)):=⟨abR h hN he.h hs hf⟩
theorem jk (he:QE X e te)(hg:QG X tg g)(hs:F2 [tg] e pos.line X.env=pure false:=by rfl)(hw:Kt [tg] e X.env=pure none:=by rfl)
  (h1:(DA [tg] X.env).map (·.2)=[FR tg X.env]:=by rfl):QS X (.Assign [tg] e pos) (Bm te g):=⟨aao he.h hg.h hs hw h1⟩
theorem Js {i j:Nat}{x y:Str}{a b:Expr}{ta:TA}{px py pt:Pos}{kt k2 pt2}(hc:X.calm=true)(hN:X.N.Nodup)(hi:X.N[i]?=some x)(hj:X.N[j]?=some y)(hij:i≠j)
  (hx:X.env.scope.names.lookup x=some .local) (hy:X.env.scope.names.lookup y=some .local) (ha:QA X [a,b] ta)
  (hw:Kt [.Tuple [.Name x px,.Name y py] kt pt] (.Tuple [a,b] k2 pt2) X.env=pure (some [x,y]))
  (hs:F2 [.Tuple [.Name x px,.Name y py] kt pt] (.Tuple [a,b] k2 pt2) pos.line X.env=pure false:=by rfl) :
  QS X (.Assign [.Tuple [.Name x px,.Name y py] kt pt] (.Tuple [a,b] k2 pt2) pos) (ZF i j ta):=⟨aal hc hN hi hj hij hx hy ha.h hw hs⟩
theorem zc {c:Expr}{body:List Stmt}{tc:TT}(hp:PassesOwn (AN X.prog X.w) X.A X.env X.xe)(hc:QT X c tc)(hb:QB X body ts):QS X (.While c body [] pos) (Eg tc ts):=⟨Tc hp hc.h hb.h⟩
theorem gY {body:List Stmt}(hp:PassesOwn (AN X.prog X.w) X.A X.env X.xe)(hc:X.calm=true)(hi:QI X tg iter wi)(hg:QG X tg g)(hb:QB X body ts)
  (hs:∀x,DI iter X.env x=pure x:=by intro _;rfl):QS X (.For tg iter body [] pos) (ZG wi g ts):=⟨aam hp hc hi.h hg.h hb.h hs⟩
theorem bT (h:Nm X.N X.env.scope i x)(hN:X.N.Nodup)(hf:X.fn x=true\/X.env.scope.names.lookup x=some .local:=by exact .inl rfl):QG X (.Name x pos) (lE i):=⟨abU h hN hf⟩
theorem dM (i:Nat)(hN:X.N.Nodup)(hi:X.N[i]?=some x)(hx:Loc X.env.scope x)(hf:X.fn x=true\/X.env.scope.names.lookup x=some .local:=by first|exact .inl rfl|exact .inr rfl):QG X (.Name x pos) (lE i):=⟨LR hN hi hx hf⟩
theorem cL:QGs X [] YD:=⟨Xy⟩
theorem aR (h1:QG X e g)(h2:QGs X es gs)(hs:(DA (e::es) X.env).map (·.2)=FR e X.env::(DA es X.env).map (·.2):=by rfl):QGs X (e::es) (HN g gs):=⟨Tj h1.h h2.h hs⟩
theorem dO {n:Nat}(hc:X.calm=true)(h:QGs X es gs)(hn:(DA es X.env).length=n:=by rfl)(hst:(DA es X.env).findIdx? (·.1)=none:=by rfl):QG X (.Tuple es k pos) (Hx n gs):=⟨Xz hc h.h hn hst⟩
theorem V5 (o:Expr)(c j)(p pos:Pos)(env:Env)(v:An):FR (.Subscript o (.Constant c j p) pos) env v=(do
   let ov <- EB [v] (eval o env)
   let iv <- EB [v,ov] (eval (.Constant c j p) env)
   GA pos
   EB [v,ov,iv] (setItem ov iv v)
   release [v,ov,iv] []):=rfl
theorem V4 (o:Expr)(y)(p pos:Pos)(env:Env)(v:An):FR (.Subscript o (.Name y p) pos) env v=(do
   let ov <- EB [v] (eval o env)
   let iv <- EB [v,ov] (eval (.Name y p) env)
   GA pos
   EB [v,ov,iv] (setItem ov iv v)
   release [v,ov,iv] []):=rfl
theorem Et {c j}{t:Qw}(ho:QE X o to)(hi:QE X (.Constant c j p) ti)(hs:Qx X t):QG X (.Subscript o (.Constant c j p) pos) (U7 to ti t):=⟨Jx ho.h hi.h hs (fun v=>V5 o c j p pos X.env v)⟩
theorem W8 {y}{t:Qw}(ho:QE X o to)(hi:QE X (.Name y p) ti)(hs:Qx X t):QG X (.Subscript o (.Name y p) pos) (U7 to ti t):=⟨Jx ho.h hi.h hs (fun v=>V4 o y p pos X.env v)⟩
theorem vY (hg:Gl X "range") (hm:X.mg "range" = none) (ha:QA X [a] t) (hs:AJ [a] X.env=[(false,eval a X.env)]:=by rfl):QI X tg (.Call (.Name "range" p) [a] [] pos) (Ht t):=⟨Ol hg hm ha.h hs⟩
theorem aac (hg:Gl X "zip") (hm:X.mg "zip" = none) (ha:QA X [a,b] t) (hs:AJ [a,b] X.env=[(false,eval a X.env),(false,eval b X.env)]:=by rfl) (hs2:AJ [b] X.env=[(false,eval b X.env)]:=by rfl):QI X (.Tuple es kk tpos) (.Call (.Name "zip" p) [a,b] [] pos) (abg X.K t):=⟨aau hg hm ha.h hs hs2⟩
theorem yK (hg:Gl X "enumerate") (hm:X.mg "enumerate" = none) (ha:QA X [a] t) (hs:AJ [a] X.env=[(false,eval a X.env)]:=by rfl):QI X (.Tuple es kk tpos) (.Call (.Name "enumerate" p) [a] [] pos) (Dt X.K t):=⟨Xx hg hm ha.h hs⟩
theorem pP:QC X [] Zz:=⟨Xe⟩
theorem pO (h:QT X c tA):QC X [c] tA:=⟨Xd h.h⟩
theorem lR {NX:List Str}{kX:List (Str×C7)}{scope:Ff}{elt:Expr}{ifs:List Expr}{tc:TT}(N:List Str)(mp:List (Option Nat))(hNX:X.N=NX)(hkX:X.env.scope.names=kX)(S:xZ NX kX N mp scope)(hc:X.calm=true)
  (hi:QI X tg iter wi) (hg:∀cl C s H fp,QG (cA X N scope cl C s H fp) tg g) (ht:∀cl C s H fp,QC (cA X N scope cl C s H fp) ifs tc) (he:∀cl C s H fp,QE (cA X N scope cl C s H fp) elt te)
  (hs:∀x,DI iter X.env x=pure x:=by intro _;rfl):QE X (.ListComp elt [⟨tg,iter,ifs,0⟩] scope pos) (Cq mp wi g tc te):=
 ⟨Ma N mp hNX hkX S hc hi.h (fun cl C s H fp=>(hg cl C s H fp).h) (fun cl C s H fp=>(ht cl C s H fp).h) (fun cl C s H fp=>(he cl C s H fp).h) hs⟩
end
section
variable {P:AW}{w:BB}{K:AD}{mg:Str->Option An}{base:Heap}
theorem Fun.okq {x qual:Str}{st:Stmt}{f:Addr}{fd:Co}{N ps:List Str}{k:Nat}{sp:Sp}(F:Fun K x qual st f fd)(S:bx N ps (aj st))(len:∀vs H Q E,sp vs H Q E->vs.length=ps.length)
  (hbody:∀(cdv:An)(A:Bi)(outer:List Env)(s:AA)(H:Hp)(vs:List V)(Q:VK)(E:XK),gh k (A.deeper (EA qual (aj st) s.heap.objs.size f cdv))->sp vs H Q E ->
   ∃t,QB (yx CX0 P w K mg base N qual (aj st) f cdv A outer s H E).nox (bf st) t/\t { nx:=fun _ H'=>Q .non H',rt:=Q } (L2.start N vs) H):cQ P w K mg base CX0 (k+1) f fd ps sp:=
 F.ok S len fun cdv A outer s H vs Q E hr hsp=>by
  obtain⟨t,h,q⟩:=hbody cdv A outer s H vs Q E hr hsp;exact⟨t,h.h,q⟩
end
theorem Ju:∀(ns:List Int),preSum (fun i=>(ns[i]?).getD 0) ns.length=ns.sum:=by
 have key:∀(f:Nat->Int)(n:Nat),preSum f (n+1)=preSum f n+f n:=fun f n=>rfl;have key2:∀(n:Nat)(f g:Nat->Int),(∀i,i<n->f i=g i)->preSum f n=preSum g n:=by
  intro n
  induction n with
  | zero=>intros;rfl
  | succ n ih=>intro f g h;rw[key,key,ih f g fun i hi=>h i (F3 hi),h n (Db n)]
 have key3:∀(n:Nat)(f:Nat->Int),preSum f (n+1)=f 0+preSum (fun i=>f (i+1)) n:=by
  intro n
  induction n with
  | zero=>intro f;show(0:Int)+f 0=f 0+0;omega
  | succ n ih=>intro f;rw[key,ih,key];omega
 intro ns
 induction ns with
 | nil=>rfl
 | cons a r ih=>
  rw[Be,key3,sum_cons,<- ih];rfl
noncomputable def smq (o:Option HO)(H:Hp)(Q:VK):Prop:=match o with
 | some (.lst xs)=>∃ns:List Int,xs=ns.map V.int/\Q (.int ns.sum) H
 | _=>False
noncomputable def RX:List V->Hp->VK->Prop:=fun xs H Q=>match xs with
 | [.ref p]=>smq (H p) H Q
 | _=>False
theorem N8 (p:Addr)(H:Hp)(Q:VK):RX [.ref p] H Q=smq (H p) H Q:=rfl
theorem Ws (xs:List V)(H:Hp)(Q:VK):smq (some (.lst xs)) H Q=∃ns:List Int,xs=ns.map V.int/\Q (.int ns.sum) H:=rfl
section
variable {X:Cx}
theorem Qf (hc:X.calm=true):fO X (.builtin "sum") RX:=by
 intro pins s σ H xs us Q I r h;unfold RX at h;split at h
 ·rename_i p;unfold smq at h;split at h
  ·rename_i ys e;obtain⟨ns,rfl,q⟩:=h;cases r with
   | cons r rr=>
    cases rr;cases r;obtain⟨its,rv,pl,hz⟩:=I.list (SqL.of e);have hl:=rv.length;have lt:p<s.heap.objs.size:=by obtain⟨_,e,_⟩:=pl.isList;exact A3 e
    refine call_sum_walkG (D8 pl.isList ?_);refine⟨s.heap.objs.size,[s.heap.objs.size,p],[s.heap.objs.size],its.toArray.size,_,_,fun i=>(ns[i]?).getD 0,rfl,Walks.list (A:=X.A.in1) (I.ok.hd hc) _ p (BO lt) _,
     ⟨⟨_,BA _ rfl,rfl,rfl⟩,pl.isList.push _⟩,?_,fun i v hP=>?_,fun h' tk t' hk=>?_⟩
    ·intro b hb;rw[D5];simp only[AO,BE,or_false] at hb;rcases hb with rfl|rfl
     ·exact Db _
     exact F3 lt
    ·have e1:its[i]?=some v:=by simpa using hP
     have hi:i<its.length:=by
      rcases E3 i its.length with z|z
      ·exact z
      rw[EG z] at e1;cases e1
     have hi2:i<ns.length:=by rw[<- hl,AI] at hi;exact hi
     obtain⟨u,hu,ru⟩:=rv.get (i:=i) (x:=.int ns[i]) (by rw[A4,AC hi2];rfl);rw[e1] at hu;cases hu;obtain⟨t,rfl⟩:=ru;exact⟨t,by show _=An.int ((ns[i]?).getD 0) t;rw[AC hi2];rfl⟩
    have e2:its.toArray.size=ns.length:=by rw[AZ,<- hl,AI]
    rw[e2,Ju];refine⟨.int _,H,I.kept fun b o e=>hk b o (fun hm=>?_) (AF _ e),⟨t',rfl⟩,q⟩;rw[Au.mp hm] at e;exact CU _ (A3 e)
  exact h.elim
 exact h.elim
noncomputable def sW (i:Int)(n:Nat):List V:=(AU n).map fun k=>V.int (i+(k:Nat))
noncomputable def Rg (ta:TA):TE:=fun σ H Q=>ta σ H fun vs H1=>∃i j:Int,vs=[.int i,.int j]/\(-(2^62)<=i/\i<2^62/\-(2^62)<=j/\j<2^62)/\(j-i).toNat<=AQ/\∀p,H1 p=none->Q (.ref p) (upd H1 p (.lst (sW i (j-i).toNat)))
theorem Ed:∀{xs:List V}{us:List An},xs.length=us.length->(∀(i:Nat) x u,xs[i]?=some x->us[i]?=some u->RelV x u)->Vals xs us
 | [],[],_,_=>.nil
 | [],_::_,h,_=>by cases h
 | _::_,[],h,_=>by cases h
 | x::xs,u::us,h,f=>.cons (f 0 x u rfl rfl) (Ed (by simpa using h) fun i y v h1 h2=>f (i+1) y v h1 h2)
theorem Uv:AQ<=2^24:=by decide
theorem XH {a b:Expr}{ta:TA}{p p2 pos pos2:Pos}(hc:X.calm=true) (hgl:Gl X "list") (hml:X.mg "list" = none) (hg:Gl X "range") (hm:X.mg "range" = none) (ha:PA X [a,b] ta)
  (hs:AJ [a,b] X.env=[(false,eval a X.env),(false,eval b X.env)]:=by rfl) (hs2:AJ [b] X.env=[(false,eval b X.env)]:=by rfl)
  (he:AJ [.Call (.Name "range" p2) [a,b] [] pos2] X.env=[(false,eval (.Call (.Name "range" p2) [a,b] [] pos2) X.env)]:=by rfl) :
  PE X (.Call (.Name "list" p) [.Call (.Name "range" p2) [a,b] [] pos2] [] pos) (Rg ta):=by
 intro pins s σ H Q I h;refine EM (mH I hgl hml boot_list ?_ δ δ);refine B9 ?_ he rfl;rw[he];show AK _ _ (spliced ((false,eval (.Call (.Name "range" p2) [a,b] [] pos2) X.env)::[])) _ _ s;refine EL ?_;refine Call_ (mH I hg hm boot_range (B9 (thA (ha pos2 pins s σ H _ I h) fun us s1 vs H1 I1 r1 q1=>?_) (by rw[hs,hs2]) (by rw[hs2];rfl)));obtain⟨i,j,e,⟨q1,q2,q3,q4⟩,hz,q⟩:=q1;subst e;cases r1 with
 | cons r rr=>
  cases rr with
  | cons r' rr=>
   cases rr;obtain⟨t,rfl⟩:=r;obtain⟨t',rfl⟩:=r';refine call_range_2 (EV ?_);refine call_list_range (n:=(j-i).toNat) (I1.ok.hd hc) (IsRange.new ..) (small_one q1 q2 q3 q4) (by rw[rangeSize_one];split <;> omega) (BQ hz Uv) fun h' tk acc' c' kp e it=>?_
   have I2:Inv X pins σ H1 { s1 with heap:=s1.heap.push { cls:=.type "range",data:=.fields #[.int i t,.int j t',.int 1 s1.toks] },toks:=s1.toks+1 }:=I1.kept fun b o e=>AF _ e;have hf:H1 (s1.heap.push { cls:=.type "range",data:=.fields #[.int i t,.int j t',.int 1 s1.toks] }).objs.size=none:=I2.hok.fresh (A6 _);refine⟨.ref _,_,I2.laid (t':=tk) kp (A6 _) (show d9 X.prog X.w _ h' _ (.lst (sW i (j-i).toNat)) from⟨?_,acc'.toList,c',?_,by simpa using e⟩),rfl,q _ hf⟩
   ·simpa [sW] using hz
   obtain⟨it1,it2⟩:=it;refine Ed (by simp [sW,it1]) fun k x u h1 h2=>?_;have h2':acc'[k]?=some u:=by simpa using h2
   obtain⟨t9,rfl⟩:=it2 k u h2';unfold sW at h1;rw[A4] at h1;have hk:k<(j-i).toNat:=by
    rcases E3 k (j-i).toNat with z|z
    ·exact z
    rw[EG (by simpa using z)] at h1;cases h1
   rw[JU hk] at h1;cases h1;exact⟨t9,by rw[mul_one]⟩
theorem Eu {a b:Expr}{ta:TA}{p p2 pos pos2:Pos}(hc:X.calm=true) (hgl:Gl X "list") (hml:X.mg "list" = none) (hg:Gl X "range") (hm:X.mg "range" = none) (ha:QA X [a,b] ta)
  (hs:AJ [a,b] X.env=[(false,eval a X.env),(false,eval b X.env)]:=by rfl) (hs2:AJ [b] X.env=[(false,eval b X.env)]:=by rfl)
  (he:AJ [.Call (.Name "range" p2) [a,b] [] pos2] X.env=[(false,eval (.Call (.Name "range" p2) [a,b] [] pos2) X.env)]:=by rfl) :
  QE X (.Call (.Name "list" p) [.Call (.Name "range" p2) [a,b] [] pos2] [] pos) (Rg ta):=⟨XH hc hgl hml hg hm ha.h hs hs2 he⟩
noncomputable def adq (a b:Option HO)(H:Hp)(Q:VK):Prop:=match a,b with
 | some (.lst xs),some (.lst zs)=>xs.length+zs.length<=AQ/\∀p,H p=none->Q (.ref p) (upd H p (.lst (xs++zs)))
 | _,_=>False
noncomputable def Lw:R2:=fun x y H Q=>match x,y with
 | .int i,.int j=>Q (.int (i+j)) H
 | .ref p,.ref q=>adq (H p) (H q) H Q
 | _,_=>False
theorem W4 (i j:Int)(H:Hp)(Q:VK):Lw (.int i) (.int j) H Q=Q (.int (i+j)) H:=rfl
theorem W3 (p q:Addr)(H:Hp)(Q:VK):Lw (.ref p) (.ref q) H Q=adq (H p) (H q) H Q:=rfl
theorem V7 (xs zs:List V)(H:Hp)(Q:VK):adq (some (.lst xs)) (some (.lst zs)) H Q=(xs.length+zs.length<=AQ/\∀p,H p=none->Q (.ref p) (upd H p (.lst (xs++zs)))):=rfl
theorem aZ:OpR X (ED .Add) Lw:=by
 intro pins s σ H x y v u Q I rx ry h;unfold Lw at h;split at h
 ·exact aaK pins s σ H _ _ v u Q I rx ry ⟨_,_,rfl,rfl,h⟩
 ·rename_i p q;unfold adq at h;split at h
  ·rename_i xs zs e1 e2;exact aaJ pins s σ H _ _ v u Q I rx ry ⟨p,q,xs,zs,rfl,rfl,e1,e2,h.1,h.2⟩
  exact h.elim
 exact h.elim
noncomputable def eqL:List V->List V->Bool
 | [],[]=>true
 | x::xs,y::ys=>eqV x y&&eqL xs ys
 | _,_=>false
noncomputable def Yo (a b:Option HO)(H:Hp)(Q:VK):Prop:=match a,b with
 | some (.lst xs),some (.lst zs)=>xs.all jd=true/\zs.all jd=true/\Q (.bl (!eqL xs zs)) H
 | _,_=>False
noncomputable def R6:R2:=fun x y H Q=>match x,y with
 | .ref p,.ref q=>Yo (H p) (H q) H Q
 | x,y=>rNe x y H Q
theorem Z4 (p q:Addr)(H:Hp)(Q:VK):R6 (.ref p) (.ref q) H Q=Yo (H p) (H q) H Q:=rfl
theorem Z5 (i j:Int)(H:Hp)(Q:VK):R6 (.int i) (.int j) H Q=rNe (.int i) (.int j) H Q:=rfl
theorem Z2 (i j:Str)(H:Hp)(Q:VK):R6 (.str i) (.str j) H Q=rNe (.str i) (.str j) H Q:=rfl
theorem Yn (xs zs:List V)(H:Hp)(Q:VK):Yo (some (.lst xs)) (some (.lst zs)) H Q=(xs.all jd=true/\zs.all jd=true/\Q (.bl (!eqL xs zs)) H):=rfl
theorem MJ:∀(xs zs:List V),xs.length=zs.length->((AU xs.length).all fun j=>match xs[j]?,zs[j]? with|some a,some b=>eqV a b|_,_=>true)=eqL xs zs
 | [],[],_=>rfl
 | [],_::_,h=>by cases h
 | _::_,[],h=>by cases h
 | x::xs,z::zs,h=>by
  have ih:=MJ xs zs (by simpa using h);rw[Be,List.range_succ_eq_map,all_cons,all_map];show(eqV x z&&_)=(eqV x z&&eqL xs zs);rw[<- ih];rfl
theorem MF:∀(xs zs:List V),xs.length≠zs.length->eqL xs zs=false
 | [],[],h=>absurd rfl h
 | [],_::_,_=>rfl
 | _::_,[],_=>rfl
 | x::xs,z::zs,h=>by
  show(eqV x z&&eqL xs zs)=false;rw[MF xs zs (by simpa using h),Bool.and_false]
theorem v5 (hu:X.A.units<EI):OpR X (B0 .NotEq) R6:=by
 intro pins s σ H x y v u Q I rx ry h;unfold R6 at h;split at h
 ·rename_i p q;unfold Yo at h;split at h
  ·rename_i xs zs e1 e2;obtain⟨f1,f2,q⟩:=h;cases rx;cases ry;obtain⟨its1,r1,pl1,hz1⟩:=I.list (SqL.of e1);obtain⟨its2,r2,pl2,hz2⟩:=I.list (SqL.of e2);have l1:=r1.length;have l2:=r2.length;by_cases hl:xs.length=zs.length
   ·refine SeqAt.RcNeAt.lists (e:=fun j=>match xs[j]?,zs[j]? with|some a,some b=>eqV a b|_,_=>true) pl1.isList pl2.isList (by simp only[AZ];omega) hu (fun j h1 h2=>?_) X.prog X.w X.xe (EP X pins σ Q) ?_
    ·have j1:j<xs.length:=by simp only[AZ] at h1;omega
     have j2:j<zs.length:=ω;have g1:xs[j]?=some xs[j]:=AC j1;have g2:zs[j]?=some zs[j]:=AC j2;obtain⟨u1,hu1,ru1⟩:=r1.get g1;obtain⟨u2,hu2,ru2⟩:=r2.get g2;have k1:its1.toArray[j]=u1:=by
      have:=AG.mp hu1;obtain⟨_,z⟩:=this;simpa using z
     have k2:its2.toArray[j]=u2:=by
      have:=AG.mp hu2;obtain⟨_,z⟩:=this;simpa using z
     rw[k1,k2,g1,g2];exact Vl ru1 ru2 (E4.mp f1 _ (DS j1)) (E4.mp f2 _ (DS j2))
    rw[show its1.toArray.size=xs.length by simp only[AZ];omega,MJ xs zs hl];exact⟨.bl _,H,I,rfl,q⟩
   rw[MF xs zs hl] at q;refine SeqAt.RcNeAt.lists_lengths pl1.isList pl2.isList (by simp only[AZ,bne_iff_ne,ne_eq];omega) hu X.prog X.w X.xe (EP X pins σ Q) ⟨.bl _,H,I,rfl,q⟩
  exact h.elim
 exact ab4 pins s σ H _ _ v u Q I rx ry h
noncomputable def inq (neg:Bool)(o:Option HO)(x:V)(H:Hp)(Q:VK):Prop:=match o with
 | some (.lst xs)=>jd x=true/\xs.all jd=true/\Q (.bl (if neg then !inV x xs else inV x xs)) H
 | some (.tup xs)=>jd x=true/\xs.all jd=true/\Q (.bl (if neg then !inV x xs else inV x xs)) H
 | _=>False
noncomputable def Z8 (neg:Bool):R2:=fun x y H Q=>match y with
 | .ref p=>inq neg (H p) x H Q
 | _=>False
theorem Z7 (neg:Bool)(x:V)(p:Addr)(H:Hp)(Q:VK):Z8 neg x (.ref p) H Q=inq neg (H p) x H Q:=rfl
theorem aci (neg:Bool)(x:V)(xs:List V)(H:Hp)(Q:VK):inq neg (some (.tup xs)) x H Q=(jd x=true/\xs.all jd=true/\Q (.bl (if neg then !inV x xs else inV x xs)) H):=rfl
theorem abd {neg:Bool}{o:Option HO}{x:V}{H:Hp}{Q:VK}{p:Addr}{K:AD}(e:H p=o)(h:inq neg o x H Q):rIn K neg x (.ref p) H Q:=by
 unfold inq at h;split at h
 ·rename_i xs;exact⟨p,xs,rfl,.inl (SqL.of e),h.1,h.2.1,h.2.2⟩
 ·rename_i xs;exact⟨p,xs,rfl,.inr (SqT.of e),h.1,h.2.1,h.2.2⟩
 exact h.elim
theorem aaH:OpR X (B0 .In) (Z8 false):=by
 intro pins s σ H x y v u Q I rx ry h;unfold Z8 at h;split at h
 ·exact Ov pins s σ H _ _ v u Q I rx ry (abd rfl h)
 exact h.elim
end
theorem V1 {α:Type}(a b c:α):atI [a,b,c] (-1)=some c:=rfl
structure cV (H:Hp)(p:Addr)(B:Int):Prop where
 ex:∃a b c:Int,H p=some (.lst [.int a,.int b,.int c])/\0<=a/\0<=b/\b<2147483629/\0<=c/\c<=B
theorem cV.same {H H':Hp}{p:Addr}{B:Int}(h:cV H p B)(s:Same H H'):cV H' p B:=by
 obtain⟨a,b,c,e,r⟩:=h;exact⟨a,b,c,s _ _ e,r⟩
theorem cV.le {H:Hp}{p:Addr}{B B':Int}(h:cV H p B)(l:B<=B'):cV H p B':=by
 obtain⟨a,b,c,e,r1,r2,r3,r4,r5⟩:=h;exact⟨a,b,c,e,r1,r2,r3,r4,ω⟩
theorem cV.ne {H:Hp}{p q:Addr}{B:Int}(h:cV H p B)(n:H q=none):q≠p:=by
 obtain⟨a,b,c,e,_⟩:=h;exact(aF e n).symm
noncomputable def Rz (K:AD):Sp:=fun vs H Q _=>∃(a:Addr)(ns:List Int)(k:Int),vs=[.ref a,.int k]/\SqL K H a (ns.map V.int)/\0<=k/\∀v:Int,Q (.int v) H
noncomputable def Rr (K:AD):Sp:=fun vs H Q _=>∃(a:Addr)(ns:List Int)(k:Int),vs=[.ref a,.int k]/\SqL K H a (ns.map V.int)/\0<=k/\k<=100/\∀p H',H p=none->Same H H'->cV H' p 0->Q (.ref p) H'
noncomputable def sU (n:Nat):Sp:=fun vs H Q _=>∃(p:Addr)(m B:Int),vs=[.ref p,.int m]/\cV H p B/\B+(n:Int)<=1000100/\0<m/\m<2^70/\1<=n/\(1000000<=m->2<=n) /\
 ∀r H',0<=r->r<m->cW p H H'->cV H' p (B+n)->Q (.int r) H'
theorem aap (c:Int):∃v:Int,atI [V.int 2147483587,V.int 2147483579,V.int 2147483563,V.int 2147483549,V.int 2147483543,V.int 2147483497,V.int 2147483489] (c%7)=some (.int v)/\0<v:=by
 have h1:0<=c%7:=E5 _ δ;have h2:c%7<7:=DV _ δ;generalize c%7=d at h1 h2;have h3:d=0\/d=1\/d=2\/d=3\/d=4\/d=5\/d=6:=ω;rcases h3 with rfl|rfl|rfl|rfl|rfl|rfl|rfl
 ·exact⟨_,bJ (j:=0) rfl,δ⟩
 ·exact⟨_,bJ (j:=1) rfl,δ⟩
 ·exact⟨_,bJ (j:=2) rfl,δ⟩
 ·exact⟨_,bJ (j:=3) rfl,δ⟩
 ·exact⟨_,bJ (j:=4) rfl,δ⟩
 ·exact⟨_,bJ (j:=5) rfl,δ⟩
 exact⟨_,bJ (j:=6) rfl,δ⟩
noncomputable def wl (w s:Int):Int:=0-2^(w-1).toNat*s
theorem abr (X k:Nat):((X:Int)/2^k)%2=if X.testBit k then 1 else 0:=by
 have e:(X:Int)/2^k%2=((X/2^k%2:Nat):Int):=by
  rw[Int.natCast_emod,Int.natCast_ediv,natCast_pow];rfl
 rw[e,Nat.testBit_eq_decide_div_mod_eq];have:=Nat.mod_lt (X/2^k) (show 0<2 by decide);by_cases h:X/2^k%2=1
 ·simp [h]
 have h0:X/2^k%2=0:=ω;simp [h0]
theorem Nj (y:Int):A7.bitAnd y 1=y%2:=by
 have:=PySem.W.kbt_mask y 1;simpa using this
theorem Lk (X k:Nat):A7.bitAnd ((X:Int)/2^k) 1=if X.testBit k then 1 else 0:=by
 rw[Nj,abr]
inductive It1 where
 | one (a:Int)
 | rng (a b:Int)
 | bits (m v:Nat)
noncomputable def U3 (w s a:Int):Prop:=wl w s<=a/\a<wl w s+2^w.toNat
noncomputable def Tf (w:Int)(n:Int):It1->Bool
 | .one a=>decide (n=a)
 | .rng a b=>decide (a<=n)&&decide (n<=b)
 | .bits m v=>decide ((n%2^w.toNat).toNat &&& m=v)
section
variable {mp:List (Option Nat)}{g:TG}{tc:TT}{te:TE}{σ:St}{H:Hp}{Q:VK}{R:It->Hp->Prop}{K:AD}
theorem abn {lo:Int}{n:Nat}(hR:R=KZ mp g tc te σ Q)(hz:n<=AQ)(Pv:Nat->List V->St->Hp->Prop)(h0:Pv 0 [] (rN mp σ) H)(hl:∀i acc τ H,Pv i acc τ H->acc.length<=i)
  (hs:∀i acc τ H,i<n->Pv i acc τ H->g (.int (lo+i)) τ H fun τ1 H4=>tc τ1 H4 fun b H5=>if b=true then te τ1 H5 fun v H6=>Pv (i+1) (acc++[v]) τ1 H6 else Pv (i+1) acc τ1 H5)
  (hd:∀acc τ H d,Pv n acc τ H->H d=none->Q (.ref d) (upd H d (.lst acc))):R (Itr lo n) H:=by
 refine FW hR n hz Pv h0 hl (fun i acc τ H hi _=>hi) (fun acc τ H _=>A6 n) (fun i acc τ H x H3 hi p y=>?_) hd;obtain⟨rfl,rfl⟩:=y;exact hs i acc τ _ hi p
theorem uc {a:Addr}{xs:List V}(hR:R=KZ mp g tc te σ Q)(hz:xs.length<=AQ)(Pv:Nat->List V->St->Hp->Prop)(h0:Pv 0 [] (rN mp σ) H)(hl:∀i acc τ H,Pv i acc τ H->acc.length<=i)
  (hq:∀i acc τ H,Pv i acc τ H->SqL K H a xs)
  (hs:∀i x acc τ H,xs[i]?=some x->Pv i acc τ H->g x τ H fun τ1 H4=>tc τ1 H4 fun b H5=>if b=true then te τ1 H5 fun v H6=>Pv (i+1) (acc++[v]) τ1 H6 else Pv (i+1) acc τ1 H5)
  (hd:∀acc τ H d,Pv xs.length acc τ H->H d=none->Q (.ref d) (upd H d (.lst acc))):R (Itl K a) H:=by
 refine FW hR xs.length hz Pv h0 hl (fun i acc τ H hi p=>⟨xs,xs[i],hq i acc τ H p,AC hi⟩) (fun acc τ H p=>⟨xs,hq _ acc τ H p,A6 _⟩) (fun i acc τ H x H3 hi p y=>?_) hd;obtain⟨rfl,hx⟩:=y;exact hs i x acc τ _ (hx xs (hq i acc τ _ p)) p
end
noncomputable def acP (l:List Nat):List V:=l.map fun k=>V.int (k:Nat)
theorem YF (g:TG)(gs:TGs)(x:V)(xs:List V)(σ:St)(H:Hp)(Q:St->Hp->Prop):HN g gs (x::xs) σ H Q=g x σ H fun σ1 H1=>gs xs σ1 H1 Q:=
 propext ⟨fun⟨_,_,e,h⟩=>by cases e;exact h,fun h=>⟨x,xs,rfl,h⟩⟩
theorem abh (σ:St)(H:Hp)(Q:St->Hp->Prop):YD [] σ H Q=Q σ H:=propext ⟨fun h=>h.2,fun h=>⟨rfl,h⟩⟩
theorem Vh {a b:Int}{P:Int->Int->Prop}:(∃v w,(a=v/\b=w)/\P v w)=P a b:=propext ⟨fun⟨_,_,⟨h1,h2⟩,h⟩=>h1 ▸ h2 ▸ h,fun h=>⟨a,b,⟨rfl,rfl⟩,h⟩⟩
theorem oY {tc:TT}{ts us:TS}{D:Ends}{σ:St}{H:Hp}(h:∀kt ke,kt=ts D->ke=us D->tc σ H fun b H1=>if b=true then kt σ H1 else ke σ H1):NP tc ts us D σ H:=h _ _ rfl rfl
theorem WK {p:Addr}{H H':Hp}(h:cW p H H')(e:H p=none):Same H H':=fun b o hb=>h b o (aF hb e) hb
section
variable {X:Cx}{e o:Expr}{te to:TE}{pos:Pos}
noncomputable def apq (ob:Option HO)(l:Addr)(y:V)(H:Hp)(Q:VK):Prop:=match ob with
 | some (.lst xs)=>xs.length<AQ/\Q .non (upd H l (.lst (xs++[y])))
 | _=>False
noncomputable def isq (ob:Option HO):Prop:=match ob with
 | some (.lst _)=>True
 | _=>False
theorem vf (xs:List V):isq (some (.lst xs))=True:=rfl
theorem Zb (xs:List V)(l:Addr)(y:V)(H:Hp)(Q:VK):apq (some (.lst xs)) l y H Q=(xs.length<AQ/\Q .non (upd H l (.lst (xs++[y])))):=rfl
noncomputable def abv (x:V)(te:TE)(σ:St)(H1:Hp)(Q:VK):Prop:=match x with
 | .ref l=>isq (H1 l)/\te σ H1 fun y H2=>apq (H2 l) l y H2 Q
 | _=>False
noncomputable def Rn (to te:TE):TE:=fun σ H Q=>to σ H fun x H1=>abv x te σ H1 Q
theorem Rm (to te:TE)(σ:St)(H:Hp)(Q:VK):Rn to te σ H Q=to σ H fun x H1=>abv x te σ H1 Q:=rfl
theorem V6 (l:Addr)(te:TE)(σ:St)(H1:Hp)(Q:VK):abv (.ref l) te σ H1 Q=(isq (H1 l)/\te σ H1 fun y H2=>apq (H2 l) l y H2 Q):=rfl
theorem X3 {apos cpos:Pos}(ho:PE X o to)(he:PE X e te)
  (hbase:DC o "append" X.env (eval o X.env)=eval o X.env:=by rfl)
  (hfew:((CA cpos (AJ [e] X.env)).all (fun x=>!x.1)&&(EE cpos (C6 [] X.env)).all (fun x=>x.1.isSome)
   && decide ([e].length+([]:List FC).length+(if ([]:List FC).isEmpty then 0 else 1)<30))=true:=by rfl)
  (hline:(apos.endLine == cpos.line)=true:=by rfl) (hs:AJ [e] X.env=(false,eval e X.env)::AJ [] X.env:=by rfl) (hplain:(CA cpos (AJ [] X.env)).any (·.1)=false:=by rfl) :
  PE X (.Call (.Attribute o "append" apos) [e] [] cpos) (Rn to te):=by
 intro pins s σ H Q I h;refine wpAny_Call_method_late hbase hfew hline rfl (thE (ho pins s σ H _ I h) fun v s1 x H1 I1 r1 q=>?_);cases x with
 | ref l=>
  obtain⟨q1,q2⟩:=q;cases el:H1 l with
  | none=>rw[el] at q1;exact q1.elim
  | some ob=>
   cases ob with
   | lst xs=>
    obtain⟨h1,h2⟩:=IW (T := "list") I1 r1 (.inl ⟨rfl,xs,SqL.of el⟩);refine⟨"list","list.append",HG,PySem.F.slot_list_append,PySem.F.type_list_append,h1,h2,?_⟩;rw[hs];refine EN (by show(false||(CA cpos (AJ [] X.env)).any (·.1))=false;rw[hplain] <;> rfl) (E6 ?_)
    refine EL (thE (he pins s1 σ H1 _ I1 q2) fun u s2 y H2 I2 r2 q3=>EV ?_);replace q3:apq (H2 l) l y H2 Q:=q3;cases el2:H2 l with
    | none=>rw[el2] at q3;exact q3.elim
    | some ob2=>
     cases ob2 with
     | lst ys=>
      rw[el2] at q3;exact Pb pins s2 σ H2 (.ref l) [y] v [u] Q I2 r1 (.cons r2 .nil) ⟨l,ys,y,rfl,rfl,el2,q3.1,q3.2⟩
     | _=>rw[el2] at q3;exact q3.elim
   | _=>rw[el] at q1;exact q1.elim
 | _=>exact q.elim
theorem jP {apos cpos:Pos}(ho:QE X o to)(he:QE X e te)
  (hbase:DC o "append" X.env (eval o X.env)=eval o X.env:=by rfl)
  (hfew:((CA cpos (AJ [e] X.env)).all (fun x=>!x.1)&&(EE cpos (C6 [] X.env)).all (fun x=>x.1.isSome)
   && decide ([e].length+([]:List FC).length+(if ([]:List FC).isEmpty then 0 else 1)<30))=true:=by rfl)
  (hline:(apos.endLine == cpos.line)=true:=by rfl) (hs:AJ [e] X.env=(false,eval e X.env)::AJ [] X.env:=by rfl) (hplain:(CA cpos (AJ [] X.env)).any (·.1)=false:=by rfl) :
  QE X (.Call (.Attribute o "append" apos) [e] [] cpos) (Rn to te):=⟨X3 ho.h he.h hbase hfew hline hs hplain⟩
noncomputable def slq (ob:Option HO)(lo hi:Option Int)(H:Hp)(Q:VK):Prop:=match ob with
 | some (.lst xs)=>∀p,H p=none->Q (.ref p) (upd H p (.lst (qF xs lo hi)))
 | some (.tup xs)=>¬(HT.sIx xs.length 0 lo=0/\HT.sIx xs.length xs.length hi=xs.length)/\∀p,H p=none->Q (.ref p) (upd H p (.tup (qF xs lo hi)))
 | _=>False
noncomputable def Z0:V->Option Int->Option Int->Hp->VK->Prop:=fun x lo hi H Q=>match x with
 | .ref p=>slq (H p) lo hi H Q
 | _=>False
theorem RZ (p:Addr)(lo hi:Option Int)(H:Hp)(Q:VK):Z0 (.ref p) lo hi H Q=slq (H p) lo hi H Q:=rfl
theorem Wu (xs:List V)(lo hi:Option Int)(H:Hp)(Q:VK):slq (some (.lst xs)) lo hi H Q=∀p,H p=none->Q (.ref p) (upd H p (.lst (qF xs lo hi))):=rfl
theorem Wt (xs:List V)(lo hi:Option Int)(H:Hp)(Q:VK):slq (some (.tup xs)) lo hi H Q=(¬(HT.sIx xs.length 0 lo=0/\HT.sIx xs.length xs.length hi=xs.length)/\∀p,H p=none->Q (.ref p) (upd H p (.tup (qF xs lo hi)))):=rfl
theorem Ww:SlR X Z0:=by
 intro pins s σ H x v vl vu lo hi sl Q I rx hs pl pu h;unfold Z0 at h;split at h
 ·rename_i p;unfold slq at h;split at h
  ·rename_i xs e;exact Wv pins s σ H _ v vl vu lo hi sl Q I rx hs pl pu ⟨p,xs,rfl,SqL.of e,h⟩
  ·rename_i xs e;exact ZP pins s σ H _ v vl vu lo hi sl Q I rx hs pl pu ⟨p,xs,rfl,SqT.of e,h.1,h.2⟩
  exact h.elim
 exact h.elim
structure QO (X:Cx)(e:Option Expr)(t:TO):Prop where
 h:PO X e t
theorem Es:QO X none Ej:=⟨Xu⟩
theorem uO (h:QE X e te):QO X (some e) (Rc te):=⟨Xr h.h⟩
theorem uP {r:V->Option Int->Option Int->Hp->VK->Prop}{lo hi:Option Expr}{tl th:TO}{p2:Pos}(hr:SlR X r)(he:QE X e te)(hl:QO X lo tl)(hu:QO X hi th):QE X (.Subscript e (.Slice lo hi none p2) pos) (tSl r te tl th):=⟨Tq hr he.h hl.h hu.h⟩
noncomputable def rpq (ob:Option HO)(k:Int)(H:Hp)(Q:VK):Prop:=match ob with
 | some (.lst xs)=>-(2^63)<=k/\k<2^63/\xs.length*k.toNat<=AQ/\∀p,H p=none->Q (.ref p) (upd H p (.lst (A5 k.toNat xs).flatten))
 | _=>False
noncomputable def Ls:R2:=fun x y H Q=>match x,y with
 | .ref p,.int k=>rpq (H p) k H Q
 | x,y=>rI Qz (fun i j=>.int (i*j)) x y H Q
theorem WQ (p:Addr)(k:Int)(H:Hp)(Q:VK):Ls (.ref p) (.int k) H Q=rpq (H p) k H Q:=rfl
theorem WR (i j:Int)(H:Hp)(Q:VK):Ls (.int i) (.int j) H Q=rI Qz (fun i j=>.int (i*j)) (.int i) (.int j) H Q:=rfl
theorem WL (xs:List V)(k:Int)(H:Hp)(Q:VK):rpq (some (.lst xs)) k H Q=(-(2^63)<=k/\k<2^63/\xs.length*k.toNat<=AQ/\∀p,H p=none->Q (.ref p) (upd H p (.lst (A5 k.toNat xs).flatten))):=rfl
theorem iQ:OpR X (ED .Mult) Ls:=by
 intro pins s σ H x y v u Q I rx ry h;unfold Ls at h;split at h
 ·rename_i p k;unfold rpq at h;split at h
  ·rename_i xs e;exact aaE pins s σ H _ _ v u Q I rx ry ⟨p,k,xs,rfl,rfl,e,h.1,h.2.1,h.2.2.1,h.2.2.2⟩
  exact h.elim
 exact aaF pins s σ H _ _ v u Q I rx ry h
noncomputable def eqo (ob:Option HO)(H:Hp)(Q:VK):Prop:=match ob with
 | some (.lst _)=>Q (.bl false) H
 | some (.tup _)=>Q (.bl false) H
 | _=>False
noncomputable def Sv:R2:=fun x y H Q=>match x,y with
 | .ref p,.str _=>eqo (H p) H Q
 | x,y=>rEq x y H Q
theorem WY (i j:Int)(H:Hp)(Q:VK):Sv (.int i) (.int j) H Q=rEq (.int i) (.int j) H Q:=rfl
theorem WX (i j:Str)(H:Hp)(Q:VK):Sv (.str i) (.str j) H Q=rEq (.str i) (.str j) H Q:=rfl
theorem b7 (hu:X.A.units<EI):OpR X (B0 .Eq) Sv:=by
 intro pins s σ H x y v u Q I rx ry h;unfold Sv at h;split at h
 ·rename_i p z;cases rx;obtain⟨t,rfl⟩:=ry;unfold eqo at h;split at h
  ·rename_i xs e;obtain⟨its,r,pl,hz⟩:=I.list (SqL.of e);exact SeqAt.RcAt.list_str z t pl.isList hu X.prog X.w X.xe (EP X pins σ Q) ⟨.bl false,H,I,rfl,h⟩
  ·rename_i xs e;obtain⟨its,r,pl,hz⟩:=I.tuple (SqT.of e);exact SeqAt.RcAt.tuple_str z t pl hu X.prog X.w X.xe (EP X pins σ Q) ⟨.bl false,H,I,rfl,h⟩
  exact h.elim
 exact ab5 pins s σ H _ _ v u Q I rx ry h
end
mutual
inductive aK (ok:Addr->Prop)(H:Hp):V->Bz->Prop
 | non:aK ok H .non .none
 | bl (b:Bool):aK ok H (.bl b) (.bool b)
 | int (i:Int):aK ok H (.int i) (.int i)
 | str (x:Str):aK ok H (.str x) (.str x)
 | lst {p:Addr} {xs:List V} {ds:List Bz}:ok p->H p=some (.lst xs)->xs.length<=1000000->aO ok H xs ds->aK ok H (.ref p) (.list ds)
 | tup {p:Addr} {xs:List V} {ds:List Bz}:ok p->H p=some (.tup xs)->xs.length<=1000000->aO ok H xs ds->aK ok H (.ref p) (.tuple ds)
inductive aO (ok:Addr->Prop)(H:Hp):List V->List Bz->Prop
 | nil:aO ok H [] []
 | cons {x:V} {d:Bz} {xs:List V} {ds:List Bz}:aK ok H x d->aO ok H xs ds->aO ok H (x::xs) (d::ds)
end
mutual
theorem aK.keep {ok ok':Addr->Prop}{H H':Hp}(k:∀a o,ok a->H a=some o->ok' a/\H' a=some o):∀{v:V}{d:Bz},aK ok H v d->aK ok' H' v d
 | _,_,.non=>.non
 | _,_,.bl b=>.bl b
 | _,_,.int i=>.int i
 | _,_,.str x=>.str x
 | _,_,.lst o e z t=>.lst (k _ _ o e).1 (k _ _ o e).2 z (aO.keep k t)
 | _,_,.tup o e z t=>.tup (k _ _ o e).1 (k _ _ o e).2 z (aO.keep k t)
theorem aO.keep {ok ok':Addr->Prop}{H H':Hp}(k:∀a o,ok a->H a=some o->ok' a/\H' a=some o):∀{vs:List V}{ds:List Bz},aO ok H vs ds->aO ok' H' vs ds
 | _,_,.nil=>.nil
 | _,_,.cons t r=>.cons (aK.keep k t) (aO.keep k r)
end
theorem aK.same {ok:Addr->Prop}{H H':Hp}{v:V}{d:Bz}(t:aK ok H v d)(s:Same H H'):aK ok H' v d:=t.keep fun a o h e=>⟨h,s a o e⟩
theorem aO.same {ok:Addr->Prop}{H H':Hp}{v:List V}{d:List Bz}(t:aO ok H v d)(s:Same H H'):aO ok H' v d:=t.keep fun a o h e=>⟨h,s a o e⟩
theorem aK.xq {p:Addr}{H H':Hp}{v:V}{d:Bz}(t:aK (·≠p) H v d)(s:cW p H H'):aK (·≠p) H' v d:=t.keep fun a o h e=>⟨h,s a o h e⟩
theorem aO.xq {p:Addr}{H H':Hp}{v:List V}{d:List Bz}(t:aO (·≠p) H v d)(s:cW p H H'):aO (·≠p) H' v d:=t.keep fun a o h e=>⟨h,s a o h e⟩
theorem aO.length {ok:Addr->Prop}{H:Hp}:∀{vs:List V}{ds:List Bz},aO ok H vs ds->vs.length=ds.length
 | _,_,.nil=>rfl
 | _,_,.cons _ r=>by rw[Be,Be,r.length]
theorem aO.append {ok:Addr->Prop}{H:Hp}:∀{vs ws:List V}{ds es:List Bz},aO ok H vs ds->aO ok H ws es->aO ok H (vs++ws) (ds++es)
 | _,_,_,_,.nil,t=>t
 | _,_,_,_,.cons h r,t=>.cons h (r.append t)
theorem aO.get {ok:Addr->Prop}{H:Hp}:∀{vs:List V}{ds:List Bz}{i:Nat}{v:V},aO ok H vs ds->vs[i]?=some v->∃d,ds[i]?=some d/\aK ok H v d
 | _,_,0,_,.cons h _,e=>by cases e;exact⟨_,rfl,h⟩
 | _,_,i+1,_,.cons _ r,e=>aO.get r (i:=i) e
theorem aO.take {ok:Addr->Prop}{H:Hp}:∀{vs:List V}{ds:List Bz}(n:Nat),aO ok H vs ds->aO ok H (vs.take n) (ds.take n)
 | _,_,0,_=>.nil
 | _,_,_+1,.nil=>.nil
 | _,_,n+1,.cons h r=>.cons h (r.take n)
mutual
noncomputable def nodes:Bz->Nat
 | .list ds=>1+zF ds
 | .tuple ds=>1+zF ds
 | _=>1
noncomputable def zF:List Bz->Nat
 | []=>0
 | d::ds=>nodes d+zF ds
end
mutual
noncomputable def smD:Bz->Bool
 | .none=>true
 | .bool _=>true
 | .int i=>decide (i.natAbs<2^50\/i.natAbs=10^20\/i.natAbs<2^55)
 | .str x=>decide ((reprText x).length<=50)
 | .list ds=>RD ds
 | .tuple ds=>RD ds
 | .dict _=>false
noncomputable def RD:List Bz->Bool
 | []=>true
 | d::ds=>smD d&&RD ds
end
theorem YC {i:Int}(h:i.natAbs<2^70):(HM (toString i)).length<=71:=by
 rw[PySem.ofString_length];have:=int_text_length_le10 (a:=i) (k:=30) δ ω;omega
section
variable {X:Cx}{tg l:Expr}{tl:TE}
noncomputable def itq (K:AD)(ob:Option HO)(a:Addr)(H:Hp)(R:It->Hp->Prop):Prop:=match ob with
 | some (.lst _)=>R (Itl K a) H
 | some (.tup _)=>R (Itt K a) H
 | _=>False
noncomputable def itK (K:AD)(x:V)(H:Hp)(R:It->Hp->Prop):Prop:=match x with
 | .ref a=>itq K (H a) a H R
 | _=>False
noncomputable def U4 (K:AD)(tl:TE):TI:=fun σ H R=>tl σ H fun x H1=>itK K x H1 R
theorem nG (K:AD)(tl:TE)(σ:St)(H:Hp)(R:It->Hp->Prop):U4 K tl σ H R=tl σ H fun x H1=>itK K x H1 R:=rfl
theorem rB (K:AD)(a:Addr)(H:Hp)(R:It->Hp->Prop):itK K (.ref a) H R=itq K (H a) a H R:=rfl
theorem rA (K:AD)(xs:List V)(a:Addr)(H:Hp)(R:It->Hp->Prop):itq K (some (.lst xs)) a H R=R (Itl K a) H:=rfl
theorem Xw (hl:PE X l tl):PI X tg l (U4 X.K tl):=by
 intro pins s σ H R I h;refine thn (hl pins s σ H _ I h) fun v s1 ⟨x,H1,I1,r1,q1⟩=>?_;cases x with
 | ref a=>
  replace q1:itq X.K (H1 a) a H1 R:=q1;cases r1;unfold itq at q1;split at q1
  ·rename_i xs e;obtain⟨its,rv,p,hz⟩:=I1.list (SqL.of e);refine D8 p.isList ?_;refine⟨s1.heap.objs.size,[s1.heap.objs.size],_,_,H1,rfl,I1.kept (t':=s1.toks) fun b o e=>AF _ e,Nt a _,⟨_,BA _ rfl,rfl,rfl⟩,fun b hb=>?_,q1⟩;have e:b=s1.heap.objs.size:=by simpa using hb
   subst e;exact I1.HW (A6 _) (I1.hok.fresh (A6 _))
  ·rename_i xs e;obtain⟨its,rv,p,hz⟩:=I1.tuple (SqT.of e);refine GU (show s1.heap.IsTuple a its.toArray from p) ?_;refine⟨s1.heap.objs.size,[s1.heap.objs.size],_,_,H1,rfl,I1.kept (t':=s1.toks) fun b o e=>AF _ e,Jb a _,⟨_,BA _ rfl,rfl,rfl⟩,fun b hb=>?_,q1⟩;have e:b=s1.heap.objs.size:=by simpa using hb
   subst e;exact I1.HW (A6 _) (I1.hok.fresh (A6 _))
  exact q1.elim
 | _=>exact q1.elim
theorem cO (hl:QE X l tl):QI X tg l (U4 X.K tl):=⟨Xw hl.h⟩
end
noncomputable def jN (ok:Addr->Prop)(H0:Hp):Prop:=∀H p,Same H0 H->H p=none->ok p
theorem Uj {H0:Hp}{p:Addr}{o:HO}(h:H0 p=some o):jN (·≠p) H0:=fun H q s hq=>(aF (s _ _ h) hq).symm
theorem jN.same {ok:Addr->Prop}{H0 H1:Hp}(n:jN ok H0)(s:Same H0 H1):jN ok H1:=fun H p s2 h=>n H p (s.trans s2) h
noncomputable def wN:Bz->Bool
 | .int _=>true
 | _=>false
section
variable {X:Cx}{NX N:List Str}{kX:List (Str×C7)}{mp:List (Option Nat)}{scope:Ff}
set_option maxHeartbeats 8000000 in
theorem Xj {tg iter elt:Expr}{ifs:List Expr}{pos pos' pos2:Pos}{wi:TI}{g:TG}{tc:TT}{te:TE}{i:Nat}{x:Str}(N:List Str)(mp:List (Option Nat))(hn:Nm X.N X.env.scope i x)(hNd:X.N.Nodup)(hNX:X.N=NX)(hkX:X.env.scope.names=kX)(S:xZ NX kX N mp scope)(hc:X.calm=true)
  (hi:PI X tg iter wi) (hg:∀cl C s H fp,PG (cA X N scope cl C s H fp) tg g) (ht:∀cl C s H fp,PTs (cA X N scope cl C s H fp) ifs tc) (he:∀cl C s H fp,PE (cA X N scope cl C s H fp) elt te)
  (hf:X.fn x=true\/X.env.scope.names.lookup x=some .local:=by exact .inl rfl)
  (hsw:F2 [.Name x pos'] (.ListComp elt [⟨tg,iter,ifs,0⟩] scope pos) pos2.line X.env=pure true:=by rfl)
  (h1:(DA [.Name x pos'] X.env).map (·.2)=[FR (.Name x pos') X.env]:=by rfl)
  (hs:∀x,DI iter X.env x=pure x:=by intro _;rfl):PS X (.Assign [.Name x pos'] (.ListComp elt [⟨tg,iter,ifs,0⟩] scope pos) pos2) (Bm (Cq mp wi g tc te) (lE i)):=by
 intro pins s σ H Dn I h;rw[exec_Assign_arm];refine Ap (Ex ?_);rw[hsw];refine Ap (AE ?_);rw[if_pos rfl,h1];replace h:Cq mp wi g tc te σ H (fun v H1=>Dn.nx (σ.set i (some v)) H1):=h;obtain⟨cl,hcl,hsub,hhas⟩:=M8 (env:=X.env) (scope:=scope) fun y hy hf=>I.ok.has y.1 (by
  rcases S.fre y hy hf with q|q
  ·exact .inl (show X.env.scope.names.lookup y.1=_ by rw[hkX];exact q)
  exact .inr (show X.env.scope.names.lookup y.1=_ by rw[hkX];exact q))
 generalize hQ:(fun(v:V)(H1:Hp)=>Dn.nx (σ.set i (some v)) H1)=Q at h
 let QQ:An->AA->Prop:=fun _ s'=>∃τ H',Inv X pins τ H' s'/\Dn.nx τ H'
 refine Ap (Ap (thn (Q:=QQ) (wpAny_comprehension_free (e:=.ListComp elt [⟨tg,iter,ifs,0⟩] scope pos) (use:=some fun v=>assignAll v [FR (.Name x pos') X.env]) rfl hs hcl S.kind S.locs ?_) fun _ s' ⟨τ,H',I',q'⟩=>AE (AE ⟨τ,H',I',q'⟩)));refine thn (hi pins s σ H _ I h) fun v s1 h1=>thn h1 fun itv s2 h2=>?_;obtain⟨it,fp,tn,J,H2,e,I2,T,st2,f2,W,⟨m0,w0⟩,turn⟩:=h2;subst e;refine B6 (wpAny_newFunctionEnv S.nocell (by intro y hy;simp at hy) (fun h3 hns hsb=>?_) S.kind);dsimp only at hns hsb |-;have hold:∀b∈fp,b<s2.heap.objs.size:=fun b hb=>by
  obtain⟨o,q,_⟩:=T.obj _ _ st2 b hb;exact A3 q
 generalize hD:s2.heap.objs.size=D at hns hsb;generalize hH2:s2.heap.push { cls:=.type "list",dict:=none,data:=.seq ([]:List An).toArray }=P2 at hns hsb |-;have hC:P2.objs.size=D+1:=by rw[<- hH2,D5,hD]
 generalize hC':P2.objs.size=C at hns hsb |-;rw[hC'] at hC;have old:∀b o,s2.heap.get? b=some o->h3.get? b=some o:=fun b o q=>by
  have hb:=A3 q;exact hsb.extBut b o (na1 hb hD hC) (AF _ (hH2 ▸ AF _ q))
 have accD:h3.get? D=some { cls:=.type "list",data:=.seq ([]:List An).toArray }:=
  hsb.extBut _ _ (na2 hC) (AF _ (by rw[<- hH2,<- hD];exact BA _ rfl))
 have hfr:D∉frs X.stack:=fun z=>by
  rcases AO.mp (I2.vQ D z) with q|q
  ·exact na0 I2.lt hD q.symm
  exact I2.aaR (na4 hD) q
 have I0:Inv (cA X N scope cl C s2 H2 fp) [(D,{ cls:=.type "list",data:=.seq ([]:List An).toArray })] (rN mp σ) H2 { s2 with heap:=h3,toks:=s2.toks+([]:List (Str×An)).length }:=
  M7 (s':={ s2 with heap:=h3,toks:=s2.toks+([]:List (Str×An)).length }) hNX hkX S I2 f2 hold (na3 hD hC) hsub hhas rfl rfl ⟨_,hns⟩ old fun p hp=>by
   have ep:=Au.mp hp;subst ep;exact⟨accD,I2.hok.fresh (na4 hD),na2 hC,hfr,fun v z=>by cases z⟩
 have T0:tn 0 h3:=T.keep _ _ _ st2 fun b _ o q=>old b o q;have loop:∀z:AA,z={ s2 with heap:=h3,toks:=s2.toks+([]:List (Str×An)).length } ->
   HL (AN X.prog X.w) X.A (.compLoop (.ListComp elt [⟨tg,iter,ifs,0⟩] scope pos) 0 (.ref it) (.ref D) (IL scope cl C X.env))
    (compPost (AN X.prog X.w) X.A X.xe (some fun v=>assignAll v [FR (.Name x pos') X.env]) QQ (.ref D) C) z:=by
  rintro z rfl;have stat:∀{H':Hp}{pl:List (Addr×Obj)},(∀b∈fp,H' b=none)->(∀p∈pl,p.1=D)->∀b∈fp,yD (cA X N scope cl C s2 H2 fp) pl H' b:=fun hn hp b hb=>by
   have hb2:=hold b hb;refine⟨hn b hb,na1 hb2 hD hC,(Ku hkX S I2 f2 hold (na3 hD hC) hsub hhas).exfs b hb,.inl hb,fun x c q=>(f2 b hb).2.2.2.2.1 x c (hsub x c q),fun p hpp=>?_⟩;have hpD:=hp p (by simpa [cA] using hpp);rw[hpD];exact(na0 hb2 hD).symm
  refine DQ (env:=IL scope cl C X.env) (fun n z=>∃i acc τ H' its k,Inv (cA X N scope cl C s2 H2 fp) [(D,{ cls:=.type "list",data:=.seq (GG its) k })] τ H' z/\tn i z.heap/\(∀b∈fp,H' b=none)/\Vals acc its/\acc.length<=AQ/\W i n acc τ H')
   ?_ m0 ⟨0,[],_,H2,[],0,I0,T0,fun b hb=>(f2 b hb).1,.nil,DL _,w0⟩
  rintro n s5 ⟨i,acc,τ,H5,its,k,I5,st5,fr5,va,hz,w5⟩;rcases turn i n acc τ H5 w5 with⟨stop,qn⟩|⟨go,hz2,N9,hN9,step⟩
  ·refine thn (T.done (cA X N scope cl C s2 H2 fp) rfl rfl rfl hc i _ s5 τ H5 _ I5 (stat fr5 (by simp)) st5 stop) fun r s6 ⟨hr,I6⟩=>?_;subst hr;obtain⟨m6,hn6,_⟩:=I6.loc;obtain⟨dD,nD,_,_,_⟩:=I6.pin (D,_) (A0 _ (Au.mpr rfl));have U:=I6.base;have nC:H5 C=none:=I6.free;have ne:∀b o,s2.heap.get? b=some o->b≠C/\b≠D:=fun b o q=>by
    exact⟨na1 (A3 q) hD hC,na0 (A3 q) hD⟩
   have key:∀h',C2 C s6.heap h'->Inv X pins σ (upd H5 D (.lst acc)) { s6 with heap:=h' }:=fun h' sb=>by
    have keepC:∀b o,b≠C->s6.heap.get? b=some o->h'.get? b=some o:=fun b o hb q=>(sb.2 b hb).trans q;have U':Un (frs X.stack) fp H2 (upd H5 D (.lst acc)) s2.heap h':=by
     refine⟨fun b o q n1 hb hx=>keepC b o (ne b o q).1 (U.keep b o q n1 hb hx),fun b o q n1 hb hx=>?_,fun b o q n1 hx=>?_,fun b o q hx=>?_,fun b xs q=>?_,fun b o xs q=>?_,fun b ps q=>?_⟩
     ·obtain⟨sl,z⟩:=U.slot b o q n1 hb hx;exact⟨sl,keepC b _ (ne b o q).1 z⟩
     ·rw[aH (ne b o q).2];exact U.free b o q n1 hx
     ·obtain⟨o',z⟩:=U.there b o q hx;exact⟨o',keepC b _ (ne b o q).1 z⟩
     ·have z:=U.tups b xs q;rw[aH (aF z nD)];exact z
     ·have z:=U.frzs b o xs q;rw[aH (aF z nD)];exact z
     obtain⟨more,z⟩:=U.tbls b ps q;exact⟨more,by rw[aH (aF z nD)];exact z⟩
    have hok:HOk X.prog X.w (upd H5 D (.lst acc)) h':=fun b u q=>by
     by_cases hb:b=D
     ·subst hb;rw[au] at q;cases q;exact⟨hz,its,k,va,keepC _ _ (na2 hC) dD⟩
     rw[aH hb] at q;refine(I6.hok b u q).stay (fun c v hcc z=>keepC c v ?_ z) (fun c z=>by rw[aH (aF z nD)];exact z) fun c xs z=>by rw[aH (aF z nD)];exact z
     rcases hcc with z1|z1
     ·subst z1;exact aF q nC
     exact aF z1 nC
    have I7:Inv X pins σ (upd H5 D (.lst acc)) { s6 with heap:=h' }:=I2.call' (s':={ s6 with heap:=h' }) (ch:=fp) I6.os U' hok I6.bare fun b hb=>by
     obtain⟨_,a2,_,a4,a5,a6⟩:=f2 b hb;exact⟨a4,a2,a5,a6⟩
    exact I7
   have I7:Inv X pins σ (upd H5 D (.lst acc)) s6:=key s6.heap (C2.refl _ _);have lC:X.env.locals≠C:=na1 I2.lt hD hC;have cC:∀y c,X.env.cells.lookup y=some c->c≠C:=fun y c z=>by
    obtain⟨_,o,h1,_⟩:=I2.cell y c z;exact na1 (A3 h1) hD hC
   show AK _ _ (FR (.Name x pos') X.env (.ref D)) _ _ s6;refine wpAny_assign_Name (Cr (v:=.ref D) I7 hNd hn.hN hn.hv rfl (fun s7 I8 ⟨a,sa,ha⟩=>?_) hf);have aC:a≠C:=by
    rcases ha with rfl|ha
    ·exact lC
    exact cC _ _ ha
   obtain⟨o6,es6,ep6,g1,g2,g3,g4⟩:=hn6;refine⟨m6,⟨o6,es6,ep6,(sa.2 C (Ch aC)).trans g1,g2,g3,g4⟩,fun h' sb=>?_⟩;have q9:=qn D nD;rw[<- hQ] at q9;refine⟨_,_,I8.turned (it:=C) (t':=s7.toks) (fun b o hb q=>(sb.2 b hb).trans q) ?_ (Ch lC) (.inr (BQ I2.sz (na3 hD hC))) cC (fun p hp=>?_),q9⟩
   ·rw[aH (Ch (na2 hC))];exact nC
   obtain⟨h1,_⟩:=I2.pin p hp;exact na1 (A3 h1) hD hC
  refine thn (T.item (cA X N scope cl C s2 H2 fp) rfl rfl rfl hc i _ s5 τ H5 _ I5 (stat fr5 (by simp)) st5 go) fun r s6 ⟨u,hr,h6⟩=>?_;subst hr;refine thn h6 fun _ s7 ⟨x,H7,I7,r7,y7,st7,fr7⟩=>?_;have I7':=I7.pinned (stat fr7 (by simp)) (T.obj _ _ st7);have no:∀{α:Type}{t:Sem α}{Q1 Q2:α->AA->Prop}{E:An->AA->Prop}{z:AA},AK (AN X.prog X.w) X.A t Q1 (fun _ _=>False) z->(∀a z,Q1 a z->Q2 a z)->AK (AN X.prog X.w) X.A t Q2 E z:=
   fun q f=>B5 q f fun _ _ z=>z.elim
  refine no (hg cl C s2 H2 fp _ s7 τ H7 x u _ I7' r7 (step x H7 y7)) fun _ s8 ⟨τ1,H8,I8,q8⟩=>?_;refine no (ht cl C s2 H2 fp _ s8 τ1 H8 _ I8 q8) fun ok s9 ⟨H9,I9,q9⟩=>?_;have again:∀{H':Hp}{z:AA}{its':List An}{k':Nat},Inv (cA X N scope cl C s2 H2 fp) ([(D,{ cls:=.type "list",data:=.seq (GG its') k' })]++mC fp s7.heap) τ1 H' z ->
    tn (i+1) z.heap/\(∀b∈fp,H' b=none)/\Inv (cA X N scope cl C s2 H2 fp) [(D,{ cls:=.type "list",data:=.seq (GG its') k' })] τ1 H' z:=fun {H' z its' k'} Iz=>by
   have get:∀b∈fp,∀o,s7.heap.get? b=some o->z.heap.get? b=some o/\H' b=none:=fun b hb o q=>by
    obtain⟨a1,a2,_⟩:=Iz.pin (b,o) (A0 _ (A0 _ (oF hb q)));exact⟨a1,a2⟩
   refine⟨T.keep _ _ _ st7 fun b hb o q=>(get b hb o q).1,fun b hb=>?_,Iz.pD⟩;obtain⟨o,q,_⟩:=T.obj _ _ st7 b hb;exact(get b hb o q).2
  cases ok with
  | false=>
   rw[if_neg AY] at q9 |-;obtain⟨m',hm,w9⟩:=hN9 _ _ _ q9;obtain⟨a1,a2,a3⟩:=again I9;exact⟨m',hm,i+1,acc,τ1,H9,its,k,a3,a1,a2,va,hz,w9⟩
  | true=>
   rw[if_pos rfl] at q9 |-;refine no (he cl C s2 H2 fp _ s9 τ1 H9 _ I9 q9) fun y s10 ⟨v,H10,I10,rv,q10⟩=>?_;obtain⟨m',hm,w10⟩:=hN9 _ _ _ q10;obtain⟨a1,a2,a3⟩:=again I10;obtain⟨dD,nD,_,_,_⟩:=a3.pin (D,_) (A0 _ (Au.mpr rfl));have hlen:=va.length;refine GN F.slot_list_append ⟨_,dD,rfl⟩ JP (IJ _ _) (PySem.list_append D its.toArray k y (by rw[AZ];omega)) ⟨dD,?_⟩;obtain⟨k',q⟩:∃k',(s10.heap.update D (CH fun a=>a.push y)).get? D=some { cls:=.type "list",data:=.seq (its++[y]).toArray k' }:=by
    have q:=FX dD (fun a=>a.push y);rw[show its.toArray.push y=(its++[y]).toArray by simp] at q;exact⟨_,q⟩
   have a4:Inv (cA X N scope cl C s2 H2 fp) (mC fp s7.heap) τ1 H10 s10:=I10.qP fun p hp=>I10.pin p (A0 _ (A0 _ hp));have a5:Inv (cA X N scope cl C s2 H2 fp) (mC fp s7.heap) τ1 H10 { s10 with heap:=s10.heap.update D (CH fun a=>a.push y),toks:=s10.toks }:=
    a4.turned (it:=D) (fun b o hb z=>(BF _ _ (Ch hb)).trans z) nD (na2 hC) (.inr (na4 hD))
     (fun x c z=>by
      obtain⟨_,o,h1,_⟩:=I2.cell x c (hsub x c z);exact na0 (A3 h1) hD) fun p hp=>by
      have hb:=(v7 (by simpa [cA] using hp)).1;exact na0 (hold _ hb) hD
   obtain⟨b1,b2,b3⟩:=(show tn (i+1) (s10.heap.update D (CH fun a=>a.push y))/\(∀b∈fp,H10 b=none)/\True from
    ⟨T.keep _ _ _ a1 fun b hb o z=>(BF _ _ (na0 (hold b hb) hD).symm).trans z,a2,trivial⟩)
   refine⟨m',hm,i+1,acc++[v],τ1,H10,its++[y],k',a5.qP fun p hp=>?_,b1,b2,va.append (.cons rv .nil),by rw[AR,A9];omega,w10⟩;have ep:=Au.mp hp;subst ep;exact⟨q,nD,na2 hC,hfr,fun v z=>by cases z⟩
 have e1:{ newEnv scope C X.env.globals cl X.env.qual none .none (some X.env) X.env.builtins with scope:=relabel scope X.env }=IL scope cl C X.env:=rfl;exact codeAny_compStart_list (loop _ rfl) (T.self _ 0 _ _ _ T0 (loop _ rfl))
theorem nY {tg iter elt:Expr}{ifs:List Expr}{pos pos' pos2:Pos}{wi:TI}{g:TG}{tc:TT}{te:TE}{i:Nat}{x:Str}(N:List Str)(mp:List (Option Nat))(hn:Nm X.N X.env.scope i x)(hNd:X.N.Nodup)(hNX:X.N=NX)(hkX:X.env.scope.names=kX)(S:xZ NX kX N mp scope)(hc:X.calm=true)
  (hi:QI X tg iter wi) (hg:∀cl C s H fp,QG (cA X N scope cl C s H fp) tg g) (ht:∀cl C s H fp,QC (cA X N scope cl C s H fp) ifs tc) (he:∀cl C s H fp,QE (cA X N scope cl C s H fp) elt te)
  (hf:X.fn x=true\/X.env.scope.names.lookup x=some .local:=by exact .inl rfl)
  (hsw:F2 [.Name x pos'] (.ListComp elt [⟨tg,iter,ifs,0⟩] scope pos) pos2.line X.env=pure true:=by rfl)
  (h1:(DA [.Name x pos'] X.env).map (·.2)=[FR (.Name x pos') X.env]:=by rfl)
  (hs:∀x,DI iter X.env x=pure x:=by intro _;rfl):QS X (.Assign [.Name x pos'] (.ListComp elt [⟨tg,iter,ifs,0⟩] scope pos) pos2) (Bm (Cq mp wi g tc te) (lE i)):=
 ⟨Xj N mp hn hNd hNX hkX S hc hi.h (fun cl C s H fp=>(hg cl C s H fp).h) (fun cl C s H fp=>(ht cl C s H fp).h) (fun cl C s H fp=>(he cl C s H fp).h) hf hsw h1 hs⟩
end
section
variable {mp:List (Option Nat)}{g:TG}{te:TE}{σ:St}{H:Hp}{Q:VK}{R:It->Hp->Prop}{K:AD}{a:Addr}{xs:List V}{ds:List Bz}{ok:Addr->Prop}
theorem take_snoc {α:Type}{l:List α}{i:Nat}{x:α}(h:l[i]?=some x):l.take (i+1)=l.take i++[x]:=by
 rw[FE,h];rfl
end
noncomputable def oG (d:Bz)(z:Str):Bool:=match d with
 | .str x=>decide (x=z)
 | _=>false
theorem Vc {p c:Addr}{H Hk:Hp}{B:Int}(s:cW p H Hk)(t:cV Hk p B)(h:Hk c=none):c≠p/\H c=none:=by
 have n:=t.ne h;refine⟨n,?_⟩;cases e:H c with
 | none=>rfl
 | some o=>rw[s _ _ n e] at h;cases h
theorem N6 {p c:Addr}{H H':Hp}{o:HO}(s:cW p H H')(h:H c=none):cW p H (upd H' c o):=fun b u n e=>by
 rw[aH (aF e h)];exact s b u n e
theorem cV.upd {H:Hp}{p c:Addr}{B:Int}{o:HO}(t:cV H p B)(n:c≠p):cV (upd H c o) p B:=by
 obtain⟨a,b,c',e,r⟩:=t;exact⟨a,b,c',by rw[aH (Ch n)];exact e,r⟩
theorem nu {α:Type}(l:List α)(h:0<l.length):∃a b,l=a++[b]:=by
 induction l with
 | nil=>cases h
 | cons x r ih=>
  cases r with
  | nil=>exact⟨[],x,rfl⟩
  | cons y r=>
   obtain⟨a,b,e⟩:=ih (by simp);exact⟨x::a,b,by rw[e];rfl⟩
theorem Yy {n:Nat}{i:Int}(h0:0<=i)(h:i<n):ixN n i=some i.toNat:=by
 unfold ixN;rw[if_pos h0,if_pos h]
theorem cV.newOk {H:Hp}{p:Addr}{B:Int}(t:cV H p B):jN (·≠p) H:=by
 obtain⟨a,b,c,e,_⟩:=t;exact Uj e
theorem uU {prog:AW}{w:BB}{A:Bi}{E:An->AA->Prop}{s:AA}{it t:Addr}{i:Nat}{items:Array An}{x:An}{Q:An->AA->Prop}(hit:s.heap.IsTupleIter it t i)(ht:s.heap.IsTuple t items)(hx:items[i]?=some x)
  (hQ:∀h',h'.IsTupleIter it t (i+1)->C2 it s.heap h'->Q x { s with heap:=h' }):AK (AN prog w) A (A7.SmallTypes.nextOf (An.ref it)) Q E s:=by
 obtain⟨o,ho,hc,hd⟩:=id hit;obtain⟨ol,hol,hcl,nl,hdl⟩:=ht;unfold A7.SmallTypes.nextOf;refine Ap (Fm hit.typeIs E7 (FU E7 hit.typeIs F.entry_tuple_iterator_next ?_ (F.args_tuple_iterator_next_1 _)));refine Ap (AE (Ap (B7 ho hd (i:=0) rfl ?_)));refine BD rfl (Ap (B7 ho hd (i:=1) rfl ?_));refine Ap (GV hol hdl ?_);show AK _ _ (match items[(i:Int).toNat]? with
  | some x=>(do setField (.ref it) 1 (EC ((i:Int)+1));ret x)
  | none=>_) _ _ _
 rw[DD,hx];refine Ap (wpAny_setField ho hd (Db 1) (AE ⟨x,rfl,AE (hQ _ ?_ ?_)⟩))
 ·refine⟨_,FV _ ho (Obj.isFreed_of_fields (Obj.data_mapFields hd _)),(Obj.cls_mapFields o _).trans hc,?_⟩;rw[Obj.data_mapFields hd];rfl
 exact C2.update s.heap it _
theorem v9 {prog:AW}{w:BB}{A:Bi}{E:An->AA->Prop}{s:AA}{it t:Addr}{i:Nat}{items:Array An}{Q:An->AA->Prop}(hh:A.handled=none)(hit:s.heap.IsTupleIter it t i)(ht:s.heap.IsTuple t items)(hx:items[i]?=none)
  (hE:∀h' e,Heap.ExtBut it s.heap h'->(∃o,h'.get? e=some o/\o.cls=An.type "StopIteration")->E (.ref e) { s with heap:=h' }):AK (AN prog w) A (A7.SmallTypes.nextOf (An.ref it)) Q E s:=by
 obtain⟨o,ho,hc,hd⟩:=id hit;obtain⟨ol,hol,hcl,nl,hdl⟩:=ht;unfold A7.SmallTypes.nextOf;refine Ap (Fm hit.typeIs E7 (FU E7 hit.typeIs F.entry_tuple_iterator_next ?_ (F.args_tuple_iterator_next_1 _)));refine Ap (AE (Ap (B7 ho hd (i:=0) rfl ?_)));refine BD rfl (Ap (B7 ho hd (i:=1) rfl ?_));refine Ap (GV hol hdl ?_);show AK _ _ (match items[(i:Int).toNat]? with
  | some x=>_
  | none=>(do rule (toString "tuple_iterator.__next__" ++ toString ".end");setField (.ref it) 0 .none;A7.SmallTypes.stopIteration)) _ _ _
 rw[DD,hx];refine Ap (HI (Ap (wpAny_setField ho hd (Nat.zero_lt_succ 1) ?_)));unfold A7.SmallTypes.stopIteration newExc;refine Ap (Ap (B6 ?_));refine Ap (B3 (a:=.none) rfl ?_);refine B6 ?_;refine wpAny_raiseNew_none hh (hE _ _ ?_ ?_)
 ·exact fun b ob hb e=>AF _ (AF _ ((BF _ _ (Ch hb)).trans e))
 exact⟨_,BA _ rfl,rfl⟩
theorem xX {prog:AW}{w:BB}{A:Bi}(hh:A.handled=none)(it t:Addr)(hne:t≠it)(items:Array An):Draws prog w A it [it,t] items.size (fun i v=>items[i]?=some v) fun i h=>h.IsTupleIter it t i/\h.IsTuple t items where
 live:=fun _ _ st=>by
  obtain⟨⟨o,ho,_⟩,_⟩:=st;exact⟨o,ho⟩
 frame:=fun _ _ _ st hk=>by
  obtain⟨h1,⟨o,e,r⟩⟩:=st;exact⟨h1.at fun o e=>hk it (by simp) o e,o,hk t (by simp) o e,r⟩
 item:=fun i s Q E hi st hQ=>by
  have e:items[i]?=some items[i]:=by simp [hi]
  refine uU st.1 st.2 e fun h' h1 sb=>hQ _ _ s.toks e ⟨h1,?_⟩ sb;obtain⟨o,g,r⟩:=st.2;exact⟨o,(sb.2 t hne).trans g,r⟩
 done:=fun s Q E st hE=>v9 hh st.1 st.2 (by simp) hE
noncomputable def Iet (K:AD)(a:Addr):It:=
 ⟨fun i H=>∃xs x,SqT K H a xs/\xs[i]?=some x,
  fun i H v H'=>∃p x,v=.ref p/\H p=none/\H'=upd H p (.tup [.int (i:Nat),x])/\∀xs,SqT K H a xs->xs[i]?=some x,
  fun i H=>∃xs,SqT K H a xs/\xs.length=i⟩
noncomputable def ieq (K:AD)(ob:Option HO)(a:Addr)(H:Hp)(R:It->Hp->Prop):Prop:=match ob with
 | some (.lst _)=>R (Ite K a) H
 | some (.tup _)=>R (Iet K a) H
 | _=>False
theorem Mt (K:AD)(xs:List V)(a:Addr)(H:Hp)(R:It->Hp->Prop):ieq K (some (.lst xs)) a H R=R (Ite K a) H:=rfl
theorem Ko {J:It}{g:TG}{tb:TS}{D:Ends}{σ:St}{H:Hp}{R:It->Hp->Prop}(hR:R=(fun J H1=>∃W:Nat->Nat->St->Hp->Prop,(∃m,W 0 m σ H1)/\∀i m σ H,W i m σ H ->
  (J.stop i H/\D.nx σ H)\/(J.go i H/\∃N:St->Hp->Prop,(∀σ' H',N σ' H'->∃m',m'<m/\W (i+1) m' σ' H')/\∀x H',J.yld i H x H'->g x σ H' fun σ2 H2=>tb { D with nx:=N,ct:=N,bk:=D.nx } σ2 H2)))
  (n:Nat) (Pv:Nat->St->Hp->Prop) (h0:Pv 0 σ H) (hgo:∀i σ H,i<n->Pv i σ H->J.go i H) (hst:∀σ H,Pv n σ H->J.stop n H)
  (hs:∀i σ H x H3,i<n->Pv i σ H->J.yld i H x H3->g x σ H3 fun σ2 H2=>tb { D with nx:=Pv (i+1),ct:=Pv (i+1),bk:=D.nx } σ2 H2) (hd:∀σ H,Pv n σ H->D.nx σ H):R J H:=by
 subst hR;refine⟨fun i m σ H2=>m=n-i/\i<=n/\Pv i σ H2,⟨_,rfl,DL _,h0⟩,?_⟩;rintro i m σ H2 ⟨rfl,hi,p⟩;by_cases hlt:i<n
 ·exact .inr ⟨hgo i σ H2 hlt p,Pv (i+1),fun σ' H' q=>⟨_,ω,rfl,hlt,q⟩,fun x H3 y=>hs i σ H2 x H3 hlt p y⟩
 have e:i=n:=ω;subst e;exact .inl ⟨hst σ H2 p,hd σ H2 p⟩
section
variable {X:Cx}{e o:Expr}{te to:TE}{pos:Pos}
noncomputable def exq (ob oc:Option HO)(l:Addr)(H:Hp)(Q:VK):Prop:=match ob,oc with
 | some (.lst xs),some (.lst zs)=>xs.length+zs.length<=AQ/\Q .non (upd H l (.lst (xs++zs)))
 | _,_=>False
noncomputable def Vi (l:Addr)(y:V)(H:Hp)(Q:VK):Prop:=match y with
 | .ref b=>exq (H l) (H b) l H Q
 | _=>False
noncomputable def exK (x:V)(te:TE)(σ:St)(H1:Hp)(Q:VK):Prop:=match x with
 | .ref l=>isq (H1 l)/\te σ H1 fun y H2=>Vi l y H2 Q
 | _=>False
noncomputable def Rh (to te:TE):TE:=fun σ H Q=>to σ H fun x H1=>exK x te σ H1 Q
theorem yR (to te:TE)(σ:St)(H:Hp)(Q:VK):Rh to te σ H Q=to σ H fun x H1=>exK x te σ H1 Q:=rfl
theorem FN (l:Addr)(te:TE)(σ:St)(H1:Hp)(Q:VK):exK (.ref l) te σ H1 Q=(isq (H1 l)/\te σ H1 fun y H2=>Vi l y H2 Q):=rfl
theorem Az (l b:Addr)(H:Hp)(Q:VK):Vi l (.ref b) H Q=exq (H l) (H b) l H Q:=rfl
theorem Kp (xs zs:List V)(l:Addr)(H:Hp)(Q:VK):exq (some (.lst xs)) (some (.lst zs)) l H Q=(xs.length+zs.length<=AQ/\Q .non (upd H l (.lst (xs++zs)))):=rfl
theorem XM {apos cpos:Pos}(ho:PE X o to)(he:PE X e te)
  (hbase:DC o "extend" X.env (eval o X.env)=eval o X.env:=by rfl)
  (hfew:((CA cpos (AJ [e] X.env)).all (fun x=>!x.1)&&(EE cpos (C6 [] X.env)).all (fun x=>x.1.isSome)
   && decide ([e].length+([]:List FC).length+(if ([]:List FC).isEmpty then 0 else 1)<30))=true:=by rfl)
  (hline:(apos.endLine == cpos.line)=true:=by rfl) (hs:AJ [e] X.env=(false,eval e X.env)::AJ [] X.env:=by rfl) (hplain:(CA cpos (AJ [] X.env)).any (·.1)=false:=by rfl) :
  PE X (.Call (.Attribute o "extend" apos) [e] [] cpos) (Rh to te):=by
 intro pins s σ H Q I h;refine wpAny_Call_method_late hbase hfew hline rfl (thE (ho pins s σ H _ I h) fun v s1 x H1 I1 r1 q=>?_);cases x with
 | ref l=>
  obtain⟨q1,q2⟩:=q;cases el:H1 l with
  | none=>rw[el] at q1;exact q1.elim
  | some ob=>
   cases ob with
   | lst xs=>
    obtain⟨h1,h2⟩:=IW (T := "list") I1 r1 (.inl ⟨rfl,xs,SqL.of el⟩);refine⟨"list","list.extend",HG,PySem.F.slot_list_extend,PySem.F.type_list_extend,h1,h2,?_⟩;rw[hs];refine EN (by show(false||(CA cpos (AJ [] X.env)).any (·.1))=false;rw[hplain] <;> rfl) (E6 ?_)
    refine EL (thE (he pins s1 σ H1 _ I1 q2) fun u s2 y H2 I2 r2 q3=>EV ?_);replace q3:Vi l y H2 Q:=q3;unfold Vi at q3;split at q3
    ·rename_i b;unfold exq at q3;split at q3
     ·rename_i ys zs e1 e2;exact Pa pins s2 σ H2 (.ref l) [.ref b] v [u] Q I2 r1 (.cons r2 .nil) ⟨l,b,ys,zs,rfl,rfl,e1,e2,q3.1,q3.2⟩
     exact q3.elim
    exact q3.elim
   | _=>rw[el] at q1;exact q1.elim
 | _=>exact q.elim
theorem Ew {apos cpos:Pos}(ho:QE X o to)(he:QE X e te)
  (hbase:DC o "extend" X.env (eval o X.env)=eval o X.env:=by rfl)
  (hfew:((CA cpos (AJ [e] X.env)).all (fun x=>!x.1)&&(EE cpos (C6 [] X.env)).all (fun x=>x.1.isSome)
   && decide ([e].length+([]:List FC).length+(if ([]:List FC).isEmpty then 0 else 1)<30))=true:=by rfl)
  (hline:(apos.endLine == cpos.line)=true:=by rfl) (hs:AJ [e] X.env=(false,eval e X.env)::AJ [] X.env:=by rfl) (hplain:(CA cpos (AJ [] X.env)).any (·.1)=false:=by rfl) :
  QE X (.Call (.Attribute o "extend" apos) [e] [] cpos) (Rh to te):=⟨XM ho.h he.h hbase hfew hline hs hplain⟩
end
mutual
noncomputable def szD (a:Nat):Bz->Prop
 | .none=>True
 | .bool _=>True
 | .int i=>i.natAbs<=10^20*2^a
 | .str x=>x.length<=30+a/\∀c∈x.cps.toList,c<16^8
 | .list ds=>ds.length<=210*5^a/\Ro a ds
 | .tuple ds=>ds.length<=210*5^a/\Ro a ds
 | .dict _=>False
noncomputable def Ro (a:Nat):List Bz->Prop
 | []=>True
 | d::ds=>szD a d/\Ro a ds
end
noncomputable def okS (a:Nat)(x:Str):Prop:=x.length<=30+a/\∀c∈x.cps.toList,c<16^8
inductive Gh (H:Hp):List V->List (List Nat)->Prop
 | nil:Gh H [] []
 | cons {t:Addr} {p:List Nat} {vs:List V} {ps:List (List Nat)}:H t=some (.tup (acP p))->Gh H vs ps->Gh H (.ref t::vs) (p::ps)
theorem dR {H H':Hp}{l:Addr}{o:HO}(s:Same H H')(h:H l=none):Same H (upd H' l o):=fun b u e=>by
 rw[aH (aF e h)];exact s b u e
theorem jN.new {ok:Addr->Prop}{H:Hp}(n:jN ok H){q:Addr}(h:H q=none):ok q:=n H q (Same.refl _) h
theorem Yx {α:Type}(xs:List α)(h:1<=xs.length):∃(i:Nat)(x:α),xs[i]?=some x/\atI xs (-1)=some x:=by
 have h1:xs.length-1<xs.length:=ω;refine⟨xs.length-1,xs[xs.length-1],AC h1,?_⟩;unfold atI ixN;rw[if_neg δ,if_pos ω];show xs[_]?=_;rw[show(-1+(xs.length:Int)).toNat=xs.length-1 by omega];exact AC h1
section
variable {X:Cx}{a:Expr}{ta:TE}
noncomputable def trq (ob:Option HO)(H:Hp)(Q:Bool->Hp->Prop):Prop:=match ob with
 | some (.lst xs)=>Q (!xs.isEmpty) H
 | some (.tup xs)=>Q (!xs.isEmpty) H
 | _=>False
noncomputable def Wh (x:V)(H:Hp)(Q:Bool->Hp->Prop):Prop:=match x with
 | .ref p=>trq (H p) H Q
 | .bl b=>Q b H
 | .int i=>Q (i != 0) H
 | .non=>Q false H
 | _=>False
noncomputable def ZD (te:TE):TT:=fun σ H Q=>te σ H fun x H1=>Wh x H1 Q
theorem Wk (te:TE)(σ:St)(H:Hp)(Q:Bool->Hp->Prop):ZD te σ H Q=te σ H fun x H1=>Wh x H1 Q:=rfl
theorem Q0 (p:Addr)(H:Hp)(Q:Bool->Hp->Prop):Wh (.ref p) H Q=trq (H p) H Q:=rfl
theorem Q5 (i:Int)(H:Hp)(Q:Bool->Hp->Prop):Wh (.int i) H Q=Q (i != 0) H:=rfl
theorem Wi (xs:List V)(H:Hp)(Q:Bool->Hp->Prop):trq (some (.lst xs)) H Q=Q (!xs.isEmpty) H:=rfl
theorem aag (ha:PE X a ta)(he:∀whole,isTrue a X.env whole=(do let v <- whole;GA a.pos;EB [v] (truthy v))):PT X a (ZD ta):=by
 intro pins s σ H Q I h;refine isTrue_plain (thE (ha pins s σ H _ I h) fun v s1 x H1 I1 r1 q1=>Zy pins s1 σ H1 x v Q I1 r1 ?_) (he _);cases x with
 | ref p=>
  replace q1:trq (H1 p) H1 Q:=q1;unfold trq at q1;split at q1
  ·rename_i xs e;exact⟨_,.inl ⟨xs,SqL.of e,rfl⟩,q1⟩
  ·rename_i xs e;exact⟨_,.inr (.inl ⟨xs,SqT.of e,rfl⟩),q1⟩
  exact q1.elim
 | bl b=>exact⟨_,rfl,q1⟩
 | int i=>exact⟨_,rfl,q1⟩
 | non=>exact⟨_,rfl,q1⟩
 | _=>exact(show False from q1).elim
theorem Er (h:QE X a ta)(he:∀whole,isTrue a X.env whole=(do let v <- whole;GA a.pos;EB [v] (truthy v)):=by intro _;rfl):QT X a (ZD ta):=⟨aag h.h he⟩
noncomputable def acF:R2:=fun x y H Q=>∃p q xs,x=.ref p/\y=.ref q/\H p=some (.lst xs)/\H q=some (.lst [])/\Q (.bl (!xs.isEmpty)) H
theorem Jz (hu:X.A.units<EI):OpR X (B0 .NotEq) acF:=by
 intro pins s σ H x y v u Q I rx ry h;obtain⟨p,q,xs,rfl,rfl,e1,e2,qq⟩:=h;cases rx;cases ry;obtain⟨its1,r1,pl1,hz1⟩:=I.list (SqL.of e1);obtain⟨its2,r2,pl2,hz2⟩:=I.list (SqL.of e2);cases r2;cases xs with
 | nil=>
  cases r1;exact SeqAt.RcNeAt.lists (e:=fun _=>true) pl1.isList pl2.isList rfl hu (fun j h1 h2=>absurd h2 (not_lt_zero _)) X.prog X.w X.xe (EP X pins σ Q) ⟨.bl false,H,I,rfl,qq⟩
 | cons a b=>
  cases r1;exact SeqAt.RcNeAt.lists_lengths pl1.isList pl2.isList (by simp) hu X.prog X.w X.xe (EP X pins σ Q) ⟨.bl true,H,I,rfl,qq⟩
end
noncomputable def stD (s:Int×Int×Int):Bz:=.tuple [.int s.1,.int s.2.1,.int s.2.2]
theorem aK.st {ok:Addr->Prop}{H:Hp}{x:V}{s:Int×Int×Int}(t:aK ok H x (stD s)):∃a,x=.ref a/\ok a/\H a=some (.tup [.int s.1,.int s.2.1,.int s.2.2]):=by
 cases t with
 | tup o e z ts=>
  rename_i p xs;refine⟨p,rfl,o,?_⟩;cases ts with
  | cons t1 ts=>
   cases t1;cases ts with
   | cons t2 ts=>
    cases t2;cases ts with
    | cons t3 ts=>
     cases t3;cases ts;exact e
theorem aO.st {ok:Addr->Prop}{H:Hp}{xs:List V}{ss:List (Int×Int×Int)}{i:Nat}{x:V}(t:aO ok H xs (ss.map stD))(h:xs[i]?=some x):∃a s,x=.ref a/\ok a/\ss[i]?=some s/\H a=some (.tup [.int s.1,.int s.2.1,.int s.2.2]):=by
 obtain⟨d,hd,td⟩:=t.get h;rw[A4] at hd;cases hs:ss[i]? with
 | none=>rw[hs] at hd;cases hd
 | some s=>
  rw[hs] at hd;cases hd;obtain⟨a,h1,h2,h3⟩:=td.st;exact⟨a,s,h1,h2,rfl,h3⟩
theorem zj {is:List Int}{r:Int}(h0:0<=r)(h:r<is.length):∃i,i∈is/\atI (is.map V.int) r=some (.int i):=by
 have h1:r.toNat<is.length:=ω;refine⟨is[r.toNat],DS h1,?_⟩;unfold atI;rw[Yy h0 (by rw[AI];omega)];show(is.map V.int)[r.toNat]?=_;rw[A4,AC h1];rfl
structure eY (ss:List (Int×Int×Int)):Prop where
 lh:∀(i:Nat) s,ss[i]?=some s->s.1<=s.2.1/\0<=s.2.2/\s.2.2<=9
 nx:∀(i:Nat) s t,ss[i]?=some s->ss[i+1]?=some t->t.1=s.2.1+1
 bd:∀(i:Nat) s,ss[i]?=some s->-(10^12)<=s.1/\s.2.1<=10^9+(10^12+10)*(i+1)
theorem eY.nil:eY []:=⟨fun i s h=>(by cases h),fun i s t h=>(by cases h),fun i s h=>(by cases h)⟩
theorem eY.snoc {ss:List (Int×Int×Int)}(h:eY ss){lo hi b:Int}(h1:lo<=hi)(h2:0<=b/\b<=9)(h3:-(10^12)<=lo/\hi<=10^9+(10^12+10)*(ss.length+1))(h4:∀s,ss[ss.length-1]?=some s->lo=s.2.1+1):eY (ss++[(lo,hi,b)]):=by
 have get:∀(i:Nat) s,(ss++[(lo,hi,b)])[i]?=some s->(i<ss.length/\ss[i]?=some s)\/(i=ss.length/\s=(lo,hi,b)):=fun i s e=>by
  rcases E3 i ss.length with z|z
  ·rw[C8 z] at e;exact .inl ⟨z,e⟩
  rw[BH z] at e;cases hk:i-ss.length with
  | zero=>rw[hk] at e;cases e;exact .inr ⟨ω,rfl⟩
  | succ k=>rw[hk] at e;cases e
 refine⟨fun i s e=>?_,fun i s t e1 e2=>?_,fun i s e=>?_⟩
 ·rcases get i s e with⟨z,e⟩|⟨z,rfl⟩
  ·exact h.lh i s e
  exact⟨h1,h2.1,h2.2⟩
 ·rcases get i s e1 with⟨z,e1⟩|⟨z,rfl⟩
  ·rcases get (i+1) t e2 with⟨z2,e2⟩|⟨z2,rfl⟩
   ·exact h.nx i s t e1 e2
   exact h4 s (by rw[show ss.length-1=i by omega];exact e1)
  rcases get (i+1) t e2 with⟨z2,e2⟩|⟨z2,rfl⟩ <;> omega
 rcases get i s e with⟨z,e⟩|⟨z,rfl⟩
 ·exact h.bd i s e
 rw[z];exact h3
theorem Wf {c:TT}{tb:TS}{D:Ends}{σ:St}{H:Hp}(Pv:St->Hp->Prop)(μ:St->Nat)(h0:Pv σ H)
  (hs:∀σ H,Pv σ H->c σ H fun b H1=>if b=true then ∃N:St->Hp->Prop,(∀σ' H',N σ' H'->∃m',m'<μ σ/\m'=μ σ'/\Pv σ' H')/\tb { D with nx:=N,ct:=N,bk:=D.nx } σ H1 else D.nx σ H1):Eg c tb D σ H:=
 ⟨fun m σ H=>m=μ σ/\Pv σ H,⟨_,rfl,h0⟩,by rintro m σ H ⟨rfl,p⟩;exact hs σ H p⟩
noncomputable def Ez:Option Int->V
 | some i=>.int i
 | none=>.non
theorem eY.rise {ss:List (Int×Int×Int)}(h:eY ss){i:Nat}{s:Int×Int×Int}(hs:ss[i]?=some s):∀(k:Nat)(t:Int×Int×Int),ss[i+k+1]?=some t->s.2.1<t.1
 | 0,t,ht=>by
  have:=h.nx i s t hs ht;omega
 | k+1,t,ht=>by
  have hl:=(AG.mp ht).1;have hu:ss[i+k+1]?=some ss[i+k+1]:=AC ω;have h1:=h.rise hs k _ hu;have h2:=h.nx _ _ t hu ht;have h3:=(h.lh _ _ hu).1;omega
theorem eY.lt {ss:List (Int×Int×Int)}(h:eY ss){i j:Nat}{s t:Int×Int×Int}(hs:ss[i]?=some s)(ht:ss[j]?=some t)(hij:i<j):s.2.1<t.1:=
 h.rise hs (j-i-1) t (by rw[show i+(j-i-1)+1=j by omega];exact ht)
section
variable {κ:Type}[DecidableEq κ]
noncomputable def lN (kvs:List (κ×V))(k:κ):Option V:=(kvs.find? fun kv=>decide (kv.1=k)).map (·.2)
noncomputable def putK (kvs:List (κ×V))(k:κ)(v:V):List (κ×V):=
 if (kvs.any fun kv=>decide (kv.1=k))=true then kvs.map (fun kv=>if kv.1=k then (kv.1,v) else kv) else kvs++[(k,v)]
theorem pB {p:κ×V}{r:List (κ×V)}{k:κ}(e:p.1=k):lN (p::r) k=some p.2:=by simp [lN,HP,e]
theorem j7 {p:κ×V}{r:List (κ×V)}{k:κ}(e:¬p.1=k):lN (p::r) k=lN r k:=by simp [lN,HP,e]
theorem yO (k:κ):∀kvs:List (κ×V),(kvs.any fun kv=>decide (kv.1=k))=(lN kvs k).isSome
 | []=>rfl
 | p::r=>by
  rw[II];by_cases e:p.1=k
  ·simp only[pB e,decide_eq_true e,Bool.true_or,Option.isSome_some]
  rw[j7 e,decide_eq_false e,Bool.false_or];exact yO k r
theorem xR (kvs:List (κ×V))(k:κ)(v:V):(putK kvs k v).length<=kvs.length+1:=by
 unfold putK;split
 ·rw[AI];omega
 rw[AR,Be,FS];omega
theorem GP {kvs:List (κ×V)}{k:κ}(v:V)(h:lN kvs k=none):putK kvs k v=kvs++[(k,v)]:=by
 unfold putK;rw[yO,h];exact if_neg δ
theorem wY.wL {o:Option V}{u:Option An}(r:wY o u):o.isSome=u.isSome:=by
 cases o with
 | none=>cases u with
  | none=>rfl
  | some _=>exact(show False from r).elim
 | some _=>cases u with
  | none=>exact(show False from r).elim
  | some _=>rfl
theorem wY.getD {o:Option V}{u:Option An}{d:V}{d':An}(r:wY o u)(rd:RelV d d'):RelV (o.getD d) (u.getD d'):=by
 cases o with
 | none=>cases u with
  | none=>exact rd
  | some _=>exact(show False from r).elim
 | some _=>cases u with
  | none=>exact(show False from r).elim
  | some _=>exact r
theorem KV.val {kvs:List (κ×V)}{vs:List (κ×An)}(r:KV kvs vs)(k:κ):wY (lN kvs k) (valueAt vs k):=by
 unfold KV at r
 induction r with
 | nil=>exact True.intro
 | @cons p q ps qs h t ih=>
  obtain⟨h1,h2⟩:=h;by_cases e:p.1=k
  ·have e':q.1=k:=h1.symm.trans e;have b:valueAt (q::qs) k=some q.2:=by simp [valueAt,HP,e']
   rw[pB e,b];exact h2
  have e':¬q.1=k:=fun z=>e (h1.trans z);have b:valueAt (q::qs) k=valueAt qs k:=by simp [valueAt,HP,e']
  rw[j7 e,b];exact ih
theorem KV.any {kvs:List (κ×V)}{vs:List (κ×An)}(r:KV kvs vs)(k:κ):(kvs.any fun kv=>decide (kv.1=k))=vs.any fun kv=>decide (kv.1=k):=by
 unfold KV at r
 induction r with
 | nil=>rfl
 | cons h t ih=>rw[II,II,ih,h.1]
theorem KV.repl {kvs:List (κ×V)}{vs:List (κ×An)}(r:KV kvs vs)(k:κ){y:V}{u:An}(ry:RelV y u) :
  KV (kvs.map fun kv=>if kv.1=k then (kv.1,y) else kv) (vs.map fun kv=>if kv.1=k then (kv.1,u) else kv):=by
 unfold KV at r |-
 induction r with
 | nil=>exact .nil
 | @cons p q ps qs h t ih=>
  rw[Dx,Dx];refine .cons ?_ ih;obtain⟨h1,h2⟩:=h;by_cases e:p.1=k
  ·rw[if_pos e,if_pos (h1.symm.trans e)];exact⟨h1,ry⟩
  rw[if_neg e,if_neg (fun z=>e (h1.trans z))];exact⟨h1,h2⟩
theorem KV.put {kvs:List (κ×V)}{vs:List (κ×An)}(r:KV kvs vs)(k:κ){y:V}{u:An}(ry:RelV y u):KV (putK kvs k y) (stored vs k u):=by
 unfold putK stored;rw[r.any k];by_cases e:(vs.any fun kv=>decide (kv.1=k))=true
 ·rw[if_pos e,if_pos e];exact r.repl k ry
 rw[if_neg e,if_neg e];exact Paired.snoc r ⟨rfl,ry⟩
theorem KV.keys {kvs:List (κ×V)}{vs:List (κ×An)}(r:KV kvs vs):kvs.map (·.1)=vs.map (·.1):=by
 unfold KV at r
 induction r with
 | nil=>rfl
 | cons h t ih=>rw[Dx,Dx,ih,h.1]
theorem KV.length {kvs:List (κ×V)}{vs:List (κ×An)}(r:KV kvs vs):kvs.length=vs.length:=Kj r
end
theorem Hs {P:AW}{w:BB}{k:Key}{u:An}(r:RelV (kV k) u):(cP P w).is k u=true:=by
 cases k with
 | inl i=>obtain⟨t,e⟩:=(show ∃t,u=An.int i t from r);subst e;exact Ho P w i t
 | inr x=>obtain⟨t,e⟩:=(show ∃t,u=An.str x t from r);subst e;exact Hj P w x t
theorem Ds {P:AW}{w:BB}:∀{ks:List Key}{us:List An},Vals (ks.map kV) us->ItemsAre (cP P w) ks us
 | [],_,r=>by rw[map_nil] at r;cases r;exact .nil
 | k::ks,_,r=>by
  rw[Dx] at r;cases r with
  | cons h t=>exact .cons (Hs h) (Ds t)
noncomputable abbrev KT (H:Hp):List (List Key×V)->List (List Key×Addr×An)->Prop:=Paired fun p q=>p.1=q.1/\H q.2.1=some (.tup (p.1.map kV))/\RelV p.2 q.2.2
theorem KT.val {H:Hp}{kvs:List (List Key×V)}{xs:List (List Key×Addr×An)}(r:KT H kvs xs)(k:List Key):wY (lN kvs k) ((atKey xs k).map (·.2)):=by
 induction r with
 | nil=>exact True.intro
 | @cons p q ps qs h t ih=>
  obtain⟨h1,_,h2⟩:=h;by_cases e:p.1=k
  ·have e':q.1=k:=h1.symm.trans e;have b:atKey (q::qs) k=some q.2:=by simp [atKey,HP,e']
   rw[pB e,b];exact h2
  have e':¬q.1=k:=fun z=>e (h1.trans z);have b:atKey (q::qs) k=atKey qs k:=by simp [atKey,HP,e']
  rw[j7 e,b];exact ih
theorem KT.repl {H:Hp}{kvs:List (List Key×V)}{xs:List (List Key×Addr×An)}(r:KT H kvs xs)(k:List Key){y:V}{u:An}(ry:RelV y u) :
  KT H (kvs.map fun kv=>if kv.1=k then (kv.1,y) else kv) (xs.map (putAt k u)):=by
 induction r with
 | nil=>exact .nil
 | @cons p q ps qs h t ih=>
  rw[Dx,Dx];refine .cons ?_ ih;obtain⟨h1,h2,h3⟩:=h;unfold putAt;by_cases e:p.1=k
  ·rw[if_pos e,if_pos (h1.symm.trans e)];exact⟨h1,h2,ry⟩
  rw[if_neg e,if_neg (fun z=>e (h1.trans z))];exact⟨h1,h2,h3⟩
theorem KT.put {H:Hp}{kvs:List (List Key×V)}{xs:List (List Key×Addr×An)}(r:KT H kvs xs)(k:List Key){b:Addr}{y:V}{u:An}(hb:H b=some (.tup (k.map kV)))(ry:RelV y u) :
  KT H (putK kvs k y) (storedH xs k b u):=by
 have e:(kvs.any fun kv=>decide (kv.1=k))=(atKey xs k).isSome:=by
  rw[yO,(r.val k).wL,isSome_map]
 unfold putK storedH;rw[e];by_cases q:(atKey xs k).isSome=true
 ·rw[if_pos q,if_pos q];exact r.repl k ry
 rw[if_neg q,if_neg q];exact Paired.snoc r ⟨rfl,hb,ry⟩
theorem KT.keeps {H H':Hp}{kvs:List (List Key×V)}{xs:List (List Key×Addr×An)}(r:KT H kvs xs)(ht:∀b ys,H b=some (.tup ys)->H' b=some (.tup ys)):KT H' kvs xs:=
 Paired.aaU r fun _ _ z=>⟨z.1,ht _ _ z.2.1,z.2.2⟩
section
variable {P:AW}{w:BB}{H:Hp}{h:Heap}{a:Addr}
theorem Zj {u:HO}(ok:HOk P w H h)(e:Rd H a u):d9 P w H h a u:=e.ok ok
theorem Bb {kvs:List (Key×V)}(ok:HOk P w H h)(e:Rd H a (.dK kvs)):kvs.length<=AQ/\(a == EJ)=false/\∃vs,KV kvs vs/\h.DictOf (cP P w) a vs:=
 show d9 P w H h a (.dK kvs) from Zj ok e
theorem Zt {kvs:List (Key×V)}(ok:HOk P w H h)(e:H a=some (.dK kvs)):kvs.length<=AQ/\(a == EJ)=false/\∃vs,KV kvs vs/\h.DictOf (cP P w) a vs:=Bb ok (.inl e)
theorem Af {ks:List Key}(ok:HOk P w H h)(e:H a=some (.tup (ks.map kV))):(Jn (cP P w)).is h ks a:=by
 obtain⟨_,its,r,o,h1,h2,n,h3⟩:=(show d9 P w H h a (.tup (ks.map kV)) from ok a _ e);exact⟨o,its.toArray,n,h1,h2,h3,by simpa using Ds r⟩
theorem DN {kvs:List (List Key×V)}(ok:HOk P w H h)(e:Rd H a (.dT kvs)):kvs.length<=AQ/\(a == EJ)=false /\
  ∃xs,KT H kvs xs/\h.DictOfH (Jn (cP P w)) a xs:=by
 obtain⟨z,y,xs,r,o,es,ep,h1,h2,h3,h4,h5⟩:=(show d9 P w H h a (.dT kvs) from Zj ok e);refine⟨z,y,xs,r,o,es,ep,h1,h2,h3,h4,fun x hx=>?_,h5⟩;have all:∀{l:List (List Key×V)}{m:List (List Key×Addr×An)},KT H l m->∀x∈m,(Jn (cP P w)).is h x.1 x.2.1:=by
  intro l m q
  induction q with
  | nil=>intro x hx;exact nomatch hx
  | @cons p q ps qs hq t ih=>
   intro x hx;rcases AO.mp hx with e|hx
   ·subst e;exact Af ok (by rw[<- hq.1];exact hq.2.1)
   exact ih x hx
 exact all r x hx
theorem aco {kvs:List (List Key×V)}(ok:HOk P w H h)(e:H a=some (.dT kvs)):kvs.length<=AQ/\(a == EJ)=false /\
  ∃xs,KT H kvs xs/\h.DictOfH (Jn (cP P w)) a xs:=DN ok (.inl e)
end
noncomputable def mO (H:Hp)(a:Addr)(y:V)(r:Option V):Prop:=
 (∃kvs k,Rd H a (.dK kvs)/\y=kV k/\r=lN kvs k)\/∃kvs k b,Rd H a (.dT kvs)/\y=.ref b/\H b=some (.tup (k.map kV))/\r=lN kvs k
noncomputable def KY (H:Hp)(a:Addr)(y v:V)(H':Hp):Prop:=
 (∃kvs k,H a=some (.dK kvs)/\y=kV k/\kvs.length<AQ/\H'=upd H a (.dK (putK kvs k v))) \/
 ∃kvs k b,H a=some (.dT kvs)/\y=.ref b/\H b=some (.tup (k.map kV))/\kvs.length<AQ/\H'=upd H a (.dT (putK kvs k v))
theorem mO.k {H:Hp}{a:Addr}{kvs:List (Key×V)}{k:Key}(e:H a=some (.dK kvs)):mO H a (kV k) (lN kvs k):=.inl ⟨kvs,k,.inl e,rfl,rfl⟩
theorem KY.k {H:Hp}{a:Addr}{kvs:List (Key×V)}{k:Key}{v:V}(e:H a=some (.dK kvs))(hl:kvs.length<AQ):KY H a (kV k) v (upd H a (.dK (putK kvs k v))):=.inl ⟨kvs,k,e,rfl,hl,rfl⟩
section
variable {X:Cx}{pins:List (Addr×Obj)}{σ:St}{H:Hp}{s:AA}{a:Addr}{y v:V}{u r:An}{o:Option V}{A:Bi}{E:An->AA->Prop}
theorem Inv.big (I:Inv X pins σ H s):EJ<s.heap.objs.size:=by
 have h:AL<s.heap.objs.size:=(I.mod.glob.keeps I.bk).lt;exact Nat.lt_trans δ h
theorem Qd {Q:An->AA->Prop}(hu:A.units+1<EI)(I:Inv X pins σ H s)(g:mO H a y (some v))(ry:RelV y u)(h:∀w' s',Inv X pins σ H s'->RelV v w'->Q w' s') :
  AK (AN X.prog X.w) A (JA (.ref a) u) Q E s:=by
 rcases g with⟨kvs,k,e,ey,l⟩|⟨kvs,k,b,e,ey,eb,l⟩
 ·subst ey;obtain⟨z,hd,vs,rel,dd⟩:=Bb I.hok e;obtain⟨w',hw,rw'⟩:=wY.some_of (v:=v) (o:=valueAt vs k) (by rw[l];exact rel.val k);exact wpAny_getItem_of (Hs ry) dd.mapOf hw (h w' _ (I.tok _) rw')
 subst ey;cases (show u=An.ref b from ry);obtain⟨z,hd,xs,rel,dd⟩:=DN I.hok e;obtain⟨w',hw,rw'⟩:=wY.some_of (v:=v) (o:=(atKey xs k).map (·.2)) (by rw[l];exact rel.val k);obtain⟨p,hp,hp2⟩:=Cn.mp hw;refine wpAny_getItem_heap (GW hu) (Af I.hok eb) dd hp ?_;rw[hp2];exact h w' _ (I.tok _) rw'
theorem Y0 {Q:An->AA->Prop}(hu:A.units+1<EI)(I:Inv X pins σ H s)(g:mO H a y o)(ry:RelV y u)(h:∀s',Inv X pins σ H s'->Q (.bool (!o.isSome)) s') :
  AK (AN X.prog X.w) A (B0 .NotIn u (.ref a)) Q E s:=by
 rcases g with⟨kvs,k,e,ey,l⟩|⟨kvs,k,b,e,ey,eb,l⟩
 ·subst ey;obtain⟨z,hd,vs,rel,dd⟩:=Bb I.hok e;refine wpAny_notIn_of (Hs ry) hd dd.mapOf ?_;rw[<- (rel.val k).wL,<- l];exact h _ (I.tok _)
 subst ey;cases (show u=An.ref b from ry);obtain⟨z,hd,xs,rel,dd⟩:=DN I.hok e;refine wpAny_notIn_heap (GW hu) (Af I.hok eb) hd dd ?_;have q:=(rel.val k).wL;rw[isSome_map] at q;rw[<- q,<- l];exact h _ (I.tok _)
theorem M4 {h':Heap}{t':Nat}{ob:HO}(I:Inv X pins σ H s)(mu:Mut (H a))(hs:C2 a s.heap h')(he:∃q,h'.get? a=some q)(new:d9 X.prog X.w (upd H a ob) h' a ob) :
  Inv X pins σ (upd H a ob) { s with heap:=h',toks:=t' }:=
 I.write (x:=a) (e:=a) mu (.inl rfl) (fun b q hb z=>(hs.2 b hb).trans z) he new
theorem abk {P:AW}{w:BB}{H':Hp}{h':Heap}{kvs:List (Key×V)}{vs:List (Key×An)}(z:kvs.length<=AQ)(hd:(a == EJ)=false)(rel:KV kvs vs)(dd:h'.DictOf (cP P w) a vs) :
  d9 P w H' h' a (.dK kvs):=⟨z,hd,vs,rel,dd⟩
theorem Qc {H':Hp}{Q:Unit->AA->Prop}(hu:A.units+1<EI)(I:Inv X pins σ H s)(g:KY H a y v H')(ry:RelV y u)(rv:RelV v r)(h:∀s',Inv X pins σ H' s'->Q () s') :
  AK (AN X.prog X.w) A (setItem (.ref a) u r) Q E s:=by
 rcases g with⟨kvs,k,e,ey,l,eH⟩|⟨kvs,k,b,e,ey,eb,l,eH⟩
 ·subst ey eH;obtain⟨z,hd,vs,rel,dd⟩:=Zt I.hok e;have hz:vs.length<=AQ:=by rw[<- rel.length];exact z
  have hl:(putK kvs k v).length<=AQ:=by have:=xR kvs k v;omega
  refine wpAny_setItem_pairs (hsz:=hz) (Hs ry) dd fun h' dd' hs=>h _ ?_;have he:∃q,h'.get? a=some q:=let ⟨q,_,_,hq,_⟩:=dd';⟨q,hq⟩;exact M4 I (by rw[e];exact True.intro) hs he (abk hl hd (rel.put k rv) dd')
 subst ey eH;cases (show u=An.ref b from ry);obtain⟨z,hd,xs,rel,dd⟩:=aco I.hok e;have hz:xs.length<=AQ:=by rw[<- Kj rel];exact z
 have hl:(putK kvs k v).length<=AQ:=by have:=xR kvs k v;omega
 refine wpAny_setItem_heap (hsz:=hz) (GW hu) (Af I.hok eb) dd fun h' dd' hs=>h _ ?_;obtain⟨q,es,ep,hq,h2,h3,h4,_,h5⟩:=dd';refine M4 I (by rw[e];exact True.intro) hs ⟨q,hq⟩ ⟨hl,hd,_,(rel.put k eb rv).keeps fun c ys ec=>?_,q,es,ep,hq,h2,h3,h4,h5⟩;rw[aH (acd ec e (fun z=>nomatch z))];exact ec
end
section
variable {X:Cx}{pins:List (Addr×Obj)}{σ:St}{H:Hp}{s:AA}{a:Addr}{kvs:List (Key×V)}{k:Key}{u:An}{A:Bi}{E:An->AA->Prop}
theorem acp {Q:An->AA->Prop}(I:Inv X pins σ H s) (e:Rd H a (.dK kvs)) (h:∀t s',Inv X pins σ H s'->Q (.int kvs.length t) s'):AK (AN X.prog X.w) A (call (.builtin "len") [.ref a]) Q E s:=by
 obtain⟨z,hd,vs,rel,dd⟩:=Bb I.hok e;refine call_len_dict hd dd (by rw[<- rel.length];rw[EZ] at z;omega) ?_;rw[<- rel.length];exact h _ _ (I.tok _)
end
noncomputable def abA (i:Expr):Prop:=∀ov iv,subscripted i false ov iv=operate [ov,iv] (JA ov iv)
theorem Wo {prog:AW}{w:BB}{A:Bi}{E:An->AA->Prop}{s:AA}{env:Env}{value slice:Expr}{pos:Pos}{T id:String}{Q:An->AA->Prop}
  (hl:GM (.type T) "__getitem__" = pure (some (.builtin id))) (hs:abA slice)
  (h:AK (AN prog w) A (eval value env) (fun o s₁=>AK (AN prog w) A (eval slice env) (fun i s₂=>s₂.TypeIs o T/\AK (AN prog w) A (JA o i) Q E s₂) E s₁) E s) :
  AK (AN prog w) A (eval (.Subscript value slice pos) env) Q E s:=by
 refine Subscript_ (B5 h (fun o s₁ h₁=>B5 h₁ (fun i s₂ h₂=>?_) fun _ _ x=>x) fun _ _ x=>x);obtain⟨hT,h₂⟩:=h₂;unfold subscriptTail;refine Ap ?_;rw[getitemInPython_of_ne hT.not_modules];refine Ap (wpAny_specialOf hT hl ?_);have fin:AK (AN prog w) A (subscripted slice false o i) (fun r s₃=>AK (AN prog w) A (letTemporaryGo value o r >>= fun _=>pure r) Q E s₃) E s₂:=by
  rw[hs o i];exact wpAny_operating (B5 h₂ (fun r s₃ h₃=>Ap (wpAny_letTemporaryGo (AE h₃))) fun _ _ x=>x)
 first
  | exact AE (Ap fin)
  | exact Ap (AE (Ap fin))
  | exact Ap fin
theorem Ib {X:Cx}{pins:List (Addr×Obj)}{σ:St}{H:Hp}{s:AA}{a:Addr}{y:V}{o:Option V}(I:Inv X pins σ H s) (g:mO H a y o):s.TypeIs (.ref a) "dict" := by
 rcases g with⟨kvs,k,e,_,_⟩|⟨kvs,k,b,e,_,_,_⟩
 ·obtain⟨_,_,vs,_,dd⟩:=Bb I.hok e;exact dd.typeIs
 obtain⟨_,_,xs,_,dd⟩:=DN I.hok e;exact dd.typeIs
noncomputable def abG (td ty:TE):TE:=fun σ H Q=>td σ H fun x H1=>ty σ H1 fun y H2=>∃a v,x=.ref a/\mO H2 a y (some v)/\Q v H2
noncomputable def Wm (ty td:TE):TE:=fun σ H Q=>ty σ H fun y H1=>td σ H1 fun x H2=>∃a o,x=.ref a/\mO H2 a y o/\Q (.bl (!o.isSome)) H2
noncomputable def abK (td ty tv:TE):TS:=fun D σ H=>tv σ H fun v H1=>td σ H1 fun x H2=>ty σ H2 fun y H3=>∃a H4,x=.ref a/\KY H3 a y v H4/\D.nx σ H4
section
variable {X:Cx}{o i e value:Expr}{pos pos' tpos:Pos}{td ty tv:TE}
theorem XQ (hu:X.A.units+1<EI)(ho:PE X o td)(hi:PE X i ty)(hs:abA i):PE X (.Subscript o i pos) (abG td ty):=by
 intro pins s σ H Q I h;refine Wo PySem.F.slot_dict_getitem.lookup hs (thE (ho pins s σ H _ I h) fun u s1 x H1 I1 rx q1=>thn (hi pins s1 σ H1 _ I1 q1) fun iv s2 ⟨y,H2,I2,ry,a,v,ex,g,q2⟩=>?_);subst ex;obtain rfl:u=An.ref a:=rx;exact⟨Ib I2 g,Qd hu I2 g ry fun w' s3 I3 rw'=>⟨v,H2,I3,rw',q2⟩⟩
theorem Ot (hu:X.A.units+1<EI)(hi:PE X i ty)(ho:PE X o td):PC X .NotIn i o (Wm ty td):=by
 intro pins s σ H Q I h;refine thE (hi pins s σ H _ I h) fun iv s1 y H1 I1 ry q1=>thn (ho pins s1 σ H1 _ I1 q1) fun u s2 ⟨x,H2,I2,rx,a,ov,ex,g,q2⟩=>?_;subst ex;obtain rfl:u=An.ref a:=rx;exact Y0 hu I2 g ry fun s3 I3=>⟨.bl (!ov.isSome),H2,I3,rfl,q2⟩
theorem Xm (hu:X.A.units+1<EI)(ho:PE X o td)(hi:PE X i ty)(hv:PE X value tv)(hs:FO value (some (.Subscript o i pos')) pos.line X.env=pure false) :
  PS X (.Assign [.Subscript o i pos'] value pos) (abK td ty tv):=by
 intro pins s σ H D I h;refine wpAny_Assign_Subscript (thE (hv pins s σ H _ I h) fun r s1 v H1 I1 rv q1=>thE (ho pins s1 σ H1 _ I1 q1) fun u s2 x H2 I2 rx q2=>thn (hi pins s2 σ H2 _ I2 q2) fun iv s3 ⟨y,H3,I3,ry,a,H4,ex,g,q3⟩=>?_) hs;subst ex;obtain rfl:u=An.ref a:=rx;exact Qc hu I3 g ry rv fun s4 I4=>⟨σ,H4,I4,q3⟩
end
theorem Vp {P:AW}{w:BB}{H:Hp}(h:Heap) (hb:EJ<h.objs.size):d9 P w H (h.push { cls:=.type "dict",data:=.dict #[] }) h.objs.size (.dK []):=
 ⟨DL _,beq_eq_false_iff_ne.mpr (Ch (BO hb)),[],.nil,Heap.DictOf.new h⟩
noncomputable def Ek:TE:=fun _ H Q=>∀p,H p=none->Q (.ref p) (upd H p (.dK []))
section
variable {X:Cx}{pos:Pos}
theorem Tw:PE X (.Dict [] [] pos) Ek:=fun pins s σ H Q I h=>
 wpAny_Dict_empty ⟨.ref s.heap.objs.size,_,I.laid (a:=s.heap.objs.size) (o:=.dK []) (t':=s.toks) (fun _ _ q=>AF _ q) (A6 _) (Vp s.heap I.big),rfl,h _ (I.hok.fresh (A6 _))⟩
end
structure M1 (X:Cx)(o:Expr)(m:Str)(apos:Pos)(e:Expr)(cpos:Pos):Prop where
 base:DC o m X.env (eval o X.env)=eval o X.env
 few:((CA cpos (AJ [e] X.env)).all (fun x=>!x.1)&&(EE cpos (C6 [] X.env)).all (fun x=>x.1.isSome)
  && decide (([e]:List Expr).length+([]:List FC).length+(if ([]:List FC).isEmpty then 0 else 1)<30))=true
 line:(apos.endLine == cpos.line)=true
 trees:CA cpos (AJ [e] X.env)=[(false,eval e X.env)]
noncomputable def IsD (H:Hp)(a:Addr):Prop:=(∃kvs,Rd H a (.dK kvs))\/∃kvs,Rd H a (.dT kvs)
theorem abb {X:Cx}{pins:List (Addr×Obj)}{σ:St}{H:Hp}{s:AA}{a:Addr}(I:Inv X pins σ H s)(d:IsD H a) :
  s.TypeIs (.ref a) "dict" /\ (∀b,An.ref a=.ref b->∃ob,s.heap.get? b=some ob/\ob.dict=none)/\(a == EJ)=false:=by
 rcases d with⟨kvs,e⟩|⟨kvs,e⟩
 ·obtain⟨_,hd,vs,_,dd⟩:=Bb I.hok e;refine⟨dd.typeIs,fun b q=>?_,hd⟩;cases q;obtain⟨ob,_,_,h1,h2,_⟩:=dd;exact⟨ob,h1,h2.2.1⟩
 obtain⟨_,hd,xs,_,dd⟩:=DN I.hok e;refine⟨dd.typeIs,fun b q=>?_,hd⟩;cases q;obtain⟨ob,_,_,h1,h2,_⟩:=dd;exact⟨ob,h1,h2.2.1⟩
section
variable {X:Cx}{pins:List (Addr×Obj)}{σ:St}{H:Hp}{s:AA}{a:Addr}{y d:V}{u r:An}{o:Option V}{A:Bi}{E:An->AA->Prop}
theorem abl {Q:An->AA->Prop}(hu:A.units+1<EI)(I:Inv X pins σ H s)(g:mO H a y o)(ry:RelV y u)(h:∀w' s',Inv X pins σ H s'->RelV (o.getD .non) w'->Q w' s') :
  AK (AN X.prog X.w) A (call (.builtin "dict.get") [.ref a,u]) Q E s:=by
 rcases g with⟨kvs,k,e,ey,l⟩|⟨kvs,k,b,e,ey,eb,l⟩
 ·subst ey;obtain⟨z,hd,vs,rel,dd⟩:=Bb I.hok e;refine call_meetsIn IC dd.typeIs PySem.F.entry_dict_get (PySem.F.args_dict_get_2 _ _) (meets_dict_get (cP X.prog X.w) a (Hs ry) hd) ⟨_,dd.mapOf,h _ _ (I.tok _) ?_⟩;rw[l];exact(rel.val k).getD rfl
 subst ey;cases (show u=An.ref b from ry);obtain⟨z,hd,xs,rel,dd⟩:=DN I.hok e;refine call_meetsIn IC dd.typeIs PySem.F.entry_dict_get (PySem.F.args_dict_get_2 _ _) (meetsH_dict_get (Jn (cP X.prog X.w)) a b hd) ⟨GW hu,k,xs,Af I.hok eb,dd,h _ _ (I.tok _) ?_⟩;rw[l];exact(rel.val k).getD rfl
end
noncomputable def Jh (td ty:TE):TE:=fun σ H Q=>td σ H fun x H1=>∃a,x=.ref a/\IsD H1 a/\ty σ H1 fun y H2=>∃o,mO H2 a y o/\Q (o.getD .non) H2
section
variable {X:Cx}{o e f:Expr}{apos cpos:Pos}{td ty tx:TE}
theorem Tz (hu:X.A.units+1<EI) (ho:PE X o td) (he:PE X e ty) (m:M1 X o "get" apos e cpos):PE X (.Call (.Attribute o "get" apos) [e] [] cpos) (Jh td ty):=by
 intro pins s σ H Q I h;refine wpAny_Call_method m.base m.few m.line PySem.F.plainAttrs_dict IC PySem.F.type_dict_get (thn (ho pins s σ H _ I h) fun u s1 ⟨x,H1,I1,rx,a,ex,d,q1⟩=>?_);subst ex;obtain rfl:u=An.ref a:=rx;obtain⟨t1,t2,_⟩:=abb I1 d;refine⟨t1,t2,?_⟩;rw[m.trees];refine EN rfl (E6 (EL (thn (he pins s1 σ H1 _ I1 q1) fun iv s2 ⟨y,H2,I2,ry,ov,g,q2⟩=>EV ?_)));exact abl hu I2 g ry fun w' s3 I3 rw'=>⟨_,H2,I3,rw',q2⟩
end
theorem gh.pF {k:Nat}{A:Bi}(r:gh k A):A.units+1<EI:=by have:=r.un;omega
theorem gh.un1 {k:Nat}{A:Bi}(r:gh k A):A.in1.units<EI:=by
 have:=r.un;show A.units+1<EI;omega
section
variable {X:Cx}{pos:Pos}
noncomputable def acH:R2:=fun x y H Q=>∃(p:Addr)(ws:List Str)(d:Bz)(ok:Addr->Prop),y=.ref p/\H p=some (.tup (ws.map V.str))/\aK ok H x d/\Q (.bl (ws.any (oG d))) H
theorem JB (hu:X.A.in1.units<EI):OpR X (B0 .In) acH:=by
 intro pins s σ H x y v u Q I rx ry h;obtain⟨p,ws,d,ok,rfl,e,t,q⟩:=h;cases ry;obtain⟨its,r,pl,hz⟩:=I.tuple (SqT.of e);have key:∀u∈its,∃y t,u=An.str y t:=fun u hu=>by
  obtain⟨j,hj,ej⟩:=IM.mp hu;have hl:=r.length;have hx:(ws.map V.str)[j]?=some (ws.map V.str)[j]:=AC ω;obtain⟨u',hu',ru⟩:=r.get hx;rw[AC hj,ej] at hu';cases hu';rw[List.getElem_map] at ru;obtain⟨t,e⟩:=ru;exact⟨_,t,e⟩
 let g:An->Bool:=fun u=>match u with | .str y _=>oG d y|_=>false
 refine SeqAt.in_tupleAt g pl (fun w hw=>?_) ⟨.bl _,H,I,rfl,?_⟩
 ·obtain⟨y,t',rfl⟩:=key w (by simpa using hw);cases t with
  | non=>cases rx;exact BM.str_none y t'
  | bl b=>cases rx;exact BM.str_bool y t' b
  | int i=>obtain⟨t2,rfl⟩:=rx;exact BM.str_int y t' i t2
  | str z=>
   obtain⟨t2,rfl⟩:=rx;have h2:=BM.str_str (A:=X.A.in1) (s:=s) y t' z t2;have e3:(y == z)=oG (.str z) y:=by
    show(y == z)=decide (z=y);rw[Bool.beq_eq_decide_eq];exact decide_eq_decide.mpr ⟨Eq.symm,Eq.symm⟩
   rw[e3] at h2;exact h2
  | lst o e1 z1 ts=>
   cases rx;obtain⟨its1,r1,pl1,hz1⟩:=I.list (SqL.of e1);exact BM.str_list y t' pl1.isList hu
  | tup o e1 z1 ts=>
   cases rx;obtain⟨its1,r1,pl1,hz1⟩:=I.tuple (SqT.of e1);exact BM.str_tuple y t' pl1 hu
 have:∀(ws:List Str)(its:List An),Vals (ws.map V.str) its->its.any g=ws.any (oG d):=by
  intro ws
  induction ws with
  | nil=>intro its r;cases r;rfl
  | cons a ws ih=>
   intro its r;cases r with
   | cons r1 r2=>
    obtain⟨t1,rfl⟩:=r1;rw[II,II,ih _ r2]
 rw[show its.toArray.any g=its.any g by simp,this ws its r];exact q
end
noncomputable def Ym:Bz->Int
 | .int i=>i
 | _=>0
noncomputable def sV (w:Str):List Int->Bool
 | [a]=>decide (w = "pick")&&decide (0<=a)
 | [_,_]=>decide (w = "is")||decide (w = "below")
 | [a,b,_]=>decide (w = "within")&&decide (a<=b)
 | [_,wd,bits,_]=>decide (w = "mask")&&((decide (1<=wd)&&decide (wd<=64))&&(decide (0<=bits)&&decide (bits<2^wd.toNat)))
 | _=>false
noncomputable def Zo (is:List Int):List Int:=match is.getLast? with
 | some t=>[t]
 | none=>[]
noncomputable def Du (w:Str) (is:List Int):List Int:=if w = "pick" then [] else Zo is
noncomputable def Q7:List Bz->Option (List Bz)
 | [.int _,.tuple gs]=>if (!gs.isEmpty&&gs.all wN)=true then some gs else none
 | _=>none
noncomputable def nU:Bz->Bool
 | .tuple (.str w::ps)=>if w = "table" then (Q7 ps).isSome else ps.all wN&&sV w (ps.map Ym)
 | _=>false
noncomputable def tY:Bz->List Int
 | .tuple (.str w::ps)=>if w = "table" then ((Q7 ps).getD []).map Ym else Du w (ps.map Ym)
 | _=>[]
noncomputable def btw (own many:Int)(t:Int):Bool:=decide (own<t)&&decide (t<many)
noncomputable def yZ (own many:Int)(d:Bz):Bool:=nU d&&(tY d).all (btw own many)
noncomputable def pL (many:Int):Nat->List Bz->Bool
 | _,[]=>true
 | i,d::ds=>yZ i many d&&pL many (i+1) ds
noncomputable def yM:Bz->Bool
 | .list ds=>!ds.isEmpty&&pL ds.length 0 ds
 | _=>false
theorem aO.ints {ok:Addr->Prop}{H:Hp}:∀{xs:List V}{is:List Int},aO ok H xs (is.map Bz.int)->xs=is.map V.int
 | _,[],.nil=>rfl
 | _,i::is,.cons h r=>by
  cases h;rw[r.ints];rfl
theorem Ck {ok:Addr->Prop}{H:Hp}:∀(is:List Int),aO ok H (is.map V.int) (is.map Bz.int)
 | []=>.nil
 | i::is=>.cons (.int i) (Ck is)
theorem Zc {p:Prop}[Decidable p]{b:Bool}(h:¬p):(decide p&&b)=false:=by rw[decide_eq_false h,Bool.false_and]
theorem acW {p:Prop}[Decidable p]{b:Bool}(h:p):(decide p&&b)=b:=by rw[decide_eq_true h,F4]
theorem zB (is:List Int):(is.map Bz.int).map Ym=is:=by
 rw[GH];exact(JY fun a _=>rfl).trans (List.map_id is)
theorem wM (is:List Int):(is.map Bz.int).all wN=true:=by
 rw[E4];intro d hd;obtain⟨i,_,rfl⟩:=DE.mp hd;rfl
theorem lD {w:Str}{is:List Int}{t:Int}(h:w ≠ "pick") (hl:is.getLast?=some t):Du w is=[t]:=by
 unfold Du Zo;rw[if_neg h,hl]
theorem rO {w:Str}(h:w = "is" \/ w = "below") (is:List Int):sV w is=decide (is.length=2):=by
 have h3:decide (w = "pick")=false:=decide_eq_false (by rcases h with rfl|rfl <;> decide +kernel)
 have h4:decide (w = "within")=false:=decide_eq_false (by rcases h with rfl|rfl <;> decide +kernel)
 have h5:decide (w = "mask")=false:=decide_eq_false (by rcases h with rfl|rfl <;> decide +kernel)
 match is with
 | []=>rfl
 | [a]=>show(decide (w = "pick")&&_)=_;rw[h3];rfl
 | [a,b]=>
  show(decide (w = "is")||decide (w = "below"))=true;rcases h with z|z
  ·rw[decide_eq_true z,Bool.true_or]
  rw[decide_eq_true z,HQ]
 | [a,b,c]=>show(decide (w = "within")&&_)=_;rw[h4];rfl
 | [a,b,c,d]=>show(decide (w = "mask")&&_)=_;rw[h5];rfl
 | a::b::c::d::e::r=>show false=decide (r.length+5=2);exact(decide_eq_false ω).symm
theorem uF (is:List Int):sV "within" is=(match is with | [a,b,_]=>decide (a<=b)|_=>false):=by
 match is with
 | []=>rfl
 | [a]=>exact Zc (p:=("within" : Str) = "pick") (b:=decide (0<=a)) ψ
 | [a,b]=>exact(by decide +kernel:(decide (("within" : Str) = "is")||decide (("within" : Str) = "below"))=false)
 | [a,b,c]=>show(decide (("within" : Str) = "within")&&decide (a<=b))=decide (a<=b);rw[decide_eq_true rfl,F4]
 | [a,b,c,d]=>exact Zc (p:=("within" : Str) = "mask") (b:=(decide (1<=b)&&decide (b<=64))&&(decide (0<=c)&&decide (c<2^b.toNat))) ψ
 | a::b::c::d::e::r=>rfl
theorem Jl (is:List Int):sV "mask" is=(match is with | [_,wd,bits,_]=>(decide (1<=wd)&&decide (wd<=64))&&(decide (0<=bits)&&decide (bits<2^wd.toNat))|_=>false):=by
 match is with
 | []=>rfl
 | [a]=>exact Zc (p:=("mask" : Str) = "pick") (b:=decide (0<=a)) ψ
 | [a,b]=>exact(by decide +kernel:(decide (("mask" : Str) = "is")||decide (("mask" : Str) = "below"))=false)
 | [a,b,c]=>exact Zc (p:=("mask" : Str) = "within") (b:=decide (a<=b)) ψ
 | [a,b,c,d]=>exact acW (p:=("mask" : Str) = "mask") (b:=(decide (1<=b)&&decide (b<=64))&&(decide (0<=c)&&decide (c<2^b.toNat))) rfl
 | a::b::c::d::e::r=>rfl
theorem uN (many:Int):∀(ds:List Bz)(k:Nat),pL many k ds=true ↔ ∀(j:Nat) d,ds[j]?=some d->yZ ((k+j:Nat):Int) many d=true
 | [],k=>⟨fun _ j d h=>(by cases h),fun _=>rfl⟩
 | x::ds,k=>by
  show(yZ k many x&&pL many (k+1) ds)=true↔_;rw[Cc,uN many ds (k+1)];constructor
  ·rintro⟨h1,h2⟩ j d hd;cases j with
   | zero=>cases hd;exact h1
   | succ j=>
    have:=h2 j d hd;rw[show k+1+j=k+(j+1) by omega] at this;exact this
  intro h;refine⟨h 0 x rfl,fun j d hd=>?_⟩;have:=h (j+1) d hd;rw[show k+(j+1)=k+1+j by omega] at this;exact this
theorem xJ:(("is" : Str) = "below")=False:=eq_false ψ
theorem zA:(("is" : Str) = "mask")=False:=eq_false ψ
theorem JG:(("is" : Str) = "pick")=False:=eq_false ψ
theorem xH:(("is" : Str) = "table")=False:=eq_false ψ
theorem EY:(("within" : Str) = "is")=False:=eq_false ψ
theorem oR:(("within" : Str) = "below")=False:=eq_false ψ
theorem pR:(("within" : Str) = "mask")=False:=eq_false ψ
theorem zu:(("within" : Str) = "pick")=False:=eq_false ψ
theorem oO:(("within" : Str) = "table")=False:=eq_false ψ
theorem GQ:(("below" : Str) = "is")=False:=eq_false ψ
theorem ye:(("below" : Str) = "within")=False:=eq_false ψ
theorem Bu:(("below" : Str) = "mask")=False:=eq_false ψ
theorem Bt:(("below" : Str) = "pick")=False:=eq_false ψ
theorem pW:(("below" : Str) = "table")=False:=eq_false ψ
theorem JF:(("mask" : Str) = "is")=False:=eq_false ψ
theorem zx:(("mask" : Str) = "within")=False:=eq_false ψ
theorem rW:(("mask" : Str) = "below")=False:=eq_false ψ
theorem Fb:(("mask" : Str) = "pick")=False:=eq_false ψ
theorem rT:(("mask" : Str) = "table")=False:=eq_false ψ
theorem rR:(("pick" : Str) = "below")=False:=eq_false ψ
theorem uT:(("pick" : Str) = "mask")=False:=eq_false ψ
theorem Bs:(("pick" : Str) = "table")=False:=eq_false ψ
theorem pU:(("table" : Str) = "below")=False:=eq_false ψ
theorem rQ:(("table" : Str) = "mask")=False:=eq_false ψ
theorem Br:(("table" : Str) = "pick")=False:=eq_false ψ
noncomputable def rdW:=AB @xJ (AB @zA (AB @xH (AB @EY (AB @oR (AB @pR (AB @oO (AB @GQ (AB @ye (AB @pW (AB @JF (AB @zx (AB @rW (AB @rT (AB @rR (AB @uT (AB @pU @rQ))))))))))))))))
theorem Mw {K:AD}{a:Addr}{xs:List V}{g:TG}{tb:TS}{D:Ends}{σ:St}{H:Hp}{R:It->Hp->Prop}(hR:R=(fun J H1=>∃W:Nat->Nat->St->Hp->Prop,(∃m,W 0 m σ H1)/\∀i m σ H,W i m σ H ->
  (J.stop i H/\D.nx σ H)\/(J.go i H/\∃N:St->Hp->Prop,(∀σ' H',N σ' H'->∃m',m'<m/\W (i+1) m' σ' H')/\∀x H',J.yld i H x H'->g x σ H' fun σ2 H2=>tb { D with nx:=N,ct:=N,bk:=D.nx } σ2 H2)))
  (Pv:Nat->St->Hp->Prop) (h0:Pv 0 σ H) (hl:∀i σ H,Pv i σ H->H a=some (.lst xs))
  (hs:∀(i:Nat) x σ H p,xs[i]?=some x->Pv i σ H->H p=none->g (.ref p) σ (upd H p (.tup [.int (i:Nat),x])) fun σ2 H2=>tb { D with nx:=Pv (i+1),ct:=Pv (i+1),bk:=D.nx } σ2 H2) (hd:∀σ H,Pv xs.length σ H->D.nx σ H):R (Ite K a) H:=by
 refine Ko hR xs.length Pv h0 (fun i σ H hi p=>?_) (fun σ H p=>?_) (fun i σ H x H3 hi p y=>?_) hd
 ·exact⟨xs,_,SqL.of (hl i σ H p),AC hi⟩
 ·exact⟨xs,SqL.of (hl _ σ H p),EG (A6 _)⟩
 obtain⟨q,x1,rfl,hq,rfl,hx⟩:=y;exact hs i x1 σ H q (hx _ (SqL.of (hl i σ H p))) p hq
theorem Gx {w:Str}{is:List Int}(h:w ≠ "table"):nU (.tuple (.str w::is.map Bz.int))=sV w is:=by
 unfold nU;simp only[if_neg h,wM,zB,F4]
theorem Em (ps:List Bz):nU (.tuple (.str "table" :: ps))=(Q7 ps).isSome:=by
 unfold nU;simp only[if_true]
theorem mQ {H:Hp}{l p:Addr}{o:HO}(h:upd H l o p=none):H p=none/\p≠l:=by
 have hp:p≠l:=fun z=>by rw[z,au] at h;cases h
 rw[aH hp] at h;exact⟨h,hp⟩
theorem Same.none {H H':Hp}(s:Same H H'){p:Addr}(h:H' p=none):H p=none:=by
 cases e:H p with
 | none=>rfl
 | some o=>rw[s _ _ e] at h;cases h
theorem Q6 (n:Int)(gs:List Bz):(Q7 [.int n,.tuple gs]).isSome=(!gs.isEmpty&&gs.all wN):=by
 show(if (!gs.isEmpty&&gs.all wN)=true then some gs else none).isSome=_;cases (!gs.isEmpty&&gs.all wN) <;> rfl
theorem J5 {ds:List Bz}(h:ds≠[]):yM (.list ds)=true ↔ ∀(j:Nat) d,ds[j]?=some d->nU d=true/\(tY d).all (btw j ds.length)=true:=by
 have e:yM (.list ds)=pL ds.length 0 ds:=by
  cases ds with
  | nil=>exact absurd rfl h
  | cons a b=>exact F4 _
 rw[e,uN];constructor
 ·intro hh j d hd;have:=hh j d hd;rw[FF] at this;unfold yZ at this;rw[Cc] at this;exact this
 intro hh j d hd;rw[FF];unfold yZ;rw[Cc];exact hh j d hd
inductive ac0 where
 | ins (w:Str) (is:List Int)
 | tab (n:Int) (gs:List Int)
noncomputable def acy (many own:Int):ac0->Prop
 | .ins w is=>w ≠ "table" /\ sV w is=true/\(Du w is).all (btw own many)=true/\(∀i∈is,i.natAbs<=2^64)/\is.length<=4/\w.length<=10
 | .tab n gs=>gs≠[]/\gs.length<=200/\gs.all (btw own many)=true/\n.natAbs<=1000
theorem CJ {m o a b t:Int}(hab:a<=b) (h1:a.natAbs<=2^64) (h2:b.natAbs<=2^64) (h3:t.natAbs<=2^64) (h:btw o m t=true):acy m o (.ins "within" [a,b,t]):=
 ⟨ψ,by rw[uF];exact decide_eq_true hab,by rw[lD ψ (show [a,b,t].getLast?=some t from rfl)];simp [h],by simp [h1,h2,h3],by simp,ψ⟩
mutual
noncomputable def szB:Bz->Bool
 | .none=>true
 | .bool _=>true
 | .int i=>decide (i.natAbs<=10^20)
 | .str x=>decide (x.length<=30)&&x.cps.toList.all fun c=>decide (c<16^8)
 | .list ds=>decide (ds.length<=210)&&ZL ds
 | .tuple ds=>decide (ds.length<=210)&&ZL ds
 | .dict _=>false
noncomputable def ZL:List Bz->Bool
 | []=>true
 | d::ds=>szB d&&ZL ds
end
inductive RowC where
 | one (n t:Int)
 | rng (a b t:Int)
 | low (n t:Int)
 | msk (lo wd bits t:Int)
 | tab (lo:Int) (gs:List Int)
 | pik (l:Int)
noncomputable def gH:RowC->Bz
 | .one n t=>.tuple [.str "is",.int n,.int t]
 | .rng a b t=>.tuple [.str "within",.int a,.int b,.int t]
 | .low n t=>.tuple [.str "below",.int n,.int t]
 | .msk lo wd bits t=>.tuple [.str "mask",.int lo,.int wd,.int bits,.int t]
 | .tab lo gs=>.tuple [.str "table",.int lo,.tuple (gs.map Bz.int)]
 | .pik l=>.tuple [.str "pick",.int l]
noncomputable def qG (m o:Int):RowC->Prop
 | .one _ t=>btw o m t=true
 | .rng _ _ t=>btw o m t=true
 | .low _ t=>btw o m t=true
 | .msk _ wd bits t=>btw o m t=true/\1<=wd/\wd<=64/\0<=bits
 | .tab _ gs=>gs.all (btw o m)=true
 | .pik _=>True
noncomputable def d7:RowC->Bool
 | .pik _=>true
 | _=>false
noncomputable def bitAt (bits place:Int):Bool:=decide (A7.bitAnd (bits/2^place.toNat) 1=1)
noncomputable def cF (c:RowC)(o n:Int):Option Int:=match c with
 | .one a t=>some (if n=a then t else o+1)
 | .rng a b t=>some (if a<=n/\n<=b then t else o+1)
 | .low a t=>some (if n<a then t else o+1)
 | .msk lo wd bits t=>if 0<=n-lo/\n-lo<wd then some (if bitAt bits (n-lo)=true then t else o+1) else none
 | .tab lo gs=>if 0<=n-lo/\n-lo<gs.length then gs[(n-lo).toNat]? else none
 | .pik _=>none
noncomputable def fj (cs:List RowC):Prop:=1<=cs.length/\∀(j:Nat) c,cs[j]?=some c->qG cs.length j c
theorem mU {cs:List RowC}(h:fj cs){j:Nat}{c:RowC}(hc:cs[j]?=some c){n t:Int}(ht:cF c j n=some t):(j:Int)<t/\t<cs.length:=by
 have hl:=(AG.mp hc).1;have hk:=h.2 j c hc;have bt:∀{t:Int},btw (j:Int) cs.length t=true->(j:Int)<t/\t<cs.length:=fun {t} hb=>by
  unfold btw at hb;rwa [Cc,decide_eq_true_eq,decide_eq_true_eq] at hb
 have nx:d7 c=false->(j:Int)+1<cs.length:=fun hp=>by
  have key:∀{t:Int},btw (j:Int) cs.length t=true->(j:Int)+1<cs.length:=fun {t} hb=>by have:=bt hb;omega
  cases c with
  | one a t=>exact key hk
  | rng a b t=>exact key hk
  | low a t=>exact key hk
  | msk lo wd bits t=>exact key hk.1
  | tab lo gs=>
   have h2:(if 0<=n-lo/\n-lo<gs.length then gs[(n-lo).toNat]? else none)=some t:=ht;split at h2
   ·exact key (E4.mp hk t (A2 h2))
   cases h2
  | pik l=>cases hp
 cases c with
 | one a t'=>
  have h2:some (if n=a then t' else (j:Int)+1)=some t:=ht;split at h2 <;> cases h2
  ·exact bt hk
  exact⟨ω,nx rfl⟩
 | rng a b t'=>
  have h2:some (if a<=n/\n<=b then t' else (j:Int)+1)=some t:=ht;split at h2 <;> cases h2
  ·exact bt hk
  exact⟨ω,nx rfl⟩
 | low a t'=>
  have h2:some (if n<a then t' else (j:Int)+1)=some t:=ht;split at h2 <;> cases h2
  ·exact bt hk
  exact⟨ω,nx rfl⟩
 | msk lo wd bits t'=>
  have h2:(if 0<=n-lo/\n-lo<wd then some (if bitAt bits (n-lo)=true then t' else (j:Int)+1) else none)=some t:=ht;split at h2
  ·split at h2 <;> cases h2
   ·exact bt hk.1
   exact⟨ω,nx rfl⟩
  cases h2
 | tab lo gs=>
  have h2:(if 0<=n-lo/\n-lo<gs.length then gs[(n-lo).toNat]? else none)=some t:=ht;split at h2
  ·exact bt (E4.mp hk t (A2 h2))
  cases h2
 | pik l=>cases ht
noncomputable def runC (cs:List RowC)(n:Int):Nat->Int->Option Int×List Int
 | 0,a=>(none,[a])
 | k+1,a=>match cs[a.toNat]? with
  | some (.pik l)=>(some l,[a])
  | some c=>match cF c a n with
   | none=>(none,[a])
   | some t=>((runC cs n k t).1,a::(runC cs n k t).2)
  | none=>(none,[a])
theorem pK {cs:List RowC}{n:Int}{k:Nat}{a l:Int}(h:cs[a.toNat]?=some (.pik l)):runC cs n (k+1) a=(some l,[a]):=by
 show(match cs[a.toNat]? with|some (.pik l)=>_|some c=>_|none=>_)=_
 rw[h]
theorem uM {cs:List RowC}{n:Int}{k:Nat}{a:Int}{c:RowC}{t:Int}(h:cs[a.toNat]?=some c)(hp:d7 c=false)(ht:cF c a n=some t):runC cs n (k+1) a=((runC cs n k t).1,a::(runC cs n k t).2):=by
 show(match cs[a.toNat]? with|some (.pik l)=>_|some c=>_|none=>_)=_
 rw[h];cases c with
 | pik l=>cases hp
 | _=>simp only[ht]
theorem yI {cs:List RowC}{n:Int}{k:Nat}{a:Int}{c:RowC}(h:cs[a.toNat]?=some c)(hp:d7 c=false)(ht:cF c a n=none):runC cs n (k+1) a=(none,[a]):=by
 show(match cs[a.toNat]? with|some (.pik l)=>_|some c=>_|none=>_)=_
 rw[h];cases c with
 | pik l=>cases hp
 | _=>simp only[ht]
noncomputable def runOf (cs:List RowC)(n:Int):Option Int×List Int:=runC cs n cs.length 0
noncomputable def gB:RowC->Addr->List V
 | .one n t,_=>[.str "is",.int n,.int t]
 | .rng a b t,_=>[.str "within",.int a,.int b,.int t]
 | .low n t,_=>[.str "below",.int n,.int t]
 | .msk lo wd bits t,_=>[.str "mask",.int lo,.int wd,.int bits,.int t]
 | .tab lo _,g=>[.str "table",.int lo,.ref g]
 | .pik l,_=>[.str "pick",.int l]
noncomputable def qH (H:Hp)(x:V)(c:RowC):Prop:=∃a g,x=.ref a/\H a=some (.tup (gB c g))/\∀lo gs,c=.tab lo gs->H g=some (.tup (gs.map V.int))
noncomputable def scV:Bz->Option V
 | .int i=>some (.int i)
 | .str z=>some (.str z)
 | _=>none
theorem aK.sc {ok:Addr->Prop}{H:Hp}{x v:V}{d:Bz}(t:aK ok H x d)(h:scV d=some v):x=v:=by
 cases t with
 | int i=>exact AV h
 | str z=>exact AV h
 | _=>cases h
theorem aO.sc {ok:Addr->Prop}{H:Hp}:∀{xs vs:List V}{ds:List Bz},aO ok H xs ds->ds.map scV=vs.map some->xs=vs
 | _,[],_,.nil,_=>rfl
 | _,v::vs,_,.nil,h=>by cases h
 | _,[],_,.cons _ _,h=>by cases h
 | _,v::vs,_,.cons t ts,h=>by
  rw[Dx,Dx] at h;injection h with h1 h2;rw[t.sc h1,ts.sc h2]
theorem aO.IK {ok:Addr->Prop}{H:Hp}{xs:List V}{d:Bz}{ds:List Bz}(t:aO ok H xs (d::ds)):∃x r,xs=x::r/\aK ok H x d/\aO ok H r ds:=by
 cases t with
 | cons h r=>exact⟨_,_,rfl,h,r⟩
theorem aK.yP {ok:Addr->Prop}{H:Hp}{x:V}{ds:List Bz}(t:aK ok H x (.tuple ds)):∃p xs,x=.ref p/\H p=some (.tup xs)/\aO ok H xs ds:=by
 cases t with
 | tup o e z ts=>exact⟨_,_,rfl,e,ts⟩
theorem aK.row {ok:Addr->Prop}{H:Hp}{x:V}{c:RowC}(t:aK ok H x (gH c)):qH H x c:=by
 cases c with
 | tab lo gs=>
  obtain⟨p,xs,rfl,e,ts⟩:=aK.yP t;obtain⟨a,b,g,rfl,h1,h2,h3⟩:∃a b g,xs=[a,b,g]/\aK ok H a (.str "table")/\aK ok H b (.int lo)/\aK ok H g (.tuple (gs.map Bz.int)):=by
   obtain⟨a,r,rfl,h1,ts⟩:=ts.IK;obtain⟨b,r,rfl,h2,ts⟩:=ts.IK;obtain⟨g,r,rfl,h3,ts⟩:=ts.IK;have:=ts.length;have hr:r=[]:=DZ.mp this;exact⟨a,b,g,by rw[hr],h1,h2,h3⟩
  obtain⟨q,ys,rfl,e2,ts2⟩:=aK.yP h3;rw[h1.sc rfl,h2.sc rfl] at e;refine⟨p,q,rfl,e,fun lo' gs' z=>?_⟩;cases z;rw[<- ts2.sc (vs:=gs.map V.int) (by rw[GH,GH];rfl)];exact e2
 | one n t'=>
  obtain⟨p,xs,rfl,e,ts⟩:=aK.yP t;exact⟨p,0,rfl,by rw[e,ts.sc (vs:=[.str "is",.int n,.int t']) rfl];rfl,fun _ _ z=>nomatch z⟩
 | rng a b t'=>
  obtain⟨p,xs,rfl,e,ts⟩:=aK.yP t;exact⟨p,0,rfl,by rw[e,ts.sc (vs:=[.str "within",.int a,.int b,.int t']) rfl];rfl,fun _ _ z=>nomatch z⟩
 | low n t'=>
  obtain⟨p,xs,rfl,e,ts⟩:=aK.yP t;exact⟨p,0,rfl,by rw[e,ts.sc (vs:=[.str "below",.int n,.int t']) rfl];rfl,fun _ _ z=>nomatch z⟩
 | msk lo wd bits t'=>
  obtain⟨p,xs,rfl,e,ts⟩:=aK.yP t;exact⟨p,0,rfl,by rw[e,ts.sc (vs:=[.str "mask",.int lo,.int wd,.int bits,.int t']) rfl];rfl,fun _ _ z=>nomatch z⟩
 | pik l=>
  obtain⟨p,xs,rfl,e,ts⟩:=aK.yP t;exact⟨p,0,rfl,by rw[e,ts.sc (vs:=[.str "pick",.int l]) rfl];rfl,fun _ _ z=>nomatch z⟩
theorem aO.row {ok:Addr->Prop}{H:Hp}{xs:List V}{cs:List RowC}(t:aO ok H xs (cs.map gH)){j:Nat}{c:RowC}(hc:cs[j]?=some c):∃x,xs[j]?=some x/\qH H x c:=by
 have hl:=t.length;rw[AI] at hl;have hj:=(AG.mp hc).1;have hx:xs[j]?=some xs[j]:=AC ω;obtain⟨d,hd,td⟩:=t.get hx;rw[A4,hc] at hd;cases hd;exact⟨_,hx,td.row⟩
theorem qH.same {H H':Hp}{x:V}{c:RowC}(h:qH H x c)(s:Same H H'):qH H' x c:=by
 obtain⟨a,g,e,h1,h2⟩:=h;exact⟨a,g,e,s _ _ h1,fun lo gs hh=>s _ _ (h2 lo gs hh)⟩
noncomputable def sJ:RowC->Option (Int×Int)
 | .msk lo wd _ _=>some (lo,lo+wd-1)
 | .tab lo gs=>some (lo,lo+gs.length-1)
 | _=>none
noncomputable def Ji:Sp:=fun vs H Q _=>∃x c,vs=[x]/\qH H x c/\(sJ c=none->Q .non H)/\∀lo hi,sJ c=some (lo,hi)->∀p,H p=none->Q (.ref p) (upd H p (.tup [.int lo,.int hi]))
noncomputable def Ah (c:RowC)(n:Int):Bool:=match c with
 | .one a _=>decide (n=a)
 | .rng a b _=>decide (a<=n)&&decide (n<=b)
 | .low a _=>decide (n<a)
 | .msk lo _ bits _=>bitAt bits (n-lo)
 | _=>false
noncomputable def ach:RowC->Bool
 | .tab _ _=>true
 | _=>false
noncomputable def Lg:Sp:=fun vs H Q _=>∃x c n,vs=[x,.int n]/\qH H x c/\d7 c=false/\ach c=false/\(∀lo wd bits t,c=.msk lo wd bits t->0<=n-lo)/\Q (.bl (Ah c n)) H
noncomputable def μRun (m:Nat):St->Nat
 | _::_::some (.int a)::_=>m-a.toNat
 | _=>0
noncomputable def j6:RowC->Str
 | .one _ _ => "is"
 | .rng _ _ _ => "within"
 | .low _ _ => "below"
 | .msk _ _ _ _ => "mask"
 | .tab _ _ => "table"
 | .pik _ => "pick"
theorem yX (c:RowC)(g:Addr):atI (gB c g) 0=some (V.str (j6 c)):=by cases c <;> rfl
theorem QD {c:RowC}(h:d7 c=false):j6 c ≠ "pick" := by
 cases c with
 | pik l=>cases h
 | one a b=>exact(by decide +kernel:("is" : Str) ≠ "pick")
 | rng a b c=>exact(by decide +kernel:("within" : Str) ≠ "pick")
 | low a b=>exact(by decide +kernel:("below" : Str) ≠ "pick")
 | msk a b c d=>exact(by decide +kernel:("mask" : Str) ≠ "pick")
 | tab a b=>exact(by decide +kernel:("table" : Str) ≠ "pick")
theorem Pk (pre:List Int)(j:Int):atI ((pre++[j]).map V.int) (-1)=some (V.int j):=by
 unfold atI ixN;rw[if_neg δ,if_pos (by rw[AI,AR,A9];omega)];show((pre++[j]).map V.int)[_]?=_;rw[show(-1+(((pre++[j]).map V.int).length:Int)).toNat=pre.length by rw[AI,AR,A9];omega,A4,BH (A6 _),HH];rfl
section
variable {X:Cx}{e o:Expr}{te to:TE}{pos:Pos}
noncomputable def ppq (ob:Option HO)(l:Addr)(H:Hp)(Q:VK):Prop:=match ob with
 | some (.lst xs)=>∃y,xs[xs.length-1]?=some y/\Q y (upd H l (.lst xs.dropLast))
 | _=>False
noncomputable def ppK (x:V)(H:Hp)(Q:VK):Prop:=match x with
 | .ref l=>ppq (H l) l H Q
 | _=>False
noncomputable def Rb (to:TE):TE:=fun σ H Q=>to σ H fun x H1=>ppK x H1 Q
theorem Ra (to:TE)(σ:St)(H:Hp)(Q:VK):Rb to σ H Q=to σ H fun x H1=>ppK x H1 Q:=rfl
theorem Xq (l:Addr)(H:Hp)(Q:VK):ppK (.ref l) H Q=ppq (H l) l H Q:=rfl
theorem Xp (xs:List V)(l:Addr)(H:Hp)(Q:VK):ppq (some (.lst xs)) l H Q=∃y,xs[xs.length-1]?=some y/\Q y (upd H l (.lst xs.dropLast)):=rfl
theorem XF {apos cpos:Pos}(ho:PE X o to) (hbase:DC o "pop" X.env (eval o X.env)=eval o X.env:=by rfl) (hline:(apos.endLine == cpos.line)=true:=by rfl) :
  PE X (.Call (.Attribute o "pop" apos) [] [] cpos) (Rb to):=by
 intro pins s σ H Q I h;refine wpAny_Call_method0_late hbase hline (thE (ho pins s σ H _ I h) fun v s1 x H1 I1 r1 q=>?_);cases x with
 | ref l=>
  replace q:ppq (H1 l) l H1 Q:=q;cases el:H1 l with
  | none=>rw[el] at q;exact q.elim
  | some ob=>
   cases ob with
   | lst xs=>
    rw[el] at q;obtain⟨y,hy,q⟩:=q;obtain⟨h1,h2⟩:=IW (T := "list") I1 r1 (.inl ⟨rfl,xs,SqL.of el⟩);exact⟨"list","list.pop",HG,PySem.F.slot_list_pop,PySem.F.type_list_pop,h1,h2,EN rfl (PySem.evalArgs_none (aaT pins s1 σ H1 (.ref l) [] v [] Q I1 r1 .nil ⟨l,xs,y,rfl,rfl,el,hy,q⟩))⟩
   | _=>rw[el] at q;exact q.elim
 | _=>exact q.elim
theorem Ly {apos cpos:Pos}(ho:QE X o to) (hbase:DC o "pop" X.env (eval o X.env)=eval o X.env:=by rfl) (hline:(apos.endLine == cpos.line)=true:=by rfl) :
  QE X (.Call (.Attribute o "pop" apos) [] [] cpos) (Rb to):=⟨XF ho.h hbase hline⟩
theorem Jt {i:Nat}{x:Str}{op:Operator}{ti:TIp}{pos':Pos}(h:Nm X.N X.env.scope i x)(hN:X.N.Nodup)(he:QE X e te)(ho:PIp X op ti)(hf:X.fn x=true\/X.env.scope.names.lookup x=some .local:=by exact .inl rfl) :
  QS X (.AugAssign (.Name x pos') op e pos) (ZK i te ti):=⟨aan hN h.hN h.hv he.h ho hf⟩
noncomputable def ints1 (H:Hp)(p:Addr)(is:List Int):Prop:=H p=some (.lst (is.map V.int))\/H p=some (.tup (is.map V.int))
theorem jj {is:List Int}{its:List An}(r:Vals (is.map V.int) its)(i:Nat)(v:An)(h:its.toArray[i]?=some v):∃t,v=An.int (is.getD i 0) t:=by
 have hl:=r.length;rw[AI] at hl;have hi:i<its.length:=by
  rcases E3 i its.length with z|z
  ·exact z
  rw[FY,EG z] at h;cases h
 have hx:(is.map V.int)[i]?=some (V.int (is.getD i 0)):=by
  rw[A4,AC ω,Cf,AC ω];rfl
 obtain⟨u,hu,ru⟩:=r.get hx;rw[FY,hu] at h;cases h;exact ru
theorem Qi (hc:X.calm=true):fO X (.builtin "min") (fun xs H Q=>∃p is,xs=[.ref p]/\ints1 H p is/\is≠[]/\∀M,M∈is->(∀a∈is,M<=a)->Q (.int M) H):=by
 intro pins s σ H xs us Q I r h;obtain⟨p,is,rfl,hp,hne,q⟩:=h;obtain⟨u,rfl,rv⟩:=vals1 r;cases rv;have hpos:0<is.length:=C0.mpr hne;have fin:∀{its:List An}(rvs:Vals (is.map V.int) its) (v:An) (h':Heap) (tk:Nat),its.toArray[D3 (fun i j=>decide (is.getD i 0<is.getD j 0)) (its.toArray.size-1)]?=some v->Inv X pins σ H { s with heap:=h',toks:=tk }->EP X pins σ Q v { s with heap:=h',toks:=tk }:=fun {its} rvs v h' tk hv I3=>by
  have hl:=rvs.length;rw[AI] at hl;obtain⟨t,rfl⟩:=jj rvs _ v hv;have hb:=argBest_lt (fun i=>is.getD i 0) (its.toArray.size-1);rw[AZ] at hb |-;refine⟨.int _,H,I3,⟨_,rfl⟩,q _ ?_ ?_⟩
  ·rw[Cf,AC ω];exact DS _
  intro a ha;obtain⟨j,hj,e⟩:=IM.mp ha;have:=hb.2 j ω;rw[show is.getD j 0=a by rw[Cf,AC hj];exact e] at this;exact this
 have kept:∀{ob:Obj}{h':Heap}{tk:Nat},(∀(b:Addr)(o:Obj),¬b∈[s.heap.objs.size]->(s.heap.push ob).get? b=some o->h'.get? b=some o)->Inv X pins σ H { s with heap:=h',toks:=tk }:=fun {ob h' tk} hk=>
  I.kept (t':=tk) fun b o e=>hk b o (fun z=>BO (A3 e) (Au.mp z)) (AF _ e)
 rcases hp with hp|hp
 ·obtain⟨its,rvs,pl,hz⟩:=I.list (SqL.of hp);have hl:=rvs.length;rw[AI] at hl;have pl':s.heap.IsList p its.toArray:=pl.isList;have hlt:p<s.heap.objs.size:=by obtain⟨_,e,_⟩:=pl';exact A3 e
  refine call_min_walk (D8 pl' ?_);refine⟨s.heap.objs.size,_,_,_,_,_,_,rfl,Walks.list (A:=X.A.in1) (I.ok.hd hc) s.heap.objs.size p (BO hlt) its.toArray,?_,fun b hb=>?_,?_,CmpOf.ints_lt (fun i=>is.getD i 0) fun i v hv=>jj rvs i v hv,fun v h' tk hv hk=>fin rvs v h' tk hv (kept hk)⟩
  ·obtain⟨ob,e,r⟩:=pl';exact⟨⟨_,BA _ rfl,rfl,rfl⟩,ob,AF _ e,r⟩
  ·rw[D5];simp only[AO,BE,or_false] at hb;rcases hb with rfl|rfl
   ·exact Db _
   exact F3 hlt
  rw[AZ];omega
 obtain⟨its,rvs,pl,hz⟩:=I.tuple (SqT.of hp);have hl:=rvs.length;rw[AI] at hl;have pl':s.heap.IsTuple p its.toArray:=pl;have hlt:p<s.heap.objs.size:=by obtain⟨_,e,_⟩:=pl';exact A3 e
 refine call_min_walk (GU pl' ?_);refine⟨s.heap.objs.size,_,_,_,_,_,_,rfl,Walks.tuple (A:=X.A.in1) (I.ok.hd hc) s.heap.objs.size p (BO hlt) its.toArray,?_,fun b hb=>?_,?_,CmpOf.ints_lt (fun i=>is.getD i 0) fun i v hv=>jj rvs i v hv,fun v h' tk hv hk=>fin rvs v h' tk hv (kept hk)⟩
 ·obtain⟨ob,e,r⟩:=pl';exact⟨⟨_,BA _ rfl,rfl,rfl⟩,ob,AF _ e,r⟩
 ·rw[D5];simp only[AO,BE,or_false] at hb;rcases hb with rfl|rfl
  ·exact Db _
  exact F3 hlt
 rw[AZ];omega
theorem Qk (hc:X.calm=true):fO X (.builtin "max") (fun xs H Q=>∃p is,xs=[.ref p]/\ints1 H p is/\is≠[]/\∀M,M∈is->(∀a∈is,a<=M)->Q (.int M) H):=by
 intro pins s σ H xs us Q I r h;obtain⟨p,is,rfl,hp,hne,q⟩:=h;obtain⟨u,rfl,rv⟩:=vals1 r;cases rv;have hpos:0<is.length:=C0.mpr hne;have fin:∀{its:List An}(rvs:Vals (is.map V.int) its) (v:An) (h':Heap) (tk:Nat),its.toArray[D3 (fun i j=>decide (is.getD i 0>is.getD j 0)) (its.toArray.size-1)]?=some v->Inv X pins σ H { s with heap:=h',toks:=tk }->EP X pins σ Q v { s with heap:=h',toks:=tk }:=fun {its} rvs v h' tk hv I3=>by
  have hl:=rvs.length;rw[AI] at hl;obtain⟨t,rfl⟩:=jj rvs _ v hv;have hb:=argBest_gt (fun i=>is.getD i 0) (its.toArray.size-1);rw[AZ] at hb |-;refine⟨.int _,H,I3,⟨_,rfl⟩,q _ ?_ ?_⟩
  ·rw[Cf,AC ω];exact DS _
  intro a ha;obtain⟨j,hj,e⟩:=IM.mp ha;have:=hb.2 j ω;rw[show is.getD j 0=a by rw[Cf,AC hj];exact e] at this;exact this
 have kept:∀{ob:Obj}{h':Heap}{tk:Nat},(∀(b:Addr)(o:Obj),¬b∈[s.heap.objs.size]->(s.heap.push ob).get? b=some o->h'.get? b=some o)->Inv X pins σ H { s with heap:=h',toks:=tk }:=fun {ob h' tk} hk=>
  I.kept (t':=tk) fun b o e=>hk b o (fun z=>BO (A3 e) (Au.mp z)) (AF _ e)
 rcases hp with hp|hp
 ·obtain⟨its,rvs,pl,hz⟩:=I.list (SqL.of hp);have hl:=rvs.length;rw[AI] at hl;have pl':s.heap.IsList p its.toArray:=pl.isList;have hlt:p<s.heap.objs.size:=by obtain⟨_,e,_⟩:=pl';exact A3 e
  refine call_max_walk (D8 pl' ?_);refine⟨s.heap.objs.size,_,_,_,_,_,_,rfl,Walks.list (A:=X.A.in1) (I.ok.hd hc) s.heap.objs.size p (BO hlt) its.toArray,?_,fun b hb=>?_,?_,CmpOf.ints_gt (fun i=>is.getD i 0) fun i v hv=>jj rvs i v hv,fun v h' tk hv hk=>fin rvs v h' tk hv (kept hk)⟩
  ·obtain⟨ob,e,r⟩:=pl';exact⟨⟨_,BA _ rfl,rfl,rfl⟩,ob,AF _ e,r⟩
  ·rw[D5];simp only[AO,BE,or_false] at hb;rcases hb with rfl|rfl
   ·exact Db _
   exact F3 hlt
  rw[AZ];omega
 obtain⟨its,rvs,pl,hz⟩:=I.tuple (SqT.of hp);have hl:=rvs.length;rw[AI] at hl;have pl':s.heap.IsTuple p its.toArray:=pl;have hlt:p<s.heap.objs.size:=by obtain⟨_,e,_⟩:=pl';exact A3 e
 refine call_max_walk (GU pl' ?_);refine⟨s.heap.objs.size,_,_,_,_,_,_,rfl,Walks.tuple (A:=X.A.in1) (I.ok.hd hc) s.heap.objs.size p (BO hlt) its.toArray,?_,fun b hb=>?_,?_,CmpOf.ints_gt (fun i=>is.getD i 0) fun i v hv=>jj rvs i v hv,fun v h' tk hv hk=>fin rvs v h' tk hv (kept hk)⟩
 ·obtain⟨ob,e,r⟩:=pl';exact⟨⟨_,BA _ rfl,rfl,rfl⟩,ob,AF _ e,r⟩
 ·rw[D5];simp only[AO,BE,or_false] at hb;rcases hb with rfl|rfl
  ·exact Db _
  exact F3 hlt
 rw[AZ];omega
noncomputable def Jg (ta:TA):TE:=fun σ H Q=>ta σ H fun vs H1=>∃j:Int,vs=[.int j]/\(-(2^62)<=j/\j<2^62)/\(j-0).toNat<=AQ/\∀p,H1 p=none->Q (.ref p) (upd H1 p (.lst (sW 0 (j-0).toNat)))
theorem Tt {a:Expr}{ta:TA}{p p2 pos pos2:Pos}(hc:X.calm=true) (hgl:Gl X "list") (hml:X.mg "list" = none) (hg:Gl X "range") (hm:X.mg "range" = none) (ha:PA X [a] ta)
  (hs:AJ [a] X.env=[(false,eval a X.env)]:=by rfl)
  (he:AJ [.Call (.Name "range" p2) [a] [] pos2] X.env=[(false,eval (.Call (.Name "range" p2) [a] [] pos2) X.env)]:=by rfl) :
  PE X (.Call (.Name "list" p) [.Call (.Name "range" p2) [a] [] pos2] [] pos) (Jg ta):=by
 intro pins s σ H Q I h;refine EM (mH I hgl hml boot_list ?_ δ δ);refine B9 ?_ he rfl;rw[he];show AK _ _ (spliced ((false,eval (.Call (.Name "range" p2) [a] [] pos2) X.env)::[])) _ _ s;refine EL ?_;refine Call_ (mH I hg hm boot_range (B9 (thA (ha pos2 pins s σ H _ I h) fun us s1 vs H1 I1 r1 q1=>?_) hs rfl));obtain⟨j,e,⟨q3,q4⟩,hz,q⟩:=q1;have q1:(-(2^62):Int)<=0:=by decide
 have q2:(0:Int)<2^62:=by decide
 subst e;cases r1 with
 | cons r' rr=>
  cases rr;obtain⟨t',rfl⟩:=r';refine call_range_1 (EV ?_);refine call_list_range (n:=(j-0).toNat) (I1.ok.hd hc) (IsRange.new ..) (small_one q1 q2 q3 q4) (by rw[rangeSize_one];split <;> omega) (BQ hz Uv) fun h' tk acc' c' kp e it=>?_
  have I2:Inv X pins σ H1 { s1 with heap:=s1.heap.push { cls:=.type "range",data:=.fields #[.int 0 s1.toks,.int j t',.int 1 (s1.toks+1)] },toks:=s1.toks+1+1 }:=I1.kept fun b o e=>AF _ e;have hf:H1 (s1.heap.push { cls:=.type "range",data:=.fields #[.int 0 s1.toks,.int j t',.int 1 (s1.toks+1)] }).objs.size=none:=I2.hok.fresh (A6 _);refine⟨.ref _,_,I2.laid (t':=tk) kp (A6 _) (show d9 X.prog X.w _ h' _ (.lst (sW 0 (j-0).toNat)) from⟨?_,acc'.toList,c',?_,by simpa using e⟩),rfl,q _ hf⟩
  ·simpa [sW] using hz
  obtain⟨it1,it2⟩:=it;refine Ed (by simp [sW,it1]) fun k x u h1 h2=>?_;have h2':acc'[k]?=some u:=by simpa using h2
  obtain⟨t9,rfl⟩:=it2 k u h2';unfold sW at h1;rw[A4] at h1;have hk:k<(j-0).toNat:=by
   rcases E3 k (j-0).toNat with z|z
   ·exact z
   rw[EG (by simpa using z)] at h1;cases h1
  rw[JU hk] at h1;cases h1;exact⟨t9,by rw[mul_one]⟩
theorem GF {a:Expr}{ta:TA}{p p2 pos pos2:Pos}(hc:X.calm=true) (hgl:Gl X "list") (hml:X.mg "list" = none) (hg:Gl X "range") (hm:X.mg "range" = none) (ha:QA X [a] ta)
  (hs:AJ [a] X.env=[(false,eval a X.env)]:=by rfl)
  (he:AJ [.Call (.Name "range" p2) [a] [] pos2] X.env=[(false,eval (.Call (.Name "range" p2) [a] [] pos2) X.env)]:=by rfl) :
  QE X (.Call (.Name "list" p) [.Call (.Name "range" p2) [a] [] pos2] [] pos) (Jg ta):=⟨Tt hc hgl hml hg hm ha.h hs he⟩
end
inductive Pl where
 | pick (l:Int)
 | one (k:Nat) (r:Pl)
 | wit (k:Nat) (r:Pl)
 | low (k:Nat) (a b:Pl)
 | msk (l:Int) (r:Pl)
 | tab
noncomputable def plD:Pl->Bz
 | .pick l=>.tuple [.str "pick",.int l]
 | .one k r=>.tuple [.str "is",.int (k:Int),plD r]
 | .wit k r=>.tuple [.str "within",.int (k:Int),plD r]
 | .low k a b=>.tuple [.str "below",.int (k:Int),plD a,plD b]
 | .msk l r=>.tuple [.str "mask",.int l,plD r]
 | .tab=>.tuple [.str "table"]
noncomputable def zm:Pl->Nat
 | .pick _=>0
 | .one _ r=>zm r+1
 | .wit _ r=>zm r+1
 | .low _ a b=>max (zm a) (zm b)+1
 | .msk _ r=>zm r+1
 | .tab=>0
noncomputable def aX:Pl->Nat
 | .pick _=>1
 | .one _ r=>aX r+1
 | .wit _ r=>aX r+1
 | .low _ a b=>aX a+aX b+1
 | .msk _ r=>aX r+1
 | .tab=>1
noncomputable abbrev Sts:=List (Int×Int×Int)
noncomputable def aL (ss:Sts)(k:Nat):Int×Int×Int:=ss.getD k (0,0,0)
structure Lf (ss:Sts)(left:List Nat):Prop where
 ne:left≠[]
 lt:∀k∈left,k<ss.length
 up:left.Pairwise (· < ·)
noncomputable def kids (ss:Sts):Pl->List Nat->List (List Nat×Pl)
 | .pick _,_=>[]
 | .tab,_=>[]
 | .one k r,left=>[(left.filter (·≠k),r)]
 | .wit k r,left=>[(left.filter (·≠k),r)]
 | .low k a b,left=>[(left.filter (· < k),a),(left.filter (k<=·),b)]
 | .msk l r,left=>[(left.filter fun k=>(aL ss k).2.2≠l,r)]
noncomputable def um (ss:Sts):Pl->List Nat->Prop
 | .pick _,left=>Lf ss left
 | .tab,left=>Lf ss left
 | .one k r,left=>Lf ss left/\um ss r (left.filter (·≠k))
 | .wit k r,left=>Lf ss left/\um ss r (left.filter (·≠k))
 | .low k a b,left=>Lf ss left/\um ss a (left.filter (· < k))/\um ss b (left.filter (k<=·))
 | .msk l r,left=>Lf ss left/\um ss r (left.filter fun k=>(aL ss k).2.2≠l)
theorem um.lf {ss:Sts}{p:Pl}{left:List Nat}(h:um ss p left):Lf ss left:=by
 cases p with
 | pick l=>exact h
 | tab=>exact h
 | one k r=>exact h.1
 | wit k r=>exact h.1
 | low k a b=>exact h.1
 | msk l r=>exact h.1
theorem um.kids {ss:Sts}{p:Pl}{left:List Nat}(h:um ss p left):∀x∈kids ss p left,um ss x.2 x.1:=by
 intro x hx;cases p with
 | pick l=>cases hx
 | tab=>cases hx
 | one k r=>rw[Au.mp hx];exact h.2
 | wit k r=>rw[Au.mp hx];exact h.2
 | low k a b=>
  rcases AO.mp hx with rfl|hx
  ·exact h.2.1
  rw[Au.mp hx];exact h.2.2
 | msk l r=>rw[Au.mp hx];exact h.2
noncomputable def mV (W:List (List Nat×Pl)):Nat:=(W.map fun x=>aX x.2).sum
theorem uE (A B:List (List Nat×Pl)):mV (A++B)=mV A+mV B:=by
 unfold mV;rw[BS,List.sum_append]
theorem Gw (ss:Sts)(p:Pl)(left:List Nat):mV (kids ss p left)<aX p:=by
 cases p <;> simp [mV,kids,aX]
noncomputable def nA (left:List Nat):Bz:=.list (left.map fun(k:Nat)=>.int (k:Int))
noncomputable def wD (x:List Nat×Pl):Bz:=.tuple [nA x.1,plD x.2]
noncomputable def eF (ss:Sts)(left:List Nat):Int:=(aL ss (left.getLast?.getD 0)).2.1-(aL ss (left.head?.getD 0)).1+1
noncomputable def uD:Sp:=fun vs H Q _=>∃(s l:V)(ok:Addr->Prop)(ss:Sts)(left:List Nat),vs=[s,l]/\aK ok H s (.list (ss.map stD))/\aK ok H l (nA left)/\Lf ss left/\Q (.int (eF ss left)) H
noncomputable def Rx:Sp:=fun vs H Q _=>∃(s l p:V)(ok:Addr->Prop)(ss:Sts)(left:List Nat)(pl:Pl),vs=[s,l,p]/\jN ok H/\aK ok H s (.list (ss.map stD))/\aK ok H l (nA left)/\aK ok H p (plD pl)/\um ss pl left /\
 ∀v H',Same H H'->aK ok H' v (.list ((kids ss pl left).map wD))->Q v H'
theorem vJ {k:Nat}:∀{left:List Nat},left.Pairwise (· < ·)->left.drop (left.filter (· < k)).length=left.filter (k<=·)
 | [],_=>rfl
 | a::left,h=>by
  rw[CF] at h;by_cases ha:a<k
  ·rw[EO (by simpa using ha),ER (by simpa using ha),Be,List.drop_succ_cons];exact vJ h.2
  have h1:left.filter (· < k)=[]:=List.filter_eq_nil_iff.mpr fun b hb=>by have:=h.1 b hb;simp;omega
  have h2:left.filter (k<=·)=left:=List.filter_eq_self.mpr fun b hb=>by have:=h.1 b hb;simp;omega
  rw[ER (by simpa using ha),h1,EO (by simp;omega),h2];rfl
theorem Yp {ok:Addr->Prop}{H:Hp}(left:List Nat):aO ok H (left.map fun(k:Nat)=>V.int (k:Int)) (left.map fun(k:Nat)=>Bz.int (k:Int)):=by
 induction left with
 | nil=>exact .nil
 | cons a l ih=>exact .cons (.int _) ih
theorem aO.nats {ok:Addr->Prop}{H:Hp}:∀{xs:List V}{left:List Nat},aO ok H xs (left.map fun(k:Nat)=>Bz.int (k:Int))->xs=left.map fun(k:Nat)=>V.int (k:Int)
 | _,[],.nil=>rfl
 | _,a::l,.cons h r=>by
  cases h;rw[r.nats];rfl
theorem aK.left {ok:Addr->Prop}{H:Hp}{x:V}{left:List Nat}(t:aK ok H x (nA left)):∃a,x=.ref a/\ok a/\H a=some (.lst (left.map fun(k:Nat)=>V.int (k:Int)))/\left.length<=1000000:=by
 cases t with
 | lst o e z ts=>
  rw[ts.nats] at e z;rw[AI] at z;exact⟨_,rfl,o,e,z⟩
theorem eE {ss:Sts}{k:Nat}(h:k<ss.length):ss[k]?=some (aL ss k):=by
 unfold aL;rw[Cf,AC h];rfl
theorem aO.stN {ok:Addr->Prop}{H:Hp}{xs:List V}{ss:Sts}(t:aO ok H xs (ss.map stD)){k:Nat}(h:k<ss.length):∃a,atI xs (k:Int)=some (.ref a)/\H a=some (.tup [.int (aL ss k).1,.int (aL ss k).2.1,.int (aL ss k).2.2]):=by
 have hl:=t.length;rw[AI] at hl;have hx:xs[k]?=some xs[k]:=AC ω;obtain⟨a,s,h1,_,h2,h3⟩:=t.st hx;rw[eE h] at h2;cases h2;refine⟨a,?_,h3⟩;rw[<- h1];exact bJ hx
noncomputable def nv (left:List Nat):List V:=left.map fun(k:Nat)=>V.int (k:Int)
theorem iR (left:List Nat):(nv left).length=left.length:=by unfold nv;rw[AI]
theorem Ui {left:List Nat}{i:Nat}{x:V}(h:(nv left)[i]?=some x):∃k,left[i]?=some k/\x=.int (k:Int):=by
 unfold nv at h;rw[A4] at h;cases e:left[i]? with
 | none=>rw[e] at h;cases h
 | some k=>rw[e] at h;cases h;exact⟨k,rfl,rfl⟩
theorem Fd {left:List Nat}(h:left≠[]):∃k,left.getLast?=some k/\k∈left/\atI (nv left) (-1)=some (.int (k:Int)):=by
 obtain⟨a,b,rfl⟩:=nu left (C0.mpr h);refine⟨b,by simp,by simp,?_⟩;have:=Pk (a.map fun(k:Nat)=>(k:Int)) (b:Int);unfold nv;rw[show((a++[b]).map fun(k:Nat)=>V.int (k:Int))=((a.map fun(k:Nat)=>(k:Int))++[(b:Int)]).map V.int by simp];exact this
theorem yL {left:List Nat}(h:left≠[]):∃k,left.head?=some k/\k∈left/\atI (nv left) 0=some (.int (k:Int)):=by
 cases left with
 | nil=>exact absurd rfl h
 | cons a l=>exact⟨a,rfl,AM,bJ (j:=0) (show(nv (a::l))[0]?=_ from rfl)⟩
theorem Dy {left:List Nat}{P:Nat->Bool}{i k:Nat}(h:left[i]?=some k):(left.take (i+1)).filter P=(left.take i).filter P++(if P k=true then [k] else []):=by
 rw[take_snoc h,List.filter_append];cases hp:P k with
 | true=>rw[EO hp];rfl
 | false=>rw[ER (by rw[hp];decide)];rfl
theorem JH (a b:List Nat):nv (a++b)=nv a++nv b:=by unfold nv;rw[BS]
theorem dh {ok:Addr->Prop}{H:Hp}{a:Addr}{left:List Nat}(h:ok a)(e:H a=some (.lst (nv left)))(hl:left.length<=1000000):aK ok H (.ref a) (nA left):=.lst h e (by rw[iR];exact hl) (Yp left)
theorem iz {K:AD}{mp:List (Option Nat)}{g:TG}{tc:TT}{te:TE}{σ:St}{H:Hp}{Q:VK}{R:It->Hp->Prop}{a:Addr}{left:List Nat}(P:Nat->Bool)(okT:St->Prop)(hR:R=KZ mp g tc te σ Q)(e:H a=some (.lst (nv left)))(hz:left.length<=1000000)(h0:okT (rN mp σ))
  (hs:∀(i k:Nat) τ (acc:List V) (Pn:List V->St->Hp->Prop),left[i]?=some k->okT τ->(P k=true->∀τ1,okT τ1->Pn (acc++[V.int (k:Int)]) τ1 H)->(P k=false->∀τ1,okT τ1->Pn acc τ1 H)->g (.int (k:Int)) τ H fun τ1 H4=>tc τ1 H4 fun b H5=>if b=true then te τ1 H5 fun v H6=>Pn (acc++[v]) τ1 H6 else Pn acc τ1 H5)
  (hd:∀d,H d=none->Q (.ref d) (upd H d (.lst (nv (left.filter P))))):R (Itl K a) H:=by
 refine uc hR (xs:=nv left) (aQ (by rw[iR];exact hz)) (fun i acc τ H'=>H'=H/\acc=nv ((left.take i).filter P)/\okT τ) ⟨rfl,rfl,h0⟩ ?_ ?_ ?_ ?_
 ·rintro i acc τ H' ⟨_,rfl,_⟩;rw[iR];exact BQ (DT _ _) (List.length_take_le _ _)
 ·rintro i acc τ H' ⟨rfl,_,_⟩;exact SqL.of e
 ·rintro i x acc τ H' hx ⟨rfl,rfl,ht⟩;obtain⟨k,hk,rfl⟩:=Ui hx;refine hs i k τ _ (fun acc τ H1=>H1=H'/\acc=nv ((left.take (i+1)).filter P)/\okT τ) hk ht (fun hp τ1 h1=>⟨rfl,?_,h1⟩) (fun hp τ1 h1=>⟨rfl,?_,h1⟩)
  ·rw[Dy hk,JH,if_pos hp];rfl
  rw[Dy hk,if_neg (by rw[hp];decide),C4]
 rintro acc τ H' d ⟨rfl,rfl,_⟩ hdn;rw[HR (by rw[iR];exact A6 _)];exact hd d hdn
theorem Ie (xs:List V)(n:Nat)(h:n<=xs.length):qF xs (some (n:Int)) none=xs.drop n:=by
 unfold qF;have e1:HT.sIx xs.length 0 (some (n:Int))=n:=by
  simp only[HT.sIx];split
  ·omega
  omega
 have e2:HT.sIx xs.length xs.length none=xs.length:=by simp [HT.sIx]
 rw[e1,e2];exact HR (by rw[IH];exact A6 _)
theorem Qe {left:List Nat}{k:Nat}(h:left.Pairwise (· < ·)):qF (nv left) (some ((left.filter (· < k)).length:Int)) none=nv (left.filter (k<=·)):=by
 rw[Ie _ _ (by rw[iR];exact DT _ _),<- vJ h];unfold nv;rw[map_drop]
theorem Uk {ok:Addr->Prop}{H H2:Hp}{a b:Addr}{o1 o2:HO}(hn:jN ok H)(s:Same H H2)(h1:H2 a=some o1)(h2:H2 b=some o2):jN (fun x=>ok x/\x≠a/\x≠b) H2:=fun H' q s' hq=>by
 refine⟨hn H' q (s.trans s') hq,fun z=>?_,fun z=>?_⟩
 ·rw[z,s' _ _ h1] at hq;cases hq
 rw[z,s' _ _ h2] at hq;cases hq
theorem aO.dropLast {ok:Addr->Prop}{H:Hp}{xs:List V}{ds:List Bz}{d:Bz}(t:aO ok H xs (ds++[d])):aO ok H xs.dropLast ds/\∃y,xs[xs.length-1]?=some y/\aK ok H y d:=by
 have hl:=t.length;rw[AR,A9] at hl;constructor
 ·have:=t.take ds.length;rw[List.take_left,show xs.take ds.length=xs.dropLast by rw[List.dropLast_eq_take,hl,FG]] at this;exact this
 have hx:xs[xs.length-1]?=some xs[xs.length-1]:=AC ω;obtain⟨d',hd,td⟩:=t.get hx;rw[hl,FG,BH (A6 _),HH] at hd;cases hd;exact⟨_,hx,td⟩
theorem Yt (W:List (List Nat×Pl)):W.length<=mV W:=by
 induction W with
 | nil=>exact A6 _
 | cons x W ih=>
  have h1:1<=aX x.2:=by cases x.2 <;> simp [aX]
  have h2:mV (x::W)=aX x.2+mV W:=by simp [mV]
  rw[Be,h2];omega
noncomputable def dN:Pl->Str
 | .pick _ => "pick"
 | .one _ _ => "is"
 | .wit _ _ => "within"
 | .low _ _ _ => "below"
 | .msk _ _ => "mask"
 | .tab => "table"
noncomputable def Nx:List Str:=["is","within","below","mask","table"]
theorem aK.Ey {ok:Addr->Prop}{H:Hp}{x:V}{p:Pl}(t:aK ok H x (plD p)):∃a ys,x=.ref a/\H a=some (.tup ys)/\atI ys 0=some (.str (dN p)):=by
 cases p <;> (cases t with
  | tup o e z ts=>
   cases ts with
   | cons t1 ts=>cases t1;exact⟨_,_,rfl,e,bJ (j:=0) (show(_::_)[0]?=_ from rfl)⟩)
theorem DP {K:AD}{mp:List (Option Nat)}{g:TG}{tc:TT}{te:TE}{σ:St}{H:Hp}{Q:VK}{R:It->Hp->Prop}{a:Addr}{left:List Nat}(fI:Nat->Int)(okT:St->Prop)(hR:R=KZ mp g tc te σ Q)(e:H a=some (.lst (nv left)))(hz:left.length<=1000000)(h0:okT (rN mp σ))
  (hs:∀(i k:Nat) τ (acc:List V) (Pn:List V->St->Hp->Prop),left[i]?=some k->okT τ->(∀τ1,okT τ1->Pn (acc++[V.int (fI k)]) τ1 H)->g (.int (k:Int)) τ H fun τ1 H4=>tc τ1 H4 fun b H5=>if b=true then te τ1 H5 fun v H6=>Pn (acc++[v]) τ1 H6 else Pn acc τ1 H5)
  (hd:∀d,H d=none->Q (.ref d) (upd H d (.lst ((left.map fI).map V.int)))):R (Itl K a) H:=by
 refine uc hR (xs:=nv left) (aQ (by rw[iR];exact hz)) (fun i acc τ H'=>H'=H/\acc=((left.take i).map fI).map V.int/\okT τ) ⟨rfl,rfl,h0⟩ ?_ ?_ ?_ ?_
 ·rintro i acc τ H' ⟨_,rfl,_⟩;rw[AI,AI];exact List.length_take_le _ _
 ·rintro i acc τ H' ⟨rfl,_,_⟩;exact SqL.of e
 ·rintro i x acc τ H' hx ⟨rfl,rfl,ht⟩;obtain⟨k,hk,rfl⟩:=Ui hx;refine hs i k τ _ (fun acc τ H1=>H1=H'/\acc=((left.take (i+1)).map fI).map V.int/\okT τ) hk ht (fun τ1 h1=>⟨rfl,?_,h1⟩);rw[take_snoc hk,BS,BS];rfl
 rintro acc τ H' d ⟨rfl,rfl,_⟩ hdn;rw[HR (by rw[iR];exact A6 _)];exact hd d hdn
theorem Lf.YJ {ss:Sts}{left:List Nat}(lf:Lf ss left){P:Nat->Bool}(h:left.filter P≠[]):Lf ss (left.filter P):=
 ⟨h,fun k hk=>lf.lt k (BN.mp hk).1,lf.up.filter _⟩
theorem Mz {left:List Nat}{P:Nat->Bool}{k:Nat}(h:k∈left)(hp:P k=false):(left.filter P).length<left.length:=
 List.length_filter_lt_length_iff_exists.mpr ⟨k,h,by rw[hp];decide⟩
theorem Ia (k:Nat):∀left:List Nat,(left.filter (· < k)).length+(left.filter (k<=·)).length=left.length
 | []=>rfl
 | a::left=>by
  have ih:=Ia k left;by_cases h:a<k
  ·rw[EO (by simpa using h),ER (by simpa using h),Be,Be];omega
  rw[ER (by simpa using h),EO (by simpa using h),Be,Be];omega
theorem lz {α:Type}{a:α}{l:List α}(h:a∈l):l≠[]:=fun z=>by rw[z] at h;cases h
theorem Lf.rest {ss:Sts}{left:List Nat}(lf:Lf ss left)(h2:2<=left.length)(k:Nat):Lf ss (left.filter (·≠k)):=by
 refine lf.YJ ?_
 match left,h2,lf with
 | a::b::l,_,lf=>
  have hab:a<b:=(CF.mp lf.up).1 b AM;by_cases c:a=k
  ·exact lz (BN.mpr ⟨AH _ AM,by simp;omega⟩:b∈_)
  exact lz (BN.mpr ⟨AM,by simpa using c⟩:a∈_)
theorem Lf.cuts {ss:Sts}{left:List Nat}(lf:Lf ss left){i k:Nat}(h:left[i+1]?=some k):k∈left/\Lf ss (left.filter (· < k))/\Lf ss (left.filter (k<=·)):=by
 have hm:=A2 h;refine⟨hm,lf.YJ ?_,lf.YJ (lz (BN.mpr ⟨hm,by simp⟩:k∈_))⟩
 match left,h,lf with
 | a::l,h,lf=>
  rw[GY] at h;have hak:a<k:=(CF.mp lf.up).1 k (A2 h);exact lz (BN.mpr ⟨AM,by simpa using hak⟩:a∈_)
theorem Zm {left:List Nat}{r:Int}(h0:0<=r)(h1:r<(left.length:Int)):∃k,left[r.toNat]?=some k/\k∈left/\atI (nv left) r=some (.int (k:Int)):=by
 obtain⟨i,rfl⟩:=EH h0;have hi:i<left.length:=ω;refine⟨left[i],by rw[DD];exact AC hi,DS hi,bJ ?_⟩;unfold nv;rw[A4,AC hi];rfl
theorem Yl (l:List Nat):(nv l).all jd=true:=by
 unfold nv;rw[all_map,E4];intro x _;rfl
theorem aaQ {l:List Nat}(h:l≠[]):eqL (nv l) []=false:=by
 cases l with
 | nil=>exact absurd rfl h
 | cons a l=>rfl
theorem WM (n:Nat):sW 0 n=nv (AU n):=by
 unfold sW nv;apply JY;intro x _;simp
noncomputable def pA (ss:Sts)(k:Nat):Pl->List Nat
 | .pick _=>[]
 | .tab=>[4]
 | .one j r=>0::(if k=j then [] else pA ss k r)
 | .wit j r=>1::(if k=j then [] else pA ss k r)
 | .low j a b=>2::(if k<j then pA ss k a else pA ss k b)
 | .msk l r=>3::(if (aL ss k).2.2=l then [] else pA ss k r)
noncomputable def rM (i:Nat):Str:=Nx.getD i ""
noncomputable def lbl (ss:Sts)(k:Nat):Int:=(aL ss k).2.2
noncomputable def aY (ss:Sts):Pl->List Nat->List (List Nat×Pl)
 | .pick l,left=>[(left,.pick l)]
 | .tab,left=>[(left,.tab)]
 | .one k r,left=>(left,.one k r)::aY ss r (left.filter (·≠k))
 | .wit k r,left=>(left,.wit k r)::aY ss r (left.filter (·≠k))
 | .low k a b,left=>(left,.low k a b)::(aY ss b (left.filter (k<=·))++aY ss a (left.filter (· < k)))
 | .msk l r,left=>(left,.msk l r)::aY ss r (left.filter fun k=>(aL ss k).2.2≠l)
noncomputable def iD (ss:Sts)(W:List (List Nat×Pl)):List (List Nat×Pl):=(W.reverse.map fun x=>aY ss x.2 x.1).flatten
theorem sS (ss:Sts)(A B:List (List Nat×Pl)):iD ss (A++B)=iD ss B++iD ss A:=by
 unfold iD;rw[List.reverse_append,BS,List.flatten_append]
theorem j8 (ss:Sts)(x:List Nat×Pl):iD ss [x]=aY ss x.2 x.1:=by simp [iD]
theorem nR (ss:Sts)(p:Pl)(left:List Nat):aY ss p left=(left,p)::iD ss (kids ss p left):=by
 cases p <;> simp [aY,iD,kids]
theorem fL (ss:Sts):∀(p:Pl)(left:List Nat),(aY ss p left).length=aX p
 | .pick l,left=>rfl
 | .tab,left=>rfl
 | .one k r,left=>by show(aY ss r _).length+1=_;rw[fL ss r];rfl
 | .wit k r,left=>by show(aY ss r _).length+1=_;rw[fL ss r];rfl
 | .msk k r,left=>by show(aY ss r _).length+1=_;rw[fL ss r];rfl
 | .low k a b,left=>by
  show(aY ss b _++aY ss a _).length+1=aX a+aX b+1;rw[AR,fL ss a,fL ss b];omega
noncomputable def VL (ss:Sts)(left:List Nat):Pl->Prop
 | .pick l=>∀k∈left,lbl ss k=l
 | .tab=>eF ss left<=200
 | .one k _=>k∈left/\(aL ss k).1=(aL ss k).2.1
 | .wit k _=>k∈left
 | .low k _ _=>k∈left
 | .msk l _=>eF ss left<=64/\∃k∈left,lbl ss k=l
noncomputable def PlV (ss:Sts):Pl->List Nat->Prop
 | .pick l,left=>Lf ss left/\VL ss left (.pick l)
 | .tab,left=>Lf ss left/\VL ss left .tab
 | .one k r,left=>(Lf ss left/\VL ss left (.one k r))/\PlV ss r (left.filter (·≠k))
 | .wit k r,left=>(Lf ss left/\VL ss left (.wit k r))/\PlV ss r (left.filter (·≠k))
 | .low k a b,left=>(Lf ss left/\VL ss left (.low k a b))/\PlV ss a (left.filter (· < k))/\PlV ss b (left.filter (k<=·))
 | .msk l r,left=>(Lf ss left/\VL ss left (.msk l r))/\PlV ss r (left.filter fun k=>(aL ss k).2.2≠l)
theorem PlV.ok {ss:Sts}:∀{p:Pl}{left:List Nat},PlV ss p left->um ss p left
 | .pick l,left,h=>h.1
 | .tab,left,h=>h.1
 | .one k r,left,h=>⟨h.1.1,PlV.ok h.2⟩
 | .wit k r,left,h=>⟨h.1.1,PlV.ok h.2⟩
 | .msk k r,left,h=>⟨h.1.1,PlV.ok h.2⟩
 | .low k a b,left,h=>⟨h.1.1,PlV.ok h.2.1,PlV.ok h.2.2⟩
theorem PlV.steps {ss:Sts}:∀{p:Pl}{left:List Nat},PlV ss p left->∀x∈aY ss p left,Lf ss x.1/\VL ss x.1 x.2
 | .pick l,left,h,x,hx=>by rw[Au.mp hx];exact h
 | .tab,left,h,x,hx=>by rw[Au.mp hx];exact h
 | .one k r,left,h,x,hx=>by
  rcases AO.mp hx with rfl|hx
  ·exact h.1
  exact PlV.steps h.2 x hx
 | .wit k r,left,h,x,hx=>by
  rcases AO.mp hx with rfl|hx
  ·exact h.1
  exact PlV.steps h.2 x hx
 | .msk k r,left,h,x,hx=>by
  rcases AO.mp hx with rfl|hx
  ·exact h.1
  exact PlV.steps h.2 x hx
 | .low k a b,left,h,x,hx=>by
  rcases AO.mp hx with rfl|hx
  ·exact h.1
  rcases BC.mp hx with hx|hx
  ·exact PlV.steps h.2.2 x hx
  exact PlV.steps h.2.1 x hx
noncomputable def jh (ss:Sts)(left:List Nat):Pl->List Int
 | .msk l _=>[l]
 | .one k _=>[lbl ss k]
 | .wit k _=>[lbl ss k]
 | .tab=>left.map (lbl ss)
 | _=>[]
noncomputable def Btw (ss:Sts)(PL:List Int)(left:List Nat):Prop:=∀a∈left,∀b∈left,∀j:Nat,a<=j->j<=b->j∈left\/lbl ss j∈PL
theorem j4 {ss:Sts}{PL:List Int}:∀{p:Pl}{left:List Nat},Btw ss PL left->(∀x∈aY ss p left,∀l∈jh ss x.1 x.2,l∈PL)->∀x∈aY ss p left,Btw ss PL x.1
 | .pick l,left,h,_,x,hx=>by rw[Au.mp hx];exact h
 | .tab,left,h,_,x,hx=>by rw[Au.mp hx];exact h
 | .one k r,left,h,hl,x,hx=>by
  rcases AO.mp hx with rfl|hx
  ·exact h
  refine j4 (p:=r) (left:=left.filter (·≠k)) (fun a ha b hb j h1 h2=>?_) (fun y hy=>hl y (AH _ hy)) x hx;rcases h a (BN.mp ha).1 b (BN.mp hb).1 j h1 h2 with z|z
  ·by_cases e:j=k
   ·exact .inr (by rw[e];exact hl _ AM _ (Au.mpr rfl))
   exact .inl (BN.mpr ⟨z,by simpa using e⟩)
  exact .inr z
 | .wit k r,left,h,hl,x,hx=>by
  rcases AO.mp hx with rfl|hx
  ·exact h
  refine j4 (p:=r) (left:=left.filter (·≠k)) (fun a ha b hb j h1 h2=>?_) (fun y hy=>hl y (AH _ hy)) x hx;rcases h a (BN.mp ha).1 b (BN.mp hb).1 j h1 h2 with z|z
  ·by_cases e:j=k
   ·exact .inr (by rw[e];exact hl _ AM _ (Au.mpr rfl))
   exact .inl (BN.mpr ⟨z,by simpa using e⟩)
  exact .inr z
 | .msk l r,left,h,hl,x,hx=>by
  rcases AO.mp hx with rfl|hx
  ·exact h
  refine j4 (p:=r) (left:=left.filter fun k=>(aL ss k).2.2≠l) (fun a ha b hb j h1 h2=>?_) (fun y hy=>hl y (AH _ hy)) x hx;rcases h a (BN.mp ha).1 b (BN.mp hb).1 j h1 h2 with z|z
  ·by_cases e:lbl ss j=l
   ·exact .inr (by rw[e];exact hl _ AM _ (Au.mpr rfl))
   exact .inl (BN.mpr ⟨z,by simpa [lbl] using e⟩)
  exact .inr z
 | .low k a b,left,h,hl,x,hx=>by
  have hlb:∀y∈aY ss b (left.filter (k<=·)),∀l∈jh ss y.1 y.2,l∈PL:=fun y hy=>hl y (AH _ (BG _ hy));have hla:∀y∈aY ss a (left.filter (· < k)),∀l∈jh ss y.1 y.2,l∈PL:=fun y hy=>hl y (AH _ (A0 _ hy));rcases AO.mp hx with rfl|hx
  ·exact h
  rcases BC.mp hx with hx|hx
  ·refine j4 (p:=b) (fun c hc d hd j h1 h2=>?_) hlb x hx;have hc2:=(BN.mp hc);rcases h c hc2.1 d (BN.mp hd).1 j h1 h2 with z|z
   ·refine .inl (BN.mpr ⟨z,?_⟩);have:=hc2.2;simp at this |-;omega
   exact .inr z
  refine j4 (p:=a) (fun c hc d hd j h1 h2=>?_) hla x hx;have hd2:=(BN.mp hd);rcases h c (BN.mp hc).1 d hd2.1 j h1 h2 with z|z
  ·refine .inl (BN.mpr ⟨z,?_⟩);have:=hd2.2;simp at this |-;omega
  exact .inr z
noncomputable def bM:Pl->Nat->List (Nat×Nat)
 | .pick _,_=>[]
 | .tab,_=>[]
 | .one _ r,p=>bM r (p+1)
 | .wit _ r,p=>bM r (p+1)
 | .msk _ r,p=>bM r (p+1)
 | .low _ a b,p=>bM b (p+1)++(p,p+1+aX b)::bM a (p+1+aX b)
theorem zf (p:Pl):1<=aX p:=by cases p <;> simp [aX]
theorem iB:∀(q:Pl)(p:Nat),∀x∈bM q p,p<=x.1/\x.1<p+aX q/\x.1<x.2/\x.2<p+aX q
 | .pick _,p,x,hx=>by cases hx
 | .tab,p,x,hx=>by cases hx
 | .one _ r,p,x,hx=>by have:=iB r (p+1) x hx;simp only[aX];omega
 | .wit _ r,p,x,hx=>by have:=iB r (p+1) x hx;simp only[aX];omega
 | .msk _ r,p,x,hx=>by have:=iB r (p+1) x hx;simp only[aX];omega
 | .low _ a b,p,x,hx=>by
  have ha:=zf a;simp only[aX];rcases BC.mp hx with hx|hx
  ·have:=iB b (p+1) x hx;omega
  rcases AO.mp hx with rfl|hx
  ·show p<=p/\p<p+_/\p<p+1+aX b/\p+1+aX b<p+_;omega
  have:=iB a (p+1+aX b) x hx;omega
theorem jo:∀(q:Pl)(p:Nat),((bM q p).map (·.1)).Nodup
 | .pick _,p=>JJ
 | .tab,p=>JJ
 | .one _ r,p=>jo r (p+1)
 | .wit _ r,p=>jo r (p+1)
 | .msk _ r,p=>jo r (p+1)
 | .low _ a b,p=>by
  show((bM b (p+1)++(p,p+1+aX b)::bM a (p+1+aX b)).map (·.1)).Nodup;rw[BS,Dx,nodup_append,Fk];refine⟨jo b (p+1),⟨fun h=>?_,jo a _⟩,fun x hx y hy=>?_⟩
  ·obtain⟨z,hz,e⟩:=DE.mp h;have:=iB a _ z hz;omega
  obtain⟨z,hz,rfl⟩:=DE.mp hx;have h1:=iB b _ z hz;rcases AO.mp hy with hy|hy
  ·rw[hy];show z.1≠p;omega
  obtain⟨z2,hz2,rfl⟩:=DE.mp hy;have h2:=iB a _ z2 hz2;omega
noncomputable def vI:List Pl->List Nat->Nat->List (Nat×Nat)
 | [],_,_=>[]
 | c::rest,T,p=>bM c p++(match T with | []=>[]|t::T'=>match rest with | []=>[]|_::_=>(t,p+aX c)::vI rest T' (p+aX c))
theorem Dw (c r:Pl)(rest:List Pl)(t:Nat)(T:List Nat)(p:Nat):vI (c::r::rest) (t::T) p=bM c p++(t,p+aX c)::vI (r::rest) T (p+aX c):=rfl
theorem HS (c:Pl)(T:List Nat)(p:Nat):vI [c] T p=bM c p:=by
 cases T <;> exact C4 _
theorem YG {c r:Pl}{rest:List Pl}{T:List Nat}{p:Nat}(h:bM c p=bM r (p+1))(hs:aX c=aX r+1):vI (c::rest) T p=vI (r::rest) T (p+1):=by
 show bM c p++_=bM r (p+1)++_;rw[h,hs,show p+(aX r+1)=p+1+aX r by omega]
theorem Vb {k:Nat}{a b:Pl}{rest:List Pl}{T:List Nat}{p:Nat}:vI (.low k a b::rest) T p=vI (b::a::rest) (p::T) (p+1):=by
 rw[Dw];show(bM b (p+1)++(p,p+1+aX b)::bM a (p+1+aX b))++_=bM b (p+1)++(p,p+1+aX b)::(bM a (p+1+aX b)++_);rw[Da,cons_append,show p+aX (.low k a b)=p+1+aX b+aX a by simp only[aX];omega]
noncomputable def lK (ss:Sts)(k:Nat):Nat:=((aL ss k).2.1-(aL ss k).1+1).toNat
noncomputable def vN (ss:Sts)(base:Int)(l:Int)(k:Nat):Nat:=if lbl ss k=l then (2^lK ss k-1)*2^((aL ss k).1-base).toNat else 0
noncomputable def jD (ss:Sts)(base l:Int)(acc:Nat)(left:List Nat):Nat:=left.foldl (fun acc k=>acc+vN ss base l k) acc
theorem ux {ss:Sts}(r:eY ss){i j:Nat}(hij:i<j)(hj:j<ss.length):(aL ss i).2.1<(aL ss j).1:=r.lt (eE ω) (eE hj) hij
theorem iG {ss:Sts}(r:eY ss){i:Nat}(hi:i<ss.length):(aL ss i).1<=(aL ss i).2.1:=(r.lh _ _ (eE hi)).1
theorem Nf {ss:Sts}(r:eY ss){base l:Int}{k acc:Nat}(hk:k<ss.length)(hb:base<=(aL ss k).1)(ha:acc<2^((aL ss k).1-base).toNat) :
  (acc+vN ss base l k<2^((aL ss k).2.1+1-base).toNat)/\(∀i:Nat,(i:Int)<(aL ss k).1-base->(acc+vN ss base l k).testBit i=acc.testBit i)/\(∀n:Int,(aL ss k).1<=n->n<=(aL ss k).2.1->(acc+vN ss base l k).testBit (n-base).toNat=decide (lbl ss k=l)):=by
 have hle:=iG r hk;obtain⟨o,ho⟩:∃o,((aL ss k).1-base).toNat=o:=⟨_,rfl⟩;obtain⟨wd,hw⟩:∃wd,lK ss k=wd:=⟨_,rfl⟩;have ho':(aL ss k).1-base=(o:Int):=ω;have hw':(aL ss k).2.1-(aL ss k).1+1=(wd:Int):=by unfold lK at hw;omega
 have e1:((aL ss k).2.1+1-base).toNat=o+wd:=ω;rw[ho] at ha;have pw:2^(o+wd)=2^o*2^wd:=Nat.pow_add 2 o wd;have p1:1<=2^wd:=Nat.one_le_two_pow;unfold vN;rw[ho,hw,e1];by_cases c:lbl ss k=l
 ·rw[if_pos c];have ec:acc+(2^wd-1)*2^o=2^o*(2^wd-1)+acc:=by rw[Nat.mul_comm,add_comm]
  rw[ec];refine⟨?_,fun i hi=>?_,fun n h1 h2=>?_⟩
  ·rw[pw,Nat.mul_sub,Nat.mul_one];have:2^o<=2^o*2^wd:=Nat.le_mul_of_pos_right _ p1;omega
  ·rw[Nat.testBit_two_pow_mul_add _ ha,if_pos ω]
  rw[Nat.testBit_two_pow_mul_add _ ha,if_neg ω,Nat.testBit_two_pow_sub_one,decide_eq_true ω,decide_eq_true c]
 rw[if_neg c,Nat.add_zero];have hlt:acc<2^(o+wd):=AX ha (DU δ ω);refine⟨hlt,fun i hi=>rfl,fun n h1 h2=>?_⟩;rw[decide_eq_false c];exact HU (AX ha (DU δ ω))
theorem Ir {ss:Sts}(r:eY ss){base l:Int}:∀(left:List Nat)(acc:Nat),left.Pairwise (· < ·)->(∀k∈left,k<ss.length/\base<=(aL ss k).1/\acc<2^((aL ss k).1-base).toNat) ->
  (∀i:Nat,(∀k∈left,(i:Int)<(aL ss k).1-base)->(jD ss base l acc left).testBit i=acc.testBit i) /\
  (∀k∈left,∀n:Int,(aL ss k).1<=n->n<=(aL ss k).2.1->(jD ss base l acc left).testBit (n-base).toNat=decide (lbl ss k=l)) /\
  (∀e:Int,base<=e->acc<2^(e-base).toNat->(∀k∈left,(aL ss k).2.1<e)->jD ss base l acc left<2^(e-base).toNat)
 | [],acc,_,_=>⟨fun i _=>rfl,fun k hk=>absurd hk BE,fun e _ h _=>h⟩
 | a::left,acc,hp,h=>by
  obtain⟨ha,hb,hacc⟩:=h a AM;obtain⟨b1,b2,b3⟩:=Nf r (l:=l) ha hb hacc;have hp':=CF.mp hp;have nx:∀k∈left,(aL ss a).2.1+1<=(aL ss k).1:=fun k hk=>by
   have:=ux r (hp'.1 k hk) (h k (AH _ hk)).1;omega
  obtain⟨i1,i2,i3⟩:=Ir r (base:=base) (l:=l) left (acc+vN ss base l a) hp'.2 (fun k hk=>by
   obtain⟨g1,g2,g3⟩:=h k (AH _ hk);refine⟨g1,g2,AX b1 (DU δ ?_)⟩;have:=nx k hk;omega)
  have hle:=iG r ha;refine⟨fun i hi=>?_,fun k hk n h1 h2=>?_,fun e he hae hk=>?_⟩
  ·show(jD ss base l (acc+vN ss base l a) left).testBit i=_;rw[i1 i fun k hk=>hi k (AH _ hk),b2 i (hi a AM)]
  ·show(jD ss base l (acc+vN ss base l a) left).testBit _=_;rcases AO.mp hk with rfl|hk
   ·rw[i1 _ fun j hj=>by have:=nx j hj;omega];exact b3 n h1 h2
   exact i2 k hk n h1 h2
  show jD ss base l (acc+vN ss base l a) left<_;refine i3 e he (AX b1 (DU δ ?_)) fun k hk'=>hk k (AH _ hk');have:=hk a AM;omega
noncomputable def bO (left:List Nat):Nat:=left.head?.getD 0
noncomputable def dZ (left:List Nat):Nat:=left.getLast?.getD 0
theorem eV {left:List Nat}(h:left.Pairwise (· < ·)):∀k∈left,bO left<=k:=by
 cases left with
 | nil=>intro k hk;cases hk
 | cons a l=>
  intro k hk;show a<=k;rcases AO.mp hk with rfl|hk
  ·exact A6 _
  exact le_of_lt ((CF.mp h).1 k hk)
theorem qw {left:List Nat}(h:left.Pairwise (· < ·)):∀k∈left,k<=dZ left:=by
 intro k hk;obtain⟨a,b,rfl⟩:=nu left (C0.mpr (lz hk));unfold dZ;rw[IA];show k<=b;rw[C3] at h;rcases BC.mp hk with z|z
 ·exact le_of_lt (h.2.2 k z b (Au.mpr rfl))
 rw[Au.mp z];exact A6 _
theorem jn {left:List Nat}(h:left≠[]):bO left∈left:=by
 cases left with
 | nil=>exact absurd rfl h
 | cons a l=>exact AM
theorem dU {left:List Nat}(h:left≠[]):dZ left∈left:=by
 obtain⟨a,b,rfl⟩:=nu left (C0.mpr h);unfold dZ;rw[IA];simp
noncomputable def bL (ss:Sts)(left:List Nat):Int:=(aL ss (bO left)).1
noncomputable def lW (ss:Sts)(left:List Nat)(l:Int):Nat:=jD ss (bL ss left) l 0 left
theorem jO (ss:Sts)(left:List Nat):eF ss left=(aL ss (dZ left)).2.1-(aL ss (bO left)).1+1:=rfl
theorem cX {ss:Sts}(r:eY ss){i j:Nat}(hij:i<=j)(hj:j<ss.length):(aL ss i).1<=(aL ss j).1/\(aL ss i).2.1<=(aL ss j).2.1:=by
 rcases E3 i j with z|z
 ·have h1:=ux r z hj;have h2:=iG r hj;have h3:=iG r (i:=i) ω;omega
 have:i=j:=by omega
 rw[this];omega
theorem wI {ss:Sts}(r:eY ss){left:List Nat}(lf:Lf ss left)(l:Int) :
  (∀k∈left,∀n:Int,(aL ss k).1<=n->n<=(aL ss k).2.1->(lW ss left l).testBit (n-bL ss left).toNat=decide (lbl ss k=l))/\lW ss left l<2^(eF ss left).toNat:=by
 have hb:=Ir r (base:=bL ss left) (l:=l) left 0 lf.up (fun k hk=>⟨lf.lt k hk,(cX r (eV lf.up k hk) (lf.lt k hk)).1,F9 _⟩);refine⟨hb.2.1,?_⟩;have hl:=dU lf.ne;have h1:=(cX r (eV lf.up _ hl) (lf.lt _ hl)).1;have h2:=iG r (lf.lt _ hl);have:=hb.2.2 ((aL ss (dZ left)).2.1+1) (by unfold bL;omega) (F9 _) fun k hk=>by
  have:=(cX r (qw lf.up k hk) (lf.lt _ hl)).2;omega
 rw[show(eF ss left).toNat=((aL ss (dZ left)).2.1+1-bL ss left).toNat by rw[jO];unfold bL;omega];exact this
noncomputable def gZ (ss:Sts)(g:Int->Int):Nat->Nat->List Int
 | _,0=>[]
 | a,m+1=>A5 (lK ss a) (g (lbl ss a))++gZ ss g (a+1) m
theorem xT (ss:Sts)(g:Int->Int):∀(m a:Nat),gZ ss g a (m+1)=gZ ss g a m++A5 (lK ss (a+m)) (g (lbl ss (a+m)))
 | 0,a=>by show A5 _ _++[]=[]++_;rw[C4,GO];rfl
 | m+1,a=>by
  show A5 _ _++gZ ss g (a+1) (m+1)=(A5 _ _++gZ ss g (a+1) m)++_;rw[xT ss g m (a+1),Da,show a+1+m=a+(m+1) by omega]
theorem tX {ss:Sts}(r:eY ss)(g:Int->Int):∀(m a:Nat),a+m+1<=ss.length->((gZ ss g a (m+1)).length:Int)=(aL ss (a+m)).2.1-(aL ss a).1+1
 | 0,a,h=>by
  have:=iG r (i:=a) ω;show((A5 _ _++[]).length:Int)=_;rw[C4,DB];unfold lK;rw[Nat.add_zero];omega
 | m+1,a,h=>by
  have ih:=tX r g m (a+1) ω;have h1:=iG r (i:=a) ω;have h2:=r.nx a _ _ (eE ω) (eE (k:=a+1) ω);show((A5 _ _++gZ ss g (a+1) (m+1)).length:Int)=_;rw[AR,DB];unfold lK;rw[show a+(m+1)=a+1+m by omega];omega
theorem rC {ss:Sts}(r:eY ss)(g:Int->Int):∀(m a:Nat),a+m<=ss.length->∀k:Nat,a<=k->k<a+m->∀n:Int,(aL ss k).1<=n->n<=(aL ss k).2.1->(gZ ss g a m)[(n-(aL ss a).1).toNat]?=some (g (lbl ss k))
 | 0,a,_,k,h1,h2,_,_,_=>by omega
 | m+1,a,h,k,h1,h2,n,n1,n2=>by
  have hle:=iG r (i:=a) ω;show(A5 (lK ss a) (g (lbl ss a))++gZ ss g (a+1) m)[_]?=_;rcases E3 a k with z|z
  ·have hnx:=r.nx a _ _ (eE ω) (eE (k:=a+1) ω);have hlt:=ux r z ω;have ih:=rC r g m (a+1) ω k ω ω n n1 n2;rw[BH (by rw[DB];unfold lK;omega),DB,show(n-(aL ss a).1).toNat-lK ss a=(n-(aL ss (a+1)).1).toNat by unfold lK;omega];exact ih
  have e:k=a:=ω;subst e;rw[C8 (by rw[DB];unfold lK;omega),List.getElem?_replicate,if_pos (by unfold lK;omega)]
theorem Ai (ss:Sts)(g:Int->Int):∀(m a:Nat)(x:Int),x∈gZ ss g a m->∃k,a<=k/\k<a+m/\x=g (lbl ss k)
 | 0,a,x,h=>by cases h
 | m+1,a,x,h=>by
  rcases BC.mp h with z|z
  ·exact⟨a,A6 _,ω,List.eq_of_mem_replicate z⟩
  obtain⟨k,h1,h2,h3⟩:=Ai ss g m (a+1) x z;exact⟨k,ω,ω,h3⟩
noncomputable def jM (ss:Sts)(g:Int->Int)(left:List Nat):List Int:=gZ ss g (bO left) (dZ left-bO left+1)
theorem lB {ss:Sts}(r:eY ss)(g:Int->Int){left:List Nat}(lf:Lf ss left):((jM ss g left).length:Int)=eF ss left:=by
 have hl:=lf.lt _ (dU lf.ne);have hle:=qw lf.up _ (jn lf.ne);unfold jM;rw[tX r g _ _ ω,jO,show bO left+(dZ left-bO left)=dZ left by omega]
noncomputable def dgQ (x y:V)(H:Hp)(Q:VK):Prop:=∃a v,x=.ref a/\mO H a y (some v)/\Q v H
noncomputable def tDG (td ty:TE):TE:=fun σ H Q=>td σ H fun x H1=>ty σ H1 fun y H2=>dgQ x y H2 Q
theorem ZJ (td ty:TE)(σ:St)(H:Hp)(Q:VK):tDG td ty σ H Q=td σ H fun x H1=>ty σ H1 fun y H2=>dgQ x y H2 Q:=rfl
noncomputable def dpQ (x y v:V)(H:Hp)(R:Hp->Prop):Prop:=∃a H4,x=.ref a/\KY H a y v H4/\R H4
noncomputable def sDP (td ty tv:TE):TS:=fun D σ H=>tv σ H fun v H1=>td σ H1 fun x H2=>ty σ H2 fun y H3=>dpQ x y v H3 fun H4=>D.nx σ H4
theorem ZS (td ty tv:TE)(D:Ends)(σ:St)(H:Hp):sDP td ty tv D σ H=tv σ H fun v H1=>td σ H1 fun x H2=>ty σ H2 fun y H3=>dpQ x y v H3 fun H4=>D.nx σ H4:=rfl
section
variable {X:Cx}{o i e value:Expr}{pos pos' tpos:Pos}{td ty tv:TE}
theorem Lz (hu:X.A.units+1<EI)(ho:QE X o td)(hi:QE X i ty)(hs:abA i):QE X (.Subscript o i pos) (tDG td ty):=⟨XQ hu ho.h hi.h hs⟩
theorem Zk (hu:X.A.units+1<EI)(ho:QE X o td)(hi:QE X i ty)(hv:QE X value tv)(hs:FO value (some (.Subscript o i pos')) pos.line X.env=pure false) :
  QS X (.Assign [.Subscript o i pos'] value pos) (sDP td ty tv):=⟨Xm hu ho.h hi.h hv.h hs⟩
end
noncomputable def rdA:=AB @ZJ @ZS
noncomputable def KJ (h:Heap)(its:List An)(ks:List (List Int)):Prop:=∀(j:Nat) v,its[j]?=some v->∃t vs k,v=An.ref t/\IsTup h t vs/\ks[j]?=some k/\Fh vs.toList k
theorem abM {prog:AW}{w:BB}{A:Bi}{E:An->AA->Prop}{s:AA}{l b:Addr}{items items2:Array An}{ns ms:List Int}{Q:An->AA->Prop}(hl:IsTup s.heap l items)(hb:IsTup s.heap b items2)(hi:Fh items.toList ns)(hj:Fh items2.toList ms)
  (hu:A.units<EI) (h:Q (.bool (HT.lexLt ns ms)) s):AK (AN prog w) A (richCompare .Lt (.ref l) (.ref b)) Q E s:=by
 obtain⟨⟨cls,dd,data,sl⟩,ho,hc,n,hd⟩:=id hl;obtain⟨⟨cls2,dd2,data2,sl2⟩,ho2,hc2,n2,hd2⟩:=id hb;simp only at hc hd hc2 hd2;subst hc hd hc2 hd2;exact richCompare_meets_room (op:=.Lt) ⟨_,ho,rfl⟩ ⟨_,ho2,rfl⟩ PySem.F.slot_tuple_lt PySem.F.entry_tuple_lt (PySem.F.args_tuple_lt_2 _ _) (HT.Bl l b items items2 n n2 dd dd2 sl sl2 ns ms hi hj)
  ⟨ho,ho2,show An.bool (HT.lexLt ns ms)≠An.notImplemented/\Q (.bool (HT.lexLt ns ms)) s from⟨(fun x=>nomatch x),h⟩⟩ hu
noncomputable def btT (ks:List (List Int))(i j:Nat):Bool:=HT.lexLt (ks.getD i []) (ks.getD j [])
theorem wH {prog:AW}{w:BB}{A:Bi}{R:Result->AA->Prop}{it b l:Addr}{its:List An}{ks:List (List Int)}(hh:A.handled=none) (hu:(A.under (DM "min.loop" { pos:=[An.ref it,An.none,An.ref b] })).units<EI) (ib:it≠b) (li:l≠it) (lb:l≠b) (ti:∀t,An.ref t∈its->t≠it/\t≠b) :
  ∀(m i:Nat)(s:AA),its.length-i=m->1<=i->i<=its.length->s.heap.IsListIter it l i->s.heap.IsList l its.toArray->KJ s.heap its ks->(∃k v,s.heap.get? b=some { cls:=An.type "list",data:=HA #[v,v] k }/\its[D3 (btT ks) (i-1)]?=some v) ->
   (∀(h':Heap)(v:An),(∀c o,c≠it->c≠b->s.heap.get? c=some o->h'.get? c=some o)->its[D3 (btT ks) (its.length-1)]?=some v->R (.ok (.ret v)) { s with heap:=h' }) ->
   HL (AN prog w) A (DM "min.loop" { pos:=[An.ref it,An.none,An.ref b] }) R s
 | 0,i,s,hm,h1,h2,hit,hl,tu,⟨k,v,ho,hv⟩,hR=>by
  have hi:i=its.length:=ω;subst hi;refine IB F.entry_min_loop ?_;show AK _ _ (seqItems? (An.ref b) >>= _) _ _ _;refine Ap (GV ho rfl ?_);refine Ap (IP (wpAny_pyNext_list_end (A:=A.under _) hh hit hl (by simp) fun h' ext=>?_));show AK _ _ (updateSeq b _ >>= _) _ _ _;refine Ap (wpAny_updateSeq (s:={ s with heap:=h' }) (ext b _ (Ch ib) ho) rfl ?_ (by show 2<=AQ;decide) (by show 0<=AQ+1;decide));refine Ap (IQ (AE ?_));refine hR _ v (fun c q c1 c2 e=>?_) hv;exact(BF _ _ (Ch c2)).trans (ext c q c1 e)
 | m+1,i,s,hm,h1,h2,hit,hl,tu,⟨k,v,ho,hv⟩,hR=>by
  have hi:i<its.length:=ω;have hx:its[i]?=some its[i]:=AC hi;refine IB F.entry_min_loop ?_;show AK _ _ (seqItems? (An.ref b) >>= _) _ _ _;refine Ap (GV ho rfl ?_);refine Ap (IP (HK (A:=A.under _) hit hl (by rw[FY];exact hx) fun h' hit' sb=>?_));obtain⟨t1,v1,k1,e1,p1,g1,n1⟩:=tu i _ hx;obtain⟨t2,v2,k2,e2,p2,g2,n2⟩:=tu _ _ hv;rw[e1];subst e2;have up:∀{c o},c≠it->s.heap.get? c=some o->h'.get? c=some o:=fun {c o} hc e=>(sb.2 c hc).trans e;have m1:=ti t1 (by rw[<- e1];exact A2 hx);have m2:=ti t2 (A2 hv);have p1':IsTup h' t1 v1:=by obtain⟨o,e,r⟩:=p1;exact⟨o,up m1.1 e,r⟩
  have p2':IsTup h' t2 v2:=by obtain⟨o,e,r⟩:=p2;exact⟨o,up m2.1 e,r⟩
  show AK _ _ (pure (An.ref t1) >>= _) _ _ _;refine Ap (AE ?_);have gi:ks.getD i []=k1:=by rw[Cf,g1];rfl
  have ga:ks.getD (D3 (btT ks) (i-1)) []=k2:=by rw[Cf,g2];rfl
  have ab:D3 (btT ks) i=if HT.lexLt k1 k2=true then i else D3 (btT ks) (i-1):=by
   obtain⟨j,rfl⟩:∃j,i=j+1:=⟨i-1,ω⟩;rw[show j+1=j.succ from rfl,D3.eq_2];show(if HT.lexLt (ks.getD (j+1) []) (ks.getD (D3 (btT ks) j) [])=true then _ else _)=_;rw[gi,show D3 (btT ks) j=D3 (btT ks) (j.succ-1) from rfl,ga]
  refine Ap (IP (B8 (Ap (abM (A:=A.under _) (s:={ s with heap:=h' }) p1' p2' n1 n2 hu ?_))));refine Ap (B8 (C9 (Ap (IQ (AE ?_)))));have hl':h'.IsList l its.toArray:=by obtain⟨o,e,r⟩:=hl;exact⟨o,up li e,r⟩
  cases hb:HT.lexLt k1 k2 with
  | true=>
   refine DF rfl ?_;refine Ap (wpAny_updateSeq (s:={ s with heap:=h' }) (up (Ch ib) ho) rfl ?_ (by show 2<=AQ;decide) (by show 2<=AQ+1;decide));refine Ap (IQ (AE ⟨D0 _ ψ,?_⟩));have up2:∀{c o},c≠it->c≠b->s.heap.get? c=some o->(h'.update b (CH fun _=>#[An.ref t1,An.ref t1])).get? c=some o:=fun {c o} c1 c2 e=>(BF _ _ (Ch c2)).trans (up c1 e);refine wH hh hu ib li lb ti m (i+1) _ ω ω ω (hit'.at fun o e=>(BF _ _ (Ch ib)).trans e) (by obtain⟨o,e,r⟩:=hl;exact⟨o,up2 li lb e,r⟩) (fun j v hj=>?_) ⟨_,An.ref t1,FX (up (Ch ib) ho) (fun _=>#[An.ref t1,An.ref t1]),?_⟩ fun h3 v3 k3 e3=>hR h3 v3 (fun c o c1 c2 e=>k3 c o c1 c2 (up2 c1 c2 e)) e3
   ·obtain⟨t,vs,k,q1,q2,q3⟩:=tu j v hj;have mt:=ti t (by rw[<- q1];exact A2 hj);refine⟨t,vs,k,q1,?_,q3⟩;obtain⟨o,e,r⟩:=q2;exact⟨o,up2 mt.1 mt.2 e,r⟩
   rw[FG,ab,hb,if_pos rfl,hx,e1]
  | false=>
   refine BD rfl ?_;refine Ap (IQ (AE ⟨D0 _ ψ,?_⟩));refine wH hh hu ib li lb ti m (i+1) _ ω ω ω hit' hl' (fun j v hj=>?_) ⟨k,_,up (Ch ib) ho,?_⟩ fun h3 v3 k3 e3=>hR h3 v3 (fun c o c1 c2 e=>k3 c o c1 c2 (up c1 e)) e3
   ·obtain⟨t,vs,k,q1,q2,q3⟩:=tu j v hj;have mt:=ti t (by rw[<- q1];exact A2 hj);refine⟨t,vs,k,q1,?_,q3⟩;obtain⟨o,e,r⟩:=q2;exact⟨o,up mt.1 e,r⟩
   rw[FG,ab,hb,if_neg AY];exact hv
theorem JZ {prog:AW}{w:BB}{A:Bi}{R:Result->AA->Prop}{it b l:Addr}{its:List An}{ks:List (List Int)}{s:AA}{k:Nat}(hh:A.handled=none) (hu:(A.under (DM "min.loop" { pos:=[An.ref it,An.none,An.ref b] })).units<EI) (ib:it≠b) (li:l≠it) (lb:l≠b) (ti:∀t,An.ref t∈its->t≠it/\t≠b)
  (h1:0<its.length) (hit:s.heap.IsListIter it l 0) (hl:s.heap.IsList l its.toArray) (tu:KJ s.heap its ks) (ho:s.heap.get? b=some { cls:=An.type "list",data:=HA #[] k })
  (hR:∀(h':Heap)(v:An),(∀c o,c≠it->c≠b->s.heap.get? c=some o->h'.get? c=some o)->its[D3 (btT ks) (its.length-1)]?=some v->R (.ok (.ret v)) { s with heap:=h' }) :
  HL (AN prog w) A (DM "min.loop" { pos:=[An.ref it,An.none,An.ref b] }) R s:=by
 have hx:its[0]?=some its[0]:=AC h1;refine IB F.entry_min_loop ?_;show AK _ _ (seqItems? (An.ref b) >>= _) _ _ _;refine Ap (GV ho rfl ?_);refine Ap (IP (HK (A:=A.under _) hit hl (by rw[FY];exact hx) fun h' hit' sb=>?_));have up:∀{c o},c≠it->s.heap.get? c=some o->h'.get? c=some o:=fun {c o} hc e=>(sb.2 c hc).trans e;show AK _ _ (pure its[0] >>= _) _ _ _;refine Ap (AE ?_);show AK _ _ (updateSeq b (fun _=>#[its[0],its[0]]) >>= _) _ _ _;refine Ap (wpAny_updateSeq (s:={ s with heap:=h' }) (up (Ch ib) ho) rfl ?_ (by show 0<=AQ;decide) (by show 2<=AQ+1;decide));refine AE ⟨D0 _ ψ,?_⟩;have up2:∀{c o},c≠it->c≠b->s.heap.get? c=some o->(h'.update b (CH fun _=>#[its[0],its[0]])).get? c=some o:=fun {c o} c1 c2 e=>(BF _ _ (Ch c2)).trans (up c1 e);refine wH hh hu ib li lb ti (its.length-1) 1 _ ω ω ω (hit'.at fun o e=>(BF _ _ (Ch ib)).trans e) (by obtain⟨o,e,r⟩:=hl;exact⟨o,up2 li lb e,r⟩) (fun j v hj=>?_) ⟨_,its[0],FX (up (Ch ib) ho) (fun _=>#[its[0],its[0]]),hx⟩ fun h3 v3 k3 e3=>hR h3 v3 (fun c o c1 c2 e=>k3 c o c1 c2 (up2 c1 c2 e)) e3;obtain⟨t,vs,k,q1,q2,q3⟩:=tu j v hj;have mt:=ti t (by rw[<- q1];exact A2 hj);refine⟨t,vs,k,q1,?_,q3⟩;obtain⟨o,e,r⟩:=q2;exact⟨o,up2 mt.1 mt.2 e,r⟩
noncomputable def pk (c:Int×Int):List Int:=[c.1,c.2]
noncomputable def LeP (a b:Int×Int):Prop:=a.1<b.1\/(a.1=b.1/\a.2<=b.2)
theorem LeP.refl (a:Int×Int):LeP a a:=.inr ⟨rfl,CS _⟩
theorem LeP.trans {a b c:Int×Int}(h:LeP a b)(k:LeP b c):LeP a c:=by unfold LeP at *;omega
theorem aa2 (a b:Int×Int):(HT.lexLt (pk a) (pk b)=true->LeP a b)/\(HT.lexLt (pk a) (pk b)=false->LeP b a):=by
 unfold pk;rw[HT.tU,HT.tU,HT.sI];by_cases h:a.1=b.1
 ·rw[if_pos h];by_cases h2:a.2=b.2
  ·rw[if_pos h2];exact⟨fun q=>(by cases q),fun _=>.inr ⟨h.symm,ω⟩⟩
  rw[if_neg h2];exact⟨fun q=>by have:=of_decide_eq_true q;exact .inr ⟨h,ω⟩,fun q=>by have:=of_decide_eq_false q;exact .inr ⟨h.symm,ω⟩⟩
 rw[if_neg h];exact⟨fun q=>by have:=of_decide_eq_true q;exact .inl ω,fun q=>by have:=of_decide_eq_false q;exact .inl ω⟩
theorem Ng (cs:List (Int×Int)):∀k,k<cs.length->∃c,cs[D3 (btT (cs.map pk)) k]?=some c/\D3 (btT (cs.map pk)) k<=k/\∀(j:Nat) c',j<=k->cs[j]?=some c'->LeP c c'
 | 0,h=>⟨cs[0],by rw[D3.eq_1];exact AC h,A6 _,fun j c' hj e=>by
   have:j=0:=by omega
   subst this;rw[AC h] at e;cases e;exact LeP.refl _⟩
 | k+1,h=>by
  obtain⟨c,e,hle,hm⟩:=Ng cs k ω;have gk:(cs.map pk).getD (k+1) []=pk cs[k+1]:=by
   rw[Cf,A4,AC h];rfl
  have ga:(cs.map pk).getD (D3 (btT (cs.map pk)) k) []=pk c:=by
   rw[Cf,A4,e];rfl
  have eq:D3 (btT (cs.map pk)) (k+1)=if HT.lexLt (pk cs[k+1]) (pk c)=true then k+1 else D3 (btT (cs.map pk)) k:=by
   refine(D3.eq_2 _ _).trans ?_;show(if HT.lexLt ((cs.map pk).getD (k+1) []) ((cs.map pk).getD (D3 (btT (cs.map pk)) k) [])=true then _ else _)=_;rw[gk,ga]
  obtain⟨l1,l2⟩:=aa2 cs[k+1] c;cases hb:HT.lexLt (pk cs[k+1]) (pk c) with
  | true=>
   rw[hb,if_pos rfl] at eq;rw[eq];refine⟨cs[k+1],AC h,A6 _,fun j c' hj ej=>?_⟩;rcases E3 k j with z|z
   ·have:j=k+1:=by omega
    subst this;rw[AC h] at ej;cases ej;exact LeP.refl _
   exact(l1 hb).trans (hm j c' z ej)
  | false=>
   rw[hb,if_neg AY] at eq;rw[eq];refine⟨c,e,ω,fun j c' hj ej=>?_⟩;rcases E3 k j with z|z
   ·have:j=k+1:=by omega
    subst this;rw[AC h] at ej;cases ej;exact l2 hb
   exact hm j c' z ej
section
variable {X:Cx}
theorem Qg (hc:X.calm=true) (hu:∀as,(X.A.under (DM "min.loop" as)).units<EI):fO X (.builtin "min") (fun xs H Q=>∃(p:Addr)(ts:List Addr)(cs:List (Int×Int)),xs=[.ref p]/\H p=some (.lst (ts.map V.ref))/\ts.length=cs.length/\(∀(j:Nat) t c,ts[j]?=some t->cs[j]?=some c->H t=some (.tup [.int c.1,.int c.2]))/\ts≠[] /\
  ∀(m:Nat) t c,ts[m]?=some t->cs[m]?=some c->(∀c'∈cs,LeP c c')->Q (.ref t) H):=by
 intro pins s σ H xs us Q I r h;obtain⟨p,ts,cs,rfl,hp,hlen,ht,hne,q⟩:=h;obtain⟨u,rfl,rv⟩:=vals1 r;cases rv;have hpos:0<ts.length:=C0.mpr hne;obtain⟨its,rvs,pl,hz⟩:=I.list (SqL.of hp);have hl:=rvs.length;rw[AI] at hl;have pl':s.heap.IsList p its.toArray:=pl.isList;have hlt:p<s.heap.objs.size:=by obtain⟨_,e,_⟩:=pl';exact A3 e
 have itsat:∀(j:Nat) v,its[j]?=some v->∃t c,ts[j]?=some t/\cs[j]?=some c/\v=An.ref t/\H t=some (.tup [.int c.1,.int c.2]):=fun j v hj=>by
  have hj':j<its.length:=(AG.mp hj).1;have hx:(ts.map V.ref)[j]?=some (V.ref (ts[j]'ω)):=by rw[A4,AC ω];rfl
  obtain⟨u,hu,ru⟩:=rvs.get hx;rw[hj] at hu;cases hu;cases ru;exact⟨_,cs[j]'ω,AC ω,AC ω,rfl,ht j _ _ (AC ω) (AC ω)⟩
 have tups:KJ s.heap its (cs.map pk):=fun j v hj=>by
  obtain⟨t,c,_,e2,rfl,e4⟩:=itsat j v hj;obtain⟨vs,rv2,pt,_⟩:=I.tuple (SqT.of e4);refine⟨t,vs.toArray,pk c,rfl,pt,by rw[A4,e2];rfl,?_⟩;cases rv2 with
  | cons r1 rr=>
   cases rr with
   | cons r2 rr=>
    cases rr;obtain⟨t1,rfl⟩:=r1;obtain⟨t2,rfl⟩:=r2;exact .cons _ _ (.cons _ _ .nil)
 refine call_function_tree F.kind_min F.plain_min F.entry_min (F.args_min1 _) ?_;refine Ap (B3 (show _=pure [none,none] from rfl) ?_);refine Ap (AE ?_);refine Ap (D8 pl' ?_);refine Ap (B6 ?_);refine AE ⟨D0 _ ψ,?_⟩;have z1:(s.heap.push { cls:=An.type "list_iterator",data:=A8 #[An.ref p,An.int 0 0] }).objs.size=s.heap.objs.size+1:=D5 ..;have old:∀c o,s.heap.get? c=some o->((s.heap.push { cls:=An.type "list_iterator",data:=A8 #[An.ref p,An.int 0 0] }).push { cls:=An.type "list",data:=HA #[] }).get? c=some o:=fun c o e=>AF _ (AF _ e);have ne0:∀{c o},s.heap.get? c=some o->c≠s.heap.objs.size:=fun {c o} e=>BO (A3 e);have ne1:∀{c o},s.heap.get? c=some o->c≠(s.heap.push { cls:=An.type "list_iterator",data:=A8 #[An.ref p,An.int 0 0] }).objs.size:=fun {c o} e z=>by
  rw[z1] at z;have:=A3 e;rw[z] at this;exact absurd this (not_lt.mpr (le_succ _))
 have tgt:∀t,An.ref t∈its->∃o,s.heap.get? t=some o:=fun t ht'=>by
  obtain⟨j,hj⟩:=F0.mp ht';obtain⟨t',vs,k,q1,⟨o,e,_⟩,_⟩:=tups j _ hj;cases q1;exact⟨o,e⟩
 refine JZ (l:=p) (its:=its) (ks:=cs.map pk) (k:=0) (A:=X.A) (I.ok.hd hc) (hu _) ?_ (BO hlt) ?_ (fun t ht'=>?_) ω ⟨_,AF _ (BA _ rfl),rfl,rfl⟩ ?_ (fun j v hj=>?_) (BA _ rfl) fun h' v kp hv=>?_
 ·rw[z1];exact BO (Db _)
 ·obtain⟨_,e,_⟩:=pl';exact ne1 e
 ·obtain⟨o,e⟩:=tgt t ht';exact⟨ne0 e,ne1 e⟩
 ·obtain⟨o,e,r⟩:=pl';exact⟨o,old _ _ e,r⟩
 ·obtain⟨t,vs,k,q1,⟨o,e,r⟩,q3⟩:=tups j v hj;exact⟨t,vs,k,q1,⟨o,old _ _ e,r⟩,q3⟩
 obtain⟨c,e1,e2,e3⟩:=Ng cs (its.length-1) ω;obtain⟨t,c',g1,g2,rfl,g4⟩:=itsat _ v hv;rw[e1] at g2;cases g2;refine⟨.ref t,H,I.kept (t':=s.toks) fun b o e=>kp b o (ne0 e) (ne1 e) (old b o e),rfl,q _ t c g1 e1 fun c' hc'=>?_⟩;obtain⟨j,hj⟩:=F0.mp hc';have:=(AG.mp hj).1;exact e3 j c' ω hj
end
noncomputable def slc (ws:List Int)(i j:Nat):List Int:=(ws.drop i).take (j-i)
inductive Tr:List Int->Int->Prop
 | leaf (w:Int):Tr [w] 0
 | node {a b:List Int} {x y:Int}:Tr a x->Tr b y->Tr (a++b) ((a++b).sum+(x+y))
inductive PTr (ss:Sts)(ws:List Int):Nat->Nat->Pl->Int->Prop
 | leaf {i:Nat}:i<ss.length->PTr ss ws i (i+1) (.pick (aL ss i).2.2) 0
 | node {i k j:Nat} {a b:Pl} {x y:Int}:i<k->k<j->PTr ss ws i k a x->PTr ss ws k j b y->PTr ss ws i j (.low k a b) ((slc ws i j).sum+(x+y))
theorem gh.acQ {k:Nat}{A:Bi}(r:gh k A) (as:Args):(A.under (DM "min.loop" as)).units<EI:=by
 have:=r.un;show A.units+(DM "min.loop" as).cUnits<EI;have e:(DM "min.loop" as).cUnits<=60:=by
  show 1+3*(DM "min.loop" as).frames<=60;have:(DM "min.loop" as).frames=0:=by rfl
  omega
 omega
noncomputable def key2 (a b:Int):List Key:=[B1 a,B1 b]
theorem Fe {M:Kk}{A:Bi}{E:An->AA->Prop}{s:AA}{base:Heap}{env:Env}{outer:List Env}{L e:Addr}{oe:Obj}{vs:Array An}{head:An}{b0:Bool}{Q:Unit->AA->Prop}(hfr:A.frames=some (env::outer))(hl:s.heap.FunFrames base (env::outer))(hf:env.frame=some L)
  (he:s.heap.get? e=some oe) (hd:oe.data=A8 vs) (h1s:1<vs.size) (hen:e∉BI (fun x=>x.frame) (env::outer))
  (hQ:∀(h':Heap)(T:Addr)(ts:Array An),h'.get? e=some { cls:=oe.cls,dict:=oe.dict,data:=A8 (vs.setIfInBounds 1 (An.ref T)),slots:=oe.slots }->h'.get? T=some { cls:=An.type "traceback",data:=A8 ts }->ts[3]?=some (EC L)->T≠e->s.heap.objs.size<=T ->
   (∀b o,b≠e->b∉BI (fun x=>x.frame) (env::outer)->s.heap.get? b=some o->h'.get? b=some o)->(∀b o,b∈BI (fun x=>x.frame) (env::outer)->s.heap.get? b=some o->∃sl,h'.get? b=some { cls:=o.cls,dict:=o.dict,data:=o.data,slots:=sl })->Q () { s with heap:=h' }) :
  AK M A (do
   let a <- PySem.frameOf env
   let pl <- entryPlaceOf L b0
   let b <- EntryCells.newEntry head a An.none (EC ↑L) An.none pl
   setField (An.ref e) 1 b) Q E s:=by
 refine Ap (wpAny_frameOf_fun hfr hl hf fun h₁ so=>?_);refine Ap (wpAny_entryPlaceOf fun pl hpl=>?_);have he1:h₁.get? e=some oe:=(so.2.1 e hen).trans he;refine Ap ?_;unfold EntryCells.newEntry newFields;refine B6 ?_ ?_
 ·have he2:=AF (h:=h₁) { cls:=An.type "traceback",data:=A8 ([head,An.ref L,An.none,EC ↑L,An.none]++if pl.isEmpty=true then A5 6 An.none else pl).toArray } he1;refine wpAny_setField (s:={ s with heap:=h₁.push { cls:=An.type "traceback",data:=A8 ([head,An.ref L,An.none,EC ↑L,An.none]++if pl.isEmpty=true then A5 6 An.none else pl).toArray } }) he2 hd h1s ?_;have hne:h₁.objs.size≠e:=fun z=>by
   have:=A3 he1;rw[z] at this;exact CU _ this
  refine hQ _ h₁.objs.size ([head,An.ref L,An.none,EC ↑L,An.none]++if pl.isEmpty=true then A5 6 An.none else pl).toArray ?_ ?_ (by simp) hne (by rw[so.1];exact A6 _) (fun b o hb hbf g=>?_) (fun b o hbf g=>?_)
  ·have:=FV (f:=Obj.mapFields fun x=>x.setIfInBounds 1 (An.ref h₁.objs.size)) he2 ?_
   ·rw[this];obtain⟨c,d,dt,sl⟩:=oe;cases hd;rfl
   obtain⟨c,d,dt,sl⟩:=oe;cases hd;rfl
  ·refine(BF _ _ hne.symm).trans ?_;exact BA _ rfl
  ·refine(BF _ _ (Ch hb)).trans (AF _ ((so.2.1 b hbf).trans g))
  obtain⟨sl,q⟩:=so.2.2 b o g;refine⟨sl,(BF _ _ fun z=>hen (by rw[z];exact hbf)).trans (AF _ q)⟩
 have hp:=hpl;unfold IsPlace at hp;show([head,An.ref L,An.none,EC ↑L,An.none]++if pl.isEmpty=true then A5 6 An.none else pl).toArray.size<=AQ+2;rw[AZ,AR];split
 ·rw[DB];show 5+6<=_;decide
 rcases hp with rfl|⟨_,_,_,_,_,_,_,rfl⟩
 ·show 5+0<=_;decide
 show 5+6<=_;decide
theorem Ml {prog:AW}{w:BB}{A:Bi}{E:An->AA->Prop}{s:AA}{base:Heap}{env:Env}{outer:List Env}{L e:Addr}{oe:Obj}{vs:Array An}{Q:Unit->AA->Prop}(hfr:A.frames=some (env::outer))(hl:s.heap.FunFrames base (env::outer))(hf:env.frame=some L)
  (he:s.heap.get? e=some oe) (hd:oe.data=A8 vs) (h1s:1<vs.size) (hen:e∉BI (fun x=>x.frame) (env::outer))
  (ht:vs[1]?=some An.none\/∃T ts,vs[1]?=some (An.ref T)/\T≠e/\s.heap.get? T=some { cls:=An.type "traceback",data:=A8 ts }/\ts[3]?=some An.none)
  (hQ:∀(h':Heap)(T:Addr)(ts:Array An),h'.get? e=some { cls:=oe.cls,dict:=oe.dict,data:=A8 (vs.setIfInBounds 1 (An.ref T)),slots:=oe.slots }->h'.get? T=some { cls:=An.type "traceback",data:=A8 ts }->ts[3]?=some An.none->T≠e->s.heap.objs.size<=T ->
   (∀b o,b≠e->b∉BI (fun x=>x.frame) (env::outer)->vs[1]?≠some (An.ref b)->s.heap.get? b=some o->h'.get? b=some o)->(∀b o,b∈BI (fun x=>x.frame) (env::outer)->s.heap.get? b=some o->∃sl,h'.get? b=some { cls:=o.cls,dict:=o.dict,data:=o.data,slots:=sl })->Q () { s with heap:=h' }) :
  AK (AN prog w) A (leaving env (An.ref e)) Q E s:=by
 unfold leaving;have fin:∀(h₂:Heap)(T:Addr)(ts:Array An),h₂.get? e=some { cls:=oe.cls,dict:=oe.dict,data:=A8 (vs.setIfInBounds 1 (An.ref T)),slots:=oe.slots }->h₂.get? T=some { cls:=An.type "traceback",data:=A8 ts }->ts[3]?=some (EC L)->T≠e->s.heap.objs.size<=T->T∉BI (fun x=>x.frame) (env::outer) ->
   (∀b o,b≠e->b∉BI (fun x=>x.frame) (env::outer)->vs[1]?≠some (An.ref b)->s.heap.get? b=some o->h₂.get? b=some o)->(∀b o,b∈BI (fun x=>x.frame) (env::outer)->s.heap.get? b=some o->∃sl,h₂.get? b=some { cls:=o.cls,dict:=o.dict,data:=o.data,slots:=sl }) ->
   AK (AN prog w) A (Fs (An.ref e) none) Q E { s with heap:=h₂ }:=fun h₂ T ts g1 g2 g3 g4 g5 g6 g7 g8=>by
  unfold Fs;have v1:(vs.setIfInBounds 1 (An.ref T))[1]?=some (An.ref T):=by
   rw[B4 h1s]
  refine Ap (B7 g1 rfl v1 (DF rfl ?_));refine CM (s:={ s with heap:=h₂ }) g2 (Cs.mp g3).1 fun h₃ q1 q2=>?_;refine hQ h₃ T _ ((q2.2 e (Ch g4)).trans g1) q1 ?_ g4 g5 (fun b o c1 c2 c3 g=>?_) (fun b o c1 g=>?_)
  ·rw[B4 (Cs.mp g3).1];rfl
  ·have hb:b≠T:=fun z=>by
    have:=A3 g;rw[z] at this;exact absurd this (not_lt.mpr g5)
   exact(q2.2 b hb).trans (g7 b o c1 c2 c3 g)
  obtain⟨sl,q⟩:=g8 b o c1 g;exact⟨sl,(q2.2 b fun z=>g6 (by rw[<- z];exact c1)).trans q⟩
 refine Ap ?_;unfold HC;rw[hf];have fresh:∀{T:Addr},s.heap.objs.size<=T->T∉BI (fun x=>x.frame) (env::outer):=fun {T} hT hm=>by
  obtain⟨_,o,g,_⟩:=hl.mem hm;exact absurd (A3 g) (not_lt.mpr hT)
 rcases ht with ht|⟨T0,ts0,ht,hTe,hT0,h30⟩
 ·refine Ap (B7 he hd ht (BD rfl ?_));exact Fe hfr hl hf he hd h1s hen fun h₂ T ts g1 g2 g3 g4 g5 g6 g7=>fin h₂ T ts g1 g2 g3 g4 g5 (fresh g5) (fun b o c1 c2 _ g=>g6 b o c1 c2 g) g7
 refine Ap (B7 he hd ht (DF rfl ?_));refine Ap (B7 hT0 rfl h30 (BD rfl ?_));refine Ap (CM hT0 (Cs.mp h30).1 fun h₁ q1 q2=>?_);have hT0f:T0∉BI (fun x=>x.frame) (env::outer):=fun hm=>by
  obtain⟨_,o,g,nf⟩:=hl.mem hm;rw[hT0] at g;cases g;exact nf _ rfl
 have hl1:h₁.FunFrames base (env::outer):=hl.of_keeps fun b o g nf=>⟨o,(q2.2 b fun z=>by rw[z,hT0] at g;cases g;exact nf _ rfl).trans g,rfl⟩;refine Fe (s:={ s with heap:=h₁ }) hfr hl1 hf ((q2.2 e (Ch hTe)).trans he) hd h1s hen fun h₂ T ts g1 g2 g3 g4 g5 g6 g7=>?_;have g5':s.heap.objs.size<=T:=by rw[<- q2.1];exact g5
 refine fin h₂ T ts g1 g2 g3 g4 g5' (fresh g5') (fun b o c1 c2 c3 g=>g6 b o c1 c2 ((q2.2 b fun z=>c3 (by rw[z];exact ht)).trans g)) fun b o c1 g=>?_;exact g7 b o c1 ((q2.2 b fun z=>hT0f (by rw[<- z];exact c1)).trans g)
theorem U6 {h:Heap}{a:Addr}(hl:h.objs.size<=a):h.get? a=none:=by
 cases e:h.get? a with
 | none=>rfl
 | some o=>exact absurd (A3 e) (not_lt.mpr hl)
theorem IV {prog:AW}{w:BB}{A:Bi}{E:An->AA->Prop}{h:Heap}{g:Array Hn}{d:Drawn}{t:Nat}{os:OsState}{nm q:Str}{C N:Addr}{bs bm bmB bmN:List An}{hdct:Bool}{sn:List Str}{sub:List An}{ab:Bool}{col:Option Bool}{dd:Option Addr}{k0 k1 k2 k3 k5:Option An}{B Bn newId nid initId inN:String}
  (Fn:HV Bn newId inN bmN) (hBn:bmB.contains (An.type Bn)=true) (F:HV B nid initId bmB) (T:OwnTail h bmB bm) {mN:Str->Option An} {rest:List An} {fI:Addr} {oI:Obj} {Q:PySem.Fin->AA->Prop}
  (hC:h.get? C=some (F6 nm q C N bs bm hdct sn sub ab col dd k0 k1 k2 k3 k5 newId)) (hn:h.Ns N mN) (hi:mN (HM "__init__")=some (An.ref fI)) (hfI:h.get? fI=some oI) (hfc:oI.cls=An.type "function")
  (hq:∀(h':Heap)(e:Addr),h.objs.size<=e->h.MadeExcOf h' e (An.ref C) rest->AK (AN prog w) A (call (An.ref fI) (An.ref e::rest)) (fun r s'=>r=An.none/\Q (Fin.done (Flow.ret (An.ref e))) s') E { heap:=h',gens:=g,drawn:=d,toks:=t,os:=os }) (hrest:rest.length<=AQ) :
  AK (AN prog w) A (A7.«type.__call__» { pos:=An.ref C::rest }) Q E { heap:=h,gens:=g,drawn:=d,toks:=t,os:=os }:=by
 unfold A7.«type.__call__»;refine BD rfl ?_;refine Ap ?_;unfold mroOf;refine Ap (Ap (wpAny_load' hC (AE (AE ?_))));refine BD rfl ?_;refine Ap (wpAny_madeBy_exc hC ?_);refine Ap (AE ?_);refine Ap (B8 (GL (codeAny_call_builtin_code (D0 { pos:=An.ref C::rest } Fn.quiet) (wpAny_check_new_subU Fn hBn T hC (codeAny_exc_new_subU Fn hBn F T hC ?_ hrest)))));generalize hh2:(h.push { cls:=An.type "tuple",data:=HA rest.toArray }).push { cls:=An.ref C,data:=A8 #[An.ref h.objs.size,An.none,An.none,An.none,An.bool false,An.none] }=h2;have kp:∀b o,h.get? b=some o->h2.get? b=some o:=fun b o e=>by
  rw[<- hh2];exact AF _ (AF _ e)
 have z1:(h.push { cls:=An.type "tuple",data:=HA rest.toArray }).objs.size=h.objs.size+1:=D5 ..;have hget:h2.get? (h.objs.size+1)=some { cls:=An.ref C,data:=A8 #[An.ref h.objs.size,An.none,An.none,An.none,An.bool false,An.none] }:=by
  rw[<- hh2,<- z1];exact BA _ rfl
 have htup:h2.get? h.objs.size=some { cls:=An.type "tuple",data:=HA rest.toArray }:=by
  rw[<- hh2];exact AF _ (BA _ rfl)
 have made:h.MadeExcOf h2 (h.objs.size+1) (An.ref C) rest:=⟨kp,U6 (le_succ _),h.objs.size,hget,U6 (A6 _),htup⟩;have hC1:=kp _ _ hC;have hn1:h2.Ns N mN:=by
  obtain⟨o,es,ep,e,r⟩:=hn;exact⟨o,es,ep,kp _ _ e,r⟩
 show AK _ _ (isInstance (An.ref (h.objs.size+1)) (An.ref C) >>= _) _ _ _;refine Ap ?_;unfold isInstance typeOf;refine Ap (Ap (D9 hget (AE ?_)));refine Gc hC1 ?_;rw[show(An.ref C::bm).contains (An.ref C)=true by simp];refine BD rfl ?_;refine Ap (B8 ?_);unfold callSpecial? specialOf typeOf;refine Ap (Ap (Ap (D9 hget (AE ?_))));refine wpAny_typeLookup_tail hC1 hn1 (T.keeps kp) F.mroIs F.init.lookup ?_;rw[hi];refine B8 ?_;refine Ap ?_;unfold bindSpecial;refine Ap (wpAny_typeOf (T := "function") ⟨oI,kp _ _ hfI,hfc⟩ (DF rfl (AE ?_)));refine Ap (B5 (hq h2 _ (le_succ _) made) (fun r s' ⟨e1,e2⟩=>?_) fun _ _ z=>z);subst e1;refine AE ?_;exact BD rfl (AE e2)
theorem Ql {prog:AW}{w:BB}{A:Bi}{E:An->AA->Prop}{h:Heap}{g:Array Hn}{d:Drawn}{t:Nat}{os:OsState}{nm q:Str}{C N:Addr}{bs bm bmB bmN:List An}{hdct:Bool}{sn:List Str}{sub:List An}{ab:Bool}{col:Option Bool}{dd:Option Addr}{k0 k1 k2 k3 k5:Option An}{B Bn newId nid initId inN:String}
  (Fn:HV Bn newId inN bmN) (hBn:bmB.contains (An.type Bn)=true) (F:HV B nid initId bmB) (T:OwnTail h bmB bm) {mN:Str->Option An} {rest:List An} {fI:Addr} {oI:Obj} {Q:An->AA->Prop}
  (hC:h.get? C=some (F6 nm q C N bs bm hdct sn sub ab col dd k0 k1 k2 k3 k5 newId)) (hn:h.Ns N mN) (hi:mN (HM "__init__")=some (An.ref fI)) (hfI:h.get? fI=some oI) (hfc:oI.cls=An.type "function")
  (hq:∀(h':Heap)(e:Addr),h.objs.size<=e->h.MadeExcOf h' e (An.ref C) rest->AK (AN prog w) (A.under (DM "type.__call__" { pos:=An.ref C::rest })) (call (An.ref fI) (An.ref e::rest)) (fun r s'=>r=An.none/\Q (An.ref e) s') E { heap:=h',gens:=g,drawn:=d,toks:=t,os:=os }) (hrest:rest.length<=AQ) :
  AK (AN prog w) A (call (An.ref C) rest) Q E { heap:=h,gens:=g,drawn:=d,toks:=t,os:=os }:=by
 have hT:(⟨h,g,d,t,os⟩:AA).TypeIs (An.ref C) "type" := ⟨_,hC,rfl⟩;refine GL (codeAny_of_tree ?_);show AK _ _ (load C >>= _) _ _ _;refine Ap (wpAny_load' hC ?_);show AK _ _ (callAny.viaDunder (An.ref C) { pos:=rest }) _ _ _;unfold callAny.viaDunder;refine Ap (wpAny_specialOf hT tc_lookup ?_);refine Ap (B3 (tc_bind (An.ref C)) ?_);refine Ap ?_;show AK _ _ (pure true) _ _ _;refine AE (DF rfl (AE ⟨rfl,?_⟩));refine codeAny_call_builtin_at (D0 _ ψ) entry_typeCall (wpAny_check_type_call_sub hC ?_);exact IV Fn hBn F T hC hn hi hfI hfc (fun h' e hs hm=>hq h' e hs hm) hrest
structure Lies (s s':AA)(H':Hp)(x:Addr)(ox:Obj)(vs:Array An):Prop where
 at_:s'.heap.get? x=some ox
 dat:ox.data=A8 vs
 siz:1<vs.size
 new:s.heap.objs.size<=x
 fre:H' x=none
 tb:vs[1]?=some An.none\/∃T ts,vs[1]?=some (An.ref T)/\T≠x/\s'.heap.get? T=some { cls:=An.type "traceback",data:=A8 ts }/\ts[3]?=some An.none/\s.heap.objs.size<=T/\H' T=none
noncomputable def CX1 (P:AW)(w:BB):CXT:=fun outer H s E e s'=>∃(x:Addr)(ox:Obj)(vs:Array An)(H':Hp),e=An.ref x/\Lies s s' H' x ox vs /\
 s'.os=s.os/\Go s'.gens/\Un (frs outer) [] H H' s.heap s'.heap/\HOk P w H' s'.heap/\E ox.cls ox.dict H'
theorem ab2 {P:AW}{w:BB}{K:AD}{mg:Str->Option An}{base:Heap}{N:List Str}{qual:Str}{scope:Ff}{f:Addr}{cd:An}{A:Bi}{outer:List Env}{s:AA}{H:Hp}{E:XK} :
  qI (CX1 P w) (yx (CX1 P w) P w K mg base N qual scope f cd A outer s H E) E:=by
 intro pins σ H1 s1 e s2 I ⟨x,ox,vs,H2,he,L,hos,hg,un,hok,q⟩;subst he;have I2:Inv (yx (CX1 P w) P w K mg base N qual scope f cd A outer s H E) pins σ H2 s2:=I.call' (ch:=[]) hos un hok hg (fun b z=>absurd z (by simp));have hsz:s.heap.objs.size<=s1.heap.objs.size:=I.sz;have hst:=I2.stack;have hen:x∉frs (EA qual scope s.heap.objs.size f cd::outer):=fun hm=>by
  obtain⟨_,o,g,_⟩:=I.stack.mem hm;exact absurd (A3 g) (not_lt.mpr L.new)
 have hfree:=I2.ur;show AK (AN P w) (A.deeper (EA qual scope s.heap.objs.size f cd)) (leaving (EA qual scope s.heap.objs.size f cd) (An.ref x)) _ _ s2;refine Ml (base:=base) (outer:=outer) (L:=s.heap.objs.size) I2.ok.frames hst rfl L.at_ L.dat L.siz hen ?_ ?_
 ·rcases L.tb with z|⟨T,ts,z1,z2,z3,z4,_,_⟩
  ·exact .inl z
  exact .inr ⟨T,ts,z1,z2,z3,z4⟩
 intro h' T ts g1 g2 g3 g4 g5 g6 g7;have hT0:∀b,vs[1]?=some (An.ref b)->s1.heap.objs.size<=b/\H2 b=none:=fun b hb=>by
  rcases L.tb with z|⟨T0,_,z,_,_,_,z5,z6⟩
  ·rw[z] at hb;cases hb
  rw[z] at hb;cases hb;exact⟨z5,z6⟩
 have old:∀b o,s.heap.get? b=some o->b<s.heap.objs.size/\b≠x/\vs[1]?≠some (An.ref b):=fun b o g=>by
  have hb:=A3 g;have hn:=L.new;refine⟨hb,fun z=>?_,fun z=>?_⟩
  ·subst z;exact absurd (AX hb (BQ hsz hn)) (CU _)
  exact absurd (AX hb (BQ hsz (hT0 b z).1)) (CU _)
 have hH2T:H2 T=none:=I2.hok.fresh g5;refine⟨x,_,_,H2,rfl,⟨g1,rfl,?_,BQ hsz L.new,L.fre,.inr ⟨T,ts,?_,g4,g2,g3,?_,hH2T⟩⟩,I2.os,I2.bare,?_,?_,q⟩
 ·rw[Array.size_setIfInBounds];exact L.siz
 ·rw[B4 L.siz]
 ·exact BQ I2.sz g5
 ·have B:=I2.base;refine⟨fun b o g n hf hx=>?_,fun b o g n hf hx=>?_,B.free,fun b o g hx=>?_,B.tups,B.frzs,B.tbls⟩
  ·obtain⟨c1,c2,c3⟩:=old b o g;refine g6 b o c2 (fun z=>?_) c3 (B.keep b o g n hf hx);rcases AO.mp (show b∈s.heap.objs.size::frs outer from z) with z|z
   ·rw[z] at c1;exact absurd c1 (CU _)
   exact hf z
  ·obtain⟨sl,g'⟩:=B.slot b o g n hf hx;obtain⟨sl',g''⟩:=g7 b _ (AH _ hf) g';exact⟨sl',g''⟩
  obtain⟨c1,c2,c3⟩:=old b o g;obtain⟨o',g'⟩:=B.there b o g hx;by_cases hm:b∈frs (EA qual scope s.heap.objs.size f cd::outer)
  ·obtain⟨sl,g''⟩:=g7 b o' hm g';exact⟨_,g''⟩
  exact⟨_,g6 b o' c2 hm c3 g'⟩
 intro a o ha;refine(I2.hok a o ha).stay (fun b u hb gb=>?_) (fun _ z=>z) fun _ _ z=>z;have hb':H2 b≠none:=by
  rcases hb with rfl|hb
  ·rw[ha];exact fun z=>nomatch z
  rw[hb];exact fun z=>nomatch z
 refine g6 b u (fun z=>hb' (by rw[z];exact L.fre)) (fun z=>hb' (hfree b z)) (fun z=>hb' (hT0 b z).2) gb
theorem own1 {P:AW}{w:BB}{K:AD}{mg:Str->Option An}{base:Heap}{N:List Str}{qual:Str}{scope:Ff}{f:Addr}{cd:An}{A:Bi}{outer:List Env}{s:AA}{H:Hp}{E:XK}{CX:CXT} :
  PassesOwn (AN P w) (A.deeper (EA qual scope s.heap.objs.size f cd)) (EA qual scope s.heap.objs.size f cd) (yx CX P w K mg base N qual scope f cd A outer s H E).xe:=by
 show PassesOwn _ _ _ (fun e s'=>AK (AN P w) (A.deeper (EA qual scope s.heap.objs.size f cd)) (leaving (EA qual scope s.heap.objs.size f cd) e) (fun _ s''=>CX outer H s E e s'') (fun e' s''=>CX outer H s E e' s'') s');exact PassesOwn.leaving
section
variable {M:Kk}{A:Bi}{E:An->AA->Prop}{env:Env}
variable {nm q:Str}{C N:Addr}{bs bm:List An}{hdct:Bool}{sn:List Str}{sub:List An}{ab:Bool}{col:Option Bool}{dd:Option Addr}{k0 k1 k2 k3 k5:Option An}{newId:String}
theorem WN {s:AA}{x:Sem An}{Q:Flow->AA->Prop}(hbase:bm.contains (An.type "BaseException")=true) (hh:A.handled=none)
  (h:AK M A x (fun v s₁=>∃e t dx,v=An.ref e/\s₁.heap.get? C=some (F6 nm q C N bs bm hdct sn sub ab col dd k0 k1 k2 k3 k5 newId) /\
   s₁.heap.get? e=some { cls:=An.ref C,dict:=dx,data:=A8 #[An.ref t,An.none,An.none,An.none,An.bool false,An.none] }/\E (An.ref e) s₁) E s) :
  AK M A (raiseStmt env (some x) none) Q E s:=by
 have hcB:(An.ref C::bm).contains (An.type "BaseException")=true:=by rw[Hm,hbase,HQ]
 unfold raiseStmt;refine Ap (B5 h (fun v s₁ h₁=>?_) fun _ _ x=>x);obtain⟨e,t,dx,rfl,hC,he,hE⟩:=h₁;obtain⟨hp,g,d,tk,os⟩:=s₁
 repeat (first|with_reducible refine D9 he ?_|with_reducible refine D9 hC ?_|(with_reducible refine Gc hC ?_;rw[hcB])|wp_step)
 exact wpAny_raiseNew_none hh hE
end
section
variable {prog:AW}{w:BB}{A:Bi}{E:An->AA->Prop}
variable {nm q:Str}{C N:Addr}{bs bm bmB:List An}{hdct:Bool}{sn:List Str}{sub:List An}{ab:Bool}{col:Option Bool}{dd:Option Addr}{k0 k1 k2 k3 k5:Option An}{nwId B newId initId:String}
theorem abe {hp:Heap}{g:Array Hn}{d:Drawn}{tk:Nat}{os:OsState}{e t:Addr}{dx:Option Addr}{rest:List An}{Q:An->AA->Prop}(F:HV B newId initId bmB)(hB:bm.contains (An.type B)=true)
  (hC:hp.get? C=some (F6 nm q C N bs bm hdct sn sub ab col dd k0 k1 k2 k3 k5 nwId))
  (he:hp.get? e=some { cls:=An.ref C,dict:=dx,data:=A8 #[An.ref t,An.none,An.none,An.none,An.bool false,An.none] })
  (hq:∀h':Heap,(∀b o,b≠e->hp.get? b=some o->h'.get? b=some o)->h'.get? e=some { cls:=An.ref C,dict:=dx,data:=A8 #[An.ref hp.objs.size,An.none,An.none,An.none,An.bool false,An.none] }->Q An.none ⟨h',g,d,tk,os⟩)
  (hrest:rest.length<=AQ):AK (AN prog w) A (call (An.builtin initId) (An.ref e::rest)) Q E ⟨hp,g,d,tk,os⟩:=by
 have hcB:(An.ref C::bm).contains (An.type B)=true:=by rw[Hm,hB,HQ]
 refine GL (E8 F.init.plain F.initEntry ?_);have hshort:=F.noStar;simp only[checkBuiltinCall,F.initKind,F.initSplit,F.initRow];unfold isInstance
 repeat (first|with_reducible refine D9 he ?_|(with_reducible refine Gc hC ?_;rw[hcB])|wp_step)
 refine wpAny_onRaise ?_;rw[show ∀(a b:String)(n:Nat),Bind.check ⟨.positional, "*",B,.self,[⟨"args",.varPos,false⟩]⟩ a b n (HE (fun x=>x.fst) ({ pos:=An.ref e::rest }:Args).kw)=pure () from
  fun a b n=>check_star_args _ _ _ _ _ _]
 refine AE ?_;have he2:=AF (h:=hp) { cls:=An.type "tuple",data:=HA rest.toArray } he
 wp_walk
 refine hq _ (fun b o hb g=>(BF _ _ (Ch hb)).trans (AF _ g)) ?_;rw[FV _ he2 rfl];rfl
end
open PySem.W (Frag clsIn findIn takerIn InstAt looks_clsIn looks_findIn looks_takesIn Looks check_slot looks_mroIn mroIn set_plain osa_eq)
open Builtin Builtin.ObjectAttr
noncomputable def vbm:List An:=[.type "ValueError",.type "Exception",.type "BaseException",.type "object"]
theorem aaC (self:An) (C D:Addr):refuseLoop self "__setattr__" (.ref C :: .ref D::vbm)=pure ():=by
 rw[refuseLoop_ref,refuseLoop_ref];exact PySem.F.store_ValueError.passes self
section
variable {prog:AW}{w:BB}{A:Bi}{E:An->AA->Prop}{K:Frag}{h:Heap}{g:Array Hn}{d:Drawn}{t:Nat}{os:OsState}{x C D:Addr}{cd:ClassData}{name:Str}{v:An}{o:Obj}{vs:Array An}
theorem abJ {Q:Unit->AA->Prop}(X:K.In h) (hc:clsIn K C=some cd) (hmro:cd.mro=.ref C :: .ref D::vbm) (hhd:cd.hasDict=true) (hset:findIn K (.ref C) "__setattr__" = some (some (.builtin "object.__setattr__"))) (hno:findIn K (.ref C) name=some none)
  (hx:h.get? x=some o) (hcl:o.cls=.ref C) (hdn:o.dict=none) (hda:o.data=.fields vs)
  (hq:∀(h':Heap)(tk':Nat),h'.get? x=some { cls:=o.cls,dict:=some h.objs.size,data:=o.data,slots:=o.slots }->h'.Ns1 h.objs.size (fun y=>if y=name then some v else none) ->
   (∀b ob,b≠x->h.get? b=some ob->h'.get? b=some ob)->Q () ⟨h',g,d,tk',os⟩) :
  AK (AN prog w) A (setAttr (.ref x) name v) Q E ⟨h,g,d,t,os⟩:=by
 have I:∀tk:Nat,InstAt (⟨h,g,d,tk,os⟩:AA).heap x o C none:=fun _=>⟨hx,hcl,by obtain⟨_,_,dt,_⟩:=o;cases hda;rfl,by rw[hdn];trivial⟩;refine set_plain X (I t) hset ?_;have SF:=PySem.F.store_object;have ne:cd.mro.isEmpty=false:=by rw[hmro];rfl
 have sub:FK (AN prog w) h (isInstance (.ref x) (.type "object")) true:=(I t).type.andThen (IR X (by unfold mroIn;rw[hc,bind_some,if_neg (by rw[ne];decide),hmro];rfl));refine E8 SF.slot.plain SF.entry (@check_slot (AN prog w) _ _ ⟨h,g,d,t+1,os⟩ "object.__setattr__" "object" "__setattr__" (.ref x) [.str name t,v] [] _ SF.kind SF.split sub (SF.args (.ref x) (.str name t) v) ?_);have hm:FK (AN prog w) h (mroOf (.ref C)) cd.mro:=(Hc X hc).andThen .now;have IT:FK (AN prog w) h (typeOf (.ref x)) (.ref C):=(I t).type;have LF:FK (AN prog w) h (GM (.ref C) name) none:=FH X hno;rw[osa_eq,refuse_eq];refine Ap (Ap (IT.here (Ap (hm.here ?_))));rw[hmro,aaC];refine AE (Ap (IT.here (Ap (LF.here (Ap (AE ?_))))));dsimp only;have LC:FK (AN prog w) h (classData C) cd:=Hc X hc;obtain⟨oc,odi,oda,osl⟩:=o;dsimp only at hcl hdn hda;subst hcl hdn hda;refine Ap (AE (Ap ?_));show AK _ _ (instanceDict x true) _ _ _;unfold instanceDict;refine Ap (wpAny_loadPart hx (Ap (LC.here ?_)));rw[hhd];have hx₁:(h.push { cls:=.type "dict",data:=.dict #[] }).get? x=some { cls:=.ref C,data:=.fields vs,slots:=osl }:=AF _ hx;have hxs:x≠h.objs.size:=BO (A3 hx);rw[if_neg δ];dsimp only;rw[if_neg (by simp [typeHasDict])];refine Ap (wpAny_alloc' ?_);refine Ap (wpAny_update' hx₁ ?_);refine AE ?_;have hgd:((h.push { cls:=.type "dict",data:=.dict #[] }).update x fun o=>{ cls:=o.cls,dict:=some h.objs.size,data:=o.data,slots:=o.slots }).get? h.objs.size
   = some { cls:=.type "dict",data:=.dict #[] }:=
  (Heap.get?_update_ne _ _ _ _ hxs.symm).trans (Heap.get?_push_at rfl rfl)
 have hnd:((h.push { cls:=.type "dict",data:=.dict #[] }).update x fun o=>{ cls:=o.cls,dict:=some h.objs.size,data:=o.data,slots:=o.slots }).Ns h.objs.size (fun _=>none):=
  ⟨_,#[],_,hgd,rfl,fun e he=>absurd he (by simp),fun _=>rfl⟩
 show AK _ _ (storeInDict h.objs.size (.str name t) name v) _ _ _;unfold storeInDict newKeyGuard;refine Ap (AE (Ap (wpAny_nsSet1 (Heap.Ns1.of_empty hnd) fun h' hn' hs=>?_)));obtain⟨oD,esD,epD,hoD,hdD,hcD⟩:=hn'.count (Within.cons name v Within.nil);refine Ap (wpAny_lookBehind hoD (by rw[hdD];exact pastItsLine_dict (BQ hcD (by rw[Be,FS,EZ];omega))) ?_);refine AE ?_;refine hq h' _ ?_ hn' (fun b ob hbx hb=>?_)
 ·refine(hs.2 x hxs).trans (FV _ hx₁ ?_);exact(Heap.get?_some_iff.mp hx).2
 exact(hs.2 b (BO (A3 hb))).trans ((Heap.get?_update_ne _ _ _ _ hbx).trans (AF _ hb))
end
open PySem.W (Frag clsIn findIn takerIn InstAt looks_clsIn looks_findIn looks_takesIn Looks check_slot looks_mroIn mroIn handedIn handedOut_of)
section
variable {prog:AW}{w:BB}{A:Bi}{E:An->AA->Prop}{K:Frag}{h:Heap}{g:Array Hn}{d:Drawn}{t:Nat}{os:OsState}{x C D dx:Addr}{cd:ClassData}{name:Str}{v:An}{o:Obj}{vs:Array An}{m:Str->Option An}{expr:Bool}
theorem ack {Q:An->AA->Prop}(X:K.In h) (hc:clsIn K C=some cd) (hmro:cd.mro=.ref C :: .ref D::vbm) (hhd:cd.hasDict=true) (hga:findIn K (.ref C) "__getattribute__" = some (some (.builtin "BaseException.__getattribute__"))) (hk:findIn K (.ref C) "__getattr__" = some none) (hno:findIn K (.ref C) name=some none)
  (hx:h.get? x=some o) (hcl:o.cls=.ref C) (hdx:o.dict=some dx) (hda:o.data=.fields vs) (hn:h.Ns dx m) (hm:m name=some v) (hh:handedIn v=true) (hq:Q v ⟨h,g,d,t+1,os⟩) :
  AK (AN prog w) A (getAttr (.ref x) name expr) Q E ⟨h,g,d,t,os⟩:=by
 obtain⟨oc,odi,oda,osl⟩:=o;dsimp only at hcl hdx hda;subst hcl hdx hda;have IT:FK (AN prog w) h (typeOf (.ref x)) (.ref C):=(FK.ld hx).andThen .now;have L1:FK (AN prog w) h (GM (.ref C) "__getattribute__") (some (.builtin "BaseException.__getattribute__")):=FH X hga;have LK:FK (AN prog w) h (GM (.ref C) "__getattr__") none:=FH X hk;have LF:FK (AN prog w) h (GM (.ref C) name) none:=FH X hno;have LC:FK (AN prog w) h (classData C) cd:=Hc X hc;have ne:cd.mro.isEmpty=false:=by rw[hmro];rfl
 have sub:FK (AN prog w) h (isInstance (.ref x) (.type "BaseException")) true:=IT.andThen (IR X (by unfold mroIn;rw[hc,bind_some,if_neg (by rw[ne];decide),hmro];rfl));have FB:=PySem.F.attrBase_ValueError;refine Ap (wpAny_mkText (B8 (Ap (IT _ _ _ _ (fun _ _ e=>e) (Ap (L1 _ _ _ _ (fun _ _ e=>e) ?_))))));dsimp only;have hx2:(An.builtin "BaseException.__getattribute__" == An.builtin "object.__getattribute__")=false:=by decide +kernel
 rw[show(onTheHeap (An.ref C)&&An.builtin "BaseException.__getattribute__" == An.builtin "object.__getattribute__")=false from by rw[hx2];rfl,if_neg δ];unfold getAttrByItsOwn;have HB:FK (AN prog w) h (hookBefore (.ref C)) none:=by
  unfold hookBefore;rw[if_pos (show onTheHeap (An.ref C)=true from rfl)];exact LK
 refine Ap (HB _ _ _ _ (fun _ _ e=>e) (Ap (wpAny_attempt (B8 ?_))));unfold callGetattribute;rw[show(expr&&onTheHeap (An.builtin "BaseException.__getattribute__"))=false from Bool.and_false _,if_neg δ];unfold boundAndCalled;rw[FB.ga.bind];refine Ap (AE ?_);show AK _ _ (call (.builtin "BaseException.__getattribute__") [.ref x,.str name t]) _ _ _;refine GL ?_;refine E8 FB.ga.plain F.entry_bexc_ga ?_;refine @check_slot (AN prog w) _ _ ⟨h,g,d,t+1,os⟩ "BaseException.__getattribute__" "BaseException" "__getattribute__" (.ref x) [.str name t] [] _ ψ ψ sub (F.args_bexc_ga (.ref x) (.str name t)) ?_;unfold A7.«object.__getattribute__»;have LO:FK (AN prog w) h (inOwnDict name (.ref x)) (some v):=by
  intro A Q E s k q;refine Ap (Ap (wpAny_loadPart (k _ _ hx) ?_));show AK _ _ (instanceDict x false) _ _ _;unfold instanceDict;refine Ap (wpAny_loadPart (k _ _ hx) (Ap (LC A _ E s k ?_)));rw[hhd];refine AE (a:=some dx) ?_;exact wpAny_nsGet (hn.keeps k) (by rw[hm];exact q)
 have LV:FK (AN prog w) h (find (.ref x) (.ref C) name) (.value v):=by
  refine LF.andThen (FK.now.andThen (FK.now.andThen (LO.andThen ?_)));exact FK.tag .now
 refine Ap (AE (Ap (AE (Ap (IT _ _ _ _ (fun _ _ e=>e) (Ap (LV _ _ _ _ (fun _ _ e=>e) (AE ?_))))))));show AK _ _ (handedOut v) _ _ _;rw[handedOut_of hh];exact AE hq
end
noncomputable def XO (a C:Addr)(dx:Option Addr):HO:=.ext fun h=>∃t,h.get? a=some { cls:=.ref C,dict:=dx,data:=.fields #[.ref t,.none,.none,.none,.bool false,.none] }
structure rK (K:AD)(C D N fI:Addr):Prop where
 obj:∃nm q bs sn sub ab col dd k0 k1 k2 k3 k5,K.lookup C=some (F6 nm q C N bs (.ref D::vbm) true sn sub ab col dd k0 k1 k2 k3 k5 "ValueError.__new__")
 tail:tailIn K vbm (.ref D::vbm)=true
 nsok:nsOkIn K N=true
 init:nsIn K N "__init__" = some (some (.ref fI))
 set:CY K (.ref C) "__setattr__" = some (some (.builtin "object.__setattr__"))
 ga:CY K (.ref C) "__getattribute__" = some (some (.builtin "BaseException.__getattribute__"))
 gk:CY K (.ref C) "__getattr__" = some none
structure XBase (K:AD)(D:Addr):Prop where
 reads:readsIn K D (.type "type")=true
 sp:PySem.W.specialIn K (.ref D) "__getattribute__" = some (some (.builtin "type.__getattribute__"))
 fnd:findCls K (.ref D) (.type "type") "__init__" = some (.val (.builtin "ValueError.__init__"))
section
variable {X:Cx}{C D N fI:Addr}{x:Str}{np apos cpos:Pos}{e:Expr}{es:List Expr}{t:TA}
noncomputable def tBI (C:Addr)(t:TA):TE:=fun σ H Q=>t σ H fun vs H1=>∃a rest dx,vs=.ref a::rest/\rest.length<=1000/\H1 a=some (XO a C dx)/\Q .non H1
theorem Zx {H:Hp}{a:Addr}{o:HO}(h:H a=some o):upd H a o=H:=by
 funext b;unfold upd;split
 ·rename_i z;rw[z,h]
 rfl
theorem TX {pl:Sem Bool}(XC:rK X.K C D N fI) (XD:XBase X.K D) (hg:Gl X x) (hm:X.mg x=some (.ref D)) (ha:PA X (e::es) t) (hdb:(x == ("__debug__" : Str))=false:=by decide)
  (hst:AJ (e::es) X.env=(false,eval e X.env)::AJ es X.env:=by rfl) (hpl:(CA cpos (AJ es X.env)).any (·.1)=false:=by rfl)
  (ht:eval (.Call (.Attribute (.Name x np) "__init__" apos) (e::es) [] cpos) X.env=(do
   let ov <- eval (.Name x np) X.env
   GA apos.atName
   let (f,first) <- EB [ov] (getMethod ov "__init__" pl)
   callWith cpos f first (CA cpos (AJ (e::es) X.env)) (EE cpos (C6 [] X.env))):=by rfl) :
  PE X (.Call (.Attribute (.Name x np) "__init__" apos) (e::es) [] cpos) (tBI C t):=by
 intro pins s σ H Q I h;refine PySem.W.methodCall_KW (pl:=pl) (Fq I hg hm ?_ hdb) ht;refine PySem.W.method_cls I.kIn XD.sp (PySem.W.cls_value I.kIn XD.reads XD.fnd ψ ?_);have I1:=I.tok (s.toks+1);have hA:=ha cpos pins _ σ H _ I1 h;rw[hst] at hA |-;refine EN (by show(false||(CA cpos (AJ es X.env)).any (·.1))=false;rw[hpl] <;> rfl) (E6 ?_)
 refine thn hA fun us s2 ⟨vs,H2,I2,r2,a,rest,dx,ev,hl,hH,q⟩=>?_;subst ev;cases r2 with
 | cons ra rr=>
  obtain rfl:=(show _=An.ref a from ra);obtain⟨t0,ht0⟩:=(show ∃t,_ from((I2.hok a _ hH).1));obtain⟨nm,q',bs,sn,sub,ab,col,dd,k0,k1,k2,k3,k5,hC⟩:=XC.obj;obtain⟨hp,g,d,tk,os⟩:=s2;refine abe (rest:=_) G0 (bm:=.ref D::vbm) rfl (I2.kIn _ _ hC) ht0 (fun h' k1 k2=>?_) ?_
  ·have I3:=I2.write (x:=a) (e:=a) (o:=XO a C dx) (t':=tk) (h':=h') (by rw[hH];trivial) (.inl rfl) k1 ⟨_,k2⟩ ⟨⟨_,k2⟩,⟨_,k2⟩,fun h1 h2 ⟨t,z⟩ z2=>⟨t,z2 _ z⟩⟩;rw[Zx hH] at I3;exact⟨.non,H2,I3,rfl,q⟩
  rw[<- rr.length];exact BQ hl (by rw[EZ];decide)
end
section
variable {X:Cx}{C D N fI:Addr}{f:Str}{o value:Expr}{pos pos':Pos}{ta tv:TE}
noncomputable def RM (K:AD)(C:Addr)(ta tv:TE)(f:Str):TS:=fun D σ H=>tv σ H fun y H1=>ta σ H1 fun x H2=>∃a,x=.ref a/\H2 a=some (XO a C none)/\CY K (.ref C) f=some none /\
 ∀dx,H2 dx=none->dx≠a->D.nx σ (upd (upd H2 dx (.xd [(f,y)])) a (XO a C (some dx)))
theorem RT {f:Str}{y:V}{u:An}(r:RelV y u)(f':Str):wY ([(f,y)].lookup f') (if f'=f then some u else none):=by
 unfold List.lookup;by_cases h:f'=f
 ·subst h;rw[if_pos rfl,show(f' == f')=true from beq_self_eq_true f'];exact r
 rw[if_neg h,show(f' == f)=false from beq_eq_false_iff_ne.mpr h];exact trivial
theorem rK.cls {K:AD}(c:rK K C D N fI):∃cd,PySem.W.clsIn K C=some cd/\cd.mro=.ref C :: .ref D::vbm/\cd.hasDict=true:=by
 obtain⟨nm,q',bs,sn,sub,ab,col,dd,k0,k1,k2,k3,k5,hC⟩:=c.obj;unfold PySem.W.clsIn;rw[hC];exact⟨_,rfl,rfl,rfl⟩
theorem Xk (XC:rK X.K C D N fI)(ha:PE X o ta)(hv:PE X value tv)(hs:FO value (some (.Attribute o f pos')) pos.line X.env=pure false):PS X (.Assign [.Attribute o f pos'] value pos) (RM X.K C ta tv f):=by
 intro pins s σ H Dn I h;refine plainObj_wpAny_Assign_Attribute (thE (hv pins s σ H _ I h) fun u s1 y H1 I1 ry q=>thn (ha pins s1 σ H1 _ I1 q) fun ov s2 ⟨x,H2,I2,rx,a,ex,ea,hno,q2⟩=>?_) hs;subst ex;obtain rfl:ov=An.ref a:=rx;obtain⟨cd,c1,c2,c3⟩:=XC.cls;obtain⟨t0,ht0⟩:=(show ∃t,_ from((I2.hok a _ ea).1));obtain⟨hp,g,d,tk,os⟩:=s2;refine abJ I2.kIn c1 c2 c3 XC.set hno ht0 rfl rfl rfl fun h' tk' g1 g2 g3=>?_;have hfr:H2 hp.objs.size=none:=I2.hok.fresh (A6 _);have hne:hp.objs.size≠a:=fun z=>by
  have:=A3 ht0;rw[z] at this;exact CU _ this
 have old:∀b u,H2 b=some u->b≠hp.objs.size:=fun b u e z=>by rw[z,hfr] at e;cases e
 have oth:∀b u,H2 b=some u->u≠XO a C none->upd (upd H2 hp.objs.size (.xd [(f,y)])) a (XO a C (some hp.objs.size)) b=some u:=fun b u e ne=>by
  rw[aH (fun z=>ne (by rw[z,ea] at e;exact(AV e).symm)),aH (old b u e),e]
 have lt:∀b ob,hp.get? b=some ob->b≠hp.objs.size:=fun b ob e z=>by
  have:=A3 e;rw[z] at this;exact CU _ this
 refine⟨σ,_,I2.un (h':=h') (t':=tk') ?_ ?_,q2 _ hfr hne⟩
 ·refine⟨fun b ob e n _ _=>?_,fun b ob e n _ _=>⟨ob.slots,?_⟩,fun b ob e n _=>?_,fun b ob e _=>?_,fun b xs e=>oth b _ e (by unfold XO;exact fun z=>nomatch z),fun b ob u e=>oth b _ e (by unfold XO;exact fun z=>nomatch z),fun b ps e=>⟨#[],by rw[Array.append_empty];exact oth b _ e (by unfold XO;exact fun z=>nomatch z)⟩⟩
  ·exact g3 b ob (fun z=>by rw[z,ea] at n;cases n) e
  ·exact g3 b ob (fun z=>by rw[z,ea] at n;cases n) e
  ·rw[aH (fun z=>by rw[z,ea] at n;cases n),aH (lt b ob e),n]
  by_cases z:b=a
  ·rw[z];exact⟨_,g1⟩
  exact⟨_,g3 b ob z e⟩
 intro c u e;by_cases z:c=a
 ·subst z;rw[au] at e;cases e;exact⟨⟨t0,g1⟩,⟨_,g1⟩,fun h1 h2 ⟨t,z⟩ z2=>⟨t,z2 _ z⟩⟩
 rw[aH z] at e;by_cases z2:c=hp.objs.size
 ·rw[z2,au] at e;cases e;rw[z2];exact⟨_,g2,fun f'=>RT ry f'⟩
 rw[aH z2] at e;refine(I2.hok c u e).stay (fun b ob hb eb=>g3 b ob (fun zz=>?_) eb) (fun b hb=>oth b _ hb (by unfold XO;exact fun z=>nomatch z)) fun b xs hb=>oth b _ hb (by unfold XO;exact fun z=>nomatch z);rcases hb with hb|hb
 ·exact z (hb.symm.trans zz)
 rw[zz,ea] at hb;cases hb
end
noncomputable abbrev TJ:=St->Hp->(Hp->Prop)->Prop
noncomputable def PJ (X:Cx)(es:List Expr)(t:TJ):Prop:=
 ∀(pins:List (Addr×Obj)) (s:AA) (σ:St) (H:Hp) (acc:Str) (R:Hp->Prop) (Q:Str->AA->Prop),Inv X pins σ H s->acc.length+400*es.length<=AQ->t σ H R ->
  (∀out s' H',Inv X pins σ H' s'->out.length<=AQ->R H'->Q out s')->Joins (AN X.prog X.w) X.A X.xe (evalEach es X.env) acc Q s
section
variable {X:Cx}{e:Expr}{es:List Expr}{t:TJ}{te:TE}{x:Str}{j:Nat}{pos:Pos}
theorem aar:PJ X [] (fun _ H R=>R H):=fun pins s σ H acc R Q I hl h k=>k acc s H I (BQ (Nat.le_add_right _ _) hl) h
theorem Td {kd}(hx:x.length<=400)(hr:PJ X es t):PJ X (.Constant (.str x) kd pos::es) t:=by
 intro pins s σ H acc R Q I hl h k;show AK (AN X.prog X.w) X.A (eval (.Constant (.str x) kd pos) X.env) _ X.xe s;refine Calls.Constant_str ⟨x,_,rfl,?_,hr pins _ σ H (acc++x) R Q (I.tok _) ?_ h k⟩
 ·rw[KB];rw[Be] at hl;omega
 rw[KB];rw[Be] at hl;omega
theorem aas (he:PE X e te)(hr:PJ X es t):PJ X (.FormattedValue e (-1) none pos::es) (fun σ H R=>te σ H fun v H1=>∃i:Int,v=.int i/\(-(2^70)<i/\i<2^70)/\t σ H1 R):=by
 intro pins s σ H acc R Q I hl h k;show AK (AN X.prog X.w) X.A (eval (.FormattedValue e (-1) none pos) X.env) _ X.xe s;refine wpAny_FormattedValue_plain (thn (he pins s σ H _ I h) fun u s1 ⟨v,H1,I1,rv,i,ev,hb,q⟩=>?_);subst ev;obtain⟨tk,rfl⟩:=(show ∃tk,u=An.int i tk from rv);have hlg:i.natAbs.log2<1920:=by
  have:i.natAbs<2^70:=by omega
  by_cases z:i.natAbs=0
  ·rw[z];decide
  have:=(Nat.log2_lt z).mpr this;omega
 have h4:=YC (i:=i) ω;rw[Be] at hl;refine wpAny_formatField_int hlg ⟨_,_,rfl,?_,hr pins _ σ H1 _ R Q (I1.tok _) ?_ q k⟩
 ·rw[KB];omega
 rw[KB];omega
theorem Oo {v₁ v₂:Expr}{rest:List Expr}(h:PJ X (v₁::v₂::rest) t)(hl:(v₁::v₂::rest).length<=100):PE X (.JoinedStr (v₁::v₂::rest) pos) (fun σ H Q=>t σ H fun H1=>∀x,Q (.str x) H1):=by
 intro pins s σ H Q I ht;refine wpAny_JoinedStr (h pins s σ H Str.empty _ _ I ?_ ht fun out s' H' I' ho q=>⟨ho,.str out,H',I'.tok _,⟨_,rfl⟩,q out⟩);show 0+400*_<=_;rw[EZ];omega
end
structure abC (X:Cx)(s:AA)(H:Hp)(x:Addr)(ox:Obj)(vs:Array An):Prop where
 at_:s.heap.get? x=some ox
 dat:ox.data=A8 vs
 siz:1<vs.size
 new:X.s₀.heap.objs.size<=x
 loc:x≠X.env.locals
 fre:H x=none
 tb:vs[1]?=some An.none\/∃T ts,vs[1]?=some (An.ref T)/\T≠x/\s.heap.get? T=some { cls:=An.type "traceback",data:=A8 ts }/\ts[3]?=some An.none/\X.s₀.heap.objs.size<=T/\H T=none
noncomputable def abx (X:Cx)(E:XK):Prop:=∀(pins:List (Addr×Obj)) (σ:St) (H:Hp) (s:AA) (x:Addr) (ox:Obj) (vs:Array An),Inv X pins σ H s->abC X s H x ox vs->E ox.cls ox.dict H->X.xe (.ref x) s
theorem acL {P:AW}{w:BB}{K:AD}{mg:Str->Option An}{base:Heap}{N:List Str}{qual:Str}{scope:Ff}{f:Addr}{cd:An}{A:Bi}{outer:List Env}{s:AA}{H:Hp}{E:XK} :
  abx (yx (CX1 P w) P w K mg base N qual scope f cd A outer s H E) E:=by
 intro pins σ H2 s2 x ox vs I2 L q;have hst:=I2.stack;have hen:x∉frs (EA qual scope s.heap.objs.size f cd::outer):=fun hm=>by
  rcases AO.mp (I2.vQ x hm) with z|z
  ·exact L.loc z
  obtain⟨_,o,g,_⟩:=I2.ok.oN.mem z;exact absurd (A3 g) (not_lt.mpr L.new)
 have hfree:=I2.ur;show AK (AN P w) (A.deeper (EA qual scope s.heap.objs.size f cd)) (leaving (EA qual scope s.heap.objs.size f cd) (An.ref x)) _ _ s2;refine Ml (base:=base) (outer:=outer) (L:=s.heap.objs.size) I2.ok.frames hst rfl L.at_ L.dat L.siz hen ?_ ?_
 ·rcases L.tb with z|⟨T,ts,z1,z2,z3,z4,_,_⟩
  ·exact .inl z
  exact .inr ⟨T,ts,z1,z2,z3,z4⟩
 intro h' T ts g1 g2 g3 g4 g5 g6 g7;have hT0:∀b,vs[1]?=some (An.ref b)->s.heap.objs.size<=b/\H2 b=none:=fun b hb=>by
  rcases L.tb with z|⟨T0,_,z,_,_,_,z5,z6⟩
  ·rw[z] at hb;cases hb
  rw[z] at hb;cases hb;exact⟨z5,z6⟩
 have old:∀b o,s.heap.get? b=some o->b<s.heap.objs.size/\b≠x/\vs[1]?≠some (An.ref b):=fun b o g=>by
  have hb:=A3 g;have hn:s.heap.objs.size<=x:=L.new;refine⟨hb,fun z=>?_,fun z=>?_⟩
  ·subst z;exact absurd (AX hb hn) (CU _)
  exact absurd (AX hb (hT0 b z).1) (CU _)
 have hH2T:H2 T=none:=I2.hok.fresh g5;refine⟨x,_,_,H2,rfl,⟨g1,rfl,?_,L.new,L.fre,.inr ⟨T,ts,?_,g4,g2,g3,?_,hH2T⟩⟩,I2.os,I2.bare,?_,?_,q⟩
 ·rw[Array.size_setIfInBounds];exact L.siz
 ·rw[B4 L.siz]
 ·exact BQ I2.sz g5
 ·have B:=I2.base;refine⟨fun b o g n hf hx=>?_,fun b o g n hf hx=>?_,B.free,fun b o g hx=>?_,B.tups,B.frzs,B.tbls⟩
  ·obtain⟨c1,c2,c3⟩:=old b o g;refine g6 b o c2 (fun z=>?_) c3 (B.keep b o g n hf hx);rcases AO.mp (show b∈s.heap.objs.size::frs outer from z) with z|z
   ·rw[z] at c1;exact absurd c1 (CU _)
   exact hf z
  ·obtain⟨sl,g'⟩:=B.slot b o g n hf hx;obtain⟨sl',g''⟩:=g7 b _ (AH _ hf) g';exact⟨sl',g''⟩
  obtain⟨c1,c2,c3⟩:=old b o g;obtain⟨o',g'⟩:=B.there b o g hx;by_cases hm:b∈frs (EA qual scope s.heap.objs.size f cd::outer)
  ·obtain⟨sl,g''⟩:=g7 b o' hm g';exact⟨_,g''⟩
  exact⟨_,g6 b o' c2 hm c3 g'⟩
 intro a o ha;refine(I2.hok a o ha).stay (fun b u hb gb=>?_) (fun _ z=>z) fun _ _ z=>z;have hb':H2 b≠none:=by
  rcases hb with rfl|hb
  ·rw[ha];exact fun z=>nomatch z
  rw[hb];exact fun z=>nomatch z
 refine g6 b u (fun z=>hb' (by rw[z];exact L.fre)) (fun z=>hb' (hfree b z)) (fun z=>hb' (hT0 b z).2) gb
noncomputable def unt (H:Hp)(a:Addr):Hp:=fun b=>if b=a then none else H b
theorem uo {H:Hp}{a:Addr}:unt H a a=none:=by unfold unt;rw[if_pos rfl]
theorem sO {H:Hp}{a b:Addr}(h:b≠a):unt H a b=H b:=by unfold unt;rw[if_neg h]
theorem Inv.forget {X:Cx}{pins:List (Addr×Obj)}{σ:St}{H:Hp}{s:AA}{e C:Addr}{dx:Option Addr}(I:Inv X pins σ H s)(he:H e=some (XO e C dx)):Inv X pins σ (unt H e) s:=by
 have oth:∀b u,H b=some u->u≠XO e C dx->unt H e b=some u:=fun b u h n=>by
  rw[sO (fun z=>n (by rw[z,he] at h;exact(AV h).symm)),h]
 have non:∀b,H b=none->unt H e b=none:=fun b h=>by
  unfold unt;split
  ·rfl
  exact h
 have B:=I.base;refine⟨I.ok,I.os,I.bare,⟨B.keep,B.slot,fun b o g n hx=>non b (B.free b o g n hx),B.there,fun b xs h=>oth b _ (B.tups b xs h) (by unfold XO;exact fun z=>nomatch z),fun b o u h=>oth b _ (B.frzs b o u h) (by unfold XO;exact fun z=>nomatch z),fun b ps h=>?_⟩,I.loc,I.cell,non _ I.free,fun x c h=>non _ (I.freeC x c h),fun p hp=>?_,fun a o ha=>?_,I.len⟩
 ·obtain⟨m,hm⟩:=B.tbls b ps h;exact⟨m,oth b _ hm (by unfold XO;exact fun z=>nomatch z)⟩
 ·obtain⟨z1,z2,z3⟩:=I.pin p hp;exact⟨z1,non _ z2,z3⟩
 have hne:a≠e:=fun z=>by rw[z,uo] at ha;cases ha
 rw[sO hne] at ha;exact(I.hok a o ha).stay (fun b u _ g=>g) (fun b h=>oth b _ h (by unfold XO;exact fun z=>nomatch z)) fun b xs h=>oth b _ h (by unfold XO;exact fun z=>nomatch z)
theorem O3 {K:AD}{h:Heap}{N:Addr}{mg:Str->Option An}{n:Str}{v:An}(X:K.In h)(G:h.Ns N mg)(e:nsIn K N n=some (some v)):mg n=some v:=by
 obtain⟨o,es,ep,ho,hd,_,hf⟩:=G;unfold nsIn at e;split at e
 ·rename_i q;have q:=(X _ _ q).symm.trans ho;cases q;cases hd;split at e
  ·rename_i he;cases e;rw[<- hf];unfold nsFind findBy;rw[<- Array.find?_toList,he];rfl
  split at e <;> cases e
 cases e
section
variable {X:Cx}{C D N fI:Addr}{x:Str}{np cpos pos:Pos}{e:Expr}{es:List Expr}{t:TA}{k:Nat}{fd:Co}{ps:List Str}{sp:Sp}{E:XK}
noncomputable def Ei (C:Addr)(sp:Sp)(E:XK)(t:TA):TS:=fun _ σ H=>t σ H fun vs H1=>vs.length<=1000/\∀a,H1 a=none ->
 sp (.ref a::vs) (upd H1 a (XO a C none)) (fun v H2=>v=.non/\∃dx,H2 a=some (XO a C (some dx))/\E (.ref C) (some dx) (unt H2 a)) E0
theorem Og (XC:rK X.K C D N fI) (F:cQ X.prog X.w X.K X.mg X.base CX0 k fI fd ps sp) (hr:gh (k+1) X.A) (hb:Binds X.K fd ps []) (hfI:∃oI,X.K.lookup fI=some oI/\oI.cls=.type "function") (hcalm:X.calm=true) (hout:abx X E)
  (hg:Gl X x) (hm:X.mg x=some (.ref C)) (ha:PA X (e::es) t) (hdb:(x == ("__debug__" : Str))=false:=by decide)
  (hst:AJ (e::es) X.env=(false,eval e X.env)::AJ es X.env:=by rfl) (hpl:(CA cpos (AJ es X.env)).any (·.1)=false:=by rfl) :
  PS X (.Raise (some (.Call (.Name x np) (e::es) [] cpos)) none pos) (Ei C sp E t):=by
 intro pins s σ H Dn I h;have hplain:(CA cpos (AJ (e::es) X.env)).any (·.1)=false:=by
  rw[hst];show(false||(CA cpos (AJ es X.env)).any (·.1))=false;rw[hpl] <;> rfl
 obtain⟨nm,q',bs,sn,sub,ab,col,dd,k0,k1,k2,k3,k5,hC⟩:=XC.obj;obtain⟨oI,hoI,hoc⟩:=hfI;have hA:=ha cpos pins s σ H _ I h;have hE:AK (AN X.prog X.w) X.A (evalArgs (.ref C) true (CA cpos (AJ (e::es) X.env)) []) (fun a s2=>a.kw=[]/\AP X pins σ (fun vs H1=>vs.length<=1000/\∀a,H1 a=none ->
   sp (.ref a::vs) (upd H1 a (XO a C none)) (fun v H2=>v=.non/\∃dx,H2 a=some (XO a C (some dx))/\E (.ref C) (some dx) (unt H2 a)) E0) a.pos s2) X.xe s:=by
  rw[hst] at hA |-;exact E6 (thn hA fun us s2 z=>⟨rfl,z⟩)
 rw[arm_exec_Raise];refine Ap (Ex (WN (C:=C) (nm:=nm) (q:=q') (N:=N) (bs:=bs) (bm:=.ref D::vbm) (hdct:=true) (sn:=sn) (sub:=sub) (ab:=ab) (col:=col) (dd:=dd) (k0:=k0) (k1:=k1) (k2:=k2) (k3:=k3) (k5:=k5) (newId := "ValueError.__new__") rfl (I.ok.hd hcalm) ?_));refine Ap (B5 (wpAny_Call_ofName (Fq I hg hm ?_ hdb)) (fun v s₃ h₃=>Ap (Ex (AE h₃))) fun _ _ x=>x);unfold callWith;refine Ap (B8 (B5 hE (fun a s₂ h₂=>Ap (Ex ?_)) fun _ _ x=>x));obtain⟨apos,akw⟩:=a;obtain⟨hkw,vs,H1,I1,rv,hl,hsp⟩:=h₂;obtain rfl:akw=[]:=hkw;obtain⟨hp,g,d,tk,os⟩:=s₂;simp only[hplain];have hC1:=I1.kIn _ _ hC;refine Ap (wpAny_keeperOf_exc hC1 ?_);refine Ap ?_;have T:OwnTail hp vbm (.ref D::vbm):=PySem.W.tail_of_in I1.kIn XC.tail;have hNs:hp.Ns N (hp.nsMap N):=.of_isNs (PySem.W.isNs_of_in I1.kIn XC.nsok);refine Ql (B := "ValueError") (Bn := "ValueError") (bmB:=vbm) (bmN:=vbm) G0 rfl G0 T hC1 hNs (O3 I1.kIn hNs XC.init) (I1.kIn _ _ hoI) hoc ?_ ?_
 ·intro h' ea hs hmk;obtain⟨tt,hget,_,_⟩:=hmk.there;have I2:=I1.laid (a:=ea) (o:=XO ea C none) (t':=tk) (h':=h') hmk.keeps hs ⟨⟨tt,hget⟩,⟨_,hget⟩,fun h1 h2 ⟨t,z⟩ z2=>⟨t,z2 _ z⟩⟩;have hq:=hsp ea (I1.hok.fresh hs);have r2:Vals (V.ref ea::vs) (An.ref ea::apos):=.cons rfl rv;have hln:(An.ref ea::apos++[]).length=ps.length:=by
   rw[C4,<- r2.length];exact F.len _ _ _ _ hq
  have hbn:=hb _ (An.ref ea::apos) I2.kIn hln;rw[C4] at hbn;refine GL (GB (F.run _ X.stack _ _ ⟨An.ref ea::apos,[]⟩ (An.ref ea::apos) _ _ E0 (hr.make C apos []) (I2.env0.make C apos []) hbn r2 hq) fun r s' hq'=>?_);cases r with
  | error e'=>exact DJ hq'
  | ok fl=>
   cases fl with
   | ret u=>
    obtain⟨v,H3,I3,ru,ev,dx,hH,hEE⟩:=I2.after hq';subst ev;obtain⟨t3,ht3⟩:=(show ∃t,_ from((I3.hok ea _ hH).1));refine⟨ru,Ap (B8 (wpAny_point (AE ⟨ea,t3,some dx,rfl,I3.kIn _ _ hC,ht3,?_⟩)))⟩;refine hout pins σ (unt H3 ea) s' ea _ _ (I3.forget hH) ⟨ht3,rfl,by show 1<6;decide,BQ I1.sz hs,fun z=>?_,uo,.inl rfl⟩ hEE;have:=I1.lt;rw[<- z] at this;exact CU _ (AX this hs)
   | next=>exact DJ hq'
   | brk=>exact DJ hq'
   | cont=>exact DJ hq'
 show apos.length<=_;rw[<- (show Vals vs apos from rv).length];exact BQ hl (by rw[EZ];decide)
end
theorem yN {X:Cx}{pins:List (Addr×Obj)}{σ:St}{H:Hp}{s:AA}{M:Kk}{A:Bi}{E:An->AA->Prop}{i:Nat}{n:Str}{pos:Pos}{Q:Unit->AA->Prop}(I:Inv X pins σ H s)(hN:X.N.Nodup)(hi:X.N[i]?=some n)(hk:X.env.scope.names.lookup n=some .local)
  (h:∀s',Inv X pins (σ.set i none) H s'->Q () s'):AK M A (do bindName X.env n .none;unbindBehindTheSuite X.env n pos) Q E s:=by
 obtain⟨m,hn,hl⟩:=id I.loc;have hcls:(X.env.scope.kind == .class||(X.env.scope.kind == .module&&X.env.locals != X.env.globals))=false:=by rw[I.ok.kind];rfl
 have hiσ:i<σ.length:=by rw[I.len];exact(AG.mp hi).1
 have cne:=I.cne;have tracked:∀{a:Addr}{h':Heap},(∃o,s.heap.get? a=some o/\H a=none)->C2 a s.heap h'->HOk X.prog X.w H h':=fun {a h'} ha hs b ob e=>by
  obtain⟨_,_,hfree⟩:=ha;refine(I.hok b ob e).stay (fun c w' hc q=>(hs.2 c ?_).trans q) (fun _ q=>q) fun _ _ q=>q;rintro rfl;rcases hc with rfl|hc
  ·rw[hfree] at e;cases e
  rw[hfree] at hc;cases hc
 refine wpAny_nameGoes_keeps (show X.env.kindOf n=some .local from hk) hn hcls fun h' v hn' hs=>?_;obtain⟨oL,_,_,hoL,_⟩:=id hn;refine h _ ⟨I.ok,I.os,I.bare,⟨fun b o e n hb hx=>?_,fun b o e n hb hx=>?_,I.base.free,fun b o e hx=>?_,I.base.tups,I.base.frzs,I.base.tbls⟩,⟨_,hn',fun j y v' e1 e2 e3=>?_⟩,fun y c e=>?_,I.free,I.freeC,fun p hp=>?_,tracked ⟨oL,hoL,I.free⟩ hs,by simpa using I.len⟩
 ·exact(hs.2 b (BO (AX (A3 e) I.ok.above))).trans (I.base.keep b o e n hb hx)
 ·obtain⟨sl,e1⟩:=I.base.slot b o e n hb hx;exact⟨sl,(hs.2 b (BO (AX (A3 e) I.ok.above))).trans e1⟩
 ·obtain⟨o',e1⟩:=I.base.there b o e hx;exact⟨o',(hs.2 b (BO (AX (A3 e) I.ok.above))).trans e1⟩
 ·by_cases hj:j=i
  ·subst hj;rw[FA hiσ] at e2;cases e2
  rw[Iq (Ch hj)] at e2;obtain⟨u',r',q⟩:=hl j y v' e1 e2 e3;refine⟨u',r',?_⟩;rcases q with⟨k,e⟩|⟨k,c,e,z⟩
  ·refine .inl ⟨k,?_⟩;have:y≠n:=fun e=>hj (zE hN e1 (e ▸ hi));simp [this,e]
  exact .inr ⟨k,c,e,z.sameBut hs (cne y c e)⟩
 ·obtain⟨w',z⟩:=I.cell y c e;exact⟨w',z.sameBut hs (cne y c e)⟩
 obtain⟨e,n,ne,nf,d⟩:=I.pin p hp;exact⟨(hs.2 p.1 ne).trans e,n,ne,nf,d⟩
theorem Yw {prog:AW}{w:BB}{A:Bi}{E:An->AA->Prop}{s:AA}{base:Heap}{env:Env}{outer:List Env}{L e:Addr}{oe:Obj}{vs:Array An}{Q:Unit->AA->Prop}(hfr:A.frames=some (env::outer))(hl:s.heap.FunFrames base (env::outer))(hf:env.frame=some L)
  (he:s.heap.get? e=some oe) (hd:oe.data=A8 vs) (h1s:1<vs.size) (hen:e∉BI (fun x=>x.frame) (env::outer))
  (ht:vs[1]?=some An.none\/∃T ts,vs[1]?=some (An.ref T)/\T≠e/\s.heap.get? T=some { cls:=An.type "traceback",data:=A8 ts }/\ts[3]?=some An.none)
  (hQ:∀(h':Heap)(T:Addr)(ts:Array An),h'.get? e=some { cls:=oe.cls,dict:=oe.dict,data:=A8 (vs.setIfInBounds 1 (An.ref T)),slots:=oe.slots }->h'.get? T=some { cls:=An.type "traceback",data:=A8 ts }->ts[3]?=some An.none->T≠e->s.heap.objs.size<=T ->
   (∀b o,b≠e->b∉BI (fun x=>x.frame) (env::outer)->vs[1]?≠some (An.ref b)->s.heap.get? b=some o->h'.get? b=some o)->(∀b o,b∈BI (fun x=>x.frame) (env::outer)->s.heap.get? b=some o->∃sl,h'.get? b=some { cls:=o.cls,dict:=o.dict,data:=o.data,slots:=sl })->Q () { s with heap:=h' }) :
  AK (AN prog w) A (HC (An.ref e) env) (fun _ s'=>AK (AN prog w) A (Fs (An.ref e) none) Q E s') E s:=by
 have fin:∀(h₂:Heap)(T:Addr)(ts:Array An),h₂.get? e=some { cls:=oe.cls,dict:=oe.dict,data:=A8 (vs.setIfInBounds 1 (An.ref T)),slots:=oe.slots }->h₂.get? T=some { cls:=An.type "traceback",data:=A8 ts }->ts[3]?=some (EC L)->T≠e->s.heap.objs.size<=T->T∉BI (fun x=>x.frame) (env::outer) ->
   (∀b o,b≠e->b∉BI (fun x=>x.frame) (env::outer)->vs[1]?≠some (An.ref b)->s.heap.get? b=some o->h₂.get? b=some o)->(∀b o,b∈BI (fun x=>x.frame) (env::outer)->s.heap.get? b=some o->∃sl,h₂.get? b=some { cls:=o.cls,dict:=o.dict,data:=o.data,slots:=sl }) ->
   AK (AN prog w) A (Fs (An.ref e) none) Q E { s with heap:=h₂ }:=fun h₂ T ts g1 g2 g3 g4 g5 g6 g7 g8=>by
  unfold Fs;have v1:(vs.setIfInBounds 1 (An.ref T))[1]?=some (An.ref T):=by
   rw[B4 h1s]
  refine Ap (B7 g1 rfl v1 (DF rfl ?_));refine CM (s:={ s with heap:=h₂ }) g2 (Cs.mp g3).1 fun h₃ q1 q2=>?_;refine hQ h₃ T _ ((q2.2 e (Ch g4)).trans g1) q1 ?_ g4 g5 (fun b o c1 c2 c3 g=>?_) (fun b o c1 g=>?_)
  ·rw[B4 (Cs.mp g3).1];rfl
  ·have hb:b≠T:=fun z=>by
    have:=A3 g;rw[z] at this;exact absurd this (not_lt.mpr g5)
   exact(q2.2 b hb).trans (g7 b o c1 c2 c3 g)
  obtain⟨sl,q⟩:=g8 b o c1 g;exact⟨sl,(q2.2 b fun z=>g6 (by rw[<- z];exact c1)).trans q⟩
 unfold HC;rw[hf];have fresh:∀{T:Addr},s.heap.objs.size<=T->T∉BI (fun x=>x.frame) (env::outer):=fun {T} hT hm=>by
  obtain⟨_,o,g,_⟩:=hl.mem hm;exact absurd (A3 g) (not_lt.mpr hT)
 rcases ht with ht|⟨T0,ts0,ht,hTe,hT0,h30⟩
 ·refine Ap (B7 he hd ht (BD rfl ?_));exact Fe hfr hl hf he hd h1s hen fun h₂ T ts g1 g2 g3 g4 g5 g6 g7=>fin h₂ T ts g1 g2 g3 g4 g5 (fresh g5) (fun b o c1 c2 _ g=>g6 b o c1 c2 g) g7
 refine Ap (B7 he hd ht (DF rfl ?_));refine Ap (B7 hT0 rfl h30 (BD rfl ?_));refine Ap (CM hT0 (Cs.mp h30).1 fun h₁ q1 q2=>?_);have hT0f:T0∉BI (fun x=>x.frame) (env::outer):=fun hm=>by
  obtain⟨_,o,g,nf⟩:=hl.mem hm;rw[hT0] at g;cases g;exact nf _ rfl
 have hl1:h₁.FunFrames base (env::outer):=hl.of_keeps fun b o g nf=>⟨o,(q2.2 b fun z=>by rw[z,hT0] at g;cases g;exact nf _ rfl).trans g,rfl⟩;refine Fe (s:={ s with heap:=h₁ }) hfr hl1 hf ((q2.2 e (Ch hTe)).trans he) hd h1s hen fun h₂ T ts g1 g2 g3 g4 g5 g6 g7=>?_;have g5':s.heap.objs.size<=T:=by rw[<- q2.1];exact g5
 refine fin h₂ T ts g1 g2 g3 g4 g5' (fresh g5') (fun b o c1 c2 c3 g=>g6 b o c1 c2 ((q2.2 b fun z=>c3 (by rw[z];exact ht)).trans g)) fun b o c1 g=>?_;exact g7 b o c1 ((q2.2 b fun z=>hT0f (by rw[<- z];exact c1)).trans g)
theorem J9 {prog:AW}{w:BB}{A:Bi}{E:An->AA->Prop}{s:AA}{env:Env}{e:Addr}{D:Addr}{t:Expr}{n:Str}{b₀:Stmt}{suite:List Stmt}{pos:Pos}{rest:List ExceptHandler}{Q:Flow->AA->Prop}
  (h:AK (AN prog w) (A.mark (some (.ref e))) (eval t env) (fun c s₁=>c=.ref D/\(∀(Q':Bool->AA->Prop) A' E',Q' true s₁->AK (AN prog w) A' (excMatches (.ref e) (.ref D)) Q' E' s₁) /\
   AK (AN prog w) (A.mark (some (.ref e))) (Fs (.ref e) none) (fun _ s₂=>
     AK (AN prog w) (A.mark (some (.ref e))) (storeName env n (.ref e)) (fun _ s₃=>
      AK (AN prog w) (A.mark (some (.ref e))) (execs (b₀::suite) env)
       (fun f s₄=>AK (AN prog w) A (do bindName env n .none;unbindBehindTheSuite env n pos) (fun _ s₅=>Q f s₅) E s₄)
       (AsSuiteRaised (AN prog w) (A.mark (some (.ref e))) env n pos (Hb (AN prog w) (A.mark (some (.ref e))) env (cameBackBy (AN prog w) A env E))) s₃) (Hb (AN prog w) (A.mark (some (.ref e))) env (cameBackBy (AN prog w) A env E)) s₂) (Hb (AN prog w) (A.mark (some (.ref e))) env (cameBackBy (AN prog w) A env E)) s₁) (Hb (AN prog w) (A.mark (some (.ref e))) env (cameBackBy (AN prog w) A env E)) s) :
  AK (AN prog w) A (handleBy (.ref e) env (.ExceptHandler (some t) (some n) (b₀::suite) pos::rest)) Q E s:=by
 refine wpAny_handleBy_cons (codeAny_handlers_test (B5 h (fun c s₁ h₁=>?_) fun _ _ y=>y)) (by intro q;cases q);obtain⟨rfl,hm,hk⟩:=h₁;exact hm _ _ _ (codeAny_handlers_suite_as hk)
noncomputable def Jf (X:Cx)(pins:List (Addr×Obj))(xe:An->AA->Prop):Cx:={ X with xe:=xe,pn:=X.pn++pins }
noncomputable def Mj (X:Cx)(x:Addr):Cx:={ X with A:=X.A.mark (some (.ref x)),calm:=false,xe:=fun _ _=>False }
section
variable {X:Cx}{pins pins':List (Addr×Obj)}{σ:St}{H:Hp}{s:AA}{xe:An->AA->Prop}{x:Addr}
theorem YB (I:Inv X pins σ H s):Inv (Jf X pins xe) [] σ H s:=
 ⟨⟨I.ok.mod,I.ok.kind,I.ok.glob,I.ok.blt,I.ok.above,I.ok.inj,I.ok.has,I.ok.cab,I.ok.hd,I.ok.frames,I.ok.stk,I.ok.exf,I.ok.bs,I.ok.bsz,I.ok.noex,I.ok.exfs,I.ok.oN,I.ok.frf⟩,I.os,I.bare,I.base,I.loc,I.cell,I.free,I.freeC,
  fun p hp=>I.pin p (by rw[C4] at hp;exact hp),I.hok,I.len⟩
theorem jX (I:Inv (Jf X pins xe) pins' σ H s):Inv X pins σ H s:=
 ⟨⟨I.ok.mod,I.ok.kind,I.ok.glob,I.ok.blt,I.ok.above,I.ok.inj,I.ok.has,I.ok.cab,I.ok.hd,I.ok.frames,I.ok.stk,I.ok.exf,I.ok.bs,I.ok.bsz,I.ok.noex,I.ok.exfs,I.ok.oN,I.ok.frf⟩,I.os,I.bare,I.base,I.loc,I.cell,I.free,I.freeC,
  fun p hp=>I.pin p (BG _ hp),I.hok,I.len⟩
theorem UW (I:Inv X pins σ H s):Inv (Mj X x) pins σ H s:=
 ⟨⟨I.ok.mod,I.ok.kind,I.ok.glob,I.ok.blt,I.ok.above,I.ok.inj,I.ok.has,I.ok.cab,fun z=>(nomatch z),I.ok.frames,I.ok.stk,I.ok.exf,I.ok.bs,I.ok.bsz,I.ok.noex,I.ok.exfs,I.ok.oN,I.ok.frf⟩,I.os,I.bare,I.base,I.loc,I.cell,I.free,I.freeC,I.pin,I.hok,I.len⟩
theorem oH (ok:X.Ok)(I:Inv (Mj X x) pins σ H s):Inv X pins σ H s:=
 ⟨ok,I.os,I.bare,I.base,I.loc,I.cell,I.free,I.freeC,I.pin,I.hok,I.len⟩
theorem uz {D:Ends}{f:Flow}(h:SP (Jf X pins xe) [] D f s):SP X pins D f s:=by
 cases f with
 | next=>obtain⟨σ',H',I,q⟩:=h;exact⟨σ',H',jX I,q⟩
 | brk=>obtain⟨σ',H',I,q⟩:=h;exact⟨σ',H',jX I,q⟩
 | cont=>obtain⟨σ',H',I,q⟩:=h;exact⟨σ',H',jX I,q⟩
 | ret u=>obtain⟨v,σ',H',I,r,q⟩:=h;exact⟨v,σ',H',jX I,r,q⟩
end
noncomputable def XR (x C:Addr)(dx:Option Addr):HO:=.ext fun h=>∃vs sl,h.get? x=some { cls:=.ref C,dict:=dx,data:=.fields vs,slots:=sl }
noncomputable def Wj:Option An->List Addr
 | some (.ref b)=>[b]
 | _=>[]
theorem Ur {o:Option An}{b:Addr}(h:b∈Wj o):o=some (.ref b):=by
 unfold Wj at h;split at h
 ·rw[Au.mp h]
 cases h
structure Zv (s:AA)(x T:Addr)(ox:Obj)(vs ts:Array An):Prop where
 at_:s.heap.get? x=some ox
 dat:ox.data=.fields vs
 one:vs[1]?=some (.ref T)
 ent:s.heap.get? T=some { cls:=.type "traceback",data:=.fields ts }
 fl:ts[3]?=some .none
 ne:T≠x
section
variable {X:Cx}{pins:List (Addr×Obj)}{σ:St}{H1 H2:Hp}{s1 s2:AA}{x C:Addr}{ox:Obj}{vs:Array An}
theorem Vu {E:An->AA->Prop}{Q:Unit->AA->Prop}(hstk:X.stack=X.env::X.outer/\X.env.frame=some X.env.locals)(I1:Inv X pins σ H1 s1)(L:Lies s1 s2 H2 x ox vs)(hc:ox.cls=.ref C)
  (hos:s2.os=s1.os) (hg:Go s2.gens) (un:Un (frs X.stack) [] H1 H2 s1.heap s2.heap) (hok:HOk X.prog X.w H2 s2.heap)
  (hQ:∀s3 T ox3 vs3 ts,Inv X pins σ (upd H2 x (XR x C ox.dict)) s3->Zv s3 x T ox3 vs3 ts->Q () s3) :
  AK (AN X.prog X.w) X.A (HC (.ref x) X.env) (fun _ s'=>AK (AN X.prog X.w) X.A (Fs (.ref x) none) Q E s') E s2:=by
 have I2:Inv X pins σ H2 s2:=I1.call' (ch:=[]) hos un hok hg (fun b z=>absurd z (by simp));have hfree:=I2.ur;have hst:=I2.stack;have hfrm:=I2.ok.frames;have hold:∀b o,s1.heap.get? b=some o->b≠x:=fun b o g z=>by
  have h1:=A3 g;have h2:=L.new;rw[z] at h1;exact absurd (AX h1 h2) (CU _)
 have hen:x∉frs X.stack:=fun hm=>by
  obtain⟨_,o,g,_⟩:=I1.stack.mem hm;exact hold x o g rfl
 rw[hstk.1] at hen hst hfrm;have hT0:∀b,vs[1]?=some (An.ref b)->s1.heap.objs.size<=b/\H2 b=none:=fun b hb=>by
  rcases L.tb with z|⟨T0,_,z,_,_,_,z5,z6⟩
  ·rw[z] at hb;cases hb
  rw[z] at hb;cases hb;exact⟨z5,z6⟩
 refine Yw (base:=X.base) (outer:=X.outer) (L:=X.env.locals) hfrm hst hstk.2 L.at_ L.dat L.siz hen ?_ ?_
 ·rcases L.tb with z|⟨T,ts,z1,z2,z3,z4,_,_⟩
  ·exact .inl z
  exact .inr ⟨T,ts,z1,z2,z3,z4⟩
 intro h' T ts g1 g2 g3 g4 g5 g6 g7
 let chs:List Addr:=x::Wj vs[1]?
 have hchs:∀b∈chs,b=x\/vs[1]?=some (.ref b):=fun b hb=>by
  rcases AO.mp hb with z|z
  ·exact .inl z
  exact .inr (Ur z)
 have hch2:∀b,vs[1]?=some (.ref b)->b∈chs:=fun b hb=>by
  show b∈x::Wj vs[1]?;rw[hb];exact AH _ (Au.mpr rfl)
 have hnew:∀b∈chs,s1.heap.objs.size<=b:=fun b hb=>by
  rcases hchs b hb with z|z
  ·rw[z];exact L.new
  exact(hT0 b z).1
 have hno:∀b∈chs,∀c o,s1.heap.get? c=some o->c≠b:=fun b hb c o g z=>by
  have h1:=A3 g;rw[z] at h1;exact absurd (AX h1 (hnew b hb)) (CU _)
 have hfr2:∀b,b∉frs X.stack->b∉BI (fun x=>x.frame) (X.env::X.outer):=fun b hb=>by
  rw[hstk.1] at hb;exact hb
 have hfr3:∀b,b∈frs X.stack->b∈BI (fun x=>x.frame) (X.env::X.outer):=fun b hb=>by
  rw[hstk.1] at hb;exact hb
 have u3:Un (frs X.stack) chs H2 (upd H2 x (XR x C ox.dict)) s2.heap h':=by
  refine⟨fun b o g n hf hx=>?_,fun b o g n hf hx=>?_,fun b o g n hx=>?_,fun b o g hx=>?_,fun b xs e=>?_,fun b o u e=>?_,fun b ps e=>⟨#[],?_⟩⟩
  ·exact g6 b o (fun z=>hx (by rw[z];exact AM)) (hfr2 b hf) (fun z=>hx (hch2 b z)) g
  ·exact g7 b o (hfr3 b hf) g
  ·rw[aH (fun z=>hx (by rw[z];exact AM)),n]
  ·by_cases hm:b∈frs X.stack
   ·obtain⟨sl,g''⟩:=g7 b o (hfr3 b hm) g;exact⟨_,g''⟩
   exact⟨_,g6 b o (fun z=>hx (by rw[z];exact AM)) (hfr2 b hm) (fun z=>hx (hch2 b z)) g⟩
  ·rw[aH (fun z=>by rw[z,L.fre] at e;cases e),e]
  ·rw[aH (fun z=>by rw[z,L.fre] at e;cases e),e]
  rw[aH (fun z=>by rw[z,L.fre] at e;cases e),e,Array.append_empty]
 have hok3:HOk X.prog X.w (upd H2 x (XR x C ox.dict)) h':=by
  intro a o ha;by_cases z:a=x
  ·subst z;rw[au] at ha;cases ha;rw[hc] at g1;exact⟨⟨_,_,g1⟩,⟨_,g1⟩,fun h1 h2 ⟨v,sl,z⟩ z2=>⟨v,sl,z2 _ z⟩⟩
  rw[aH z] at ha;refine(I2.hok a o ha).stay (fun b u hb gb=>?_) (fun b hb=>by rw[aH (fun z=>by rw[z,L.fre] at hb;cases hb),hb]) fun b xs hb=>by rw[aH (fun z=>by rw[z,L.fre] at hb;cases hb),hb]
  have hb':H2 b≠none:=by
   rcases hb with rfl|hb
   ·rw[ha];exact fun z=>nomatch z
   rw[hb];exact fun z=>nomatch z
  exact g6 b u (fun z=>hb' (by rw[z];exact L.fre)) (fun z=>hb' (hfree b (by rw[hstk.1];exact z))) (fun z=>hb' (hT0 b z).2) gb
 have I3:Inv X pins σ (upd H2 x (XR x C ox.dict)) { s2 with heap:=h' }:=by
  refine I2.call (g':=s2.gens) (t':=s2.toks) (d':=s2.drawn) (ch:=chs) u3 hok3 hg fun b hb=>⟨.inr (BQ I1.sz (hnew b hb)),fun z=>?_,fun y c e z=>?_,fun p hp z=>?_⟩
  ·obtain⟨m,⟨o,_,_,ho,_⟩,_⟩:=I1.loc;exact hno b hb _ o ho z.symm
  ·obtain⟨v,o,ho,_⟩:=I1.cell y c e;exact hno b hb c o ho z
  obtain⟨e,_⟩:=I1.pin p hp;exact hno b hb p.1 p.2 e z
 exact hQ _ T _ _ ts I3 ⟨g1,rfl,by rw[B4 L.siz],g2,g3,g4⟩
theorem set_same {ts:Array An}{i:Nat}{v:An}(h:ts[i]?=some v):ts.setIfInBounds i v=ts:=by
 apply Array.ext_getElem?;intro j;rw[Array.getElem?_setIfInBounds];split
 ·rename_i z;subst z;split
  ·exact h.symm
  rename_i z;have:=(Cs.mp h).1;exact absurd this z
 rfl
theorem Vf {prog:AW}{w:BB}{A:Bi}{E:An->AA->Prop}{Q:Unit->AA->Prop}{H:Hp}{s:AA}{T:Addr}{ts:Array An}(I:Inv X pins σ H s)(n:Zv s x T ox vs ts)(hQ:∀s',Inv X pins σ H s'->Q () s'):AK (AN prog w) A (Fs (.ref x) none) Q E s:=by
 unfold Fs;refine Ap (B7 n.at_ n.dat n.one (DF rfl ?_));refine CM n.ent (Cs.mp n.fl).1 fun h₃ q1 q2=>?_;refine hQ _ (I.kept (t':=s.toks) fun b u g=>?_);by_cases z:b=T
 ·subst z;rw[n.ent] at g;cases g;rw[q1];exact congrArg (fun a=>some ({ cls:=An.type "traceback",data:=A8 a }:Obj)) (set_same n.fl)
 exact(q2.2 b z).trans g
end
section
variable {X:Cx}{C D N fI ND:Addr}{dn n:Str}{i:Nat}{body suite:List Stmt}{b₀:Stmt}{np hpos pos:Pos}{tb:XK->TS}{ts:TS}
noncomputable def FQ (i:Nat)(Dn:Ends):Ends:={ nx:=fun σ H=>Dn.nx (σ.set i none) H,rt:=Dn.rt,bk:=fun σ H=>Dn.bk (σ.set i none) H,ct:=fun σ H=>Dn.ct (σ.set i none) H }
noncomputable def Zf (C:Addr)(len i:Nat)(ts:TS)(Dn:Ends):XK:=fun c dx H'=>c=.ref C/\∀(x:Addr)(σ':St),σ'.length=len->H' x=none->ts (FQ i Dn) (σ'.set i (some (.ref x))) (upd H' x (XR x C dx))
noncomputable def ZC (C:Addr)(len i:Nat)(tb:XK->TS)(ts:TS):TS:=fun Dn σ H=>tb (Zf C len i ts Dn) Dn σ H
end
open PySem.W (Frag clsIn findIn takerIn InstAt looks_clsIn looks_findIn looks_takesIn looks_specialIn specialIn takesIn Looks check_slot looks_mroIn mroIn handedIn handedOut_of class_get KitX)
section
variable {X:Cx}{pins:List (Addr×Obj)}{σ:St}{H:Hp}{s:AA}{A:Bi}{E:An->AA->Prop}{Q:An->AA->Prop}{c:An}{b:Bool}{x C dx:Addr}{fs:List (Str×V)}
theorem Ka:∀{y:V}{u:An},RelV y u->handedIn u=true
 | .non,_,r=>by rw[show _=An.none from r];rfl
 | .bl _,_,r=>by rw[show _=An.bool _ from r];rfl
 | .int _,_,⟨_,r⟩=>by rw[r];rfl
 | .str _,_,⟨_,r⟩=>by rw[r];rfl
 | .byt _,_,⟨_,r⟩=>by rw[r];rfl
 | .flt _,_,⟨_,r⟩=>by rw[r];rfl
 | .ref _,_,r=>by rw[show _=An.ref _ from r];rfl
 | .ty _,_,r=>by rw[show _=An.type _ from r];rfl
variable {D N fI:Addr}{e:Expr}{f:Str}{pos:Pos}{ta:TE}
noncomputable def K7 (K:AD)(C:Addr)(ta:TE)(f:Str):TE:=fun σ H Q=>ta σ H fun v H1=>∃x dx fs y,v=.ref x/\H1 x=some (XR x C (some dx))/\H1 dx=some (.xd fs)/\fs.lookup f=some y/\findIn K (.ref C) f=some none/\Q y H1
theorem XJ (XC:rK X.K C D N fI)(he:PE X e ta)(hb:DC e f X.env (eval e X.env)=eval e X.env):PE X (.Attribute e f pos) (K7 X.K C ta f):=by
 intro pins s σ H Q I h;refine Za hb (thn (he pins s σ H _ I h) fun u s1 ⟨v,H1,I1,rv,x,dx,fs,y,ev,hx,hd,hf,hno,q⟩=>?_);subst ev;obtain rfl:u=An.ref x:=rv;obtain⟨cd,c1,c2,c3⟩:=XC.cls;obtain⟨vs,sl,h1⟩:=(show ∃vs sl,_ from(I1.hok x _ hx).1);obtain⟨mA,h2,h3⟩:=(show d9 X.prog X.w H1 s1.heap dx (.xd fs) from I1.hok dx _ hd);have h4:=h3 f;rw[hf] at h4;cases hm:mA f with
 | none=>rw[hm] at h4;exact h4.elim
 | some uy=>
  rw[hm] at h4;obtain⟨hp,g,d,tk,os⟩:=s1;exact ack I1.kIn c1 c2 c3 XC.ga XC.gk hno h1 rfl rfl rfl h2.ns hm (Ka h4) ⟨y,H1,I1.tok (tk+1),h4,q⟩
end
structure Wb (P:AW)(w:BB)(K:AD)(mg:Str->Option An)(base:Heap)(x:Str)(k:Nat)(ps:List Str)(sp:Sp):Prop where
 ex:∃(f:Addr)(fd:Co),cQ P w K mg base (CX1 P w) k f fd ps sp/\Binds K fd ps []/\CB K (.ref f)=true/\mg x=some (.ref f)
structure aby (P:AW)(w:BB)(K:AD)(mg:Str->Option An)(base:Heap)(x:Str)(C D:Addr)(k:Nat)(ps:List Str)(sp:Sp):Prop where
 ex:∃(N fI:Addr)(fd:Co),rK K C D N fI/\cQ P w K mg base CX0 k fI fd ps sp/\Binds K fd ps []/\(∃oI,K.lookup fI=some oI/\oI.cls=.type "function")/\mg x=some (.ref C)
section
variable {P:AW}{w:BB}{K:AD}{mg:Str->Option An}{base:Heap}
theorem Fun.ab6 {x qual:Str}{st:Stmt}{f:Addr}{fd:Co}{N ps:List Str}{k:Nat}{sp:Sp}(F:Fun K x qual st f fd)(S:bx N ps (aj st))(len:∀vs H Q E,sp vs H Q E->vs.length=ps.length)
  (hbody:∀(cdv:An)(A:Bi)(outer:List Env)(s:AA)(H:Hp)(vs:List V)(Q:VK)(E:XK),gh k (A.deeper (EA qual (aj st) s.heap.objs.size f cdv))->sp vs H Q E ->
   ∃t,QB (yx (CX1 P w) P w K mg base N qual (aj st) f cdv A outer s H E) (bf st) t/\t { nx:=fun _ H'=>Q .non H',rt:=Q } (L2.start N vs) H):cQ P w K mg base (CX1 P w) (k+1) f fd ps sp:=by
 obtain⟨oc,od,kV,doc,pm,an,cdv,ct,osl,rfl,lk,hcd⟩:=F.ex;refine Zr lk hcd S len fun A outer s H vs Q E hr hsp=>?_;obtain⟨t,h,q⟩:=hbody cdv A outer s H vs Q E hr hsp;exact⟨t,h.h,q⟩
theorem Wa.acq {x:Str}{st:Stmt}{ps:List Str}{f:Addr}{fd:Co}{k:Nat}{sp:Sp}(D:Wa K mg x st ps f fd)(F:cQ P w K mg base (CX1 P w) k f fd ps sp):Wb P w K mg base x k ps sp:=
 ⟨f,fd,F,D.bd,D.fn.kp,D.nm⟩
end
section
variable {X:Cx}{k:Nat}{ps:List Str}{sp:Sp}{x f:Str}{p np apos cpos pos pos':Pos}{e o value:Expr}{es:List Expr}{t:TA}{E:XK}{C D N fI:Addr}{te ta tv:TE}
theorem Xb (c:Wb X.prog X.w X.K X.mg X.base x k ps sp) (hr:gh k X.A) (hg:Gl X x) (hx:qI (CX1 X.prog X.w) X E) (ha:QA X (e::es) t) (hdb:(x == ("__debug__" : Str))=false:=by decide)
  (he:AJ (e::es) X.env=(false,eval e X.env)::AJ es X.env:=by rfl) (hpl:(CA pos (AJ es X.env)).any (·.1)=false:=by rfl):QE X (.Call (.Name x p) (e::es) [] pos) (uq sp [] E t):=by
 obtain⟨f,fd,F,b,kp,hm⟩:=c.ex;exact⟨Mf F hr hg hm kp b .nil hx ha.h hdb he hpl⟩
theorem Sy (c:aby X.prog X.w X.K X.mg X.base x C D k ps sp) (hr:gh (k+1) X.A) (hg:Gl X x) (hcalm:X.calm=true) (ho:abx X E) (ha:QA X (e::es) t) (hdb:(x == ("__debug__" : Str))=false:=by decide)
  (hst:AJ (e::es) X.env=(false,eval e X.env)::AJ es X.env:=by rfl) (hpl:(CA cpos (AJ es X.env)).any (·.1)=false:=by rfl) :
  QS X (.Raise (some (.Call (.Name x np) (e::es) [] cpos)) none pos) (Ei C sp E t):=by
 obtain⟨N,fI,fd,XC,F,b,hf,hm⟩:=c.ex;exact⟨Og XC F hr b hf hcalm ho hg hm ha.h hdb hst hpl⟩
theorem S7 {pl:Sem Bool}(XC:rK X.K C D N fI) (XD:XBase X.K D) (hg:Gl X x) (hm:X.mg x=some (.ref D)) (ha:QA X (e::es) t) (hdb:(x == ("__debug__" : Str))=false:=by decide)
  (hst:AJ (e::es) X.env=(false,eval e X.env)::AJ es X.env:=by rfl) (hpl:(CA cpos (AJ es X.env)).any (·.1)=false:=by rfl)
  (ht:eval (.Call (.Attribute (.Name x np) "__init__" apos) (e::es) [] cpos) X.env=(do
   let ov <- eval (.Name x np) X.env
   GA apos.atName
   let (f,first) <- EB [ov] (getMethod ov "__init__" pl)
   callWith cpos f first (CA cpos (AJ (e::es) X.env)) (EE cpos (C6 [] X.env))):=by rfl) :
  QE X (.Call (.Attribute (.Name x np) "__init__" apos) (e::es) [] cpos) (tBI C t):=⟨TX XC XD hg hm ha.h hdb hst hpl ht⟩
theorem W7 (XC:rK X.K C D N fI)(ha:QE X o ta)(hv:QE X value tv)(hs:FO value (some (.Attribute o f pos')) pos.line X.env=pure false:=by rfl):QS X (.Assign [.Attribute o f pos'] value pos) (RM X.K C ta tv f):=⟨Xk XC ha.h hv.h hs⟩
theorem W9 (XC:rK X.K C D N fI)(he:QE X e ta)(hb:DC e f X.env (eval e X.env)=eval e X.env:=by rfl):QE X (.Attribute e f pos) (K7 X.K C ta f):=⟨XJ XC he.h hb⟩
theorem Oe {v₁ v₂:Expr}{rest:List Expr}{tj:TJ}(h:PJ X (v₁::v₂::rest) tj)(hl:(v₁::v₂::rest).length<=100:=by decide):QE X (.JoinedStr (v₁::v₂::rest) pos) (fun σ H Q=>tj σ H fun H1=>∀x,Q (.str x) H1):=⟨Oo h hl⟩
end
section
variable {X:Cx}{k:Nat}{ps:List Str}{sp:Sp}{x:Str}{p pos:Pos}{e:Expr}{es:List Expr}{t:TA}{E:XK}
theorem S5 (c:Wb X.prog X.w X.K X.mg X.base x k ps sp)(hr:gh k X.A)(hg:Gl X x)(b:Bn x)(hx:qI (CX1 X.prog X.w) X E)(ha:QA X (e::es) t)
  (he:AJ (e::es) X.env=(false,eval e X.env)::AJ es X.env:=by rfl) (hpl:(CA pos (AJ es X.env)).any (·.1)=false:=by rfl):QE X (.Call (.Name x p) (e::es) [] pos) (uq sp [] E t):=Xb c hr hg hx ha b.hd he hpl
end
noncomputable def yH (C:Addr)(fld:Str):Sp:=fun vs H Q _=>∃(a:Addr)(j:Int),vs=[.ref a,.int j]/\(-(2^70)<j/\j<2^70)/\H a=some (XO a C none) /\
 ∀dx,H dx=none->dx≠a->Q .non (upd (upd H dx (.xd [(fld,.int j)])) a (XO a C (some dx)))
noncomputable def Cu (C:Addr):Sp:=fun vs H Q E=>∃(l:Addr)(ok:Addr->Prop)(cs:List RowC)(j:Nat)(n:Int)(c:RowC),vs=[.ref l,.int (j:Int),.int n]/\aK ok H (.ref l) (.list (cs.map gH))/\fj cs/\j<2^60/\cs[j]?=some c/\d7 c=false /\
 (∀t,cF c j n=some t->∀H',Same H H'->Q (.int t) H')/\(cF c j n=none->∀dx H',Same H H'->H' dx=some (.xd [("row",.int (j:Int))])->E (.ref C) (some dx) H')
theorem zb {H H1:Hp}{E:XK}{C:Addr}{j:Int}{fld:Str}(hb:-(2^70)<j/\j<2^70)(s1:Same H H1)(qx:∀dx H',Same H H'->H' dx=some (.xd [(fld,.int j)])->E (.ref C) (some dx) H') :
  1<=1000/\∀a,H1 a=none->yH C fld [.ref a,.int j] (upd H1 a (XO a C none)) (fun v H2=>v=.non/\∃dx,H2 a=some (XO a C (some dx))/\E (.ref C) (some dx) (unt H2 a)) E0:=by
 refine⟨δ,fun a ha=>⟨a,j,rfl,hb,au,fun dx hdx hne=>⟨rfl,dx,au,qx dx _ (fun b o e=>?_) ?_⟩⟩⟩
 ·have e1:=s1 _ _ e;have n1:b≠a:=fun z=>by rw[z,ha] at e1;cases e1
  have n2:b≠dx:=fun z=>by rw[aH hne] at hdx;rw[z,hdx] at e1;cases e1
  rw[sO n1,aH n1,aH n2,aH n1,e1]
 rw[sO hne,aH hne,au]
open Builtin
mutual
noncomputable def noL:Bz->Bool
 | .list _=>false
 | .tuple ds=>ab8 ds
 | _=>true
noncomputable def ab8:List Bz->Bool
 | []=>true
 | d::ds=>noL d&&ab8 ds
end
theorem UJ {n j:Nat}(h:j<n):ixN n (j:Int)=some j:=by
 unfold ixN;rw[if_pos ω,if_pos ω];rfl
noncomputable def Rv (C:Addr):Sp:=fun vs H Q E=>∃(l:Addr)(ok:Addr->Prop)(cs:List RowC)(n:Int),vs=[.ref l,.int n]/\aK ok H (.ref l) (.list (cs.map gH))/\fj cs /\
 (∀lab,(runOf cs n).1=some lab->∀(t ld:Addr) H',Same H H'->H t=none->H ld=none->t≠ld->H' t=some (.tup [.int lab,.ref ld])->H' ld=some (.lst ((runOf cs n).2.map V.int))->Q (.ref t) H') /\
 ((runOf cs n).1=none->∀pre (j:Int) dx H',Same H H'->(runOf cs n).2=pre++[j]->H' dx=some (.xd [("row",.int j)])->E (.ref C) (some dx) H')
noncomputable def rowOf (ss:Sts)(g:Int->Int)(left:List Nat)(ahead:Int):Pl->RowC
 | .pick l=>.pik l
 | .tab=>.tab (bL ss left) (jM ss g left)
 | .one k _=>.one (aL ss k).1 (g (lbl ss k))
 | .wit k _=>.rng (aL ss k).1 (aL ss k).2.1 (g (lbl ss k))
 | .low k _ _=>.low (aL ss k).1 ahead
 | .msk l _=>.msk (bL ss left) (eF ss left) (lW ss left l:Nat) (g l)
noncomputable def gG (ss:Sts)(g:Int->Int):Pl->List Nat->Nat->List RowC
 | .pick l,left,p=>[rowOf ss g left 0 (.pick l)]
 | .tab,left,p=>[rowOf ss g left 0 .tab]
 | .one k r,left,p=>rowOf ss g left 0 (.one k r)::gG ss g r (left.filter (·≠k)) (p+1)
 | .wit k r,left,p=>rowOf ss g left 0 (.wit k r)::gG ss g r (left.filter (·≠k)) (p+1)
 | .low k a b,left,p=>rowOf ss g left ((p+1+aX b:Nat):Int) (.low k a b)::(gG ss g b (left.filter (k<=·)) (p+1)++gG ss g a (left.filter (· < k)) (p+1+aX b))
 | .msk l r,left,p=>rowOf ss g left 0 (.msk l r)::gG ss g r (left.filter fun k=>(aL ss k).2.2≠l) (p+1)
theorem eO (ss:Sts)(g:Int->Int):∀(q:Pl)(left:List Nat)(p:Nat),(gG ss g q left p).length=aX q
 | .pick l,left,p=>rfl
 | .tab,left,p=>rfl
 | .one k r,left,p=>by show(gG ss g r _ _).length+1=_;rw[eO ss g r];rfl
 | .wit k r,left,p=>by show(gG ss g r _ _).length+1=_;rw[eO ss g r];rfl
 | .msk k r,left,p=>by show(gG ss g r _ _).length+1=_;rw[eO ss g r];rfl
 | .low k a b,left,p=>by
  show(gG ss g b _ _++gG ss g a _ _).length+1=aX a+aX b+1;rw[AR,eO ss g a,eO ss g b];omega
noncomputable def dH (ss:Sts)(g:Int->Int)(A:Nat->Int):Nat->List (List Nat×Pl)->List RowC
 | _,[]=>[]
 | i,x::S=>rowOf ss g x.1 (A i) x.2::dH ss g A (i+1) S
theorem nT (ss:Sts)(g:Int->Int)(A:Nat->Int):∀(S T:List (List Nat×Pl)) (i:Nat),dH ss g A i (S++T)=dH ss g A i S++dH ss g A (i+S.length) T
 | [],T,i=>rfl
 | x::S,T,i=>by
  show rowOf ss g x.1 (A i) x.2::dH ss g A (i+1) (S++T)=rowOf ss g x.1 (A i) x.2::dH ss g A (i+1) S++_;rw[nT ss g A S T (i+1),Be,show i+1+S.length=i+(S.length+1) by omega];rfl
theorem iu (ss:Sts)(g:Int->Int)(A:Nat->Int):∀(q:Pl)(left:List Nat)(p:Nat),(∀x∈bM q p,A x.1=(x.2:Int))->dH ss g A p (aY ss q left)=gG ss g q left p
 | .pick l,left,p,h=>rfl
 | .tab,left,p,h=>rfl
 | .one k r,left,p,h=>by
  show rowOf ss g left (A p) (.one k r)::dH ss g A (p+1) (aY ss r _)=_;rw[iu ss g A r _ (p+1) h];rfl
 | .wit k r,left,p,h=>by
  show rowOf ss g left (A p) (.wit k r)::dH ss g A (p+1) (aY ss r _)=_;rw[iu ss g A r _ (p+1) h];rfl
 | .msk k r,left,p,h=>by
  show rowOf ss g left (A p) (.msk k r)::dH ss g A (p+1) (aY ss r _)=_;rw[iu ss g A r _ (p+1) h];rfl
 | .low k a b,left,p,h=>by
  show rowOf ss g left (A p) (.low k a b)::dH ss g A (p+1) (aY ss b _++aY ss a _)=_;have h1:A p=((p+1+aX b:Nat):Int):=h (p,p+1+aX b) (A0 _ AM);rw[nT,fL,iu ss g A b _ (p+1) fun x hx=>h x (BG _ hx),iu ss g A a _ (p+1+aX b) fun x hx=>h x (A0 _ (AH _ hx)),h1];rfl
noncomputable def Fit (cs:List RowC)(p:Nat)(R:List RowC):Prop:=∀(i:Nat) c,R[i]?=some c->cs[p+i]?=some c
theorem Fit.hd {cs:List RowC}{p:Nat}{c:RowC}{R:List RowC}(h:Fit cs p (c::R)):cs[p]?=some c:=h 0 c rfl
theorem Fit.tl {cs:List RowC}{p:Nat}{c:RowC}{R:List RowC}(h:Fit cs p (c::R)):Fit cs (p+1) R:=fun i d hd=>by
 have:=h (i+1) d hd;rwa [show p+(i+1)=p+1+i by omega] at this
theorem Fit.left {cs:List RowC}{p:Nat}{R T:List RowC}(h:Fit cs p (R++T)):Fit cs p R:=fun i d hd=>h i d (by rw[C8 (AG.mp hd).1];exact hd)
theorem Fit.right {cs:List RowC}{p:Nat}{R T:List RowC}(h:Fit cs p (R++T)):Fit cs (p+R.length) T:=fun i d hd=>by
 have:=h (R.length+i) d (by rw[BH ω,Nat.add_sub_cancel_left];exact hd);rwa [<- Nat.add_assoc] at this
noncomputable def wordAt (cs:List RowC)(a:Int):Str:=match cs[a.toNat]? with
 | some c=>j6 c
 | none => ""
theorem Ce {cs:List RowC}{p:Nat}{c:RowC}(h:cs[p]?=some c):wordAt cs (p:Int)=j6 c:=by
 unfold wordAt;rw[DD,h]
theorem pJ {cs:List RowC}{n:Int}{K p:Nat}{l:Int}(h:cs[p]?=some (.pik l)) (hK:cs.length<=p+K):∃pls,runC cs n K (p:Int)=(some l,pls)/\pls.map (wordAt cs)=[("pick" : Str)]:=by
 have hp:=(AG.mp h).1;obtain⟨K,rfl⟩:∃k',K=k'+1:=⟨K-1,ω⟩;refine⟨[(p:Int)],pK (by rw[DD];exact h),?_⟩;show [wordAt cs (p:Int)]=_;rw[Ce h];rfl
theorem iK {cs:List RowC}{n:Int}{K p t:Nat}{c:RowC}{lab:Int}{pls:List Int}{ws:List Str}(h:cs[p]?=some c)(hp:d7 c=false)(hs:cF c (p:Int) n=some (t:Int))(hr:runC cs n K (t:Int)=(some lab,pls))(hw:pls.map (wordAt cs)=ws) :
  ∃pls',runC cs n (K+1) (p:Int)=(some lab,pls')/\pls'.map (wordAt cs)=j6 c::ws:=by
 refine⟨(p:Int)::pls,?_,?_⟩
 ·rw[uM (by rw[DD];exact h) hp hs,hr]
 rw[Dx,Ce h,hw]
theorem RN {ss:Sts}(r:eY ss){cs:List RowC}{g:Int->Int}{n:Int}{k:Nat}(h1:(aL ss k).1<=n)(h2:n<=(aL ss k).2.1)(hk:k<ss.length) :
  ∀(q:Pl)(left:List Nat)(p K:Nat),PlV ss q left->k∈left->(∀x∈aY ss q left,∀l∈jh ss x.1 x.2,∃t:Nat,g l=(t:Int)/\cs[t]?=some (.pik l))->(∀l (t:Nat),g l=(t:Int)->p+aX q<=t)->Fit cs p (gG ss g q left p)->cs.length<=p+K ->
   ∃pls,runC cs n K (p:Int)=(some (lbl ss k),pls)/\pls.map (wordAt cs)=(pA ss k q).map rM++[("pick" : Str)]:=by
 have fuel:∀{p K:Nat}{c:RowC},cs[p]?=some c->cs.length<=p+K->∃K',K=K'+1:=fun {p K c} h hK=>by
  have hp:=(AG.mp h).1;exact⟨K-1,ω⟩
 have apart:∀{j:Nat},j<ss.length->k≠j->n<(aL ss j).1\/(aL ss j).2.1<n:=fun {j} hj hne=>by
  rcases Nat.lt_or_gt_of_ne hne with z|z
  ·have:=ux r z hj;omega
  have:=ux r z hk;omega
 intro q
 induction q with
 | pick l=>
  intro left p K pv hm _ _ fit hK;have hl:lbl ss k=l:=pv.2 k hm;obtain⟨pls,e1,e2⟩:=pJ (n:=n) (K:=K) fit.hd hK;exact⟨pls,by rw[hl];exact e1,by rw[e2];rfl⟩
 | tab=>
  intro left p K pv hm led hg fit hK;have h0:cs[p]?=some (.tab (bL ss left) (jM ss g left)):=fit.hd;obtain⟨K,rfl⟩:=fuel h0 hK;obtain⟨t,ht,hct⟩:=led (left,.tab) (Au.mpr rfl) (lbl ss k) (DE.mpr ⟨k,hm,rfl⟩);have hge:=hg _ t ht;obtain⟨pls,e1,e2⟩:=pJ (n:=n) (K:=K) hct (by simp only[aX] at hge;omega);have lf:=pv.1;have hl:=lf.lt _ (dU lf.ne);have hf:=eV lf.up k hm;have hla:=qw lf.up k hm;have hlo:=(cX r hf hk).1;have hhi:=(cX r hla hl).2;have hat:=rC r g (dZ left-bO left+1) (bO left) ω k hf ω n h1 h2;have hlen:=lB r g lf;rw[jO] at hlen;have hst:cF (.tab (bL ss left) (jM ss g left)) (p:Int) n=some (t:Int):=by
   show(if 0<=n-bL ss left/\n-bL ss left<(jM ss g left).length then (jM ss g left)[(n-bL ss left).toNat]? else none)=_;rw[if_pos (by rw[hlen];unfold bL;omega),<- ht];exact hat
  obtain⟨pls',e3,e4⟩:=iK h0 rfl hst e1 e2;exact⟨pls',e3,e4⟩
 | one j q ih=>
  intro left p K pv hm led hg fit hK;have h0:cs[p]?=some (.one (aL ss j).1 (g (lbl ss j))):=fit.hd;obtain⟨K,rfl⟩:=fuel h0 hK;have hj:j<ss.length:=pv.1.1.lt j pv.1.2.1;by_cases c:k=j
  ·subst c;obtain⟨t,ht,hct⟩:=led (left,.one k q) AM (lbl ss k) (Au.mpr rfl);have hge:=hg _ t ht;obtain⟨pls,e1,e2⟩:=pJ (n:=n) (K:=K) hct (by simp only[aX] at hge;omega);have hs:(aL ss k).1=(aL ss k).2.1:=pv.1.2.2;have hst:cF (.one (aL ss k).1 (g (lbl ss k))) (p:Int) n=some (t:Int):=by
    show some (if n=(aL ss k).1 then g (lbl ss k) else (p:Int)+1)=_;rw[if_pos ω,ht]
   obtain⟨pls',e3,e4⟩:=iK h0 rfl hst e1 e2;refine⟨pls',e3,?_⟩;rw[e4];show _=(0::(if k=k then [] else pA ss k q)).map rM++_;rw[if_pos rfl];rfl
  obtain⟨pls,e1,e2⟩:=ih (left.filter (·≠j)) (p+1) K pv.2 (BN.mpr ⟨hm,by simpa using c⟩) (fun x hx=>led x (AH _ hx)) (fun l t ht=>by have:=hg l t ht;simp only[aX] at this;omega) fit.tl ω;have hst:cF (.one (aL ss j).1 (g (lbl ss j))) (p:Int) n=some ((p+1:Nat):Int):=by
   show some (if n=(aL ss j).1 then g (lbl ss j) else (p:Int)+1)=_;have h3:=apart hj c;have h4:=iG r hj;rw[if_neg ω];rfl
  obtain⟨pls',e3,e4⟩:=iK h0 rfl hst e1 e2;refine⟨pls',e3,?_⟩;rw[e4];show _=(0::(if k=j then [] else pA ss k q)).map rM++_;rw[if_neg c];rfl
 | wit j q ih=>
  intro left p K pv hm led hg fit hK;have h0:cs[p]?=some (.rng (aL ss j).1 (aL ss j).2.1 (g (lbl ss j))):=fit.hd;obtain⟨K,rfl⟩:=fuel h0 hK;have hj:j<ss.length:=pv.1.1.lt j pv.1.2;by_cases c:k=j
  ·subst c;obtain⟨t,ht,hct⟩:=led (left,.wit k q) AM (lbl ss k) (Au.mpr rfl);have hge:=hg _ t ht;obtain⟨pls,e1,e2⟩:=pJ (n:=n) (K:=K) hct (by simp only[aX] at hge;omega);have hst:cF (.rng (aL ss k).1 (aL ss k).2.1 (g (lbl ss k))) (p:Int) n=some (t:Int):=by
    show some (if (aL ss k).1<=n/\n<=(aL ss k).2.1 then g (lbl ss k) else (p:Int)+1)=_;rw[if_pos ⟨h1,h2⟩,ht]
   obtain⟨pls',e3,e4⟩:=iK h0 rfl hst e1 e2;refine⟨pls',e3,?_⟩;rw[e4];show _=(1::(if k=k then [] else pA ss k q)).map rM++_;rw[if_pos rfl];rfl
  obtain⟨pls,e1,e2⟩:=ih (left.filter (·≠j)) (p+1) K pv.2 (BN.mpr ⟨hm,by simpa using c⟩) (fun x hx=>led x (AH _ hx)) (fun l t ht=>by have:=hg l t ht;simp only[aX] at this;omega) fit.tl ω;have hst:cF (.rng (aL ss j).1 (aL ss j).2.1 (g (lbl ss j))) (p:Int) n=some ((p+1:Nat):Int):=by
   show some (if (aL ss j).1<=n/\n<=(aL ss j).2.1 then g (lbl ss j) else (p:Int)+1)=_;have h3:=apart hj c;rw[if_neg ω];rfl
  obtain⟨pls',e3,e4⟩:=iK h0 rfl hst e1 e2;refine⟨pls',e3,?_⟩;rw[e4];show _=(1::(if k=j then [] else pA ss k q)).map rM++_;rw[if_neg c];rfl
 | msk l q ih=>
  intro left p K pv hm led hg fit hK;have h0:cs[p]?=some (.msk (bL ss left) (eF ss left) (lW ss left l:Nat) (g l)):=fit.hd;obtain⟨K,rfl⟩:=fuel h0 hK;have lf:=pv.1.1;have hl:=lf.lt _ (dU lf.ne);have hlo:=(cX r (eV lf.up k hm) hk).1;have hhi:=(cX r (qw lf.up k hm) hl).2;have hin:0<=n-bL ss left/\n-bL ss left<eF ss left:=by rw[jO];unfold bL;omega
  have hbit:bitAt (lW ss left l:Nat) (n-bL ss left)=decide (lbl ss k=l):=by
   unfold bitAt;rw[Lk,(wI r lf l).1 k hm n h1 h2];by_cases c:lbl ss k=l
   ·rw[decide_eq_true c];rfl
   rw[decide_eq_false c];rfl
  by_cases c:lbl ss k=l
  ·obtain⟨t,ht,hct⟩:=led (left,.msk l q) AM l (Au.mpr rfl);have hge:=hg _ t ht;obtain⟨pls,e1,e2⟩:=pJ (n:=n) (K:=K) hct (by simp only[aX] at hge;omega);have hst:cF (.msk (bL ss left) (eF ss left) (lW ss left l:Nat) (g l)) (p:Int) n=some (t:Int):=by
    show(if 0<=n-bL ss left/\n-bL ss left<eF ss left then some (if bitAt (lW ss left l:Nat) (n-bL ss left)=true then g l else (p:Int)+1) else none)=_;rw[if_pos hin,hbit,if_pos (decide_eq_true c),ht]
   obtain⟨pls',e3,e4⟩:=iK h0 rfl hst e1 e2;refine⟨pls',by rw[c];exact e3,?_⟩;rw[e4];show _=(3::(if lbl ss k=l then [] else pA ss k q)).map rM++_;rw[if_pos c];rfl
  obtain⟨pls,e1,e2⟩:=ih (left.filter fun k=>(aL ss k).2.2≠l) (p+1) K pv.2 (BN.mpr ⟨hm,by simpa [lbl] using c⟩) (fun x hx=>led x (AH _ hx)) (fun l t ht=>by have:=hg l t ht;simp only[aX] at this;omega) fit.tl ω;have hst:cF (.msk (bL ss left) (eF ss left) (lW ss left l:Nat) (g l)) (p:Int) n=some ((p+1:Nat):Int):=by
   show(if 0<=n-bL ss left/\n-bL ss left<eF ss left then some (if bitAt (lW ss left l:Nat) (n-bL ss left)=true then g l else (p:Int)+1) else none)=_;rw[if_pos hin,hbit,if_neg (by simpa using c)];rfl
  obtain⟨pls',e3,e4⟩:=iK h0 rfl hst e1 e2;refine⟨pls',e3,?_⟩;rw[e4];show _=(3::(if lbl ss k=l then [] else pA ss k q)).map rM++_;rw[if_neg c];rfl
 | low j a b iha ihb=>
  intro left p K pv hm led hg fit hK;have h0:cs[p]?=some (.low (aL ss j).1 ((p+1+aX b:Nat):Int)):=fit.hd;obtain⟨K,rfl⟩:=fuel h0 hK;have hj:j<ss.length:=pv.1.1.lt j pv.1.2;have fb:=fit.tl.left;have fa:=fit.tl.right;rw[eO] at fa;by_cases c:k<j
  ·obtain⟨pls,e1,e2⟩:=iha (left.filter (· < j)) (p+1+aX b) K pv.2.1 (BN.mpr ⟨hm,by simpa using c⟩) (fun x hx=>led x (AH _ (A0 _ hx))) (fun l t ht=>by have:=hg l t ht;simp only[aX] at this;omega) fa ω;have hst:cF (.low (aL ss j).1 ((p+1+aX b:Nat):Int)) (p:Int) n=some ((p+1+aX b:Nat):Int):=by
    show some (if n<(aL ss j).1 then ((p+1+aX b:Nat):Int) else (p:Int)+1)=_;have:=ux r c hj;rw[if_pos ω]
   obtain⟨pls',e3,e4⟩:=iK h0 rfl hst e1 e2;refine⟨pls',e3,?_⟩;rw[e4];show _=(2::(if k<j then pA ss k a else pA ss k b)).map rM++_;rw[if_pos c];rfl
  obtain⟨pls,e1,e2⟩:=ihb (left.filter (j<=·)) (p+1) K pv.2.2 (BN.mpr ⟨hm,by simpa using c⟩) (fun x hx=>led x (AH _ (BG _ hx))) (fun l t ht=>by have:=hg l t ht;simp only[aX] at this;omega) fb ω;have hst:cF (.low (aL ss j).1 ((p+1+aX b:Nat):Int)) (p:Int) n=some ((p+1:Nat):Int):=by
   show some (if n<(aL ss j).1 then ((p+1+aX b:Nat):Int) else (p:Int)+1)=_;have:=(cX r (Nat.le_of_not_lt c) hk).1;rw[if_neg ω];rfl
  obtain⟨pls',e3,e4⟩:=iK h0 rfl hst e1 e2;refine⟨pls',e3,?_⟩;rw[e4];show _=(2::(if k<j then pA ss k a else pA ss k b)).map rM++_;rw[if_neg c];rfl
section
variable {X:Cx}{o e i:Expr}{to te td ty:TE}{pos:Pos}
theorem SM {pos:Pos}:QE X (.Dict [] [] pos) Ek:=⟨Tw⟩
theorem SN {apos cpos:Pos}(hu:X.A.units+1<EI) (ho:QE X o td) (he:QE X e ty) (m:M1 X o "get" apos e cpos):QE X (.Call (.Attribute o "get" apos) [e] [] cpos) (Jh td ty):=⟨Tz hu ho.h he.h m⟩
noncomputable def dnQ (x y:V)(H:Hp)(Q:VK):Prop:=∃a o,x=.ref a/\mO H a y o/\Q (.bl (!o.isSome)) H
noncomputable def acA (ty td:TE):TE:=fun σ H Q=>ty σ H fun y H1=>td σ H1 fun x H2=>dnQ x y H2 Q
theorem Z9 (hu:X.A.units+1<EI)(hi:QE X i ty)(ho:QE X o td)(hm:ET .NotIn o=false):QT X (.Compare i [.NotIn] [o] pos) (tB (acA ty td)):=⟨aai (Ot hu hi.h ho.h) hm⟩
noncomputable def lkq (ob:Option HO)(H:Hp)(Q:VK):Prop:=match ob with
 | some (.dK kvs)=>Q (.int kvs.length) H
 | _=>False
noncomputable def Sg:List V->Hp->VK->Prop:=fun xs H Q=>match xs with
 | [.ref p]=>lkq (H p) H Q
 | _=>False
theorem Ob (p:Addr)(H:Hp)(Q:VK):Sg [.ref p] H Q=lkq (H p) H Q:=rfl
theorem aa1 (kvs:List (Key×V))(H:Hp)(Q:VK):lkq (some (.dK kvs)) H Q=Q (.int kvs.length) H:=rfl
theorem Kw:fO X (.builtin "len") Sg:=by
 intro pins s σ H xs us Q I r h;unfold Sg at h;split at h
 ·rename_i p;unfold lkq at h;split at h
  ·rename_i kvs e;cases r with
   | cons r rr=>
    cases rr;cases r;exact acp I (.inl e) fun t s' I'=>⟨.int kvs.length,H,I',⟨t,rfl⟩,h⟩
  exact h.elim
 exact h.elim
theorem Inv.YH {pins:List (Addr×Obj)}{σ:St}{H:Hp}{s:AA}{d:Addr}{kvs:List (Key×V)}(I:Inv X pins σ H s)(he:H d=some (.dK kvs)):Inv X pins σ (unt H d) s:=by
 have oth:∀b u,H b=some u->u≠.dK kvs->unt H d b=some u:=fun b u h n=>by
  rw[sO (fun z=>n (by rw[z,he] at h;exact(AV h).symm)),h]
 have non:∀b,H b=none->unt H d b=none:=fun b h=>by
  unfold unt;split
  ·rfl
  exact h
 have B:=I.base;refine⟨I.ok,I.os,I.bare,⟨B.keep,B.slot,fun b o g n hx=>non b (B.free b o g n hx),B.there,fun b xs h=>oth b _ (B.tups b xs h) (fun z=>nomatch z),fun b o u h=>oth b _ (B.frzs b o u h) (fun z=>nomatch z),fun b ps h=>?_⟩,I.loc,I.cell,non _ I.free,fun x c h=>non _ (I.freeC x c h),fun p hp=>?_,fun a o ha=>?_,I.len⟩
 ·obtain⟨m,hm⟩:=B.tbls b ps h;exact⟨m,oth b _ hm (fun z=>nomatch z)⟩
 ·obtain⟨z1,z2,z3⟩:=I.pin p hp;exact⟨z1,non _ z2,z3⟩
 have hne:a≠d:=fun z=>by rw[z,uo] at ha;cases ha
 rw[sO hne] at ha;exact(I.hok a o ha).stay (fun b u _ g=>g) (fun b h=>oth b _ h (fun z=>nomatch z)) fun b xs h=>oth b _ h (fun z=>nomatch z)
noncomputable def Itk (ks:List Key):It:=⟨fun i _=>i<ks.length,fun i H x H'=>H'=H/\∃k,ks[i]?=some k/\x=kV k,fun i _=>ks.length<=i⟩
theorem acg {P:AW}{w:BB}{k:Key}{u:An}(h:(cP P w).is k u=true):RelV (kV k) u:=by
 rcases dB h with⟨i,t,rfl,rfl⟩|⟨x,t,rfl,rfl⟩
 ·exact⟨t,rfl⟩
 exact⟨t,rfl⟩
theorem Nu {P:AW}{w:BB}{K:AD}{tg:Expr}(it d:Addr)(hne:d≠it)(vs:List (Key×An))(ep:Nat):Turn P w K tg (Itk (vs.map (·.1))) [it,d] it (fun i h=>h.IsKeyIter it d i vs.length ep/\Heap.DictAt (cP P w) h d vs ep) where
 mem:=by simp
 obj:=fun i h st b hb=>by
  simp only[AO,BE,or_false] at hb;rcases hb with rfl|rfl
  ·obtain⟨o,g,_,hd⟩:=st.1;exact⟨o,g,fun v z=>by rw[hd] at z;cases z⟩
  obtain⟨o,es,g,_,hd,_⟩:=st.2;exact⟨o,g,fun v z=>by rw[hd] at z;cases z⟩
 keep:=fun i h h' st k=>(Walks.dictKeys (prog:=P) (w:=w) (knd:=cP P w) (A:=JE) rfl it d hne vs ep).frame i h h' st k
 item:=by
  intro X hP hw hK hc i pins s σ H E I hf st hg;subst hP hw hK;obtain⟨f0,f1,f2,f3,f4,f5⟩:=hf it (by simp);have W:=Walks.dictKeys (prog:=X.prog) (w:=X.w) (knd:=cP X.prog X.w) (I.ok.hd hc) it d hne vs ep;replace hg:i<(vs.map (·.1)).length:=hg;refine W.item i s _ _ (by rw[AI] at hg;exact hg) st fun v h' tk hv st' kk=>?_;obtain⟨k,x,hk,hv⟩:=hv;have I1:Inv X pins σ H { s with heap:=h',toks:=tk }:=I.turned (fun b o hb e=>kk b o (by simpa using hb) e) f0 f1 f3 f4 f5;obtain⟨ob,go,gc,gd⟩:=st'.1;refine⟨_,rfl,Mv (s:={ s with heap:=h',toks:=tk }) (n := "dict_keyiterator") go gc gd δ ⟨kV k,H,I1,acg hv,⟨rfl,k,by rw[A4,hk];rfl,rfl⟩,st',fun b hb=>(hf b hb).1⟩⟩
 done:=by
  intro X hP hw hK hc i pins s σ H E I hf st hg;subst hP hw hK;obtain⟨f0,f1,f2,f3,f4,f5⟩:=hf it (by simp);replace hg:(vs.map (·.1)).length<=i:=hg;rw[AI] at hg;exact wpAny_pyNext_dict_end (I.ok.hd hc) st.1 st.2 (EG hg) fun h' eb=>⟨rfl,I.turned (t':=s.toks) (fun b o hb e=>eb b o hb e) f0 f1 f3 f4 f5⟩
 self:=fun A i s Q E st h=>wpAny_pyIter_keyiter st.1 h
noncomputable abbrev FP (X:Cx)(d:Addr):Cx:={ X with ex:=d::X.ex }
theorem Inv.exD {pins:List (Addr×Obj)}{σ:St}{H:Hp}{s:AA}{d:Addr}{u:HO}(I:Inv X pins σ H s)(e:H d=some u):Inv (FP X d) pins σ H s:=by
 have B:=I.base;have no:∀b,H b=none->b≠d:=fun b h z=>by rw[z,e] at h;cases h
 have ok:(FP X d).Ok:={ I.ok with
  exf:=fun b hb=>by
   rcases AO.mp hb with rfl|hb
   ·exact⟨fun z=>no _ I.free z.symm,fun x c h z=>no _ (I.freeC x c h) z⟩
   exact I.ok.exf b hb
  noex:=fun b o g hb=>by
   rcases AO.mp hb with rfl|hb
   ·exact no _ (I.bs b o g).2 rfl
   exact I.ok.noex b o g hb
  exfs:=fun b hb hz=>by
   rcases AO.mp hb with rfl|hb
   ·obtain⟨_,o,ho,_⟩:=I.ok.oN.mem hz;exact no _ (I.base.free b o ho (I.ok.frf b hz) fun z=>I.ok.exfs b z hz) rfl
   exact I.ok.exfs b hb hz }
 refine⟨ok,I.os,I.bare,⟨fun b o g n h1 h2=>B.keep b o g n h1 (fun z=>h2 (AH _ z)),fun b o g n h1 h2=>B.slot b o g n h1 (fun z=>h2 (AH _ z)),fun b o g n h2=>B.free b o g n (fun z=>h2 (AH _ z)),fun b o g h2=>B.there b o g (fun z=>h2 (AH _ z)),B.tups,B.frzs,B.tbls⟩,I.loc,I.cell,I.free,I.freeC,I.pin,I.hok,I.len⟩
theorem Inv.abF {pins:List (Addr×Obj)}{σ:St}{H:Hp}{s:AA}{d:Addr}(ok:X.Ok)(h0:X.s₀.heap.get? d=none)(I:Inv (FP X d) pins σ H s):Inv X pins σ H s:=by
 have B:=I.base;have nd:∀b o,X.s₀.heap.get? b=some o->b∉X.ex->b∉(FP X d).ex:=fun b o g h z=>by
  rcases AO.mp z with rfl|z
  ·rw[h0] at g;cases g
  exact h z
 exact⟨ok,I.os,I.bare,⟨fun b o g n h1 h2=>B.keep b o g n h1 (nd b o g h2),fun b o g n h1 h2=>B.slot b o g n h1 (nd b o g h2),fun b o g n h2=>B.free b o g n (nd b o g h2),fun b o g h2=>B.there b o g (nd b o g h2),B.tups,B.frzs,B.tbls⟩,I.loc,I.cell,I.free,I.freeC,I.pin,I.hok,I.len⟩
theorem abT {tg:Expr}{j:Nat}{d:Addr}(he:PE (FP X d) e (Eh j)):PI (FP X d) tg e (fun σ H R=>σ[j]?=some (some (.ref d))/\∃kvs,H d=some (.dK kvs)/\R (Itk (kvs.map (·.1))) (unt H d)):=by
 intro pins s σ H R I h;obtain⟨hj,kvs,ed,q⟩:=h;refine thn (he pins s σ H (fun x H1=>x=.ref d/\H1=H) I ⟨_,hj,rfl,rfl⟩) fun v s1 ⟨x,H1,I1,r1,ex,eH⟩=>?_;subst ex;subst eH;cases r1;obtain⟨z,hd,vs,rel,dd⟩:=Zt I1.hok ed;obtain⟨o,es,ep,g,hex,hdat,hk,hp,hnd⟩:=dd;have dat:Heap.DictAt (cP X.prog X.w) s1.heap d vs ep:=⟨o,es,g,hex,hdat,hk,hp,hnd⟩;have ltd:=A3 g;have I2:=(I1.YH ed).kept (t':=s1.toks) (h':=s1.heap.push { cls:=.type "dict_keyiterator",data:=.fields #[.ref d,.int 0 0,.int (vs.length:Nat) 0,.int (ep:Nat) 0] }) fun b o e=>AF _ e;refine wpAny_pyIter_dict hd dat ?_;have hks:kvs.map (·.1)=vs.map (·.1):=rel.keys;rw[hks] at q;refine⟨s1.heap.objs.size,[s1.heap.objs.size,d],_,_,unt H1 d,rfl,I2,Nu s1.heap.objs.size d (BO ltd) vs ep,⟨⟨_,BA _ rfl,rfl,rfl⟩,⟨o,es,AF _ g,hex,hdat,hk,hp,hnd⟩⟩,fun b hb=>?_,q⟩;simp only[AO,BE,or_false] at hb;have no:∀b,H1 b=none->b≠d:=fun b h z=>by rw[z,ed] at h;cases h
 rcases hb with rfl|rfl
 ·exact I1.HW (A6 _) (by unfold unt;split;rfl;exact I1.hok.fresh (A6 _))
 refine⟨uo,fun z=>no _ I1.free z.symm,fun z=>?_,.inl AM,fun x c h z=>no _ (I1.freeC x c h) z,fun p hp z=>no _ (I1.pin p hp).2.1 z⟩;obtain⟨_,o,ho,_⟩:=I1.ok.oN.mem z;exact no _ (I1.base.free b o ho (I1.ok.frf b z) fun y=>I1.ok.exfs b y z) rfl
noncomputable def Rj (H₀:Hp)(j:Nat)(mp:List (Option Nat))(g:TG)(tc:TT)(te:TE):TE:=fun σ H Q=>∃d kvs,σ[j]?=some (some (.ref d))/\H d=some (.dK kvs)/\H₀ d=none/\KZ mp g tc te σ Q (Itk (kvs.map (·.1))) (unt H d)
theorem TF {tg elt iter:Expr}{ifs:List Expr}{scope:Ff}{NX:List Str}{kX:List (Str×C7)}{g:TG}{tc:TT}{j:Nat}(N:List Str)(mp:List (Option Nat))(hNX:X.N=NX)(hkX:X.env.scope.names=kX)(S:xZ NX kX N mp scope)(hc:X.calm=true)
  (hv:∀d,PE (FP X d) iter (Eh j)) (hg:∀cl C s H fp,PG (cA X N scope cl C s H fp) tg g) (ht:∀cl C s H fp,PTs (cA X N scope cl C s H fp) ifs tc) (he:∀cl C s H fp,PE (cA X N scope cl C s H fp) elt te) (hx:X.ex=[])
  (hs:∀x,DI iter X.env x=pure x:=by intro _;rfl):PE X (.ListComp elt [⟨tg,iter,ifs,0⟩] scope pos) (Rj X.H₀ j mp g tc te):=by
 intro pins s σ H Q I h;obtain⟨d,kvs,hj,ed,h0,q⟩:=h;have hnone:X.s₀.heap.get? d=none:=by
  cases e:X.s₀.heap.get? d with
  | none=>rfl
  | some o=>
   have:=I.base.free d o e h0 (by rw[hx];exact BE);rw[ed] at this;cases this
 have:=Ma (X:=FP X d) (pos:=pos) N mp hNX hkX S hc (abT (hv d)) (fun cl C s H fp=>hg cl C s H fp) (fun cl C s H fp=>ht cl C s H fp) (fun cl C s H fp=>he cl C s H fp) hs pins s σ H Q (I.exD ed) ⟨hj,kvs,ed,q⟩;exact thE this fun v s1 x H1 I1 r1 q1=>⟨x,H1,I1.abF I.ok hnone,r1,q1⟩
end
noncomputable def Gr:Sp:=fun vs H Q _=>∃(s p:V)(ok:Addr->Prop)(ss:Sts)(pl:Pl),vs=[s,p]/\jN ok H/\aK ok H s (.list (ss.map stD))/\aK ok H p (plD pl)/\ss.length<=60/\aX pl<=4000/\um ss pl (AU ss.length) /\
 ∀(v:V) H',Same H H'->aK ok H' v (.list ((aY ss pl (AU ss.length)).map wD))->Q v H'
noncomputable def encA (A:List (Nat×Nat)):List (Key×V):=A.map fun x=>((B1 (x.1:Int):Key),V.int (x.2:Int))
theorem Qa {A:List (Nat×Nat)}{t:Nat}(h:t∉A.map (·.1)):lN (encA A) (B1 (t:Int))=none:=by
 induction A with
 | nil=>rfl
 | cons x A ih=>
  rw[Dx,AO,not_or] at h;show lN ((B1 (x.1:Int),V.int (x.2:Int))::encA A) _=_;rw[j7 (fun z=>h.1 (by have:=B1.inj z;omega))];exact ih h.2
theorem DK {A:List (Nat×Nat)}(hnd:(A.map (·.1)).Nodup){x:Nat×Nat}(h:x∈A):lN (encA A) (B1 (x.1:Int))=some (V.int (x.2:Int)):=by
 induction A with
 | nil=>cases h
 | cons y A ih=>
  rw[Dx,Fk] at hnd;show lN ((B1 (y.1:Int),V.int (y.2:Int))::encA A) _=_;rcases AO.mp h with rfl|h
  ·rw[pB rfl]
  rw[j7 (fun z=>hnd.1 (DE.mpr ⟨x,h,by have:=B1.inj z;omega⟩))];exact ih hnd.2 h
theorem Vn {A:List (Nat×Nat)}{t i:Nat}(h:t∉A.map (·.1)):putK (encA A) (B1 (t:Int)) (V.int (i:Int))=encA (A++[(t,i)]):=by
 rw[GP _ (Qa h)];unfold encA;rw[BS];rfl
theorem Vo (A:List (Nat×Nat)):(encA A).length=A.length:=by unfold encA;rw[AI]
noncomputable def jL:Pl->Bool
 | .pick _=>true
 | .tab=>true
 | _=>false
noncomputable def Mx (ss:Sts)(C:List (List Nat×Pl)):List (List Nat×Pl):=(C.map fun x=>aY ss x.2 x.1).flatten
noncomputable def lA (S:List (List Nat×Pl)):Nat->Bool
 | 0=>false
 | i+1=>match S[i]? with
  | some x=>jL x.2
  | none=>false
structure yE (ss:Sts)(S:List (List Nat×Pl))(tot:List (Nat×Nat))(i:Nat)(C:List (List Nat×Pl))(T:List Nat)(done:List (Nat×Nat)):Prop where
 fl:S.drop i=Mx ss C
 no:lA S i=false->T.length+1=C.length/\tot=done++vI (C.map (·.2)) T i
 yes:lA S i=true->T.length=C.length/\((C=[]/\tot=done)\/∃t T',T=t::T'/\tot=done++(t,i)::vI (C.map (·.2)) T' i)
theorem nO (ss:Sts)(x:List Nat×Pl)(C:List (List Nat×Pl)):Mx ss (x::C)=aY ss x.2 x.1++Mx ss C:=rfl
theorem YZ {α:Type}{S R:List α}{i:Nat}{x:α}(h:S.drop i=x::R):S[i]?=some x/\S.drop (i+1)=R:=by
 have hi:i<S.length:=by
  rcases E3 i S.length with z|z
  ·exact z
  rw[Hd z] at h;cases h
 rw[Ha hi] at h;injection h with h1 h2;exact⟨by rw[AC hi,h1],h2⟩
theorem yE.start (ss:Sts)(q:Pl)(left:List Nat):yE ss (aY ss q left) (bM q 0) 0 [(left,q)] [] []:=by
 refine⟨by rw[List.drop_zero];exact(C4 _).symm,fun _=>⟨rfl,?_⟩,fun h=>by cases h⟩;show _=[]++vI [q] [] 0;rw[GO,HS]
theorem yE.step {ss:Sts}{S:List (List Nat×Pl)}{tot:List (Nat×Nat)}{i:Nat}{C:List (List Nat×Pl)}{T:List Nat}{done:List (Nat×Nat)}(h:yE ss S tot i C T done){x:List Nat×Pl}(hx:S[i]?=some x) :
  ∃T1 done1,((lA S i=false/\T1=T/\done1=done)\/(lA S i=true/\∃t,T=t::T1/\done1=done++[(t,i)]))/\(∃r,tot=done1++r) /\
   ((∃k a b,x.2=.low k a b/\∃C',yE ss S tot (i+1) C' (i::T1) done1)\/((∀k a b,x.2≠.low k a b)/\∃C',yE ss S tot (i+1) C' T1 done1)):=by
 have hi:i<S.length:=(AG.mp hx).1;cases C with
 | nil=>
  have:=h.fl;rw[Ha hi] at this;cases this
 | cons y rest=>
  obtain⟨left,q⟩:=y;have hf:S.drop i=(left,q)::(iD ss (kids ss q left)++Mx ss rest):=by
   rw[h.fl,nO];show aY ss q left++_=_;rw[nR];rfl
  obtain⟨h1,h2⟩:=YZ hf;rw[hx] at h1;cases h1;have lf1:lA S (i+1)=jL q:=by
   show(match S[i]? with|some x=>jL x.2|none=>false)=_
   rw[hx]
  obtain⟨T1,done1,hc,hT,htot⟩:∃T1 done1,((lA S i=false/\T1=T/\done1=done)\/(lA S i=true/\∃t,T=t::T1/\done1=done++[(t,i)]))/\T1.length=rest.length/\tot=done1++vI (q::rest.map (·.2)) T1 i:=by
   cases hl:lA S i with
   | false=>
    obtain⟨g1,g2⟩:=h.no hl;exact⟨T,done,.inl ⟨rfl,rfl,rfl⟩,by simpa using g1,g2⟩
   | true=>
    obtain⟨g1,g2⟩:=h.yes hl;rcases g2 with⟨z,_⟩|⟨t,T',rfl,g3⟩
    ·cases z
    refine⟨T',done++[(t,i)],.inr ⟨rfl,t,rfl,rfl⟩,by simpa using g1,?_⟩;rw[g3,Da];rfl
  refine⟨T1,done1,hc,⟨_,htot⟩,?_⟩;have one:∀r l2,kids ss q left=[(l2,r)]->bM q i=bM r (i+1)->aX q=aX r+1->jL q=false->∃C',yE ss S tot (i+1) C' T1 done1:=fun r l2 hk ha hs hl=>by
   refine⟨(l2,r)::rest,?_,fun _=>⟨by rw[Be,hT],?_⟩,fun z=>by rw[lf1,hl] at z;cases z⟩
   ·rw[h2,hk,j8,nO]
   rw[htot,YG ha hs];rfl
  have leaf:jL q=true->aX q=1->bM q i=[]->kids ss q left=[]->∃C',yE ss S tot (i+1) C' T1 done1:=fun hl hs ha hk=>by
   refine⟨rest,by rw[h2,hk];rfl,fun z=>(by rw[lf1,hl] at z;cases z),fun _=>⟨hT,?_⟩⟩;cases rest with
   | nil=>
    refine .inl ⟨rfl,?_⟩;rw[htot];show done1++vI [q] T1 i=done1;rw[HS,ha,C4]
   | cons z rest'=>
    cases T1 with
    | nil=>cases hT
    | cons t T'=>
     refine .inr ⟨t,T',rfl,?_⟩;rw[htot];show done1++vI (q::z.2::rest'.map (·.2)) (t::T') i=_;rw[Dw,ha,hs];rfl
  cases q with
  | pick l=>exact .inr ⟨(fun _ _ _ z=>nomatch z),leaf rfl rfl rfl rfl⟩
  | tab=>exact .inr ⟨(fun _ _ _ z=>nomatch z),leaf rfl rfl rfl rfl⟩
  | one k r=>exact .inr ⟨(fun _ _ _ z=>nomatch z),one r _ rfl rfl rfl rfl⟩
  | wit k r=>exact .inr ⟨(fun _ _ _ z=>nomatch z),one r _ rfl rfl rfl rfl⟩
  | msk l r=>exact .inr ⟨(fun _ _ _ z=>nomatch z),one r _ rfl rfl rfl rfl⟩
  | low k a b=>
   refine .inl ⟨k,a,b,rfl,(left.filter (k<=·),b)::(left.filter (· < k),a)::rest,?_,fun _=>⟨by rw[Be,Be,Be,hT],?_⟩,fun z=>by rw[lf1] at z;cases z⟩
   ·rw[h2];show iD ss [(left.filter (· < k),a),(left.filter (k<=·),b)]++_=_;rw[show [(left.filter (· < k),a),(left.filter (k<=·),b)]=[(left.filter (· < k),a)]++[(left.filter (k<=·),b)] from rfl,sS,j8,j8,nO,nO,Da]
   rw[htot,Vb];rfl
theorem yE.fin {ss:Sts}{S:List (List Nat×Pl)}{tot:List (Nat×Nat)}{C:List (List Nat×Pl)}{T:List Nat}{done:List (Nat×Nat)}(h:yE ss S tot S.length C T done)(hS:S≠[])(hlast:lA S S.length=true):tot=done:=by
 obtain⟨g1,g2⟩:=h.yes hlast;rcases g2 with⟨_,z⟩|⟨t,T',rfl,_⟩
 ·exact z
 cases C with
 | nil=>cases g1
 | cons y rest=>
  have:=h.fl;rw[List.drop_length,nO,nR] at this;cases this
theorem nF (ss:Sts):∀(q:Pl)(left:List Nat),∃S' x,aY ss q left=S'++[x]/\jL x.2=true
 | .pick l,left=>⟨[],(left,.pick l),rfl,rfl⟩
 | .tab,left=>⟨[],(left,.tab),rfl,rfl⟩
 | .one k r,left=>by
  obtain⟨S',x,h1,h2⟩:=nF ss r (left.filter (·≠k));exact⟨(left,.one k r)::S',x,by show _::aY ss r _=_;rw[h1];rfl,h2⟩
 | .wit k r,left=>by
  obtain⟨S',x,h1,h2⟩:=nF ss r (left.filter (·≠k));exact⟨(left,.wit k r)::S',x,by show _::aY ss r _=_;rw[h1];rfl,h2⟩
 | .msk l r,left=>by
  obtain⟨S',x,h1,h2⟩:=nF ss r (left.filter fun k=>(aL ss k).2.2≠l);exact⟨(left,.msk l r)::S',x,by show _::aY ss r _=_;rw[h1];rfl,h2⟩
 | .low k a b,left=>by
  obtain⟨S',x,h1,h2⟩:=nF ss a (left.filter (· < k));exact⟨(left,.low k a b)::(aY ss b (left.filter (k<=·))++S'),x,by show _::(aY ss b _++aY ss a _)=_;rw[h1,cons_append,Da],h2⟩
theorem J4 (ss:Sts)(q:Pl)(left:List Nat):lA (aY ss q left) (aY ss q left).length=true:=by
 obtain⟨S',x,h1,h2⟩:=nF ss q left;rw[h1,AR,A9];show(match (S'++[x])[S'.length]? with|some x=>jL x.2|none=>false)=true
 rw[BH (A6 _),HH];exact h2
noncomputable def Lj:Sp:=fun vs H Q _=>∃(l:Addr)(ok:Addr->Prop)(ss:Sts)(pl:Pl)(left:List Nat),vs=[.ref l]/\aK ok H (.ref l) (.list ((aY ss pl left).map wD))/\aX pl<=4000 /\
 ∀(d:Addr) H',Same H H'->H d=none->H' d=some (.dK (encA (bM pl 0)))->Q (.ref d) H'
theorem aO.gQ {ok:Addr->Prop}{H:Hp}{xs:List V}{d:Bz}{ds:List Bz}(t:aO ok H xs (d::ds)):∃x r,xs=x::r/\aK ok H x d/\aO ok H r ds:=by
 cases t with
 | cons h r=>exact⟨_,_,rfl,h,r⟩
theorem aK.vP {ok:Addr->Prop}{H:Hp}{x:V}{ds:List Bz}(t:aK ok H x (.tuple ds)):∃p xs,x=.ref p/\H p=some (.tup xs)/\aO ok H xs ds:=by
 cases t with
 | tup o e z ts=>exact⟨_,_,rfl,e,ts⟩
theorem Nq {p:Pl}(h:∀k a b,p≠.low k a b):dN p ≠ "below" := by
 cases p with
 | low k a b=>exact absurd rfl (h k a b)
 | pick l=>exact(by decide +kernel:("pick" : Str) ≠ "below")
 | one k r=>exact(by decide +kernel:("is" : Str) ≠ "below")
 | wit k r=>exact(by decide +kernel:("within" : Str) ≠ "below")
 | msk l r=>exact(by decide +kernel:("mask" : Str) ≠ "below")
 | tab=>exact(by decide +kernel:("table" : Str) ≠ "below")
theorem Pj (p:Pl):([("pick" : Str), "table"].any fun w=>decide (dN p=w))=jL p:=by
 cases p with
 | low k a b=>exact(by decide +kernel:([("pick" : Str), "table"].any fun w=>decide (("below" : Str)=w))=false)
 | pick l=>exact(by decide +kernel:([("pick" : Str), "table"].any fun w=>decide (("pick" : Str)=w))=true)
 | one k r=>exact(by decide +kernel:([("pick" : Str), "table"].any fun w=>decide (("is" : Str)=w))=false)
 | wit k r=>exact(by decide +kernel:([("pick" : Str), "table"].any fun w=>decide (("within" : Str)=w))=false)
 | msk l r=>exact(by decide +kernel:([("pick" : Str), "table"].any fun w=>decide (("mask" : Str)=w))=false)
 | tab=>exact(by decide +kernel:([("pick" : Str), "table"].any fun w=>decide (("table" : Str)=w))=true)
noncomputable def fZ (PL:List Int)(l:Int):List Int:=if l∈PL then PL else PL++[l]
noncomputable def iM (ss:Sts)(S:List (List Nat×Pl)):List Int:=(S.flatMap fun x=>jh ss x.1 x.2).foldl fZ []
theorem V8 (PL:List Int)(l:Int):l∈fZ PL l/\∀x∈PL,x∈fZ PL l:=by
 unfold fZ;split
 ·rename_i h;exact⟨h,fun x hx=>hx⟩
 exact⟨A0 _ (Au.mpr rfl),fun x hx=>BG _ hx⟩
theorem Ze {PL:List Int}(h:PL.Nodup)(l:Int):(fZ PL l).Nodup:=by
 unfold fZ;split
 ·exact h
 rename_i hl;rw[nodup_append];refine⟨h,Fk.mpr ⟨BE,JJ⟩,fun x hx y hy z=>hl ?_⟩;rw[Au.mp hy] at z;rw[<- z];exact hx
theorem HX (L:List Int):∀PL:List Int,PL.Nodup->(L.foldl fZ PL).Nodup/\(∀x∈PL,x∈L.foldl fZ PL)/\(∀x∈L,x∈L.foldl fZ PL)/\∀x∈L.foldl fZ PL,x∈PL\/x∈L:=by
 induction L with
 | nil=>exact fun PL h=>⟨h,fun x hx=>hx,fun x hx=>absurd hx BE,fun x hx=>.inl hx⟩
 | cons l L ih=>
  intro PL h;obtain⟨h1,h2,h3,h4⟩:=ih (fZ PL l) (Ze h l);obtain⟨m1,m2⟩:=V8 PL l;refine⟨h1,fun x hx=>h2 x (m2 x hx),fun x hx=>?_,fun x hx=>?_⟩
  ·rcases AO.mp hx with rfl|hx
   ·exact h2 x m1
   exact h3 x hx
  rcases h4 x hx with z|z
  ·unfold fZ at z;split at z
   ·exact .inl z
   rcases BC.mp z with z|z
   ·exact .inl z
   exact .inr (by rw[Au.mp z];exact AM)
  exact .inr (AH _ z)
theorem pQ {ss:Sts}{S:List (List Nat×Pl)}{x:List Nat×Pl}(hx:x∈S){l:Int}(hl:l∈jh ss x.1 x.2):l∈iM ss S:=(HX _ [] JJ).2.2.1 l (List.mem_flatMap.mpr ⟨x,hx,hl⟩)
noncomputable def nQ:Nat->List Int->List (Key×V)
 | _,[]=>[]
 | m,l::r=>((B1 l:Key),V.int (m:Int))::nQ (m+1) r
theorem Dz:∀(m:Nat)(PL:List Int)(l:Int),nQ m (PL++[l])=nQ m PL++[((B1 l:Key),V.int ((m+PL.length:Nat):Int))]
 | m,[],l=>rfl
 | m,x::r,l=>by
  show _::nQ (m+1) (r++[l])=_::(nQ (m+1) r++_);rw[Dz (m+1) r l,Be,show m+1+r.length=m+(r.length+1) by omega]
theorem Ba:∀(m:Nat)(PL:List Int),(nQ m PL).length=PL.length
 | m,[]=>rfl
 | m,x::r=>by show(nQ (m+1) r).length+1=r.length+1;rw[Ba]
theorem DG:∀(m:Nat)(PL:List Int),(nQ m PL).map (·.1)=PL.map fun l=>(B1 l:Key)
 | m,[]=>rfl
 | m,x::r=>by show _::(nQ (m+1) r).map (·.1)=_::r.map _;rw[DG]
noncomputable def gP (m:Nat)(PL:List Int)(l:Int):Int:=((m+PL.idxOf l:Nat):Int)
theorem jY:∀{PL:List Int}(m:Nat){l:Int},l∈PL->lN (nQ m PL) (B1 l)=some (V.int (gP m PL l))
 | [],m,l,h=>by cases h
 | x::r,m,l,h=>by
  show lN ((B1 x,V.int (m:Int))::nQ (m+1) r) _=_;by_cases c:x=l
  ·rw[pB (by rw[c])];unfold gP;rw[c,List.idxOf_cons_self];rfl
  rw[j7 (fun z=>c (B1.inj z))];rcases AO.mp h with z|z
  ·exact absurd z.symm c
  rw[jY (m+1) z];unfold gP;rw[show(x::r).idxOf l=r.idxOf l+1 by rw[List.idxOf_cons,show(x == l)=false from beq_eq_false_iff_ne.mpr c];rfl,show m+1+r.idxOf l=m+(r.idxOf l+1) by omega]
theorem wW:∀{PL:List Int}(m:Nat){l:Int},l∉PL->lN (nQ m PL) (B1 l)=none
 | [],m,l,h=>rfl
 | x::r,m,l,h=>by
  show lN ((B1 x,V.int (m:Int))::nQ (m+1) r) _=_;rw[AO,not_or] at h;rw[j7 (fun z=>h.1 (B1.inj z).symm),wW (m+1) h.2]
noncomputable def Zh:Sp:=fun vs H Q _=>∃(s l p:V)(ok:Addr->Prop)(ss:Sts)(left:List Nat)(pl:Pl),vs=[s,l,p]/\aK ok H s (.list (ss.map stD))/\aK ok H l (nA left)/\aK ok H p (plD pl)/\Lf ss left/\VL ss left pl /\
 ∀(a:Addr) H',Same H H'->H a=none->H' a=some (.lst ((jh ss left pl).map V.int))->Q (.ref a) H'
noncomputable def Rw:Sp:=fun vs H Q _=>∃(s l:V)(ok:Addr->Prop)(ss:Sts)(left:List Nat),vs=[s,l]/\aK ok H s (.list (ss.map stD))/\aK ok H l (nA left)/\Lf ss left /\
 ∀(a:Addr),H a=none->Q (.ref a) (upd H a (.lst ((left.map (lbl ss)).map V.int)))
noncomputable def Gv:Sp:=fun vs H Q _=>∃(s:V)(l:Addr)(ok:Addr->Prop)(ss:Sts)(S:List (List Nat×Pl)),vs=[s,.ref l]/\aK ok H s (.list (ss.map stD))/\aK ok H (.ref l) (.list (S.map wD))/\(∀x∈S,Lf ss x.1/\VL ss x.1 x.2)/\S.length<=1000000/\(iM ss S).length<=1000000 /\
 ∀(d:Addr) H',Same H H'->H d=none->H' d=some (.dK (nQ S.length (iM ss S)))->Q (.ref d) H'
noncomputable def ZQ:Bz->Option V
 | .int i=>some (.int i)
 | .str z=>some (.str z)
 | _=>none
theorem aK.sc2 {ok:Addr->Prop}{H:Hp}{x v:V}{d:Bz}(t:aK ok H x d)(h:ZQ d=some v):x=v:=by
 cases t with
 | int i=>exact AV h
 | str z=>exact AV h
 | _=>cases h
noncomputable def aa9:Pl->Bool
 | .one _ _=>true
 | .wit _ _=>true
 | _=>false
theorem Yz (p:Pl):([("is" : Str), "within"].any fun w=>decide (dN p=w))=aa9 p:=by
 cases p with
 | low k a b=>exact(by decide +kernel:([("is" : Str), "within"].any fun w=>decide (("below" : Str)=w))=false)
 | pick l=>exact(by decide +kernel:([("is" : Str), "within"].any fun w=>decide (("pick" : Str)=w))=false)
 | one k r=>exact(by decide +kernel:([("is" : Str), "within"].any fun w=>decide (("is" : Str)=w))=true)
 | wit k r=>exact(by decide +kernel:([("is" : Str), "within"].any fun w=>decide (("within" : Str)=w))=true)
 | msk l r=>exact(by decide +kernel:([("is" : Str), "within"].any fun w=>decide (("mask" : Str)=w))=false)
 | tab=>exact(by decide +kernel:([("is" : Str), "within"].any fun w=>decide (("table" : Str)=w))=false)
theorem Ve {L M:List Int}{PL:List Int}(h:PL.Nodup):(L.foldl fZ PL).length<=((L++M).foldl fZ PL).length:=by
 rw[HZ];obtain⟨h1,_⟩:=HX L PL h;exact CL.length_le_of_subset h1 fun x hx=>(HX M _ h1).2.1 x hx
theorem Vm {m:Nat}{PL:List Int}{l:Int}(h:l∉PL):putK (nQ m PL) (B1 l) (V.int ((m:Int)+(PL.length:Int)))=nQ m (fZ PL l):=by
 rw[GP _ (wW m h)];unfold fZ;rw[if_neg h,Dz,Int.natCast_add]
noncomputable def La:Sp:=fun vs H Q _=>∃(s l:V)(m g:Int)(ok:Addr->Prop)(ss:Sts)(left:List Nat),vs=[s,l,.int m,.int g]/\aK ok H s (.list (ss.map stD))/\aK ok H l (nA left)/\Lf ss left/\eY ss/\eF ss left<=64 /\
 ∀(a:Addr),H a=none->Q (.ref a) (upd H a (.tup [.str "mask",.int (bL ss left),.int (eF ss left),.int (lW ss left m:Nat),.int g]))
noncomputable def Gq:Sp:=fun vs H Q _=>∃(s l:V)(d:Addr)(n:Nat)(PL:List Int)(ok:Addr->Prop)(ss:Sts)(left:List Nat),vs=[s,l,.ref d]/\aK ok H s (.list (ss.map stD))/\aK ok H l (nA left)/\H d=some (.dK (nQ n PL))/\Lf ss left/\eY ss/\eF ss left<=200 /\
 (∀j:Nat,bO left<=j->j<=dZ left->lbl ss j∈PL) /\
 ∀(a t:Addr)(H':Hp),Same H H'->H a=none->H' a=some (.tup [.str "table",.int (bL ss left),.ref t])->H t=none->H' t=some (.tup ((jM ss (gP n PL) left).map V.int))->Q (.ref a) H'
theorem Y4 (xs:List V)(a b:Nat)(h:a<=b)(hb:b<xs.length):qF xs (some (a:Int)) (some ((b:Int)+1))=(xs.drop a).take (b+1-a):=by
 unfold qF;have e1:HT.sIx xs.length 0 (some (a:Int))=a:=by
  simp only[HT.sIx];split
  ·omega
  omega
 have e2:HT.sIx xs.length xs.length (some ((b:Int)+1))=b+1:=by
  simp only[HT.sIx];split
  ·omega
  omega
 rw[e1,e2]
noncomputable def K9:Sp:=fun vs H Q _=>∃(s l p av:V)(A:Int)(d:Addr)(n:Nat)(PL:List Int)(ok:Addr->Prop)(ss:Sts)(left:List Nat)(pl:Pl),vs=[s,l,p,av,.ref d]/\jN ok H/\aK ok H s (.list (ss.map stD))/\aK ok H l (nA left)/\aK ok H p (plD pl)/\H d=some (.dK (nQ n PL))/\Lf ss left/\eY ss/\VL ss left pl /\
 (∀k a b,pl=.low k a b->av=.int A)/\(∀x∈jh ss left pl,x∈PL)/\(pl=.tab->∀j:Nat,bO left<=j->j<=dZ left->lbl ss j∈PL) /\
 ∀v H',Same H H'->aK ok H' v (gH (rowOf ss (gP n PL) left A pl))->Q v H'
section
variable {X:Cx}{pos:Pos}{te:TE}
theorem SX {tg elt iter:Expr}{ifs:List Expr}{scope:Ff}{NX:List Str}{kX:List (Str×C7)}{g:TG}{tc:TT}{j:Nat}(N:List Str)(mp:List (Option Nat))(hNX:X.N=NX)(hkX:X.env.scope.names=kX)(S:xZ NX kX N mp scope)(hc:X.calm=true)
  (hv:∀d,QE (FP X d) iter (Eh j)) (hg:∀cl C s H fp,QG (cA X N scope cl C s H fp) tg g) (ht:∀cl C s H fp,QC (cA X N scope cl C s H fp) ifs tc) (he:∀cl C s H fp,QE (cA X N scope cl C s H fp) elt te) (hx:X.ex=[])
  (hs:∀x,DI iter X.env x=pure x:=by intro _;rfl):QE X (.ListComp elt [⟨tg,iter,ifs,0⟩] scope pos) (Rj X.H₀ j mp g tc te):=
 ⟨TF N mp hNX hkX S hc (fun d=>(hv d).h) (fun cl C s H fp=>(hg cl C s H fp).h) (fun cl C s H fp=>(ht cl C s H fp).h) (fun cl C s H fp=>(he cl C s H fp).h) hx hs⟩
end
noncomputable def nZ (ss:Sts)(pl:Pl):List Int:=iM ss (aY ss pl (AU ss.length))
noncomputable def cZ (ss:Sts)(pl:Pl):List RowC:=gG ss (gP (aX pl) (nZ ss pl)) pl (AU ss.length) 0++(nZ ss pl).map RowC.pik
noncomputable def Gu:Sp:=fun vs H Q _=>∃(s p:V)(ok:Addr->Prop)(ss:Sts)(pl:Pl),vs=[s,p]/\jN ok H/\aK ok H s (.list (ss.map stD))/\aK ok H p (plD pl)/\ss.length<=60/\aX pl<=130/\PlV ss pl (AU ss.length)/\eY ss /\
 ∀(l:Addr)(xs:List V) H',Same H H'->H l=none->H' l=some (.lst xs)->aO (fun a=>ok a/\a≠l) H' xs ((cZ ss pl).map gH)->Q (.ref l) H'
noncomputable def acN:Option V->Int
 | some (.int t)=>t
 | _=>0
noncomputable def ahA (L:List (Nat×Nat))(i:Nat):Int:=acN (lN (encA L) (B1 (i:Int)))
theorem abw {L:List (Nat×Nat)}(hnd:(L.map (·.1)).Nodup){x:Nat×Nat}(h:x∈L):ahA L x.1=(x.2:Int):=by
 unfold ahA;rw[DK hnd h];rfl
theorem wK (ss:Sts):∀(q:Pl)(left:List Nat)(p j:Nat)(l':List Nat)(k:Nat)(a b:Pl),(aY ss q left)[j]?=some (l',.low k a b)->∃t,(p+j,t)∈bM q p
 | .pick l,left,p,j,l',k,a,b,h=>by
  cases j with
  | zero=>cases h
  | succ j=>cases h
 | .tab,left,p,j,l',k,a,b,h=>by
  cases j with
  | zero=>cases h
  | succ j=>cases h
 | .one m r,left,p,j,l',k,a,b,h=>by
  cases j with
  | zero=>cases h
  | succ j=>
   obtain⟨t,ht⟩:=wK ss r (left.filter (·≠m)) (p+1) j l' k a b h;exact⟨t,by rw[show p+(j+1)=p+1+j by omega];exact ht⟩
 | .wit m r,left,p,j,l',k,a,b,h=>by
  cases j with
  | zero=>cases h
  | succ j=>
   obtain⟨t,ht⟩:=wK ss r (left.filter (·≠m)) (p+1) j l' k a b h;exact⟨t,by rw[show p+(j+1)=p+1+j by omega];exact ht⟩
 | .msk m r,left,p,j,l',k,a,b,h=>by
  cases j with
  | zero=>cases h
  | succ j=>
   obtain⟨t,ht⟩:=wK ss r (left.filter fun k=>(aL ss k).2.2≠m) (p+1) j l' k a b h;exact⟨t,by rw[show p+(j+1)=p+1+j by omega];exact ht⟩
 | .low m x y,left,p,j,l',k,a,b,h=>by
  cases j with
  | zero=>exact⟨p+1+aX y,A0 _ AM⟩
  | succ j=>
   replace h:(aY ss y (left.filter (m<=·))++aY ss x (left.filter (· < m)))[j]?=some (l',.low k a b):=h;rcases E3 j (aY ss y (left.filter (m<=·))).length with z|z
   ·rw[C8 z] at h;obtain⟨t,ht⟩:=wK ss y _ (p+1) j l' k a b h;exact⟨t,BG _ (by rw[show p+(j+1)=p+1+j by omega];exact ht)⟩
   rw[BH z] at h;rw[fL] at h z;obtain⟨t,ht⟩:=wK ss x _ (p+1+aX y) (j-aX y) l' k a b h;exact⟨t,A0 _ (AH _ (by rw[show p+(j+1)=p+1+aX y+(j-aX y) by omega];exact ht))⟩
theorem Jo {a:Addr}{H H1 H2:Hp}(s:cW a H1 H2)(s1:Same H H1)(h:H a=none):Same H H2:=fun b o e=>s b o (aF e h) (s1 b o e)
theorem Lf.len {ss:Sts}{left:List Nat}(lf:Lf ss left):left.length<=ss.length:=by
 have h1:left.Nodup:=lf.up.imp fun h=>BO h;have:=CL.length_le_of_subset h1 (l₂:=AU ss.length) fun x hx=>Fc.mpr (lf.lt x hx);rwa [Ee] at this
theorem PN (L:List Int):∀PL:List Int,(L.foldl fZ PL).length<=PL.length+L.length:=by
 induction L with
 | nil=>exact fun PL=>A6 _
 | cons l L ih=>
  intro PL;have h1:=ih (fZ PL l);have h2:(fZ PL l).length<=PL.length+1:=by
   unfold fZ;split
   ·omega
   rw[AR,A9];omega
  rw[List.foldl_cons,Be];omega
theorem Yu {ss:Sts}{left:List Nat}(lf:Lf ss left)(q:Pl):(jh ss left q).length<=ss.length:=by
 have h1:=lf.len;have h2:1<=left.length:=C0.mpr lf.ne;cases q with
 | tab=>show(left.map (lbl ss)).length<=_;rw[AI];exact h1
 | pick l=>exact DL _
 | low k a b=>exact DL _
 | one k r=>show 1<=_;omega
 | wit k r=>show 1<=_;omega
 | msk k r=>show 1<=_;omega
theorem HY {α:Type}{β:Type}(f:α->List β){n:Nat}:∀{S:List α},(∀x∈S,(f x).length<=n)->(S.flatMap f).length<=n*S.length
 | [],_=>DL _
 | x::S,h=>by
  have h1:=HY f (S:=S) fun y hy=>h y (AH _ hy);have h2:=h x AM;rw[List.flatMap_cons,AR,Be,Nat.mul_succ];omega
theorem Cz {ss:Sts}{S:List (List Nat×Pl)}(h60:ss.length<=60)(h:∀x∈S,Lf ss x.1/\VL ss x.1 x.2):(iM ss S).length<=60*S.length:=by
 have h1:=PN (S.flatMap fun x=>jh ss x.1 x.2) [];have h2:=HY (fun x:List Nat×Pl=>jh ss x.1 x.2) (n:=60) (S:=S) fun x hx=>BQ (Yu (h x hx).1 x.2) h60;unfold iM;rw[FS] at h1;omega
theorem Bo {ss:Sts}{g:Int->Int}{A:Nat->Int}{S:List (List Nat×Pl)}{i:Nat}{x:List Nat×Pl}(h:S[i]?=some x):dH ss g A 0 (S.take (i+1))=dH ss g A 0 (S.take i)++[rowOf ss g x.1 (A i) x.2]:=by
 have hi:=(AG.mp h).1;rw[FE,h,nT,E2,Nat.min_eq_left ω,FF];rfl
theorem Qn (ss:Sts)(PL:List Int):Btw ss PL (AU ss.length):=fun a _ b hb j _ h2=>.inl (Fc.mpr (DH h2 (Fc.mp hb)))
theorem K6 {ss:Sts}{pl:Pl}{x:List Nat×Pl}(lf:Lf ss x.1)(hx:x∈aY ss pl (AU ss.length))(ht:x.2=.tab)(j:Nat)(h1:bO x.1<=j)(h2:j<=dZ x.1):lbl ss j∈iM ss (aY ss pl (AU ss.length)):=by
 rcases j4 (Qn ss (iM ss (aY ss pl (AU ss.length)))) (fun y hy l hl=>pQ hy hl) x hx _ (jn lf.ne) _ (dU lf.ne) j h1 h2 with z|z
 ·refine pQ hx ?_;rw[ht];exact DE.mpr ⟨j,z,rfl⟩
 exact z
noncomputable def Rt:Sp:=fun vs H Q _=>∃(p:Addr)(m B:Int),vs=[.ref p,.int m]/\cV H p B/\0<=B/\B<=900000/\1<=m/\m<=60 /\
 ∀(l:Addr)(ss:Sts) H',cW p H H'->cV H' p (B+2000)->aK (·≠p) H' (.ref l) (.list (ss.map stD))->(ss.length:Int)=m->eY ss->(∀s,ss[0]?=some s->s.1<=10^9)->Q (.ref l) H'
noncomputable def qM (n:Nat):Sp:=fun vs H Q _=>∃(p:Addr)(s l:V)(B:Int)(ss:Sts)(left:List Nat),vs=[.ref p,s,l]/\cV H p B/\0<=B/\B+12*(left.length:Int)<=900000/\aK (·≠p) H s (.list (ss.map stD))/\aK (·≠p) H l (nA left)/\Lf ss left/\left.length<=n/\left.length<=60 /\
 ∀(v:V)(pl:Pl) H',cW p H H'->cV H' p (B+12*(left.length:Int)-6)->aK (·≠p) H' v (plD pl)->PlV ss pl left->zm pl<left.length->aX pl+1<=2*left.length->Q v H'
noncomputable def Bj (many own:Int):RowC->Prop
 | .one _ t=>btw own many t=true
 | .rng a b t=>a<=b/\btw own many t=true
 | .low _ t=>btw own many t=true
 | .msk _ wd bits t=>(1<=wd/\wd<=64)/\(0<=bits/\bits<2^wd.toNat)/\btw own many t=true
 | .tab _ gs=>gs≠[]/\gs.all (btw own many)=true
 | .pik l=>0<=l
theorem RQ {many own:Int}{c:RowC}(h:Bj many own c):nU (gH c)=true/\(tY (gH c)).all (btw own many)=true:=by
 have key:∀(w:Str)(is:List Int),w ≠ "table" -> sV w is=true->(Du w is).all (btw own many)=true->nU (.tuple (.str w::is.map Bz.int))=true/\(tY (.tuple (.str w::is.map Bz.int))).all (btw own many)=true:=by
  intro w is hw hs hg;refine⟨by rw[Gx hw];exact hs,?_⟩;unfold tY;simp only[if_neg hw,zB];exact hg
 cases c with
 | one n t=>
  exact key "is" [n,t] ψ (by rw[rO (.inl rfl)];rfl) (by rw[lD ψ (show [n,t].getLast?=some t from rfl)];simp [show btw own many t=true from h])
 | low n t=>
  exact key "below" [n,t] ψ (by rw[rO (.inr rfl)];rfl) (by rw[lD ψ (show [n,t].getLast?=some t from rfl)];simp [show btw own many t=true from h])
 | rng a b t=>
  exact key "within" [a,b,t] ψ (by rw[uF];exact decide_eq_true h.1) (by rw[lD ψ (show [a,b,t].getLast?=some t from rfl)];simp [h.2])
 | msk lo wd bits t=>
  refine key "mask" [lo,wd,bits,t] ψ ?_ (by rw[lD ψ (show [lo,wd,bits,t].getLast?=some t from rfl)];simp [h.2.2]);rw[Jl];show((decide (1<=wd)&&decide (wd<=64))&&(decide (0<=bits)&&decide (bits<2^wd.toNat)))=true;rw[decide_eq_true h.1.1,decide_eq_true h.1.2,decide_eq_true h.2.1.1,decide_eq_true h.2.1.2];rfl
 | pik l=>
  exact key "pick" [l] ψ (by show(decide (("pick" : Str) = "pick")&&decide (0<=l))=true;rw[decide_eq_true rfl,decide_eq_true (show 0<=l from h)];rfl) (by rw[show Du "pick" [l]=[] from if_pos rfl];rfl)
 | tab lo gs=>
  obtain⟨hn,hg⟩:=h;have he:(gs.map Bz.int).isEmpty=false:=by
   cases gs with
   | nil=>exact absurd rfl hn
   | cons a b=>rfl
  refine⟨?_,?_⟩
  ·show nU (.tuple (.str "table" :: [.int lo,.tuple (gs.map Bz.int)]))=true;rw[Em,Q6,he,wM];rfl
  show(tY (.tuple (.str "table" :: [.int lo,.tuple (gs.map Bz.int)]))).all (btw own many)=true;unfold tY Q7;simp only[if_true,he,wM,C1,Bool.and_self,Option.getD_some,zB];exact hg
theorem Bj.c {many own:Int}{c:RowC}(h:Bj many own c):qG many own c:=by
 cases c with
 | one n t=>exact h
 | low n t=>exact h
 | rng a b t=>exact h.2
 | msk lo wd bits t=>exact⟨h.2.2,h.1.1,h.1.2,h.2.1.1⟩
 | tab lo gs=>exact h.2
 | pik l=>trivial
theorem N7 {cs:List RowC}(h1:cs≠[])(h:∀(j:Nat) c,cs[j]?=some c->Bj cs.length j c):yM (.list (cs.map gH))=true/\fj cs:=by
 refine⟨(J5 (fun z=>h1 (Kb.mp z))).mpr fun j d hd=>?_,C0.mpr h1,fun j c hc=>(h j c hc).c⟩;rw[A4] at hd;obtain⟨c,hc,rfl⟩:=Cn.mp hd;rw[AI];exact RQ (h j c hc)
theorem RP {ss:Sts}(rs:eY ss){g:Int->Int}{many:Int}:∀(q:Pl)(left:List Nat)(p:Nat),PlV ss q left ->
  (∀x∈aY ss q left,(∀l∈jh ss x.1 x.2,((p+aX q:Nat):Int)<=g l/\g l<many)/\(x.2=.tab->∀j:Nat,bO x.1<=j->j<=dZ x.1->((p+aX q:Nat):Int)<=g (lbl ss j)/\g (lbl ss j)<many))->((p+aX q:Nat):Int)<=many ->
  ∀(j:Nat) c,(gG ss g q left p)[j]?=some c->Bj many ((p+j:Nat):Int) c:=by
 have bt:∀{o t:Int}{e:Nat},(e:Int)<=t->t<many->o<(e:Int)->btw o many t=true:=fun {o t e} h1 h2 h3=>by
  unfold btw;rw[decide_eq_true ω,decide_eq_true h2];rfl
 intro q
 induction q with
 | pick l=>
  intro left p pv _ _ j c hc;cases j with
  | zero=>
   cases hc;have lf:=pv.1;have hm:=jn lf.ne;have:lbl ss (bO left)=l:=pv.2 _ hm;show 0<=l;rw[<- this];exact(rs.lh _ _ (eE (lf.lt _ hm))).2.1
  | succ j=>cases hc
 | tab=>
  intro left p pv hl _ j c hc;cases j with
  | zero=>
   cases hc;obtain⟨lf,hsp⟩:=pv;have h1:=hl (left,.tab) AM;have hlen:=lB rs g lf;refine⟨fun z=>?_,?_⟩
   ·rw[z] at hlen;have hf:=lf.lt _ (dU lf.ne);have:=(cX rs (eV lf.up _ (dU lf.ne)) hf).1;have:=iG rs hf;rw[jO] at hlen;simp at hlen;omega
   rw[E4];intro t ht;unfold jM at ht;obtain⟨k,k1,k2,rfl⟩:=Ai ss g _ _ _ ht;have hfl:=eV lf.up _ (dU lf.ne);have:=h1.2 rfl k k1 (show k<=dZ left by omega);exact bt this.1 this.2 (by simp only[aX];omega)
  | succ j=>cases hc
 | one k r ih=>
  intro left p pv hl hm j c hc;cases j with
  | zero=>
   cases hc;have:=(hl (left,.one k r) AM).1 _ (Au.mpr rfl);exact bt this.1 this.2 (by simp only[aX];omega)
  | succ j=>
   have:=ih (left.filter (·≠k)) (p+1) pv.2 (fun x hx=>by rw[show p+1+aX r=p+aX (.one k r) by simp only[aX];omega];exact hl x (AH _ hx)) (by rw[show p+1+aX r=p+aX (.one k r) by simp only[aX];omega];exact hm) j c hc;rwa [show p+(j+1)=p+1+j by omega]
 | wit k r ih=>
  intro left p pv hl hm j c hc;cases j with
  | zero=>
   cases hc;have:=(hl (left,.wit k r) AM).1 _ (Au.mpr rfl);exact⟨iG rs (pv.1.1.lt _ pv.1.2),bt this.1 this.2 (by simp only[aX];omega)⟩
  | succ j=>
   have:=ih (left.filter (·≠k)) (p+1) pv.2 (fun x hx=>by rw[show p+1+aX r=p+aX (.wit k r) by simp only[aX];omega];exact hl x (AH _ hx)) (by rw[show p+1+aX r=p+aX (.wit k r) by simp only[aX];omega];exact hm) j c hc;rwa [show p+(j+1)=p+1+j by omega]
 | msk m r ih=>
  intro left p pv hl hm j c hc;cases j with
  | zero=>
   cases hc;have:=(hl (left,.msk m r) AM).1 _ (Au.mpr rfl);obtain⟨lf,hsp,_⟩:=pv.1;have hb:=(wI rs lf m).2;have hf:=lf.lt _ (dU lf.ne);have h1:=(cX rs (eV lf.up _ (dU lf.ne)) hf).1;have h2:=iG rs hf;have hs1:1<=eF ss left:=by rw[jO];omega
   refine⟨⟨hs1,hsp⟩,⟨Int.natCast_nonneg _,?_⟩,bt this.1 this.2 (by simp only[aX];omega)⟩;have:((lW ss left m:Nat):Int)<((2^(eF ss left).toNat:Nat):Int):=Int.ofNat_lt.mpr hb;rwa [natCast_pow] at this
  | succ j=>
   have:=ih (left.filter fun k=>(aL ss k).2.2≠m) (p+1) pv.2 (fun x hx=>by rw[show p+1+aX r=p+aX (.msk m r) by simp only[aX];omega];exact hl x (AH _ hx)) (by rw[show p+1+aX r=p+aX (.msk m r) by simp only[aX];omega];exact hm) j c hc;rwa [show p+(j+1)=p+1+j by omega]
 | low k a b iha ihb=>
  intro left p pv hl hm j c hc;have hpa:=zf a;cases j with
  | zero=>
   cases hc;show btw _ many ((p+1+aX b:Nat):Int)=true;refine bt (e:=p+1+aX b) (CS _) ?_ ?_
   ·simp only[aX] at hm;omega
   omega
  | succ j=>
   have e:p+1+aX b+aX a=p+aX (.low k a b):=by simp only[aX];omega
   replace hc:(gG ss g b (left.filter (k<=·)) (p+1)++gG ss g a (left.filter (· < k)) (p+1+aX b))[j]?=some c:=hc;rcases E3 j (gG ss g b (left.filter (k<=·)) (p+1)).length with z|z
   ·rw[C8 z] at hc;have:=ihb (left.filter (k<=·)) (p+1) pv.2.2 (fun x hx=>by
     obtain⟨h1,h2⟩:=hl x (AH _ (BG _ hx));simp only[aX] at h1 h2;exact⟨fun l hl'=>by have:=h1 l hl';omega,fun ht j' a1 a2=>by have:=h2 ht j' a1 a2;omega⟩) (by simp only[aX] at hm;omega) j c hc
    rwa [show p+(j+1)=p+1+j by omega]
   rw[BH z] at hc;rw[eO] at hc z;have:=iha (left.filter (· < k)) (p+1+aX b) pv.2.1 (fun x hx=>by rw[e];exact hl x (AH _ (A0 _ hx))) (by rw[e];exact hm) (j-aX b) c hc;rwa [show p+(j+1)=p+1+aX b+(j-aX b) by omega]
theorem Yv {ss:Sts}{left:List Nat}{q:Pl}(lf:Lf ss left)(vl:VL ss left q):∀l∈jh ss left q,∃k,k<ss.length/\l=lbl ss k:=by
 intro l hl;cases q with
 | pick m=>cases hl
 | low k a b=>cases hl
 | tab=>
  obtain⟨k,hk,rfl⟩:=DE.mp hl;exact⟨k,lf.lt _ hk,rfl⟩
 | one k r=>exact⟨k,lf.lt _ vl.1,Au.mp hl⟩
 | wit k r=>exact⟨k,lf.lt _ vl,Au.mp hl⟩
 | msk m r=>
  obtain⟨k,hk,e⟩:=vl.2;exact⟨k,lf.lt _ hk,by rw[Au.mp hl,e]⟩
theorem Oj {ss:Sts}{S:List (List Nat×Pl)}(h:∀x∈S,Lf ss x.1/\VL ss x.1 x.2):∀l∈iM ss S,∃k,k<ss.length/\l=lbl ss k:=by
 intro l hl;rcases(HX _ [] JJ).2.2.2 l hl with z|z
 ·cases z
 obtain⟨x,hx,hlx⟩:=List.mem_flatMap.mp z;exact Yv (h x hx).1 (h x hx).2 l hlx
theorem acn {m:Nat}{PL:List Int}{R:List RowC}(hR:R.length=m){l:Int}(h:l∈PL):(R++PL.map RowC.pik)[m+PL.idxOf l]?=some (.pik l):=by
 have hi:=List.idxOf_lt_length_of_mem h;rw[BH ω,show m+PL.idxOf l-R.length=PL.idxOf l by omega,A4,AC hi,List.getElem_idxOf hi];rfl
theorem xr (ss:Sts)(pl:Pl):(cZ ss pl).length=aX pl+(nZ ss pl).length:=by
 unfold cZ;rw[AR,eO,AI]
theorem Jp {ss:Sts}{pl:Pl}(rs:eY ss)(pv:PlV ss pl (AU ss.length)):yM (.list ((cZ ss pl).map gH))=true/\fj (cZ ss pl):=by
 have hlen:=xr ss pl;have hp1:=zf pl;refine N7 (fun z=>by rw[z] at hlen;simp at hlen;omega) fun j c hc=>?_;rw[hlen];unfold cZ at hc;have hgm:∀l∈nZ ss pl,((0+aX pl:Nat):Int)<=gP (aX pl) (nZ ss pl) l/\gP (aX pl) (nZ ss pl) l<((aX pl+(nZ ss pl).length:Nat):Int):=fun l hl=>by
  have:=List.idxOf_lt_length_of_mem hl;unfold gP;omega
 rcases E3 j (aX pl) with z|z
 ·rw[C8 (by rw[eO];exact z)] at hc;have:=RP rs pl (AU ss.length) 0 pv (fun x hx=>⟨fun l hl=>hgm l (pQ hx hl),fun ht j' h1 h2=>hgm _ (K6 (pv.steps x hx).1 hx ht j' h1 h2)⟩) ω j c hc;rwa [FF] at this
 rw[BH (by rw[eO];exact z),A4] at hc;obtain⟨l,hl,rfl⟩:=Cn.mp hc;obtain⟨k,hk,rfl⟩:=Oj pv.steps l (A2 hl);exact(rs.lh _ _ (eE hk)).2.1
theorem Gz {ss:Sts}{pl:Pl}(rs:eY ss)(pv:PlV ss pl (AU ss.length)){k:Nat}(hk:k<ss.length){n:Int}(h1:(aL ss k).1<=n)(h2:n<=(aL ss k).2.1) :
  ∃pls,runC (cZ ss pl) n (cZ ss pl).length 0=(some (lbl ss k),pls)/\pls.map (wordAt (cZ ss pl))=(pA ss k pl).map rM++[("pick" : Str)]:=by
 refine RN rs (g:=gP (aX pl) (nZ ss pl)) h1 h2 hk pl (AU ss.length) 0 _ pv (Fc.mpr hk) (fun x hx l hl=>⟨_,rfl,acn (eO _ _ _ _ _) (pQ hx hl)⟩) (fun l t ht=>?_) (fun i c hc=>?_) ω
 ·unfold gP at ht;omega
 rw[FF];unfold cZ;rw[C8 (AG.mp hc).1];exact hc
theorem mO.k' {H:Hp}{a:Addr}{kvs:List (Key×V)}{k:Key}{v:V}(e:H a=some (.dK kvs))(hv:lN kvs k=some v):mO H a (kV k) (some v):=by
 rw[<- hv];exact mO.k e
theorem ln1 {α:Type}{us:List α}(h:us.length=1):∃a,us=[a]:=by
 cases us with
 | nil=>cases h
 | cons a r=>
  cases r with
  | nil=>exact⟨a,rfl⟩
  | cons b r=>cases h
theorem ln2 {α:Type}{us:List α}(h:us.length=2):∃a0 a1,us=[a0,a1]:=by
 cases us with
 | nil=>cases h
 | cons a0 r=>
  obtain⟨a1,rfl⟩:=ln1 (Nat.succ.inj h);exact⟨a0,a1,rfl⟩
theorem ln3 {α:Type}{us:List α}(h:us.length=3):∃a0 a1 a2,us=[a0,a1,a2]:=by
 cases us with
 | nil=>cases h
 | cons a0 r=>
  obtain⟨a1,a2,rfl⟩:=ln2 (Nat.succ.inj h);exact⟨a0,a1,a2,rfl⟩
theorem ln4 {α:Type}{us:List α}(h:us.length=4):∃a0 a1 a2 a3,us=[a0,a1,a2,a3]:=by
 cases us with
 | nil=>cases h
 | cons a0 r=>
  obtain⟨a1,a2,a3,rfl⟩:=ln3 (Nat.succ.inj h);exact⟨a0,a1,a2,a3,rfl⟩
theorem ln5 {α:Type}{us:List α}(h:us.length=5):∃a0 a1 a2 a3 a4,us=[a0,a1,a2,a3,a4]:=by
 cases us with
 | nil=>cases h
 | cons a0 r=>
  obtain⟨a1,a2,a3,a4,rfl⟩:=ln4 (Nat.succ.inj h);exact⟨a0,a1,a2,a3,a4,rfl⟩
theorem pl9 {pre:List Int}{j n:Nat}(h:pre.length<=j)(hj:j<n)(hn:n<=1000000):((pre++[(j:Int)]).map V.int).length<=1000000:=by
 rw[AI,AR,A9];omega
noncomputable def tV (i:Nat):TE:=fun σ H Q=>match σ[i]? with
 | some (some x)=>Q x H
 | _=>False
theorem Zg {i:Nat}{σ:St}{H:Hp}{Q:VK}(h:tV i σ H Q):Eh i σ H Q:=by
 unfold tV at h;split at h
 ·rename_i x e;exact⟨x,e,h⟩
 exact h.elim
section
variable {X:Cx}{i:Nat}{x:Str}{pos:Pos}
theorem ao (h:Nm X.N X.env.scope i x):QE X (.Name x pos) (tV i):=⟨fun pins s σ H Q I q=>(Od h).h pins s σ H Q I (Zg q)⟩
theorem b8 (i:Nat) {x:Str}{pos:Pos}(hN:X.N[i]?=some x:=by rfl) (hv:Vis X.env.scope x:=by first|exact EF rfl|exact Or.inr (EF rfl)|exact Or.inr (Or.inr rfl)) (hd:(x == ("__debug__" : Str))=false:=by decide)
  (hcd:(x == ("__classdict__" : Str))=false:=by decide):QE X (.Name x pos) (tV i):=⟨fun pins s σ H Q I q=>(acK i hN hv hd hcd).h pins s σ H Q I (Zg q)⟩
end
noncomputable def atq (o:Option V)(H:Hp)(Q:VK):Prop:=∃v,o=some v/\Q v H
theorem VP (v:V)(H:Hp)(Q:VK):atq (some v) H Q=Q v H:=propext ⟨fun⟨_,e,h⟩=>by cases e;exact h,fun h=>⟨v,rfl,h⟩⟩
theorem UG (xs:List V)(i:Int)(H:Hp)(Q:VK):ixq (some (.lst xs)) i H Q=atq (atI xs i) H Q:=rfl
theorem Uz (xs:List V)(i:Int)(H:Hp)(Q:VK):ixq (some (.tup xs)) i H Q=atq (atI xs i) H Q:=rfl
theorem abj {b:Bool}{P:Bool->Prop}:(∃k,V.bl b=V.bl k/\P k)=P b:=propext ⟨fun⟨_,e,h⟩=>by cases e;exact h,fun h=>⟨b,rfl,h⟩⟩
theorem YX {a:Int}{P:Int->Prop}:(∃k,V.int a=V.int k/\P k)=P a:=propext ⟨fun⟨_,e,h⟩=>by cases e;exact h,fun h=>⟨a,rfl,h⟩⟩
theorem YW {a b:Int}{P:Int->Int->Prop}:(∃i j,V.int a=V.int i/\V.int b=V.int j/\P i j)=P a b:=propext ⟨fun⟨_,_,e,f,h⟩=>by cases e;cases f;exact h,fun h=>⟨a,b,rfl,rfl,h⟩⟩
theorem YT {a b:V}{P:V->V->Prop}:(∃i j,[a,b]=[i,j]/\P i j)=P a b:=propext ⟨fun⟨_,_,e,h⟩=>by cases e;exact h,fun h=>⟨a,b,rfl,h⟩⟩
theorem acs {α:Type}(a b c d:α)(l:List α):atI (a::b::c::d::l) 3=some d:=bJ (j:=3) rfl
theorem V0 {α:Type}(a b c d:α):atI [a,b,c,d] (-1)=some d:=rfl
theorem VR {α:Type}(a b c d e:α):atI [a,b,c,d,e] (-1)=some e:=rfl
noncomputable def ry0:=AB @Nz.eq_1 (AB @NP.eq_1 (AB @yQ.eq_1 (AB @tOp.eq_1 (AB @rI.eq_1 (AB @rI0.eq_1 (AB @rU.eq_1 (AB @tUn.eq_1 (AB @Eh.eq_1 (AB @tC.eq_1 (AB @Q9.eq_1 (AB @Gp.eq_1 (AB @uq.eq_1 (AB @Cp.eq_1 (AB @NK.eq_1 (AB @tCB.eq_1 (AB @tIf.eq_1 (AB @Rf.eq_1 (AB @Q8.eq_1 (AB @Bm.eq_1 (AB @lE.eq_1 (AB @U7.eq_1 (AB @Dv (AB @Mu (AB @GD (AB @R7 (AB @R9 (AB @W5 (AB @Zz.eq_1 (AB @YF @abh)))))))))))))))))))))))))))))
noncomputable def ry1:=AB @Sq (AB @Oa (AB @Oc (AB @WT (AB @UG (AB @Uz (AB @Wq (AB @Yr (AB @Yq (AB UL.1 (AB UL.2.1 (AB UL.2.2 (AB @acv (AB @V2 (AB @acu @au))))))))))))))
noncomputable def ry2:=AB @EU (AB @C1 (AB @KA (AB @decide_true (AB @decide_false (AB @Ri.eq_1 (AB @rEq.eq_1 (AB @rNe.eq_1 @W4)))))))
noncomputable def ry3:=AB @W3 (AB @Z4 (AB @Z5 (AB @Z2 (AB @Yn (AB @Z7 (AB @aci (AB @N8 (AB @Ws (AB @Rg.eq_1 (AB @V1 (AB @ZF.eq_1 (AB @yS.eq_1 (AB @RK (AB @RJ (AB @Qz.eq_1 (AB @abE.eq_1 (AB @Zw.eq_1 (AB @L2.start.eq_1 (AB @Dx.{0,0} (AB @map_nil.{0,0} (AB @Be.{0} (AB @FS.{0} (AB @cons_append.{0} (AB @GO.{0} (AB @FD.{0} (AB @List.replicate_zero.{0} (AB @C4.{0} (AB @G1.{0} @GY.{0}))))))))))))))))))))))))))))
noncomputable def ry4:=AB @KE.{0} (AB @KF.{0} (AB @HH (AB @Option.some.injEq.{0} (AB @exists_eq_left'.{1} (AB @Vh (AB @V.int.injEq (AB @V.str.injEq (AB @V.ref.injEq (AB @List.cons.injEq.{0} (AB @and_true (AB @true_and (AB @exists_and_left.{1} (AB @exists_and_right.{1} (AB @decide_eq_true_eq (AB @Rm (AB @V6 (AB @vf (AB @Zb (AB @RZ (AB @Wu (AB @Wt (AB @tSl.eq_1 (AB @Ej.eq_1 (AB @Rc.eq_1 @WQ))))))))))))))))))))))))
noncomputable def ry5:=AB @WR (AB @WL (AB @WY (AB @WX (AB @nG (AB @rB (AB @rA (AB @Wk (AB @Q0 (AB @Q5 (AB @Wi (AB @Ra (AB @Xq (AB @Xp (AB @Jg.eq_1 (AB @ZK.eq_1 @ipI.eq_1)))))))))))))))
noncomputable def ry6:=AB @acs (AB @V0 (AB @VR (AB @VP (AB @abj (AB @YX (AB @YW @YT))))))
noncomputable def rdy:=AB ry0 (AB ry1 (AB ry2 (AB ry3 (AB ry4 (AB ry5 (AB ry6 @tV.eq_1))))))
theorem Wd {c:TT}{tb:TS}{D:Ends}{σ:St}{H:Hp}(Pv:Nat->St->Hp->Prop)(h0:∃m,Pv m σ H)
  (hs:∀m σ H,Pv m σ H->∀kt:Hp->Prop,(kt=fun H1=>∃N:St->Hp->Prop,(∀σ' H',N σ' H'->∃m',m'<m/\Pv m' σ' H')/\tb { D with nx:=N,ct:=N,bk:=D.nx } σ H1)->c σ H fun b H1=>if b=true then kt H1 else D.nx σ H1):Eg c tb D σ H:=
 ⟨Pv,h0,fun m σ H p=>hs m σ H p _ rfl⟩
theorem bU {K:AD}{h:Heap}{mg:Str->Option An}{x:Str}{st:Stmt}{ps:List Str}{f:Addr}{oc:An}{od an:Option Addr}{osl:Array (Option An)}{kV doc pm cdv ct:An}(X:K.In h)(G:h.Ns AL mg)(a:nsIn K AL x=some (some (.ref f)))
  (l:K.lookup f=some ⟨oc,od,.func (fnOf x x (bh st) (bf st) (aj st) .none kV doc pm an cdv ct),osl⟩) (c:CC K cdv x=true) (k:CB K (.ref f)=true)
  (hb:∀(kV doc pm:An)(an:Option Addr)(cdv ct:An)(us:List An),us.length=ps.length->bindArgs (fnOf x x (bh st) (bf st) (aj st) .none kV doc pm an cdv ct) ⟨us,[]⟩=pure (ps.zip us)):Wa K mg x st ps f (fnOf x x (bh st) (bf st) (aj st) .none kV doc pm an cdv ct):=
 ⟨Km (st:=st) l c k,(Km (st:=st) l c k).binds hb,mg_of X G a⟩
end L2
set_option maxHeartbeats 4100000
namespace SRT
open PySem PyProof.Rows
end SRT
namespace SRT
open PySem PyProof.Rows
end SRT
namespace SRT
open PySem PyProof.Rows
noncomputable abbrev bt (w:BB):Bool:=w.params.followText "set-order"
end SRT
namespace SRT
open PySem PyProof.Rows
end SRT
namespace SRT
open PySem PyProof.Rows
end SRT
namespace SRT
open PySem PyProof.Rows
end SRT
namespace SRT
open PySem PyProof.Rows
section
variable {prog:AW}{w:BB}{s:AA}{A:Bi}{E:An->AA->Prop}
theorem MK {st:E9}{xs:Array D1}{i:Nat}{Q:D1->E9->Prop}(hi:i<xs.size)(h:∀p,xs[i]?=some p->Q p st):wpS (AN prog w) A E s (elem' xs i) Q st:=by
 rw[elem'_eq];have e:xs[i]?=some xs[i]:=getElem?_pos xs i hi;rw[e];exact De (h _ e)
end
end SRT
namespace SRT
open PySem PyProof.Rows
end SRT
namespace SRT
open PySem PyProof.Rows
end SRT
namespace SRT
open PySem PyProof.Rows
section
variable {prog:AW}{w:BB}{s:AA}{A:Bi}{E:An->AA->Prop}{a₀:Array D1}
structure MB (a₀:Array D1)(st:E9):Prop where
 kind:kindOf st=oneType'
 perm:(B2 st).toList.Perm a₀.toList
 fail:IU st=none
end
end SRT
namespace SRT
open PySem PyProof.Rows
end SRT
namespace SRT
open PySem PyProof.Rows
section
variable {prog:AW}{w:BB}{s:AA}{A:Bi}{E:An->AA->Prop}{a₀:Array D1}{pd:Array (Nat×Nat×Nat)}
theorem Wc {σ α:Type}{c:Prop}[Decidable c]{m n:StateT σ Sem α}{st:σ}{Q:α->σ->Prop}(h1:c->wpS (AN prog w) A E s m Q st)(h2:¬c->wpS (AN prog w) A E s n Q st):wpS (AN prog w) A E s (if c then m else n) Q st:=by
 by_cases h:c
 ·rw[if_pos h];exact h1 h
 rw[if_neg h];exact h2 h
end
end SRT
namespace SRT
open PySem PyProof.Rows
section
variable {prog:AW}{w:BB}{s:AA}{A:Bi}{E:An->AA->Prop}
theorem CG (vs:List An):((EX vs).map (·.2)).toList=vs:=by
 unfold EX;simp [List.map_snd_zip]
end
end SRT
namespace SRT
open PySem PyProof.Rows
end SRT
set_option maxHeartbeats 4000000
namespace L2
open PySem PySem.Spec PyProof.Rows
end L2
set_option maxHeartbeats 8000000
namespace L2
open PySem PySem.Spec PyProof.Rows
end L2
set_option maxHeartbeats 4000000
namespace L2
open PySem PySem.Spec PyProof.Rows
section
variable {X:Cx}{o e:Expr}{p pos:Pos}{to ti:TE}
theorem V3 (o:Expr)(u)(e:Expr)(p pos:Pos)(env:Env)(v:An):FR (.Subscript o (.UnaryOp u e p) pos) env v=(do
   let ov <- EB [v] (eval o env)
   let iv <- EB [v,ov] (eval (.UnaryOp u e p) env)
   GA pos
   EB [v,ov,iv] (setItem ov iv v)
   release [v,ov,iv] []):=rfl
theorem Lx {u}{t:Qw}(ho:QE X o to)(hi:QE X (.UnaryOp u e p) ti)(hs:Qx X t):QG X (.Subscript o (.UnaryOp u e p) pos) (U7 to ti t):=⟨Jx ho.h hi.h hs (fun v=>V3 o u e p pos X.env v)⟩
end
end L2
namespace SRT
open PySem PySem.Builtin PySem.Builtin.List PyProof.Rows
noncomputable def yF:SortKind:=(sortPriv% PySem.Builtin.KeyKind.tuples) true
end SRT
namespace SRT
open PySem PyProof.Rows
noncomputable def Rk (f:D1->Int)(xs:Array D1)(i:Nat):Int:=match xs[i]? with
 | some p=>f p
 | none=>0
theorem Rk.at {f:D1->Int}{xs ys:Array D1}{i j:Nat}(h:xs[i]?=ys[j]?):Rk f xs i=Rk f ys j:=by
 unfold Rk;rw[h]
noncomputable def Asc (f:D1->Int)(xs:Array D1)(n:Nat):Prop:=∀i j,i<j->j<n->Rk f xs i<Rk f xs j
noncomputable def Dsc (f:D1->Int)(xs:Array D1)(n:Nat):Prop:=∀i j,i<j->j<n->Rk f xs j<Rk f xs i
theorem Asc.snoc {f:D1->Int}{xs:Array D1}{n:Nat}(h:Asc f xs n)(h1:1<=n)(hl:Rk f xs (n-1)<Rk f xs n):Asc f xs (n+1):=fun i j hij hj=>by
 by_cases e:j=n
 ·subst e;by_cases e2:i=j-1
  ·subst e2;exact hl
  have:=h i (j-1) ω ω;omega
 exact h i j hij ω
theorem Dsc.snoc {f:D1->Int}{xs:Array D1}{n:Nat}(h:Dsc f xs n)(h1:1<=n)(hl:Rk f xs n<Rk f xs (n-1)):Dsc f xs (n+1):=fun i j hij hj=>by
 by_cases e:j=n
 ·subst e;by_cases e2:i=j-1
  ·subst e2;exact hl
  have:=h i (j-1) ω ω;omega
 exact h i j hij ω
theorem Dsc.mirror {f:D1->Int}{xs:Array D1}{n:Nat}(h:Dsc f xs n)(hn:n<=xs.size):Asc f (mirror xs 0 n ((n-0)/2)) n:=fun i j hij hj=>by
 have e1:=getElem?_mirror_all (i:=0) hn i;have e2:=getElem?_mirror_all (i:=0) hn j;rw[if_pos ⟨DL _,ω⟩] at e1 e2;rw[Rk.at e1,Rk.at e2];exact h _ _ ω ω
structure RB (a₀:Array D1)(st:E9):Prop where
 kind:kindOf st=yF
 perm:(B2 st).toList.Perm a₀.toList
 fail:IU st=none
 pend:D6 st=#[]
theorem RB.size {a₀:Array D1}{st:E9}(h:RB a₀ st):(B2 st).size=a₀.size:=by
 have:=h.perm.length_eq;simpa using this
theorem RB.set {a₀ xs:Array D1}{st:E9}(h:RB a₀ st)(hp:xs.Perm (B2 st)):RB a₀ (setArr st xs):=
 ⟨h.kind,(Array.perm_iff_toList_perm.mp hp).trans h.perm,h.fail,h.pend⟩
section
variable {prog:AW}{w:BB}{s:AA}{A:Bi}{E:An->AA->Prop}{a₀:Array D1}{f:D1->Int}
noncomputable def Asks (prog:AW)(w:BB)(A:Bi)(E:An->AA->Prop)(s:AA)(a₀:Array D1)(f:D1->Int):Prop:=
 ∀(st:E9)(x y:D1)(Q:Option Bool->E9->Prop),kindOf st=yF->x∈a₀.toList->y∈a₀.toList->f x≠f y->Q (some (decide (f x<f y))) st->wpS (AN prog w) A E s (lt' x y) Q st
theorem GC {st:E9}{i j:Nat}(hB:RB a₀ st)(hf:(a₀.toList.map f).Nodup)(hi:i<a₀.size)(hj:j<a₀.size)(hij:i≠j):Rk f (B2 st) i≠Rk f (B2 st) j:=by
 have hn:((B2 st).toList.map f).Nodup:=(hB.perm.map f).nodup_iff.mpr hf;have hz:=hB.size;have e1:(B2 st)[i]?=some (B2 st)[i]:=getElem?_pos _ i ω;have e2:(B2 st)[j]?=some (B2 st)[j]:=getElem?_pos _ j ω;unfold Rk;rw[e1,e2];show f _≠f _;intro e;refine hij ((getElem_inj (xs:=(B2 st).toList.map f) (i:=i) (j:=j) (h₀:=by simp;omega) (h₁:=by simp;omega) hn).mp ?_);simpa using e
theorem ltR {st:E9}{i' j':Nat}{Q:Option Bool->E9->Prop}(O:Asks prog w A E s a₀ f)(hf:(a₀.toList.map f).Nodup)(hB:RB a₀ st)(i j:Nat)(ei:i'=i)(ej:j'=j)(hi:i<a₀.size)(hj:j<a₀.size)(hij:i≠j)
  (h:Q (some (decide (Rk f (B2 st) i<Rk f (B2 st) j))) st):wpS (AN prog w) A E s (ltAt' i' j') Q st:=by
 subst ei;subst ej;have hz:=hB.size;have hne:=GC hB hf hi hj hij;rw[ltAt'_eq];refine Cb (wpS_get ?_);refine Cb (MK ω fun p hp=>?_);refine Cb (MK ω fun q hq=>?_);have mp:p∈a₀.toList:=hB.perm.mem_iff.mp (by simpa using Array.mem_of_getElem? hp);have mq:q∈a₀.toList:=hB.perm.mem_iff.mp (by simpa using Array.mem_of_getElem? hq);unfold Rk at h hne;rw[hp,hq] at h hne;exact O st p q Q hB.kind mp mq hne h
theorem abm {st:E9}{Q:Option Nat->E9->Prop}(O:Asks prog w A E s a₀ f)(hf:(a₀.toList.map f).Nodup)(hB:RB a₀ st)(nrem:Nat)(en:nrem=a₀.size)(h1:1<=nrem)
  (h:∀n st',1<=n->n<=nrem->RB a₀ st'->Asc f (B2 st') n->Q (some n) st'):wpS (AN prog w) A E s (countRun' 0 nrem) Q st:=by
 refine Cb (IX (FL (I:=fun x c z=>z=st/\c=(none,x)/\Asc f (B2 st) x) (Q:=fun c z=>z=st/\∃n,c=(none,n)/\1<=n/\n<=nrem/\Asc f (B2 st) n/\(n<nrem->Rk f (B2 st) n<Rk f (B2 st) (n-1))) ?_ ?_ ⟨rfl,rfl,fun i j _ _=>ω⟩) ?_)
 ·rintro x c z h1x hx ⟨rfl,rfl,ha⟩;dsimp only;refine Cb (ltR O hf hB x (x-1) ω ω ω ω ω ?_);by_cases e:Rk f (B2 z) x<Rk f (B2 z) (x-1)
  ·rw[decide_eq_true e];exact De ⟨rfl,x,rfl,h1x,ω,ha,fun _=>e⟩
  rw[decide_eq_false e];have:=GC hB hf (i:=x) (j:=x-1) ω ω ω;exact De ⟨rfl,rfl,ha.snoc h1x ω⟩
 ·rintro c z ⟨rfl,rfl,ha⟩;exact⟨rfl,_,rfl,ω,ω,(by rw[Ic h1] at ha;rw[Ic h1];exact ha),fun q=>ω⟩
 rintro c z ⟨rfl,n,rfl,k1,k2,ha,hx⟩;dsimp only;by_cases he:(n == nrem)=true
 ·rw[if_pos he];exact De (h n z k1 k2 hB ha)
 rw[if_neg he];have k3:n<nrem:=by have:¬(n=nrem):=(by simpa using he);omega
 by_cases hg:n>1
 ·rw[if_pos hg];refine Cb (ltR O hf hB 0 (n-1) rfl ω ω ω ω ?_);rw[decide_eq_true (ha 0 (n-1) ω ω)];exact De (h n z k1 k2 hB ha)
 rw[if_neg hg];have e1:n=1:=ω;subst e1;have hd:Dsc f (B2 z) 2:=fun i j hij hj=>by
  have:i=0:=by omega
  have:j=1:=by omega
  subst i;subst j;exact hx k3
 refine Cb (wpS_lift (HI (AB rfl ?_)));refine Cb (IX (FL (I:=fun x c z'=>z'=z/\c=(none,x,0)/\Dsc f (B2 z) x) (Q:=fun c z'=>z'=z/\∃n,c=(none,n,0)/\2<=n/\n<=nrem/\Dsc f (B2 z) n) ?_ ?_ ⟨rfl,rfl,hd⟩) ?_)
 ·rintro x c z' h2x hx2 ⟨rfl,rfl,hd⟩;dsimp only;refine Cb (ltR O hf hB x (x-1) ω ω ω ω ω ?_);have hne:=GC hB hf (i:=x) (j:=x-1) ω ω ω;by_cases e:Rk f (B2 z') x<Rk f (B2 z') (x-1)
  ·rw[decide_eq_true e];dsimp only;rw[if_pos rfl,if_neg δ];exact De ⟨rfl,rfl,hd.snoc ω e⟩
  rw[decide_eq_false e];dsimp only;rw[if_neg (AY)];refine Cb (ltR O hf hB (x-1) x ω ω ω ω ω ?_);have hlt:Rk f (B2 z') (x-1)<Rk f (B2 z') x:=ω;rw[decide_eq_true hlt];exact De ⟨rfl,x,rfl,h2x,ω,hd⟩
 ·rintro c z' ⟨rfl,rfl,hd⟩;rw[Ic ω] at hd |-;exact⟨rfl,_,rfl,ω,A6 _,hd⟩
 rintro c z' ⟨rfl,n,rfl,q1,q2,hd⟩;dsimp only;rw[if_neg δ];have hz:=hB.size;apply Cb;apply wpS_reverse;have hB':RB a₀ (setArr z' (mirror (B2 z') 0 (0+n) ((0+n-0)/2))):=hB.set (mirror_perm _ _ _ _);have ha':Asc f (B2 (setArr z' (mirror (B2 z') 0 (0+n) ((0+n-0)/2)))) n:=by
  have:=hd.mirror ω;rw[FF];exact this
 generalize setArr z' (mirror (B2 z') 0 (0+n) ((0+n-0)/2))=st2 at hB' ha' |-;refine Cb (IX (FL (I:=fun x c z=>z=st2/\c=(none,x)/\Asc f (B2 st2) x) (Q:=fun c z=>z=st2/\∃n,c=(none,n)/\1<=n/\n<=nrem/\Asc f (B2 st2) n) ?_ ?_ ⟨rfl,rfl,ha'⟩) ?_)
 ·rintro x c z h1x hx ⟨rfl,rfl,ha⟩;dsimp only;refine Cb (ltR O hf hB' x (x-1) ω ω ω ω ω ?_);by_cases e:Rk f (B2 z) x<Rk f (B2 z) (x-1)
  ·rw[decide_eq_true e];exact De ⟨rfl,x,rfl,ω,ω,ha⟩
  rw[decide_eq_false e];have:=GC hB' hf (i:=x) (j:=x-1) ω ω ω;exact De ⟨rfl,rfl,ha.snoc ω ω⟩
 ·rintro c z ⟨rfl,rfl,ha⟩;rw[Ic ω] at ha |-;exact⟨rfl,_,rfl,ω,A6 _,ha⟩
 rintro c z ⟨rfl,n,rfl,k1,k2,ha⟩;exact De (h n z k1 k2 hB' ha)
end
end SRT
namespace SRT
open PySem PyProof.Rows
theorem KD {f:D1->Int}{xs:Array D1}{k l:Nat}(h:Asc f xs k)(hk:k<xs.size)(hl:l<=k)(h1:∀i,i<l->Rk f xs i<Rk f xs k)(h2:∀i,l<=i->i<k->Rk f xs k<Rk f xs i):Asc f (bubble xs k (k-l)) (k+1):=by
 have g:∀i,Rk f (bubble xs k (k-l)) i=if i=l then Rk f xs k else if l<i/\i<=k then Rk f xs (i-1) else Rk f xs i:=fun i=>by
  have e:=getElem?_bubble hk (k-l) ω i;rw[show k-(k-l)=l by omega] at e;split
  ·rename_i c;rw[if_pos c] at e;exact Rk.at e
  rename_i c;rw[if_neg c] at e;split
  ·rename_i c2;rw[if_pos c2] at e;exact Rk.at e
  rename_i c2;rw[if_neg c2] at e;exact Rk.at e
 intro i j hij hj;rw[g i,g j];by_cases a1:i=l
 ·rw[if_pos a1,if_neg ω,if_pos ω];exact h2 _ ω ω
 rw[if_neg a1];by_cases a2:l<i/\i<=k
 ·rw[if_pos a2,if_neg ω,if_pos ω];exact h _ _ ω ω
 rw[if_neg a2];by_cases b1:j=l
 ·rw[if_pos b1];exact h1 _ ω
 rw[if_neg b1];by_cases b2:l<j/\j<=k
 ·rw[if_pos b2];by_cases c:i=j-1
  ·omega
  exact h _ _ ω ω
 rw[if_neg b2];exact h _ _ ω ω
section
variable {prog:AW}{w:BB}{s:AA}{A:Bi}{E:An->AA->Prop}{a₀:Array D1}{f:D1->Int}
theorem acT {st:E9}{n ok:Nat}{Q:Bool->E9->Prop}(O:Asks prog w A E s a₀ f)(hf:(a₀.toList.map f).Nodup)(hB:RB a₀ st)(hn:n<=a₀.size)(hok:1<=ok)(hon:ok<=n)(ha:Asc f (B2 st) ok)
  (h:∀st',RB a₀ st'->Asc f (B2 st') n->Q true st'):wpS (AN prog w) A E s (binarySort' 0 n ok) Q st:=by
 have hm:max ok 1=ok:=ω;refine Cb (IX (FL (I:=fun x c z=>RB a₀ z/\c=(none,())/\Asc f (B2 z) x) (Q:=fun c z=>RB a₀ z/\c=(none,())/\Asc f (B2 z) n) ?_ (fun c z hh=>by rw[hm,Ic hon] at hh;exact hh) ⟨hB,rfl,by rw[hm];exact ha⟩) ?_)
 ·rintro k c z hk1 hk ⟨hz,rfl,hk2⟩;dsimp only;have hsz:=hz.size;refine Cb (IX (FL (I:=fun x c z'=>z'=z/\∃l r,c=(none,l,r)/\l<=r/\r<=k/\r-l<=k-x/\(∀i,i<l->Rk f (B2 z) i<Rk f (B2 z) k)/\(∀i,r<=i->i<k->Rk f (B2 z) k<Rk f (B2 z) i)) (Q:=fun c z'=>z'=z/\∃l,c=(none,l,l)/\l<=k/\(∀i,i<l->Rk f (B2 z) i<Rk f (B2 z) k)/\(∀i,l<=i->i<k->Rk f (B2 z) k<Rk f (B2 z) i)) ?_ ?_ ⟨rfl,0,k,rfl,DL _,A6 _,A6 _,fun i hi=>ω,fun i h1 h2=>ω⟩) ?_)
  ·rintro x c z' _ hx ⟨rfl,l,r,rfl,q1,q2,q3,q4,q5⟩;dsimp only;by_cases hl:l≥r
   ·rw[if_pos hl];have:l=r:=by omega
    subst this;exact De ⟨rfl,l,rfl,q2,q4,q5⟩
   rw[if_neg hl];refine Cb (ltR O hf hz k ((l+r)/2) ω ω ω ω ω ?_);have hne:=GC hz hf (i:=k) (j:=(l+r)/2) ω ω ω;by_cases e:Rk f (B2 z') k<Rk f (B2 z') ((l+r)/2)
   ·rw[decide_eq_true e];refine De ⟨rfl,l,(l+r)/2,rfl,ω,ω,ω,q4,fun i h1 h2=>?_⟩;by_cases c:i=(l+r)/2
    ·rw[c];exact e
    have:=hk2 ((l+r)/2) i ω h2;omega
   rw[decide_eq_false e];refine De ⟨rfl,(l+r)/2+1,r,rfl,ω,q2,ω,fun i h1=>?_,q5⟩;by_cases c:i=(l+r)/2
   ·rw[c];omega
   have:=hk2 i ((l+r)/2) ω ω;omega
  ·rintro c z' ⟨rfl,l,r,rfl,q1,q2,q3,q4,q5⟩;have:l=r:=by omega
   subst this;exact⟨rfl,l,rfl,q2,q4,q5⟩
  rintro c z' ⟨rfl,l,rfl,q2,q4,q5⟩;dsimp only;refine Cb (wpS_modify (De ⟨hz.set (bubble_perm _ _ _),rfl,?_⟩));have:=KD hk2 ω q2 q4 q5;show Asc f (bubble (B2 z') (0+k) (0+k-(0+l))) (k+1);rw[FF,FF];exact this
 rintro c z ⟨hz,rfl,hk⟩;exact De (h z hz hk)
theorem abL {st:E9}{Q:Unit->E9->Prop}(O:Asks prog w A E s a₀ f)(hf:(a₀.toList.map f).Nodup)(hB:RB a₀ st)(h1:1<=a₀.size)(h64:a₀.size<64)
  (h:∀st',(B2 st').toList.Perm a₀.toList->IU st'=none->Asc f (B2 st') a₀.size->Q () st'):wpS (AN prog w) A E s sortRuns' Q st:=by
 refine Cb (wpS_get ?_);dsimp only;have hs:=hB.size;dsimp only [B2] at hs;simp only[hs];have hmr:(sortPriv% PySem.Builtin.minRun) a₀.size a₀.size 0=a₀.size:=by
  obtain⟨k,hk⟩:∃k,a₀.size=k+1:=⟨a₀.size-1,ω⟩;have:minRun' (k+1) a₀.size 0=a₀.size:=by
   rw[minRun'_succ,if_pos h64];rfl
  rw[<- hk] at this;exact this
 rw[hmr];refine Cb (IX (FL (I:=fun x c z=>(x=0/\c=(none,0)/\RB a₀ z)\/(c=(none,a₀.size)/\(B2 z).toList.Perm a₀.toList/\IU z=none/\(D6 z).size=1/\Asc f (B2 z) a₀.size)) (Q:=fun c z=>c=(none,a₀.size)/\(B2 z).toList.Perm a₀.toList/\IU z=none/\(D6 z).size=1/\Asc f (B2 z) a₀.size) ?step ?fin (.inl ⟨rfl,rfl,hB⟩)) ?post)
 case fin=>
  rintro c z (⟨hx,_,_⟩|hD)
  ·omega
  exact hD
 case step=>
  rintro x c z _ hx (⟨rfl,rfl,hz⟩|⟨rfl,d1,d2,d3,d4⟩)
  ·dsimp only;rw[if_neg ω];refine Cb (abm O hf hz _ (Nat.sub_zero _) ω fun n z' n1 n2 hz' ha=>?_);dsimp only;have fin:∀z':E9,RB a₀ z'->Asc f (B2 z') a₀.size->∀m,m=a₀.size->(B2 (setPending z' ((D6 z').push (0,m,0)))).toList.Perm a₀.toList/\IU (setPending z' ((D6 z').push (0,m,0)))=none/\(D6 (setPending z' ((D6 z').push (0,m,0)))).size=1/\Asc f (B2 (setPending z' ((D6 z').push (0,m,0)))) a₀.size:=fun z' hz' ha m hm=>
    ⟨hz'.perm,hz'.fail,(by show((D6 z').push _).size=1;rw[hz'.pend];rfl),ha⟩
   by_cases hlt:n<a₀.size
   ·rw[if_pos hlt];refine Cb (wpS_lift (HI (AB rfl ?_)));refine Cb (acT O hf hz' (show min (a₀.size-0) a₀.size<=a₀.size by omega) n1 ω ha fun z2 hz2 ha2=>?_);rw[if_neg (show ¬((!true)=true) by decide)];refine Cb (wpS_get ?_);have hp2:(D6 z2).back?=none:=by rw[hz2.pend];rfl
    rw[show min (a₀.size-0) a₀.size=a₀.size by omega] at ha2;dsimp only [D6] at hp2;rw[hp2];refine Cb (wpS_modify (De (.inr ⟨?_,fin z2 hz2 ha2 _ ω⟩)));rw[show 0+min (a₀.size-0) a₀.size=a₀.size by omega]
   rw[if_neg hlt];have e:n=a₀.size:=ω;refine Cb (wpS_get ?_);have hp2:(D6 z').back?=none:=by rw[hz'.pend];rfl
   dsimp only [D6] at hp2;rw[hp2];refine Cb (wpS_modify (De (.inr ⟨?_,fin z' hz' (e ▸ ha) _ e⟩)));rw[FF,e]
  dsimp only;rw[if_pos (A6 _)];exact De ⟨rfl,d1,d2,d3,d4⟩
 case post=>
  rintro c z ⟨rfl,d1,d2,d3,d4⟩;dsimp only;refine Cb (IX (FL (I:=fun _ c z'=>c=(none,())/\z'=z) (Q:=fun c z'=>c=(none,())/\z'=z) ?_ (fun _ _ hh=>hh) ⟨rfl,rfl⟩) ?_)
  ·rintro x c z' _ _ ⟨rfl,rfl⟩;refine Cb (wpS_get ?_);refine Wc (fun _=>De ⟨rfl,rfl⟩) fun hg=>?_;have hg2:¬(D6 z').size<=1:=hg;omega
  rintro c z' ⟨rfl,rfl⟩;exact De (h z' d1 d2 d4)
end
end SRT
namespace SRT
open PySem PyProof.Rows
section
variable {prog:AW}{w:BB}{s:AA}{A:Bi}{E:An->AA->Prop}
theorem QX {v:An}{vs:List An}{ns:List Int}(hI:Fh (v::vs) ns):oneTypeOnly' (v::vs).toArray=pure (some (.type "int")):=by
 simp only[oneTypeOnly'_eq,List.mapM_toArray,mapM_typeOf_ints hI,map_pure,pure_bind,Dx,FY,G1];rw[if_pos ?_];rw[List.all_toArray,all_cons];have e:(An.type "int" == An.type "int")=true:=rfl;rw[e,F4,all_map];exact E4.mpr fun _ _=>rfl
theorem zp {vs:List An}{p:D1}(h:p∈(EX vs).toList):p.1∈vs/\p.2=p.1:=by
 unfold EX at h;rw[Array.toList_zip] at h;obtain⟨i,hi,rfl⟩:=List.getElem_of_mem h;simp
theorem Ou (vs:List An):(EX vs).toList.map (·.1)=vs:=by
 unfold EX;simp [List.map_fst_zip]
end
end SRT
namespace SRT
open PySem PyProof.Rows
section
variable {prog:AW}{w:BB}{s:AA}{A:Bi}{E:An->AA->Prop}
theorem Qv {g:An->Int}{vs:List An}{xs:Array D1}(hp:xs.toList.Perm (EX vs).toList)(h:Asc (fun p=>g p.1) xs (EX vs).size):((xs.map (·.2)).toList.map g).Pairwise (· < ·):=by
 have hz:xs.size=(EX vs).size:=by
  have:=hp.length_eq;simpa using this
 refine List.pairwise_iff_getElem.mpr fun i j hi hj hij=>?_;have hix:i<xs.size:=by simpa using hi
 have hjx:j<xs.size:=by simpa using hj
 have e:∀(k:Nat)(hk:k<xs.size),g xs[k].2=Rk (fun p=>g p.1) xs k:=fun k hk=>by
  have m:xs[k]∈(EX vs).toList:=hp.mem_iff.mp (by simp);unfold Rk;rw[getElem?_pos xs k hk];show g _=g _;rw[(zp m).2]
 have a1:=h i j hij ω;rw[<- e i hix,<- e j hjx] at a1;simpa using a1
end
end SRT
namespace L2
open PySem PySem.Spec PyProof.Rows
theorem Cg:∀{ps:List Addr}{us:List An},Vals (ps.map V.ref) us->us=ps.map An.ref
 | [],_,h=>by cases h;rfl
 | p::ps,_,h=>by
  cases h with
  | cons r h=>
   cases r;rw[Cg h];rfl
theorem Cy:∀(ps:List Addr),Vals (ps.map V.ref) (ps.map An.ref)
 | []=>.nil
 | p::ps=>.cons rfl (Cy ps)
theorem Om:∀{xs:List An}{ps:List Addr},xs.Perm (ps.map An.ref)->∃qs:List Addr,xs=qs.map An.ref/\qs.Perm ps:=fun {xs ps} h=>by
 have hx:∀v∈xs,∃p,v=An.ref p:=fun v hv=>by
  obtain⟨p,_,e⟩:=DE.mp (h.mem_iff.mp hv);exact⟨p,e.symm⟩
 obtain⟨qs,rfl⟩:∃qs:List Addr,xs=qs.map An.ref:=by
  clear h
  induction xs with
  | nil=>exact⟨[],rfl⟩
  | cons v xs ih=>
   obtain⟨p,rfl⟩:=hx v (AM ..);obtain⟨qs,rfl⟩:=ih fun x m=>hx x (AH _ m);exact⟨p::qs,rfl⟩
 refine⟨qs,rfl,?_⟩;have:=h.filterMap fun v=>match v with | .ref p=>some p|_=>none
 simpa [filterMap_map,Function.comp_def] using this
end L2
namespace SRT
open PySem PyProof.Rows
noncomputable def TP (s:AA) (x:An) (a:Int):Prop:=∃q o n t z,x=.ref q/\s.heap.get? q=some o/\o.cls=.type "tuple" /\ o.data=.seq #[.int a t,z] n
section
variable {prog:AW}{w:BB}{s:AA}{A:Bi}{E:An->AA->Prop}
theorem abi {v:An}{a:Int}{Q:Option An->AA->Prop}(h:TP s v a)(q:∀t,Q (some (.int a t)) s):AK (AN prog w) A (firstOfTuple' v) Q E s:=by
 obtain⟨p,o,n,t,z,rfl,ho,hc,hs⟩:=h;show AK _ _ (typeOf (.ref p) >>= fun ty=>_) _ _ s;refine Ap (wpAny_typeOf (T := "tuple") (show s.TypeIs (.ref p) "tuple" from⟨o,ho,hc⟩) ?_);rw[if_neg δ];exact Ap (listItems_at ho hs (AE (q t)))
theorem firstsP:∀{vs:List An}{Q:List (Option An)->AA->Prop},(∀v∈vs,∃a,TP s v a)->(∀(ws:List An)(ns:List Int),Fh ws ns->ws.length=vs.length->Q (ws.map some) s)->AK (AN prog w) A (vs.mapM firstOfTuple') Q E s
 | [],Q,_,q=>by
  rw[List.mapM_nil];exact AE (q [] [] .nil rfl)
 | v::vs,Q,h,q=>by
  rw[List.mapM_cons];obtain⟨a,hv⟩:=h v (AM ..);refine Ap (abi hv fun t=>?_);refine Ap (firstsP (vs:=vs) (fun x hx=>h x (AH _ hx)) fun ws ns hI hl=>?_);exact AE (q (.int a t::ws) (a::ns) (.cons a t hI) (by rw[Be,Be,hl]))
theorem acf {vs:List An}{Q:SortKind->AA->Prop}(h:∀v∈vs,∃a,TP s v a)(hn:1<=vs.length)(q:Q yF s):AK (AN prog w) A (keyKind' vs.toArray) Q E s:=by
 rw[keyKind'_eq];rw[List.mapM_toArray];rw[map_eq_pure_bind];refine Ap (Ap (firstsP h fun ws ns hI hl=>AE ?_));have ha:(ws.map some).toArray.all (·.isSome)=true:=by simp
 rw[if_pos ha];have hfm:(ws.map some).toArray.filterMap id=ws.toArray:=by simp [filterMap_map]
 rw[hfm];cases ws with
 | nil=>rw[<- hl] at hn;cases hn
 | cons v ws=>
  rw[QX hI];refine Ap (HI ?_);exact Ap (AE (AE q))
structure uh (s:AA)(g:An->Int)(vs:List An):Prop where
 tk:∀v∈vs,TP s v (g v)
 nd:(vs.map g).Nodup
theorem acw {g:An->Int}{vs:List An}(h:uh s g vs):Asks prog w A E s (EX vs) fun p=>g p.1:=by
 intro st x y Q hk hx hy hne q;have h1:=h.tk x.1 (zp hx).1;have h4:=h.tk y.1 (zp hy).1;rw[lt'_eq];refine Cb (wpS_get ?_);rw[hk];refine Cb (wpS_lift (wpAny_attempt ?_));obtain⟨p,o,n,t,z,e,ho,hc,hs⟩:=h1;obtain⟨p',o',n',t',z',e',ho',hc',hs'⟩:=h4;have hab:g x.1≠g y.1:=hne;replace q:Q (some (decide (g x.1<g y.1))) st:=q;generalize g x.1=a at *;generalize g y.1=b at *;rw[e,e'];show AK _ _ (A7.List.listItems (.ref p) >>= fun xs=>A7.List.listItems (.ref p') >>= _) _ _ s;refine Ap (listItems_at ho hs ?_);refine Ap (listItems_at ho' hs' ?_);show AK _ _ (forIn [((An.int a t,An.int b t'),0),((z,z'),1)] _ _ >>= _) _ _ s;rw[forIn_cons];refine Ap (Ap (Ap (wpAny_eqBool_int ?_)));rw[beq_false_of_ne hab];exact Ap (oneLt_int (AE (AE (AE ⟨rfl,De q⟩))))
theorem uh.keep {g:An->Int}{vs:List An}{s':AA}(h:uh s g vs) (k:∀q o,s.heap.get? q=some o->o.cls=.type "tuple" -> s'.heap.get? q=some o):uh s' g vs:=
 ⟨fun v hv=>by
  obtain⟨q,o,n,t,z,e,ho,hc,hs⟩:=h.tk v hv;exact⟨q,o,n,t,z,e,k q o ho hc,hc,hs⟩,h.nd⟩
theorem aaZ {a:Addr}{vs:List An}{n:Nat}{P:Fin->AA->Prop}{g:An->Int}(ho:s.heap.get? a=some (F1 "list" vs.toArray n)) (hR:uh s g vs)
  (hlen:vs.length<64) (h:∀xs:Array An,xs.toList.Perm vs->(xs.toList.map g).Pairwise (· < ·)->P (.done (.ret .none)) { s with heap:=sortedHeap s.heap a vs xs }):AK (AN prog w) A (A7.«list.sort» ⟨[.ref a],[]⟩) P E s:=by
 rw[list_sort_plain];have la:a<s.heap.objs.size:=A3 ho;refine Ap (listItems_at ho rfl (Ap (listUpdate_at ho rfl ?_)));obtain⟨e,he⟩:∃e,(s.heap.update a (CH fun _=>#[])).get? a=some (F1 "list" #[] e):=⟨_,get?_update_seq ho fun _=>#[]⟩;refine Ap (seqEpoch_at he rfl (Ap (wpAny_newTuple (Ap (wpAny_newList (B8 ?_))))));have h6:(((s.heap.update a (CH fun _=>#[])).push (F1 "tuple" vs.toArray 0)).push (F1 "list" #[] 0)).get? a=some (F1 "list" #[] e):=by
  rw[Heap.get?_push_ne _ _ _ (by rw[size_push',size_update];exact BO (Nat.le_succ_of_le la)),Heap.get?_push_ne _ _ _ (by rw[size_update];exact BO la),he]
 have hR6:uh { s with heap:=((s.heap.update a (CH fun _=>#[])).push (F1 "tuple" vs.toArray 0)).push (F1 "list" #[] 0) } g vs:=hR.keep fun q o hq hc=>by
  have hne:q≠a:=fun z=>by
   rw[z,ho] at hq;cases hq;exact absurd (show An.type "list" = An.type "tuple" from hc) δ
  exact AF _ (AF _ ((BF _ _ (Ch hne)).trans hq))
 show AK _ A _ P E { s with heap:=((s.heap.update a (CH fun _=>#[])).push (F1 "tuple" vs.toArray 0)).push (F1 "list" #[] 0) };dsimp only;by_cases h2:(vs.toArray.size<2)
 ·rw[if_pos h2,if_pos h2];refine(Ap (AE ?_));rw[StateT.run_pure];refine Ap (AE (Ap (seqEpoch_at h6 rfl (Ap (listUpdate_at h6 rfl ?_ (hsz2:=?z))))))
  case z=>rw[Array.size_map];show(EX vs).size<=_;rw[pairsOf_size,EZ];omega
  simp only[KA,bne_self_eq_false,if_false];have e0:((vs.toArray.zip vs.toArray).map (·.2)).toList=vs:=by rw[show(vs.toArray.zip vs.toArray).map (·.2)=(EX vs).map (·.2) from rfl,CG]
  refine AE (h _ (by rw[e0]) ?_);rw[e0]
  match vs,h2 with
  | [],_=>exact .nil
  | [v],_=>exact C5 _ _
  | _::_::t,h2=>exact absurd h2 (by simp)
 rw[if_neg h2,if_neg h2];refine Ap (acf (fun v hv=>?_) (by simp at h2;omega) ?_)
 ·exact⟨_,hR6.tk v hv⟩
 refine Ap (B5 (abL (a₀:=EX vs) (f:=fun p=>g p.1) (st:=E9.mk' yF (vs.toArray.zip vs.toArray) #[] 7 none) (Q:=fun _ z=>(B2 z).toList.Perm (EX vs).toList/\IU z=none/\Asc (fun p=>g p.1) (B2 z) (EX vs).size) (acw hR6) ?nd ⟨rfl,List.Perm.refl _,rfl,rfl⟩ (by rw[pairsOf_size];simp at h2;omega) (by rw[pairsOf_size];exact hlen) fun z d1 d2 d3=>⟨d1,d2,d3⟩) ?_ fun _ _ e=>e)
 case nd=>
  have:=hR.nd;rw[<- Ou vs,GH] at this;exact this
 rintro⟨⟨⟩,z⟩ s' ⟨rfl,d1,d2,d3⟩;have hm:((B2 z).map (·.2)).toList.Perm vs:=by
  have:=d1.map (·.2);rw[<- toList_map,<- toList_map,CG] at this;exact this
 refine Ap (seqEpoch_at h6 rfl (Ap (listUpdate_at h6 rfl ?_ (hsz2:=?z))))
 case z=>
  have:=hm.length_eq;rw[Kn] at this;show((B2 z).map (·.2)).size<=_;rw[this,EZ];omega
 dsimp only;rw[d2];simp only[KA,bne_self_eq_false,if_false];exact AE (h _ hm (Qv d1 d3))
theorem Wr {l:Addr}{vs:List An}{Q:An->AA->Prop}{g:An->Int}(hl:s.heap.IsList l vs.toArray)(hR:uh s g vs)(hlen:vs.length<64)
  (h:∀xs:Array An,xs.toList.Perm vs->(xs.toList.map g).Pairwise (· < ·)->Q (.ref (s.heap.objs.size+1)) { s with heap:=sortedAll s.heap vs xs }):AK (AN prog w) A (call (.builtin "sorted") [.ref l]) Q E s:=by
 refine Calls.call_function_entry kind_sorted plain_sorted entry_sorted (args_sorted1 (.ref l)) ?_;unfold A7.«sorted»;refine Ap (m:=checkCount "sorted" 1 1 _) (AE (Ap (collect_list hl (Ap (wpAny_newList ?_)))));have hz:((s.heap.push (F1 "list" #[] 0)).update s.heap.objs.size (CH (· ++ vs.toArray))).objs.size=s.heap.objs.size+1:=size_update .. |>.trans (size_push' _ _);have hL:(((s.heap.push (F1 "list" #[] 0)).update s.heap.objs.size (CH (· ++ vs.toArray))).push (F1 "list" vs.toArray 0)).get? (s.heap.objs.size+1)=some (F1 "list" vs.toArray 0):=hz ▸ BA _ rfl;show AK (AN prog w) A.in1 _ _ E { s with heap:=((s.heap.push (F1 "list" #[] 0)).update s.heap.objs.size (CH (· ++ vs.toArray))).push (F1 "list" vs.toArray 0) };rw[hz];refine Ap (B8 (FU slot_list_sort ⟨_,hL,rfl⟩ entry_list_sort (aaZ hL (hR.keep fun q o hq hc=>?_) hlen fun xs hp ho=>⟨_,rfl,AE ⟨_,rfl,h xs hp ho⟩⟩) (args_list_sort _)));have hne:s.heap.objs.size≠q:=fun z=>by
  exact BO (A3 hq) z.symm
 exact AF _ ((BF _ _ hne).trans (AF _ hq))
end
end SRT
namespace L2
open PySem PySem.Spec PyProof.Rows
noncomputable def abN:List V->Hp->VK->Prop:=fun vs H Q=>∃(l:Addr)(ps:List Addr)(key:Addr->Int),vs=[.ref l]/\H l=some (.lst (ps.map V.ref))/\ps.length<64 /\
 (∀p∈ps,∃v,H p=some (.tup [.int (key p),v]))/\(ps.map key).Nodup /\
 ∀(d:Addr)(qs:List Addr),H d=none->qs.Perm ps->(qs.map key).Pairwise (· < ·)->Q (.ref d) (upd H d (.lst (qs.map V.ref)))
noncomputable def rkP (key:Addr->Int):An->Int
 | .ref p=>key p
 | _=>0
section
variable {X:Cx}
theorem Kv:fO X (.builtin "sorted") abN:=by
 intro pins s σ H xs us Q I rv h;obtain⟨l,ps,key,rfl,el,hl,hp,hnd,q⟩:=h;cases rv with
 | cons r rr=>
  cases rr;cases r;obtain⟨its,rl,pl,hz⟩:=I.list (SqL.of el);have e:=Cg rl;subst e;have hg:(fun v=>rkP key v)∘An.ref=key:=rfl;refine SRT.Wr (g:=rkP key) pl.isList ⟨fun v hv=>?_,?_⟩ (by rw[AI];exact hl) fun ys hy ho=>?_
  ·obtain⟨p,hm,rfl⟩:=DE.mp hv;obtain⟨v,ep⟩:=hp p hm;obtain⟨ts,rt,pt,_⟩:=I.tuple (SqT.of ep);obtain⟨ob,g1,g2,n,g3⟩:=pt;cases rt with
   | cons r1 rt=>
    cases rt with
    | cons r2 rt=>
     cases rt;obtain⟨t,rfl⟩:=r1;exact⟨p,ob,n,t,_,rfl,g1,g2,g3⟩
  ·rw[GH];exact hnd
  obtain⟨qs,e,hq⟩:=Om hy;rw[e,GH] at ho;obtain⟨n,he⟩:=sortedAll_at s.heap (ps.map An.ref) ys;have le:s.heap.objs.size<=s.heap.objs.size+1:=le_succ _;have hf:H (s.heap.objs.size+1)=none:=I.hok.fresh le;refine⟨.ref (s.heap.objs.size+1),_,I.laid (t':=s.toks) (fun c o z=>sortedAll_old z) le (show d9 X.prog X.w _ _ _ (.lst (qs.map V.ref)) from⟨aQ (by rw[AI,hq.length_eq];omega),qs.map An.ref,n,Cy qs,?_⟩),rfl,q _ qs hf hq ho⟩;rw[he];have:ys=(qs.map An.ref).toArray:=by rw[<- e]
  rw[this]
end
open PySem PySem.Spec PyProof.Rows Builtin Builtin.Str
open PySem PySem.Spec PyProof.Rows PySem.NumText
noncomputable def kw1 (n:Int) (u:Tok):List (Str×An):=[("start",.int n u)]
theorem P0 (t:Addr) (items:Array An) (n:Int) (u:Tok) (hn:A7.SmallTypes.fitsIndex n=true):Meets (A7.«enumerate.__new__» { pos:=[An.type "enumerate",An.ref t],kw:=kw1 n u }) fun _ R s=>
  s.heap.IsList t items/\R (.ok (.ret (.ref (s.heap.objs.size+1)))) { s with heap:=(s.heap.push { cls:=.type "list_iterator",data:=.fields #[.ref t,.int 0 0] }).push { cls:=.type "enumerate",data:=.fields #[.none,.bool false,.ref s.heap.objs.size,EC n,.none,.none] } }:=by
 refine Meets.of_wp fun prog w A R s h=>?_;obtain⟨ht,hR⟩:=h;unfold A7.«enumerate.__new__» A7.SmallTypes.newClass kw1;refine Ap (Ap (AE (BD rfl (Ap (B3 sub_enumerate (BD rfl (AE (DF rfl (Ap ?_)))))))));unfold A7.SmallTypes.calledThroughType;refine Ap (wpAny_stack_any fun st=>AE ?_);have fin:AK (AN prog w) A.in1 (do
   let it <- pyIter (An.ref t)
   let r <- A7.SmallTypes.newRecord (An.type "enumerate") (A7.SmallTypes.ownedTupleFields++[it,EC n,An.none,An.none])
   ret r) (fun fin s'=>∃v,fin=Fin.done (Flow.ret v)/\R (Except.ok (Flow.ret v)) s') (fun e s'=>R (Except.error e) s') s:=by
  refine Ap (D8 ht ?_);show AK _ _ (newObj (.type "enumerate") (.fields #[.none,.bool false,.ref s.heap.objs.size,EC n,.none,.none]) >>= fun r=>ret r) _ _ _;refine Ap (B6 ?_);refine AE ⟨_,rfl,?_⟩;have e:(s.heap.push { cls:=An.type "list_iterator",data:=A8 #[An.ref t,An.int 0 0] }).objs.size=s.heap.objs.size+1:=D5 ..;rw[e];exact hR
 have hf:decide ((!Builtin.SmallTypes.fitsIndex n)=true)=false:=by rw[hn];rfl
 dsimp only;split
 ·split
  ·exact Ap (AE (Ap (B3 (a:=An.int n u) rfl (Ap (B3 (a:=some n) rfl (BD hf fin))))))
  exact Ap (AE (Ap (B3 (a:=An.int n u) rfl (Ap (B3 (a:=some n) rfl (BD hf fin))))))
 split
 ·exact Ap (AE (Ap (B3 (a:=An.int n u) rfl (Ap (B3 (a:=some n) rfl (BD hf fin))))))
 exact Ap (AE (Ap (B3 (a:=An.int n u) rfl (Ap (B3 (a:=some n) rfl (BD hf fin))))))
section
variable {prog:AW}{w:BB}{A:Bi}{E:An->AA->Prop}{s:AA}
theorem Uh {T nid:String}{self:An}{rest:List An}{kw:List (Str×An)}(hl:GM (.type T) "__init__" = pure (some (.builtin "object.__init__")))
  (hm:Bind.madeBy (.type T)=pure (some nid)) (hne:(some nid != some "object.__new__")=true) :
  Meets (A7.«object.__init__» ⟨self::rest,kw⟩) (fun _ R s=>s.TypeIs self T/\R (.ok (.ret .none)) s):=by
 refine Meets.of_wp fun prog w A R s hs=>?_;obtain⟨hT,hq⟩:=hs;cases rest <;> cases kw <;> repeat (any_goals (first|assumption|wp_step))
 all_goals exact⟨_,rfl,hq⟩
theorem Ii {T newId:String}{Bn:A7}{us:List An}{kw:List (Str×An)}{S:Ev}{Q:An->AA->Prop}(ft:TypeCalled T newId "object.__init__")
  (hne:(some newId != some "object.__new__")=true) (hct:checkTypeCall T ⟨us,kw⟩=pure ()) (hcn:checkBuiltinCall newId ⟨.type T::us,kw⟩=pure ())
  (hok:∀obj,argsOk "object.__init__" ⟨obj::us,kw⟩) (en:entryFor table newId=some Bn) (g:Meets (Bn ⟨.type T::us,kw⟩) S)
  (h:S A.in1 (wants (fun obj s₁=>s₁.TypeIs obj T/\Q obj s₁) E) s):AK (AN prog w) A (call (.type T) us kw) Q E s:=by
 obtain⟨c,tl,hmro⟩:=ft.mro;have hmade:=ft.made;have hsub:=ft.sub;refine GL (codeAny_of_tree ?_);show AK (AN prog w) _ (callAny (.type T) _) _ _ _;refine AE (AB (D0 _ ψ) (IB F.entry_type_call ?_));rw[Bi.under_plain (weight_type_call_type T us kw) (units_type_call_type T us kw)];have h1:=ft.notType;have h2:=ft.canCreate
 repeat (any_goals (first|assumption|wp_step))
 refine GB (E8 ft.plain en (B3 hcn (g prog w A.in1 _ s h))) fun z s1 hz=>?_;rcases z with e|fl
 ·exact hz
 cases fl with
 | ret o=>
  obtain⟨hT,hq⟩:=hz;have hli:=ft.init.lookup;have hbi:=ft.init.bind o
  repeat (any_goals (first|assumption|wp_step))
  refine GB (E8 ft.init.plain F.entry_object_init (ft.init.check _ _ _ _ _ _ _ _ hT (hok o) (Uh ft.init.lookup ft.made hne prog w A.in1 (wants (fun r s2=>r=.none/\Q o s2) E) s1 ⟨hT,rfl,hq⟩))) fun z2 s2 hz2=>?_;rcases z2 with e|fl2
  ·exact hz2
  cases fl2 with
  | ret r=>
   obtain⟨rfl,hq2⟩:=hz2
   repeat (any_goals (first|assumption|wp_step))
  | _=>exact hz2.elim
 | _=>exact hz.elim
theorem Vx {l:Addr}{items:Array An}{n:Int}{u:Tok}(hn:A7.SmallTypes.fitsIndex n=true){Q:An->AA->Prop}(hL:s.heap.IsList l items)
  (h:∀h',He h' (s.heap.objs.size+1) s.heap.objs.size n .none->h'.IsListIter s.heap.objs.size l 0->(∀b o,s.heap.get? b=some o->h'.get? b=some o)->Q (.ref (s.heap.objs.size+1)) { s with heap:=h' }) :
  AK (AN prog w) A (call (.type "enumerate") [.ref l] (kw1 n u)) Q E s:=by
 refine Ii F.called_enumerate δ ?_ ?_ ?_ F.entry_enumerate_new (P0 l items n u hn) ⟨hL,?_⟩
 ·kernel_rfl
 ·kernel_rfl
 ·intro o;unfold argsOk;rw[signature?_of (n := "__tini__".toList) (o := "tcejbo".toList) (by kernel_rfl) F.owner_object]
  kernel_rfl
 have hz:(s.heap.push { cls:=An.type "list_iterator",data:=A8 #[An.ref l,An.int 0 0] }).objs.size=s.heap.objs.size+1:=D5 ..;have b1:((s.heap.push { cls:=An.type "list_iterator",data:=A8 #[An.ref l,An.int 0 0] }).push { cls:=An.type "enumerate",data:=A8 #[An.none,An.bool false,An.ref s.heap.objs.size,EC n,An.none,An.none] }).get? (s.heap.objs.size+1)=some { cls:=An.type "enumerate",data:=A8 #[An.none,An.bool false,An.ref s.heap.objs.size,EC n,An.none,An.none] }:=by
  rw[<- hz];exact BA _ rfl
 exact⟨⟨_,b1,rfl⟩,h _ b1 ⟨_,AF _ (BA _ rfl),rfl,rfl⟩ fun b o z=>AF _ (AF _ z)⟩
end
theorem Vr {M:Kk}{A:Bi}{E:An->AA->Prop}{s:AA}{env:Env}{pos:Pos}{T:String}{e:Expr}{es:List Expr}{kws:List FC}{Q:An->AA->Prop}
  (h:AK M A (spliced (CA pos (AJ (e::es) env))) (fun vs s1=>AK M A (evalAll ((EE pos (C6 kws env)).map (·.2)))
   (fun ws s2=>AK M A (call (.type T) vs (((EE pos (C6 kws env)).filterMap (·.1)).zip ws)) Q E s2) E s1) E s)
  (he:CA pos (AJ (e::es) env)=(false,eval e env)::CA pos (AJ es env)) (hp:(CA pos (AJ (e::es) env)).any (·.1)=false)
  (ha:(EE pos (C6 kws env)).all (·.1.isSome)=true) (hk:(EE pos (C6 kws env)).any (·.1.isNone)=false) :
  AK M A (callWith pos (.type T) [] (CA pos (AJ (e::es) env)) (EE pos (C6 kws env))) Q E s:=by
 unfold callWith;have h1:AK M A (evalArgs (.type T) true (CA pos (AJ (e::es) env)) (EE pos (C6 kws env))) (fun a s2=>AK M A (call (.type T) a.pos a.kw) Q E s2) E s:=by
  rw[he] at h |-;exact evalArgs_kwB ha h
 refine Ap (B8 (B5 h1 (fun a s1 h2=>Ap (Ex ?_)) fun _ _ x=>x));simp only[hp,hk,Bool.or_false];exact Ap (AE (Ap (B5 h2 (fun r s2 hr=>Ap (B8 (wpAny_point (AE hr)))) fun _ _ x=>x)))
section
variable {prog:AW}{w:BB}{A:Bi}{E:An->AA->Prop}{s:AA}
theorem Kr {e it:Addr}{fp:List Addr}{m i:Nat}{c:Int}{P:Nat->An->Prop}{Z:Nat->Heap->Prop}{ol:An}{Q:An->AA->Prop}(D:Draws prog w A it fp m P Z)(he:He s.heap e it c ol)(hz:Z i s.heap)(hi:i<m)(ne:e≠it)(nf:e∉fp)
  (q:∀x h' tk,P i x->IsEnumOut h' e it (c+1) x s.heap.objs.size->Z (i+1) h'->h'.get? s.heap.objs.size=some { cls:=.type "tuple",data:=.seq #[.int c tk,x] }->h'.objs.size=s.heap.objs.size+1->(∀b o,b≠e->b≠it->s.heap.get? b=some o->h'.get? b=some o)->Q (.ref s.heap.objs.size) { s with heap:=h',toks:=tk+1 }) :
  AK (AN prog w) A (A7.«enumerate.__next__» ⟨[.ref e],[]⟩) (fun fin s'=>∃v,fin=.done (.ret v)/\Q v s') E s:=by
 obtain⟨hp,g,d,tk0,os⟩:=s;show AK _ _ (field (.ref e) 2 >>= fun a=>_) _ _ _;refine Ap (B7 he rfl (x:=.ref it) rfl (Ap (D.item i _ _ _ hi hz fun x ha tk px za sa=>?_)));have sa:C2 it hp ha:=sa;have ea:He ha e it c ol:=(sa.2 e ne).trans he;show AK _ _ (field (.ref e) 3 >>= fun a=>_) _ _ ⟨ha,g,d,tk,os⟩;refine Ap (B7 ea rfl (x:=EC c) rfl ?_);show AK _ _ (field (.ref e) 4 >>= fun a=>_) _ _ ⟨ha,g,d,tk,os⟩;refine Ap (B7 ea rfl (x:=.none) rfl ?_);show AK _ _ (mkInt c >>= fun a=>_) _ _ ⟨ha,g,d,tk,os⟩;refine Ap (wpAny_mkInt ?_);show AK _ _ (setField (.ref e) 3 (EC (c+1)) >>= fun a=>_) _ _ ⟨ha,g,d,tk+1,os⟩;refine Ap (CM ea (by simp) fun hb eb sb=>?_);have sb:C2 e ha hb:=sb;have eb:He hb e it (c+1) ol:=eb;show AK _ _ (setField (.ref e) 4 .none >>= fun a=>_) _ _ ⟨hb,g,d,tk+1,os⟩;refine Ap (CM eb (by simp) fun hc ec sc=>?_);have sc:C2 e hb hc:=sc;have ec:He hc e it (c+1) ol:=ec;show AK _ _ (newTuple [.int c tk,x] >>= fun a=>_) _ _ ⟨hc,g,d,tk+1,os⟩;refine Ap (wpAny_newTuple ?_);have z3:hc.objs.size=hp.objs.size:=(sc.1.trans sb.1).trans sa.1;have lt:e<hp.objs.size:=A3 he;obtain⟨hd,ehd⟩:∃hd,hd=hc.push { cls:=.type "tuple",data:=.seq #[.int c tk,x] }:=⟨_,rfl⟩;have ed:He hd e it (c+1) ol:=by rw[ehd];exact AF _ ec
 have td:hd.get? hp.objs.size=some { cls:=.type "tuple",data:=.seq #[.int c tk,x] }:=by rw[ehd,<- z3];exact BA _ rfl
 have zd:hd.objs.size=hp.objs.size+1:=by rw[ehd,D5,z3]
 have up:∀b o,b≠e->ha.get? b=some o->hd.get? b=some o:=fun b o n y=>by rw[ehd];exact AF _ (sc.extBut b o n (sb.extBut b o n y))
 have Zd:Z (i+1) hd:=D.frame _ _ _ za fun b mb o y=>up b o (fun z=>nf (z ▸ mb)) y;show AK _ _ (A7.SmallTypes.ownedTupleIsFree (.ref e) >>= fun a=>_) _ _ ⟨hc.push _,g,d,tk+1,os⟩;rw[z3,<- ehd];refine Ap ?_;unfold A7.SmallTypes.ownedTupleIsFree;refine Ap (B7 ed rfl (x:=.none) rfl (AE ?_));simp only[if_true];refine Ap (HI (Ap (B7 ed rfl (x:=ol) rfl (Ap (CM ed (by simp) fun he5 e5 s5=>?_)))));have s5:C2 e hd he5:=s5;have e5:He he5 e it (c+1) x:=e5;show AK _ _ (A7.SmallTypes.ownedTupleHandOut (.ref e) (.ref hp.objs.size) >>= fun a=>_) _ _ ⟨he5,g,d,tk+1,os⟩;refine Ap ?_;unfold A7.SmallTypes.ownedTupleHandOut;refine Ap (CM e5 (by simp) fun h6 e6 s6=>?_);have s6:C2 e he5 h6:=s6;have e6:IsEnumOut h6 e it (c+1) x hp.objs.size:=e6;refine CM e6 (by simp) fun h7 e7 s7=>?_;have s7:C2 e h6 h7:=s7;have e7:IsEnumOut h7 e it (c+1) x hp.objs.size:=e7;have up2:∀b o,b≠e->hd.get? b=some o->h7.get? b=some o:=fun b o n y=>s7.extBut b o n (s6.extBut b o n (s5.extBut b o n y));refine Ap (IQ (AE ⟨_,rfl,q x h7 tk px e7 (D.frame _ _ _ Zd fun b mb o y=>up2 b o (fun z=>nf (z ▸ mb)) y) (up2 _ _ (ne_of_gt lt) td) (by rw[s7.1,s6.1,s5.1,zd]) fun b o n1 n2 y=>up2 b o n1 (up b o n1 (sa.extBut b o n2 y))⟩))
theorem LQ {e it:Addr}{fp:List Addr}{m i:Nat}{c:Int}{P:Nat->An->Prop}{Z:Nat->Heap->Prop}{ol:An}{Q:Option An->AA->Prop}(D:Draws prog w A.in1 it fp m P Z)(he:He s.heap e it c ol)(hz:Z i s.heap)(hi:i<m)(ne:e≠it)(nf:e∉fp)
  (q:∀x h' tk,P i x->IsEnumOut h' e it (c+1) x s.heap.objs.size->Z (i+1) h'->h'.get? s.heap.objs.size=some { cls:=.type "tuple",data:=.seq #[.int c tk,x] }->h'.objs.size=s.heap.objs.size+1->(∀b o,b≠e->b≠it->s.heap.get? b=some o->h'.get? b=some o)->Q (some (.ref s.heap.objs.size)) { s with heap:=h',toks:=tk+1 }) :
  AK (AN prog w) A (pyNext (.ref e)) Q E s:=by
 have hT:s.TypeIs (.ref e) "enumerate" := ⟨_,he,rfl⟩;unfold pyNext;exact Ap (wpAny_attempt (Fm (name:=HM "__next__") hT F.slot_enumerate_next (FU F.slot_enumerate_next hT F.entry_enumerate_next (Kr D he hz hi ne nf fun x h' tk a b c d k r=>AE (q x h' tk a b c d k r)) (F.args_enumerate_next_1 _))))
end
noncomputable def Izl (K:AD)(k:Int)(a:Addr):It:=
 ⟨fun i H=>∃xs x,SqL K H a xs/\xs[i]?=some x,
  fun i H v H'=>∃p x,v=.ref p/\H p=none/\H'=upd H p (.tup [.int (k+i),x])/\∀xs,SqL K H a xs->xs[i]?=some x,
  fun i H=>∃xs,SqL K H a xs/\xs.length=i⟩
noncomputable def Izt (K:AD)(k:Int)(a:Addr):It:=
 ⟨fun i H=>∃xs x,SqT K H a xs/\xs[i]?=some x,
  fun i H v H'=>∃p x,v=.ref p/\H p=none/\H'=upd H p (.tup [.int (k+i),x])/\∀xs,SqT K H a xs->xs[i]?=some x,
  fun i H=>∃xs,SqT K H a xs/\xs.length=i⟩
theorem Jd {P:AW}{w:BB}{K:AD}{es:List Expr}{kk:Nat}{k:Int}{tpos:Pos}{e it l:Addr}(hne:e≠it) :
  Turn P w K (.Tuple es kk tpos) (Izl K k l) [e,it] e (fun i h=>(∃old,He h e it (k+i) old)/\h.IsListIter it l i) where
 mem:=by simp
 obj:=fun i h st b hb=>by
  obtain⟨⟨old,he⟩,⟨o1,e1,c1,d1⟩⟩:=st;simp only[AO,BE,or_false] at hb;rcases hb with rfl|rfl
  ·exact⟨_,he,fun v q=>by cases q⟩
  exact⟨o1,e1,fun v q=>by rw[d1] at q;cases q⟩
 keep:=fun i h h' st k=>by
  obtain⟨⟨old,he⟩,h1⟩:=st;exact⟨⟨old,k e (by simp) _ he⟩,h1.at fun o q=>k it (by simp) o q⟩
 item:=by
  intro X hP hw hK hc i pins s σ H E I hf st hg;subst hP hw hK;obtain⟨xs,x,q1,hx⟩:=hg;obtain⟨its1,rv1,p1,hz1⟩:=I.list q1;obtain⟨u1,hu1,ru1⟩:=rv1.get hx;obtain⟨⟨old,he⟩,h1⟩:=st;have hL:=p1.isList;have hel:e≠l:=fun z=>by
   obtain⟨ol,g1,g2,_⟩:=hL;rw[<- z,he] at g1;cases g1;injection g2 with g2;exact absurd g2 δ
  have hil:l≠it:=fun z=>by
   obtain⟨ol,g1,g2,_⟩:=hL;obtain⟨oi,g3,g4,_⟩:=h1;rw[z,g3] at g1;cases g1;rw[g4] at g2;injection g2 with g2;exact absurd g2 δ
  have hsz1:i<its1.toArray.size:=by
   obtain⟨z,_⟩:=AG.mp hu1;simpa using z
  refine LQ (Draws.list (A:=X.A.in1) (I.ok.hd hc) it l hil its1.toArray) he ⟨h1,hL⟩ hsz1 hne (by simp [hne,hel]) fun x1 h' tk hP a1 a2 a3 a4 hk=>?_;have ex:x1=u1:=by
   have hP':its1[i]?=some x1:=by simpa using hP
   rw[hu1] at hP';exact(AV hP').symm
  subst ex;obtain⟨a2,_⟩:=a2;have new:d9 X.prog X.w (upd H s.heap.objs.size (.tup [.int (k+i),x])) h' s.heap.objs.size (.tup [.int (k+i),x]):=⟨by show 2<=AQ;decide,[.int (k+i) tk,x1],.cons ⟨_,rfl⟩ (.cons ru1 .nil),_,a3,rfl,_,rfl⟩;have I1:Inv X pins σ (upd H s.heap.objs.size (.tup [.int (k+i),x])) { s with heap:=h',toks:=tk+1 }:=I.K3 (ch:=[e,it]) hf
   (fun b o hb q=>hk b o (fun z=>hb (by simp [z])) (fun z=>hb (by simp [z])) q) (A6 _) new
  have hsz:∀b,b∈[e,it]->b≠s.heap.objs.size:=fun b hb=>by
   have lt:∃o,s.heap.get? b=some o:=by
    simp only[AO,BE,or_false] at hb;rcases hb with rfl|rfl
    ·exact⟨_,he⟩
    obtain⟨o,q,_⟩:=h1;exact⟨o,q⟩
   obtain⟨o,q⟩:=lt;exact BO (A3 q)
  refine⟨_,rfl,GS (s:={ s with heap:=h',toks:=tk+1 }) a1 fun h'' z2 sb=>?_⟩;have fz:=hf e (by simp);have I2:Inv X pins σ (upd H s.heap.objs.size (.tup [.int (k+i),x])) { s with heap:=h'',toks:=tk+1 }:=Inv.turned (s:={ s with heap:=h',toks:=tk+1 }) (it:=e) I1 (fun b o hb q=>(sb.2 b hb).trans q) (by rw[aH (hsz e (by simp))];exact fz.1) fz.2.1 fz.2.2.2.1 fz.2.2.2.2.1 fz.2.2.2.2.2;have e3:k+(i:Int)+1=k+((i+1:Nat):Int):=ω;refine⟨.ref s.heap.objs.size,_,I2,rfl,⟨_,x,rfl,I.fresh,rfl,fun xs' q=>by rw[I.qu q q1];exact hx⟩,
   ⟨⟨_,e3 ▸ z2⟩,a2.extBut sb.extBut hne.symm⟩,fun b hb=>by rw[aH (hsz b hb)];exact(hf b hb).1⟩
 done:=by
  intro X hP hw hK hc i pins s σ H E I hf st hg;subst hP hw hK;obtain⟨xs,q1,hx⟩:=hg;obtain⟨its1,rv1,p1,hz1⟩:=I.list q1;obtain⟨⟨old,he⟩,h1⟩:=st;have hL:=p1.isList;have hil:l≠it:=fun z=>by
   obtain⟨ol,g1,g2,_⟩:=hL;obtain⟨oi,g3,g4,_⟩:=h1;rw[z,g3] at g1;cases g1;rw[g4] at g2;injection g2 with g2;exact absurd g2 δ
  have hl1:=rv1.length;have hsi:its1.toArray.size=i:=by rw[AZ];omega
  exact wpAny_pyNext_enum_endD (Draws.list (A:=X.A.in1) (I.ok.hd hc) it l hil its1.toArray) he (by rw[hsi];exact⟨h1,hL⟩) fun h' hk=>⟨rfl,I.K4 (t':=s.toks) (ch:=[e,it]) hf (fun b o hb q=>hk b o (fun z=>hb (by simp [z])) q)⟩
 self:=fun _ _ _ _ _ st h=>by
  obtain⟨⟨old,he⟩,_⟩:=st;exact EW he h
theorem Je {P:AW}{w:BB}{K:AD}{es:List Expr}{kk:Nat}{k:Int}{tpos:Pos}{e it l:Addr}(hne:e≠it) :
  Turn P w K (.Tuple es kk tpos) (Izt K k l) [e,it] e (fun i h=>(∃old,He h e it (k+i) old)/\h.IsTupleIter it l i) where
 mem:=by simp
 obj:=fun i h st b hb=>by
  obtain⟨⟨old,he⟩,⟨o1,e1,c1,d1⟩⟩:=st;simp only[AO,BE,or_false] at hb;rcases hb with rfl|rfl
  ·exact⟨_,he,fun v q=>by cases q⟩
  exact⟨o1,e1,fun v q=>by rw[d1] at q;cases q⟩
 keep:=fun i h h' st k=>by
  obtain⟨⟨old,he⟩,h1⟩:=st;exact⟨⟨old,k e (by simp) _ he⟩,h1.at fun o q=>k it (by simp) o q⟩
 item:=by
  intro X hP hw hK hc i pins s σ H E I hf st hg;subst hP hw hK;obtain⟨xs,x,q1,hx⟩:=hg;obtain⟨its1,rv1,p1,hz1⟩:=I.tuple q1;obtain⟨u1,hu1,ru1⟩:=rv1.get hx;obtain⟨⟨old,he⟩,h1⟩:=st;have hel:e≠l:=fun z=>by
   obtain⟨ol,g1,g2,_⟩:=p1;rw[<- z,he] at g1;cases g1;injection g2 with g2;exact absurd g2 δ
  have hil:l≠it:=fun z=>by
   obtain⟨ol,g1,g2,_⟩:=p1;obtain⟨oi,g3,g4,_⟩:=h1;rw[z,g3] at g1;cases g1;rw[g4] at g2;injection g2 with g2;exact absurd g2 δ
  have hsz1:i<its1.toArray.size:=by
   obtain⟨z,_⟩:=AG.mp hu1;simpa using z
  refine LQ (xX (A:=X.A.in1) (I.ok.hd hc) it l hil its1.toArray) he ⟨h1,p1⟩ hsz1 hne (by simp [hne,hel]) fun x1 h' tk hP a1 a2 a3 a4 hk=>?_;have ex:x1=u1:=by
   have hP':its1[i]?=some x1:=by simpa using hP
   rw[hu1] at hP';exact(AV hP').symm
  subst ex;obtain⟨a2,_⟩:=a2;have new:d9 X.prog X.w (upd H s.heap.objs.size (.tup [.int (k+i),x])) h' s.heap.objs.size (.tup [.int (k+i),x]):=⟨by show 2<=AQ;decide,[.int (k+i) tk,x1],.cons ⟨_,rfl⟩ (.cons ru1 .nil),_,a3,rfl,_,rfl⟩;have I1:Inv X pins σ (upd H s.heap.objs.size (.tup [.int (k+i),x])) { s with heap:=h',toks:=tk+1 }:=I.K3 (ch:=[e,it]) hf
   (fun b o hb q=>hk b o (fun z=>hb (by simp [z])) (fun z=>hb (by simp [z])) q) (A6 _) new
  have hsz:∀b,b∈[e,it]->b≠s.heap.objs.size:=fun b hb=>by
   have lt:∃o,s.heap.get? b=some o:=by
    simp only[AO,BE,or_false] at hb;rcases hb with rfl|rfl
    ·exact⟨_,he⟩
    obtain⟨o,q,_⟩:=h1;exact⟨o,q⟩
   obtain⟨o,q⟩:=lt;exact BO (A3 q)
  refine⟨_,rfl,GS (s:={ s with heap:=h',toks:=tk+1 }) a1 fun h'' z2 sb=>?_⟩;have fz:=hf e (by simp);have I2:Inv X pins σ (upd H s.heap.objs.size (.tup [.int (k+i),x])) { s with heap:=h'',toks:=tk+1 }:=Inv.turned (s:={ s with heap:=h',toks:=tk+1 }) (it:=e) I1 (fun b o hb q=>(sb.2 b hb).trans q) (by rw[aH (hsz e (by simp))];exact fz.1) fz.2.1 fz.2.2.2.1 fz.2.2.2.2.1 fz.2.2.2.2.2;have e3:k+(i:Int)+1=k+((i+1:Nat):Int):=ω;refine⟨.ref s.heap.objs.size,_,I2,rfl,⟨_,x,rfl,I.fresh,rfl,fun xs' q=>by rw[I.Cj q q1];exact hx⟩,
   ⟨⟨_,e3 ▸ z2⟩,a2.extBut sb.extBut hne.symm⟩,fun b hb=>by rw[aH (hsz b hb)];exact(hf b hb).1⟩
 done:=by
  intro X hP hw hK hc i pins s σ H E I hf st hg;subst hP hw hK;obtain⟨xs,q1,hx⟩:=hg;obtain⟨its1,rv1,p1,hz1⟩:=I.tuple q1;obtain⟨⟨old,he⟩,h1⟩:=st;have hil:l≠it:=fun z=>by
   obtain⟨ol,g1,g2,_⟩:=p1;obtain⟨oi,g3,g4,_⟩:=h1;rw[z,g3] at g1;cases g1;rw[g4] at g2;injection g2 with g2;exact absurd g2 δ
  have hl1:=rv1.length;have hsi:its1.toArray.size=i:=by rw[AZ];omega
  exact wpAny_pyNext_enum_endD (xX (A:=X.A.in1) (I.ok.hd hc) it l hil its1.toArray) he (by rw[hsi];exact⟨h1,p1⟩) fun h' hk=>⟨rfl,I.K4 (t':=s.toks) (ch:=[e,it]) hf (fun b o hb q=>hk b o (fun z=>hb (by simp [z])) q)⟩
 self:=fun _ _ _ _ _ st h=>by
  obtain⟨⟨old,he⟩,_⟩:=st;exact EW he h
theorem PX (t:Addr) (items:Array An) (n:Int) (u:Tok) (hn:A7.SmallTypes.fitsIndex n=true):Meets (A7.«enumerate.__new__» { pos:=[An.type "enumerate",An.ref t],kw:=kw1 n u }) fun _ R s=>
  s.heap.IsTuple t items/\R (.ok (.ret (.ref (s.heap.objs.size+1)))) { s with heap:=(s.heap.push { cls:=.type "tuple_iterator",data:=.fields #[.ref t,.int 0 0] }).push { cls:=.type "enumerate",data:=.fields #[.none,.bool false,.ref s.heap.objs.size,EC n,.none,.none] } }:=by
 refine Meets.of_wp fun prog w A R s h=>?_;obtain⟨ht,hR⟩:=h;unfold A7.«enumerate.__new__» A7.SmallTypes.newClass kw1;refine Ap (Ap (AE (BD rfl (Ap (B3 sub_enumerate (BD rfl (AE (DF rfl (Ap ?_)))))))));unfold A7.SmallTypes.calledThroughType;refine Ap (wpAny_stack_any fun st=>AE ?_);have fin:AK (AN prog w) A.in1 (do
   let it <- pyIter (An.ref t)
   let r <- A7.SmallTypes.newRecord (An.type "enumerate") (A7.SmallTypes.ownedTupleFields++[it,EC n,An.none,An.none])
   ret r) (fun fin s'=>∃v,fin=Fin.done (Flow.ret v)/\R (Except.ok (Flow.ret v)) s') (fun e s'=>R (Except.error e) s') s:=by
  refine Ap (GU ht ?_);show AK _ _ (newObj (.type "enumerate") (.fields #[.none,.bool false,.ref s.heap.objs.size,EC n,.none,.none]) >>= fun r=>ret r) _ _ _;refine Ap (B6 ?_);refine AE ⟨_,rfl,?_⟩;have e:(s.heap.push { cls:=An.type "tuple_iterator",data:=A8 #[An.ref t,An.int 0 0] }).objs.size=s.heap.objs.size+1:=D5 ..;rw[e];exact hR
 have hf:decide ((!Builtin.SmallTypes.fitsIndex n)=true)=false:=by rw[hn];rfl
 dsimp only;split
 ·split
  ·exact Ap (AE (Ap (B3 (a:=An.int n u) rfl (Ap (B3 (a:=some n) rfl (BD hf fin))))))
  exact Ap (AE (Ap (B3 (a:=An.int n u) rfl (Ap (B3 (a:=some n) rfl (BD hf fin))))))
 split
 ·exact Ap (AE (Ap (B3 (a:=An.int n u) rfl (Ap (B3 (a:=some n) rfl (BD hf fin))))))
 exact Ap (AE (Ap (B3 (a:=An.int n u) rfl (Ap (B3 (a:=some n) rfl (BD hf fin))))))
section
variable {prog:AW}{w:BB}{A:Bi}{E:An->AA->Prop}{s:AA}
theorem Vw {l:Addr}{items:Array An}{n:Int}{u:Tok}(hn:A7.SmallTypes.fitsIndex n=true){Q:An->AA->Prop}(hL:s.heap.IsTuple l items)
  (h:∀h',He h' (s.heap.objs.size+1) s.heap.objs.size n .none->h'.IsTupleIter s.heap.objs.size l 0->(∀b o,s.heap.get? b=some o->h'.get? b=some o)->Q (.ref (s.heap.objs.size+1)) { s with heap:=h' }) :
  AK (AN prog w) A (call (.type "enumerate") [.ref l] (kw1 n u)) Q E s:=by
 refine Ii F.called_enumerate δ ?_ ?_ ?_ F.entry_enumerate_new (PX l items n u hn) ⟨hL,?_⟩
 ·kernel_rfl
 ·kernel_rfl
 ·intro o;unfold argsOk;rw[signature?_of (n := "__tini__".toList) (o := "tcejbo".toList) (by kernel_rfl) F.owner_object]
  kernel_rfl
 have hz:(s.heap.push { cls:=An.type "tuple_iterator",data:=A8 #[An.ref l,An.int 0 0] }).objs.size=s.heap.objs.size+1:=D5 ..;have b1:((s.heap.push { cls:=An.type "tuple_iterator",data:=A8 #[An.ref l,An.int 0 0] }).push { cls:=An.type "enumerate",data:=A8 #[An.none,An.bool false,An.ref s.heap.objs.size,EC n,An.none,An.none] }).get? (s.heap.objs.size+1)=some { cls:=An.type "enumerate",data:=A8 #[An.none,An.bool false,An.ref s.heap.objs.size,EC n,An.none,An.none] }:=by
  rw[<- hz];exact BA _ rfl
 exact⟨⟨_,b1,rfl⟩,h _ b1 ⟨_,AF _ (BA _ rfl),rfl,rfl⟩ fun b o z=>AF _ (AF _ z)⟩
end
noncomputable def ezq (K:AD)(ob:Option HO)(k:Int)(a:Addr)(H:Hp)(R:It->Hp->Prop):Prop:=match ob with
 | some (.lst _)=>R (Izl K k a) H
 | some (.tup _)=>R (Izt K k a) H
 | _=>False
noncomputable def ezK (K:AD)(vs zs:List V)(H:Hp)(R:It->Hp->Prop):Prop:=match vs,zs with
 | [.ref a],[.int n]=>-(2^63)<=n/\n<2^63/\ezq K (H a) n a H R
 | _,_=>False
noncomputable def J8 (K:AD)(ta tk:TA):TI:=fun σ H R=>ta σ H fun vs H1=>tk σ H1 fun zs H2=>ezK K vs zs H2 R
theorem Px (K:AD)(ta tk:TA)(σ:St)(H:Hp)(R:It->Hp->Prop):J8 K ta tk σ H R=ta σ H fun vs H1=>tk σ H1 fun zs H2=>ezK K vs zs H2 R:=rfl
theorem YQ (K:AD)(a:Addr)(n:Int)(H:Hp)(R:It->Hp->Prop):ezK K [.ref a] [.int n] H R=(-(2^63)<=n/\n<2^63/\ezq K (H a) n a H R):=rfl
theorem YM (K:AD)(xs:List V)(k:Int)(a:Addr)(H:Hp)(R:It->Hp->Prop):ezq K (some (.lst xs)) k a H R=R (Izl K k a) H:=rfl
theorem YL (K:AD)(xs:List V)(k:Int)(a:Addr)(H:Hp)(R:It->Hp->Prop):ezq K (some (.tup xs)) k a H R=R (Izt K k a) H:=rfl
noncomputable def rdZ:=AB @Px (AB @YQ (AB @YM @YL))
section
variable {X:Cx}
theorem Ti {es:List Expr}{kk:Nat}{tpos:Pos}{a e:Expr}{ta tk:TA}{p pos kp:Pos}(hg:Gl X "enumerate") (hm:X.mg "enumerate" = none) (ha:PA X [a] ta) (hk:PK X [⟨some "start",e,kp⟩] tk) (hs:AJ [a] X.env=[(false,eval a X.env)]:=by rfl) :
  PI X (.Tuple es kk tpos) (.Call (.Name "enumerate" p) [a] [⟨some "start",e,kp⟩] pos) (J8 X.K ta tk):=by
 intro pins s σ H R I h;refine EM (mH I hg hm PyProof.Rows.Boot.«enumerate» (Vr (thA (ha pos pins s σ H _ I h) fun us s1 vs H1 I1 r1 q1=>thn (hk pos pins s1 σ H1 _ I1 q1) fun ws s2 ⟨zs,H2,I2,r2,q2⟩=>?_) (by rw[hs];rfl) (by rw[hs];rfl) rfl rfl));show AK _ _ (call (.type "enumerate") us ((["start"]:List Str).zip ws)) _ _ _;replace q2:ezK X.K vs zs H2 R:=q2;unfold ezK at q2;split at q2
 ·rename_i l1 n zz;obtain⟨h0,hn,q2⟩:=q2;cases r1 with
  | cons r rr=>
   cases rr;cases r;cases r2 with
   | cons r rr=>
    cases rr;obtain⟨u,rfl⟩:=r;unfold ezq at q2;split at q2
    ·rename_i xs e;obtain⟨its1,rv1,p1,hz1⟩:=I2.list (SqL.of e);have hfi:A7.SmallTypes.fitsIndex n=true:=by
      unfold A7.SmallTypes.fitsIndex;simp only[Cc,decide_eq_true_eq];omega
     refine Vx (u:=u) hfi p1.isList fun h' b1 b2 hk=>?_;refine EW (s:={ s2 with heap:=h' }) b1 ?_;have I3:Inv X pins σ H2 { s2 with heap:=h' }:=I2.kept (t':=s2.toks) hk;have en:n=n+((0:Nat):Int):=ω;refine⟨_,_,_,_,H2,rfl,I3,Jd (ne_of_gt (Db _)),⟨⟨_,en ▸ b1⟩,b2⟩,fun b hb=>?_,q2⟩;have hle:s2.heap.objs.size<=b:=by
      simp only[AO,BE,or_false] at hb;rcases hb with rfl|rfl <;> simp
     exact I2.HW hle (I2.hok.fresh hle)
    ·rename_i xs e;obtain⟨its1,rv1,p1,hz1⟩:=I2.tuple (SqT.of e);have hfi:A7.SmallTypes.fitsIndex n=true:=by
      unfold A7.SmallTypes.fitsIndex;simp only[Cc,decide_eq_true_eq];omega
     refine Vw (u:=u) hfi p1 fun h' b1 b2 hk=>?_;refine EW (s:={ s2 with heap:=h' }) b1 ?_;have I3:Inv X pins σ H2 { s2 with heap:=h' }:=I2.kept (t':=s2.toks) hk;have en:n=n+((0:Nat):Int):=ω;refine⟨_,_,_,_,H2,rfl,I3,Je (ne_of_gt (Db _)),⟨⟨_,en ▸ b1⟩,b2⟩,fun b hb=>?_,q2⟩;have hle:s2.heap.objs.size<=b:=by
      simp only[AO,BE,or_false] at hb;rcases hb with rfl|rfl <;> simp
     exact I2.HW hle (I2.hok.fresh hle)
    exact q2.elim
 exact q2.elim
theorem SJ {es:List Expr}{kk:Nat}{tpos:Pos}{a e:Expr}{ta tk:TA}{p pos kp:Pos}(hg:Gl X "enumerate") (hm:X.mg "enumerate" = none) (ha:QA X [a] ta) (hk:PK X [⟨some "start",e,kp⟩] tk) (hs:AJ [a] X.env=[(false,eval a X.env)]:=by rfl) :
  QI X (.Tuple es kk tpos) (.Call (.Name "enumerate" p) [a] [⟨some "start",e,kp⟩] pos) (J8 X.K ta tk):=⟨Ti hg hm ha.h hk hs⟩
end
noncomputable def cov (xs:List (Int×Int))(n:Int):Prop:=∃s,s∈xs/\s.1<=n/\n<=s.2
theorem FT {n:Int}:¬cov [] n:=fun⟨s,m,_⟩=>by cases m
theorem lV {xs ys:List (Int×Int)}{n:Int}:cov (xs++ys) n↔cov xs n\/cov ys n:=by
 constructor
 ·rintro⟨s,m,h⟩;rcases BC.mp m with m|m
  ·exact .inl ⟨s,m,h⟩
  exact .inr ⟨s,m,h⟩
 rintro(⟨s,m,h⟩|⟨s,m,h⟩)
 ·exact⟨s,BG _ m,h⟩
 exact⟨s,A0 _ m,h⟩
theorem vL {s:Int×Int}{n:Int}:cov [s] n↔s.1<=n/\n<=s.2:=by
 constructor
 ·rintro⟨t,m,h⟩;rw[Au.mp m] at h;exact h
 exact fun h=>⟨s,Au.mpr rfl,h⟩
theorem fY {s:Int×Int}{xs:List (Int×Int)}{n:Int}:cov (s::xs) n↔(s.1<=n/\n<=s.2)\/cov xs n:=by
 rw[<- List.singleton_append,lV,vL]
theorem Vs {xs ys:List (Int×Int)}(h:xs.Perm ys){n:Int}:cov xs n↔cov ys n:=
 ⟨fun⟨s,m,q⟩=>⟨s,h.mem_iff.mp m,q⟩,fun⟨s,m,q⟩=>⟨s,h.mem_iff.mpr m,q⟩⟩
structure Gap (xs:List (Int×Int)):Prop where
 ne:∀s,s∈xs->s.1<=s.2
 up:xs.Pairwise fun a b=>a.2+1<b.1
structure Dis (xs:List (Int×Int)):Prop where
 ne:∀s,s∈xs->s.1<=s.2
 df:xs.Pairwise fun a b=>a.2<b.1\/b.2<a.1
theorem Gap.nil:Gap []:=⟨fun s m=>(by cases m),.nil⟩
theorem Dis.nil:Dis []:=⟨fun s m=>(by cases m),.nil⟩
theorem Dis.one {a b:Int}(h:a<=b):Dis [(a,b)]:=⟨fun s m=>by rw[Au.mp m];exact h,C5 _ _⟩
theorem Dis.app {xs ys:List (Int×Int)}(h:Dis xs)(k:Dis ys)(hd:∀n,cov xs n->cov ys n->False):Dis (xs++ys):=by
 refine⟨fun s m=>?_,C3.mpr ⟨h.df,k.df,fun a ma b mb=>?_⟩⟩
 ·rcases BC.mp m with m|m
  ·exact h.ne s m
  exact k.ne s m
 have ha:=h.ne a ma;have hb:=k.ne b mb;by_cases c1:a.2<b.1
 ·exact .inl c1
 by_cases c2:b.2<a.1
 ·exact .inr c2
 exfalso;by_cases c3:a.1<=b.1
 ·exact hd b.1 ⟨a,ma,c3,ω⟩ ⟨b,mb,CS _,hb⟩
 exact hd a.1 ⟨a,ma,CS _,ha⟩ ⟨b,mb,ω,ω⟩
theorem Dis.firsts {xs:List (Int×Int)}(h:Dis xs):(xs.map (·.1)).Nodup:=by
 refine pairwise_map.mpr (h.df.imp_of_mem fun {a b} ma mb q=>?_);have ha:=h.ne a ma;have hb:=h.ne b mb;intro e;have e:a.1=b.1:=e;omega
theorem Dis.rising {xs zs:List (Int×Int)}(h:Dis xs)(p:zs.Perm xs)(hz:(zs.map (·.1)).Pairwise (· < ·)):(∀s,s∈zs->s.1<=s.2)/\zs.Pairwise fun a b=>a.2<b.1:=by
 have d2:zs.Pairwise fun a b=>a.2<b.1\/b.2<a.1:=p.symm.pairwise h.df fun {a b} q=>q.symm;have ne:∀s,s∈zs->s.1<=s.2:=fun s m=>h.ne s (p.mem_iff.mp m);refine⟨ne,?_⟩;have hz2:=pairwise_map.mp hz;refine(d2.and hz2).imp_of_mem fun {a b} ma mb q=>?_;have ha:=ne a ma;have hb:=ne b mb;omega
theorem CK {α:Type}[DecidableEq α]:∀{xs ps:List α},xs.Nodup->(∀x,x∈xs->x∈ps)->xs.length<=ps.length
 | [],_,_,_=>DL _
 | x::xs,ps,hn,hs=>by
  have hx:x∈ps:=hs x (AM ..);have h2:=Fk.mp hn;have:=CK (xs:=xs) (ps:=ps.erase x) h2.2 fun y hy=>by
   refine(List.mem_erase_of_ne ?_).mpr (hs y (AH _ hy));rintro rfl;exact h2.1 hy
  rw[List.length_erase_of_mem hx] at this;have l1:0<ps.length:=List.length_pos_of_mem hx;rw[Be];omega
theorem Dis.count {xs:List (Int×Int)}(h:Dis xs){ps:List Int}(hp:∀s,s∈xs->s.1∈ps):xs.length<=ps.length:=by
 have:=CK h.firsts (ps:=ps) fun x hx=>by
  obtain⟨s,m,rfl⟩:=DE.mp hx;exact hp s m
 rwa [AI] at this
structure JI (zs told:List (Int×Int))(i:Nat):Prop where
 gap:Gap told
 cv:∀n,cov told n↔cov (zs.take i) n
 be:∀t,t∈told->∀z,z∈zs.drop i->t.2<z.1
 fs:∀t,t∈told->∃z,z∈zs/\z.1=t.1
 ln:told.length<=i
theorem JI.start (zs:List (Int×Int)):JI zs [] 0:=⟨.nil,fun n=>Iff.rfl,fun t m=>(by cases m),fun t m=>(by cases m),A6 _⟩
theorem K5 {α:Type}{zs:List α}{i:Nat}{z:α}(h:zs[i]?=some z):zs.take (i+1)=zs.take i++[z]:=by
 rw[FE,h];rfl
theorem vK {α:Type}{zs:List α}{i:Nat}{z:α}(h:zs[i]?=some z):zs.drop i=z::zs.drop (i+1):=by
 obtain⟨hi,e⟩:=AG.mp h;rw[Ha hi,e]
theorem JI.fresh {zs told:List (Int×Int)}{i:Nat}{z:Int×Int}(h:JI zs told i)(hz:zs[i]?=some z)(hn:∀s,s∈zs->s.1<=s.2)(hu:zs.Pairwise fun a b=>a.2<b.1)
  (hl:∀t,told.getLast?=some t->¬z.1<=t.2+1):JI zs (told++[z]) (i+1):=by
 have mz:z∈zs:=A2 hz;have e:=vK hz;have hu2:(zs.drop i).Pairwise fun a b=>a.2<b.1:=hu.sublist (List.drop_sublist _ _);rw[e] at hu2;have hu3:=CF.mp hu2;refine⟨⟨fun s m=>?_,C3.mpr ⟨h.gap.up,C5 _ _,fun a ma b mb=>?_⟩⟩,fun n=>?_,fun t m z' mz'=>?_,fun t m=>?_,by rw[AR,A9];have:=h.ln;omega⟩
 ·rcases BC.mp m with m|m
  ·exact h.gap.ne s m
  rw[Au.mp m];exact hn z mz
 ·rw[Au.mp mb];rcases IE told with e0|⟨pre,t,e0⟩
  ·rw[e0] at ma;cases ma
  subst e0;have h1:=hl t (by simp);have ma:a∈pre++[t]:=by simpa using ma
  have hup:(pre++[t]).Pairwise fun a b=>a.2+1<b.1:=by simpa using h.gap.up
  rcases BC.mp ma with m|m
  ·have:=(C3.mp hup).2.2 a m t (by simp);have:=h.gap.ne t (by simp);omega
  rw[Au.mp m];omega
 ·rw[lV,K5 hz,lV,h.cv]
 ·rcases BC.mp m with m|m
  ·exact h.be t m z' (by rw[e];exact AH _ mz')
  rw[Au.mp m];exact hu3.1 z' mz'
 rcases BC.mp m with m|m
 ·exact h.fs t m
 exact⟨z,mz,by rw[Au.mp m]⟩
theorem JI.grown {zs pre:List (Int×Int)}{t:Int×Int}{i:Nat}{z:Int×Int}(h:JI zs (pre++[t]) i)(hz:zs[i]?=some z)(hn:∀s,s∈zs->s.1<=s.2)(hu:zs.Pairwise fun a b=>a.2<b.1)
  (hl:z.1<=t.2+1):JI zs (pre++[(t.1,max z.2 t.2)]) (i+1):=by
 have mz:z∈zs:=A2 hz;have e:=vK hz;have hu2:(zs.drop i).Pairwise fun a b=>a.2<b.1:=hu.sublist (List.drop_sublist _ _);rw[e] at hu2;have hu3:=CF.mp hu2;have hg:=C3.mp h.gap.up;have nt:=h.gap.ne t (by simp);have nz:=hn z mz;have tz:=h.be t (by simp) z (by rw[e];exact AM ..);refine⟨⟨fun s m=>?_,C3.mpr ⟨hg.1,C5 _ _,fun a ma b mb=>?_⟩⟩,fun n=>?_,fun s m z' mz'=>?_,fun s m=>?_,by have:=h.ln;simp only[AR,A9] at this |-;omega⟩
 ·rcases BC.mp m with m|m
  ·exact h.gap.ne s (BG _ m)
  rw[Au.mp m];show t.1<=max z.2 t.2;omega
 ·rw[Au.mp mb];exact hg.2.2 a ma t (by simp)
 ·rw[K5 hz,lV,lV,<- h.cv,lV,vL,vL,vL];show(cov pre n\/t.1<=n/\n<=max z.2 t.2)↔_;constructor
  ·rintro(q|⟨q1,q2⟩)
   ·exact .inl (.inl q)
   by_cases c:n<=t.2
   ·exact .inl (.inr ⟨q1,c⟩)
   exact .inr ⟨ω,ω⟩
  rintro((q|⟨q1,q2⟩)|⟨q1,q2⟩)
  ·exact .inl q
  ·exact .inr ⟨q1,ω⟩
  exact .inr ⟨ω,ω⟩
 ·rcases BC.mp m with m|m
  ·exact h.be s (BG _ m) z' (by rw[e];exact AH _ mz')
  rw[Au.mp m];have:=hu3.1 z' mz';have:=h.be t (by simp) z' (by rw[e];exact AH _ mz');show max z.2 t.2<z'.1;omega
 rcases BC.mp m with m|m
 ·exact h.fs s (BG _ m)
 rw[Au.mp m];exact h.fs t (by simp)
noncomputable def iH:Nat->List (Int×Int)->List (Int×Int×Int)->List (Int×(Int×Int))
 | k+1,s::ss,w::ws=>(if max w.1 s.1<=min w.2.1 s.2 then [(w.2.2,(max w.1 s.1,min w.2.1 s.2))] else [])++(if s.2<w.2.1 then iH k ss (w::ws) else iH k (s::ss) ws)
 | _,_,_=>[]
noncomputable def newOf (out:List (Int×(Int×Int)))(g:Int):List (Int×Int):=(out.filter fun x=>x.1 == g).map (·.2)
theorem CN (a b:List (Int×(Int×Int)))(g:Int):newOf (a++b) g=newOf a g++newOf b g:=by
 unfold newOf;rw[List.filter_append,BS]
theorem jW {out:List (Int×(Int×Int))}{g:Int}{s:Int×Int}:s∈newOf out g↔(g,s)∈out:=by
 unfold newOf;rw[DE];constructor
 ·rintro⟨x,m,rfl⟩;have:=BN.mp m;have e:x.1=g:=by simpa using this.2
  rw[<- e];exact this.1
 intro m;exact⟨(g,s),BN.mpr ⟨m,by simp⟩,rfl⟩
structure Iv (ss:List (Int×Int))(ws:List (Int×Int×Int))(out:List (Int×(Int×Int))):Prop where
 fr:∀x,x∈out->x.2.1<=x.2.2/\∃s w,s∈ss/\w∈ws/\w.2.2=x.1/\w.1<=x.2.1/\x.2.2<=w.2.1/\s.1<=x.2.1/\x.2.2<=s.2/\(x.2.1=w.1\/x.2.1=s.1)
 up:out.Pairwise fun x y=>x.2.2<y.2.1
 al:∀s w n,s∈ss->w∈ws->s.1<=n->n<=s.2->w.1<=n->n<=w.2.1->cov (newOf out w.2.2) n
theorem RG:∀(k:Nat){ss:List (Int×Int)}{ws:List (Int×Int×Int)},ss.length+ws.length<=k->(ss.Pairwise fun a b=>a.2<b.1)->(ws.Pairwise fun a b=>a.2.1<b.1)->Iv ss ws (iH k ss ws):=by
 intro k
 induction k with
 | zero=>
  intro ss ws hk _ _;have:ss=[]:=DZ.mp ω;subst this;exact⟨fun x m=>(by cases m),.nil,fun s w n m=>(by cases m)⟩
 | succ k ih=>
  intro ss ws hk hs hw
  match ss,ws,hk,hs,hw with
  | [],ws,_,_,_=>exact⟨fun x m=>(by cases m),.nil,fun s w n m=>(by cases m)⟩
  | s::ss,[],_,_,_=>exact⟨fun x m=>(by cases m),.nil,fun s w n _ m=>(by cases m)⟩
  | s::ss,w::ws,hk,hs,hw=>
   have hs2:=CF.mp hs;have hw2:=CF.mp hw;have hk2:ss.length+ws.length+1<=k:=by simp only[Be] at hk;omega
   have rest:Iv (if s.2<w.2.1 then ss else s::ss) (if s.2<w.2.1 then w::ws else ws) (if s.2<w.2.1 then iH k ss (w::ws) else iH k (s::ss) ws):=by
    by_cases c:s.2<w.2.1
    ·rw[if_pos c,if_pos c,if_pos c];exact ih (by simp only[Be];omega) hs2.2 hw
    rw[if_neg c,if_neg c,if_neg c];exact ih (by simp only[Be];omega) hs hw2.2
   show Iv (s::ss) (w::ws) ((if max w.1 s.1<=min w.2.1 s.2 then [(w.2.2,(max w.1 s.1,min w.2.1 s.2))] else [])++(if s.2<w.2.1 then iH k ss (w::ws) else iH k (s::ss) ws));generalize hr:(if s.2<w.2.1 then iH k ss (w::ws) else iH k (s::ss) ws)=r at rest |-;have sub1:∀z,z∈(if s.2<w.2.1 then ss else s::ss)->z∈s::ss:=fun z m=>by
    split at m
    ·exact AH _ m
    exact m
   have sub2:∀z,z∈(if s.2<w.2.1 then w::ws else ws)->z∈w::ws:=fun z m=>by
    split at m
    ·exact m
    exact AH _ m
   have hd:∀x,x∈(if max w.1 s.1<=min w.2.1 s.2 then [(w.2.2,(max w.1 s.1,min w.2.1 s.2))] else [])->x=(w.2.2,(max w.1 s.1,min w.2.1 s.2))/\max w.1 s.1<=min w.2.1 s.2:=fun x m=>by
    split at m
    ·exact⟨Au.mp m,by assumption⟩
    cases m
   refine⟨fun x m=>?_,C3.mpr ⟨?_,rest.up,fun a ma b mb=>?_⟩,fun s' w' n ms mw h1 h2 h3 h4=>?_⟩
   ·rcases BC.mp m with m|m
    ·obtain⟨rfl,hle⟩:=hd x m;refine⟨hle,s,w,AM ..,AM ..,rfl,?_,?_,?_,?_,?_⟩
     ·show w.1<=max w.1 s.1;omega
     ·show min w.2.1 s.2<=w.2.1;omega
     ·show s.1<=max w.1 s.1;omega
     ·show min w.2.1 s.2<=s.2;omega
     show max w.1 s.1=w.1\/max w.1 s.1=s.1;omega
    obtain⟨q1,s',w',q2,q3,q4⟩:=rest.fr x m;exact⟨q1,s',w',sub1 _ q2,sub2 _ q3,q4⟩
   ·split
    ·exact C5 _ _
    exact .nil
   ·obtain⟨rfl,hle⟩:=hd a ma;obtain⟨q1,s',w',q2,q3,q4,q5,q6,q7,q8,q9⟩:=rest.fr b mb;show min w.2.1 s.2<b.2.1;by_cases c:s.2<w.2.1
    ·rw[if_pos c] at q2;have:=hs2.1 s' q2;omega
    rw[if_neg c] at q3;have:=hw2.1 w' q3;omega
   rw[CN,lV];have old:s'∈(if s.2<w.2.1 then ss else s::ss)->w'∈(if s.2<w.2.1 then w::ws else ws)->cov (newOf r w'.2.2) n:=fun a b=>rest.al s' w' n a b h1 h2 h3 h4;by_cases c:s.2<w.2.1
   ·rw[if_pos c,if_pos c] at old;rcases AO.mp ms with rfl|ms
    ·rcases AO.mp mw with rfl|mw
     ·left;have hle:max w'.1 s'.1<=min w'.2.1 s'.2:=ω;rw[if_pos hle];exact⟨_,jW.mpr (Au.mpr rfl),by show max w'.1 s'.1<=n;omega,by show n<=min w'.2.1 s'.2;omega⟩
     have:=hw2.1 w' mw;omega
    exact .inr (old ms mw)
   rw[if_neg c,if_neg c] at old;rcases AO.mp mw with rfl|mw
   ·rcases AO.mp ms with rfl|ms
    ·left;have hle:max w'.1 s'.1<=min w'.2.1 s'.2:=ω;rw[if_pos hle];exact⟨_,jW.mpr (Au.mpr rfl),by show max w'.1 s'.1<=n;omega,by show n<=min w'.2.1 s'.2;omega⟩
    have:=hs2.1 s' ms;omega
   exact .inr (old ms mw)
theorem Iv.dis {ss:List (Int×Int)}{ws:List (Int×Int×Int)}{out:List (Int×(Int×Int))}(h:Iv ss ws out)(g:Int):Dis (newOf out g):=by
 refine⟨fun s m=>(h.fr _ (jW.mp m)).1,pairwise_map.mpr ((h.up.sublist List.filter_sublist).imp fun q=>.inl q)⟩
theorem Iv.cov {ss:List (Int×Int)}{ws:List (Int×Int×Int)}{out:List (Int×(Int×Int))}(h:Iv ss ws out)(g n:Int):L2.cov (newOf out g) n↔L2.cov ss n/\∃w,w∈ws/\w.2.2=g/\w.1<=n/\n<=w.2.1:=by
 constructor
 ·rintro⟨s,m,h1,h2⟩;obtain⟨q1,s',w',q2,q3,q4,q5,q6,q7,q8,q9⟩:=h.fr _ (jW.mp m);have q5:w'.1<=s.1:=q5;have q6:s.2<=w'.2.1:=q6;have q7:s'.1<=s.1:=q7;have q8:s.2<=s'.2:=q8;exact⟨⟨s',q2,ω,ω⟩,w',q3,q4,ω,ω⟩
 rintro⟨⟨s,m,h1,h2⟩,w,mw,rfl,h3,h4⟩;exact h.al s w n m mw h1 h2 h3 h4
noncomputable def Goes (cs:List RowC)(n:Int)(y:Nat)(x:Int):Prop:=∃c,cs[y]?=some c/\d7 c=false/\cF c (y:Int) n=some x
theorem Goes.lt {cs:List RowC}{n:Int}{y:Nat}{x:Int}(hr:fj cs)(h:Goes cs n y x):(y:Int)<x/\x<cs.length:=by
 obtain⟨c,hc,_,hs⟩:=h;exact mU hr hc hs
theorem Goes.inj {cs:List RowC}{n:Int}{y:Nat}{x z:Int}(h:Goes cs n y x)(k:Goes cs n y z):x=z:=by
 obtain⟨c,hc,_,hs⟩:=h;obtain⟨d,hd,_,ht⟩:=k;rw[hc] at hd;cases hd;rw[hs] at ht;cases ht;rfl
structure Zu (cs:List RowC)(n:Int)(j:Nat)(o:Option Int)(L:List Int):Prop where
 rg:∀x,x∈L->(j:Int)<=x/\x<cs.length
 hd:(j:Int)∈L
 pr:∀x,x∈L->x=j\/∃y:Nat,(y:Int)∈L/\Goes cs n y x
 nx:∀(y:Nat) x,(y:Int)∈L->Goes cs n y x->x∈L
 bt:∀(y z:Nat) x,(y:Int)∈L->(z:Int)∈L->y<z->Goes cs n y x->x<=z
 pk:∀(y:Nat) l,(y:Int)∈L->cs[y]?=some (.pik l)->o=some l
 bd:∀(y:Nat) c,(y:Int)∈L->cs[y]?=some c->d7 c=false->cF c y n=none->o=none
 en:(∃(y:Nat)(l:Int),(y:Int)∈L/\cs[y]?=some (.pik l)/\o=some l)\/∃(y:Nat)(c:RowC),(y:Int)∈L/\cs[y]?=some c/\d7 c=false/\cF c y n=none/\o=none
theorem X4 {cs:List RowC}{n:Int}(hr:fj cs):∀(k j:Nat),j<cs.length->cs.length<=j+k->Zu cs n j (runC cs n k j).1 (runC cs n k j).2:=by
 intro k
 induction k with
 | zero=>intro j h1 h2;omega
 | succ k ih=>
  intro j h1 h2;have hc:cs[j]?=some cs[j]:=AC h1;have hc':cs[((j:Nat):Int).toNat]?=some cs[j]:=by rw[DD];exact hc
  cases hp:d7 cs[j] with
  | true=>
   cases e:cs[j] with
   | pik l=>
    rw[e] at hc hc';rw[pK hc'];have only:∀{y:Nat},(y:Int)∈[(j:Int)]->y=j:=fun m=>by have:=Au.mp m;omega
    have ng:∀{x:Int},¬Goes cs n j x:=fun⟨c,q,q2,_⟩=>by rw[hc] at q;cases q;cases q2
    refine⟨fun x m=>?_,Au.mpr rfl,fun x m=>.inl (Au.mp m),fun y x m g=>?_,fun y z x m1 m2 lt _=>?_,fun y l' m q=>?_,fun y c m q q2 _=>?_,.inl ⟨j,l,Au.mpr rfl,hc,rfl⟩⟩
    ·rw[Au.mp m];omega
    ·rw[only m] at g;exact absurd g ng
    ·have:=only m1;have:=only m2;omega
    ·rw[only m,hc] at q;cases q;rfl
    rw[only m,hc] at q;cases q;cases q2
   | _=>rw[e] at hp;cases hp
  | false=>
   cases hs:cF cs[j] (j:Int) n with
   | none=>
    rw[yI hc' hp hs];have only:∀{y:Nat},(y:Int)∈[(j:Int)]->y=j:=fun m=>by have:=Au.mp m;omega
    have ng:∀{x:Int},¬Goes cs n j x:=fun⟨c,q,q2,q3⟩=>by rw[hc] at q;cases q;rw[hs] at q3;cases q3
    refine⟨fun x m=>?_,Au.mpr rfl,fun x m=>.inl (Au.mp m),fun y x m g=>?_,fun y z x m1 m2 lt _=>?_,fun y l' m q=>?_,fun y c m q q2 _=>rfl,.inr ⟨j,_,Au.mpr rfl,hc,hp,hs,rfl⟩⟩
    ·rw[Au.mp m];omega
    ·rw[only m] at g;exact absurd g ng
    ·have:=only m1;have:=only m2;omega
    rw[only m,hc] at q;rw[AV q] at hp;cases hp
   | some t=>
    have hb:=mU hr hc hs;obtain⟨tn,rfl⟩:=EH (show 0<=t by omega);rw[uM hc' hp hs];have I:=ih tn ω ω;have gj:Goes cs n j (tn:Int):=⟨_,hc,hp,hs⟩;generalize (runC cs n k (tn:Int)).1=o at I;generalize (runC cs n k (tn:Int)).2=L at I;have sp:∀{y:Nat},(y:Int)∈(j:Int)::L->y=j\/(y:Int)∈L:=fun m=>by
     rcases AO.mp m with m|m
     ·left;omega
     exact .inr m
    refine⟨fun x m=>?_,AM ..,fun x m=>?_,fun y x m g=>?_,fun y z x m1 m2 lt g=>?_,fun y l m q=>?_,fun y c m q q2 q3=>?_,?_⟩
    ·rcases AO.mp m with rfl|m
     ·omega
     have:=I.rg x m;omega
    ·rcases AO.mp m with e|m
     ·exact .inl e
     rcases I.pr x m with e|⟨y,m2,g⟩
     ·rw[e];exact .inr ⟨j,AM ..,gj⟩
     exact .inr ⟨y,AH _ m2,g⟩
    ·rcases sp m with rfl|m
     ·rw[g.inj gj];exact AH _ I.hd
     exact AH _ (I.nx y x m g)
    ·rcases sp m2 with e2|m4
     ·rcases sp m1 with e1|m3
      ·omega
      have:=(I.rg _ m3).1;omega
     rcases sp m1 with e1|m3
     ·subst e1;rw[g.inj gj];exact(I.rg _ m4).1
     exact I.bt y z x m3 m4 lt g
    ·rcases sp m with rfl|m
     ·rw[hc] at q;rw[AV q] at hp;cases hp
     exact I.pk y l m q
    ·rcases sp m with rfl|m
     ·rw[hc] at q;cases q;rw[hs] at q3;cases q3
     exact I.bd y c m q q2 q3
    rcases I.en with⟨y,l,m,q⟩|⟨y,c,m,q⟩
    ·exact .inl ⟨y,l,AH _ m,q⟩
    exact .inr ⟨y,c,AH _ m,q⟩
noncomputable def Cm (cs:List RowC)(n:Int)(j:Nat):Prop:=(j:Int)∈(runOf cs n).2
theorem uQ {cs:List RowC}{n:Int}(hr:fj cs):Zu cs n 0 (runOf cs n).1 (runOf cs n).2:=X4 hr cs.length 0 hr.1 ω
theorem Cm.iff {cs:List RowC}{n:Int}(hr:fj cs)(j:Nat):Cm cs n j↔j=0\/∃y:Nat,y<j/\Cm cs n y/\Goes cs n y (j:Int):=by
 have I:=uQ (n:=n) hr;constructor
 ·intro h;rcases I.pr _ h with e|⟨y,m,g⟩
  ·left;omega
  exact .inr ⟨y,by have:=g.lt hr;omega,m,g⟩
 rintro(rfl|⟨y,_,m,g⟩)
 ·exact I.hd
 exact I.nx y _ m g
noncomputable def stC:RowC->Int->Prop
 | .one a _,n=>n=a\/n=a+1
 | .rng a b _,n=>n=a\/n=b+1
 | .low a _,n=>n=a
 | .msk lo wd b _,n=>lo<=n/\n<lo+wd/\(n=lo\/bitAt b (n-lo)≠bitAt b (n-1-lo))
 | .tab lo gs,n=>lo<=n/\n<lo+gs.length/\(n=lo\/gs[(n-lo).toNat]?≠gs[(n-1-lo).toNat]?)
 | .pik _,_=>False
structure Gg (m:Nat)(c:RowC)(j:Nat)(lo hi:Int)(ws:List (Int×Int×Int)):Prop where
 up:ws.Pairwise fun a b=>a.2.1<b.1
 cv:∀n g,lo<=n->n<=hi->((∃w,w∈ws/\w.2.2=g/\w.1<=n/\n<=w.2.1)↔d7 c=false/\cF c j n=some g)
 gl:∀w,w∈ws->(j:Int)<w.2.2/\w.2.2<m
 st:∀w,w∈ws->w.1=lo\/stC c w.1
noncomputable def abz (cs:List RowC)(low n:Int):Prop:=n=low\/∃(i:Nat)(c:RowC),cs[i]?=some c/\stC c n
structure CI (cs:List RowC)(low high:Int)(X:Nat->List (Int×Int))(k:Nat):Prop where
 dn:∀j,j<k->Gap (X j)
 dc:∀j n,j<k->(cov (X j) n↔low<=n/\n<=high/\Cm cs n j)
 ra:∀j,k<=j->Dis (X j)
 rc:∀j n,k<=j->(cov (X j) n↔low<=n/\n<=high/\(j=0\/∃y:Nat,y<k/\Cm cs n y/\Goes cs n y (j:Int)))
 fs:∀j s,s∈X j->abz cs low s.1
theorem CI.start {cs:List RowC}{low high:Int}(h:low<=high):CI cs low high (fun j=>if j=0 then [(low,high)] else []) 0:=by
 refine⟨fun j z=>absurd z (not_lt_zero _),fun j n z=>absurd z (not_lt_zero _),fun j _=>?_,fun j n _=>?_,fun j s m=>?_⟩
 ·split
  ·exact Dis.one h
  exact Dis.nil
 ·by_cases c:j=0
  ·rw[if_pos c,vL];exact⟨fun q=>⟨q.1,q.2,.inl c⟩,fun q=>⟨q.1,q.2.1⟩⟩
  rw[if_neg c];exact⟨fun q=>absurd q FT,fun⟨_,_,q⟩=>by rcases q with q|⟨y,q,_⟩ <;> omega⟩
 split at m
 ·rw[Au.mp m];exact .inl rfl
 cases m
theorem CI.at {cs:List RowC}{low high:Int}{X:Nat->List (Int×Int)}{k:Nat}(hr:fj cs)(h:CI cs low high X k)(n:Int):cov (X k) n↔low<=n/\n<=high/\Cm cs n k:=by
 rw[h.rc k n (A6 _),Cm.iff hr]
theorem CI.step {cs:List RowC}{low high:Int}{X:Nat->List (Int×Int)}{k:Nat}{c:RowC}{ys:List (Int×Int)}{ws:List (Int×Int×Int)}{out:List (Int×(Int×Int))}(hr:fj cs)(hc:cs[k]?=some c)(h:CI cs low high X k)
  (gy:Gap ys) (cy:∀n,cov ys n↔cov (X k) n) (fy:∀s,s∈ys->∃z,z∈X k/\z.1=s.1) (hw:Gg cs.length c k low high ws) (hs:Iv ys ws out):CI cs low high (fun j=>(if j=k then ys else X j)++newOf out (j:Int)) (k+1):=by
 have em:∀j:Nat,j<=k->newOf out (j:Int)=[]:=fun j hj=>by
  refine List.eq_nil_iff_forall_not_mem.mpr fun s m=>?_;obtain⟨_,s',w,_,mw,e,_⟩:=hs.fr _ (jW.mp m);have:=(hw.gl w mw).1;have e:w.2.2=(j:Int):=e;omega
 have nw:∀(j:Nat) n,cov (newOf out (j:Int)) n↔low<=n/\n<=high/\Cm cs n k/\Goes cs n k (j:Int):=fun j n=>by
  rw[hs.cov,cy,h.at hr];constructor
  ·rintro⟨⟨a,b,cm⟩,w⟩;obtain⟨p,st⟩:=(hw.cv n _ a b).mp w;exact⟨a,b,cm,c,hc,p,st⟩
  rintro⟨a,b,cm,c',hc',p,st⟩;rw[hc] at hc';cases hc';exact⟨⟨a,b,cm⟩,(hw.cv n _ a b).mpr ⟨p,st⟩⟩
 refine⟨fun j hj=>?_,fun j n hj=>?_,fun j hj=>?_,fun j n hj=>?_,fun j s m=>?_⟩
 ·rw[em j ω,C4];by_cases e:j=k
  ·rw[if_pos e];exact gy
  rw[if_neg e];exact h.dn j ω
 ·rw[em j ω,C4];by_cases e:j=k
  ·rw[if_pos e,cy,e];exact h.at hr n
  rw[if_neg e];exact h.dc j n ω
 ·rw[if_neg ω];refine(h.ra j ω).app (hs.dis _) fun n a b=>?_;obtain⟨_,_,cm,g⟩:=(nw j n).mp b;obtain⟨_,_,q⟩:=(h.rc j n ω).mp a;rcases q with q|⟨y,hy,cy',gy'⟩
  ·omega
  have:=(uQ (n:=n) hr).bt y k _ cy' cm hy gy';omega
 ·rw[if_neg ω,lV,h.rc j n ω,nw];constructor
  ·rintro(⟨a,b,q⟩|⟨a,b,cm,g⟩)
   ·refine⟨a,b,?_⟩;rcases q with q|⟨y,hy,q⟩
    ·exact .inl q
    exact .inr ⟨y,ω,q⟩
   exact⟨a,b,.inr ⟨k,ω,cm,g⟩⟩
  rintro⟨a,b,q⟩;rcases q with q|⟨y,hy,cm,g⟩
  ·exact .inl ⟨a,b,.inl q⟩
  by_cases e:y=k
  ·subst e;exact .inr ⟨a,b,cm,g⟩
  exact .inl ⟨a,b,.inr ⟨y,ω,cm,g⟩⟩
 have old:∀s,s∈ys->abz cs low s.1:=fun s m=>by
  obtain⟨z,mz,e⟩:=fy s m;rw[<- e];exact h.fs k z mz
 rcases BC.mp m with m|m
 ·split at m
  ·exact old s m
  exact h.fs j s m
 obtain⟨_,s',w,ms,mw,_,_,_,_,_,e⟩:=hs.fr _ (jW.mp m);have e:s.1=w.1\/s.1=s'.1:=e;rcases e with e|e
 ·rw[e];rcases hw.st w mw with q|q
  ·exact .inl q
  exact .inr ⟨k,c,hc,q⟩
 rw[e];exact old s' ms
theorem CI.inside {cs:List RowC}{low high:Int}{X:Nat->List (Int×Int)}{k:Nat}(h:CI cs low high X k)(j:Nat)(s:Int×Int)(m:s∈X j):s.1<=s.2/\low<=s.1/\s.2<=high:=by
 have ne:s.1<=s.2:=by
  by_cases c:j<k
  ·exact(h.dn j c).ne s m
  exact(h.ra j ω).ne s m
 have cv:∀n,cov (X j) n->low<=n/\n<=high:=fun n q=>by
  by_cases c:j<k
  ·have:=(h.dc j n c).mp q;exact⟨this.1,this.2.1⟩
  have:=(h.rc j n ω).mp q;exact⟨this.1,this.2.1⟩
 exact⟨ne,(cv s.1 ⟨s,m,CS _,ne⟩).1,(cv s.2 ⟨s,m,ne,CS _⟩).2⟩
noncomputable def Qy (cs:List RowC)(low high:Int):Prop:=∃P:List Int,P.length<64/\∀n,low<=n->n<=high->abz cs low n->n∈P
theorem Gap.dis {xs:List (Int×Int)}(h:Gap xs):Dis xs:=⟨h.ne,h.up.imp fun {a b} q=>.inl ω⟩
theorem CI.YK {cs:List RowC}{low high:Int}{X:Nat->List (Int×Int)}{k:Nat}(h:CI cs low high X k)(hf:Qy cs low high)(j:Nat):(X j).length<64:=by
 obtain⟨P,hp,hq⟩:=hf;have hd:Dis (X j):=by
  by_cases c:j<k
  ·exact(h.dn j c).dis
  exact h.ra j ω
 refine DH (hd.count fun s m=>?_) hp;have:=h.inside j s m;exact hq _ this.2.1 ω (h.fs j s m)
noncomputable def xu:RowC->Prop
 | .rng a b _=>a<=b
 | _=>True
theorem Ga {o m t:Int}(h:btw o m t=true):o<t/\t<m:=by
 unfold btw at h;rwa [Cc,decide_eq_true_eq,decide_eq_true_eq] at h
theorem QK {m j:Nat}{l lo hi:Int}:Gg m (.pik l) j lo hi []:=⟨.nil,fun n g _ _=>⟨fun⟨w,q,_⟩=>(by cases q),fun⟨q,_⟩=>(by cases q)⟩,fun w q=>(by cases q),fun w q=>(by cases q)⟩
theorem QV {m j:Nat}{a t lo hi:Int}(h:qG m j (.low a t)):Gg m (.low a t) j lo hi [(lo,a-1,t),(a,hi,(j:Int)+1)]:=by
 have hb:=Ga (o:=(j:Int)) (m:=m) (t:=t) h;refine⟨CF.mpr ⟨fun b mb=>?_,C5 _ _⟩,fun n g h1 h2=>?_,fun w mw=>?_,fun w mw=>?_⟩
 ·rw[Au.mp mb];show a-1<a;omega
 ·show _↔_/\some (if n<a then t else (j:Int)+1)=some g;constructor
  ·rintro⟨w,mw,e,q1,q2⟩;refine⟨rfl,?_⟩;rcases AO.mp mw with rfl|mw
   ·rw[if_pos (show n<a by have q2:n<=a-1:=q2;omega)];exact congrArg _ e
   rw[Au.mp mw] at e q1;rw[if_neg (show ¬n<a by have q1:a<=n:=q1;omega)];exact congrArg _ e
  rintro⟨_,e⟩;by_cases c:n<a
  ·rw[if_pos c] at e;exact⟨_,AM ..,AV e,h1,by show n<=a-1;omega⟩
  rw[if_neg c] at e;exact⟨_,AH _ (Au.mpr rfl),AV e,by show a<=n;omega,h2⟩
 ·rcases AO.mp mw with rfl|mw
  ·exact hb
  rw[Au.mp mw];exact⟨by show(j:Int)<j+1;omega,by show(j:Int)+1<m;omega⟩
 rcases AO.mp mw with rfl|mw
 ·exact .inl rfl
 rw[Au.mp mw];exact .inr rfl
theorem Gn {m j:Nat}{c:RowC}{a b t lo hi:Int}(hp:d7 c=false)(hs:∀n,cF c (j:Int) n=some (if a<=n/\n<=b then t else (j:Int)+1))(hst:∀n,n=a\/n=b+1->stC c n)(hb:btw (j:Int) m t=true)(hab:a<=b) :
  Gg m c j lo hi [(lo,a-1,(j:Int)+1),(a,b,t),(b+1,hi,(j:Int)+1)]:=by
 have hb:=Ga hb;refine⟨CF.mpr ⟨fun x mx=>?_,CF.mpr ⟨fun x mx=>?_,C5 _ _⟩⟩,fun n g h1 h2=>?_,fun w mw=>?_,fun w mw=>?_⟩
 ·show a-1<x.1;rcases AO.mp mx with rfl|mx
  ·show a-1<a;omega
  rw[Au.mp mx];show a-1<b+1;omega
 ·rw[Au.mp mx];show b<b+1;omega
 ·rw[hs n];constructor
  ·rintro⟨w,mw,e,q1,q2⟩;refine⟨hp,?_⟩;rcases AO.mp mw with rfl|mw
   ·rw[if_neg (show ¬(a<=n/\n<=b) by have q2:n<=a-1:=q2;omega)];exact congrArg _ e
   rcases AO.mp mw with rfl|mw
   ·rw[if_pos (show a<=n/\n<=b from⟨q1,q2⟩)];exact congrArg _ e
   rw[Au.mp mw] at e q1;rw[if_neg (show ¬(a<=n/\n<=b) by have q1:b+1<=n:=q1;omega)];exact congrArg _ e
  rintro⟨_,e⟩;by_cases c1:a<=n/\n<=b
  ·rw[if_pos c1] at e;exact⟨_,AH _ (AM ..),AV e,c1.1,c1.2⟩
  rw[if_neg c1] at e;by_cases c2:n<a
  ·exact⟨_,AM ..,AV e,h1,by show n<=a-1;omega⟩
  exact⟨_,AH _ (AH _ (Au.mpr rfl)),AV e,by show b+1<=n;omega,h2⟩
 ·rcases AO.mp mw with rfl|mw
  ·exact⟨by show(j:Int)<j+1;omega,by show(j:Int)+1<m;omega⟩
  rcases AO.mp mw with rfl|mw
  ·exact hb
  rw[Au.mp mw];exact⟨by show(j:Int)<j+1;omega,by show(j:Int)+1<m;omega⟩
 rcases AO.mp mw with rfl|mw
 ·exact .inl rfl
 rcases AO.mp mw with rfl|mw
 ·exact .inr (hst _ (.inl rfl))
 rw[Au.mp mw];exact .inr (hst _ (.inr rfl))
theorem QL {m j:Nat}{a t lo hi:Int}(h:qG m j (.one a t)):Gg m (.one a t) j lo hi [(lo,a-1,(j:Int)+1),(a,a,t),(a+1,hi,(j:Int)+1)]:=by
 refine Gn rfl (fun n=>?_) (fun n h=>h) h (CS _);show some (if n=a then t else (j:Int)+1)=_;by_cases c:n=a
 ·rw[if_pos c,if_pos ω]
 rw[if_neg c,if_neg ω]
theorem QJ {m j:Nat}{a b t lo hi:Int}(h:qG m j (.rng a b t))(hab:a<=b):Gg m (.rng a b t) j lo hi [(lo,a-1,(j:Int)+1),(a,b,t),(b+1,hi,(j:Int)+1)]:=
 Gn rfl (fun n=>rfl) (fun n h=>h) h hab
structure oZ (first:Int)(goals:List Int)(ws:List (Int×Int×Int))(i:Nat):Prop where
 up:ws.Pairwise fun a b=>a.2.1<b.1
 cv:∀n g,(∃w,w∈ws/\w.2.2=g/\w.1<=n/\n<=w.2.1)↔first<=n/\n<first+i/\goals[(n-first).toNat]?=some g
 rg:∀w,w∈ws->first<=w.1/\w.1<=w.2.1/\w.2.1<first+i/\w.2.2∈goals
 ls:∀w,ws.getLast?=some w->w.2.1=first+i-1
 ln:ws.length<=i
 df:∀w,w∈ws->w.1=first\/goals[(w.1-first).toNat]?≠goals[(w.1-1-first).toNat]?
theorem oZ.start (first:Int)(goals:List Int):oZ first goals [] 0:=
 ⟨.nil,fun n g=>⟨fun⟨w,q,_⟩=>(by cases q),fun⟨a,b,_⟩=>ω⟩,fun w q=>(by cases q),fun w q=>(by cases q),A6 _,fun w q=>(by cases q)⟩
theorem oZ.fresh {first:Int}{goals:List Int}{ws:List (Int×Int×Int)}{i:Nat}{g:Int}(h:oZ first goals ws i)(hg:goals[i]?=some g)(hne:∀w,ws.getLast?=some w->w.2.2≠g):oZ first goals (ws++[(first+i,first+i,g)]) (i+1):=by
 refine⟨C3.mpr ⟨h.up,C5 _ _,fun a ma b mb=>?_⟩,fun n g'=>?_,fun w mw=>?_,fun w q=>?_,by rw[AR,A9];have:=h.ln;omega,fun w mw=>?_⟩
 ·rw[Au.mp mb];exact(h.rg a ma).2.2.1
 ·constructor
  ·rintro⟨w,mw,e,q1,q2⟩;rcases BC.mp mw with mw|mw
   ·have:=(h.cv n g').mp ⟨w,mw,e,q1,q2⟩;exact⟨this.1,ω,this.2.2⟩
   rw[Au.mp mw] at e q1 q2;have q1:first+i<=n:=q1
   have q2:n<=first+i:=q2
   have e:g=g':=e;exact⟨ω,ω,by rw[show(n-first).toNat=i by omega,hg,e]⟩
  rintro⟨a,b,e⟩;by_cases c:n<first+i
  ·obtain⟨w,mw,q⟩:=(h.cv n g').mpr ⟨a,c,e⟩;exact⟨w,BG _ mw,q⟩
  rw[show(n-first).toNat=i by omega,hg] at e
  exact⟨_,A0 _ (Au.mpr rfl),AV e,by show first+i<=n;omega,by show n<=first+i;omega⟩
 ·rcases BC.mp mw with mw|mw
  ·have:=h.rg w mw;exact⟨this.1,this.2.1,ω,this.2.2.2⟩
  rw[Au.mp mw];exact⟨by show first<=first+i;omega,CS _,by show first+(i:Int)<first+((i+1:Nat):Int);omega,A2 hg⟩
 ·have:w=(first+i,first+i,g):=by simpa using q.symm
  rw[this];show first+(i:Int)=first+((i+1:Nat):Int)-1
  omega
 rcases BC.mp mw with mw|mw
 ·exact h.df w mw
 rw[Au.mp mw];show first+(i:Int)=first\/goals[(first+(i:Int)-first).toNat]?≠goals[(first+(i:Int)-1-first).toNat]?
 cases i with
 | zero=>exact .inl ω
 | succ i=>
  refine .inr fun z=>?_;have hlt:=(AG.mp hg).1;rw[show(first+((i+1:Nat):Int)-first).toNat=i+1 by omega,show(first+((i+1:Nat):Int)-1-first).toNat=i by omega,hg] at z
  obtain⟨w,mw,e,q1,q2⟩:=(h.cv (first+i) g).mpr ⟨ω,ω,by rw[show(first+(i:Int)-first).toNat=i by omega];exact z.symm⟩
  obtain⟨pre,t,et⟩:=nu ws (List.length_pos_of_mem mw);have hl:=h.ls t (by rw[et];simp);have ht:=h.rg t (by rw[et];simp);refine hne w ?_ e;rw[et] at mw |-;rcases BC.mp mw with mw|mw
  ·have up:=h.up;rw[et] at up;have:=(C3.mp up).2.2 w mw t (by simp);omega
  rw[Au.mp mw];simp
theorem oZ.grown {first:Int}{goals:List Int}{pre:List (Int×Int×Int)}{t:Int×Int×Int}{i:Nat}{g:Int}(h:oZ first goals (pre++[t]) i)(hg:goals[i]?=some g)(hl:t.2.2=g):oZ first goals (pre++[(t.1,first+i,g)]) (i+1):=by
 have hu:=C3.mp h.up;have ht:=h.rg t (by simp);have hlast:=h.ls t (by simp);refine⟨C3.mpr ⟨hu.1,C5 _ _,fun a ma b mb=>?_⟩,fun n g'=>?_,fun w mw=>?_,fun w q=>?_,by have:=h.ln;simp only[AR,A9] at this |-;omega,fun w mw=>?_⟩
 ·rw[Au.mp mb];exact hu.2.2 a ma t (by simp)
 ·constructor
  ·rintro⟨w,mw,e,q1,q2⟩;rcases BC.mp mw with mw|mw
   ·have:=(h.cv n g').mp ⟨w,BG _ mw,e,q1,q2⟩;exact⟨this.1,ω,this.2.2⟩
   rw[Au.mp mw] at e q1 q2;have q1:t.1<=n:=q1;have q2:n<=first+i:=q2
   have e:g=g':=e;by_cases c:n<=t.2.1
   ·have:=(h.cv n g').mp ⟨t,by simp,by rw[hl,e],q1,c⟩;exact⟨this.1,ω,this.2.2⟩
   exact⟨ω,ω,by rw[show(n-first).toNat=i by omega,hg,e]⟩
  rintro⟨a,b,e⟩;by_cases c:n<first+i
  ·obtain⟨w,mw,e1,q1,q2⟩:=(h.cv n g').mpr ⟨a,c,e⟩;rcases BC.mp mw with mw|mw
   ·exact⟨w,BG _ mw,e1,q1,q2⟩
   rw[Au.mp mw] at e1 q1 q2;exact⟨_,A0 _ (Au.mpr rfl),by show g=g';rw[<- hl];exact e1,q1,by show n<=first+i;omega⟩
  rw[show(n-first).toNat=i by omega,hg] at e
  exact⟨_,A0 _ (Au.mpr rfl),AV e,by show t.1<=n;omega,by show n<=first+i;omega⟩
 ·rcases BC.mp mw with mw|mw
  ·have:=h.rg w (BG _ mw);exact⟨this.1,this.2.1,ω,this.2.2.2⟩
  rw[Au.mp mw];exact⟨ht.1,by show t.1<=first+i;omega,by show first+(i:Int)<first+((i+1:Nat):Int);omega,A2 hg⟩
 ·have:w=(t.1,first+i,g):=by simpa using q.symm
  rw[this];show first+(i:Int)=first+((i+1:Nat):Int)-1
  omega
 rcases BC.mp mw with mw|mw
 ·exact h.df w (BG _ mw)
 rw[Au.mp mw];exact h.df t (by simp)
theorem QF {m j:Nat}{first lo hi:Int}{gs:List Int}{ws:List (Int×Int×Int)}(h:qG m j (.tab first gs))(hw:oZ first gs ws gs.length):Gg m (.tab first gs) j lo hi ws:=by
 refine⟨hw.up,fun n g h1 h2=>?_,fun w mw=>?_,fun w mw=>?_⟩
 ·rw[hw.cv];show _↔_/\(if 0<=n-first/\n-first<gs.length then gs[(n-first).toNat]? else none)=some g
  constructor
  ·rintro⟨a,b,e⟩;exact⟨rfl,by rw[if_pos ω];exact e⟩
  rintro⟨_,e⟩;split at e
  ·exact⟨ω,ω,e⟩
  cases e
 ·exact Ga (E4.mp h _ (hw.rg w mw).2.2.2)
 have:=hw.rg w mw;exact .inr ⟨this.1,ω,hw.df w mw⟩
noncomputable def Ab (j:Int)(wd bits t:Int):List Int:=(AU wd.toNat).map fun(p:Nat)=>if bitAt bits (p:Int)=true then t else j+1
theorem Pg (j wd bits t:Int):(Ab j wd bits t).length=wd.toNat:=by unfold Ab;simp
theorem u9 {j wd bits t:Int}{p:Nat}(h:p<wd.toNat):(Ab j wd bits t)[p]?=some (if bitAt bits (p:Int)=true then t else j+1):=by
 unfold Ab;rw[A4,JU h];rfl
theorem QM {m j:Nat}{first wd bits t lo hi:Int}{ws:List (Int×Int×Int)}(h:qG m j (.msk first wd bits t))(hw:oZ first (Ab j wd bits t) ws wd.toNat):Gg m (.msk first wd bits t) j lo hi ws:=by
 obtain⟨hb,h1,h2,h3⟩:=h;have hb:=Ga hb;refine⟨hw.up,fun n g l1 l2=>?_,fun w mw=>?_,fun w mw=>?_⟩
 ·rw[hw.cv];show _↔_/\(if 0<=n-first/\n-first<wd then some (if bitAt bits (n-first)=true then t else (j:Int)+1) else none)=some g
  constructor
  ·rintro⟨a,b,e⟩;rw[u9 ω,show(((n-first).toNat:Nat):Int)=n-first by omega] at e
   exact⟨rfl,by rw[if_pos ω];exact e⟩
  rintro⟨_,e⟩;split at e
  ·refine⟨ω,ω,?_⟩;rw[u9 ω,show(((n-first).toNat:Nat):Int)=n-first by omega]
   exact e
  cases e
 ·have:=(hw.rg w mw).2.2.2;unfold Ab at this;obtain⟨p,_,e⟩:=DE.mp this;rw[<- e];split
  ·exact hb
  exact⟨ω,ω⟩
 have:=hw.rg w mw;refine .inr ⟨this.1,ω,?_⟩;rcases hw.df w mw with z|z
 ·exact .inl z
 by_cases c:w.1=first
 ·exact .inl c
 refine .inr fun e=>z ?_;rw[u9 ω,u9 ω,show(((w.1-first).toNat:Nat):Int)=w.1-first by omega,show(((w.1-1-first).toNat:Nat):Int)=w.1-1-first by omega,e]
noncomputable def lbL (lo hi:Int):List (Int×Int)->Option Int
 | []=>none
 | s::ss=>if s.1<lo then some s.1 else if s.2>hi then some (max s.1 (hi+1)) else lbL lo hi ss
noncomputable def lbC (c:RowC)(ss:List (Int×Int)):Option Int:=match sJ c with
 | none=>none
 | some e=>lbL e.1 e.2 ss
theorem Hr {lo hi:Int}:∀{ss:List (Int×Int)},(∀s,s∈ss->s.1<=s.2)->(lbL lo hi ss=none ↔ ∀n,cov ss n->lo<=n/\n<=hi)
 | [],_=>⟨fun _ n q=>absurd q FT,fun _=>rfl⟩
 | s::ss,hn=>by
  have h1:=hn s (AM ..);unfold lbL;by_cases c1:s.1<lo
  ·rw[if_pos c1];exact⟨fun q=>(by cases q),fun q=>by have:=(q s.1 (fY.mpr (.inl ⟨CS _,h1⟩))).1;omega⟩
  rw[if_neg c1];by_cases c2:s.2>hi
  ·rw[if_pos c2];exact⟨fun q=>(by cases q),fun q=>by have:=(q s.2 (fY.mpr (.inl ⟨h1,CS _⟩))).2;omega⟩
  rw[if_neg c2,Hr fun t m=>hn t (AH _ m)];constructor
  ·intro q n hc;rcases fY.mp hc with hc|hc
   ·omega
   exact q n hc
  exact fun q n hc=>q n (fY.mpr (.inr hc))
theorem Hq {lo hi m:Int}:∀{ss:List (Int×Int)},Gap ss->lbL lo hi ss=some m->cov ss m/\¬(lo<=m/\m<=hi)/\∀n,cov ss n->¬(lo<=n/\n<=hi)->m<=n
 | [],_,h=>(by cases h)
 | s::ss,hg,h=>by
  have h1:=hg.ne s (AM ..);have hu:=CF.mp hg.up;have lat:∀n,cov ss n->s.2<n:=fun n ⟨t,mt,q,_⟩=>by have:=hu.1 t mt;omega
  unfold lbL at h;by_cases c1:s.1<lo
  ·rw[if_pos c1] at h;cases h;refine⟨fY.mpr (.inl ⟨CS _,h1⟩),ω,fun n hc _=>?_⟩;rcases fY.mp hc with hc|hc
   ·exact hc.1
   have:=lat n hc;omega
  rw[if_neg c1] at h;by_cases c2:s.2>hi
  ·rw[if_pos c2] at h;cases h;refine⟨fY.mpr (.inl ⟨ω,ω⟩),ω,fun n hc hn=>?_⟩;rcases fY.mp hc with hc|hc
   ·omega
   have:=lat n hc;omega
  rw[if_neg c2] at h;obtain⟨q1,q2,q3⟩:=Hq ⟨fun t mt=>hg.ne t (AH _ mt),hu.2⟩ h;refine⟨fY.mpr (.inr q1),q2,fun n hc hn=>?_⟩;rcases fY.mp hc with hc|hc
  ·omega
  exact q3 n hc hn
theorem nP {c:RowC}{o:Int}(hp:d7 c=false):∀n,(∀e,sJ c=some e->e.1<=n/\n<=e.2)↔cF c o n≠none:=by
 intro n;cases c with
 | pik l=>cases hp
 | msk lo wd bits t=>
  show(∀e,some (lo,lo+wd-1)=some e->_)↔(if 0<=n-lo/\n-lo<wd then some (if bitAt bits (n-lo)=true then t else o+1) else none)≠none;constructor
  ·intro h;have:=h _ rfl;have h1:lo<=n:=this.1;have h2:n<=lo+wd-1:=this.2;rw[if_pos ω];simp
  intro h e he;cases he;split at h
  ·exact⟨by show lo<=n;omega,by show n<=lo+wd-1;omega⟩
  exact absurd rfl h
 | tab lo gs=>
  show(∀e,some (lo,lo+(gs.length:Int)-1)=some e->_)↔(if 0<=n-lo/\n-lo<gs.length then gs[(n-lo).toNat]? else none)≠none;constructor
  ·intro h;have:=h _ rfl;have h1:lo<=n:=this.1;have h2:n<=lo+(gs.length:Int)-1:=this.2;rw[if_pos ω,AC ω];simp
  intro h e he;cases he;split at h
  ·exact⟨by show lo<=n;omega,by show n<=lo+(gs.length:Int)-1;omega⟩
  exact absurd rfl h
 | _=>exact⟨fun _=>by simp [cF],fun _ e he=>by cases he⟩
theorem Ux {c:RowC}{ss:List (Int×Int)}{o:Int}(hp:d7 c=false)(hn:∀s,s∈ss->s.1<=s.2):lbC c ss=none ↔ ∀n,cov ss n->cF c o n≠none:=by
 unfold lbC;cases he:sJ c with
 | none=>exact⟨fun _ n _=>(nP (o:=o) hp n).mp fun e q=>(by rw[he] at q;cases q),fun _=>rfl⟩
 | some e=>
  show lbL e.1 e.2 ss=none↔_;rw[Hr hn];constructor
  ·intro q n hc;exact(nP (o:=o) hp n).mp fun e' q'=>by rw[he] at q';cases q';exact q n hc
  intro q n hc;exact(nP (o:=o) hp n).mpr (q n hc) e he
structure WI (ss os:List (Int×Int))(i k:Nat):Prop where
 ins:∀n,cov (ss.take i) n->cov os n
 pre:∀o,o∈os.take k->∀s,s∈ss.drop i->o.2<s.2
 le:k<=os.length
inductive bQ {α:Type}(en:α->List V)(H:Hp):List V->List α->Prop
 | nil:bQ en H [] []
 | cons {p:Addr} {x:α} {us:List V} {xs:List α}:H p=some (.tup (en x))->bQ en H us xs->bQ en H (.ref p::us) (x::xs)
section
variable {α:Type}{en:α->List V}{H H':Hp}
theorem bQ.length:∀{us:List V}{xs:List α},bQ en H us xs->us.length=xs.length
 | _,_,.nil=>rfl
 | _,_,.cons _ t=>by rw[Be,Be,t.length]
theorem bQ.keep:∀{us:List V}{xs:List α},bQ en H us xs->(∀p ys,H p=some (.tup ys)->H' p=some (.tup ys))->bQ en H' us xs
 | _,_,.nil,_=>.nil
 | _,_,.cons e t,k=>.cons (k _ _ e) (t.keep k)
theorem bQ.same {us:List V}{xs:List α}(h:bQ en H us xs)(s:Same H H'):bQ en H' us xs:=h.keep fun p ys e=>s _ _ e
theorem bQ.Iw {us:List V}{xs:List α}(h:bQ en H us xs){l:Addr}{ys:List V}{o:HO}(e:H l=some (.lst ys)):bQ en (upd H l o) us xs:=h.keep fun p zs ep=>by
 rw[aH (fun z=>by rw[z,e] at ep;cases ep)];exact ep
theorem bQ.Nr {us:List V}{xs:List α}(h:bQ en H us xs){l:Addr}{o:HO}(e:H l=none):bQ en (upd H l o) us xs:=h.same (aA e)
theorem bQ.get:∀{us:List V}{xs:List α},bQ en H us xs->∀{i:Nat}{x:α},xs[i]?=some x->∃p,us[i]?=some (.ref p)/\H p=some (.tup (en x))
 | _,_,.nil,_,_,h=>by cases h
 | _,_,.cons (p:=p) e t,0,_,h=>by cases h;exact⟨p,rfl,e⟩
 | _,_,.cons e t,i+1,_,h=>t.get (i:=i) h
theorem bQ.got:∀{us:List V}{xs:List α},bQ en H us xs->∀{i:Nat}{u:V},us[i]?=some u->∃p x,u=.ref p/\xs[i]?=some x/\H p=some (.tup (en x))
 | _,_,.nil,_,_,h=>by cases h
 | _,_,.cons (p:=p) e t,0,_,h=>by cases h;exact⟨p,_,rfl,rfl,e⟩
 | _,_,.cons e t,i+1,_,h=>t.got (i:=i) h
theorem bQ.app:∀{us vs:List V}{xs ys:List α},bQ en H us xs->bQ en H vs ys->bQ en H (us++vs) (xs++ys)
 | _,_,_,_,.nil,k=>k
 | _,_,_,_,.cons e t,k=>.cons e (t.app k)
theorem bQ.snoc {us:List V}{xs:List α}(h:bQ en H us xs){p:Addr}{x:α}(e:H p=some (.tup (en x))):bQ en H (us++[.ref p]) (xs++[x]):=h.app (.cons e .nil)
theorem bQ.split:∀{xs:List α}{us:List V}{x:α},bQ en H us (xs++[x])->∃vs p,us=vs++[.ref p]/\bQ en H vs xs/\H p=some (.tup (en x))
 | [],us,x,h=>by
  cases h with
  | cons e t=>cases t;exact⟨[],_,rfl,.nil,e⟩
 | y::xs,us,x,h=>by
  cases h with
  | cons e t=>
   obtain⟨vs,p,rfl,k,ep⟩:=bQ.split t;exact⟨_::vs,p,rfl,.cons e k,ep⟩
theorem bQ.refs:∀{us:List V}{xs:List α},bQ en H us xs->∃ps:List Addr,us=ps.map V.ref
 | _,_,.nil=>⟨[],rfl⟩
 | _,_,.cons (p:=p) e t=>by
  obtain⟨ps,rfl⟩:=t.refs;exact⟨p::ps,rfl⟩
theorem bQ.read {dec:Addr->α}:∀{ps:List Addr}{xs:List α},bQ en H (ps.map V.ref) xs->(∀p x,H p=some (.tup (en x))->dec p=x)->xs=ps.map dec/\∀p,p∈ps->H p=some (.tup (en (dec p)))
 | [],xs,h,_=>by cases h;exact⟨rfl,fun p m=>by cases m⟩
 | p::ps,xs,h,hd=>by
  cases h with
  | cons e t=>
   obtain⟨e1,e2⟩:=bQ.read t hd;have ep:=hd _ _ e;refine⟨by rw[Dx,ep,<- e1],fun q m=>?_⟩;rcases AO.mp m with rfl|m
   ·rw[ep];exact e
   exact e2 q m
theorem bQ.of_map {dec:Addr->α}:∀{ps:List Addr},(∀p,p∈ps->H p=some (.tup (en (dec p))))->bQ en H (ps.map V.ref) (ps.map dec)
 | [],_=>.nil
 | p::ps,h=>.cons (h p (AM ..)) (bQ.of_map fun q m=>h q (AH _ m))
end
noncomputable def prE (s:Int×Int):List V:=[.int s.1,.int s.2]
noncomputable def trE (w:Int×Int×Int):List V:=[.int w.1,.int w.2.1,.int w.2.2]
noncomputable def Jv (H:Hp)(p:Addr):Int×Int:=match H p with
 | some (.tup [.int a,.int b])=>(a,b)
 | _=>(0,0)
theorem Xo {H:Hp}(p:Addr)(x:Int×Int)(h:H p=some (.tup (prE x))):Jv H p=x:=by
 unfold Jv;rw[h];rfl
theorem Nh {α:Type}(xs:List α)(x:α):atI (xs++[x]) (-1)=some x:=by
 unfold atI ixN;rw[if_neg δ,if_pos (by rw[AR,A9];omega)];show(xs++[x])[(-1+((xs++[x]).length:Int)).toNat]?=_;rw[show(-1+((xs++[x]).length:Int)).toNat=xs.length by rw[AR,A9];omega];rw[BH (A6 _),HH];rfl
theorem Mq {α:Type}(xs:List α)(x:α):ixN (xs++[x]).length (-1)=some xs.length:=by
 unfold ixN;rw[if_neg δ,if_pos (by rw[AR,A9];omega)];rw[AR,A9];congr 1;omega
theorem Gy {α:Type}(xs:List α)(x y:α):(xs++[x]).set xs.length y=xs++[y]:=by
 rw[List.set_append_right _ _ (A6 _),HH];rfl
noncomputable def Ry:Sp:=fun vs H Q _=>∃(l:Addr)(us:List V)(ss:List (Int×Int)),vs=[.ref l]/\H l=some (.lst us)/\bQ prE H us ss/\Dis ss/\ss.length<64 /\
 ∀(r:Addr)(H':Hp)(us':List V)(ys:List (Int×Int)),Same H H'->H r=none->H' r=some (.lst us')->bQ prE H' us' ys->Gap ys->(∀n,cov ys n↔cov ss n)->(∀s,s∈ys->∃z,z∈ss/\z.1=s.1)->ys.length<=ss.length->Q (.ref r) H'
noncomputable def Gs:Sp:=fun vs H Q _=>∃(g:Addr)(first:Int)(gs:List Int),vs=[.int first,.ref g]/\(H g=some (.tup (gs.map V.int))\/H g=some (.lst (gs.map V.int)))/\-(2^62)<=first/\first<2^62/\gs.length<=1000000 /\
 ∀(r:Addr)(H':Hp)(us:List V)(ws:List (Int×Int×Int)),Same H H'->H r=none->H' r=some (.lst us)->bQ trE H' us ws->oZ first gs ws gs.length->Q (.ref r) H'
noncomputable def Lb:Sp:=fun vs H Q _=>∃(x:V)(at_ lo wd bits t:Int),vs=[x,.int at_]/\qH H x (.msk lo wd bits t)/\1<=wd/\wd<=64/\0<=bits /\
 ∀(r:Addr)(H':Hp),Same H H'->H r=none->H' r=some (.lst ((Ab at_ wd bits t).map V.int))->Q (.ref r) H'
noncomputable def bdC:RowC->Prop
 | .msk lo _ _ _=>-(2^62)<=lo/\lo<2^62
 | .tab lo gs=>-(2^62)<=lo/\lo<2^62/\gs.length<=1000
 | _=>True
noncomputable def Rq:Sp:=fun vs H Q _=>∃(x:V)(c:RowC)(m j:Nat)(lo hi:Int),vs=[x,.int (j:Int),.int lo,.int hi]/\qH H x c/\qG m j c/\xu c/\bdC c /\
 ∀(r:Addr)(H':Hp)(us:List V)(ws:List (Int×Int×Int)),Same H H'->H r=none->H' r=some (.lst us)->bQ trE H' us ws->Gg m c j lo hi ws->ws.length<=1000000->Q (.ref r) H'
structure RAt (H:Hp)(lr:Addr)(ps:List Addr)(X:Nat->List (Int×Int)):Prop where
 e:H lr=some (.lst (ps.map V.ref))
 nr:lr∉ps
 nd:ps.Nodup
 el:∀(j:Nat) p,ps[j]?=some p->∃us,H p=some (.lst us)/\bQ prE H us (X j)
theorem RAt.same {H H':Hp}{lr:Addr}{ps:List Addr}{X:Nat->List (Int×Int)}(h:RAt H lr ps X)(s:Same H H'):RAt H' lr ps X:=
 ⟨s _ _ h.e,h.nr,h.nd,fun j p hp=>by
  obtain⟨us,e,t⟩:=h.el j p hp;exact⟨us,s _ _ e,t.same s⟩⟩
theorem Zn {α:Type}{ps:List α}(h:ps.Nodup){i j:Nat}{p q:α}(hi:ps[i]?=some p)(hj:ps[j]?=some q)(n:i≠j):p≠q:=fun e=>by
 obtain⟨li,ei⟩:=AG.mp hi;obtain⟨lj,ej⟩:=AG.mp hj;exact n ((getElem_inj (h₀:=li) (h₁:=lj) h).mp (by rw[ei,ej,e]))
theorem RAt.push {H:Hp}{lr:Addr}{ps:List Addr}{X:Nat->List (Int×Int)}(h:RAt H lr ps X){g:Nat}{p q:Addr}{us:List V}{s:Int×Int}(hp:ps[g]?=some p)(e:H p=some (.lst us))(eq:H q=some (.tup (prE s))) :
  RAt (upd H p (.lst (us++[.ref q]))) lr ps fun j=>X j++(if j=g then [s] else []):=by
 have np:∀{b:Addr}{ys:List V},H b=some (.tup ys)->b≠p:=fun eb z=>by rw[z,e] at eb;cases eb
 have mp:p∈ps:=A2 hp;refine⟨by rw[aH (show lr≠p from fun z=>h.nr (z ▸ mp))];exact h.e,h.nr,h.nd,fun j b hb=>?_⟩;obtain⟨us',e',t⟩:=h.el j b hb;by_cases c:j=g
 ·subst c;rw[hp] at hb;cases hb;rw[e] at e';cases e';refine⟨_,au,?_⟩;rw[if_pos rfl];exact(t.Iw e).snoc (by rw[aH (np eq)];exact eq)
 rw[if_neg c,C4];exact⟨us',by rw[aH (Zn h.nd hb hp c)];exact e',t.Iw e⟩
theorem RAt.put {H:Hp}{lr:Addr}{ps:List Addr}{X:Nat->List (Int×Int)}(h:RAt H lr ps X){k:Nat}{r:Addr}{us:List V}{ys:List (Int×Int)}(hk:k<ps.length)(hr:r∉ps)(hl:lr≠r)(e:H r=some (.lst us))(t:bQ prE H us ys) :
  RAt (upd H lr (.lst ((ps.set k r).map V.ref))) lr (ps.set k r) fun j=>if j=k then ys else X j:=by
 refine⟨au,fun m=>?_,?_,fun j p hp=>?_⟩
 ·rcases List.mem_or_eq_of_mem_set m with m|m
  ·exact h.nr m
  exact hl m
 ·refine List.pairwise_iff_getElem.mpr fun i j hi hj hij=>?_;rw[length_set] at hi hj;rw[List.getElem_set,List.getElem_set];have m1:ps[i]∈ps:=DS hi;have m2:ps[j]∈ps:=DS hj;split
  ·rw[if_neg ω];exact fun z=>hr (z ▸ m2)
  split
  ·exact fun z=>hr (z ▸ m1)
  exact fun z=>absurd ((getElem_inj h.nd).mp z) ω
 by_cases c:j=k
 ·subst c;rw[FA hk] at hp;cases hp;rw[if_pos rfl];exact⟨us,by rw[aH hl.symm];exact e,t.Iw h.e⟩
 rw[Iq (Ch c)] at hp;rw[if_neg c];obtain⟨us',e',t'⟩:=h.el j p hp;have:p≠lr:=fun z=>h.nr (z ▸ A2 hp);exact⟨us',by rw[aH this];exact e',t'.Iw h.e⟩
noncomputable def lG (ps:List Addr)(H H':Hp):Prop:=∀b o,b∉ps->H b=some o->H' b=some o
theorem lG.refl (ps:List Addr)(H:Hp):lG ps H H:=fun _ _ _ h=>h
theorem lG.trans {ps:List Addr}{H H1 H2:Hp}(a:lG ps H H1)(b:lG ps H1 H2):lG ps H H2:=fun c o n h=>b c o n (a c o n h)
theorem Same.p {ps:List Addr}{H H':Hp}(h:Same H H'):lG ps H H':=fun b o _ q=>h b o q
theorem lG.upd {ps:List Addr}{H:Hp}{p:Addr}{o:HO}(m:p∈ps):lG ps H (upd H p o):=fun b u n h=>by rw[aH (show b≠p from fun z=>n (z ▸ m))];exact h
noncomputable def Ru:Sp:=fun vs H Q _=>∃(lr ls lw:Addr)(ps:List Addr)(X:Nat->List (Int×Int)) (us uw:List V) (ss:List (Int×Int)) (ws:List (Int×Int×Int)),vs=[.ref lr,.ref ls,.ref lw]/\RAt H lr ps X/\H ls=some (.lst us)/\bQ prE H us ss/\H lw=some (.lst uw)/\bQ trE H uw ws/\lw∉ps /\
 (∀w,w∈ws->0<=w.2.2/\w.2.2<ps.length/\∀p,ps[w.2.2.toNat]?=some p->p≠ls)/\(∀j,(X j).length+ss.length+ws.length<2000000) /\
 ∀(H':Hp),lG ps H H'->RAt H' lr ps (fun j=>X j++newOf (iH (ss.length+ws.length) ss ws) (j:Int))->Q .non H'
noncomputable def Jj:Sp:=fun vs H Q _=>∃(l:Addr)(ok:Addr->Prop)(cs:List RowC)(low high:Int),vs=[.ref l,.int low,.int high]/\aK ok H (.ref l) (.list (cs.map gH))/\fj cs/\(∀c,c∈cs->xu c/\bdC c)/\low<=high/\Qy cs low high /\
 ∀(r:Addr)(ps:List Addr)(X:Nat->List (Int×Int)) (H':Hp),Same H H'->H r=none->(∀p,p∈ps->H p=none)->RAt H' r ps X->ps.length=cs.length->CI cs low high X cs.length->Q (.ref r) H'
noncomputable def Ld:Sp:=fun vs H Q _=>∃(x:V)(c:RowC)(ls:Addr)(us:List V)(ss:List (Int×Int)),vs=[x,.ref ls]/\qH H x c/\H ls=some (.lst us)/\bQ prE H us ss/\∀H',Same H H'->Q (Ez (lbC c ss)) H'
noncomputable def Li:Sp:=fun vs H Q _=>∃(l r:Addr)(ok:Addr->Prop)(cs:List RowC)(ps:List Addr)(X:Nat->List (Int×Int)),vs=[.ref l,.ref r]/\aK ok H (.ref l) (.list (cs.map gH))/\RAt H r ps X/\ps.length=cs.length /\
 (∀H',Same H H'->(∀(j:Nat) c,cs[j]?=some c->lbC c (X j)=none)->Q .non H') /\
 ∀(p:Addr)(H':Hp)(j:Nat)(c:RowC)(n:Int),Same H H'->H p=none->H' p=some (.tup [.int (j:Int),.int n])->cs[j]?=some c->lbC c (X j)=some n->(∀i c,i<j->cs[i]?=some c->lbC c (X i)=none)->Q (.ref p) H'
section
variable {α:Type}{en:α->List V}{H:Hp}
theorem bQ.push {us:List V}{xs:List α}{r q:Addr}(t:bQ en H us xs)(x:α)(er:H r=some (.lst us))(hq:H q=none):bQ en (upd (upd H q (.tup (en x))) r (.lst (us++[.ref q]))) (us++[.ref q]) (xs++[x]):=by
 have nq:r≠q:=aF er hq;have er1:upd H q (.tup (en x)) r=some (.lst us):=by rw[aH nq];exact er
 exact((t.Nr hq).Iw er1).snoc (by rw[aH nq.symm];exact au)
theorem bQ.swap {us:List V}{xs:List α}{r q p:Addr}(t:bQ en H us xs)(x:α)(er:H r=some (.lst (us++[.ref p])))(hq:H q=none):bQ en (upd (upd H q (.tup (en x))) r (.lst (us++[.ref q]))) (us++[.ref q]) (xs++[x]):=by
 have nq:r≠q:=aF er hq;have er1:upd H q (.tup (en x)) r=some (.lst (us++[.ref p])):=by rw[aH nq];exact er
 exact((t.Nr hq).Iw er1).snoc (by rw[aH nq.symm];exact au)
end
theorem Mi {α:Type}(us:List α)(x:α):(us++[x]).isEmpty=false:=by cases us <;> rfl
theorem kj {H H':Hp}{r q:Addr}{o u:HO}(s:Same H H')(hr:H r=none)(hq:H' q=none):Same H (upd (upd H' q o) r u):=dR (s.trans (aA hq)) hr
theorem Ef {H:Hp}{r q d:Addr}{o u v:HO}(e:H d=some v)(n:d≠r)(hq:H q=none):upd (upd H q o) r u d=some v:=by
 rw[aH n,aH (aF e hq)];exact e
theorem Y9 (bits p:Int):(A7.bitAnd (bits/2^p.toNat) 1 != 0)=bitAt bits p:=by
 unfold bitAt;generalize bits/2^p.toNat=x;have h:A7.bitAnd x 1=0\/A7.bitAnd x 1=1:=by rw[Nj];omega
 rcases h with h|h <;> rw[h] <;> rfl
theorem Gk {c:RowC}(h:j6 c = "pick"):∃l,c=.pik l:=by
 cases c with
 | one n t=>exact(cast JG h).elim
 | rng a b t=>exact(cast zu h).elim
 | low n t=>exact(cast Bt h).elim
 | msk l wd bits t=>exact(cast Fb h).elim
 | tab l gs=>exact(cast Br h).elim
 | pik l=>exact⟨l,rfl⟩
theorem w6 {c:RowC}(h:j6 c = "table"):∃l gs,c=.tab l gs:=by
 cases c with
 | one n t=>exact(cast xH h).elim
 | rng a b t=>exact(cast oO h).elim
 | low n t=>exact(cast pW h).elim
 | msk l wd bits t=>exact(cast rT h).elim
 | tab l gs=>exact⟨l,gs,rfl⟩
 | pik l=>exact(cast Bs h).elim
theorem xg {c:RowC}(h:j6 c = "mask"):∃l wd bits t,c=.msk l wd bits t:=by
 cases c with
 | one n t=>exact(cast zA h).elim
 | rng a b t=>exact(cast pR h).elim
 | low n t=>exact(cast Bu h).elim
 | msk l wd bits t=>exact⟨l,wd,bits,t,rfl⟩
 | tab l gs=>exact(cast rQ h).elim
 | pik l=>exact(cast uT h).elim
theorem Gm {c:RowC}(h:j6 c = "below"):∃n t,c=.low n t:=by
 cases c with
 | one n t=>exact(cast xJ h).elim
 | rng a b t=>exact(cast oR h).elim
 | low n t=>exact⟨n,t,rfl⟩
 | msk l wd bits t=>exact(cast rW h).elim
 | tab l gs=>exact(cast pU h).elim
 | pik l=>exact(cast rR h).elim
noncomputable def ctC:RowC->Int->Prop
 | .one a _,n=>n=a\/n=a+1
 | .rng a b _,n=>n=a\/n=b+1
 | .low a _,n=>n=a
 | .msk lo wd _ _,n=>lo<=n/\n<=lo+wd
 | .tab lo gs,n=>lo<=n/\n<=lo+gs.length
 | .pik _,_=>False
structure LC (cs:List RowC)(low a b:Int)(js:List Int)(X:Nat->List (Int×Int)):Prop where
 gap:∀j,Gap (X j)
 cv:∀(j:Nat) n,cov (X j) n↔(low<=n/\n<a/\Cm cs n j)\/(a<=n/\n<=b/\(j:Int)∈js)
structure Cuts (cs:List RowC)(low high:Int)(ns:List Int):Prop where
 up:ns.Pairwise (· < ·)
 hd:ns[0]?=some low
 rg:∀m,m∈ns->low<=m/\m<=high
 al:∀c,c∈cs->∀m,ctC c m->low<=m->m<=high->m∈ns
structure JW (zs told:List (Int×Int))(i:Nat):Prop where
 gap:Gap told
 cv:∀n,cov told n↔cov (zs.take i) n
 be:∀t,t∈told->∀z,z∈zs.drop i->t.1<=z.1
 fs:∀t,t∈told->∃z,z∈zs/\z.1=t.1
 ln:told.length<=i
noncomputable def acz (w s:Int)(ys:List (Int×Int)):Prop:=∀y,y∈ys->wl w s<=y.1/\y.1<=y.2/\y.2<wl w s+2^w.toNat
structure CSp (w s:Int)(its:List It1)(ys:List (Int×Int)):Prop where
 gap:Gap ys
 ins:acz w s ys
 cv:∀n,U3 w s n->(cov ys n↔its.any (Tf w n)=true)
 ln:ys.length<=128*its.length
structure GSp (w s:Int)(its:List It1)(ys:List (Int×Int)):Prop where
 ins:acz w s ys
 cv:∀n,U3 w s n->(cov ys n↔its.any (Tf w n)=true)
 ln:ys.length<=128*its.length
noncomputable def prD (s:Int×Int):Bz:=.tuple [.int s.1,.int s.2]
noncomputable def Bad (cs:List RowC)(n:Int)(j:Nat):Prop:=Cm cs n j/\∃c,cs[j]?=some c/\d7 c=false/\cF c (j:Int) n=none
theorem Lq {cs:List RowC}{n:Int}(hr:fj cs):∀(k j:Nat),j<cs.length->cs.length<=j+k->∀(y:Nat) c,(y:Int)∈(runC cs n k j).2->cs[y]?=some c->d7 c=false->cF c (y:Int) n=none->(runC cs n k j).1=none/\(runC cs n k j).2.getLast?=some (y:Int)
 | 0,j,h1,h2=>by omega
 | k+1,j,h1,h2=>by
  intro y c my hy hp hs;have hc:cs[((j:Nat):Int).toNat]?=some cs[j]:=by rw[DD];exact AC h1
  have hcj:cs[j]?=some cs[j]:=AC h1;cases hq:d7 cs[j] with
  | true=>
   obtain⟨l,e⟩:∃l,cs[j]=.pik l:=by
    cases e:cs[j] with
    | pik l=>exact⟨l,rfl⟩
    | _=>rw[e] at hq;cases hq
   rw[e] at hc hcj;rw[pK hc] at my;have:y=j:=by have:=Au.mp my;omega
   subst this;rw[hcj] at hy;cases hy;cases hp
  | false=>
   cases ht:cF cs[j] (j:Int) n with
   | none=>
    rw[yI hc hq ht] at my |-;have:y=j:=by have:=Au.mp my;omega
    rw[this];exact⟨rfl,rfl⟩
   | some t=>
    obtain⟨b1,b2⟩:=mU hr hcj ht;obtain⟨u,rfl⟩:=EH (show 0<=t by omega);rw[uM hc hq ht] at my |-;rcases AO.mp my with e|m
    ·have:y=j:=by omega
     subst this;rw[hcj] at hy;cases hy;rw[ht] at hs;cases hs
    obtain⟨q1,q2⟩:=Lq hr k u ω ω y c m hy hp hs;refine⟨q1,?_⟩;show((j:Int)::_).getLast?=_;rw[List.getLast?_cons,q2];rfl
theorem Bad.run {cs:List RowC}{n:Int}{j:Nat}(hr:fj cs)(h:Bad cs n j):(runOf cs n).1=none/\(runOf cs n).2.getLast?=some (j:Int):=by
 obtain⟨m,c,hc,hp,hs⟩:=h;exact Lq hr cs.length 0 hr.1 ω j c m hc hp hs
theorem abu {cs:List RowC}{n:Int}(hr:fj cs)(h:(runOf cs n).1=none):∃j,Bad cs n j:=by
 rcases(uQ (n:=n) hr).en with⟨y,l,_,_,e⟩|⟨y,c,m,hc,hp,hs,_⟩
 ·rw[h] at e;cases e
 exact⟨y,m,c,hc,hp,hs⟩
theorem Bad.sole {cs:List RowC}{n:Int}{i j:Nat}(hr:fj cs)(h:Bad cs n i)(k:Bad cs n j):i=j:=by
 have:=(h.run hr).2.symm.trans (k.run hr).2;have:=AV this;omega
noncomputable def yc (cs:List RowC)(low high:Int):Option (Int×Int)->Prop
 | none=>∀n (j:Nat),low<=n->n<=high->¬Bad cs n j
 | some s=>(∃j:Nat,s.1=(j:Int)/\low<=s.2/\s.2<=high/\Bad cs s.2 j)/\∀n (j:Nat),low<=n->n<=high->Bad cs n j->LeP s ((j:Int),n)
theorem yc.one {cs:List RowC}{low high:Int}{o u:Option (Int×Int)}(h:yc cs low high o)(k:yc cs low high u):o=u:=by
 cases o with
 | none=>
  cases u with
  | none=>rfl
  | some t=>
   obtain⟨⟨j,_,h1,h2,b⟩,_⟩:=k;exact absurd b (h _ j h1 h2)
 | some s=>
  obtain⟨⟨j,e,h1,h2,b⟩,l⟩:=h;cases u with
  | none=>exact absurd b (k _ j h1 h2)
  | some t=>
   obtain⟨⟨i,e',h1',h2',b'⟩,l'⟩:=k;have a1:=l _ i h1' h2' b';have a2:=l' _ j h1 h2 b;rw[<- e'] at a1;rw[<- e] at a2;unfold LeP at a1 a2;have:s=t:=Prod.ext ω ω;rw[this]
structure BLi (cs:List RowC)(S:Int->Prop)(L:List (Int×Int)):Prop where
 fr:∀s,s∈L->∃j:Nat,s.1=(j:Int)/\S s.2/\Bad cs s.2 j
 al:∀n (j:Nat),S n->Bad cs n j->((j:Int),n)∈L
theorem BLi.bey {cs:List RowC}{S:Int->Prop}{L:List (Int×Int)}{low high:Int}(h:BLi cs S L)(hs:∀n,S n->low<=n/\n<=high)(hc:∀n (j:Nat),low<=n->n<=high->Bad cs n j->∃b,S b/\b<=n/\Bad cs b j):(L=[]->yc cs low high none)/\∀c,c∈L->(∀c',c'∈L->LeP c c')->yc cs low high (some c):=by
 refine⟨fun e n j h1 h2 b=>?_,fun c m hm=>⟨?_,fun n j h1 h2 b=>?_⟩⟩
 ·obtain⟨b',q,_,w⟩:=hc n j h1 h2 b;have:=h.al b' j q w;rw[e] at this;cases this
 ·obtain⟨j,e,q,b⟩:=h.fr c m;exact⟨j,e,(hs _ q).1,(hs _ q).2,b⟩
 obtain⟨b',q,w1,w⟩:=hc n j h1 h2 b;have:=hm _ (h.al b' j q w);unfold LeP at this |-;show c.1<(j:Int)\/c.1=(j:Int)/\c.2<=n;replace this:c.1<(j:Int)\/c.1=(j:Int)/\c.2<=b':=this;omega
theorem Uw {c:RowC}{ss:List (Int×Int)}{o m:Int}(g:Gap ss)(h:lbC c ss=some m):d7 c=false/\cov ss m/\cF c o m=none/\∀n,cov ss n->cF c o n=none->m<=n:=by
 have hp:d7 c=false:=by cases c <;> first|rfl|cases h
 unfold lbC at h;cases he:sJ c with
 | none=>rw[he] at h;cases h
 | some e=>
  rw[he] at h;obtain⟨q1,q2,q3⟩:=Hq g h;refine⟨hp,q1,?_,fun n cn sn=>q3 n cn fun w=>?_⟩
  ·cases hs:cF c o m with
   | none=>rfl
   | some t=>exact absurd ((nP (o:=o) hp m).mpr (by rw[hs];exact fun z=>(by cases z)) e he) q2
  exact absurd sn ((nP (o:=o) hp n).mp fun e' q'=>by rw[he] at q';cases q';exact w)
theorem CI.bad {cs:List RowC}{low high:Int}{X:Nat->List (Int×Int)}(h:CI cs low high X cs.length){j:Nat}{c:RowC}(hc:cs[j]?=some c)(e:lbC c (X j)=none){n:Int}(h1:low<=n)(h2:n<=high):¬Bad cs n j:=by
 rintro⟨m,c',hc',hp,hs⟩;rw[hc] at hc';cases hc';have lj:=(AG.mp hc).1;exact(Ux (o:=(j:Int)) hp fun s ms=>(h.dn j lj).ne s ms).mp e n ((h.dc j n lj).mpr ⟨h1,h2,m⟩) hs
theorem CI.acV {cs:List RowC}{low high:Int}{X:Nat->List (Int×Int)}(h:CI cs low high X cs.length)(e:∀(j:Nat) c,cs[j]?=some c->lbC c (X j)=none):yc cs low high none:=fun n j h1 h2 b=>by
 obtain⟨_,c,hc,_⟩:=id b;exact h.bad hc (e j c hc) h1 h2 b
theorem CI.acU {cs:List RowC}{low high:Int}{X:Nat->List (Int×Int)}(h:CI cs low high X cs.length){j:Nat}{c:RowC}{n:Int}(hc:cs[j]?=some c)(e:lbC c (X j)=some n)(he:∀i c,i<j->cs[i]?=some c->lbC c (X i)=none):yc cs low high (some ((j:Int),n)):=by
 have lj:=(AG.mp hc).1;obtain⟨hp,cn,sn,le⟩:=Uw (o:=(j:Int)) (h.dn j lj) e;obtain⟨h1,h2,m⟩:=(h.dc j n lj).mp cn;refine⟨⟨j,rfl,h1,h2,m,c,hc,hp,sn⟩,fun n' j' h1' h2' b=>?_⟩;obtain⟨m',c',hc',hp',sn'⟩:=id b;rcases Nat.lt_trichotomy j j' with z|z|z
 ·exact .inl (by show(j:Int)<(j':Int);omega)
 ·subst z;rw[hc] at hc';cases hc';exact .inr ⟨rfl,le n' ((h.dc j n' lj).mpr ⟨h1',h2',m'⟩) sn'⟩
 exact absurd b (h.bad hc' (he j' c' z hc') h1' h2')
noncomputable def acM:Option (Int×Int)->Bz
 | none=>.none
 | some s=>prD s
theorem bQ.pr {H:Hp}{ads:List Addr}{L:List (Int×Int)}(h:bQ prE H (ads.map V.ref) L){j:Nat}{t:Addr}{c:Int×Int}(h1:ads[j]?=some t)(h2:L[j]?=some c):H t=some (.tup [.int c.1,.int c.2]):=by
 obtain⟨p,z,e1,e2,e3⟩:=h.got (i:=j) (u:=V.ref t) (by rw[A4,h1];rfl);cases e1;rw[h2] at e2;cases e2;exact e3
section
variable {M:Kk}{A:Bi}{E:An->AA->Prop}
variable {nm q nmD qD:Str}{C N D ND:Addr}{bs bm bsD bmD:List An}{hdct hdctD:Bool}{sn snD:List Str}{sub subD:List An}{ab abD:Bool}{col colD:Option Bool}{dd ddD:Option Addr}{k0 k1 k2 k3 k5 j0 j1 j2 j3 j5:Option An}{newId newIdD:String}
theorem YS {h:Heap}{g:Array Hn}{d:Drawn}{t:Nat}{os:OsState}{e:Addr}{oe:Obj}{Q:Bool->AA->Prop}
  (hC:h.get? C=some (F6 nm q C N bs bm hdct sn sub ab col dd k0 k1 k2 k3 k5 newId)) (he:h.get? e=some oe) (hcls:oe.cls=.ref C)
  (hbase:bm.contains (.type "BaseException")=true) (hq:Q true ⟨h,g,d,t,os⟩):AK M A (excMatches (.ref e) (.ref C)) Q E ⟨h,g,d,t,os⟩:=by
 have hcB:(An.ref C::bm).contains (.type "BaseException")=true:=by rw[Hm,hbase,HQ]
 have hcS:(An.ref C::bm).contains (.ref C)=true:=by rw[Hm,beq_self_eq_true,Bool.true_or]
 have f1:=tc_notTuple;have hT:(⟨h,g,d,t,os⟩:AA).TypeIs (.ref C) "type" := ⟨_,hC,rfl⟩;unfold excMatches
 repeat (any_goals (first|assumption|(with_reducible refine D9 he ?_;rw[hcls])|with_reducible refine D9 hC ?_|(with_reducible refine Gc hC ?_;first|rw[hcB]|rw[hcS])|wp_step))
end
section
variable {X:Cx}{C D N fI ND:Addr}{dn n:Str}{i:Nat}{body suite:List Stmt}{b₀:Stmt}{np hpos pos:Pos}{tb:XK->TS}{ts:TS}
theorem Xi (hstk:X.stack=X.env::X.outer/\X.env.frame=some X.env.locals)(hN:X.N.Nodup)(hi:X.N[i]?=some n)(hk:X.env.scope.names.lookup n=some .local)(hg:Gl X dn)(hm:X.mg dn=some (.ref C))(XC:rK X.K C D N fI)
  (hbody:∀(E1:XK)(xe:An->AA->Prop)(pins:List (Addr×Obj)),qI (CX1 X.prog X.w) (Jf X pins xe) E1->PSs (Jf X pins xe) body (tb E1)) (hsuite:∀x,PSs (Mj X x) (b₀::suite) ts) (hdb:(dn == ("__debug__" : Str))=false:=by decide) :
  PS X (.Try body [.ExceptHandler (some (.Name dn np)) (some n) (b₀::suite) hpos] [] [] pos) (ZC C X.N.length i tb ts):=by
 intro pins s σ H Dn I h;obtain⟨nm,q',bs,sn,sub,ab,col,dd,k0,k1,k2,k3,k5,hC⟩:=XC.obj;refine wpAny_Try_except ?_;have hb:=hbody (Zf C X.N.length i ts Dn) (fun e s₁=>AK (AN X.prog X.w) X.A (HC e X.env) (fun _ s₂=>AK (AN X.prog X.w) X.A (Fs e none) (fun _ s₃=>AK (AN X.prog X.w) X.A (handleBy e X.env [.ExceptHandler (some (.Name dn np)) (some n) (b₀::suite) hpos]) (SP X pins Dn) X.xe s₃) X.xe s₂) X.xe s₁) pins ?_ [] s σ H Dn (YB I) h
 ·refine B5 hb (fun f s' hs=>?_) (fun e s' hs=>hs);cases f with
  | next=>exact AE (uz hs)
  | brk=>exact uz hs
  | cont=>exact uz hs
  | ret u=>exact uz hs
 intro pins' σ' H1 s1 e s2 I1 ⟨x,ox,vs,H2,he,L,hos,hgn,un,hok,hc,hts⟩;subst he;show AK (AN X.prog X.w) X.A (HC (.ref x) X.env) _ _ s2;refine Vu hstk (jX I1) L hc hos hgn un hok fun s3 T ox3 vs3 tts I3 n3=>?_;refine J9 (D:=C) ?_;refine GI I3.ok.kind hg (Calls.loadGlobal_global (by rw[I3.ok.glob];exact I3.mod.glob.keeps I3.bk) hm ⟨rfl,fun Q' A' E' q=>?_,?_⟩) hdb
 ·obtain⟨vx,sx,hx⟩:=(show ∃vs sl,_ from(I3.hok x _ au).1);obtain⟨hh,g,d,tk,os⟩:=s3;exact YS (I3.kIn _ _ hC) hx rfl (by rw[Hm,show vbm.contains (.type "BaseException")=true from rfl,HQ]) q
 refine Vf I3 n3 fun s4 I4=>mR I4 hN hi (.inl hk) (show RelV (.ref x) (.ref x) from rfl) (fun s5 I5=>?_) (.inr hk);have hs5:=hsuite x pins s5 _ _ (FQ i Dn) (UW I5) (hts x σ' (jX I1).len L.fre);refine B5 hs5 (fun f s6 hs=>?_) (fun e s6 z=>z.elim);cases f with
 | next=>
  obtain⟨σ6,H6,I6,q6⟩:=hs;exact yN (oH I5.ok I6) hN hi hk fun s7 I7=>⟨_,_,I7,q6⟩
 | brk=>
  obtain⟨σ6,H6,I6,q6⟩:=hs;exact yN (oH I5.ok I6) hN hi hk fun s7 I7=>⟨_,_,I7,q6⟩
 | cont=>
  obtain⟨σ6,H6,I6,q6⟩:=hs;exact yN (oH I5.ok I6) hN hi hk fun s7 I7=>⟨_,_,I7,q6⟩
 | ret u=>
  obtain⟨v,σ6,H6,I6,r6,q6⟩:=hs;exact yN (oH I5.ok I6) hN hi hk fun s7 I7=>⟨v,_,_,I7,r6,q6⟩
end
section
variable {P:AW}{w:BB}{K:AD}{mg:Str->Option An}{base:Heap}
variable {X:Cx}{k:Nat}{ps:List Str}{sp:Sp}{x f:Str}{p np apos cpos pos pos':Pos}{e o value:Expr}{es:List Expr}{t:TA}{E:XK}{C D N fI:Addr}{te ta tv:TE}
theorem W6 {dn n:Str}{i:Nat}{body suite:List Stmt}{b₀:Stmt}{hpos:Pos}{tb:XK->TS}{ts:TS}(hstk:X.stack=X.env::X.outer/\X.env.frame=some X.env.locals)(hN:X.N.Nodup)(hi:X.N[i]?=some n)(hk:X.env.scope.names.lookup n=some .local)(hg:Gl X dn)(hm:X.mg dn=some (.ref C))(XC:rK X.K C D N fI)
  (hbody:∀(E1:XK)(xe:An->AA->Prop)(pins:List (Addr×Obj)),qI (CX1 X.prog X.w) (Jf X pins xe) E1->QB (Jf X pins xe) body (tb E1)) (hsuite:∀x,QB (Mj X x) (b₀::suite) ts) (hdb:(dn == ("__debug__" : Str))=false:=by decide) :
  QS X (.Try body [.ExceptHandler (some (.Name dn np)) (some n) (b₀::suite) hpos] [] [] pos) (ZC C X.N.length i tb ts):=
 ⟨Xi hstk hN hi hk hg hm XC (fun E1 xe pins hp=>(hbody E1 xe pins hp).h) (fun x=>(hsuite x).h) hdb⟩
theorem Xa {K':AD}(hK:X.K=K')(XC:rK K' C D N fI)(he:QE X e ta)(hb:DC e f X.env (eval e X.env)=eval e X.env:=by rfl):QE X (.Attribute e f pos) (K7 K' C ta f):=by
 subst hK;exact W9 XC he hb
end
theorem yG {ss:Sts}(r:eY ss):∀(m a:Nat),a+m<ss.length->∀n:Int,(aL ss a).1<=n->n<=(aL ss (a+m)).2.1->∃k,a<=k/\k<=a+m/\(aL ss k).1<=n/\n<=(aL ss k).2.1
 | 0,a,h,n,h1,h2=>⟨a,A6 _,A6 _,h1,h2⟩
 | m+1,a,h,n,h1,h2=>by
  by_cases c:n<=(aL ss a).2.1
  ·exact⟨a,A6 _,ω,h1,c⟩
  have hx:=r.nx a _ _ (eE ω) (eE (k:=a+1) ω);obtain⟨k,q1,q2,q3⟩:=yG r m (a+1) ω n ω (by rw[show a+1+m=a+(m+1) by omega];exact h2);exact⟨k,ω,ω,q3⟩
theorem Ip {ss:Sts}(r:eY ss){base l:Int}{j:Nat}(hj:j<ss.length){n:Int}(h1:(aL ss j).1<=n)(h2:n<=(aL ss j).2.1)(hbn:base<=n):∀(left:List Nat)(acc:Nat),j∉left->left.Pairwise (· < ·) ->
  (∀k∈left,k<ss.length/\base<=(aL ss k).1/\acc<2^((aL ss k).1-base).toNat)->(jD ss base l acc left).testBit (n-base).toNat=acc.testBit (n-base).toNat
 | [],acc,_,_,_=>rfl
 | a::left,acc,hn,hp,h=>by
  obtain⟨ha,hb,hacc⟩:=h a AM;obtain⟨b1,b2,_⟩:=Nf r (l:=l) ha hb hacc;have hp':=CF.mp hp;have ih:=Ip r (base:=base) (l:=l) hj h1 h2 hbn left (acc+vN ss base l a) (fun z=>hn (AH _ z)) hp'.2 (fun k hk=>by
   obtain⟨g1,g2,_⟩:=h k (AH _ hk);refine⟨g1,g2,AX b1 (DU δ ?_)⟩;have:=ux r (hp'.1 k hk) g1;omega)
  show(jD ss base l (acc+vN ss base l a) left).testBit _=_;rw[ih];have ne:j≠a:=fun z=>hn (by rw[z];exact AM);rcases Nat.lt_or_gt_of_ne ne with c|c
  ·have:=ux r c ha;exact b2 _ ω
  have:=ux r c hj;have:=iG r ha;rw[HU (AX b1 (DU δ (show((aL ss a).2.1+1-base).toNat<=(n-base).toNat by omega))),HU (AX hacc (DU δ (show((aL ss a).1-base).toNat<=(n-base).toNat by omega)))]
theorem DX (b:Nat){p:Int}(h:0<=p):bitAt (b:Nat) p=b.testBit p.toNat:=by
 unfold bitAt;rw[Lk];cases b.testBit p.toNat <;> rfl
noncomputable def Ky (ss:Sts):List Int:=ss.map (·.1)++ss.map (fun s=>s.2.1+1)
theorem ud {ss:Sts}{k:Nat}(h:k<ss.length):(aL ss k).1∈Ky ss:=BG _ (DE.mpr ⟨_,A2 (eE h),rfl⟩)
theorem Vy {ss:Sts}{k:Nat}(h:k<ss.length):(aL ss k).2.1+1∈Ky ss:=A0 _ (DE.mpr ⟨_,A2 (eE h),rfl⟩)
theorem Y5 (ss:Sts):(Ky ss).length=2*ss.length:=by unfold Ky;rw[AR,AI,AI];omega
theorem Ys {ss:Sts}(r:eY ss){left:List Nat}(lf:Lf ss left):bO left<=dZ left/\dZ left<ss.length/\bL ss left+eF ss left-1=(aL ss (dZ left)).2.1:=by
 have h1:=dU lf.ne;refine⟨eV lf.up _ h1,lf.lt _ h1,?_⟩;rw[jO];unfold bL;omega
theorem vR {ss:Sts}(r:eY ss){g:Int->Int}{left:List Nat}{ah:Int}(lf:Lf ss left){q:Pl}(vl:VL ss left q){n:Int}(h:stC (rowOf ss g left ah q) n):n∈Ky ss:=by
 obtain⟨f1,f2,f3⟩:=Ys r lf;cases q with
 | pick l=>exact h.elim
 | one k _=>
  have hk:=lf.lt k vl.1;rcases h with h|h
  ·rw[h];exact ud hk
  rw[h,vl.2];exact Vy hk
 | wit k _=>
  have hk:=lf.lt k vl;rcases h with h|h
  ·rw[h];exact ud hk
  rw[h];exact Vy hk
 | low k _ _=>
  have hk:=lf.lt k vl;rw[show n=_ from h];exact ud hk
 | tab=>
  obtain⟨h1,h2,h3⟩:=h;replace h1:bL ss left<=n:=h1;replace h2:n<bL ss left+((jM ss g left).length:Int):=h2;rw[lB r g lf] at h2;obtain⟨k,k1,k2,k3,k4⟩:=yG r (dZ left-bO left) (bO left) ω n h1 (by rw[show bO left+(dZ left-bO left)=dZ left by omega];omega);by_cases c:n=(aL ss k).1
  ·rw[c];exact ud ω
  rcases h3 with h3|h3
  ·rw[h3];exact ud (lf.lt _ (jn lf.ne))
  refine absurd ?_ h3;have e1:=rC r g (dZ left-bO left+1) (bO left) ω k k1 ω n k3 k4;have e2:=rC r g (dZ left-bO left+1) (bO left) ω k k1 ω (n-1) ω ω;exact e1.trans e2.symm
 | msk l _=>
  obtain⟨h1,h2,h3⟩:=h;replace h1:bL ss left<=n:=h1;replace h2:n<bL ss left+eF ss left:=h2;obtain⟨k,k1,k2,k3,k4⟩:=yG r (dZ left-bO left) (bO left) ω n h1 (by rw[show bO left+(dZ left-bO left)=dZ left by omega];omega);by_cases c:n=(aL ss k).1
  ·rw[c];exact ud ω
  rcases h3 with h3|h3
  ·rw[h3];exact ud (lf.lt _ (jn lf.ne))
  refine absurd ?_ h3;have hbk:bL ss left<=(aL ss k).1:=(cX r k1 ω).1;show bitAt (lW ss left l:Nat) (n-bL ss left)=bitAt (lW ss left l:Nat) (n-1-bL ss left);rw[DX _ ω,DX _ ω];by_cases hm:k∈left
  ·have hb:=(wI r lf l).1 k hm;rw[hb n k3 k4,hb (n-1) ω ω]
  have hb:=fun(m:Int)(m1:(aL ss k).1<=m) (m2:m<=(aL ss k).2.1)=>Ip r (base:=bL ss left) (l:=l) ω m1 m2 ω left 0 hm lf.up (fun k' hk'=>⟨lf.lt k' hk',(cX r (eV lf.up k' hk') (lf.lt k' hk')).1,F9 _⟩);unfold lW;rw[hb n k3 k4,hb (n-1) ω ω,Nat.zero_testBit,Nat.zero_testBit]
theorem qL {ss:Sts}(r:eY ss){g:Int->Int}:∀(q:Pl)(left:List Nat)(p:Nat),PlV ss q left->∀c∈gG ss g q left p,∀n,stC c n->n∈Ky ss
 | .pick l,left,p,h,c,hc,n,hs=>by rw[Au.mp hc] at hs;exact vR r h.1 h.2 hs
 | .tab,left,p,h,c,hc,n,hs=>by rw[Au.mp hc] at hs;exact vR r h.1 h.2 hs
 | .one k q,left,p,h,c,hc,n,hs=>by
  rcases AO.mp hc with rfl|hc
  ·exact vR r h.1.1 h.1.2 hs
  exact qL r q _ _ h.2 c hc n hs
 | .wit k q,left,p,h,c,hc,n,hs=>by
  rcases AO.mp hc with rfl|hc
  ·exact vR r h.1.1 h.1.2 hs
  exact qL r q _ _ h.2 c hc n hs
 | .msk k q,left,p,h,c,hc,n,hs=>by
  rcases AO.mp hc with rfl|hc
  ·exact vR r h.1.1 h.1.2 hs
  exact qL r q _ _ h.2 c hc n hs
 | .low k a b,left,p,h,c,hc,n,hs=>by
  rcases AO.mp hc with rfl|hc
  ·exact vR r h.1.1 h.1.2 hs
  rcases BC.mp hc with hc|hc
  ·exact qL r b _ _ h.2.2 c hc n hs
  exact qL r a _ _ h.2.1 c hc n hs
theorem Vg {ss:Sts}{pl:Pl}(r:eY ss)(pv:PlV ss pl (AU ss.length))(h9:ss.length<=30)(low high:Int):Qy (cZ ss pl) low high:=by
 refine⟨low::Ky ss,by rw[Be,Y5];omega,fun n _ _ h=>?_⟩;rcases h with rfl|⟨i,c,hc,hs⟩
 ·exact AM
 refine AH _ ?_;have m:=A2 hc;unfold cZ at m;rcases BC.mp m with m|m
 ·exact qL r pl _ _ pv c m n hs
 obtain⟨l,_,rfl⟩:=DE.mp m;exact hs.elim
theorem vW {ss:Sts}(r:eY ss)(h9:ss.length<=60){g:Int->Int}{left:List Nat}{ah:Int}(lf:Lf ss left){q:Pl}(vl:VL ss left q):xu (rowOf ss g left ah q)/\bdC (rowOf ss g left ah q):=by
 have hf:=lf.lt _ (jn lf.ne);have hb:=r.bd _ _ (eE hf);have hle:=iG r hf;cases q with
 | pick l=>exact⟨trivial,trivial⟩
 | one k _=>exact⟨trivial,trivial⟩
 | wit k _=>exact⟨iG r (lf.lt k vl),trivial⟩
 | low k _ _=>exact⟨trivial,trivial⟩
 | msk l _=>exact⟨trivial,by show -(2^62)<=(aL ss (bO left)).1;omega,by show(aL ss (bO left)).1<2^62;omega⟩
 | tab=>
  refine⟨trivial,by show -(2^62)<=(aL ss (bO left)).1;omega,by show(aL ss (bO left)).1<2^62;omega,?_⟩;have h1:=lB r g lf;have h2:eF ss left<=200:=vl;show(jM ss g left).length<=1000;omega
theorem qO {ss:Sts}(r:eY ss)(h9:ss.length<=60){g:Int->Int}:∀(q:Pl)(left:List Nat)(p:Nat),PlV ss q left->∀c∈gG ss g q left p,xu c/\bdC c
 | .pick l,left,p,h,c,hc=>by rw[Au.mp hc];exact vW r h9 h.1 h.2
 | .tab,left,p,h,c,hc=>by rw[Au.mp hc];exact vW r h9 h.1 h.2
 | .one k q,left,p,h,c,hc=>by
  rcases AO.mp hc with rfl|hc
  ·exact vW r h9 h.1.1 h.1.2
  exact qO r h9 q _ _ h.2 c hc
 | .wit k q,left,p,h,c,hc=>by
  rcases AO.mp hc with rfl|hc
  ·exact vW r h9 h.1.1 h.1.2
  exact qO r h9 q _ _ h.2 c hc
 | .msk k q,left,p,h,c,hc=>by
  rcases AO.mp hc with rfl|hc
  ·exact vW r h9 h.1.1 h.1.2
  exact qO r h9 q _ _ h.2 c hc
 | .low k a b,left,p,h,c,hc=>by
  rcases AO.mp hc with rfl|hc
  ·exact vW r h9 h.1.1 h.1.2
  rcases BC.mp hc with hc|hc
  ·exact qO r h9 b _ _ h.2.2 c hc
  exact qO r h9 a _ _ h.2.1 c hc
theorem ZX {ss:Sts}{pl:Pl}(r:eY ss)(h9:ss.length<=60)(pv:PlV ss pl (AU ss.length)):∀c,c∈cZ ss pl->xu c/\bdC c:=fun c m=>by
 unfold cZ at m;rcases BC.mp m with m|m
 ·exact qO r h9 pl _ _ pv c m
 obtain⟨l,_,rfl⟩:=DE.mp m;exact⟨trivial,trivial⟩
theorem abf {ss:Sts}{pl:Pl}(r:eY ss)(pv:PlV ss pl (AU ss.length))(h1:0<ss.length){n:Int}(a:(aL ss 0).1<=n)(b:n<=(aL ss (ss.length-1)).2.1):∃lab,(runOf (cZ ss pl) n).1=some lab:=by
 obtain⟨k,_,k2,k3,k4⟩:=yG r (ss.length-1) 0 ω n a (by rw[FF];exact b);obtain⟨pls,e,_⟩:=Gz r pv (k:=k) ω k3 k4;exact⟨_,congrArg Prod.fst e⟩
noncomputable def aa3 (xs:List (Int×Int)):Int:=(xs.map fun s=>s.2-s.1+1).sum
open Classical in
noncomputable def cntN (p:Int->Prop)(lo:Int):Nat->Int
 | 0=>0
 | m+1=>cntN p lo m+if p (lo+m) then 1 else 0
theorem Ks {p q s:Int->Prop}(lo:Int):∀m:Nat,(∀n,lo<=n->n<lo+m->(s n↔p n\/q n)/\¬(p n/\q n))->cntN s lo m=cntN p lo m+cntN q lo m
 | 0,_=>rfl
 | m+1,h=>by
  have ih:=Ks (p:=p) (q:=q) (s:=s) lo m fun n a b=>h n a ω;have hm:=h (lo+m) ω ω;show cntN s lo m+_=(cntN p lo m+_)+(cntN q lo m+_);rw[ih];by_cases c1:p (lo+m)
  ·have c2:¬q (lo+m):=fun z=>hm.2 ⟨c1,z⟩;rw[if_pos c1,if_neg c2,if_pos (hm.1.mpr (.inl c1))];omega
  by_cases c2:q (lo+m)
  ·rw[if_neg c1,if_pos c2,if_pos (hm.1.mpr (.inr c2))];omega
  rw[if_neg c1,if_neg c2,if_neg fun z=>(hm.1.mp z).elim c1 c2];omega
theorem Vt {a b:Int}(lo:Int)(hlo:lo<=a)(hab:a<=b):∀m:Nat,cntN (fun n=>a<=n/\n<=b) lo m=if lo+m<=a then 0 else if b<lo+m then b-a+1 else lo+m-a
 | 0=>by show(0:Int)=_;rw[if_pos ω]
 | m+1=>by
  have ih:=Vt (b:=b) lo hlo hab m;rw[show cntN (fun n=>a<=n/\n<=b) lo (m+1)=cntN (fun n=>a<=n/\n<=b) lo m + @ite _ (a<=lo+(m:Int)/\lo+(m:Int)<=b) (Fu _) 1 0 from rfl,ih];by_cases c1:lo+(m:Int)<a
  ·have B:(@ite Int (a<=lo+(m:Int)/\lo+(m:Int)<=b) (Fu _) 1 0)=0:=if_neg fun z=>by omega
   rw[B,if_pos (show lo+(m:Int)<=a by omega),if_pos (show lo+((m+1:Nat):Int)<=a by omega)];rfl
  by_cases c2:lo+(m:Int)<=b
  ·have B:(@ite Int (a<=lo+(m:Int)/\lo+(m:Int)<=b) (Fu _) 1 0)=1:=if_pos ⟨ω,c2⟩;have A:(if lo+(m:Int)<=a then (0:Int) else if b<lo+(m:Int) then b-a+1 else lo+(m:Int)-a)=lo+(m:Int)-a:=by
    split
    ·omega
    rw[if_neg ω]
   rw[B,A,if_neg (show ¬lo+((m+1:Nat):Int)<=a by omega)];split <;> omega
  have B:(@ite Int (a<=lo+(m:Int)/\lo+(m:Int)<=b) (Fu _) 1 0)=0:=if_neg fun z=>c2 z.2;rw[B,if_neg (show ¬lo+(m:Int)<=a by omega),if_pos (show b<lo+(m:Int) by omega),if_neg (show ¬lo+((m+1:Nat):Int)<=a by omega),if_pos (show b<lo+((m+1:Nat):Int) by omega)];omega
theorem FZ {p:Int->Prop}(lo:Int):∀m:Nat,(∀n,lo<=n->n<lo+m->¬p n)->cntN p lo m=0
 | 0,_=>rfl
 | m+1,h=>by
  show cntN p lo m+_=0;rw[FZ lo m fun n a b=>h n a ω,if_neg (h _ ω ω)];rfl
theorem M6 {p:Int->Prop}(lo:Int):∀m:Nat,(∀n,lo<=n->n<lo+m->p n)->cntN p lo m=m
 | 0,_=>rfl
 | m+1,h=>by
  show cntN p lo m+_=_;rw[M6 lo m fun n a b=>h n a ω,if_pos (h _ ω ω)];omega
theorem M5 {lo:Int}{m:Nat}:∀{xs:List (Int×Int)},Gap xs->(∀s,s∈xs->lo<=s.1/\s.2<lo+m)->aa3 xs=cntN (cov xs) lo m
 | [],_,_=>(FZ lo m fun n _ _=>FT).symm
 | s::xs,g,h=>by
  have hu:=CF.mp g.up;have ih:=M5 (xs:=xs) ⟨fun t m=>g.ne t (AH _ m),hu.2⟩ fun t m=>h t (AH _ m);have h1:=h s AM;have h2:=g.ne s AM;rw[Ks (p:=fun n=>s.1<=n/\n<=s.2) (q:=cov xs) lo m fun n _ _=>⟨fY,fun⟨a,t,mt,b⟩=>by have:=hu.1 t mt;omega⟩,<- ih,Vt lo h1.1 h2,if_neg ω,if_pos ω];show((s.2-s.1+1)::_).sum=_;rw[sum_cons];rfl
theorem yW {cs:List RowC}{n:Int}(hr:fj cs):∀(k j:Nat),j<cs.length->cs.length<=j+k->∀(y:Nat) c,(y:Int)∈(runC cs n k j).2->cs[y]?=some c->d7 c=true->(runC cs n k j).2.getLast?=some (y:Int)
 | 0,j,h1,h2=>by omega
 | k+1,j,h1,h2=>by
  intro y c my hy hp;have hc:cs[((j:Nat):Int).toNat]?=some cs[j]:=by rw[DD];exact AC h1
  have hcj:cs[j]?=some cs[j]:=AC h1;cases hq:d7 cs[j] with
  | true=>
   obtain⟨l,e⟩:∃l,cs[j]=.pik l:=by
    cases e:cs[j] with
    | pik l=>exact⟨l,rfl⟩
    | _=>rw[e] at hq;cases hq
   rw[e] at hc;rw[pK hc] at my |-;have:y=j:=by have:=Au.mp my;omega
   rw[this];rfl
  | false=>
   have nj:y≠j:=fun z=>by
    subst z;rw[hcj] at hy;cases hy;rw[hq] at hp;cases hp
   cases ht:cF cs[j] (j:Int) n with
   | none=>
    rw[yI hc hq ht] at my;exact absurd (by have:=Au.mp my;omega) nj
   | some t=>
    obtain⟨b1,b2⟩:=mU hr hcj ht;obtain⟨u,rfl⟩:=EH (show 0<=t by omega);rw[uM hc hq ht] at my |-;rcases AO.mp my with e|m
    ·exact absurd ω nj
    have q2:=yW hr k u ω ω y c m hy hp;show((j:Int)::_).getLast?=_;rw[List.getLast?_cons,q2];rfl
noncomputable def rP (cs:List RowC)(j:Nat):Prop:=∃c,cs[j]?=some c/\d7 c=true
theorem Te {cs:List RowC}{n:Int}{i j:Nat}(hr:fj cs)(hi:rP cs i)(hj:rP cs j)(ci:Cm cs n i)(cj:Cm cs n j):i=j:=by
 obtain⟨c,h1,h2⟩:=hi;obtain⟨d,k1,k2⟩:=hj;have a:=yW hr cs.length 0 hr.1 ω i c ci h1 h2;have b:=yW hr cs.length 0 hr.1 ω j d cj k1 k2;have:=AV (a.symm.trans b);omega
noncomputable def sumPk (cs:List RowC)(X:Nat->List (Int×Int)):Nat->Int
 | 0=>0
 | j+1=>sumPk cs X j+@ite _ (rP cs j) (Classical.propDecidable _) (aa3 (X j)) 0
theorem K8 {cs:List RowC}{low high:Int}{X:Nat->List (Int×Int)}(hr:fj cs)(ci:CI cs low high X cs.length)(hlh:low<=high):∀k:Nat,k<=cs.length->sumPk cs X k=cntN (fun n=>∃j,j<k/\rP cs j/\cov (X j) n) low (high-low+1).toNat
 | 0,_=>(FZ _ _ fun n _ _ ⟨j,z,_⟩=>ω).symm
 | k+1,hk=>by
  have ih:=K8 hr ci hlh k ω;have e:(((high-low+1).toNat:Nat):Int)=high-low+1:=ω;have hor:∀n,low<=n->n<low+((high-low+1).toNat:Nat)->((∃j,j<k+1/\rP cs j/\cov (X j) n)↔(∃j,j<k/\rP cs j/\cov (X j) n)\/(rP cs k/\cov (X k) n))/\¬((∃j,j<k/\rP cs j/\cov (X j) n)/\(rP cs k/\cov (X k) n)):=by
   intro n h1 h2;refine⟨⟨?_,?_⟩,?_⟩
   ·rintro⟨j,a,b⟩;by_cases c:j=k
    ·exact .inr (by rw[<- c];exact b)
    exact .inl ⟨j,ω,b⟩
   ·rintro(⟨j,a,b⟩|z)
    ·exact⟨j,ω,b⟩
    exact⟨k,ω,z⟩
   rintro⟨⟨j,a,b,c⟩,b2,c2⟩;have:=Te hr b b2 ((ci.dc j n ω).mp c).2.2 ((ci.dc k n ω).mp c2).2.2;omega
  rw[Ks low _ hor,<- ih];show sumPk cs X k+_=_;congr 1;by_cases c:rP cs k
  ·rw[if_pos c,M5 (lo:=low) (m:=(high-low+1).toNat) (ci.dn k ω) fun s ms=>by have:=ci.inside k s ms;omega];congr 1;funext n;exact propext ⟨fun z=>⟨c,z⟩,fun z=>z.2⟩
  rw[if_neg c,FZ _ _ fun n _ _ z=>c z.1]
theorem NQ {cs:List RowC}{low high:Int}{X:Nat->List (Int×Int)}(hr:fj cs)(ci:CI cs low high X cs.length)(hlh:low<=high)(hrun:∀n,low<=n->n<=high->∃lab,(runOf cs n).1=some lab):sumPk cs X cs.length=high-low+1:=by
 rw[K8 hr ci hlh _ (A6 _),M6 _ _ fun n h1 h2=>?_]
 ·omega
 obtain⟨lab,e⟩:=hrun n h1 ω;rcases(uQ (n:=n) hr).en with⟨y,l,m,hc,_⟩|⟨y,c,m,hc,hp,hs,e2⟩
 ·have hy:y<cs.length:=(AG.mp hc).1;exact⟨y,hy,⟨_,hc,rfl⟩,(ci.dc y n hy).mpr ⟨h1,ω,m⟩⟩
 rw[e2] at e;cases e
noncomputable def acI:R2:=fun x y H Q=>(x=.non/\y=.non/\Q (.bl true) H)\/∃p q a b,x=.ref p/\y=.ref q/\H p=some (.tup [.int a,.int b])/\H q=some (.tup [.int a,.int b])/\Q (.bl true) H
theorem aaI {X:Cx}(hu:X.A.units<EI):OpR X (B0 .Eq) acI:=by
 intro pins s σ H x y v u Q I rx ry h;rcases h with⟨rfl,rfl,q⟩|⟨p,q,a,b,rfl,rfl,e1,e2,qq⟩
 ·exact b7 hu pins s σ H _ _ v u Q I rx ry ⟨rfl,by rw[decide_eq_true (rfl:V.non=V.non)];exact q⟩
 cases rx;cases ry;obtain⟨its1,r1,pl1,hz1⟩:=I.tuple (SqT.of e1);obtain⟨its2,r2,pl2,hz2⟩:=I.tuple (SqT.of e2);cases r1 with
 | cons x1 r1=>
  cases r1 with
  | cons x2 r1=>
   cases r1;cases r2 with
   | cons y1 r2=>
    cases r2 with
    | cons y2 r2=>
     cases r2;obtain⟨t1,rfl⟩:=x1;obtain⟨t2,rfl⟩:=x2;obtain⟨t3,rfl⟩:=y1;obtain⟨t4,rfl⟩:=y2;refine SeqAt.RcAt.tuples (e:=fun j=>if j=0 then a == a else b == b) pl1 pl2 hu (fun j h1 h2=>?_) X.prog X.w X.xe (EP X pins σ Q) ⟨.bl true,H,I,?_,qq⟩
     ·have h1':j<2:=h1
      match j,h1' with
      | 0,_=>exact BM.int_int (A:=X.A.in1) (s:=s) a t1 a t3
      | 1,_=>exact BM.int_int (A:=X.A.in1) (s:=s) b t2 b t4
     show An.bool _=An.bool _;congr 1;show((if (0:Nat)=0 then a == a else b == b)&&((if (1:Nat)=0 then a == a else b == b)&&true)&&true)=_;rw[if_pos rfl,if_neg δ,Bool.and_true,Bool.and_true,beq_self_eq_true,beq_self_eq_true];rfl
theorem KC {xs:List V}{m:Nat}{v:V}(hl:xs.length=m)(h0:0<m)(h:atI xs ((m-1:Nat):Int)=some v):atI xs (-1)=some v:=by
 unfold atI ixN at h |-;rw[if_pos ω,if_pos ω] at h;rw[if_neg δ,if_pos ω,<- h];show xs[_]?=xs[_]?;congr 1;omega
theorem Ms {cs:List RowC}{low high:Int}{X:Nat->List (Int×Int)}(hr:fj cs)(ci:CI cs low high X cs.length)(hrun:∀n,low<=n->n<=high->∃lab,(runOf cs n).1=some lab){j:Nat}{c:RowC}(hc:cs[j]?=some c)(hp:d7 c=false){s:Int×Int}(ms:s∈X j):cF c (j:Int) s.1≠none/\cF c (j:Int) s.2≠none:=by
 have hj:=(AG.mp hc).1;obtain⟨i1,i2,i3⟩:=ci.inside j s ms;have no:∀n,low<=n->n<=high->cov (X j) n->cF c (j:Int) n≠none:=fun n a b cv z=>by
  have cm:=((ci.dc j n hj).mp cv).2.2;obtain⟨lab,e⟩:=hrun n a b;rw[(Bad.run hr ⟨cm,c,hc,hp,z⟩).1] at e;cases e
 exact⟨no _ i2 ω ⟨s,ms,CS _,i1⟩,no _ ω i3 ⟨s,ms,i1,CS _⟩⟩
theorem U0 {lo wd b t j n:Int}(h:cF (.msk lo wd b t) j n≠none):lo<=n/\n<lo+wd:=by
 by_cases c:0<=n-lo/\n-lo<wd
 ·omega
 exact absurd (show(if 0<=n-lo/\n-lo<wd then some _ else none)=none from if_neg c) h
theorem in_tab {lo j n:Int}{gs:List Int}(h:cF (.tab lo gs) j n≠none):lo<=n/\n<lo+gs.length:=by
 by_cases c:0<=n-lo/\n-lo<gs.length
 ·omega
 exact absurd (show(if 0<=n-lo/\n-lo<gs.length then _ else none)=none from if_neg c) h
theorem NT {cs:List RowC}{X:Nat->List (Int×Int)}{j:Nat}{l:Int}(h:cs[j]?=some (.pik l)):sumPk cs X (j+1)=sumPk cs X j+aa3 (X j):=by
 show sumPk cs X j+_=_;rw[if_pos ⟨_,h,rfl⟩]
theorem Rp {cs:List RowC}{X:Nat->List (Int×Int)}{j:Nat}{c:RowC}(h:cs[j]?=some c)(hp:d7 c=false):sumPk cs X (j+1)=sumPk cs X j:=by
 show sumPk cs X j+_=_;rw[if_neg fun⟨d,e,q⟩=>by rw[h] at e;cases e;rw[hp] at q;cases q];omega
theorem Xn {H:Hp}{us:List V}{xs:List (Int×Int)}(t:bQ prE H us xs)(h:xs≠[]):∃(p0 p1:Addr)(a b:Int×Int),a∈xs/\b∈xs/\atI us 0=some (.ref p0)/\atI us (-1)=some (.ref p1)/\H p0=some (.tup [.int a.1,.int a.2])/\H p1=some (.tup [.int b.1,.int b.2]):=by
 have hl:=t.length;have h0:0<xs.length:=C0.mpr h;obtain⟨p0,u0,e0⟩:=t.get (i:=0) (x:=xs[0]) (AC h0);obtain⟨p1,u1,e1⟩:=t.get (i:=xs.length-1) (x:=xs[xs.length-1]) (AC ω);exact⟨p0,p1,_,_,DS _,DS _,bJ u0,KC hl h0 (bJ u1),e0,e1⟩
noncomputable def wC:RowC->Str
 | .one _ _ => "is"
 | .rng _ _ _ => "within"
 | .low _ _ => "below"
 | .msk _ _ _ _ => "mask"
 | .tab _ _ => "table"
 | .pik _ => "pick"
noncomputable def tlC:RowC->Addr->List V
 | .one n t,_=>[.int n,.int t]
 | .rng a b t,_=>[.int a,.int b,.int t]
 | .low n t,_=>[.int n,.int t]
 | .msk lo wd bits t,_=>[.int lo,.int wd,.int bits,.int t]
 | .tab lo _,g=>[.int lo,.ref g]
 | .pik l,_=>[.int l]
theorem ZW (c:RowC)(g:Addr):gB c g=.str (wC c)::tlC c g:=by cases c <;> rfl
theorem K1 (c:RowC):wC c = "pick" ↔ d7 c=true:=by
 cases c with
 | pik l=>exact⟨fun _=>rfl,fun _=>rfl⟩
 | one n t=>exact⟨fun z=>absurd z (show ¬("is" : Str) = "pick" by decide +kernel),fun z=>by cases z⟩
 | rng a b t=>exact⟨fun z=>absurd z (show ¬("within" : Str) = "pick" by decide +kernel),fun z=>by cases z⟩
 | low n t=>exact⟨fun z=>absurd z (show ¬("below" : Str) = "pick" by decide +kernel),fun z=>by cases z⟩
 | msk lo wd b t=>exact⟨fun z=>absurd z (show ¬("mask" : Str) = "pick" by decide +kernel),fun z=>by cases z⟩
 | tab lo gs=>exact⟨fun z=>absurd z (show ¬("table" : Str) = "pick" by decide +kernel),fun z=>by cases z⟩
theorem acj {i j:Nat}{σ:St}{H:Hp}{N:St->Hp->Prop}{q:Addr}{x y:V}(e:H q=some (.tup [x,y]))(h:N ((σ.set i (some x)).set j (some y)) H):Hx 2 (HN (lE i) (HN (lE j) YD)) (.ref q) σ H N:=by
 rw[Dv,e,Mu];exact⟨rfl,_,_,rfl,_,_,rfl,rfl,h⟩
noncomputable def enO (x:Int×Option Int):List V:=[.int x.1,Ez x.2]
noncomputable def OkB (cs:List RowC)(x:Int×Option Int):Prop:=(x.2=none/\∃lab,(runOf cs x.1).1=some lab)\/∃i:Nat,x.2=some (i:Int)/\Bad cs x.1 i
noncomputable def xj (L:List (Int×Option Int)):List (Int×Int):=L.filterMap fun x=>x.2.map fun j=>(j,x.1)
theorem abq {cs:List RowC}(hr:fj cs){L:List (Int×Option Int)}(h:∀x∈L,OkB cs x):BLi cs (fun n=>n∈L.map (·.1)) (xj L):=by
 refine⟨fun s ms=>?_,fun n j mn b=>?_⟩
 ·obtain⟨x,mx,e⟩:=Kx.mp ms;rcases h x mx with⟨z,_⟩|⟨i,z,b⟩
  ·rw[z] at e;cases e
  rw[z] at e;cases e;exact⟨i,rfl,DE.mpr ⟨x,mx,rfl⟩,b⟩
 obtain⟨x,mx,rfl⟩:=DE.mp mn;refine Kx.mpr ⟨x,mx,?_⟩;rcases h x mx with⟨z,lab,e⟩|⟨i,z,b'⟩
 ·rw[(b.run hr).1] at e;cases e
 rw[z,Bad.sole hr b' b];rfl
noncomputable def rgI (a:Int)(n:Nat):List Int:=(AU n).map fun(i:Nat)=>a+(i:Int)
theorem Zi (a:Int)(n:Nat):sW a n=(rgI a n).map V.int:=by unfold rgI;rw[GH];rfl
theorem Lr {a:Int}{n:Nat}{x:Int}:x∈rgI a n↔a<=x/\x<a+n:=by
 unfold rgI;constructor
 ·intro h;obtain⟨i,hi,rfl⟩:=DE.mp h;have:=Fc.mp hi;omega
 intro h;exact DE.mpr ⟨(x-a).toNat,Fc.mpr ω,ω⟩
theorem yJ (a:Int)(n:Nat):(rgI a n).length=n:=by unfold rgI;rw[AI,Ee]
end L2
local macro_rules | `(tactic| push_cast) => `(tactic| ((try dsimp only [L2.tV, L2.Nz, L2.NP, L2.yQ, L2.tOp, L2.tC, L2.Q9, L2.Gp, L2.uq, L2.Cp, L2.NK, L2.tCB, L2.tIf, L2.Wl, L2.tB, L2.Wn, L2.tOr, L2.Rf, L2.Q8, L2.Bm, L2.lE, L2.rI0, G1, GY, KE, KF]); try simp only [↓L2.rdy, L2.rdy, ↓reduceIte, reduceCtorEq, Nat.reduceAdd, Nat.reduceSub]))
local macro_rules | `(tactic| push_cast [$ls,*]) => `(tactic| ((try dsimp only [L2.tV, L2.Nz, L2.NP, L2.yQ, L2.tOp, L2.tC, L2.Q9, L2.Gp, L2.uq, L2.Cp, L2.NK, L2.tCB, L2.tIf, L2.Wl, L2.tB, L2.Wn, L2.tOr, L2.Rf, L2.Q8, L2.Bm, L2.lE, L2.rI0, G1, GY, KE, KF]); try simp only [↓L2.rdy, L2.rdy, ↓reduceIte, reduceCtorEq, Nat.reduceAdd, Nat.reduceSub, $ls,*]))
namespace K65
open PySem L2 PyProof.Rows
noncomputable abbrev q0_:List Str:=["_law_tape_here","_law_stretches_here","_law_left"]
noncomputable abbrev q1_:List Str:=["_law_tape_here","_law_many"]
noncomputable abbrev q2_:List Str:=["_law_rows","_law_low","_law_high"]
noncomputable abbrev q3_:List Str:=["rows","low","high"]
noncomputable abbrev q4_:List Str:=["_law_script","_law_k"]
noncomputable abbrev q5_:List Str:=["stretches","left","part","ahead","picks"]
noncomputable abbrev q6_:List Str:=["stretches","left"]
noncomputable abbrev q7_:List Str:=["stretches","plan"]
noncomputable abbrev q8_:List Str:=["stretches","left","label","goal"]
noncomputable abbrev q9_:List Str:=["_law_rows","_law_number"]
noncomputable abbrev q10_:List Str:=["_law_stretches_here","_law_left"]
noncomputable abbrev q11_:List Str:=["stretches","left","picks"]
noncomputable abbrev q12_:List Str:=["stretches","left","plan"]
noncomputable abbrev q13_:List Str:=["stretches","left","part"]
noncomputable abbrev q14_:List Str:=["row","at","low","high"]
noncomputable abbrev q15_:List Str:=["reached","spans","ways"]
noncomputable def top (i:Nat):Stmt:=PySem.Challenge.pw_caseways_k65_whole_nothing_read_beyond.main.body.getD i (.Pass ⟨0,0,0,0⟩)
noncomputable abbrev BLs:List Str:=["abs","any","enumerate","int","len","list","max","min","range","sorted","sum","tuple","zip"]
theorem Uu:("abs" : Str)∈BLs:=by decide +kernel
theorem aaX:("any" : Str)∈BLs:=by decide +kernel
theorem iY:("enumerate" : Str)∈BLs:=by decide +kernel
theorem Ut:("int" : Str)∈BLs:=by decide +kernel
theorem iW:("len" : Str)∈BLs:=by decide +kernel
theorem vd:("list" : Str)∈BLs:=by decide +kernel
theorem tR:("max" : Str)∈BLs:=by decide +kernel
theorem wJ:("min" : Str)∈BLs:=by decide +kernel
theorem jC:("range" : Str)∈BLs:=by decide +kernel
theorem Ph:("sorted" : Str)∈BLs:=by decide +kernel
theorem aaW:("sum" : Str)∈BLs:=by decide +kernel
theorem Us:("tuple" : Str)∈BLs:=by decide +kernel
theorem aaV:("zip" : Str)∈BLs:=by decide +kernel
noncomputable abbrev Bk:List Str:=["_law_script","_law_k"]
noncomputable abbrev GI_ (s:Stmt)(x:Str):Prop:=(aj s).names.lookup x=some .globalImplicit
noncomputable abbrev NM_ (N:List Str)(s:Stmt)(i:Nat)(x:Str):Prop:=Nm N (aj s) i x
noncomputable abbrev iJ:Stmt:=top 33
theorem N5:bx Bk q4_ (aj iJ):=⟨rfl,rfl,rfl,ψ,rfl,ψ,ψ⟩
theorem zL:Nm Bk (aj iJ) 0 "_law_script" := .of ψ
theorem zK:Nm Bk (aj iJ) 1 "_law_k" := .of ψ
theorem Fw:GI_ iJ "len" := by decide +kernel
theorem Qq:Bn "_law_cell_at" := ⟨ψ,ψ⟩
noncomputable abbrev Gi:List Str:=["_law_script","_law_k","_law_cell"]
noncomputable abbrev jF:Stmt:=top 34
theorem Ln:bx Gi q4_ (aj jF):=⟨rfl,rfl,rfl,ψ,rfl,ψ,ψ⟩
theorem Ul:Nm Gi (aj jF) 0 "_law_script" := .of ψ
theorem zG:Nm Gi (aj jF) 1 "_law_k" := .of ψ
theorem uV:Nm Gi (aj jF) 2 "_law_cell" := .of ψ
theorem Ak:GI_ jF "_law_cell_at" := by decide +kernel
theorem Aj:GI_ jF "abs" := by decide +kernel
theorem Kc:GI_ jF "int" := by decide +kernel
theorem Y6:Bn "_law_tape" := ⟨ψ,ψ⟩
noncomputable abbrev wZ:List Str:=["_law_tape_here","_law_many","_law_found","_law_prime","_law_once"]
noncomputable abbrev jG:Stmt:=top 35
theorem uG:bx wZ q1_ (aj jG):=⟨rfl,rfl,rfl,ψ,rfl,ψ,ψ⟩
theorem dI:Nm wZ (aj jG) 0 "_law_tape_here" := .of ψ
theorem pY:Nm wZ (aj jG) 1 "_law_many" := .of ψ
theorem pX:Nm wZ (aj jG) 2 "_law_found" := .of ψ
theorem GX:Nm wZ (aj jG) 3 "_law_prime" := .of ψ
theorem zH:Nm wZ (aj jG) 4 "_law_once" := .of ψ
theorem Fv:GI_ jG "_law_take" := by decide +kernel
theorem d8:Bn "_law_take" := ⟨ψ,ψ⟩
section
variable {P:AW}{w:BB}{K:AD}{mg:Str->Option An}{base:Heap}{f:Addr}{fd:Co}{bs:List Str}
theorem Yj (hB:∀x:Str,x∈BLs->mg x=none) (F:Fun K "_law_cell_at" "_law_cell_at" iJ f fd):cQ P w K mg base CX0 1 f fd q4_ (Rz K):=by
 refine F.okq N5 (fun vs H Q E h=>?_) (fun cdv A outer s H vs Q E hr h=>?_)
 ·obtain⟨a,ns,k,rfl,_⟩:=h;rfl
 obtain⟨a,ns,k,rfl,hS,h0,q⟩:=h;refine⟨_,(aJ (aV (GJ (aW mX (ao zK) (dz jU Fw (hB "len" iW) CD je (ak (ao zL) aB rfl) rfl rfl) (aU _)) (aG Mp (ao zL) (ao zK) (fun _ _=>rfl)) aq))),?_⟩;push_cast;refine⟨_,.inl hS,?_⟩;split
 ·rename_i c;rw[AI] at c;have hk:k.toNat<ns.length:=ω;have ek:k=((k.toNat:Nat):Int):=ω;have z:atI (ns.map V.int) ((k.toNat:Nat):Int)=some (.int ns[k.toNat]):=bJ (by rw[A4,AC hk];rfl);rw[<- ek] at z;unfold abP;exact⟨a,_,k,_,rfl,rfl,hS,z,q _⟩
 exact q _
theorem X8 (hB:∀x:Str,x∈BLs->mg x=none) (CZCellAt:Cal P w K mg base "_law_cell_at" 1 q4_ (Rz K)) (F:Fun K "_law_tape" "_law_tape" jF f fd):cQ P w K mg base CX0 2 f fd q4_ (Rr K):=by
 refine F.okq Ln (fun vs H Q E h=>?_) (fun cdv A outer s H vs Q E hr h=>?_)
 ·obtain⟨a,ns,k,rfl,_⟩:=h;rfl
 obtain⟨a,ns,k,rfl,hS,h0,h1,q⟩:=h;refine⟨_,(aD (bG uV Ln.nd (bF CZCellAt (hr.mono δ) Ak Qq (ak (ao Ul) (ak (ao zG) aB rfl) rfl) rfl rfl) rfl (.inl rfl))
  (aJ (aV (bZ (ak (aN iQ (dz Ih Aj (hB "abs" Uu) PyProof.Rows.Boot.«abs» VD (ak (ao uV) aB rfl) rfl rfl) (SQ Bd Kc (hB "int" Ut) boot_int VB (ak (pN T3 (dz Ih Aj (hB "abs" Uu) PyProof.Rows.Boot.«abs» VD (ak (ao uV) aB rfl) rfl rfl) (aN vZ aq aq) (aU _)) aB rfl) rfl rfl)) (ak (aN jJ (aN iQ (aN aZ (aN aZ (aN jJ (ao uV) aq) (aN iQ (aN iQ aq (ao zG)) (ao zG))) aq) aq) aq) (ak aq aB rfl) rfl) rfl))))),?_⟩
 push_cast;refine⟨a,ns,k,rfl,hS,h0,fun v=>?_⟩;push_cast;refine⟨⟨δ,δ,δ⟩,?_,δ,.inl δ,.inr ω,.inr δ,δ,aQ δ,fun p hp=>q p _ hp (aA hp) ⟨_,_,_,au,?_,?_,?_,CS _,CS _⟩⟩
 ·right;generalize (if v<0 then -v else v)=u;split <;> decide
 ·refine Int.mul_nonneg ?_ ?_
  ·split <;> omega
  generalize (if v<0 then -v else v)=u;split <;> decide
 ·exact E5 _ δ
 exact DV _ δ
theorem Mh {n:Nat}(hB:∀x:Str,x∈BLs->mg x=none) (hn:n<=10) (CZTake:Cal P w K mg base "_law_take" n q1_ (sU n)) (F:Fun K "_law_take" "_law_take" jG f fd):cQ P w K mg base CX0 (n+1) f fd q1_ (sU (n+1)):=by
 refine F.okq uG (fun vs H Q E h=>?_) (fun cdv A outer s H vs Q E hr h=>?_)
 ·obtain⟨p,m,B,rfl,_⟩:=h;rfl
 obtain⟨p,m,B,rfl,⟨a,b,c,hp,ha,hb0,hb1,hc0,hc1⟩,hB0,hm0,hm1,hn1,hn2,q⟩:=h;refine⟨_,(aD (bR (aW Mg (aG aP (ao dI) aq (fun _ _=>rfl)) aq (aU _)) (aD (bG pX uG.nd (aN jJ (aG aP (ao dI) aq (fun _ _=>rfl)) (ao pY)) rfl (.inl rfl))
  (aD (jk (aN zq (aG aP (ao dI) aq (fun _ _=>rfl)) (ao pY)) (Et (ao dI) aq Cv) rfl rfl rfl)
  (aJ (aV (ao pX))))) bC)
  (aD (jk (aN aZ (aG aP (ao dI) aq (fun _ _=>rfl)) aq) (Et (ao dI) aq Cv) rfl rfl rfl)
  (aD (bG GX uG.nd (aG aP (bZ (ak aq (ak aq (ak aq (ak aq (ak aq (ak aq (ak aq aB rfl) rfl) rfl) rfl) rfl) rfl) rfl)) (aN jJ (aG aP (ao dI) aq (fun _ _=>rfl)) aq) (fun _ _=>rfl)) rfl (.inl rfl))
  (aD (bG zH uG.nd (aN jJ (aN iQ (aN aZ (aG aP (ao dI) aq (fun _ _=>rfl)) (aN iQ aq (aG aP (ao dI) aq (fun _ _=>rfl)))) (aN aZ aq (aG aP (ao dI) aq (fun _ _=>rfl)))) (ao GX)) rfl (.inl rfl))
  (aD (jk (aN jJ (aN aZ (aN iQ (ao zH) (aN aZ (aN jJ (ao zH) aq) aq)) (aG aP (ao dI) aq (fun _ _=>rfl))) aq) (Et (ao dI) aq Cv) rfl rfl rfl)
  (aD (bG pX uG.nd (aN zq (aN jJ (aN iQ (aG aP (ao dI) aq (fun _ _=>rfl)) (aN aZ (aN jJ (aG aP (ao dI) aq (fun _ _=>rfl)) aq) aq)) aq) aq) rfl (.inl rfl))
  (aJ (aV (GJ (aW mX (ao pY) (aN vZ aq aq) (aU _)) (aN jJ (ao pX) (ao pY)) (aN jJ (aN aZ (aN iQ (ao pX) aq) (bF CZTake (hr.mono ω) Fv d8 (ak (ao dI) (ak aq aB rfl) rfl) rfl rfl)) (ao pY))))))))))),?_⟩
 push_cast [hp];split
 ·refine⟨hm0,⟨hm0,hm1⟩,?_⟩;refine q _ _ (E5 _ ω) (DV _ hm0) cW.upd ⟨_,_,_,au,Int.ediv_nonneg ha ω,hb0,hb1,hc0,ω⟩
 refine⟨aQ δ,fun p1 hp1=>?_⟩;have np:p≠p1:=fun z=>by rw[<- z,au] at hp1;cases hp1
 obtain⟨v,hv,v0⟩:=aap (c+1);push_cast [hp,aH np,ne_eq,np,not_false_eq_true,hv];have m1:∀x:Int,0<=x%40009/\x%40009<40009:=fun x=>⟨E5 _ δ,DV _ δ⟩;have m2:∀x:Int,0<=x%1009/\x%1009<1009:=fun x=>⟨E5 _ δ,DV _ δ⟩;have m3:∀x:Int,0<=x%2147483629/\x%2147483629<2147483629:=fun x=>⟨E5 _ δ,DV _ δ⟩;refine⟨δ,.inl δ,.inr ω,v0,δ,.inr ?_,δ,δ,.inr ?_,δ,δ,δ,?_⟩
 ·have:=m1 ((b+39373*(c+1))*(48271+(c+1))%v);omega
 ·have:=m2 (((b+39373*(c+1))*(48271+(c+1))%v*((b+39373*(c+1))*(48271+(c+1))%v%40009+7)+(c+1))%2147483629);omega
 have e3:=m3 ((b+39373*(c+1))*(48271+(c+1))%v*((b+39373*(c+1))*(48271+(c+1))%v%40009+7)+(c+1));generalize ((b+39373*(c+1))*(48271+(c+1))%v*((b+39373*(c+1))*(48271+(c+1))%v%40009+7)+(c+1))%2147483629=y at e3 |-;have sx:cW p H (upd (upd (upd H p (HO.lst [V.int a,V.int b,V.int (c+1)])) p1 (HO.lst [V.int 2147483587,V.int 2147483579,V.int 2147483563,V.int 2147483549,V.int 2147483543,V.int 2147483497,V.int 2147483489])) p (HO.lst [V.int a,V.int y,V.int (c+1)])):=
  (cW.upd.trans (aA hp1).x).trans cW.upd
 have tp:cV (upd (upd (upd H p (HO.lst [V.int a,V.int b,V.int (c+1)])) p1 (HO.lst [V.int 2147483587,V.int 2147483579,V.int 2147483563,V.int 2147483549,V.int 2147483543,V.int 2147483497,V.int 2147483489])) p (HO.lst [V.int a,V.int y,V.int (c+1)])) p (B+1):=
  ⟨a,y,c+1,au,ha,e3.1,e3.2,ω,ω⟩
 generalize upd (upd (upd H p (HO.lst [V.int a,V.int b,V.int (c+1)])) p1 (HO.lst [V.int 2147483587,V.int 2147483579,V.int 2147483563,V.int 2147483549,V.int 2147483543,V.int 2147483497,V.int 2147483489])) p (HO.lst [V.int a,V.int y,V.int (c+1)])=H2 at sx tp |-;split
 ·refine⟨hm0,q _ _ (E5 _ ω) (DV _ hm0) sx ?_⟩;obtain⟨a',b',c',z1,z2,z3,z4,z5,z6⟩:=tp;exact⟨a',b',c',z1,z2,z3,z4,z5,ω⟩
 rename_i hm;have hm':1000000<=m:=by
  rw[show(10:Int)^Ct 6=1000000 from by decide] at hm;omega
 have hn3:=hn2 hm';refine⟨.inr δ,p,99991,B+1,rfl,tp,ω,δ,δ,ω,fun z=>absurd z δ,fun r H3 r0 r1 s3 t3=>?_⟩;push_cast;refine⟨hm0,q _ _ (E5 _ ω) (DV _ hm0) (sx.trans s3) ?_⟩;obtain⟨a',b',c',z1,z2,z3,z4,z5,z6⟩:=t3;exact⟨a',b',c',z1,z2,z3,z4,z5,ω⟩
theorem Ny:cQ P w K mg base CX0 0 f fd q1_ (sU 0):=by
 have no:∀vs H Q E,¬sU 0 vs H Q E:=fun vs H Q E h=>by
  obtain⟨p,m,B,_,_,_,_,_,h1,_⟩:=h;omega
 exact⟨fun vs H Q E h=>absurd h (no vs H Q E),fun A outer s H args us vs Q E _ _ _ _ h=>absurd h (no vs H Q E)⟩
noncomputable abbrev dF:List Str:=["_law_tape_here","_law_many","_law_low","_law_labels","_law_found","_law_k","_law_far","_law_wide","_law_label"]
noncomputable abbrev bI:Stmt:=top 36
theorem cG:bx dF q1_ (aj bI):=⟨rfl,rfl,rfl,ψ,rfl,ψ,ψ⟩
theorem cg:Nm dF (aj bI) 0 "_law_tape_here" := .of ψ
theorem Bw:Nm dF (aj bI) 1 "_law_many" := .of ψ
theorem gO:Nm dF (aj bI) 2 "_law_low" := .of ψ
theorem jy:Nm dF (aj bI) 3 "_law_labels" := .of ψ
theorem gM:Nm dF (aj bI) 4 "_law_found" := .of ψ
theorem Bv:Nm dF (aj bI) 5 "_law_k" := .of ψ
theorem rY:Nm dF (aj bI) 6 "_law_far" := .of ψ
theorem gK:Nm dF (aj bI) 7 "_law_wide" := .of ψ
theorem gJ:Nm dF (aj bI) 8 "_law_label" := .of ψ
theorem bD:GI_ bI "_law_take" := by decide +kernel
theorem yj:GI_ bI "max" := by decide +kernel
theorem vq:GI_ bI "range" := by decide +kernel
theorem Gb:Bn "_law_stretches" := ⟨ψ,ψ⟩
theorem aaM (hB:∀x:Str,x∈BLs->mg x=none) (CZTake:Cal P w K mg base "_law_take" 2 q1_ (sU 2)) (F:Fun K "_law_stretches" "_law_stretches" bI f fd):cQ P w K mg base CX0 3 f fd q1_ Rt:=by
 refine F.okq cG (fun vs H Q E h=>?_) (fun cdv A outer s H vs Q E hr h=>?_)
 ·obtain⟨p,m,B,rfl,_⟩:=h;rfl
 obtain⟨p,m,B,rfl,tp,hB0,hB1,hm1,hm2,q⟩:=h;refine⟨_,(aD (bG gO cG.nd (aG aP (bZ (ak aq (ak (aN cU (bF CZTake (hr.mono δ) bD d8 (ak (ao cg) (ak aq aB rfl) rfl) rfl rfl) aq) (ak (aN cU (bF CZTake (hr.mono δ) bD d8 (ak (ao cg) (ak (aN vZ aq aq) aB rfl) rfl) rfl rfl) (aN vZ aq aq)) (ak (aN cU aq (aN Jy aq aq)) aB rfl) rfl) rfl) rfl)) (bF CZTake (hr.mono δ) bD d8 (ak (ao cg) (ak aq aB rfl) rfl) rfl rfl) (fun _ _=>rfl)) rfl (.inl rfl))
  (aD (bG jy cG.nd (aN aZ aq (bF CZTake (hr.mono δ) bD d8 (ak (ao cg) (ak aq aB rfl) rfl) rfl rfl)) rfl (.inl rfl))
  (aD (bG gM cG.nd (bZ aB) rfl (.inl rfl))
  (aD (gY BU rfl (vY vq (hB "range" jC) (ak (ao Bw) aB rfl) rfl) (bT Bv cG.nd (.inl rfl))
  (aD (bG rY cG.nd (aG aP (bZ (ak (aN vZ aq aq) (ak (aN vZ aq aq) aB rfl) rfl)) (bF CZTake (hr.mono δ) bD d8 (ak (ao cg) (ak aq aB rfl) rfl) rfl rfl) (fun _ _=>rfl)) rfl (.inl rfl))
  (aD (bG gK cG.nd (bZ (ak aq (ak aq (ak aq (ak (aN aZ aq (bF CZTake (hr.mono δ) bD d8 (ak (ao cg) (ak aq aB rfl) rfl) rfl rfl)) (ak (aN aZ aq (bF CZTake (hr.mono δ) bD d8 (ak (ao cg) (ak aq aB rfl) rfl) rfl rfl)) (ak (aN aZ aq (bF CZTake (hr.mono δ) bD d8 (ak (ao cg) (ak (ao rY) aB rfl) rfl) rfl rfl)) aB rfl) rfl) rfl) rfl) rfl) rfl)) rfl (.inl rfl))
  (aD (bG gK cG.nd (aG aP (ao gK) (dz (jZ rfl) yj (hB "max" tR) IY uf (ak aq (ak (aN cU (bF CZTake (hr.mono δ) bD d8 (ak (ao cg) (ak aq aB rfl) rfl) rfl rfl) aq) aB rfl) rfl) rfl rfl) (fun _ _=>rfl)) rfl (.inl rfl))
  (aD (bG gJ cG.nd (bF CZTake (hr.mono δ) bD d8 (ak (ao cg) (ak (ao jy) aB rfl) rfl) rfl rfl) rfl (.inl rfl))
  (aD (bR (vX (kE (aW (Jz hr.bH) (ao gM) (bZ aB) (aU _)) (jx (aW (b7 hr.bH) (aG aP (aG aP (ao gM) (jA fP aq) (fun _ _=>rfl)) aq (fun _ _=>rfl)) (ao gJ) (aU _))))) (aJ (bG gJ cG.nd (aN jJ (aN aZ (aN aZ (ao gJ) aq) (bF CZTake (hr.mono δ) bD d8 (ak (ao cg) (ak (aN cU (ao jy) aq) aB rfl) rfl) rfl rfl)) (ao jy)) rfl (.inl rfl))) bC)
  (aD (fB (jP (ao gM) (bK (ak (ao gO) (ak (aN cU (aN aZ (ao gO) (ao gK)) aq) (ak (ao gJ) aB rfl) rfl) rfl)) rfl rfl rfl rfl rfl) rfl)
  (aJ (bG gO cG.nd (aN aZ (ao gO) (ao gK)) rfl (.inl rfl))))))))) (fun _=>rfl))
  (aJ (aV (ao gM))))))),?_⟩
 refine aM fun k hk=>?_;push_cast;refine⟨p,100,B,rfl,tp,by show B+2<=1000100;omega,δ,δ,δ,fun z=>absurd z δ,fun r1 H1 r10 r11 s1 tp1=>?_⟩;push_cast;refine⟨⟨δ,δ,δ⟩,?_⟩;refine⟨p,10^9,B+2,rfl,tp1,by show B+2+2<=1000100;omega,δ,δ,δ,fun z=>by decide,fun r2 H2 r20 r21 s2 tp2=>?_⟩;push_cast [one_mul];refine⟨⟨δ,δ,δ⟩,?_⟩;refine⟨⟨δ,δ,δ⟩,aQ δ,fun l0 hl0=>?_⟩;have s3:=aA (o:=HO.lst [V.int 0,V.int (r1-50),V.int (r2-10^Ct 8),V.int (0-2^Ct 39)]) hl0;have tp3:=tp2.same s3;have n3:=tp2.ne hl0;have e3:upd H2 l0 (HO.lst [V.int 0,V.int (r1-50),V.int (r2-10^Ct 8),V.int (0-2^Ct 39)]) l0=_:=au;generalize upd H2 l0 (HO.lst [V.int 0,V.int (r1-50),V.int (r2-10^Ct 8),V.int (0-2^Ct 39)])=H3 at s3 tp3 e3 |-;refine⟨p,4,B+2+2,rfl,tp3,by show B+2+2+2<=1000100;omega,δ,δ,δ,fun z=>absurd z δ,fun r4 H4 r40 r41 s4 tp4=>?_⟩;obtain⟨lo,hlo,elo⟩:=zj (is:=[0,r1-50,r2-10^Ct 8,0-2^Ct 39]) r40 r41;replace elo:atI [V.int 0,V.int (r1-50),V.int (r2-10^Ct 8),V.int (0-2^Ct 39)] r4=some (.int lo):=elo;have e4:=s4 _ _ n3 e3;have blo:-(10^12)<=lo/\lo<=10^9:=by
  simp only[AO,BE,or_false] at hlo;have:(10:Int)^Ct 8=100000000:=by decide
  have:(2:Int)^Ct 39=549755813888:=by decide
  rcases hlo with z|z|z|z <;> omega
 have sx4:cW p H H4:=((s1.trans s2).trans s3.x).trans s4;push_cast [e4,elo];subst hk;refine aM fun k hk=>?_;push_cast;refine⟨p,4,B+2+2+2,rfl,tp4,by show B+2+2+2+2<=1000100;omega,δ,δ,δ,fun z=>absurd z δ,fun r5 H5 r50 r51 s5 tp5=>?_⟩;push_cast;subst hk;refine aM fun k hk=>?_;push_cast;refine⟨aQ δ,fun l hl=>?_⟩;have sx5:=sx4.trans s5;have hlp:l≠p:=tp5.ne hl;have Hl:H l=none:=(Vc sx5 tp5 hl).2;have s6:=aA (o:=HO.lst []) hl;have tp6:=tp5.same s6;have e6:upd H5 l (HO.lst []) l=_:=au;generalize upd H5 l (HO.lst [])=H6 at s6 tp6 e6 |-;have sx6:=sx5.trans s6.x;subst hk;obtain⟨OD,hOD⟩:∃OD:Addr->Prop,OD=fun a=>a≠p/\a≠l:=⟨_,rfl⟩;have kd:∀{H H':Hp},cW p H H'->∀a o,OD a->H a=some o->OD a/\H' a=some o:=fun {H H'} sx a o h e=>by
  refine⟨h,sx a o ?_ e⟩;rw[hOD] at h;exact h.1
 refine aM fun k hk=>?_;refine lF fun R hR=>?_;push_cast [Ht];refine⟨ω,ω,?_⟩;obtain⟨Pv,hPv⟩:∃Pv:Nat->L2.St->Hp->Prop,Pv=fun(i:Nat) σ H'=>∃(xs:List V)(ss:List (Int×Int×Int)) (lo:Int) (o5 o6 o7 o8:Option V),cW p H H'/\cV H' p (B+8+18*(i:Int))/\H' l=some (.lst xs)/\aO OD H' xs (ss.map stD)/\ss.length=i/\eY ss /\
  (∀s,ss[ss.length-1]?=some s->lo=s.2.1+1)/\(∀s,ss[0]?=some s->s.1<=10^9)/\-(10^12)<=lo/\lo<=10^9+(10^12+10)*(i:Int)/\σ=[some (.ref p),some (.int m),some (.int lo),some (.int (2+r5)),some (.ref l),o5,o6,o7,o8]:=⟨_,rfl⟩
 refine Zq hR Pv (by rw[hPv];exact⟨[],[],lo,_,_,_,_,sx6,tp6.le (by show B+2+2+2+2<=B+8+18*((0:Nat):Int);omega),e6,.nil,rfl,eY.nil,fun s h=>(by cases h),fun s h=>(by cases h),blo.1,by show lo<=10^9+(10^12+10)*((0:Nat):Int);omega,rfl⟩) ?_ ?_
 ·intro i σ H7 hi pv;rw[hPv] at pv;obtain⟨xs,ss,lo,o5,o6,o7,o8,sx7,tp7,e7,ts7,hsl,row,hlast,hfst,bl1,bl2,rfl⟩:=pv;have hi60:i<60:=ω;refine aM fun k2 hk2=>?_;push_cast;refine⟨⟨δ,δ,δ⟩,⟨δ,δ,δ⟩,aQ δ,fun l1 hl1=>?_⟩;have s8:=aA (o:=HO.lst [V.int (10^Ct 9),V.int (10^Ct 12)]) hl1;have tp8:=tp7.same s8;have n8:=tp7.ne hl1;have e8:=s8 _ _ e7;have ts8:=ts7.same s8;have e81:upd H7 l1 (HO.lst [V.int (10^Ct 9),V.int (10^Ct 12)]) l1=_:=au;generalize upd H7 l1 (HO.lst [V.int (10^Ct 9),V.int (10^Ct 12)])=H8 at s8 tp8 e8 ts8 e81 |-;have sx8:=sx7.trans s8.x;refine⟨p,2,B+8+18*(i:Int),rfl,tp8,by show B+8+18*(i:Int)+2<=1000100;omega,δ,δ,δ,fun z=>absurd z δ,fun r9 H9 r90 r91 s9 tp9=>?_⟩;obtain⟨far,hfar,efar⟩:=zj (is:=[10^Ct 9,10^Ct 12]) r90 r91;replace efar:atI [V.int (10^Ct 9),V.int (10^Ct 12)] r9=some (.int far):=efar;have e91:=s9 _ _ n8 e81;have e9:=s9 _ _ hlp e8;have ts9:=ts8.keep (kd s9);have sx9:=sx8.trans s9;have bfar:10^9<=far/\far<=10^12:=by
   simp only[AO,BE,or_false] at hfar;have:(10:Int)^Ct 9=1000000000:=by decide
   have:(10:Int)^Ct 12=1000000000000:=by decide
   rcases hfar with z|z <;> omega
  push_cast [e91,efar];subst hk2;refine aM fun k2 hk2=>?_;push_cast;refine⟨p,4,B+8+18*(i:Int)+2,rfl,tp9,by show B+8+18*(i:Int)+2+2<=1000100;omega,δ,δ,δ,fun z=>absurd z δ,fun u1 H10 u10 u11 s10 tp10=>?_⟩;push_cast;refine⟨p,30,B+8+18*(i:Int)+2+2,rfl,tp10,by show B+8+18*(i:Int)+2+2+2<=1000100;omega,δ,δ,δ,fun z=>absurd z δ,fun u2 H11 u20 u21 s11 tp11=>?_⟩;push_cast;refine⟨p,far,B+8+18*(i:Int)+2+2+2,rfl,tp11,by show B+8+18*(i:Int)+2+2+2+2<=1000100;omega,ω,ω,δ,fun _=>by decide,fun u3 H12 u30 u31 s12 tp12=>?_⟩;push_cast;refine⟨aQ δ,fun l2 hl2=>?_⟩;have e12:=s12 _ _ hlp (s11 _ _ hlp (s10 _ _ hlp e9));have ts12:=((ts9.keep (kd s10)).keep (kd s11)).keep (kd s12);have sx12:=((sx9.trans s10).trans s11).trans s12;have s13:=aA (o:=HO.lst [V.int 1,V.int 1,V.int 1,V.int (2+u1),V.int (2+u2),V.int (1+u3)]) hl2;have tp13:=tp12.same s13;have n13:=tp12.ne hl2;have e13:=s13 _ _ e12;have ts13:=ts12.same s13;have e132:upd H12 l2 (HO.lst [V.int 1,V.int 1,V.int 1,V.int (2+u1),V.int (2+u2),V.int (1+u3)]) l2=_:=au;generalize upd H12 l2 (HO.lst [V.int 1,V.int 1,V.int 1,V.int (2+u1),V.int (2+u2),V.int (1+u3)])=H13 at s13 tp13 e13 ts13 e132 |-;have sx13:=sx12.trans s13.x;subst hk2;refine aM fun k2 hk2=>?_;push_cast;refine⟨p,11,B+8+18*(i:Int)+2+2+2+2,rfl,tp13,by show B+8+18*(i:Int)+2+2+2+2+2<=1000100;omega,δ,δ,δ,fun z=>absurd z δ,fun u4 H14 u40 u41 s14 tp14=>?_⟩;have e14:=s14 _ _ hlp e13;have ts14:=ts13.keep (kd s14);have sx14:=sx13.trans s14;have e142:=s14 _ _ n13 e132;have bu:0<=(if u4-5>0 then u4-5 else 0)/\(if u4-5>0 then u4-5 else 0)<6:=by split <;> omega
  obtain⟨wide,hwide,ewide⟩:=zj (is:=[1,1,1,2+u1,2+u2,1+u3]) bu.1 bu.2;replace ewide:atI [V.int 1,V.int 1,V.int 1,V.int (2+u1),V.int (2+u2),V.int (1+u3)] (if u4-5>0 then u4-5 else 0)=some (.int wide):=ewide;have bwide:1<=wide/\wide<=10^12:=by
   simp only[AO,BE,or_false] at hwide;rcases hwide with z|z|z|z|z|z <;> omega
  push_cast [e142,ewide];subst hk2;refine aM fun k2 hk2=>?_;push_cast;refine⟨p,2+r5,B+8+18*(i:Int)+2+2+2+2+2,rfl,tp14,by show B+8+18*(i:Int)+2+2+2+2+2+2<=1000100;omega,ω,ω,δ,fun z=>absurd z ω,fun lab H15 lab0 lab1 s15 tp15=>?_⟩;have e15:=s15 _ _ hlp e14;have ts15:=ts14.keep (kd s15);have sx15:=sx14.trans s15;push_cast;subst hk2;refine aM fun k2 hk2=>?_;have rest:∀(b:Int) H16 o5 o6,0<=b->b<=9->cW p H H16->H16 l=some (.lst xs)->aO OD H16 xs (ss.map stD)->cV H16 p (B+8+18*(i:Int)+14)->k2 [some (.ref p),some (.int m),some (.int lo),some (.int (2+r5)),some (.ref l),o5,o6,some (.int wide),some (.int b)] H16:=by
   intro b H16 o5 o6 b0 b9 sx16 e16 ts16 tp16;subst hk2;refine aM fun k3 hk3=>?_;push_cast [e16];refine⟨aQ δ,fun t ht=>?_⟩;have s17:=aA (o:=HO.tup [V.int lo,V.int (lo+wide-1),V.int b]) ht;have e17:=s17 _ _ e16;have tp17:=tp16.same s17;have ts17:=ts16.same s17;have nt:t≠p:=tp16.ne ht;have nl:t≠l:=(aF e16 ht).symm;have et:upd H16 t (HO.tup [V.int lo,V.int (lo+wide-1),V.int b]) t=_:=au;generalize upd H16 t (HO.tup [V.int lo,V.int (lo+wide-1),V.int b])=H17 at s17 e17 tp17 ts17 et |-;have hxl:=ts17.length;rw[AI] at hxl;push_cast [e17];refine⟨AX (show xs.length<1000000 by omega) (aQ (A6 _)),?_⟩;have sx18:cW p H (upd H17 l (HO.lst (xs++[V.ref t]))):=N6 (sx16.trans s17.x) Hl;have tp18:cV (upd H17 l (HO.lst (xs++[V.ref t]))) p (B+8+18*(i:Int)+14):=tp17.upd hlp;have e18:upd H17 l (HO.lst (xs++[V.ref t])) l=_:=au;have kk:∀a o,OD a->H17 a=some o->OD a/\upd H17 l (HO.lst (xs++[V.ref t])) a=some o:=fun a o h e=>by
    refine⟨h,?_⟩;rw[hOD] at h;rw[aH h.2];exact e
   have tt:aK OD H17 (.ref t) (stD (lo,lo+wide-1,b)):=.tup (by rw[hOD];exact⟨nt,nl⟩) et (by show 3<=1000000;decide) (.cons (.int _) (.cons (.int _) (.cons (.int _) .nil)));have ts18:=(ts17.keep kk).append (.cons (tt.keep kk) .nil);generalize upd H17 l (HO.lst (xs++[V.ref t]))=H18 at sx18 tp18 e18 ts18 |-;subst hk3;push_cast;rw[hPv];refine⟨_,ss++[(lo,lo+wide-1,b)],lo+wide,_,_,_,_,sx18,tp18.le (by show B+8+18*(i:Int)+14<=B+8+18*((i+1:Nat):Int);omega),e18,by rw[BS];exact ts18,by rw[AR,A9,hsl],row.snoc ω ⟨b0,b9⟩ ⟨bl1,by rw[hsl];omega⟩ hlast,fun s hs=>?_,fun s hs=>?_,ω,by show lo+wide<=10^9+(10^12+10)*((i+1:Nat):Int);omega,rfl⟩
   ·rw[AR,A9,FG,BH (A6 _),HH] at hs;cases hs;show lo+wide=lo+wide-1+1;omega
   cases ss with
   | nil=>
    cases hs;show lo<=10^9;have:i=0:=hsl.symm;subst this;omega
   | cons s0 ss0=>exact hfst s hs
  refine oY fun kt ke hkt hke=>?_;push_cast;refine⟨aQ δ,fun l3 hl3=>?_⟩;have s16:=aA (o:=HO.lst []) hl3;refine⟨_,_,xs,rfl,rfl,s16 _ _ e15,au,?_⟩;have e16:=s16 _ _ e15;have ts16:=ts15.same s16;have sx16:=sx15.trans s16.x;have tp16:=tp15.same s16;generalize upd H15 l3 (HO.lst [])=H16 at s16 e16 ts16 sx16 tp16 |-;have hxl:=ts16.length;rw[AI] at hxl;cases hx:xs.isEmpty with
  | true=>
   push_cast;subst hke;push_cast;exact rest lab H16 _ _ lab0 ω sx16 e16 ts16 (tp16.le (by show B+8+18*(i:Int)+2+2+2+2+2+2<=_;omega))
  | false=>
   have hpos:1<=xs.length:=by
    cases xs with
    | nil=>cases hx
    | cons a b=>simp
   obtain⟨j,x,hxj,hxl2⟩:=Yx xs hpos;obtain⟨ax,sx,rfl,okx,hsx,ex⟩:=ts16.st hxj;push_cast [e16,hxl2,ex];split
   ·subst hkt;push_cast;refine⟨p,2+r5-1,B+8+18*(i:Int)+2+2+2+2+2+2,rfl,tp16,by show B+8+18*(i:Int)+2+2+2+2+2+2+2<=1000100;omega,ω,ω,δ,fun z=>absurd z ω,fun u6 H17 u60 u61 s17 tp17=>?_⟩;push_cast;refine⟨ω,?_⟩;have h1:=E5 (lab+1+u6) (show(2+r5:Int)≠0 by omega);have h2:=DV (lab+1+u6) (show(0:Int)<2+r5 by omega);exact rest _ H17 _ _ h1 ω (sx16.trans s17) (s17 _ _ hlp e16) (ts16.keep (kd s17)) (tp17.le (by show B+8+18*(i:Int)+2+2+2+2+2+2+2<=_;omega))
   subst hke;push_cast;exact rest lab H16 _ _ lab0 ω sx16 e16 ts16 (tp16.le (by show B+8+18*(i:Int)+2+2+2+2+2+2<=_;omega))
 intro σ H7 pv;rw[hPv] at pv;obtain⟨xs,ss,lo,o5,o6,o7,o8,sx7,tp7,e7,ts7,hsl,row,hlast,hfst,bl1,bl2,rfl⟩:=pv;show k _ _;subst hk;push_cast;have hxl:=ts7.length;rw[AI] at hxl;refine q l ss H7 sx7 (tp7.le ω) (.lst hlp e7 ω (ts7.keep fun a o h e=>?_)) ω row hfst;rw[hOD] at h;exact⟨h.1,e⟩
noncomputable abbrev lJ:List Str:=["stretches","left"]
noncomputable abbrev cR:Stmt:=top 1
theorem yd:bx lJ q6_ (aj cR):=⟨rfl,rfl,rfl,ψ,rfl,ψ,ψ⟩
theorem m9:Nm lJ (aj cR) 0 "stretches" := .of ψ
theorem m8:Nm lJ (aj cR) 1 "left" := .of ψ
theorem yC:Bn "numbers_across" := ⟨ψ,ψ⟩
noncomputable abbrev jE:List Str:=["stretches","left","plan","word","ahead"]
noncomputable abbrev dX:Stmt:=top 3
theorem vV:bx jE q12_ (aj dX):=⟨rfl,rfl,rfl,ψ,rfl,ψ,ψ⟩
theorem oE:Nm jE (aj dX) 1 "left" := .of ψ
theorem kJ:Nm jE (aj dX) 2 "plan" := .of ψ
theorem oA:Nm jE (aj dX) 3 "word" := .of ψ
theorem tG:Nm jE (aj dX) 4 "ahead" := .of ψ
theorem FJ:GI_ dX "len" := by decide +kernel
theorem Qt:Bn "plans_in" := ⟨ψ,ψ⟩
theorem O1 (hB:∀x:Str,x∈BLs->mg x=none) (F:Fun K "numbers_across" "numbers_across" cR f fd):cQ P w K mg base CX0 1 f fd q6_ uD:=by
 refine F.okq yd (fun vs H Q E h=>?_) (fun cdv A outer s H vs Q E hr h=>?_)
 ·obtain⟨s,l,ok,ss,left,rfl,_⟩:=h;rfl
 obtain⟨s,l,ok,ss,left,rfl,ts,tl,lf,q⟩:=h;refine⟨_,(aJ (aV (aN aZ (aN cU (aG aP (aG aP (ao m9) (aG aP (ao m8) (jA fP aq) (fun _ _=>rfl)) (fun _ _=>rfl)) aq (fun _ _=>rfl)) (aG aP (aG aP (ao m9) (aG aP (ao m8) aq (fun _ _=>rfl)) (fun _ _=>rfl)) aq (fun _ _=>rfl))) aq))),?_⟩;obtain⟨la,rfl,_,el,_⟩:=tl.left;replace el:H la=some (.lst (nv left)):=el;cases ts with
 | lst o es zs tss=>
  obtain⟨k1,e1,m1,a1⟩:=Fd lf.ne;obtain⟨k0,e0,m0,a0⟩:=yL lf.ne;obtain⟨p1,x1,y1⟩:=tss.stN (lf.lt _ m1);obtain⟨p0,x0,y0⟩:=tss.stN (lf.lt _ m0);unfold eF at q;rw[e1,e0] at q;push_cast [el,a1,a0,es,x1,x0,y1,y0];exact q
theorem JD (hB:∀x:Str,x∈BLs->mg x=none) (F:Fun K "plans_in" "plans_in" dX f fd):cQ P w K mg base CX0 1 f fd q12_ Rx:=by
 refine F.okq vV (fun vs H Q E h=>?_) (fun cdv A outer s H vs Q E hr h=>?_)
 ·obtain⟨s,l,p,ok,ss,left,pl,rfl,_⟩:=h;rfl
 obtain⟨s,l,p,ok,ss,left,pl,rfl,hn,ts,tl,tp,pok,q⟩:=h;refine⟨_,(aD (bG oA vV.nd (aG aP (ao kJ) aq (fun _ _=>rfl)) rfl (.inl rfl))
  (aD (bR (aW (b7 hr.bH) (ao oA) bB (aU _)) (aD (nY (NX:=jE) (kX:=(aj dX).names) ["k","plan"] [none,some 2] tG vV.nd rfl rfl ⟨rfl,ψ,ψ,ψ,ψ⟩ rfl (cO (ao oE)) (fun _ _ _ _ _=>(dM 0 (show CL (["k","plan"]:List Str) from by decide +kernel) rfl (EF rfl))) (fun _ _ _ _ _=>(pO (aW mX (b8 0) (aG aP (b8 1) aq (fun _ _=>rfl)) (aU _)))) (fun _ _ _ _ _=>(b8 0)))
  (aJ (aV (bZ (ak (bK (ak (ao tG) (ak (aG aP (ao kJ) aq (fun _ _=>rfl)) aB rfl) rfl)) (ak (bK (ak (uP Ww (ao oE) (uO (dz dJ FJ (hB "len" iW) CD je (ak (ao tG) aB rfl) rfl rfl)) Es) (ak (aG aP (ao kJ) aq (fun _ _=>rfl)) aB rfl) rfl)) aB rfl) rfl))))) bC)
  (aD (bR (aW (b7 hr.bH) (ao oA) bB (aU _)) (aJ (aV (bZ (ak (bK (ak (lR (NX:=jE) (kX:=(aj dX).names) ["k","plan","stretches"] [none,some 2,some 0] rfl rfl ⟨rfl,ψ,ψ,ψ,ψ⟩ rfl (cO (ao oE)) (fun _ _ _ _ _=>(dM 0 (show CL (["k","plan","stretches"]:List Str) from by decide +kernel) rfl (EF rfl))) (fun _ _ _ _ _=>(pO (aW (v5 hr.bH) (aG aP (aG aP (b8 2) (b8 0) (fun _ _=>rfl)) aq (fun _ _=>rfl)) (aG aP (b8 1) aq (fun _ _=>rfl)) (aU _)))) (fun _ _ _ _ _=>(b8 0))) (ak (aG aP (ao kJ) aq (fun _ _=>rfl)) aB rfl) rfl)) aB rfl)))) bC)
  (aD (bR (aW (JB hr.un1) (ao oA) (bK (ak bB (ak bB aB rfl) rfl)) (by with_unfolding_all rfl)) (aJ (aV (bZ (ak (bK (ak (lR (NX:=jE) (kX:=(aj dX).names) ["k","plan"] [none,some 2] rfl rfl ⟨rfl,ψ,ψ,ψ,ψ⟩ rfl (cO (ao oE)) (fun _ _ _ _ _=>(dM 0 (show CL (["k","plan"]:List Str) from by decide +kernel) rfl (EF rfl))) (fun _ _ _ _ _=>(pO (aW (v5 hr.bH) (b8 0) (aG aP (b8 1) aq (fun _ _=>rfl)) (aU _)))) (fun _ _ _ _ _=>(b8 0))) (ak (aG aP (ao kJ) aq (fun _ _=>rfl)) aB rfl) rfl)) aB rfl)))) bC)
  (aJ (aV (bZ aB))))))),?_⟩
 have lf:=pok.lf;obtain⟨la,rfl,okl,el,ll⟩:=tl.left;replace el:H la=some (.lst (nv left)):=el;have ts0:=ts;cases ts with
 | lst os es zs tss=>
  rename_i sa xs;cases pl with
  | pick l=>
   cases tp with
   | tup o e z tt=>
    cases tt with
    | cons t1 tt=>
     cases t1;push_cast [e,rdW];refine⟨aQ δ,fun t ht=>?_⟩;have s1:=aA (o:=HO.tup [V.str "is",V.str "within"]) ht;refine⟨t,["is","within"],.str "pick",ok,rfl,au,.str _,?_⟩;rw[show([("is" : Str), "within"].any (oG (.str "pick")))=false by decide +kernel];push_cast;exact⟨aQ δ,fun r hr=>q _ _ (s1.trans (aA hr)) (.lst (hn.new (mQ hr).1) au (by show 0<=1000000;decide) .nil)⟩
  | tab=>
   cases tp with
   | tup o e z tt=>
    cases tt with
    | cons t1 tt=>
     cases t1;push_cast [e,rdW];refine⟨aQ δ,fun t ht=>?_⟩;have s1:=aA (o:=HO.tup [V.str "is",V.str "within"]) ht;refine⟨t,["is","within"],.str "table",ok,rfl,au,.str _,?_⟩;rw[show([("is" : Str), "within"].any (oG (.str "table")))=false by decide +kernel];push_cast;exact⟨aQ δ,fun r hr=>q _ _ (s1.trans (aA hr)) (.lst (hn.new (mQ hr).1) au (by show 0<=1000000;decide) .nil)⟩
  | one k r=>
   cases tp with
   | tup o e z tt=>
    cases tt with
    | cons t1 tt=>
     cases t1;cases tt with
     | cons t2 tt=>
      cases t2;cases tt with
      | cons t3 tt=>
       cases tt;rename_i pa x3;push_cast [e,rdW];refine⟨aQ δ,fun t ht=>?_⟩;have s1:=aA (o:=HO.tup [V.str "is",V.str "within"]) ht;refine⟨t,["is","within"],.str "is",ok,rfl,au,.str _,?_⟩;rw[show([("is" : Str), "within"].any (oG (.str "is")))=true by decide +kernel];have e1:=s1 _ _ e;have el1:=s1 _ _ el;have t31:=t3.same s1;have hn1:=hn.same s1;generalize upd H t (HO.tup [V.str "is",V.str "within"])=H1 at s1 e1 el1 t31 hn1 |-;push_cast;refine gC fun R hR=>?_;push_cast [el1];refine iz (·≠k) (fun τ=>∃o0,τ=[o0,some (.ref pa)]) hR el1 ll ⟨_,rfl⟩ ?_ ?_
       ·rintro i k' τ acc Pn hk ⟨o0,rfl⟩ h1 h2;push_cast [e1];by_cases c:k'=k
        ·subst c;rw[decide_eq_true (show((k':Nat):Int)=(k':Int) from rfl),EU,if_neg δ];exact h2 (by simp) _ ⟨_,rfl⟩
        rw[decide_eq_false (show ¬((k':Nat):Int)=(k:Int) by omega),C1,if_pos rfl];exact h1 (by simpa using c) _ ⟨_,rfl⟩
       intro d hd;have s2:=aA (o:=HO.lst (nv (left.filter (·≠k)))) hd;have e2:=s2 _ _ e1;have okd:=hn1.new hd;have t32:=t31.same s2;have ed:upd H1 d (HO.lst (nv (left.filter (·≠k)))) d=_:=au;have hn2:=hn1.same s2;generalize upd H1 d (HO.lst (nv (left.filter (·≠k))))=H2 at s2 e2 t32 ed hn2 |-;push_cast [e2];refine⟨aQ δ,fun t2 ht2=>⟨aQ δ,fun r2 hr2=>?_⟩⟩;have s3:=aA (o:=HO.tup [V.ref d,x3]) ht2;have s4:=aA (o:=HO.lst [V.ref t2]) hr2;have s34:=s3.trans s4;refine q _ _ ((s1.trans s2).trans s34) (.lst (hn2.new (mQ hr2).1) au (by show 1<=1000000;decide) (.cons (.tup (hn2.new ht2) (s4 _ _ au) (by show 2<=1000000;decide) (.cons (dh okd (s34 _ _ ed) (BQ (DT _ _) ll)) (.cons (t32.same s34) .nil))) .nil))
  | wit k r=>
   cases tp with
   | tup o e z tt=>
    cases tt with
    | cons t1 tt=>
     cases t1;cases tt with
     | cons t2 tt=>
      cases t2;cases tt with
      | cons t3 tt=>
       cases tt;rename_i pa x3;push_cast [e,rdW];refine⟨aQ δ,fun t ht=>?_⟩;have s1:=aA (o:=HO.tup [V.str "is",V.str "within"]) ht;refine⟨t,["is","within"],.str "within",ok,rfl,au,.str _,?_⟩;rw[show([("is" : Str), "within"].any (oG (.str "within")))=true by decide +kernel];have e1:=s1 _ _ e;have el1:=s1 _ _ el;have t31:=t3.same s1;have hn1:=hn.same s1;generalize upd H t (HO.tup [V.str "is",V.str "within"])=H1 at s1 e1 el1 t31 hn1 |-;push_cast;refine gC fun R hR=>?_;push_cast [el1];refine iz (·≠k) (fun τ=>∃o0,τ=[o0,some (.ref pa)]) hR el1 ll ⟨_,rfl⟩ ?_ ?_
       ·rintro i k' τ acc Pn hk ⟨o0,rfl⟩ h1 h2;push_cast [e1];by_cases c:k'=k
        ·subst c;rw[decide_eq_true (show((k':Nat):Int)=(k':Int) from rfl),EU,if_neg δ];exact h2 (by simp) _ ⟨_,rfl⟩
        rw[decide_eq_false (show ¬((k':Nat):Int)=(k:Int) by omega),C1,if_pos rfl];exact h1 (by simpa using c) _ ⟨_,rfl⟩
       intro d hd;have s2:=aA (o:=HO.lst (nv (left.filter (·≠k)))) hd;have e2:=s2 _ _ e1;have okd:=hn1.new hd;have t32:=t31.same s2;have ed:upd H1 d (HO.lst (nv (left.filter (·≠k)))) d=_:=au;have hn2:=hn1.same s2;generalize upd H1 d (HO.lst (nv (left.filter (·≠k))))=H2 at s2 e2 t32 ed hn2 |-;push_cast [e2];refine⟨aQ δ,fun t2 ht2=>⟨aQ δ,fun r2 hr2=>?_⟩⟩;have s3:=aA (o:=HO.tup [V.ref d,x3]) ht2;have s4:=aA (o:=HO.lst [V.ref t2]) hr2;have s34:=s3.trans s4;refine q _ _ ((s1.trans s2).trans s34) (.lst (hn2.new (mQ hr2).1) au (by show 1<=1000000;decide) (.cons (.tup (hn2.new ht2) (s4 _ _ au) (by show 2<=1000000;decide) (.cons (dh okd (s34 _ _ ed) (BQ (DT _ _) ll)) (.cons (t32.same s34) .nil))) .nil))
  | low k a b=>
   cases tp with
   | tup o e z tt=>
    cases tt with
    | cons t1 tt=>
     cases t1;cases tt with
     | cons t2 tt=>
      cases t2;cases tt with
      | cons t3 tt=>
       cases tt with
       | cons t4 tt=>
        cases tt;rename_i pa x3 x4;push_cast [e,rdW];refine gC fun R hR=>?_;push_cast [el];refine iz (· < k) (fun τ=>∃o0,τ=[o0,some (.ref pa)]) hR el ll ⟨_,rfl⟩ ?_ ?_
        ·rintro i k' τ acc Pn hk ⟨o0,rfl⟩ h1 h2;push_cast [e];by_cases c:k'<k
         ·rw[if_pos (show((k':Nat):Int)<(k:Int) by omega)];exact h1 (by simpa using c) _ ⟨_,rfl⟩
         rw[if_neg (show ¬((k':Nat):Int)<(k:Int) by omega)];exact h2 (by simpa using c) _ ⟨_,rfl⟩
        intro d hd;have s2:=aA (o:=HO.lst (nv (left.filter (· < k)))) hd;have e2:=s2 _ _ e;have okd:=hn.new hd;have t32:=t3.same s2;have t42:=t4.same s2;have el2:=s2 _ _ el;have ed:upd H d (HO.lst (nv (left.filter (· < k)))) d=_:=au;have hn2:=hn.same s2;generalize upd H d (HO.lst (nv (left.filter (· < k))))=H2 at s2 e2 t32 t42 el2 ed hn2 |-;push_cast [e2];refine⟨aQ δ,fun t5 ht5=>?_⟩;have s3:=aA (o:=HO.tup [V.ref d,x3]) ht5;have e3:=s3 _ _ e2;have el3:=s3 _ _ el2;have ed3:=s3 _ _ ed;have et5:upd H2 t5 (HO.tup [V.ref d,x3]) t5=_:=au;have ok5:=hn2.new ht5;have hn3:=hn2.same s3;have t33:=t32.same s3;have t43:=t42.same s3;generalize upd H2 t5 (HO.tup [V.ref d,x3])=H3 at s3 e3 el3 ed3 et5 hn3 t33 t43 |-;push_cast [ed3,iR,el3];intro d6 hd6;rw[Qe lf.up];have s6:=aA (o:=HO.lst (nv (left.filter (k<=·)))) hd6;have e6:=s6 _ _ e3;have ed6:upd H3 d6 (HO.lst (nv (left.filter (k<=·)))) d6=_:=au;have ok6:=hn3.new hd6;have hn6:=hn3.same s6;have ed36:=s6 _ _ ed3;have et56:=s6 _ _ et5;have t36:=t33.same s6;have t46:=t43.same s6;generalize upd H3 d6 (HO.lst (nv (left.filter (k<=·))))=H6 at s6 e6 ed6 hn6 ed36 et56 t36 t46 |-;push_cast [e6];refine⟨aQ δ,fun t7 ht7=>⟨aQ δ,fun r8 hr8=>?_⟩⟩;have s7:=aA (o:=HO.tup [V.ref d6,x4]) ht7;have s8:=aA (o:=HO.lst [V.ref t5,V.ref t7]) hr8;have s78:=s7.trans s8;refine q _ _ (((s2.trans s3).trans s6).trans s78) (.lst (hn6.new (mQ hr8).1) au (by show 2<=1000000;decide) (.cons (.tup ok5 (s78 _ _ et56) (by show 2<=1000000;decide) (.cons (dh okd (s78 _ _ ed36) (BQ (DT _ _) ll)) (.cons (t36.same s78) .nil))) (.cons (.tup (hn6.new ht7) (s8 _ _ au) (by show 2<=1000000;decide) (.cons (dh ok6 (s78 _ _ ed6) (BQ (DT _ _) ll)) (.cons (t46.same s78) .nil))) .nil)))
  | msk l r=>
   cases tp with
   | tup o e z tt=>
    cases tt with
    | cons t1 tt=>
     cases t1;cases tt with
     | cons t2 tt=>
      cases t2;cases tt with
      | cons t3 tt=>
       cases tt;rename_i pa x3;push_cast [e,rdW];refine gC fun R hR=>?_;push_cast [el];refine iz (fun k=>(aL ss k).2.2≠l) (fun τ=>∃o0,τ=[o0,some (.ref pa),some (.ref sa)]) hR el ll ⟨_,rfl⟩ ?_ ?_
       ·rintro i k' τ acc Pn hk ⟨o0,rfl⟩ h1 h2;obtain⟨sk,x1,y1⟩:=tss.stN (lf.lt _ (A2 hk));push_cast [e,es,x1,y1];by_cases c:(aL ss k').2.2=l
        ·rw[decide_eq_true c,EU,if_neg δ];exact h2 (by simpa using c) _ ⟨_,rfl⟩
        rw[decide_eq_false c,C1,if_pos rfl];exact h1 (by simpa using c) _ ⟨_,rfl⟩
       intro d hd;have s2:=aA (o:=HO.lst (nv (left.filter fun k=>(aL ss k).2.2≠l))) hd;have e2:=s2 _ _ e;have okd:=hn.new hd;have t32:=t3.same s2;have ed:upd H d (HO.lst (nv (left.filter fun k=>(aL ss k).2.2≠l))) d=_:=au;have hn2:=hn.same s2;generalize upd H d (HO.lst (nv (left.filter fun k=>(aL ss k).2.2≠l)))=H2 at s2 e2 t32 ed hn2 |-;push_cast [e2];refine⟨aQ δ,fun t2 ht2=>⟨aQ δ,fun r2 hr2=>?_⟩⟩;have s3:=aA (o:=HO.tup [V.ref d,x3]) ht2;have s4:=aA (o:=HO.lst [V.ref t2]) hr2;have s34:=s3.trans s4;refine q _ _ (s2.trans s34) (.lst (hn2.new (mQ hr2).1) au (by show 1<=1000000;decide) (.cons (.tup (hn2.new ht2) (s4 _ _ au) (by show 2<=1000000;decide) (.cons (dh okd (s34 _ _ ed) (BQ (DT _ _) ll)) (.cons (t32.same s34) .nil))) .nil))
noncomputable abbrev lH:List Str:=["stretches","plan","steps","waiting","left","part"]
noncomputable abbrev dj:Stmt:=top 4
theorem mW:bx lH q7_ (aj dj):=⟨rfl,rfl,rfl,ψ,rfl,ψ,ψ⟩
theorem zM:Nm lH (aj dj) 0 "stretches" := .of ψ
theorem JN:Nm lH (aj dj) 1 "plan" := .of ψ
theorem tD:Nm lH (aj dj) 2 "steps" := .of ψ
theorem n6:Nm lH (aj dj) 3 "waiting" := .of ψ
theorem sZ:Nm lH (aj dj) 4 "left" := .of ψ
theorem sY:Nm lH (aj dj) 5 "part" := .of ψ
theorem Fz:GI_ dj "len" := by decide +kernel
theorem BL:GI_ dj "list" := by decide +kernel
theorem wO:GI_ dj "plans_in" := by decide +kernel
theorem Al:GI_ dj "range" := by decide +kernel
theorem Qs:Bn "steps_of" := ⟨ψ,ψ⟩
theorem T5 (hB:∀x:Str,x∈BLs->mg x=none) (CPlansIn:Cal P w K mg base "plans_in" 1 q12_ Rx) (F:Fun K "steps_of" "steps_of" dj f fd):cQ P w K mg base CX0 2 f fd q7_ Gr:=by
 refine F.okq mW (fun vs H Q E h=>?_) (fun cdv A outer s H vs Q E hr h=>?_)
 ·obtain⟨s,p,ok,ss,pl,rfl,_⟩:=h;rfl
 obtain⟨s,p,ok,ss,pl,rfl,hn,ts,tp,h60,hsz,pok,q⟩:=h;refine⟨_,(aD (bG tD mW.nd (bZ aB) rfl (.inl rfl))
  (aD (bG n6 mW.nd (bZ (ak (bK (ak (GF rfl BL (hB "list" vd) Al (hB "range" jC) (ak (dz dJ Fz (hB "len" iW) CD je (ak (ao zM) aB rfl) rfl rfl) aB rfl)) (ak (ao JN) aB rfl) rfl)) aB rfl)) rfl (.inl rfl))
  (aD (zc BU (Er (ao n6)) (aD (jk (Ly (ao n6)) (dO (n:=2) rfl (aR (bT sZ mW.nd (.inl rfl)) (aR (bT sY mW.nd (.inl rfl)) cL rfl) rfl) rfl rfl) rfl rfl rfl)
  (aD (fB (jP (ao tD) (bK (ak (ao sZ) (ak (ao sY) aB rfl) rfl)) rfl rfl rfl rfl rfl) rfl)
  (aJ (fB (Ew (ao n6) (bF CPlansIn (hr.mono δ) wO Qt (ak (ao zM) (ak (ao sZ) (ak (ao sY) aB rfl) rfl) rfl) rfl rfl) rfl rfl rfl rfl rfl) rfl)))))
  (aJ (aV (ao tD)))))),?_⟩
 refine aM fun k hk=>?_;push_cast;refine⟨aQ δ,fun ls hls=>?_⟩;have s0:=aA (o:=HO.lst []) hls;have els:upd H ls (HO.lst []) ls=_:=au;generalize upd H ls (HO.lst [])=H0 at s0 els |-;subst hk;refine aM fun k hk=>?_;have ts0:=ts;cases ts with
 | lst os es zs tss=>
  rename_i sa sxs;have hsl:=tss.length;rw[AI] at hsl;have es0:=s0 _ _ es;push_cast [es0];refine⟨⟨ω,ω⟩,aQ ω,fun la hla=>⟨aQ δ,fun ta hta=>⟨aQ δ,fun lw hlw=>?_⟩⟩⟩;rw[show sW 0 ((sxs.length:Int)-0).toNat=nv (AU ss.length) by
   unfold sW nv;rw[show((sxs.length:Int)-0).toNat=ss.length by omega];refine JY fun k _=>?_;rw[Int.zero_add]] at hta hlw |-
  have u1:=aA (o:=HO.lst (nv (AU ss.length))) hla;have u2:=aA (o:=HO.tup [V.ref la,p]) hta;have u3:=aA (o:=HO.lst [V.ref ta]) hlw;have f1:=(u2.trans u3) _ _ (show upd H0 la (HO.lst (nv (AU ss.length))) la=_ from au);have f2:=u3 _ _ (show upd (upd H0 la (HO.lst (nv (AU ss.length)))) ta (HO.tup [V.ref la,p]) ta=_ from au);have f3:upd (upd (upd H0 la (HO.lst (nv (AU ss.length)))) ta (HO.tup [V.ref la,p])) lw (HO.lst [V.ref ta]) lw=_:=au;have u:=(u1.trans u2).trans u3;have Hla:H la=none:=s0.none hla;have Hta:H ta=none:=(s0.trans u1).none hta;have Hlw:H lw=none:=((s0.trans u1).trans u2).none hlw;have els1:=u _ _ els;have nla:la≠ls:=(aF els hla).symm;have nta:ta≠ls:=(aF (u1 _ _ els) hta).symm;have nlw:lw≠ls:=(aF ((u1.trans u2) _ _ els) hlw).symm;have nlaw:la≠lw:=aF (u2 _ _ (show upd H0 la (HO.lst (nv (AU ss.length))) la=_ from au)) hlw;have ntaw:ta≠lw:=aF (show upd (upd H0 la (HO.lst (nv (AU ss.length)))) ta (HO.tup [V.ref la,p]) ta=_ from au) hlw;have s1:=s0.trans u;generalize upd (upd (upd H0 la (HO.lst (nv (AU ss.length)))) ta (HO.tup [V.ref la,p])) lw (HO.lst [V.ref ta])=H1 at u3 f1 f2 f3 u els1 s1 |-;obtain⟨OD,hOD⟩:∃OD:Addr->Prop,OD=fun x=>ok x/\x≠ls/\x≠lw:=⟨_,rfl⟩;have up:∀a o,ok a->H a=some o->OD a/\H1 a=some o:=fun a o h e=>by
   rw[hOD];exact⟨⟨h,aF e hls,aF e Hlw⟩,s1 _ _ e⟩
  have tsO:aK OD H1 (.ref sa) (.list (ss.map stD)):=ts0.keep up;have tpO:aK OD H1 p (plD pl):=tp.keep up;have okla:OD la:=by rw[hOD];exact⟨hn.new Hla,nla,nlaw⟩
  have okta:OD ta:=by rw[hOD];exact⟨hn.new Hta,nta,ntaw⟩
  have tw:aO OD H1 [V.ref ta] ([(AU ss.length,pl)].map wD):=.cons (.tup okta f2 (by show 2<=1000000;decide) (.cons (dh okla f1 (by rw[Ee];omega)) (.cons tpO .nil))) .nil;subst hk;refine aM fun k hk=>?_;obtain⟨Pv,hPv⟩:∃Pv:Nat->L2.St->Hp->Prop,Pv=fun m σ H'=>∃(W S:List (List Nat×Pl)) (xs ys:List V) (o4 o5:Option V),m=mV W/\Same H H'/\H' lw=some (.lst xs)/\aO OD H' xs (W.map wD)/\H' ls=some (.lst ys)/\aO OD H' ys (S.map wD)/\(∀x∈W,um ss x.2 x.1)/\(∀x∈S,um ss x.2 x.1) /\
   S++iD ss W=aY ss pl (AU ss.length)/\S.length+mV W<=4000/\aK OD H' (.ref sa) (.list (ss.map stD))/\σ=[some (.ref sa),some p,some (.ref ls),some (.ref lw),o4,o5]:=⟨_,rfl⟩
  refine⟨Pv,⟨mV [(AU ss.length,pl)],?_⟩,?_⟩
  ·rw[hPv];refine⟨[(AU ss.length,pl)],[],_,_,_,_,rfl,s1,f3,tw,els1,.nil,?_,?_,?_,?_,tsO,rfl⟩
   ·intro x hx;rw[Au.mp hx];exact pok
   ·intro x hx;cases hx
   ·rw[GO,j8]
   simp [mV];exact hsz
  intro m σ H2 pv;rw[hPv] at pv;obtain⟨W,S,xs,ys,o4,o5,rfl,s2,elw,tW,els2,tS,okW,okS,hsum,hlen,tsO2,rfl⟩:=pv;have hxl:=tW.length;rw[AI] at hxl;have hyl:=tS.length;rw[AI] at hyl;push_cast [elw];cases hx:xs.isEmpty with
  | true=>
   have hW:W=[]:=DZ.mp (by rw[List.isEmpty_iff_length_eq_zero] at hx;omega);subst hW;push_cast;subst hk;push_cast;have hS:S=aY ss pl (AU ss.length):=by
    rw[<- hsum];exact(C4 S).symm
   rw[<- hS] at q;refine q (.ref ls) H2 s2 (.lst (hn.new hls) els2 ω (tS.keep fun a o h e=>?_));rw[hOD] at h;exact⟨h.1,e⟩
  | false=>
   have hWp:0<W.length:=by
    rw[<- hxl];cases xs with
    | nil=>cases hx
    | cons a b=>simp
   obtain⟨W0,⟨left,p1⟩,rfl⟩:=nu W hWp;push_cast;refine⟨fun σ' H'=>∃m',m'<mV (W0++[(left,p1)])/\Pv m' σ' H',fun σ' H' h=>h,?_⟩;rw[BS] at tW;obtain⟨tW0,y,hy,ty⟩:=aO.dropLast tW;refine⟨y,hy,?_⟩;have pok1:=okW (left,p1) (by simp);have kk:∀(H':Hp)(o':HO) a o,OD a->H' a=some o->OD a/\upd H' lw o' a=some o:=fun H' o' a o h e=>by
    refine⟨h,?_⟩;rw[hOD] at h;rw[aH h.2.2];exact e
   have ks:∀(H':Hp)(o':HO) a o,OD a->H' a=some o->OD a/\upd H' ls o' a=some o:=fun H' o' a o h e=>by
    refine⟨h,?_⟩;rw[hOD] at h;rw[aH h.2.1];exact e
   have s3:Same H (upd H2 lw (HO.lst xs.dropLast)):=dR s2 Hlw;have ty3:=ty.keep (kk H2 (HO.lst xs.dropLast));have tW3:=tW0.keep (kk H2 (HO.lst xs.dropLast));have tS3:=tS.keep (kk H2 (HO.lst xs.dropLast));have tsO3:=tsO2.keep (kk H2 (HO.lst xs.dropLast));have elw3:upd H2 lw (HO.lst xs.dropLast) lw=_:=au;have els3:upd H2 lw (HO.lst xs.dropLast) ls=_:=(aH nlw.symm).trans els2;generalize upd H2 lw (HO.lst xs.dropLast)=H3 at s3 ty3 tW3 tS3 tsO3 elw3 els3 |-;cases ty3 with
   | tup oy ey zy tty=>
    cases tty with
    | cons tl tty=>
     cases tty with
     | cons tpl tty=>
      cases tty;rename_i ya xl xp;push_cast [ey,els3,yR,FN];refine⟨aQ δ,fun t2 ht2=>?_⟩;have s4:=aA (o:=HO.tup [xl,xp]) ht2;have els4:=s4 _ _ els3;have elw4:=s4 _ _ elw3;have tS4:=tS3.same s4;have tW4:=tW3.same s4;have tl4:=tl.same s4;have tpl4:=tpl.same s4;have tsO4:=tsO3.same s4;have et2:upd H3 t2 (HO.tup [xl,xp]) t2=_:=au;have s34:=s3.trans s4;have okt2:OD t2:=by rw[hOD];exact⟨hn.new (s3.none ht2),(aF els3 ht2).symm,(aF elw3 ht2).symm⟩
      generalize upd H3 t2 (HO.tup [xl,xp])=H4 at s4 els4 elw4 tS4 tW4 tl4 tpl4 tsO4 et2 s34 |-;push_cast [els4];refine⟨DH (show ys.length<=1000000 by omega) δ,?_⟩;have tt2:aK OD H4 (.ref t2) (wD (left,p1)):=.tup okt2 et2 (by show 2<=1000000;decide) (.cons tl4 (.cons tpl4 .nil));have tS5:=(tS4.keep (ks H4 (HO.lst (ys++[V.ref t2])))).append (.cons (tt2.keep (ks H4 (HO.lst (ys++[V.ref t2])))) .nil);have tW5:=tW4.keep (ks H4 (HO.lst (ys++[V.ref t2])));have tl5:=tl4.keep (ks H4 (HO.lst (ys++[V.ref t2])));have tpl5:=tpl4.keep (ks H4 (HO.lst (ys++[V.ref t2])));have tsO5:=tsO4.keep (ks H4 (HO.lst (ys++[V.ref t2])));have els5:upd H4 ls (HO.lst (ys++[V.ref t2])) ls=_:=au;have elw5:upd H4 ls (HO.lst (ys++[V.ref t2])) lw=_:=(aH nlw).trans elw4;have s5:Same H (upd H4 ls (HO.lst (ys++[V.ref t2]))):=dR s34 hls;generalize upd H4 ls (HO.lst (ys++[V.ref t2]))=H5 at tS5 tW5 tl5 tpl5 tsO5 els5 elw5 s5 |-;have hn5:jN OD H5:=by rw[hOD];exact Uk hn s5 els5 elw5
      push_cast [elw5,vf];refine⟨_,_,_,OD,ss,left,p1,rfl,hn5,tsO5,tl5,tpl5,pok1,fun v H6 s6 t6=>?_⟩;cases t6 with
      | lst or er zr tr=>
       rename_i r zs;have elw6:=s6 _ _ elw5;have els6:=s6 _ _ els5;push_cast [Az,elw6,er,Kp];have hzl:=tr.length;rw[AI] at hzl;have hk2:(kids ss p1 left).length<=2:=by cases p1 <;> simp [kids]
       have hW0:=tW5.length;rw[AI] at hW0;have hWs:W0.length<=mV W0:=Yt W0;rw[uE] at hlen;refine⟨aQ ω,mV (W0++kids ss p1 left),?_,?_⟩
       ·rw[uE,uE];have:=Gw ss p1 left;simp only[mV,Dx,map_nil,sum_cons,List.sum_nil] at this |-;omega
       rw[hPv];refine⟨W0++kids ss p1 left,S++[(left,p1)],_,_,_,_,rfl,dR (s5.trans s6) Hlw,au,?_,(aH nlw.symm).trans els6,?_,?_,?_,?_,?_,(tsO5.same s6).keep (kk H6 _),rfl⟩
       ·rw[BS];exact((tW5.same s6).keep (kk H6 _)).append (tr.keep (kk H6 _))
       ·rw[BS];exact(tS5.same s6).keep (kk H6 _)
       ·intro x hx;rcases BC.mp hx with z|z
        ·exact okW x (BG _ z)
        exact pok1.kids x z
       ·intro x hx;rcases BC.mp hx with z|z
        ·exact okS x z
        rw[Au.mp z];exact pok1
       ·rw[<- hsum,sS,sS,j8,Da];show S++((left,p1)::(iD ss (kids ss p1 left)++iD ss W0))=S++(aY ss p1 left++iD ss W0);rw[nR ss p1 left];rfl
       rw[uE,AR,A9];have:=Gw ss p1 left;have h4:mV [(left,p1)]=aX p1:=by simp [mV]
       omega
noncomputable abbrev fD:List Str:=["steps","told","open_tests","place","left","part"]
noncomputable abbrev bV:Stmt:=top 5
theorem fM:bx fD ["steps"] (aj bV):=⟨rfl,rfl,rfl,ψ,rfl,ψ,ψ⟩
theorem qg:Nm fD (aj bV) 0 "steps" := .of ψ
theorem kW:Nm fD (aj bV) 1 "told" := .of ψ
theorem kO:Nm fD (aj bV) 2 "open_tests" := .of ψ
theorem fU:Nm fD (aj bV) 3 "place" := .of ψ
theorem zP:Nm fD (aj bV) 4 "left" := .of ψ
theorem qe:Nm fD (aj bV) 5 "part" := .of ψ
theorem oJ:GI_ bV "enumerate" := by decide +kernel
theorem BW:Bn "places_ahead" := ⟨ψ,ψ⟩
theorem Ug (hB:∀x:Str,x∈BLs->mg x=none) (F:Fun K "places_ahead" "places_ahead" bV f fd):cQ P w K mg base CX0 1 f fd ["steps"] Lj:=by
 refine F.okq fM (fun vs H Q E h=>?_) (fun cdv A outer s H vs Q E hr h=>?_)
 ·obtain⟨l,ok,ss,pl,left,rfl,_⟩:=h;rfl
 obtain⟨l,ok,ss,pl,left,rfl,t,hsz,q⟩:=h;refine⟨_,(aD (bG kW fM.nd SM rfl (.inl rfl))
  (aD (bG kO fM.nd (bZ aB) rfl (.inl rfl))
  (aD (gY BU rfl (yK oJ (hB "enumerate" iY) (ak (ao qg) aB rfl) rfl) (dO (n:=2) rfl (aR (bT fU fM.nd (.inl rfl)) (aR (dO (n:=2) rfl (aR (bT zP fM.nd (.inl rfl)) (aR (bT qe fM.nd (.inl rfl)) cL rfl) rfl) rfl rfl) cL rfl) rfl) rfl rfl)
  (aD (bR (vX (kE (aW Mg (ao fU) aq (aU _)) (jx (aW (JB hr.un1) (aG aP (aG aP (aG aP (ao qg) (aN cU (ao fU) aq) (fun _ _=>rfl)) aq (fun _ _=>rfl)) aq (fun _ _=>rfl)) (bK (ak bB (ak bB aB rfl) rfl)) (by with_unfolding_all rfl))))) (aJ (Zk hr.pF (ao kW) (Ly (ao kO)) (ao fU) rfl)) bC)
  (aJ (bR (aW (b7 hr.bH) (aG aP (ao qe) aq (fun _ _=>rfl)) bB (aU _)) (aJ (fB (jP (ao kO) (ao fU) rfl rfl rfl rfl rfl) rfl)) bC))) (fun _=>rfl))
  (aJ (aV (ao kW)))))),?_⟩
 have hnd:=jo pl 0;have hend:=J4 ss pl left;have hst:=yE.start ss pl left;have hslen:=fL ss pl left;have hne:aY ss pl left≠[]:=by rw[nR];exact List.cons_ne_nil _ _
 generalize aY ss pl left=S at t hend hst hslen hne;generalize bM pl 0=tot at hnd hst q;cases t with
 | lst o el zl ts=>
  rename_i xs;have hxl:=ts.length;rw[AI] at hxl;refine aM fun k hk=>?_;push_cast [Ek];intro d hd;have s0:=aA (o:=HO.dK []) hd;have e0:upd H d (HO.dK []) d=_:=au;generalize upd H d (HO.dK [])=H0 at s0 e0 |-;subst hk;refine aM fun k hk=>?_;push_cast;refine⟨aQ δ,fun lo hlo=>?_⟩;have ndo:d≠lo:=fun z=>by rw[z,hlo] at e0;cases e0
  have s1:=s0.trans (aA (o:=HO.lst []) hlo);have e1:upd H0 lo (HO.lst []) lo=_:=au;have ed1:upd H0 lo (HO.lst []) d=_:=(aH ndo).trans e0;have hlo0:H lo=none:=s0.none hlo;generalize upd H0 lo (HO.lst [])=H1 at s1 e1 ed1 |-;subst hk;refine aM fun k hk=>?_;refine lF fun R hR=>?_;have el1:=s1 _ _ el;push_cast [Dt,el1];refine⟨⟨_,SqL.of el1⟩,?_⟩;obtain⟨Pv,hPv⟩:∃Pv:Nat->L2.St->Hp->Prop,Pv=fun(i:Nat) σ H'=>∃(C:List (List Nat×Pl)) (T:List Nat) (done:List (Nat×Nat)) (o3 o4 o5:Option V),Same H H'/\H' d=some (.dK (encA done))/\H' lo=some (.lst (nv T.reverse))/\yE ss S tot i C T done/\T.length<=i/\done.length<=i/\σ=[some (.ref l),some (.ref d),some (.ref lo),o3,o4,o5]:=⟨_,rfl⟩;refine Mw hR (xs:=xs) Pv (by rw[hPv];exact⟨_,[],[],_,_,_,s1,ed1,e1,hst,A6 _,A6 _,rfl⟩) (fun i σ H' pv=>?_) ?_ ?_
  ·rw[hPv] at pv;obtain⟨_,_,_,_,_,_,s',_⟩:=pv;exact s' _ _ el
  ·intro i x σ H2 p hx pv hp;rw[hPv] at pv;obtain⟨C,T,done,o3,o4,o5,s2,ed2,eo2,ah,hTi,hdi,rfl⟩:=pv;have s3:=aA (o:=HO.tup [V.int (i:Int),x]) hp;have ep:upd H2 p (HO.tup [V.int (i:Int),x]) p=_:=au;have s23:=s2.trans s3;have ed3:=s3 _ _ ed2;have eo3:=s3 _ _ eo2;generalize upd H2 p (HO.tup [V.int (i:Int),x])=H3 at s3 ep s23 ed3 eo3 |-;have ts3:=ts.same s23;have el3:=s23 _ _ el;obtain⟨dx,hdx,tdx⟩:=ts3.get hx;rw[A4] at hdx;obtain⟨y,hy,rfl⟩:=Cn.mp hdx;obtain⟨px,vs,rfl,epx,tvs⟩:=aK.vP tdx;obtain⟨vl,r,rfl,tl,tvs⟩:=tvs.gQ;obtain⟨vp,r,rfl,tp,tvs⟩:=tvs.gQ;obtain rfl:r=[]:=DZ.mp tvs.length;obtain⟨pa,pys,rfl,epa,hword⟩:=tp.Ey;obtain⟨T1,done1,hc,⟨r,htot⟩,hnext⟩:=ah.step hy;have hT1:T1.length<=i:=by
    rcases hc with⟨_,rfl,_⟩|⟨_,t,rfl,_⟩
    ·exact hTi
    rw[Be] at hTi;omega
   have hd1:done1.length<=i+1:=by
    rcases hc with⟨_,_,rfl⟩|⟨_,t,_,rfl⟩
    ·omega
    rw[AR,A9];omega
   have hi9:i<1000000:=by have:=(AG.mp hx).1;omega
   have tail:∀H4,Same H3 H4\/Same H H4->H4 d=some (.dK (encA done1))->H4 lo=some (.lst (nv T1.reverse))->Same H H4->H4 pa=some (.tup pys)->ixq (H4 pa) 0 H4 fun x H1=>Sv x (V.str "below") H1 fun x H'=>∃k,x=V.bl k/\if k=true then isq (H' lo)/\apq (H' lo) lo (V.int (i:Int)) H' fun x H1=>Pv (i+1) [some (V.ref l),some (V.ref d),some (V.ref lo),some (V.int (i:Int)),some vl,some (V.ref pa)] H1 else Pv (i+1) [some (V.ref l),some (V.ref d),some (V.ref lo),some (V.int (i:Int)),some vl,some (V.ref pa)] H':=by
    intro H4 _ ed4 eo4 s4 epa4;push_cast [epa4,hword];rcases hnext with⟨kk,a,b,hlow,C',ah'⟩|⟨hlow,C',ah'⟩
    ·rw[hlow];rw[if_pos (show dN (.low kk a b) = "below" from rfl)];push_cast [eo4];refine⟨DH (show(nv T1.reverse).length<=1000000 by rw[iR,List.length_reverse];omega) δ,?_⟩;rw[hPv];refine⟨C',i::T1,done1,_,_,_,dR s4 hlo0,(aH ndo).trans ed4,?_,ah',by rw[Be];omega,hd1,rfl⟩;rw[au,List.reverse_cons,JH];rfl
    rw[if_neg (Nq hlow),hPv];exact⟨C',T1,done1,_,_,_,s4,ed4,eo4,ah',ω,hd1,rfl⟩
   push_cast [ep,epx];cases i with
   | zero=>
    rw[if_neg δ];rcases hc with⟨_,rfl,rfl⟩|⟨z,_⟩
    ·exact tail H3 (.inl (Same.refl _)) ed3 eo3 s23 epa
    cases z
   | succ i'=>
    rw[if_pos ω];have hi':i'<S.length:=by have:=(AG.mp hy).1;omega
    obtain⟨y',hy'⟩:∃y',S[i']?=some y':=⟨_,AC hi'⟩;have hlf:lA S (i'+1)=jL y'.2:=by
     show(match S[i']? with|some x=>jL x.2|none=>false)=_
     rw[hy']
    have hxx:xs[i']?=some xs[i']:=AC ω;obtain⟨dx2,hdx2,tdx2⟩:=ts3.get hxx;rw[A4,hy'] at hdx2;cases hdx2;obtain⟨px2,vs2,ex2,epx2,tvs2⟩:=aK.vP tdx2;obtain⟨vl2,r2,rfl,tl2,tvs2⟩:=tvs2.gQ;obtain⟨vp2,r2,rfl,tp2,tvs2⟩:=tvs2.gQ;obtain rfl:r2=[]:=DZ.mp tvs2.length;obtain⟨pa2,pys2,rfl,epa2,hword2⟩:=tp2.Ey;have hat2:atI xs (((i'+1:Nat):Int)-1)=some (.ref px2):=by
     have:=bJ hxx;rw[ex2] at this;rw[show((i'+1:Nat):Int)-1=(i':Int) by omega];exact this
    push_cast [el3,hat2,epx2,epa2,hword2];refine⟨aQ δ,fun pt hpt=>?_⟩;have s4:=aA (o:=HO.tup [V.str "pick",V.str "table"]) hpt;have ept:upd H3 pt (HO.tup [V.str "pick",V.str "table"]) pt=_:=au;have ed4:=s4 _ _ ed3;have eo4:=s4 _ _ eo3;have epa4:=s4 _ _ epa;have s24:=s23.trans s4;generalize upd H3 pt (HO.tup [V.str "pick",V.str "table"])=H4 at s4 ept ed4 eo4 epa4 s24 |-;refine⟨pt,[("pick" : Str), "table"],.str (dN y'.2),fun _=>True,rfl,ept,.str _,jL y'.2,by rw[<- Pj];rfl,?_⟩;cases hl:jL y'.2 with
    | false=>
     rw[if_neg δ];rcases hc with⟨_,rfl,rfl⟩|⟨z,_⟩
     ·exact tail H4 (.inl s4) ed4 eo4 s24 epa4
     rw[hlf,hl] at z;cases z
    | true=>
     rw[if_pos rfl];rcases hc with⟨z,_⟩|⟨_,t,rfl,rfl⟩
     ·rw[hlf,hl] at z;cases z
     have hrev:nv (t::T1).reverse=nv T1.reverse++[V.int (t:Int)]:=by rw[List.reverse_cons,JH];rfl
     rw[hrev] at eo4;have hlast:(nv T1.reverse++[V.int (t:Int)])[(nv T1.reverse++[V.int (t:Int)]).length-1]?=some (V.int (t:Int)):=by
      rw[AR,A9,FG,BH (A6 _),HH];rfl
     have hnot:t∉done.map (·.1):=fun hm=>by
      rw[htot,BS,BS,Da,nodup_append] at hnd;exact hnd.2.2 t hm t (by simp) rfl
     push_cast [rdA,eo4];refine⟨_,hlast,?_⟩;rw[List.dropLast_concat];have ed5:upd H4 lo (HO.lst (nv T1.reverse)) d=some (.dK (encA done)):=(aH ndo).trans ed4;have eo5:upd H4 lo (HO.lst (nv T1.reverse)) lo=_:=au;have s25:Same H (upd H4 lo (HO.lst (nv T1.reverse))):=dR s24 hlo0;have npa:pa≠lo:=fun z=>by rw[z,eo4] at epa4;cases epa4
     have epa5:upd H4 lo (HO.lst (nv T1.reverse)) pa=_:=(aH npa).trans epa4;generalize upd H4 lo (HO.lst (nv T1.reverse))=H5 at ed5 eo5 s25 epa5 |-;refine⟨d,_,rfl,KY.k (k:=B1 (t:Int)) ed5 (by rw[Vo];exact DH (show done.length<=1000000 by omega) δ),?_⟩;rw[Vn hnot];have npd:pa≠d:=fun z=>by rw[z,ed5] at epa5;cases epa5
     push_cast;exact tail _ (.inr (dR s25 hd)) au ((aH ndo.symm).trans eo5) (dR s25 hd) ((aH npd).trans epa5)
  intro σ H2 pv;rw[hPv] at pv;obtain⟨C,T,done,o3,o4,o5,s2,ed2,eo2,ah,_,_,rfl⟩:=pv;rw[hxl] at ah;have:=ah.fin hne hend;show k _ _;subst hk;push_cast;exact q d H2 s2 hd (by rw[this];exact ed2)
noncomputable abbrev qK:List Str:=["stretches","left"]
noncomputable abbrev eZ:Stmt:=top 2
theorem En:bx qK q6_ (aj eZ):=⟨rfl,rfl,rfl,ψ,rfl,ψ,ψ⟩
theorem BJ:Nm qK (aj eZ) 1 "left" := .of ψ
theorem Ge:Bn "labels_left" := ⟨ψ,ψ⟩
noncomputable abbrev jV:List Str:=["stretches","left","part"]
noncomputable abbrev cN:Stmt:=top 6
theorem Bq:bx jV q13_ (aj cN):=⟨rfl,rfl,rfl,ψ,rfl,ψ,ψ⟩
theorem qp:Nm jV (aj cN) 0 "stretches" := .of ψ
theorem zX:Nm jV (aj cN) 1 "left" := .of ψ
theorem fX:Nm jV (aj cN) 2 "part" := .of ψ
theorem nM:GI_ cN "labels_left" := by decide +kernel
theorem Ca:Bn "labels_led_to" := ⟨ψ,ψ⟩
theorem Yg (hB:∀x:Str,x∈BLs->mg x=none) (F:Fun K "labels_left" "labels_left" eZ f fd):cQ P w K mg base CX0 1 f fd q6_ Rw:=by
 refine F.okq En (fun vs H Q E h=>?_) (fun cdv A outer s H vs Q E hr h=>?_)
 ·obtain⟨s,l,ok,ss,left,rfl,_⟩:=h;rfl
 obtain⟨s,l,ok,ss,left,rfl,ts,tl,lf,q⟩:=h;refine⟨_,(aJ (aV (lR (NX:=qK) (kX:=(aj eZ).names) ["k","stretches"] [none,some 0] rfl rfl ⟨rfl,ψ,ψ,ψ,ψ⟩ rfl (cO (ao BJ)) (fun _ _ _ _ _=>(dM 0 (show CL (["k","stretches"]:List Str) from by decide +kernel) rfl (EF rfl))) (fun _ _ _ _ _=>pP) (fun _ _ _ _ _=>(aG aP (aG aP (b8 1) (b8 0) (fun _ _=>rfl)) aq (fun _ _=>rfl)))))),?_⟩;obtain⟨la,rfl,_,el,hll⟩:=tl.left;replace el:H la=some (.lst (nv left)):=el;cases ts with
 | lst o es zs tss=>
  push_cast;refine gC fun R hR=>?_;push_cast [el];refine DP (lbl ss) (fun τ=>∃o0,τ=[o0,some (.ref _)]) hR el hll ⟨_,rfl⟩ ?_ ?_
  ·rintro i k τ acc Pn hk ⟨o0,rfl⟩ hN;obtain⟨p1,x1,y1⟩:=tss.stN (lf.lt _ (A2 hk));push_cast [es,x1,y1];exact hN _ ⟨_,rfl⟩
  intro d hd;exact q d hd
theorem aaO (hB:∀x:Str,x∈BLs->mg x=none) (CLabelsLeft:Cal P w K mg base "labels_left" 1 q6_ Rw) (F:Fun K "labels_led_to" "labels_led_to" cN f fd):cQ P w K mg base CX0 2 f fd q13_ Zh:=by
 refine F.okq Bq (fun vs H Q E h=>?_) (fun cdv A outer s H vs Q E hr h=>?_)
 ·obtain⟨s,l,p,ok,ss,left,pl,rfl,_⟩:=h;rfl
 obtain⟨s,l,p,ok,ss,left,pl,rfl,ts,tl,tp,lf,vl,q⟩:=h;refine⟨_,(aD (bR (aW (b7 hr.bH) (aG aP (ao fX) aq (fun _ _=>rfl)) bB (aU _)) (aJ (aV (bZ (ak (aG aP (ao fX) aq (fun _ _=>rfl)) aB rfl)))) bC)
  (aD (bR (aW (JB hr.un1) (aG aP (ao fX) aq (fun _ _=>rfl)) (bK (ak bB (ak bB aB rfl) rfl)) (by with_unfolding_all rfl)) (aJ (aV (bZ (ak (aG aP (aG aP (ao qp) (aG aP (ao fX) aq (fun _ _=>rfl)) (fun _ _=>rfl)) aq (fun _ _=>rfl)) aB rfl)))) bC)
  (aD (bR (aW (b7 hr.bH) (aG aP (ao fX) aq (fun _ _=>rfl)) bB (aU _)) (aJ (aV (bF CLabelsLeft (hr.mono δ) nM Ge (ak (ao qp) (ak (ao zX) aB rfl) rfl) rfl rfl))) bC)
  (aJ (aV (bZ aB)))))),?_⟩
 have tp0:=tp;obtain⟨pa,pys,rfl,epa,hword⟩:=tp.Ey;have sc1:∀{d:Bz}{v:V}{ds:List Bz}{d0:Bz},plD pl=.tuple (d0::d::ds)->ZQ d=some v->atI pys 1=some v:=fun {d v ds d0} he hv=>by
  rw[he] at tp0;obtain⟨pa',xs,e',ex,txs⟩:=aK.vP tp0;cases e';rw[epa] at ex;cases ex;obtain⟨x0,r,rfl,_,txs⟩:=txs.gQ;obtain⟨x1,r,rfl,t1,txs⟩:=txs.gQ;rw[<- t1.sc2 hv];exact V2 _ _ _
 -- have mid:∀(H1:Hp),Same H H1->∀b,([("is" : Str), "within"].any (oG (.str (dN pl))))=b->(b=true->∃j:Nat,atI pys 1=some (.int (j:Int))/\j∈left/\jh ss left pl=[lbl ss j])->True:=fun _ _ _ _ _=>trivial
 refine aM fun k hk=>?_;push_cast [epa,hword];by_cases c1:dN pl = "mask"
 ·rw[if_pos c1];cases pl with
  | msk m r=>
   refine⟨_,sc1 (v:=.int m) rfl rfl,aQ δ,fun a ha=>q a _ (aA ha) ha au⟩
  | pick m=>exact absurd c1 (show("pick" : Str) ≠ "mask" by decide +kernel)
  | one j r=>exact absurd c1 (show("is" : Str) ≠ "mask" by decide +kernel)
  | wit j r=>exact absurd c1 (show("within" : Str) ≠ "mask" by decide +kernel)
  | low j a b=>exact absurd c1 (show("below" : Str) ≠ "mask" by decide +kernel)
  | tab=>exact absurd c1 (show("table" : Str) ≠ "mask" by decide +kernel)
 rw[if_neg c1];subst hk;refine aM fun k hk=>?_;push_cast [epa,hword];refine⟨aQ δ,fun pt hpt=>?_⟩;have s4:=aA (o:=HO.tup [V.str "is",V.str "within"]) hpt;have ept:upd H pt (HO.tup [V.str "is",V.str "within"]) pt=_:=au;have epa4:=s4 _ _ epa;have ts4:=ts.same s4;have tl4:=tl.same s4;generalize upd H pt (HO.tup [V.str "is",V.str "within"])=H4 at s4 ept epa4 ts4 tl4 |-;refine⟨pt,[("is" : Str), "within"],.str (dN pl),fun _=>True,rfl,ept,.str _,aa9 pl,by rw[<- Yz];rfl,?_⟩;cases hiw:aa9 pl with
 | true=>
  obtain⟨j,hat1,hj,hled⟩:∃j:Nat,atI pys 1=some (.int (j:Int))/\j∈left/\jh ss left pl=[lbl ss j]:=by
   cases pl with
   | one j r=>exact⟨j,sc1 (v:=.int (j:Int)) rfl rfl,vl.1,rfl⟩
   | wit j r=>exact⟨j,sc1 (v:=.int (j:Int)) rfl rfl,vl,rfl⟩
   | _=>cases hiw
  rw[if_pos rfl];rw[hled] at q;cases ts4 with
  | lst o es zs tss=>
   obtain⟨p1,x1,y1⟩:=tss.stN (lf.lt _ hj);push_cast [epa4,hat1,es,x1,y1];exact⟨aQ δ,fun a ha=>q a _ (s4.trans (aA ha)) (s4.none ha) au⟩
 | false=>
  rw[if_neg δ];subst hk;refine aM fun k hk=>?_;push_cast [epa4,hword];by_cases c2:dN pl = "table"
  ·rw[if_pos c2];cases pl with
   | tab=>exact⟨_,_,ok,ss,left,rfl,ts4,tl4,lf,fun a ha=>q a _ (s4.trans (aA ha)) (s4.none ha) au⟩
   | pick m=>exact absurd c2 (show("pick" : Str) ≠ "table" by decide +kernel)
   | one j r=>cases hiw
   | wit j r=>cases hiw
   | low j a b=>exact absurd c2 (show("below" : Str) ≠ "table" by decide +kernel)
   | msk m r=>exact absurd c2 (show("mask" : Str) ≠ "table" by decide +kernel)
  rw[if_neg c2];subst hk;push_cast;have hled:jh ss left pl=[]:=by
   cases pl with
   | pick m=>rfl
   | low j a b=>rfl
   | tab=>exact absurd rfl c2
   | msk m r=>exact absurd rfl c1
   | one j r=>cases hiw
   | wit j r=>cases hiw
  rw[hled] at q;exact⟨aQ δ,fun a ha=>q a _ (s4.trans (aA ha)) (s4.none ha) au⟩
noncomputable abbrev fG:List Str:=["stretches","steps","picks","left","part","label"]
noncomputable abbrev bN:Stmt:=top 7
theorem gF:bx fG ["stretches","steps"] (aj bN):=⟨rfl,rfl,rfl,ψ,rfl,ψ,ψ⟩
theorem zQ:Nm fG (aj bN) 0 "stretches" := .of ψ
theorem ql:Nm fG (aj bN) 1 "steps" := .of ψ
theorem fV:Nm fG (aj bN) 2 "picks" := .of ψ
theorem qj:Nm fG (aj bN) 3 "left" := .of ψ
theorem qi:Nm fG (aj bN) 4 "part" := .of ψ
theorem kY:Nm fG (aj bN) 5 "label" := .of ψ
theorem mJ:GI_ bN "labels_led_to" := by decide +kernel
theorem nJ:GI_ bN "len" := by decide +kernel
theorem BX:Bn "picks_behind" := ⟨ψ,ψ⟩
theorem Oz (hB:∀x:Str,x∈BLs->mg x=none) (CLabelsLedTo:Cal P w K mg base "labels_led_to" 2 q13_ Zh) (F:Fun K "picks_behind" "picks_behind" bN f fd):cQ P w K mg base CX0 3 f fd ["stretches","steps"] Gv:=by
 refine F.okq gF (fun vs H Q E h=>?_) (fun cdv A outer s H vs Q E hr h=>?_)
 ·obtain⟨s,l,ok,ss,S,rfl,_⟩:=h;rfl
 obtain⟨s,l,ok,ss,S,rfl,tst,t,hS,hsz,hPL,q⟩:=h;refine⟨_,(aD (bG fV gF.nd SM rfl (.inl rfl))
  (aD (gY BU rfl (cO (ao ql)) (dO (n:=2) rfl (aR (bT qj gF.nd (.inl rfl)) (aR (bT qi gF.nd (.inl rfl)) cL rfl) rfl) rfl rfl)
  (aJ (gY BU rfl (cO (bF CLabelsLedTo (hr.mono δ) mJ Ca (ak (ao zQ) (ak (ao qj) (ak (ao qi) aB rfl) rfl) rfl) rfl rfl)) (bT kY gF.nd (.inl rfl))
  (aJ (bR (Z9 hr.pF (ao kY) (ao fV) (by with_unfolding_all rfl)) (aJ (Zk hr.pF (ao fV) (ao kY) (aN aZ (dz dJ nJ (hB "len" iW) CD je (ak (ao ql) aB rfl) rfl rfl) (dz Kw nJ (hB "len" iW) CD je (ak (ao fV) aB rfl) rfl rfl)) rfl)) bC)) (fun _=>rfl))) (fun _=>rfl))
  (aJ (aV (ao fV))))),?_⟩
 cases t with
 | lst o el zl ts=>
  rename_i xs;have hxl:=ts.length;rw[AI] at hxl;refine aM fun k hk=>?_;push_cast [Ek];intro d hd;have s0:=aA (o:=HO.dK []) hd;have e0:upd H d (HO.dK []) d=_:=au;generalize upd H d (HO.dK [])=H0 at s0 e0 |-;subst hk;refine aM fun k hk=>?_;refine lF fun R hR=>?_;have el1:=s0 _ _ el;push_cast [el1];obtain⟨Pv,hPv⟩:∃Pv:Nat->L2.St->Hp->Prop,Pv=fun(i:Nat) σ H'=>∃(o3 o4 o5:Option V),Same H H'/\H' d=some (.dK (nQ S.length (((S.take i).flatMap fun x=>jh ss x.1 x.2).foldl fZ [])))/\σ=[some s,some (.ref l),some (.ref d),o3,o4,o5]:=⟨_,rfl⟩;refine Ay hR (xs:=xs) Pv (by rw[hPv];exact⟨_,_,_,s0,e0,rfl⟩) (fun i σ H' _ pv=>?_) ?_ ?_
  ·rw[hPv] at pv;obtain⟨_,_,_,s',_⟩:=pv;exact SqL.of (s' _ _ el)
  ·intro i x σ H2 hx pv;rw[hPv] at pv;obtain⟨o3,o4,o5,s2,ed2,rfl⟩:=pv;have ts3:=ts.same s2;have el3:=s2 _ _ el;obtain⟨dx,hdx,tdx⟩:=ts3.get hx;rw[A4] at hdx;obtain⟨y,hy,rfl⟩:=Cn.mp hdx;obtain⟨px,vs,rfl,epx,tvs⟩:=aK.vP tdx;obtain⟨vl,r,rfl,tl,tvs⟩:=tvs.gQ;obtain⟨vp,r,rfl,tp,tvs⟩:=tvs.gQ;obtain rfl:r=[]:=DZ.mp tvs.length;obtain⟨lf,vl'⟩:=hS y (A2 hy);have htake:S.take (i+1)=S.take i++[y]:=by
    rw[FE,hy];rfl
   have hnd0:(((S.take i).flatMap fun x=>jh ss x.1 x.2).foldl fZ []).Nodup:=(HX _ [] JJ).1;have hall:iM ss S=((jh ss y.1 y.2)++((S.drop (i+1)).flatMap fun x=>jh ss x.1 x.2)).foldl fZ (((S.take i).flatMap fun x=>jh ss x.1 x.2).foldl fZ []):=by
    unfold iM;rw[<- HZ]
    conv=>lhs;rw[<- List.take_append_drop (i+1) S,htake]
    rw[Ki,Ki,List.flatMap_singleton,Da]
   have hnext:((S.take (i+1)).flatMap fun x=>jh ss x.1 x.2).foldl fZ []=(jh ss y.1 y.2).foldl fZ (((S.take i).flatMap fun x=>jh ss x.1 x.2).foldl fZ []):=by
    rw[htake,Ki,List.flatMap_singleton,HZ]
   generalize hP0:((S.take i).flatMap fun x=>jh ss x.1 x.2).foldl fZ []=PL0 at ed2 hnd0 hall hnext;push_cast [epx];refine lF fun R2 hR2=>?_;push_cast;refine⟨_,_,_,ok,ss,y.1,y.2,rfl,tst.same s2,tl,tp,lf,vl',fun a H4 s4 ha ea=>?_⟩;push_cast [ea,Mt];have hle:∀j:Nat,(((jh ss y.1 y.2).take j).foldl fZ PL0).length<=1000000:=fun j=>by
    refine BQ ?_ hPL;rw[hall]
    conv=>rhs;rw[<- List.take_append_drop j (jh ss y.1 y.2),Da]
    exact Ve hnd0
   have s24:=s2.trans s4;have ed4:=s4 _ _ ed2;have nad:a≠d:=fun z=>by rw[z,ed2] at ha;cases ha
   generalize jh ss y.1 y.2=L at ea hle hnext;obtain⟨Pv2,hPv2⟩:∃Pv:Nat->L2.St->Hp->Prop,Pv=fun(j:Nat) σ H'=>∃(o5:Option V),Same H H'/\H' a=some (.lst (L.map V.int))/\H' d=some (.dK (nQ S.length ((L.take j).foldl fZ PL0)))/\σ=[some s,some (.ref l),some (.ref d),some vl,some vp,o5]:=⟨_,rfl⟩;refine Ay hR2 (xs:=L.map V.int) Pv2 (by rw[hPv2];exact⟨_,s24,ea,ed4,rfl⟩) (fun j σ H' _ pv=>?_) ?_ ?_
   ·rw[hPv2] at pv;obtain⟨_,_,e',_⟩:=pv;exact SqL.of e'
   ·intro j v σ H5 hv pv;rw[hPv2] at pv;obtain⟨o5',s5,ea5,ed5,rfl⟩:=pv;rw[A4] at hv;obtain⟨m,hm,rfl⟩:=Cn.mp hv;have htk:(L.take (j+1)).foldl fZ PL0=fZ ((L.take j).foldl fZ PL0) m:=by
     rw[FE,hm,HZ];rfl
    have hl9:=hle j;generalize (L.take j).foldl fZ PL0=PL1 at ed5 htk hl9;have el5:=s5 _ _ el;push_cast;by_cases c:m∈PL1
    ·refine⟨d,_,rfl,mO.k' (k:=B1 m) ed5 (jY _ c),?_⟩;push_cast;rw[hPv2];refine⟨_,s5,ea5,?_,rfl⟩;rw[htk];unfold fZ;rw[if_pos c];exact ed5
    have g:=mO.k (k:=(B1 m:Key)) ed5;rw[wW _ c] at g;refine⟨d,_,rfl,g,?_⟩;push_cast [Option.isSome_none,C1];push_cast [rdA,el5,ed5,Ob,aa1];refine⟨d,_,rfl,KY.k (k:=B1 m) ed5 (by rw[Ba];exact DH hl9 δ),?_⟩;rw[hPv2];refine⟨_,dR s5 hd,(aH nad).trans ea5,?_,rfl⟩;rw[au,htk,<- Vm c,hxl,Ba]
   intro σ H5 pv;rw[hPv2] at pv;obtain⟨o5',s5,ea5,ed5,rfl⟩:=pv;rw[AI,Fa] at ed5;show Pv _ _ _;rw[hPv];exact⟨_,_,_,s5,by rw[hnext];exact ed5,rfl⟩
  intro σ H2 pv;rw[hPv] at pv;obtain⟨o3,o4,o5,s2,ed2,rfl⟩:=pv;rw[hxl,Fa] at ed2;show k _ _;subst hk;push_cast;exact q d H2 s2 hd ed2
noncomputable abbrev gq:List Str:=["stretches","left","label","goal","first","bits","k","low","high","own"]
noncomputable abbrev cT:Stmt:=top 8
theorem ig:bx gq q8_ (aj cT):=⟨rfl,rfl,rfl,ψ,rfl,ψ,ψ⟩
theorem tO:Nm gq (aj cT) 0 "stretches" := .of ψ
theorem tM:Nm gq (aj cT) 1 "left" := .of ψ
theorem JT:Nm gq (aj cT) 2 "label" := .of ψ
theorem JS:Nm gq (aj cT) 3 "goal" := .of ψ
theorem tL:Nm gq (aj cT) 4 "first" := .of ψ
theorem tK:Nm gq (aj cT) 5 "bits" := .of ψ
theorem zU:Nm gq (aj cT) 6 "k" := .of ψ
theorem tH:Nm gq (aj cT) 7 "low" := .of ψ
theorem zT:Nm gq (aj cT) 8 "high" := .of ψ
theorem zR:Nm gq (aj cT) 9 "own" := .of ψ
theorem oK:GI_ cT "numbers_across" := by decide +kernel
theorem Qu:Bn "mask_row" := ⟨ψ,ψ⟩
theorem T7 (hB:∀x:Str,x∈BLs->mg x=none) (CNumbersAcross:Cal P w K mg base "numbers_across" 1 q6_ uD) (F:Fun K "mask_row" "mask_row" cT f fd):cQ P w K mg base CX0 2 f fd q8_ La:=by
 refine F.okq ig (fun vs H Q E h=>?_) (fun cdv A outer s H vs Q E hr h=>?_)
 ·obtain⟨s,l,m,g,ok,ss,left,rfl,_⟩:=h;rfl
 obtain⟨s,l,m,g,ok,ss,left,rfl,ts,tl,lf,rs,hsp,q⟩:=h;refine⟨_,(aD (bG tL ig.nd (aG aP (aG aP (ao tO) (aG aP (ao tM) aq (fun _ _=>rfl)) (fun _ _=>rfl)) aq (fun _ _=>rfl)) rfl (.inl rfl))
  (aD (bG tK ig.nd aq rfl (.inl rfl))
  (aD (gY BU rfl (cO (ao tM)) (bT zU ig.nd (.inl rfl))
  (aD (jk (aG aP (ao tO) (ao zU) (fun _ _=>rfl)) (dO (n:=3) rfl (aR (bT tH ig.nd (.inl rfl)) (aR (bT zT ig.nd (.inl rfl)) (aR (bT zR ig.nd (.inl rfl)) cL rfl) rfl) rfl) rfl rfl) rfl rfl rfl)
  (aJ (bR (aW (b7 hr.bH) (ao zR) (ao JT) (aU _)) (aJ (Jt tK ig.nd (aN Jy (aN cU (aN Jy aq (aN aZ (aN cU (ao zT) (ao tH)) aq)) aq) (aN cU (ao tH) (ao tL))) J7)) bC))) (fun _=>rfl))
  (aJ (aV (bK (ak bB (ak (ao tL) (ak (bF CNumbersAcross (hr.mono δ) oK yC (ak (ao tO) (ak (ao tM) aB rfl) rfl) rfl rfl) (ak (ao tK) (ak (ao JS) aB rfl) rfl) rfl) rfl) rfl))))))),?_⟩
 have ts0:=ts;have tl0:=tl;obtain⟨la,rfl,_,el,hll⟩:=tl.left;replace el:H la=some (.lst (nv left)):=el;cases ts with
 | lst o es zs tss=>
  rename_i sa xs;obtain⟨k0,e0,m0,a0⟩:=yL lf.ne;obtain⟨p0,x0,y0⟩:=tss.stN (lf.lt _ m0);have hb0:bL ss left=(aL ss k0).1:=by
   unfold bL bO;rw[e0];rfl
  refine aM fun k hk=>?_;push_cast [el,a0,es,x0,y0];rw[<- hb0];subst hk;refine aM fun k hk=>?_;push_cast;subst hk;refine aM fun k hk=>?_;refine lF fun R hR=>?_;push_cast [el,Mt];obtain⟨Pv,hPv⟩:∃Pv:Nat->L2.St->Hp->Prop,Pv=fun(i:Nat) σ H'=>∃(o6 o7 o8 o9:Option V),H'=H/\σ=[some (.ref sa),some (.ref la),some (.int m),some (.int g),some (.int (bL ss left)),some (.int (jD ss (bL ss left) m 0 (left.take i):Nat)),o6,o7,o8,o9]:=⟨_,rfl⟩;refine Ay hR (xs:=nv left) Pv (by rw[hPv];exact⟨_,_,_,_,rfl,rfl⟩) (fun i σ H' _ pv=>?_) ?_ ?_
  ·rw[hPv] at pv;obtain⟨_,_,_,_,rfl,_⟩:=pv;exact SqL.of el
  ·intro i v σ H2 hv pv;rw[hPv] at pv;obtain⟨o6,o7,o8,o9,rfl,rfl⟩:=pv;unfold nv at hv;rw[A4] at hv;obtain⟨j,hj,rfl⟩:=Cn.mp hv;have mj:=A2 hj;obtain⟨p1,x1,y1⟩:=tss.stN (lf.lt _ mj);have htk:jD ss (bL ss left) m 0 (left.take (i+1))=jD ss (bL ss left) m 0 (left.take i)+vN ss (bL ss left) m j:=by
    unfold jD;rw[FE,hj,HZ];rfl
   refine aM fun k2 hk2=>?_;push_cast [es,x1,y1];subst hk2;have hlo:=iG rs (lf.lt _ mj);have hfi:=eV lf.up j mj;have hla:=qw lf.up j mj;have hl1:=(cX rs hfi (lf.lt _ mj)).1;have hl2:=(cX rs hla (lf.lt _ (dU lf.ne))).2;have hbs:bL ss left=(aL ss (bO left)).1:=rfl;rw[jO] at hsp;push_cast;by_cases c:(aL ss j).2.2=m
   ·rw[if_pos c];push_cast;have hw:((aL ss j).2.1-(aL ss j).1+1).toNat<=64:=ω;have hp:(1:Int)*2^((aL ss j).2.1-(aL ss j).1+1).toNat-1=((2^lK ss j-1:Nat):Int):=by
     rw[one_mul,Int.natCast_sub (F9 _),natCast_pow];rfl
    have hlt:2^lK ss j-1<2^64:=by
     have:2^lK ss j<=2^64:=DU δ hw;have:=F9 (lK ss j);omega
    have hbb:jD ss (bL ss left) m 0 (left.take (i+1))=jD ss (bL ss left) m 0 (left.take i)+(2^lK ss j-1)*2^((aL ss j).1-bL ss left).toNat:=by
     rw[htk];unfold vN;rw[if_pos (show lbl ss j=m from c)]
    rw[hp];refine⟨⟨ω,ω,δ⟩,⟨ω,ω,by rw[Int.natAbs_natCast];exact hlt⟩,?_⟩;rw[hPv];dsimp only;rw[hbb,Int.natCast_add,Int.natCast_mul,natCast_pow];exact⟨_,_,_,_,rfl,rfl⟩
   rw[if_neg c,hPv];have hq:jD ss (bL ss left) m 0 (left.take (i+1))=jD ss (bL ss left) m 0 (left.take i):=by
    rw[htk];unfold vN;rw[if_neg (show ¬lbl ss j=m from c)];rfl
   dsimp only;rw[hq];exact⟨_,_,_,_,rfl,rfl⟩
  intro σ H2 pv;rw[hPv] at pv;obtain⟨o6,o7,o8,o9,rfl,rfl⟩:=pv;rw[show(nv left).length=left.length from iR _,Fa];show k _ _;subst hk;push_cast;refine⟨_,_,ok,ss,left,rfl,ts0,tl0,lf,?_⟩;push_cast;exact⟨aQ δ,fun a ha=>q a ha⟩
noncomputable abbrev iC:List Str:=["stretches","left","picks","goals","low","high","label"]
noncomputable abbrev cY:Stmt:=top 9
theorem kh:bx iC q11_ (aj cY):=⟨rfl,rfl,rfl,ψ,rfl,ψ,ψ⟩
theorem xP:Nm iC (aj cY) 0 "stretches" := .of ψ
theorem p8:Nm iC (aj cY) 1 "left" := .of ψ
theorem G7:Nm iC (aj cY) 2 "picks" := .of ψ
theorem p6:Nm iC (aj cY) 3 "goals" := .of ψ
theorem xO:Nm iC (aj cY) 4 "low" := .of ψ
theorem xM:Nm iC (aj cY) 5 "high" := .of ψ
theorem xK:Nm iC (aj cY) 6 "label" := .of ψ
theorem yq:GI_ cY "tuple" := by decide +kernel
theorem Kz:Bn "table_row" := ⟨ψ,ψ⟩
theorem Ow (hB:∀x:Str,x∈BLs->mg x=none) (F:Fun K "table_row" "table_row" cY f fd):cQ P w K mg base CX0 1 f fd q11_ Gq:=by
 refine F.okq kh (fun vs H Q E h=>?_) (fun cdv A outer s H vs Q E hr h=>?_)
 ·obtain⟨s,l,d,n,PL,ok,ss,left,rfl,_⟩:=h;rfl
 obtain⟨s,l,d,n,PL,ok,ss,left,rfl,ts,tl,ed,lf,rs,hsp,hall,q⟩:=h;refine⟨_,(aD (bG p6 kh.nd (bZ aB) rfl (.inl rfl))
  (aD (gY BU rfl (cO (uP Ww (ao xP) (uO (aG aP (ao p8) aq (fun _ _=>rfl))) (uO (aN aZ (aG aP (ao p8) (jA fP aq) (fun _ _=>rfl)) aq)))) (dO (n:=3) rfl (aR (bT xO kh.nd (.inl rfl)) (aR (bT xM kh.nd (.inl rfl)) (aR (bT xK kh.nd (.inl rfl)) cL rfl) rfl) rfl) rfl rfl)
  (aJ (fB (Ew (ao p6) (aN iQ (bZ (ak (Lz hr.pF (ao G7) (ao xK) (fun _ _=>rfl)) aB rfl)) (aN aZ (aN cU (ao xM) (ao xO)) aq)) rfl rfl rfl rfl rfl) rfl)) (fun _=>rfl))
  (aJ (aV (bK (ak bB (ak (aG aP (aG aP (ao xP) (aG aP (ao p8) aq (fun _ _=>rfl)) (fun _ _=>rfl)) aq (fun _ _=>rfl)) (ak (SQ BV yq (hB "tuple" Us) boot_tuple Vz (ak (ao p6) aB rfl) rfl rfl) aB rfl) rfl) rfl)))))),?_⟩
 obtain⟨la,rfl,_,el,hll⟩:=tl.left;replace el:H la=some (.lst (nv left)):=el;cases ts with
 | lst o es zs tss=>
  rename_i sa xs;obtain⟨k0,e0,m0,a0⟩:=yL lf.ne;obtain⟨k1,e1,m1,a1⟩:=Fd lf.ne;have hf0:bO left=k0:=by
   unfold bO;rw[e0];rfl
  have hf1:dZ left=k1:=by
   unfold dZ;rw[e1];rfl
  refine aM fun k hk=>?_;push_cast;refine⟨aQ δ,fun go hgo=>?_⟩;have s1:=aA (o:=HO.lst []) hgo;have eg1:upd H go (HO.lst []) go=_:=au;generalize upd H go (HO.lst [])=H1 at s1 eg1 |-;subst hk;refine aM fun k hk=>?_;refine lF fun R hR=>?_;have el1:=s1 _ _ el;have es1:=s1 _ _ es;push_cast [el1,a0,a1,es1];have hxl:=tss.length;rw[AI] at hxl;have h01:k0<=k1:=by rw[<- hf0];exact eV lf.up _ m1
  have hk1:=lf.lt _ m1;rw[Y4 xs k0 k1 h01 ω];intro p hp;have s2:=s1.trans (aA (o:=HO.lst ((xs.drop k0).take (k1+1-k0))) hp);have ngp:go≠p:=fun z=>by rw[z,hp] at eg1;cases eg1
  have ep2:upd H1 p (HO.lst ((xs.drop k0).take (k1+1-k0))) p=_:=au;have eg2:upd H1 p (HO.lst ((xs.drop k0).take (k1+1-k0))) go=_:=(aH ngp).trans eg1;generalize upd H1 p (HO.lst ((xs.drop k0).take (k1+1-k0)))=H2 at s2 ep2 eg2 |-;obtain⟨Pv,hPv⟩:∃Pv:Nat->L2.St->Hp->Prop,Pv=fun(i:Nat) σ H'=>∃(o4 o5 o6:Option V),Same H H'/\H' p=some (HO.lst ((xs.drop k0).take (k1+1-k0)))/\H' go=some (.lst ((gZ ss (gP n PL) k0 i).map V.int))/\σ=[some (.ref sa),some (.ref la),some (.ref d),some (.ref go),o4,o5,o6]:=⟨_,rfl⟩;refine Ay hR (xs:=(xs.drop k0).take (k1+1-k0)) Pv (by rw[hPv];exact⟨_,_,_,s2,ep2,eg2,rfl⟩) (fun i σ H' _ pv=>?_) ?_ ?_
  ·rw[hPv] at pv;obtain⟨_,_,_,_,e',_⟩:=pv;exact SqL.of e'
  ·intro i v σ H3 hv pv;rw[hPv] at pv;obtain⟨o4,o5,o6,s3,ep3,eg3,rfl⟩:=pv;have hi:i<k1+1-k0:=by
    have:=(AG.mp hv).1;rw[E2] at this;omega
   rw[List.getElem?_take,if_pos hi,List.getElem?_drop] at hv;obtain⟨p1,x1,y1⟩:=(tss.same s3).stN (k:=k0+i) ω;have hvv:v=.ref p1:=by
    have:=bJ hv;rw[x1] at this;exact(AV this).symm
   subst hvv;have hpl:=hall (k0+i) ω ω;have ed3:=s3 _ _ ed;have g3:=mO.k' (k:=B1 (lbl ss (k0+i))) ed3 (jY n hpl);push_cast [y1];push_cast [yR,FN,rdA,eg3,vf];have hsp1:=hsp;rw[jO,hf0,hf1] at hsp1;have u1:=(cX rs (i:=k0) (j:=k0+i) ω ω).1;have u2:=(cX rs (i:=k0+i) (j:=k1) ω hk1).2;have u3:=iG rs (i:=k0+i) ω;have hgl:(gZ ss (gP n PL) k0 i).length<=200:=by
    cases i with
    | zero=>exact DL _
    | succ i'=>
     have v1:=tX rs (gP n PL) i' k0 ω;have v2:=(cX rs (i:=k0+i') (j:=k1) ω hk1).2;omega
   have hwd:lK ss (k0+i)<=200:=by unfold lK;omega
   refine⟨d,_,rfl,g3,aQ δ,fun b1 hb1=>⟨ω,ω,BQ (show 1*lK ss (k0+i)<=200 by omega) δ,fun b2 hb2=>?_⟩⟩;rw[List.flatten_replicate_singleton];have s5:=(aA (o:=HO.lst [V.int (gP n PL (lbl ss (k0+i)))]) hb1).trans (aA (o:=HO.lst (A5 ((aL ss (k0+i)).2.1-(aL ss (k0+i)).1+1).toNat (V.int (gP n PL (lbl ss (k0+i)))))) hb2);have e5:upd (upd H3 b1 (HO.lst [V.int (gP n PL (lbl ss (k0+i)))])) b2 (HO.lst (A5 ((aL ss (k0+i)).2.1-(aL ss (k0+i)).1+1).toNat (V.int (gP n PL (lbl ss (k0+i)))))) b2=_:=au;generalize upd (upd H3 b1 (HO.lst [V.int (gP n PL (lbl ss (k0+i)))])) b2 (HO.lst (A5 ((aL ss (k0+i)).2.1-(aL ss (k0+i)).1+1).toNat (V.int (gP n PL (lbl ss (k0+i))))))=H5 at s5 e5 |-;have eg5:=s5 _ _ eg3;rw[Az,eg5,e5,Kp];refine⟨?_,?_⟩
   ·rw[AI,DB];exact BQ (show(gZ ss (gP n PL) k0 i).length+lK ss (k0+i)<=400 by omega) δ
   rw[hPv];refine⟨_,_,_,dR (s3.trans s5) hgo,?_,?_,rfl⟩
   ·rw[aH ngp.symm];exact s5 _ _ ep3
   rw[au,xT,BS,List.map_replicate];rfl
  intro σ H3 pv;rw[hPv] at pv;obtain⟨o4,o5,o6,s3,ep3,eg3,rfl⟩:=pv;rw[E2,IH,show min (k1+1-k0) (xs.length-k0)=k1-k0+1 by omega] at eg3;obtain⟨p0,x0,y0⟩:=(tss.same s3).stN (lf.lt _ m0);have el3:=s3 _ _ el;have es3:=s3 _ _ es;show k _ _;subst hk;push_cast [el3,a0,es3,x0,y0];refine⟨_,.inl ⟨SqL.of eg3,fun t ht=>⟨aQ δ,fun a ha=>?_⟩⟩⟩;have nta:t≠a:=fun z=>by rw[z,au] at ha;cases ha
  have hb0:bL ss left=(aL ss k0).1:=by
   unfold bL;rw[hf0]
  have sA:=s3.trans (aA (o:=HO.tup ((gZ ss (gP n PL) k0 (k1-k0+1)).map V.int)) ht);refine q a t _ (sA.trans (aA ha)) (sA.none ha) ?_ (s3.none ht) ?_
  ·rw[au,hb0]
  rw[aH nta,au];unfold jM;rw[hf0,hf1]
noncomputable abbrev mL:List Str:=["stretches","left","part","ahead","picks","word","low","high","label"]
noncomputable abbrev fQ:Stmt:=top 10
theorem uJ:bx mL q5_ (aj fQ):=⟨rfl,rfl,rfl,ψ,rfl,ψ,ψ⟩
theorem zO:Nm mL (aj fQ) 0 "stretches" := .of ψ
theorem G9:Nm mL (aj fQ) 1 "left" := .of ψ
theorem qb:Nm mL (aj fQ) 2 "part" := .of ψ
theorem Um:Nm mL (aj fQ) 3 "ahead" := .of ψ
theorem uY:Nm mL (aj fQ) 4 "picks" := .of ψ
theorem m7:Nm mL (aj fQ) 5 "word" := .of ψ
theorem uX:Nm mL (aj fQ) 6 "low" := .of ψ
theorem G8:Nm mL (aj fQ) 7 "high" := .of ψ
theorem zN:Nm mL (aj fQ) 8 "label" := .of ψ
theorem Ao:GI_ fQ "mask_row" := by decide +kernel
theorem yt:GI_ fQ "table_row" := by decide +kernel
theorem Y7:Bn "row_of" := ⟨ψ,ψ⟩
theorem T6 (hB:∀x:Str,x∈BLs->mg x=none) (CTableRow:Cal P w K mg base "table_row" 1 q11_ Gq) (CMaskRow:Cal P w K mg base "mask_row" 2 q8_ La) (F:Fun K "row_of" "row_of" fQ f fd):cQ P w K mg base CX0 3 f fd q5_ K9:=by
 refine F.okq uJ (fun vs H Q E h=>?_) (fun cdv A outer s H vs Q E hr h=>?_)
 ·obtain⟨s,l,p,av,A,d,n,PL,ok,ss,left,pl,rfl,_⟩:=h;rfl
 obtain⟨s,l,p,av,A1,d,n,PL,ok,ss,left,pl,rfl,nok,ts,tl,tp,ed,lf,rs,vl,hav,hled,htab,q⟩:=h;refine⟨_,(aD (bG m7 uJ.nd (aG aP (ao qb) aq (fun _ _=>rfl)) rfl (.inl rfl))
  (aD (bR (aW (b7 hr.bH) (ao m7) bB (aU _)) (aJ (aV (bK (ak bB (ak (aG aP (ao qb) aq (fun _ _=>rfl)) aB rfl) rfl)))) bC)
  (aD (bR (aW (b7 hr.bH) (ao m7) bB (aU _)) (aJ (aV (bF CTableRow (hr.mono δ) yt Kz (ak (ao zO) (ak (ao G9) (ak (ao uY) aB rfl) rfl) rfl) rfl rfl))) bC)
  (aD (bR (aW (b7 hr.bH) (ao m7) bB (aU _)) (aJ (aV (bF CMaskRow (hr.mono δ) Ao Qu (ak (ao zO) (ak (ao G9) (ak (aG aP (ao qb) aq (fun _ _=>rfl)) (ak (Lz hr.pF (ao uY) (aG aP (ao qb) aq (fun _ _=>rfl)) (fun _ _=>rfl)) aB rfl) rfl) rfl) rfl) rfl rfl))) bC)
  (aD (jk (aG aP (ao zO) (aG aP (ao qb) aq (fun _ _=>rfl)) (fun _ _=>rfl)) (dO (n:=3) rfl (aR (bT uX uJ.nd (.inl rfl)) (aR (bT G8 uJ.nd (.inl rfl)) (aR (bT zN uJ.nd (.inl rfl)) cL rfl) rfl) rfl) rfl rfl) rfl rfl rfl)
  (aD (bR (aW (b7 hr.bH) (ao m7) bB (aU _)) (aJ (aV (bK (ak bB (ak (ao uX) (ak (ao Um) aB rfl) rfl) rfl)))) bC)
  (aD (bR (aW (b7 hr.bH) (ao m7) bB (aU _)) (aJ (aV (bK (ak bB (ak (ao uX) (ak (Lz hr.pF (ao uY) (ao zN) (fun _ _=>rfl)) aB rfl) rfl) rfl)))) bC)
  (aJ (aV (bK (ak bB (ak (ao uX) (ak (ao G8) (ak (Lz hr.pF (ao uY) (ao zN) (fun _ _=>rfl)) aB rfl) rfl) rfl) rfl))))))))))),?_⟩
 have tp0:=tp;obtain⟨pa,pys,rfl,epa,hword⟩:=tp.Ey;have sc1:∀{d:Bz}{v:V}{ds:List Bz}{d0:Bz},plD pl=.tuple (d0::d::ds)->ZQ d=some v->atI pys 1=some v:=fun {d v ds d0} he hv=>by
  rw[he] at tp0;obtain⟨pa',xs,e',ex,txs⟩:=aK.vP tp0;cases e';rw[epa] at ex;cases ex;obtain⟨x0,r,rfl,_,txs⟩:=txs.gQ;obtain⟨x1,r,rfl,t1,txs⟩:=txs.gQ;rw[<- t1.sc2 hv];exact V2 _ _ _
 have mkT:∀(a:Addr)(xs:List V)(ds:List Bz),H a=none->xs.length<=1000000->(∀H',aO ok H' xs ds)->gH (rowOf ss (gP n PL) left A1 pl)=.tuple ds->Q (.ref a) (upd H a (.tup xs)):=fun a xs ds ha hl ht he=>q _ _ (aA ha) (by
  rw[he];exact .tup (nok _ _ (Same.refl _) ha) au hl (ht _))
 refine aM fun k hk=>?_;push_cast [epa,hword];subst hk;refine aM fun k hk=>?_;push_cast;cases pl with
 | pick m=>
  rw[if_pos (show dN (.pick m) = "pick" from rfl)];have h1:=sc1 (v:=.int m) rfl rfl;push_cast [epa,h1];exact⟨aQ δ,fun a ha=>mkT a _ _ ha (show(2:Nat)<=1000000 by decide) (fun _=>.cons (.str _) (.cons (.int _) .nil)) rfl⟩
 | tab=>
  rw[if_neg (show ¬dN (.tab) = "pick" from show ¬("table" : Str) = "pick" by decide +kernel)];subst hk;refine aM fun k hk=>?_;push_cast;rw[if_pos (show dN .tab = "table" from rfl)];refine⟨_,_,d,n,PL,ok,ss,left,rfl,ts,tl,ed,lf,rs,vl,htab rfl,fun a t H' s' ha ea ht et=>q _ _ s' ?_⟩;have hgl:=lB rs (gP n PL) lf;have vl':eF ss left<=200:=vl;exact .tup (nok H a (Same.refl _) ha) ea (show(3:Nat)<=1000000 by decide) (.cons (.str _) (.cons (.int _) (.cons (.tup (nok H t (Same.refl _) ht) et (by rw[AI];omega) (Ck _)) .nil)))
 | msk m r=>
  rw[if_neg (show ¬dN (.msk m r) = "pick" from show ¬("mask" : Str) = "pick" by decide +kernel)];subst hk;refine aM fun k hk=>?_;push_cast;rw[if_neg (show ¬dN (.msk m r) = "table" from show ¬("mask" : Str) = "table" by decide +kernel)];subst hk;refine aM fun k hk=>?_;push_cast;rw[if_pos (show dN (.msk m r) = "mask" from rfl)];have h1:=sc1 (v:=.int m) rfl rfl;have g3:=mO.k' (k:=B1 m) ed (jY n (hled m (Au.mpr rfl)));push_cast [epa,h1,rdA];refine⟨d,_,rfl,g3,?_⟩;exact⟨_,_,m,_,ok,ss,left,rfl,ts,tl,lf,rs,vl.1,fun a ha=>mkT a _ _ ha (show(5:Nat)<=1000000 by decide) (fun _=>.cons (.str _) (.cons (.int _) (.cons (.int _) (.cons (.int _) (.cons (.int _) .nil))))) rfl⟩
 | low j a b=>
  rw[if_neg (show ¬dN (.low j a b) = "pick" from show ¬("below" : Str) = "pick" by decide +kernel)];subst hk;refine aM fun k hk=>?_;push_cast;rw[if_neg (show ¬dN (.low j a b) = "table" from show ¬("below" : Str) = "table" by decide +kernel)];subst hk;refine aM fun k hk=>?_;push_cast;rw[if_neg (show ¬dN (.low j a b) = "mask" from show ¬("below" : Str) = "mask" by decide +kernel)];subst hk;cases ts with
  | lst o es zs tss=>
  have hj:j∈left:=vl;obtain⟨p1,x1,y1⟩:=tss.stN (lf.lt _ hj);have h1:=sc1 (v:=.int (j:Int)) rfl rfl;refine aM fun k hk=>?_;push_cast [epa,h1,es,x1,y1];subst hk;refine aM fun k hk=>?_;push_cast;rw[if_pos (show dN (.low j a b) = "below" from rfl)];rw[hav _ _ _ rfl];push_cast;exact⟨aQ δ,fun a ha=>mkT a _ _ ha (show(3:Nat)<=1000000 by decide) (fun _=>.cons (.str _) (.cons (.int _) (.cons (.int _) .nil))) rfl⟩
 | one j r=>
  rw[if_neg (show ¬dN (.one j r) = "pick" from show ¬("is" : Str) = "pick" by decide +kernel)];subst hk;refine aM fun k hk=>?_;push_cast;rw[if_neg (show ¬dN (.one j r) = "table" from show ¬("is" : Str) = "table" by decide +kernel)];subst hk;refine aM fun k hk=>?_;push_cast;rw[if_neg (show ¬dN (.one j r) = "mask" from show ¬("is" : Str) = "mask" by decide +kernel)];subst hk;cases ts with
  | lst o es zs tss=>
  have hj:j∈left:=vl.1;obtain⟨p1,x1,y1⟩:=tss.stN (lf.lt _ hj);have h1:=sc1 (v:=.int (j:Int)) rfl rfl;refine aM fun k hk=>?_;push_cast [epa,h1,es,x1,y1];subst hk;refine aM fun k hk=>?_;push_cast;rw[if_neg (show ¬dN (.one j r) = "below" from show ¬("is" : Str) = "below" by decide +kernel)];subst hk;refine aM fun k hk=>?_;push_cast;rw[if_pos (show dN (.one j r) = "is" from rfl)];have g3:=mO.k' (k:=B1 (lbl ss j)) ed (jY n (hled _ (Au.mpr rfl)));push_cast [rdA];exact⟨d,_,rfl,g3,aQ δ,fun a ha=>mkT a _ _ ha (show(3:Nat)<=1000000 by decide) (fun _=>.cons (.str _) (.cons (.int _) (.cons (.int _) .nil))) rfl⟩
 | wit j r=>
  rw[if_neg (show ¬dN (.wit j r) = "pick" from show ¬("within" : Str) = "pick" by decide +kernel)];subst hk;refine aM fun k hk=>?_;push_cast;rw[if_neg (show ¬dN (.wit j r) = "table" from show ¬("within" : Str) = "table" by decide +kernel)];subst hk;refine aM fun k hk=>?_;push_cast;rw[if_neg (show ¬dN (.wit j r) = "mask" from show ¬("within" : Str) = "mask" by decide +kernel)];subst hk;cases ts with
  | lst o es zs tss=>
  have hj:j∈left:=vl;obtain⟨p1,x1,y1⟩:=tss.stN (lf.lt _ hj);have h1:=sc1 (v:=.int (j:Int)) rfl rfl;refine aM fun k hk=>?_;push_cast [epa,h1,es,x1,y1];subst hk;refine aM fun k hk=>?_;push_cast;rw[if_neg (show ¬dN (.wit j r) = "below" from show ¬("within" : Str) = "below" by decide +kernel)];subst hk;refine aM fun k hk=>?_;push_cast;rw[if_neg (show ¬dN (.wit j r) = "is" from show ¬("within" : Str) = "is" by decide +kernel)];subst hk;have g3:=mO.k' (k:=B1 (lbl ss j)) ed (jY n (hled _ (Au.mpr rfl)));push_cast [rdA];exact⟨d,_,rfl,g3,aQ δ,fun a ha=>mkT a _ _ ha (show(4:Nat)<=1000000 by decide) (fun _=>.cons (.str _) (.cons (.int _) (.cons (.int _) (.cons (.int _) .nil)))) rfl⟩
noncomputable abbrev jg:List Str:=["stretches","plan","steps","aheads","picks","rows","place","left","part"]
noncomputable abbrev cM:Stmt:=top 11
theorem jz:bx jg q7_ (aj cM):=⟨rfl,rfl,rfl,ψ,rfl,ψ,ψ⟩
theorem wB:Nm jg (aj cM) 0 "stretches" := .of ψ
theorem O8:Nm jg (aj cM) 1 "plan" := .of ψ
theorem rz:Nm jg (aj cM) 2 "steps" := .of ψ
theorem Di:Nm jg (aj cM) 3 "aheads" := .of ψ
theorem wA:Nm jg (aj cM) 4 "picks" := .of ψ
theorem rm:Nm jg (aj cM) 5 "rows" := .of ψ
theorem Dh:Nm jg (aj cM) 6 "place" := .of ψ
theorem Dg:Nm jg (aj cM) 7 "left" := .of ψ
theorem Df:Nm jg (aj cM) 8 "part" := .of ψ
theorem vB:GI_ cM "enumerate" := by decide +kernel
theorem rH:GI_ cM "picks_behind" := by decide +kernel
theorem rG:GI_ cM "places_ahead" := by decide +kernel
theorem BP:GI_ cM "row_of" := by decide +kernel
theorem yr:GI_ cM "steps_of" := by decide +kernel
theorem VJ:Bn "rows_of" := ⟨ψ,ψ⟩
theorem Ox (hB:∀x:Str,x∈BLs->mg x=none) (CStepsOf:Cal P w K mg base "steps_of" 2 q7_ Gr) (CPlacesAhead:Cal P w K mg base "places_ahead" 1 ["steps"] Lj) (CPicksBehind:Cal P w K mg base "picks_behind" 3 ["stretches","steps"] Gv) (CRowOf:Cal P w K mg base "row_of" 3 q5_ K9) (F:Fun K "rows_of" "rows_of" cM f fd):cQ P w K mg base CX0 4 f fd q7_ Gu:=by
 refine F.okq jz (fun vs H Q E h=>?_) (fun cdv A outer s H vs Q E hr h=>?_)
 ·obtain⟨s,p,ok,ss,pl,rfl,_⟩:=h;rfl
 obtain⟨s,p,ok,ss,pl,rfl,hn,ts,tp,h60,hsz,pv,rs,q⟩:=h;refine⟨_,(aD (bG rz jz.nd (bF CStepsOf (hr.mono δ) yr Qs (ak (ao wB) (ak (ao O8) aB rfl) rfl) rfl rfl) rfl (.inl rfl))
  (aD (bG Di jz.nd (bF CPlacesAhead (hr.mono δ) rG BW (ak (ao rz) aB rfl) rfl rfl) rfl (.inl rfl))
  (aD (bG wA jz.nd (bF CPicksBehind (hr.mono δ) rH BX (ak (ao wB) (ak (ao rz) aB rfl) rfl) rfl rfl) rfl (.inl rfl))
  (aD (bG rm jz.nd (bZ aB) rfl (.inl rfl))
  (aD (gY BU rfl (yK vB (hB "enumerate" iY) (ak (ao rz) aB rfl) rfl) (dO (n:=2) rfl (aR (bT Dh jz.nd (.inl rfl)) (aR (dO (n:=2) rfl (aR (bT Dg jz.nd (.inl rfl)) (aR (bT Df jz.nd (.inl rfl)) cL rfl) rfl) rfl rfl) cL rfl) rfl) rfl rfl)
  (aJ (fB (jP (ao rm) (bF CRowOf (hr.mono δ) BP Y7 (ak (ao wB) (ak (ao Dg) (ak (ao Df) (ak (SN hr.pF (ao Di) (ao Dh) ⟨rfl,rfl,rfl,rfl⟩) (ak (ao wA) aB rfl) rfl) rfl) rfl) rfl) rfl rfl) rfl rfl rfl rfl rfl) rfl)) (fun _=>rfl))
  (aD (fB (Ew (ao rm) (SX (j:=4) (NX:=jg) (kX:=(aj cM).names) ["label"] [none] rfl rfl ⟨rfl,ψ,ψ,ψ,ψ⟩ rfl (fun _=>Od wA) (fun _ _ _ _ _=>(dM 0 (show CL (["label"]:List Str) from by decide +kernel) rfl (EF rfl))) (fun _ _ _ _ _=>pP) (fun _ _ _ _ _=>(bK (ak bB (ak (b8 0) aB rfl) rfl))) rfl) rfl rfl rfl rfl rfl) rfl)
  (aJ (aV (ao rm))))))))),?_⟩
 refine aM fun k hk=>?_;push_cast;refine⟨s,p,ok,ss,pl,rfl,hn,ts,tp,h60,ω,pv.ok,fun v H1 s1 t1=>?_⟩;have hslen:=fL ss pl (AU ss.length);have hS:=pv.steps;have hnd:=jo pl 0;have hplen:=Cz h60 hS;have t10:=t1;cases t1 with
 | lst o1 e1 z1 ts1=>
  rename_i ls xs1;have hxl:=ts1.length;rw[AI] at hxl;show k _ _;subst hk;refine aM fun k hk=>?_;push_cast;refine⟨ls,ok,ss,pl,_,rfl,t10,ω,fun da H2 s2 hda eda=>?_⟩;have s12:=s1.trans s2;show k _ _;subst hk;refine aM fun k hk=>?_;push_cast;refine⟨s,ls,ok,ss,_,rfl,ts.same s12,t10.same s2,hS,ω,ω,fun dp H3 s3 hdp edp=>?_⟩;have s13:=s12.trans s3;have eda3:=s3 _ _ eda;have e13:=(s2.trans s3) _ _ e1;have hdp0:H dp=none:=s12.none hdp;have hda0:H da=none:=s1.none hda;show k _ _;subst hk;refine aM fun k hk=>?_;push_cast;refine⟨aQ δ,fun lr hlr=>?_⟩;have s4:=aA (o:=HO.lst []) hlr;have ndp:dp≠lr:=aF edp hlr;have nda:da≠lr:=aF eda3 hlr;have s14:=s13.trans s4;have er4:upd H3 lr (HO.lst []) lr=_:=au;have eda4:=s4 _ _ eda3;have edp4:=s4 _ _ edp;have e14:=s4 _ _ e13;have nls:ls≠lr:=aF e13 hlr;have hlr0:H lr=none:=s13.none hlr;generalize upd H3 lr (HO.lst [])=H4 at s4 s14 er4 eda4 edp4 e14 |-;obtain⟨OD,hOD⟩:∃OD:Addr->Prop,OD=fun x=>ok x/\x≠lr/\x≠dp:=⟨_,rfl⟩;have hn4:jN OD H4:=by rw[hOD];exact Uk hn s14 er4 edp4
  have up:∀a o,ok a->H a=some o->OD a/\H4 a=some o:=fun a o h e=>by
   rw[hOD];exact⟨⟨h,aF e hlr0,aF e hdp0⟩,s14 _ _ e⟩
  have tsO:aK OD H4 s (.list (ss.map stD)):=ts.keep up;have up1:∀a o,ok a->H1 a=some o->OD a/\H4 a=some o:=fun a o h e=>by
   rw[hOD];exact⟨⟨h,aF ((s2.trans s3) _ _ e) hlr,aF (s2 _ _ e) hdp⟩,s4 _ _ ((s2.trans s3) _ _ e)⟩
  have ts4:=ts1.keep up1;clear s4 eda3 edp e13 s13 s12 s2 s3 s1 hlr hdp hda eda e1 t10 ts1 up up1;show k _ _;subst hk;refine aM fun k hk=>?_;refine lF fun R hR=>?_;push_cast [Dt,e14];refine⟨⟨_,SqL.of e14⟩,?_⟩;obtain⟨g,hg⟩:∃g,g=gP (aY ss pl (AU ss.length)).length (iM ss (aY ss pl (AU ss.length))):=⟨_,rfl⟩;have htab:=fun x lf hx=>K6 (ss:=ss) (pl:=pl) (x:=x) lf hx;have hled:=fun x (hx:x∈aY ss pl (AU ss.length)) (l:Int) hl=>pQ (ss:=ss) (l:=l) hx hl;have hlow:=wK ss pl (AU ss.length) 0;have hrows:=iu ss g (ahA (bM pl 0)) pl (AU ss.length) 0 fun x hx=>abw hnd hx;have hall:cZ ss pl=gG ss g pl (AU ss.length) 0++(iM ss (aY ss pl (AU ss.length))).map RowC.pik:=by
   rw[hg,hslen];rfl
  rw[hall,<- hrows] at q;clear hall hrows;generalize aY ss pl (AU ss.length)=S at *;generalize iM ss S=PL at *;obtain⟨Pv,hPv⟩:∃Pv:Nat->L2.St->Hp->Prop,Pv=fun(i:Nat) σ H'=>∃(xs:List V)(o6 o7 o8:Option V),cW lr H4 H'/\H' lr=some (.lst xs)/\aO OD H' xs ((dH ss g (ahA (bM pl 0)) 0 (S.take i)).map gH)/\xs.length=i/\σ=[some s,some p,some (.ref ls),some (.ref da),some (.ref dp),some (.ref lr),o6,o7,o8]:=⟨_,rfl⟩;have kk:∀{H' H'':Hp},cW lr H' H''->∀a o,OD a->H' a=some o->OD a/\H'' a=some o:=fun {H' H''} sx a o h e=>by
   refine⟨h,sx a o ?_ e⟩;rw[hOD] at h;exact h.2.1
  refine Mw hR (xs:=xs1) Pv (by rw[hPv];exact⟨[],_,_,_,fun a o _ e=>e,er4,.nil,rfl,rfl⟩) (fun i σ H' pv=>?_) ?_ ?_
  ·rw[hPv] at pv;obtain⟨_,_,_,_,s',_⟩:=pv;exact s' _ _ nls e14
  ·intro i x σ H5 pp hx pv5 hpp;rw[hPv] at pv5;obtain⟨xs,o6,o7,o8,s5,er5,txs,hxs,rfl⟩:=pv5;have npp:pp≠lr:=(aF er5 hpp).symm;have s6:=aA (o:=HO.tup [V.int (i:Int),x]) hpp;have ep:upd H5 pp (HO.tup [V.int (i:Int),x]) pp=_:=au;have sx6:cW lr H4 (upd H5 pp (HO.tup [V.int (i:Int),x])):=s5.trans s6.x;have er6:=s6 _ _ er5;have txs6:=txs.same s6;generalize upd H5 pp (HO.tup [V.int (i:Int),x])=H6 at s6 ep sx6 er6 txs6 |-;have ts6:=ts4.keep (kk sx6);have tsO6:=tsO.keep (kk sx6);have eda6:=sx6 _ _ nda eda4;have edp6:=sx6 _ _ ndp edp4;have hn6:jN OD H6:=by rw[hOD];exact Uk hn ((Jo sx6 s14 hlr0)) er6 edp6
   obtain⟨dx,hdx,tdx⟩:=ts6.get hx;rw[A4] at hdx;obtain⟨y,hy,rfl⟩:=Cn.mp hdx;obtain⟨px,vs,rfl,epx,tvs⟩:=aK.vP tdx;obtain⟨vl,r,rfl,tl,tvs⟩:=tvs.gQ;obtain⟨vp,r,rfl,tpp,tvs⟩:=tvs.gQ;obtain rfl:r=[]:=DZ.mp tvs.length;have hyS:=A2 hy;obtain⟨lf,vl'⟩:=hS y hyS;push_cast [ep,epx,er6,vf,Jh];refine⟨.inl ⟨_,.inl eda6⟩,_,mO.k (k:=B1 (i:Int)) eda6,?_⟩;refine⟨s,vl,vp,_,ahA (bM pl 0) i,dp,_,_,OD,ss,y.1,y.2,rfl,hn6,tsO6,tl,tpp,edp6,lf,rs,vl',fun kk' a b he=>?_,fun l hl=>hled y hyS l hl,fun he j h1 h2=>htab y lf hyS he j h1 h2,fun v H7 s7 t7=>?_⟩
   ·obtain⟨t,ht⟩:=hlow i y.1 kk' a b (by rw[hy,<- he]);rw[FF] at ht;have h1:=DK hnd ht;unfold ahA;rw[h1];rfl
   have er7:=s7 _ _ er6;have txs7:=txs6.same s7;push_cast [er7];refine⟨DH (show xs.length<=1000000 by have:=(AG.mp hx).1;omega) δ,?_⟩;rw[hPv];refine⟨_,_,_,_,(sx6.trans s7.x).trans cW.upd,au,?_,?_,rfl⟩
   ·rw[Bo hy,BS];refine(txs7.keep (kk cW.upd)).append (.cons (aK.keep (kk cW.upd) ?_) .nil);rw[hg];exact t7
   rw[AR,A9,hxs]
  intro σ H5 pv5;rw[hPv] at pv5;obtain⟨xs,o6,o7,o8,s5,er5,txs,hxs,rfl⟩:=pv5;rw[hxl,Fa] at txs;have edp5:=s5 _ _ ndp edp4;show k _ _;subst hk;refine aM fun k hk=>?_;push_cast [yR,FN,er5,vf];refine⟨dp,_,rfl,edp5,hdp0,?_⟩;obtain⟨O2,hO2⟩:∃OD:Addr->Prop,OD=fun x=>ok x/\x≠lr:=⟨_,rfl⟩;have su:∀a o,a≠dp->H5 a=some o->unt H5 dp a=some o:=fun a o h e=>by rw[sO h];exact e
  have eru:=su _ _ ndp.symm er5;have txu:aO O2 (unt H5 dp) xs ((dH ss g (ahA (bM pl 0)) 0 S).map gH):=txs.keep fun a o h e=>by
   rw[hOD] at h;rw[hO2];exact⟨⟨h.1,h.2.1⟩,su _ _ h.2.2 e⟩
  have sHu:cW lr H (unt H5 dp):=fun a o h e=>su _ _ (aF e hdp0) (s5 _ _ h (s14 _ _ e));generalize unt H5 dp=Hu at su eru txu sHu |-;rw[DG];obtain⟨Pc,hPc⟩:∃Pv:Nat->List V->L2.St->Hp->Prop,Pv=fun(i:Nat) acc τ H'=>∃(o0:Option V),Same Hu H'/\aO O2 H' acc ((PL.take i).map fun l=>gH (.pik l))/\acc.length=i/\τ=[o0]:=⟨_,rfl⟩;refine FW (J:=Itk (PL.map fun l=>(B1 l:Key))) rfl PL.length (aQ ω) Pc (by rw[hPc];exact⟨_,Same.refl _,.nil,rfl,rfl⟩) ?_ ?_ ?_ ?_ ?_
  ·intro i acc τ H' pc;rw[hPc] at pc;obtain⟨_,_,_,h,_⟩:=pc;exact Nat.le_of_eq h
  ·intro i acc τ H' hi _;show i<_;rw[AI];exact hi
  ·intro acc τ H' _;show(PL.map fun l=>(B1 l:Key)).length<=PL.length;rw[AI];exact A6 _
  ·rintro i acc τ H6 x H6' hi pc ⟨rfl,kx,hk6,rfl⟩;rw[hPc] at pc;obtain⟨o0,s6,tacc,hacc,rfl⟩:=pc;rw[A4] at hk6;obtain⟨l,hl,rfl⟩:=Cn.mp hk6;show lE 0 (V.int l) _ _ _;push_cast;refine⟨aQ δ,fun a ha=>?_⟩;have s7:=aA (o:=HO.tup [V.str "pick",V.int l]) ha;rw[hPc];refine⟨_,s6.trans s7,?_,by rw[AR,A9,hacc],rfl⟩;rw[FE,hl,BS];refine(tacc.same s7).append (.cons (.tup ?_ au (show 2<=1000000 by decide) (.cons (.str _) (.cons (.int _) .nil))) .nil);rw[hO2];refine⟨hn.new ?_,?_⟩
   ·cases e:H a with
    | none=>rfl
    | some o=>
     have:=s6 _ _ (sHu a o (aF e hlr0) e);rw[ha] at this;cases this
   exact(aF (s6 _ _ eru) ha).symm
  intro acc τ H6 c pc hc;rw[hPc] at pc;obtain⟨o0,s6,tacc,hacc,rfl⟩:=pc;rw[Fa] at tacc;have s7:=s6.trans (aA (o:=HO.lst acc) hc);have ec:upd H6 c (HO.lst acc) c=_:=au;have tac7:=tacc.same (aA (o:=HO.lst acc) hc);generalize upd H6 c (HO.lst acc)=H7 at s7 ec tac7 |-;have er7:=s7 _ _ eru;rw[Az,er7,ec,Kp];refine⟨aQ ω,?_⟩;show k _ _;subst hk;push_cast;refine q lr (xs++acc) _ ?_ hlr0 au ?_
  ·exact fun a o e=>by
    rw[aH (aF e hlr0)];exact s7 _ _ (sHu _ _ (aF e hlr0) e)
  have k8:∀a o,O2 a->H7 a=some o->(ok a/\a≠lr)/\upd H7 lr (HO.lst (xs++acc)) a=some o:=fun a o h e=>by
   rw[hO2] at h;exact⟨h,by rw[aH h.2];exact e⟩
  rw[BS];refine((txu.same s7).keep k8).append ?_;have:=tac7.keep k8;rwa [GH]
noncomputable abbrev KN:List Str:=["_law_stretches_here","_law_left"]
noncomputable abbrev pH:Stmt:=top 37
theorem Wy:bx KN q10_ (aj pH):=⟨rfl,rfl,rfl,ψ,rfl,ψ,ψ⟩
theorem G3:Nm KN (aj pH) 0 "_law_stretches_here" := .of ψ
theorem GZ:Nm KN (aj pH) 1 "_law_left" := .of ψ
theorem Nb:Bn "_law_span" := ⟨ψ,ψ⟩
theorem Yb (hB:∀x:Str,x∈BLs->mg x=none) (F:Fun K "_law_span" "_law_span" pH f fd):cQ P w K mg base CX0 1 f fd q10_ uD:=by
 refine F.okq Wy (fun vs H Q E h=>?_) (fun cdv A outer s H vs Q E hr h=>?_)
 ·obtain⟨s,l,ok,ss,left,rfl,_⟩:=h;rfl
 obtain⟨s,l,ok,ss,left,rfl,ts,tl,lf,q⟩:=h;refine⟨_,(aJ (aV (aN aZ (aN cU (aG aP (aG aP (ao G3) (aG aP (ao GZ) (jA fP aq) (fun _ _=>rfl)) (fun _ _=>rfl)) aq (fun _ _=>rfl)) (aG aP (aG aP (ao G3) (aG aP (ao GZ) aq (fun _ _=>rfl)) (fun _ _=>rfl)) aq (fun _ _=>rfl))) aq))),?_⟩;obtain⟨la,rfl,_,el,_⟩:=tl.left;replace el:H la=some (.lst (nv left)):=el;cases ts with
 | lst o es zs tss=>
  obtain⟨k1,e1,m1,a1⟩:=Fd lf.ne;obtain⟨k0,e0,m0,a0⟩:=yL lf.ne;obtain⟨p1,x1,y1⟩:=tss.stN (lf.lt _ m1);obtain⟨p0,x0,y0⟩:=tss.stN (lf.lt _ m0);unfold eF at q;rw[e1,e0] at q;push_cast [el,a1,a0,es,x1,x0,y1,y0];exact q
noncomputable abbrev gm:List Str:=["_law_tape_here","_law_stretches_here","_law_left","_law_labels","_law_way","_law_at","_law_rest","_law_others","_law_single","_law_sort","_law_one"]
noncomputable abbrev cH:Stmt:=top 38
theorem jt:bx gm q0_ (aj cH):=⟨rfl,rfl,rfl,ψ,rfl,ψ,ψ⟩
theorem jB:Nm gm (aj cH) 0 "_law_tape_here" := .of ψ
theorem iT:Nm gm (aj cH) 1 "_law_stretches_here" := .of ψ
theorem fK:Nm gm (aj cH) 2 "_law_left" := .of ψ
theorem uW:Nm gm (aj cH) 3 "_law_labels" := .of ψ
theorem pZ:Nm gm (aj cH) 4 "_law_way" := .of ψ
theorem kI:Nm gm (aj cH) 5 "_law_at" := .of ψ
theorem G6:Nm gm (aj cH) 6 "_law_rest" := .of ψ
theorem zJ:Nm gm (aj cH) 7 "_law_others" := .of ψ
theorem G5:Nm gm (aj cH) 8 "_law_single" := .of ψ
theorem G4:Nm gm (aj cH) 9 "_law_sort" := .of ψ
theorem CP:Nm gm (aj cH) 10 "_law_one" := .of ψ
theorem jT:GI_ cH "_law_plan" := by decide +kernel
theorem vy:GI_ cH "_law_span" := by decide +kernel
theorem jR:GI_ cH "_law_take" := by decide +kernel
theorem Kf:GI_ cH "int" := by decide +kernel
theorem tZ:GI_ cH "len" := by decide +kernel
theorem Ke:GI_ cH "max" := by decide +kernel
theorem Kd:GI_ cH "min" := by decide +kernel
theorem vM:Bn "_law_plan" := ⟨ψ,ψ⟩
theorem Oi:cQ P w K mg base CX0 2 f fd q0_ (qM 0):=by
 have no:∀vs H Q E,¬qM 0 vs H Q E:=fun vs H Q E h=>by
  obtain⟨p,s,l,B,ss,left,_,_,_,_,_,_,lf,h0,_⟩:=h;exact lf.ne (F7 ω)
 exact⟨fun vs H Q E h=>absurd h (no vs H Q E),fun A outer s H args us vs Q E _ _ _ _ h=>absurd h (no vs H Q E)⟩
theorem Ye {n:Nat}(hB:∀x:Str,x∈BLs->mg x=none) (CZTake:Cal P w K mg base "_law_take" 2 q1_ (sU 2)) (CZSpan:Cal P w K mg base "_law_span" 1 q10_ uD) (CZPlan:Cal P w K mg base "_law_plan" (n+2) q0_ (qM n)) (F:Fun K "_law_plan" "_law_plan" cH f fd):cQ P w K mg base CX0 (n+3) f fd q0_ (qM (n+1)):=by
 refine F.okq jt (fun vs H Q E h=>?_) (fun cdv A outer s H vs Q E hr h=>?_)
 ·obtain⟨p,s,l,B,ss,left,rfl,_⟩:=h;rfl
 obtain⟨p,s,l,B,ss,left,rfl,tp,hB0,hB1,ts,tl,lf,hn1,h60,q⟩:=h;refine⟨_,(aD (nY (NX:=gm) (kX:=(aj cH).names) ["_law_k","_law_stretches_here"] [none,some 1] uW jt.nd rfl rfl ⟨rfl,ψ,ψ,ψ,ψ⟩ rfl (cO (ao fK)) (fun _ _ _ _ _=>(dM 0 (show CL (["_law_k","_law_stretches_here"]:List Str) from by decide +kernel) rfl (EF rfl))) (fun _ _ _ _ _=>pP) (fun _ _ _ _ _=>(aG aP (aG aP (b8 1) (b8 0) (fun _ _=>rfl)) aq (fun _ _=>rfl))))
  (aD (jk (bK (ak (bF CZTake (hr.mono ω) jR d8 (ak (ao jB) (ak aq aB rfl) rfl) rfl rfl) (ak (aG aP (ao fK) (bF CZTake (hr.mono ω) jR d8 (ak (ao jB) (ak (dz dJ tZ (hB "len" iW) CD je (ak (ao fK) aB rfl) rfl rfl) aB rfl) rfl) rfl rfl) (fun _ _=>rfl)) aB rfl) rfl)) (dO (n:=2) rfl (aR (bT pZ jt.nd (.inl rfl)) (aR (bT kI jt.nd (.inl rfl)) cL rfl) rfl) rfl rfl) rfl rfl rfl)
  (aD (bR (vX (kE (aW (b7 hr.bH) (dz (Qi rfl) Kd (hB "min" wJ) boot_min wX (ak (ao uW) aB rfl) rfl rfl) (dz (Qk rfl) Ke (hB "max" tR) IY uf (ak (ao uW) aB rfl) rfl rfl) (aU _)) (jx (vX (Sw (aW (b7 hr.bH) (dz dJ tZ (hB "len" iW) CD je (ak (ao fK) aB rfl) rfl rfl) aq (aU _)) (Jq (aW Mg (ao pZ) aq (aU _)))))))) (aJ (aV (bK (ak bB (ak (aG aP (ao uW) aq (fun _ _=>rfl)) aB rfl) rfl)))) bC)
  (aD (nY (NX:=gm) (kX:=(aj cH).names) ["_law_k","_law_at"] [none,some 5] G6 jt.nd rfl rfl ⟨rfl,ψ,ψ,ψ,ψ⟩ rfl (cO (ao fK)) (fun _ _ _ _ _=>(dM 0 (show CL (["_law_k","_law_at"]:List Str) from by decide +kernel) rfl (EF rfl))) (fun _ _ _ _ _=>(pO (aW (v5 hr.bH) (b8 0) (b8 1) (aU _)))) (fun _ _ _ _ _=>(b8 0)))
  (aD (bR (vX (kE (aW (b7 hr.bH) (ao pZ) aq (aU _)) (jx (aW xG (bF CZSpan (hr.mono ω) vy Nb (ak (ao iT) (ak (ao fK) aB rfl) rfl) rfl rfl) aq (aU _))))) (aJ (aV (bK (ak bB aB rfl)))) bC)
  (aD (nY (NX:=gm) (kX:=(aj cH).names) ["_law_k","_law_stretches_here","_law_at"] [none,some 1,some 5] zJ jt.nd rfl rfl ⟨rfl,ψ,ψ,ψ,ψ⟩ rfl (cO (ao fK)) (fun _ _ _ _ _=>(dM 0 (show CL (["_law_k","_law_stretches_here","_law_at"]:List Str) from by decide +kernel) rfl (EF rfl))) (fun _ _ _ _ _=>(pO (aW (v5 hr.bH) (aG aP (aG aP (b8 1) (b8 0) (fun _ _=>rfl)) aq (fun _ _=>rfl)) (aG aP (aG aP (b8 1) (b8 2) (fun _ _=>rfl)) aq (fun _ _=>rfl)) (aU _)))) (fun _ _ _ _ _=>(b8 0)))
  (aD (bR (vX (kE (aW mX (ao pZ) aq (aU _)) (kE (aW (v5 hr.bH) (ao zJ) (bZ aB) (aU _)) (jx (aW xG (bF CZSpan (hr.mono ω) vy Nb (ak (ao iT) (ak (ao fK) aB rfl) rfl) rfl rfl) aq (aU _)))))) (aJ (aV (bK (ak bB (ak (aG aP (aG aP (ao iT) (ao kI) (fun _ _=>rfl)) aq (fun _ _=>rfl)) (ak (bF CZPlan (hr.mono ω) jT vM (ak (ao jB) (ak (ao iT) (ak (ao zJ) aB rfl) rfl) rfl) rfl rfl) aB rfl) rfl) rfl)))) bC)
  (aD (bR (aW mX (ao pZ) aq (aU _)) (aD (bG G5 jt.nd (SQ Bd Kf (hB "int" Ut) boot_int VB (ak (pN (b7 hr.bH) (aG aP (aG aP (ao iT) (ao kI) (fun _ _=>rfl)) aq (fun _ _=>rfl)) (aG aP (aG aP (ao iT) (ao kI) (fun _ _=>rfl)) aq (fun _ _=>rfl)) (aU _)) aB rfl) rfl rfl) rfl (.inl rfl))
  (aD (bG G4 jt.nd (aG aP (bZ (ak bB (ak bB aB rfl) rfl)) (aN iQ (ao G5) (bF CZTake (hr.mono ω) jR d8 (ak (ao jB) (ak aq aB rfl) rfl) rfl rfl)) (fun _ _=>rfl)) rfl (.inl rfl))
  (aJ (aV (bK (ak (ao G4) (ak (ao kI) (ak (bF CZPlan (hr.mono ω) jT vM (ak (ao jB) (ak (ao iT) (ak (ao G6) aB rfl) rfl) rfl) rfl rfl) aB rfl) rfl) rfl)))))) bC)
  (aD (bG kI jt.nd (aG aP (uP Ww (ao fK) (uO aq) Es) (bF CZTake (hr.mono ω) jR d8 (ak (ao jB) (ak (aN cU (dz dJ tZ (hB "len" iW) CD je (ak (ao fK) aB rfl) rfl rfl) aq) aB rfl) rfl) rfl rfl) (fun _ _=>rfl)) rfl (.inl rfl))
  (aD (bG CP jt.nd (bF CZPlan (hr.mono ω) jT vM (ak (ao jB) (ak (ao iT) (ak (lR (NX:=gm) (kX:=(aj cH).names) ["_law_k","_law_at"] [none,some 5] rfl rfl ⟨rfl,ψ,ψ,ψ,ψ⟩ rfl (cO (ao fK)) (fun _ _ _ _ _=>(dM 0 (show CL (["_law_k","_law_at"]:List Str) from by decide +kernel) rfl (EF rfl))) (fun _ _ _ _ _=>(pO (aW mX (b8 0) (b8 1) (aU _)))) (fun _ _ _ _ _=>(b8 0))) aB rfl) rfl) rfl) rfl rfl) rfl (.inl rfl))
  (aJ (aV (bK (ak bB (ak (ao kI) (ak (ao CP) (ak (bF CZPlan (hr.mono ω) jT vM (ak (ao jB) (ak (ao iT) (ak (lR (NX:=gm) (kX:=(aj cH).names) ["_law_k","_law_at"] [none,some 5] rfl rfl ⟨rfl,ψ,ψ,ψ,ψ⟩ rfl (cO (ao fK)) (fun _ _ _ _ _=>(dM 0 (show CL (["_law_k","_law_at"]:List Str) from by decide +kernel) rfl (EF rfl))) (fun _ _ _ _ _=>(pO (aW T3 (b8 0) (b8 1) (aU _)))) (fun _ _ _ _ _=>(b8 0))) aB rfl) rfl) rfl) rfl rfl) aB rfl) rfl) rfl) rfl)))))))))))))),?_⟩
 obtain⟨la,rfl,okl,el,ll⟩:=tl.left;replace el:H la=some (.lst (nv left)):=el;cases ts with
 | lst os es zs tss=>
  rename_i sa xs;refine aM fun k hk=>?_;push_cast;refine gC fun R hR=>?_;push_cast [el];refine DP (fun k=>(aL ss k).2.2) (fun τ=>∃o0,τ=[o0,some (.ref sa)]) hR el ll ⟨_,rfl⟩ ?_ ?_
  ·rintro i k' τ acc Pn hk' ⟨o0,rfl⟩ h1;obtain⟨sk,x1,y1⟩:=tss.stN (lf.lt _ (A2 hk'));push_cast [es,x1,y1];exact h1 _ ⟨_,rfl⟩
  intro d hd;have s1:=aA (o:=HO.lst ((left.map fun k=>(aL ss k).2.2).map V.int)) hd;have ed:upd H d (HO.lst ((left.map fun k=>(aL ss k).2.2).map V.int)) d=_:=au;have nd:=tp.ne hd;have tp1:=tp.same s1;have el1:=s1 _ _ el;have es1:=s1 _ _ es;have tss1:=tss.same s1;generalize upd H d (HO.lst ((left.map fun k=>(aL ss k).2.2).map V.int))=H1 at s1 ed tp1 el1 es1 tss1 |-;subst hk;refine aM fun k hk=>?_;push_cast;refine⟨p,8,B,rfl,tp1,by show B+2<=1000100;omega,δ,δ,δ,fun z=>absurd z δ,fun way H2 w0 w1 s2 tp2=>?_⟩;have el2:=s2 _ _ okl el1;push_cast [el2,iR];have hpos:0<left.length:=C0.mpr lf.ne;refine⟨p,left.length,B+2,rfl,tp2,by show B+2+2<=1000100;omega,ω,ω,δ,fun z=>absurd z ω,fun r3 H3 r30 r31 s3 tp3=>?_⟩;obtain⟨at0,hat,mat,aat⟩:=Zm r30 r31;have el3:=s3 _ _ okl el2;push_cast [el3,aat];refine⟨aQ δ,fun t4 ht4=>?_⟩;have s4:=aA (o:=HO.tup [V.int way,V.int (at0:Int)]) ht4;have tp4:=tp3.same s4;have el4:=s4 _ _ el3;have ed4:=s4 _ _ (s3 _ _ nd (s2 _ _ nd ed));have es4:=s4 _ _ (s3 _ _ os (s2 _ _ os es1));have tss4:=((tss1.xq s2).xq s3).same s4;have sx4:cW p H _:=((s1.x.trans s2).trans s3).trans s4.x;generalize upd H3 t4 (HO.tup [V.int way,V.int (at0:Int)])=H4 at s4 tp4 el4 ed4 es4 tss4 sx4 |-;replace tp4:cV H4 p (B+4):=tp4.le (by show B+2+2<=B+4;omega);clear tp1 tp2 tp3 s1 s2 s3 s4 el1 el2 el3 es1 tss1 ht4;subst hk;refine aM fun k hk=>?_;push_cast [ed4];have hpick:∀(a:Addr)(l:Int),(∀k∈left,lbl ss k=l)->H4 a=none->Q (.ref a) (upd H4 a (.tup [.str "pick",.int l])):=fun a l hl ha=>
   q _ (.pick l) _ (sx4.trans (aA ha).x) ((tp4.same (aA ha)).le ω) (.tup (tp4.ne ha) au (by show 2<=1000000;decide) (.cons (.str _) (.cons (.int _) .nil))) ⟨lf,hl⟩ hpos (by show 1+1<=2*left.length;omega)
  obtain⟨l0,hl0,ml0⟩:∃l,atI ((left.map fun k=>(aL ss k).2.2).map V.int) 0=some (.int l)/\l∈(left.map fun k=>(aL ss k).2.2):=by
   cases hle:left with
   | nil=>exact absurd hle lf.ne
   | cons a l=>exact⟨_,bJ (j:=0) (show(_::_)[0]?=_ from rfl),AM⟩
  suffices go:2<=left.length->k [some (V.ref p),some (V.ref sa),some (V.ref la),some (V.ref d),some (V.int way),some (V.int (at0:Int)),none,none,none,none,none] H4 by
   refine⟨_,.inl ed4,fun z=>lf.ne (Kb.mp z),fun M hM lM=>⟨_,.inl ed4,fun z=>lf.ne (Kb.mp z),fun M1 hM1 lM1=>?_⟩⟩;by_cases c1:M=M1
   ·rw[if_pos c1];have hsame:∀k∈left,lbl ss k=l0:=by
     have all:∀x∈(left.map fun k=>(aL ss k).2.2),x=M:=fun x hx=>by
      have:=lM x hx;have:=lM1 x hx;omega
     have h0:l0=M:=all _ ml0;exact fun k hk=>(all _ (DE.mpr ⟨k,hk,rfl⟩)).trans h0.symm
    push_cast [el4,iR];by_cases c2:(left.length:Int)=1
    ·rw[if_pos c2];push_cast [ed4,hl0];exact⟨aQ δ,fun a ha=>hpick a l0 hsame ha⟩
    rw[if_neg c2];by_cases c3:0<way
    ·rw[if_pos c3];push_cast [ed4,hl0];exact⟨aQ δ,fun a ha=>hpick a l0 hsame ha⟩
    rw[if_neg c3];exact go ω
   rw[if_neg c1];refine go ?_
   match left,hM,hM1,hpos with
   | [a],hM,hM1,_=>
    rw[Dx,map_nil,Au] at hM hM1;exact absurd (hM.trans hM1.symm) c1
   | a::b::l,_,_,_=>exact Nat.le_add_left 2 _
  intro h2;clear hpick hl0 ml0 l0 ed4 hd nd ed;subst hk;refine aM fun k hk=>?_;push_cast;refine gC fun R2 hR2=>?_;push_cast [el4];refine iz (·≠at0) (fun τ=>∃o0,τ=[o0,some (.int (at0:Int))]) hR2 el4 ll ⟨_,rfl⟩ ?_ ?_
  ·rintro i k' τ acc Pn hk' ⟨o0,rfl⟩ h1 h2;push_cast;by_cases c:k'=at0
   ·subst c;rw[decide_eq_true (show((k':Nat):Int)=(k':Int) from rfl),EU,if_neg δ];exact h2 (by simp) _ ⟨_,rfl⟩
   rw[decide_eq_false (show ¬((k':Nat):Int)=(at0:Int) by omega),C1,if_pos rfl];exact h1 (by simpa using c) _ ⟨_,rfl⟩
  intro d5 hd5;have s5:=aA (o:=HO.lst (nv (left.filter (·≠at0)))) hd5;have ok5:=tp4.ne hd5;have tp5:=tp4.same s5;have el5:=s5 _ _ el4;have es5:=s5 _ _ es4;have tss5:=tss4.same s5;have sx5:=sx4.trans s5.x;have e5:upd H4 d5 (HO.lst (nv (left.filter (·≠at0)))) d5=_:=au;generalize upd H4 d5 (HO.lst (nv (left.filter (·≠at0))))=H5 at s5 tp5 el5 es5 tss5 sx5 e5 |-;clear tp4 el4 es4 tss4 sx4 hd5 s5;subst hk;refine aM fun k hk=>?_;push_cast;have tS5:aK (·≠p) H5 (.ref sa) (.list (ss.map stD)):=.lst os es5 zs tss5;have tL5:aK (·≠p) H5 (.ref la) (nA left):=dh okl el5 ll
  suffices go:k [some (V.ref p),some (V.ref sa),some (V.ref la),some (V.ref d),some (V.int way),some (V.int (at0:Int)),some (V.ref d5),none,none,none,none] H5 by
   by_cases c1:way=1
   ·rw[if_pos c1];refine⟨_,_,_,ss,left,rfl,tS5,tL5,lf,_,rfl,?_⟩;by_cases c2:eF ss left<=200
    ·rw[if_pos c2];refine⟨aQ δ,fun a ha=>?_⟩;exact q _ .tab _ (sx5.trans (aA ha).x) ((tp5.same (aA ha)).le ω) (.tup (tp5.ne ha) au (by show 1<=1000000;decide) (.cons (.str _) .nil)) ⟨lf,c2⟩ hpos (by show 1+1<=2*left.length;omega)
    rw[if_neg c2];exact go
   rw[if_neg c1];exact go
  subst hk;refine aM fun k hk=>?_;push_cast;refine gC fun R3 hR3=>?_;push_cast [el5];obtain⟨pat,xat,yat⟩:=tss5.stN (lf.lt _ mat);refine iz (fun k=>(aL ss k).2.2≠(aL ss at0).2.2) (fun τ=>∃o0,τ=[o0,some (.ref sa),some (.int (at0:Int))]) hR3 el5 ll ⟨_,rfl⟩ ?_ ?_
  ·rintro i k' τ acc Pn hk' ⟨o0,rfl⟩ h1 h2;obtain⟨sk,x1,y1⟩:=tss5.stN (lf.lt _ (A2 hk'));push_cast [es5,x1,y1,xat,yat];by_cases c:(aL ss k').2.2=(aL ss at0).2.2
   ·rw[decide_eq_true c,EU,if_neg δ];exact h2 (by simpa using c) _ ⟨_,rfl⟩
   rw[decide_eq_false c,C1,if_pos rfl];exact h1 (by simpa using c) _ ⟨_,rfl⟩
  intro d6 hd6;have s6:=aA (o:=HO.lst (nv (left.filter fun k=>(aL ss k).2.2≠(aL ss at0).2.2))) hd6;have ok6:=tp5.ne hd6;have tp6:=tp5.same s6;have el6:=s6 _ _ el5;have es6:=s6 _ _ es5;have tss6:=tss5.same s6;have sx6:=sx5.trans s6.x;have e56:=s6 _ _ e5;have tS6:=tS5.same s6;have tL6:=tL5.same s6;have yat6:=s6 _ _ yat;have e6:upd H5 d6 (HO.lst (nv (left.filter fun k=>(aL ss k).2.2≠(aL ss at0).2.2))) d6=_:=au;generalize upd H5 d6 (HO.lst (nv (left.filter fun k=>(aL ss k).2.2≠(aL ss at0).2.2)))=H6 at s6 tp6 el6 es6 tss6 sx6 e56 tS6 tL6 yat6 e6 |-;clear tp5 el5 es5 tss5 sx5 hd6 e5 tS5 tL5 s6 yat;subst hk;refine aM fun k hk=>?_;push_cast
  suffices go:∀H7,Same H6 H7->k [some (V.ref p),some (V.ref sa),some (V.ref la),some (V.ref d),some (V.int way),some (V.int (at0:Int)),some (V.ref d5),some (V.ref d6),none,none,none] H7 by
   by_cases c1:way<4
   ·rw[if_pos c1];refine⟨aQ δ,fun a ha=>?_⟩;have s7:=aA (o:=HO.lst []) ha;have e7:=s7 _ _ e6;have tS7:=tS6.same s7;have tL7:=tL6.same s7;have es7:=s7 _ _ es6;have yat7:=s7 _ _ yat6;have tp7:=tp6.same s7;have go:=go _ s7;have sx7:=sx6.trans s7.x;generalize upd H6 a (HO.lst [])=H7 at s7 e7 tS7 tL7 es7 yat7 tp7 go sx7 |-;push_cast [e7];refine⟨Yl _,rfl,?_⟩;have hlt:(left.filter fun k=>(aL ss k).2.2≠(aL ss at0).2.2).length<left.length:=Mz mat (by simp);by_cases c2:left.filter (fun k=>(aL ss k).2.2≠(aL ss at0).2.2)=[]
    ·rw[c2,if_neg δ];exact go
    rw[aaQ c2,C1,if_pos rfl];have lfo:=lf.YJ c2;generalize hO:left.filter (fun k=>(aL ss k).2.2≠(aL ss at0).2.2)=others at hlt lfo e7 c2;refine⟨_,_,_,ss,left,rfl,tS7,tL7,lf,_,rfl,?_⟩;by_cases c3:eF ss left<=64
    ·rw[if_pos c3];push_cast [es7,xat,yat7];refine⟨p,_,_,B+4,ss,others,rfl,tp7,ω,ω,tS7,dh ok6 e7 ω,lfo,ω,ω,fun v pl H8 s8 tp8 t8 pok8 dep8 siz8=>?_⟩;refine⟨aQ δ,fun a8 ha8=>?_⟩;have s9:=aA (o:=HO.tup [V.str "mask",V.int (aL ss at0).2.2,v]) ha8;refine q _ (.msk (aL ss at0).2.2 pl) _ ((sx7.trans s8).trans s9.x) ((tp8.same s9).le ω) (.tup (tp8.ne ha8) au (by show 3<=1000000;decide) (.cons (.str _) (.cons (.int _) (.cons (t8.same s9) .nil)))) ⟨⟨lf,c3,at0,mat,rfl⟩,?_⟩ (by show zm pl+1<left.length;omega) (by show aX pl+1+1<=2*left.length;omega);rw[hO];exact pok8
    rw[if_neg c3];exact go
   rw[if_neg c1];exact go _ (Same.refl _)
  intro H7 s7;have e7:=s7 _ _ e56;have tS7:=tS6.same s7;have tL7:=tL6.same s7;have es7:=s7 _ _ es6;have el7:=s7 _ _ el6;have yat7:=s7 _ _ yat6;have tp7:=tp6.same s7;have sx7:=sx6.trans s7.x;have tss7:=tss6.same s7;clear e56 tS6 tL6 es6 el6 yat6 tp6 sx6 e6 s7 tss6;subst hk;refine aM fun k hk=>?_;refine oY fun kt ke hkt hke=>?_;push_cast;by_cases c1:way<6
  ·rw[if_pos c1];subst hkt;refine aM fun k2 hk2=>?_;push_cast [es7,xat,yat7];obtain⟨sg,hsg,sg0,sg1⟩:∃sg:Int,sg=(if (aL ss at0).1=(aL ss at0).2.1 then 1 else 0)/\0<=sg/\sg<=1:=by
    refine⟨_,rfl,?_,?_⟩ <;> split <;> decide
   rw[<- hsg];subst hk2;refine aM fun k2 hk2=>?_;push_cast;refine⟨aQ δ,fun a8 ha8=>?_⟩;have s8:=aA (o:=HO.lst [V.str "within",V.str "is"]) ha8;have n8:=tp7.ne ha8;have tp8:=tp7.same s8;have e8:upd H7 a8 (HO.lst [V.str "within",V.str "is"]) a8=_:=au;generalize upd H7 a8 (HO.lst [V.str "within",V.str "is"])=H8 at s8 tp8 e8 |-;refine⟨p,2,B+4,rfl,tp8,by show B+4+2<=1000100;omega,δ,δ,δ,fun z=>absurd z δ,fun r9 H9 r90 r91 s9 tp9=>?_⟩;have e9:=s9 _ _ n8 e8;push_cast;obtain⟨wd,hwd,awd⟩:∃wd:Str,(wd = "within" \/ (wd = "is" /\ sg=1))/\atI [V.str "within",V.str "is"] (sg*r9)=some (.str wd):=by
    clear hsg;have:sg=0\/sg=1:=by omega
    rcases this with rfl|rfl
    ·rw[Int.zero_mul];exact⟨"within",.inl rfl,rfl⟩
    rw[one_mul];have:r9=0\/r9=1:=by omega
    rcases this with rfl|rfl
    ·exact⟨"within",.inl rfl,rfl⟩
    exact⟨"is",.inr ⟨rfl,rfl⟩,rfl⟩
   refine⟨.inl ⟨ω,ω⟩,?_⟩;push_cast [e9,awd];subst hk2;push_cast;have s79:=s8.x.trans s9;have lfr:=lf.rest h2 at0;have hlt:(left.filter (·≠at0)).length<left.length:=Mz mat (by simp);have e79:=s79 _ _ ok5 e7;refine⟨p,_,_,B+6,ss,left.filter (·≠at0),rfl,tp9.le (by show B+4+2<=B+6;omega),ω,ω,tS7.xq s79,dh ok5 e79 ω,lfr,ω,ω,fun v pl H10 s10 tp10 t10 pok10 dep10 siz10=>?_⟩;refine⟨aQ δ,fun a11 ha11=>?_⟩;have s11:=aA (o:=HO.tup [V.str wd,V.int (at0:Int),v]) ha11;have sxf:=((sx7.trans s79).trans s10).trans s11.x;rcases hwd with rfl|⟨rfl,hs1⟩
   ·exact q _ (.wit at0 pl) _ sxf ((tp10.same s11).le ω) (.tup (tp10.ne ha11) au (by show 3<=1000000;decide) (.cons (.str _) (.cons (.int _) (.cons (t10.same s11) .nil)))) ⟨⟨lf,mat⟩,pok10⟩ (by show zm pl+1<left.length;omega) (by show aX pl+1+1<=2*left.length;omega)
   exact q _ (.one at0 pl) _ sxf ((tp10.same s11).le ω) (.tup (tp10.ne ha11) au (by show 3<=1000000;decide) (.cons (.str _) (.cons (.int _) (.cons (t10.same s11) .nil)))) ⟨⟨lf,mat,(by rw[hs1] at hsg;split at hsg;assumption;cases hsg)⟩,pok10⟩ (by show zm pl+1<left.length;omega) (by show aX pl+1+1<=2*left.length;omega)
  rw[if_neg c1];subst hke;push_cast;subst hk;refine aM fun k hk=>?_;push_cast [el7];intro a8 ha8;have hcut:qF (nv left) (some 1) none=nv (left.drop 1):=by
   have:=Ie (nv left) 1 (by rw[iR];omega);rw[show((1:Nat):Int)=1 from rfl] at this;rw[this];unfold nv;rw[map_drop]
  rw[hcut];have s8:=aA (o:=HO.lst (nv (left.drop 1))) ha8;have n8:=tp7.ne ha8;have tp8:=tp7.same s8;have el8:=s8 _ _ el7;have tS8:=tS7.same s8;have sx8:=sx7.trans s8.x;have e8:upd H7 a8 (HO.lst (nv (left.drop 1))) a8=_:=au;generalize upd H7 a8 (HO.lst (nv (left.drop 1)))=H8 at s8 tp8 e8 el8 tS8 sx8 |-;push_cast [el8,iR];refine⟨p,(left.length:Int)-1,B+4,rfl,tp8,by show B+4+2<=1000100;omega,ω,ω,δ,fun z=>absurd z ω,fun r9 H9 r90 r91 s9 tp9=>?_⟩;have e9:=s9 _ _ n8 e8;have el9:=s9 _ _ okl el8;have tS9:=tS8.xq s9;have sx9:=sx8.trans s9;obtain⟨at1,hat1,_,aat1⟩:=Zm (left:=left.drop 1) r90 (by rw[IH];omega);rw[List.getElem?_drop,add_comm] at hat1;obtain⟨mat1,lfa,lfb⟩:=lf.cuts hat1;have h2l:=Ia at1 left;have hla:=C0.mpr lfa.ne;have hlb:=C0.mpr lfb.ne;push_cast [e9,aat1];clear s8 tp8 e8 el8 tS8 sx8 sx7 tp7 tss7 es7 el7 tS7 tL7 e7;subst hk;refine aM fun k hk=>?_;push_cast;refine gC fun R4 hR4=>?_;push_cast [el9];refine iz (· < at1) (fun τ=>∃o0,τ=[o0,some (.int (at1:Int))]) hR4 el9 ll ⟨_,rfl⟩ ?_ ?_
  ·rintro i k' τ acc Pn hk' ⟨o0,rfl⟩ h1 h2;push_cast;by_cases c:k'<at1
   ·rw[if_pos (show((k':Nat):Int)<(at1:Int) by omega)];exact h1 (by simpa using c) _ ⟨_,rfl⟩
   rw[if_neg (show ¬((k':Nat):Int)<(at1:Int) by omega)];exact h2 (by simpa using c) _ ⟨_,rfl⟩
  intro d10 hd10;have s10:=aA (o:=HO.lst (nv (left.filter (· < at1)))) hd10;have ok10:=tp9.ne hd10;have e10:upd H9 d10 (HO.lst (nv (left.filter (· < at1)))) d10=_:=au;have tp10:=tp9.same s10;have tS10:=tS9.same s10;have el10:=s10 _ _ el9;have sx10:=sx9.trans s10.x;generalize upd H9 d10 (HO.lst (nv (left.filter (· < at1))))=H10 at s10 e10 tp10 tS10 el10 sx10 |-;generalize hA:left.filter (· < at1)=LA at lfa h2l hla e10;generalize hBq:left.filter (at1<=·)=LB at lfb h2l hlb;refine⟨p,_,_,B+6,ss,LA,rfl,tp10.le (by show B+4+2<=B+6;omega),ω,ω,tS10,dh ok10 e10 ω,lfa,ω,ω,fun v1 pl1 H11 s11 tp11 t11 pok11 dep11 siz11=>?_⟩;have el11:=s11 _ _ okl el10;have tS11:=tS10.xq s11;have sx11:=sx10.trans s11;clear s10 e10 tp10 tS10 el10 sx10 sx9 tS9 el9 tp9 e9;subst hk;push_cast;refine gC fun R5 hR5=>?_;push_cast [el11];refine iz (at1<=·) (fun τ=>∃o0,τ=[o0,some (.int (at1:Int))]) hR5 el11 ll ⟨_,rfl⟩ ?_ ?_
  ·rintro i k' τ acc Pn hk' ⟨o0,rfl⟩ h1 h2;push_cast;by_cases c:at1<=k'
   ·rw[if_pos (show(at1:Int)<=((k':Nat):Int) by omega)];exact h1 (by simpa using c) _ ⟨_,rfl⟩
   rw[if_neg (show ¬(at1:Int)<=((k':Nat):Int) by omega)];exact h2 (by simpa using c) _ ⟨_,rfl⟩
  intro d12 hd12;rw[hBq];have s12:=aA (o:=HO.lst (nv LB)) hd12;have ok12:=tp11.ne hd12;have e12:upd H11 d12 (HO.lst (nv LB)) d12=_:=au;have tp12:=tp11.same s12;have tS12:=tS11.same s12;have t12:=t11.same s12;have sx12:=sx11.trans s12.x;generalize upd H11 d12 (HO.lst (nv LB))=H12 at s12 e12 tp12 tS12 t12 sx12 |-;refine⟨p,_,_,_,ss,LB,rfl,tp12,ω,ω,tS12,dh ok12 e12 ω,lfb,ω,ω,fun v2 pl2 H13 s13 tp13 t13 pok13 dep13 siz13=>?_⟩;refine⟨aQ δ,fun a14 ha14=>?_⟩;have s14:=aA (o:=HO.tup [V.str "below",V.int (at1:Int),v1,v2]) ha14;refine q _ (.low at1 pl1 pl2) _ ((sx12.trans s13).trans s14.x) ((tp13.same s14).le ω) (.tup (tp13.ne ha14) au (by show 4<=1000000;decide) (.cons (.str _) (.cons (.int _) (.cons ((t12.xq s13).same s14) (.cons (t13.same s14) .nil))))) ⟨⟨lf,mat1⟩,?_,?_⟩ (by show max (zm pl1) (zm pl2)+1<left.length;omega) (by show aX pl1+aX pl2+1+1<=2*left.length;omega)
  ·rw[hA];exact pok11
  rw[hBq];exact pok13
noncomputable abbrev vO:List Str:=["spans","told","low","high"]
noncomputable abbrev gU:Stmt:=top 22
theorem uK:bx vO ["spans"] (aj gU):=⟨rfl,rfl,rfl,ψ,rfl,ψ,ψ⟩
theorem O9:Nm vO (aj gU) 0 "spans" := .of ψ
theorem iw:Nm vO (aj gU) 1 "told" := .of ψ
theorem wG:Nm vO (aj gU) 2 "low" := .of ψ
theorem wF:Nm vO (aj gU) 3 "high" := .of ψ
theorem HF:GI_ gU "max" := by decide +kernel
theorem Ar:GI_ gU "sorted" := by decide +kernel
theorem VN:Bn "joined" := ⟨ψ,ψ⟩
theorem OJ (hB:∀x:Str,x∈BLs->mg x=none) (F:Fun K "joined" "joined" gU f fd):cQ P w K mg base CX0 1 f fd ["spans"] Ry:=by
 refine F.okq uK (fun vs H Q E h=>?_) (fun cdv A outer s H vs Q E hr h=>?_)
 ·obtain⟨l,us,ss,rfl,_⟩:=h;rfl
 obtain⟨l,us,ss,rfl,el,t,hd,hl,q⟩:=h;refine⟨_,(aD (bG iw uK.nd (bZ aB) rfl (.inl rfl))
  (aD (gY BU rfl (cO (dz Kv Ar (hB "sorted" Ph) PyProof.Rows.boot_sorted Qp (ak (ao O9) aB rfl) rfl rfl)) (dO (n:=2) rfl (aR (bT wG uK.nd (.inl rfl)) (aR (bT wF uK.nd (.inl rfl)) cL rfl) rfl) rfl rfl)
  (aJ (bR (vX (kE (Er (ao iw)) (jx (aW xG (ao wG) (aN aZ (aG aP (aG aP (ao iw) (jA fP aq) (fun _ _=>rfl)) aq (fun _ _=>rfl)) aq) (aU _))))) (aJ (jk (bK (ak (aG aP (aG aP (ao iw) (jA fP aq) (fun _ _=>rfl)) aq (fun _ _=>rfl)) (ak (dz (jZ rfl) HF (hB "max" tR) IY uf (ak (ao wF) (ak (aG aP (aG aP (ao iw) (jA fP aq) (fun _ _=>rfl)) aq (fun _ _=>rfl)) aB rfl) rfl) rfl rfl) aB rfl) rfl)) (Lx (ao iw) (jA fP aq) Cv) rfl rfl rfl)) (aJ (fB (jP (ao iw) (bK (ak (ao wG) (ak (ao wF) aB rfl) rfl)) rfl rfl rfl rfl rfl) rfl)))) (fun _=>rfl))
  (aJ (aV (ao iw))))),?_⟩
 refine aM fun k hk=>?_;push_cast;refine⟨aQ δ,fun r hr0=>?_⟩;have s0:=aA (o:=HO.lst []) hr0;have e0:upd H r (HO.lst []) r=_:=au;generalize upd H r (HO.lst [])=H0 at s0 e0 |-;subst hk;refine aM fun k hk=>?_;refine lF fun R hR=>?_;push_cast;obtain⟨ps,rfl⟩:=t.refs;obtain⟨e1,e2⟩:=t.read (dec:=Jv H) Xo;have hfs:=hd.firsts;rw[e1,GH] at hfs;have hpl:ps.length=ss.length:=by have:=t.length;rwa [AI] at this
 refine⟨l,ps,fun p=>(Jv H p).1,rfl,s0 _ _ el,ω,fun p m=>⟨_,s0 _ _ (e2 p m)⟩,hfs,fun d qs hd0 hp ho=>?_⟩;have s1:Same H (upd H0 d (.lst (qs.map V.ref))):=s0.trans (aA hd0);have ed:upd H0 d (.lst (qs.map V.ref)) d=_:=au;have er:upd H0 d (.lst (qs.map V.ref)) r=some (.lst []):=by rw[aH (aF e0 hd0)];exact e0
 have ndr:d≠r:=(aF e0 hd0).symm;generalize upd H0 d (.lst (qs.map V.ref))=H1 at s1 ed er |-;have tz:bQ prE H (qs.map V.ref) (qs.map (Jv H)):=.of_map fun p m=>e2 p (hp.mem_iff.mp m);have pz:(qs.map (Jv H)).Perm ss:=by rw[e1];exact hp.map _
 obtain⟨hn,hu⟩:=hd.rising pz (by rw[GH];exact ho);generalize hzs:qs.map (Jv H)=zs at tz pz hn hu;push_cast [ed];obtain⟨Pv,hPv⟩:∃Pv:Nat->L2.St->Hp->Prop,Pv=fun(i:Nat) σ H'=>∃(told:List (Int×Int)) (us':List V) (o2 o3:Option V),Same H H'/\H' d=some (.lst (qs.map V.ref))/\H' r=some (.lst us')/\bQ prE H' us' told/\JI zs told i/\σ=[some (.ref l),some (.ref r),o2,o3]:=⟨_,rfl⟩;have zl:zs.length=(qs.map V.ref).length:=tz.length.symm;have zll:=pz.length_eq;refine Ay hR Pv (by rw[hPv];exact⟨[],[],_,_,s1,ed,er,.nil,.start _,rfl⟩) (fun i σ H' _ pv=>by rw[hPv] at pv;obtain⟨_,_,_,_,_,e,_⟩:=pv;exact SqL.of e) ?_ ?_
 ·intro i x σ H2 hx pv;rw[hPv] at pv;obtain⟨told,us',o2,o3,s2,ed2,er2,t2,ji,rfl⟩:=pv;obtain⟨p,z,rfl,hz,ep⟩:=(tz.same s2).got hx;replace ep:H2 p=some (.tup [.int z.1,.int z.2]):=ep;have li:i<zs.length:=(AG.mp hz).1;have lt:=ji.ln;have le:=t2.length;rcases IE told with e0|⟨pre,t0,e0⟩
  ·subst e0;cases t2;push_cast [ep,er2];refine⟨aQ δ,fun q hq=>?_⟩;have er3:upd H2 q (.tup [.int z.1,.int z.2]) r=some (.lst []):=by rw[aH (aF er2 hq)];exact er2
   push_cast [er3];refine⟨δ,?_⟩;rw[hPv];exact⟨[z],_,_,_,kj s2 hr0 hq,Ef ed2 ndr hq,au,bQ.push .nil z er2 hq,ji.fresh hz hn hu (fun t q=>by cases q),rfl⟩
  rw[List.concat_eq_append] at e0;subst e0;obtain⟨vs,pt,rfl,tv,ept⟩:=t2.split;replace ept:H2 pt=some (.tup [.int t0.1,.int t0.2]):=ept;have la:=Nh vs (V.ref pt);push_cast [ep,er2,la,ept,Mi];have mx:(if t0.2>z.2 then t0.2 else z.2)=max z.2 t0.2:=by split <;> omega
  rw[mx];by_cases c:z.1<=t0.2+1
  ·rw[if_pos c];refine⟨aQ δ,fun q hq=>?_⟩;have er3:upd H2 q (.tup [.int t0.1,.int (max z.2 t0.2)]) r=some (.lst (vs++[.ref pt])):=by rw[aH (aF er2 hq)];exact er2
   push_cast [er3];refine⟨_,Mq vs _,?_⟩;rw[Gy,hPv];exact⟨pre++[(t0.1,max z.2 t0.2)],_,_,_,kj s2 hr0 hq,Ef ed2 ndr hq,au,bQ.swap tv (t0.1,max z.2 t0.2) er2 hq,ji.grown hz hn hu c,rfl⟩
  rw[if_neg c];refine⟨aQ δ,fun q hq=>?_⟩;have er3:upd H2 q (.tup [.int z.1,.int z.2]) r=some (.lst (vs++[.ref pt])):=by rw[aH (aF er2 hq)];exact er2
  push_cast [er3];refine⟨DH (show(vs++[V.ref pt]).length<=1000 by omega) δ,?_⟩;rw[hPv];exact⟨(pre++[t0])++[z],_,_,_,kj s2 hr0 hq,Ef ed2 ndr hq,au,bQ.push t2 z er2 hq,ji.fresh hz hn hu (fun t q=>by rw[List.getLast?_append] at q;cases q;exact c),rfl⟩
 intro σ H2 pv;rw[hPv] at pv;obtain⟨told,us',o2,o3,s2,ed2,er2,t2,ji,rfl⟩:=pv;subst hk;push_cast;refine q r H2 us' told s2 hr0 er2 t2 ji.gap (fun n=>?_) (fun s m=>?_) ?_
 ·rw[ji.cv,<- zl,Fa];exact Vs pz
 ·obtain⟨z,mz,e⟩:=ji.fs s m;exact⟨z,pz.mem_iff.mp mz,e⟩
 have:=ji.ln;omega
noncomputable abbrev rE:List Str:=["first","goals","told","number","goal"]
noncomputable abbrev gR:Stmt:=top 24
theorem uI:bx rE ["first","goals"] (aj gR):=⟨rfl,rfl,rfl,ψ,rfl,ψ,ψ⟩
theorem O7:Nm rE (aj gR) 0 "first" := .of ψ
theorem O6:Nm rE (aj gR) 1 "goals" := .of ψ
theorem jl:Nm rE (aj gR) 2 "told" := .of ψ
theorem qZ:Nm rE (aj gR) 3 "number" := .of ψ
theorem qY:Nm rE (aj gR) 4 "goal" := .of ψ
theorem vA:GI_ gR "enumerate" := by decide +kernel
theorem Ij:Bn "runs_of" := ⟨ψ,ψ⟩
noncomputable abbrev jr:List Str:=["row","at","wide","bits","goal"]
noncomputable abbrev dg:Stmt:=top 25
theorem lO:bx jr ["row","at"] (aj dg):=⟨rfl,rfl,rfl,ψ,rfl,ψ,ψ⟩
theorem Fl:Nm jr (aj dg) 0 "row" := .of ψ
theorem uZ:Nm jr (aj dg) 2 "wide" := .of ψ
theorem Fj:Nm jr (aj dg) 3 "bits" := .of ψ
theorem Fi:Nm jr (aj dg) 4 "goal" := .of ψ
theorem wR:GI_ dg "range" := by decide +kernel
theorem Il:Bn "mask_goals" := ⟨ψ,ψ⟩
theorem Yd (hB:∀x:Str,x∈BLs->mg x=none) (F:Fun K "runs_of" "runs_of" gR f fd):cQ P w K mg base CX0 1 f fd ["first","goals"] Gs:=by
 refine F.okq uI (fun vs H Q E h=>?_) (fun cdv A outer s H vs Q E hr h=>?_)
 ·obtain⟨g,first,gs,rfl,_⟩:=h
  rfl
 obtain⟨g,first,gs,rfl,eg,f1,f2,hl,q⟩:=h
 refine⟨_,(aD (bG jl uI.nd (bZ aB) rfl (.inl rfl))
  (aD (gY BU rfl (SJ vA (hB "enumerate" iY) (ak (ao O6) aB rfl) (Xv (ao O7).h aaq)) (dO (n:=2) rfl (aR (bT qZ uI.nd (.inl rfl)) (aR (bT qY uI.nd (.inl rfl)) cL rfl) rfl) rfl rfl)
  (aJ (bR (vX (kE (Er (ao jl)) (jx (aW (b7 hr.bH) (aG aP (aG aP (ao jl) (jA fP aq) (fun _ _=>rfl)) aq (fun _ _=>rfl)) (ao qY) (aU _))))) (aJ (jk (bK (ak (aG aP (aG aP (ao jl) (jA fP aq) (fun _ _=>rfl)) aq (fun _ _=>rfl)) (ak (ao qZ) (ak (ao qY) aB rfl) rfl) rfl)) (Lx (ao jl) (jA fP aq) Cv) rfl rfl rfl)) (aJ (fB (jP (ao jl) (bK (ak (ao qZ) (ak (ao qZ) (ak (ao qY) aB rfl) rfl) rfl)) rfl rfl rfl rfl rfl) rfl)))) (fun _=>rfl))
  (aJ (aV (ao jl))))),?_⟩
 refine aM fun k hk=>?_;push_cast;refine⟨aQ δ,fun r hr0=>?_⟩;have s0:=aA (o:=HO.lst []) hr0;have e0:upd H r (HO.lst []) r=_:=au;generalize upd H r (HO.lst [])=H0 at s0 e0 |-;subst hk;refine aM fun k hk=>?_;refine lF fun R hR=>?_;obtain⟨Pv,hPv⟩:∃Pv:Nat->L2.St->Hp->Prop,Pv=fun(i:Nat) σ H'=>∃(told:List (Int×Int×Int)) (us':List V) (o3 o4:Option V),Same H H'/\H' r=some (.lst us')/\bQ trE H' us' told/\oZ first gs told i/\σ=[some (.int first),some (.ref g),some (.ref r),o3,o4]:=⟨_,rfl⟩
 have h0:Pv 0 [some (.int first),some (.ref g),some (.ref r),none,none] H0:=by rw[hPv];exact⟨[],[],_,_,s0,e0,.nil,.start _ _,rfl⟩
 have fin:∀σ H',Pv gs.length σ H'->k σ H':=by
  intro σ H2 pv;rw[hPv] at pv;obtain⟨told,us',o3,o4,s2,er2,t2,ji,rfl⟩:=pv;subst hk;push_cast;exact q r H2 us' told s2 hr0 er2 t2 ji
 have gat:∀{i:Nat}{x:V},(gs.map V.int)[i]?=some x->∃g',gs[i]?=some g'/\x=.int g':=fun {i x} hx=>by
  rw[A4] at hx;obtain⟨g',e1,e2⟩:=Cn.mp hx;exact⟨g',e1,e2.symm⟩
 have main:∀J:It,(∀i σ H,i<gs.length->Pv i σ H->J.go i H)->(∀σ H,Pv gs.length σ H->J.stop gs.length H)->(∀i σ H x H3,Pv i σ H->J.yld i H x H3->∃p g',gs[i]?=some g'/\x=.ref p/\H p=none/\H3=upd H p (.tup [.int (first+i),.int g']))->R J H0:=by
  intro J ja jb jc;refine Ko hR gs.length Pv h0 ja jb (fun i σ H2 x H3 hi pv y=>?_) fin;obtain⟨p,g',hg,rfl,hp,rfl⟩:=jc i σ H2 x H3 pv y;rw[hPv] at pv;obtain⟨told,us',o3,o4,s2,er2,t2,ri,rfl⟩:=pv;have lt:=ri.ln;have le:=t2.length;have s3:Same H (upd H2 p (.tup [.int (first+i),.int g'])):=s2.trans (aA hp)
  have ep:upd H2 p (.tup [.int (first+i),.int g']) p=some (.tup [.int (first+i),.int g']):=au
  have er3:upd H2 p (.tup [.int (first+i),.int g']) r=some (.lst us'):=by rw[aH (aF er2 hp)];exact er2
  have t3:=t2.Nr (o:=.tup [.int (first+i),.int g']) hp
  generalize upd H2 p (.tup [.int (first+i),.int g'])=H3 at s3 ep er3 t3 |-
  rcases IE told with e0|⟨pre,t0,e0⟩
  ·subst e0;cases t2;push_cast [ep,er3];refine⟨aQ δ,fun q hq=>?_⟩;have er4:upd H3 q (.tup [.int (first+i),.int (first+i),.int g']) r=some (.lst []):=by rw[aH (aF er3 hq)];exact er3
   push_cast [er4];refine⟨δ,?_⟩;rw[hPv];exact⟨[(first+i,first+i,g')],_,_,_,kj s3 hr0 hq,au,bQ.push .nil (first+i,first+i,g') er3 hq,ri.fresh hg (fun w q=>by cases q),rfl⟩
  rw[List.concat_eq_append] at e0;subst e0;obtain⟨vs,pt,rfl,tv,ept⟩:=t3.split;replace ept:H3 pt=some (.tup [.int t0.1,.int t0.2.1,.int t0.2.2]):=ept;have la:=Nh vs (V.ref pt);push_cast [ep,er3,la,ept,Mi];by_cases c:t0.2.2=g'
  ·rw[if_pos c];refine⟨aQ δ,fun q hq=>?_⟩;have er4:upd H3 q (.tup [.int t0.1,.int (first+i),.int g']) r=some (.lst (vs++[.ref pt])):=by rw[aH (aF er3 hq)];exact er3
   push_cast [er4];refine⟨_,Mq vs _,?_⟩;rw[Gy,hPv];exact⟨pre++[(t0.1,first+i,g')],_,_,_,kj s3 hr0 hq,au,bQ.swap tv (t0.1,first+i,g') er3 hq,ri.grown hg c,rfl⟩
  rw[if_neg c];refine⟨aQ δ,fun q hq=>?_⟩;have er4:upd H3 q (.tup [.int (first+i),.int (first+i),.int g']) r=some (.lst (vs++[.ref pt])):=by rw[aH (aF er3 hq)];exact er3
  push_cast [er4];refine⟨DH (show(vs++[V.ref pt]).length<=1000000 by omega) δ,?_⟩;rw[hPv];exact⟨(pre++[t0])++[(first+i,first+i,g')],_,_,_,kj s3 hr0 hq,au,bQ.push t3 (first+i,first+i,g') er3 hq,ri.fresh hg (fun w q=>by rw[IA] at q;cases q;exact c),rfl⟩
 rcases eg with eg|eg
 ·have eg0:=s0 _ _ eg;have hg:∀i σ H',Pv i σ H'->H' g=some (.tup (gs.map V.int)):=fun i σ H' pv=>by rw[hPv] at pv;obtain⟨_,_,_,_,s,_⟩:=pv;exact s _ _ eg
  push_cast [eg0,rdZ];refine⟨ω,ω,main _ (fun i σ H' hi pv=>⟨_,_,SqT.of (hg i σ H' pv),AC (by rw[AI];exact hi)⟩) (fun σ H' pv=>⟨_,SqT.of (hg _ σ H' pv),by rw[AI]⟩) fun i σ H' x H3 pv y=>?_⟩;obtain⟨p,x1,rfl,hp,rfl,hx⟩:=y;obtain⟨g',e1,rfl⟩:=gat (hx _ (SqT.of (hg i σ H' pv)));exact⟨p,g',e1,rfl,hp,rfl⟩
 have eg0:=s0 _ _ eg;have hg:∀i σ H',Pv i σ H'->H' g=some (.lst (gs.map V.int)):=fun i σ H' pv=>by rw[hPv] at pv;obtain⟨_,_,_,_,s,_⟩:=pv;exact s _ _ eg
 push_cast [eg0,rdZ];refine⟨ω,ω,main _ (fun i σ H' hi pv=>⟨_,_,SqL.of (hg i σ H' pv),AC (by rw[AI];exact hi)⟩) (fun σ H' pv=>⟨_,SqL.of (hg _ σ H' pv),by rw[AI]⟩) fun i σ H' x H3 pv y=>?_⟩;obtain⟨p,x1,rfl,hp,rfl,hx⟩:=y;obtain⟨g',e1,rfl⟩:=gat (hx _ (SqL.of (hg i σ H' pv)));exact⟨p,g',e1,rfl,hp,rfl⟩
theorem T8 (hB:∀x:Str,x∈BLs->mg x=none) (F:Fun K "mask_goals" "mask_goals" dg f fd):cQ P w K mg base CX0 1 f fd ["row","at"] Lb:=by
 refine F.okq lO (fun vs H Q E h=>?_) (fun cdv A outer s H vs Q E hr h=>?_)
 ·obtain⟨x,at_,lo,wd,bits,t,rfl,_⟩:=h;rfl
 obtain⟨x,at_,lo,wd,bits,t,rfl,⟨a,g,rfl,e,eg⟩,w1,w2,b0,q⟩:=h;refine⟨_,(aD (jk (uP Ww (ao Fl) (uO aq) Es) (dO (n:=3) rfl (aR (bT uZ lO.nd (.inl rfl)) (aR (bT Fj lO.nd (.inl rfl)) (aR (bT Fi lO.nd (.inl rfl)) cL rfl) rfl) rfl) rfl rfl) rfl rfl rfl)
  (aJ (aV (lR (NX:=jr) (kX:=(aj dg).names) ["place","goal","at","bits"] [none,some 4,some 1,some 3] rfl rfl ⟨rfl,ψ,ψ,ψ,ψ⟩ rfl (vY wR (hB "range" jC) (ak (ao uZ) aB rfl) rfl) (fun _ _ _ _ _=>(dM 0 (show CL (["place","goal","at","bits"]:List Str) from by decide +kernel) rfl (EF rfl))) (fun _ _ _ _ _=>pP) (fun _ _ _ _ _=>(GJ (Er (aN T4 (aN TY (b8 3) (b8 0)) aq)) (b8 1) (aN aZ (b8 2) aq))))))),?_⟩
 refine aM fun k hk=>?_;push_cast [e,gB];refine⟨δ,fun p hp=>?_⟩;have cut:qF [V.str "mask",V.int lo,V.int wd,V.int bits,V.int t] (some 2) none=[V.int wd,V.int bits,V.int t]:=rfl;have s0:=aA (o:=HO.tup [V.int wd,V.int bits,V.int t]) hp;push_cast [cut];generalize upd H p (HO.tup [V.int wd,V.int bits,V.int t])=H0 at s0 |-;subst hk;push_cast;refine gC fun R hR=>?_;push_cast [Ht];refine⟨ω,ω,?_⟩;obtain⟨Pc,hPc⟩:∃Pv:Nat->List V->L2.St->Hp->Prop,Pv=fun(i:Nat) acc τ H'=>∃(o0:Option V),H'=H0/\acc=((AU i).map fun(p:Nat)=>if bitAt bits (p:Int)=true then t else at_+1).map V.int/\τ=[o0,some (.int t),some (.int at_),some (.int bits)]:=⟨_,rfl⟩;refine abn hR (aQ ω) Pc (by rw[hPc];exact⟨none,rfl,rfl,rfl⟩) ?_ ?_ ?_
 ·intro i acc τ H5 pc;rw[hPc] at pc;obtain⟨_,_,rfl,_⟩:=pc;simp
 ·intro i acc τ H5 hi pc;rw[hPc] at pc;obtain⟨o0,rfl,rfl,rfl⟩:=pc;push_cast;refine⟨ω,?_⟩;rw[Int.zero_add,hPc];have hb:(A7.bitAnd (bits/2^(i:Int).toNat) 1 != 0)=bitAt bits (i:Int):=Y9 _ _;rw[hb];have hn:∀x:Int,x=(if bitAt bits (i:Int)=true then t else at_+1)->∃(o0:Option V),H5=H5/\HE V.int (HE (fun(p:Nat)=>if bitAt bits (p:Int)=true then t else at_+1) (AU i))++[V.int x]=HE V.int (HE (fun(p:Nat)=>if bitAt bits (p:Int)=true then t else at_+1) (AU (i+1)))/\[some (V.int (i:Int)),some (V.int t),some (V.int at_),some (V.int bits)]=[o0,some (.int t),some (.int at_),some (.int bits)]:=fun x hx=>⟨_,rfl,by rw[List.range_succ,BS,BS,hx];rfl,rfl⟩;split
  ·rename_i c;exact hn t (by rw[if_pos c])
  rename_i c;exact hn _ (by rw[if_neg c])
 intro acc τ H5 d pc hd;rw[hPc] at pc;obtain⟨o0,rfl,rfl,rfl⟩:=pc;exact q d _ (s0.trans (aA hd)) (s0.none hd) au
noncomputable abbrev lY:List Str:=["row","at","low","high","word","first","last"]
noncomputable abbrev fu:Stmt:=top 26
theorem uH:bx lY q14_ (aj fu):=⟨rfl,rfl,rfl,ψ,rfl,ψ,ψ⟩
theorem eU:Nm lY (aj fu) 0 "row" := .of ψ
theorem qR:Nm lY (aj fu) 1 "at" := .of ψ
theorem CW:Nm lY (aj fu) 2 "low" := .of ψ
theorem CV:Nm lY (aj fu) 3 "high" := .of ψ
theorem m5:Nm lY (aj fu) 4 "word" := .of ψ
theorem wk:Nm lY (aj fu) 5 "first" := .of ψ
theorem wj:Nm lY (aj fu) 6 "last" := .of ψ
theorem vz:GI_ fu "mask_goals" := by decide +kernel
theorem qC:GI_ fu "runs_of" := by decide +kernel
theorem VG:Bn "ways_of" := ⟨ψ,ψ⟩
noncomputable abbrev jf:List Str:=["reached","spans","ways","span","way","low","high","goal","first","last"]
noncomputable abbrev dm:Stmt:=top 27
theorem gD:bx jf q15_ (aj dm):=⟨rfl,rfl,rfl,ψ,rfl,ψ,ψ⟩
theorem O5:Nm jf (aj dm) 0 "reached" := .of ψ
theorem Dd:Nm jf (aj dm) 1 "spans" := .of ψ
theorem Dc:Nm jf (aj dm) 2 "ways" := .of ψ
theorem qX:Nm jf (aj dm) 3 "span" := .of ψ
theorem qW:Nm jf (aj dm) 4 "way" := .of ψ
theorem wz:Nm jf (aj dm) 5 "low" := .of ψ
theorem qU:Nm jf (aj dm) 6 "high" := .of ψ
theorem CZ:Nm jf (aj dm) 7 "goal" := .of ψ
theorem wu:Nm jf (aj dm) 8 "first" := .of ψ
theorem qT:Nm jf (aj dm) 9 "last" := .of ψ
theorem xW:GI_ dm "len" := by decide +kernel
theorem xV:GI_ dm "max" := by decide +kernel
theorem xU:GI_ dm "min" := by decide +kernel
theorem VH:Bn "send_on" := ⟨ψ,ψ⟩
theorem X7 (hB:∀x:Str,x∈BLs->mg x=none) (CRunsOf:Cal P w K mg base "runs_of" 1 ["first","goals"] Gs) (CMaskGoals:Cal P w K mg base "mask_goals" 1 ["row","at"] Lb) (F:Fun K "ways_of" "ways_of" fu f fd):cQ P w K mg base CX0 2 f fd q14_ Rq:=by
 refine F.okq uH (fun vs H Q E h=>?_) (fun cdv A outer s H vs Q E hr h=>?_)
 ·obtain⟨x,c,m,j,lo,hi,rfl,_⟩:=h;rfl
 obtain⟨x,c,m,j,lo,hi,rfl,rx,hok,hrg,hbd,q⟩:=h;refine⟨_,(aD (bG m5 uH.nd (aG aP (ao eU) aq (fun _ _=>rfl)) rfl (.inl rfl))
  (aD (bR (aW (b7 hr.bH) (ao m5) bB (aU _)) (aJ (aV (bZ aB))) bC)
  (aD (bR (aW (b7 hr.bH) (ao m5) bB (aU _)) (aJ (aV (bF CRunsOf (hr.mono δ) qC Ij (ak (aG aP (ao eU) aq (fun _ _=>rfl)) (ak (aG aP (ao eU) aq (fun _ _=>rfl)) aB rfl) rfl) rfl rfl))) bC)
  (aD (bR (aW (b7 hr.bH) (ao m5) bB (aU _)) (aJ (aV (bF CRunsOf (hr.mono δ) qC Ij (ak (aG aP (ao eU) aq (fun _ _=>rfl)) (ak (bF CMaskGoals (hr.mono δ) vz Il (ak (ao eU) (ak (ao qR) aB rfl) rfl) rfl rfl) aB rfl) rfl) rfl rfl))) bC)
  (aD (bR (aW (b7 hr.bH) (ao m5) bB (aU _)) (aJ (aV (bZ (ak (bK (ak (ao CW) (ak (aN cU (aG aP (ao eU) aq (fun _ _=>rfl)) aq) (ak (aG aP (ao eU) aq (fun _ _=>rfl)) aB rfl) rfl) rfl)) (ak (bK (ak (aG aP (ao eU) aq (fun _ _=>rfl)) (ak (ao CV) (ak (aN aZ (ao qR) aq) aB rfl) rfl) rfl)) aB rfl) rfl)))) bC)
  (aD (bG wk uH.nd (aG aP (ao eU) aq (fun _ _=>rfl)) rfl (.inl rfl))
  (aD (bG wj uH.nd (aG aP (ao eU) (jA fP aq) (fun _ _=>rfl)) rfl (.inl rfl))
  (aJ (aV (bZ (ak (bK (ak (ao CW) (ak (aN cU (ao wk) aq) (ak (aN aZ (ao qR) aq) aB rfl) rfl) rfl)) (ak (bK (ak (ao wk) (ak (ao wj) (ak (aG aP (ao eU) (jA fP aq) (fun _ _=>rfl)) aB rfl) rfl) rfl)) (ak (bK (ak (aN aZ (ao wj) aq) (ak (ao CV) (ak (aN aZ (ao qR) aq) aB rfl) rfl) rfl)) aB rfl) rfl) rfl))))))))))),?_⟩
 have rx0:=rx;obtain⟨a,g,rfl,e,eg⟩:=rx;have hw:=yX c g;refine aM fun k hk=>?_;push_cast [e];refine⟨_,hw,?_⟩;push_cast;subst hk;refine aM fun k hk=>?_;refine oY fun kt ke hkt hke=>?_;push_cast;by_cases c1:j6 c = "pick"
 ·obtain⟨l,rfl⟩:=Gk c1;rw[if_pos c1];subst hkt;push_cast;exact⟨aQ δ,fun r hr0=>q r _ _ [] (aA hr0) hr0 au .nil QK (DL _)⟩
 rw[if_neg c1];subst hke;push_cast;subst hk;refine aM fun k hk=>?_;refine oY fun kt ke hkt hke=>?_;push_cast;by_cases c2:j6 c = "table"
 ·obtain⟨l,gs,rfl⟩:=w6 c2;rw[if_pos c2];subst hkt;have eg:=eg _ _ rfl;push_cast [e,gB];exact⟨g,l,gs,rfl,.inl eg,hbd.1,hbd.2.1,BQ hbd.2.2 δ,fun r H' us ws s hn er t ri=>q r H' us ws s hn er t (QF hok ri) (BQ ri.ln (BQ hbd.2.2 δ))⟩
 rw[if_neg c2];subst hke;push_cast;subst hk;refine aM fun k hk=>?_;refine oY fun kt ke hkt hke=>?_;push_cast;by_cases c3:j6 c = "mask"
 ·obtain⟨l,wd,bits,t,rfl⟩:=xg c3;rw[if_pos c3];subst hkt;push_cast [e,gB];refine⟨_,_,l,wd,bits,t,rfl,rx0,hok.2.1,hok.2.2.1,hok.2.2.2,fun r1 H1 s1 hn1 er1=>?_⟩;have lm:=Pg (j:Int) wd bits t;have w2:=hok.2.2.1;refine⟨r1,l,_,rfl,.inr er1,hbd.1,hbd.2,ω,fun r H' us ws s hn er t ri=>q r H' us ws (s1.trans s) (s1.none hn) er t (QM hok ?_) (BQ ri.ln ω)⟩;rw[lm] at ri;exact ri
 rw[if_neg c3];subst hke;push_cast;subst hk;refine aM fun k hk=>?_;refine oY fun kt ke hkt hke=>?_;push_cast;by_cases c4:j6 c = "below"
 ·obtain⟨n,t,rfl⟩:=Gm c4;rw[if_pos c4];subst hkt;push_cast [e,gB];refine⟨aQ δ,fun p1 hp1=>?_⟩;have s1:=aA (o:=HO.tup [V.int lo,V.int (n-1),V.int t]) hp1;have ea1:=s1 _ _ e;have e1:upd H p1 (HO.tup [V.int lo,V.int (n-1),V.int t]) p1=_:=au;generalize upd H p1 (HO.tup [V.int lo,V.int (n-1),V.int t])=H1 at s1 ea1 e1 |-;push_cast [ea1,gB];refine⟨aQ δ,fun p2 hp2=>?_⟩;have s2:=aA (o:=HO.tup [V.int n,V.int hi,V.int ((j:Int)+1)]) hp2;have e2:upd H1 p2 (HO.tup [V.int n,V.int hi,V.int ((j:Int)+1)]) p2=_:=au;generalize upd H1 p2 (HO.tup [V.int n,V.int hi,V.int ((j:Int)+1)])=H2 at s2 e2 |-;refine⟨aQ δ,fun r hr0=>?_⟩;have s12:=s1.trans s2;have tt:bQ trE H2 [.ref p1,.ref p2] [(lo,n-1,t),(n,hi,(j:Int)+1)]:=.cons (s2 _ _ e1) (.cons e2 .nil);exact q r _ _ _ (s12.trans (aA hr0)) (s12.none hr0) au (tt.Nr hr0) (QV hok) (by show 2<=1000000;decide)
 rw[if_neg c4];subst hke;push_cast;subst hk;cases c with
 | pik l=>exact absurd rfl c1
 | tab l gs=>exact absurd rfl c2
 | msk l wd bits t=>exact absurd rfl c3
 | low n t=>exact absurd rfl c4
 | one n t=>
  have am2:atI [V.str "is",V.int n,V.int t] (-2)=some (V.int n):=rfl;have am1:atI [V.str "is",V.int n,V.int t] (-1)=some (V.int t):=rfl;push_cast [e,gB,am2];refine⟨aQ δ,fun p1 hp1=>?_⟩;have s1:=aA (o:=HO.tup [V.int lo,V.int (n-1),V.int ((j:Int)+1)]) hp1;have ea1:=s1 _ _ e;have e1:upd H p1 (HO.tup [V.int lo,V.int (n-1),V.int ((j:Int)+1)]) p1=_:=au;generalize upd H p1 (HO.tup [V.int lo,V.int (n-1),V.int ((j:Int)+1)])=H1 at s1 ea1 e1 |-;push_cast [ea1,gB,am1];refine⟨aQ δ,fun p2 hp2=>?_⟩;have s2:=aA (o:=HO.tup [V.int n,V.int n,V.int t]) hp2;have e2:upd H1 p2 (HO.tup [V.int n,V.int n,V.int t]) p2=_:=au;generalize upd H1 p2 (HO.tup [V.int n,V.int n,V.int t])=H2 at s2 e2 |-;push_cast;refine⟨aQ δ,fun p3 hp3=>?_⟩;have s3:=aA (o:=HO.tup [V.int (n+1),V.int hi,V.int ((j:Int)+1)]) hp3;have e3:upd H2 p3 (HO.tup [V.int (n+1),V.int hi,V.int ((j:Int)+1)]) p3=_:=au;generalize upd H2 p3 (HO.tup [V.int (n+1),V.int hi,V.int ((j:Int)+1)])=H3 at s3 e3 |-;refine⟨aQ δ,fun r hr0=>?_⟩;have s13:=(s1.trans s2).trans s3;have tt:bQ trE H3 [.ref p1,.ref p2,.ref p3] [(lo,n-1,(j:Int)+1),(n,n,t),(n+1,hi,(j:Int)+1)]:=.cons (s3 _ _ (s2 _ _ e1)) (.cons (s3 _ _ e2) (.cons e3 .nil));exact q r _ _ _ (s13.trans (aA hr0)) (s13.none hr0) au (tt.Nr hr0) (QL hok) (by show 3<=1000000;decide)
 | rng n b t=>
  have am2:atI [V.str "within",V.int n,V.int b,V.int t] (-2)=some (V.int b):=rfl;have am1:atI [V.str "within",V.int n,V.int b,V.int t] (-1)=some (V.int t):=rfl;push_cast [e,gB,am2];refine⟨aQ δ,fun p1 hp1=>?_⟩;have s1:=aA (o:=HO.tup [V.int lo,V.int (n-1),V.int ((j:Int)+1)]) hp1;have ea1:=s1 _ _ e;have e1:upd H p1 (HO.tup [V.int lo,V.int (n-1),V.int ((j:Int)+1)]) p1=_:=au;generalize upd H p1 (HO.tup [V.int lo,V.int (n-1),V.int ((j:Int)+1)])=H1 at s1 ea1 e1 |-;push_cast [ea1,gB,am1];refine⟨aQ δ,fun p2 hp2=>?_⟩;have s2:=aA (o:=HO.tup [V.int n,V.int b,V.int t]) hp2;have e2:upd H1 p2 (HO.tup [V.int n,V.int b,V.int t]) p2=_:=au;generalize upd H1 p2 (HO.tup [V.int n,V.int b,V.int t])=H2 at s2 e2 |-;push_cast;refine⟨aQ δ,fun p3 hp3=>?_⟩;have s3:=aA (o:=HO.tup [V.int (b+1),V.int hi,V.int ((j:Int)+1)]) hp3;have e3:upd H2 p3 (HO.tup [V.int (b+1),V.int hi,V.int ((j:Int)+1)]) p3=_:=au;generalize upd H2 p3 (HO.tup [V.int (b+1),V.int hi,V.int ((j:Int)+1)])=H3 at s3 e3 |-;refine⟨aQ δ,fun r hr0=>?_⟩;have s13:=(s1.trans s2).trans s3;have tt:bQ trE H3 [.ref p1,.ref p2,.ref p3] [(lo,n-1,(j:Int)+1),(n,b,t),(b+1,hi,(j:Int)+1)]:=.cons (s3 _ _ (s2 _ _ e1)) (.cons (s3 _ _ e2) (.cons e3 .nil));exact q r _ _ _ (s13.trans (aA hr0)) (s13.none hr0) au (tt.Nr hr0) (QJ hok hrg) (by show 3<=1000000;decide)
theorem Yc (hB:∀x:Str,x∈BLs->mg x=none) (F:Fun K "send_on" "send_on" dm f fd):cQ P w K mg base CX0 1 f fd q15_ Ru:=by
 refine F.okq gD (fun vs H Q E h=>?_) (fun cdv A outer s H vs Q E hr h=>?_)
 ·obtain⟨lr,ls,lw,ps,X,us,uw,ss,ws,rfl,_⟩:=h;rfl
 obtain⟨lr,ls,lw,ps,X,us,uw,ss,ws,rfl,ra,es,ts,ew,tw,nw,hg,hz,q⟩:=h;refine⟨_,(aD (bG qX gD.nd aq rfl (.inl rfl))
  (aD (bG qW gD.nd aq rfl (.inl rfl))
  (aJ (zc BU (vX (kE (aW mX (ao qX) (dz dJ xW (hB "len" iW) CD je (ak (ao Dd) aB rfl) rfl rfl) (aU _)) (jx (aW mX (ao qW) (dz dJ xW (hB "len" iW) CD je (ak (ao Dc) aB rfl) rfl rfl) (aU _))))) (aD (jk (aG aP (ao Dc) (ao qW) (fun _ _=>rfl)) (dO (n:=3) rfl (aR (bT wz gD.nd (.inl rfl)) (aR (bT qU gD.nd (.inl rfl)) (aR (bT CZ gD.nd (.inl rfl)) cL rfl) rfl) rfl) rfl rfl) rfl rfl rfl)
  (aD (jk (aG aP (ao Dd) (ao qX) (fun _ _=>rfl)) (dO (n:=2) rfl (aR (bT wu gD.nd (.inl rfl)) (aR (bT qT gD.nd (.inl rfl)) cL rfl) rfl) rfl rfl) rfl rfl rfl)
  (aD (bR (aW xG (dz (jZ rfl) xV (hB "max" tR) IY uf (ak (ao wz) (ak (ao wu) aB rfl) rfl) rfl rfl) (dz (rD rfl) xU (hB "min" wJ) boot_min wX (ak (ao qU) (ak (ao qT) aB rfl) rfl) rfl rfl) (aU _)) (aJ (fB (jP (aG aP (ao O5) (ao CZ) (fun _ _=>rfl)) (bK (ak (dz (jZ rfl) xV (hB "max" tR) IY uf (ak (ao wz) (ak (ao wu) aB rfl) rfl) rfl rfl) (ak (dz (rD rfl) xU (hB "min" wJ) boot_min wX (ak (ao qU) (ak (ao qT) aB rfl) rfl) rfl rfl) aB rfl) rfl)) rfl rfl rfl rfl rfl) rfl)) bC)
  (aJ (bR (aW mX (ao qT) (ao qU) (aU _)) (aJ (Jt qX gD.nd aq J7)) (aJ (Jt qW gD.nd aq J7))))))))))),?_⟩
 refine aM fun k hk=>?_;push_cast;subst hk;push_cast;have lsu:=ts.length;have lwu:=tw.length;obtain⟨Pv,hPv⟩:∃Pv:Nat->L2.St->Hp->Prop,Pv=fun(m:Nat) σ H'=>∃(i j:Nat)(done:List (Int×(Int×Int))) (o5 o6 o7 o8 o9:Option V),i<=ss.length/\j<=ws.length/\m+i+j=ss.length+ws.length/\done.length<=i+j/\iH (ss.length+ws.length) ss ws=done++iH m (ss.drop i) (ws.drop j)/\lG ps H H'/\H' ls=some (.lst us)/\RAt H' lr ps (fun g=>X g++newOf done (g:Int))/\σ=[some (.ref lr),some (.ref ls),some (.ref lw),some (.int (i:Int)),some (.int (j:Int)),o5,o6,o7,o8,o9]:=⟨_,rfl⟩;refine Wd Pv (by rw[hPv];exact⟨_,0,0,[],_,_,_,_,_,DL _,DL _,rfl,A6 _,rfl,lG.refl _ _,es,by simpa [newOf] using ra,rfl⟩) ?_;intro m σ H1 pv kt hkt;rw[hPv] at pv;obtain⟨i,j,done,o5,o6,o7,o8,o9,hi,hj,hm,hdl,hsf,s1,es1,ra1,rfl⟩:=pv;have ew1:=s1 _ _ nw ew;push_cast [es1,ew1];have fin:iH m (ss.drop i) (ws.drop j)=[]->Q .non H1:=fun h0=>by
  rw[h0,C4] at hsf;refine q H1 s1 ?_;rw[hsf];exact ra1
 by_cases hi1:i<ss.length
 ·rw[if_pos (show(i:Int)<(us.length:Int) by omega)];by_cases hj1:j<ws.length
  ·rw[if_pos (show(j:Int)<(uw.length:Int) by omega)];subst hkt;refine⟨fun σ' H'=>∃m',m'<m/\Pv m' σ' H',fun σ' H' h=>h,?_⟩;have hs:ss[i]?=some ss[i]:=AC hi1;have hw:ws[j]?=some ws[j]:=AC hj1;obtain⟨pp,hpp,epp⟩:=ts.get hs;obtain⟨pw,hpw,epw⟩:=tw.get hw;have mw:=A2 hw;have ds:=vK hs;have dw:=vK hw;generalize ss[i]=s at hs epp ds;generalize ws[j]=w at hw epw dw mw;replace epp:H pp=some (.tup [.int s.1,.int s.2]):=epp;replace epw:H pw=some (.tup [.int w.1,.int w.2.1,.int w.2.2]):=epw;have npp:∀{b:Addr}{ys:List V},H b=some (.tup ys)->b∉ps:=fun eb mb=>by
    obtain⟨n,hn⟩:=F0.mp mb;obtain⟨u',e',_⟩:=ra.el n _ hn;rw[e'] at eb;cases eb
   have epp1:=s1 _ _ (npp epp) epp;have epw1:=s1 _ _ (npp epw) epw;have hat:=bJ hpp;have hatw:=bJ hpw;obtain⟨m,rfl⟩:∃m',m=m'+1:=⟨m-1,ω⟩;rw[ds,dw] at hsf;refine aM fun k1 hk1=>?_;push_cast [ew1,hatw,epw1];subst hk1;refine aM fun k1 hk1=>?_;push_cast [es1,hat,epp1];subst hk1;refine aM fun k1 hk1=>?_;refine oY fun kt ke hkt hke=>?_;push_cast;have mx:(if s.1>w.1 then s.1 else w.1)=max w.1 s.1:=by split <;> omega
   have mn:(if s.2<w.2.1 then s.2 else w.2.1)=min w.2.1 s.2:=by split <;> omega
   rw[mx,mn];have sfe:iH (ss.length+ws.length) ss ws=done++((if max w.1 s.1<=min w.2.1 s.2 then [(w.2.2,(max w.1 s.1,min w.2.1 s.2))] else [])++(if s.2<w.2.1 then iH m (ss.drop (i+1)) (w::ws.drop (j+1)) else iH m (s::ss.drop (i+1)) (ws.drop (j+1)))):=hsf;have last:∀(done':List (Int×(Int×Int))) (H2:Hp),done'.length<=i+j+1->iH (ss.length+ws.length) ss ws=done'++(if s.2<w.2.1 then iH m (ss.drop (i+1)) (w::ws.drop (j+1)) else iH m (s::ss.drop (i+1)) (ws.drop (j+1)))->lG ps H H2->H2 ls=some (.lst us)->RAt H2 lr ps (fun g=>X g++newOf done' (g:Int))->k1 [some (V.ref lr),some (V.ref ls),some (V.ref lw),some (V.int (i:Int)),some (V.int (j:Int)),some (V.int w.1),some (V.int w.2.1),some (V.int w.2.2),some (V.int s.1),some (V.int s.2)] H2:=by
    intro done' H2 l2 sf2 s2 es2 ra2;subst hk1;push_cast;by_cases c2:s.2<w.2.1
    ·rw[if_pos c2] at sf2 |-;refine⟨m,Db _,?_⟩;rw[hPv];exact⟨i+1,j,done',_,_,_,_,_,hi1,hj,ω,ω,by rw[dw];exact sf2,s2,es2,ra2,rfl⟩
    rw[if_neg c2] at sf2 |-;refine⟨m,Db _,?_⟩;rw[hPv];exact⟨i,j+1,done',_,_,_,_,_,hi,hj1,ω,ω,by rw[ds];exact sf2,s2,es2,ra2,rfl⟩
   by_cases c:max w.1 s.1<=min w.2.1 s.2
   ·rw[if_pos c];subst hkt;rw[if_pos c,<- Da] at sfe;obtain⟨g0,g1,gn⟩:=hg w mw;have hpg:ps[w.2.2.toNat]?=some ps[w.2.2.toNat]:=AC ω;have hne:=gn _ hpg;generalize ps[w.2.2.toNat]=pg at hpg hne;have hag:atI (ps.map V.ref) w.2.2=some (V.ref pg):=by
     have:=bJ (xs:=ps.map V.ref) (j:=w.2.2.toNat) (v:=V.ref pg) (by rw[A4,hpg];rfl);rwa [show((w.2.2.toNat:Nat):Int)=w.2.2 by omega] at this
    obtain⟨ug,eg,tg⟩:=ra1.el _ _ hpg;have elr:=ra1.e;push_cast [elr,hag,eg];refine⟨aQ δ,fun q1 hq1=>?_⟩;have eg2:upd H1 q1 (.tup [.int (max w.1 s.1),.int (min w.2.1 s.2)]) pg=some (.lst ug):=by rw[aH (aF eg hq1)];exact eg
    rw[mx,mn];push_cast [eg2];have lg:=tg.length;refine⟨AX (show ug.length<2000000 by
     have h1:=hz w.2.2.toNat;have h2:(newOf done ((w.2.2.toNat:Nat):Int)).length<=done.length:=by unfold newOf;rw[AI];exact DT ..
     rw[lg,AR];omega) δ,?_⟩
    have ra2:=(ra1.same (aA (o:=.tup [.int (max w.1 s.1),.int (min w.2.1 s.2)]) hq1)).push (s:=(max w.1 s.1,min w.2.1 s.2)) hpg eg2 au;have es2:upd (upd H1 q1 (.tup [.int (max w.1 s.1),.int (min w.2.1 s.2)])) pg (.lst (ug++[.ref q1])) ls=some (.lst us):=Ef es1 hne.symm hq1;have s2:lG ps H (upd (upd H1 q1 (.tup [.int (max w.1 s.1),.int (min w.2.1 s.2)])) pg (.lst (ug++[.ref q1]))):=(s1.trans (aA hq1).p).trans (lG.upd (A2 hpg));refine last _ _ (by rw[AR,A9];omega) sfe s2 es2 ?_;have eX:(fun g:Nat=>X g++newOf (done++[(w.2.2,(max w.1 s.1,min w.2.1 s.2))]) (g:Int))=fun g:Nat=>(X g++newOf done (g:Int))++(if g=w.2.2.toNat then [(max w.1 s.1,min w.2.1 s.2)] else []):=by
     funext g;rw[CN,<- Da];congr 1;unfold newOf;by_cases e:g=w.2.2.toNat
     ·rw[if_pos e,EO (by simp;omega)];rfl
     rw[if_neg e,ER (by simp;omega)];rfl
    rw[eX];exact ra2
   rw[if_neg c];subst hke;push_cast;rw[if_neg c,GO] at sfe;exact last done H1 ω sfe s1 es1 ra1
  rw[if_neg (show ¬(j:Int)<(uw.length:Int) by omega)];refine fin ?_;rw[Hd (by omega:ws.length<=j)];cases m with
  | zero=>rfl
  | succ m=>cases ss.drop i <;> rfl
 rw[if_neg (show ¬(i:Int)<(us.length:Int) by omega)];refine fin ?_;rw[Hd (by omega:ss.length<=i)];cases m <;> rfl
noncomputable abbrev lZ:List Str:=["rows","low","high","reached","at","row"]
noncomputable abbrev dY:Stmt:=top 28
theorem uL:bx lZ q3_ (aj dY):=⟨rfl,rfl,rfl,ψ,rfl,ψ,ψ⟩
theorem Dm:Nm lZ (aj dY) 0 "rows" := .of ψ
theorem Dl:Nm lZ (aj dY) 1 "low" := .of ψ
theorem Dk:Nm lZ (aj dY) 2 "high" := .of ψ
theorem jm:Nm lZ (aj dY) 3 "reached" := .of ψ
theorem ni:Nm lZ (aj dY) 4 "at" := .of ψ
theorem Dj:Nm lZ (aj dY) 5 "row" := .of ψ
theorem vH:GI_ dY "enumerate" := by decide +kernel
theorem Ax:GI_ dY "joined" := by decide +kernel
theorem Aw:GI_ dY "send_on" := by decide +kernel
theorem Av:GI_ dY "ways_of" := by decide +kernel
theorem Io:Bn "come_to" := ⟨ψ,ψ⟩
theorem Yi (hB:∀x:Str,x∈BLs->mg x=none) (CJoined:Cal P w K mg base "joined" 1 ["spans"] Ry) (CWaysOf:Cal P w K mg base "ways_of" 2 q14_ Rq) (CSendOn:Cal P w K mg base "send_on" 1 q15_ Ru) (F:Fun K "come_to" "come_to" dY f fd):cQ P w K mg base CX0 3 f fd q3_ Jj:=by
 refine F.okq uL (fun vs H Q E h=>?_) (fun cdv A outer s H vs Q E hr h=>?_)
 ·obtain⟨l,ok,cs,low,high,rfl,_⟩:=h;rfl
 obtain⟨l,ok,cs,low,high,rfl,tr,rows,hcs,hlh,few,q⟩:=h;refine⟨_,(aD (nY (NX:=lZ) (kX:=(aj dY).names) ["row"] [none] jm uL.nd rfl rfl ⟨rfl,ψ,ψ,ψ,ψ⟩ rfl (cO (ao Dm)) (fun _ _ _ _ _=>(dM 0 (show CL (["row"]:List Str) from by decide +kernel) rfl (EF rfl))) (fun _ _ _ _ _=>pP) (fun _ _ _ _ _=>(bZ aB)))
  (aD (fB (jP (aG aP (ao jm) aq (fun _ _=>rfl)) (bK (ak (ao Dl) (ak (ao Dk) aB rfl) rfl)) rfl rfl rfl rfl rfl) rfl)
  (aD (gY BU rfl (yK vH (hB "enumerate" iY) (ak (ao Dm) aB rfl) rfl) (dO (n:=2) rfl (aR (bT ni uL.nd (.inl rfl)) (aR (bT Dj uL.nd (.inl rfl)) cL rfl) rfl) rfl rfl)
  (aD (jk (bF CJoined (hr.mono δ) Ax VN (ak (aG aP (ao jm) (ao ni) (fun _ _=>rfl)) aB rfl) rfl rfl) (W8 (ao jm) (ao ni) Cv) rfl rfl rfl)
  (aJ (fB (bF CSendOn (hr.mono δ) Aw VH (ak (ao jm) (ak (aG aP (ao jm) (ao ni) (fun _ _=>rfl)) (ak (bF CWaysOf (hr.mono δ) Av VG (ak (ao Dj) (ak (ao ni) (ak (ao Dl) (ak (ao Dk) aB rfl) rfl) rfl) rfl) rfl rfl) aB rfl) rfl) rfl) rfl rfl) rfl))) (fun _=>rfl))
  (aJ (aV (ao jm)))))),?_⟩
 have tr0:=tr;cases tr with
 | lst o el zl tsl=>
  rename_i xs;have hxl:=tsl.length;rw[AI] at hxl;refine aM fun k hk=>?_;refine gC fun R hR=>?_;push_cast [el];obtain⟨Pc,hPc⟩:∃Pv:Nat->List V->L2.St->Hp->Prop,Pv=fun(i:Nat) acc τ H'=>∃(ps:List Addr),Same H H'/\acc=ps.map V.ref/\ps.length=i/\ps.Nodup/\(∀p,p∈ps->H p=none/\H' p=some (.lst [])):=⟨_,rfl⟩;refine uc hR (aQ ω) Pc (by rw[hPc];exact⟨[],Same.refl _,rfl,rfl,.nil,fun p m=>(by cases m)⟩) ?_ ?_ ?_ ?_
  ·intro i acc τ H5 pc;rw[hPc] at pc;obtain⟨ps,_,rfl,h1,_⟩:=pc;rw[AI];omega
  ·intro i acc τ H5 pc;rw[hPc] at pc;obtain⟨ps,s,_⟩:=pc;exact SqL.of (s _ _ el)
  ·intro i x acc τ H5 hx pc;rw[hPc] at pc;obtain⟨ps,s5,rfl,hi5,nd5,hp5⟩:=pc;push_cast;refine⟨aQ δ,fun p hp=>?_⟩;rw[hPc];have np:p∉ps:=fun m=>by rw[(hp5 p m).2] at hp;cases hp
   refine⟨ps++[p],s5.trans (aA hp),by rw[BS];rfl,by rw[AR,hi5];rfl,nodup_append.mpr ⟨nd5,Fk.mpr ⟨BE,.nil⟩,fun a ma b mb=>?_⟩,fun b mb=>?_⟩
   ·rw[Au.mp mb];exact fun z=>np (z ▸ ma)
   rcases BC.mp mb with mb|mb
   ·exact⟨(hp5 b mb).1,aA hp _ _ (hp5 b mb).2⟩
   rw[Au.mp mb];exact⟨s5.none hp,au⟩
  intro acc τ H5 d pc hd;rw[hPc] at pc;obtain⟨ps,s5,rfl,hi5,nd5,hp5⟩:=pc;push_cast;have ra:RAt (upd H5 d (.lst (ps.map V.ref))) d ps fun _=>[]:=⟨au,fun m=>(by rw[(hp5 d m).2] at hd;cases hd),nd5,fun j p hp=>⟨[],aA hd _ _ (hp5 p (A2 hp)).2,.nil⟩⟩;have s6:Same H (upd H5 d (.lst (ps.map V.ref))):=s5.trans (aA hd);have hd0:=s5.none hd;have hps:∀p,p∈ps->H p=none:=fun p m=>(hp5 p m).1;generalize upd H5 d (.lst (ps.map V.ref))=H6 at ra s6 |-;subst hk;refine aM fun k hk=>?_;have hlen:=rows.1;have hp0:ps[0]?=some ps[0]:=AC ω;generalize ps[0]'ω=p0 at hp0;have ha0:atI (ps.map V.ref) 0=some (V.ref p0):=bJ (j:=0) (by rw[A4,hp0];rfl);obtain⟨u0,e0,t0⟩:=ra.el 0 p0 hp0;cases t0;have elr:=ra.e;push_cast [elr,ha0,e0];refine⟨aQ δ,fun q1 hq1=>?_⟩;have e01:upd H6 q1 (.tup [.int low,.int high]) p0=some (.lst []):=by rw[aH (aF e0 hq1)];exact e0
  push_cast [e01];refine⟨δ,?_⟩;have ra2:=(ra.same (aA (o:=.tup [.int low,.int high]) hq1)).push (s:=(low,high)) hp0 e01 au;have s7:Same H (upd (upd H6 q1 (.tup [.int low,.int high])) p0 (.lst ([]++[.ref q1]))):=kj s6 (hps p0 (A2 hp0)) hq1;rw[GO] at ra2 s7;generalize upd (upd H6 q1 (.tup [.int low,.int high])) p0 (.lst [.ref q1])=H7 at ra2 s7 |-;subst hk;refine aM fun k hk=>?_;refine lF fun R hR=>?_;have el7:=s7 _ _ el;push_cast [Dt,el7];refine⟨⟨_,SqL.of el7⟩,?_⟩;obtain⟨Pv,hPv⟩:∃Pv:Nat->L2.St->Hp->Prop,Pv=fun(i:Nat) σ H'=>∃(ps:List Addr)(X:Nat->List (Int×Int)) (o4 o5:Option V),Same H H'/\(∀p,p∈ps->H p=none)/\RAt H' d ps X/\ps.length=cs.length/\CI cs low high X i/\σ=[some (.ref l),some (.int low),some (.int high),some (.ref d),o4,o5]:=⟨_,rfl⟩;refine Mw hR Pv ?_ (fun i σ H' pv=>by rw[hPv] at pv;obtain⟨_,_,_,_,s,_⟩:=pv;exact s _ _ el) ?_ ?_
  ·rw[hPv];exact⟨ps,_,_,_,s7,hps,ra2,ω,CI.start hlh,rfl⟩
  ·intro i x σ H2 p hx pv hp;rw[hPv] at pv;obtain⟨ps,X,o4,o5,s2,hps,ra,hpl,ci,rfl⟩:=pv;have li:i<cs.length:=by have:=(AG.mp hx).1;omega
   have hc:cs[i]?=some cs[i]:=AC li;have hin:cs[i]∈cs:=DS li;have hcok:=rows.2 i _ hc;obtain⟨x',hx',rx⟩:=tsl.row hc;rw[hx] at hx';cases hx';generalize cs[i]=c at hc hin hcok rx;have s3:Same H2 (upd H2 p (.tup [.int (i:Nat),x])):=aA hp;have ep:upd H2 p (.tup [.int (i:Nat),x]) p=some (.tup [.int (i:Nat),x]):=au;generalize upd H2 p (.tup [.int (i:Nat),x])=H3 at s3 ep |-;have ra3:=ra.same s3;have hpi:ps[i]?=some ps[i]:=AC ω;generalize ps[i]'ω=pi at hpi;have hai:atI (ps.map V.ref) (i:Int)=some (V.ref pi):=bJ (by rw[A4,hpi];rfl);obtain⟨ui,ei,ti⟩:=ra3.el i pi hpi;have elr:=ra3.e;push_cast [ep,elr,hai];refine⟨pi,ui,X i,rfl,ei,ti,ci.ra i (A6 _),ci.YK few i,fun r H4 us' ys s4 hn4 er t4 gy cy fy ly=>?_⟩;have ra4:=ra3.same s4;have elr4:=ra4.e;have hrp:r∉ps:=fun m=>by
    obtain⟨n,hn⟩:=F0.mp m;obtain⟨u',e',_⟩:=ra3.el n _ hn;rw[e'] at hn4;cases hn4
   have hdr:d≠r:=aF elr hn4;push_cast [elr4];refine⟨i,UJ (by rw[AI];omega),?_⟩;have ra5:=ra4.put (k:=i) ω hrp hdr er t4;have esx:(ps.map V.ref).set i (V.ref r)=(ps.set i r).map V.ref:=(List.map_set ..).symm;rw[esx];have s24:Same H H4:=(s2.trans s3).trans s4;have hr0:H r=none:=(s2.trans s3).none hn4;have s5:Same H (upd H4 d (.lst ((ps.set i r).map V.ref))):=dR s24 hd0;have er5:upd H4 d (.lst ((ps.set i r).map V.ref)) r=some (.lst us'):=by rw[aH hdr.symm];exact er
   have t5:bQ prE (upd H4 d (.lst ((ps.set i r).map V.ref))) us' ys:=t4.Iw elr4;generalize upd H4 d (.lst ((ps.set i r).map V.ref))=H5 at ra5 s5 er5 t5 |-;have hps5:∀p,p∈ps.set i r->H p=none:=fun b m=>by
    rcases List.mem_or_eq_of_mem_set m with m|m
    ·exact hps b m
    rw[m];exact hr0
   have hps5l:(ps.set i r).length=cs.length:=by rw[length_set];exact hpl
   have hri:(ps.set i r)[i]?=some r:=FA ω;generalize ps.set i r=ps5 at ra5 hps5 hps5l hri |-;have elr5:=ra5.e;have hai5:atI (ps5.map V.ref) (i:Int)=some (V.ref r):=bJ (by rw[A4,hri];rfl);push_cast [elr5,hai5];refine⟨x,c,cs.length,i,low,high,rfl,rx.same s5,hcok,(hcs c hin).1,(hcs c hin).2,fun rw_ H6 uw ws s6 hn6 ew tw hw lw=>?_⟩;have ra6:=ra5.same s6;have nrw:rw_∉ps5:=fun m=>by
    obtain⟨n,hn⟩:=F0.mp m;obtain⟨u',e',_⟩:=ra5.el n _ hn;rw[e'] at hn6;cases hn6
   have ly64:=ci.YK few i;refine⟨d,r,rw_,ps5,_,us',uw,ys,ws,rfl,ra6,s6 _ _ er5,t5.same s6,ew,tw,nrw,fun w mw=>?_,fun j=>?_,fun H7 s7' ra7=>?_⟩
   ·have g:=hw.gl w mw;refine⟨ω,ω,fun p' hp'=>Zn ra6.nd hp' hri ω⟩
   ·have:=ci.YK few j;show(if j=i then ys else X j).length+ys.length+ws.length<2000000;split <;> omega
   have sF:Same H H7:=fun b o hb=>s7' b o (fun m=>by rw[hps5 b m] at hb;cases hb) (s6 _ _ (s5 _ _ hb));rw[hPv];exact⟨ps5,_,_,_,sF,hps5,ra7,hps5l,ci.step rows hc gy cy fy hw (RG _ (A6 _) (gy.up.imp fun {a b} q=>ω) hw.up),rfl⟩
  intro σ H2 pv;rw[hPv] at pv;obtain⟨ps,X,o4,o5,s2,hps,ra,hpl,ci,rfl⟩:=pv;subst hk;push_cast;rw[hxl] at ci;exact q d ps X H2 s2 hd0 hps ra hpl ci
noncomputable abbrev Np:List Str:=["row"]
noncomputable abbrev lQ:Stmt:=top 16
theorem RL:bx Np ["row"] (aj lQ):=⟨rfl,rfl,rfl,ψ,rfl,ψ,ψ⟩
theorem iy:Nm Np (aj lQ) 0 "row" := .of ψ
theorem HJ:GI_ lQ "len" := by decide +kernel
theorem Im:Bn "ends_of" := ⟨ψ,ψ⟩
noncomputable abbrev gw:List Str:=["row","spans","ends","low","high"]
noncomputable abbrev bW:Stmt:=top 29
theorem ju:bx gw ["row","spans"] (aj bW):=⟨rfl,rfl,rfl,ψ,rfl,ψ,ψ⟩
theorem zW:Nm gw (aj bW) 0 "row" := .of ψ
theorem zV:Nm gw (aj bW) 1 "spans" := .of ψ
theorem fW:Nm gw (aj bW) 2 "ends" := .of ψ
theorem iU:Nm gw (aj bW) 3 "low" := .of ψ
theorem qm:Nm gw (aj bW) 4 "high" := .of ψ
theorem rJ:GI_ bW "ends_of" := by decide +kernel
theorem wU:GI_ bW "max" := by decide +kernel
theorem BZ:Bn "least_beyond" := ⟨ψ,ψ⟩
noncomputable abbrev gA:List Str:=["rows","reached","at","spans","number"]
noncomputable abbrev bY:Stmt:=top 30
theorem jw:bx gA ["rows","reached"] (aj bY):=⟨rfl,rfl,rfl,ψ,rfl,ψ,ψ⟩
theorem zZ:Nm gA (aj bY) 0 "rows" := .of ψ
theorem zY:Nm gA (aj bY) 1 "reached" := .of ψ
theorem lq:Nm gA (aj bY) 2 "at" := .of ψ
theorem qt:Nm gA (aj bY) 3 "spans" := .of ψ
theorem kZ:Nm gA (aj bY) 4 "number" := .of ψ
theorem oM:GI_ bY "enumerate" := by decide +kernel
theorem mK:GI_ bY "least_beyond" := by decide +kernel
theorem Cd:Bn "beyond_among" := ⟨ψ,ψ⟩
theorem Yh (hB:∀x:Str,x∈BLs->mg x=none) (F:Fun K "ends_of" "ends_of" lQ f fd):cQ P w K mg base CX0 1 f fd ["row"] Ji:=by
 refine F.okq RL (fun vs H Q E h=>?_) (fun cdv A outer s H vs Q E hr h=>?_)
 ·obtain⟨x,c,rfl,_⟩:=h;rfl
 obtain⟨x,c,rfl,⟨a,g,rfl,e,eg⟩,q1,q2⟩:=h;refine⟨_,(aD (bR (aW (b7 hr.bH) (aG aP (ao iy) aq (fun _ _=>rfl)) bB (aU _)) (aJ (aV (bK (ak (aG aP (ao iy) aq (fun _ _=>rfl)) (ak (aN cU (aN aZ (aG aP (ao iy) aq (fun _ _=>rfl)) (aG aP (ao iy) aq (fun _ _=>rfl))) aq) aB rfl) rfl)))) bC)
  (aD (bR (aW (b7 hr.bH) (aG aP (ao iy) aq (fun _ _=>rfl)) bB (aU _)) (aJ (aV (bK (ak (aG aP (ao iy) aq (fun _ _=>rfl)) (ak (aN cU (aN aZ (aG aP (ao iy) aq (fun _ _=>rfl)) (dz dJ HJ (hB "len" iW) CD je (ak (aG aP (ao iy) aq (fun _ _=>rfl)) aB rfl) rfl rfl)) aq) aB rfl) rfl)))) bC)
  (aJ (aV jH)))),?_⟩
 have hw:=yX c g;refine aM fun k hk=>?_;refine oY fun kt ke hkt hke=>?_;push_cast [e];refine⟨_,hw,?_⟩;push_cast;by_cases c1:j6 c = "mask"
 ·rw[if_pos c1];obtain⟨l,wd,bits,t,rfl⟩:=xg c1;subst hkt;push_cast [e,gB];exact⟨aQ δ,fun p hp=>q2 _ _ rfl p hp⟩
 rw[if_neg c1];subst hke;push_cast;subst hk;refine aM fun k hk=>?_;refine oY fun kt ke hkt hke=>?_;push_cast [e];refine⟨_,hw,?_⟩;push_cast;by_cases c2:j6 c = "table"
 ·rw[if_pos c2];obtain⟨l,gs,rfl⟩:=w6 c2;subst hkt;have eg:=eg _ _ rfl;push_cast [e,gB,eg,AI];exact⟨aQ δ,fun p hp=>q2 _ _ rfl p hp⟩
 rw[if_neg c2];subst hke;push_cast;subst hk;push_cast;refine q1 ?_;cases c with
 | msk _ _ _ _=>exact absurd rfl c1
 | tab _ _=>exact absurd rfl c2
 | _=>rfl
theorem T9 (hB:∀x:Str,x∈BLs->mg x=none) (CEndsOf:Cal P w K mg base "ends_of" 1 ["row"] Ji) (F:Fun K "least_beyond" "least_beyond" bW f fd):cQ P w K mg base CX0 2 f fd ["row","spans"] Ld:=by
 refine F.okq ju (fun vs H Q E h=>?_) (fun cdv A outer s H vs Q E hr h=>?_)
 ·obtain⟨x,c,ls,us,ss,rfl,_⟩:=h;rfl
 obtain⟨x,c,ls,us,ss,rfl,rx,es,ts,q⟩:=h;refine⟨_,(aD (bG fW ju.nd (bF CEndsOf (hr.mono δ) rJ Im (ak (ao zW) aB rfl) rfl rfl) rfl (.inl rfl))
  (aD (bR (aW aaG (ao fW) jH (aU _)) (aJ (aV jH)) bC)
  (aD (gY BU rfl (cO (ao zV)) (dO (n:=2) rfl (aR (bT iU ju.nd (.inl rfl)) (aR (bT qm ju.nd (.inl rfl)) cL rfl) rfl) rfl rfl)
  (aD (bR (aW mX (ao iU) (aG aP (ao fW) aq (fun _ _=>rfl)) (aU _)) (aJ (aV (ao iU))) bC)
  (aJ (bR (aW Mg (ao qm) (aG aP (ao fW) aq (fun _ _=>rfl)) (aU _)) (aJ (aV (dz (jZ rfl) wU (hB "max" tR) IY uf (ak (ao iU) (ak (aN aZ (aG aP (ao fW) aq (fun _ _=>rfl)) aq) aB rfl) rfl) rfl rfl))) bC))) (fun _=>rfl))
  (aJ (aV jH))))),?_⟩
 refine aM fun k hk=>?_;push_cast;refine⟨x,c,rfl,rx,fun hn=>?_,fun lo hi hn p hp=>?_⟩
 ·subst hk;push_cast;have:lbC c ss=none:=by unfold lbC;rw[hn]
  rw[this] at q;exact q H (Same.refl _)
 have el:lbC c ss=lbL lo hi ss:=by unfold lbC;rw[hn]
 rw[el] at q;have s1:=aA (o:=.tup [.int lo,.int hi]) hp;have e1:upd H p (.tup [.int lo,.int hi]) p=some (.tup [.int lo,.int hi]):=au;have es1:=s1 _ _ es;generalize upd H p (.tup [.int lo,.int hi])=H1 at s1 e1 es1 |-;subst hk;push_cast;refine lF fun R hR=>?_;push_cast [es1];have lu:=ts.length;obtain⟨Pv,hPv⟩:∃Pv:Nat->L2.St->Hp->Prop,Pv=fun(i:Nat) σ H'=>∃(o3 o4:Option V),H'=H1/\lbL lo hi ss=lbL lo hi (ss.drop i)/\σ=[some x,some (.ref ls),some (.ref p),o3,o4]:=⟨_,rfl⟩;refine Ay hR Pv (by rw[hPv];exact⟨_,_,rfl,rfl,rfl⟩) (fun i σ H' _ pv=>by rw[hPv] at pv;obtain⟨_,_,rfl,_⟩:=pv;exact SqL.of es1) ?_ ?_
 ·intro i y σ H2 hy pv;rw[hPv] at pv;obtain⟨o3,o4,rfl,hlb,rfl⟩:=pv;obtain⟨pz,z,rfl,hz,ez⟩:=(ts.same s1).got hy;replace ez:H2 pz=some (.tup [.int z.1,.int z.2]):=ez;rw[vK hz] at hlb;replace hlb:lbL lo hi ss=(if z.1<lo then some z.1 else if z.2>hi then some (max z.1 (hi+1)) else lbL lo hi (ss.drop (i+1))):=hlb;push_cast [ez,e1];by_cases c1:z.1<lo
  ·rw[if_pos c1] at hlb |-;rw[hlb] at q;exact q _ s1
  rw[if_neg c1] at hlb |-;push_cast [e1];by_cases c2:z.2>hi
  ·rw[if_pos c2] at hlb;rw[if_pos (show hi<z.2 by omega)];have mx:(if hi+1>z.1 then hi+1 else z.1)=max z.1 (hi+1):=by split <;> omega
   rw[hlb] at q;push_cast [e1,mx];exact q _ s1
  rw[if_neg c2] at hlb;rw[if_neg (show ¬hi<z.2 by omega),hPv];exact⟨_,_,rfl,hlb,rfl⟩
 intro σ H2 pv;rw[hPv] at pv;obtain⟨o3,o4,rfl,hlb,rfl⟩:=pv;rw[Hd ω] at hlb;push_cast;rw[hlb] at q;exact q _ s1
theorem Ue (hB:∀x:Str,x∈BLs->mg x=none) (CLeastBeyond:Cal P w K mg base "least_beyond" 2 ["row","spans"] Ld) (F:Fun K "beyond_among" "beyond_among" bY f fd):cQ P w K mg base CX0 3 f fd ["rows","reached"] Li:=by
 refine F.okq jw (fun vs H Q E h=>?_) (fun cdv A outer s H vs Q E hr h=>?_)
 ·obtain⟨l,r,ok,cs,ps,X,rfl,_⟩:=h;rfl
 obtain⟨l,r,ok,cs,ps,X,rfl,tr,ra,hpl,q1,q2⟩:=h;refine⟨_,(aD (gY BU rfl (yK oM (hB "enumerate" iY) (ak (ao zY) aB rfl) rfl) (dO (n:=2) rfl (aR (bT lq jw.nd (.inl rfl)) (aR (bT qt jw.nd (.inl rfl)) cL rfl) rfl) rfl rfl)
  (aD (bG kZ jw.nd (bF CLeastBeyond (hr.mono δ) mK BZ (ak (aG aP (ao zZ) (ao lq) (fun _ _=>rfl)) (ak (ao qt) aB rfl) rfl) rfl rfl) rfl (.inl rfl))
  (aJ (bR (aW uR (ao kZ) jH (aU _)) (aJ (aV (bK (ak (ao lq) (ak (ao kZ) aB rfl) rfl)))) bC))) (fun _=>rfl))
  (aJ (aV jH))),?_⟩
 cases tr with
 | lst o el zl tsl=>
  rename_i xs;have hxl:=tsl.length;rw[AI] at hxl;refine aM fun k hk=>?_;refine lF fun R hR=>?_;have elr:=ra.e;push_cast [Dt,elr];refine⟨⟨_,SqL.of elr⟩,?_⟩;obtain⟨Pv,hPv⟩:∃Pv:Nat->L2.St->Hp->Prop,Pv=fun(i:Nat) σ H'=>∃(o2 o3 o4:Option V),Same H H'/\(∀j c,j<i->cs[j]?=some c->lbC c (X j)=none)/\σ=[some (.ref l),some (.ref r),o2,o3,o4]:=⟨_,rfl⟩;refine Mw hR Pv (by rw[hPv];exact⟨_,_,_,Same.refl _,fun j c h=>absurd h (not_lt_zero _),rfl⟩) (fun i σ H' pv=>by rw[hPv] at pv;obtain⟨_,_,_,s,_⟩:=pv;exact s _ _ elr) ?_ ?_
  ·intro i x σ H2 p hx pv hp;rw[hPv] at pv;obtain⟨o2,o3,o4,s2,hno,rfl⟩:=pv;have li:i<cs.length:=by have:=(AG.mp hx).1;rw[AI] at this;omega
   have hc:cs[i]?=some cs[i]:=AC li;obtain⟨x',hx',rx⟩:=tsl.row hc;have hat:=bJ hx';generalize cs[i]=c at hc rx;rw[A4] at hx;obtain⟨pi,hpi,rfl⟩:=Cn.mp hx;obtain⟨ui,ei,ti⟩:=ra.el i pi hpi;have s3:Same H (upd H2 p (.tup [.int (i:Nat),.ref pi])):=s2.trans (aA hp);have ep:upd H2 p (.tup [.int (i:Nat),.ref pi]) p=some (.tup [.int (i:Nat),.ref pi]):=au;generalize upd H2 p (.tup [.int (i:Nat),.ref pi])=H3 at s3 ep |-;have el3:=s3 _ _ el;push_cast [ep,el3,hat];refine⟨x',c,pi,ui,X i,rfl,rx.same s3,s3 _ _ ei,ti.same s3,fun H4 s4=>?_⟩;cases hlb:lbC c (X i) with
   | none=>
    push_cast [Ez];rw[hPv];refine⟨_,_,_,s3.trans s4,fun j c' hj hc'=>?_,rfl⟩;by_cases e:j=i
    ·subst e;rw[hc] at hc';cases hc';exact hlb
    exact hno j c' ω hc'
   | some n=>
    push_cast [Ez];refine⟨aQ δ,fun p1 hp1=>?_⟩;exact q2 p1 _ i c n ((s3.trans s4).trans (aA hp1)) ((s3.trans s4).none hp1) au hc hlb hno
  intro σ H2 pv;rw[hPv] at pv;obtain⟨o2,o3,o4,s2,hno,rfl⟩:=pv;subst hk;push_cast;refine q1 H2 s2 fun j c hc=>hno j c ?_ hc;have:=(AG.mp hc).1;rw[AI];omega
end
noncomputable abbrev rF:List Str:=["rows","low","high"]
noncomputable abbrev eN:Stmt:=top 31
theorem Jm:bx rF q3_ (aj eN):=⟨rfl,rfl,rfl,ψ,rfl,ψ,ψ⟩
theorem xQ:Nm rF (aj eN) 0 "rows" := .of ψ
theorem Hg:Nm rF (aj eN) 1 "low" := .of ψ
theorem Hf:Nm rF (aj eN) 2 "high" := .of ψ
theorem pq:GI_ eN "beyond_among" := by decide +kernel
theorem wV:GI_ eN "come_to" := by decide +kernel
theorem Bg:Bn "beyond_of" := ⟨ψ,ψ⟩
noncomputable def Jk:Sp:=fun vs H Q _=>∃(l:Addr)(ok:Addr->Prop)(cs:List RowC)(low high:Int),vs=[.ref l,.int low,.int high]/\aK ok H (.ref l) (.list (cs.map gH))/\fj cs/\(∀c,c∈cs->xu c/\bdC c)/\low<=high/\Qy cs low high /\
 ∀(v:V)(H':Hp)(o:Option (Int×Int)),Same H H'->aK (fun _=>True) H' v (acM o)->yc cs low high o->Q v H'
section
variable {P:AW}{w:BB}{K:AD}{mg:Str->Option An}{base:Heap}{f:Addr}{fd:Co}{bs:List Str}
theorem Uc (hB:∀x:Str,x∈BLs->mg x=none) (CComeTo:Cal P w K mg base "come_to" 3 q3_ Jj) (CBeyondAmong:Cal P w K mg base "beyond_among" 3 ["rows","reached"] Li) (F:Fun K "beyond_of" "beyond_of" eN f fd):cQ P w K mg base CX0 4 f fd q3_ Jk:=by
 refine F.okq Jm (fun vs H Q E h=>?_) (fun cdv A outer s H vs Q E hr h=>?_)
 ·obtain⟨l,ok,cs,low,high,rfl,_⟩:=h;rfl
 obtain⟨l,ok,cs,low,high,rfl,tr,rows,hcs,hlh,few,q⟩:=h;refine⟨_,(aJ (aV (bF CBeyondAmong (hr.mono δ) pq Cd (ak (ao xQ) (ak (bF CComeTo (hr.mono δ) wV Io (ak (ao xQ) (ak (ao Hg) (ak (ao Hf) aB rfl) rfl) rfl) rfl rfl) aB rfl) rfl) rfl rfl))),?_⟩;push_cast;refine⟨l,ok,cs,low,high,rfl,tr,rows,hcs,hlh,few,fun r ps X H1 s1 hr1 hps ra hpl ci=>?_⟩;push_cast;refine⟨l,r,ok,cs,ps,X,rfl,tr.same s1,ra,hpl,fun H2 s2 hn=>?_,fun p H2 j c n s2 hp ep hc hlb he=>?_⟩
 ·exact q .non H2 none (s1.trans s2) .non (ci.acV hn)
 exact q (.ref p) H2 (some ((j:Int),n)) (s1.trans s2) (.tup trivial ep (by show 2<=1000000;decide) (.cons (.int _) (.cons (.int _) .nil))) (ci.acU hc hlb he)
end
noncomputable abbrev nW:Stmt:=inClass (top 14) 0
theorem WD:bx ["self","row"] ["self","row"] (aj nW):=⟨rfl,rfl,rfl,ψ,rfl,ψ,ψ⟩
noncomputable abbrev N0_:List Str:=["self","row"]
theorem Hi:NM_ N0_ nW 0 "self" := .of ψ
theorem Hh:NM_ N0_ nW 1 "row" := .of ψ
theorem Va:GI_ nW "CaseError" := by decide +kernel
noncomputable abbrev KQ:List Str:=["row","number"]
noncomputable abbrev pI:Stmt:=top 18
theorem Wz:bx KQ ["row","number"] (aj pI):=⟨rfl,rfl,rfl,ψ,rfl,ψ,ψ⟩
theorem iV:Nm KQ (aj pI) 0 "row" := .of ψ
theorem u5:Nm KQ (aj pI) 1 "number" := .of ψ
theorem Y8:Bn "holds" := ⟨ψ,ψ⟩
noncomputable abbrev jq:List Str:=["rows","at","number","row","ends"]
noncomputable abbrev cI:Stmt:=top 19
theorem pG:bx jq ["rows","at","number"] (aj cI):=⟨rfl,rfl,rfl,ψ,rfl,ψ,ψ⟩
theorem Fg:Nm jq (aj cI) 0 "rows" := .of ψ
theorem ou:Nm jq (aj cI) 1 "at" := .of ψ
theorem oh:Nm jq (aj cI) 2 "number" := .of ψ
theorem fC:Nm jq (aj cI) 3 "row" := .of ψ
theorem jQ:Nm jq (aj cI) 4 "ends" := .of ψ
theorem vD:GI_ cI "Beyond" := by decide +kernel
theorem vC:GI_ cI "ends_of" := by decide +kernel
theorem wQ:GI_ cI "holds" := by decide +kernel
theorem Ik:Bn "row_behind" := ⟨ψ,ψ⟩
section
variable {P:AW}{w:BB}{K:AD}{mg:Str->Option An}{base:Heap}{f:Addr}{fd:Co}{bs:List Str}{C D N:Addr}
theorem Ub (XC:rK K C D N f) (XD:XBase K D) (hD:mg "CaseError" = some (.ref D)) (hno:CY K (.ref C) "row" = some none) (F:Fun K "__init__" "Beyond.__init__" nW f fd):cQ P w K mg base CX0 1 f fd ["self","row"] (yH C "row"):=by
 refine F.okq WD (fun vs H Q E h=>?_) (fun cdv A outer s H vs Q E hr h=>?_)
 ·obtain⟨a,j,rfl,_⟩:=h;rfl
 obtain⟨a,j,rfl,hb,ha,q⟩:=h;refine⟨_,(aD (fB (S7 XC XD Va hD (ak (Od Hi) (ak (Oe (Td δ (aas (Od Hh).h (Td δ aar)))) aB)))) (aJ (W7 XC (Od Hi) (Od Hh)))),?_⟩;push_cast [tBI,RM];exact⟨hb,fun x=>⟨a,_,⟨rfl,rfl⟩,(by show 1<=1000;decide),⟨none,ha⟩,ha,hno,q⟩⟩
theorem ok_holds (hB:∀x:Str,x∈BLs->mg x=none) (F:Fun K "holds" "holds" pI f fd):cQ P w K mg base CX0 1 f fd ["row","number"] Lg:=by
 refine F.okq Wz (fun vs H Q E h=>?_) (fun cdv A outer s H vs Q E hr h=>?_)
 ·obtain⟨x,c,n,rfl,_⟩:=h;rfl
 obtain⟨x,c,n,rfl,⟨a,g,rfl,e,eg⟩,hp,ht,hm,q⟩:=h;refine⟨_,(aD (bR (aW (b7 hr.bH) (aG aP (ao iV) aq (fun _ _=>rfl)) bB (aU _)) (aJ (aV (pN (b7 hr.bH) (ao u5) (aG aP (ao iV) aq (fun _ _=>rfl)) (aU _)))) bC)
  (aD (bR (aW (b7 hr.bH) (aG aP (ao iV) aq (fun _ _=>rfl)) bB (aU _)) (aJ (aV (S6 xG xG (aG aP (ao iV) aq (fun _ _=>rfl)) (ao u5) (aG aP (ao iV) aq (fun _ _=>rfl))))) bC)
  (aD (bR (aW (b7 hr.bH) (aG aP (ao iV) aq (fun _ _=>rfl)) bB (aU _)) (aJ (aV (pN mX (ao u5) (aG aP (ao iV) aq (fun _ _=>rfl)) (aU _)))) bC)
  (aJ (aV (pN (b7 hr.bH) (aN T4 (aN TY (aG aP (ao iV) aq (fun _ _=>rfl)) (aN cU (ao u5) (aG aP (ao iV) aq (fun _ _=>rfl)))) aq) aq (aU _))))))),?_⟩
 cases c with
 | one a t=>push_cast [e,gB,rdW];exact q
 | rng a b t=>
  push_cast [e,gB,rdW];replace q:Q (.bl (decide (a<=n)&&decide (n<=b))) H:=q;split
  ·rename_i c1;rw[decide_eq_true c1,F4] at q;exact q
  rename_i c1;rw[decide_eq_false c1,Bool.false_and] at q;exact q
 | low a t=>push_cast [e,gB,rdW];exact q
 | msk lo wd bits t=>
  have h0:=hm _ _ _ _ rfl;push_cast [e,gB,rdW];exact⟨h0,q⟩
 | tab lo gs=>cases ht
 | pik l=>cases hp
theorem JC (hB:∀x:Str,x∈BLs->mg x=none) (XBeyond:aby P w K mg base "Beyond" C D 1 ["self","row"] (yH C "row")) (CEndsOf:Cal P w K mg base "ends_of" 1 ["row"] Ji) (CHolds:Cal P w K mg base "holds" 1 ["row","number"] Lg) (F:Fun K "row_behind" "row_behind" cI f fd):cQ P w K mg base (CX1 P w) 3 f fd ["rows","at","number"] (Cu C):=by
 refine F.ab6 pG (fun vs H Q E h=>?_) (fun cdv A outer s H vs Q E hr h=>?_)
 ·obtain⟨l,ok,cs,j,n,c,rfl,_⟩:=h;rfl
 obtain⟨l,ok,cs,j,n,c,rfl,tr,rows,hj,hc,hp,q,qx⟩:=h;refine⟨_,(aD (bG fC pG.nd (aG aP (ao Fg) (ao ou) (fun _ _=>rfl)) rfl (.inl rfl))
  (aD (bG jQ pG.nd (bF CEndsOf (hr.mono δ) vC Im (ak (ao fC) aB rfl) rfl rfl) rfl (.inl rfl))
  (aD (bR (vX (kE (aW uR (ao jQ) jH (aU _)) (jx (Jr (Sx xG xG (aG aP (ao jQ) aq (fun _ _=>rfl)) (ao oh) (aG aP (ao jQ) aq (fun _ _=>rfl))))))) (aJ (Sy XBeyond (hr.mono δ) vD rfl acL (ak (ao ou) aB rfl))) bC)
  (aD (bR (aW (b7 hr.bH) (aG aP (ao fC) aq (fun _ _=>rfl)) bB (aU _)) (aJ (aV (aG aP (aG aP (ao fC) aq (fun _ _=>rfl)) (aN cU (ao oh) (aG aP (ao fC) aq (fun _ _=>rfl))) (fun _ _=>rfl)))) bC)
  (aD (bR (Ep (bF CHolds (hr.mono δ) wQ Y8 (ak (ao fC) (ak (ao oh) aB rfl) rfl) rfl rfl) (fun _=>rfl)) (aJ (aV (aG aP (ao fC) (jA fP aq) (fun _ _=>rfl)))) bC)
  (aJ (aV (aN aZ (ao ou) aq)))))))),?_⟩
 cases hst:cF c j n with
 | some t=>
  replace q:=q t hst;cases tr with
  | lst o el zl tsl=>
   rename_i xs;obtain⟨x,hx,rx⟩:=tsl.row hc;have hat:=bJ hx;refine aM fun k hk=>?_;push_cast [el,hat];subst hk;refine aM fun k hk=>?_;push_cast;have rest:∀(v:V) H1,Same H H1->(sJ c=none->v=.non)->(∀lo hi,sJ c=some (lo,hi)->∃p,v=.ref p/\H1 p=some (.tup [.int lo,.int hi]))->k [some (.ref l),some (.int (j:Int)),some (.int n),some x,some v] H1:=by
    intro v H1 s1 hv1 hv2;subst hk;obtain⟨a,g,rfl,e,eg⟩:=rx;have e1:=s1 _ _ e;have rx1:qH H1 (.ref a) c:=⟨a,g,rfl,e1,fun lo gs hh=>s1 _ _ (eg lo gs hh)⟩;refine aM fun k hk=>?_;cases c with
    | one a' t'=>
     have hv:=hv1 rfl;subst hv;push_cast;subst hk;refine aM fun k hk=>?_;push_cast [e1,gB,rdW];subst hk;refine aM fun k hk=>?_;push_cast;refine⟨.ref a,_,n,rfl,rx1,rfl,rfl,fun _ _ _ _ h=>(by cases h),?_⟩;push_cast;replace hst:some (if n=a' then t' else (j:Int)+1)=some t:=hst;cases hh:Ah (.one a' t') n with
     | true=>
      rw[if_pos (of_decide_eq_true hh)] at hst;cases hst;rw[if_pos rfl];push_cast [e1,gB];exact q _ s1
     | false=>
      rw[if_neg (of_decide_eq_false hh)] at hst;cases hst;rw[if_neg δ];subst hk;push_cast;exact q _ s1
    | rng a' b' t'=>
     have hv:=hv1 rfl;subst hv;push_cast;subst hk;refine aM fun k hk=>?_;push_cast [e1,gB,rdW];subst hk;refine aM fun k hk=>?_;push_cast;refine⟨.ref a,_,n,rfl,rx1,rfl,rfl,fun _ _ _ _ h=>(by cases h),?_⟩;push_cast;replace hst:some (if a'<=n/\n<=b' then t' else (j:Int)+1)=some t:=hst;cases hh:Ah (.rng a' b' t') n with
     | true=>
      have h2:(decide (a'<=n)&&decide (n<=b'))=true:=hh;rw[Cc,decide_eq_true_eq,decide_eq_true_eq] at h2;rw[if_pos h2] at hst;cases hst;rw[if_pos rfl];push_cast [e1,gB];exact q _ s1
     | false=>
      have h2:¬(a'<=n/\n<=b'):=fun z=>by
       have h3:(decide (a'<=n)&&decide (n<=b'))=false:=hh;rw[decide_eq_true z.1,decide_eq_true z.2] at h3;cases h3
      rw[if_neg h2] at hst;cases hst;rw[if_neg δ];subst hk;push_cast;exact q _ s1
    | low a' t'=>
     have hv:=hv1 rfl;subst hv;push_cast;subst hk;refine aM fun k hk=>?_;push_cast [e1,gB,rdW];subst hk;refine aM fun k hk=>?_;push_cast;refine⟨.ref a,_,n,rfl,rx1,rfl,rfl,fun _ _ _ _ h=>(by cases h),?_⟩;push_cast;replace hst:some (if n<a' then t' else (j:Int)+1)=some t:=hst;cases hh:Ah (.low a' t') n with
     | true=>
      rw[if_pos (of_decide_eq_true hh)] at hst;cases hst;rw[if_pos rfl];push_cast [e1,gB];exact q _ s1
     | false=>
      rw[if_neg (of_decide_eq_false hh)] at hst;cases hst;rw[if_neg δ];subst hk;push_cast;exact q _ s1
    | msk lo wd bits t'=>
     obtain⟨pe,rfl,ee⟩:=hv2 _ _ rfl;replace hst:(if 0<=n-lo/\n-lo<wd then some (if bitAt bits (n-lo)=true then t' else (j:Int)+1) else none)=some t:=hst;have hin:0<=n-lo/\n-lo<wd:=by
      cases Decidable.em (0<=n-lo/\n-lo<wd) with
      | inl z=>exact z
      | inr z=>rw[if_neg z] at hst;cases hst
     rw[if_pos hin] at hst;push_cast [ee];rw[if_pos (show lo<=n by omega),decide_eq_true (show n<=lo+wd-1 by omega),EU,if_neg δ];subst hk;refine aM fun k hk=>?_;push_cast [e1,gB,rdW];subst hk;refine aM fun k hk=>?_;push_cast;refine⟨.ref a,_,n,rfl,rx1,rfl,rfl,fun _ _ _ _ h=>(by cases h;exact hin.1),?_⟩;push_cast;cases hh:Ah (.msk lo wd bits t') n with
     | true=>
      rw[if_pos (show bitAt bits (n-lo)=true from hh)] at hst;cases hst;rw[if_pos rfl];push_cast [e1,gB];exact q _ s1
     | false=>
      rw[if_neg (by rw[show bitAt bits (n-lo)=false from hh];decide)] at hst;cases hst;rw[if_neg δ];subst hk;push_cast;exact q _ s1
    | tab lo gs=>
     obtain⟨pe,rfl,ee⟩:=hv2 _ _ rfl;have eg1:=s1 _ _ (eg _ _ rfl);replace hst:(if 0<=n-lo/\n-lo<gs.length then gs[(n-lo).toNat]? else none)=some t:=hst;have hin:0<=n-lo/\n-lo<gs.length:=by
      cases Decidable.em (0<=n-lo/\n-lo<gs.length) with
      | inl z=>exact z
      | inr z=>rw[if_neg z] at hst;cases hst
     rw[if_pos hin] at hst;have hat2:atI (gs.map V.int) (n-lo)=some (V.int t):=by
      have h3:(gs.map V.int)[(n-lo).toNat]?=some (V.int t):=by rw[A4,hst];rfl
      have h4:=bJ h3;rw[show(((n-lo).toNat:Nat):Int)=n-lo by omega] at h4;exact h4
     push_cast [ee];rw[if_pos (show lo<=n by omega),decide_eq_true (show n<=lo+gs.length-1 by omega),EU,if_neg δ];subst hk;refine aM fun k hk=>?_;push_cast [e1,gB,rdW,eg1,hat2];exact q _ s1
    | pik l=>cases hp
   refine⟨x,c,rfl,rx,fun hn=>?_,fun lo hi hn p hp=>?_⟩
   ·exact rest .non H (Same.refl _) (fun _=>rfl) (fun lo hi z=>by rw[hn] at z;cases z)
   exact rest (.ref p) _ (aA hp) (fun z=>by rw[hn] at z;cases z) (fun lo' hi' z=>by rw[hn] at z;cases z;exact⟨p,rfl,au⟩)
 | none=>
  replace qx:=qx hst;cases tr with
  | lst o el zl tsl=>
   rename_i xs;obtain⟨x,hx,rx⟩:=tsl.row hc;have hat:=bJ hx;refine aM fun k hk=>?_;push_cast [el,hat];subst hk;refine aM fun k hk=>?_;push_cast;have rest:∀(v:V) H1,Same H H1->(sJ c=none->v=.non)->(∀lo hi,sJ c=some (lo,hi)->∃p,v=.ref p/\H1 p=some (.tup [.int lo,.int hi]))->k [some (.ref l),some (.int (j:Int)),some (.int n),some x,some v] H1:=by
    intro v H1 s1 hv1 hv2;subst hk;obtain⟨a,g,rfl,e,eg⟩:=rx;have e1:=s1 _ _ e;refine aM fun k hk=>?_;cases c with
    | one a' t'=>cases hst
    | rng a' b' t'=>cases hst
    | low a' t'=>cases hst
    | pik l=>cases hp
    | msk lo wd bits t'=>
     obtain⟨pe,rfl,ee⟩:=hv2 _ _ rfl;push_cast [ee,Ei];have hin:¬(0<=n-lo/\n-lo<wd):=fun z=>by
      replace hst:(if 0<=n-lo/\n-lo<wd then some (if bitAt bits (n-lo)=true then t' else (j:Int)+1) else none)=none:=hst;rw[if_pos z] at hst;cases hst
     have go:=zb (E:=E) (C:=C) (fld := "row") (j:=(j:Int)) ω s1 qx;split
     ·rename_i c1;rw[decide_eq_false (show ¬n<=lo+wd-1 by omega),C1,if_pos rfl];exact go
     exact go
    | tab lo gs=>
     obtain⟨pe,rfl,ee⟩:=hv2 _ _ rfl;push_cast [ee,Ei];have hin:¬(0<=n-lo/\n-lo<gs.length):=fun z=>by
      replace hst:(if 0<=n-lo/\n-lo<gs.length then gs[(n-lo).toNat]? else none)=none:=hst;rw[if_pos z,G2] at hst;omega
     have go:=zb (E:=E) (C:=C) (fld := "row") (j:=(j:Int)) ω s1 qx;split
     ·rename_i c1;rw[decide_eq_false (show ¬n<=lo+gs.length-1 by omega),C1,if_pos rfl];exact go
     exact go
   refine⟨x,c,rfl,rx,fun hn=>?_,fun lo hi hn p hp=>?_⟩
   ·exact rest .non H (Same.refl _) (fun _=>rfl) (fun lo hi z=>by rw[hn] at z;cases z)
   exact rest (.ref p) _ (aA hp) (fun z=>by rw[hn] at z;cases z) (fun lo' hi' z=>by rw[hn] at z;cases z;exact⟨p,rfl,au⟩)
end
noncomputable abbrev V9:List Str:=["rows","number","at","done"]
noncomputable abbrev yV:Stmt:=top 20
theorem Lp:bx V9 ["rows","number"] (aj yV):=⟨rfl,rfl,rfl,ψ,rfl,ψ,ψ⟩
theorem JR:Nm V9 (aj yV) 0 "rows" := .of ψ
theorem aaS:Nm V9 (aj yV) 1 "number" := .of ψ
theorem tE:Nm V9 (aj yV) 2 "at" := .of ψ
theorem JQ:Nm V9 (aj yV) 3 "done" := .of ψ
theorem Am:GI_ yV "row_behind" := by decide +kernel
theorem acr:Bn "run" := ⟨ψ,ψ⟩
section
variable {P:AW}{w:BB}{K:AD}{mg:Str->Option An}{base:Heap}{f:Addr}{fd:Co}{bs:List Str}{C:Addr}
theorem aaN (hB:∀x:Str,x∈BLs->mg x=none) (CRowBehind:Wb P w K mg base "row_behind" 3 ["rows","at","number"] (Cu C)) (F:Fun K "run" "run" yV f fd):cQ P w K mg base (CX1 P w) 4 f fd ["rows","number"] (Rv C):=by
 refine F.ab6 Lp (fun vs H Q E h=>?_) (fun cdv A outer s H vs Q E hr h=>?_)
 ·obtain⟨l,ok,cs,n,rfl,_⟩:=h;rfl
 obtain⟨l,ok,cs,n,rfl,tr,rows,q,qx⟩:=h;refine⟨_,(aD (bG tE Lp.nd aq rfl (.inl rfl))
  (aD (bG JQ Lp.nd (bZ (ak (ao tE) aB rfl)) rfl (.inl rfl))
  (aD (zc own1 (aW (v5 hr.bH) (aG aP (aG aP (ao JR) (ao tE) (fun _ _=>rfl)) aq (fun _ _=>rfl)) bB (aU _)) (aD (bG tE Lp.nd (S5 CRowBehind (hr.mono δ) Am Ik ab2 (ak (ao JR) (ak (ao tE) (ak (ao aaS) aB rfl) rfl) rfl) rfl rfl) rfl (.inl rfl))
  (aJ (fB (jP (ao JQ) (ao tE) rfl rfl rfl rfl rfl) rfl))))
  (aJ (aV (bK (ak (aG aP (aG aP (ao JR) (ao tE) (fun _ _=>rfl)) aq (fun _ _=>rfl)) (ak (ao JQ) aB rfl) rfl))))))),?_⟩
 have tr0:=tr;cases tr with
 | lst o el zl tsl=>
  rename_i xs;have hxl:=tsl.length;rw[AI] at hxl;refine aM fun k hk=>?_;push_cast;subst hk;refine aM fun k hk=>?_;push_cast;refine⟨aQ δ,fun ld hld=>?_⟩;have s0:=aA (o:=HO.lst [V.int 0]) hld;have e0:upd H ld (HO.lst [V.int 0]) ld=_:=au;generalize upd H ld (HO.lst [V.int 0])=H0 at s0 e0 |-;subst hk;refine aM fun k hk=>?_;obtain⟨Pv,hPv⟩:∃Pv:L2.St->Hp->Prop,Pv=fun σ H'=>∃(pre:List Int)(j kf:Nat),Same H H'/\H' ld=some (.lst ((pre++[(j:Int)]).map V.int))/\pre.length<=j/\j<cs.length/\cs.length<=j+kf/\runOf cs n=((runC cs n kf j).1,pre++(runC cs n kf j).2)/\σ=[some (.ref l),some (.int n),some (.int (j:Int)),some (.ref ld)]:=⟨_,rfl⟩;refine Wf Pv (μRun cs.length) (by rw[hPv];exact⟨[],0,cs.length,s0,e0,A6 _,rows.1,ω,rfl,rfl⟩) ?_;intro σ H1 pv;rw[hPv] at pv;obtain⟨pre,j,kf,s1,e1,hpj,hj,hkf,hrun,rfl⟩:=pv;have hc:cs[j]?=some cs[j]:=AC hj;have el1:=s1 _ _ el;obtain⟨x,hx,rx⟩:=(tsl.same s1).row hc;have hat:=bJ hx;have rx':=rx;obtain⟨a,g,rfl,e,eg⟩:=rx;obtain⟨kf,rfl⟩:∃k',kf=k'+1:=⟨kf-1,ω⟩;generalize hcj:cs[j]=c at hc rx' e eg;cases hp:d7 c with
  | true=>
   cases c with
   | pik lb=>
    have hr0:=pK (n:=n) (k:=kf) (a:=(j:Int)) (l:=lb) (by rw[DD];exact hc);rw[hr0] at hrun;push_cast [el1,hat,e,gB,rdW];subst hk;push_cast [el1,hat,e,gB,rdW];refine⟨aQ δ,fun t ht=>?_⟩;have st:=aA (o:=HO.tup [V.int lb,V.ref ld]) ht;exact q lb (by rw[hrun]) t ld _ (s1.trans st) (s1.none ht) hld (aF e1 ht).symm au (by rw[hrun];exact st _ _ e1)
   | _=>cases hp
  | false=>
   push_cast [el1,hat,e];refine⟨_,yX c g,?_⟩;push_cast;rw[decide_eq_false (QD hp),C1,if_pos rfl];refine⟨fun σ' H'=>Pv σ' H'/\μRun cs.length σ'<cs.length-j,fun σ' H' h=>⟨_,h.2,rfl,h.1⟩,?_⟩;have hc':cs[((j:Nat):Int).toNat]?=some c:=by rw[DD];exact hc
   cases hst:cF c (j:Int) n with
   | none=>
    rw[yI hc' hp hst] at hrun;push_cast;refine⟨l,ok,cs,j,n,c,rfl,tr0.same s1,rows,ω,hc,hp,fun t z=>(by rw[hst] at z;cases z),fun _ dx H2 s2 hdx=>?_⟩;exact qx (by rw[hrun]) pre (j:Int) dx H2 (s1.trans s2) (by rw[hrun]) hdx
   | some t=>
    have hb:=mU rows hc hst;obtain⟨tn,rfl⟩:=EH (show 0<=t by omega);rw[uM hc' hp hst] at hrun;refine⟨l,ok,cs,j,n,c,rfl,tr0.same s1,rows,ω,hc,hp,fun t z H2 s2=>?_,fun z=>by rw[hst] at z;cases z⟩;rw[hst] at z;cases z;have e2:=s2 _ _ e1;push_cast [e2];refine⟨DH (pl9 hpj hj (by rw[<- hxl];exact zl)) δ,?_,by show cs.length-((tn:Nat):Int).toNat<cs.length-j;omega⟩;rw[hPv];refine⟨pre++[(j:Int)],tn,kf,dR (s1.trans s2) hld,?_,by rw[AR,A9];omega,ω,ω,?_,rfl⟩
    ·rw[au,BS (l₁:=pre++[(j:Int)])];rfl
    rw[hrun,Da];rfl
end
noncomputable abbrev qJ:List Str:=["_law_rows","_law_number","_law_at","error"]
noncomputable abbrev fH:Stmt:=top 39
theorem qN:bx qJ q9_ (aj fH):=⟨rfl,rfl,rfl,ψ,rfl,ψ,ψ⟩
theorem JM:Nm qJ (aj fH) 0 "_law_rows" := .of ψ
theorem JL:Nm qJ (aj fH) 1 "_law_number" := .of ψ
theorem sX:Nm qJ (aj fH) 2 "_law_at" := .of ψ
theorem JK:Nm qJ (aj fH) 3 "error" := .of ψ
theorem yp:GI_ fH "Beyond" := by decide +kernel
theorem Fx:GI_ fH "run" := by decide +kernel
theorem DW:Bn "_law_beyond" := ⟨ψ,ψ⟩
noncomputable def ZM:Sp:=fun vs H Q _=>∃(l:Addr)(ok:Addr->Prop)(cs:List RowC)(n:Int),vs=[.ref l,.int n]/\aK ok H (.ref l) (.list (cs.map gH))/\fj cs /\
 (∀lab,(runOf cs n).1=some lab->∀H',Same H H'->Q .non H')/\(∀j:Nat,Bad cs n j->∀H',Same H H'->Q (.int (j:Int)) H')
section
variable {P:AW}{w:BB}{K:AD}{mg:Str->Option An}{base:Heap}{f aBeyond D N fI:Addr}{fd:Co}{bs:List Str}
theorem ab7 (hB:∀x:Str,x∈BLs->mg x=none) (XC:rK K aBeyond D N fI) (hno:CY K (.ref aBeyond) "row" = some none) (cgBeyond:mg "Beyond" = some (.ref aBeyond)) (CRun:Wb P w K mg base "run" 4 ["rows","number"] (Rv aBeyond)) (F:Fun K "_law_beyond" "_law_beyond" fH f fd):cQ P w K mg base CX0 5 f fd q9_ ZM:=by
 refine F.okq qN (fun vs H Q E h=>?_) (fun cdv A outer s H vs Q E hr h=>?_)
 ·obtain⟨l,ok,cs,n,rfl,_⟩:=h;rfl
 obtain⟨l,ok,cs,n,rfl,tr,rows,q,qx⟩:=h;refine⟨_,(aD (bG sX qN.nd jH rfl (.inl rfl))
  (aD (W6 (i:=3) ⟨rfl,rfl⟩ qN.nd rfl rfl yp cgBeyond XC (fun E1 xe pins hpass=>(aJ (fB (S5 CRun (hr.mono δ) Fx acr hpass (ak (ao JM) (ak (ao JL) aB rfl) rfl) rfl rfl) rfl))) (fun x=>(aJ (bG sX qN.nd (Xa (K':=K) rfl XC (ao JK)) rfl (.inl rfl)))))
  (aJ (aV (ao sX))))),?_⟩
 refine aM fun k hk=>?_;push_cast;subst hk;refine aM fun k hk=>?_;push_cast [ZC];refine⟨l,ok,cs,n,rfl,tr,rows,fun lab hl t ld H1 s1 _ _ _ _ _=>?_,fun hn pre j dx H1 s1 hj hdx=>⟨rfl,fun x σ' hlen hxn=>?_⟩⟩
 ·subst hk;push_cast;exact q lab hl H1 s1
 have sx:=aA (o:=XR x aBeyond (some dx)) hxn;have ex:upd H1 x (XR x aBeyond (some dx)) x=_:=au;generalize upd H1 x (XR x aBeyond (some dx))=H2 at sx ex |-;obtain⟨a0,a1,a2,a3,rfl⟩:∃a0 a1 a2 a3,σ'=[a0,a1,a2,a3]:=by
  match σ',hlen with
  | [a0,a1,a2,a3],_=>exact⟨a0,a1,a2,a3,rfl⟩
 subst hk;obtain⟨i,hi⟩:=abu rows hn;have e:=(hi.run rows).2;rw[hj,IA] at e;obtain rfl:j=(i:Int):=AV e;push_cast [FQ,K7];refine⟨dx,ex,_,sx _ _ hdx,V.int (i:Int),rfl,hno,?_⟩;exact qx i hi _ (s1.trans sx)
end
noncomputable abbrev lX:List Str:=["_law_stretches_here","_law_low","_law_high","_law_some","_law_one","_law_other","_law_label"]
noncomputable abbrev dW:Stmt:=top 40
theorem j9:bx lX ["_law_stretches_here"] (aj dW):=⟨rfl,rfl,rfl,ψ,rfl,ψ,ψ⟩
theorem wg:Nm lX (aj dW) 0 "_law_stretches_here" := .of ψ
theorem CT:Nm lX (aj dW) 1 "_law_low" := .of ψ
theorem CQ:Nm lX (aj dW) 2 "_law_high" := .of ψ
theorem qQ:Nm lX (aj dW) 3 "_law_some" := .of ψ
theorem mZ:Nm lX (aj dW) 4 "_law_one" := .of ψ
theorem mY:Nm lX (aj dW) 5 "_law_other" := .of ψ
theorem O4:Nm lX (aj dW) 6 "_law_label" := .of ψ
theorem Fy:GI_ dW "list" := by decide +kernel
theorem Hw:GI_ dW "max" := by decide +kernel
theorem Hv:GI_ dW "min" := by decide +kernel
theorem BK:GI_ dW "range" := by decide +kernel
theorem VF:Bn "_law_asked" := ⟨ψ,ψ⟩
noncomputable def Lh:Sp:=fun vs H Q _=>∃(l:Addr)(ok:Addr->Prop)(ss:Sts),vs=[.ref l]/\aK ok H (.ref l) (.list (ss.map stD))/\eY ss/\0<ss.length/\ss.length<=60 /\
 ∀(r:Addr)(ns:List Int) H',Same H H'->H' r=some (.lst (ns.map V.int))->ns.length<=400->(∀n∈ns,(aL ss 0).1<=n/\n<=(aL ss (ss.length-1)).2.1)->Q (.ref r) H'
section
variable {P:AW}{w:BB}{K:AD}{mg:Str->Option An}{base:Heap}{f:Addr}{fd:Co}{bs:List Str}
theorem Ud (hB:∀x:Str,x∈BLs->mg x=none) (F:Fun K "_law_asked" "_law_asked" dW f fd):cQ P w K mg base CX0 1 f fd ["_law_stretches_here"] Lh:=by
 refine F.okq j9 (fun vs H Q E h=>?_) (fun cdv A outer s H vs Q E hr h=>?_)
 ·obtain⟨l,ok,ss,rfl,_⟩:=h;rfl
 obtain⟨l,ok,ss,rfl,tr,rs,h1,h60,q⟩:=h;refine⟨_,(aD (Js (i:=1) (j:=2) rfl j9.nd rfl rfl δ rfl rfl (ak (aG aP (aG aP (ao wg) aq (fun _ _=>rfl)) aq (fun _ _=>rfl)) (ak (aG aP (aG aP (ao wg) (jA fP aq) (fun _ _=>rfl)) aq (fun _ _=>rfl)) aB rfl) rfl) (by rfl))
  (aD (bR (aW mX (aN cU (ao CQ) (ao CT)) aq (aU _)) (aJ (aV (Eu rfl Fy (hB "list" vd) BK (hB "range" jC) (ak (ao CT) (ak (aN aZ (ao CQ) aq) aB rfl) rfl)))) bC)
  (aD (bG qQ j9.nd (bZ aB) rfl (.inl rfl))
  (aD (gY BU rfl (cO (ao wg)) (dO (n:=3) rfl (aR (bT mZ j9.nd (.inl rfl)) (aR (bT mY j9.nd (.inl rfl)) (aR (bT O4 j9.nd (.inl rfl)) cL rfl) rfl) rfl) rfl rfl)
  (aJ (bG qQ j9.nd (aN aZ (ao qQ) (bZ (ak (ao mZ) (ak (ao mY) (ak (dz (rD rfl) Hv (hB "min" wJ) boot_min wX (ak (ao mY) (ak (aN aZ (ao mZ) aq) aB rfl) rfl) rfl rfl) (ak (dz (jZ rfl) Hw (hB "max" tR) IY uf (ak (ao mZ) (ak (aN cU (ao mY) aq) aB rfl) rfl) rfl rfl) (ak (aN zq (aN aZ (ao mZ) (ao mY)) aq) aB rfl) rfl) rfl) rfl) rfl))) rfl (.inl rfl))) (fun _=>rfl))
  (aJ (aV (ao qQ))))))),?_⟩
 cases tr with
 | lst o el z tss=>
  rename_i xs;have hxl:=tss.length;rw[AI] at hxl;obtain⟨p0,x0,y0⟩:=tss.stN (k:=0) h1;obtain⟨p1,x1,y1⟩:=tss.stN (k:=ss.length-1) ω;replace x0:atI xs 0=some (.ref p0):=x0;have x1':=KC hxl h1 x1;obtain⟨lo,hlo⟩:∃lo,lo=(aL ss 0).1:=⟨_,rfl⟩;obtain⟨hi,hhi⟩:∃hi,hi=(aL ss (ss.length-1)).2.1:=⟨_,rfl⟩;rw[<- hlo,<- hhi] at q;rw[<- hlo] at y0;rw[<- hhi] at y1;have b0:=rs.bd 0 _ (eE h1);have b1:=rs.bd (ss.length-1) _ (eE ω);rw[<- hlo] at b0;rw[<- hhi] at b1;have mono:∀k,k<ss.length->lo<=(aL ss k).1/\(aL ss k).1<=(aL ss k).2.1/\(aL ss k).2.1<=hi:=fun k hk=>by
   rw[hlo,hhi];exact⟨(cX rs (DL k) hk).1,iG rs hk,(cX rs (show k<=ss.length-1 by omega) ω).2⟩
  have m0:=mono 0 h1;refine aM fun k hk=>?_;push_cast [el,x0,x1',y0,y1];subst hk;refine aM fun k hk=>?_;refine oY fun kt ke hkt hke=>?_;push_cast;by_cases c:hi-lo<300
  ·rw[if_pos c];subst hkt;push_cast;refine⟨⟨ω,ω,ω,ω⟩,aQ ω,fun r hr0=>?_⟩;refine q r ((AU (hi+1-lo).toNat).map fun(i:Nat)=>lo+(i:Int)) _ (aA hr0) (by rw[GH];exact au) (by rw[AI,Ee];omega) fun n hn=>?_;obtain⟨i,hi',rfl⟩:=DE.mp hn;have:=Fc.mp hi';omega
  rw[if_neg c];subst hke;push_cast;subst hk;refine aM fun k hk=>?_;push_cast;refine⟨aQ δ,fun r hr0=>?_⟩;have s1:=aA (o:=HO.lst []) hr0;have e1:upd H r (HO.lst []) r=some (HO.lst (([]:List Int).map V.int)):=au;have el1:=s1 _ _ el;generalize upd H r (HO.lst [])=H1 at s1 e1 el1 |-;subst hk;refine aM fun k hk=>?_;refine lF fun R hR=>?_;push_cast [nG,rB,el1,rA];obtain⟨Pv,hPv⟩:∃Pv:Nat->L2.St->Hp->Prop,Pv=fun(i:Nat) σ H'=>∃(r:Addr)(ns:List Int)(o4 o5 o6:Option V),Same H H'/\H' r=some (.lst (ns.map V.int))/\ns.length=5*i/\(∀n∈ns,lo<=n/\n<=hi)/\σ=[some (.ref l),some (.int lo),some (.int hi),some (.ref r),o4,o5,o6]:=⟨_,rfl⟩;refine Ay hR (xs:=xs) Pv (by rw[hPv];exact⟨r,[],_,_,_,s1,e1,rfl,fun n hn=>(nomatch hn),rfl⟩) ?_ ?_ ?_
  ·intro i σ H2 _ pv;rw[hPv] at pv;obtain⟨_,_,_,_,_,s2,_⟩:=pv;exact SqL.of (s2 _ _ el)
  ·intro i x σ H2 hx pv;rw[hPv] at pv;obtain⟨r2,ns,o4,o5,o6,s2,e2,hl2,hb2,rfl⟩:=pv;have hi1:i<ss.length:=by have:=(AG.mp hx).1;omega
   obtain⟨pi,xi,yi⟩:=tss.stN hi1;rw[bJ hx] at xi;cases xi;have mi:=mono i hi1;have bi:=rs.bd i _ (eE hi1);generalize (aL ss i).1=a at yi mi bi;generalize (aL ss i).2.1=b at yi mi bi;have yi2:=s2 _ _ yi;push_cast [yi2,e2];refine⟨δ,aQ δ,fun p hp=>?_⟩;obtain⟨ms,hms⟩:∃ms:List Int,ms=[a,b,if a+1<b then a+1 else b,if b-1>a then b-1 else a,(a+b)/2]:=⟨_,rfl⟩;have emv:ms.map V.int=[V.int a,V.int b,V.int (if a+1<b then a+1 else b),V.int (if b-1>a then b-1 else a),V.int ((a+b)/2)]:=by rw[hms];rfl
   rw[<- emv];have s3:=aA (o:=HO.lst (ms.map V.int)) hp;rw[s3 _ _ e2,V7];have lm:ms.length=5:=by rw[hms];rfl
   refine⟨aQ (by rw[AI,AI];omega),fun p2 hp2=>?_⟩;show Pv _ _ _;rw[hPv];refine⟨p2,ns++ms,_,_,_,(s2.trans s3).trans (aA hp2),by rw[BS];exact au,by rw[AR];omega,fun n hn=>?_,rfl⟩;rcases BC.mp hn with z|z
   ·exact hb2 n z
   rw[hms] at z;simp only[AO,BE,or_false] at z;rcases z with rfl|rfl|rfl|rfl|rfl
   ·omega
   ·omega
   ·split <;> omega
   ·split <;> omega
   omega
  intro σ H2 pv;rw[hPv] at pv;obtain⟨r2,ns,o4,o5,o6,s2,e2,hl2,hb2,rfl⟩:=pv;show k _ _;subst hk;push_cast;exact q r2 ns H2 s2 e2 ω hb2
end
noncomputable abbrev cB:List Str:=["_law_rows","_law_low","_law_high","_law_come","_law_sums","_law_row","_law_pairs","_law_wide"]
noncomputable abbrev bw:Stmt:=top 41
theorem eG:bx cB q2_ (aj bw):=⟨rfl,rfl,rfl,ψ,rfl,ψ,ψ⟩
theorem oX:Nm cB (aj bw) 0 "_law_rows" := .of ψ
theorem oW:Nm cB (aj bw) 1 "_law_low" := .of ψ
theorem oV:Nm cB (aj bw) 2 "_law_high" := .of ψ
theorem yg:Nm cB (aj bw) 3 "_law_come" := .of ψ
theorem jK:Nm cB (aj bw) 4 "_law_sums" := .of ψ
theorem cJ:Nm cB (aj bw) 5 "_law_row" := .of ψ
theorem fJ:Nm cB (aj bw) 6 "_law_pairs" := .of ψ
theorem oU:Nm cB (aj bw) 7 "_law_wide" := .of ψ
theorem qy:GI_ bw "come_to" := by decide +kernel
theorem vo:GI_ bw "len" := by decide +kernel
theorem vm:GI_ bw "sum" := by decide +kernel
theorem vh:GI_ bw "zip" := by decide +kernel
theorem Bf:Bn "_law_within_right" := ⟨ψ,ψ⟩
noncomputable abbrev dG:List Str:=["_law_rows","_law_low","_law_high","_law_outside","_law_some","_law_told","_law_found"]
noncomputable abbrev bA:Stmt:=top 42
theorem iI:bx dG q2_ (aj bA):=⟨rfl,rfl,rfl,ψ,rfl,ψ,ψ⟩
theorem Bx:Nm dG (aj bA) 0 "_law_rows" := .of ψ
theorem mG:Nm dG (aj bA) 1 "_law_low" := .of ψ
theorem mF:Nm dG (aj bA) 2 "_law_high" := .of ψ
theorem sE:Nm dG (aj bA) 3 "_law_outside" := .of ψ
theorem sy:Nm dG (aj bA) 4 "_law_some" := .of ψ
theorem mD:Nm dG (aj bA) 5 "_law_told" := .of ψ
theorem rZ:Nm dG (aj bA) 6 "_law_found" := .of ψ
theorem qz:GI_ bA "beyond_of" := by decide +kernel
theorem nH:GI_ bA "list" := by decide +kernel
theorem yo:GI_ bA "min" := by decide +kernel
theorem lU:GI_ bA "range" := by decide +kernel
theorem Gd:Bn "_law_ends_right" := ⟨ψ,ψ⟩
noncomputable def abH:Sp:=fun vs H Q _=>∃(l:Addr)(ok:Addr->Prop)(cs:List RowC)(low high:Int),vs=[.ref l,.int low,.int high]/\aK ok H (.ref l) (.list (cs.map gH))/\fj cs/\(∀c,c∈cs->xu c/\bdC c)/\low<=high/\Qy cs low high/\(∀n,low<=n->n<=high->∃lab,(runOf cs n).1=some lab) /\
 ∀H',Same H H'->Q (.bl true) H'
noncomputable def abI:Sp:=fun vs H Q _=>∃(l:Addr)(ok:Addr->Prop)(cs:List RowC)(low high:Int),vs=[.ref l,.int low,.int high]/\aK ok H (.ref l) (.list (cs.map gH))/\fj cs/\(∀c,c∈cs->xu c/\bdC c)/\low<=high/\Qy cs (low-5) (high+5)/\(∀n,low<=n->n<=high->∃lab,(runOf cs n).1=some lab)/\-(2^60)<=low/\high<2^60 /\
 ∀H',Same H H'->Q (.bl true) H'
section
variable {P:AW}{w:BB}{K:AD}{mg:Str->Option An}{base:Heap}{f:Addr}{fd:Co}{bs:List Str}
theorem CJ (hB:∀x:Str,x∈BLs->mg x=none) (CComeTo:Cal P w K mg base "come_to" 3 q3_ Jj) (F:Fun K "_law_within_right" "_law_within_right" bw f fd):cQ P w K mg base CX0 4 f fd q2_ abH:=by
 refine F.okq eG (fun vs H Q E h=>?_) (fun cdv A outer s H vs Q E hr h=>?_)
 ·obtain⟨l,ok,cs,low,high,rfl,_⟩:=h;rfl
 obtain⟨l,ok,cs,low,high,rfl,tr,rows,hcs,hlh,few,hrun,q⟩:=h;refine⟨_,(aD (Js (i:=3) (j:=4) rfl eG.nd rfl rfl δ rfl rfl (ak (bF CComeTo (hr.mono δ) qy Io (ak (ao oX) (ak (ao oW) (ak (ao oV) aB rfl) rfl) rfl) rfl rfl) (ak aq aB rfl) rfl) (by rfl))
  (aD (gY BU rfl (aac vh (hB "zip" aaV) (ak (ao oX) (ak (ao yg) aB rfl) rfl) rfl rfl) (dO (n:=2) rfl (aR (bT cJ eG.nd (.inl rfl)) (aR (bT fJ eG.nd (.inl rfl)) cL rfl) rfl) rfl rfl)
  (aJ (bR (aW (b7 hr.bH) (aG aP (ao cJ) aq (fun _ _=>rfl)) bB (aU _)) (aJ (bG jK eG.nd (aN aZ (ao jK) (dz (Qf rfl) vm (hB "sum" aaW) boot_sum abo (ak (lR (NX:=cB) (kX:=(aj bw).names) ["_law_one","_law_other"] [none,none] rfl rfl ⟨rfl,ψ,ψ,ψ,ψ⟩ rfl (cO (ao fJ)) (fun _ _ _ _ _=>(dO (n:=2) rfl (aR (dM 0 (show CL (["_law_one","_law_other"]:List Str) from by decide +kernel) rfl (EF rfl)) (aR (dM 1 (show CL (["_law_one","_law_other"]:List Str) from by decide +kernel) rfl (EF rfl)) cL rfl) rfl) rfl rfl)) (fun _ _ _ _ _=>pP) (fun _ _ _ _ _=>(aN aZ (aN cU (b8 1) (b8 0)) aq))) aB rfl) rfl rfl)) rfl (.inl rfl))) (aJ (bR (vX (kE (aW aaH (aG aP (ao cJ) aq (fun _ _=>rfl)) (bK (ak bB (ak bB aB rfl) rfl)) (by with_unfolding_all rfl)) (jx (aW (Jz hr.bH) (ao fJ) (bZ aB) (aU _))))) (aD (bG oU eG.nd (GJ (aW (b7 hr.bH) (aG aP (ao cJ) aq (fun _ _=>rfl)) bB (aU _)) (aG aP (ao cJ) aq (fun _ _=>rfl)) (dz dJ vo (hB "len" iW) CD je (ak (aG aP (ao cJ) aq (fun _ _=>rfl)) aB rfl) rfl rfl)) rfl (.inl rfl))
  (aJ (bR (vX (Sw (aW mX (aG aP (aG aP (ao fJ) aq (fun _ _=>rfl)) aq (fun _ _=>rfl)) (aG aP (ao cJ) aq (fun _ _=>rfl)) (aU _)) (Jq (aW T3 (aG aP (aG aP (ao fJ) (jA fP aq) (fun _ _=>rfl)) aq (fun _ _=>rfl)) (aN aZ (aG aP (ao cJ) aq (fun _ _=>rfl)) (ao oU)) (aU _))))) (aJ (aV GK)) bC))) bC)))) (fun _=>rfl))
  (aJ (aV (pN (b7 hr.bH) (ao jK) (aN aZ (aN cU (ao oV) (ao oW)) aq) (aU _)))))),?_⟩
 refine aM fun k hk=>?_;push_cast;refine⟨l,ok,cs,low,high,rfl,tr,rows,hcs,hlh,few,fun r ps X H1 s1 hr1 hps ra hpl ci=>?_⟩;push_cast;subst hk;have tr1:=tr.same s1;cases tr1 with
 | lst o el z tss=>
  rename_i xs;have hxl:=tss.length;rw[AI] at hxl;have er:=ra.e;refine aM fun k hk=>?_;refine lF fun R hR=>?_;push_cast [abg];refine⟨l,r,⟨rfl,rfl⟩,⟨_,SqL.of el⟩,⟨_,SqL.of er⟩,?_⟩;obtain⟨Pv,hPv⟩:∃Pv:Nat->L2.St->Hp->Prop,Pv=fun(j:Nat) σ H'=>∃(o5 o6 o7:Option V),Same H1 H'/\σ=[some (.ref l),some (.int low),some (.int high),some (.ref r),some (.int (sumPk cs X j)),o5,o6,o7]:=⟨_,rfl⟩;refine Ko hR xs.length Pv (by rw[hPv];exact⟨_,_,_,Same.refl _,rfl⟩) ?_ ?_ ?_ ?_
  ·intro j σ H2 hj pv;rw[hPv] at pv;obtain⟨_,_,_,s2,_⟩:=pv;exact⟨_,_,_,_,SqL.of (s2 _ _ el),SqL.of (s2 _ _ er),AC hj,AC (by rw[AI];omega)⟩
  ·intro σ H2 pv;rw[hPv] at pv;obtain⟨_,_,_,s2,_⟩:=pv;exact⟨_,_,SqL.of (s2 _ _ el),SqL.of (s2 _ _ er),.inl (EG (A6 _))⟩
  ·intro j σ H2 y H3 hj pv yl;rw[hPv] at pv;obtain⟨o5,o6,o7,s2,rfl⟩:=pv;obtain⟨q1,x1,x2,rfl,hq1,rfl,hx1,hx2⟩:=yl;replace hx1:=hx1 _ (SqL.of (s2 _ _ el));replace hx2:=hx2 _ (SqL.of (s2 _ _ er));obtain⟨c,hc⟩:∃c,cs[j]?=some c:=⟨_,AC ω⟩;obtain⟨x,hx,a,g,rfl,ea,eg⟩:=tss.row hc;rw[hx] at hx1;cases hx1;obtain⟨pj,hpj,rfl⟩:∃pj,ps[j]?=some pj/\x2=.ref pj:=by
    rw[A4] at hx2;obtain⟨pj,h1,h2⟩:=Cn.mp hx2;exact⟨pj,h1,h2.symm⟩
   obtain⟨us,eu,tu⟩:=ra.el j pj hpj;have s3:=s2.trans (aA (o:=HO.tup [V.ref a,V.ref pj]) hq1);have eq3:upd H2 q1 (HO.tup [V.ref a,V.ref pj]) q1=some (HO.tup [V.ref a,V.ref pj]):=au;generalize upd H2 q1 (HO.tup [V.ref a,V.ref pj])=H3 at s3 eq3 |-;have ea3:=s3 _ _ ea;have eu3:=s3 _ _ eu;have tu3:=tu.same s3;have go:sumPk cs X (j+1)=sumPk cs X j->∀H' (o:Option V),Same H3 H'->Pv (j+1) [some (.ref l),some (.int low),some (.int high),some (.ref r),some (.int (sumPk cs X j)),some (.ref a),some (.ref pj),o] H':=fun e H' o sH=>by
    rw[hPv];exact⟨_,_,_,s3.trans sH,by rw[e]⟩
   have ea4:=ea3;rw[ZW] at ea4;refine acj eq3 ?_;simp only[KF,KE];refine oY fun kt ke hkt hke=>?_;push_cast [ea4];by_cases hpk:wC c = "pick"
   ·rw[if_pos hpk];obtain⟨lb,rfl⟩:∃lb,c=.pik lb:=by
     have:=(K1 c).mp hpk;cases c with
     | pik lb=>exact⟨lb,rfl⟩
     | _=>cases this
    subst hkt;push_cast;refine gC fun R2 hR2=>?_;push_cast [nG,rB,eu3,rA];have tul:=tu3.length;have xl:(X j).length<64:=ci.YK few j;obtain⟨Pc,hPc⟩:∃Pv:Nat->List V->L2.St->Hp->Prop,Pv=fun(i:Nat) acc τ H'=>∃(o0 o1:Option V),H'=H3/\acc=(((X j).take i).map fun s=>s.2-s.1+1).map V.int/\τ=[o0,o1]:=⟨_,rfl⟩;refine uc hR2 (xs:=us) (aQ ω) Pc (by rw[hPc];exact⟨_,_,rfl,rfl,rfl⟩) ?_ ?_ ?_ ?_
    ·intro i acc τ H6 pc;rw[hPc] at pc;obtain⟨o0,o1,rfl,rfl,rfl⟩:=pc;rw[AI,AI,E2];omega
    ·intro i acc τ H6 pc;rw[hPc] at pc;obtain⟨o0,o1,rfl,rfl,rfl⟩:=pc;exact SqL.of eu3
    ·intro i x acc τ H6 hx pc;rw[hPc] at pc;obtain⟨o0,o1,rfl,rfl,rfl⟩:=pc;obtain⟨pp,sp,rfl,hsp,ep⟩:=tu3.got hx;replace ep:H6 pp=some (.tup [.int sp.1,.int sp.2]):=ep;push_cast [ep];rw[hPc];refine⟨_,_,rfl,?_,rfl⟩;rw[take_snoc hsp,BS,BS];rfl
    intro acc τ H6 d pc hd;rw[hPc] at pc;obtain⟨o0,o1,rfl,rfl,rfl⟩:=pc;rw[tul,Fa];have s6:=aA (o:=HO.lst (((X j).map fun s=>s.2-s.1+1).map V.int)) hd;have e6:upd H6 d (HO.lst (((X j).map fun s=>s.2-s.1+1).map V.int)) d=_:=au;generalize upd H6 d (HO.lst (((X j).map fun s=>s.2-s.1+1).map V.int))=H7 at s6 e6 |-;push_cast [e6];refine⟨_,rfl,?_⟩;rw[hPv];exact⟨_,_,_,s3.trans s6,by rw[NT hc];rfl⟩
   rw[if_neg hpk];have hp0:d7 c=false:=by
    cases h:d7 c with
    | false=>rfl
    | true=>exact absurd ((K1 c).mpr h) hpk
   have hgo:=go (Rp hc hp0);subst hke;refine oY fun kt2 ke2 hkt2 hke2=>?_;push_cast [ea4];refine⟨aQ δ,fun p hp=>⟨rfl,rfl,?_⟩⟩;have s4:=aA (o:=HO.tup [V.str "mask",V.str "table"]) hp;generalize upd H3 p (HO.tup [V.str "mask",V.str "table"])=H4 at s4 |-;have keK:∀H',Same H3 H'->ke2 [some (.ref l),some (.int low),some (.int high),some (.ref r),some (.int (sumPk cs X j)),some (.ref a),some (.ref pj),o7] H':=fun H' sH=>by
    subst hke2;push_cast;exact hgo H' _ sH
   cases hin:inV (V.str (wC c)) [V.str "mask",V.str "table"] with
   | false=>
    rw[if_neg δ];exact keK _ s4
   | true=>
    rw[if_pos rfl];refine⟨DL _,fun p2 hp2=>?_⟩;have s5:=s4.trans (aA (o:=HO.lst []) hp2);refine⟨pj,p2,us,rfl,rfl,s5 _ _ eu3,au,_,rfl,?_⟩;generalize upd H4 p2 (HO.lst [])=H5 at s5 |-;by_cases hx0:X j=[]
    ·rw[hx0] at tu3;cases tu3;exact keK _ s5
    have hue:us.isEmpty=false:=by
     have:=tu3.length;cases us with
     | nil=>exact absurd (F7 this.symm) hx0
     | cons _ _=>rfl
    rw[hue,if_pos (show(!false)=true from rfl)];obtain⟨p0,p1,sa,sb,ma,mb,u0,u1,e0,e1⟩:=Xn (tu3.same s5) hx0;have ia:=(Ms rows ci hrun hc hp0 ma).1;have ib:=(Ms rows ci hrun hc hp0 mb).2;have ea5:=s5 _ _ ea3;have eu5:=s5 _ _ eu3;subst hkt2;refine aM fun k2 hk2=>?_;cases c with
    | pik lb=>cases hp0
    | one n t=>exact absurd hin (show ¬inV (V.str "is") [V.str "mask",V.str "table"]=true by decide +kernel)
    | rng a b t=>exact absurd hin (show ¬inV (V.str "within") [V.str "mask",V.str "table"]=true by decide +kernel)
    | low n t=>exact absurd hin (show ¬inV (V.str "below") [V.str "mask",V.str "table"]=true by decide +kernel)
    | msk lo wd b t=>
     have ja:=U0 ia;have jb:=U0 ib;push_cast [ea5,gB,rdW];subst hk2;push_cast [ea5,gB,eu5,u0,u1,e0,e1];rw[if_neg ω,if_neg ω];exact hgo H5 _ s5
    | tab lo gs=>
     have ja:=in_tab ia;have jb:=in_tab ib;have eg5:=s5 _ _ (s3 _ _ (eg _ _ rfl));push_cast [ea5,gB,rdW,eg5,AI];subst hk2;push_cast [ea5,gB,eu5,u0,u1,e0,e1];rw[if_neg ω,if_neg ω];exact hgo H5 _ s5
  intro σ H2 pv;rw[hPv] at pv;obtain⟨o5,o6,o7,s2,rfl⟩:=pv;show k _ _;subst hk;rw[show xs.length=cs.length by omega,NQ rows ci hlh hrun];push_cast;exact q _ (s1.trans s2)
theorem Ua (hB:∀x:Str,x∈BLs->mg x=none) (CZBeyond:Cal P w K mg base "_law_beyond" 5 q9_ ZM) (CBeyondOf:Cal P w K mg base "beyond_of" 4 q3_ Jk) (F:Fun K "_law_ends_right" "_law_ends_right" bA f fd):cQ P w K mg base CX0 6 f fd q2_ abI:=by
 refine F.okq iI (fun vs H Q E h=>?_) (fun cdv A outer s H vs Q E hr h=>?_)
 ·obtain⟨l,ok,cs,low,high,rfl,_⟩:=h;rfl
 obtain⟨l,ok,cs,low,high,rfl,tr,rows,hcs,hlh,few,hrun,hb1,hb2,q⟩:=h;refine⟨_,(aD (bG sE iI.nd (aN aZ (Eu rfl nH (hB "list" vd) lU (hB "range" jC) (ak (aN cU (ao mG) aq) (ak (ao mG) aB rfl) rfl)) (Eu rfl nH (hB "list" vd) lU (hB "range" jC) (ak (aN aZ (ao mF) aq) (ak (aN aZ (ao mF) aq) aB rfl) rfl))) rfl (.inl rfl))
  (aD (nY (NX:=dG) (kX:=(aj bA).names) ["_law_number","_law_rows"] [none,some 0] sy iI.nd rfl rfl ⟨rfl,ψ,ψ,ψ,ψ⟩ rfl (cO (ao sE)) (fun _ _ _ _ _=>(dM 0 (show CL (["_law_number","_law_rows"]:List Str) from by decide +kernel) rfl (EF rfl))) (fun _ _ _ _ _=>pP) (fun _ _ _ _ _=>(bK (ak (b8 0) (ak (bF CZBeyond (hr.mono δ) rfl DW (ak (b8 1) (ak (b8 0) aB rfl) rfl) rfl rfl) aB rfl) rfl))))
  (aD (nY (NX:=dG) (kX:=(aj bA).names) ["_law_number","_law_row"] [none,none] mD iI.nd rfl rfl ⟨rfl,ψ,ψ,ψ,ψ⟩ rfl (cO (ao sy)) (fun _ _ _ _ _=>(dO (n:=2) rfl (aR (dM 0 (show CL (["_law_number","_law_row"]:List Str) from by decide +kernel) rfl (EF rfl)) (aR (dM 1 (show CL (["_law_number","_law_row"]:List Str) from by decide +kernel) rfl (EF rfl)) cL rfl) rfl) rfl rfl)) (fun _ _ _ _ _=>(pO (aW uR (b8 1) jH (aU _)))) (fun _ _ _ _ _=>(bK (ak (b8 1) (ak (b8 0) aB rfl) rfl))))
  (aD (bG rZ iI.nd (bF CBeyondOf (hr.mono δ) qz Bg (ak (ao Bx) (ak (aN cU (ao mG) aq) (ak (aN aZ (ao mF) aq) aB rfl) rfl) rfl) rfl rfl) rfl (.inl rfl))
  (aJ (aV (pN (aaI hr.bH) (ao rZ) (GJ (aW (Jz hr.bH) (ao mD) (bZ aB) (aU _)) (dz (Qg rfl hr.acQ) yo (hB "min" wJ) boot_min wX (ak (ao mD) aB rfl) rfl rfl) jH) (aU _)))))))),?_⟩
 refine aM fun k hk=>?_;push_cast;rw[show(low-(low-5)).toNat=5 by omega,show(high+6-(high+1)).toNat=5 by omega,Zi,Zi];refine⟨⟨ω,ω,ω,ω⟩,aQ δ,fun p hp=>⟨⟨ω,ω,ω,ω⟩,aQ δ,fun p1 hp1=>?_⟩⟩;have s1:=aA (o:=HO.lst ((rgI (low-5) 5).map V.int)) hp;have e1:upd H p (HO.lst ((rgI (low-5) 5).map V.int)) p=some (HO.lst ((rgI (low-5) 5).map V.int)):=au;generalize upd H p (HO.lst ((rgI (low-5) 5).map V.int))=H1 at s1 e1 hp1 |-;have s2:=aA (o:=HO.lst ((rgI (high+1) 5).map V.int)) hp1;rw[s2 _ _ e1,V7];have sH2:=s1.trans s2;generalize upd H1 p1 (HO.lst ((rgI (high+1) 5).map V.int))=H2 at s2 sH2 |-;obtain⟨os,hos⟩:∃os:List Int,os=rgI (low-5) 5++rgI (high+1) 5:=⟨_,rfl⟩;have hol:os.length=10:=by rw[hos,AR,yJ,yJ]
 have hom:∀n,n∈os↔(low-5<=n/\n<low)\/(high<n/\n<=high+5):=fun n=>by
  rw[hos,BC,Lr,Lr];omega
 rw[<- BS,<- hos];refine⟨aQ (by rw[AI,AI,yJ,yJ];omega),fun lo hlo=>?_⟩;have s3:=sH2.trans (aA (o:=HO.lst (os.map V.int)) hlo);have eo:upd H2 lo (HO.lst (os.map V.int)) lo=some (HO.lst (os.map V.int)):=au;generalize upd H2 lo (HO.lst (os.map V.int))=H3 at s3 eo |-;subst hk
 -- each with its row
 refine aM fun k hk=>?_;refine gC fun R hR=>?_;push_cast [nG,rB,eo,rA];obtain⟨Pc,hPc⟩:∃Pv:Nat->List V->L2.St->Hp->Prop,Pv=fun(i:Nat) acc τ H'=>∃(o0:Option V)(L:List (Int×Option Int)),Same H3 H'/\bQ enO H' acc L/\L.map (·.1)=os.take i/\(∀x∈L,OkB cs x)/\τ=[o0,some (.ref l)]:=⟨_,rfl⟩;refine uc hR (xs:=os.map V.int) (aQ (by rw[AI];omega)) Pc (by rw[hPc];exact⟨_,[],Same.refl _,.nil,rfl,fun x hx=>(nomatch hx),rfl⟩) ?_ ?_ ?_ ?_
 ·intro i acc τ H4 pc;rw[hPc] at pc;obtain⟨o0,L,s4,t4,hL,_,rfl⟩:=pc;have:=t4.length;have h2:=congrArg List.length hL;rw[AI,E2] at h2;omega
 ·intro i acc τ H4 pc;rw[hPc] at pc;obtain⟨o0,L,s4,t4,hL,_,rfl⟩:=pc;exact SqL.of (s4 _ _ eo)
 ·intro i x acc τ H4 hx pc;rw[hPc] at pc;obtain⟨o0,L,s4,t4,hL,hok,rfl⟩:=pc;rw[A4] at hx;obtain⟨n,hn,rfl⟩:=Cn.mp hx;have fin:∀(o:Option Int) H5,Same H4 H5->OkB cs (n,o)->∀pp,H5 pp=none->Pc (i+1) (acc++[V.ref pp]) [some (V.int n),some (.ref l)] (upd H5 pp (HO.tup [V.int n,Ez o])):=fun o H5 s5 hb pp hpp=>by
   have s6:=aA (o:=HO.tup [V.int n,Ez o]) hpp;rw[hPc];refine⟨_,L++[(n,o)],(s4.trans s5).trans s6,(t4.same (s5.trans s6)).snoc (x:=(n,o)) au,?_,fun x hx=>?_,rfl⟩
   ·rw[BS,hL,take_snoc hn];rfl
   rcases BC.mp hx with z|z
   ·exact hok x z
   rw[Au.mp z];exact hb
  push_cast;refine⟨l,ok,cs,n,rfl,tr.same (s3.trans s4),rows,fun lab hl H5 s5=>?_,fun j hj H5 s5=>?_⟩
  ·exact⟨aQ δ,fun pp hpp=>fin none H5 s5 (.inl ⟨rfl,lab,hl⟩) pp hpp⟩
  exact⟨aQ δ,fun pp hpp=>fin (some (j:Int)) H5 s5 (.inr ⟨j,rfl,hj⟩) pp hpp⟩
 intro acc τ H4 d pc hd;rw[hPc] at pc;obtain⟨o0,L,s4,t4,hL,hok,rfl⟩:=pc;rw[AI,Fa] at hL;have s5:=aA (o:=HO.lst acc) hd;have e5:upd H4 d (HO.lst acc) d=some (HO.lst acc):=au;have t5:=t4.same s5;have sH5:=(s3.trans s4).trans s5;generalize upd H4 d (HO.lst acc)=H5 at s5 e5 t5 sH5 |-;clear hPc hR;show k _ _;subst hk;have hl5:=t5.length;have hL10:L.length=10:=by have:=congrArg List.length hL;rw[AI] at this;omega
 -- those that are read beyond
 refine aM fun k hk=>?_;refine gC fun R hR=>?_;push_cast [nG,rB,e5,rA];obtain⟨Pd,hPd⟩:∃Pv:Nat->List V->L2.St->Hp->Prop,Pv=fun(i:Nat) acc' τ H'=>∃(o0 o1:Option V),Same H5 H'/\bQ prE H' acc' (xj (L.take i))/\τ=[o0,o1]:=⟨_,rfl⟩;refine uc hR (xs:=acc) (aQ ω) Pd (by rw[hPd];exact⟨_,_,Same.refl _,.nil,rfl⟩) ?_ ?_ ?_ ?_
 ·intro i acc' τ H6 pc;rw[hPd] at pc;obtain⟨o0,o1,s6,t6,rfl⟩:=pc;have:=t6.length;have h2:=List.length_filterMap_le (fun x:Int×Option Int=>x.2.map fun j=>(j,x.1)) (L.take i);unfold xj at this;rw[E2] at h2;omega
 ·intro i acc' τ H6 pc;rw[hPd] at pc;obtain⟨o0,o1,s6,t6,rfl⟩:=pc;exact SqL.of (s6 _ _ e5)
 ·intro i x acc' τ H6 hx pc;rw[hPd] at pc;obtain⟨o0,o1,s6,t6,rfl⟩:=pc;obtain⟨pp,y,rfl,hy,ep⟩:=(t5.same s6).got hx;obtain⟨n,o⟩:=y;replace ep:H6 pp=some (.tup [.int n,Ez o]):=ep;have told:xj (L.take (i+1))=xj (L.take i)++(match o with|some j=>[(j,n)]|none=>[]):=by
   unfold xj;rw[take_snoc hy,List.filterMap_append];cases o <;> rfl
  cases o with
  | none=>
   push_cast [ep,Ez];rw[hPd];exact⟨_,_,s6,by rw[told,C4];exact t6,rfl⟩
  | some j=>
   push_cast [ep,Ez];refine⟨aQ δ,fun p7 hp7=>?_⟩;have s7:=aA (o:=HO.tup [V.int j,V.int n]) hp7;rw[hPd];exact⟨_,_,s6.trans s7,by rw[told];exact(t6.same s7).snoc (x:=(j,n)) au,rfl⟩
 intro acc' τ H6 d2 pc hd2;rw[hPd] at pc;obtain⟨o0,o1,s6,t6,rfl⟩:=pc;rw[hl5,Fa] at t6;have s7:=aA (o:=HO.lst acc') hd2;have e7:upd H6 d2 (HO.lst acc') d2=some (HO.lst acc'):=au;have t7:=t6.same s7;have sH7:=(sH5.trans s6).trans s7;generalize upd H6 d2 (HO.lst acc')=H7 at s7 e7 t7 sH7 |-;clear hPd hR;show k _ _;subst hk;refine aM fun k hk=>?_;push_cast;refine⟨l,ok,cs,low-5,high+5,rfl,tr.same sH7,rows,hcs,ω,few,fun v H8 o s8 tv hbey=>?_⟩;push_cast;subst hk;have e8:=s8 _ _ e7;have t8:=t7.same s8;have hbl:=abq rows hok;rw[hL] at hbl;obtain⟨b0,b1⟩:=hbl.bey (low:=low-5) (high:=high+5) (fun n hn=>by have:=(hom n).mp hn;omega) (fun n j h1 h2 b=>⟨n,by
  refine(hom n).mpr ?_;by_cases c:low<=n/\n<=high
  ·obtain⟨lab,e⟩:=hrun n c.1 c.2;rw[(b.run rows).1] at e;cases e
  omega,CS _,b⟩)
 push_cast [e8];refine⟨DL _,fun p9 hp9=>?_⟩;have s9:=aA (o:=HO.lst []) hp9;refine⟨d2,p9,acc',rfl,rfl,s9 _ _ e8,au,_,rfl,?_⟩;have e9:=s9 _ _ e8;have t9:=t8.same s9;have tv9:=tv.same s9;have sF:=(sH7.trans s8).trans s9;generalize upd H8 p9 (HO.lst [])=H9 at s9 e9 t9 tv9 sF |-;obtain⟨ads,rfl⟩:=t9.refs;cases ads with
 | nil=>
  have hn:xj L=[]:=F7 t9.length.symm;obtain rfl:o=none:=hbey.one (b0 hn);cases tv9;exact .inl ⟨rfl,rfl,q _ sF⟩
 | cons a0 ads=>
  refine⟨a0::ads,e9,xj L,by have:=t9.length;rwa [AI] at this,fun j t c h1 h2=>t9.pr h1 h2,List.cons_ne_nil _ _,fun m t c h1 h2 h3=>?_⟩;obtain rfl:o=some c:=hbey.one (b1 c (A2 h2) h3);cases tv9 with
  | tup o9 ev z9 tt=>
   cases tt with
   | cons ta tt=>
    cases ta;cases tt with
    | cons tb tt=>
     cases tb;cases tt;exact .inr ⟨_,_,_,_,rfl,rfl,ev,t9.pr h1 h2,q _ sF⟩
end
noncomputable abbrev Gj:List Str:=["_law_script","_law_k","_law_tape_here","_law_stretches_here","_law_rows","_law_low","_law_high"]
noncomputable abbrev gW:Stmt:=top 43
theorem Cw:bx Gj ["_law_script"] (aj gW):=⟨rfl,rfl,rfl,ψ,rfl,ψ,ψ⟩
theorem Uq:Nm Gj (aj gW) 0 "_law_script" := .of ψ
theorem Uo:Nm Gj (aj gW) 1 "_law_k" := .of ψ
theorem Fp:Nm Gj (aj gW) 2 "_law_tape_here" := .of ψ
theorem tQ:Nm Gj (aj gW) 3 "_law_stretches_here" := .of ψ
theorem Fo:Nm Gj (aj gW) 4 "_law_rows" := .of ψ
theorem JX:Nm Gj (aj gW) 5 "_law_low" := .of ψ
theorem JV:Nm Gj (aj gW) 6 "_law_high" := .of ψ
theorem Hz:GI_ gW "_law_asked" := by decide +kernel
theorem yw:GI_ gW "_law_ends_right" := by decide +kernel
theorem Kl:GI_ gW "_law_plan" := by decide +kernel
theorem yu:GI_ gW "_law_stretches" := by decide +kernel
theorem Kh:GI_ gW "_law_take" := by decide +kernel
theorem Kg:GI_ gW "_law_tape" := by decide +kernel
theorem vG:GI_ gW "_law_within_right" := by decide +kernel
theorem U9:GI_ gW "any" := by decide +kernel
theorem BR:GI_ gW "beyond_of" := by decide +kernel
theorem Hy:GI_ gW "len" := by decide +kernel
theorem Pz:GI_ gW "list" := by decide +kernel
theorem U8:GI_ gW "min" := by decide +kernel
theorem Aq:GI_ gW "range" := by decide +kernel
theorem HD:GI_ gW "rows_of" := by decide +kernel
noncomputable def Le (K:AD):Sp:=fun vs H Q _=>∃(a:Addr)(ns:List Int),vs=[.ref a]/\SqL K H a (ns.map V.int)/\ns.length<=63/\∀H',Q (.bl true) H'
section
variable {P:AW}{w:BB}{K:AD}{mg:Str->Option An}{base:Heap}{f:Addr}{fd:Co}{bs:List Str}
theorem aaP (hB:∀x:Str,x∈BLs->mg x=none) (CZTape:Cal P w K mg base "_law_tape" 2 q4_ (Rr K)) (CZTake:Cal P w K mg base "_law_take" 2 q1_ (sU 2)) (CZStretches:Cal P w K mg base "_law_stretches" 3 q1_ Rt) (CZPlan:Cal P w K mg base "_law_plan" 12 q0_ (qM 10)) (CRowsOf:Cal P w K mg base "rows_of" 4 q7_ Gu)
  (CBeyondOf:Cal P w K mg base "beyond_of" 4 q3_ Jk) (CZWithinRight:Cal P w K mg base "_law_within_right" 4 q2_ abH) (CZAsked:Cal P w K mg base "_law_asked" 1 ["_law_stretches_here"] Lh) (CZBeyond:Cal P w K mg base "_law_beyond" 5 q9_ ZM) (CZEndsRight:Cal P w K mg base "_law_ends_right" 6 q2_ abI)
  (F:Fun K "law" "law" gW f fd):cQ P w K mg base CX0 20 f fd ["_law_script"] (Le K):=by
 refine F.okq Cw (fun vs H Q E h=>?_) (fun cdv A outer s H vs Q E hr h=>?_)
 ·obtain⟨a,ns,rfl,_⟩:=h;rfl
 obtain⟨a,ns,rfl,hS,h63,q⟩:=h;refine⟨_,(aD (gY BU rfl (vY Aq (hB "range" jC) (ak (aN aZ aq (dz (rD rfl) U8 (hB "min" wJ) boot_min wX (ak aq (ak (dz jU Hy (hB "len" iW) CD je (ak (ao Uq) aB rfl) rfl rfl) aB rfl) rfl) rfl rfl)) aB rfl) rfl) (bT Uo Cw.nd (.inl rfl))
  (aD (bG Fp Cw.nd (bF CZTape (hr.mono δ) Kg Y6 (ak (ao Uq) (ak (ao Uo) aB rfl) rfl) rfl rfl) rfl (.inl rfl))
  (aD (bG tQ Cw.nd (bF CZStretches (hr.mono δ) yu Gb (ak (ao Fp) (ak (aN aZ aq (bF CZTake (hr.mono δ) Kh d8 (ak (ao Fp) (ak aq aB rfl) rfl) rfl rfl)) aB rfl) rfl) rfl rfl) rfl (.inl rfl))
  (aD (bG Fo Cw.nd (bF CRowsOf (hr.mono δ) HD VJ (ak (ao tQ) (ak (bF CZPlan (hr.mono δ) Kl vM (ak (ao Fp) (ak (ao tQ) (ak (GF rfl Pz (hB "list" vd) Aq (hB "range" jC) (ak (dz dJ Hy (hB "len" iW) CD je (ak (ao tQ) aB rfl) rfl rfl) aB rfl)) aB rfl) rfl) rfl) rfl rfl) aB rfl) rfl) rfl rfl) rfl (.inl rfl))
  (aD (Js (i:=5) (j:=6) rfl Cw.nd rfl rfl δ rfl rfl (ak (aG aP (aG aP (ao tQ) aq (fun _ _=>rfl)) aq (fun _ _=>rfl)) (ak (aG aP (aG aP (ao tQ) (jA fP aq) (fun _ _=>rfl)) aq (fun _ _=>rfl)) aB rfl) rfl) (by rfl))
  (aD (bR (vX (Sw (aW uR (bF CBeyondOf (hr.mono δ) BR Bg (ak (ao Fo) (ak (ao JX) (ak (ao JV) aB rfl) rfl) rfl) rfl rfl) jH (aU _)) (Jq (Jr (Ep (bF CZWithinRight (hr.mono δ) vG Bf (ak (ao Fo) (ak (ao JX) (ak (ao JV) aB rfl) rfl) rfl) rfl rfl) (fun _=>rfl)))))) (aJ (aV GK)) bC)
  (aD (bR (Ep (dz (Qm rfl) U9 (hB "any" aaX) PyProof.Rows.Boot.«any» abp (ak (lR (NX:=Gj) (kX:=(aj gW).names) ["_law_number","_law_rows"] [none,some 4] rfl rfl ⟨rfl,ψ,ψ,ψ,ψ⟩ rfl (cO (bF CZAsked (hr.mono δ) Hz VF (ak (ao tQ) aB rfl) rfl rfl)) (fun _ _ _ _ _=>(dM 0 (show CL (["_law_number","_law_rows"]:List Str) from by decide +kernel) rfl (EF rfl))) (fun _ _ _ _ _=>pP) (fun _ _ _ _ _=>(pN uR (bF CZBeyond (hr.mono δ) rfl DW (ak (b8 1) (ak (b8 0) aB rfl) rfl) rfl rfl) jH (aU _)))) aB rfl) rfl rfl) (fun _=>rfl)) (aJ (aV GK)) bC)
  (aJ (bR (Jr (Ep (bF CZEndsRight (hr.mono δ) yw Gd (ak (ao Fo) (ak (ao JX) (ak (ao JV) aB rfl) rfl) rfl) rfl rfl) (fun _=>rfl))) (aJ (aV GK)) bC)))))))) (fun _=>rfl))
  (aJ (aV GK))),?_⟩
 refine aM fun k hk=>?_;refine lF fun R hR=>?_;push_cast [Ht];refine⟨_,.inl hS,?_⟩;rw[AI];have m6:(0:Int)<=1+(if (ns.length:Int)<5 then (ns.length:Int) else 5)/\1+(if (ns.length:Int)<5 then (ns.length:Int) else 5)<=6:=by
  split <;> omega
 refine⟨ω,ω,?_⟩;obtain⟨Pv,hPv⟩:∃Pv:Nat->L2.St->Hp->Prop,Pv=fun(i:Nat) σ H'=>Same H H'/\∃o1 o2 o3 o4 o5 o6,σ=[some (.ref a),o1,o2,o3,o4,o5,o6]:=⟨_,rfl⟩;refine Zq hR Pv (by rw[hPv];exact⟨Same.refl _,_,_,_,_,_,_,rfl⟩) ?_ ?_
 ·intro i σ H1 hi pv;rw[hPv] at pv;obtain⟨s1,o1,o2,o3,o4,o5,o6,rfl⟩:=pv;refine aM fun k2 hk2=>?_;push_cast;refine⟨a,ns,(0:Int)+(i:Int),rfl,s1.seq hS,ω,ω,fun p H2 hp s2 tp2=>?_⟩;push_cast;subst hk2;refine aM fun k2 hk2=>?_;push_cast;refine⟨p,9,0,rfl,tp2,δ,δ,δ,δ,fun z=>absurd z δ,fun r1 H3 r10 r11 s3 tp3=>?_⟩;push_cast;refine⟨p,1+r1,0+2,rfl,tp3,δ,δ,ω,ω,fun l ss H4 s4 tp4 tr4 hsl hrow hfst=>?_⟩;push_cast;subst hk2;have sx4:cW p H1 H4:=(s2.x.trans s3).trans s4;have h9:ss.length<=9:=ω;have h1:1<=ss.length:=ω;have lfl:Lf ss (AU ss.length):=⟨fun z=>by have:=congrArg List.length z;rw[Ee,FS] at this;omega,fun k hk=>Fc.mp hk,List.pairwise_lt_range⟩;refine aM fun k2 hk2=>?_;have tr40:=tr4;cases tr4 with
  | lst okl el4 zl4 trs4=>
   rename_i xs;have hxl:=trs4.length;rw[AI] at hxl;push_cast [el4];rw[show(((xs.length:Int)-0).toNat)=ss.length by omega];refine⟨⟨ω,ω⟩,aQ ω,fun lf hlf=>?_⟩;rw[WM];have s5:=aA (o:=HO.lst (nv (AU ss.length))) hlf;have nlf:=tp4.ne hlf;have tp5:=tp4.same s5;have tr5:=tr40.same s5;have elf:upd H4 lf (HO.lst (nv (AU ss.length))) lf=_:=au;have sx5:=sx4.trans s5.x;generalize upd H4 lf (HO.lst (nv (AU ss.length)))=H5 at s5 tp5 tr5 elf sx5 |-;have tlf:aK (·≠p) H5 (.ref lf) (nA (AU ss.length)):=dh nlf elf (by rw[Ee];omega);refine⟨p,_,_,_,ss,_,rfl,tp5,δ,by rw[Ee];omega,tr5,tlf,lfl,by rw[Ee];omega,by rw[Ee];omega,fun v pl H6 s6 tp6 tv6 pv6 dep siz=>?_⟩;rw[Ee] at tp6 dep siz;have sx6:=sx5.trans s6;have tr6:=tr5.xq s6;push_cast;refine⟨.ref l,v,(·≠p),ss,pl,rfl,tp6.newOk,tr6,tv6,ω,ω,pv6,hrow,fun lr ys H7 s7 hlr elr trs=>?_⟩;push_cast;subst hk2;have nlr:=tp6.ne hlr;have hpl:=Cz (ss:=ss) (S:=aY ss pl (AU ss.length)) ω pv6.steps;rw[fL] at hpl;have hcl:(cZ ss pl).length<=1000000:=by
    have:(nZ ss pl).length<=60*aX pl:=hpl;rw[xr];omega
   have hyl:=trs.length;rw[AI] at hyl;have tcs:aK (·≠p) H7 (.ref lr) (.list ((cZ ss pl).map gH)):=.lst nlr elr ω (trs.keep fun a o h e=>⟨h.1,e⟩);have sH7:Same H1 H7:=WK (sx6.trans s7.x) hp;have tr7:=tr6.same s7;obtain⟨_,hrc⟩:=Jp hrow pv6;have hrb:=ZX hrow ω pv6;have few:=fun lo hi=>Vg hrow pv6 ω lo hi;have hrun:∀n,(aL ss 0).1<=n->n<=(aL ss (ss.length-1)).2.1->∃lab,(runOf (cZ ss pl) n).1=some lab:=fun n h2 h3=>abf hrow pv6 ω h2 h3;have b0:=hrow.bd 0 _ (eE ω);have b1:=hrow.bd (ss.length-1) _ (eE ω);have hle:(aL ss 0).1<=(aL ss (ss.length-1)).2.1:=by
    have h2:=(cX hrow (DL (ss.length-1)) ω).2;have h3:=iG hrow (i:=0) ω;omega
   clear trs elr s7 s6 s5 tp5 tr5 tlf elf el4 trs4 tr40 sx4 sx5 sx6;cases tr7 with
   | lst ol el z tss=>
    rename_i xs7;have hx7:=tss.length;rw[AI] at hx7;have tr7:aK (·≠p) H7 (.ref l) (.list (ss.map stD)):=.lst ol el z tss;obtain⟨p0,x0,y0⟩:=tss.stN (k:=0) ω;obtain⟨p1,x1,y1⟩:=tss.stN (k:=ss.length-1) ω;replace x0:atI xs7 0=some (.ref p0):=x0;have x1':=KC hx7 ω x1;generalize cZ ss pl=cs at *;have qd:=hle;obtain⟨lo,hlo⟩:∃lo,lo=(aL ss 0).1:=⟨_,rfl⟩;obtain⟨hi',hhi⟩:∃hi,hi=(aL ss (ss.length-1)).2.1:=⟨_,rfl⟩;rw[<- hlo] at y0;rw[<- hhi] at y1;refine aM fun k2 hk2=>?_;push_cast [el,x0,x1',y0,y1];rw[<- hlo] at b0;rw[<- hhi] at b1;rw[<- hlo,<- hhi] at hle hrun;subst hk2;refine aM fun k2 hk2=>?_;push_cast;refine⟨lr,_,cs,lo,hi',rfl,tcs,hrc,hrb,hle,few _ _,fun v8 H8 o s8 tv8 hbey=>?_⟩;obtain rfl:o=none:=hbey.one fun n j h2 h3 b=>by
     obtain⟨lab,e⟩:=hrun n h2 h3;rw[(b.run hrc).1] at e;cases e
    cases tv8;show(if (!decide (V.non=V.non))=true then _ else _);rw[if_neg (by simp)];refine⟨lr,_,cs,lo,hi',rfl,tcs.same s8,hrc,hrb,hle,few _ _,hrun,fun H9 s9=>?_⟩;push_cast;subst hk2;have s79:=s8.trans s9;refine aM fun k2 hk2=>?_;push_cast;refine gC fun R2 hR2=>?_;push_cast;refine⟨l,_,ss,rfl,tr7.same s79,hrow,ω,ω,fun r ns H10 s10 er hnl hnb=>?_⟩;rw[<- hlo,<- hhi] at hnb;push_cast [nG,rB,er,rA];have s7a:=s79.trans s10;obtain⟨Pc,hPc⟩:∃Pv:Nat->List V->L2.St->Hp->Prop,Pv=fun(i:Nat) acc τ H'=>∃(o0:Option V),Same H10 H'/\acc=(A5 i false).map V.bl/\τ=[o0,some (.ref lr)]:=⟨_,rfl⟩;refine uc hR2 (xs:=ns.map V.int) (aQ (by rw[AI];omega)) Pc (by rw[hPc];exact⟨_,Same.refl _,rfl,rfl⟩) ?_ ?_ ?_ ?_
    ·intro i acc τ H11 pc;rw[hPc] at pc;obtain⟨o0,s11,rfl,rfl⟩:=pc;rw[AI,DB];exact A6 _
    ·intro i acc τ H11 pc;rw[hPc] at pc;obtain⟨o0,s11,rfl,rfl⟩:=pc;exact SqL.of (s11 _ _ er)
    ·intro i x acc τ H11 hx pc;rw[hPc] at pc;obtain⟨o0,s11,rfl,rfl⟩:=pc;rw[A4] at hx;obtain⟨n,hn,rfl⟩:=Cn.mp hx;have hb:=hnb n (A2 hn);push_cast;refine⟨lr,_,cs,n,rfl,tcs.same (s7a.trans s11),hrc,fun lab hl H12 s12=>?_,fun j hj H12 s12=>?_⟩
     ·show Pc _ _ _ _;rw[hPc];refine⟨_,s11.trans s12,?_,rfl⟩;rw[List.replicate_succ',BS];simp
     obtain⟨lab,e⟩:=hrun n hb.1 hb.2;rw[(hj.run hrc).1] at e;cases e
    intro acc τ H11 d pc hd;rw[hPc] at pc;obtain⟨o0,s11,rfl,rfl⟩:=pc;have s12:=aA (o:=HO.lst ((A5 (ns.map V.int).length false).map V.bl)) hd;have e12:upd H11 d (HO.lst ((A5 (ns.map V.int).length false).map V.bl)) d=_:=au;generalize upd H11 d (HO.lst ((A5 (ns.map V.int).length false).map V.bl))=H12 at s12 e12 |-;push_cast [e12];refine⟨_,rfl,?_⟩;rw[if_neg (by simp)];subst hk2;have s7c:=(s7a.trans s11).trans s12;push_cast;refine⟨lr,_,cs,lo,hi',rfl,tcs.same s7c,hrc,hrb,hle,few _ _,hrun,ω,ω,fun H13 s13=>?_⟩;push_cast;rw[hPv];exact⟨s1.trans ((sH7.trans s7c).trans s13),_,_,_,_,_,_,rfl⟩
 intro σ H1 pv;rw[hPv] at pv;obtain⟨s1,o1,o2,o3,o4,o5,o6,rfl⟩:=pv;show k _ _;subst hk;push_cast;exact q _
end
theorem all_mk {l:PySem.W.OpenLaw}{w:BB}{K:AD}{h:Heap}{mg:Str->Option An}{fa:Addr}{f1:Addr}{od1 an1:Option Addr}{sl1:Array (Option An)}{oc1 kV1 dc1 pm1 cd1 ct1:An}{f2:Addr}{od2 an2:Option Addr}{sl2:Array (Option An)}{oc2 kV2 dc2 pm2 cd2 ct2:An}{f3:Addr}{od3 an3:Option Addr}{sl3:Array (Option An)}{oc3 kV3 dc3 pm3 cd3 ct3:An}{f4:Addr}{od4 an4:Option Addr}{sl4:Array (Option An)}{oc4 kV4 dc4 pm4 cd4 ct4:An}{f5:Addr}{od5 an5:Option Addr}{sl5:Array (Option An)}{oc5 kV5 dc5 pm5 cd5 ct5:An}{f6:Addr}{od6 an6:Option Addr}{sl6:Array (Option An)}{oc6 kV6 dc6 pm6 cd6 ct6:An}{f7:Addr}{od7 an7:Option Addr}{sl7:Array (Option An)}{oc7 kV7 dc7 pm7 cd7 ct7:An}{f8:Addr}{od8 an8:Option Addr}{sl8:Array (Option An)}{oc8 kV8 dc8 pm8 cd8 ct8:An}{f9:Addr}{od9 an9:Option Addr}{sl9:Array (Option An)}{oc9 kV9 dc9 pm9 cd9 ct9:An}{f10:Addr}{od10 an10:Option Addr}{sl10:Array (Option An)}{oc10 kV10 dc10 pm10 cd10 ct10:An}{f11:Addr}{od11 an11:Option Addr}{sl11:Array (Option An)}{oc11 kV11 dc11 pm11 cd11 ct11:An}{f12:Addr}{od12 an12:Option Addr}{sl12:Array (Option An)}{oc12 kV12 dc12 pm12 cd12 ct12:An}{f13:Addr}{od13 an13:Option Addr}{sl13:Array (Option An)}{oc13 kV13 dc13 pm13 cd13 ct13:An}{f14:Addr}{od14 an14:Option Addr}{sl14:Array (Option An)}{oc14 kV14 dc14 pm14 cd14 ct14:An}{f15:Addr}{od15 an15:Option Addr}{sl15:Array (Option An)}{oc15 kV15 dc15 pm15 cd15 ct15:An}{f16:Addr}{od16 an16:Option Addr}{sl16:Array (Option An)}{oc16 kV16 dc16 pm16 cd16 ct16:An}{f17:Addr}{od17 an17:Option Addr}{sl17:Array (Option An)}{oc17 kV17 dc17 pm17 cd17 ct17:An}{f18:Addr}{od18 an18:Option Addr}{sl18:Array (Option An)}{oc18 kV18 dc18 pm18 cd18 ct18:An}{f19:Addr}{od19 an19:Option Addr}{sl19:Array (Option An)}{oc19 kV19 dc19 pm19 cd19 ct19:An}{f20:Addr}{od20 an20:Option Addr}{sl20:Array (Option An)}{oc20 kV20 dc20 pm20 cd20 ct20:An}{f21:Addr}{od21 an21:Option Addr}{sl21:Array (Option An)}{oc21 kV21 dc21 pm21 cd21 ct21:An}{f22:Addr}{od22 an22:Option Addr}{sl22:Array (Option An)}{oc22 kV22 dc22 pm22 cd22 ct22:An}{f23:Addr}{od23 an23:Option Addr}{sl23:Array (Option An)}{oc23 kV23 dc23 pm23 cd23 ct23:An}{f24:Addr}{od24 an24:Option Addr}{sl24:Array (Option An)}{oc24 kV24 dc24 pm24 cd24 ct24:An}{f25:Addr}{od25 an25:Option Addr}{sl25:Array (Option An)}{oc25 kV25 dc25 pm25 cd25 ct25:An}{f26:Addr}{od26 an26:Option Addr}{sl26:Array (Option An)}{oc26 kV26 dc26 pm26 cd26 ct26:An}{f27:Addr}{od27 an27:Option Addr}{sl27:Array (Option An)}{oc27 kV27 dc27 pm27 cd27 ct27:An}{f28:Addr}{od28 an28:Option Addr}{sl28:Array (Option An)}{oc28 kV28 dc28 pm28 cd28 ct28:An}{f29:Addr}{od29 an29:Option Addr}{sl29:Array (Option An)}{oc29 kV29 dc29 pm29 cd29 ct29:An}{f30:Addr}{od30 an30:Option Addr}{sl30:Array (Option An)}{oc30 kV30 dc30 pm30 cd30 ct30:An}{f31:Addr}{od31 an31:Option Addr}{sl31:Array (Option An)}{oc31 kV31 dc31 pm31 cd31 ct31:An}{f32:Addr}{od32 an32:Option Addr}{sl32:Array (Option An)}{oc32 kV32 dc32 pm32 cd32 ct32:An}{f33:Addr}{od33 an33:Option Addr}{sl33:Array (Option An)}{oc33 kV33 dc33 pm33 cd33 ct33:An}{f34:Addr}{od34 an34:Option Addr}{sl34:Array (Option An)}{oc34 kV34 dc34 pm34 cd34 ct34:An}{f35:Addr}{od35 an35:Option Addr}{sl35:Array (Option An)}{oc35 kV35 dc35 pm35 cd35 ct35:An}{nmB qB:Str}{bsB:List An}{snB:List Str}{subB:List An}{abB:Bool}{colB:Option Bool}{ddB:Option Addr}{b0 b1 b2 b3 b5:Option An}{aBeyond aCaseError NB fI:Addr}{odI anI:Option Addr}{slI:Array (Option An)}{kVI dcI pmI cdI ctI:An}(X:K.In h) (G:h.Ns AL mg) (hfa:mg "law" = some (.ref fa))
  (a1:nsIn K AL "numbers_across" = some (some (.ref f1))) (l1:K.lookup f1=some ⟨oc1,od1,.func (fnOf "numbers_across" "numbers_across" (bh cR) (bf cR) (aj cR) .none kV1 dc1 pm1 an1 cd1 ct1),sl1⟩) (c1:CC K cd1 "numbers_across" = true) (k1:CB K (.ref f1)=true)
  (a2:nsIn K AL "labels_left" = some (some (.ref f2))) (l2:K.lookup f2=some ⟨oc2,od2,.func (fnOf "labels_left" "labels_left" (bh eZ) (bf eZ) (aj eZ) .none kV2 dc2 pm2 an2 cd2 ct2),sl2⟩) (c2:CC K cd2 "labels_left" = true) (k2:CB K (.ref f2)=true)
  (a3:nsIn K AL "plans_in" = some (some (.ref f3))) (l3:K.lookup f3=some ⟨oc3,od3,.func (fnOf "plans_in" "plans_in" (bh dX) (bf dX) (aj dX) .none kV3 dc3 pm3 an3 cd3 ct3),sl3⟩) (c3:CC K cd3 "plans_in" = true) (k3:CB K (.ref f3)=true)
  (a4:nsIn K AL "steps_of" = some (some (.ref f4))) (l4:K.lookup f4=some ⟨oc4,od4,.func (fnOf "steps_of" "steps_of" (bh dj) (bf dj) (aj dj) .none kV4 dc4 pm4 an4 cd4 ct4),sl4⟩) (c4:CC K cd4 "steps_of" = true) (k4:CB K (.ref f4)=true)
  (a5:nsIn K AL "places_ahead" = some (some (.ref f5))) (l5:K.lookup f5=some ⟨oc5,od5,.func (fnOf "places_ahead" "places_ahead" (bh bV) (bf bV) (aj bV) .none kV5 dc5 pm5 an5 cd5 ct5),sl5⟩) (c5:CC K cd5 "places_ahead" = true) (k5:CB K (.ref f5)=true)
  (a6:nsIn K AL "labels_led_to" = some (some (.ref f6))) (l6:K.lookup f6=some ⟨oc6,od6,.func (fnOf "labels_led_to" "labels_led_to" (bh cN) (bf cN) (aj cN) .none kV6 dc6 pm6 an6 cd6 ct6),sl6⟩) (c6:CC K cd6 "labels_led_to" = true) (k6:CB K (.ref f6)=true)
  (a7:nsIn K AL "picks_behind" = some (some (.ref f7))) (l7:K.lookup f7=some ⟨oc7,od7,.func (fnOf "picks_behind" "picks_behind" (bh bN) (bf bN) (aj bN) .none kV7 dc7 pm7 an7 cd7 ct7),sl7⟩) (c7:CC K cd7 "picks_behind" = true) (k7:CB K (.ref f7)=true)
  (a8:nsIn K AL "mask_row" = some (some (.ref f8))) (l8:K.lookup f8=some ⟨oc8,od8,.func (fnOf "mask_row" "mask_row" (bh cT) (bf cT) (aj cT) .none kV8 dc8 pm8 an8 cd8 ct8),sl8⟩) (c8:CC K cd8 "mask_row" = true) (k8:CB K (.ref f8)=true)
  (a9:nsIn K AL "table_row" = some (some (.ref f9))) (l9:K.lookup f9=some ⟨oc9,od9,.func (fnOf "table_row" "table_row" (bh cY) (bf cY) (aj cY) .none kV9 dc9 pm9 an9 cd9 ct9),sl9⟩) (c9:CC K cd9 "table_row" = true) (k9:CB K (.ref f9)=true)
  (a10:nsIn K AL "row_of" = some (some (.ref f10))) (l10:K.lookup f10=some ⟨oc10,od10,.func (fnOf "row_of" "row_of" (bh fQ) (bf fQ) (aj fQ) .none kV10 dc10 pm10 an10 cd10 ct10),sl10⟩) (c10:CC K cd10 "row_of" = true) (k10:CB K (.ref f10)=true)
  (a11:nsIn K AL "rows_of" = some (some (.ref f11))) (l11:K.lookup f11=some ⟨oc11,od11,.func (fnOf "rows_of" "rows_of" (bh cM) (bf cM) (aj cM) .none kV11 dc11 pm11 an11 cd11 ct11),sl11⟩) (c11:CC K cd11 "rows_of" = true) (k11:CB K (.ref f11)=true)
  (a12:nsIn K AL "ends_of" = some (some (.ref f12))) (l12:K.lookup f12=some ⟨oc12,od12,.func (fnOf "ends_of" "ends_of" (bh lQ) (bf lQ) (aj lQ) .none kV12 dc12 pm12 an12 cd12 ct12),sl12⟩) (c12:CC K cd12 "ends_of" = true) (k12:CB K (.ref f12)=true)
  (a13:nsIn K AL "holds" = some (some (.ref f13))) (l13:K.lookup f13=some ⟨oc13,od13,.func (fnOf "holds" "holds" (bh pI) (bf pI) (aj pI) .none kV13 dc13 pm13 an13 cd13 ct13),sl13⟩) (c13:CC K cd13 "holds" = true) (k13:CB K (.ref f13)=true)
  (a14:nsIn K AL "row_behind" = some (some (.ref f14))) (l14:K.lookup f14=some ⟨oc14,od14,.func (fnOf "row_behind" "row_behind" (bh cI) (bf cI) (aj cI) .none kV14 dc14 pm14 an14 cd14 ct14),sl14⟩) (c14:CC K cd14 "row_behind" = true) (k14:CB K (.ref f14)=true)
  (a15:nsIn K AL "run" = some (some (.ref f15))) (l15:K.lookup f15=some ⟨oc15,od15,.func (fnOf "run" "run" (bh yV) (bf yV) (aj yV) .none kV15 dc15 pm15 an15 cd15 ct15),sl15⟩) (c15:CC K cd15 "run" = true) (k15:CB K (.ref f15)=true)
  (a16:nsIn K AL "joined" = some (some (.ref f16))) (l16:K.lookup f16=some ⟨oc16,od16,.func (fnOf "joined" "joined" (bh gU) (bf gU) (aj gU) .none kV16 dc16 pm16 an16 cd16 ct16),sl16⟩) (c16:CC K cd16 "joined" = true) (k16:CB K (.ref f16)=true)
  (a17:nsIn K AL "runs_of" = some (some (.ref f17))) (l17:K.lookup f17=some ⟨oc17,od17,.func (fnOf "runs_of" "runs_of" (bh gR) (bf gR) (aj gR) .none kV17 dc17 pm17 an17 cd17 ct17),sl17⟩) (c17:CC K cd17 "runs_of" = true) (k17:CB K (.ref f17)=true)
  (a18:nsIn K AL "mask_goals" = some (some (.ref f18))) (l18:K.lookup f18=some ⟨oc18,od18,.func (fnOf "mask_goals" "mask_goals" (bh dg) (bf dg) (aj dg) .none kV18 dc18 pm18 an18 cd18 ct18),sl18⟩) (c18:CC K cd18 "mask_goals" = true) (k18:CB K (.ref f18)=true)
  (a19:nsIn K AL "ways_of" = some (some (.ref f19))) (l19:K.lookup f19=some ⟨oc19,od19,.func (fnOf "ways_of" "ways_of" (bh fu) (bf fu) (aj fu) .none kV19 dc19 pm19 an19 cd19 ct19),sl19⟩) (c19:CC K cd19 "ways_of" = true) (k19:CB K (.ref f19)=true)
  (a20:nsIn K AL "send_on" = some (some (.ref f20))) (l20:K.lookup f20=some ⟨oc20,od20,.func (fnOf "send_on" "send_on" (bh dm) (bf dm) (aj dm) .none kV20 dc20 pm20 an20 cd20 ct20),sl20⟩) (c20:CC K cd20 "send_on" = true) (k20:CB K (.ref f20)=true)
  (a21:nsIn K AL "come_to" = some (some (.ref f21))) (l21:K.lookup f21=some ⟨oc21,od21,.func (fnOf "come_to" "come_to" (bh dY) (bf dY) (aj dY) .none kV21 dc21 pm21 an21 cd21 ct21),sl21⟩) (c21:CC K cd21 "come_to" = true) (k21:CB K (.ref f21)=true)
  (a22:nsIn K AL "least_beyond" = some (some (.ref f22))) (l22:K.lookup f22=some ⟨oc22,od22,.func (fnOf "least_beyond" "least_beyond" (bh bW) (bf bW) (aj bW) .none kV22 dc22 pm22 an22 cd22 ct22),sl22⟩) (c22:CC K cd22 "least_beyond" = true) (k22:CB K (.ref f22)=true)
  (a23:nsIn K AL "beyond_among" = some (some (.ref f23))) (l23:K.lookup f23=some ⟨oc23,od23,.func (fnOf "beyond_among" "beyond_among" (bh bY) (bf bY) (aj bY) .none kV23 dc23 pm23 an23 cd23 ct23),sl23⟩) (c23:CC K cd23 "beyond_among" = true) (k23:CB K (.ref f23)=true)
  (a24:nsIn K AL "beyond_of" = some (some (.ref f24))) (l24:K.lookup f24=some ⟨oc24,od24,.func (fnOf "beyond_of" "beyond_of" (bh eN) (bf eN) (aj eN) .none kV24 dc24 pm24 an24 cd24 ct24),sl24⟩) (c24:CC K cd24 "beyond_of" = true) (k24:CB K (.ref f24)=true)
  (a25:nsIn K AL "_law_cell_at" = some (some (.ref f25))) (l25:K.lookup f25=some ⟨oc25,od25,.func (fnOf "_law_cell_at" "_law_cell_at" (bh iJ) (bf iJ) (aj iJ) .none kV25 dc25 pm25 an25 cd25 ct25),sl25⟩) (c25:CC K cd25 "_law_cell_at" = true) (k25:CB K (.ref f25)=true)
  (a26:nsIn K AL "_law_tape" = some (some (.ref f26))) (l26:K.lookup f26=some ⟨oc26,od26,.func (fnOf "_law_tape" "_law_tape" (bh jF) (bf jF) (aj jF) .none kV26 dc26 pm26 an26 cd26 ct26),sl26⟩) (c26:CC K cd26 "_law_tape" = true) (k26:CB K (.ref f26)=true)
  (a27:nsIn K AL "_law_take" = some (some (.ref f27))) (l27:K.lookup f27=some ⟨oc27,od27,.func (fnOf "_law_take" "_law_take" (bh jG) (bf jG) (aj jG) .none kV27 dc27 pm27 an27 cd27 ct27),sl27⟩) (c27:CC K cd27 "_law_take" = true) (k27:CB K (.ref f27)=true)
  (a28:nsIn K AL "_law_stretches" = some (some (.ref f28))) (l28:K.lookup f28=some ⟨oc28,od28,.func (fnOf "_law_stretches" "_law_stretches" (bh bI) (bf bI) (aj bI) .none kV28 dc28 pm28 an28 cd28 ct28),sl28⟩) (c28:CC K cd28 "_law_stretches" = true) (k28:CB K (.ref f28)=true)
  (a29:nsIn K AL "_law_span" = some (some (.ref f29))) (l29:K.lookup f29=some ⟨oc29,od29,.func (fnOf "_law_span" "_law_span" (bh pH) (bf pH) (aj pH) .none kV29 dc29 pm29 an29 cd29 ct29),sl29⟩) (c29:CC K cd29 "_law_span" = true) (k29:CB K (.ref f29)=true)
  (a30:nsIn K AL "_law_plan" = some (some (.ref f30))) (l30:K.lookup f30=some ⟨oc30,od30,.func (fnOf "_law_plan" "_law_plan" (bh cH) (bf cH) (aj cH) .none kV30 dc30 pm30 an30 cd30 ct30),sl30⟩) (c30:CC K cd30 "_law_plan" = true) (k30:CB K (.ref f30)=true)
  (a31:nsIn K AL "_law_beyond" = some (some (.ref f31))) (l31:K.lookup f31=some ⟨oc31,od31,.func (fnOf "_law_beyond" "_law_beyond" (bh fH) (bf fH) (aj fH) .none kV31 dc31 pm31 an31 cd31 ct31),sl31⟩) (c31:CC K cd31 "_law_beyond" = true) (k31:CB K (.ref f31)=true)
  (a32:nsIn K AL "_law_asked" = some (some (.ref f32))) (l32:K.lookup f32=some ⟨oc32,od32,.func (fnOf "_law_asked" "_law_asked" (bh dW) (bf dW) (aj dW) .none kV32 dc32 pm32 an32 cd32 ct32),sl32⟩) (c32:CC K cd32 "_law_asked" = true) (k32:CB K (.ref f32)=true)
  (a33:nsIn K AL "_law_within_right" = some (some (.ref f33))) (l33:K.lookup f33=some ⟨oc33,od33,.func (fnOf "_law_within_right" "_law_within_right" (bh bw) (bf bw) (aj bw) .none kV33 dc33 pm33 an33 cd33 ct33),sl33⟩) (c33:CC K cd33 "_law_within_right" = true) (k33:CB K (.ref f33)=true)
  (a34:nsIn K AL "_law_ends_right" = some (some (.ref f34))) (l34:K.lookup f34=some ⟨oc34,od34,.func (fnOf "_law_ends_right" "_law_ends_right" (bh bA) (bf bA) (aj bA) .none kV34 dc34 pm34 an34 cd34 ct34),sl34⟩) (c34:CC K cd34 "_law_ends_right" = true) (k34:CB K (.ref f34)=true)
  (a35:nsIn K AL "law" = some (some (.ref f35))) (l35:K.lookup f35=some ⟨oc35,od35,.func (fnOf "law" "law" (bh gW) (bf gW) (aj gW) .none kV35 dc35 pm35 an35 cd35 ct35),sl35⟩) (c35:CC K cd35 "law" = true) (k35:CB K (.ref f35)=true)
  (z1:nsIn K AL "abs" = some none)
  (z2:nsIn K AL "any" = some none)
  (z3:nsIn K AL "enumerate" = some none)
  (z4:nsIn K AL "int" = some none)
  (z5:nsIn K AL "len" = some none)
  (z6:nsIn K AL "list" = some none)
  (z7:nsIn K AL "max" = some none)
  (z8:nsIn K AL "min" = some none)
  (z9:nsIn K AL "range" = some none)
  (z10:nsIn K AL "sorted" = some none)
  (z11:nsIn K AL "sum" = some none)
  (z12:nsIn K AL "tuple" = some none)
  (z13:nsIn K AL "zip" = some none)
  (xBeyond:nsIn K AL "Beyond" = some (some (.ref aBeyond)))
  (xCaseError:nsIn K AL "CaseError" = some (some (.ref aCaseError)))
  (y1:K.lookup aBeyond=some (F6 nmB qB aBeyond NB bsB (.ref aCaseError::vbm) true snB subB abB colB ddB b0 b1 b2 b3 b5 "ValueError.__new__"))
  (y3:nsIn K NB "__init__" = some (some (.ref fI)))
  (y4:K.lookup fI=some ⟨.type "function",odI,.func (fnOf "__init__" "Beyond.__init__" (bh nW) (bf nW) (aj nW) .none kVI dcI pmI anI cdI ctI),slI⟩)
  (y5:CC K cdI "Beyond.__init__" = true)
  (y6:CB K (.ref fI)=true)
  (y7:CY K (.ref aBeyond) "__setattr__" = some (some (.builtin "object.__setattr__")))
  (y8:CY K (.ref aBeyond) "__getattribute__" = some (some (.builtin "BaseException.__getattribute__")))
  (y9:CY K (.ref aBeyond) "__getattr__" = some none)
  (y10:CY K (.ref aBeyond) "row" = some none)
  (y11:readsIn K aCaseError (.type "type")=true)
  (y12:PySem.W.specialIn K (.ref aCaseError) "__getattribute__" = some (some (.builtin "type.__getattribute__")))
  (y13:findCls K (.ref aCaseError) (.type "type") "__init__" = some (.val (.builtin "ValueError.__init__")))
  (y14:nsOkIn K NB=true)
  (y15:tailIn K vbm (.ref aCaseError::vbm)=true) :
  ∃fd:Co,(∀(s:AA)(v:An),BindsTo s fd ⟨[v],[]⟩ [("_law_script",v)])/\∀base:Heap,K.In base->base.Ns AL mg->cQ l.prog w K mg base CX0 20 fa fd ["_law_script"] (Le K):=by
 have e:=hfa.symm.trans (mg_of X G a35);cases e;have DNumbersAcross:=bU (st:=cR) (ps:=["stretches","left"]) X G a1 l1 c1 k1 fun _ _ _ _ _ _ us hl=>by obtain⟨z0,z1,rfl⟩:=ln2 hl;rfl
 have DLabelsLeft:=bU (st:=eZ) (ps:=["stretches","left"]) X G a2 l2 c2 k2 fun _ _ _ _ _ _ us hl=>by obtain⟨z0,z1,rfl⟩:=ln2 hl;rfl
 have DPlansIn:=bU (st:=dX) (ps:=["stretches","left","plan"]) X G a3 l3 c3 k3 fun _ _ _ _ _ _ us hl=>by obtain⟨z0,z1,z2,rfl⟩:=ln3 hl;rfl
 have DStepsOf:=bU (st:=dj) (ps:=["stretches","plan"]) X G a4 l4 c4 k4 fun _ _ _ _ _ _ us hl=>by obtain⟨z0,z1,rfl⟩:=ln2 hl;rfl
 have DPlacesAhead:=bU (st:=bV) (ps:=["steps"]) X G a5 l5 c5 k5 fun _ _ _ _ _ _ us hl=>by obtain⟨z0,rfl⟩:=ln1 hl;rfl
 have DLabelsLedTo:=bU (st:=cN) (ps:=["stretches","left","part"]) X G a6 l6 c6 k6 fun _ _ _ _ _ _ us hl=>by obtain⟨z0,z1,z2,rfl⟩:=ln3 hl;rfl
 have DPicksBehind:=bU (st:=bN) (ps:=["stretches","steps"]) X G a7 l7 c7 k7 fun _ _ _ _ _ _ us hl=>by obtain⟨z0,z1,rfl⟩:=ln2 hl;rfl
 have DMaskRow:=bU (st:=cT) (ps:=["stretches","left","label","goal"]) X G a8 l8 c8 k8 fun _ _ _ _ _ _ us hl=>by obtain⟨z0,z1,z2,z3,rfl⟩:=ln4 hl;rfl
 have DTableRow:=bU (st:=cY) (ps:=["stretches","left","picks"]) X G a9 l9 c9 k9 fun _ _ _ _ _ _ us hl=>by obtain⟨z0,z1,z2,rfl⟩:=ln3 hl;rfl
 have DRowOf:=bU (st:=fQ) (ps:=["stretches","left","part","ahead","picks"]) X G a10 l10 c10 k10 fun _ _ _ _ _ _ us hl=>by obtain⟨z0,z1,z2,z3,z4,rfl⟩:=ln5 hl;rfl
 have DRowsOf:=bU (st:=cM) (ps:=["stretches","plan"]) X G a11 l11 c11 k11 fun _ _ _ _ _ _ us hl=>by obtain⟨z0,z1,rfl⟩:=ln2 hl;rfl
 have DEndsOf:=bU (st:=lQ) (ps:=["row"]) X G a12 l12 c12 k12 fun _ _ _ _ _ _ us hl=>by obtain⟨z0,rfl⟩:=ln1 hl;rfl
 have DHolds:=bU (st:=pI) (ps:=["row","number"]) X G a13 l13 c13 k13 fun _ _ _ _ _ _ us hl=>by obtain⟨z0,z1,rfl⟩:=ln2 hl;rfl
 have DRowBehind:=bU (st:=cI) (ps:=["rows","at","number"]) X G a14 l14 c14 k14 fun _ _ _ _ _ _ us hl=>by obtain⟨z0,z1,z2,rfl⟩:=ln3 hl;rfl
 have DRun:=bU (st:=yV) (ps:=["rows","number"]) X G a15 l15 c15 k15 fun _ _ _ _ _ _ us hl=>by obtain⟨z0,z1,rfl⟩:=ln2 hl;rfl
 have DJoined:=bU (st:=gU) (ps:=["spans"]) X G a16 l16 c16 k16 fun _ _ _ _ _ _ us hl=>by obtain⟨z0,rfl⟩:=ln1 hl;rfl
 have DRunsOf:=bU (st:=gR) (ps:=["first","goals"]) X G a17 l17 c17 k17 fun _ _ _ _ _ _ us hl=>by obtain⟨z0,z1,rfl⟩:=ln2 hl;rfl
 have DMaskGoals:=bU (st:=dg) (ps:=["row","at"]) X G a18 l18 c18 k18 fun _ _ _ _ _ _ us hl=>by obtain⟨z0,z1,rfl⟩:=ln2 hl;rfl
 have DWaysOf:=bU (st:=fu) (ps:=["row","at","low","high"]) X G a19 l19 c19 k19 fun _ _ _ _ _ _ us hl=>by obtain⟨z0,z1,z2,z3,rfl⟩:=ln4 hl;rfl
 have DSendOn:=bU (st:=dm) (ps:=["reached","spans","ways"]) X G a20 l20 c20 k20 fun _ _ _ _ _ _ us hl=>by obtain⟨z0,z1,z2,rfl⟩:=ln3 hl;rfl
 have DComeTo:=bU (st:=dY) (ps:=["rows","low","high"]) X G a21 l21 c21 k21 fun _ _ _ _ _ _ us hl=>by obtain⟨z0,z1,z2,rfl⟩:=ln3 hl;rfl
 have DLeastBeyond:=bU (st:=bW) (ps:=["row","spans"]) X G a22 l22 c22 k22 fun _ _ _ _ _ _ us hl=>by obtain⟨z0,z1,rfl⟩:=ln2 hl;rfl
 have DBeyondAmong:=bU (st:=bY) (ps:=["rows","reached"]) X G a23 l23 c23 k23 fun _ _ _ _ _ _ us hl=>by obtain⟨z0,z1,rfl⟩:=ln2 hl;rfl
 have DBeyondOf:=bU (st:=eN) (ps:=["rows","low","high"]) X G a24 l24 c24 k24 fun _ _ _ _ _ _ us hl=>by obtain⟨z0,z1,z2,rfl⟩:=ln3 hl;rfl
 have DZCellAt:=bU (st:=iJ) (ps:=["_law_script","_law_k"]) X G a25 l25 c25 k25 fun _ _ _ _ _ _ us hl=>by obtain⟨z0,z1,rfl⟩:=ln2 hl;rfl
 have DZTape:=bU (st:=jF) (ps:=["_law_script","_law_k"]) X G a26 l26 c26 k26 fun _ _ _ _ _ _ us hl=>by obtain⟨z0,z1,rfl⟩:=ln2 hl;rfl
 have DZTake:=bU (st:=jG) (ps:=["_law_tape_here","_law_many"]) X G a27 l27 c27 k27 fun _ _ _ _ _ _ us hl=>by obtain⟨z0,z1,rfl⟩:=ln2 hl;rfl
 have DZStretches:=bU (st:=bI) (ps:=["_law_tape_here","_law_many"]) X G a28 l28 c28 k28 fun _ _ _ _ _ _ us hl=>by obtain⟨z0,z1,rfl⟩:=ln2 hl;rfl
 have DZSpan:=bU (st:=pH) (ps:=["_law_stretches_here","_law_left"]) X G a29 l29 c29 k29 fun _ _ _ _ _ _ us hl=>by obtain⟨z0,z1,rfl⟩:=ln2 hl;rfl
 have DZPlan:=bU (st:=cH) (ps:=["_law_tape_here","_law_stretches_here","_law_left"]) X G a30 l30 c30 k30 fun _ _ _ _ _ _ us hl=>by obtain⟨z0,z1,z2,rfl⟩:=ln3 hl;rfl
 have DZBeyond:=bU (st:=fH) (ps:=["_law_rows","_law_number"]) X G a31 l31 c31 k31 fun _ _ _ _ _ _ us hl=>by obtain⟨z0,z1,rfl⟩:=ln2 hl;rfl
 have DZAsked:=bU (st:=dW) (ps:=["_law_stretches_here"]) X G a32 l32 c32 k32 fun _ _ _ _ _ _ us hl=>by obtain⟨z0,rfl⟩:=ln1 hl;rfl
 have DZWithinRight:=bU (st:=bw) (ps:=["_law_rows","_law_low","_law_high"]) X G a33 l33 c33 k33 fun _ _ _ _ _ _ us hl=>by obtain⟨z0,z1,z2,rfl⟩:=ln3 hl;rfl
 have DZEndsRight:=bU (st:=bA) (ps:=["_law_rows","_law_low","_law_high"]) X G a34 l34 c34 k34 fun _ _ _ _ _ _ us hl=>by obtain⟨z0,z1,z2,rfl⟩:=ln3 hl;rfl
 have DLaw:=bU (st:=gW) (ps:=["_law_script"]) X G a35 l35 c35 k35 fun _ _ _ _ _ _ us hl=>by obtain⟨z0,rfl⟩:=ln1 hl;rfl
 have hB:∀x:Str,x∈BLs->mg x=none:=by
  intro x hx;replace hx:x∈(["abs","any","enumerate","int","len","list","max","min","range","sorted","sum","tuple","zip"]:List Str):=hx;simp only[AO,BE,or_false] at hx;rcases hx with rfl|rfl|rfl|rfl|rfl|rfl|rfl|rfl|rfl|rfl|rfl|rfl|rfl
  ·exact D2 X G z1
  ·exact D2 X G z2
  ·exact D2 X G z3
  ·exact D2 X G z4
  ·exact D2 X G z5
  ·exact D2 X G z6
  ·exact D2 X G z7
  ·exact D2 X G z8
  ·exact D2 X G z9
  ·exact D2 X G z10
  ·exact D2 X G z11
  ·exact D2 X G z12
  exact D2 X G z13
 refine⟨fnOf "law" "law" (bh gW) (bf gW) (aj gW) .none kV35 dc35 pm35 an35 cd35 ct35,fun s v=>.of_eq rfl,fun base kb nb=>?_⟩;have CCell:=DZCellAt.cal (Yj (P:=l.prog) (w:=w) (base:=base) hB DZCellAt.fn);have CTape:=DZTape.cal (X8 hB CCell DZTape.fn);have CTake0:=DZTake.cal (Ny (P:=l.prog) (w:=w) (mg:=mg) (base:=base));have CTake1:=DZTake.cal (Mh (n:=0) hB δ CTake0 DZTake.fn);have CTake2:=DZTake.cal (Mh (n:=1) hB δ CTake1 DZTake.fn);have CSts:=DZStretches.cal (aaM hB CTake2 DZStretches.fn);have CIn:=DPlansIn.cal (JD (P:=l.prog) (w:=w) (base:=base) hB DPlansIn.fn);have CSteps:=DStepsOf.cal (T5 hB CIn DStepsOf.fn);have CAcross:=DNumbersAcross.cal (O1 (P:=l.prog) (w:=w) (base:=base) hB DNumbersAcross.fn);have CAhead:=DPlacesAhead.cal (Ug (P:=l.prog) (w:=w) (base:=base) hB DPlacesAhead.fn);have CLabs:=DLabelsLeft.cal (Yg (P:=l.prog) (w:=w) (base:=base) hB DLabelsLeft.fn);have CLed:=DLabelsLedTo.cal (aaO hB CLabs DLabelsLedTo.fn);have CPicks:=DPicksBehind.cal (Oz hB CLed DPicksBehind.fn);have CMaskR:=DMaskRow.cal (T7 hB CAcross DMaskRow.fn);have CTabR:=DTableRow.cal (Ow (P:=l.prog) (w:=w) (base:=base) hB DTableRow.fn);have CRowOf:=DRowOf.cal (T6 hB CTabR CMaskR DRowOf.fn);have CRowsOf:=DRowsOf.cal (Ox hB CSteps CAhead CPicks CRowOf DRowsOf.fn);have CSpan:=DZSpan.cal (Yb (P:=l.prog) (w:=w) (base:=base) hB DZSpan.fn);have CPlan:∀n,Cal l.prog w K mg base "_law_plan" (n+2) q0_ (qM n):=by
  intro n
  induction n with
  | zero=>exact DZPlan.cal (Oi (P:=l.prog) (w:=w) (mg:=mg) (base:=base))
  | succ n ih=>exact DZPlan.cal (Ye hB CTake2 CSpan ih DZPlan.fn)
 have CJn:=DJoined.cal (OJ (P:=l.prog) (w:=w) (base:=base) hB DJoined.fn);have CRo:=DRunsOf.cal (Yd (P:=l.prog) (w:=w) (base:=base) hB DRunsOf.fn);have CMg:=DMaskGoals.cal (T8 (P:=l.prog) (w:=w) (base:=base) hB DMaskGoals.fn);have CWo:=DWaysOf.cal (X7 hB CRo CMg DWaysOf.fn);have CSo:=DSendOn.cal (Yc (P:=l.prog) (w:=w) (base:=base) hB DSendOn.fn);have CCt:=DComeTo.cal (Yi hB CJn CWo CSo DComeTo.fn);have CEnds:=DEndsOf.cal (Yh (P:=l.prog) (w:=w) (base:=base) hB DEndsOf.fn);have CLb:=DLeastBeyond.cal (T9 hB CEnds DLeastBeyond.fn);have CBa:=DBeyondAmong.cal (Ue hB CLb DBeyondAmong.fn);have CBo:=DBeyondOf.cal (Uc hB CCt CBa DBeyondOf.fn);have CHolds:=DHolds.cal (ok_holds (P:=l.prog) (w:=w) (base:=base) hB DHolds.fn);have XC:rK K aBeyond aCaseError NB fI:=⟨⟨_,_,_,_,_,_,_,_,_,_,_,_,_,y1⟩,y15,y14,y3,y7,y8,y9⟩;have XD:XBase K aCaseError:=⟨y11,y12,y13⟩;have cD:=mg_of X G xCaseError;have FI:=Km (st:=nW) y4 y5 y6;have CInit:=Ub (P:=l.prog) (w:=w) (base:=base) XC XD cD y10 FI;have XB:aby l.prog w K mg base "Beyond" aBeyond aCaseError 1 ["self","row"] (yH aBeyond "row"):=⟨NB,fI,_,XC,CInit,FI.binds (ps:=["self","row"]) fun _ _ _ _ _ _ us hl=>match us,hl with | [_,_],_=>rfl,⟨_,y4,rfl⟩,mg_of X G xBeyond⟩
 have CBeh:=DRowBehind.acq (JC hB XB CEnds CHolds DRowBehind.fn);have CRun:=DRun.acq (aaN hB CBeh DRun.fn);have CLB:=DZBeyond.cal (ab7 hB XC y10 (mg_of X G xBeyond) CRun DZBeyond.fn);have CAsk:=DZAsked.cal (Ud (P:=l.prog) (w:=w) (base:=base) hB DZAsked.fn);have CWR:=DZWithinRight.cal (CJ hB CCt DZWithinRight.fn);have CER:=DZEndsRight.cal (Ua hB CLB CBo DZEndsRight.fn);exact aaP hB CTape CTake2 CSts (CPlan 10) CRowsOf CBo CWR CAsk CLB CER DLaw.fn
theorem walk {l:PySem.W.OpenLaw}{q:AW}{loose:List Str}{XP:(Str->Option An)->Heap->Prop}{YP:BB->Heap->Prop}{d:DefRec}{K:Params->AD}(hn:l.most=some 63)(hdf:d.params.defaults=[])
  (hY:∀(w:BB)(h:Heap),YP w h->(K w.params).In h)
  (F:∀(w:BB)(mg:Str->Option An)(fa:Addr)(h:Heap),(K w.params).In h->h.Ns AL mg->mg d.name=some (.ref fa) ->
   ∃fd:Co,(∀(s:AA)(u:An),BindsTo s fd ⟨[u],[]⟩ [("_law_script",u)])/\∀base:Heap,(K w.params).In base->base.Ns AL mg->cQ l.prog w (K w.params) mg base CX0 20 fa fd ["_law_script"] (Le (K w.params))) :
  PySem.W.WalkO q loose XP YP l.row.toRowW d [] (fun f vs=>PySem.call f vs):=
 L2.Wg (n:=63) (k:=20) (x := "_law_script") (CX:=fun _=>CX0) (sp:=fun w=>Le (K w.params)) hn δ hdf ⟨rfl,δ,δ,rfl⟩ hY F (fun _ _ a ns hl _ hS=>⟨a,ns,rfl,hS,hl,fun _=>rfl⟩) fun _ _ _ _ _ z=>z
end K65
namespace PySem.W.Fast
theorem tw10252035398276675047:True:=⟨⟩
theorem tw10273501852092029198:True:=⟨⟩
theorem tw10284284123070299942:True:=⟨⟩
theorem tw10537126740682914509:True:=⟨⟩
theorem tw11140453509107947862:True:=⟨⟩
theorem tw11748842999330507995:True:=⟨⟩
theorem tw12872585659435606757:True:=⟨⟩
theorem tw13273183635033617795:True:=⟨⟩
theorem tw13470835958014309393:True:=⟨⟩
theorem tw14697246313023864114:True:=⟨⟩
theorem tw14744633842739884856:True:=⟨⟩
theorem tw14873921673832607759:True:=⟨⟩
theorem tw14926630883858893351:True:=⟨⟩
theorem tw15064437298439674881:True:=⟨⟩
theorem tw16041932813566773281:True:=⟨⟩
theorem tw16061187742038916751:True:=⟨⟩
theorem tw16373775955307691523:True:=⟨⟩
theorem tw17093046258719180763:True:=⟨⟩
theorem tw17130988233934417380:True:=⟨⟩
theorem tw17569458485998970993:True:=⟨⟩
theorem tw17665063304808484135:True:=⟨⟩
theorem tw17678373811685809325:True:=⟨⟩
theorem tw18230705453783938687:True:=⟨⟩
theorem tw18386075164059700483:True:=⟨⟩
theorem tw2160553132072567835:True:=⟨⟩
theorem tw265513345365269542:True:=⟨⟩
theorem tw2922073062878566037:True:=⟨⟩
theorem tw3588981447261484086:True:=⟨⟩
theorem tw3649112626782611387:True:=⟨⟩
theorem tw3822966432516230844:True:=⟨⟩
theorem tw4296596850115274619:True:=⟨⟩
theorem tw4413174408253979675:True:=⟨⟩
theorem tw4463312028131827484:True:=⟨⟩
theorem tw4992561531984572114:True:=⟨⟩
theorem tw5004517708737654618:True:=⟨⟩
theorem tw507035284368057421:True:=⟨⟩
theorem tw5162396993015875987:True:=⟨⟩
theorem tw5223160489573992293:True:=⟨⟩
theorem tw5632625338963808446:True:=⟨⟩
theorem tw5796740439865797486:True:=⟨⟩
theorem tw5912254274300815663:True:=⟨⟩
theorem tw6148393866746864039:True:=⟨⟩
theorem tw7139859563745051725:True:=⟨⟩
theorem tw7296137555336186393:True:=⟨⟩
theorem tw7581382008575262175:True:=⟨⟩
theorem tw8278122460145516763:True:=⟨⟩
theorem tw8486374167947568233:True:=⟨⟩
theorem tw8527327424046127735:True:=⟨⟩
theorem tw8864360591941769662:True:=⟨⟩
theorem tw9332842125903041347:True:=⟨⟩
end PySem.W.Fast
open PySem PySem.W PyProof.Rows
set_option maxRecDepth 100000 in
set_option maxHeartbeats 0 in
theorem PySem.Challenge.cw_caseways_k65_whole_nothing_read_beyond_holds : PySem.Challenge.rw_caseways_k65_whole_nothing_read_beyond.Holds := by
 w_on; o_law; k_head; (case hw=>w_witness2)
 k_fill
 refine K65.walk (l:=PySem.Challenge.rw_caseways_k65_whole_nothing_read_beyond) rfl rfl (fun w h Y=>PySem.W.kIn_of Y) ?F
 case F=>
  intro w mg fa h KX G hmg
  refine' K65.all_mk KX G hmg ?a1 ?l1 ?c1 ?k1 ?a2 ?l2 ?c2 ?k2 ?a3 ?l3 ?c3 ?k3 ?a4 ?l4 ?c4 ?k4 ?a5 ?l5 ?c5 ?k5 ?a6 ?l6 ?c6 ?k6 ?a7 ?l7 ?c7 ?k7 ?a8 ?l8 ?c8 ?k8 ?a9 ?l9 ?c9 ?k9 ?a10 ?l10 ?c10 ?k10 ?a11 ?l11 ?c11 ?k11 ?a12 ?l12 ?c12 ?k12 ?a13 ?l13 ?c13 ?k13 ?a14 ?l14 ?c14 ?k14 ?a15 ?l15 ?c15 ?k15 ?a16 ?l16 ?c16 ?k16 ?a17 ?l17 ?c17 ?k17 ?a18 ?l18 ?c18 ?k18 ?a19 ?l19 ?c19 ?k19 ?a20 ?l20 ?c20 ?k20 ?a21 ?l21 ?c21 ?k21 ?a22 ?l22 ?c22 ?k22 ?a23 ?l23 ?c23 ?k23 ?a24 ?l24 ?c24 ?k24 ?a25 ?l25 ?c25 ?k25 ?a26 ?l26 ?c26 ?k26 ?a27 ?l27 ?c27 ?k27 ?a28 ?l28 ?c28 ?k28 ?a29 ?l29 ?c29 ?k29 ?a30 ?l30 ?c30 ?k30 ?a31 ?l31 ?c31 ?k31 ?a32 ?l32 ?c32 ?k32 ?a33 ?l33 ?c33 ?k33 ?a34 ?l34 ?c34 ?k34 ?a35 ?l35 ?c35 ?k35 ?z1 ?z2 ?z3 ?z4 ?z5 ?z6 ?z7 ?z8 ?z9 ?z10 ?z11 ?z12 ?z13 ?xBeyond ?xCaseError ?y1 ?y3 ?y4 ?y5 ?y6 ?y7 ?y8 ?y9 ?y10 ?y11 ?y12 ?y13 ?y14 ?y15
  case a1|l1|c1|k1|a2|l2|c2|k2|a3|l3|c3|k3|a4|l4|c4|k4|a5|l5|c5|k5|a6|l6|c6|k6|a7|l7|c7|k7|a8|l8|c8|k8|a9|l9|c9|k9|a10|l10|c10|k10|a11|l11|c11|k11|a12|l12|c12|k12|a13|l13|c13|k13|a14|l14|c14|k14|a15|l15|c15|k15|a16|l16|c16|k16|a17|l17|c17|k17|a18|l18|c18|k18|a19|l19|c19|k19|a20|l20|c20|k20|a21|l21|c21|k21|a22|l22|c22|k22|a23|l23|c23|k23|a24|l24|c24|k24|a25|l25|c25|k25|a26|l26|c26|k26|a27|l27|c27|k27|a28|l28|c28|k28|a29|l29|c29|k29|a30|l30|c30|k30|a31|l31|c31|k31|a32|l32|c32|k32|a33|l33|c33|k33|a34|l34|c34|k34|a35|l35|c35|k35|z1|z2|z3|z4|z5|z6|z7|z8|z9|z10|z11|z12|z13=>k_is
  case xBeyond|xCaseError|y1|y3|y4|y5|y6|y7|y8|y9|y10|y11|y12|y13|y14|y15=>first | k_is | rfl | (with_unfolding_all rfl) | decide +kernel
#print axioms PySem.Challenge.cw_caseways_k65_whole_nothing_read_beyond_holds
