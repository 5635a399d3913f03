import PyProof.Rows.All
import Wide.All
import OpenK.AllK
import Wide.FinOn
import PyProof.EqAt
import PyProof.EqKinds
import PyProof.TupleCall
import KE.BitLaws
import Open.SpecLaws
import KE.OsHead
import KE.OsGo
import PyProof.Rows.SortG.SortRunsSt
import KE.KSortTup
import PyProof.FactsAll.list_2
import PyProof.P3In
import PyProof.InstStoreFacts
import PyProof.InstLoad
import PyProof.ExcArgsOwn
import PyProof.ExcInit
import PyProof.ExcBaseAll.Exception
import PyProof.RaisesMany
import PyProof.ExcClass
import PyProof.Commute
import PyProof.EnumMake
import PyProof.EnumStmt
import PyProof.EnumIter
import PyProof.CallType
import PyProof.DictItems
import KE.KSortKeySt
import PyProof.Rows.CallKwBuiltin
import KE.KDictSum
import KE.KLam
import KE.KNestM
import PyProof.RulesAs
import PySem.Challenge.RW_readingways_s01_answers
set_option Elab.async false
set_option linter.all false
set_option bootstrap.genMatcherCode false
set_option compiler.extract_closed false
set_option maxRecDepth 100000
set_option tactic.hygienic false
set_option maxHeartbeats 4000000
def Ca:=@PySem.wpAny_bind
def Cb:=@List.length_map
def Cc:=@if_neg
def Cd:=@List.length_cons
def Ce:=@if_pos
def Cf:=@List.mem_cons_self
def Cg:=@List.mem_cons_of_mem
def Ch:=@PySem.Heap.get?_push_of_some
def Ci:=@List.length_append
def Cj:=@List.getElem?_eq_some_iff
def Ck:=@PySem.wpAny_pure
def Cl:=@Nat.le_refl
def Cm:=@List.mem_singleton
def Cn:=@Bool.and_eq_true
def Co:=@of_decide_eq_true
def Cp:=@List.mem_cons
def Cq:=@List.getD_eq_getElem?_getD
def Cr:=@PySem.Paired.length
def Cs:=@Option.some.inj
def Ct:=@List.length_nil
def Cu:=@PySem.Heap.lt_size
def Cv:=@PySem.Heap.get?_push_size
def Cw:=@List.mem_of_getElem?
def Cy:=@List.size_toArray
def Cz:=@List.getElem?_eq_getElem
def C3:=@decide_eq_true
def C4:=@Nat.zero_le
def C5:=@Option.bind_some
def C6:=@List.map_cons
def C7:=@Bool.false_ne_true
def C8:=@Bool.eq_iff_iff
def C9:=@Nat.lt_of_lt_of_le
def Da:=@Nat.le_trans
def Db:=@List.length_drop
def Dc:=@List.map_append
def Dd:=@decide_eq_true_eq
def De:=@PySem.F.plainAttrs_list
def Df:=@PySem.PassesOwn.never
def Dg:=@List.take_length
def Dh:=@List.mem_map
def Di:=@Nat.ne_of_lt
def Dj:=@Ne.symm
def Dk:=@List.all_eq_true
def Dl:=@List.flatMap_cons
def Dm:=@PySem.F.slot_list_append
def Dn:=@PySem.F.type_list_append
def Do:=@PySem.mem_of_lookup
def Dq:=@List.length_take
def Dr:=@List.pairwise_cons
def Ds:=@List.mem_append
def Dt:=@Int.toNat_natCast
def Du:=@List.length_replicate
def Dv:=@Bool.false_and
def Dx:=@List.mem_filter
def Dy:=@Option.map_some
def Dz:=@List.getElem?_map
def D0:=@List.filter_cons
def D1:=@List.mem_append_right
def D3:=@PySem.wpAny_loadPart'
def D4:=@List.map_map
def D5:=@List.append_nil
def D6:=@List.take_of_length_le
def D7:=@congrArg
def D8:=@beq_iff_eq
def D9:=@Array.getElem?_eq_some_iff
def Fa:=@Bool.true_and
def Fb:=@PySem.Heap.size_push
def Fc:=@Array.perm_iff_toList_perm
def Fd:=@PySem.wpAny_mono
def Fe:=@List.append_assoc
def Ff:=@Or.inl
def Fg:=@PySem.Heap.SameBut.update
def Fh:=@List.map_congr_left
def Fi:=@List.foldl_cons
def Fj:=@Option.map_none
def Fk:=@PySem.wpAny_truthy_bool
def Fl:=@Array.getElem?_eq_getElem
def Fm:=@PySem.wpAny_Call_Name_kw
def Fn:=@List.drop_of_length_le
def Fo:=@PySem.wpAny_setField_rec
def Fp:=@List.drop_length
def Fq:=@Bool.not_eq_true
def Fs:=@Nat.ne_of_gt
def Ft:=@PySem.wpAny_callSpecial?_slot
def Fu:=@Bool.false_eq_true
def Fv:=@decide_eq_false
def Fw:=@PySem.Heap.get?_update_other
def Fx:=@PySem.wpAny_call_entry
def Fy:=@Nat.zero_add
def Fz:=@List.drop_eq_getElem_cons
def F0:=@List.flatMap_append
def F1:=@PySem.wpAny_newObj_type
def F2:=@PySem.wpAny_loadPart_at
def F3:=@List.length_filter_le
def F4:=@PySem.wpAny_holding
def F5:=@Nat.le_of_lt
def F6:=@List.drop_eq_nil_iff
def F7:=@PySem.wpAny_field
def F8:=@PyProof.Rows.callWith_type1
def F9:=@List.pairwise_map
def Ga:=@List.replicate_succ
def Gb:=@PySem.sizeLine_eq
def Gc:=@List.filter_map
def Ge:=@PySem.Heap.get?_update_self
def Gf:=@List.lookup_cons
def Gg:=@PySem.wpAny_typeNameOfWhole_itemiter
def Gh:=@Nat.lt_irrefl
def Gi:=@PySem.Sem.wp_bind'
def Gj:=@Bool.and_false
def Gk:=@PySem.wpAny_typeNameOfWhole_keyiter
def Gm:=@PySem.wpAny_of_eq
def Gn:=@PySem.wpAny_dictEntries
def Go:=@List.pairwise_singleton
def Gp:=@Bool.or_eq_true
def Gq:=@List.find?_cons
def Gr:=@Array.length_toList
def Gs:=@if_false
def Gu:=@List.getElem?_set_self
def Gv:=@Array.getElem?_eq_none
def Gw:=@List.head?_eq_getElem?
def Gx:=@List.mem_flatMap
def Gy:=@List.mem_range
def Gz:=@List.getElem?_append_right
def G0:=@PySem.Obj.data_mapFields
def G1:=@List.drop_zero
def G2:=@List.pairwise_iff_getElem
def G3:=@PySem.wpAny_typeNameOf_itemiter
def G4:=@List.mem_of_find?_eq_some
def G5:=@PySem.wpAny_passesOwn
def G6:=@List.cons.injEq
def G7:=@Nat.min_eq_left
def G8:=@List.mem_append_left
def G9:=@PySem.codeAny_mono
def Ja:=@List.flatten_cons
def Jb:=@PySem.wpAny_typeLookup_exc
def Jc:=@List.foldl_append
def Jd:=@Bool.not_eq_true'
def Je:=@PySem.wpAny_typeNameOf_keyiter
def Jf:=@List.all_cons
def Jg:=@PySem.plainObj_wpAny_Assign_Attribute
def Jh:=@List.drop_succ_cons
def Ji:=@List.any_eq_true
def Jj:=@List.length_eq_zero_iff
def Jk:=@List.flatMap_nil
def Jl:=@Option.map_eq_some_iff
def Jm:=@PySem.wpAny_isOneOf_itemiter
def Jn:=@List.filter_append
def Jo:=@List.find?_eq_none
def Jp:=@List.of_mem_zip
def Jq:=@List.nil_append
def Jr:=@PySem.wpAny_dictEpoch
def Js:=@PyProof.Rows.get?_update_seq
def Jt:=@PySem.wpAny_attempt
def Ju:=@PyProof.Rows.listUpdate_at
def Jv:=@List.getElem?_eq_none
def Jw:=@PySem.Obj.isFreed_of_fields
def Jx:=@PySem.builtinLookup_eq_fast
def Jy:=@List.contains_iff_mem
def Jz:=@Option.some.injEq
def J8:=@Nat.lt_succ_of_lt
def J9:=@PySem.wpAny_fieldsOf
def La:=@PySem.wpAny_setField
def Lb:=@Bool.and_eq_true_iff
def Lc:=@List.mem_of_mem_drop
def Ld:=@PySem.codeAny_call_builtin
def Le:=@List.Pairwise.filter
def Lf:=@if_true
def Lg:=@List.mem_reverse
def Lh:=@PySem.W.kat_cons
def Li:=@List.filterMap_cons
def Lj:=@List.toList_toArray
def Lk:=@Int.toNat_of_nonneg
def Ll:=@PySem.wpAny_standAt
def Lm:=@PySem.wpAny_execs_nil
def Ln:=@List.all_append
def Lo:=@List.length_zip
def Lp:=@PySem.W.kat_yes
def Lq:=@bne_iff_ne
namespace L2
open PySem PySem.Spec PyProof.Rows
noncomputable def jaz (s:Stmt) (j:Nat):Stmt:=match s with
 | .ClassDef _ _ _ body _ _ _ _ _ _ _=>body.getD j (.Pass ⟨0,0,0,0⟩)
 | _=>.Pass ⟨0,0,0,0⟩
noncomputable def jbd (s:Stmt):Arguments:=match s with
 | .FunctionDef _ a _ _ _ _ _ _ _ _=>a
 | _=>{ posonlyargs:=[],args:=[],vararg:=none,kwonlyargs:=[],kw_defaults:=[],kwarg:=none,defaults:=[] }
noncomputable def zu (s:Stmt):List Stmt:=match s with
 | .FunctionDef _ _ b _ _ _ _ _ _ _=>b
 | _=>[]
noncomputable def jm (s:Stmt):Scope:=match s with
 | .FunctionDef _ _ _ _ _ _ sc _ _ _=>sc
 | _=>{ kind:=.function,names:=[],isGenerator:=false,isCoroutine:=false }
end L2
namespace Rw
open PySem PySem.Spec PyProof.Rows L2
open PySem.W (Frag)
noncomputable def top (i:Nat):Stmt:=PySem.Challenge.pw_readingways_s01_answers.main.body.getD i (.Pass ⟨0,0,0,0⟩)
noncomputable abbrev jfr:Stmt:=jaz (top 1) 0
noncomputable abbrev jfs:Stmt:=jaz (top 17) 0
noncomputable abbrev jgE:Stmt:=jaz (top 40) 0
noncomputable abbrev jdM:Stmt:=jaz (top 85) 0
noncomputable abbrev jgC:Stmt:=jaz (top 90) 0
noncomputable abbrev jgD:Stmt:=jaz (top 101) 0
noncomputable abbrev jcQ:Stmt:=jaz (top 101) 1
noncomputable abbrev jbF:Stmt:=jaz (top 101) 2
noncomputable abbrev jcR:Stmt:=jaz (top 101) 3
noncomputable abbrev bmE:List Value:=[.type "Exception",.type "BaseException",.type "object"]
noncomputable def jn1 (K:Frag) (C fI:Addr):Bool:=match K.lookup C with
 | some ⟨.type "type",_,.cls cd,sl⟩=>(match cd.mro,sl.toList with
  | .ref C' :: bm,[_,_,_,_,some (.builtin n),_]=>C' == C && (!cd.hasDel && (bm == bmE && (n == "Exception.__new__" && (cd.hasDict && (PySem.W.nsOkIn K cd.ns && (PySem.W.nsIn K cd.ns "__init__" == some (some (.ref fI)) && (PySem.W.nsIn K cd.ns "__setattr__" == some none &&
    (PySem.W.nsIn K cd.ns "line" == some none && (PySem.W.nsIn K cd.ns "kind" == some none && (PySem.W.nsIn K cd.ns "__getattribute__" == some none && PySem.W.nsIn K cd.ns "__getattr__" == some none))))))))))
  | _,_=>false)
 | _=>false
noncomputable def jhS (K:Frag):Bool:=match PySem.W.tabIn K "ways_in_order" with
 | some (c,P)=>PySem.W.codeHdIn K c P && (K.lookup P).isNone
 | none=>false
end Rw
namespace Hd
set_option tactic.hygienic true
open PySem PySem.Spec PyProof.Rows L2 Rw
open PySem.W
noncomputable def topRunT (tb:String→Option Builtin) (p:Program) (w:World) (n₀:Nat) (ann:Option Value):Nat→SharedT→Thread→Option SharedT
 | 0,_,_=>none
 | n+1,s,t=>match through t with
  | true=>some s
  | false=>match stepOk n₀ ann t with
   | false=>none
   | true=>match stepT (denote tb) p w s t with
    | some (s',t')=>topRunT tb p w n₀ ann n s' t'
    | none=>none
theorem topRun_of {tb:String→Option Builtin} {p:Program} {w:World} {n₀:Nat} {ann:Option Value}:∀ {n:Nat} {s s':SharedT} {t:Thread},topRunT tb p w n₀ ann n s t=some s'→topRun tb p w n₀ ann n s.abs t=some s'.abs
 | 0,_,_,_,h=>by cases h
 | n+1,s,s',t,h=>by
  unfold topRunT at h
  unfold topRun
  cases he:through t with
  | true=>rw [he] at h;cases h;rfl
  | false =>
   rw [he] at h
   cases hk:stepOk n₀ ann t with
   | false=>rw [hk] at h;cases h
   | true =>
    rw [hk] at h
    cases hs:stepT (denote tb) p w s t with
    | none=>rw [hs] at h;cases h
    | some r=>obtain ⟨s₂,t₂⟩:=r;rw [hs] at h;rw [stepT_spec hs];exact topRun_of h
noncomputable def ofL:List Obj→Nat→BT→BT
 | [],_,t=>t
 | o :: r,i,t=>ofL r (i+1) (t.ins i o)
noncomputable def T0 (P:Params) (os:OsState):SharedT:=⟨ofL (boot_heap P).objs.toList 0 .nil,(boot_heap P).objs.size,(boot_heap P).life,#[],boot_drawn,boot_toks,os⟩
noncomputable def vwP (p:Program):Program:={ p with main:={ p.main with body:=[102,100,89,82,67,52,48,37,28,16,2,0].foldl List.eraseIdx p.main.body } }
noncomputable abbrev pw:=PySem.Challenge.pw_readingways_s01_answers
noncomputable def tRun (p:Program) (w:World) (os:OsState):Option SharedT:=topRunT treeTable p w 11 (some (.ref 6)) 8118 (T0 w.params os) (topStub p)
noncomputable def kOk (a:Addr) (o:Obj):Bool:=match o.cls with|.none=>a == cStatics || a == mainNs|_=>true
noncomputable def kOf (h:Heap):Frag:=(List.range h.objs.size).filterMap fun a=>match h.get? a with|some o=>if kOk a o then some (a,o) else none|none=>none
theorem kOf_in (h:Heap):(kOf h).In h:=by
 intro a o e
 unfold kOf at e
 generalize List.range h.objs.size=l at e
 induction l with
 | nil=>cases e
 | cons b r ih =>
  rw [Li] at e
  split at e
  ·exact ih e
  ·rename_i z hz
   split at hz
   ·rename_i o' ho
    split at hz
    ·cases hz
     rw [Gf] at e
     split at e
     ·rename_i q
      cases e
      rw [eq_of_beq q]
      exact ho
     ·exact ih e
    ·cases hz
   ·cases hz
noncomputable abbrev FT:=Option (Str×Str×Arguments×FuncBody×Scope×Addr×List (Str×Addr)×Value×Addr×Bool×Bool)
noncomputable def fnF (K:Frag) (v:Option (Option Value)):FT:=match v with
 | some (some (.ref f))=>(match K.lookup f with
  | some ⟨_,_,.func fd,_⟩=>some (fd.name,fd.qualname,fd.params,fd.body,fd.scope,fd.globals,fd.closure,fd.defaults,fd.builtins,codeIn K fd.code fd.qualname,isFn K (.ref f))
  | _=>none)
 | _=>none
noncomputable def fnG (x q:Str) (st:Stmt):FT:=some (x,q,jbd st,.stmts (zu st),jm st,mainGlobals,[],.none,builtinsNs,true,true)
theorem fn_of {K:Frag} {v:Option (Option Value)} {x q:Str} {st:Stmt} (h:fnF K v=fnG x q st):∃ (f:Addr) (oc:Value) (od an:Option Addr) (osl:Array (Option Value)) (kV doc pm cdv ct:Value),v=some (some (.ref f)) ∧
  K.lookup f=some ⟨oc,od,.func (fnOf x q (jbd st) (zu st) (jm st) .none kV doc pm an cdv ct),osl⟩∧codeIn K cdv q=true∧keepIn K (.ref f)=true∧isFn K (.ref f)=true:=by
 unfold fnF fnG at h
 split at h
 ·rename_i f
  split at h
  ·rename_i oc od fd osl l
   obtain ⟨a1,a2,a3,a4,a5,a6,a7,a8,a9,b1,b2,b3,b4,b5,b6⟩:=fd
   simp only [Jz,Prod.mk.injEq] at h
   obtain ⟨rfl,rfl,rfl,rfl,rfl,rfl,rfl,rfl,rfl,c,i⟩:=h
   exact ⟨f,oc,od,b3,osl,_,_,_,_,_,rfl,l,c,by unfold keepIn;dsimp only;rw [l],i⟩
  ·cases h
 ·cases h
noncomputable def dNm:Stmt→Option Str
 | .FunctionDef n ..=>some n
 | _=>none
noncomputable def fS (K:Frag) (st:Stmt):FT:=(dNm st).bind fun n=>fnF K (nsIn K mainGlobals n)
noncomputable def gS (st:Stmt):FT:=(dNm st).bind fun n=>fnG n n st
noncomputable def mF (K:Frag) (m:Str×Str):FT:=match nsIn K mainGlobals m.1 with|some (some (.ref C))=>fnF K (findIn K (.ref C) m.2)|_=>none
noncomputable def mN:List (Str×Str):=[("Fault","__init__"),("Joins","__init__"),("Word","__init__"),("Settled","__init__"),("Book","__init__"),("Tape","__init__"),("Tape","has_more"),("Tape","take_number"),("Tape","take_row")]
noncomputable def mG (m:Str×Str×Str×Stmt):FT:=fnG m.2.1 m.2.2.1 m.2.2.2
noncomputable def mS:List (Str×Str×Str×Stmt):=[("Fault","__init__","Fault.__init__",jfr),("Joins","__init__","Joins.__init__",jfs),("Word","__init__","Word.__init__",jgE),("Settled","__init__","Settled.__init__",jdM),("Book","__init__","Book.__init__",jgC),
 ("Tape","__init__","Tape.__init__",jgD),("Tape","has_more","Tape.has_more",jcQ),("Tape","take_number","Tape.take_number",jbF),("Tape","take_row","Tape.take_row",jcR)]
noncomputable def cF (K:Frag) (x:Str) (as:List Str):Bool:=match nsIn K mainGlobals x with
 | some (some (.ref C))=>plainGet K C Str.empty && (hasDictIn K C && (plainOver K C && (findIn K (.ref C) "__setattr__" == some (some (.builtin "object.__setattr__")) && (makesIn K C && (keepIn K (.ref C) && as.all fun a=>findIn K (.ref C) a == some none)))))
 | _=>false
noncomputable def eF (K:Frag):Bool:=match nsIn K mainGlobals "Fault" with
 | some (some (.ref C))=>(match findIn K (.ref C) "__init__" with|some (some (.ref f))=>jn1 K C f && keepIn K (.ref C)|_=>false)
 | _=>false
noncomputable def vI:List Int→List Value→Bool
 | [],[]=>true
 | i :: r,.int j _ :: s=>i == j && vI r s
 | _,_=>false
noncomputable def tF (K:Frag) (x:Str) (xs:List Int):Bool:=match nsIn K mainGlobals x with
 | some (some (.ref a))=>(match K.lookup a with|some ⟨.type "tuple",_,.seq its _,_⟩=>vI xs its.toList|_=>false)
 | _=>false
noncomputable def iF (K:Frag) (p:Str×Int):Bool:=match nsIn K mainGlobals p.1 with
 | some (some (.int j _))=>p.2 == j
 | _=>false
noncomputable def iS:List (Str×Int):=[("LINE_END",10),("BLANK",32),("DIGIT_ZERO",48),("DIGIT_NINE",57),("MOST_SORT",255),("MOST_COST",65535),("MOST_WORDS",128),("MOST_CHARACTERS",32),("BY_ITSELF",-1),("NO_SORT",0),("MOST_BYTES",65536),("MOST_SOUNDS",24),("MOST_WAYS",1024),("TOO_LONG",-1),("WRONG_TEXT",-2),("WRONG_FORM",-3),("NO_SUCH_WAY",-5),("TOO_MANY_WAYS",-6),("CUT",1),("NO_CUT",2),("BEGIN",1),("WORDS",2),("JOINS",3),("WRITE",4),("MANY",5),("NTH",6),("COST",7),("TEXT",8)]
noncomputable def nS:List Str:=["len","sum","str","ord","range","enumerate","sorted"]
noncomputable def bF (K:Frag):Bool:=cF K "Joins" ["by_itself","costs"] && (cF K "Word" ["reading","text","left","right","cost"] && (cF K "Settled" ["cuts","chosen"] && (cF K "Book" ["words","joins"] && (cF K "Tape" ["numbers","place"] && (eF K && (jhS K && (iS.all (iF K) && (nS.all (fun x=>nsIn K mainGlobals x == some none) &&
 (tF K "FIRST_BYTE_MARKS" [0,0,192,224,240] && tF K "LEAST_NUMBERS" [0,0,128,2048,65536])))))))))
noncomputable def g1 (p q:Program) (w:World) (t:SharedT):=(staticsOk (importedModules p.main.body) (boot_heap w.params) t.abs.heap && namesBound p t.abs.heap && gensDone t.abs && laidKept (boot_heap w.params) t.abs.heap,seen ((recsOf q).map (·.name)) (ownsOf q) [] { t.abs with gens:=#[] },t.abs.heap.bltView)
noncomputable def g2 (p q:Program) (t:SharedT):=(t.abs.heap.keysOk (looseW q []) ((recsOf q).map (·.name)) ((litsOf q).map (·.1)) ((clssOf q (looseW q [])).map (·.name)) && t.abs.heap.accountedOkI (importedModules p.main.body) && t.abs.heap.isNs mainGlobals && t.abs.heap.isNs builtinsNs && tablesOk q t.abs.heap && (xlAt q [] t.abs && recOk [] t.abs) && (if true then t.abs.gens.size == 0 else !leftWithCleanup t.abs.gens),tabsOk q t.abs)
noncomputable def g3 (q:Program) (t:SharedT):=(pinSeenD q (drecsOf q) t.abs,plainSeenE q (looseW q []) t.abs,plainSeenD q [] t.abs)
noncomputable def g4 (q:Program) (t:SharedT):=(wideSeen q t.abs,clsSeenW q [] t.abs)
noncomputable def r1 (p q:Program) (w:World) (os:OsState):=(tRun p w os).map (g1 p q w)
noncomputable def r2 (p q:Program) (w:World) (os:OsState):=(tRun p w os).map (g2 p q)
noncomputable def r3 (p q:Program) (w:World) (os:OsState):=(tRun p w os).map (g3 q)
noncomputable def r4 (p q:Program) (w:World) (os:OsState):=(tRun p w os).map (g4 q)
noncomputable def r5 (p:Program) (w:World) (os:OsState):=(tRun p w os).map fun t=>bF (kOf t.abs.heap)
noncomputable def r6 (p:Program) (w:World) (os:OsState):=(tRun p w os).map fun t=>p.main.body.map (fS (kOf t.abs.heap))
noncomputable def r7 (p:Program) (w:World) (os:OsState):=(tRun p w os).map fun t=>mN.map (mF (kOf t.abs.heap))
noncomputable def rc (p q:Program) (w:World) (os:OsState):=(tRun p w os).map fun t=>(t.abs.heap.keysOk (looseW q []) ((recsOf q).map (·.name)) ((litsOf q).map (·.1)) ((clssOf q (looseW q [])).map (·.name)) && t.abs.heap.accountedOkI (importedModules p.main.body) && t.abs.heap.isNs mainGlobals && t.abs.heap.isNs builtinsNs && tablesOk q t.abs.heap && (xlAt q [] t.abs && recOk [] t.abs) && (if true then t.abs.gens.size == 0 else !leftWithCleanup t.abs.gens))
noncomputable def rd (p q:Program) (w:World) (os:OsState):=(tRun p w os).map fun t=>tabsOk q t.abs
noncomputable def rz (q:Program):=plainGoodE q (looseW q [])
theorem two {α β γ:Type} {o:Option α} {f:α→β} {g:α→γ} {x:β} {y:γ} (a:o.map f=some x) (b:o.map g=some y):o.map (fun t=>(f t,g t))=some (x,y):=by
 obtain ⟨t,rfl,rfl⟩:=Option.map_eq_some_iff.mp a
 cases b
 rfl
theorem twins:(fun (_:Program→Program→World→OsState→Option _) (_:Program→Program→World→OsState→Option _) (_:Program→Program→World→OsState→Option _) (_:Program→Program→World→OsState→Option _) (_:Program→Program→World→OsState→Option _)
 (_:Program→World→OsState→Option _) (_:Program→World→OsState→Option _) (_:Program→World→OsState→Option _) (_:Program→List _)=>true) r1 rc rd r3 r4 r5 r6 r7 rz=true:=by k_qdec
section
variable (w:World) (os:OsState)
theorem e1:PySem.W.Fast.tw8588128808209545300 pw (vwP pw) w os=some (true,expectedOf (vwP pw),bltViewBooted):=by kernel_rfl
theorem E1:r1 pw (vwP pw) w os=some (true,expectedOf (vwP pw),bltViewBooted):=by rw [PySem.W.Fast.te8588128808209545300];exact e1 w os
theorem ec:PySem.W.Fast.tw5161930660501048600 pw (vwP pw) w os=some true:=by kernel_rfl
theorem ed:PySem.W.Fast.tw7887128422724251466 pw (vwP pw) w os=some true:=by kernel_rfl
theorem E2:r2 pw (vwP pw) w os=some (true,true):=by
 have a:rc pw (vwP pw) w os=some true:=by rw [PySem.W.Fast.te5161930660501048600];exact ec w os
 have b:rd pw (vwP pw) w os=some true:=by rw [PySem.W.Fast.te7887128422724251466];exact ed w os
 unfold rc at a;unfold rd at b;unfold r2 g2;exact two a b
theorem e3:PySem.W.Fast.tw9613484484609272314 pw (vwP pw) w os=some (pinGoodD (drecsOf (vwP pw)),PySem.W.Fast.tw16893590691412922362 (vwP pw),plainGoodD (vwP pw) []):=by kernel_rfl
theorem E3:r3 pw (vwP pw) w os=some (pinGoodD (drecsOf (vwP pw)),plainGoodE (vwP pw) (looseW (vwP pw) []),plainGoodD (vwP pw) []):=by rw [PySem.W.Fast.te9613484484609272314];have a:=e3 w os;rw [←PySem.W.Fast.te16893590691412922362] at a;exact a
theorem e4:PySem.W.Fast.tw9985967313237875183 pw (vwP pw) w os=some (wideGood (vwP pw),clsGoodW (vwP pw) []):=by kernel_rfl
theorem E4:r4 pw (vwP pw) w os=some (wideGood (vwP pw),clsGoodW (vwP pw) []):=by rw [PySem.W.Fast.te9985967313237875183];exact e4 w os
theorem e5:PySem.W.Fast.tw10026824397378252026 pw w os=some true:=by kernel_rfl
theorem E5:r5 pw w os=some true:=by rw [PySem.W.Fast.te10026824397378252026];exact e5 w os
theorem e6:PySem.W.Fast.tw13063232784075962687 pw w os=some (pw.main.body.map gS):=by kernel_rfl
theorem E6:r6 pw w os=some (pw.main.body.map gS):=by rw [PySem.W.Fast.te13063232784075962687];exact e6 w os
theorem e7:PySem.W.Fast.tw281490913691745669 pw w os=some (mS.map mG):=by kernel_rfl
theorem E7:r7 pw w os=some (mS.map mG):=by rw [PySem.W.Fast.te281490913691745669];exact e7 w os
end
end Hd
namespace L2
open PySem PySem.Spec PyProof.Rows
open PySem.W (Frag)
noncomputable abbrev Key:=Sum Int Str
noncomputable def jf2:Key→Value→Bool
 | .inl k,v=>Value.isInt k v
 | .inr x,v=>Value.isStrOf x v
noncomputable def jt4 (w:World):Key→Int
 | .inl k=>hashInt k
 | .inr x=>hashStr w x
theorem vW:∀ {k:Key} {v:Value},jf2 k v=true→(∃ i t,k=Sum.inl i∧v=Value.int i t)∨(∃ x t,k=Sum.inr x∧v=Value.str x t)
 | .inl i,v,h=>by
  obtain ⟨t,e⟩:=Value.isInt_shape (k:=i) (v:=v) h;exact .inl ⟨i,t,rfl,e⟩
 | .inr x,v,h=>by
  obtain ⟨t,e⟩:=Value.isStrOf_shape (x:=x) (v:=v) h;exact .inr ⟨x,t,rfl,e⟩
theorem jpj (i:Int) (t:Tok):jf2 (.inl i) (.int i t)=true:=by simp [jf2,Value.isInt]
theorem jpk (x:Str) (t:Tok):jf2 (.inr x) (.str x t)=true:=by simp [jf2,Value.isStrOf]
theorem jsF (a b:Int):decide ((Sum.inl a:Key)=Sum.inl b)=(a == b):=by
 by_cases e:a=b
 ·subst e;simp
 ·have h:¬(Sum.inl a:Key)=Sum.inl b:=fun q=>e (Sum.inl.inj q);rw [Fv h];exact (beq_eq_false_iff_ne.mpr e).symm
theorem jsI (a b:Str):decide ((Sum.inr a:Key)=Sum.inr b)=decide (a=b):=by
 by_cases e:a=b
 ·subst e;simp
 ·have h:¬(Sum.inr a:Key)=Sum.inr b:=fun q=>e (Sum.inr.inj q);rw [Fv h,Fv e]
theorem jsG (a:Int) (b:Str):decide ((Sum.inl a:Key)=Sum.inr b)=false:=Fv (fun q=>nomatch q)
theorem jsH (a:Str) (b:Int):decide ((Sum.inr a:Key)=Sum.inl b)=false:=Fv (fun q=>nomatch q)
noncomputable def vO (prog:Program) (w:World):PySem.KeyKind prog w Key where
 is:=jf2
 hash:=jt4 w
 inj:=fun v a b ha hb=>by
  rcases vW ha with ⟨i,t,rfl,rfl⟩|⟨x,t,rfl,rfl⟩
  ·rcases vW hb with ⟨j,u,rfl,e⟩|⟨y,u,rfl,e⟩
   ·injection e with e1 _;rw [e1]
   ·exact nomatch e
  ·rcases vW hb with ⟨j,u,rfl,e⟩|⟨y,u,rfl,e⟩
   ·exact nomatch e
   ·injection e with e1 _;rw [e1]
 byValue:=fun k v h=>by
  rcases vW h with ⟨i,t,rfl,rfl⟩|⟨x,t,rfl,rfl⟩<;>rfl
 pyHash:=fun hv h=>by
  rcases vW hv with ⟨i,t,rfl,rfl⟩|⟨x,t,rfl,rfl⟩
  ·exact wpAny_pyHash_int h
  ·exact wpAny_pyHash_str h
 eqBool:=fun hu hv h=>by
  rcases vW hu with ⟨i,t,rfl,rfl⟩|⟨x,t,rfl,rfl⟩
  ·rcases vW hv with ⟨j,u,rfl,rfl⟩|⟨y,u,rfl,rfl⟩
   ·rw [jsF] at h;exact wpAny_eqBool_int h
   ·rw [jsG] at h;exact SeqAt.EqAt.int_str i t y u _ _ _ _ h
  ·rcases vW hv with ⟨j,u,rfl,rfl⟩|⟨y,u,rfl,rfl⟩
   ·rw [jsH] at h;exact SeqAt.EqAt.str_int x t j u _ _ _ _ h
   ·rw [jsI] at h;exact wpAny_eqBool_str h
 «strs»:=fun k x t v h=>by
  rcases vW h with ⟨i,u,rfl,e⟩|⟨y,u,rfl,e⟩
  ·exact nomatch e
  ·injection e with e1 _;subst e1;cases v<;>rfl
theorem jmB (prog:Program) (w:World) (i:Int) (t:Tok):(vO prog w).is (.inl i) (.int i t)=true:=jpj i t
theorem jmC (prog:Program) (w:World) (x:Str) (t:Tok):(vO prog w).is (.inr x) (.str x t)=true:=jpk x t
inductive V where
 | non|bl (b:Bool)|int (i:Int)|str (x:Str)|byt (b:Array UInt8)|flt (b:UInt64)|ref (a:Addr)|ty (n:String)
 deriving DecidableEq
noncomputable def RelV:V→Value→Prop
 | .non,u=>u=Value.none
 | .bl b,u=>u=Value.bool b
 | .int i,u=>∃ t,u=Value.int i t
 | .str x,u=>∃ t,u=Value.str x t
 | .byt b,u=>∃ t,u=Value.bytes b t
 | .flt b,u=>∃ t,u=Value.float b t
 | .ref a,u=>u=Value.ref a
 | .ty n,u=>u=Value.type n
noncomputable abbrev jx:List V→List Value→Prop:=Paired RelV
theorem jx.length {xs:List V} {us:List Value} (r:jx xs us):xs.length=us.length:=Cr r
theorem jx.get:∀ {xs:List V} {us:List Value} {i:Nat} {x:V},jx xs us→xs[i]?=some x→∃ u,us[i]?=some u∧RelV x u
 | _,_,_,_,.nil,e=>by simp at e
 | _,_,0,_,.cons r _,e=>by simp at e;subst e;exact ⟨_,rfl,r⟩
 | _,_,i+1,x,.cons _ t,e=>by
  obtain ⟨u,h1,h2⟩:=jx.get (i:=i) (x:=x) t (by simpa using e);exact ⟨u,by simpa using h1,h2⟩
theorem jx.set {x:V} {u:Value} (r:RelV x u):∀ {xs:List V} {us:List Value} (i:Nat),jx xs us→jx (xs.set i x) (us.set i u)
 | _,_,_,.nil=>.nil
 | _,_,0,.cons _ t=>.cons r t
 | _,_,i+1,.cons q t=>.cons q (jx.set r i t)
theorem jx.append:∀ {xs ys:List V} {us ws:List Value},jx xs us→jx ys ws→jx (xs++ys) (us++ws)
 | _,_,_,_,.nil,s=>s
 | _,_,_,_,.cons r t,s=>.cons r (jx.append t s)
theorem jx.take:∀ {xs:List V} {us:List Value} (n:Nat),jx xs us→jx (xs.take n) (us.take n)
 | _,_,0,_=>.nil
 | _,_,_+1,.nil=>.nil
 | _,_,n+1,.cons r t=>.cons r (jx.take n t)
theorem jx.drop:∀ {xs:List V} {us:List Value} (n:Nat),jx xs us→jx (xs.drop n) (us.drop n)
 | _,_,0,r=>r
 | _,_,_+1,.nil=>.nil
 | _,_,n+1,.cons _ t=>jx.drop n t
noncomputable def zr:Option V→Option Value→Prop
 | some v,some u=>RelV v u
 | none,none=>True
 | _,_=>False
noncomputable def KV {κ:Type}:List (κ×V)→List (κ×Value)→Prop:=Paired fun (p:κ×V) (q:κ×Value)=>p.1=q.1∧RelV p.2 q.2
noncomputable def kV:Key→V
 | .inl i=>.int i
 | .inr x=>.str x
inductive HO where
 | lst (xs:List V)
 | tup (xs:List V)
 | dK (kvs:List (Key×V))|dT (kvs:List (List Key×V))
 | set (S:Int→Bool) (n:Nat)
 | ins (C dx:Addr) (fs:List (Str×V))
 | own (x:Addr)
 | xd (fs:List (Str×V))
 | met (f x:Addr)
 | rng (lo hi:Int)
 | frz (o:Obj) (u:HO)
 | tbl (ps:Array Value)
 | ext (φ:Heap→Prop)
noncomputable abbrev Hp:=Addr→Option HO
noncomputable def upd (H:Hp) (a:Addr) (o:HO):Hp:=fun b=>if b=a then some o else H b
theorem jc {H:Hp} {a:Addr} {o:HO}:upd H a o a=some o:=by unfold upd;rw [Ce rfl]
theorem ji {H:Hp} {a b:Addr} {o:HO} (h:b≠a):upd H a o b=H b:=by unfold upd;rw [Cc h]
theorem jtG {H:Hp} {a b:Addr} {o u:HO} (h:H a=some o) (h':H b=some u) (d:o≠u):a≠b:=by
 intro e;subst e;rw [h] at h';exact d (Cs h')
theorem jp {H:Hp} {a b:Addr} {o:HO} (h:H a=some o) (h':H b=none):a≠b:=by
 intro e;subst e;rw [h] at h';cases h'
section
variable (P:Program) (w:World)
noncomputable def vb (H:Hp) (h:Heap) (a:Addr):HO→Prop
 | .lst xs=>xs.length≤sizeLine∧∃ (its:List Value) (n:Nat),jx xs its∧h.get? a=some { cls:=.type "list",data:=.seq its.toArray n }
 | .tup xs=>xs.length≤sizeLine∧∃ its:List Value,jx xs its∧IsTup h a its.toArray
 | .dK kvs=>kvs.length≤sizeLine∧(a == sysModules)=false∧∃ vs,KV kvs vs∧h.DictOf (vO P w) a vs
 | .dT kvs=>kvs.length≤sizeLine∧(a == sysModules)=false∧∃ xs:List (List Key×Addr×Value),
   Paired (fun (p:List Key×V) (q:List Key×Addr×Value)=>p.1=q.1∧H q.2.1=some (.tup (p.1.map kV))∧RelV p.2 q.2.2) kvs xs ∧
   ∃ o es ep,h.get? a=some o∧o.ExactDict∧o.data=.dict es ep∧es.toList=xs.map (entryOfKey (tupleKind (vO P w)))∧(xs.map (·.1)).Nodup
 | .set S n=>h.SetOf (intKind P w) a S n
 | .ins C dx fs=>H dx=some (.own a)∧fs.length≤1000∧dx≠a∧h.get? a=some (PySem.W.instObj C dx) ∧
   ∃ mA,h.Ns1 dx mA∧(∀ f,zr (fs.lookup f) (mA f))∧PySem.Within mA (fs.map (·.1))
 | .own _=>∃ o,h.get? a=some o
 | .xd fs=>∃ mA,h.Ns1 a mA∧∀ f,zr (fs.lookup f) (mA f)
 | .rng lo hi=>∃ t u v,h.get? a=some { cls:=.type "range",data:=.fields #[.int lo t,.int hi u,.int 1 v] }
 | .frz o u=>h.get? a=some o∧vb H h a u
 | .tbl ps=>h.get? a=some { cls:=.none,data:=.fields ps }
 | .met f x=>h.get? a=some (PySem.W.methodObj (.ref f) (.ref x))
 | .ext φ=>φ h∧(∃ o,h.get? a=some o)∧∀ h1 h2:Heap,φ h1→(∀ o,h1.get? a=some o→h2.get? a=some o)→φ h2
noncomputable def HOk (H:Hp) (h:Heap):Prop:=∀ a o,H a=some o→vb P w H h a o
end
section
variable {P:Program} {w:World} {H H':Hp} {h h':Heap} {a:Addr} {o:HO}
theorem vb.lt (x:vb P w H h a o):a < h.objs.size:=by
 cases o with
 | lst xs=>obtain ⟨_,_,_,_,e⟩:=x;exact Cu e
 | tup xs=>obtain ⟨_,_,_,p⟩:=x;exact p.lt
 | dK kvs=>obtain ⟨_,_,_,_,o,_,_,e,_⟩:=x;exact Cu e
 | dT kvs=>obtain ⟨_,_,_,_,o,_,_,e,_⟩:=x;exact Cu e
 | set S n=>obtain ⟨o,_,_,_,e,_⟩:=x;exact Cu e
 | ins C dx fs=>obtain ⟨_,_,_,e,_⟩:=x;exact Cu e
 | own y=>obtain ⟨_,e⟩:=x;exact Cu e
 | xd fs=>obtain ⟨_,⟨_,_,_,e,_⟩,_⟩:=x;exact Cu e
 | rng lo hi=>obtain ⟨_,_,_,e⟩:=x;exact Cu e
 | frz ob u=>obtain ⟨e,_⟩:=x;exact Cu e
 | tbl ps=>exact Cu (show h.get? a=some _ from x)
 | met f y=>exact Cu (show h.get? a=some _ from x)
 | ext φ=>obtain ⟨_,⟨_,e⟩,_⟩:=x;exact Cu e
theorem Paired.mapP {α β:Type} {F G:α→β→Prop}:∀ {l₁:List α} {l₂:List β},Paired F l₁ l₂→(∀ a b,F a b→G a b)→Paired G l₁ l₂
 | _,_,.nil,_=>.nil
 | _,_,.cons r t,f=>.cons (f _ _ r) (Paired.mapP t f)
theorem vb.stay (x:vb P w H h a o) (k:∀ b u,(b=a∨H b=some (.own a))→h.get? b=some u→h'.get? b=some u)
  (ho:∀ b,H b=some (.own a)→H' b=some (.own a)) (ht:∀ b xs,H b=some (.tup xs)→H' b=some (.tup xs)):vb P w H' h' a o:=by
 induction o with
 | lst xs=>obtain ⟨z,its,n,r,e⟩:=x;exact ⟨z,its,n,r,k _ _ (.inl rfl) e⟩
 | tup xs=>obtain ⟨z,its,r,ob,e,c⟩:=x;exact ⟨z,its,r,ob,k _ _ (.inl rfl) e,c⟩
 | dK kvs=>obtain ⟨z,y,vs,r,ob,es,ep,e,c⟩:=x;exact ⟨z,y,vs,r,ob,es,ep,k _ _ (.inl rfl) e,c⟩
 | dT kvs =>
  obtain ⟨z,y,xs,r,ob,es,ep,e,c⟩:=x;exact ⟨z,y,xs,Paired.mapP r fun p q z=>⟨z.1,ht _ _ z.2.1,z.2.2⟩,ob,es,ep,k _ _ (.inl rfl) e,c⟩
 | set S n=>obtain ⟨ob,es,ep,t,e,c⟩:=x;exact ⟨ob,es,ep,t,k _ _ (.inl rfl) e,c⟩
 | ins C dx fs =>
  obtain ⟨d,z,ne,e,mA,⟨od,es,ep,e2,c⟩,r⟩:=x;exact ⟨ho _ d,z,ne,k _ _ (.inl rfl) e,mA,⟨od,es,ep,k _ _ (.inr d) e2,c⟩,r⟩
 | own y=>obtain ⟨ob,e⟩:=x;exact ⟨ob,k _ _ (.inl rfl) e⟩
 | xd fs=>obtain ⟨mA,⟨od,es,ep,e,c⟩,r⟩:=x;exact ⟨mA,⟨od,es,ep,k _ _ (.inl rfl) e,c⟩,r⟩
 | rng lo hi=>obtain ⟨t,u,v,e⟩:=x;exact ⟨t,u,v,k _ _ (.inl rfl) e⟩
 | frz ob u ih=>obtain ⟨e,q⟩:=x;exact ⟨k _ _ (.inl rfl) e,ih q⟩
 | tbl ps =>
  have e:h.get? a=some { cls:=.none,data:=.fields ps }:=x;show h'.get? a=some { cls:=.none,data:=.fields ps };exact k a _ (.inl rfl) e
 | met f y =>
  have e:h.get? a=some (PySem.W.methodObj (.ref f) (.ref y)):=x;show h'.get? a=some (PySem.W.methodObj (.ref f) (.ref y));exact k a _ (.inl rfl) e
 | ext φ=>obtain ⟨p,⟨o,e⟩,st⟩:=x;exact ⟨st _ _ p fun o q=>k _ _ (.inl rfl) q,⟨o,k _ _ (.inl rfl) e⟩,st⟩
theorem HOk.lt (x:HOk P w H h) (e:H a=some o):a < h.objs.size:=(x a o e).lt
theorem HOk.fresh (x:HOk P w H h) (e:h.objs.size≤a):H a=none:=by
 cases q:H a with
 | none=>rfl
 | some u=>exact absurd (C9 (x.lt q) e) (Gh _)
theorem HOk.kept (x:HOk P w H h) (k:∀ b u,h.get? b=some u→h'.get? b=some u):HOk P w H h':=fun a o e =>
 (x a o e).stay (fun b u _ q=>k b u q) (fun _ q=>q) fun _ _ q=>q
theorem HOk.laid (x:HOk P w H h) (k:∀ b u,h.get? b=some u→h'.get? b=some u) (hp:h.objs.size≤a) (new:vb P w (upd H a o) h' a o):HOk P w (upd H a o) h':=fun b u e=>by
 have hn:=x.fresh hp;by_cases hb:b=a
 ·subst hb;rw [jc] at e;cases e;exact new
 ·rw [ji hb] at e;exact (x b u e).stay (fun c v _ q=>k c v q) (fun c q=>by rw [ji (jp q hn)];exact q) fun c xs q=>by rw [ji (jp q hn)];exact q
end
noncomputable def Rd (H:Hp) (a:Addr) (u:HO):Prop:=H a=some u∨∃ o,H a=some (.frz o u)
theorem Rd.ok {P:Program} {w:World} {H:Hp} {h:Heap} {a:Addr} {u:HO} (r:Rd H a u) (x:HOk P w H h):vb P w H h a u:=by
 rcases r with r|⟨o,r⟩
 ·exact x a u r
 ·obtain ⟨_,q⟩:=x a _ r;exact q
noncomputable def Mut:Option HO→Prop
 | some (.lst _)=>True
 | some (.dK _)=>True
 | some (.dT _)=>True
 | some (.set _ _)=>True
 | some (.ins _ _ _)=>True
 | some (.ext _)=>True
 | _=>False
section
variable {P:Program} {w:World} {H:Hp} {h h':Heap} {x e:Addr} {o':HO}
theorem HOk.write (ok:HOk P w H h) (mu:Mut (H x)) (he:e=x∨H e=some (.own x)) (k:∀ b u,b≠e→h.get? b=some u→h'.get? b=some u) (heo:∃ u,h'.get? e=some u)
  (new:vb P w (upd H x o') h' x o'):HOk P w (upd H x o') h':=fun b u q=>by
 have nown:∀ c y,H c=some (.own y)→c≠x:=fun c y r z=>by subst z;rw [r] at mu;exact mu
 have ntup:∀ c xs,H c=some (.tup xs)→c≠x:=fun c xs r z=>by subst z;rw [r] at mu;exact mu
 by_cases hb:b=x
 ·subst hb;rw [jc] at q;cases q;exact new
 ·rw [ji hb] at q;by_cases hbe:b=e
  ·have q':H b=some (.own x):=by
    rcases he with z|z
    ·exact absurd (hbe.trans z) hb
    ·rw [hbe];exact z
   rw [q] at q';cases q';obtain ⟨v,hv⟩:=heo;exact ⟨v,by rw [hbe];exact hv⟩
  ·refine (ok b u q).stay (fun c v hc r=>k c v ?_ r) (fun c r=>by rw [ji (nown c b r)];exact r) fun c xs r=>by rw [ji (ntup c xs r)];exact r
   rcases hc with rfl|hc
   ·exact hbe
   ·rintro rfl;rcases he with z|z
    ·exact nown c b hc z
    ·rw [hc] at z;cases z;exact hb rfl
end
structure Un (fs ex:List Addr) (H H':Hp) (h h':Heap):Prop where
 keep:∀ b o,h.get? b=some o→H b=none→b∉fs→b∉ex→h'.get? b=some o
 slot:∀ b o,h.get? b=some o→H b=none→b∈fs→b∉ex→∃ sl,h'.get? b=some { o with slots:=sl }
 free:∀ b o,h.get? b=some o→H b=none→b∉ex→H' b=none
 there:∀ b o,h.get? b=some o→b∉ex→∃ o',h'.get? b=some o'
 tups:∀ b xs,H b=some (.tup xs)→H' b=some (.tup xs)
 frzs:∀ b o u,H b=some (.frz o u)→H' b=some (.frz o u)
 tbls:∀ b ps,H b=some (.tbl ps)→∃ more,H' b=some (.tbl (ps++more))
section
variable {fs ex:List Addr} {H H1:Hp} {h h1 h':Heap} {a x e:Addr} {o:HO}
theorem Un.any (u:Un fs ex H H1 h h1) {b:Addr} {ob:Obj} (q:h.get? b=some ob) (n:H b=none) (hx:b∉ex):∃ sl,h1.get? b=some { ob with slots:=sl }:=by
 by_cases hb:b∈fs
 ·exact u.slot b ob q n hb hx
 ·exact ⟨ob.slots,u.keep b ob q n hb hx⟩
theorem Un.kept (k:∀ b u,h.get? b=some u→h'.get? b=some u):Un fs ex H H h h' :=
 ⟨fun b ob q _ _ _=>k b ob q,fun b ob q _ _ _=>⟨ob.slots,k b ob q⟩,fun _ _ _ n _=>n,fun b ob q _=>⟨ob,k b ob q⟩,fun _ _ q=>q,fun _ _ _ q=>q,fun _ ps q=>⟨#[],by rw [q];simp⟩⟩
theorem Un.refl:Un fs ex H H h h:=Un.kept fun _ _ q=>q
theorem Un.laid (k:∀ b u,h.get? b=some u→h'.get? b=some u) (hp:h.objs.size≤a) (hn:H a=none):Un fs ex H (upd H a o) h h' where
 keep:=fun b u q _ _ _=>k b u q
 slot:=fun b u q _ _ _=>⟨u.slots,k b u q⟩
 free:=fun b u q n _=>by rw [ji (Di (C9 (Cu q) hp))];exact n
 there:=fun b u q _=>⟨u,k b u q⟩
 tups:=fun b xs q=>by rw [ji (jp q hn)];exact q
 frzs:=fun b u xs q=>by rw [ji (jp q hn)];exact q
 tbls:=fun b ps q=>⟨#[],by rw [ji (jp q hn),q];simp⟩
theorem Un.write (mu:Mut (H x)) (he:e=x∨H e=some (.own x)) (k:∀ b u,b≠e→h.get? b=some u→h'.get? b=some u) (heo:∃ u,h'.get? e=some u):Un fs ex H (upd H x o) h h':=by
 have hx:∀ b,H b=none→b≠x:=fun b n z=>by subst z;rw [n] at mu;exact mu
 have hb:∀ b,H b=none→b≠e:=fun b n z=>by
  subst z;rcases he with r|r
  ·exact hx b n r
  ·rw [n] at r;cases r
 have hm:∀ b u,H b=some u→¬Mut (some u)→b≠x:=fun b u q nm z=>by subst z;rw [q] at mu;exact nm mu
 refine ⟨fun b u q n _ _=>k b u (hb b n) q,fun b u q n _ _=>⟨u.slots,k b u (hb b n) q⟩,fun b u q n _=>by rw [ji (hx b n)];exact n,fun b u q _=>?_,
  fun b xs q=>by rw [ji (hm b _ q fun z=>z)];exact q,fun b u xs q=>by rw [ji (hm b _ q fun z=>z)];exact q,fun b ps q=>⟨#[],by rw [ji (hm b _ q fun z=>z),q];simp⟩⟩
 by_cases hbe:b=e
 ·subst hbe;exact heo
 ·exact ⟨u,k b u hbe q⟩
end
noncomputable def trk (h:Heap) (H:Hp):List Addr:=(List.range h.objs.size).filter fun a=>(H a).isSome
noncomputable def jdb (h:Heap) (H:Hp):Heap:=PySem.W.hideAll h (trk h H)
theorem jpd (h:Heap) (H:Hp):(jdb h H).objs.size=h.objs.size:=PySem.W.hideAll_size _ _
theorem jqs {h:Heap} {H:Hp} {b:Addr} {o:Obj} (e:h.get? b=some o) (n:H b=none):(jdb h H).get? b=some o :=
 PySem.W.hideAll_get _ e fun hm=>by
  have q:(H b).isSome=true:=(Dx.mp hm).2;rw [n] at q;simp at q
theorem jrN {h:Heap} {H:Hp} {b:Addr} {o:Obj} (e:(jdb h H).get? b=some o):h.get? b=some o∧H b=none:=by
 have e':h.get? b=some o:=PySem.W.of_hideAll (trk h H) e;refine ⟨e',?_⟩;cases q:H b with
 | none=>rfl
 | some x =>
  have hm:b∈trk h H:=Dx.mpr ⟨Gy.mpr (Cu e'),by simp [q]⟩;have z:(jdb h H).get? b=none:=PySem.W.hideAll_none (trk h H) hm;rw [z] at e;cases e
structure Mod (K:Frag) (mg:Str→Option Value) (base:Heap):Prop where
 kin:K.In base
 glob:base.Ns mainGlobals mg
 blt:∃ mb,base.Ns builtinsNs mb∧∀ x:Str,x≠"__name__"→mb x=bootBuiltins x
 nolimit:base.NoLimit
structure Cx where
 prog:Program
 w:World
 K:Frag
 mg:Str→Option Value
 base:Heap
 A:Around
 N:List Str
 s_0:Shared
 H_0:Hp
 env:Env
 outer:List Env
 stack:List Env
 ex:List Addr
 fn:Str→Bool
 calm:Bool
 pn:List (Addr×Obj)
 xe:Value→Shared→Prop
noncomputable def frs (l:List Env):List Addr:=l.filterMap (·.frame)
noncomputable abbrev Cx.fs (X:Cx):List Addr:=frs X.outer
noncomputable def Vis (sc:Scope) (x:Str):Prop:=sc.names.lookup x=some .local∨sc.names.lookup x=some .cell∨sc.names.lookup x=some .free
noncomputable def Loc (sc:Scope) (x:Str):Prop:=sc.names.lookup x=some .local∨sc.names.lookup x=some .cell
noncomputable def Look (env:Env) (h:Heap) (m:Str→Option Value) (x:Str) (u:Value):Prop :=
 (env.kindOf x=some .local∧m x=some u)∨((env.kindOf x=some .cell∨env.kindOf x=some .free)∧∃ c,env.cells.lookup x=some c∧h.IsCell c (some u))
structure Cx.Ok (X:Cx):Prop where
 mod:Mod X.K X.mg X.base
 kind:X.env.scope.kind=.function
 glob:X.env.globals=mainGlobals
 blt:X.env.builtins=builtinsNs
 above:X.s_0.heap.objs.size≤X.env.locals
 inj:∀ x y c,X.env.cells.lookup x=some c→X.env.cells.lookup y=some c→x=y
 has:∀ x,(X.env.kindOf x=some .cell∨X.env.kindOf x=some .free)→∃ c,X.env.cells.lookup x=some c
 cab:∀ x c,X.fn x=true→X.env.cells.lookup x=some c→X.s_0.heap.objs.size≤c
 hd:X.calm=true→X.A.handled=none
 frames:X.A.frames=some X.stack
 stk:X.stack=X.outer∨(X.stack=X.env :: X.outer∧X.env.frame=some X.env.locals)
 exf:∀ b∈X.ex,b≠X.env.locals∧∀ x c,X.env.cells.lookup x=some c→c≠b
 bs:∀ b o,X.base.get? b=some o→X.s_0.heap.get? b=some o∧X.H_0 b=none
 bsz:X.base.objs.size≤X.s_0.heap.objs.size
 noex:∀ b o,X.base.get? b=some o→b∉X.ex
 exfs:∀ b∈X.ex,b∉X.fs
 funs:X.s_0.heap.FunFrames X.base X.outer
 frf:∀ b∈X.fs,X.H_0 b=none
structure Inv (X:Cx) (pins:List (Addr×Obj)) (σ:List (Option V)) (H:Hp) (s:Shared):Prop where
 ok:X.Ok
 os:s.os=X.s_0.os
 bare:AllBare s.gens
 base:Un X.fs X.ex X.H_0 H X.s_0.heap s.heap
 loc:∃ m,s.heap.Ns X.env.locals m∧∀ (i:Nat) (x:Str) (v:V),X.N[i]?=some x→σ[i]?=some (some v)→Vis X.env.scope x→∃ u,RelV v u∧Look X.env s.heap m x u
 cell:∀ x c,X.env.cells.lookup x=some c→∃ v,s.heap.IsCell c v
 free:H X.env.locals=none
 freeC:∀ x c,X.env.cells.lookup x=some c→H c=none
 pin:∀ p∈X.pn++pins,s.heap.get? p.1=some p.2∧H p.1=none∧p.1≠X.env.locals∧p.1∉X.fs∧∀ v,p.2.data≠.cell v
 hok:HOk X.prog X.w H s.heap
 len:σ.length=X.N.length
section
variable {X:Cx} {pins:List (Addr×Obj)} {σ:List (Option V)} {H H':Hp} {s:Shared} {h':Heap}
theorem Cx.Ok.nofr (ok:X.Ok) {b:Addr} {o:Obj} (e:X.base.get? b=some o):b∉X.fs:=fun hb=>by
 have:=(ok.funs.mem hb).1;rw [e] at this;cases this
theorem Inv.bs (I:Inv X pins σ H s):∀ b o,X.base.get? b=some o→s.heap.get? b=some o∧H b=none:=fun b o e =>
 ⟨I.base.keep b o (I.ok.bs b o e).1 (I.ok.bs b o e).2 (I.ok.nofr e) (I.ok.noex b o e),I.base.free b o (I.ok.bs b o e).1 (I.ok.bs b o e).2 (I.ok.noex b o e)⟩
theorem Inv.bk (I:Inv X pins σ H s):∀ b o,X.base.get? b=some o→s.heap.get? b=some o:=fun b o e=>(I.bs b o e).1
theorem Inv.mod (I:Inv X pins σ H s):Mod X.K X.mg X.base:=I.ok.mod
theorem Inv.kIn (I:Inv X pins σ H s):X.K.In s.heap:=I.ok.mod.kin.keeps I.bk
theorem Inv.nolimit (I:Inv X pins σ H s):s.heap.NoLimit:=I.ok.mod.nolimit.keeps I.bk
theorem Inv.fr (I:Inv X pins σ H s):∃ m,Fr X.base X.env.locals s.heap m :=
 let ⟨m,hn,_⟩:=I.loc
 ⟨m,hn,I.bk,Da I.ok.bsz I.ok.above⟩
theorem Inv.lt (I:Inv X pins σ H s):X.env.locals < s.heap.objs.size:=let ⟨_,hn,_⟩:=I.loc;hn.lt
theorem Inv.sz (I:Inv X pins σ H s):X.s_0.heap.objs.size≤s.heap.objs.size:=Da I.ok.above (F5 I.lt)
theorem Inv.nofs (I:Inv X pins σ H s) {a:Addr} (h:s.heap.objs.size≤a):a∉X.fs:=fun hb=>by
 obtain ⟨_,o,ho,_⟩:=I.ok.funs.mem hb;exact absurd (C9 (Cu ho) (Da I.sz h)) (Gh _)
theorem Inv.cne (I:Inv X pins σ H s):∀ x c,X.env.cells.lookup x=some c→c≠X.env.locals:=fun x c e z=>by
 obtain ⟨v,o,ho,hd⟩:=I.cell x c e;obtain ⟨m,⟨o',es,ep,ho',hd',_⟩,_⟩:=I.loc;rw [z,ho'] at ho;cases ho;rw [hd'] at hd;cases hd
theorem Inv.funs (I:Inv X pins σ H s):s.heap.FunFrames X.base X.outer:=by
 have all:∀ (l:List Env),(∀ b∈frs l,b∈X.fs)→X.s_0.heap.FunFrames X.base l→s.heap.FunFrames X.base l:=by
  intro l
  induction l with
  | nil=>intro _ _;trivial
  | cons env r ih =>
   intro hs hl;obtain ⟨hk,⟨L,o,hf,hn,ho,hd⟩,hr⟩:=hl;have hL:L∈X.fs:=hs L (by unfold frs;rw [Li,hf];exact Cf);obtain ⟨sl,e⟩:=I.base.slot L o ho (I.ok.frf L hL) hL fun z=>I.ok.exfs L z hL;exact ⟨hk,⟨L,_,hf,hn,e,hd⟩,ih (fun b hb=>hs b (by unfold frs;rw [Li,hf];exact Cg _ hb)) hr⟩
 exact all X.outer (fun _ hb=>hb) I.ok.funs
theorem Inv.stack (I:Inv X pins σ H s):s.heap.FunFrames X.base X.stack:=by
 rcases I.ok.stk with e|⟨e,hf⟩
 ·rw [e];exact I.funs
 ·rw [e];obtain ⟨m,hn,_⟩:=I.loc;refine .cons (by rw [I.ok.kind];decide) hf hn ?_ I.funs;exact Heap.get?_none_of_le (Da I.ok.bsz I.ok.above)
theorem Inv.stkSub (I:Inv X pins σ H s):∀ b∈frs X.stack,b∈X.env.locals :: X.fs:=fun b hb=>by
 rcases I.ok.stk with e|⟨e,hf⟩
 ·rw [e] at hb;exact Cg _ hb
 ·rw [e] at hb;unfold frs at hb;rw [Li,hf] at hb;exact hb
theorem Inv.stkFree (I:Inv X pins σ H s):∀ b∈frs X.stack,H b=none:=fun b hb=>by
 rcases Cp.mp (I.stkSub b hb) with e|hb
 ·rw [e];exact I.free
 ·obtain ⟨_,o,ho,_⟩:=I.ok.funs.mem hb;exact I.base.free b o ho (I.ok.frf b hb) fun z=>I.ok.exfs b z hb
theorem Inv.step {g':Array GenState} {t':Nat} {d':Drawn} {ch:List Addr} (I:Inv X pins σ H s)
  (hch:∀ b∈ch,(b∈X.ex∨X.s_0.heap.objs.size≤b)∧b≠X.env.locals∧(∀ x c,X.env.cells.lookup x=some c→c≠b)∧∀ p∈X.pn++pins,p.1≠b)
  (keep:∀ b o,b≠X.env.locals→b∉X.fs→b∉ch→s.heap.get? b=some o→H b=none→h'.get? b=some o)
  (slot:∀ b o,b≠X.env.locals→b∈X.fs→b∉ch→s.heap.get? b=some o→H b=none→∃ sl,h'.get? b=some { o with slots:=sl }) (free:∀ b o,b∉ch→s.heap.get? b=some o→H b=none→H' b=none)
  (there:∀ b o,b∉ch→s.heap.get? b=some o→∃ o',h'.get? b=some o')
  (tups:∀ b xs,H b=some (.tup xs)→H' b=some (.tup xs)) (frzs:∀ b o u,H b=some (.frz o u)→H' b=some (.frz o u)) (tbls:∀ b ps,H b=some (.tbl ps)→∃ more,H' b=some (.tbl (ps++more)))
  (ns:∀ m,s.heap.Ns X.env.locals m→h'.Ns X.env.locals m) (hok:HOk X.prog X.w H' h') (hg:AllBare g') :
  Inv X pins σ H' { s with heap:=h',gens:=g',drawn:=d',toks:=t' }:=by
 have neL:∀ b o,X.s_0.heap.get? b=some o→b≠X.env.locals:=fun b o e=>Di (C9 (Cu e) I.ok.above);have neC:∀ b o,X.s_0.heap.get? b=some o→b∉X.ex→b∉ch:=fun b o e hx hb=>by
  rcases (hch b hb).1 with z|z
  ·exact hx z
  ·exact absurd (C9 (Cu e) z) (Gh _)
 have cellK:∀ x c,X.env.cells.lookup x=some c→∀ v,s.heap.IsCell c v→h'.IsCell c v:=fun x c e v ⟨o,ho,hd⟩=>by
  have nch:c∉ch:=fun z=>(hch c z).2.2.1 x c e rfl;by_cases hc:c∈X.fs
  ·obtain ⟨sl,q⟩:=slot c o (I.cne x c e) hc nch ho (I.freeC x c e);exact ⟨_,q,hd⟩
  ·exact ⟨o,keep c o (I.cne x c e) hc nch ho (I.freeC x c e),hd⟩
 refine ⟨I.ok,I.os,hg,⟨fun b o e n hb hx=>?_,fun b o e n hb hx=>?_,fun b o e n hx=>?_,fun b o e hx=>?_,fun b xs e=>tups b xs (I.base.tups b xs e),fun b o xs e=>frzs b o xs (I.base.frzs b o xs e),fun b ps e=>?_⟩,?_,fun x c e=>?_,?_,fun x c e=>?_,fun p hp=>?_,hok,I.len⟩
 ·exact keep b o (neL b o e) hb (neC b o e hx) (I.base.keep b o e n hb hx) (I.base.free b o e n hx)
 ·obtain ⟨sl,e1⟩:=I.base.slot b o e n hb hx;obtain ⟨sl',e2⟩:=slot b _ (neL b o e) hb (neC b o e hx) e1 (I.base.free b o e n hx);exact ⟨sl',e2⟩
 ·obtain ⟨o',e1⟩:=I.base.there b o e hx;exact free b o' (neC b o e hx) e1 (I.base.free b o e n hx)
 ·obtain ⟨o',e1⟩:=I.base.there b o e hx;exact there b o' (neC b o e hx) e1
 ·obtain ⟨m1,e1⟩:=I.base.tbls b ps e;obtain ⟨m2,e2⟩:=tbls b _ e1;exact ⟨m1++m2,by rw [e2,Array.append_assoc]⟩
 ·obtain ⟨m,hn,hl⟩:=I.loc;refine ⟨m,ns m hn,fun i x v e1 e2 e3=>?_⟩;obtain ⟨u,r,l⟩:=hl i x v e1 e2 e3;refine ⟨u,r,?_⟩;rcases l with l|⟨k,c,e,z⟩
  ·exact .inl l
  ·exact .inr ⟨k,c,e,cellK x c e _ z⟩
 ·obtain ⟨v,z⟩:=I.cell x c e;exact ⟨v,cellK x c e v z⟩
 ·obtain ⟨m,⟨o,_,_,ho,_⟩,_⟩:=I.loc;exact free _ o (fun z=>(hch _ z).2.1 rfl) ho I.free
 ·obtain ⟨v,o,ho,hd⟩:=I.cell x c e;exact free c o (fun z=>(hch c z).2.2.1 x c e rfl) ho (I.freeC x c e)
 ·obtain ⟨e,n,ne,nf,d⟩:=I.pin p hp;have nch:p.1∉ch:=fun z=>(hch p.1 z).2.2.2 p hp rfl;exact ⟨keep p.1 p.2 ne nf nch e n,free p.1 p.2 nch e n,ne,nf,d⟩
theorem Inv.un {t':Nat} (I:Inv X pins σ H s) (u:Un X.fs [] H H' s.heap h') (hok:HOk X.prog X.w H' h'):Inv X pins σ H' { s with heap:=h',toks:=t' }:=by
 obtain ⟨m,⟨o,es,ep,ho,r⟩,_⟩:=id I.loc;obtain ⟨sl,hL⟩:=u.any ho I.free (by simp);exact I.step (g':=s.gens) (d':=s.drawn) (ch:=[]) (fun _ z=>nomatch z) (fun b o _ hb _ e n=>u.keep b o e n hb (by simp)) (fun b o _ hb _ e n=>u.slot b o e n hb (by simp)) (fun b o _ e n=>u.free b o e n (by simp)) (fun b o _ e=>u.there b o e (by simp)) u.tups u.frzs u.tbls (fun m' hm=>by
  obtain ⟨o',es',ep',ho',r'⟩:=hm;rw [ho] at ho';cases ho';exact ⟨_,es',ep',hL,r'⟩) hok I.bare
theorem Inv.call {g':Array GenState} {t':Nat} {d':Drawn} {ch:List Addr} (I:Inv X pins σ H s) (u:Un (frs X.stack) ch H H' s.heap h') (hok:HOk X.prog X.w H' h') (hg:AllBare g')
  (hch:∀ b∈ch,(b∈X.ex∨X.s_0.heap.objs.size≤b)∧b≠X.env.locals∧(∀ x c,X.env.cells.lookup x=some c→c≠b)∧∀ p∈X.pn++pins,p.1≠b) :
  Inv X pins σ H' { s with heap:=h',gens:=g',drawn:=d',toks:=t' }:=by
 obtain ⟨m,⟨o,es,ep,ho,r⟩,_⟩:=id I.loc;obtain ⟨sl,hL⟩:=u.any ho I.free fun z=>(hch _ z).2.1 rfl;exact I.step (ch:=ch) hch (fun b o hL hb hc e n=>u.keep b o e n (fun z=>(Cp.mp (I.stkSub b z)).elim hL hb) hc) (fun b o _ _ hc e n=>u.any e n hc) (fun b o hc e n=>u.free b o e n hc) (fun b o hc e=>u.there b o e hc) u.tups u.frzs u.tbls (fun m' hm=>by
  obtain ⟨o',es',ep',ho',r'⟩:=hm;rw [ho] at ho';cases ho';exact ⟨_,es',ep',hL,r'⟩) hok hg
theorem Inv.turned {t':Nat} {it:Addr} (I:Inv X pins σ H s) (k:∀ b o,b≠it→s.heap.get? b=some o→h'.get? b=some o) (hn:H it=none) (hL:it≠X.env.locals)
  (h1:it∈X.ex∨X.s_0.heap.objs.size≤it) (h2:∀ x c,X.env.cells.lookup x=some c→c≠it) (h3:∀ p∈X.pn++pins,p.1≠it):Inv X pins σ H { s with heap:=h',toks:=t' }:=by
 have nit:∀ b u,H b=some u→b≠it:=fun b u e z=>by rw [z,hn] at e;cases e
 refine I.step (g':=s.gens) (d':=s.drawn) (ch:=[it]) (fun b hb=>?_) (fun b o _ _ hc e _=>k b o (fun z=>hc (by simp [z])) e) (fun b o _ _ hc e _=>⟨o.slots,k b o (fun z=>hc (by simp [z])) e⟩) (fun _ _ _ _ n=>n)
  (fun b o hc e=>⟨o,k b o (fun z=>hc (by simp [z])) e⟩) (fun _ _ e=>e) (fun _ _ _ e=>e) (fun b ps e=>⟨#[],by rw [e];simp⟩) (fun m hm=>?_) (fun b u e=>?_) I.bare
 ·have e:b=it:=by simpa using hb
  subst e;exact ⟨h1,hL,h2,h3⟩
 ·obtain ⟨o,es,ep,ho,r⟩:=hm;exact ⟨o,es,ep,k _ o (Dj hL) ho,r⟩
 ·refine (I.hok b u e).stay (fun c v hc q=>k c v ?_ q) (fun _ q=>q) fun _ _ q=>q;rcases hc with z|z
  ·rw [z];exact nit b u e
  ·exact nit c _ z
theorem Inv.tok (I:Inv X pins σ H s) (t:Nat):Inv X pins σ H { s with toks:=t }:=I.un (h':=s.heap) (t':=t) Un.refl I.hok
theorem Inv.kept {t':Nat} (I:Inv X pins σ H s) (k:∀ b u,s.heap.get? b=some u→h'.get? b=some u):Inv X pins σ H { s with heap:=h',toks:=t' }:=I.un (Un.kept k) (I.hok.kept k)
theorem Inv.laid {a:Addr} {o:HO} {t':Nat} (I:Inv X pins σ H s) (k:∀ b u,s.heap.get? b=some u→h'.get? b=some u) (hp:s.heap.objs.size≤a) (new:vb X.prog X.w (upd H a o) h' a o) :
  Inv X pins σ (upd H a o) { s with heap:=h',toks:=t' }:=I.un (Un.laid k hp (I.hok.fresh hp)) (I.hok.laid k hp new)
theorem Inv.write {x e:Addr} {o:HO} {t':Nat} (I:Inv X pins σ H s) (mu:Mut (H x)) (he:e=x∨H e=some (.own x)) (k:∀ b u,b≠e→s.heap.get? b=some u→h'.get? b=some u) (heo:∃ u,h'.get? e=some u)
  (new:vb X.prog X.w (upd H x o) h' x o):Inv X pins σ (upd H x o) { s with heap:=h',toks:=t' }:=I.un (Un.write mu he k heo) (I.hok.write mu he k heo new)
theorem Inv.weak {σ':List (Option V)} (I:Inv X pins σ H s) (hl:σ'.length=σ.length) (w:∀ (i:Nat) v,σ'[i]?=some (some v)→σ[i]?=some (some v)):Inv X pins σ' H s :=
 ⟨I.ok,I.os,I.bare,I.base,let ⟨m,hn,hl'⟩:=I.loc;⟨m,hn,fun i x v e1 e2 e3=>hl' i x v e1 (w i v e2) e3⟩,I.cell,I.free,I.freeC,I.pin,I.hok,hl.trans I.len⟩
theorem Inv.pins_of {pins':List (Addr×Obj)} (I:Inv X pins σ H s) (h:∀ p∈pins',s.heap.get? p.1=some p.2∧H p.1=none∧p.1≠X.env.locals∧p.1∉X.fs∧∀ v,p.2.data≠.cell v):Inv X pins' σ H s :=
 ⟨I.ok,I.os,I.bare,I.base,I.loc,I.cell,I.free,I.freeC,fun p hp=>(Ds.mp hp).elim (fun z=>I.pin p (G8 _ z)) (h p),I.hok,I.len⟩
theorem jg7 {N:List Str} (hN:N.Nodup) {i j:Nat} {x:Str} (a:N[i]?=some x) (b:N[j]?=some x):i=j:=by
 obtain ⟨h1,e1⟩:=Cj.mp a;obtain ⟨h2,e2⟩:=Cj.mp b;exact (List.getElem_inj hN).mp (e1.trans e2.symm)
theorem jjT {M:Model} {A:Around} {E:Value→Shared→Prop} {i:Nat} {x:Str} {v:V} {u:Value} {Q:Unit→Shared→Prop} (I:Inv X pins σ H s) (hN:X.N.Nodup) (hi:X.N[i]?=some x) (hx:Loc X.env.scope x) (r:RelV v u)
  (h:∀ s',Inv X pins (σ.set i (some v)) H s'→(∃ a,Heap.SameBut a s.heap s'.heap∧(a=X.env.locals∨X.env.cells.lookup x=some a))→Q () s') (hf:X.fn x=true∨X.env.scope.names.lookup x=some .local:=by first|exact .inl rfl|exact .inr rfl|assumption):wpAny M A (storeName X.env x u) Q E s:=by
 obtain ⟨m,hn,hl⟩:=id I.loc;have hcls:(X.env.scope.kind == .class || (X.env.scope.kind == .module && X.env.locals != X.env.globals))=false:=by rw [I.ok.kind];rfl
 have hiσ:i < σ.length:=by rw [I.len];exact (Cj.mp hi).1
 have cne:=I.cne;have tracked:∀ {a:Addr} {h':Heap},(∃ o,s.heap.get? a=some o∧H a=none)→Heap.SameBut a s.heap h'→HOk X.prog X.w H h':=fun {a h'} ha hs b ob e=>by
  obtain ⟨_,_,hfree⟩:=ha;refine (I.hok b ob e).stay (fun c w' hc q=>(hs.2 c ?_).trans q) (fun _ q=>q) fun _ _ q=>q;rintro rfl;rcases hc with rfl|hc
  ·rw [hfree] at e;cases e
  ·rw [hfree] at hc;cases hc
 rcases hx with hk|hk
 ·refine wpAny_storeName_local hk hn (fun h' hn' hs=>?_) hcls;obtain ⟨oL,_,_,hoL,_⟩:=id hn;refine h _ ⟨I.ok,I.os,I.bare,⟨fun b o e n hb hx=>?_,fun b o e n hb hx=>?_,I.base.free,fun b o e hx=>?_,I.base.tups,I.base.frzs,I.base.tbls⟩,⟨_,hn',fun j y v' e1 e2 e3=>?_⟩,fun y c e=>?_,I.free,I.freeC,fun p hp=>?_,tracked ⟨oL,hoL,I.free⟩ hs,by simpa using I.len⟩ ⟨_,hs,.inl rfl⟩
  ·exact (hs.2 b (Di (C9 (Cu e) I.ok.above))).trans (I.base.keep b o e n hb hx)
  ·obtain ⟨sl,e1⟩:=I.base.slot b o e n hb hx;exact ⟨sl,(hs.2 b (Di (C9 (Cu e) I.ok.above))).trans e1⟩
  ·obtain ⟨o',e1⟩:=I.base.there b o e hx;exact ⟨o',(hs.2 b (Di (C9 (Cu e) I.ok.above))).trans e1⟩
  ·by_cases hj:j=i
   ·subst hj;rw [hi] at e1;cases e1;rw [Gu hiσ] at e2;cases e2;exact ⟨u,r,.inl ⟨hk,by simp⟩⟩
   ·rw [List.getElem?_set_ne (Dj hj)] at e2;obtain ⟨u',r',q⟩:=hl j y v' e1 e2 e3;refine ⟨u',r',?_⟩;rcases q with ⟨k,e⟩|⟨k,c,e,z⟩
    ·refine .inl ⟨k,?_⟩;have:y≠x:=fun e=>hj (jg7 hN e1 (e ▸ hi));simp [this,e]
    ·exact .inr ⟨k,c,e,z.sameBut hs (cne y c e)⟩
  ·obtain ⟨w',z⟩:=I.cell y c e;exact ⟨w',z.sameBut hs (cne y c e)⟩
  ·obtain ⟨e,n,ne,nf,d⟩:=I.pin p hp;exact ⟨(hs.2 p.1 ne).trans e,n,ne,nf,d⟩
 ·have hfn:X.fn x=true:=by
   rcases hf with z|z
   ·exact z
   ·rw [z] at hk;cases hk
  obtain ⟨c,hc⟩:=I.ok.has x (.inl hk);obtain ⟨w',z⟩:=I.cell x c hc;refine wpAny_storeName_cell I.ok.kind hk hc z (fun h' hc' hs=>?_);obtain ⟨oc,hoc,hocd⟩:=id z;refine h { s with heap:=h' } ⟨I.ok,I.os,I.bare,⟨fun b o e n hb hx=>?_,fun b o e n hb hx=>?_,I.base.free,fun b o e hx=>?_,I.base.tups,I.base.frzs,I.base.tbls⟩,⟨m,hn.sameBut hs (Dj (cne x c hc)),fun j y v' e1 e2 e3=>?_⟩,fun y c' e=>?_,I.free,I.freeC,fun p hp=>?_,tracked ⟨oc,hoc,I.freeC x c hc⟩ hs,by simpa using I.len⟩ ⟨c,hs,.inr hc⟩
  ·exact (hs.2 b (Di (C9 (Cu e) (I.ok.cab x c hfn hc)))).trans (I.base.keep b o e n hb hx)
  ·obtain ⟨sl,e1⟩:=I.base.slot b o e n hb hx;exact ⟨sl,(hs.2 b (Di (C9 (Cu e) (I.ok.cab x c hfn hc)))).trans e1⟩
  ·obtain ⟨o',e1⟩:=I.base.there b o e hx;exact ⟨o',(hs.2 b (Di (C9 (Cu e) (I.ok.cab x c hfn hc)))).trans e1⟩
  ·by_cases hj:j=i
   ·subst hj;rw [hi] at e1;cases e1;rw [Gu hiσ] at e2;cases e2;exact ⟨u,r,.inr ⟨.inl hk,c,hc,hc'⟩⟩
   ·rw [List.getElem?_set_ne (Dj hj)] at e2;obtain ⟨u',r',q⟩:=hl j y v' e1 e2 e3;refine ⟨u',r',?_⟩;rcases q with q|⟨k,c',e,z'⟩
    ·exact .inl q
    ·refine .inr ⟨k,c',e,z'.sameBut hs ?_⟩;rintro rfl;exact hj (jg7 hN e1 (I.ok.inj _ _ _ e hc ▸ hi))
  ·by_cases hcc:c'=c
   ·subst hcc;exact ⟨_,hc'⟩
   ·obtain ⟨w2,z2⟩:=I.cell y c' e;exact ⟨w2,z2.sameBut hs hcc⟩
  ·obtain ⟨e,n,ne,nf,d⟩:=I.pin p hp;refine ⟨(hs.2 p.1 ?_).trans e,n,ne,nf,d⟩;intro q;rw [q,hoc] at e;have q':oc=p.2:=Cs e;exact d w' (by rw [←q'];exact hocd)
theorem jhB {M:Model} {A:Around} {E:Value→Shared→Prop} {i:Nat} {x:Str} {v:V} {u:Value} {Q:Unit→Shared→Prop} (I:Inv X pins σ H s) (hN:X.N.Nodup) (hi:X.N[i]?=some x) (hx:Loc X.env.scope x) (r:RelV v u)
  (h:∀ s',Inv X pins (σ.set i (some v)) H s'→Q () s') (hf:X.fn x=true∨X.env.scope.names.lookup x=some .local:=by first|exact .inl rfl|exact .inr rfl|assumption):wpAny M A (storeName X.env x u) Q E s :=
 jjT I hN hi hx r (fun s' I' _=>h s' I') hf
theorem Inv.call' {s':Shared} {ch:List Addr} (I:Inv X pins σ H s) (ho:s'.os=s.os) (u:Un (frs X.stack) ch H H' s.heap s'.heap) (hok:HOk X.prog X.w H' s'.heap) (hg:AllBare s'.gens)
  (hch:∀ b∈ch,(b∈X.ex∨X.s_0.heap.objs.size≤b)∧b≠X.env.locals∧(∀ x c,X.env.cells.lookup x=some c→c≠b)∧∀ p∈X.pn++pins,p.1≠b):Inv X pins σ H' s':=by
 obtain ⟨h',g',d',t',o'⟩:=s';have e:o'=s.os:=ho;subst e;exact I.call (g':=g') (t':=t') (d':=d') u hok hg hch
end
noncomputable abbrev XK:=Value→Option Addr→Hp→Prop
noncomputable abbrev St:=List (Option V)
noncomputable abbrev VK:=V→Hp→Prop
noncomputable abbrev TE:=St→Hp→VK→Prop
noncomputable abbrev TT:=St→Hp→(Bool→Hp→Prop)→Prop
noncomputable abbrev TA:=St→Hp→(List V→Hp→Prop)→Prop
structure jcb where
 nx:St→Hp→Prop
 rt:VK
 bk:St→Hp→Prop:=fun _ _=>False
 ct:St→Hp→Prop:=fun _ _=>False
noncomputable abbrev TS:=jcb→St→Hp→Prop
noncomputable def EP (X:Cx) (pins:List (Addr×Obj)) (σ:St) (Q:VK) (u:Value) (s':Shared):Prop:=∃ v H',Inv X pins σ H' s'∧RelV v u∧Q v H'
noncomputable def TP (X:Cx) (pins:List (Addr×Obj)) (σ:St) (Q:Bool→Hp→Prop) (b:Bool) (s':Shared):Prop:=∃ H',Inv X pins σ H' s'∧Q b H'
noncomputable def AP (X:Cx) (pins:List (Addr×Obj)) (σ:St) (Q:List V→Hp→Prop) (us:List Value) (s':Shared):Prop:=∃ vs H',Inv X pins σ H' s'∧jx vs us∧Q vs H'
noncomputable def SP (X:Cx) (pins:List (Addr×Obj)) (D:jcb) (f:Flow) (s':Shared):Prop :=
 match f with
 | .next=>∃ σ' H',Inv X pins σ' H' s'∧D.nx σ' H'
 | .brk=>∃ σ' H',Inv X pins σ' H' s'∧D.bk σ' H'
 | .cont=>∃ σ' H',Inv X pins σ' H' s'∧D.ct σ' H'
 | .ret u=>∃ v σ' H',Inv X pins σ' H' s'∧RelV v u∧D.rt v H'
noncomputable def PE (X:Cx) (e:Expr) (t:TE):Prop :=
 ∀ (pins:List (Addr×Obj)) (s:Shared) (σ:St) (H:Hp) (Q:VK),Inv X pins σ H s→t σ H Q→wpAny (model X.prog X.w) X.A (eval e X.env) (EP X pins σ Q) X.xe s
noncomputable def PT (X:Cx) (e:Expr) (t:TT):Prop :=
 ∀ (pins:List (Addr×Obj)) (s:Shared) (σ:St) (H:Hp) (Q:Bool→Hp→Prop),Inv X pins σ H s→t σ H Q→wpAny (model X.prog X.w) X.A (isTrue e X.env (eval e X.env)) (TP X pins σ Q) X.xe s
noncomputable def PW (X:Cx) (e:Expr) (t:TT):Prop :=
 ∀ (whole:Sem Value) (pins:List (Addr×Obj)) (s:Shared) (σ:St) (H:Hp) (Q:Bool→Hp→Prop),Inv X pins σ H s→t σ H Q→wpAny (model X.prog X.w) X.A (isTrue e X.env whole) (TP X pins σ Q) X.xe s
theorem PW.pt {X:Cx} {e:Expr} {t:TT} (h:PW X e t):PT X e t:=h _
noncomputable def PA (X:Cx) (es:List Expr) (t:TA):Prop :=
 ∀ (pos:Pos) (pins:List (Addr×Obj)) (s:Shared) (σ:St) (H:Hp) (Q:List V→Hp→Prop),Inv X pins σ H s→t σ H Q→wpAny (model X.prog X.w) X.A (spliced (backTo pos (starEach es X.env))) (AP X pins σ Q) X.xe s
noncomputable def PS (X:Cx) (st:Stmt) (t:TS):Prop :=
 ∀ (pins:List (Addr×Obj)) (s:Shared) (σ:St) (H:Hp) (D:jcb),Inv X pins σ H s→t D σ H→wpAny (model X.prog X.w) X.A (exec st X.env) (SP X pins D) X.xe s
noncomputable def PSs (X:Cx) (st:List Stmt) (t:TS):Prop :=
 ∀ (pins:List (Addr×Obj)) (s:Shared) (σ:St) (H:Hp) (D:jcb),Inv X pins σ H s→t D σ H→wpAny (model X.prog X.w) X.A (execs st X.env) (SP X pins D) X.xe s
theorem thn {α:Type} {t:Sem α} {Q Q':α→Shared→Prop} {M:Model} {A:Around} {E:Value→Shared→Prop} {s:Shared} (h:wpAny M A t Q E s) (hQ:∀ a s,Q a s→Q' a s):wpAny M A t Q' E s:=Fd h hQ fun _ _ x=>x
section
variable {X:Cx}
theorem bin {a b:Expr} {ta tb:TE} (ha:PE X a ta) (hb:PE X b tb) {pins:List (Addr×Obj)} {s:Shared} {σ:St} {H:Hp} {R:V→V→Hp→Prop} (I:Inv X pins σ H s) (h:ta σ H fun x H1=>tb σ H1 fun y H2=>R x y H2)
  {α:Type} {Q:α→Shared→Prop} {f:Value→Value→Sem α}
  (hf:∀ v u s2 x y H2,Inv X pins σ H2 s2→RelV x v→RelV y u→R x y H2→wpAny (model X.prog X.w) X.A (f v u) Q X.xe s2) :
  wpAny (model X.prog X.w) X.A (eval a X.env) (fun v s₁=>wpAny (model X.prog X.w) X.A (eval b X.env) (fun u s₂=>wpAny (model X.prog X.w) X.A (f v u) Q X.xe s₂) X.xe s₁) X.xe s:=by
 refine thn (ha pins s σ H _ I h) fun v s1 ⟨x,H1,I1,r1,q1⟩=>?_;refine thn (hb pins s1 σ H1 _ I1 q1) fun u s2 ⟨y,H2,I2,r2,q2⟩=>?_;exact hf v u s2 x y H2 I2 r1 r2 q2
noncomputable def jmc (i:Nat):TE:=fun σ H Q=>∃ v,σ[i]?=some (some v)∧Q v H
noncomputable def tC (v:V):TE:=fun _ H Q=>Q v H
theorem jsW {i:Nat} {x:Str} {pos:Pos} (hN:X.N[i]?=some x) (hv:Vis X.env.scope x) (hd:(x == ("__debug__":Str))=false:=by decide) (hcd:(x == ("__classdict__":Str))=false:=by decide):PE X (.Name x pos) (jmc i):=by
 intro pins s σ H Q I h;obtain ⟨v,e,h⟩:=h;obtain ⟨m,hn,hl⟩:=I.loc;obtain ⟨u,r,l⟩:=hl i x v hN e hv;have fin:EP X pins σ Q u s:=⟨v,H,I,r,h⟩;rcases l with ⟨hk,hm⟩|⟨hk,c,hc,hcell⟩
 ·exact wpAny_Name (wpAny_loadName_local I.ok.kind hk hn hm fin) hd
 ·rcases hk with hk|hk
  ·exact wpAny_Name (wpAny_loadName_cell I.ok.kind hk hc hcell fin) hd
  ·exact wpAny_Name (wpAny_loadName_free I.ok.kind hk hc hcell fin hcd) hd
theorem jj {i j pos}:PE X (.Constant (.int i) j pos) (tC (.int i)):=fun _ _ _ H _ I h=>wpAny_Constant_int ⟨.int i,H,I.tok _,⟨_,rfl⟩,h⟩
theorem vY {b j pos}:PE X (.Constant (.bool b) j pos) (tC (.bl b)):=fun _ _ _ H _ I h=>Constant_bool ⟨.bl b,H,I,rfl,h⟩
theorem jbD {j pos}:PE X (.Constant .none j pos) (tC .non):=fun _ _ _ H _ I h=>Constant_none ⟨.non,H,I,rfl,h⟩
theorem jsV {x j pos}:PE X (.Constant (.str x) j pos) (tC (.str x)):=fun _ _ _ H _ I h=>Calls.Constant_str ⟨.str x,H,I.tok _,⟨_,rfl⟩,h⟩
noncomputable def Gl (X:Cx) (x:Str):Prop:=X.env.kindOf x=some .globalImplicit
theorem jaM {E:Value→Shared→Prop} {pins:List (Addr×Obj)} {s:Shared} {σ:St} {H:Hp} {x:Str} {u:Value} {pos:Pos} {Q:Value→Shared→Prop} (I:Inv X pins σ H s) (hg:Gl X x) (hm:X.mg x=some u) (h:Q u s)
  (hd:(x == ("__debug__":Str))=false:=by decide):wpAny (model X.prog X.w) X.A (eval (.Name x pos) X.env) Q E s :=
 Calls.Name_function_global I.ok.kind hg (Calls.loadGlobal_global (by rw [I.ok.glob];exact I.mod.glob.keeps I.bk) hm h) hd
theorem jaX {E:Value→Shared→Prop} {pins:List (Addr×Obj)} {s:Shared} {σ:St} {H:Hp} {x:Str} {u:Value} {pos:Pos} {Q:Value→Shared→Prop} (I:Inv X pins σ H s) (hg:Gl X x) (hm:X.mg x=none) (hv:bootBuiltins x=some u) (h:Q u s)
  (hn:x≠"__name__":=by decide) (hd:(x == ("__debug__":Str))=false:=by decide):wpAny (model X.prog X.w) X.A (eval (.Name x pos) X.env) Q E s:=by
 obtain ⟨mb,h1,h2⟩:=I.mod.blt;exact Calls.Name_function_global I.ok.kind hg (Calls.loadGlobal_builtin (by rw [I.ok.glob];exact I.mod.glob.keeps I.bk) hm (by rw [I.ok.blt];exact h1.keeps I.bk) ((h2 x hn).trans hv) h) hd
theorem jnw {x:Str} {v:V} {u:Value} {pos:Pos} (hg:Gl X x) (hm:X.mg x=some u) (r:RelV v u) (hd:(x == ("__debug__":Str))=false:=by decide):PE X (.Name x pos) (tC v) :=
 fun _ _ _ H _ I h=>jaM I hg hm ⟨v,H,I,r,h⟩ hd
variable {a b:Expr} {ta tb:TE} {pos:Pos}
noncomputable def PC (X:Cx) (op:CmpOp) (a b:Expr) (t:TE):Prop :=
 ∀ (pins:List (Addr×Obj)) (s:Shared) (σ:St) (H:Hp) (Q:VK),Inv X pins σ H s→t σ H Q →
  wpAny (model X.prog X.w) X.A (eval a X.env) (fun v s₁=>wpAny (model X.prog X.w) X.A (eval b X.env) (fun u s₂=>wpAny (model X.prog X.w) X.A (compareOp op v u) (EP X pins σ Q) X.xe s₂) X.xe s₁) X.xe s
theorem jqJ (b:Expr) {op:CmpOp} (h:op≠.In) (h2:op≠.NotIn):behindInMarks op b=false:=by
 have e1:(op == CmpOp.In)=false:=by cases op<;>first|rfl|exact absurd rfl h
 have e2:(op == CmpOp.NotIn)=false:=by cases op<;>first|rfl|exact absurd rfl h2
 cases b<;>simp [behindInMarks,e1,e2]
noncomputable def jup (ta:TE):TE:=fun σ H Q=>ta σ H fun x H1=>Q (.bl (decide (x=.non))) H1
theorem RelV.none_iff {x:V} {v:Value} (r:RelV x v):(v == Value.none)=decide (x=.non):=by
 cases x with
 | non=>cases r;rfl
 | bl _=>cases r;rfl
 | int _=>obtain ⟨t,rfl⟩:=r;rfl
 | str _=>obtain ⟨t,rfl⟩:=r;rfl
 | byt _=>obtain ⟨t,rfl⟩:=r;rfl
 | flt _=>obtain ⟨t,rfl⟩:=r;rfl
 | ref _=>cases r;rfl
 | ty _=>cases r;rfl
theorem jbC {j pos'} (ha:PE X a ta):PC X .Is a (.Constant .none j pos') (jup ta):=by
 intro pins s σ H Q I h;refine thn (ha pins s σ H _ I h) fun v s1 ⟨x,H1,I1,r1,q1⟩=>?_;exact Constant_none (is_none_gen ⟨.bl _,H1,I1,by rw [r1.none_iff];rfl,q1⟩)
noncomputable def tB (t:TE):TT:=fun σ H Q=>t σ H fun x H1=>∃ c,x=.bl c∧Q c H1
theorem jac {op:CmpOp} {t:TE} (h:PC X op a b t) (h1:behindInMarks op b=false:=by first|exact jqJ _ (by decide) (by decide)|rfl):PT X (.Compare a [op] [b] pos) (tB t):=by
 intro pins s σ H Q I hw;refine wpAny_isTrue_Compare1 (thn (h pins s σ H _ I hw) fun v s1 h1=>thn h1 fun u s2 h2=>thn h2 fun c s3 zqq=>?_) h1;obtain ⟨x,H1,I1,r1,q1⟩:=zqq;obtain ⟨d,rfl,q⟩:=q1;cases r1;exact Fk ⟨H1,I1,q⟩
theorem vz {e:Expr} {t:TE} (h:PE X e t) (he:∀ whole,isTrue e X.env whole=(do let v ←whole;standAt e.pos;holding [v] (truthy v)):=by intro _;rfl):PT X e (tB t):=by
 intro pins s σ H Q I hw;refine isTrue_plain (thn (h pins s σ H _ I hw) fun v s1 zqq=>?_) (he _);obtain ⟨x,H1,I1,r1,q1⟩:=zqq;obtain ⟨d,rfl,q⟩:=q1;cases r1;exact Fk ⟨H1,I1,q⟩
variable {tA tB':TT} {rest:List Expr}
noncomputable def jul (t u:TT):TT:=fun σ H Q=>t σ H fun c H1=>if c=true then u σ H1 Q else Q false H1
noncomputable def tOr (t u:TT):TT:=fun σ H Q=>t σ H fun c H1=>if c=true then Q true H1 else u σ H1 Q
noncomputable def jus (t:TT):TT:=fun σ H Q=>t σ H fun c H1=>Q (!c) H1
theorem jnB (ha:PT X a tA):PW X (.BoolOp .And [a] pos) tA:=by
 intro wh pins s σ H Q I h;refine isTrue_and (thn (ha pins s σ H Q I h) fun c s1 e=>?_);cases c with
 | true=>exact isTrue_and_nil e
 | false=>exact e
theorem jaw (ha:PT X a tA):PW X (.BoolOp .Or [a] pos) tA:=by
 intro wh pins s σ H Q I h;refine isTrue_or (thn (ha pins s σ H Q I h) fun c s1 e=>?_);cases c with
 | false=>exact isTrue_or_nil e
 | true=>exact e
theorem jpL (ha:PT X a tA) (hb:PW X (.BoolOp .And (b :: rest) pos) tB'):PW X (.BoolOp .And (a :: b :: rest) pos) (jul tA tB'):=by
 intro wh pins s σ H Q I h;refine isTrue_and (thn (ha pins s σ H _ I h) fun c s1 zqq=>?_);obtain ⟨H1,I1,q1⟩:=zqq;cases c with
 | true=>exact hb wh pins s1 σ H1 Q I1 q1
 | false=>exact ⟨H1,I1,q1⟩
theorem jak (ha:PT X a tA) (hb:PW X (.BoolOp .Or (b :: rest) pos) tB'):PW X (.BoolOp .Or (a :: b :: rest) pos) (tOr tA tB'):=by
 intro wh pins s σ H Q I h;refine isTrue_or (thn (ha pins s σ H _ I h) fun c s1 zqq=>?_);obtain ⟨H1,I1,q1⟩:=zqq;cases c with
 | true=>exact ⟨H1,I1,q1⟩
 | false=>exact hb wh pins s1 σ H1 Q I1 q1
theorem vL (ha:PT X a tA):PT X (.UnaryOp .Not a pos) (jus tA):=by
 intro pins s σ H Q I h;exact isTrue_not (ha pins s σ H (fun c H1=>Q (!c) H1) I h)
noncomputable def jtN (ta tb:TE):TE:=fun σ H Q=>ta σ H fun x H1=>∃ c,x=.bl c∧if c=true then tb σ H1 Q else Q (.bl false) H1
noncomputable def jut (ta tb:TE):TE:=fun σ H Q=>ta σ H fun x H1=>∃ c,x=.bl c∧if c=true then Q (.bl true) H1 else tb σ H1 Q
noncomputable def jtS (ta:TE):TE:=fun σ H Q=>ta σ H fun x H1=>∃ c,x=.bl c∧Q (.bl (!c)) H1
theorem jh8 {op} {t:TE} (h:PE X a t):PE X (.BoolOp op [a] pos) t:=fun pins s σ H Q I hw=>BoolOp_one (h pins s σ H Q I hw)
theorem jh7 (ha:PE X a ta) (hb:PE X (.BoolOp .And (b :: rest) pos) tb):PE X (.BoolOp .And (a :: b :: rest) pos) (jtN ta tb):=by
 intro pins s σ H Q I h;refine BoolOp_and (thn (ha pins s σ H _ I h) fun v s1 zqq=>?_);obtain ⟨x,H1,I1,r1,q1⟩:=zqq;obtain ⟨c,rfl,q1⟩:=q1;cases r1;refine Fk ?_;cases c with
 | true=>exact hb pins s1 σ H1 Q I1 q1
 | false=>exact ⟨.bl false,H1,I1,rfl,q1⟩
theorem jtI (ha:PE X a ta) (hb:PE X (.BoolOp .Or (b :: rest) pos) tb):PE X (.BoolOp .Or (a :: b :: rest) pos) (jut ta tb):=by
 intro pins s σ H Q I h;refine BoolOp_or (thn (ha pins s σ H _ I h) fun v s1 zqq=>?_);obtain ⟨x,H1,I1,r1,q1⟩:=zqq;obtain ⟨c,rfl,q1⟩:=q1;cases r1;refine Fk ?_;cases c with
 | false=>exact hb pins s1 σ H1 Q I1 q1
 | true=>exact ⟨.bl true,H1,I1,rfl,q1⟩
theorem jsU (ha:PE X a ta):PE X (.UnaryOp .Not a pos) (jtS ta):=by
 intro pins s σ H Q I h;refine UnaryOp_ (thn (ha pins s σ H _ I h) fun v s1 zqq=>?_);obtain ⟨x,H1,I1,r1,q1⟩:=zqq;obtain ⟨c,rfl,q1⟩:=q1;cases r1;exact not_of (Fk ⟨.bl (!c),H1,I1,rfl,q1⟩)
end
noncomputable def SqL (K:Frag) (H:Hp) (a:Addr) (xs:List V):Prop :=
 Rd H a (.lst xs) ∨
  ∃ (o:Obj) (its:Array Value) (n:Nat),K.lookup a=some o∧o.cls=.type "list"∧o.dict=none∧o.data=.seq its n∧its.size≤sizeLine∧jx xs its.toList
noncomputable def SqT (K:Frag) (H:Hp) (a:Addr) (xs:List V):Prop :=
 Rd H a (.tup xs) ∨
  ∃ (o:Obj) (its:Array Value) (n:Nat),K.lookup a=some o∧o.cls=.type "tuple"∧o.data=.seq its n∧its.size≤sizeLine∧jx xs its.toList
noncomputable def jtV:Value→Option V
 | .none=>some .non
 | .bool b=>some (.bl b)
 | .int i _=>some (.int i)
 | .str x _=>some (.str x)
 | .bytes b _=>some (.byt b)
 | .float b _=>some (.flt b)
 | .ref a=>some (.ref a)
 | .type n=>some (.ty n)
 | _=>none
theorem RelV.abs {x:V} {u:Value} (r:RelV x u):jtV u=some x:=by
 cases x with
 | non=>cases r;rfl
 | bl _=>cases r;rfl
 | int _=>obtain ⟨t,rfl⟩:=r;rfl
 | str _=>obtain ⟨t,rfl⟩:=r;rfl
 | byt _=>obtain ⟨t,rfl⟩:=r;rfl
 | flt _=>obtain ⟨t,rfl⟩:=r;rfl
 | ref _=>cases r;rfl
 | ty _=>cases r;rfl
theorem RelV.inj {x y:V} {u:Value} (r:RelV x u) (q:RelV y u):x=y:=Cs (r.abs.symm.trans q.abs)
theorem jx.inj:∀ {xs ys:List V} {us:List Value},jx xs us→jx ys us→xs=ys
 | _,_,_,.nil,.nil=>rfl
 | _,_,_,.cons r t,.cons r' t'=>by rw [r.inj r',jx.inj t t']
section
variable {X:Cx} {pins:List (Addr×Obj)} {σ:St} {H:Hp} {s:Shared} {a:Addr} {xs ys:List V}
theorem SqL.of {K:Frag} (h:H a=some (.lst xs)):SqL K H a xs:=.inl (.inl h)
theorem SqT.of {K:Frag} (h:H a=some (.tup xs)):SqT K H a xs:=.inl (.inl h)
theorem Inv.list (I:Inv X pins σ H s) (h:SqL X.K H a xs):∃ its:List Value,jx xs its∧PlainL s.heap a its.toArray∧xs.length≤sizeLine:=by
 rcases h with h|⟨o,its,n,hk,hc,hd,hs,hz,r⟩
 ·obtain ⟨z,its,n,r,e⟩:=h.ok I.hok;exact ⟨its,r,⟨_,n,e,rfl,rfl,rfl⟩,z⟩
 ·refine ⟨its.toList,r,⟨o,n,I.kIn a o hk,hc,hd,by simpa using hs⟩,?_⟩;have e:=r.length;simp only [Gr] at e;omega
theorem Inv.tuple (I:Inv X pins σ H s) (h:SqT X.K H a xs):∃ its:List Value,jx xs its∧IsTup s.heap a its.toArray∧xs.length≤sizeLine:=by
 rcases h with h|⟨o,its,n,hk,hc,hs,hz,r⟩
 ·obtain ⟨z,its,r,p⟩:=h.ok I.hok;exact ⟨its,r,p,z⟩
 ·refine ⟨its.toList,r,⟨o,I.kIn a o hk,hc,n,by simpa using hs⟩,?_⟩;have e:=r.length;simp only [Gr] at e;omega
theorem Inv.list_inj (I:Inv X pins σ H s) (h:SqL X.K H a xs) (h':SqL X.K H a ys):xs=ys:=by
 obtain ⟨its,r,⟨o,n,e,_,_,d⟩,_⟩:=I.list h;obtain ⟨its',r',⟨o',n',e',_,_,d'⟩,_⟩:=I.list h';rw [e] at e';cases e';rw [d] at d';injection d' with d1 _;have:its=its':=by simpa using D7 Array.toList d1
 subst this;exact r.inj r'
end
noncomputable abbrev Cx.wish (X:Cx) (E:Value→Shared→Prop):Cx:={ X with xe:=E }
noncomputable abbrev Cx.nox (X:Cx):Cx:=X.wish fun _ _=>False
theorem Cx.Ok.wish {X:Cx} (ok:X.Ok) (E:Value→Shared→Prop):(X.wish E).Ok :=
 ⟨ok.mod,ok.kind,ok.glob,ok.blt,ok.above,ok.inj,ok.has,ok.cab,ok.hd,ok.frames,ok.stk,ok.exf,ok.bs,ok.bsz,ok.noex,ok.exfs,ok.funs,ok.frf⟩
theorem Cx.Ok.unwish {X:Cx} {E:Value→Shared→Prop} (ok:(X.wish E).Ok):X.Ok :=
 ⟨ok.mod,ok.kind,ok.glob,ok.blt,ok.above,ok.inj,ok.has,ok.cab,ok.hd,ok.frames,ok.stk,ok.exf,ok.bs,ok.bsz,ok.noex,ok.exfs,ok.funs,ok.frf⟩
section
variable {X:Cx} {pins:List (Addr×Obj)} {σ:St} {H:Hp} {s:Shared} {E:Value→Shared→Prop}
theorem Inv.wish (I:Inv X pins σ H s) (E:Value→Shared→Prop):Inv (X.wish E) pins σ H s:=⟨I.ok.wish E,I.os,I.bare,I.base,I.loc,I.cell,I.free,I.freeC,I.pin,I.hok,I.len⟩
theorem Inv.unwish (I:Inv (X.wish E) pins σ H s):Inv X pins σ H s:=⟨I.ok.unwish,I.os,I.bare,I.base,I.loc,I.cell,I.free,I.freeC,I.pin,I.hok,I.len⟩
theorem SP.unwish {D:jcb} {f:Flow} {s':Shared} (h:SP (X.wish E) pins D f s'):SP X pins D f s':=by
 cases f with
 | next=>obtain ⟨σ',H',I,q⟩:=h;exact ⟨σ',H',I.unwish,q⟩
 | brk=>obtain ⟨σ',H',I,q⟩:=h;exact ⟨σ',H',I.unwish,q⟩
 | cont=>obtain ⟨σ',H',I,q⟩:=h;exact ⟨σ',H',I.unwish,q⟩
 | ret u=>obtain ⟨v,σ',H',I,r,q⟩:=h;exact ⟨v,σ',H',I.unwish,r,q⟩
theorem PSs.nox {st:List Stmt} {t:TS} (h:PSs X.nox st t):PSs X st t:=fun pins s σ H D I hw =>
 Fd (h pins s σ H D (I.wish _) hw) (fun _ _ q=>q.unwish) fun _ _ z=>False.elim z
end
section
variable {X:Cx} {st:Stmt} {rest:List Stmt} {t u:TS} {e:Expr} {te:TE} {pos:Pos}
noncomputable def jtR:TS:=fun D σ H=>D.nx σ H
noncomputable def juv (t u:TS):TS:=fun D σ H=>t { D with nx:=u D } σ H
theorem jt:PSs X [] jtR:=fun _ _ σ H _ I h=>Lm ⟨σ,H,I,h⟩
theorem jd (h1:PS X st t) (h2:PSs X rest u):PSs X (st :: rest) (juv t u):=by
 intro pins s σ H D I h;refine wpAny_execs_cons (thn (h1 pins s σ H { D with nx:=u D } I h) fun f s1 q=>?_);cases f with
 | next =>
  obtain ⟨σ',H',I',q⟩:=q;exact h2 pins s1 σ' H' D I' q
 | ret v=>exact q
 | brk=>exact q
 | cont=>exact q
theorem jg (h1:PS X st t):PSs X [st] t:=by
 intro pins s σ H D I h;refine wpAny_execs_cons (thn (h1 pins s σ H D I h) fun f s1 q=>?_);cases f with
 | next=>exact Lm q
 | ret v=>exact q
 | brk=>exact q
 | cont=>exact q
theorem Inv.quiet {pins:List (Addr×Obj)} {σ:St} {H:Hp} {s:Shared} (I:Inv X pins σ H s):interactive X.env=false:=by simp [interactive,I.ok.kind]
noncomputable def jtP (te:TE):TS:=fun D σ H=>te σ H fun _ H1=>D.nx σ H1
theorem vC (he:PE X e te) (hs:swapsWith e none pos.line X.env=pure false:=by rfl):PS X (.Expr e pos) (jtP te):=by
 intro pins s σ H D I h;exact wpAny_Expr_any (thn (he pins s σ H _ I h) fun v s1 ⟨x,H1,I1,r1,q1⟩=>⟨σ,H1,I1,q1⟩) I.quiet hs
noncomputable def juu (te:TE):TS:=fun D σ H=>te σ H D.rt
theorem jk (he:PE X e te):PS X (.Return (some e) pos) (juu te):=by
 intro pins s σ H D I h;exact wpAny_Return_some (thn (he pins s σ H _ I h) fun v s1 ⟨x,H1,I1,r1,q1⟩=>⟨x,σ,H1,I1,r1,q1⟩)
noncomputable def juo (c:TT) (t u:TS):TS:=fun D σ H=>c σ H fun b H1=>if b=true then t D σ H1 else u D σ H1
theorem jz {c:Expr} {a b:List Stmt} {tc:TT} (hc:PT X c tc) (ha:PSs X a t) (hb:PSs X b u):PS X (.If c a b pos) (juo tc t u):=by
 intro pins s σ H D I h;refine wpAny_If (thn (hc pins s σ H _ I h) fun d s1 zqq=>?_);obtain ⟨H1,I1,q1⟩:=zqq;cases d with
 | true=>exact ha pins s1 σ H1 D I1 q1
 | false=>exact hb pins s1 σ H1 D I1 q1
noncomputable def jtc:TS:=fun _ _ _=>False
theorem jqW:PS X st jtc:=fun _ _ _ _ _ _ h=>h.elim
end
noncomputable abbrev TG:=V→St→Hp→(St→Hp→Prop)→Prop
noncomputable abbrev TGs:=List V→St→Hp→(St→Hp→Prop)→Prop
noncomputable def PG (X:Cx) (target:Expr) (t:TG):Prop :=
 ∀ (pins:List (Addr×Obj)) (s:Shared) (σ:St) (H:Hp) (v:V) (u:Value) (Q:St→Hp→Prop),Inv X pins σ H s→RelV v u→t v σ H Q →
  wpAny (model X.prog X.w) X.A (assign target X.env u) (fun _ s'=>∃ σ' H',Inv X pins σ' H' s'∧Q σ' H') X.xe s
noncomputable def PGs (X:Cx) (ts:List Expr) (t:TGs):Prop :=
 ∀ (pins:List (Addr×Obj)) (s:Shared) (σ:St) (H:Hp) (vs:List V) (us:List Value) (Q:St→Hp→Prop),Inv X pins σ H s→jx vs us→t vs σ H Q →
  wpAny (model X.prog X.w) X.A (assignInOrder ((assignEach ts X.env).map (·.2)) us) (fun _ s'=>∃ σ' H',Inv X pins σ' H' s'∧Q σ' H') X.xe s
noncomputable abbrev jp9:=V→V→V→Hp→(Hp→Prop)→Prop
noncomputable def jsf (X:Cx) (t:jp9):Prop :=
 ∀ (pins:List (Addr×Obj)) (s:Shared) (σ:St) (H:Hp) (o i v:V) (ov iv u:Value) (Q:Hp→Prop),Inv X pins σ H s→RelV o ov→RelV i iv→RelV v u→t o i v H Q →
  wpAny (model X.prog X.w) X.A (setItem ov iv u) (fun _ s'=>∃ H',Inv X pins σ H' s'∧Q H') X.xe s
section
variable {X:Cx} {pos:Pos}
noncomputable def jhM (i:Nat):TG:=fun v σ H Q=>Q (σ.set i (some v)) H
theorem jM {i:Nat} {x:Str} (hN:X.N.Nodup) (hi:X.N[i]?=some x) (hx:Loc X.env.scope x) (hf:X.fn x=true∨X.env.scope.names.lookup x=some .local:=by first|exact .inl rfl|exact .inr rfl|assumption):PG X (.Name x pos) (jhM i):=by
 intro pins s σ H v u Q I r h;exact wpAny_assign_Name (jhB I hN hi hx r (fun s' I'=>⟨_,H,I',h⟩) hf)
noncomputable def jt0:TGs:=fun vs σ H Q=>vs=[]∧Q σ H
noncomputable def jtz (t:TG) (u:TGs):TGs:=fun vs σ H Q=>∃ v r,vs=v :: r∧t v σ H fun σ' H'=>u r σ' H' Q
theorem jdG:PGs X [] jt0:=by
 intro pins s σ H vs us Q I r h;obtain ⟨e,h⟩:=h;subst e;cases r;exact assignInOrder_nil ⟨σ,H,I,h⟩
theorem zC {e:Expr} {es:List Expr} {t:TG} {u:TGs} (h1:PG X e t) (h2:PGs X es u)
  (hs:(assignEach (e :: es) X.env).map (·.2)=assign e X.env :: (assignEach es X.env).map (·.2):=by rfl):PGs X (e :: es) (jtz t u):=by
 intro pins s σ H vs us Q I r h;obtain ⟨v,vr,e1,h⟩:=h;subst e1;cases r with
 | cons r rr =>
  rw [hs];refine assignInOrder_cons (thn (h1 pins s σ H _ _ _ I r h) fun _ s1 zqq=>?_);obtain ⟨σ1,H1,I1,q1⟩:=zqq;exact h2 pins s1 σ1 H1 _ _ Q I1 rr q1
noncomputable def jsA (K:Frag) (n:Nat) (t:TGs):TG:=fun v σ H Q=>∃ a xs,v=.ref a∧SqT K H a xs∧xs.length=n∧t xs σ H Q
theorem jfo {es:List Expr} {k:Nat} {t:TGs} {n:Nat} (hc:X.calm=true) (h:PGs X es t)
  (hn:(assignEach es X.env).length=n:=by rfl) (hst:(assignEach es X.env).findIdx? (·.1)=none:=by rfl):PG X (.Tuple es k pos) (jsA X.K n t):=by
 intro pins s σ H v u Q I r hw;obtain ⟨a,xs,e1,hq,hl,hw⟩:=hw;subst e1;cases r;obtain ⟨its,rv,ht,hz⟩:=I.tuple hq;refine assign_Tuple_tuple (I.ok.hd hc) ht (by simp [hn,←hl,rv.length]) hst fun h' hx=>?_;have I1:Inv X pins σ H { s with heap:=h' }:=I.kept (t':=s.toks) fun b o e=>hx b o (Di (Cu e)) e;exact h pins _ σ H xs _ Q I1 (by simpa using rv) hw
noncomputable def jt1 (to ti:TE) (t:jp9):TG:=fun v σ H Q=>to σ H fun o H1=>ti σ H1 fun i H2=>t o i v H2 fun H3=>Q σ H3
theorem jpE {o i:Expr} {to ti:TE} {t:jp9} (ho:PE X o to) (hi:PE X i ti) (hs:jsf X t)
  (ha:∀ v,assign (.Subscript o i pos) X.env v=(do
   let ov ←holding [v] (eval o X.env)
   let iv ←holding [v,ov] (eval i X.env)
   standAt pos
   holding [v,ov,iv] (setItem ov iv v)
   release [v,ov,iv] []):=by intro _;rfl):PG X (.Subscript o i pos) (jt1 to ti t):=by
 intro pins s σ H v u Q I r h;rw [ha];refine Ca (F4 (thn (ho pins s σ H _ I h) fun ov s1 zqq=>?_));obtain ⟨x,H1,I1,r1,q1⟩:=zqq;refine Ca (F4 (thn (hi pins s1 σ H1 _ I1 q1) fun iv s2 zqq=>?_));obtain ⟨y,H2,I2,r2,q2⟩:=zqq;refine Ca (Ll (Ca (F4 (thn (hs pins s2 σ H2 x y v ov iv u _ I2 r1 r2 r q2) fun _ s3 zqq=>?_))));obtain ⟨H3,I3,q3⟩:=zqq;exact wpAny_release ⟨σ,H3,I3,q3⟩
noncomputable def joB (te:TE) (g:TG):TS:=fun D σ H=>te σ H fun x H1=>g x σ H1 D.nx
theorem jpI {tg e:Expr} {te:TE} {g:TG} (he:PE X e te) (hg:PG X tg g) (hs:swapsWithSole [tg] e pos.line X.env=pure false:=by rfl) (hw:swappedStores [tg] e X.env=pure none:=by rfl)
  (h1:(assignEach [tg] X.env).map (·.2)=[assign tg X.env]:=by rfl):PS X (.Assign [tg] e pos) (joB te g):=by
 intro pins s σ H D I h;refine wpAny_Assign_stores (thn (he pins s σ H _ I h) fun v s1 zqq=>?_) hs hw;obtain ⟨x,H1,I1,r1,q1⟩:=zqq;rw [h1];exact thn (hg pins s1 σ H1 x v _ I1 r1 q1) fun _ s2 q=>q
theorem jpJ {i:Nat} {x:Str} {e:Expr} {te:TE} {pos':Pos} (hN:X.N.Nodup) (hi:X.N[i]?=some x) (hx:Loc X.env.scope x) (he:PE X e te) (hs:swapsWith e (some (.Name x pos')) pos.line X.env=pure false:=by rfl) (hf:X.fn x=true∨X.env.scope.names.lookup x=some .local:=by first|exact .inl rfl|exact .inr rfl|assumption) :
  PS X (.Assign [.Name x pos'] e pos) (joB te (jhM i)):=by
 intro pins s σ H D I h;refine wpAny_Assign_Name (thn (he pins s σ H _ I h) fun v s1 zqq=>?_) hs;obtain ⟨y,H1,I1,r1,q1⟩:=zqq;exact jhB I1 hN hi hx r1 (fun s2 I2=>⟨_,H1,I2,q1⟩) hf
end
section
variable {X:Cx} {pos:Pos}
noncomputable def jtd (c:TT) (tb:TS):TS:=fun D σ H=>∃ W:Nat→St→Hp→Prop,(∃ m,W m σ H)∧∀ m σ H,W m σ H →
 c σ H fun b H1=>if b=true then ∃ N:St→Hp→Prop,(∀ σ' H',N σ' H'→∃ m',m' < m∧W m' σ' H')∧tb { D with nx:=N,ct:=N,bk:=D.nx } σ H1 else D.nx σ H1
theorem jlB {c:Expr} {body:List Stmt} {tc:TT} {tb:TS} (hp:PassesOwn (model X.prog X.w) X.A X.env X.xe) (hc:PT X c tc) (hb:PSs X body tb):PS X (.While c body [] pos) (jtd tc tb):=by
 intro pins s σ H D I h;obtain ⟨W,⟨m0,w0⟩,turn⟩:=h;refine wpAny_While (codeAny_whileLoop (fun n s'=>∃ σ' H',Inv X pins σ' H' s'∧W n σ' H') ?_ m0 ⟨σ,H,I,w0⟩);rintro n s1 ⟨σ1,H1,I1,w1⟩;refine G5 hp (thn (hc pins s1 σ1 H1 _ I1 (turn n σ1 H1 w1)) fun b s2 zqq=>?_);obtain ⟨H2,I2,q2⟩:=zqq;cases b with
 | true =>
  obtain ⟨N,hN,q2⟩:=q2;rw [Ce rfl];refine G5 hp (thn (hb pins s2 σ1 H2 _ I2 q2) fun f s3 q3=>?_);cases f with
  | next =>
   obtain ⟨σ3,H3,I3,n3⟩:=q3;obtain ⟨m',hm,w3⟩:=hN σ3 H3 n3;exact ⟨m',hm,σ3,H3,I3,w3⟩
  | cont =>
   obtain ⟨σ3,H3,I3,n3⟩:=q3;obtain ⟨m',hm,w3⟩:=hN σ3 H3 n3;exact ⟨m',hm,σ3,H3,I3,w3⟩
  | brk=>exact q3
  | ret v=>exact q3
 | false =>
  rw [Cc C7];exact Lm ⟨σ1,H2,I2,q2⟩
end
structure It where
 go:Nat→Hp→Prop
 yld:Nat→Hp→V→Hp→Prop
 stop:Nat→Hp→Prop
noncomputable def zN (X:Cx) (pins:List (Addr×Obj)) (H:Hp) (b:Addr):Prop :=
 H b=none∧b≠X.env.locals∧b∉X.fs∧(b∈X.ex∨X.s_0.heap.objs.size≤b)∧(∀ x c,X.env.cells.lookup x=some c→c≠b)∧∀ p∈X.pn++pins,p.1≠b
theorem Inv.fpOk {X:Cx} {pins:List (Addr×Obj)} {σ:St} {H H':Hp} {s:Shared} {b:Addr} (I:Inv X pins σ H s) (hb:s.heap.objs.size≤b) (hn:H' b=none):zN X pins H' b:=by
 refine ⟨hn,Fs (C9 I.lt hb),I.nofs hb,.inr (Da I.sz hb),fun x c e z=>?_,fun p hp z=>?_⟩
 ·obtain ⟨v,q⟩:=I.cell x c e;exact absurd (C9 q.lt (by rw [z];exact hb)) (Gh _)
 ·exact absurd (C9 (Cu (I.pin p hp).1) (by rw [z];exact hb)) (Gh _)
structure jd8 (P:Program) (w:World) (K:Frag) (tg:Expr) (J:It) (fp:List Addr) (it:Addr) (tn:Nat→Heap→Prop):Prop where
 mem:it∈fp
 obj:∀ i h,tn i h→∀ b∈fp,∃ o,h.get? b=some o∧∀ v,o.data≠.cell v
 keep:∀ i h h',tn i h→(∀ b∈fp,∀ o,h.get? b=some o→h'.get? b=some o)→tn i h'
 item:∀ (X:Cx),X.prog=P→X.w=w→X.K=K→X.calm=true→∀ (i:Nat) (pins:List (Addr×Obj)) (s:Shared) (σ:St) (H:Hp) (E:Value→Shared→Prop),Inv X pins σ H s→(∀ b∈fp,zN X pins H b)→tn i s.heap→J.go i H →
  wpAny (model P w) X.A (pyNext (.ref it)) (fun r s1=>∃ u,r=some u ∧
   wpAny (model P w) X.A (letOwnedTupleGo tg (.ref it) u) (fun _ s2=>∃ x H',Inv X pins σ H' s2∧RelV x u∧J.yld i H x H'∧tn (i+1) s2.heap∧∀ b∈fp,H' b=none) E s1) E s
 done:∀ (X:Cx),X.prog=P→X.w=w→X.K=K→X.calm=true→∀ (i:Nat) (pins:List (Addr×Obj)) (s:Shared) (σ:St) (H:Hp) (E:Value→Shared→Prop),Inv X pins σ H s→(∀ b∈fp,zN X pins H b)→tn i s.heap→J.stop i H →
  wpAny (model P w) X.A (pyNext (.ref it)) (fun r s1=>r=none∧Inv X pins σ H s1) E s
 self:∀ (A:Around) (i:Nat) (s:Shared) (Q:Value→Shared→Prop) (E:Value→Shared→Prop),tn i s.heap→Q (.ref it) s→wpAny (model P w) A (pyIter (.ref it)) Q E s
noncomputable abbrev TI:=St→Hp→(It→Hp→Prop)→Prop
noncomputable def PIE (X:Cx) (pins:List (Addr×Obj)) (σ:St) (tg:Expr) (R:It→Hp→Prop) (itv:Value) (s2:Shared):Prop :=
 ∃ (it:Addr) (fp:List Addr) (tn:Nat→Heap→Prop) (J:It) (H':Hp),itv=.ref it∧Inv X pins σ H' s2∧jd8 X.prog X.w X.K tg J fp it tn∧tn 0 s2.heap∧(∀ b∈fp,zN X pins H' b)∧R J H'
noncomputable def PI (X:Cx) (tg iter:Expr) (wi:TI):Prop :=
 ∀ (pins:List (Addr×Obj)) (s:Shared) (σ:St) (H:Hp) (R:It→Hp→Prop),Inv X pins σ H s→wi σ H R →
  wpAny (model X.prog X.w) X.A (eval iter X.env) (fun v s1=>wpAny (model X.prog X.w) X.A (pyIter v) (PIE X pins σ tg R) X.xe s1) X.xe s
theorem jkA {M:Model} {A:Around} {E:Value→Shared→Prop} {s:Shared} {tg:Expr} {it:Addr} {u:Value} {o:Obj} {n:String} {vs:Array Value} {Q:Unit→Shared→Prop} (ho:s.heap.get? it=some o) (hc:o.cls=.type n) (hd:o.data=.fields vs)
  (hn:["enumerate","zip","dict_itemiterator","dict_reverseitemiterator","odict_iterator","itertools.zip_longest","itertools.pairwise"].contains n=false) (hQ:Q () s):wpAny M A (letOwnedTupleGo tg (.ref it) u) Q E s:=by
 unfold letOwnedTupleGo;cases tg<;>first
  | exact Ck hQ
  | (cases u<;>first
    | exact Ck hQ
    | (refine Ca (wpAny_load ho ?_);rw [hc,hd];show wpAny M A (if (["enumerate","zip","dict_itemiterator","dict_reverseitemiterator","odict_iterator","itertools.zip_longest","itertools.pairwise"].contains n && vs[0]? == some (rawInt _))=true then _ else _) Q E s;rw [Cc (by intro h;rw [hn,Dv] at h;cases h)];exact Ck hQ))
noncomputable def Itl (K:Frag) (a:Addr):It :=
 ⟨fun i H=>∃ xs x,SqL K H a xs∧xs[i]?=some x,fun i H x H'=>H'=H∧∀ xs,SqL K H a xs→xs[i]?=some x,fun i H=>∃ xs,SqL K H a xs∧xs.length≤i⟩
noncomputable def Itr (lo:Int) (n:Nat):It:=⟨fun i _=>i < n,fun i H x H'=>H'=H∧x=.int (lo+i),fun i _=>n≤i⟩
theorem jp0 {P:Program} {w:World} {K:Frag} {tg:Expr} (a it:Addr):jd8 P w K tg (Itl K a) [it] it (fun i h=>h.IsListIter it a i) where
 mem:=by simp
 obj:=fun i h st b hb=>by
  have e:b=it:=by simpa using hb
  subst e;obtain ⟨o,e,c,d⟩:=st;exact ⟨o,e,fun v z=>by rw [d] at z;cases z⟩
 keep:=fun i h h' st k=>st.at fun o e=>k it (by simp) o e
 item:=by
  intro X hP hw hK hc i pins s σ H E I hf st hg;subst hP hw hK;obtain ⟨xs,x,hq,hx⟩:=hg;obtain ⟨its,rv,p,hz⟩:=I.list hq;obtain ⟨u,hu,ru⟩:=rv.get hx;obtain ⟨f0,f1,f2,f3,f4,f5⟩:=hf it (by simp);refine wpAny_pyNext_list_item st p.isList (x:=u) (by simpa using hu) fun h' st' sb=>?_;have I1:Inv X pins σ H { s with heap:=h' }:=I.turned (t':=s.toks) (fun b o hb e=>(sb.2 b hb).trans e) f0 f1 f3 f4 f5;obtain ⟨o,e,c,d⟩:=id st';exact ⟨u,rfl,jkA (s:={ s with heap:=h' }) e c d (by decide) ⟨x,H,I1,ru,⟨rfl,fun ys hy=>by rw [I.list_inj hy hq];exact hx⟩,st',fun b hb=>(hf b hb).1⟩⟩
 done:=by
  intro X hP hw hK hc i pins s σ H E I hf st hg;subst hP hw hK;obtain ⟨xs,hq,hx⟩:=hg;obtain ⟨its,rv,p,hz⟩:=I.list hq;obtain ⟨f0,f1,f2,f3,f4,f5⟩:=hf it (by simp);have hl:=rv.length;exact wpAny_pyNext_list_end (I.ok.hd hc) st p.isList (by simp;omega) fun h' eb=>⟨rfl,I.turned (t':=s.toks) (fun b o hb e=>eb b o hb e) f0 f1 f3 f4 f5⟩
 self:=fun _ _ _ _ _ st h=>wpAny_pyIter_listiter st h
theorem joF {P:Program} {w:World} {K:Frag} {tg:Expr} (it:Addr) (lo:Int) (n:Nat):jd8 P w K tg (Itr lo n) [it] it (fun i h=>IsRangeIter h it (lo+(i:Nat) * 1) ((n:Int) - (i:Nat)) 1) where
 mem:=by simp
 obj:=fun i h st b hb=>by
  have e:b=it:=by simpa using hb
  subst e;exact ⟨_,st,fun v z=>by
   have z':Data.fields _=Data.cell v:=z;cases z'⟩
 keep:=fun i h h' st k=>k it (by simp) _ st
 item:=by
  intro X hP hw hK hc i pins s σ H E I hf st hg;subst hP hw hK;obtain ⟨f0,f1,f2,f3,f4,f5⟩:=hf it (by simp);have W:=Walks.range (prog:=X.prog) (w:=X.w) (I.ok.hd hc) it lo 1 n;refine W.item i s _ _ hg st fun v h' tk hv st' kk=>?_;obtain ⟨t,rfl⟩:=hv;have I1:Inv X pins σ H { s with heap:=h',toks:=tk }:=I.turned (fun b o hb e=>kk b o (by simpa using hb) e) f0 f1 f3 f4 f5;refine ⟨_,rfl,jkA (s:={ s with heap:=h',toks:=tk }) (n:="range_iterator") st' rfl rfl (by decide) ⟨.int (lo+i),H,I1,⟨t,?_⟩,⟨rfl,rfl⟩,st',fun b hb=>(hf b hb).1⟩⟩;rw [Int.mul_one]
 done:=by
  intro X hP hw hK hc i pins s σ H E I hf st hg;subst hP hw hK;obtain ⟨f0,f1,f2,f3,f4,f5⟩:=hf it (by simp);exact wpAny_pyNext_range_end (I.ok.hd hc) st (by have:n≤i:=hg;omega) fun h' eb=>⟨rfl,I.turned (t':=s.toks) (fun b o hb e=>eb b o hb e) f0 f1 f3 f4 f5⟩
 self:=fun _ _ _ _ _ st h=>wpAny_pyIter_rangeiter st h
section
variable {X:Cx} {tg:Expr}
noncomputable def jtB (K:Frag) (tl:TE):TI:=fun σ H R=>tl σ H fun x H1=>∃ a,x=.ref a∧(∃ xs,SqL K H1 a xs)∧R (Itl K a) H1
theorem vc {l:Expr} {tl:TE} (hl:PE X l tl):PI X tg l (jtB X.K tl):=by
 intro pins s σ H R I h;refine thn (hl pins s σ H _ I h) fun v s1 ⟨x,H1,I1,r1,q1⟩=>?_;obtain ⟨a,e,⟨xs,hq⟩,q⟩:=q1;subst e;cases r1;obtain ⟨its,rv,p,hz⟩:=I1.list hq;refine wpAny_pyIter_list p.isList ?_;refine ⟨s1.heap.objs.size,[s1.heap.objs.size],_,_,H1,rfl,I1.kept (t':=s1.toks) fun b o e=>Ch _ e,jp0 a _,⟨_,Cv _ rfl,rfl,rfl⟩,fun b hb=>?_,q⟩;have e:b=s1.heap.objs.size:=by simpa using hb
 subst e;exact I1.fpOk (Cl _) (I1.hok.fresh (Cl _))
theorem jlF {pins:List (Addr×Obj)} {σ:St} {H:Hp} {s:Shared} {R:It→Hp→Prop} {E:Value→Shared→Prop} {lo hi:Int} {t u v:Tok} {tk:Nat} (I:Inv X pins σ H s) (h1:-(2 ^ 62)≤lo) (h2:lo < 2 ^ 62) (h3:-(2 ^ 62)≤hi) (h4:hi < 2 ^ 62)
  (q:R (Itr lo (hi - lo).toNat) H):wpAny (model X.prog X.w) X.A (pyIter (.ref s.heap.objs.size)) (PIE X pins σ tg R) E { s with heap:=s.heap.push { cls:=.type "range",data:=.fields #[.int lo t,.int hi u,.int 1 v] },toks:=tk }:=by
 refine wpAny_pyIter_range (IsRange.new ..) (small_one h1 h2 h3 h4) ?_;have I1:Inv X pins σ H { s with heap:=s.heap.push { cls:=.type "range",data:=.fields #[.int lo t,.int hi u,.int 1 v] },toks:=tk }:=I.kept fun b o e=>Ch _ e;refine ⟨(s.heap.push { cls:=.type "range",data:=.fields #[.int lo t,.int hi u,.int 1 v] }).objs.size,[(s.heap.push { cls:=.type "range",data:=.fields #[.int lo t,.int hi u,.int 1 v] }).objs.size],_,_,H,rfl,
  I1.kept (t':=tk) fun b o e=>Ch _ e,joF _ lo (hi - lo).toNat,?_,fun b hb=>?_,q⟩
 ·have e1:lo+((0:Nat):Int) * 1=lo:=by simp
  have e2:(((hi - lo).toNat:Nat):Int) - ((0:Nat):Int)=Builtin.Range.rangeSize lo hi 1:=by rw [rangeSize_one];split<;>omega
  show IsRangeIter _ _ (lo+((0:Nat):Int) * 1) ((((hi - lo).toNat:Nat):Int) - ((0:Nat):Int)) 1;rw [e1,e2];exact Cv _ rfl
 ·have e:b=(s.heap.push { cls:=.type "range",data:=.fields #[.int lo t,.int hi u,.int 1 v] }).objs.size:=by simpa using hb
  subst e;exact I1.fpOk (Cl _) (I1.hok.fresh (Cl _))
noncomputable def jtC (ta:TA):TI:=fun σ H R=>ta σ H fun vs H1=>∃ j:Int,vs=[.int j]∧-(2 ^ 62)≤j∧j < 2 ^ 62∧R (Itr 0 j.toNat) H1
noncomputable def jtD (ta:TA):TI:=fun σ H R=>ta σ H fun vs H1=>∃ i j:Int,vs=[.int i,.int j]∧(-(2 ^ 62)≤i∧i < 2 ^ 62∧-(2 ^ 62)≤j∧j < 2 ^ 62)∧R (Itr i (j - i).toNat) H1
theorem jpG {a:Expr} {ta:TA} {p pos:Pos} (hg:Gl X "range") (hm:X.mg "range"=none) (ha:PA X [a] ta) (hs:starEach [a] X.env=[(false,eval a X.env)]:=by rfl):PI X tg (.Call (.Name "range" p) [a] [] pos) (jtC ta):=by
 intro pins s σ H R I h;refine Call_ (jaX I hg hm boot_range (F8 (thn (ha pos pins s σ H _ I h) fun us s1 zqq=>?_) hs rfl));obtain ⟨vs,H1,I1,r1,q1⟩:=zqq;obtain ⟨j,e,q1,q2,q⟩:=q1;subst e;cases r1 with
 | cons r rr =>
  cases rr;obtain ⟨t,rfl⟩:=r;exact call_range_1 (jlF I1 (by omega) (by omega) q1 q2 (by simpa using q))
theorem jpH {a b:Expr} {ta:TA} {p pos:Pos} (hg:Gl X "range") (hm:X.mg "range"=none) (ha:PA X [a,b] ta) (hs:starEach [a,b] X.env=[(false,eval a X.env),(false,eval b X.env)]:=by rfl) (hs2:starEach [b] X.env=[(false,eval b X.env)]:=by rfl) :
  PI X tg (.Call (.Name "range" p) [a,b] [] pos) (jtD ta):=by
 intro pins s σ H R I h;refine Call_ (jaX I hg hm boot_range (F8 (thn (ha pos pins s σ H _ I h) fun us s1 ⟨vs,H1,I1,r1,q1⟩=>?_) (by rw [hs,hs2]) (by rw [hs2];rfl)));obtain ⟨i,j,e,⟨q1,q2,q3,q4⟩,q⟩:=q1;subst e;cases r1 with
 | cons r rr =>
  cases rr with
  | cons r' rr =>
   cases rr;obtain ⟨t,rfl⟩:=r;obtain ⟨t',rfl⟩:=r';exact call_range_2 (jlF I1 q1 q2 q3 q4 q)
noncomputable def jun (wi:TI) (g:TG) (tb:TS):TS:=fun D σ H=>wi σ H fun J H1=>∃ W:Nat→Nat→St→Hp→Prop,(∃ m,W 0 m σ H1)∧∀ i m σ H,W i m σ H →
 (J.stop i H∧D.nx σ H)∨(J.go i H∧∃ N:St→Hp→Prop,(∀ σ' H',N σ' H'→∃ m',m' < m∧W (i+1) m' σ' H')∧∀ x H',J.yld i H x H'→g x σ H' fun σ2 H2=>tb { D with nx:=N,ct:=N,bk:=D.nx } σ2 H2)
noncomputable def jfq (fp:List Addr) (h:Heap):List (Addr×Obj):=fp.filterMap fun b=>(h.get? b).map fun o=>(b,o)
theorem jel {fp:List Addr} {h:Heap} {b:Addr} {o:Obj} (hb:b∈fp) (e:h.get? b=some o):(b,o)∈jfq fp h:=List.mem_filterMap.mpr ⟨b,hb,by rw [e];rfl⟩
theorem jpv {fp:List Addr} {h:Heap} {p:Addr×Obj} (hp:p∈jfq fp h):p.1∈fp∧h.get? p.1=some p.2:=by
 obtain ⟨b,hb,e⟩:=List.mem_filterMap.mp hp;cases q:h.get? b with
 | none=>rw [q] at e;cases e
 | some o =>
  rw [q] at e;have e':(b,o)=p:=Cs e;subst e';exact ⟨hb,q⟩
theorem Inv.pinned {pins:List (Addr×Obj)} {σ:St} {H:Hp} {s:Shared} {fp:List Addr} (I:Inv X pins σ H s) (hf:∀ b∈fp,zN X pins H b) (ho:∀ b∈fp,∃ o,s.heap.get? b=some o∧∀ v,o.data≠.cell v):Inv X (pins++jfq fp s.heap) σ H s :=
 I.pins_of fun p hp=>(Ds.mp hp).elim (fun z=>I.pin p (D1 _ z)) fun z=>by
  obtain ⟨hb,e⟩:=jpv z;obtain ⟨f0,f1,f2,_⟩:=hf p.1 hb;obtain ⟨o,e',d⟩:=ho p.1 hb;rw [e] at e';cases e';exact ⟨e,f0,f1,f2,d⟩
theorem Inv.unpinned {pins pl:List (Addr×Obj)} {σ:St} {H:Hp} {s:Shared} (I:Inv X (pins++pl) σ H s):Inv X pins σ H s:=I.pins_of fun p hp=>I.pin p (D1 _ (G8 _ hp))
theorem vg {iter:Expr} {body:List Stmt} {wi:TI} {g:TG} {tb:TS} {pos:Pos} (hp:PassesOwn (model X.prog X.w) X.A X.env X.xe) (hc:X.calm=true) (hi:PI X tg iter wi) (hg:PG X tg g) (hb:PSs X body tb)
  (hs:∀ x,foldedSetIterable iter X.env x=pure x:=by intro _;rfl):PS X (.For tg iter body [] pos) (jun wi g tb):=by
 intro pins s σ H D I h;refine wpAny_For (thn (hi pins s σ H _ I h) fun v s1 h1=>thn h1 fun itv s2 h2=>?_) hs;obtain ⟨it,fp,tn,J,H2,e,I2,T,st2,f2,W,⟨m0,w0⟩,turn⟩:=h2;subst e;have stat:∀ {H':Hp},(∀ b∈fp,H' b=none)→∀ b∈fp,zN X pins H' b:=fun hn b hb=>⟨hn b hb,(f2 b hb).2⟩;refine codeAny_forLoop_any (fun n s'=>∃ i σ' H',Inv X pins σ' H' s'∧tn i s'.heap∧(∀ b∈fp,H' b=none)∧W i n σ' H') ?_ m0 ⟨0,σ,H2,I2,st2,fun b hb=>(f2 b hb).1,w0⟩;rintro n s3 ⟨i,σ3,H3,I3,st3,fr3,w3⟩;rcases turn i n σ3 H3 w3 with ⟨stop,qn⟩|⟨go,N,hN,step⟩
 ·refine G5 hp (thn (T.done X rfl rfl rfl hc i pins s3 σ3 H3 X.xe I3 (stat fr3) st3 stop) fun r s4 zqq=>?_);obtain ⟨hr,I4⟩:=zqq;subst hr;exact Lm ⟨σ3,H3,I4,qn⟩
 ·refine G5 hp (thn (T.item X rfl rfl rfl hc i pins s3 σ3 H3 X.xe I3 (stat fr3) st3 go) fun r s4 zqq=>?_);obtain ⟨u,hr,h4⟩:=zqq;subst hr;refine G5 hp (thn h4 fun _ s5 zqq=>?_);obtain ⟨x,H5,I5,r5,y5,st5,fr5⟩:=zqq;have I5':=I5.pinned (stat fr5) (T.obj _ _ st5);refine G5 hp (thn (hg _ s5 σ3 H5 x u _ I5' r5 (step x H5 y5)) fun _ s6 zqq=>?_);obtain ⟨σ6,H6,I6,q6⟩:=zqq;refine G5 hp (thn (hb _ s6 σ6 H6 _ I6 q6) fun f s7 q7=>?_)
  have again:∀ {σ7:St} {H7:Hp},Inv X (pins++jfq fp s5.heap) σ7 H7 s7→N σ7 H7→∃ m,m < n∧∃ i σ' H',Inv X pins σ' H' s7∧tn i s7.heap∧(∀ b∈fp,H' b=none)∧W i m σ' H':=fun {σ7 H7} I7 n7=>by
   obtain ⟨m',hm,w7⟩:=hN σ7 H7 n7;refine ⟨m',hm,i+1,σ7,H7,I7.unpinned,T.keep _ _ _ st5 fun b hb o e=>(I7.pin (b,o) (D1 _ (D1 _ (jel hb e)))).1,fun b hb=>?_,w7⟩;obtain ⟨o,e,d⟩:=T.obj _ _ st5 b hb;exact (I7.pin (b,o) (D1 _ (D1 _ (jel hb e)))).2.1
  cases f with
  | next=>obtain ⟨σ7,H7,I7,n7⟩:=q7;exact again I7 n7
  | cont=>obtain ⟨σ7,H7,I7,n7⟩:=q7;exact again I7 n7
  | brk=>obtain ⟨σ7,H7,I7,q7⟩:=q7;exact ⟨σ7,H7,I7.unpinned,q7⟩
  | ret v=>obtain ⟨x7,σ7,H7,I7,r7,q7⟩:=q7;exact ⟨x7,σ7,H7,I7.unpinned,r7,q7⟩
end
theorem vk {K:Frag} {a:Addr} {xs:List V} {g:TG} {tb:TS} {D:jcb} {σ:St} {H:Hp} (Pv:Nat→St→Hp→Prop) (h0:Pv 0 σ H) (hl:∀ i σ H,i≤xs.length→Pv i σ H→SqL K H a xs)
  (hs:∀ i x σ H,xs[i]?=some x→Pv i σ H→g x σ H fun σ2 H2=>tb { D with nx:=Pv (i+1),ct:=Pv (i+1),bk:=D.nx } σ2 H2) (hd:∀ σ H,Pv xs.length σ H→D.nx σ H) :
  ∃ W:Nat→Nat→St→Hp→Prop,(∃ m,W 0 m σ H)∧∀ i m σ H,W i m σ H →
   ((Itl K a).stop i H∧D.nx σ H)∨((Itl K a).go i H∧∃ N:St→Hp→Prop,(∀ σ' H',N σ' H'→∃ m',m' < m∧W (i+1) m' σ' H')∧∀ x H',(Itl K a).yld i H x H'→g x σ H' fun σ2 H2=>tb { D with nx:=N,ct:=N,bk:=D.nx } σ2 H2):=by
 refine ⟨fun i m σ H=>m=xs.length - i∧i≤xs.length∧Pv i σ H,⟨xs.length,by simp,C4 _,h0⟩,?_⟩;rintro i m σ H ⟨rfl,hi,p⟩;have q:=hl i σ H hi p;by_cases hlt:i < xs.length
 ·refine .inr ⟨⟨xs,xs[i],q,by simp [hlt]⟩,Pv (i+1),fun σ' H' p'=>⟨xs.length - (i+1),by omega,rfl,hlt,p'⟩,fun x H' y=>?_⟩;obtain ⟨e,y⟩:=y;subst e;exact hs i x σ _ (y xs q) p
 ·have e:i=xs.length:=by omega
  subst e;exact .inl ⟨⟨xs,q,Cl _⟩,hd σ H p⟩
theorem jo4 {lo:Int} {n:Nat} {g:TG} {tb:TS} {D:jcb} {σ:St} {H:Hp} (Pv:Nat→St→Hp→Prop) (h0:Pv 0 σ H)
  (hs:∀ i σ H,i < n→Pv i σ H→g (.int (lo+i)) σ H fun σ2 H2=>tb { D with nx:=Pv (i+1),ct:=Pv (i+1),bk:=D.nx } σ2 H2) (hd:∀ σ H,Pv n σ H→D.nx σ H) :
  ∃ W:Nat→Nat→St→Hp→Prop,(∃ m,W 0 m σ H)∧∀ i m σ H,W i m σ H →
   ((Itr lo n).stop i H∧D.nx σ H)∨((Itr lo n).go i H∧∃ N:St→Hp→Prop,(∀ σ' H',N σ' H'→∃ m',m' < m∧W (i+1) m' σ' H')∧∀ x H',(Itr lo n).yld i H x H'→g x σ H' fun σ2 H2=>tb { D with nx:=N,ct:=N,bk:=D.nx } σ2 H2):=by
 refine ⟨fun i m σ H=>m=n - i∧i≤n∧Pv i σ H,⟨n,by simp,C4 _,h0⟩,?_⟩;rintro i m σ H ⟨rfl,hi,p⟩;by_cases hlt:i < n
 ·refine .inr ⟨hlt,Pv (i+1),fun σ' H' p'=>⟨n - (i+1),by omega,rfl,hlt,p'⟩,fun x H' y=>?_⟩;obtain ⟨e,y⟩:=y;subst e y;exact hs i σ _ hlt p
 ·have e:i=n:=by omega
  subst e;exact .inl ⟨Cl _,hd σ H p⟩
noncomputable abbrev R2:=V→V→Hp→VK→Prop
noncomputable def OpR (X:Cx) (f:Value→Value→Sem Value) (r:R2):Prop :=
 ∀ (pins:List (Addr×Obj)) (s:Shared) (σ:St) (H:Hp) (x y:V) (v u:Value) (Q:VK),Inv X pins σ H s→RelV x v→RelV y u→r x y H Q →
  wpAny (model X.prog X.w) X.A (f v u) (EP X pins σ Q) X.xe s
noncomputable def UnR (X:Cx) (f:Value→Sem Value) (r:V→Hp→VK→Prop):Prop :=
 ∀ (pins:List (Addr×Obj)) (s:Shared) (σ:St) (H:Hp) (x:V) (v:Value) (Q:VK),Inv X pins σ H s→RelV x v→r x H Q →
  wpAny (model X.prog X.w) X.A (f v) (EP X pins σ Q) X.xe s
noncomputable def jcE (X:Cx) (f:Value) (r:List V→Hp→VK→Prop):Prop :=
 ∀ (pins:List (Addr×Obj)) (s:Shared) (σ:St) (H:Hp) (xs:List V) (us:List Value) (Q:VK),Inv X pins σ H s→jx xs us→r xs H Q →
  wpAny (model X.prog X.w) X.A (call f us) (EP X pins σ Q) X.xe s
noncomputable def tOp (r:R2) (ta tb:TE):TE:=fun σ H Q=>ta σ H fun x H1=>tb σ H1 fun y H2=>r x y H2 Q
noncomputable def tUn (r:V→Hp→VK→Prop) (ta:TE):TE:=fun σ H Q=>ta σ H fun x H1=>r x H1 Q
noncomputable def rI (C:Int→Int→Prop) (g:Int→Int→V):R2:=fun x y H Q=>∃ i j,x=.int i∧y=.int j∧C i j∧Q (g i j) H
noncomputable def rI0 (g:Int→Int→V):R2:=fun x y H Q=>∃ i j,x=.int i∧y=.int j∧Q (g i j) H
noncomputable def rU (g:Int→V):V→Hp→VK→Prop:=fun x H Q=>∃ i,x=.int i∧Q (g i) H
section
variable {X:Cx} {a b:Expr} {ta tb:TE} {pos:Pos}
theorem jqc (ha:PE X a ta) (hb:PE X b tb) {pins:List (Addr×Obj)} {s:Shared} {σ:St} {H:Hp} {R:V→V→Hp→Prop} (I:Inv X pins σ H s)
  (h:ta σ H fun x H1=>tb σ H1 fun y H2=>R x y H2) {Q:Value→Shared→Prop} {f:Value→Value→Sem Value}
  (hf:∀ v u s2 x y H2,Inv X pins σ H2 s2→RelV x v→RelV y u→R x y H2→wpAny (model X.prog X.w) X.A (f v u) Q X.xe s2) :
  wpAny (model X.prog X.w) X.A (eval a X.env) (fun v s₁=>wpAny (model X.prog X.w) X.A (eval b X.env) (fun u s₂=>wpAny (model X.prog X.w) X.A (f v u) Q X.xe s₂) X.xe s₁) X.xe s:=by
 refine thn (ha pins s σ H _ I h) fun v s1 ⟨x,H1,I1,r1,q1⟩=>?_;refine thn (hb pins s1 σ H1 _ I1 q1) fun u s2 ⟨y,H2,I2,r2,q2⟩=>?_;exact hf v u s2 x y H2 I2 r1 r2 q2
theorem jY {op:Operator} {r:R2} (ho:OpR X (binaryOp op) r) (ha:PE X a ta) (hb:PE X b tb):PE X (.BinOp a op b pos) (tOp r ta tb):=by
 intro pins s σ H Q I h;exact wpAny_BinOp (jqc ha hb I h fun v u s2 x y H2 I2 rx ry q=>ho pins s2 σ H2 x y v u Q I2 rx ry q)
theorem jaA {op:UnaryOp} {r:V→Hp→VK→Prop} (ho:UnR X (unaryOp op) r) (ha:PE X a ta):PE X (.UnaryOp op a pos) (tUn r ta):=by
 intro pins s σ H Q I h;exact UnaryOp_ (thn (ha pins s σ H _ I h) fun v s1 ⟨x,H1,I1,r1,q1⟩=>ho pins s1 σ H1 x v Q I1 r1 q1)
theorem opI {f:Value→Value→Sem Value} {C:Int→Int→Prop} {g:Int→Int→Int}
  (rule:∀ (i j:Int) (t u:Tok) (s:Shared) (Q:Value→Shared→Prop) (E:Value→Shared→Prop),C i j→Q (.int (g i j) s.toks) { s with toks:=s.toks+1 }→wpAny (model X.prog X.w) X.A (f (.int i t) (.int j u)) Q E s) :
  OpR X f (rI C fun i j=>.int (g i j)):=by
 intro pins s σ H x y v u Q I rx ry h;obtain ⟨i,j,rfl,rfl,hc,q⟩:=h;obtain ⟨t,rfl⟩:=rx;obtain ⟨t',rfl⟩:=ry;exact rule i j t t' s _ _ hc ⟨.int (g i j),H,I.tok _,⟨_,rfl⟩,q⟩
theorem jsR {f:Value→Value→Sem Value} {g:Int→Int→Int}
  (rule:∀ (i j:Int) (t u:Tok) (s:Shared) (Q:Value→Shared→Prop) (E:Value→Shared→Prop),Q (.int (g i j) s.toks) { s with toks:=s.toks+1 }→wpAny (model X.prog X.w) X.A (f (.int i t) (.int j u)) Q E s) :
  OpR X f (rI0 fun i j=>.int (g i j)):=by
 intro pins s σ H x y v u Q I rx ry h;obtain ⟨i,j,rfl,rfl,q⟩:=h;obtain ⟨t,rfl⟩:=rx;obtain ⟨t',rfl⟩:=ry;exact rule i j t t' s _ _ ⟨.int (g i j),H,I.tok _,⟨_,rfl⟩,q⟩
theorem joj {f:Value→Value→Sem Value} {g:Int→Int→Bool}
  (rule:∀ (i j:Int) (t u:Tok) (s:Shared) (Q:Value→Shared→Prop) (E:Value→Shared→Prop),Q (.bool (g i j)) s→wpAny (model X.prog X.w) X.A (f (.int i t) (.int j u)) Q E s) :
  OpR X f (rI0 fun i j=>.bl (g i j)):=by
 intro pins s σ H x y v u Q I rx ry h;obtain ⟨i,j,rfl,rfl,q⟩:=h;obtain ⟨t,rfl⟩:=rx;obtain ⟨t',rfl⟩:=ry;exact rule i j t t' s _ _ ⟨.bl (g i j),H,I,rfl,q⟩
noncomputable def jp6 (i j:Int):Prop:=(-(2 ^ 64) < i∧i < 2 ^ 64)∨(-(2 ^ 64) < j∧j < 2 ^ 64)
theorem jp6.ok {i j:Int} (h:jp6 i j):IntMulOk i j:=by
 rcases h with ⟨h1,h2⟩|⟨h1,h2⟩
 ·exact .of_left (intBits_le_64 h1 h2)
 ·exact .of_right (intBits_le_64 h1 h2)
theorem vI:OpR X (binaryOp .Add) (rI0 fun i j=>.int (i+j)):=jsR fun _ _ _ _ _ _ _ q=>add_int q
theorem jdF:OpR X (binaryOp .Sub) (rI0 fun i j=>.int (i - j)):=jsR fun _ _ _ _ _ _ _ q=>sub_int q
theorem jpy:OpR X (binaryOp .Mult) (rI jp6 fun i j=>.int (i * j)):=opI fun _ _ _ _ _ _ _ hc q=>mul_int q hc.ok
theorem jsS:OpR X (binaryOp .Mod) (rI (fun _ j=>0 < j) fun i j=>.int (i % j)):=opI fun i j _ _ _ _ _ hc q=>by
 have h1:(0:Int) < j:=hc;exact mod_int' (by omega) (by rw [Int.fmod_eq_emod_of_nonneg i (by omega)];exact q)
theorem unI {f:Value→Sem Value} {g:Int→Int}
  (rule:∀ (i:Int) (t:Tok) (s:Shared) (Q:Value→Shared→Prop) (E:Value→Shared→Prop),Q (.int (g i) s.toks) { s with toks:=s.toks+1 }→wpAny (model X.prog X.w) X.A (f (.int i t)) Q E s) :
  UnR X f (rU fun i=>.int (g i)):=by
 intro pins s σ H x v Q I rx h;obtain ⟨i,rfl,q⟩:=h;obtain ⟨t,rfl⟩:=rx;exact rule i t s _ _ ⟨.int (g i),H,I.tok _,⟨_,rfl⟩,q⟩
theorem zJ:UnR X (unaryOp .USub) (rU fun i=>.int (-i)):=unI fun _ _ _ _ _ q=>neg_int q
end
noncomputable def js2:V→V→Bool
 | .non,.non=>true|.non,.int _=>true|.int _,.non=>true|.non,.bl _=>true|.bl _,.non=>true|.non,.str _=>true|.str _,.non=>true
 | .int _,.int _=>true|.bl _,.bl _=>true|.str _,.str _=>true|.byt _,.byt _=>true
 | .int _,.str _=>true|.str _,.int _=>true|.bl _,.str _=>true|.str _,.bl _=>true
 | _,_=>false
noncomputable def rEq:R2:=fun x y H Q=>js2 x y=true∧Q (.bl (decide (x=y))) H
noncomputable def rNe:R2:=fun x y H Q=>js2 x y=true∧Q (.bl (!decide (x=y))) H
theorem jm2 {i j:Int}:decide (V.int i=V.int j)=(i == j):=by
 rw [C8];simp
theorem jo2 {i j:Bool}:decide (V.bl i=V.bl j)=(i == j):=by
 rw [C8];simp
theorem jm3 {i j:Str}:decide (V.str i=V.str j)=(i == j):=by
 rw [C8];simp
theorem jm1 {i j:Array UInt8}:decide (V.byt i=V.byt j)=(i.toList == j.toList):=by
 rw [C8];cases i;cases j;simp
section
variable {X:Cx} {a b c:Expr} {ta tb tc:TE} {pos:Pos}
theorem j8 {pins:List (Addr×Obj)} {σ:St} {H:Hp} {s:Shared} {Q:VK} {k k':Bool} (I:Inv X pins σ H s) (q:Q (.bl k) H) (e:k=k'):EP X pins σ Q (.bool k') s:=by
 subst e;exact ⟨.bl k,H,I,rfl,q⟩
theorem vE:OpR X (compareOp .Eq) rEq:=by
 intro pins s σ H x y v u Q I rx ry h;obtain ⟨hs,q⟩:=h;cases x with
 | non =>
  cases rx;cases y with
  | non=>cases ry;exact PySem.EqNone.eq_none_none (j8 I q (by simp))
  | bl j=>cases ry;exact PySem.EqNone.eq_none_bool (j8 I q (by simp))
  | int j=>obtain ⟨t',rfl⟩:=ry;exact PySem.EqNone.eq_none_int (j8 I q (by simp))
  | str j=>obtain ⟨t',rfl⟩:=ry;exact PySem.EqNone.eq_none_str (j8 I q (by simp))
  | _=>exact absurd (show false=true from hs) C7
 | bl i =>
  cases rx;cases y with
  | non=>cases ry;exact PySem.EqNone.eq_bool_none (j8 I q (by simp))
  | bl j=>cases ry;exact eq_bool (j8 I q jo2)
  | str j=>obtain ⟨t',rfl⟩:=ry;exact PySem.EqMixed.eq_bool_str (j8 I q (by simp))
  | _=>exact absurd (show false=true from hs) C7
 | int i =>
  obtain ⟨t,rfl⟩:=rx;cases y with
  | non=>cases ry;exact PySem.EqNone.eq_int_none (j8 I q (by simp))
  | int j=>obtain ⟨t',rfl⟩:=ry;exact eq_int (j8 I q jm2)
  | str j=>obtain ⟨t',rfl⟩:=ry;exact PySem.EqMixed.eq_int_str (j8 I q (by simp))
  | _=>exact absurd (show false=true from hs) C7
 | str i =>
  obtain ⟨t,rfl⟩:=rx;cases y with
  | non=>cases ry;exact PySem.EqNone.eq_str_none (j8 I q (by simp))
  | bl j=>cases ry;exact PySem.EqMixed.eq_str_bool (j8 I q (by simp))
  | int j=>obtain ⟨t',rfl⟩:=ry;exact PySem.EqMixed.eq_str_int (j8 I q (by simp))
  | str j=>obtain ⟨t',rfl⟩:=ry;exact eq_str (j8 I q jm3)
  | _=>exact absurd (show false=true from hs) C7
 | byt i =>
  obtain ⟨t,rfl⟩:=rx;cases y with
  | byt j=>obtain ⟨t',rfl⟩:=ry;exact PySem.W.eq_bytes (j8 I q jm1)
  | _=>exact absurd (show false=true from hs) C7
 | _=>cases y<;>exact absurd (show false=true from hs) C7
theorem zE:OpR X (compareOp .NotEq) rNe:=by
 intro pins s σ H x y v u Q I rx ry h;obtain ⟨hs,q⟩:=h;cases x with
 | non =>
  cases rx;cases y with
  | non=>cases ry;exact PySem.EqNone.ne_none_none (j8 I q (by simp))
  | bl j=>cases ry;exact PySem.EqNone.ne_none_bool (j8 I q (by simp))
  | int j=>obtain ⟨t',rfl⟩:=ry;exact PySem.EqNone.ne_none_int (j8 I q (by simp))
  | str j=>obtain ⟨t',rfl⟩:=ry;exact PySem.EqNone.ne_none_str (j8 I q (by simp))
  | _=>exact absurd (show false=true from hs) C7
 | bl i =>
  cases rx;cases y with
  | non=>cases ry;exact PySem.EqNone.ne_bool_none (j8 I q (by simp))
  | bl j=>cases ry;exact ne_bool (j8 I q (D7 not jo2))
  | str j=>obtain ⟨t',rfl⟩:=ry;exact PySem.EqMixed.ne_bool_str (j8 I q (by simp))
  | _=>exact absurd (show false=true from hs) C7
 | int i =>
  obtain ⟨t,rfl⟩:=rx;cases y with
  | non=>cases ry;exact PySem.EqNone.ne_int_none (j8 I q (by simp))
  | int j=>obtain ⟨t',rfl⟩:=ry;exact ne_int (j8 I q (D7 not jm2))
  | str j=>obtain ⟨t',rfl⟩:=ry;exact PySem.EqMixed.ne_int_str (j8 I q (by simp))
  | _=>exact absurd (show false=true from hs) C7
 | str i =>
  obtain ⟨t,rfl⟩:=rx;cases y with
  | non=>cases ry;exact PySem.EqNone.ne_str_none (j8 I q (by simp))
  | bl j=>cases ry;exact PySem.EqMixed.ne_str_bool (j8 I q (by simp))
  | int j=>obtain ⟨t',rfl⟩:=ry;exact PySem.EqMixed.ne_str_int (j8 I q (by simp))
  | str j=>obtain ⟨t',rfl⟩:=ry;exact ne_str (j8 I q (D7 not jm3))
  | _=>exact absurd (show false=true from hs) C7
 | byt i =>
  obtain ⟨t,rfl⟩:=rx;cases y with
  | byt j=>obtain ⟨t',rfl⟩:=ry;exact PySem.W.ne_bytes (j8 I q (D7 not jm1))
  | _=>exact absurd (show false=true from hs) C7
 | _=>cases y<;>exact absurd (show false=true from hs) C7
theorem jaj:OpR X (compareOp .Lt) (rI0 fun i j=>.bl (decide (i < j))):=joj fun _ _ _ _ _ _ _ q=>lt_int q
theorem jaJ:OpR X (compareOp .LtE) (rI0 fun i j=>.bl (decide (i≤j))):=joj fun _ _ _ _ _ _ _ q=>le_int q
theorem zh:OpR X (compareOp .Gt) (rI0 fun i j=>.bl (decide (j < i))):=joj fun _ _ _ _ _ _ _ q=>gt_int q
theorem jrf:OpR X (compareOp .GtE) (rI0 fun i j=>.bl (decide (j≤i))):=joj fun _ _ _ _ _ _ _ q=>ge_int q
theorem jv (b:Expr) {op:CmpOp} (h:op≠.In:=by decide) (h2:op≠.NotIn:=by decide):behindInMarks op b=false:=by
 have e1:(op == CmpOp.In)=false:=by cases op<;>first|rfl|exact absurd rfl h
 have e2:(op == CmpOp.NotIn)=false:=by cases op<;>first|rfl|exact absurd rfl h2
 cases b<;>simp [behindInMarks,e1,e2]
theorem zm {op:CmpOp} {r:R2} (ho:OpR X (compareOp op) r) (ha:PE X a ta) (hb:PE X b tb) (hm:behindInMarks op b=false:=by exact jv _):PE X (.Compare a [op] [b] pos) (tOp r ta tb):=by
 intro pins s σ H Q I h;exact wpAny_Compare1 (jqc ha hb I h fun v u s2 x y H2 I2 rx ry q=>ho pins s2 σ H2 x y v u Q I2 rx ry q) hm
noncomputable def jrl (t:TE):TT:=fun σ H Q=>t σ H fun x H'=>∃ k,x=.bl k∧Q k H'
theorem jw {op:CmpOp} {r:R2} (ho:OpR X (compareOp op) r) (ha:PE X a ta) (hb:PE X b tb) (hm:behindInMarks op b=false:=by exact jv _):PT X (.Compare a [op] [b] pos) (jrl (tOp r ta tb)):=by
 intro pins s σ H Q I h;refine wpAny_isTrue_Compare1 (thn (ha pins s σ H _ I h) fun v s1 ⟨x,H1,I1,r1,q1⟩=>thn (hb pins s1 σ H1 _ I1 q1) fun u s2 ⟨y,H2,I2,r2,q2⟩ =>
  thn (ho pins s2 σ H2 x y v u _ I2 r1 r2 q2) fun c s3 ⟨z,H3,I3,r3,k,e,q3⟩=>?_) hm
 subst e;cases r3;exact Fk ⟨H3,I3,q3⟩
noncomputable def jpV (r r':R2) (ta tb tc:TE):TE:=fun σ H Q=>ta σ H fun x H1=>tb σ H1 fun y H2=>r x y H2 fun z H3=>∃ k,z=.bl k ∧
 (if k=true then tc σ H3 fun w' H4=>r' y w' H4 Q else Q (.bl false) H3)
theorem jlz {op op':CmpOp} {r r':R2} (ho:OpR X (compareOp op) r) (ho':OpR X (compareOp op') r') (ha:PE X a ta) (hb:PE X b tb) (hc:PE X c tc)
  (hm:lastMarks [op,op'] [b,c]=false:=by with_unfolding_all rfl):PE X (.Compare a [op,op'] [b,c] pos) (jpV r r' ta tb tc):=by
 intro pins s σ H Q I h;refine Compare_chain (thn (ha pins s σ H _ I h) fun v s1 ⟨x,H1,I1,r1,q1⟩=>chain_link (thn (hb pins s1 σ H1 _ I1 q1) fun u s2 ⟨y,H2,I2,r2,q2⟩ =>
  thn (ho pins s2 σ H2 x y v u _ I2 r1 r2 q2) fun d s3 ⟨z,H3,I3,r3,k,e,q3⟩=>?_)) hm
 subst e;cases r3;refine Fk ?_;cases k with
 | false=>exact ite_ff ⟨.bl false,H3,I3,rfl,q3⟩
 | true=>exact ite_tt (chain_last (thn (hc pins s3 σ H3 _ I3 q3) fun w' s4 ⟨z',H4,I4,r4,q4⟩=>ho' pins s4 σ H4 y z' u w' Q I4 r2 r4 q4))
theorem jbl {op op':CmpOp} {r r':R2} (ho:OpR X (compareOp op) r) (ho':OpR X (compareOp op') r') (ha:PE X a ta) (hb:PE X b tb) (hc:PE X c tc)
  (hm:lastMarks [op,op'] [b,c]=false:=by with_unfolding_all rfl):PT X (.Compare a [op,op'] [b,c] pos) (jrl (jpV r r' ta tb tc)):=by
 intro pins s σ H Q I h;refine isTrue_chain (thn (ha pins s σ H _ I h) fun v s1 ⟨x,H1,I1,r1,q1⟩=>test_link (thn (hb pins s1 σ H1 _ I1 q1) fun u s2 ⟨y,H2,I2,r2,q2⟩ =>
  thn (ho pins s2 σ H2 x y v u _ I2 r1 r2 q2) fun d s3 ⟨z,H3,I3,r3,k,e,q3⟩=>?_)) hm
 subst e;cases r3;refine Fk ?_;cases k with
 | false =>
  obtain ⟨k',e',q'⟩:=q3;cases e';exact ite_ff ⟨H3,I3,q'⟩
 | true =>
  refine ite_tt (test_last (thn (hc pins s3 σ H3 _ I3 q3) fun w' s4 ⟨z',H4,I4,r4,q4⟩=>thn (ho' pins s4 σ H4 y z' u w' _ I4 r2 r4 q4) fun d' s5 zqq=>?_));obtain ⟨z2,H5,I5,r5,k2,e2,q5⟩:=zqq;subst e2;cases r5;exact Fk ⟨H5,I5,q5⟩
theorem jhU:(sizeLine:Nat) < 2 ^ 63:=by rw [Gb];decide
theorem vals1 {x:V} {us:List Value} (r:jx [x] us):∃ u,us=[u]∧RelV x u:=by
 cases r with
 | cons r1 r2=>cases r2;exact ⟨_,rfl,r1⟩
theorem jkM:jcE X (.type "str") (fun xs H Q=>∃ i,xs=[.int i]∧i.natAbs.log2 < 1920∧Q (.str (toString i)) H):=by
 intro pins s σ H xs us Q I r h;obtain ⟨i,rfl,hz,q⟩:=h;obtain ⟨u,rfl,t,rfl⟩:=vals1 r;exact PySem.P.str_of_int hz ⟨.str _,H,I.tok _,⟨_,rfl⟩,q⟩
theorem jqf:jcE X (.builtin "ord") (fun xs H Q=>∃ x,xs=[.str x]∧x.length=1∧Q (.int (x.cps.getD 0 0:Nat)) H):=by
 intro pins s σ H xs us Q I r h;obtain ⟨x,rfl,hz,q⟩:=h;obtain ⟨u,rfl,t,rfl⟩:=vals1 r;exact ord_of_one hz ⟨.int _,H,I.tok _,⟨_,rfl⟩,q⟩
end
structure jgY (h:Heap) (x dx C:Addr) (mA:Str→Option Value):Prop where
 obj:h.get? x=some (PySem.W.instObj C dx)
 ns:h.Ns1 dx mA
 ne:dx≠x
set_option tactic.hygienic true in
theorem jps {h:Heap} {dx:Addr} {mA:Str→Option Value} (n:h.Ns1 dx mA):∃ od,h.get? dx=some od∧∀ name,PySem.W.lookIn name od=some (mA name):=by
 obtain ⟨o,es,ep,ho,hd,hk,_,hm⟩:=n;refine ⟨o,ho,fun name=>?_⟩;have e:=hm name;unfold nsFind findBy at e;rw [←Array.find?_toList] at e;unfold PySem.W.lookIn;rw [hd];dsimp only;split
 ·rename_i y q;rw [q] at e;exact D7 some e
 ·rename_i q;rw [q] at e;have a:es.toList.any (·.refKey)=false:=by
   rw [List.any_eq_false];intro y hy;obtain ⟨z,t,hkey⟩:=hk y (Array.mem_toList_iff.mp hy);simp [DictEntry.refKey,hkey]
  have a':¬es.toList.any (·.refKey)=true:=by rw [a];exact C7
  rw [Cc a'];exact D7 some e
theorem jgY.look {h:Heap} {x dx C:Addr} {mA:Str→Option Value} (I:jgY h x dx C mA):∃ od,PySem.W.InstAt h x (PySem.W.instObj C dx) C (some od)∧∀ name,PySem.W.lookIn name od=some (mA name) :=
 let ⟨od,ho,hl⟩:=jps I.ns
 ⟨od,⟨I.obj,rfl,rfl,ho⟩,hl⟩
section
variable {prog:Program} {w:World} {A:Around} {E:Value→Shared→Prop} {s:Shared} {K:Frag} {x dx C f:Addr} {mA:Str→Option Value} {name:Str} {v:Value}
theorem jrA {expr:Bool} {Q:Value→Shared→Prop} (X:K.In s.heap) (I:jgY s.heap x dx C mA) (hg:PySem.W.plainGet K C name=true) (hh:PySem.W.hasDictIn K C=true)
  (ha:PySem.W.findIn K (.ref C) name=some none) (hv:mA name=some v) (hv':PySem.W.handedIn v=true) (h:Q v { s with toks:=s.toks+1 }) :
  wpAny (model prog w) A (getAttr (.ref x) name expr) Q E s:=by
 obtain ⟨od,J,hl⟩:=I.look;exact PySem.W.get_value X J (PySem.W.plainGet_of hg).1 (PySem.W.findObj_own hh ha rfl (by rw [hl,hv])) hv' h
theorem jqr {pl:Sem Bool} {Q:Value×List Value→Shared→Prop} (X:K.In s.heap) (I:jgY s.heap x dx C mA) (hg:PySem.W.plainGet K C name=true)
  (hf:PySem.W.findIn K (.ref C) name=some (some (.ref f))) (ht:PySem.W.isFn K (.ref f)=true) (hv:mA name=none) (h:Q (.ref f,[.ref x]) s) :
  wpAny (model prog w) A (getMethod (.ref x) name pl) Q E s:=by
 obtain ⟨od,J,hl⟩:=I.look;exact PySem.W.method_fn X J (PySem.W.plainGet_of hg).1 (PySem.W.plainGet_of hg).2 hf (D8.mp ht) (by show (PySem.W.lookIn name od).map (·.isSome)=some false;rw [hl,hv];rfl) h
theorem jrZ {ns:List Str} {Q:Unit→Shared→Prop} (X:K.In s.heap) (I:jgY s.heap x dx C mA)
  (hs:PySem.W.findIn K (.ref C) "__setattr__"=some (some (.builtin "object.__setattr__"))) (hp:PySem.W.plainOver K C=true) (ht:PySem.W.takerIn K C name=some none) (hh:PySem.W.hasDictIn K C=true)
  (hw:PySem.Within mA ns) (hsz:ns.length≤sizeLine)
  (h:∀ h',jgY h' x dx C (fun y=>if y=name then some v else mA y)→Heap.SameBut dx s.heap h'→Q () { s with heap:=h',toks:=s.toks+2 }) :
  wpAny (model prog w) A (setAttr (.ref x) name v) Q E s:=by
 obtain ⟨od,J,hl⟩:=I.look;refine PySem.W.set_plain X J hs (PySem.W.osa_open (s:={ s with toks:=s.toks+1 }) (r:=none) X J hp ht fun b=>?_);obtain ⟨cd,hc,hd'⟩:=PySem.W.any_some hh;have hx:s.heap.get? x=some ⟨.ref C,some dx,.plain,#[]⟩:=I.obj;refine Ca (Ck (Ca (Ca (wpAny_loadPart hx (Ca (PySem.W.Looks.here (s:={ s with toks:=s.toks+1 }) (PySem.W.looks_clsIn X hc) ?_))))));rw [hd'];refine Ck (a:=some dx) (Ca (Ck (Ca ?_)));refine wpAny_nsSet1 (s:={ s with toks:=s.toks+1 }) I.ns fun h' hn2 hs2=>?_
 obtain ⟨oD,esD,epD,hoD,hdD,hcD⟩:=hn2.count (PySem.Within.cons name v hw);refine Ca (wpAny_lookBehind hoD (by rw [hdD];exact pastItsLine_dict (Da hcD (by rw [Cd];omega))) ?_);exact Ck (h _ ⟨(hs2.2 _ (Dj I.ne)).trans I.obj,hn2,I.ne⟩ hs2)
theorem jqE {R:Result→Shared→Prop} {vs:List Value} {kw:List (Str×Value)} (X:K.In s.heap) (hm:PySem.W.makesIn K C=true)
  (hi:PySem.W.findIn K (.ref C) "__init__"=some (some (.ref f))) (hf:PySem.W.typeIn K (.ref f)=some (.type "function"))
  (h:codeAny (model prog w) (A.under (.builtin "type.__call__" ⟨.ref C :: vs,kw⟩)) (.call (.ref f) ⟨.ref (s.heap.objs.size+1) :: vs,kw⟩) (PySem.W.InitBack (s.heap.objs.size+1) R)
   { s with heap:=(s.heap.push PySem.W.emptyDict).push (PySem.W.instObj C s.heap.objs.size) }) :
  codeAny (model prog w) A (.call (.ref C) ⟨vs,kw⟩) R s:=by
 obtain ⟨hh,g,d,t,os⟩:=s;exact PySem.W.make_core (PySem.W.makes_of X hm) (PySem.W.looks_findIn X hi) (fun self=>PySem.W.bind_fn X self hf) (.inl rfl) h
end
noncomputable def vR (f:Str) (v:V):List (Str×V)→List (Str×V)
 | []=>[(f,v)]
 | (g,x) :: r=>if g=f then (g,v) :: r else (g,x) :: vR f v r
theorem jdd (f g:Str) (v:V):∀ fs:List (Str×V),(vR f v fs).lookup g=if g=f then some v else fs.lookup g
 | []=>by
  show List.lookup g [(f,v)]=_;by_cases h:g=f
  ·have hb:(g == f)=true:=D8.mpr h;simp only [List.lookup,hb,Ce h]
  ·have hb:(g == f)=false:=beq_eq_false_iff_ne.mpr h;simp only [List.lookup,hb,Cc h]
 | (k,x) :: r=>by
  have ih:=jdd f g v r;rw [show vR f v ((k,x) :: r)=(if k=f then (k,v) :: r else (k,x) :: vR f v r) from rfl];by_cases hk:k=f
  ·rw [Ce hk];by_cases h:g=k
   ·have hb:(g == k)=true:=D8.mpr h;simp only [List.lookup,hb,Ce (h.trans hk)]
   ·have hb:(g == k)=false:=beq_eq_false_iff_ne.mpr h;simp only [List.lookup,hb,Cc (fun e:g=f=>h (e.trans hk.symm))]
  ·rw [Cc hk];by_cases h:g=k
   ·have hb:(g == k)=true:=D8.mpr h;simp only [List.lookup,hb,Cc (fun e:g=f=>hk (h.symm.trans e))]
   ·have hb:(g == k)=false:=beq_eq_false_iff_ne.mpr h;simp only [List.lookup,hb];exact ih
theorem jfc (f:Str) (v:V):∀ fs:List (Str×V),f∈(vR f v fs).map (·.1)∧∀ g,g∈fs.map (·.1)→g∈(vR f v fs).map (·.1)
 | []=>⟨by simp [vR],fun g h=>by simp at h⟩
 | (k,x) :: r=>by
  obtain ⟨i1,i2⟩:=jfc f v r;rw [show vR f v ((k,x) :: r)=(if k=f then (k,v) :: r else (k,x) :: vR f v r) from rfl];by_cases hk:k=f
  ·rw [Ce hk];subst hk;exact ⟨by simp,fun g h=>by simpa using h⟩
  ·rw [Cc hk];refine ⟨?_,fun g h=>?_⟩
   ·rw [C6];exact Cg _ i1
   ·rw [C6] at h ⊢;rcases Cp.mp h with e|e
    ·exact Cp.mpr (.inl e)
    ·exact Cg _ (i2 g e)
theorem jgu (f:Str) (v:V):∀ fs:List (Str×V),(vR f v fs).length≤fs.length+1
 | []=>by simp [vR]
 | (k,x) :: r=>by
  have ih:=jgu f v r;rw [show vR f v ((k,x) :: r)=(if k=f then (k,v) :: r else (k,x) :: vR f v r) from rfl];by_cases hk:k=f
  ·rw [Ce hk,Cd,Cd];omega
  ·rw [Cc hk,Cd,Cd];omega
theorem zr.some_of {v:V} {o:Option Value} (r:zr (some v) o):∃ u,o=some u∧RelV v u:=by
 cases o with
 | none=>exact (show False from r).elim
 | some u=>exact ⟨u,rfl,r⟩
theorem zr.none_of {o:Option Value} (r:zr none o):o=none:=by
 cases o with
 | none=>rfl
 | some u=>exact (show False from r).elim
theorem jju {v:V} {u:Value} (r:RelV v u):PySem.W.handedIn u=true:=by
 cases v with
 | non=>cases (show u=Value.none from r);rfl
 | bl b=>cases (show u=Value.bool b from r);rfl
 | int i=>obtain ⟨t,e⟩:=(show ∃ t,u=Value.int i t from r);cases e;rfl
 | str x=>obtain ⟨t,e⟩:=(show ∃ t,u=Value.str x t from r);cases e;rfl
 | byt b=>obtain ⟨t,e⟩:=(show ∃ t,u=Value.bytes b t from r);cases e;rfl
 | flt b=>obtain ⟨t,e⟩:=(show ∃ t,u=Value.float b t from r);cases e;rfl
 | ref a=>cases (show u=Value.ref a from r);rfl
 | ty n=>cases (show u=Value.type n from r);rfl
section
variable {P:Program} {w:World} {H:Hp} {h:Heap} {a C dx:Addr} {fs:List (Str×V)}
theorem jiR (hok:HOk P w H h) (e:H a=some (.ins C dx fs)):∃ mA,jgY h a dx C mA∧(∀ f,zr (fs.lookup f) (mA f))∧PySem.Within mA (fs.map (·.1))∧fs.length≤1000∧H dx=some (.own a):=by
 obtain ⟨d,z,ne,ob,mA,n,r,q⟩:=(show vb P w H h a (.ins C dx fs) from hok a _ e);exact ⟨mA,⟨ob,n,ne⟩,r,q,z,d⟩
end
structure Cls (K:Frag) (C:Addr):Prop where
 pg:PySem.W.plainGet K C Str.empty=true
 hd:PySem.W.hasDictIn K C=true
 po:PySem.W.plainOver K C=true
 sa:PySem.W.findIn K (.ref C) "__setattr__"=some (some (.builtin "object.__setattr__"))
theorem Cls.get {K:Frag} {C:Addr} (c:Cls K C) (f:Str):PySem.W.plainGet K C f=true:=c.pg
noncomputable def vA (K:Frag) (C:Addr) (f:Str):Prop:=PySem.W.findIn K (.ref C) f=some none
theorem vA.taker {K:Frag} {C:Addr} {f:Str} (n:vA K C f):PySem.W.takerIn K C f=some none:=by
 unfold PySem.W.takerIn;rw [show PySem.W.findIn K (.ref C) f=some none from n]
 rfl
structure jp8 (K:Frag) (C:Addr) (m:Str) (f:Addr):Prop where
 at_:PySem.W.findIn K (.ref C) m=some (some (.ref f))
 fn:PySem.W.isFn K (.ref f)=true
 kp:PySem.W.keepIn K (.ref f)=true
section
variable {X:Cx} {pins:List (Addr×Obj)} {σ:St} {H:Hp} {s:Shared} {a C dx:Addr} {fs:List (Str×V)} {f:Str} {v:V} {A:Around} {E:Value→Shared→Prop}
theorem jn3 {b:Bool} {Q:Value→Shared→Prop} (I:Inv X pins σ H s) (e:H a=some (.ins C dx fs)) (c:Cls X.K C) (n:vA X.K C f) (l:fs.lookup f=some v)
  (h:∀ u s',Inv X pins σ H s'→RelV v u→Q u s'):wpAny (model X.prog X.w) A (getAttr (.ref a) f b) Q E s:=by
 obtain ⟨mA,O,r,_,_,_⟩:=jiR I.hok e;obtain ⟨u,hu,ru⟩:=zr.some_of (v:=v) (o:=mA f) (by rw [←l];exact r f);exact jrA I.kIn O (c.get f) c.hd n hu (jju ru) (h u _ (I.tok _) ru)
theorem jhN {m:Str} {g:Addr} {pl:Sem Bool} {Q:Value×List Value→Shared→Prop} (I:Inv X pins σ H s) (e:H a=some (.ins C dx fs)) (c:Cls X.K C) (k:jp8 X.K C m g) (l:fs.lookup m=none)
  (h:Q (.ref g,[.ref a]) s):wpAny (model X.prog X.w) A (getMethod (.ref a) m pl) Q E s:=by
 obtain ⟨mA,O,r,_,_,_⟩:=jiR I.hok e;have hn:mA m=none:=zr.none_of (by rw [←l];exact r m);exact jqr I.kIn O (c.get m) k.at_ k.fn hn h
theorem joo {y:V} {u:Value} {Q:Unit→Shared→Prop} (I:Inv X pins σ H s) (e:H a=some (.ins C dx fs)) (c:Cls X.K C) (n:vA X.K C f) (hl:fs.length < 1000) (ry:RelV y u)
  (h:∀ s',Inv X pins σ (upd H a (.ins C dx (vR f y fs))) s'→Q () s'):wpAny (model X.prog X.w) A (setAttr (.ref a) f u) Q E s:=by
 obtain ⟨mA,O,r,wi,_,ho⟩:=jiR I.hok e;have hz:(fs.map (·.1)).length≤sizeLine:=by rw [Cb,Gb];omega
 refine jrZ I.kIn O c.sa c.po n.taker c.hd wi hz fun h' O' sb=>h _ ?_;have hd:∃ o,h'.get? dx=some o:=let ⟨o,_,_,e',_⟩:=O'.ns;⟨o,e'⟩;refine I.write (x:=a) (e:=dx) (by rw [e];exact True.intro) (.inr ho) (fun b q hb z=>(sb.2 b hb).trans z) hd ?_;refine ⟨by rw [ji O.ne];exact ho,?_,O.ne,O'.obj,_,O'.ns,fun g=>?_,fun g hg=>?_⟩
 ·have:=jgu f y fs;omega
 ·show zr ((vR f y fs).lookup g) (if g=f then some u else mA g);rw [jdd];by_cases q:g=f
  ·rw [Ce q,Ce q];exact ry
  ·rw [Cc q,Cc q];exact r g
 ·by_cases q:g=f
  ·rw [q];exact (jfc f y fs).1
  ·refine (jfc f y fs).2 g (wi g fun z=>hg ?_);show (if g=f then some u else mA g)=none;rw [Cc q];exact z
theorem Inv.made (I:Inv X pins σ H s):Inv X pins σ (upd (upd H s.heap.objs.size (.own (s.heap.objs.size+1))) (s.heap.objs.size+1) (.ins C s.heap.objs.size []))
  { s with heap:=(s.heap.push PySem.W.emptyDict).push (PySem.W.instObj C s.heap.objs.size) }:=by
 have e1:(s.heap.push PySem.W.emptyDict).get? s.heap.objs.size=some PySem.W.emptyDict:=Cv s.heap rfl;have e2:((s.heap.push PySem.W.emptyDict).push (PySem.W.instObj C s.heap.objs.size)).get? (s.heap.objs.size+1)=some (PySem.W.instObj C s.heap.objs.size):=by
  have:=Cv (s.heap.push PySem.W.emptyDict) (o:=PySem.W.instObj C s.heap.objs.size) rfl
  rwa [Fb] at this
 have e3:(s.heap.push PySem.W.emptyDict).Ns s.heap.objs.size (fun _=>none):=⟨PySem.W.emptyDict,#[],_,e1,rfl,(fun e he=>absurd he (by simp)),fun _=>rfl⟩;have I1:=I.laid (a:=s.heap.objs.size) (o:=.own (s.heap.objs.size+1)) (h':=s.heap.push PySem.W.emptyDict) (t':=s.toks) (fun b u q=>Ch _ q) (Cl _) ⟨_,e1⟩;refine I1.laid (a:=s.heap.objs.size+1) (o:=.ins C s.heap.objs.size []) (t':=s.toks) (fun b u q=>Ch _ q) (Nat.le_of_eq (Fb _ _)) ?_;have ne:s.heap.objs.size≠s.heap.objs.size+1:=Di (Nat.lt_succ_self _)
 refine ⟨by rw [ji ne,jc],C4 _,ne,e2,fun _=>none,(Heap.Ns1.of_empty e3).at fun o q=>Ch _ q,fun _=>True.intro,fun y hy=>absurd rfl hy⟩
theorem jmV {prog:Program} {w:World} {env:Env} {e:Expr} {f:Str} {pos:Pos} {s:Shared} {Q:Value→Shared→Prop} (hb:attributeBase e f env (eval e env)=eval e env)
  (h:wpAny (model prog w) A (eval e env) (fun o s₁=>wpAny (model prog w) A (getAttr o f true) Q E s₁) E s):wpAny (model prog w) A (eval (.Attribute e f pos) env) Q E s :=
 Attribute_any_ h (by rw [arm_eval_Attribute,hb])
end
noncomputable def jtb (K:Frag) (ta:TE) (f:Str):TE:=fun σ H Q=>ta σ H fun x H1=>∃ a C dx fs v,x=.ref a∧H1 a=some (.ins C dx fs)∧Cls K C∧vA K C f∧fs.lookup f=some v∧Q v H1
noncomputable def jui (K:Frag) (ta tv:TE) (f:Str):TS:=fun D σ H=>tv σ H fun y H1=>ta σ H1 fun x H2=>∃ a C dx fs,x=.ref a∧H2 a=some (.ins C dx fs)∧Cls K C∧vA K C f∧fs.length < 1000 ∧
 D.nx σ (upd H2 a (.ins C dx (vR f y fs)))
section
variable {X:Cx} {o e value:Expr} {f:Str} {pos pos':Pos} {ta tv:TE}
theorem jH (he:PE X e ta) (hb:attributeBase e f X.env (eval e X.env)=eval e X.env):PE X (.Attribute e f pos) (jtb X.K ta f):=by
 intro pins s σ H Q I h;refine jmV hb (thn (he pins s σ H _ I h) fun u s1 zqq=>?_);obtain ⟨x,H1,I1,rx,a,C,dx,fs,v,ex,ea,c,n,l,q⟩:=zqq;subst ex;obtain rfl:u=Value.ref a:=rx;exact jn3 I1 ea c n l fun u' s2 I2 ru=>⟨v,H1,I2,ru,q⟩
theorem vJ (ha:PE X o ta) (hv:PE X value tv) (hs:swapsWith value (some (.Attribute o f pos')) pos.line X.env=pure false):PS X (.Assign [.Attribute o f pos'] value pos) (jui X.K ta tv f):=by
 intro pins s σ H D I h;refine Jg (thn (hv pins s σ H _ I h) fun u s1 ⟨y,H1,I1,ry,q⟩=>thn (ha pins s1 σ H1 _ I1 q) fun ov s2 zqq=>?_) hs;obtain ⟨x,H2,I2,rx,a,C,dx,fs,ex,ea,c,n,l,q2⟩:=zqq;subst ex;obtain rfl:ov=Value.ref a:=rx;exact joo I2 ea c n l ry fun s3 I3=>⟨σ,_,I3,q2⟩
theorem jtp {pl:Sem Bool} {m:Str} {apos:Pos} {args:List Expr} {pins:List (Addr×Obj)} {s:Shared} {σ:St} {H:Hp} {Q:Value→Shared→Prop} {te:TE} (he:PE X e te) (I:Inv X pins σ H s)
  (h:te σ H fun x H1=>∃ a C dx fs g,x=.ref a∧H1 a=some (.ins C dx fs)∧Cls X.K C∧jp8 X.K C m g∧fs.lookup m=none ∧
   ∀ s1,Inv X pins σ H1 s1→wpAny (model X.prog X.w) X.A (callWith pos (.ref g) [.ref a] (backTo pos (starEach args X.env)) (backToKw pos (keywordEach [] X.env))) Q X.xe s1)
  (ht:eval (.Call (.Attribute e m apos) args [] pos) X.env=(do
   let ov ←eval e X.env
   standAt apos.atName
   let (f,first) ←holding [ov] (getMethod ov m pl)
   callWith pos f first (backTo pos (starEach args X.env)) (backToKw pos (keywordEach [] X.env)))) :
  wpAny (model X.prog X.w) X.A (eval (.Call (.Attribute e m apos) args [] pos) X.env) Q X.xe s:=by
 refine PySem.W.methodCall_KW (pl:=pl) (thn (he pins s σ H _ I h) fun u s1 zqq=>?_) ht;obtain ⟨x,H1,I1,rx,a,C,dx,fs,g,ex,ea,c,k,l,q⟩:=zqq;subst ex;obtain rfl:u=Value.ref a:=rx;exact jhN I1 ea c k l (q s1 I1)
end
structure j6 (k:Nat) (A:Around):Prop where
 hd:A.handled=none
 dp:A.depth+3 * k+5 < recursionLimit
 un:A.units+16 * k+200 < cLine
theorem j6.mono {j k:Nat} {A:Around} (r:j6 k A) (h:j≤k):j6 j A:=⟨r.hd,by have:=r.dp;omega,by have:=r.un;omega⟩
theorem j6.m {j k:Nat} {A:Around} (r:j6 k A) (h:j≤k:=by decide):j6 j A:=r.mono h
theorem j6.deeper {k:Nat} {A:Around} (r:j6 (k+1) A) (env:Env):j6 k (A.deeper env) :=
 ⟨r.hd,by have:=r.dp;show A.depth+1+3 * k+5 < _;omega,by have:=r.un;show A.units+3+16 * k+200 < _;omega⟩
theorem j6.in1 {k:Nat} {A:Around} (r:j6 (k+1) A):j6 k A.in1 :=
 ⟨r.hd,by have:=r.dp;show A.depth+3 * k+5 < _;omega,by have:=r.un;show A.units+1+16 * k+200 < _;omega⟩
theorem joc {A:Around} {C:Addr} {us:List Value} {kw:List (Str×Value)}:(A.under (.builtin "type.__call__" ⟨.ref C :: us,kw⟩)).depth=A.depth+1:=by
 first|rfl|simp [Around.under,Code.weight,Code.isCreation,Code.isGuard,Code.isCaller,Code.frames,Code.isFrame,guardIds]
theorem jod {A:Around} {C:Addr} {us:List Value} {kw:List (Str×Value)}:(A.under (.builtin "type.__call__" ⟨.ref C :: us,kw⟩)).units=A.units+1:=by
 first|rfl|simp [Around.under,Code.cUnits,Code.frames,Code.isFrame]
theorem j6.make {k:Nat} {A:Around} (r:j6 (k+1) A) (C:Addr) (us:List Value) (kw:List (Str×Value)):j6 k (A.under (.builtin "type.__call__" ⟨.ref C :: us,kw⟩)) :=
 ⟨r.hd,by have:=r.dp;rw [joc];omega,by have:=r.un;rw [jod];omega⟩
theorem j6.depth {k:Nat} {A:Around} (r:j6 k A):A.depth < recursionLimit:=by have:=r.dp;omega
theorem j6.units {k:Nat} {A:Around} (r:j6 k A):A.units+64 < cLine:=by have:=r.un;omega
noncomputable def jdn:TA:=fun _ H Q=>Q [] H
noncomputable def jf8 (ta:TE) (tr:TA):TA:=fun σ H Q=>ta σ H fun x H1=>tr σ H1 fun xs H2=>Q (x :: xs) H2
section
variable {X:Cx} {e:Expr} {es:List Expr} {te:TE} {t:TA} {pos:Pos}
theorem jh:PA X [] jdn:=fun _ _ _ _ H Q I h=>Calls.spliced_nil ⟨[],H,I,.nil,h⟩
theorem jb (ha:PE X e te) (hr:PA X es t) (hs:starEach (e :: es) X.env=(false,eval e X.env) :: starEach es X.env:=by rfl):PA X (e :: es) (jf8 te t):=by
 intro pos pins s σ H Q I h;rw [hs];show wpAny _ _ (spliced ((false,eval e X.env) :: backTo pos (starEach es X.env))) _ _ s;refine Calls.spliced_cons (thn (ha pins s σ H _ I h) fun u s1 zqq=>?_);obtain ⟨x,H1,I1,r1,q1⟩:=zqq;exact thn (hr pos pins s1 σ H1 _ I1 q1) fun us s2 ⟨xs,H2,I2,r2,q2⟩=>⟨x :: xs,H2,I2,.cons r1 r2,q2⟩
noncomputable def juw (t:TA):TE:=fun σ H Q=>t σ H fun xs H1=>xs.length≤sizeLine∧∀ p,H1 p=none→Q (.ref p) (upd H1 p (.tup xs))
noncomputable def jur (t:TA):TE:=fun σ H Q=>t σ H fun xs H1=>xs.length≤sizeLine∧∀ p,H1 p=none→Q (.ref p) (upd H1 p (.lst xs))
theorem jav {x1} (h:PA X es t):PE X (.Tuple es x1 pos) (juw t):=by
 intro pins s σ H Q I hq;refine wpAny_Tuple_spliced (thn (h pos pins s σ H _ I hq) fun us s1 ⟨xs,H1,I1,r,z,q⟩=>⟨by rw [←r.length];exact z,?_⟩);have hf:H1 s1.heap.objs.size=none:=I1.hok.fresh (Cl _);refine ⟨.ref s1.heap.objs.size,upd H1 s1.heap.objs.size (.tup xs),I1.laid (t':=s1.toks) (fun b u e=>Ch _ e) (Cl _) ?_,rfl,q _ hf⟩;exact ⟨z,us,r,⟨_,Cv _ rfl,rfl,_,rfl⟩⟩
theorem jN (h:PA X es t):PE X (.List es pos) (jur t):=by
 intro pins s σ H Q I hq;refine wpAny_List_spliced (thn (h pos pins s σ H _ I hq) fun us s1 ⟨xs,H1,I1,r,z,q⟩=>⟨by rw [←r.length];exact z,?_⟩);have hf:H1 s1.heap.objs.size=none:=I1.hok.fresh (Cl _);refine ⟨.ref s1.heap.objs.size,upd H1 s1.heap.objs.size (.lst xs),I1.laid (t':=s1.toks) (fun b u e=>Ch _ e) (Cl _) ?_,rfl,q _ hf⟩;exact ⟨z,us,0,r,Cv _ rfl⟩
end
noncomputable abbrev Sp:=List V→Hp→VK→XK→Prop
noncomputable abbrev CXT:=List Env→Hp→Shared→XK→Value→Shared→Prop
structure jc5 (P:Program) (w:World) (K:Frag) (mg:Str→Option Value) (base:Heap) (A:Around) (outer:List Env) (s:Shared) (H:Hp):Prop where
 frames:A.frames=some outer
 mod:Mod K mg base
 bs:∀ b o,base.get? b=some o→s.heap.get? b=some o∧H b=none
 bsz:base.objs.size≤s.heap.objs.size
 funs:s.heap.FunFrames base outer
 frf:∀ b∈frs outer,H b=none
 hok:HOk P w H s.heap
 bare:AllBare s.gens
noncomputable def CE (outer:List Env) (P:Program) (w:World) (H:Hp) (s:Shared) (Q:VK) (u:Value) (s':Shared):Prop :=
 ∃ v H',s'.os=s.os∧AllBare s'.gens∧Un (frs outer) [] H H' s.heap s'.heap∧HOk P w H' s'.heap∧RelV v u∧Q v H'
noncomputable def CR (CX:CXT) (outer:List Env) (P:Program) (w:World) (H:Hp) (s:Shared) (Q:VK) (E:XK) (r:Result) (s':Shared):Prop :=
 match r with
 | .ok (.ret u)=>CE outer P w H s Q u s'
 | .ok _=>False
 | .error e=>CX outer H s E e s'
structure zG (P:Program) (w:World) (K:Frag) (mg:Str→Option Value) (base:Heap) (CX:CXT) (k:Nat) (f:Addr) (fd:FuncData) (ps:List Str) (sp:Sp):Prop where
 len:∀ vs H Q E,sp vs H Q E→vs.length=ps.length
 run:∀ (A:Around) (outer:List Env) (s:Shared) (H:Hp) (args:Args) (us:List Value) (vs:List V) (Q:VK) (E:XK),j6 k A→jc5 P w K mg base A outer s H→BindsTo s fd args (ps.zip us)→jx vs us→sp vs H Q E →
  codeAny (model P w) A (.call (.ref f) args) (CR CX outer P w H s Q E) s
theorem zG.imp {P:Program} {w:World} {K:Frag} {mg:Str→Option Value} {base:Heap} {CX:CXT} {k:Nat} {f:Addr} {fd:FuncData} {ps:List Str} {sp sp':Sp} (F:zG P w K mg base CX k f fd ps sp)
  (h:∀ vs H Q E,sp' vs H Q E→sp vs H Q E):zG P w K mg base CX k f fd ps sp' :=
 ⟨fun vs H Q E q=>F.len vs H Q E (h _ _ _ _ q),fun A outer s H args us vs Q E hr he hb hv hs=>F.run A outer s H args us vs Q E hr he hb hv (h _ _ _ _ hs)⟩
theorem jc5.make {P:Program} {w:World} {K:Frag} {mg:Str→Option Value} {base:Heap} {A:Around} {outer:List Env} {s:Shared} {H:Hp} (e:jc5 P w K mg base A outer s H) (C:Addr) (us:List Value) (kw:List (Str×Value)) :
  jc5 P w K mg base (A.under (.builtin "type.__call__" ⟨.ref C :: us,kw⟩)) outer s H:=⟨by first|exact e.frames|(simpa [Around.under,Code.envs,Code.isFrame,pushEnvs] using e.frames),e.mod,e.bs,e.bsz,e.funs,e.frf,e.hok,e.bare⟩
theorem jc5.in1 {P:Program} {w:World} {K:Frag} {mg:Str→Option Value} {base:Heap} {A:Around} {outer:List Env} {s:Shared} {H:Hp} (e:jc5 P w K mg base A outer s H) :
  jc5 P w K mg base A.in1 outer s H:=⟨e.frames,e.mod,e.bs,e.bsz,e.funs,e.frf,e.hok,e.bare⟩
section
variable {X:Cx} {pins:List (Addr×Obj)} {σ:St} {H:Hp} {s s':Shared}
theorem Inv.env0 (I:Inv X pins σ H s):jc5 X.prog X.w X.K X.mg X.base X.A X.stack s H :=
 ⟨I.ok.frames,I.ok.mod,I.bs,Da I.ok.bsz I.sz,I.stack,I.stkFree,I.hok,I.bare⟩
theorem Inv.after {Q:VK} {u:Value} (I:Inv X pins σ H s) (h:CE X.stack X.prog X.w H s Q u s'):EP X pins σ Q u s':=by
 obtain ⟨v,H',os,bare,un,hok,r,q⟩:=h;obtain ⟨hh,g,d,t,os'⟩:=s';obtain rfl:os'=s.os:=os;exact ⟨v,H',I.call (h':=hh) (g':=g) (d':=d) (t':=t) (ch:=[]) un hok bare (fun b z=>absurd z (by simp)),r,q⟩
end
noncomputable def jf7 (sp:Sp) (dvs:List V) (E:XK) (t:TA):TE:=fun σ H Q=>t σ H fun vs H1=>sp (vs++dvs) H1 Q E
noncomputable def jrk (C:Addr) (m:Str) (sp:Sp) (dvs:List V) (E:XK) (ta:TE) (t:TA):TE:=fun σ H Q=>ta σ H fun x H1=>∃ a dx fs,x=.ref a∧H1 a=some (.ins C dx fs)∧fs.lookup m=none ∧
 t σ H1 fun vs H2=>sp (x :: (vs++dvs)) H2 Q E
noncomputable def jkD (C:Addr) (sp:Sp) (dvs:List V) (E:XK) (t:TA):TE:=fun σ H Q=>t σ H fun vs H1=>∀ x dx,H1 x=none→H1 dx=none→dx≠x →
 sp (.ref x :: (vs++dvs)) (upd (upd H1 dx (.own x)) x (.ins C dx [])) (fun v H2=>v=.non∧Q (.ref x) H2) E
noncomputable def Binds (K:Frag) (fd:FuncData) (ps:List Str) (ds:List Value):Prop :=
 ∀ (s:Shared) (us:List Value),K.In s.heap→(us++ds).length=ps.length→BindsTo s fd ⟨us,[]⟩ (ps.zip (us++ds))
theorem Binds.all {K:Frag} {fd:FuncData} {ps:List Str} (h:∀ us:List Value,us.length=ps.length→bindArgs fd ⟨us,[]⟩=pure (ps.zip us)):Binds K fd ps []:=fun s us _ hl=>by
 rw [D5] at hl ⊢;exact .of_eq (h us hl)
noncomputable def jan (CX:CXT) (X:Cx) (E:XK):Prop:=∀ (pins:List (Addr×Obj)) (σ:St) (H:Hp) (s:Shared) (e:Value) (s':Shared),Inv X pins σ H s→CX X.stack H s E e s'→X.xe e s'
section
variable {X:Cx} {CX:CXT} {k:Nat} {f C:Addr} {fd:FuncData} {ps:List Str} {sp:Sp} {dvs:List V} {ds:List Value} {E:XK} {x m:Str} {p pos apos:Pos} {e o:Expr} {es:List Expr} {ta:TE} {t:TA}
theorem jlJ {pins:List (Addr×Obj)} {σ:St} {H:Hp} {s:Shared} {Q:VK} {us:List Value} {vs:List V} (F:zG X.prog X.w X.K X.mg X.base CX k f fd ps sp) (hr:j6 k X.A) (hb:Binds X.K fd ps ds) (hd:jx dvs ds) (hx:jan CX X E)
  (I:Inv X pins σ H s) (r:jx vs us) (h:sp (vs++dvs) H Q E):wpAny (model X.prog X.w) X.A (call (.ref f) us) (EP X pins σ Q) X.xe s:=by
 have r2:jx (vs++dvs) (us++ds):=r.append hd;have hl:(us++ds).length=ps.length:=by rw [←r2.length];exact F.len _ _ _ _ h
 refine wpAny_call (G9 (F.run X.A X.stack s H ⟨us,[]⟩ (us++ds) (vs++dvs) Q E hr I.env0 (hb s us I.kIn hl) r2 h) fun r s' hq=>?_);cases r with
 | error e=>exact hx pins σ H s e s' I hq
 | ok fl =>
  cases fl with
  | ret u=>exact I.after hq
  | next=>exact False.elim hq
  | brk=>exact False.elim hq
  | cont=>exact False.elim hq
theorem jrO (F:zG X.prog X.w X.K X.mg X.base CX k f fd ps sp) (hr:j6 k X.A) (hg:Gl X x) (hm:X.mg x=some (.ref f)) (hk:PySem.W.keepIn X.K (.ref f)=true) (hb:Binds X.K fd ps ds) (hd:jx dvs ds) (hx:jan CX X E)
  (ha:PA X (e :: es) t) (hdb:(x == ("__debug__":Str))=false:=by decide) (he:starEach (e :: es) X.env=(false,eval e X.env) :: starEach es X.env:=by rfl) (hpl:(backTo pos (starEach es X.env)).any (·.1)=false:=by rfl) :
  PE X (.Call (.Name x p) (e :: es) [] pos) (jf7 sp dvs E t):=by
 intro pins s σ H Q I h;refine Fm (jaM I hg hm ?_ hdb);refine PySem.W.callWith_K (h₀:=X.base) I.ok.mod.kin hk (thn (ha pos pins s σ H _ I h) fun us s1 ⟨vs,H1,I1,r,q⟩=>⟨I1.kIn,?_⟩) he hpl;exact jlJ F hr hb hd hx I1 r q
theorem jqN (F:zG X.prog X.w X.K X.mg X.base CX k f fd ps sp) (hr:j6 k X.A) (hg:Gl X x) (hm:X.mg x=some (.ref f)) (hk:PySem.W.keepIn X.K (.ref f)=true) (hb:Binds X.K fd ps ds) (hd:jx dvs ds) (hx:jan CX X E)
  (hdb:(x == ("__debug__":Str))=false:=by decide):PE X (.Call (.Name x p) [] [] pos) (jf7 sp dvs E jdn):=by
 intro pins s σ H Q I h;refine Fm (jaM I hg hm ?_ hdb);exact PySem.W.callWith_K0 I.kIn hk (jlJ (us:=[]) F hr hb hd hx I .nil h)
theorem jqS {pl:Sem Bool} (he:PE X o ta) (c:Cls X.K C) (hm:jp8 X.K C m f) (F:zG X.prog X.w X.K X.mg X.base CX k f fd ps sp) (hr:j6 k X.A) (hb:Binds X.K fd ps ds) (hd:jx dvs ds) (hx:jan CX X E)
  (ht:eval (.Call (.Attribute o m apos) [] [] pos) X.env=(do
   let ov ←eval o X.env
   standAt apos.atName
   let (f,first) ←holding [ov] (getMethod ov m pl)
   callWith pos f first (backTo pos (starEach [] X.env)) (backToKw pos (keywordEach [] X.env))):=by rfl) :
  PE X (.Call (.Attribute o m apos) [] [] pos) (jrk C m sp dvs E ta jdn):=by
 intro pins s σ H Q I h;refine PySem.W.methodCall_KW (pl:=pl) (thn (he pins s σ H _ I h) fun u s1 zqq=>?_) ht;obtain ⟨x,H1,I1,rx,a,dx,fs,ex,ea,l,q⟩:=zqq;subst ex;obtain rfl:u=Value.ref a:=rx;refine jhN I1 ea c hm l ?_;exact PySem.W.callWith_K0 (first:=[.ref a]) I1.kIn hm.kp (jlJ (us:=[.ref a]) (vs:=[.ref a]) F hr hb hd hx I1 (.cons rfl .nil) q)
structure Mk (K:Frag) (C f:Addr):Prop where
 makes:PySem.W.makesIn K C=true
 init:PySem.W.findIn K (.ref C) "__init__"=some (some (.ref f))
 fn:PySem.W.isFn K (.ref f)=true
 kp:PySem.W.keepIn K (.ref C)=true
theorem jlK {pins:List (Addr×Obj)} {σ:St} {H:Hp} {s:Shared} {Q:VK} {us:List Value} {vs:List V} (M:Mk X.K C f) (F:zG X.prog X.w X.K X.mg X.base CX k f fd ps sp) (hr:j6 (k+1) X.A) (hb:Binds X.K fd ps ds) (hd:jx dvs ds)
  (hx:jan CX X E) (I:Inv X pins σ H s) (r:jx vs us)
  (h:∀ x dx,H x=none→H dx=none→dx≠x→sp (.ref x :: (vs++dvs)) (upd (upd H dx (.own x)) x (.ins C dx [])) (fun v H2=>v=.non∧Q (.ref x) H2) E) :
  wpAny (model X.prog X.w) X.A (call (.ref C) us) (EP X pins σ Q) X.xe s:=by
 have hq:=h (s.heap.objs.size+1) s.heap.objs.size (I.hok.fresh (Nat.le_succ _)) (I.hok.fresh (Cl _)) (Di (Nat.lt_succ_self _));have I2:=Inv.made (C:=C) I;have r2:jx (V.ref (s.heap.objs.size+1) :: (vs++dvs)) (Value.ref (s.heap.objs.size+1) :: (us++ds)):=.cons rfl (r.append hd);have hl:(Value.ref (s.heap.objs.size+1) :: us++ds).length=ps.length:=by
  have e:=r2.length;rw [F.len _ _ _ _ hq] at e;exact e.symm
 refine wpAny_call (jqE (f:=f) I.kIn M.makes M.init (D8.mp M.fn) (G9 (F.run _ X.stack _ _ ⟨Value.ref (s.heap.objs.size+1) :: us,[]⟩ (Value.ref (s.heap.objs.size+1) :: (us++ds)) _ _ E (hr.make C us [])
  (I2.env0.make C us []) (hb _ (Value.ref (s.heap.objs.size+1) :: us) I2.kIn hl) r2 hq) fun r s' hq'=>?_))
 cases r with
 | error e=>exact hx pins σ _ _ e s' I2 hq'
 | ok fl =>
  cases fl with
  | ret u =>
   obtain ⟨v,H',I3,rv,ev,q3⟩:=I2.after hq';subst ev;exact ⟨rv,⟨V.ref (s.heap.objs.size+1),H',I3,rfl,q3⟩⟩
  | next=>exact False.elim hq'
  | brk=>exact False.elim hq'
  | cont=>exact False.elim hq'
theorem jrQ (M:Mk X.K C f) (F:zG X.prog X.w X.K X.mg X.base CX k f fd ps sp) (hr:j6 (k+1) X.A) (hg:Gl X x) (hm:X.mg x=some (.ref C)) (hb:Binds X.K fd ps ds) (hd:jx dvs ds) (hx:jan CX X E)
  (ha:PA X (e :: es) t) (hdb:(x == ("__debug__":Str))=false:=by decide) (he:starEach (e :: es) X.env=(false,eval e X.env) :: starEach es X.env:=by rfl) (hpl:(backTo pos (starEach es X.env)).any (·.1)=false:=by rfl) :
  PE X (.Call (.Name x p) (e :: es) [] pos) (jkD C sp dvs E t):=by
 intro pins s σ H Q I h;refine Fm (jaM I hg hm ?_ hdb);refine PySem.W.callWith_K (h₀:=X.base) I.ok.mod.kin M.kp (thn (ha pos pins s σ H _ I h) fun us s1 ⟨vs,H1,I1,r,q⟩=>⟨I1.kIn,?_⟩) he hpl;exact jlK M F hr hb hd hx I1 r q
theorem jqR (M:Mk X.K C f) (F:zG X.prog X.w X.K X.mg X.base CX k f fd ps sp) (hr:j6 (k+1) X.A) (hg:Gl X x) (hm:X.mg x=some (.ref C)) (hb:Binds X.K fd ps ds) (hd:jx dvs ds) (hx:jan CX X E)
  (hdb:(x == ("__debug__":Str))=false:=by decide):PE X (.Call (.Name x p) [] [] pos) (jkD C sp dvs E jdn):=by
 intro pins s σ H Q I h;refine Fm (jaM I hg hm ?_ hdb);exact PySem.W.callWith_K0 I.kIn M.kp (jlK (us:=[]) M F hr hb hd hx I .nil h)
end
structure jr (N P:List Str) (sc:Scope):Prop where
 kind:sc.kind=.function
 co:sc.isCoroutine=false
 gen:sc.isGenerator=false
 nd:N.Nodup
 pre:N.take P.length=P
 par:∀ x∈P,sc.names.lookup x=some .local∨sc.names.lookup x=some .cell
 nofree:∀ y∈sc.names,y.2≠.free
theorem jjh {kindOf:Str→Option NameKind} {x:Str}:∀ {binds:List (Str×Value)} {m:Str→Option Value},(∀ v,(x,v)∉binds)→bindL kindOf binds m x=m x
 | [],_,_=>rfl
 | (n,v) :: r,m,h=>by
  unfold bindL;rw [jjh fun w hw=>h w (Cg _ hw)];split
  ·have:x≠n:=by rintro rfl;exact h v Cf
   simp [this]
  ·rfl
theorem jjf {kindOf:Str→Option NameKind} {x:Str}:∀ {binds:List (Str×Value)} {m:Str→Option Value},(∀ v,(x,v)∉binds)→bindC kindOf binds m x=m x
 | [],_,_=>rfl
 | (n,v) :: r,m,h=>by
  unfold bindC;rw [jjf fun w hw=>h w (Cg _ hw)];split
  ·rfl
  ·have:x≠n:=by rintro rfl;exact h v Cf
   simp [this]
theorem jjg {kindOf:Str→Option NameKind} {x:Str} {v:Value}:∀ {P:List Str} {vs:List Value} {i:Nat} {m:Str→Option Value},P.Nodup→P[i]?=some x→vs[i]?=some v→kindOf x=some .local →
  bindL kindOf (P.zip vs) m x=some v
 | [],_,_,_,_,h,_,_=>by simp at h
 | _ :: _,[],_,_,_,_,h,_=>by simp at h
 | p :: P,w :: vs,0,m,nd,h1,h2,hk=>by
  simp at h1 h2;subst h1;subst h2;show bindL kindOf ((p,w) :: P.zip vs) m p=_;unfold bindL;rw [jjh fun v hv=>(List.nodup_cons.mp nd).1 (Jp hv).1,Ce hk];simp
 | p :: P,w :: vs,i+1,m,nd,h1,h2,hk=>by
  show bindL kindOf ((p,w) :: P.zip vs) m x=_;unfold bindL;exact jjg (i:=i) (List.nodup_cons.mp nd).2 (by simpa using h1) (by simpa using h2) hk
theorem jje {kindOf:Str→Option NameKind} {x:Str} {v:Value}:∀ {P:List Str} {vs:List Value} {i:Nat} {m:Str→Option Value},P.Nodup→P[i]?=some x→vs[i]?=some v→kindOf x≠some .local →
  bindC kindOf (P.zip vs) m x=some v
 | [],_,_,_,_,h,_,_=>by simp at h
 | _ :: _,[],_,_,_,_,h,_=>by simp at h
 | p :: P,w :: vs,0,m,nd,h1,h2,hk=>by
  simp at h1 h2;subst h1;subst h2;show bindC kindOf ((p,w) :: P.zip vs) m p=_;unfold bindC;rw [jjf fun v hv=>(List.nodup_cons.mp nd).1 (Jp hv).1,Cc hk];simp
 | p :: P,w :: vs,i+1,m,nd,h1,h2,hk=>by
  show bindC kindOf ((p,w) :: P.zip vs) m x=_;unfold bindC;exact jje (i:=i) (List.nodup_cons.mp nd).2 (by simpa using h1) (by simpa using h2) hk
noncomputable def start (N:List Str) (vs:List V):St:=vs.map some++List.replicate (N.length - vs.length) none
noncomputable def zt (CX:CXT) (P:Program) (w:World) (K:Frag) (mg:Str→Option Value) (base:Heap) (N:List Str) (qual:Str) (scope:Scope) (f:Addr) (cd:Value) (A:Around) (outer:List Env) (s:Shared) (H:Hp) (E:XK):Cx where
 prog:=P
 w:=w
 K:=K
 mg:=mg
 base:=base
 A:=A.deeper (envOfC qual scope s.heap.objs.size f cd)
 N:=N
 s_0:=s
 H_0:=H
 env:=envOfC qual scope s.heap.objs.size f cd
 outer:=outer
 stack:=envOfC qual scope s.heap.objs.size f cd :: outer
 ex:=[]
 calm:=true
 fn:=fun _=>true
 pn:=[]
 xe:=fun e s'=>wpAny (model P w) (A.deeper (envOfC qual scope s.heap.objs.size f cd)) (leaving (envOfC qual scope s.heap.objs.size f cd) e) (fun _ s''=>CX outer H s E e s'') (fun e' s''=>CX outer H s E e' s'') s'
theorem jkQ {sc:Scope} {n:Nat} {x:Str} (h:sc.names.lookup x=some .cell):∃ c,(cellsFrom n sc.names []).lookup x=some c:=by
 have q:=PySem.W.cellsFrom_some sc.names n [] (.inl h);exact Option.isSome_iff_exists.mp q
theorem jpe {CX:CXT} {P:Program} {w:World} {K:Frag} {mg:Str→Option Value} {base:Heap} {N ps:List Str} {qual:Str} {scope:Scope} {f:Addr} {cd:Value} {A:Around} {outer:List Env} {s s1:Shared} {H:Hp} {E:XK} {us:List Value} {vs:List V}
  (S:jr N ps scope) (hd:A.handled=none) (e0:jc5 P w K mg base A outer s H) (hl:vs.length=ps.length) (r:jx vs us)
  (x:InCallC s s.heap.objs.size (bindL (envOfC qual scope s.heap.objs.size f cd).kindOf (ps.zip us) fun _=>none) (cellsFrom (s.heap.objs.size+1) scope.names []) (bindC (envOfC qual scope s.heap.objs.size f cd).kindOf (ps.zip us) fun _=>none) s1) :
  Inv (zt CX P w K mg base N qual scope f cd A outer s H E) [] (start N vs) H s1:=by
 have hpl:ps.length≤N.length:=by have:=D7 List.length S.pre;rw [Dq] at this;omega
 obtain ⟨h1,tk,rfl,hk⟩:=x.done;have noA:∀ b:Addr,b∉(zt CX P w K mg base N qual scope f cd A outer s H E).ex:=fun b z=>absurd (show b∈([]:List Addr) from z) (by simp);refine ⟨⟨e0.mod,S.kind,rfl,rfl,Cl _,fun y z c h1 h2=>?_,fun y hy=>?_,fun y c _ h=>?_,fun _=>hd,Around.frames_deeper e0.frames,.inr ⟨rfl,rfl⟩,fun b z=>absurd z (noA b),e0.bs,e0.bsz,fun b _ _=>noA b,fun b z=>absurd z (noA b),e0.funs,e0.frf⟩,
  rfl,e0.bare,Un.kept hk,⟨_,x.toInCall.ns,fun i y v h1 h2 h3=>?_⟩,fun y c h=>⟨_,x.cell y c h⟩,e0.hok.fresh (Cl _),fun y c h=>?_,fun p hp=>absurd (show p∈([]:List (Addr×Obj)) from hp) (by simp),e0.hok.kept hk,?_⟩
 ·exact name_of_addr x.apart (Do h1) (Do h2)
 ·have hy:scope.names.lookup y=some .cell∨scope.names.lookup y=some .free:=hy;rcases hy with hy|hy
  ·exact jkQ hy
  ·exact absurd rfl (S.nofree _ (Do hy))
 ·exact F5 (x.above y c (Do h))
 ·have hi:i < vs.length:=by
   unfold start at h2;by_cases hi:i < vs.length
   ·exact hi
   ·rw [Gz (by simpa using hi)] at h2;rw [List.getElem?_replicate] at h2;split at h2<;>cases h2
  have ha:vs[i]?=some v:=by
   unfold start at h2;rw [List.getElem?_append_left (by simpa using hi),Dz] at h2;cases e:vs[i]? with
   | none=>rw [e] at h2;cases h2
   | some a=>rw [e] at h2;cases h2;rfl
  obtain ⟨u,hu,rv⟩:=r.get ha;have hp:ps[i]?=some y:=by
   rw [←S.pre,List.getElem?_take_of_lt (by omega)];exact h1
  have ndP:ps.Nodup:=by rw [←S.pre];exact S.nd.sublist (List.take_sublist _ _)
  refine ⟨u,rv,?_⟩;rcases S.par y (Cw hp) with k|k
  ·exact .inl ⟨k,jjg ndP hp hu k⟩
  ·obtain ⟨c,e⟩:=jkQ (n:=s.heap.objs.size+1) k;refine .inr ⟨.inl k,c,e,?_⟩;have q:=x.cell y c e;rw [jje ndP hp hu (by show scope.names.lookup y≠_;rw [k];decide)] at q;exact q
 ·exact e0.hok.fresh (F5 (x.above y c (Do h)))
 ·unfold start;show _=N.length;rw [Ci,Cb,Du];omega
theorem jn2 {CX:CXT} {P:Program} {w:World} {K:Frag} {mg:Str→Option Value} {base:Heap} {k:Nat} {f:Addr} {name qual:Str} {params:Arguments} {body:List Stmt} {scope:Scope} {dV kV doc pm cdv ct oc:Value} {an od:Option Addr}
  {osl:Array (Option Value)} {N ps:List Str} {sp:Sp} (lk:K.lookup f=some ⟨oc,od,.func (PySem.W.fnOf name qual params body scope dV kV doc pm an cdv ct),osl⟩) (hcd:PySem.W.codeIn K cdv qual=true) (S:jr N ps scope)
  (len:∀ vs H Q E,sp vs H Q E→vs.length=ps.length)
  (hbody:∀ (A:Around) (outer:List Env) (s:Shared) (H:Hp) (vs:List V) (Q:VK) (E:XK),j6 k (A.deeper (envOfC qual scope s.heap.objs.size f cdv))→sp vs H Q E →
   ∃ t,PSs (zt CX P w K mg base N qual scope f cdv A outer s H E) body t∧t { nx:=fun _ H'=>Q .non H',rt:=Q } (start N vs) H) :
  zG P w K mg base CX (k+1) f (PySem.W.fnOf name qual params body scope dV kV doc pm an cdv ct) ps sp:=by
 refine ⟨len,fun A outer s H args us vs Q E hr e0 hb r hsp=>?_⟩;have hl:=len _ _ _ _ hsp;have KX:K.In s.heap:=e0.mod.kin.keeps fun b o e=>(e0.bs b o e).1;have lim:s.heap.NoLimit:=e0.mod.nolimit.keeps fun b o e=>(e0.bs b o e).1;have hkind:∀ y∈ps.zip us,scope.names.lookup y.1=some .local∨(scope.names.lookup y.1=some .cell∧((cellsFrom (s.heap.objs.size+1) scope.names []).lookup y.1).isSome=true):=fun ⟨n,v⟩ hy=>by
  rcases S.par n (Jp hy).1 with q|q
  ·exact .inl q
  ·exact .inr ⟨q,PySem.W.cellsFrom_some _ _ _ (.inl q)⟩
 refine codeAny_call_function hr.depth (KX _ _ lk) rfl S.co S.gen rfl (PySem.W.codeRec_of KX hcd) (hb _ _ _ _ ?_);refine wpAny_newFunctionEnv_cells S.kind hkind fun env he s1 x=>?_;subst he;refine ⟨lim.keeps x.toInCall.keep,codeAny_func ?_⟩;obtain ⟨t,ht,hq⟩:=hbody A outer s H vs Q E (hr.deeper _) hsp;have I:Inv (zt CX P w K mg base N qual scope f cdv A outer s H E) [] (start N vs) H s1:=jpe S hr.hd e0 hl r x;refine Fd (ht [] s1 (start N vs) H _ I hq) (fun fl s' hs=>?_) fun e s' hs=>hs
 have fin:∀ {σ':St} {H':Hp} {v:V} {u:Value},Inv (zt CX P w K mg base N qual scope f cdv A outer s H E) [] σ' H' s'→RelV v u→Q v H'→CE outer P w H s Q u s' :=
  fun {σ' H' v u} J rv q=>⟨v,H',J.os,J.bare,J.base,J.hok,rv,q⟩
 cases fl with
 | ret u =>
  obtain ⟨v,σ',H',J,rv,q⟩:=hs;exact fin J rv q
 | next =>
  obtain ⟨σ',H',J,q⟩:=hs;exact fin (v:=V.non) (u:=Value.none) J rfl q
 | brk =>
  obtain ⟨_,_,_,q⟩:=hs;exact False.elim q
 | cont =>
  obtain ⟨_,_,_,q⟩:=hs;exact False.elim q
section
variable {X:Cx} {x:Str} {p pos:Pos} {e:Expr} {es:List Expr} {t:TA} {id T:String} {r:List V→Hp→VK→Prop}
noncomputable def tCB (r:List V→Hp→VK→Prop) (t:TA):TE:=fun σ H Q=>t σ H fun vs H1=>r vs H1 Q
theorem jcf (hc:jcE X (.builtin id) r) (hg:Gl X x) (hm:X.mg x=none) (hv:bootBuiltins x=some (.builtin id)) (ha:PA X (e :: es) t) (hn:x≠"__name__":=by decide) (hdb:(x == ("__debug__":Str))=false:=by decide)
  (he:starEach (e :: es) X.env=(false,eval e X.env) :: starEach es X.env:=by rfl) (hpl:(backTo pos (starEach es X.env)).any (·.1)=false:=by rfl):PE X (.Call (.Name x p) (e :: es) [] pos) (tCB r t):=by
 intro pins s σ H Q I h;refine Fm (jaX I hg hm hv ?_ hn hdb);exact PyProof.Rows.callWith_builtin1 (thn (ha pos pins s σ H _ I h) fun us s1 ⟨vs,H1,I1,r1,q1⟩=>hc pins s1 σ H1 vs us Q I1 r1 q1) he hpl
theorem jpD (hc:jcE X (.type T) r) (hg:Gl X x) (hm:X.mg x=none) (hv:bootBuiltins x=some (.type T)) (ha:PA X (e :: es) t) (hn:x≠"__name__":=by decide) (hdb:(x == ("__debug__":Str))=false:=by decide)
  (he:starEach (e :: es) X.env=(false,eval e X.env) :: starEach es X.env:=by rfl) (hpl:(backTo pos (starEach es X.env)).any (·.1)=false:=by rfl):PE X (.Call (.Name x p) (e :: es) [] pos) (tCB r t):=by
 intro pins s σ H Q I h;refine Fm (jaX I hg hm hv ?_ hn hdb);exact F8 (thn (ha pos pins s σ H _ I h) fun us s1 ⟨vs,H1,I1,r1,q1⟩=>hc pins s1 σ H1 vs us Q I1 r1 q1) he hpl
end
end L2
namespace HT
open PySem PyProof.Rows
section
noncomputable def sIx (n d:Nat):Option Int→Nat
 | none=>d
 | some v=>if v < 0 then (v+(n:Int)).toNat else min v.toNat n
theorem jlL (n d:Nat):sIx n d none=d:=rfl
theorem jdL (n d k:Nat):sIx n d (some (k:Int))=min k n:=by
 show (if (k:Int) < 0 then ((k:Int)+(n:Int)).toNat else min (k:Int).toNat n)=min k n;rw [Cc (by omega),Dt]
end
end HT
namespace L2
open PySem PySem.Spec PyProof.Rows
open PySem.W (Frag)
variable {H H':Hp} {σ:St} {s:Shared} {w:World} {n t' i ep:Nat} {scope:Scope} {a d D b:Addr} {pos:Pos} {P:Program} {kvs:List (List Key×V)} {te:TE} {pins:List (Addr×Obj)} {tg elt iter e:Expr} {y:V} {Q E:Value→Shared→Prop} {g:TG} {xs:List V} {own:List (Str×Nat)} {tt:TT} {u:Value} {env:Env} {A:Around} {ifs:List Expr} {K:Frag} {X:Cx} {es:Array DictEntry} {its:List Value} {cells:List (Str×Addr)} {wi:TI} {o:Option V} {od:Obj}
noncomputable abbrev TO:=St→Hp→(Option Int→Hp→Prop)→Prop
noncomputable def PO (X:Cx) (e:Option Expr) (t:TO):Prop :=
 ∀ (pins:List (Addr×Obj)) (s:Shared) (σ:St) (H:Hp) (Q:Option Int→Hp→Prop),Inv X pins σ H s→t σ H Q →
  wpAny (model X.prog X.w) X.A (evalPart e X.env) (fun u s'=>∃ o H',Inv X pins σ H' s'∧IsPart u o∧Q o H') X.xe s
noncomputable def jr6:TO:=fun _ H Q=>Q none H
theorem jE (i:Nat) {x:Str} {pos':Pos} (hN:X.N.Nodup) (he:PE X e te) (hi:X.N[i]?=some x:=by rfl) (hx:Loc X.env.scope x:=by exact Ff rfl) (hs:swapsWith e (some (.Name x pos')) pos.line X.env=pure false:=by rfl) (hf:X.fn x=true∨X.env.scope.names.lookup x=some .local:=by first|exact .inl rfl|exact .inr rfl|assumption):PS X (.Assign [.Name x pos'] e pos) (joB te (jhM i)):=jpJ hN hi hx he hs hf
noncomputable def jtT (t:TE):TO:=fun σ H Q=>t σ H fun x H1=>∃ i,x=.int i∧Q (some i) H1
section
variable {X:Cx} {e:Expr} {te:TE} {lo hi:Option Expr} {tl th:TO} {pos p2:Pos}
theorem jdH:PO X none jr6:=by
 intro pins s σ H Q I h;rw [evalPart_none];exact Ck ⟨none,H,I,.none,h⟩
theorem zI (h:PE X e te):PO X (some e) (jtT te):=by
 intro pins s σ H Q I hw;rw [evalPart_some];refine thn (h pins s σ H _ I hw) fun u s1 ⟨x,H1,I1,r1,q1⟩=>?_;obtain ⟨i,rfl,q⟩:=q1;obtain ⟨t,rfl⟩:=r1;exact ⟨some i,H1,I1,.int i t,q⟩
noncomputable def SlR (X:Cx) (r:V→Option Int→Option Int→Hp→VK→Prop):Prop :=
 ∀ (pins:List (Addr×Obj)) (s:Shared) (σ:St) (H:Hp) (x:V) (v vl vu:Value) (lo hi:Option Int) (sl:Addr) (Q:VK),Inv X pins σ H s→RelV x v→s.heap.IsSliceOf sl vl vu .none→IsPart vl lo→IsPart vu hi→r x lo hi H Q →
  ∃ T id,typeLookup (.type T) "__getitem__"=pure (some (.builtin id))∧s.TypeIs v T∧wpAny (model X.prog X.w) X.A (getItem v (.ref sl)) (EP X pins σ Q) X.xe s
noncomputable def tSl (r:V→Option Int→Option Int→Hp→VK→Prop) (te:TE) (tl th:TO):TE:=fun σ H Q=>te σ H fun x H1=>tl σ H1 fun l H2=>th σ H2 fun u H3=>r x l u H3 Q
theorem jau {r:V→Option Int→Option Int→Hp→VK→Prop} (hr:SlR X r) (he:PE X e te) (hl:PO X lo tl) (hu:PO X hi th):PE X (.Subscript e (.Slice lo hi none p2) pos) (tSl r te tl th):=by
 intro pins s σ H Q I h;refine Subscript_ (thn (he pins s σ H _ I h) fun v s1 zqq=>?_);obtain ⟨x,H1,I1,r1,q1⟩:=zqq;refine wpAny_Slice (thn (hl pins s1 σ H1 _ I1 q1) fun vl s2 ⟨l,H2,I2,pl,q2⟩=>thn (hu pins s2 σ H2 _ I2 q2) fun vu s3 zqq=>?_);obtain ⟨u,H3,I3,pu,q3⟩:=zqq;rw [evalPart_none];refine Ck ?_;have I4:Inv X pins σ H3 { s3 with heap:=s3.heap.push { cls:=.type "slice",data:=.fields #[vl,vu,.none] } }:=I3.kept (t':=s3.toks) fun b ob q=>Ch _ q
 obtain ⟨T,id,hT,ht,hg⟩:=hr pins { s3 with heap:=s3.heap.push { cls:=.type "slice",data:=.fields #[vl,vu,.none] } } σ H3 x v vl vu l u s3.heap.objs.size Q I4 r1 (Heap.IsSliceOf.new ..) pl pu q3;show wpAny (model X.prog X.w) X.A (subscriptTail e (.Slice lo hi none p2) v (.ref s3.heap.objs.size)) (EP X pins σ Q) X.xe { s3 with heap:=s3.heap.push { cls:=.type "slice",data:=.fields #[vl,vu,.none] } };exact tail_any (ops:=[.ref s3.heap.objs.size,v]) ht hT hg (by with_unfolding_all rfl)
noncomputable def vQ (xs:List V) (lo hi:Option Int):List V:=(xs.drop (HT.sIx xs.length 0 lo)).take (HT.sIx xs.length xs.length hi - HT.sIx xs.length 0 lo)
theorem jmt (xs:List V) (lo hi:Option Int):(vQ xs lo hi).length≤xs.length:=by
 unfold vQ;rw [Dq,Db];omega
end
noncomputable def ixN (n:Nat) (i:Int):Option Nat:=if 0≤i then (if i < n then some i.toNat else none) else if -(n:Int)≤i then some (i+n).toNat else none
noncomputable def atI {α:Type} (xs:List α) (i:Int):Option α:=(ixN xs.length i).bind fun j=>xs[j]?
theorem jng {i:Int} {j:Nat} (h:ixN n i=some j):seqIndex? i n=some j∧j < n∧-(n:Int)≤i∧i < n:=by
 unfold ixN at h;by_cases h0:0≤i
 ·rw [Ce h0] at h;by_cases h1:i < n
  ·rw [Ce h1] at h;have e:i.toNat=j:=Cs h;exact ⟨by rw [seqIndex_of h0 h1,e],by omega,by omega,h1⟩
  ·rw [Cc h1] at h;cases h
 ·rw [Cc h0] at h;by_cases h1:-(n:Int)≤i
  ·rw [Ce h1] at h;have e:(i+n).toNat=j:=Cs h;exact ⟨by rw [seqIndex_neg (by omega) h1,e],by omega,h1,by omega⟩
  ·rw [Cc h1] at h;cases h
theorem jmU {α:Type} {xs:List α} {i:Int} {v:α} (h:atI xs i=some v):∃ j,seqIndex? i xs.length=some j∧xs[j]?=some v∧j < xs.length∧-(xs.length:Int)≤i∧i < xs.length:=by
 unfold atI at h;cases e:ixN xs.length i with
 | none=>rw [e] at h;cases h
 | some j =>
  rw [e] at h;obtain ⟨h1,h2,h3,h4⟩:=jng e;exact ⟨j,h1,h,h2,h3,h4⟩
theorem vn {α:Type} {xs:List α} {j:Nat} {v:α} (h:xs[j]?=some v):atI xs (j:Int)=some v:=by
 have hj:j < xs.length:=(Cj.mp h).1;have e:ixN xs.length (j:Int)=some j:=by
  unfold ixN;rw [Ce (by omega),Ce (by omega)];simp
 unfold atI;rw [e];exact h
theorem jqb {α:Type} (xs:List α) (v:α):atI (xs++[v]) (-1)=some v:=by
 have hl:(xs++[v]).length=xs.length+1:=by simp
 have e:ixN (xs++[v]).length (-1)=some xs.length:=by
  unfold ixN;rw [hl,Cc (by decide),Ce (by omega)];congr 1;omega
 unfold atI;rw [e];show (xs++[v])[xs.length]?=some v;simp
noncomputable def jrn (b:Expr):Prop:=∀ o i,subscripted b false o i=operate [o,i] (getItem o i)
noncomputable def IxR (X:Cx) (r:R2):Prop :=
 ∀ (value slice:Expr) (pins:List (Addr×Obj)) (s:Shared) (σ:St) (H:Hp) (x y:V) (v u:Value) (Q:VK),Inv X pins σ H s→RelV x v→RelV y u→r x y H Q →
  subscripted slice false v u=operate [v,u] (getItem v u)→wpAny (model X.prog X.w) X.A (subscriptTail value slice v u) (EP X pins σ Q) X.xe s
noncomputable def MtR (X:Cx) (id:String) (r:V→List V→Hp→VK→Prop):Prop :=
 ∀ (pins:List (Addr×Obj)) (s:Shared) (σ:St) (H:Hp) (x:V) (xs:List V) (v:Value) (us:List Value) (Q:VK),Inv X pins σ H s→RelV x v→jx xs us→r x xs H Q →
  wpAny (model X.prog X.w) X.A (call (.builtin id) (v :: us)) (EP X pins σ Q) X.xe s
section
variable {X:Cx} {a b:Expr} {ta tb:TE} {pos:Pos}
theorem jC {r:R2} (hr:IxR X r) (ha:PE X a ta) (hb:PE X b tb) (hs:jrn b:=by exact fun _ _=>rfl):PE X (.Subscript a b pos) (tOp r ta tb):=by
 intro pins s σ H Q I h;exact Subscript_ (jqc ha hb I h fun v u s2 x y H2 I2 rx ry q=>hr a b pins s2 σ H2 x y v u Q I2 rx ry q (hs _ _))
noncomputable def jsY (K:Frag):R2:=fun x y H Q=>∃ p xs i v,x=.ref p∧y=.int i∧SqL K H p xs∧atI xs i=some v∧Q v H
noncomputable def jsZ (K:Frag):R2:=fun x y H Q=>∃ p xs i v,x=.ref p∧y=.int i∧SqT K H p xs∧atI xs i=some v∧Q v H
theorem jJ:IxR X (jsY X.K):=by
 intro value slice pins s σ H x y v u Q I rx ry h hs;obtain ⟨p,xs,i,z,rfl,rfl,hq,he,q⟩:=h;cases rx;obtain ⟨t,rfl⟩:=ry;obtain ⟨its,r,pl,hz⟩:=I.list hq;obtain ⟨j,h1,h2,h3,h4,h5⟩:=jmU he;obtain ⟨w,ew,rw'⟩:=r.get h2;have hl:=r.length;have hn:=jhU;have fin:EP X pins σ Q w s:=⟨z,H,I,rw',q⟩;by_cases h0:0≤i
 ·have hj:i.toNat=j:=by
   rw [seqIndex_of h0 h5] at h1;exact Cs h1
  exact item_listR pl.isList h0 (by omega) (by rw [hj];simpa using ew) fin hs
 ·have hj:(i+(its.toArray.size:Int)).toNat=j:=by
   rw [seqIndex_neg (by omega) h4] at h1;rw [Cy,←hl];exact Cs h1
  exact subscriptTail_builtinR (x:=w) pl.isList.typeIs slot_list_getitem.lookup
   (wpAny_getItem_list_neg (Q:=fun r s'=>r=w∧EP X pins σ Q r s') pl.isList (by omega) (by rw [Cy]<;>omega) (by omega) (by rw [hj];simpa using ew) ⟨rfl,fin⟩) hs
theorem ve:IxR X (jsZ X.K):=by
 intro value slice pins s σ H x y v u Q I rx ry h hs;obtain ⟨p,xs,i,z,rfl,rfl,hq,he,q⟩:=h;cases rx;obtain ⟨t,rfl⟩:=ry;obtain ⟨its,r,pl,hz⟩:=I.tuple hq;obtain ⟨j,h1,h2,h3,h4,h5⟩:=jmU he;obtain ⟨w,ew,rw'⟩:=r.get h2;have hl:=r.length;have hn:=jhU;have fin:EP X pins σ Q w s:=⟨z,H,I,rw',q⟩;exact subscriptTail_builtinR (x:=w) pl.typeIs slot_tuple_getitem.lookup
  (getItem_tuple (j:=j) (Q:=fun r s'=>r=w∧EP X pins σ Q r s') pl (by omega) (by omega) (by rw [Cy,←hl];exact h1) (by simpa using ew) ⟨rfl,fin⟩) hs
theorem joe (its:List Value) (n j:Nat) (u:Value):Obj.mapSeq (·.setIfInBounds j u) { cls:=.type "list",data:=.seq its.toArray n }={ cls:=.type "list",data:=.seq (its.set j u).toArray n }:=by
 simp [Obj.mapSeq]
theorem Inv.lst {p:Addr} (I:Inv X pins σ H s) (h:H p=some (.lst xs)) :
  ∃ (its:List Value) (n:Nat),jx xs its∧s.heap.get? p=some { cls:=.type "list",data:=.seq its.toArray n }∧xs.length≤sizeLine:=by
 obtain ⟨z,its,n,r,e⟩:=I.hok p _ h;exact ⟨its,n,r,e,z⟩
theorem Inv.lstUpd {p:Addr} {ys:List V} {its':List Value} {n':Nat} {f:Obj→Obj} (I:Inv X pins σ H s) (h:H p=some (.lst xs))
  (ho:s.heap.get? p=some { cls:=.type "list",data:=.seq its.toArray n }) (hf:f { cls:=.type "list",data:=.seq its.toArray n }={ cls:=.type "list",data:=.seq its'.toArray n' }) (r:jx ys its') (hz:ys.length≤sizeLine) (t:Nat) :
  Inv X pins σ (upd H p (.lst ys)) { s with heap:=s.heap.update p f,toks:=t }:=by
 have e:(s.heap.update p f).get? p=some { cls:=.type "list",data:=.seq its'.toArray n' }:=by
  rw [Ge f ho (by rw [hf]<;>rfl),hf]
 refine I.write (x:=p) (e:=p) (by rw [h];trivial) (.inl rfl) (fun b u hb q=>(Fw _ _ (Dj hb)).trans q) ⟨_,e⟩ ?_;exact ⟨hz,its',n',r,e⟩
noncomputable def jtL:V→V→V→Hp→(Hp→Prop)→Prop:=fun o i v H Q=>∃ p xs k j,o=.ref p∧i=.int k∧H p=some (.lst xs)∧ixN xs.length k=some j∧Q (upd H p (.lst (xs.set j v)))
theorem jlT:jsf X jtL:=by
 intro pins s σ H o i v ov iv u Q I ro ri rv h;obtain ⟨p,xs,k,j,rfl,rfl,hp,hj,q⟩:=h;cases ro;obtain ⟨t,rfl⟩:=ri;obtain ⟨its,n,r,ho,hz⟩:=I.lst hp;obtain ⟨h1,h2,h3,h4⟩:=jng hj;have hl:=r.length;have hn:=jhU;have I':Inv X pins σ (upd H p (.lst (xs.set j v))) { s with heap:=s.heap.update p (Obj.mapSeq (·.setIfInBounds j u)) } :=
  I.lstUpd hp ho (joe its n j u) (r.set rv j) (by rw [List.length_set];exact hz) s.toks
 by_cases h0:0≤k
 ·have hk:k.toNat=j:=by
   rw [seqIndex_of h0 h4] at h1;exact Cs h1
  exact PySem.W.ki_setAt ho h0 (by omega) (by rw [Cy,←hl];exact h4) (by rw [hk];exact ⟨_,I',q⟩)
 ·have hk:(k+(its.toArray.size:Int)).toNat=j:=by
   rw [seqIndex_neg (by omega) h3] at h1;rw [Cy,←hl];exact Cs h1
  exact PySem.W.ki_setBack ho (by omega) (by rw [Cy,←hl];exact h3) (by omega) (by rw [hk];exact ⟨_,I',q⟩)
theorem jlW (lo hi:Option Int) (n:Nat):(sliceBounds lo hi none n).1=((HT.sIx n 0 lo:Nat):Int)∧(sliceBounds lo hi none n).2.1=((HT.sIx n n hi:Nat):Int)∧(sliceBounds lo hi none n).2.2=1:=by
 refine ⟨?_,?_,rfl⟩
 ·cases lo with
  | none=>simp [sliceBounds,HT.sIx]
  | some i =>
   simp only [sliceBounds,HT.sIx,Option.getD_none,show (1:Int) > 0 by decide,Lf];by_cases h:i < 0
   ·simp only [h,Lf]<;>omega
   ·simp only [h,Gs]<;>omega
 ·cases hi with
  | none=>simp [sliceBounds,HT.sIx]
  | some i =>
   simp only [sliceBounds,HT.sIx,Option.getD_none,show (1:Int) > 0 by decide,Lf];by_cases h:i < 0
   ·simp only [h,Lf]<;>omega
   ·simp only [h,Gs]<;>omega
theorem jkl (its:List Value) (lo hi:Option Int):slicePick its.toArray lo hi none=((its.drop (HT.sIx its.length 0 lo)).take (HT.sIx its.length its.length hi - HT.sIx its.length 0 lo)).toArray:=by
 obtain ⟨h1,h2,h3⟩:=jlW lo hi its.toArray.size;unfold slicePick;rw [h1,h2,h3];simp only [sliceRange_one,pick_run,Cy]<;>rfl
noncomputable def juf (K:Frag):V→Option Int→Option Int→Hp→VK→Prop:=fun x lo hi H Q=>∃ a xs,x=.ref a∧SqL K H a xs∧∀ p,H p=none→Q (.ref p) (upd H p (.lst (vQ xs lo hi)))
theorem jaR:SlR X (juf X.K):=by
 intro pins s σ H x v vl vu lo hi sl Q I rx hs pl pu h;obtain ⟨a,xs,rfl,hx,q⟩:=h;cases rx;obtain ⟨its,r,ht,hz⟩:=I.list hx;have hlen:=r.length;refine ⟨"list",_,slot_list_getitem.lookup,ht.isList.typeIs,?_⟩;refine wpAny_getItem_list_slice ht.isList hs pl pu .none (by simp) ?_ (by rw [Cy]<;>omega);rw [jkl,←hlen];refine ⟨.ref s.heap.objs.size,_,I.laid (t':=s.toks) (o:=.lst (vQ xs lo hi)) (fun b ob q=>Ch _ q) (Cl _) ?_,rfl,q _ (I.hok.fresh (Cl _))⟩
 exact ⟨Da (jmt xs lo hi) hz,_,0,(r.drop (HT.sIx xs.length 0 lo)).take (HT.sIx xs.length xs.length hi - HT.sIx xs.length 0 lo),Cv _ rfl⟩
theorem jkL:jcE X (.builtin "len") (fun xs H Q=>∃ p ys,xs=[.ref p]∧(SqL X.K H p ys∨SqT X.K H p ys)∧Q (.int ys.length) H):=by
 intro pins s σ H xs us Q I r h;obtain ⟨p,ys,rfl,hq,q⟩:=h;obtain ⟨u,rfl,rx⟩:=vals1 r;cases rx;have hn:=jhU;rcases hq with hq|hq
 ·obtain ⟨its,r',pl,hz⟩:=I.list hq;have hlen:=r'.length;exact Calls.call_len_list pl.isList (by simp only [Cy]<;>omega) ⟨.int ys.length,H,I.tok _,⟨s.toks+1,by rw [Cy,hlen]⟩,q⟩
 ·obtain ⟨its,r',pl,hz⟩:=I.tuple hq;have hlen:=r'.length;exact len_tuple pl (by simp only [Cy]<;>omega) ⟨.int ys.length,H,I.tok _,⟨s.toks+1,by rw [Cy,hlen]⟩,q⟩
noncomputable def tyV (K:Frag) (T:String) (x:V) (H:Hp):Prop:=match x with
 | .str _=>T="str"
 | .int _=>T="int"
 | .ref p=>(T="list"∧∃ xs,SqL K H p xs)∨(T="tuple"∧∃ o,K.lookup p=some o∧o.cls=.type "tuple"∧o.dict=none) ∨
   (T="dict"∧((∃ kvs,H p=some (.dK kvs))∨∃ kvs,H p=some (.dT kvs)))∨(T="set"∧∃ S n,H p=some (.set S n))
 | _=>False
theorem jth {T:String} {x:V} {v:Value} (I:Inv X pins σ H s) (r:RelV x v) (ty:tyV X.K T x H) :
  s.TypeIs v T∧∀ a,v=.ref a→∃ ob,s.heap.get? a=some ob∧ob.dict=none:=by
 cases x with
 | str z =>
  obtain ⟨t,rfl⟩:=r;cases (show T="str" from ty);exact ⟨typeIs_str s z t,fun _ e=>nomatch e⟩
 | int i =>
  obtain ⟨t,rfl⟩:=r;cases (show T="int" from ty);exact ⟨typeIs_int s i t,fun _ e=>nomatch e⟩
 | ref p =>
  cases r;rcases ty with ⟨rfl,xs,hq⟩|⟨rfl,o,hk,hc,hd⟩|⟨rfl,hk⟩|⟨rfl,S,n,hk⟩
  ·obtain ⟨its,_,pl,_⟩:=I.list hq;refine ⟨pl.isList.typeIs,fun a e=>?_⟩;cases e;obtain ⟨o,n,e,c,hd,_⟩:=pl;exact ⟨o,e,hd⟩
  ·refine ⟨⟨o,I.kIn p o hk,hc⟩,fun a e=>?_⟩;cases e;exact ⟨o,I.kIn _ o hk,hd⟩
  ·have z:∃ o,s.heap.get? p=some o∧o.ExactDict:=by
    rcases hk with ⟨kvs,hk⟩|⟨kvs,hk⟩
    ·obtain ⟨_,_,_,_,o,_,_,e,ex,_⟩:=I.hok p _ hk;exact ⟨o,e,ex⟩
    ·obtain ⟨_,_,_,_,o,_,_,e,ex,_⟩:=I.hok p _ hk;exact ⟨o,e,ex⟩
   obtain ⟨o,e,ex⟩:=z;refine ⟨⟨o,e,ex.1⟩,fun a e2=>?_⟩;cases e2;exact ⟨o,e,ex.2.1⟩
  ·obtain ⟨o,_,_,_,e,ex,_⟩:=I.hok p _ hk;refine ⟨⟨o,e,ex.1⟩,fun a e2=>?_⟩;cases e2;exact ⟨o,e,ex.2.1⟩
 | _=>exact False.elim ty
noncomputable def tBM (K:Frag) (T:String) (r:V→List V→Hp→VK→Prop) (to:TE) (t:TA):TE:=fun σ H Q=>to σ H fun x H1=>tyV K T x H1∧t σ H1 fun xs H2=>r x xs H2 Q
variable {o e:Expr} {es:List Expr} {to:TE} {t:TA} {name:Str} {apos cpos:Pos} {T id:String} {r:V→List V→Hp→VK→Prop}
theorem zy (pa:PlainAttrs T) (slot:Slot T name id) (hty:typeOf (.builtin id)=pure (.type "method_descriptor")) (hm:MtR X id r) (ho:PE X o to) (ha:PA X (e :: es) t)
  (hbase:attributeBase o name X.env (eval o X.env)=eval o X.env:=by rfl)
  (hfew:((backTo cpos (starEach (e :: es) X.env)).all (fun x=>!x.1) && (backToKw cpos (keywordEach [] X.env)).all (fun x=>x.1.isSome)
   && decide ((e :: es).length+([]:List Keyword).length+(if ([]:List Keyword).isEmpty then 0 else 1) < 30))=true:=by rfl)
  (hline:(apos.endLine == cpos.line)=true:=by rfl) (hs:starEach (e :: es) X.env=(false,eval e X.env) :: starEach es X.env:=by rfl) (hplain:(backTo cpos (starEach es X.env)).any (·.1)=false:=by rfl) :
  PE X (.Call (.Attribute o name apos) (e :: es) [] cpos) (tBM X.K T r to t):=by
 intro pins s σ H Q I h;refine wpAny_Call_method_late hbase hfew hline rfl (thn (ho pins s σ H _ I h) fun v s1 zqq=>?_);obtain ⟨x,H1,I1,r1,ty,q1⟩:=zqq;obtain ⟨h1,h2⟩:=jth I1 r1 ty;refine ⟨T,id,pa,slot,hty,h1,h2,?_⟩;have hA:=ha cpos pins s1 σ H1 _ I1 q1;rw [hs] at hA ⊢;refine Calls.callWith_builtin (by show (false || (backTo cpos (starEach es X.env)).any (·.1))=false;rw [hplain]<;>rfl) (Calls.evalArgs_plain ?_);exact thn hA fun us s2 ⟨vs,H2,I2,r2,q2⟩=>hm pins s2 σ H2 x vs v us Q I2 r1 r2 q2
end
noncomputable def MtM (X:Cx) (id:String) (r:V→List V→Hp→VK→Prop):Prop :=
 ∀ (pins:List (Addr×Obj)) (s:Shared) (σ:St) (H:Hp) (x:V) (xs:List V) (v:Value) (us:List Value) (Q:VK),Inv X pins σ H s→RelV x v→jx xs us→r x xs H Q →
  wpAny (model X.prog X.w) X.A (call (.builtin id) (v :: us)) (EP X pins σ Q) X.xe s
theorem jx.one:∀ {x:V} {us:List Value},jx [x] us→∃ u,us=[u]∧RelV x u
 | _,_,.cons r .nil=>⟨_,rfl,r⟩
theorem jx.rep {us:List Value} (h:jx xs us):∀ k:Nat,jx (List.replicate k xs).flatten (List.replicate k us).flatten
 | 0=>.nil
 | k+1=>by
  rw [Ga,Ga,Ja,Ja];exact jx.append h (jx.rep h k)
theorem foldl_rep (its:List Value):∀ (k:Nat) (acc:List Value),
  List.foldl (fun x1 x2=>x1++x2) acc.toArray (List.replicate k its.toArray)=(acc++(List.replicate k its).flatten).toArray
 | 0,acc=>by simp
 | k+1,acc=>by
  have e:acc.toArray++its.toArray=(acc++its).toArray:=by simp
  have e2:(acc++its)++(List.replicate k its).flatten=acc++(List.replicate (k+1) its).flatten:=by
   rw [Ga,Ja,Fe]
  rw [←e2,←foldl_rep its k (acc++its),←e,Ga,Fi]
section
variable {X:Cx} {pins:List (Addr×Obj)} {σ:St} {H:Hp} {s:Shared} {l:Addr} {xs ys:List V}
theorem Inv.lset {its':List Value} {f:Array Value→Array Value} (I:Inv X pins σ H s) (hH:H l=some (.lst xs))
  (e:s.heap.get? l=some { cls:=.type "list",data:=.seq its.toArray n }) (hf:f its.toArray=its'.toArray) (hv:jx ys its') (hz:ys.length≤sizeLine) :
  Inv X pins σ (upd H l (.lst ys)) { s with heap:=s.heap.update l (Obj.mapSeq f),toks:=t' }:=by
 have q:=PySem.IsL.update e f;rw [hf] at q;refine I.write (x:=l) (e:=l) (by rw [hH];exact trivial) (.inl rfl) (fun b' u hb hu=>(Fw s.heap (Obj.mapSeq f) (Dj hb)).trans hu) ⟨_,q⟩ ?_;exact ⟨hz,its',_,hv,q⟩
theorem Inv.lnew (I:Inv X pins σ H s) (hv:jx ys its) (hz:ys.length≤sizeLine) :
  Inv X pins σ (upd H s.heap.objs.size (.lst ys)) { s with heap:=s.heap.push { cls:=.type "list",data:=.seq its.toArray },toks:=t' } :=
 I.laid (fun _ _ q=>Ch _ q) (Cl _) ⟨hz,its,0,hv,Cv _ rfl⟩
theorem Inv.fresh (I:Inv X pins σ H s):H s.heap.objs.size=none:=I.hok.fresh (Cl _)
theorem Inv.lstM (I:Inv X pins σ H s) (hH:H l=some (.lst xs)):xs.length≤sizeLine∧∃ (its:List Value) (n:Nat),jx xs its∧xs.length=its.length∧s.heap.get? l=some { cls:=.type "list",data:=.seq its.toArray n }:=by
 obtain ⟨z,its,n,r,e⟩:=I.hok l _ hH;exact ⟨z,its,n,r,r.length,e⟩
theorem jlh (h:n≤sizeLine):Builtin.List.listTooLong n=false:=by
 unfold Builtin.List.listTooLong;exact Fv (by omega)
end
section
variable {X:Cx}
noncomputable def jrS:V→List V→Hp→VK→Prop:=fun x vs H Q=>∃ l xs y,x=.ref l∧vs=[y]∧H l=some (.lst xs)∧xs.length < sizeLine∧Q .non (upd H l (.lst (xs++[y])))
theorem vy:MtM X "list.append" jrS:=by
 intro pins s σ H x vs v us Q I rx rv h;obtain ⟨l,xs,y,rfl,rfl,hH,hz,q⟩:=h;cases rx;obtain ⟨u,rfl,ru⟩:=rv.one;obtain ⟨z,its,n,r,hl,e⟩:=I.lstM hH;refine call_meets F.slot_list_append ⟨_,e,rfl⟩ F.entry_list_append (F.args_list_append_2 _ _) (PySem.list_append l its.toArray n u (by rw [Cy];omega)) ⟨e,?_⟩;refine ⟨.non,_,I.lset (its':=its++[u]) hH e (by simp) (r.append (.cons ru .nil)) ?_,rfl,q⟩;rw [Ci,List.length_singleton];omega
noncomputable def jrT:V→List V→Hp→VK→Prop:=fun x vs H Q=>∃ l b xs zs,x=.ref l∧vs=[.ref b]∧H l=some (.lst xs)∧H b=some (.lst zs)∧xs.length+zs.length≤sizeLine∧Q .non (upd H l (.lst (xs++zs)))
theorem jfh:MtM X "list.extend" jrT:=by
 intro pins s σ H x vs v us Q I rx rv h;obtain ⟨l,b,xs,zs,rfl,rfl,hH,hB,hz,q⟩:=h;cases rx;obtain ⟨u,rfl,ru⟩:=rv.one;cases ru;obtain ⟨z,its,n,r,hl,e⟩:=I.lstM hH;obtain ⟨z2,its2,n2,r2,hl2,e2⟩:=I.lstM hB;have hsz:its.toArray.size+its2.toArray.size≤sizeLine:=by rw [Cy,Cy];omega
 have hlong:¬(!its.toArray.isEmpty && Builtin.List.listTooLong (its.toArray.size+its2.toArray.size))=true:=by
  rw [jlh hsz,Gj];exact C7
 refine call_meets F.slot_list_extend ⟨_,e,rfl⟩ F.entry_list_extend (F.args_list_extend_2 _ _)
  (AutoSeq1.list_extend_list_list_0 l its.toArray n b its2.toArray n2 hlong (by rw [Cy];omega) (by omega)) ⟨e,e2,?_⟩
 refine ⟨.non,_,I.lset (its':=its++its2) hH e (by simp) (r.append r2) ?_,rfl,q⟩;rw [Ci];omega
noncomputable def jub:R2:=fun x y H Q=>∃ l b xs zs,x=.ref l∧y=.ref b∧H l=some (.lst xs)∧H b=some (.lst zs)∧xs.length+zs.length≤sizeLine∧∀ p,H p=none→Q (.ref p) (upd H p (.lst (xs++zs)))
theorem jaG:OpR X (binaryOp .Add) jub:=by
 intro pins s σ H x y v u Q I rx ry h;obtain ⟨l,b,xs,zs,rfl,rfl,hH,hB,hz,q⟩:=h;cases rx;cases ry;obtain ⟨z,its,n,r,hl,e⟩:=I.lstM hH;obtain ⟨z2,its2,n2,r2,hl2,e2⟩:=I.lstM hB;refine PySem.P.add_list e e2 ?_ (by rw [Cy,Cy];omega);have ea:its.toArray++its2.toArray=(its++its2).toArray:=by simp
 rw [ea];exact ⟨.ref _,_,I.lnew (t':=s.toks) (r.append r2) (by rw [Ci];omega),rfl,q _ I.fresh⟩
noncomputable def jue:R2:=fun x y H Q=>∃ l k xs,x=.ref l∧y=.int k∧H l=some (.lst xs)∧-(2 ^ 63)≤k∧k < 2 ^ 63∧xs.length * k.toNat≤sizeLine ∧
 ∀ p,H p=none→Q (.ref p) (upd H p (.lst (List.replicate k.toNat xs).flatten))
theorem jiU {α:Type} (xs:List α) (k:Nat):(List.replicate k xs).flatten.length=k * xs.length:=by
 induction k with
 | zero=>simp
 | succ k ih=>rw [Ga,Ja,Ci,ih,Nat.succ_mul,Nat.add_comm]
theorem jpz:OpR X (binaryOp .Mult) jue:=by
 intro pins s σ H x y v u Q I rx ry h;obtain ⟨l,k,xs,rfl,rfl,hH,h1,h2,hz,q⟩:=h;cases rx;obtain ⟨t,rfl⟩:=ry;obtain ⟨z,its,n,r,hl,e⟩:=I.lstM hH;have hlen:its.toArray.size * k.toNat≤sizeLine:=by rw [Cy,←hl];exact hz
 have hcap:¬its.toArray.size * k.toNat > (2 ^ 63 - 1) / 8:=by
  have:(sizeLine:Nat)≤(2 ^ 63 - 1) / 8:=by decide
  omega
 have hfit:¬(!Builtin.List.listFitsIndex k)=true:=by
  rw [fitsIndex_both h1 h2];exact C7
 have hlong:¬Builtin.List.listTooLong (its.toArray.size * k.toNat)=true:=by
  rw [jlh hlen];exact C7
 have hnew:List.foldl (fun x1 x2=>x1++x2) #[] (List.replicate (if its.toArray.isEmpty=true then 0 else k.toNat) its.toArray)=(List.replicate k.toNat its).flatten.toArray:=by
  have f0:∀ m:Nat,List.foldl (fun x1 x2=>x1++x2) #[] (List.replicate m its.toArray)=(List.replicate m its).flatten.toArray:=fun m=>by
   have:=foldl_rep its m [];rw [Jq] at this;exact this
  rw [f0];cases its with
  | nil=>simp
  | cons a r'=>rw [Cc (by simp)]
 refine wpAny_binaryOp_repeat_ref (T:="list") (U:="int") (by decide) ⟨_,e,rfl⟩ (fun s'=>typeIs_int s' k t) noFill_list_mul F.fills_int_mul F.slot_int_rmul repeat_list F.slot_int_index.lookup
  (call_meets F.slot_int_rmul (typeIs_int s k t) F.entry_int_rmul (F.args_int_rmul_2 _ _) (int___rmul___int_list k t l its.toArray n)
   ⟨e,rfl,⟨_,e,rfl⟩,call_meets F.slot_list_mul ⟨_,e,rfl⟩ F.entry_list_mul (F.args_list_mul_2 _ _) (AutoListH.list___mul___list_int_3 l its.toArray n k t hfit hcap hlong) ⟨e,?_⟩⟩)
 rw [hnew];exact ⟨.ref _,_,I.lnew (t':=s.toks) (r.rep k.toNat) (by rw [jiU,Nat.mul_comm];exact hz),rfl,q _ I.fresh⟩
end
theorem jx.ints:∀ {ns:List Int} {us:List Value},jx (ns.map V.int) us→IntsAre us ns
 | [],us,h=>by
  rw [List.map_nil] at h;cases h;exact IntsAre.nil
 | n :: ns,us,h=>by
  rw [C6] at h;cases h with
  | cons r t =>
   obtain ⟨k,rfl⟩:=r;exact IntsAre.cons n k (jx.ints t)
theorem jx.ref1 {us:List Value} (r:jx [V.ref a] us):us=[Value.ref a]:=by
 cases r with
 | cons r t =>
  cases t;cases r
  rfl
section
variable {prog:Program} {w:World} {A:Around} {E:Value→Shared→Prop} {s:Shared} {l:Addr} {its:List Value} {ns:List Int} {Q:Value→Shared→Prop}
theorem jr4 (hh:A.handled=none) (hl:s.heap.IsList l its.toArray) (hi:IntsAre its ns)
  (h:∀ h' tk t',(∀ b o,s.heap.get? b=some o→h'.get? b=some o)→Q (.int ns.sum t') { s with heap:=h',toks:=tk }):wpAny (model prog w) A (call (.builtin "sum") [.ref l]) Q E s:=by
 obtain ⟨xs,e⟩:=hi.allInts.items;have hn:numsOf (intItems xs).toList=ns:=by rw [←e];exact hi.numsOf
 rw [nums_intItems] at hn;rw [e] at hl;refine PySem.sum_intListG hh hl fun h' tk t' hk=>?_;have:=h h' tk t' hk;rw [preSum_eq,D6 (by simp),hn];exact this
end
section
variable {X:Cx}
noncomputable def jug (K:Frag):List V→Hp→VK→Prop:=fun vs H Q=>∃ (a:Addr) (ns:List Int),vs=[V.ref a]∧SqL K H a (ns.map V.int)∧Q (.int ns.sum) H
theorem jsn (hc:X.calm=true):jcE X (.builtin "sum") (jug X.K):=by
 intro pins s σ H vs us Q I r h;obtain ⟨a,ns,rfl,hs,q⟩:=h;obtain ⟨its,rv,hl,_⟩:=I.list hs;rw [jx.ref1 r];exact jr4 (I.ok.hd hc) hl.isList rv.ints fun h' tk t' hk=>⟨.int _,H,I.kept hk,⟨_,rfl⟩,q⟩
end
mutual
inductive Dp (K:Frag) (H:Hp):V→PyData→Prop
 | non:Dp K H .non .none
 | bl (b:Bool):Dp K H (.bl b) (.bool b)
 | int (i:Int):Dp K H (.int i) (.int i)
 | str (x:Str):Dp K H (.str x) (.str x)
 | lst {a:Addr} {xs:List V} {ds:List PyData}:SqL K H a xs→jbW K H xs ds→Dp K H (.ref a) (.list ds)
 | tup {a:Addr} {xs:List V} {ds:List PyData}:SqT K H a xs→jbW K H xs ds→Dp K H (.ref a) (.tuple ds)
inductive jbW (K:Frag) (H:Hp):List V→List PyData→Prop
 | nil:jbW K H [] []
 | cons {v:V} {vs:List V} {d:PyData} {ds:List PyData}:Dp K H v d→jbW K H vs ds→jbW K H (v :: vs) (d :: ds)
end
section
variable {X:Cx} {pins:List (Addr×Obj)} {σ:St} {H:Hp} {s:Shared}
mutual
theorem Dp.reads (I:Inv X pins σ H s):∀ (d:PyData) (v:V) (u:Value),Dp X.K H v d→RelV v u→∃ as,Reads s.heap u d as
 | .none,_,_,h,r=>by
  cases h;cases r;exact ⟨_,Reads.none⟩
 | .bool b,_,_,h,r=>by
  cases h;cases r;exact ⟨_,Reads.bool b⟩
 | .int i,_,_,h,r=>by
  cases h;obtain ⟨t,rfl⟩:=r;exact ⟨_,Reads.int i t⟩
 | .str x,_,_,h,r=>by
  cases h;obtain ⟨t,rfl⟩:=r;exact ⟨_,Reads.str x t⟩
 | .list ds,_,_,h,r=>by
  cases h with
  | lst hs ha =>
   cases r;obtain ⟨its,rv,⟨o,n,ho,hc,_,hd⟩,_⟩:=I.list hs;obtain ⟨as,hr⟩:=Dp.readsAll I ds _ its ha rv;exact ⟨_,Reads.list ho hc hd hr⟩
 | .tuple ds,_,_,h,r=>by
  cases h with
  | tup hs ha =>
   cases r;obtain ⟨its,rv,⟨o,ho,hc,n,hd⟩,_⟩:=I.tuple hs;obtain ⟨as,hr⟩:=Dp.readsAll I ds _ its ha rv;exact ⟨_,Reads.tuple ho hc hd hr⟩
 | .dict _,_,_,h,_=>by cases h
theorem Dp.readsAll (I:Inv X pins σ H s):∀ (ds:List PyData) (vs:List V) (us:List Value),jbW X.K H vs ds→jx vs us→∃ as,ReadsAll s.heap us ds as
 | [],_,_,h,r=>by
  cases h;cases r;exact ⟨_,ReadsAll.nil⟩
 | d :: ds,_,_,h,r=>by
  cases h with
  | cons h1 h2 =>
   cases r with
   | cons r1 r2 =>
    obtain ⟨as,q1⟩:=Dp.reads I d _ _ h1 r1;obtain ⟨bs,q2⟩:=Dp.readsAll I ds _ _ h2 r2;exact ⟨_,ReadsAll.cons q1 q2⟩
end
end
section
variable {X:Cx}
noncomputable def juc (K:Frag):R2:=fun x y H Q=>∃ d e,Dp K H x d∧Dp K H y e∧SeqAt.shaped d=true∧SeqAt.shaped e=true∧Q (.bl (PyData.eqv d e)) H
noncomputable def jud (K:Frag):R2:=fun x y H Q=>∃ d e,Dp K H x d∧Dp K H y e∧SeqAt.shaped d=true∧SeqAt.shaped e=true∧Q (.bl (!PyData.eqv d e)) H
theorem jh4 (hu:X.A.units+64 < cLine):OpR X (compareOp .Eq) (juc X.K):=by
 intro pins s σ H x y v u Q I rx ry h;obtain ⟨d,e,hd,he,sd,se,q⟩:=h;obtain ⟨as,r1⟩:=Dp.reads I d x v hd rx;obtain ⟨bs,r2⟩:=Dp.reads I e y u he ry;exact SeqAt.compareEq_shaped r1 r2 sd se hu ⟨.bl _,H,I,rfl,q⟩
theorem jsT (hu:X.A.units+64 < cLine):OpR X (compareOp .NotEq) (jud X.K):=by
 intro pins s σ H x y v u Q I rx ry h;obtain ⟨d,e,hd,he,sd,se,q⟩:=h;obtain ⟨as,r1⟩:=Dp.reads I d x v hd rx;obtain ⟨bs,r2⟩:=Dp.reads I e y u he ry;exact SeqAt.compareNe_shaped r1 r2 sd se hu ⟨.bl _,H,I,rfl,q⟩
end
noncomputable abbrev joI (h:Heap) (c:Addr) (v:Option Value):Prop:=h.IsCell c v
noncomputable def juh (scope sc:Scope):Scope :=
 { scope with names:=scope.names.map fun (n,k)=>if (k == .free && sc.kind == .function && sc.names.lookup n == some .cell) then (n,.cell) else (n,k) }
noncomputable def vo (cells:List (Str×Addr)):List (Str×NameKind)→List (Str×Addr)→List (Str×Addr)
 | [],acc=>acc
 | (n,k) :: r,acc=>if k == .free then vo cells r ((n,(cells.lookup n).getD 0) :: acc) else vo cells r acc
theorem je7 (env:Env) (f:Str×NameKind→List (Str×Addr)→Sem (ForInStep (List (Str×Addr))))
  (hf:∀ n k c,f (n,k) c=if k == .free then (do let a ←cellOf env n;pure (.yield ((n,a) :: c))) else pure (.yield c)) :
  ∀ (names:List (Str×NameKind)) (acc:List (Str×Addr)),(∀ y∈names,y.2=.free→∃ c,env.cells.lookup y.1=some c)→forIn names acc f=pure (vo env.cells names acc)
 | [],acc,_=>by rw [List.forIn_nil];rfl
 | (n,k) :: r,acc,h=>by
  rw [List.forIn_cons,hf];have ih:=fun acc=>je7 env f hf r acc fun y hy=>h y (Cg _ hy);unfold vo;by_cases hk:(k == NameKind.free)=true
  ·rw [Ce hk,Ce hk];obtain ⟨c,hc⟩:=h (n,k) Cf (by simpa using hk);have e:cellOf env n=pure c:=by unfold cellOf;rw [hc]
   rw [e];have e2:(env.cells.lookup n).getD 0=c:=by rw [hc];rfl
   rw [e2];exact ih _
  ·rw [Cc hk,Cc hk];exact ih _
theorem jnU (h:∀ y∈scope.names,y.2=.free→∃ c,env.cells.lookup y.1=some c):closureFor scope env=pure (vo env.cells scope.names []):=by
 simp only [closureFor];rw [je7 env _ (fun n k c=>rfl) scope.names [] h]
 rfl
theorem mem_lookup {α:Type}:∀ {l:List (Str×α)} {n:Str} {c:α},(n,c)∈l→∃ c',l.lookup n=some c'
 | (k,v) :: r,n,c,h=>by
  rw [Gf];cases hb:n == k with
  | true=>exact ⟨_,rfl⟩
  | false =>
   rcases Cp.mp h with e|h
   ·cases e;simp at hb
   ·exact mem_lookup h
theorem jbr:∀ {names:List (Str×NameKind)} {acc:List (Str×Addr)} {n:Str} {c:Addr},(n,c)∈vo cells names acc→(n,c)∈acc∨((n,.free)∈names∧c=(cells.lookup n).getD 0)
 | [],_,_,_,h=>.inl h
 | (m,k) :: r,acc,n,c,h=>by
  unfold vo at h;split at h
  ·rename_i hk;have hk:k=.free:=by simpa using hk
   rcases jbr h with h|⟨h1,h2⟩
   ·rcases Cp.mp h with e|h
    ·cases e;exact .inr ⟨hk ▸ Cf,rfl⟩
    ·exact .inl h
   ·exact .inr ⟨Cg _ h1,h2⟩
  ·rcases jbr h with h|⟨h1,h2⟩
   ·exact .inl h
   ·exact .inr ⟨Cg _ h1,h2⟩
theorem jc9:∀ {names:List (Str×NameKind)} {acc:List (Str×Addr)} {p:Str×Addr},p∈acc→p∈vo cells names acc
 | [],_,_,h=>h
 | (m,k) :: r,acc,p,h=>by
  unfold vo;split
  ·exact jc9 (Cg _ h)
  ·exact jc9 h
theorem jda:∀ {names:List (Str×NameKind)} {acc:List (Str×Addr)} {n:Str},(n,.free)∈names→(n,(cells.lookup n).getD 0)∈vo cells names acc
 | (m,k) :: r,acc,n,h=>by
  unfold vo;rcases Cp.mp h with e|h
  ·cases e;exact jc9 Cf
  ·split
   ·exact jda h
   ·exact jda h
theorem jbx:∀ {names:List (Str×NameKind)} {h:Heap} {acc:List (Str×Addr)} {x:Str} {c:Addr},(x,c)∈cellsFrom h.objs.size names acc →
  (x,c)∈acc∨((x,.cell)∈names∧h.objs.size≤c∧joI (pushCells h names) c none)
 | [],_,_,_,_,h=>.inl h
 | (n,k) :: r,h,acc,x,c,hm=>by
  unfold cellsFrom at hm;unfold pushCells;split at hm
  ·rename_i hk;rw [Ce hk];have hk:k=.cell:=by simpa using hk
   rw [←Fb h { cls:=.type "cell",data:=.cell none }] at hm;rcases jbx hm with hm|⟨h1,h2,h3⟩
   ·rcases Cp.mp hm with e|hm
    ·cases e;exact .inr ⟨hk ▸ Cf,Cl _,_,pushCells_keeps r _ _ _ (Cv _ rfl),rfl⟩
    ·exact .inl hm
   ·rw [Fb] at h2;exact .inr ⟨Cg _ h1,Nat.le_of_succ_le h2,h3⟩
  ·rename_i hk;rw [Cc hk];rcases jbx hm with hm|⟨h1,h2,h3⟩
   ·exact .inl hm
   ·exact .inr ⟨Cg _ h1,h2,h3⟩
theorem jcF:∀ {names:List (Str×NameKind)} {n:Nat} {acc:List (Str×Addr)} {p:Str×Addr},p∈acc→p∈cellsFrom n names acc
 | [],_,_,_,h=>h
 | (m,k) :: r,n,acc,p,h=>by
  unfold cellsFrom;split
  ·exact jcF (Cg _ h)
  ·exact jcF h
theorem je4:∀ {names:List (Str×NameKind)} {n:Nat} {acc:List (Str×Addr)} {x:Str},(x,.cell)∈names→∃ c,(x,c)∈cellsFrom n names acc
 | (m,k) :: r,n,acc,x,h=>by
  unfold cellsFrom;rcases Cp.mp h with e|h
  ·cases e;exact ⟨n,jcF Cf⟩
  ·split
   ·exact je4 h
   ·exact je4 h
theorem je5:∀ {names:List (Str×NameKind)} {h:Heap} {acc:List (Str×Addr)} {x y:Str} {c:Addr},(∀ p∈acc,p.2 < h.objs.size)→(∀ x y c,(x,c)∈acc→(y,c)∈acc→x=y) →
  (x,c)∈cellsFrom h.objs.size names acc→(y,c)∈cellsFrom h.objs.size names acc→x=y
 | [],_,_,_,_,_,_,hi,h1,h2=>hi _ _ _ h1 h2
 | (n,k) :: r,h,acc,x,y,c,hl,hi,h1,h2=>by
  unfold cellsFrom at h1 h2;split at h1
  ·rename_i hk;rw [Ce hk] at h2;rw [←Fb h { cls:=.type "cell",data:=.cell none }] at h1 h2;refine je5 (h:=h.push _) (fun p hp=>?_) (fun x y c a b=>?_) h1 h2
   ·rw [Fb];rcases Cp.mp hp with rfl|hp
    ·exact Nat.lt_succ_self _
    ·exact J8 (hl p hp)
   ·rcases Cp.mp a with e|a<;>rcases Cp.mp b with e'|b
    ·cases e;cases e';rfl
    ·cases e;exact absurd (hl _ b) (Gh _)
    ·cases e';exact absurd (hl _ a) (Gh _)
    ·exact hi _ _ _ a b
  ·rename_i hk;rw [Cc hk] at h2;exact je5 hl hi h1 h2
theorem jmD {M:Model} {globals:Addr} {closure:List (Str×Addr)} {qual:Str} {func:Option Addr} {code:Value} {around:Env} {builtins:Addr} {Q:Env→Shared→Prop}
  (h:Q (newEnv scope s.heap.objs.size globals (cellsFrom (s.heap.objs.size+1) scope.names closure) qual func code (some around) builtins)
   { s with heap:=pushCells (s.heap.push { cls:=.type "dict",data:=.dict #[] }) scope.names }) :
  wpAny M A (newFunctionEnv scope globals closure [] qual func code (some around) builtins) Q E s:=by
 simp only [newFunctionEnv,Option.isSome_some,Lf];refine Ca (wpAny_alloc ?_);refine Ca (wpAny_layCells _ (fun n k c=>rfl) scope.names closure _ _ ?_);rw [show ({ s with heap:=s.heap.push { cls:=.type "dict",data:=.dict #[] } }:Shared).heap.objs.size=s.heap.objs.size+1 from Fb ..];rw [List.forIn_nil];exact Ca (Ck (Ck h))
theorem jde {sc:Scope}:∀ {names:List (Str×NameKind)} {x:Str} {k:NameKind},
  (names.map fun (n,k)=>if (k == NameKind.free && sc.kind == .function && sc.names.lookup n == some .cell) then (n,NameKind.cell) else (n,k)).lookup x=some k →
  ∃ k',names.lookup x=some k'∧(k=k'∨(k'=.free∧k=.cell))
 | [],_,_,h=>by simp at h
 | (n,k₀) :: r,x,k,h=>by
  have ih:=@jde sc r x k;have h':List.lookup x ((if (k₀ == NameKind.free && sc.kind == .function && sc.names.lookup n == some .cell)=true then (n,NameKind.cell) else (n,k₀)) :: (r.map _))=some k:=h;cases hx:x == n with
  | true =>
   simp only [Gf,hx];by_cases hc:(k₀ == NameKind.free && sc.kind == .function && sc.names.lookup n == some .cell)=true
   ·rw [Ce hc] at h';simp only [Gf,hx] at h';cases h';simp only [Cn,D8] at hc;exact ⟨k₀,rfl,.inr ⟨hc.1.1,rfl⟩⟩
   ·rw [Cc hc] at h';simp only [Gf,hx] at h';cases h';exact ⟨_,rfl,.inl rfl⟩
  | false =>
   simp only [Gf,hx];by_cases hc:(k₀ == NameKind.free && sc.kind == .function && sc.names.lookup n == some .cell)=true
   ·rw [Ce hc] at h';simp only [Gf,hx] at h';exact ih h'
   ·rw [Cc hc] at h';simp only [Gf,hx] at h';exact ih h'
structure jhH (N:List Str) (sc scope:Scope) (own:List (Str×Nat)):Prop where
 kind:scope.kind=.function
 uniq:∀ y∈scope.names,scope.names.lookup y.1=some y.2
 ix:∀ p∈own,N[p.2]?=some p.1
 free:∀ y∈scope.names,y.2=.free→sc.names.lookup y.1=some .cell∨sc.names.lookup y.1=some .free
 own:∀ y∈scope.names,y.2=.local∨y.2=.cell→y.1∈own.map (·.1)∨y.1∉N
noncomputable def vq (σ:St):List Nat→St
 | []=>σ
 | v :: vs=>(vq σ vs).set v none
theorem jdp (σ:St):∀ vs:List Nat,(vq σ vs).length=σ.length
 | []=>rfl
 | v :: vs=>by unfold vq;rw [List.length_set,jdp σ vs]
theorem jfS {x:V}:∀ {vs:List Nat},(vq σ vs)[i]?=some (some x)→σ[i]?=some (some x)∧i∉vs
 | [],h=>⟨h,by simp⟩
 | v :: vs,h=>by
  unfold vq at h;by_cases hi:v=i
  ·subst hi;by_cases hv:v < (vq σ vs).length
   ·rw [Gu hv] at h;cases h
   ·rw [Jv (by simpa using hv)] at h;cases h
  ·rw [List.getElem?_set_ne hi] at h;obtain ⟨h1,h2⟩:=jfS h;exact ⟨h1,by simp only [Cp,not_or];exact ⟨fun e=>hi e.symm,h2⟩⟩
noncomputable abbrev Cx.blk (X:Cx) (s:Shared) (H:Hp) (scope:Scope) (cenv:Env) (fp:List Addr):Cx:={ X with s_0:=s,H_0:=H,env:=cenv,outer:=X.stack,ex:=fp,fn:=fun x=>scope.names.lookup x == some .cell,pn:=[],xe:=fun _ _=>False }
section
variable {X:Cx} {pins:List (Addr×Obj)} {σ:St} {H:Hp} {s:Shared}
theorem jmq {fp:List Addr} (I:Inv X pins σ H s) (ok:jhH X.N X.env.scope scope own) (hN:X.N.Nodup) (hfp:∀ b∈fp,zN X pins H b∧b < s.heap.objs.size) :
  Inv (X.blk s H scope (compEnvC scope (cellsFrom (s.heap.objs.size+1) scope.names (vo X.env.cells scope.names [])) s.heap.objs.size X.env) fp) [] (vq σ (own.map (·.2))) H { s with heap:=pushCells (s.heap.push { cls:=.type "dict",data:=.dict #[] }) scope.names }:=by
 have hfree:∀ y∈scope.names,y.2=.free→∃ c,X.env.cells.lookup y.1=some c:=fun y hy e=>by
  rcases ok.free y hy e with k|k
  ·exact I.ok.has _ (.inl k)
  ·exact I.ok.has _ (.inr k)
 generalize hcenv:compEnvC scope (cellsFrom (s.heap.objs.size+1) scope.names (vo X.env.cells scope.names [])) s.heap.objs.size X.env=cenv;have kp:∀ b o,s.heap.get? b=some o→(pushCells (s.heap.push { cls:=.type "dict",data:=.dict #[] }) scope.names).get? b=some o:=fun b o e=>pushCells_keeps _ _ _ _ (Ch _ e);have hL:cenv.locals=s.heap.objs.size:=by rw [←hcenv];rfl
 have hcl:cenv.cells=cellsFrom (s.heap.objs.size+1) scope.names (vo X.env.cells scope.names []):=by rw [←hcenv];rfl
 have hsc:cenv.scope=juh scope X.env.scope:=by rw [←hcenv];rfl
 rw [←Fb s.heap { cls:=.type "dict",data:=.dict #[] }] at hcl;have cm:∀ {y c},(y,c)∈vo X.env.cells scope.names []→X.env.cells.lookup y=some c∧c < s.heap.objs.size:=fun {y c} hm=>by
  rcases jbr hm with hm|⟨h1,rfl⟩
  ·cases hm
  ·obtain ⟨c,hc⟩:=hfree _ h1 rfl;rw [hc];obtain ⟨w,z⟩:=I.cell _ _ hc;exact ⟨rfl,z.lt⟩
 have mem:∀ {y c},cenv.cells.lookup y=some c→(X.env.cells.lookup y=some c∧c < s.heap.objs.size)∨(s.heap.objs.size+1≤c∧joI (pushCells (s.heap.push { cls:=.type "dict",data:=.dict #[] }) scope.names) c none):=fun {y c} e=>by
  rw [hcl] at e;rcases jbx (Do e) with hm|⟨_,h2,h3⟩
  ·exact .inl (cm hm)
  ·rw [Fb] at h2;exact .inr ⟨h2,h3⟩
 have look:∀ {y},scope.names.lookup y=some .free→∃ c,cenv.cells.lookup y=some c∧X.env.cells.lookup y=some c:=fun {y} hl=>by
  have hy:(y,NameKind.free)∈scope.names:=Do hl;obtain ⟨c',e'⟩:=mem_lookup (jcF (names:=scope.names) (n:=(s.heap.push { cls:=.type "dict",data:=.dict #[] }).objs.size) (jda (cells:=X.env.cells) (acc:=[]) hy));rw [←hcl] at e';refine ⟨c',e',?_⟩;rw [hcl] at e';rcases jbx (Do e') with hm|⟨h1,_,_⟩
  ·exact (cm hm).1
  ·have:=ok.uniq _ h1;rw [hl] at this;cases this
 have okB:(X.blk s H scope cenv fp).Ok:=by
  refine ⟨I.ok.mod,by show cenv.scope.kind=_;rw [hsc];exact ok.kind,by show cenv.globals=_;rw [←hcenv];exact I.ok.glob,by show cenv.builtins=_;rw [←hcenv];exact I.ok.blt,by show s.heap.objs.size≤cenv.locals;rw [hL];exact Cl _,
   fun y z c e1 e2=>?_,fun y hy=>?_,fun y c z e=>?_,I.ok.hd,I.ok.frames,.inl rfl,fun b hb=>⟨?_,fun y c e z=>?_⟩,I.bs,Da I.ok.bsz I.sz,fun b o e hb=>?_,fun b hb z=>?_,I.stack,I.stkFree⟩
  ·have e1:cenv.cells.lookup y=some c:=e1;have e2:cenv.cells.lookup z=some c:=e2;rw [hcl] at e1 e2;refine je5 (fun p hp=>?_) (fun y z c a b=>I.ok.inj y z c (cm a).1 (cm b).1) (Do e1) (Do e2);rw [Fb];exact J8 (cm (y:=p.1) (c:=p.2) hp).2
  ·show ∃ c,cenv.cells.lookup y=some c;have key:∀ k,cenv.kindOf y=some k→(k=.cell∨k=.free)→∃ c,cenv.cells.lookup y=some c:=fun k hk hk'=>by
    unfold Env.kindOf at hk;rw [hsc] at hk;obtain ⟨k',e,r⟩:=jde hk;have:k'=.cell∨k'=.free:=by
     rcases r with rfl|⟨rfl,_⟩
     ·exact hk'
     ·exact .inr rfl
    rcases this with rfl|rfl
    ·obtain ⟨c,hm⟩:=je4 (n:=(s.heap.push { cls:=.type "dict",data:=.dict #[] }).objs.size) (acc:=vo X.env.cells scope.names []) (Do e);obtain ⟨c',e'⟩:=mem_lookup hm;exact ⟨c',by rw [hcl];exact e'⟩
    ·obtain ⟨c,h1,_⟩:=look e;exact ⟨c,h1⟩
   rcases hy with hy|hy
   ·exact key _ hy (.inl rfl)
   ·exact key _ hy (.inr rfl)
  ·have z:(scope.names.lookup y == some NameKind.cell)=true:=z;have z:scope.names.lookup y=some .cell:=by simpa using z
   have e:cenv.cells.lookup y=some c:=e;rw [hcl] at e;rcases jbx (Do e) with hm|⟨_,h2,_⟩
   ·rcases jbr hm with hm|⟨h1,_⟩
    ·cases hm
    ·have q:=ok.uniq _ h1;rw [z] at q;cases q
   ·rw [Fb] at h2;exact Nat.le_of_succ_le h2
  ·show b≠cenv.locals;rw [hL];exact Di (hfp b hb).2
  ·have e:cenv.cells.lookup y=some c:=e;rcases mem e with ⟨h1,_⟩|⟨h1,_⟩
   ·exact (hfp b hb).1.2.2.2.2.1 y c h1 z
   ·have h2:s.heap.objs.size+1≤b:=by rw [←z];exact h1
    exact absurd (C9 (hfp b hb).2 (Nat.le_of_succ_le h2)) (Gh _)
  ·rcases (hfp b hb).1.2.2.2.1 with z|z
   ·exact I.ok.noex b o e z
   ·exact absurd (C9 (Cu e) (Da I.ok.bsz z)) (Gh _)
  ·rcases Cp.mp (I.stkSub b z) with z|z
   ·exact (hfp b hb).1.2.1 z
   ·exact (hfp b hb).1.2.2.1 z
 refine ⟨okB,rfl,I.bare,Un.kept kp,⟨fun _=>none,?_,fun i y av e1 e2 e3=>?_⟩,fun y c e=>?_,?_,fun y c e=>?_,fun p hp=>?_,I.hok.kept kp,by rw [jdp];exact I.len⟩
 ·show Heap.Ns _ cenv.locals _;rw [hL];exact Heap.Ns.keeps (Heap.Ns.new ..) fun b o e=>pushCells_keeps _ _ _ _ e
 ·obtain ⟨e2,hne⟩:=jfS e2;have hfr:scope.names.lookup y=some .free∧(cenv.kindOf y=some .cell∨cenv.kindOf y=some .free):=by
   have key:∀ k,cenv.scope.names.lookup y=some k→k=.local∨k=.cell∨k=.free→scope.names.lookup y=some .free∧(cenv.kindOf y=some .cell∨cenv.kindOf y=some .free):=fun k hk hk'=>by
    have hk0:=hk;rw [hsc] at hk;obtain ⟨k',e,r⟩:=jde hk;have no:¬(k'=.local∨k'=.cell):=fun hh=>by
     rcases ok.own _ (Do e) hh with e'|e'
     ·obtain ⟨p,hp,hpy⟩:=Dh.mp e';have e3:=ok.ix p hp;have:p.1=y:=hpy;rw [this] at e3;exact hne (Dh.mpr ⟨p,hp,jg7 hN e3 e1⟩)
     ·exact e' (Cw e1)
    rcases r with rfl|⟨rfl,rfl⟩
    ·rcases hk' with rfl|rfl|rfl
     ·exact absurd (.inl rfl) no
     ·exact absurd (.inr rfl) no
     ·exact ⟨e,.inr hk0⟩
    ·exact ⟨e,.inl hk0⟩
   have e3:Vis cenv.scope y:=e3;rcases e3 with e3|e3|e3
   ·exact key _ e3 (.inl rfl)
   ·exact key _ e3 (.inr (.inl rfl))
   ·exact key _ e3 (.inr (.inr rfl))
  obtain ⟨m,hn,hl⟩:=I.loc;have hvis:Vis X.env.scope y:=(ok.free _ (Do hfr.1) rfl).elim (fun k=>.inr (.inl k)) (fun k=>.inr (.inr k));obtain ⟨w,r,q⟩:=hl i y av e1 e2 hvis;refine ⟨w,r,.inr ⟨hfr.2,?_⟩⟩;obtain ⟨c,h1,h2⟩:=look hfr.1;rcases q with ⟨k,_⟩|⟨_,c',e',z⟩
  ·have k:X.env.scope.names.lookup y=some .local:=k;rcases ok.free _ (Do hfr.1) rfl with k'|k'<;>rw [show X.env.scope.names.lookup y=_ from k'] at k<;>cases k
  ·rw [h2] at e';cases e';exact ⟨c,h1,z.keeps kp⟩
 ·have e:cenv.cells.lookup y=some c:=e;rcases mem e with ⟨h1,_⟩|⟨_,z⟩
  ·obtain ⟨w,z⟩:=I.cell y c h1;exact ⟨w,z.keeps kp⟩
  ·exact ⟨_,z⟩
 ·show H cenv.locals=none;rw [hL];exact I.hok.fresh (Cl _)
 ·have e:cenv.cells.lookup y=some c:=e;rcases mem e with ⟨h1,_⟩|⟨h1,_⟩
  ·exact I.freeC y c h1
  ·exact I.hok.fresh (Nat.le_of_succ_le h1)
 ·exact absurd (show p∈([]:List (Addr×Obj))++[] from hp) (by simp)
theorem jsg {v:Value} (I:Inv X pins σ H s) (hD:H D=some (.lst xs)) (hz:xs.length < sizeLine) (r:RelV y v)
  (h:∀ s',Inv X pins σ (upd H D (.lst (xs++[y]))) s'→Q .none s'):wpAny (model X.prog X.w) X.A (call (.builtin "list.append") [.ref D,v]) Q E s:=by
 obtain ⟨hz',its,n,ri,e⟩:=I.hok D _ hD;have hl:=ri.length;refine append_at (hsz:=by rw [Cy];omega) e fun h' sb ho'=>?_;refine h { s with heap:=h' } (I.write (t':=s.toks) (by rw [hD];trivial) (.inl rfl) (fun b u hb q=>(sb.2 b hb).trans q) ⟨_,ho'⟩ ⟨by rw [Ci];exact hz,its++[v],n+1,ri.append (.cons r .nil),?_⟩);rw [ho'];simp
noncomputable def PTs (X:Cx) (ifs:List Expr) (t:TT):Prop :=
 ∀ (pins:List (Addr×Obj)) (s:Shared) (σ:St) (H:Hp) (Q:Bool→Hp→Prop),Inv X pins σ H s→t σ H Q →
  wpAny (model X.prog X.w) X.A (forIn ifs true fun c r=>if r=true then do let ok ←isTrue c X.env (eval c X.env);pure (ForInStep.yield ok) else pure (ForInStep.yield r)) (TP X pins σ Q) X.xe s
noncomputable def jte:TT:=fun _ H Q=>Q true H
theorem jbm:PTs X [] jte:=fun _ _ _ H _ I h=>wpAny_tests_nil ⟨H,I,h⟩
theorem jny {c:Expr} {t:TT} (h:PT X c t):PTs X [c] t:=fun pins s σ H Q I hw=>wpAny_tests_one (h pins s σ H Q I hw)
end
theorem ji9 {α:Type} {t:Sem α} {Q Q':α→Shared→Prop} {M:Model} (h:wpAny M A t Q (fun _ _=>False) s) (hQ:∀ a s,Q a s→Q' a s):wpAny M A t Q' E s:=Fd h hQ fun _ _ z=>False.elim z
theorem jkS {prog:Program} {R:Result→Shared→Prop} {target:Expr} {it acc:Value} (I:Nat→Shared→Prop)
  (turn:∀ n s,I n s→wpAny (model prog w) A (pyNext it) (fun r s₁=>match r with
   | none=>R (.ok .next) s₁
   | some v=>wpAny (model prog w) A (letOwnedTupleGo target it v) (fun _ s₁'=>wpAny (model prog w) A (assign target env v) (fun _ s₂ =>
     wpAny (model prog w) A (forIn ifs true fun c r=>if r=true then do let ok ←isTrue c env (eval c env);pure (ForInStep.yield ok) else pure (ForInStep.yield r)) (fun ok s₃ =>
      if ok=true then wpAny (model prog w) A (eval elt env) (fun x s₄ =>
       wpAny (model prog w) A (call (.builtin "list.append") [acc,x]) (fun _ s₅=>∃ m,m < n∧I m s₅) (notedBy (model prog w) A env fun e s'=>R (.error e) s') s₄) (notedBy (model prog w) A env fun e s'=>R (.error e) s') s₃
      else ∃ m,m < n∧I m s₃) (notedBy (model prog w) A env fun e s'=>R (.error e) s') s₂) (notedBy (model prog w) A env fun e s'=>R (.error e) s') s₁') (notedBy (model prog w) A env fun e s'=>R (.error e) s') s₁) (notedBy (model prog w) A env fun e s'=>R (.error e) s') s)
  (n:Nat) (h:I n s) :
  codeAny (model prog w) A (.compLoop (.ListComp elt [⟨target,iter,ifs,0⟩] scope pos) 0 it acc env) R s:=by
 refine codeAny_loop rfl I (fun n s hI=>?_) n h;show wpAny _ A ((compTurn (.ListComp elt [⟨target,iter,ifs,0⟩] scope pos) 0 it acc env).onRaise (fun x=>do noteFrame x env;theTreesLotGoes x)) _ _ s;refine wpAny_noted ?_;rw [compTurn_list];refine Ca (Ll (Ca (Fd (turn n s hI) (fun r s₁ h₁=>?_) fun _ _ h'=>h')));cases r with
 | none=>exact Ck h₁
 | some v =>
  refine Ca (Fd h₁ (fun _ s₁' h₁'=>?_) fun _ _ h'=>h');refine Ca (Fd h₁' (fun _ s₂ h₂=>Ca (Fd h₂ (fun ok s₃ h₃=>?_) fun _ _ h'=>h')) fun _ _ h'=>h');cases ok with
  | false=>exact Ck ⟨rfl,h₃⟩
  | true =>
   exact Ca (Ca (Fd h₃ (fun x s₄ h₄=>Ca (Fd h₄ (fun _ s₅ h₅=>Ck (Ck ⟨rfl,h₅⟩)) fun _ _ h'=>h')) fun _ _ h'=>h'))
section
variable {X:Cx}
noncomputable def tLc (wi:TI) (g:TG) (tt:TT) (te:TE) (vs:List Nat):TE:=fun σ H Q=>wi σ H fun J H1=>∀ D,H1 D=none→∃ W:Nat→Nat→Hp→Prop,(∃ m,W 0 m (upd H1 D (.lst [])))∧∀ i m H,W i m H →
 (J.stop i H∧Q (.ref D) H)∨(J.go i H∧∃ Nx:Hp→Prop,(∀ H',Nx H'→∃ m',m' < m∧W (i+1) m' H')∧∀ x H',J.yld i H x H'→g x (vq σ vs) H' fun σ2 H2=>vq σ2 vs=vq σ vs∧tt σ2 H2 fun b H3 =>
  if b=true then te σ2 H3 fun y H4=>∃ acc,H4 D=some (.lst acc)∧acc.length < sizeLine∧Nx (upd H4 D (.lst (acc++[y]))) else Nx H3)
theorem jnm {Q:VK} {pos':Pos} {use:Option (Value→Sem Unit)} {Qf:Value→Shared→Prop}
  (hc:X.calm=true) (hN:X.N.Nodup) (I:Inv X pins σ H s) (hi:PI X tg iter wi) (ok:jhH X.N X.env.scope scope own)
  (hg:∀ (s:Shared) (H:Hp) (C:Addr) (cl:List (Str×Addr)) (fp:List Addr),PG (X.blk s H scope (compEnvC scope cl C X.env) fp) tg g) (ht:∀ (s:Shared) (H:Hp) (C:Addr) (cl:List (Str×Addr)) (fp:List Addr),PTs (X.blk s H scope (compEnvC scope cl C X.env) fp) ifs tt)
  (he:∀ (s:Shared) (H:Hp) (C:Addr) (cl:List (Str×Addr)) (fp:List Addr),PE (X.blk s H scope (compEnvC scope cl C X.env) fp) elt te) (hs:∀ x,foldedSetIterable iter X.env x=pure x)
  (h:tLc wi g tt te (own.map (·.2)) σ H Q)
  (hRR:∀ D C s' m H',Inv X pins σ H' s'→Q (.ref D) H'→s'.heap.Ns C m→zN X pins H' C→compPost (model X.prog X.w) X.A X.xe use Qf (.ref D) C (.ok .next) s') :
  wpAny (model X.prog X.w) X.A (comprehension (.ListComp elt [⟨tg,iter,ifs,0⟩] scope pos) scope X.env pos' (newList []) false (eval iter X.env) use) Qf X.xe s:=by
 have hfree:∀ y∈scope.names,y.2=.free→∃ c,X.env.cells.lookup y.1=some c:=fun y hy e=>by
  rcases ok.free y hy e with k|k
  ·exact I.ok.has _ (.inl k)
  ·exact I.ok.has _ (.inr k)
 refine wpAny_comprehension_free (use:=use) rfl hs (jnU hfree) ok.kind (fun y hy e=>by rw [ok.uniq y hy,e])
  (thn (hi pins s σ H _ I h) fun xv s1 hx=>thn hx fun itv s2 h2=>?_)
 obtain ⟨it,fp,tn,J,H2,e,I2,T,st2,f2,q⟩:=h2;subst e;refine F1 (jmD ?_) (by show 0≤sizeLine;decide);generalize hD:s2.heap.objs.size=D;have hDn:H2 D=none:=I2.hok.fresh (Nat.le_of_eq hD);obtain ⟨W,⟨m0,w0⟩,turn⟩:=q D hDn;generalize hs3:({ s2 with heap:=s2.heap.push { cls:=.type "list",data:=.seq ([]:List Value).toArray } }:Shared)=s3;have I3:Inv X pins σ (upd H2 D (.lst [])) s3:=by
  rw [←hs3];refine I2.laid (t':=s2.toks) (fun b o e=>Ch _ e) (Nat.le_of_eq hD) ⟨C4 _,[],0,.nil,?_⟩;rw [←hD];exact Cv _ rfl
 have h3:s3.heap=s2.heap.push { cls:=.type "list",data:=.seq ([]:List Value).toArray }:=by rw [←hs3]
 have sz:∀ b∈fp,b < s2.heap.objs.size:=fun b hb=>by
  obtain ⟨o,e,_⟩:=T.obj _ _ st2 b hb;exact Cu e
 have f3:∀ b∈fp,zN X pins (upd H2 D (.lst [])) b∧b < s3.heap.objs.size:=fun b hb=>by
  have hlt:=sz b hb;refine ⟨⟨?_,(f2 b hb).2⟩,by rw [h3,Fb];exact J8 hlt⟩;rw [ji (by rw [←hD];exact Di hlt)];exact (f2 b hb).1
 have st3:tn 0 s3.heap:=T.keep _ _ _ st2 fun b _ o e=>by rw [h3];exact Ch _ e
 have I4:=jmq I3 ok hN f3;have pg:=hg s3 (upd H2 D (.lst [])) s3.heap.objs.size (cellsFrom (s3.heap.objs.size+1) scope.names (vo X.env.cells scope.names [])) fp;have pt:=ht s3 (upd H2 D (.lst [])) s3.heap.objs.size (cellsFrom (s3.heap.objs.size+1) scope.names (vo X.env.cells scope.names [])) fp;have pe:=he s3 (upd H2 D (.lst [])) s3.heap.objs.size (cellsFrom (s3.heap.objs.size+1) scope.names (vo X.env.cells scope.names [])) fp
 show codeAny _ _ (.compStart (.ListComp elt [⟨tg,iter,ifs,0⟩] scope pos) 0 (.ref it) (.ref D) (compEnvC scope (cellsFrom (s3.heap.objs.size+1) scope.names (vo X.env.cells scope.names [])) s3.heap.objs.size X.env)) (compPost (model X.prog X.w) X.A X.xe use Qf (.ref D) s3.heap.objs.size) { s3 with heap:=pushCells (s3.heap.push { cls:=.type "dict",data:=.dict #[] }) scope.names };have nfp:∀ b∈fp,(upd H2 D (.lst [])) b=none:=fun b hb=>(f3 b hb).1.1
 generalize hce:compEnvC scope (cellsFrom (s3.heap.objs.size+1) scope.names (vo X.env.cells scope.names [])) s3.heap.objs.size X.env=ce at I4 pg pt pe ⊢;have cL:ce.locals=s3.heap.objs.size:=by subst hce;rfl
 generalize hH3:upd H2 D (.lst [])=H3 at I3 I4 pg pt pe w0 nfp f3;generalize hs4:({ s3 with heap:=pushCells (s3.heap.push { cls:=.type "dict",data:=.dict #[] }) scope.names }:Shared)=s4 at I4 ⊢;have st4:tn 0 s4.heap:=T.keep _ _ _ st3 fun b _ o e=>by rw [←hs4];exact pushCells_keeps _ _ _ _ (Ch _ e)
 have stat:∀ {σ':St} {H':Hp} {s':Shared},Inv (X.blk s3 H3 scope ce fp) [] σ' H' s'→(∀ b∈fp,H' b=none)→∀ b∈fp,zN (X.blk s3 H3 scope ce fp) [] H' b:=fun {σ' H' s'} I' hn b hb =>
  ⟨hn b hb,(I'.ok.exf b hb).1,I'.ok.exfs b hb,.inl hb,fun x c e=>(I'.ok.exf b hb).2 x c e,fun p hp=>absurd (show p∈([]:List (Addr×Obj))++[] from hp) (by simp)⟩
 have loop:codeAny (model X.prog X.w) X.A (.compLoop (.ListComp elt [⟨tg,iter,ifs,0⟩] scope pos) 0 (.ref it) (.ref D) ce) (compPost (model X.prog X.w) X.A X.xe use Qf (.ref D) s3.heap.objs.size) s4:=by
  refine jkS (fun n s'=>∃ i H',Inv (X.blk s3 H3 scope ce fp) [] (vq σ (own.map (·.2))) H' s'∧tn i s'.heap∧(∀ b∈fp,H' b=none)∧W i n H') ?_ m0 ⟨0,H3,I4,st4,nfp,w0⟩;rintro n s5 ⟨i,H5,I5,st5,n5,w5⟩;rcases turn i n H5 w5 with ⟨stop,qq⟩|⟨go,Nx,hNx,step⟩
  ·have td:=T.done (X.blk s3 H3 scope ce fp) rfl rfl rfl hc i [] s5 _ H5 (fun _ _=>False) I5 (stat I5 n5) st5 stop;refine ji9 td fun r s6 ⟨hr,I6⟩=>?_;subst hr;have I7:Inv X pins σ H5 s6:=I3.call' (ch:=fp) I6.os I6.base I6.hok I6.bare fun b hb=>⟨(f3 b hb).1.2.2.2.1,(f3 b hb).1.2.1,(f3 b hb).1.2.2.2.2.1,(f3 b hb).1.2.2.2.2.2⟩;have nC:H5 s3.heap.objs.size=none:=by
    have z:H5 ce.locals=none:=I6.free;rw [cL] at z;exact z
   obtain ⟨m,hn,_⟩:=I6.loc;have hn:s6.heap.Ns ce.locals m:=hn;rw [cL] at hn;exact hRR D s3.heap.objs.size s6 m H5 I7 qq hn (I3.fpOk (Cl _) nC)
  ·have ti:=T.item (X.blk s3 H3 scope ce fp) rfl rfl rfl hc i [] s5 _ H5 (fun _ _=>False) I5 (stat I5 n5) st5 go;refine ji9 ti fun r s6 ⟨u,hr,h6⟩=>?_;subst hr;refine ji9 h6 fun _ s7 ⟨x,H7,I7,r7,y7,st7,n7⟩=>?_;have I7':=I7.pinned (stat I7 n7) (T.obj _ _ st7);refine ji9 (pg _ s7 _ H7 x u _ I7' r7 (step x H7 y7)) fun _ s8 ⟨σ8,H8,I8,hw8,q8⟩=>?_;refine ji9 (pt _ s8 σ8 H8 _ I8 q8) fun b s9 ⟨H9,I9,q9⟩=>?_
   have fin:∀ {s':Shared} {H':Hp},Inv (X.blk s3 H3 scope ce fp) ([]++jfq fp s7.heap) σ8 H' s'→Nx H'→∃ m,m < n∧∃ i H',Inv (X.blk s3 H3 scope ce fp) [] (vq σ (own.map (·.2))) H' s'∧tn i s'.heap∧(∀ b∈fp,H' b=none)∧W i m H':=fun {s' H'} I' nx=>by
    obtain ⟨m',hm,w'⟩:=hNx H' nx;have pin':∀ b∈fp,∀ o,s7.heap.get? b=some o→s'.heap.get? b=some o∧H' b=none:=fun b hb o e =>
     let z:=I'.pin (b,o) (D1 _ (D1 _ (jel hb e)))
     ⟨z.1,z.2.1⟩
    have hl:(vq σ (own.map (·.2))).length=σ8.length:=by rw [←hw8,jdp]
    refine ⟨m',hm,i+1,H',(I'.unpinned (pins:=[])).weak hl (fun j v e=>?_),T.keep _ _ _ st7 fun b hb o e=>(pin' b hb o e).1,fun b hb=>?_,w'⟩
    ·rw [←hw8] at e;exact (jfS e).1
    ·obtain ⟨o,e,_⟩:=T.obj _ _ st7 b hb;exact (pin' b hb o e).2
   cases b with
   | false =>
    simp only [Fu,Gs] at q9 ⊢;exact fin I9 q9
   | true =>
    simp only [Lf] at q9 ⊢;refine ji9 (pe _ s9 σ8 H9 _ I9 q9) fun z s10 ⟨yv,H10,I10,r10,acc,hD10,hz10,nx⟩=>?_;exact jsg (X:=X.blk s3 H3 scope ce fp) I10 hD10 hz10 r10 fun s11 I11=>fin I11 nx
 exact codeAny_compStart_list loop (T.self X.A 0 _ _ _ st4 loop)
theorem jcO (hc:X.calm=true) (hN:X.N.Nodup) (hi:PI X tg iter wi) (ok:jhH X.N X.env.scope scope own)
  (hg:∀ (s:Shared) (H:Hp) (C:Addr) (cl:List (Str×Addr)) (fp:List Addr),PG (X.blk s H scope (compEnvC scope cl C X.env) fp) tg g) (ht:∀ (s:Shared) (H:Hp) (C:Addr) (cl:List (Str×Addr)) (fp:List Addr),PTs (X.blk s H scope (compEnvC scope cl C X.env) fp) ifs tt)
  (he:∀ (s:Shared) (H:Hp) (C:Addr) (cl:List (Str×Addr)) (fp:List Addr),PE (X.blk s H scope (compEnvC scope cl C X.env) fp) elt te) (hs:∀ x,foldedSetIterable iter X.env x=pure x:=by intro _;rfl) :
  PE X (.ListComp elt [⟨tg,iter,ifs,0⟩] scope pos) (tLc wi g tt te (own.map (·.2))):=by
 intro pins s σ H Q I h;rw [eval_ListComp];refine jnm hc hN I hi ok hg ht he hs h fun D C s' m H' I' q hn f=>⟨m,hn,fun h'' sb=>?_⟩;obtain ⟨f0,f1,f2,f3,f4,f5⟩:=f;exact ⟨.ref D,H',I'.turned (t':=s'.toks) (fun b o hb e=>(sb.2 b hb).trans e) f0 f1 f3 f4 f5,rfl,q⟩
theorem jqX {y:Str} {py:Pos} {spos:Pos} (hc:X.calm=true) (hN:X.N.Nodup) (hy:X.N[i]?=some y) (hyl:X.env.scope.names.lookup y=some .local)
  (hsw:swapsWith (.ListComp elt [⟨tg,iter,ifs,0⟩] scope pos) (some (.Name y py)) spos.line X.env=pure true) (hi:PI X tg iter wi) (ok:jhH X.N X.env.scope scope own)
  (hg:∀ (s:Shared) (H:Hp) (C:Addr) (cl:List (Str×Addr)) (fp:List Addr),PG (X.blk s H scope (compEnvC scope cl C X.env) fp) tg g) (ht:∀ (s:Shared) (H:Hp) (C:Addr) (cl:List (Str×Addr)) (fp:List Addr),PTs (X.blk s H scope (compEnvC scope cl C X.env) fp) ifs tt)
  (he:∀ (s:Shared) (H:Hp) (C:Addr) (cl:List (Str×Addr)) (fp:List Addr),PE (X.blk s H scope (compEnvC scope cl C X.env) fp) elt te) (hs:∀ x,foldedSetIterable iter X.env x=pure x:=by intro _;rfl) :
  PS X (.Assign [.Name y py] (.ListComp elt [⟨tg,iter,ifs,0⟩] scope pos) spos) (joB (tLc wi g tt te (own.map (·.2))) (jhM i)):=by
 intro pins s σ H D I h;rw [exec_Assign_Name_used _ _ _ _ hsw];refine Ca (Ll (Ca ?_));show wpAny _ X.A (do let _ ←comprehension (.ListComp elt [⟨tg,iter,ifs,0⟩] scope pos) scope X.env (firstIterPos [⟨tg,iter,ifs,0⟩] pos) (newList []) false (eval iter X.env) (some (assign (.Name y py) X.env))) _ _ s;have h:tLc wi g tt te (own.map (·.2)) σ H (fun x H1=>jhM i x σ H1 D.nx):=h;refine Ca (thn (jnm (Qf:=fun _ s'=>SP X pins D .next s') hc hN I hi ok hg ht he hs h fun L C s' m H' I' q hn f=>?_) fun _ s' hq=>Ck (Ck hq))
 show wpAny _ _ (assign (.Name y py) X.env (.ref L)) _ _ _;refine wpAny_assign_Name (jjT (v:=V.ref L) I' hN hy (.inl hyl) rfl (fun s2 I2 zqq=>?_) (.inr hyl));obtain ⟨a,sb,ha⟩:=zqq;obtain ⟨f0,f1,f2,f3,f4,f5⟩:=f;have haC:C≠a:=by
  rcases ha with z|z
  ·rw [z];exact f1
  ·exact fun e=>f4 y a z e.symm
 refine ⟨m,hn.sameBut sb haC,fun h3 sb3=>?_⟩;exact ⟨_,H',I2.turned (t':=s2.toks) (fun b o hb e=>(sb3.2 b hb).trans e) f0 f1 f3 f4 f5,q⟩
theorem jr5 {gs:List Comprehension} {py:Pos} {y:Str} {l:Nat} (hk:env.scope.kind=.function) (hy:env.scope.names.lookup y=some .local) (hl:(py.line == pos.line)=true)
  (ha:(scope.names.any fun (n,k)=>n == y && (k == .local || k == .cell))=false):swapsWith (.ListComp elt gs scope pos) (some (.Name y py)) l env=pure true:=by
 have ky:env.kindOf y=some .local:=hy;have hb:env.blockKind=.function:=by unfold Env.blockKind;rw [hk];rfl
 unfold swapsWith;simp only [hb,ky,ha,Expr.pos,hl]
 rfl
end
theorem jqB {lo:Int} {vs:List Nat} {H1:Hp} {Qd:Hp→Prop} (Pv:Nat→Hp→Prop) (h0:Pv 0 (upd H1 D (.lst [])))
  (hs:∀ i H,i < n→Pv i H→g (.int (lo+i)) (vq σ vs) H fun σ2 H2=>vq σ2 vs=vq σ vs∧tt σ2 H2 fun b H3 =>
   if b=true then te σ2 H3 fun y H4=>∃ acc,H4 D=some (.lst acc)∧acc.length < sizeLine∧Pv (i+1) (upd H4 D (.lst (acc++[y]))) else Pv (i+1) H3) (hd:∀ H,Pv n H→Qd H) :
  ∃ W:Nat→Nat→Hp→Prop,(∃ m,W 0 m (upd H1 D (.lst [])))∧∀ i m H,W i m H →
   ((Itr lo n).stop i H∧Qd H)∨((Itr lo n).go i H∧∃ Nx:Hp→Prop,(∀ H',Nx H'→∃ m',m' < m∧W (i+1) m' H')∧∀ x H',(Itr lo n).yld i H x H'→g x (vq σ vs) H' fun σ2 H2=>vq σ2 vs=vq σ vs∧tt σ2 H2 fun b H3 =>
    if b=true then te σ2 H3 fun y H4=>∃ acc,H4 D=some (.lst acc)∧acc.length < sizeLine∧Nx (upd H4 D (.lst (acc++[y]))) else Nx H3):=by
 refine ⟨fun i m H=>m=n - i∧i≤n∧Pv i H,⟨n,by simp,C4 _,h0⟩,?_⟩;rintro i m H ⟨rfl,hi,p⟩;by_cases hlt:i < n
 ·refine .inr ⟨hlt,Pv (i+1),fun H' p'=>⟨n - (i+1),by omega,rfl,hlt,p'⟩,fun x H' y=>?_⟩;obtain ⟨e,y⟩:=y;subst e y;exact hs i _ hlt p
 ·have e:i=n:=by omega
  subst e;exact .inl ⟨Cl _,hd H p⟩
theorem jdB {vs:List Nat} {H1:Hp} {Qd:Hp→Prop} (Pv:Nat→Hp→Prop) (h0:Pv 0 (upd H1 D (.lst []))) (hl:∀ i H,i≤xs.length→Pv i H→SqL K H a xs)
  (hs:∀ i x H,xs[i]?=some x→Pv i H→g x (vq σ vs) H fun σ2 H2=>vq σ2 vs=vq σ vs∧tt σ2 H2 fun b H3 =>
   if b=true then te σ2 H3 fun y H4=>∃ acc,H4 D=some (.lst acc)∧acc.length < sizeLine∧Pv (i+1) (upd H4 D (.lst (acc++[y]))) else Pv (i+1) H3) (hd:∀ H,Pv xs.length H→Qd H) :
  ∃ W:Nat→Nat→Hp→Prop,(∃ m,W 0 m (upd H1 D (.lst [])))∧∀ i m H,W i m H →
   ((Itl K a).stop i H∧Qd H)∨((Itl K a).go i H∧∃ Nx:Hp→Prop,(∀ H',Nx H'→∃ m',m' < m∧W (i+1) m' H')∧∀ x H',(Itl K a).yld i H x H'→g x (vq σ vs) H' fun σ2 H2=>vq σ2 vs=vq σ vs∧tt σ2 H2 fun b H3 =>
    if b=true then te σ2 H3 fun y H4=>∃ acc,H4 D=some (.lst acc)∧acc.length < sizeLine∧Nx (upd H4 D (.lst (acc++[y]))) else Nx H3):=by
 refine ⟨fun i m H=>m=xs.length - i∧i≤xs.length∧Pv i H,⟨xs.length,by simp,C4 _,h0⟩,?_⟩;rintro i m H ⟨rfl,hi,p⟩;have q:=hl i H hi p;by_cases hlt:i < xs.length
 ·refine .inr ⟨⟨xs,xs[i],q,by simp [hlt]⟩,Pv (i+1),fun H' p'=>⟨xs.length - (i+1),by omega,rfl,hlt,p'⟩,fun x H' y=>?_⟩;obtain ⟨e,y⟩:=y;subst e;exact hs i x _ (y xs q) p
 ·have e:i=xs.length:=by omega
  subst e;exact .inl ⟨⟨xs,q,Cl _⟩,hd H p⟩
noncomputable def jsi (N:List Str) (sc scope:Scope) (own:List (Str×Nat)):Bool :=
 (match scope.kind with|.function=>true|_=>false) && (scope.names.all fun y=>decide (scope.names.lookup y.1=some y.2)) && (own.all fun p=>decide (N[p.2]?=some p.1)) &&
  (scope.names.all fun y=>match y.2 with
   | .free=>(match sc.names.lookup y.1 with|some .cell=>true|some .free=>true|_=>false)
   | .local=>decide (y.1∈own.map (·.1)) || decide (y.1∉N)
   | .cell=>decide (y.1∈own.map (·.1)) || decide (y.1∉N)
   | _=>true)
theorem zQ {N:List Str} {sc:Scope} (h:jsi N sc scope own=true):jhH N sc scope own:=by
 unfold jsi at h;simp only [Cn,Dk,Dd] at h;obtain ⟨⟨⟨h1,h2⟩,h3⟩,h4⟩:=h;refine ⟨?_,h2,h3,fun y hy e=>?_,fun y hy e=>?_⟩
 ·split at h1
  ·assumption
  ·cases h1
 ·have q:=h4 y hy;simp only [e] at q;split at q<;>first|exact .inl (by assumption)|exact .inr (by assumption)|cases q
 ·have q:=h4 y hy;rcases e with e|e<;>(simp only [e,Gp,Dd] at q;exact q)
section
variable {κ:Type} [DecidableEq κ]
noncomputable def v8 (kvs:List (κ×V)) (k:κ):Option V:=(kvs.find? fun kv=>decide (kv.1=k)).map (·.2)
noncomputable def jah (kvs:List (κ×V)) (k:κ) (v:V):List (κ×V) :=
 if (kvs.any fun kv=>decide (kv.1=k))=true then kvs.map (fun kv=>if kv.1=k then (kv.1,v) else kv) else kvs++[(k,v)]
theorem za {p:κ×V} {r:List (κ×V)} {k:κ} (e:p.1=k):v8 (p :: r) k=some p.2:=by simp [v8,Gq,e]
theorem v9 {p:κ×V} {r:List (κ×V)} {k:κ} (e:¬p.1=k):v8 (p :: r) k=v8 r k:=by simp [v8,Gq,e]
theorem jcz (k:κ):∀ kvs:List (κ×V),(kvs.any fun kv=>decide (kv.1=k))=(v8 kvs k).isSome
 | []=>rfl
 | p :: r=>by
  rw [List.any_cons];by_cases e:p.1=k
  ·simp only [za e,C3 e,Bool.true_or,Option.isSome_some]
  ·rw [v9 e,Fv e,Bool.false_or];exact jcz k r
theorem jmi (k j:κ) (y:V):∀ kvs:List (κ×V),v8 (kvs.map fun kv=>if kv.1=k then (kv.1,y) else kv) j=(v8 kvs j).map fun x=>if j=k then y else x
 | []=>rfl
 | p :: r=>by
  have ih:=jmi k j y r;rw [C6];by_cases h:p.1=k
  ·rw [Ce h];by_cases e:p.1=j
   ·rw [za (p:=(p.1,y)) e,za e,Dy,Ce (e.symm.trans h)]
   ·rw [v9 (p:=(p.1,y)) e,v9 e,ih]
  ·rw [Cc h];by_cases e:p.1=j
   ·rw [za (p:=p) e,za e,Dy,Cc (fun z=>h (e.trans z))]
   ·rw [v9 (p:=p) e,v9 e,ih]
theorem jjY (k j:κ) (y:V):∀ kvs:List (κ×V),v8 kvs k=none→v8 (kvs++[(k,y)]) j=if j=k then some y else v8 kvs j
 | [],_=>by
  by_cases e:k=j
  ·rw [Ce e.symm];exact za (p:=(k,y)) e
  ·rw [Cc (fun z=>e z.symm)];exact v9 (p:=(k,y)) e
 | p :: r,hn=>by
  rw [List.cons_append];have hk:¬p.1=k:=fun z=>by rw [za z] at hn;cases hn
  rw [v9 hk] at hn;have ih:=jjY k j y r hn;by_cases e:p.1=j
  ·rw [za e,za e,Cc (fun z=>hk (e.trans z))]
  ·rw [v9 e,v9 e,ih]
theorem jq8 (kvs:List (κ×V)) (k j:κ) (y:V):v8 (jah kvs k y) j=if j=k then some y else v8 kvs j:=by
 unfold jah;by_cases a:(kvs.any fun kv=>decide (kv.1=k))=true
 ·rw [Ce a,jmi];rw [jcz] at a;by_cases e:j=k
  ·obtain ⟨x,hx⟩:=Option.isSome_iff_exists.mp a;rw [Ce e,e,hx,Dy,Ce rfl]
  ·rw [Cc e];cases v8 kvs j with
   | none=>rfl
   | some x=>rw [Dy,Cc e]
 ·rw [Cc a];refine jjY k j y kvs ?_;rw [jcz] at a;cases q:v8 kvs k with
  | none=>rfl
  | some x=>rw [q] at a;exact (a rfl).elim
theorem jgv (kvs:List (κ×V)) (k:κ) (v:V):(jah kvs k v).length≤kvs.length+1:=by
 unfold jah;split
 ·rw [Cb];omega
 ·rw [Ci,Cd,Ct];omega
theorem zr.isSome_eq {u:Option Value} (r:zr o u):o.isSome=u.isSome:=by
 cases o with
 | none=>cases u with
  | none=>rfl
  | some _=>exact (show False from r).elim
 | some _=>cases u with
  | none=>exact (show False from r).elim
  | some _=>rfl
theorem zr.getD {u:Option Value} {d:V} {d':Value} (r:zr o u) (rd:RelV d d'):RelV (o.getD d) (u.getD d'):=by
 cases o with
 | none=>cases u with
  | none=>exact rd
  | some _=>exact (show False from r).elim
 | some _=>cases u with
  | none=>exact (show False from r).elim
  | some _=>exact r
theorem KV.val {kvs:List (κ×V)} {vs:List (κ×Value)} (r:KV kvs vs) (k:κ):zr (v8 kvs k) (valueAt vs k):=by
 unfold KV at r
 induction r with
 | nil=>exact True.intro
 | @cons p q ps qs h t ih =>
  obtain ⟨h1,h2⟩:=h;by_cases e:p.1=k
  ·have e':q.1=k:=h1.symm.trans e;have b:valueAt (q :: qs) k=some q.2:=by simp [valueAt,Gq,e']
   rw [za e,b];exact h2
  ·have e':¬q.1=k:=fun z=>e (h1.trans z);have b:valueAt (q :: qs) k=valueAt qs k:=by simp [valueAt,Gq,e']
   rw [v9 e,b];exact ih
theorem KV.any {kvs:List (κ×V)} {vs:List (κ×Value)} (r:KV kvs vs) (k:κ):(kvs.any fun kv=>decide (kv.1=k))=vs.any fun kv=>decide (kv.1=k):=by
 unfold KV at r
 induction r with
 | nil=>rfl
 | cons h t ih=>rw [List.any_cons,List.any_cons,ih,h.1]
theorem KV.repl {kvs:List (κ×V)} {vs:List (κ×Value)} (r:KV kvs vs) (k:κ) (ry:RelV y u) :
  KV (kvs.map fun kv=>if kv.1=k then (kv.1,y) else kv) (vs.map fun kv=>if kv.1=k then (kv.1,u) else kv):=by
 unfold KV at r ⊢
 induction r with
 | nil=>exact .nil
 | @cons p q ps qs h t ih =>
  rw [C6,C6];refine .cons ?_ ih;obtain ⟨h1,h2⟩:=h;by_cases e:p.1=k
  ·rw [Ce e,Ce (h1.symm.trans e)];exact ⟨h1,ry⟩
  ·rw [Cc e,Cc (fun z=>e (h1.trans z))];exact ⟨h1,h2⟩
theorem KV.put {kvs:List (κ×V)} {vs:List (κ×Value)} (r:KV kvs vs) (k:κ) (ry:RelV y u):KV (jah kvs k y) (stored vs k u):=by
 unfold jah stored;rw [r.any k];by_cases e:(vs.any fun kv=>decide (kv.1=k))=true
 ·rw [Ce e,Ce e];exact r.repl k ry
 ·rw [Cc e,Cc e];exact Paired.snoc r ⟨rfl,ry⟩
theorem KV.length {kvs:List (κ×V)} {vs:List (κ×Value)} (r:KV kvs vs):kvs.length=vs.length:=Cr r
end
theorem jhR {k:Key} (r:RelV (kV k) u):(vO P w).is k u=true:=by
 cases k with
 | inl i=>obtain ⟨t,e⟩:=(show ∃ t,u=Value.int i t from r);subst e;exact jmB P w i t
 | inr x=>obtain ⟨t,e⟩:=(show ∃ t,u=Value.str x t from r);subst e;exact jmC P w x t
theorem jjz:∀ {ks:List Key} {us:List Value},jx (ks.map kV) us→ItemsAre (vO P w) ks us
 | [],_,r=>by rw [List.map_nil] at r;cases r;exact .nil
 | k :: ks,_,r=>by
  rw [C6] at r;cases r with
  | cons h t=>exact .cons (jhR h) (jjz t)
noncomputable abbrev KT (H:Hp):List (List Key×V)→List (List Key×Addr×Value)→Prop:=Paired fun p q=>p.1=q.1∧H q.2.1=some (.tup (p.1.map kV))∧RelV p.2 q.2.2
theorem KT.val {xs:List (List Key×Addr×Value)} (r:KT H kvs xs) (k:List Key):zr (v8 kvs k) ((atKey xs k).map (·.2)):=by
 induction r with
 | nil=>exact True.intro
 | @cons p q ps qs h t ih =>
  obtain ⟨h1,_,h2⟩:=h;by_cases e:p.1=k
  ·have e':q.1=k:=h1.symm.trans e;have b:atKey (q :: qs) k=some q.2:=by simp [atKey,Gq,e']
   rw [za e,b];exact h2
  ·have e':¬q.1=k:=fun z=>e (h1.trans z);have b:atKey (q :: qs) k=atKey qs k:=by simp [atKey,Gq,e']
   rw [v9 e,b];exact ih
theorem KT.repl {xs:List (List Key×Addr×Value)} (r:KT H kvs xs) (k:List Key) (ry:RelV y u) :
  KT H (kvs.map fun kv=>if kv.1=k then (kv.1,y) else kv) (xs.map (putAt k u)):=by
 induction r with
 | nil=>exact .nil
 | @cons p q ps qs h t ih =>
  rw [C6,C6];refine .cons ?_ ih;obtain ⟨h1,h2,h3⟩:=h;unfold putAt;by_cases e:p.1=k
  ·rw [Ce e,Ce (h1.symm.trans e)];exact ⟨h1,h2,ry⟩
  ·rw [Cc e,Cc (fun z=>e (h1.trans z))];exact ⟨h1,h2,h3⟩
theorem KT.put {xs:List (List Key×Addr×Value)} (r:KT H kvs xs) (k:List Key) (hb:H b=some (.tup (k.map kV))) (ry:RelV y u) :
  KT H (jah kvs k y) (storedH xs k b u):=by
 have e:(kvs.any fun kv=>decide (kv.1=k))=(atKey xs k).isSome:=by
  rw [jcz,(r.val k).isSome_eq,Option.isSome_map]
 unfold jah storedH;rw [e];by_cases q:(atKey xs k).isSome=true
 ·rw [Ce q,Ce q];exact r.repl k ry
 ·rw [Cc q,Cc q];exact Paired.snoc r ⟨rfl,hb,ry⟩
theorem KT.keeps {xs:List (List Key×Addr×Value)} (r:KT H kvs xs) (ht:∀ b ys,H b=some (.tup ys)→H' b=some (.tup ys)):KT H' kvs xs :=
 Paired.mapP r fun _ _ z=>⟨z.1,ht _ _ z.2.1,z.2.2⟩
section
variable {P:Program} {w:World} {H:Hp} {h:Heap} {a:Addr}
theorem jrj {u:HO} (ok:HOk P w H h) (e:Rd H a u):vb P w H h a u:=e.ok ok
theorem jfY {kvs:List (Key×V)} (ok:HOk P w H h) (e:Rd H a (.dK kvs)):kvs.length≤sizeLine∧(a == sysModules)=false∧∃ vs,KV kvs vs∧h.DictOf (vO P w) a vs :=
 show vb P w H h a (.dK kvs) from jrj ok e
theorem jtq {kvs:List (Key×V)} (ok:HOk P w H h) (e:H a=some (.dK kvs)):kvs.length≤sizeLine∧(a == sysModules)=false∧∃ vs,KV kvs vs∧h.DictOf (vO P w) a vs:=jfY ok (.inl e)
theorem jfb {ks:List Key} (ok:HOk P w H h) (e:H a=some (.tup (ks.map kV))):(tupleKind (vO P w)).is h ks a:=by
 obtain ⟨_,its,r,o,h1,h2,n,h3⟩:=(show vb P w H h a (.tup (ks.map kV)) from ok a _ e);exact ⟨o,its.toArray,n,h1,h2,h3,by simpa using jjz r⟩
theorem jfZ (ok:HOk P w H h) (e:Rd H a (.dT kvs)):kvs.length≤sizeLine∧(a == sysModules)=false ∧
  ∃ xs,KT H kvs xs∧h.DictOfH (tupleKind (vO P w)) a xs:=by
 obtain ⟨z,y,xs,r,o,es,ep,h1,h2,h3,h4,h5⟩:=(show vb P w H h a (.dT kvs) from jrj ok e);refine ⟨z,y,xs,r,o,es,ep,h1,h2,h3,h4,fun x hx=>?_,h5⟩;have all:∀ {l:List (List Key×V)} {m:List (List Key×Addr×Value)},KT H l m→∀ x∈m,(tupleKind (vO P w)).is h x.1 x.2.1:=by
  intro l m q
  induction q with
  | nil=>intro x hx;exact nomatch hx
  | @cons p q ps qs hq t ih =>
   intro x hx;rcases Cp.mp hx with e|hx
   ·subst e;exact jfb ok (by rw [←hq.1];exact hq.2.1)
   ·exact ih x hx
 exact all r x hx
theorem jtr (ok:HOk P w H h) (e:H a=some (.dT kvs)):kvs.length≤sizeLine∧(a == sysModules)=false ∧
  ∃ xs,KT H kvs xs∧h.DictOfH (tupleKind (vO P w)) a xs:=jfZ ok (.inl e)
end
noncomputable def jam (H:Hp) (a:Addr) (y:V) (r:Option V):Prop :=
 (∃ kvs k,Rd H a (.dK kvs)∧y=kV k∧r=v8 kvs k)∨∃ kvs k b,Rd H a (.dT kvs)∧y=.ref b∧H b=some (.tup (k.map kV))∧r=v8 kvs k
noncomputable def jd6 (H:Hp) (a:Addr) (y v:V) (H':Hp):Prop :=
 (∃ kvs k,H a=some (.dK kvs)∧y=kV k∧kvs.length < sizeLine∧H'=upd H a (.dK (jah kvs k v))) ∨
 ∃ kvs k b,H a=some (.dT kvs)∧y=.ref b∧H b=some (.tup (k.map kV))∧kvs.length < sizeLine∧H'=upd H a (.dT (jah kvs k v))
theorem jam.k {kvs:List (Key×V)} {k:Key} (e:H a=some (.dK kvs)):jam H a (kV k) (v8 kvs k):=.inl ⟨kvs,k,.inl e,rfl,rfl⟩
theorem jam.t {k:List Key} (e:H a=some (.dT kvs)) (eb:H b=some (.tup (k.map kV))):jam H a (.ref b) (v8 kvs k):=.inr ⟨kvs,k,b,.inl e,rfl,eb,rfl⟩
theorem jd6.k {kvs:List (Key×V)} {k:Key} {v:V} (e:H a=some (.dK kvs)) (hl:kvs.length < sizeLine):jd6 H a (kV k) v (upd H a (.dK (jah kvs k v))):=.inl ⟨kvs,k,e,rfl,hl,rfl⟩
theorem jd6.t {k:List Key} {v:V} (e:H a=some (.dT kvs)) (eb:H b=some (.tup (k.map kV))) (hl:kvs.length < sizeLine) :
  jd6 H a (.ref b) v (upd H a (.dT (jah kvs k v))):=.inr ⟨kvs,k,b,e,rfl,eb,hl,rfl⟩
section
variable {X:Cx} {pins:List (Addr×Obj)} {σ:St} {H:Hp} {s:Shared} {a:Addr} {y v:V} {u r:Value} {o:Option V} {A:Around} {E:Value→Shared→Prop}
theorem Inv.big (I:Inv X pins σ H s):sysModules < s.heap.objs.size:=by
 have h:mainGlobals < s.heap.objs.size:=(I.mod.glob.keeps I.bk).lt;exact Nat.lt_trans (by decide) h
theorem jo0 (hu:A.units+1 < cLine) (I:Inv X pins σ H s) (g:jam H a y (some v)) (ry:RelV y u) (h:∀ w' s',Inv X pins σ H s'→RelV v w'→Q w' s') :
  wpAny (model X.prog X.w) A (getItem (.ref a) u) Q E s:=by
 rcases g with ⟨kvs,k,e,ey,l⟩|⟨kvs,k,b,e,ey,eb,l⟩
 ·subst ey;obtain ⟨z,hd,vs,rel,dd⟩:=jfY I.hok e;obtain ⟨w',hw,rw'⟩:=zr.some_of (v:=v) (o:=valueAt vs k) (by rw [l];exact rel.val k);exact wpAny_getItem_of (jhR ry) dd.mapOf hw (h w' _ (I.tok _) rw')
 ·subst ey;cases (show u=Value.ref b from ry);obtain ⟨z,hd,xs,rel,dd⟩:=jfZ I.hok e;obtain ⟨w',hw,rw'⟩:=zr.some_of (v:=v) (o:=(atKey xs k).map (·.2)) (by rw [l];exact rel.val k);obtain ⟨p,hp,hp2⟩:=Jl.mp hw;refine wpAny_getItem_heap (tupleKind_room_in1 hu) (jfb I.hok eb) dd hp ?_;rw [hp2];exact h w' _ (I.tok _) rw'
theorem jtY (hu:A.units+1 < cLine) (I:Inv X pins σ H s) (g:jam H a y o) (ry:RelV y u) (h:∀ s',Inv X pins σ H s'→Q (.bool o.isSome) s') :
  wpAny (model X.prog X.w) A (compareOp .In u (.ref a)) Q E s:=by
 rcases g with ⟨kvs,k,e,ey,l⟩|⟨kvs,k,b,e,ey,eb,l⟩
 ·subst ey;obtain ⟨z,hd,vs,rel,dd⟩:=jfY I.hok e;refine wpAny_in_of (jhR ry) hd dd.mapOf ?_;rw [←(rel.val k).isSome_eq,←l];exact h _ (I.tok _)
 ·subst ey;cases (show u=Value.ref b from ry);obtain ⟨z,hd,xs,rel,dd⟩:=jfZ I.hok e;refine wpAny_in_heap (tupleKind_room_in1 hu) (jfb I.hok eb) hd dd ?_;have q:=(rel.val k).isSome_eq;rw [Option.isSome_map] at q;rw [←q,←l];exact h _ (I.tok _)
theorem jm0 {h':Heap} {ob:HO} (I:Inv X pins σ H s) (mu:Mut (H a)) (hs:Heap.SameBut a s.heap h') (he:∃ q,h'.get? a=some q) (new:vb X.prog X.w (upd H a ob) h' a ob) :
  Inv X pins σ (upd H a ob) { s with heap:=h',toks:=t' } :=
 I.write (x:=a) (e:=a) mu (.inl rfl) (fun b q hb z=>(hs.2 b hb).trans z) he new
theorem jsr {h':Heap} {kvs:List (Key×V)} {vs:List (Key×Value)} (z:kvs.length≤sizeLine) (hd:(a == sysModules)=false) (rel:KV kvs vs) (dd:h'.DictOf (vO P w) a vs) :
  vb P w H' h' a (.dK kvs):=⟨z,hd,vs,rel,dd⟩
theorem jo1 {Q:Unit→Shared→Prop} (hu:A.units+1 < cLine) (I:Inv X pins σ H s) (g:jd6 H a y v H') (ry:RelV y u) (rv:RelV v r) (h:∀ s',Inv X pins σ H' s'→Q () s') :
  wpAny (model X.prog X.w) A (setItem (.ref a) u r) Q E s:=by
 rcases g with ⟨kvs,k,e,ey,l,eH⟩|⟨kvs,k,b,e,ey,eb,l,eH⟩
 ·subst ey eH;obtain ⟨z,hd,vs,rel,dd⟩:=jtq I.hok e;have hz:vs.length≤sizeLine:=by rw [←rel.length];exact z
  have hl:(jah kvs k v).length≤sizeLine:=by have:=jgv kvs k v;omega
  refine wpAny_setItem_pairs (hsz:=hz) (jhR ry) dd fun h' dd' hs=>h _ ?_;have he:∃ q,h'.get? a=some q:=let ⟨q,_,_,hq,_⟩:=dd';⟨q,hq⟩;exact jm0 I (by rw [e];exact True.intro) hs he (jsr hl hd (rel.put k rv) dd')
 ·subst ey eH;cases (show u=Value.ref b from ry);obtain ⟨z,hd,xs,rel,dd⟩:=jtr I.hok e;have hz:xs.length≤sizeLine:=by rw [←Cr rel];exact z
  have hl:(jah kvs k v).length≤sizeLine:=by have:=jgv kvs k v;omega
  refine wpAny_setItem_heap (hsz:=hz) (tupleKind_room_in1 hu) (jfb I.hok eb) dd fun h' dd' hs=>h _ ?_;obtain ⟨q,es,ep,hq,h2,h3,h4,_,h5⟩:=dd';refine jm0 I (by rw [e];exact True.intro) hs ⟨q,hq⟩ ⟨hl,hd,_,(rel.put k eb rv).keeps fun c ys ec=>?_,q,es,ep,hq,h2,h3,h4,h5⟩;rw [ji (jtG ec e (fun z=>nomatch z))];exact ec
end
noncomputable def jse (i:Expr):Prop:=∀ ov iv,subscripted i false ov iv=operate [ov,iv] (getItem ov iv)
theorem jr3 {prog:Program} {value slice:Expr} {T id:String}
  (hl:typeLookup (.type T) "__getitem__"=pure (some (.builtin id))) (hs:jse slice)
  (h:wpAny (model prog w) A (eval value env) (fun o s₁=>wpAny (model prog w) A (eval slice env) (fun i s₂=>s₂.TypeIs o T∧wpAny (model prog w) A (getItem o i) Q E s₂) E s₁) E s) :
  wpAny (model prog w) A (eval (.Subscript value slice pos) env) Q E s:=by
 refine Subscript_ (Fd h (fun o s₁ h₁=>Fd h₁ (fun i s₂ h₂=>?_) fun _ _ x=>x) fun _ _ x=>x);obtain ⟨hT,h₂⟩:=h₂;unfold subscriptTail;refine Ca ?_;rw [getitemInPython_of_ne hT.not_modules];refine Ca (wpAny_specialOf hT hl ?_);have fin:wpAny (model prog w) A (subscripted slice false o i) (fun r s₃=>wpAny (model prog w) A (letTemporaryGo value o r >>= fun _=>pure r) Q E s₃) E s₂:=by
  rw [hs o i];exact wpAny_operating (Fd h₂ (fun r s₃ h₃=>Ca (wpAny_letTemporaryGo (Ck h₃))) fun _ _ x=>x)
 first
  | exact Ck (Ca fin)
  | exact Ca (Ck (Ca fin))
  | exact Ca fin
theorem jmu (I:Inv X pins σ H s) (g:jam H a y o):s.TypeIs (.ref a) "dict":=by
 rcases g with ⟨kvs,k,e,_,_⟩|⟨kvs,k,b,e,_,_,_⟩
 ·obtain ⟨_,_,vs,_,dd⟩:=jfY I.hok e;exact dd.typeIs
 ·obtain ⟨_,_,xs,_,dd⟩:=jfZ I.hok e;exact dd.typeIs
noncomputable def jtO (td ty:TE):TE:=fun σ H Q=>td σ H fun x H1=>ty σ H1 fun y H2=>∃ a v,x=.ref a∧jam H2 a y (some v)∧Q v H2
noncomputable def jum (ty td:TE):TE:=fun σ H Q=>ty σ H fun y H1=>td σ H1 fun x H2=>∃ a o,x=.ref a∧jam H2 a y o∧Q (.bl o.isSome) H2
noncomputable def jtM (td ty tv:TE):TS:=fun D σ H=>tv σ H fun v H1=>td σ H1 fun x H2=>ty σ H2 fun y H3=>∃ a H4,x=.ref a∧jd6 H3 a y v H4∧D.nx σ H4
section
variable {X:Cx} {o i value:Expr} {pos pos':Pos} {td ty tv:TE}
theorem jnv (hu:X.A.units+1 < cLine) (ho:PE X o td) (hi:PE X i ty) (hs:jse i):PE X (.Subscript o i pos) (jtO td ty):=by
 intro pins s σ H Q I h;refine jr3 PySem.F.slot_dict_getitem.lookup hs (thn (ho pins s σ H _ I h) fun u s1 ⟨x,H1,I1,rx,q1⟩=>thn (hi pins s1 σ H1 _ I1 q1) fun iv s2 zqq=>?_);obtain ⟨y,H2,I2,ry,a,v,ex,g,q2⟩:=zqq;subst ex;obtain rfl:u=Value.ref a:=rx;exact ⟨jmu I2 g,jo0 hu I2 g ry fun w' s3 I3 rw'=>⟨v,H2,I3,rw',q2⟩⟩
theorem jh6 (hu:X.A.units+1 < cLine) (hi:PE X i ty) (ho:PE X o td):PC X .In i o (jum ty td):=by
 intro pins s σ H Q I h;refine thn (hi pins s σ H _ I h) fun iv s1 ⟨y,H1,I1,ry,q1⟩=>thn (ho pins s1 σ H1 _ I1 q1) fun u s2 ⟨x,H2,I2,rx,a,ov,ex,g,q2⟩=>?_;subst ex;obtain rfl:u=Value.ref a:=rx;exact jtY hu I2 g ry fun s3 I3=>⟨.bl ov.isSome,H2,I3,rfl,q2⟩
theorem ji3 (hu:X.A.units+1 < cLine) (ho:PE X o td) (hi:PE X i ty) (hv:PE X value tv) (hs:swapsWith value (some (.Subscript o i pos')) pos.line X.env=pure false) :
  PS X (.Assign [.Subscript o i pos'] value pos) (jtM td ty tv):=by
 intro pins s σ H D I h;refine wpAny_Assign_Subscript (thn (hv pins s σ H _ I h) fun r s1 ⟨v,H1,I1,rv,q1⟩=>thn (ho pins s1 σ H1 _ I1 q1) fun u s2 ⟨x,H2,I2,rx,q2⟩=>thn (hi pins s2 σ H2 _ I2 q2) fun iv s3 zqq=>?_) hs;obtain ⟨y,H3,I3,ry,a,H4,ex,g,q3⟩:=zqq;subst ex;obtain rfl:u=Value.ref a:=rx;exact jo1 hu I3 g ry rv fun s4 I4=>⟨σ,H4,I4,q3⟩
end
theorem jqi (h:Heap) (hb:sysModules < h.objs.size):vb P w H (h.push { cls:=.type "dict",data:=.dict #[] }) h.objs.size (.dK []) :=
 ⟨C4 _,beq_eq_false_iff_ne.mpr (Dj (Di hb)),[],.nil,Heap.DictOf.new h⟩
theorem jql (h:Heap) (hb:sysModules < h.objs.size):vb P w H (h.push { cls:=.type "dict",data:=.dict #[] }) h.objs.size (.dT []) :=
 ⟨C4 _,beq_eq_false_iff_ne.mpr (Dj (Di hb)),[],.nil,_,#[],0,Cv _ rfl,⟨rfl,rfl,rfl⟩,rfl,rfl,List.nodup_nil⟩
noncomputable def js9:TE:=fun _ H Q=>∀ p,H p=none→Q (.ref p) (upd H p (.dK []))
noncomputable def jta:TE:=fun _ H Q=>∀ p,H p=none→Q (.ref p) (upd H p (.dT []))
section
variable {X:Cx} {pos:Pos}
theorem jqP:PE X (.Dict [] [] pos) js9:=fun pins s σ H Q I h =>
 wpAny_Dict_empty ⟨.ref s.heap.objs.size,_,I.laid (a:=s.heap.objs.size) (o:=.dK []) (t':=s.toks) (fun _ _ q=>Ch _ q) (Cl _) (jqi s.heap I.big),rfl,h _ (I.hok.fresh (Cl _))⟩
theorem jhk:PE X (.Dict [] [] pos) jta:=fun pins s σ H Q I h =>
 wpAny_Dict_empty ⟨.ref s.heap.objs.size,_,I.laid (a:=s.heap.objs.size) (o:=.dT []) (t':=s.toks) (fun _ _ q=>Ch _ q) (Cl _) (jql s.heap I.big),rfl,h _ (I.hok.fresh (Cl _))⟩
end
structure M2 (X:Cx) (o:Expr) (m:Str) (apos:Pos) (e f:Expr) (cpos:Pos):Prop where
 base:attributeBase o m X.env (eval o X.env)=eval o X.env
 few:((backTo cpos (starEach [e,f] X.env)).all (fun x=>!x.1) && (backToKw cpos (keywordEach [] X.env)).all (fun x=>x.1.isSome)
  && decide (([e,f]:List Expr).length+([]:List Keyword).length+(if ([]:List Keyword).isEmpty then 0 else 1) < 30))=true
 line:(apos.endLine == cpos.line)=true
 trees:backTo cpos (starEach [e,f] X.env)=[(false,eval e X.env),(false,eval f X.env)]
noncomputable def IsD (H:Hp) (a:Addr):Prop:=(∃ kvs,Rd H a (.dK kvs))∨∃ kvs,Rd H a (.dT kvs)
theorem jsD (I:Inv X pins σ H s) (d:IsD H a) :
  s.TypeIs (.ref a) "dict"∧(∀ b,Value.ref a=.ref b→∃ ob,s.heap.get? b=some ob∧ob.dict=none)∧(a == sysModules)=false:=by
 rcases d with ⟨kvs,e⟩|⟨kvs,e⟩
 ·obtain ⟨_,hd,vs,_,dd⟩:=jfY I.hok e;refine ⟨dd.typeIs,fun b q=>?_,hd⟩;cases q;obtain ⟨ob,_,_,h1,h2,_⟩:=dd;exact ⟨ob,h1,h2.2.1⟩
 ·obtain ⟨_,hd,xs,_,dd⟩:=jfZ I.hok e;refine ⟨dd.typeIs,fun b q=>?_,hd⟩;cases q;obtain ⟨ob,_,_,h1,h2,_⟩:=dd;exact ⟨ob,h1,h2.2.1⟩
section
variable {X:Cx} {pins:List (Addr×Obj)} {σ:St} {H:Hp} {s:Shared} {a:Addr} {y d:V} {u r:Value} {o:Option V} {A:Around} {E:Value→Shared→Prop}
theorem jsp (hu:A.units+1 < cLine) (I:Inv X pins σ H s) (g:jam H a y o) (ry:RelV y u) (rd:RelV d r) (h:∀ w' s',Inv X pins σ H s'→RelV (o.getD d) w'→Q w' s') :
  wpAny (model X.prog X.w) A (call (.builtin "dict.get") [.ref a,u,r]) Q E s:=by
 rcases g with ⟨kvs,k,e,ey,l⟩|⟨kvs,k,b,e,ey,eb,l⟩
 ·subst ey;obtain ⟨z,hd,vs,rel,dd⟩:=jfY I.hok e;refine call_meetsIn PySem.F.slot_dict_get dd.typeIs PySem.F.entry_dict_get (PySem.F.args_dict_get_3 _ _ _) (meets_dict_get_default (vO X.prog X.w) a (jhR ry) hd r) ⟨_,dd.mapOf,h _ _ (I.tok _) ?_⟩;rw [l];exact (rel.val k).getD rd
 ·subst ey;cases (show u=Value.ref b from ry);obtain ⟨z,hd,xs,rel,dd⟩:=jfZ I.hok e;refine call_meetsIn PySem.F.slot_dict_get dd.typeIs PySem.F.entry_dict_get (PySem.F.args_dict_get_3 _ _ _) (meetsH_dict_get_default (tupleKind (vO X.prog X.w)) a b hd r) ⟨tupleKind_room_in1 hu,k,xs,jfb I.hok eb,dd,h _ _ (I.tok _) ?_⟩;rw [l];exact (rel.val k).getD rd
end
noncomputable def js8 (td ty tx:TE):TE:=fun σ H Q=>td σ H fun x H1=>∃ a,x=.ref a∧IsD H1 a∧ty σ H1 fun y H2=>tx σ H2 fun z H3=>∃ o,jam H3 a y o∧Q (o.getD z) H3
section
variable {X:Cx} {o e f:Expr} {apos cpos:Pos} {td ty tx:TE}
theorem jqO (hu:X.A.units+1 < cLine) (ho:PE X o td) (he:PE X e ty) (hf:PE X f tx) (m:M2 X o "get" apos e f cpos):PE X (.Call (.Attribute o "get" apos) [e,f] [] cpos) (js8 td ty tx):=by
 intro pins s σ H Q I h;refine wpAny_Call_method m.base m.few m.line PySem.F.plainAttrs_dict PySem.F.slot_dict_get PySem.F.type_dict_get (thn (ho pins s σ H _ I h) fun u s1 zqq=>?_);obtain ⟨x,H1,I1,rx,a,ex,d,q1⟩:=zqq;subst ex;obtain rfl:u=Value.ref a:=rx;obtain ⟨t1,t2,_⟩:=jsD I1 d;refine ⟨t1,t2,?_⟩;rw [m.trees];refine Calls.callWith_builtin rfl (Calls.evalArgs_plain (Calls.spliced_cons (thn (he pins s1 σ H1 _ I1 q1) fun iv s2 ⟨y,H2,I2,ry,q2⟩ =>
  Calls.spliced_cons (thn (hf pins s2 σ H2 _ I2 q2) fun fv s3 ⟨z,H3,I3,rz,ov,g,q3⟩=>Calls.spliced_nil ?_))))
 exact jsp hu I3 g ry rz fun w' s4 I4 rw'=>⟨_,H3,I4,rw',q3⟩
end
section
variable {X:Cx} {pins:List (Addr×Obj)} {σ:St} {H:Hp} {s:Shared} {h':Heap}
theorem Inv.turnedNew {ch:List Addr} {T:Addr} {ob:HO} (I:Inv X pins σ H s) (k:∀ b o,b∉ch→s.heap.get? b=some o→h'.get? b=some o) (hf:∀ b∈ch,zN X pins H b) (hT:s.heap.objs.size≤T)
  (new:vb X.prog X.w (upd H T ob) h' T ob):Inv X pins σ (upd H T ob) { s with heap:=h',toks:=t' }:=by
 have hn:H T=none:=I.hok.fresh hT;have nit:∀ b u,H b=some u→b∉ch:=fun b u e z=>by
  have q:=(hf b z).1;rw [q] at e;cases e
 refine I.step (g':=s.gens) (d':=s.drawn) (ch:=ch) (fun b hb=>⟨(hf b hb).2.2.2.1,(hf b hb).2.1,(hf b hb).2.2.2.2.1,(hf b hb).2.2.2.2.2⟩) (fun b o _ _ hc e _=>k b o hc e) (fun b o _ _ hc e _=>⟨o.slots,k b o hc e⟩)
  (fun b o _ e n=>?_) (fun b o hc e=>⟨o,k b o hc e⟩) (fun b xs e=>?_) (fun b o u e=>?_) (fun b ps e=>⟨#[],?_⟩) (fun m hm=>?_) (fun b u e=>?_) I.bare
 ·rw [ji (Di (C9 (Cu e) hT))];exact n
 ·rw [ji (jp e hn)];exact e
 ·rw [ji (jp e hn)];exact e
 ·rw [ji (jp e hn),e];simp
 ·obtain ⟨o,es,ep,ho,r⟩:=hm;exact ⟨o,es,ep,k _ o (fun z=>(hf _ z).2.1 rfl) ho,r⟩
 ·by_cases hb:b=T
  ·subst hb;rw [jc] at e;cases e;exact new
  ·rw [ji hb] at e;refine (I.hok b u e).stay (fun c v hc q=>k c v ?_ q) (fun c q=>by rw [ji (jp q hn)];exact q) fun c xs q=>by rw [ji (jp q hn)];exact q
   rcases hc with z|z
   ·rw [z];exact nit b u e
   ·exact nit c _ z
theorem Inv.lock {u:HO} (I:Inv X pins σ H s) (h:H d=some u) (mu:Mut (some u)):∃ od,Inv X pins σ (upd H d (.frz od u)) s:=by
 have x:=I.hok d u h;have ex:∃ od,s.heap.get? d=some od:=by
  cases u with
  | lst xs=>obtain ⟨_,_,_,_,e⟩:=x;exact ⟨_,e⟩
  | dK kvs=>obtain ⟨_,_,_,_,o,_,_,e,_⟩:=x;exact ⟨o,e⟩
  | dT kvs=>obtain ⟨_,_,_,_,o,_,_,e,_⟩:=x;exact ⟨o,e⟩
  | set S n=>obtain ⟨o,_,_,_,e,_⟩:=x;exact ⟨o,e⟩
  | ins C dx fs=>obtain ⟨_,_,_,e,_⟩:=x;exact ⟨_,e⟩
  | ext φ=>obtain ⟨_,⟨_,e⟩,_⟩:=x;exact ⟨_,e⟩
  | _=>exact False.elim mu
 obtain ⟨od,e⟩:=ex;have new:vb X.prog X.w (upd H d (.frz od u)) s.heap d (.frz od u):=by
  refine ⟨e,x.stay (fun b v _ q=>q) (fun b q=>?_) fun b xs q=>?_⟩
  ·rw [ji (fun z=>by rw [z,h] at q;cases q;exact mu)];exact q
  ·rw [ji (fun z=>by rw [z,h] at q;cases q;exact mu)];exact q
 exact ⟨od,I.write (x:=d) (e:=d) (t':=s.toks) (h':=s.heap) (by rw [h];exact mu) (.inl rfl) (fun b v _ q=>q) ⟨od,e⟩ new⟩
theorem Inv.nofrz {u:HO} (I:Inv X pins σ H s) (h:H d=some u) (mu:Mut (some u)):∀ o' u',X.H_0 d≠some (.frz o' u'):=fun o' u' e=>by
 have q:=I.base.frzs d o' u' e;rw [h] at q;cases q;exact mu
theorem Inv.unlock {u:HO} (I:Inv X pins σ H s) (h:H d=some (.frz od u)) (hn:∀ o' u',X.H_0 d≠some (.frz o' u')):Inv X pins σ (upd H d u) s:=by
 have neH:∀ b o,H b=some o→(∀ o' u',o≠.frz o' u')→b≠d:=fun b o e hne z=>by
  rw [z,h] at e;cases e;exact hne _ _ rfl
 have neN:∀ b,H b=none→b≠d:=fun b e z=>by rw [z,h] at e;cases e
 refine ⟨I.ok,I.os,I.bare,⟨I.base.keep,I.base.slot,fun b o e n hx=>?_,I.base.there,fun b xs e=>?_,fun b o x e=>?_,fun b ps e=>?_⟩,I.loc,I.cell,?_,fun x c e=>?_,fun p hp=>?_,fun b o e=>?_,I.len⟩
 ·rw [ji (neN b (I.base.free b o e n hx))];exact I.base.free b o e n hx
 ·have q:=I.base.tups b xs e;rw [ji (neH b _ q (fun _ _ z=>nomatch z))];exact q
 ·have q:=I.base.frzs b o x e;rw [ji (fun z=>by rw [z] at e;exact hn _ _ e)];exact q
 ·obtain ⟨m,q⟩:=I.base.tbls b ps e;exact ⟨m,by rw [ji (neH b _ q (fun _ _ z=>nomatch z))];exact q⟩
 ·rw [ji (neN _ I.free)];exact I.free
 ·rw [ji (neN c (I.freeC x c e))];exact I.freeC x c e
 ·obtain ⟨e,n,r⟩:=I.pin p hp;exact ⟨e,by rw [ji (neN _ n)];exact n,r⟩
 ·by_cases hb:b=d
  ·rw [hb,jc] at e;cases e;rw [hb];obtain ⟨_,x⟩:=I.hok d _ h;exact x.stay (fun c v _ q=>q) (fun c q=>by rw [ji (neH c _ q (fun _ _ z=>nomatch z))];exact q) fun c xs q=>by rw [ji (neH c _ q (fun _ _ z=>nomatch z))];exact q
  ·rw [ji hb] at e;exact (I.hok b o e).stay (fun c v _ q=>q) (fun c q=>by rw [ji (neH c _ q (fun _ _ z=>nomatch z))];exact q) fun c xs q=>by rw [ji (neH c _ q (fun _ _ z=>nomatch z))];exact q
end
noncomputable def jtQ (t:TS):TS:=fun D σ H=>∃ d u,H d=some u∧Mut (some u)∧∀ od,t ⟨fun σ' H'=>H' d=some (.frz od u)∧D.nx σ' (upd H' d u),fun v H'=>H' d=some (.frz od u)∧D.rt v (upd H' d u),fun σ' H'=>H' d=some (.frz od u)∧D.bk σ' (upd H' d u),fun σ' H'=>H' d=some (.frz od u)∧D.ct σ' (upd H' d u)⟩ σ (upd H d (.frz od u))
section
variable {X:Cx}
theorem jrR {st:Stmt} {t:TS} (h:PS X st t):PS X st (jtQ t):=by
 intro pins s σ H D I hw;obtain ⟨d,u,hd,mu,hw⟩:=hw;obtain ⟨od,I1⟩:=I.lock hd mu;refine thn (h pins s σ _ _ I1 (hw od)) fun f s1 q=>?_;cases f with
 | next=>obtain ⟨σ',H',I2,e,q⟩:=q;exact ⟨σ',_,I2.unlock e (I.nofrz hd mu),q⟩
 | brk=>obtain ⟨σ',H',I2,e,q⟩:=q;exact ⟨σ',_,I2.unlock e (I.nofrz hd mu),q⟩
 | cont=>obtain ⟨σ',H',I2,e,q⟩:=q;exact ⟨σ',_,I2.unlock e (I.nofrz hd mu),q⟩
 | ret v=>obtain ⟨x,σ',H',I2,r,e,q⟩:=q;exact ⟨x,σ',_,I2.unlock e (I.nofrz hd mu),r,q⟩
theorem jh9 {R:It→Hp→Prop} {J:It} {tn:Nat→Heap→Prop} {tk:Nat} (I:Inv X pins σ H s) (o:Obj)
  (T:jd8 X.prog X.w X.K tg J [s.heap.objs.size] s.heap.objs.size tn) (st:tn 0 (s.heap.push o)) (q:R J H):PIE X pins σ tg R (.ref s.heap.objs.size) { s with heap:=s.heap.push o,toks:=tk }:=by
 refine ⟨s.heap.objs.size,[s.heap.objs.size],tn,J,H,rfl,I.kept fun b ob e=>Ch _ e,T,st,fun b hb=>?_,q⟩;have e:b=s.heap.objs.size:=by simpa using hb
 subst e;exact I.fpOk (Cl _) (I.hok.fresh (Cl _))
end
noncomputable def Itc (lo c:Int) (n:Nat):It:=⟨fun i _=>i < n,fun i H x H'=>H'=H∧x=.int (lo+(i:Nat) * c),fun i _=>n≤i⟩
theorem jmT (it:Addr) (lo c:Int) (n:Nat):jd8 P w K tg (Itc lo c n) [it] it (fun i h=>IsRangeIter h it (lo+(i:Nat) * c) ((n:Int) - (i:Nat)) c) where
 mem:=by simp
 obj:=fun i h st b hb=>by
  have e:b=it:=by simpa using hb
  subst e;exact ⟨_,st,fun v z=>nomatch z⟩
 keep:=fun i h h' st k=>k it (by simp) _ st
 item:=by
  intro X hP hw hK hc i pins s σ H E I hf st hg;subst hP hw hK;obtain ⟨f0,f1,f2,f3,f4,f5⟩:=hf it (by simp);have W:=Walks.range (prog:=X.prog) (w:=X.w) (I.ok.hd hc) it lo c n;refine W.item i s _ _ hg st fun v h' tk hv st' kk=>?_;obtain ⟨t,rfl⟩:=hv;have I1:Inv X pins σ H { s with heap:=h',toks:=tk }:=I.turned (fun b o hb e=>kk b o (by simpa using hb) e) f0 f1 f3 f4 f5;exact ⟨_,rfl,jkA (s:={ s with heap:=h',toks:=tk }) (n:="range_iterator") st' rfl rfl (by decide) ⟨.int (lo+(i:Nat) * c),H,I1,⟨t,rfl⟩,⟨rfl,rfl⟩,st',fun b hb=>(hf b hb).1⟩⟩
 done:=by
  intro X hP hw hK hc i pins s σ H E I hf st hg;subst hP hw hK;obtain ⟨f0,f1,f2,f3,f4,f5⟩:=hf it (by simp);exact wpAny_pyNext_range_end (I.ok.hd hc) st (by have:n≤i:=hg;omega) fun h' eb=>⟨rfl,I.turned (t':=s.toks) (fun b o hb e=>eb b o hb e) f0 f1 f3 f4 f5⟩
 self:=fun A i s Q E st h=>wpAny_pyIter_rangeiter st h
noncomputable def RgC (i j c:Int) (n:Nat):Prop:=c≠0∧c.natAbs < 1073741824∧Builtin.Range.small i j c=true∧Builtin.Range.rangeSize i j c=n
theorem RgC.neg {i j:Int} (ha:-(2 ^ 62)≤i) (ha':i < 2 ^ 62) (hb:-(2 ^ 62)≤j) (hb':j < 2 ^ 62):RgC i j (-1) (i - j).toNat :=
 ⟨by decide,by decide,PySem.W.small_down ha ha' hb hb',PySem.W.rangeSize_downNat i j⟩
noncomputable def jtE (ta:TA):TI:=fun σ H R=>ta σ H fun vs H1=>∃ (i j c:Int) (n:Nat),vs=[.int i,.int j,.int c]∧RgC i j c n∧R (Itc i c n) H1
section
variable {X:Cx} {tg:Expr}
theorem jcP {a b c:Expr} {ta:TA} {p:Pos} (hg:Gl X "range") (hm:X.mg "range"=none) (ha:PA X [a,b,c] ta)
  (hs:starEach [a,b,c] X.env=(false,eval a X.env) :: starEach [b,c] X.env:=by rfl) (hpl:(backTo pos (starEach [b,c] X.env)).any (·.1)=false:=by rfl) :
  PI X tg (.Call (.Name "range" p) [a,b,c] [] pos) (jtE ta):=by
 intro pins s σ H R I h;refine Call_ (jaX I hg hm boot_range (F8 (thn (ha pos pins s σ H _ I h) fun us s1 zqq=>?_) hs hpl));obtain ⟨vs,H1,I1,r1,q1⟩:=zqq;obtain ⟨i,j,k,n,e,⟨c0,c1,c2,c3⟩,q⟩:=q1;subst e;cases r1 with
 | cons r rr =>
  cases rr with
  | cons r' rr =>
   cases rr with
   | cons r'' rr =>
    cases rr;obtain ⟨t,rfl⟩:=r;obtain ⟨t',rfl⟩:=r';obtain ⟨t'',rfl⟩:=r'';refine call_range_3 c0 ?_ (.inl (PyProof.noPylong_small c1));refine wpAny_pyIter_range (IsRange.new ..) c2 ?_;have I2:Inv X pins σ H1 { s1 with heap:=s1.heap.push { cls:=.type "range",data:=.fields #[.int i t,.int j t',.int k t''] } }:=I1.kept (t':=s1.toks) fun b o e=>Ch _ e;refine jh9 (tk:=s1.toks) I2 _ (jmT _ i k n) ?_ q;have e1:i+((0:Nat):Int) * k=i:=by simp
    have e2:(n:Int) - ((0:Nat):Int)=Builtin.Range.rangeSize i j k:=by rw [c3];simp
    show IsRangeIter _ _ (i+((0:Nat):Int) * k) ((n:Int) - ((0:Nat):Int)) k;rw [e1,e2];exact Cv _ rfl
end
theorem jef {lo c:Int} {tb:TS} {D:jcb} (Pv:Nat→St→Hp→Prop) (h0:Pv 0 σ H)
  (hs:∀ i σ H,i < n→Pv i σ H→g (.int (lo+(i:Nat) * c)) σ H fun σ2 H2=>tb { D with nx:=Pv (i+1),ct:=Pv (i+1),bk:=D.nx } σ2 H2) (hd:∀ σ H,Pv n σ H→D.nx σ H) :
  ∃ W:Nat→Nat→St→Hp→Prop,(∃ m,W 0 m σ H)∧∀ i m σ H,W i m σ H →
   ((Itc lo c n).stop i H∧D.nx σ H)∨((Itc lo c n).go i H∧∃ N:St→Hp→Prop,(∀ σ' H',N σ' H'→∃ m',m' < m∧W (i+1) m' σ' H')∧∀ x H',(Itc lo c n).yld i H x H'→g x σ H' fun σ2 H2=>tb { D with nx:=N,ct:=N,bk:=D.nx } σ2 H2):=by
 refine ⟨fun i m σ H=>m=n - i∧i≤n∧Pv i σ H,⟨n,by simp,C4 _,h0⟩,?_⟩;rintro i m σ H ⟨rfl,hi,p⟩;by_cases hlt:i < n
 ·refine .inr ⟨hlt,Pv (i+1),fun σ' H' p'=>⟨n - (i+1),by omega,rfl,hlt,p'⟩,fun x H' y=>?_⟩;obtain ⟨e,y⟩:=y;subst e y;exact hs i σ _ hlt p
 ·have e:i=n:=by omega
  subst e;exact .inl ⟨Cl _,hd σ H p⟩
noncomputable def Its (x:Str):It:=⟨fun i _=>i < x.cps.size,fun i H v H'=>H'=H∧∃ c,x.cps[i]?=some c∧v=.str ⟨#[c]⟩,fun i _=>x.cps.size≤i⟩
theorem jmg (it:Addr) (x:Str) (t:Tok) (ty:String) (hty:ty="str_ascii_iterator"∨ty="str_iterator") :
  jd8 P w K tg (Its x) [it] it (fun i h=>h.IsStrIter it ty x t i) where
 mem:=by simp
 obj:=fun i h st b hb=>by
  have e:b=it:=by simpa using hb
  subst e;obtain ⟨o,e,c,d⟩:=st;exact ⟨o,e,fun v z=>by rw [d] at z;cases z⟩
 keep:=fun i h h' st k=>let ⟨o,ho,r⟩:=st;⟨o,k it (by simp) o ho,r⟩
 item:=by
  intro X hP hw hK hc i pins s σ H E I hf st hg;subst hP hw hK;obtain ⟨f0,f1,f2,f3,f4,f5⟩:=hf it (by simp);have W:Walks X.prog X.w X.A it [it] [it] x.cps.size (SignAt x) (fun i h=>h.IsStrIter it ty x t i):=by
   rcases hty with e|e
   ·rw [e];exact Walks.strAscii (I.ok.hd hc) it x t
   ·rw [e];exact Walks.strWide (I.ok.hd hc) it x t
  have hno:["enumerate","zip","dict_itemiterator","dict_reverseitemiterator","odict_iterator","itertools.zip_longest","itertools.pairwise"].contains ty=false:=by
   rcases hty with e|e
   ·rw [e];decide
   ·rw [e];decide
  refine W.item i s _ _ hg st fun v h' tk hv st' kk=>?_;obtain ⟨c,u,hcx,rfl⟩:=hv;have I1:Inv X pins σ H { s with heap:=h',toks:=tk }:=I.turned (fun b o hb e=>kk b o (by simpa using hb) e) f0 f1 f3 f4 f5;obtain ⟨oi,e,cc,dd⟩:=id st';exact ⟨_,rfl,jkA (s:={ s with heap:=h',toks:=tk }) e cc dd hno ⟨.str ⟨#[c]⟩,H,I1,⟨u,rfl⟩,⟨rfl,c,hcx,rfl⟩,st',fun b hb=>(hf b hb).1⟩⟩
 done:=by
  intro X hP hw hK hc i pins s σ H E I hf st hg;subst hP hw hK;obtain ⟨f0,f1,f2,f3,f4,f5⟩:=hf it (by simp);have hx:x.cps[i]?=none:=Gv hg;rcases hty with e|e
  ·rw [e] at st;exact wpAny_pyNext_ascii_end (I.ok.hd hc) st hx fun h' eb=>⟨rfl,I.turned (t':=s.toks) (fun b o hb e=>eb b o hb e) f0 f1 f3 f4 f5⟩
  ·rw [e] at st;exact wpAny_pyNext_wide_end (I.ok.hd hc) st hx fun h' eb=>⟨rfl,I.turned (t':=s.toks) (fun b o hb e=>eb b o hb e) f0 f1 f3 f4 f5⟩
 self:=fun A i s Q E st h=>by
  rcases hty with e|e
  ·rw [e] at st;exact wpAny_pyIter_striter_ascii st h
  ·rw [e] at st;exact wpAny_pyIter_striter_wide st h
noncomputable def jt3 (te:TE):TI:=fun σ H R=>te σ H fun v H1=>∃ x,v=.str x∧R (Its x) H1
theorem jsX (he:PE X e te):PI X tg e (jt3 te):=by
 intro pins s σ H R I h;refine thn (he pins s σ H _ I h) fun v s1 ⟨y,H1,I1,r1,x,ex,q⟩=>?_;subst ex;obtain ⟨t,rfl⟩:=r1;cases ha:x.cps.all (· < 128)
 ·exact wpAny_pyIter_wide ha (jh9 (tk:=s1.toks) I1 _ (jmg _ x t "str_iterator" (.inr rfl)) ⟨_,Cv _ rfl,rfl,rfl⟩ q)
 ·exact wpAny_pyIter_ascii ha (jh9 (tk:=s1.toks) I1 _ (jmg _ x t "str_ascii_iterator" (.inl rfl)) ⟨_,Cv _ rfl,rfl,rfl⟩ q)
section
variable {prog:Program} {w:World} {A:Around} {E:Value→Shared→Prop} {s:Shared}
theorem jpf {o:Obj} (hd:(d == sysModules)=false) (ho:s.heap.get? d=some o) (hc:o.ExactDict) (hdat:o.data=.dict es ep)
  (hQ:Q (.ref s.heap.objs.size) { s with heap:=s.heap.push { cls:=.type "dict_keyiterator",data:=.fields #[.ref d,.int 0 0,.int es.size 0,.int ep 0] } }) :
  wpAny (model prog w) A (pyIter (.ref d)) Q E s:=by
 have hT:s.TypeIs (.ref d) "dict":=⟨o,ho,hc.1⟩;refine wpAny_pyIter_slot hT F.slot_dict_iter (Fx F.slot_dict_iter hT F.entry_dict_iter ?_ (F.args_dict_iter_1 _));unfold Builtin.«dict.__iter__»;refine Ca ?_;unfold Builtin.Dict.dictSlotNone;refine Ca (wpAny_notOrdered_dict hT ?_);show wpAny _ _ (pure (Value.ref d)) _ _ s;refine Ck ?_;show wpAny _ _ (Builtin.Dict.showsAll d >>= _) _ _ s;unfold Builtin.Dict.showsAll;rw [Cc (by rw [hd];exact C7)];refine Ca (Ck ?_);refine Ca (Gn ho hdat ?_)
 refine Ca (Jr ho hdat ?_);refine Ca (F1 (Ck ⟨_,rfl,"dict_keyiterator",_,⟨_,Cv _ rfl,rfl⟩,F.slot_dict_keyiterator_next.lookup,?_⟩));simpa [rawInt] using hQ
theorem jj7 {it:Addr} {en:DictEntry} {Q:Option Value→Shared→Prop} (hit:s.heap.IsKeyIter it d i n ep) (hod:s.heap.get? d=some od) (hdd:od.data=.dict es ep)
  (hsz:es.size=n) (hx:es[i]?=some en) (hQ:∀ h',h'.IsKeyIter it d (i+1) n ep→Heap.SameBut it s.heap h'→Q (some en.key) { s with heap:=h' }):wpAny (model prog w) A (pyNext (.ref it)) Q E s:=by
 obtain ⟨o,ho,hc,hd⟩:=id hit;unfold pyNext;refine Ca (Jt (Ft (name:=Str.ofString "__next__") hit.typeIs F.slot_dict_keyiterator_next
  (Fx F.slot_dict_keyiterator_next hit.typeIs F.entry_dict_keyiterator_next ?_ (F.args_dict_keyiterator_next_1 _))))
 refine Ca (Ck ?_);refine Ca ?_;refine Ca ?_
 first|refine Ca (Gk hit.typeIs (Ck ?_))|refine Ca (Je hit.typeIs (Ck ?_))
 refine Ca (J9 ho hd ?_);have hown:Builtin.Dict_items.ownsTuple "dict_keyiterator"=false:=by decide
 simp only [hown,Fu,Gs];show wpAny _ _ (if (Value.ref d == Value.none)=true then _ else _) _ _ s;rw [Cc (show ¬((Value.ref d == Value.none)=true) from C7)];refine Ca (Ck ?_);refine Ca (Gn hod hdd ?_);rw [Cc (by rw [hsz];simp)];refine Ca (Ck ?_);refine Ca (Jr hod hdd ?_);rw [Cc (by simp)];refine Ck ?_;obtain ⟨hlt',hen⟩:=D9.mp hx;simp only [show ¬((i:Int) < 0) from by omega,Gs,Dt,Fl hlt']
 refine Ca ?_
 first|refine Ca (Gk hit.typeIs (Ck ?_))|refine Ca (Je hit.typeIs (Ck ?_))
 refine Ca (wpAny_isOneOf_keyiter hit.typeIs ?_);show wpAny _ _ (setField (.ref it) 1 (rawInt ((i:Int)+1)) >>= _) _ _ s;refine Ca (La ho hd (by simp) ?_);have hit':(s.heap.update it (Obj.mapFields (·.setIfInBounds 1 (rawInt ((i:Int)+1))))).IsKeyIter it d (i+1) n ep :=
  ⟨_,Ge _ ho (Jw (G0 hd _)),(Obj.cls_mapFields ..).trans hc,by rw [G0 hd];simp [rawInt]⟩
 refine Ca (F4 ?_);refine Ca (wpAny_isOneOf_keyiter (s:={ s with heap:=s.heap.update it (Obj.mapFields (·.setIfInBounds 1 (rawInt ((i:Int)+1)))) }) hit'.typeIs ?_);show wpAny _ _ (pure es[i].key) _ _ _;rw [hen];exact Ck (Ck ⟨_,rfl,Ck (hQ _ hit' (Fg ..))⟩)
theorem jlg {it:Addr} {Q:Option Value→Shared→Prop} (hh:A.handled=none) (hit:s.heap.IsKeyIter it d i n ep) (hod:s.heap.get? d=some od) (hdd:od.data=.dict es ep)
  (hsz:es.size=n) (hge:n≤i) (hQ:∀ h',Heap.ExtBut it s.heap h'→Q none { s with heap:=h' }):wpAny (model prog w) A (pyNext (.ref it)) Q E s:=by
 obtain ⟨o,ho,hc,hd⟩:=id hit;unfold pyNext;refine Ca (Jt (Ft (name:=Str.ofString "__next__") hit.typeIs F.slot_dict_keyiterator_next
  (Fx F.slot_dict_keyiterator_next hit.typeIs F.entry_dict_keyiterator_next ?_ (F.args_dict_keyiterator_next_1 _))))
 refine Ca (Ck ?_);refine Ca ?_;refine Ca ?_
 first|refine Ca (Gk hit.typeIs (Ck ?_))|refine Ca (Je hit.typeIs (Ck ?_))
 refine Ca (J9 ho hd ?_);have hown:Builtin.Dict_items.ownsTuple "dict_keyiterator"=false:=by decide
 simp only [hown,Fu,Gs];show wpAny _ _ (if (Value.ref d == Value.none)=true then _ else _) _ _ s;rw [Cc (show ¬((Value.ref d == Value.none)=true) from C7)];refine Ca (Ck ?_);refine Ca (Gn hod hdd ?_);rw [Cc (by rw [hsz];simp)];refine Ca (Ck ?_);refine Ca (Jr hod hdd ?_);rw [Cc (by simp)];refine Ck ?_;have hge':es.size≤i:=by rw [hsz];exact hge
 simp only [show ¬((i:Int) < 0) from by omega,Gs,Dt,Gv hge'];refine Ca ?_
 first|refine Ca (Gk hit.typeIs (Ck ?_))|refine Ca (Je hit.typeIs (Ck ?_))
 show wpAny _ _ (setField (.ref it) 0 .none >>= _) _ _ s;refine Ca (La ho hd (by simp) ?_);show wpAny _ _ (newExc (.type "StopIteration") [] >>= _) _ _ _;refine Ca ?_;simp only [newExc,newTuple];refine Ca (F1 ?_ (by size_fits));refine Ca (m:=firstArgMember _ _) (Gm (a:=Value.none) (by first|rfl|(simp only [firstArgMember];rfl)) ?_);refine F1 ?_ (by size_fits);simp only [raiseNew];refine Ca (wpAny_handled ?_);rw [show A.in1.handled=none from hh];refine Ca (Ck (wpAny_throw ?_))
 refine Ca (wpAny_isInstance (T:="StopIteration") (b:=true) ⟨_,Cv _ rfl,rfl⟩ isSubtype_stop ?_);exact Ck (hQ _ (((Fg ..).extBut.push _).push _))
end
theorem jok {α β:Type} {G:α→β→Prop} {l₁:List α} {l₂:List β} (h:Paired G l₁ l₂):∀ {i:Nat} {a:α},l₁[i]?=some a→∃ b,l₂[i]?=some b∧G a b:=by
 induction h with
 | nil=>intro i a e;simp at e
 | @cons a b l₁ l₂ r t ih =>
  intro i a' e;cases i with
  | zero =>
   simp only [List.getElem?_cons_zero,Jz] at e;subst e;exact ⟨b,rfl,r⟩
  | succ j =>
   simp only [List.getElem?_cons_succ] at e ⊢;exact ih e
theorem jm6 {o:Obj} {es':Array DictEntry} {ep':Nat} (h:o.data=.dict es ep) (h':o.data=.dict es' ep'):es'=es∧ep'=ep:=by
 rw [h] at h';cases h';exact ⟨rfl,rfl⟩
noncomputable def Ite (K:Frag) (a:Addr):It :=
 ⟨fun i H=>∃ (xs:List V) (x:V),SqL K H a xs∧xs[i]?=some x,fun i H v H'=>∃ T x,v=.ref T∧H T=none∧H'=upd H T (.tup [.int (i:Nat),x])∧∀ xs,SqL K H a xs→xs[i]?=some x,fun i H=>∃ xs:List V,SqL K H a xs∧xs.length≤i⟩
theorem jpZ {elts:List Expr} {kk:Nat} {tpos:Pos} (a e it:Addr) :
  jd8 P w K (.Tuple elts kk tpos) (Ite K a) [e,it] e (fun i h=>(∃ old,IsEnum h e it ((i:Nat):Int) old)∧h.IsListIter it a i∧e≠it) where
 mem:=by simp
 obj:=fun i h st b hb=>by
  obtain ⟨⟨old,he⟩,⟨o,ho,hc,hd⟩,_⟩:=st;have e':b=e∨b=it:=by simpa using hb
  rcases e' with z|z
  ·rw [z];exact ⟨_,he,fun v q=>nomatch q⟩
  ·rw [z];exact ⟨o,ho,fun v q=>by rw [hd] at q;cases q⟩
 keep:=fun i h h' st k=>let ⟨⟨old,he⟩,hi,hne⟩:=st;⟨⟨old,k e (by simp) _ he⟩,hi.at fun o q=>k it (by simp) o q,hne⟩
 item:=by
  intro X hP hw hK hc i pins s σ H E I hf st hg;subst hP hw hK;obtain ⟨⟨old,he⟩,hit,hne⟩:=st;obtain ⟨xs,x,hq,hx⟩:=hg;obtain ⟨its,rv,p,hz⟩:=I.list hq;obtain ⟨u,hu,ru⟩:=rv.get hx;have hel:e < s.heap.objs.size:=Cu he;have hil:it < s.heap.objs.size:=by obtain ⟨_,q,_⟩:=hit;exact Cu q
  refine wpAny_pyNext_enum_item he hit p.isList (x:=u) (by simpa using hu) hne fun h' ho hit' hT hsz hk=>?_;refine ⟨_,rfl,wpAny_letOwnedTupleGo_enum (s:={ s with heap:=h',toks:=s.toks+1 }) ho fun h'' he' sb=>?_⟩;have hT2:h''.get? s.heap.objs.size=some { cls:=.type "tuple",data:=.seq #[.int i s.toks,u] }:=(sb.2 _ (Fs hel)).trans hT;have new:vb X.prog X.w (upd H s.heap.objs.size (.tup [.int (i:Nat),x])) h'' s.heap.objs.size (.tup [.int (i:Nat),x]) :=
   ⟨by show 2≤sizeLine;decide,[.int i s.toks,u],.cons ⟨_,rfl⟩ (.cons ru .nil),⟨_,hT2,rfl,_,rfl⟩⟩
  have I1:Inv X pins σ (upd H s.heap.objs.size (.tup [.int (i:Nat),x])) { s with heap:=h'',toks:=s.toks+1 } :=
   I.turnedNew (ch:=[e,it]) (fun b ob hb q=>(sb.2 b (fun z=>hb (by simp [z]))).trans (hk b ob (fun z=>hb (by simp [z])) (fun z=>hb (by simp [z])) q)) hf (Cl _) new
  refine ⟨.ref s.heap.objs.size,_,I1,rfl,⟨_,x,rfl,I.hok.fresh (Cl _),rfl,fun ys hy=>by rw [I.list_inj hy hq];exact hx⟩,⟨⟨u,?_⟩,hit'.at fun o q=>(sb.2 it (Dj hne)).trans q,hne⟩,fun b hb=>?_⟩
  ·have e1:((i+1:Nat):Int)=(i:Int)+1:=by omega
   rw [e1];exact he'
  ·have hb':b < s.heap.objs.size:=by
    have e':b=e∨b=it:=by simpa using hb
    rcases e' with z|z
    ·rw [z];exact hel
    ·rw [z];exact hil
   rw [ji (Di hb')];exact (hf b hb).1
 done:=by
  intro X hP hw hK hc i pins s σ H E I hf st hg;subst hP hw hK;obtain ⟨⟨old,he⟩,hit,hne⟩:=st;obtain ⟨xs,hq,hx⟩:=hg;obtain ⟨its,rv,p,hz⟩:=I.list hq;obtain ⟨f0,f1,f2,f3,f4,f5⟩:=hf it (by simp);have hl:=rv.length;exact wpAny_pyNext_enum_end (I.ok.hd hc) he hit p.isList (by simp;omega) fun h' eb=>⟨rfl,I.turned (t':=s.toks) (fun b o hb q=>eb b o hb q) f0 f1 f3 f4 f5⟩
 self:=fun A i s Q E st h=>let ⟨⟨_,he⟩,_⟩:=st;wpAny_pyIter_enum he h
noncomputable def jtA (K:Frag) (ta:TA):TI:=fun σ H R=>ta σ H fun vs H1=>∃ a xs,vs=[.ref a]∧SqL K H1 a xs∧R (Ite K a) H1
theorem ji2 {ta:TA} {p tpos:Pos} {elts:List Expr} {kk:Nat} (hg:Gl X "enumerate") (hm:X.mg "enumerate"=none) (ha:PA X [e] ta) (hs:starEach [e] X.env=[(false,eval e X.env)]:=by rfl) :
  PI X (.Tuple elts kk tpos) (.Call (.Name "enumerate" p) [e] [] pos) (jtA X.K ta):=by
 intro pins s σ H R I h;refine Call_ (jaX I hg hm boot_enumerate (F8 (thn (ha pos pins s σ H _ I h) fun us s1 zqq=>?_) hs rfl));obtain ⟨vs,H1,I1,r1,q1⟩:=zqq;obtain ⟨a,xs,ex,hq,q⟩:=q1;subst ex;cases r1 with
 | cons r rr =>
  cases rr;cases r;obtain ⟨its,rv,p',hz⟩:=I1.list hq;refine call_enumerate_list p'.isList fun h' he hit hsz hk=>wpAny_pyIter_enum he ?_;have I2:Inv X pins σ H1 { s1 with heap:=h' }:=I1.kept (t':=s1.toks) hk;refine ⟨s1.heap.objs.size+1,[s1.heap.objs.size+1,s1.heap.objs.size],_,_,H1,rfl,I2,jpZ a (s1.heap.objs.size+1) s1.heap.objs.size,⟨⟨.none,he⟩,hit,Nat.succ_ne_self _⟩,fun b hb=>?_,q⟩;have e':b=s1.heap.objs.size+1∨b=s1.heap.objs.size:=by simpa using hb
  have hle:s1.heap.objs.size≤b:=by
   rcases e' with z|z
   ·rw [z];exact Nat.le_add_right _ _
   ·rw [z];exact Cl _
  exact I1.fpOk hle (I1.hok.fresh hle)
end L2
section
end
section
namespace TL
open PySem PySem.Builtin PySem.Builtin.Str PySem.StrLaws
noncomputable abbrev tl (x:Str):List Nat:=x.cps.toList
theorem jle (x:Str):x.length=(tl x).length:=by simp [tl,Str.length]
theorem jjV (x y:Str):tl (x++y)=tl x++tl y:=by
 show (x++y).cps.toList=_;rw [Str.cps_append,Array.toList_append]
noncomputable def jhQ (S:List Nat):List (List Nat)→List Nat
 | []=>[]
 | [p]=>p
 | p :: q :: r=>p++(S++jhQ S (q :: r))
theorem jnK (y:Str):∀ jbu:List Str,tl (Str.join y jbu)=jhQ (tl y) (jbu.map tl)
 | []=>rfl
 | [_]=>rfl
 | x :: z :: r=>by
  show tl (x++y++Str.join y (z :: r))=tl x++(tl y++jhQ (tl y) ((z :: r).map tl));rw [jjV,jjV,jnK y (z :: r),Fe]
theorem jrD (y:Str) (jbu:List Str):Txt.join y jbu=Str.join y jbu:=glued_eq_join y jbu
noncomputable def jqL (n:Nat):List Nat:=(Nat.toDigits 10 n).map Char.toNat
theorem jme (n:Nat):tl (Str.ofString (toString ((n:Nat):Int)))=jqL n:=PySem.W.KIN.signs_num n
theorem jen {k:Nat} (hk:0 < k) (h:n < 10 ^ k):(jqL n).length≤k:=by
 have z:=PyProof.Rows.toString_length_le (v:=(n:Int)) (by omega) hk (by
  have e:((10:Int) ^ k)=((10 ^ k:Nat):Int):=by
   first
    | exact (Int.natCast_pow 10 k).symm
    | simp
  rw [e]
  first|exact Int.ofNat_lt.mpr h|omega)
 rw [jle,jme] at z;exact z
end TL
end
namespace L2
open PySem PySem.Spec PyProof.Rows
open PySem.W (Frag)
variable {H:Hp} {a b:Addr} {h:Heap} {A:List Addr} {P:Params} {pos:Pos} {x:Str} {B:Prop} {ds:List WData} {vs:List Value}
theorem jcx:∀ {ys:List Str} {us:List Value},jx (ys.map V.str) us→StrsAre us ys
 | [],_,.nil=>.nil
 | y :: ys,_,.cons r t=>by
  obtain ⟨k,rfl⟩:=r;exact .cons y k (jcx t)
section
variable {X:Cx}
theorem jrL:MtR X "str.join" (fun x xs H Q=>∃ a p,∃ ys:List Str,x=.str a∧xs=[.ref p]∧(SqL X.K H p (ys.map V.str)∨SqT X.K H p (ys.map V.str)) ∧
  (ys.map (·.length)).sum+ys.length * a.length≤16777216∧Q (.str (Txt.join a ys)) H):=by
 intro pins s σ H x xs v us Q I rx rs h;obtain ⟨a,p,ys,rfl,rfl,hp,hz,h⟩:=h;obtain ⟨t,rfl⟩:=rx;cases rs with
 | cons r1 rs =>
  cases rs;cases r1;rcases hp with hp|hp
  ·obtain ⟨its,r,⟨o,n,ho,hc,_,hd⟩,_⟩:=I.list hp;exact PyProof.Rows.join_list (items:=its.toArray) ⟨o,ho,hc,n,hd⟩ (by rw [Lj];exact jcx r) hz fun t' k=>⟨.str _,H,I.tok k,⟨t',rfl⟩,h⟩
  ·obtain ⟨its,r,ht,_⟩:=I.tuple hp;exact PyProof.Rows.join_tuple (items:=its.toArray) ht (by rw [Lj];exact jcx r) hz fun t' k=>⟨.str _,H,I.tok k,⟨t',rfl⟩,h⟩
end
section
variable {X:Cx} {o e:Expr} {to te:TE}
noncomputable def tM1 (r:V→List V→Hp→VK→Prop) (to te:TE):TE:=fun σ H Q=>to σ H fun x H1=>(∃ a,x=.str a)∧te σ H1 fun y H2=>r x [y] H2 Q
theorem jtH {id:String} {name:Str} {apos:Pos} {r:V→List V→Hp→VK→Prop} (slot:Slot "str" name id) (ty:typeOf (.builtin id)=pure (.type "method_descriptor")) (rule:MtR X id r) (ho:PE X o to) (he:PE X e te)
  (hs:starEach [e] X.env=[(false,eval e X.env)]:=by rfl) (hbase:attributeBase o name X.env (eval o X.env)=eval o X.env:=by rfl) (hline:(apos.endLine == pos.line)=true:=by rfl) :
  PE X (.Call (.Attribute o name apos) [e] [] pos) (tM1 r to te):=by
 intro pins s σ H Q I h;refine PySem.Call_method1 hbase hs hline (thn (ho pins s σ H _ I h) fun v s1 zqq=>?_);obtain ⟨x,H1,I1,r1,q1⟩:=zqq;obtain ⟨⟨a,rfl⟩,q1⟩:=q1;obtain ⟨t,rfl⟩:=_root_.id r1;refine ⟨"str",_,F.plainAttrs_str,slot,ty,typeIs_str _ _ _,(fun _ e=>nomatch e),Calls.callWith_builtin rfl (Calls.evalArgs_plain (Calls.spliced_cons ?_))⟩;exact thn (he pins s1 σ H1 _ I1 q1) fun u s2 ⟨y,H2,I2,r2,q2⟩=>Calls.spliced_nil (rule pins s2 σ H2 _ [y] _ [u] Q I2 r1 (.cons r2 .nil) q2)
theorem jrP {apos:Pos} (ho:PE X o to) (he:PE X e te) (hs:starEach [e] X.env=[(false,eval e X.env)]:=by rfl) (hbase:attributeBase o "join" X.env (eval o X.env)=eval o X.env:=by rfl) (hline:(apos.endLine == pos.line)=true:=by rfl) :
  PE X (.Call (.Attribute o "join" apos) [e] [] pos) (tM1 (fun x xs H Q=>∃ a p,∃ ys:List Str,x=.str a∧xs=[.ref p]∧(SqL X.K H p (ys.map V.str)∨SqT X.K H p (ys.map V.str)) ∧
   (ys.map (·.length)).sum+ys.length * a.length≤16777216∧Q (.str (Txt.join a ys)) H) to te) :=
 jtH F.slot_str_join F.type_str_join jrL ho he hs hbase hline
end
noncomputable abbrev CX0:CXT:=fun _ _ _ _ _ _=>False
noncomputable abbrev E0:XK:=fun _ _ _=>False
theorem jh5 {X:Cx}:jan CX0 X E0:=fun _ _ _ _ _ _ _ h=>h.elim
structure Fun (K:Frag) (x qual:Str) (st:Stmt) (f:Addr) (fd:FuncData):Prop where
 ex:∃ (oc:Value) (od:Option Addr) (kV doc pm:Value) (an:Option Addr) (cdv ct:Value) (osl:Array (Option Value)),
  fd=PySem.W.fnOf x qual (jbd st) (zu st) (jm st) .none kV doc pm an cdv ct∧K.lookup f=some ⟨oc,od,.func fd,osl⟩∧PySem.W.codeIn K cdv qual=true
 kp:PySem.W.keepIn K (.ref f)=true
section
variable {P:Program} {w:World} {K:Frag} {mg:Str→Option Value} {base:Heap}
theorem Fun.ok {qual:Str} {st:Stmt} {f:Addr} {fd:FuncData} {N ps:List Str} {k:Nat} {sp:Sp} (F:Fun K x qual st f fd) (S:jr N ps (jm st)) (len:∀ vs H Q E,sp vs H Q E→vs.length=ps.length)
  (hbody:∀ (cdv:Value) (A:Around) (outer:List Env) (s:Shared) (H:Hp) (vs:List V) (Q:VK) (E:XK),j6 k (A.deeper (envOfC qual (jm st) s.heap.objs.size f cdv))→sp vs H Q E →
   ∃ t,PSs (zt CX0 P w K mg base N qual (jm st) f cdv A outer s H E).nox (zu st) t∧t { nx:=fun _ H'=>Q .non H',rt:=Q } (start N vs) H):zG P w K mg base CX0 (k+1) f fd ps sp:=by
 obtain ⟨oc,od,kV,doc,pm,an,cdv,ct,osl,rfl,lk,hcd⟩:=F.ex;refine jn2 lk hcd S len fun A outer s H vs Q E hr hsp=>?_;obtain ⟨t,h,q⟩:=hbody cdv A outer s H vs Q E hr hsp;exact ⟨t,h.nox,q⟩
theorem jo5 {qual:Str} {st:Stmt} {f:Addr} {oc:Value} {od an:Option Addr} {osl:Array (Option Value)} {kV doc pm cdv ct:Value} (l:K.lookup f=some ⟨oc,od,.func (PySem.W.fnOf x qual (jbd st) (zu st) (jm st) .none kV doc pm an cdv ct),osl⟩)
  (c:PySem.W.codeIn K cdv qual=true) (k:PySem.W.keepIn K (.ref f)=true):Fun K x qual st f (PySem.W.fnOf x qual (jbd st) (zu st) (jm st) .none kV doc pm an cdv ct):=⟨⟨oc,od,kV,doc,pm,an,cdv,ct,osl,rfl,l,c⟩,k⟩
end
theorem jeg {A:Around} {k:Nat} (hr:j6 k A):A.units+1 < cLine:=Nat.lt_of_le_of_lt (Nat.add_le_add_left (by decide:1≤64) _) hr.units
section
variable {X:Cx}
theorem pv (i:Nat) (hN:X.N[i]?=some x:=by rfl) (hv:Vis X.env.scope x:=by first|exact Ff rfl|exact Or.inr (Ff rfl)|exact Or.inr (Or.inr rfl)) (hd:(x == ("__debug__":Str))=false:=by decide)
  (hcd:(x == ("__classdict__":Str))=false:=by decide):PE X (.Name x pos) (jmc i):=jsW hN hv hd hcd
end
theorem jbJ {A:Prop} (h:B):if false=true then A else B:=by
 rw [Cc C7];exact h
theorem vG {A:Prop} (h:A):if true=true then A else B:=by
 rw [Ce rfl];exact h
theorem jB {c A:Prop} [Decidable c] (h1:c→A) (h2:¬c→B):if c then A else B:=by
 by_cases h:c
 ·rw [Ce h];exact h1 h
 ·rw [Cc h];exact h2 h
noncomputable def jn (H H':Hp):Prop:=∀ b o,H b=some o→H' b=some o
theorem jn.refl (H:Hp):jn H H:=fun _ _ h=>h
theorem jn.trans {H1 H2:Hp} (a:jn H H1) (b:jn H1 H2):jn H H2:=fun c o h=>b c o (a c o h)
theorem jn.free {H':Hp} (e:jn H H') {l:Addr} (h:H' l=Option.none):H l=Option.none:=by
 cases q:H l with
 | none=>rfl
 | some o =>
  rw [e l o q] at h;cases h
theorem jn.made {H1:Hp} {x dx C:Addr} (nx:H x=Option.none) (nd:H dx=Option.none) (k:∀ b o,(upd (upd H dx (.own x)) x (.ins C dx [])) b=some o→b≠x→H1 b=some o):jn H H1:=fun b o e =>
 k b o (by rw [ji (jp e nx),ji (jp e nd)];exact e) (jp e nx)
open PySem.W (Frag WData Codec OpenSpec Well WellAll ReadsW ReadsAllW)
mutual
inductive Dw (K:Frag) (H:Hp):V→WData→Prop
 | non:Dw K H .non .none
 | bl (b:Bool):Dw K H (.bl b) (.bool b)
 | int (i:Int):Dw K H (.int i) (.int i)
 | str (x:Str):Dw K H (.str x) (.str x)
 | byt (b:Array UInt8):Dw K H (.byt b) (.bytes b.toList)
 | lst {a:Addr} {xs:List V} {ds:List WData}:SqL K H a xs→jaS K H xs ds→Dw K H (.ref a) (.list ds)
 | tup {a:Addr} {xs:List V} {ds:List WData}:SqT K H a xs→jaS K H xs ds→Dw K H (.ref a) (.tuple ds)
inductive jaS (K:Frag) (H:Hp):List V→List WData→Prop
 | nil:jaS K H [] []
 | cons {v:V} {vs:List V} {d:WData} {ds:List WData}:Dw K H v d→jaS K H vs ds→jaS K H (v :: vs) (d :: ds)
end
theorem jm8 {K:Frag}:∀ ns:List Int,jaS K H (ns.map V.int) (ns.map WData.int)
 | []=>.nil
 | n :: r=>.cons (.int n) (jm8 r)
theorem jnf {K:Frag}:∀ (ns:List Int) (xs:List V),jaS K H xs (ns.map WData.int)→xs=ns.map V.int
 | [],xs,h=>by
  cases h
  rfl
 | n :: r,xs,h=>by
  cases h with
  | cons h1 h2 =>
   cases h1;rw [jnf r _ h2]<;>rfl
section
variable {P:Program} {w:World} {K:Frag} {H:Hp} {h:Heap} {R:PySem.W.WRecords} {cl:Str→Option Addr}
theorem js6 {xs:List V} (hok:HOk P w H h) (KX:K.In h) (q:SqL K H a xs):∃ (its:List Value) (o:Obj) (n:Nat),jx xs its∧h.get? a=some o∧o.cls=.type "list"∧o.data=.seq its.toArray n:=by
 rcases q with q|⟨o,its,n,e,hc,_,hd,_,hv⟩
 ·obtain ⟨_,its,n,hv,e⟩:=(show vb P w H h a (.lst xs) from q.ok hok);exact ⟨its,_,n,hv,e,rfl,rfl⟩
 ·exact ⟨its.toList,o,n,hv,KX _ _ e,hc,by simp [hd]⟩
theorem js7 {xs:List V} (hok:HOk P w H h) (KX:K.In h) (q:SqT K H a xs):∃ (its:List Value) (o:Obj) (n:Nat),jx xs its∧h.get? a=some o∧o.cls=.type "tuple"∧o.data=.seq its.toArray n:=by
 rcases q with q|⟨o,its,n,e,hc,hd,_,hv⟩
 ·obtain ⟨_,its,hv,o,e,hc,n,hd⟩:=(show vb P w H h a (.tup xs) from q.ok hok);exact ⟨its,o,n,hv,e,hc,hd⟩
 ·exact ⟨its.toList,o,n,hv,KX _ _ e,hc,by simp [hd]⟩
mutual
theorem Dw.reads (hok:HOk P w H h) (KX:K.In h):∀ (d:WData) (v:V) (u:Value),Dw K H v d→RelV v u→∃ as,ReadsW R cl h u d as
 | .none,_,_,x,r=>by
  cases x;cases r;exact ⟨_,ReadsW.none⟩
 | .bool b,_,_,x,r=>by
  cases x;cases r;exact ⟨_,ReadsW.bool b⟩
 | .int i,_,_,x,r=>by
  cases x;obtain ⟨t,rfl⟩:=r;exact ⟨_,ReadsW.int i t⟩
 | .str s,_,_,x,r=>by
  cases x;obtain ⟨t,rfl⟩:=r;exact ⟨_,ReadsW.str s t⟩
 | .bytes b,_,_,x,r=>by
  cases x;obtain ⟨t,rfl⟩:=r;exact ⟨_,ReadsW.bytes _ t⟩
 | .list ds,_,_,x,r=>by
  cases x with
  | lst hs ha =>
   cases r;obtain ⟨its,o,n,rv,ho,hc,hd⟩:=js6 hok KX hs;obtain ⟨as,hr⟩:=Dw.readsAll hok KX ds _ its ha rv;exact ⟨_,ReadsW.list ho hc hd hr⟩
 | .tuple ds,_,_,x,r=>by
  cases x with
  | tup hs ha =>
   cases r;obtain ⟨its,o,n,rv,ho,hc,hd⟩:=js7 hok KX hs;obtain ⟨as,hr⟩:=Dw.readsAll hok KX ds _ its ha rv;exact ⟨_,ReadsW.tuple ho hc hd hr⟩
 | .float _,_,_,x,_=>by cases x
 | .dict _,_,_,x,_=>by cases x
 | .bytearray _,_,_,x,_=>by cases x
 | .set _,_,_,x,_=>by cases x
 | .frozenset _,_,_,x,_=>by cases x
 | .obj _ _,_,_,x,_=>by cases x
theorem Dw.readsAll (hok:HOk P w H h) (KX:K.In h):∀ (ds:List WData) (vs:List V) (us:List Value),jaS K H vs ds→jx vs us→∃ as,ReadsAllW R cl h us ds as
 | [],_,_,x,r=>by
  cases x;cases r;exact ⟨_,ReadsAllW.nil⟩
 | d :: ds,_,_,x,r=>by
  cases x with
  | cons h1 h2 =>
   cases r with
   | cons r1 r2 =>
    obtain ⟨as,q1⟩:=Dw.reads hok KX d _ _ h1 r1;obtain ⟨bs,q2⟩:=Dw.readsAll hok KX ds _ _ h2 r2;exact ⟨_,ReadsAllW.cons q1 q2⟩
end
end
mutual
noncomputable def plW:WData→Bool
 | .none=>true
 | .bool _=>true
 | .int _=>true
 | .str _=>true
 | .bytes _=>true
 | .list xs=>jbK xs
 | .tuple xs=>jbK xs
 | _=>false
noncomputable def jbK:List WData→Bool
 | []=>true
 | x :: r=>plW x && jbK r
end
theorem jlA {α:Type} {f:α→WData} (h:∀ a,plW (f a)=true):∀ l:List α,jbK (l.map f)=true
 | []=>rfl
 | x :: r=>by
  show (plW (f x) && jbK (r.map f))=true;rw [h x,jlA h r]<;>rfl
theorem jbE:∀ (c:Codec) (a:c.denote),plW (c.enc a)=true
 | .unit,_=>rfl
 | .bool,_=>rfl
 | .int _ _,_=>rfl
 | .nat _ _,_=>rfl
 | .u8,_=>rfl
 | .bytes _ _,_=>rfl
 | .text _ _ _ _,_=>rfl
 | .list _ _ c,a=>jlA (fun x=>jbE c x) a
 | .pair c d,a=>by
  show (plW (c.enc a.1) && (plW (d.enc a.2) && true))=true;rw [jbE c a.1,jbE d a.2]<;>rfl
 | .triple c d e,a=>by
  show (plW (c.enc a.1) && (plW (d.enc a.2.1) && (plW (e.enc a.2.2) && true)))=true;rw [jbE c a.1,jbE d a.2.1,jbE e a.2.2]<;>rfl
 | .option c,none=>rfl
 | .option c,some x=>jbE c x
theorem jjL:∀ (cs:List Codec) (a:Codec.denoteAll cs),jbK (Codec.encAll cs a)=true
 | [],_=>rfl
 | c :: cs,a=>by
  show (plW (c.enc a.1) && jbK (Codec.encAll cs a.2))=true;rw [jbE c a.1,jjL cs a.2]<;>rfl
theorem jeF:∀ {xs:List WData} {d:WData},d∈xs→d.weight≤WData.weightAll xs
 | [],d,h=>absurd h (by simp)
 | x :: r,d,h=>by
  show d.weight≤x.weight+1+WData.weightAll r;rcases Cp.mp h with e|m
  ·rw [e];omega
  ·have z:=jeF m;omega
noncomputable def toV:Value→V
 | .none=>.non
 | .bool b=>.bl b
 | .int i _=>.int i
 | .str x _=>.str x
 | .bytes b _=>.byt b
 | .ref a=>.ref a
 | _=>.non
noncomputable def OkU (A:List Addr):Value→Prop
 | .none=>True
 | .bool _=>True
 | .int _ _=>True
 | .str _ _=>True
 | .bytes _ _=>True
 | .ref a=>a∈A
 | _=>False
theorem OkU.mono {B:List Addr} (h:∀ a∈A,a∈B):∀ {u:Value},OkU A u→OkU B u:=fun {u} x=>by
 cases u with
 | ref a=>exact h a x
 | none=>trivial
 | bool b=>trivial
 | int i t=>trivial
 | str s t=>trivial
 | bytes b t=>trivial
 | _=>exact False.elim x
theorem jqZ {u:Value} (x:OkU A u):RelV (toV u) u:=by
 cases u with
 | ref a=>rfl
 | none=>rfl
 | bool b=>rfl
 | int i t=>exact ⟨t,rfl⟩
 | str s t=>exact ⟨t,rfl⟩
 | bytes b t=>exact ⟨t,rfl⟩
 | _=>exact False.elim x
theorem jbq:∀ {vs:List Value},(∀ u∈vs,OkU A u)→jx (vs.map toV) vs
 | [],_=>.nil
 | u :: r,h=>.cons (jqZ (h u (Cf ..))) (jbq fun x hx=>h x (Cg _ hx))
noncomputable def jaI (h:Heap) (A:List Addr) (a:Addr):Prop:=∃ vs:List Value,vs.length≤sizeLine∧(∀ u∈vs,OkU A u) ∧
 (h.get? a=some { cls:=.type "list",data:=.seq vs.toArray }∨h.get? a=some { cls:=.type "tuple",data:=.seq vs.toArray })
theorem jaI.mono {B:List Addr} (k:∀ a∈A,a∈B) (x:jaI h A a):jaI h B a:=by
 obtain ⟨vs,h1,h2,h3⟩:=x;exact ⟨vs,h1,fun u hu=>(h2 u hu).mono k,h3⟩
theorem jbv:∀ {vs:List Value} {ds:List WData},WellAll P h vs ds→vs.length=ds.length
 | _,_,.nil=>rfl
 | _,_,.cons _ b=>by
  show _+1=_+1;rw [jbv b]
theorem jj3 {v:Value} (x:Well P h v (.list ds)):∃ (a:Addr) (vs:List Value),v=.ref a∧h.get? a=some { cls:=.type "list",data:=.seq vs.toArray }∧WellAll P h vs ds:=by
 cases x with
 | list ho hall=>exact ⟨_,_,rfl,ho,hall⟩
theorem jiI {v:Value} (x:Well P h v (.tuple ds)):∃ (a:Addr) (vs:List Value),v=.ref a∧h.get? a=some { cls:=.type "tuple",data:=.seq vs.toArray }∧WellAll P h vs ds:=by
 cases x with
 | tuple ho hall=>exact ⟨_,_,rfl,ho,hall⟩
theorem jj2 {us:List Value} {d:WData} (x:WellAll P h us (d :: ds)):∃ (v:Value) (vs:List Value),us=v :: vs∧Well P h v d∧WellAll P h vs ds:=by
 cases x with
 | cons a b=>exact ⟨_,_,rfl,a,b⟩
theorem jux {n:Nat} (h:n≤1048576):n≤sizeLine:=Da h (by decide)
section
variable {P:Params} {h:Heap}
mutual
theorem jqa:∀ (d:WData) (v:Value),Well P h v d→plW d=true→d.weight≤1048576→∃ A:List Addr,OkU A v∧∀ a∈A,jaI h A a
 | .none,_,x,_,_=>by
  cases x;exact ⟨[],trivial,fun a m=>absurd m (by simp)⟩
 | .bool b,_,x,_,_=>by
  cases x;exact ⟨[],trivial,fun a m=>absurd m (by simp)⟩
 | .int i,_,x,_,_=>by
  cases x;exact ⟨[],trivial,fun a m=>absurd m (by simp)⟩
 | .str s,_,x,_,_=>by
  cases x;exact ⟨[],trivial,fun a m=>absurd m (by simp)⟩
 | .bytes b,_,x,_,_=>by
  cases x;exact ⟨[],trivial,fun a m=>absurd m (by simp)⟩
 | .list ds,_,x,p,z=>by
  obtain ⟨a,vs,rfl,ho,hall⟩:=jj3 x;have z2:WData.weightAll ds≤1048576:=z;obtain ⟨A,h1,h2⟩:=jea ds _ hall p fun d hd=>Da (jeF hd) z2;have k:∀ b∈A,b∈a :: A:=fun b hb=>Cg _ hb;refine ⟨a :: A,Cf ..,fun b hb=>?_⟩;rcases Cp.mp hb with e|m
  ·rw [e];exact ⟨vs,jux (by rw [jbv hall];exact Da (PySem.W.length_le_weightAllW ds) z2),fun u hu=>(h1 u hu).mono k,.inl ho⟩
  ·exact (h2 b m).mono k
 | .tuple ds,_,x,p,z=>by
  obtain ⟨a,vs,rfl,ho,hall⟩:=jiI x;have z2:WData.weightAll ds≤1048576:=z;obtain ⟨A,h1,h2⟩:=jea ds _ hall p fun d hd=>Da (jeF hd) z2;have k:∀ b∈A,b∈a :: A:=fun b hb=>Cg _ hb;refine ⟨a :: A,Cf ..,fun b hb=>?_⟩;rcases Cp.mp hb with e|m
  ·rw [e];exact ⟨vs,jux (by rw [jbv hall];exact Da (PySem.W.length_le_weightAllW ds) z2),fun u hu=>(h1 u hu).mono k,.inr ho⟩
  ·exact (h2 b m).mono k
 | .float _,_,_,p,_=>Bool.noConfusion (show false=true from p)
 | .dict _,_,_,p,_=>Bool.noConfusion (show false=true from p)
 | .bytearray _,_,_,p,_=>Bool.noConfusion (show false=true from p)
 | .set _,_,_,p,_=>Bool.noConfusion (show false=true from p)
 | .frozenset _,_,_,p,_=>Bool.noConfusion (show false=true from p)
 | .obj _ _,_,_,p,_=>Bool.noConfusion (show false=true from p)
theorem jea:∀ (ds:List WData) (vs:List Value),WellAll P h vs ds→jbK ds=true→(∀ d∈ds,d.weight≤1048576)→∃ A:List Addr,(∀ u∈vs,OkU A u)∧∀ a∈A,jaI h A a
 | [],_,x,_,_=>by
  cases x;exact ⟨[],fun u m=>absurd m (by simp),fun a m=>absurd m (by simp)⟩
 | d :: ds,_,x,p,z=>by
  obtain ⟨v,vs,rfl,x1,x2⟩:=jj2 x;have q:plW d=true∧jbK ds=true:=Lb.mp p;obtain ⟨A,a1,a2⟩:=jqa d v x1 q.1 (z d (Cf ..));obtain ⟨B,b1,b2⟩:=jea ds vs x2 q.2 fun e he=>z e (Cg _ he);have kA:∀ b∈A,b∈A++B:=fun b hb=>Ds.mpr (.inl hb);have kB:∀ b∈B,b∈A++B:=fun b hb=>Ds.mpr (.inr hb);refine ⟨A++B,fun u hu=>?_,fun b hb=>?_⟩
  ·rcases Cp.mp hu with e|m
   ·rw [e];exact a1.mono kA
   ·exact (b1 u m).mono kB
  ·rcases Ds.mp hb with m|m
   ·exact (a2 b m).mono kA
   ·exact (b2 b m).mono kB
end
end
noncomputable def jn4 (o:Obj):Option HO:=match o.data with
 | .seq vs _=>if (o.cls == Value.type "list")=true then some (.frz o (.lst (vs.toList.map toV))) else some (.frz o (.tup (vs.toList.map toV)))
 | _=>none
noncomputable def zO (K:Frag) (h:Heap) (A:List Addr):Hp:=fun b=>if b∈A then (if (K.lookup b).isNone=true then (h.get? b).bind jn4 else none) else none
noncomputable def jrb (H:Hp):Prop:=∀ b,H b=none∨∃ o u,H b=some (.frz o u)
theorem jk6 (vs:List Value):jn4 { cls:=.type "list",data:=.seq vs.toArray }=some (.frz { cls:=.type "list",data:=.seq vs.toArray } (.lst (vs.map toV))):=by
 show (if (Value.type "list" == Value.type "list")=true then some (HO.frz { cls:=.type "list",data:=.seq vs.toArray } (.lst (vs.toArray.toList.map toV))) else some (HO.frz { cls:=.type "list",data:=.seq vs.toArray } (.tup (vs.toArray.toList.map toV))))=_;rw [Ce (beq_self_eq_true _)]
theorem jk7 (vs:List Value):jn4 { cls:=.type "tuple",data:=.seq vs.toArray }=some (.frz { cls:=.type "tuple",data:=.seq vs.toArray } (.tup (vs.map toV))):=by
 show (if (Value.type "tuple" == Value.type "list")=true then some (HO.frz { cls:=.type "tuple",data:=.seq vs.toArray } (.lst (vs.toArray.toList.map toV))) else some (HO.frz { cls:=.type "tuple",data:=.seq vs.toArray } (.tup (vs.toArray.toList.map toV))))=_;rw [Cc (by decide)]
section
variable {P:Program} {w:World} {K:Frag} {h:Heap} {A:List Addr}
theorem jfV {o:Obj} (hb:b∈A) (hk:K.lookup b=none) (e:h.get? b=some o):zO K h A b=jn4 o:=by
 unfold zO;rw [Ce hb,hk,Ce (show (none:Option Obj).isNone=true from rfl),e]<;>rfl
theorem jrM {u:HO} (q:zO K h A b=some u):b∈A∧K.lookup b=none:=by
 unfold zO at q;by_cases hb:b∈A
 ·rw [Ce hb] at q;cases hk:K.lookup b with
  | none=>exact ⟨hb,rfl⟩
  | some o =>
   rw [hk,Cc (by simp)] at q;cases q
 ·rw [Cc hb] at q;cases q
theorem jfW (ar:∀ a∈A,jaI h A a) {u:HO} (q:zO K h A b=some u):K.lookup b=none∧∃ vs:List Value,vs.length≤sizeLine∧(∀ u∈vs,OkU A u) ∧
  ((h.get? b=some { cls:=.type "list",data:=.seq vs.toArray }∧u=.frz { cls:=.type "list",data:=.seq vs.toArray } (.lst (vs.map toV))) ∨
   (h.get? b=some { cls:=.type "tuple",data:=.seq vs.toArray }∧u=.frz { cls:=.type "tuple",data:=.seq vs.toArray } (.tup (vs.map toV)))):=by
 obtain ⟨hb,hk⟩:=jrM q;obtain ⟨vs,h1,h2,h3⟩:=ar b hb;refine ⟨hk,vs,h1,h2,?_⟩;rcases h3 with e|e
 ·rw [jfV hb hk e,jk6] at q;exact .inl ⟨e,(Cs q).symm⟩
 ·rw [jfV hb hk e,jk7] at q;exact .inr ⟨e,(Cs q).symm⟩
theorem joL (ar:∀ a∈A,jaI h A a):jrb (zO K h A):=fun b=>by
 cases q:zO K h A b with
 | none=>exact .inl rfl
 | some u =>
  obtain ⟨_,vs,_,_,⟨_,e⟩|⟨_,e⟩⟩:=jfW ar q
  ·exact .inr ⟨_,_,by rw [e]⟩
  ·exact .inr ⟨_,_,by rw [e]⟩
theorem jro (ar:∀ a∈A,jaI h A a):HOk P w (zO K h A) h:=fun b u q=>by
 obtain ⟨_,vs,h1,h2,⟨e,rfl⟩|⟨e,rfl⟩⟩:=jfW ar q
 ·exact ⟨e,by rw [Cb];exact h1,vs,_,jbq h2,e⟩
 ·exact ⟨e,by rw [Cb];exact h1,vs,jbq h2,_,e,rfl,_,rfl⟩
theorem jf6 {c c':Value} {us:List Value} (e:(some { cls:=c,data:=.seq vs.toArray }:Option Obj)=some { cls:=c',data:=.seq us.toArray }):c=c'∧vs=us:=by
 have e1:=Cs e;have e2:c=c':=D7 Obj.cls e1;have e3:Data.seq vs.toArray=Data.seq us.toArray:=D7 Obj.data e1;injection e3 with e4;refine ⟨e2,?_⟩;have e5:=D7 Array.toList e4;simpa using e5
theorem jtW (KX:K.In h) (ar:∀ a∈A,jaI h A a) (ha:a∈A) (e:h.get? a=some { cls:=.type "list",data:=.seq vs.toArray }):(∀ u∈vs,OkU A u)∧SqL K (zO K h A) a (vs.map toV):=by
 obtain ⟨us,h1,h2,h3⟩:=ar a ha;have hu:us=vs:=by
  rcases h3 with q|q
  ·rw [e] at q;exact (jf6 q).2.symm
  ·rw [e] at q;exact absurd (Value.type.inj (jf6 q).1) (by decide)
 subst hu;refine ⟨h2,?_⟩;cases hk:K.lookup a with
 | none=>exact .inl (.inr ⟨_,by rw [jfV ha hk e,jk6]⟩)
 | some o =>
  have e2:=KX a o hk;rw [e] at e2;obtain rfl:=Cs e2;exact .inr ⟨_,us.toArray,_,hk,rfl,rfl,rfl,by rw [Cy];exact h1,by simpa using jbq h2⟩
theorem jtX (KX:K.In h) (ar:∀ a∈A,jaI h A a) (ha:a∈A) (e:h.get? a=some { cls:=.type "tuple",data:=.seq vs.toArray }):(∀ u∈vs,OkU A u)∧SqT K (zO K h A) a (vs.map toV):=by
 obtain ⟨us,h1,h2,h3⟩:=ar a ha;have hu:us=vs:=by
  rcases h3 with q|q
  ·rw [e] at q;exact absurd (Value.type.inj (jf6 q).1) (by decide)
  ·rw [e] at q;exact (jf6 q).2.symm
 subst hu;refine ⟨h2,?_⟩;cases hk:K.lookup a with
 | none=>exact .inl (.inr ⟨_,by rw [jfV ha hk e,jk7]⟩)
 | some o =>
  have e2:=KX a o hk;rw [e] at e2;obtain rfl:=Cs e2;exact .inr ⟨_,us.toArray,_,hk,rfl,rfl,by rw [Cy];exact h1,by simpa using jbq h2⟩
mutual
theorem jsu {Pm:Params} (KX:K.In h) (ar:∀ a∈A,jaI h A a):∀ (d:WData) (v:Value),Well Pm h v d→plW d=true→OkU A v→Dw K (zO K h A) (toV v) d
 | .none,_,x,_,_=>by
  cases x;exact .non
 | .bool b,_,x,_,_=>by
  cases x;exact .bl b
 | .int i,_,x,_,_=>by
  cases x;exact .int i
 | .str s,_,x,_,_=>by
  cases x;exact .str s
 | .bytes b,_,x,_,_=>by
  cases x;have z:=Dw.byt (K:=K) (H:=zO K h A) b.toArray;exact z
 | .list ds,_,x,p,hu=>by
  obtain ⟨a,vs,rfl,ho,hall⟩:=jj3 x;obtain ⟨h2,hs⟩:=jtW KX ar hu ho;exact .lst hs (jhK KX ar ds _ hall p h2)
 | .tuple ds,_,x,p,hu=>by
  obtain ⟨a,vs,rfl,ho,hall⟩:=jiI x;obtain ⟨h2,hs⟩:=jtX KX ar hu ho;exact .tup hs (jhK KX ar ds _ hall p h2)
 | .float _,_,_,p,_=>Bool.noConfusion (show false=true from p)
 | .dict _,_,_,p,_=>Bool.noConfusion (show false=true from p)
 | .bytearray _,_,_,p,_=>Bool.noConfusion (show false=true from p)
 | .set _,_,_,p,_=>Bool.noConfusion (show false=true from p)
 | .frozenset _,_,_,p,_=>Bool.noConfusion (show false=true from p)
 | .obj _ _,_,_,p,_=>Bool.noConfusion (show false=true from p)
theorem jhK {Pm:Params} (KX:K.In h) (ar:∀ a∈A,jaI h A a):∀ (ds:List WData) (vs:List Value),WellAll Pm h vs ds→jbK ds=true→(∀ u∈vs,OkU A u)→jaS K (zO K h A) (vs.map toV) ds
 | [],_,x,_,_=>by
  cases x;exact .nil
 | d :: ds,_,x,p,hu=>by
  obtain ⟨v,vs,rfl,x1,x2⟩:=jj2 x;have q:plW d=true∧jbK ds=true:=Lb.mp p;exact .cons (jsu KX ar d v x1 q.1 (hu _ (Cf ..))) (jhK KX ar ds vs x2 q.2 fun u m=>hu u (Cg _ m))
end
end
end L2
namespace Rw
open PySem PyProof.Rows
set_option tactic.hygienic true
open PySem.Sem (wp)
class Gd (S:Value→Prop) (α:Type) where
 g:α→Prop
variable {S:Value→Prop}
noncomputable instance:Gd S (Value×Value):=⟨fun p=>S p.1⟩
noncomputable instance:Gd S (Array (Value×Value)):=⟨fun a=>∀ p,p∈a.toList→S p.1⟩
noncomputable instance:Gd S Nat:=⟨fun _=>True⟩
noncomputable instance:Gd S Bool:=⟨fun _=>True⟩
noncomputable instance:Gd S Unit:=⟨fun _=>True⟩
noncomputable instance {α:Type} [Gd S α]:Gd S (Option α):=⟨fun o=>∀ a,o=some a→Gd.g S a⟩
noncomputable instance {α β:Type} [Gd S α] [Gd S β]:Gd S (α×β):=⟨fun p=>Gd.g S p.1∧Gd.g S p.2⟩
noncomputable instance {α:Type} [Gd S α]:Gd S (ForInStep α):=⟨fun r=>match r with|.done a=>Gd.g S a|.yield a=>Gd.g S a⟩
variable {prog:Program} {w:World}
structure Wh where
 ctx:Ctx
 sa:Shared
 sb:Shared
 kd:SortKind
noncomputable def St4 (S:Value→Prop) (kd:SortKind) (st:SortSt):Prop:=kindOf st=kd∧∀ p,p∈(arrOf st).toList→S p.1
noncomputable def Tr (prog:Program) (w:World) (S:Value→Prop) (W:Wh) {α:Type} [Gd S α] (m:StateT SortSt Sem α):Prop :=
 ∀ st,St4 S W.kd st→∀ (p:Pos) (Q2:α×SortSt→Pos→Shared→Prop) (E2:Value→Pos→Shared→Prop),wp (model prog w) W.ctx (m.run st) Q2 E2 p W.sb →
  ∃ r p',Q2 r p' W.sb∧St4 S W.kd r.2∧Gd.g S r.1∧∀ (Q1:α×SortSt→Shared→Prop) (E1:Value→Pos→Shared→Prop) (p:Pos),Q1 r W.sa→wp (model prog w) W.ctx (m.run st) (fun a _ s=>Q1 a s) E1 p W.sa
variable {W:Wh} {α β:Type} [Gd S α] [Gd S β]
theorem Tr.pure {a:α} (h:Gd.g S a):Tr prog w S W (Pure.pure a:StateT SortSt Sem α):=by
 intro st hI p Q2 E2 h2;exact ⟨(a,st),p,h2,hI,h,fun Q1 E1 p q=>q⟩
theorem Tr.bind {m:StateT SortSt Sem α} {f:α→StateT SortSt Sem β} (h:Tr prog w S W m) (hf:∀ a,Gd.g S a→Tr prog w S W (f a)):Tr prog w S W (m >>= f):=by
 intro st hI p Q2 E2 h2;rw [StateT.run_bind,Gi] at h2;obtain ⟨r,p1,q1,hI1,hg1,k1⟩:=h st hI p _ E2 h2;obtain ⟨r2,p2,q2,hI2,hg2,k2⟩:=hf r.1 hg1 r.2 hI1 p1 Q2 E2 q1;refine ⟨r2,p2,q2,hI2,hg2,fun Q1 E1 p q=>?_⟩;rw [StateT.run_bind,Gi];exact Sem.wp_mono _ _ _ (fun a p' s' z=>z p') (fun _ _ _ z=>z) p _ (k1 (fun a s'=>∀ p',wp (model prog w) W.ctx ((f a.1).run a.2) (fun a _ s=>Q1 a s) E1 p' s') E1 p fun p'=>k2 Q1 E1 p' q)
theorem Tr.getB {f:SortSt→StateT SortSt Sem β} (hf:∀ st,St4 S W.kd st→Tr prog w S W (f st)):Tr prog w S W (get >>= f):=by
 intro st hI p Q2 E2 h2;have e:(get >>= f:StateT SortSt Sem β).run st=(f st).run st:=rfl;rw [e] at h2 ⊢;exact hf st hI st hI p Q2 E2 h2
theorem Tr.modify {f:SortSt→SortSt} (hf:∀ st,St4 S W.kd st→St4 S W.kd (f st)):Tr prog w S W (α:=PUnit) (_root_.modify f:StateT SortSt Sem PUnit):=by
 intro st hI p Q2 E2 h2;exact ⟨((),f st),p,h2,hf st hI,trivial,fun Q1 E1 p q=>q⟩
theorem Tr.set {st':SortSt} (hf:St4 S W.kd st'):Tr prog w S W (α:=PUnit) (MonadStateOf.set st':StateT SortSt Sem PUnit):=by
 intro st hI p Q2 E2 h2;exact ⟨((),st'),p,h2,hf,trivial,fun Q1 E1 p q=>q⟩
theorem Tr.rule {tag:String}:Tr prog w S W (liftM (PySem.rule tag):StateT SortSt Sem Unit):=by
 intro st hI p Q2 E2 h2;exact ⟨((),st),p,h2,hI,trivial,fun Q1 E1 p q=>q⟩
theorem Tr.unsup {what:String}:Tr prog w S W (liftM (PySem.unsupported what:Sem α):StateT SortSt Sem α):=by
 intro st hI p Q2 E2 h2;exact absurd h2 (fun h=>h)
theorem Tr.ite {c:Prop} [Decidable c] {a b:StateT SortSt Sem α} (h1:c→Tr prog w S W a) (h2:¬c→Tr prog w S W b):Tr prog w S W (if c then a else b):=by
 split
 ·exact h1 ‹_›
 ·exact h2 ‹_›
theorem Tr.list {f:Nat→β→StateT SortSt Sem (ForInStep β)} (hs:∀ i b,Gd.g S b→Tr prog w S W (f i b)):∀ (l:List Nat) (b:β),Gd.g S b→Tr prog w S W (forIn l b f)
 | [],b,h=>by rw [List.forIn_nil];exact Tr.pure h
 | x :: l,b,h=>by
  rw [List.forIn_cons];refine Tr.bind (hs x b h) fun r hr=>?_;cases r with
  | done b'=>exact Tr.pure hr
  | yield b'=>exact Tr.list hs l b' hr
theorem Tr.range {x y:Nat} {f:Nat→β→StateT SortSt Sem (ForInStep β)} {b:β} (hb:Gd.g S b) (hs:∀ i b,Gd.g S b→Tr prog w S W (f i b)):Tr prog w S W (forIn [x:y] b f):=by
 rw [Std.Legacy.Range.forIn_eq_forIn_range'];exact Tr.list hs _ b hb
noncomputable def Alike (prog:Program) (w:World) (S:Value→Prop) (W:Wh):Prop:=∀ x y,S x→S y→∃ r:Bool,
 (∀ (Q:Bool→Pos→Shared→Prop) E p,wp (model prog w) W.ctx (keyLt' W.kd x y) Q E p W.sb→∃ p',Q r p' W.sb)∧(∀ (Q:Bool→Shared→Prop) E p,Q r W.sa→wp (model prog w) W.ctx (keyLt' W.kd x y) (fun a _ s=>Q a s) E p W.sa)
theorem Tr.lt (H:Alike prog w S W) {x y:Keyed} (hx:S x.1) (hy:S y.1):Tr prog w S W (lt' x y):=by
 intro st hI p Q2 E2 h2;obtain ⟨r,k2,k1⟩:=H x.1 y.1 hx hy;have e:(lt' x y).run st=(do
   let c ←(keyLt' (kindOf st) x.1 y.1).attempt
   match c with
   | .ok b=>Pure.pure (some b,st)
   | .error e=>Pure.pure (none,SortSt.mk' (kindOf st) (arrOf st) (pendingOf st) (gallopOf st) (some e)):Sem (Option Bool×SortSt)):=by
  rw [lt'_eq];show ((keyLt' (kindOf st) x.1 y.1).attempt >>= fun a=>Pure.pure (a,st)) >>= _=_;rw [bind_assoc];congr 1;funext c;rw [pure_bind];cases c<;>rfl
 rw [e,hI.1,Gi,Sem.wp_attempt] at h2;obtain ⟨p',q'⟩:=k2 _ _ p h2;refine ⟨(some r,st),p',q',hI,fun _ _=>trivial,fun Q1 E1 p q=>?_⟩;rw [e,hI.1,Gi,Sem.wp_attempt];exact Sem.wp_mono _ _ _ (fun a p' s' z=>z p') (fun _ _ _ z=>z) p _ (k1 (fun a s'=>∀ p',wp (model prog w) W.ctx (Pure.pure (some a,st):Sem (Option Bool×SortSt)) (fun a _ s=>Q1 a s) E1 p' s') _ p fun p'=>q)
theorem Tr.elem {arr:Array Keyed} {i:Nat} (h:∀ p,p∈arr.toList→S p.1):Tr prog w S W (elem' arr i):=by
 rw [elem'_eq];split
 ·rename_i p hp;exact Tr.pure (α:=Value×Value) (h p (by obtain ⟨h1,h2⟩:=D9.mp hp;rw [←h2];simp))
 ·exact Tr.unsup
theorem Tr.ltAt (H:Alike prog w S W) {i j:Nat}:Tr prog w S W (ltAt' i j):=by
 rw [ltAt'_eq];refine Tr.getB fun st hst=>?_;exact Tr.bind (Tr.elem hst.2) fun a ha=>Tr.bind (Tr.elem hst.2) fun b hb=>Tr.lt H ha hb
theorem Tr.rev {i j:Nat}:Tr prog w S W (reverseSlice' i j):=by
 rw [reverseSlice'_eq];refine Tr.modify fun st hst=>⟨hst.1,fun p hp=>hst.2 p ?_⟩;exact (Fc.mp (mirror_perm (arrOf st) i j _)).mem_iff.mp hp
theorem Tr.move {i j:Nat}:Tr prog w S W (moveDown' i j):=by
 rw [moveDown'_eq];refine Tr.modify fun st hst=>⟨hst.1,fun p hp=>hst.2 p ?_⟩;exact (Fc.mp (bubble_perm (arrOf st) _ _)).mem_iff.mp hp
theorem jb4:Gd.g S (none:Option α):=fun _ h=>nomatch h
theorem jb7 {a:α} (h:Gd.g S a):Gd.g S (some a):=fun _ e=>Cs e ▸ h
theorem jb6 {a:α} {b:β} (h1:Gd.g S a) (h2:Gd.g S b):Gd.g S (a,b):=⟨h1,h2⟩
theorem jb3 {a:α} (h:Gd.g S a):Gd.g S (ForInStep.done a):=h
theorem jbh {a:α} (h:Gd.g S a):Gd.g S (ForInStep.yield a):=h
theorem jdw {a:Nat}:Gd.g S a:=trivial
theorem jdv {a:Bool}:Gd.g S a:=trivial
theorem jdx {a:Unit}:Gd.g S a:=trivial
theorem jb5 {a:Option Nat}:Gd.g S a:=fun _ _=>trivial
theorem jbg {a:Option Bool}:Gd.g S a:=fun _ _=>trivial
theorem jqp {a:Option Unit}:Gd.g S a:=fun _ _=>trivial
theorem jmR (H:Alike prog w S W) (lo nrem:Nat):Tr prog w S W (countRun' lo nrem):=by
 rw [countRun'_eq];dsimp only
 repeat' first
  | with_reducible exact Tr.ltAt H
  | with_reducible exact Tr.rev
  | with_reducible exact Tr.rule
  | with_reducible exact jb4
  | with_reducible exact jdw
  | with_reducible exact jb5
  | with_reducible refine jb6 ?_ ?_
  | with_reducible refine jb3 ?_
  | with_reducible refine jbh ?_
  | with_reducible refine jb7 ?_
  | with_reducible refine Tr.pure ?_
  | with_reducible refine Tr.range ?_ fun _ _ _=>?_
  | with_reducible refine Tr.bind ?_ fun _ _=>?_
  | with_reducible refine Tr.ite (fun _=>?_) (fun _=>?_)
  | split
theorem jky (H:Alike prog w S W) (lo n ok:Nat):Tr prog w S W (binarySort' lo n ok):=by
 rw [binarySort'_eq];dsimp only
 repeat' first
  | with_reducible exact Tr.ltAt H
  | with_reducible exact Tr.move
  | with_reducible exact Tr.rule
  | with_reducible exact jb4
  | with_reducible exact jdw
  | with_reducible exact jb5
  | with_reducible exact jdv
  | with_reducible exact jdx
  | with_reducible exact jbg
  | with_reducible refine jb6 ?_ ?_
  | with_reducible refine jb3 ?_
  | with_reducible refine jbh ?_
  | with_reducible refine jb7 ?_
  | with_reducible refine Tr.pure ?_
  | with_reducible refine Tr.range ?_ fun _ _ _=>?_
  | with_reducible refine Tr.bind ?_ fun _ _=>?_
  | with_reducible refine Tr.ite (fun _=>?_) (fun _=>?_)
  | split
theorem jpX (H:Alike prog w S W) {left:Bool} {key:Keyed} {arr:Array Keyed} {base i:Nat} (hk:S key.1) (ha:∀ p,p∈arr.toList→S p.1):Tr prog w S W (beyond' left key arr base i):=by
 unfold beyond';refine Tr.bind (Tr.elem ha) fun x hx=>?_;refine Tr.ite (fun _=>Tr.lt H hx hk) (fun _=>?_);exact Tr.bind (Tr.lt H hk hx) fun c _=>Tr.pure jbg
theorem jpY (H:Alike prog w S W) {left:Bool} {key:Keyed} {arr:Array Keyed} {base n hint:Nat} (hk:S key.1) (ha:∀ p,p∈arr.toList→S p.1):Tr prog w S W (gallop' left key arr base n hint):=by
 rw [gallop'_eq];dsimp only
 repeat' first
  | with_reducible exact jpX H hk ha
  | with_reducible exact Tr.rule
  | with_reducible exact jb4
  | with_reducible exact jdw
  | with_reducible exact jb5
  | with_reducible exact jdv
  | with_reducible exact jdx
  | with_reducible exact jbg
  | with_reducible refine jb6 ?_ ?_
  | with_reducible refine jb3 ?_
  | with_reducible refine jbh ?_
  | with_reducible refine jb7 ?_
  | with_reducible refine Tr.pure ?_
  | with_reducible refine Tr.range ?_ fun _ _ _=>?_
  | with_reducible refine Tr.bind ?_ fun _ _=>?_
  | with_reducible refine Tr.ite (fun _=>?_) (fun _=>?_)
  | split
theorem jdu {a b:Array Keyed} (h1:Gd.g S (α:=Array (Value×Value)) a) (h2:Gd.g S (α:=Array (Value×Value)) b):Gd.g S (α:=Array (Value×Value)) (a++b):=fun p hp=>by
 rw [Array.toList_append] at hp;rcases Ds.mp hp with h|h
 ·exact h1 p h
 ·exact h2 p h
theorem jnc {a:Array Keyed} {x:Keyed} (h1:Gd.g S (α:=Array (Value×Value)) a) (h2:Gd.g S (α:=Value×Value) x):Gd.g S (α:=Array (Value×Value)) (a.push x):=fun p hp=>by
 rw [Array.toList_push] at hp;rcases Ds.mp hp with h|h
 ·exact h1 p h
 ·rw [Cm.mp h];exact h2
theorem jaE {a:Array Keyed} {i j:Nat} (h1:Gd.g S (α:=Array (Value×Value)) a):Gd.g S (α:=Array (Value×Value)) (a.extract i j):=fun p hp=>by
 rw [Array.toList_extract] at hp;exact h1 p (Lc (List.mem_of_mem_take (by simpa [List.extract] using hp)))
theorem jo8 {a:Array Keyed} (h1:Gd.g S (α:=Array (Value×Value)) a):Gd.g S (α:=Array (Value×Value)) a.reverse:=fun p hp=>by
 rw [Array.toList_reverse] at hp;exact h1 p (Lg.mp hp)
theorem jo7 {x:Keyed} (h2:Gd.g S (α:=Value×Value) x):Gd.g S (α:=Array (Value×Value)) #[x]:=fun p hp=>by
 have:p=x:=by simpa using hp
 rw [this];exact h2
theorem Tr.gal {g:Nat}:Tr prog w S W (setMinGallop' g):=Tr.modify fun st hst=>hst
theorem Tr.range3 {γ δ ε:Type} [Gd S γ] [Gd S δ] [Gd S ε] {x y:Nat} {f:Nat→γ×δ×ε→StateT SortSt Sem (ForInStep (γ×δ×ε))} {b:γ×δ×ε} (hb:Gd.g S b)
  (hs:∀ i r0 out z2,Gd.g S r0→Gd.g S out→Gd.g S z2→Tr prog w S W (f i (r0,out,z2))):Tr prog w S W (forIn [x:y] b f) :=
 Tr.range hb fun i z hz=>hs i z.1 z.2.1 z.2.2 hz.1 hz.2.1 hz.2.2
theorem Tr.bind3 {γ δ ε:Type} [Gd S γ] [Gd S δ] [Gd S ε] {m:StateT SortSt Sem (γ×δ×ε)} {f:γ×δ×ε→StateT SortSt Sem β} (h:Tr prog w S W m)
  (hs:∀ r0 out z2,Gd.g S r0→Gd.g S out→Gd.g S z2→Tr prog w S W (f (r0,out,z2))):Tr prog w S W (m >>= f) :=
 Tr.bind h fun z hz=>hs z.1 z.2.1 z.2.2 hz.1 hz.2.1 hz.2.2
theorem Tr.elemG {arr:Array Keyed} {i:Nat} (h:Gd.g S arr):Tr prog w S W (elem' arr i):=Tr.elem h
theorem Tr.ltG (H:Alike prog w S W) {x y:Keyed} (hx:Gd.g S x) (hy:Gd.g S y):Tr prog w S W (lt' x y):=Tr.lt H hx hy
theorem jb1 (H:Alike prog w S W) {left:Bool} {key:Keyed} {arr:Array Keyed} {base n hint:Nat} (hk:Gd.g S key) (ha:Gd.g S arr):Tr prog w S W (gallop' left key arr base n hint):=jpY H hk ha
theorem Tr.m1 {x:Option Bool} {f:Bool→StateT SortSt Sem α} {g:Option Bool→StateT SortSt Sem α} (h1:∀ b,Tr prog w S W (f b)) (h2:∀ x,Tr prog w S W (g x)):Tr prog w S W (mergeLo'_eq.match_1 (fun _=>StateT SortSt Sem α) x f g):=by
 cases x
 ·exact h2 _
 ·exact h1 _
theorem Tr.m4 {x:Option Nat} {f:Nat→StateT SortSt Sem α} {g:Option Nat→StateT SortSt Sem α} (h1:∀ b,Tr prog w S W (f b)) (h2:∀ x,Tr prog w S W (g x)):Tr prog w S W (mergeLo'_eq.match_4 (fun _=>StateT SortSt Sem α) x f g):=by
 cases x
 ·exact h2 _
 ·exact h1 _
theorem Tr.mr {x:Option β} {f:β→StateT SortSt Sem α} {g:Unit→StateT SortSt Sem α} (h0:Gd.g S x) (h1:∀ b,Gd.g S b→Tr prog w S W (f b)) (h2:Tr prog w S W (g ())):Tr prog w S W (Break.runK.match_1 (fun _=>StateT SortSt Sem α) x f g):=by
 cases x
 ·exact h2
 ·exact h1 _ (h0 _ rfl)
theorem joE (H:Alike prog w S W) {a b:Array Keyed} (ha:Gd.g S (α:=Array (Value×Value)) a) (hb:Gd.g S (α:=Array (Value×Value)) b):Tr prog w S W (α:=Array (Value×Value)) (mergeLo' a b):=by
 rw [mergeLo'_eq];dsimp only;refine Tr.bind Tr.rule fun _ _=>?_;refine Tr.bind (Tr.elem hb) fun x hx=>?_;have hx1:=jo7 hx;refine Tr.ite (fun _=>Tr.pure (jdu (jdu hx1 (jaE ha)) (jaE hb))) (fun _=>?_);refine Tr.ite (fun _=>Tr.pure (jdu (jdu hx1 (jaE hb)) (jaE ha))) (fun _=>?_)
 repeat' first
  | with_reducible exact Tr.elemG ha
  | with_reducible exact Tr.elemG hb
  | with_reducible refine Tr.ltG H ?_ ?_
  | with_reducible refine jb1 H ?_ ?_
  | with_reducible exact Tr.gal
  | with_reducible exact Tr.rule
  | with_reducible exact Tr.unsup
  | with_reducible exact jb4
  | with_reducible exact jdw
  | with_reducible exact jb5
  | with_reducible exact jdv
  | with_reducible exact jdx
  | with_reducible exact jbg
  | with_reducible assumption
  | exact h0 _ rfl
  | with_reducible refine jb6 ?_ ?_
  | with_reducible refine jb3 ?_
  | with_reducible refine jbh ?_
  | with_reducible refine jb7 ?_
  | with_reducible refine jdu ?_ ?_
  | with_reducible refine jnc ?_ ?_
  | with_reducible refine jo8 ?_
  | with_reducible refine jaE ?_
  | with_reducible refine Tr.pure ?_
  | with_reducible refine Tr.getB fun st hst=>?_
  | with_reducible refine Tr.range3 ?_ fun _ r0 out z2 h0 h1 h2=>?_
  | with_reducible refine Tr.bind3 ?_ fun r0 out z2 h0 h1 h2=>?_
  | with_reducible refine Tr.bind ?_ fun _ _=>?_
  | with_reducible refine Tr.ite (fun _=>?_) (fun _=>?_)
  | with_reducible refine Tr.m1 (fun _=>?_) (fun _=>?_)
  | with_reducible refine Tr.m4 (fun _=>?_) (fun _=>?_)
  | with_reducible refine Tr.mr (by assumption) (fun _ _=>?_) ?_
  | dsimp only
theorem jt2 {γ δ ε:Type} [Gd S γ] [Gd S δ] [Gd S ε] {z:γ×δ×ε} (h:Gd.g S z):Gd.g S z.snd.fst:=h.2.1
theorem joD (H:Alike prog w S W) {a b:Array Keyed} (ha:Gd.g S (α:=Array (Value×Value)) a) (hb:Gd.g S (α:=Array (Value×Value)) b):Tr prog w S W (α:=Array (Value×Value)) (mergeHi' a b):=by
 rw [mergeHi'_eq];dsimp only;refine Tr.bind Tr.rule fun _ _=>?_;refine Tr.bind (Tr.elem ha) fun x hx=>?_;have hx1:=jo7 hx
 repeat' first
  | with_reducible exact Tr.elemG ha
  | with_reducible exact Tr.elemG hb
  | with_reducible refine Tr.ltG H ?_ ?_
  | with_reducible refine jb1 H ?_ ?_
  | with_reducible exact Tr.gal
  | with_reducible exact Tr.rule
  | with_reducible exact Tr.unsup
  | with_reducible exact jb4
  | with_reducible exact jdw
  | with_reducible exact jb5
  | with_reducible exact jdv
  | with_reducible exact jdx
  | with_reducible exact jbg
  | with_reducible assumption
  | exact h0 _ rfl
  | with_reducible exact jt2 h2
  | with_reducible refine jb6 ?_ ?_
  | with_reducible refine jb3 ?_
  | with_reducible refine jbh ?_
  | with_reducible refine jb7 ?_
  | with_reducible refine jdu ?_ ?_
  | with_reducible refine jnc ?_ ?_
  | with_reducible refine jo8 ?_
  | with_reducible refine jaE ?_
  | with_reducible refine Tr.pure ?_
  | with_reducible refine Tr.getB fun st hst=>?_
  | with_reducible refine Tr.range3 ?_ fun _ r0 out z2 h0 h1 h2=>?_
  | with_reducible refine Tr.bind3 ?_ fun r0 out z2 h0 h1 h2=>?_
  | with_reducible refine Tr.bind ?_ fun _ _=>?_
  | with_reducible refine Tr.ite (fun _=>?_) (fun _=>?_)
  | with_reducible refine Tr.m1 (fun _=>?_) (fun _=>?_)
  | with_reducible refine Tr.m4 (fun _=>?_) (fun _=>?_)
  | with_reducible refine Tr.mr (by assumption) (fun _ _=>?_) ?_
  | dsimp only
theorem jr2 {st:SortSt} {xs:Array Keyed} (h:St4 S W.kd st) (hx:Gd.g S xs):St4 S W.kd (setArr st xs):=⟨h.1,hx⟩
theorem jrz {l:List (Keyed×Nat)} (k:Nat):∀ {a:Array Keyed},Gd.g S a→(∀ p∈l,S p.1.1)→Gd.g S (l.foldl (fun a (x:Keyed×Nat)=>a.setIfInBounds (k+x.2) x.1) a):=by
 induction l with
 | nil=>intro a ha _;exact ha
 | cons x l ih =>
  intro a ha hl;rw [Fi];refine ih ?_ fun p hp=>hl p (Cg _ hp);intro p hp;rw [Array.toList_setIfInBounds] at hp;rcases List.mem_or_eq_of_mem_set hp with h|h
  ·exact ha p h
  ·rw [h];exact hl x (Cf ..)
theorem joC (H:Alike prog w S W) (i:Nat):Tr prog w S W (mergeAt' i):=by
 rw [mergeAt'_eq];refine Tr.getB fun st hst=>?_;have ha:Gd.g S (arrOf st):=hst.2;dsimp only;split
 ·refine Tr.bind (Tr.set ⟨hst.1,hst.2⟩) fun _ _=>?_;refine Tr.bind (Tr.elemG ha) fun x hx=>?_;refine Tr.bind (jb1 H hx ha) fun k _=>?_;split
  ·refine Tr.ite (fun _=>Tr.pure trivial) (fun _=>?_);refine Tr.bind (Tr.elemG ha) fun y hy=>?_;refine Tr.bind (jb1 H hy ha) fun k2 _=>?_;split
   ·refine Tr.ite (fun _=>Tr.pure trivial) (fun _=>?_);have fin:∀ (j:Nat) (merged:Array Keyed),Gd.g S merged→Tr prog w S W (do
      modify fun s=>setArr s (merged.toList.zipIdx.foldl (fun a (x:Keyed×Nat)=>a.setIfInBounds (j+x.2) x.1) (arrOf s))
      return (failedOf (←get)).isNone):=fun j merged hm=>by
     refine Tr.bind (Tr.modify fun st2 hst2=>jr2 hst2 (jrz j hst2.2 fun p hp=>?_)) fun _ _=>Tr.getB fun _ _=>Tr.pure trivial;exact hm p.1 (by have:=(List.mem_zipIdx hp).2.2;rw [this];exact List.getElem_mem _)
    split
    ·exact Tr.bind (joE H (jaE ha) (jaE ha)) fun m hm=>fin _ m hm
    ·exact Tr.bind (joD H (jaE ha) (jaE ha)) fun m hm=>fin _ m hm
   ·exact Tr.pure trivial
  ·exact Tr.pure trivial
 ·exact Tr.unsup
theorem Tr.pend {g:SortSt→Array (Nat×Nat×Nat)}:Tr prog w S W (α:=PUnit) (_root_.modify fun s=>setPending s (g s):StateT SortSt Sem PUnit):=Tr.modify fun st h=>⟨h.1,h.2⟩
theorem jmS (H:Alike prog w S W):Tr prog w S W sortRuns':=by
 rw [sortRuns'_eq];refine Tr.getB fun st0 hst0=>?_;dsimp only
 repeat' first
  | with_reducible exact jmR H _ _
  | with_reducible exact jky H _ _ _
  | with_reducible exact joC H _
  | with_reducible exact Tr.rule
  | with_reducible exact jb4
  | with_reducible exact jdw
  | with_reducible exact jb5
  | with_reducible exact jdv
  | with_reducible exact jdx
  | with_reducible exact jbg
  | with_reducible exact jqp
  | with_reducible refine jb6 ?_ ?_
  | with_reducible refine jb3 ?_
  | with_reducible refine jbh ?_
  | with_reducible refine jb7 ?_
  | with_reducible refine Tr.pure ?_
  | with_reducible refine Tr.getB fun st hst=>?_
  | with_reducible refine Tr.range ?_ fun _ _ _=>?_
  | with_reducible exact Tr.pend
  | with_reducible refine Tr.bind ?_ fun _ _=>?_
  | with_reducible refine Tr.ite (fun _=>?_) (fun _=>?_)
  | split
noncomputable def vU (n:Nat):Array Value:=Array.replicate n Value.none
noncomputable def jbn (rank:Nat→Nat) (N:Nat):Heap:={ objs:=(Array.range N).map fun i=>{ cls:=.type "tuple",data:=.seq (vU (rank i)) 0 } }
theorem ja0 {rank:Nat→Nat} {N i:Nat} (h:i < N):(jbn rank N).get? i=some { cls:=.type "tuple",data:=.seq (vU (rank i)) 0 }:=by
 unfold Heap.get? jbn;have:((Array.range N).map fun i=>({ cls:=.type "tuple",data:=.seq (vU (rank i)) 0 }:Obj))[i]?=some { cls:=.type "tuple",data:=.seq (vU (rank i)) 0 }:=by simp [h]
 rw [this]
theorem jmm {M:Model} {Γ:Ctx} {a:Addr} {o:Obj} {xs:Array Value} {n:Nat} {Q:Array Value→Pos→Shared→Prop} {E:Value→Pos→Shared→Prop} {p:Pos} {s:Shared} (ho:s.heap.get? a=some o) (hd:o.data=.seq xs n) :
  wp M Γ (Builtin.List.listItems (.ref a)) Q E p s↔Q xs p s:=by
 unfold Builtin.List.listItems seqItems?;dsimp only;rw [Gi,Gi];rw [Sem.wp_load_of M Γ _ p s ho];rw [hd];exact Iff.rfl
theorem jsa {M:Model} {Γ:Ctx} {v:Value} {Q:Bool→Pos→Shared→Prop} {E:Value→Pos→Shared→Prop} {p:Pos} {s:Shared}:wp M Γ (eqBool v v) Q E p s↔Q true p s:=by
 unfold eqBool;rw [Sem.wp_holding,Ce (beq_self_eq_true v)];exact Iff.rfl
theorem jnN {M:Model} {Γ:Ctx} {b:Bool} {x y:Addr} {ox oy:Obj} {n m:Nat} {k l:Nat} {Q:Bool→Pos→Shared→Prop} {E:Value→Pos→Shared→Prop} {p:Pos} {s:Shared} (hx:s.heap.get? x=some ox) (dx:ox.data=.seq (vU n) k) (hy:s.heap.get? y=some oy) (dy:oy.data=.seq (vU m) l) :
  wp M Γ (keyLt' (tuples' b) (.ref x) (.ref y)) Q E p s↔Q (decide (n < m)) p s:=by
 rw [kat_lt_eq,Gi,jmm hx dx,Gi,jmm hy dy];have hz:∀ q∈(vU n).toList.zip (vU m).toList,q=(Value.none,Value.none):=fun q hq=>by
  obtain ⟨q1,q2⟩:=q;have:=Jp hq;unfold vU at this;simp at this;rw [this.1.2,this.2.2]
 have loop:∀ (l:List (Value×Value)) (i:Nat) (R:Option Bool×Unit→Pos→Shared→Prop),(∀ q∈l,q=(Value.none,Value.none)) →
   (wp M Γ (forIn (l.zipIdx i) ((none,()):Option Bool×Unit) fun z __s=>(do
    let __do_lift ←eqBool z.1.1 z.1.2
    if (!__do_lift)=true then do
      let __do_lift ←oneLt' (b && z.2 == 0) z.1.1 z.1.2
      Pure.pure (ForInStep.done (some __do_lift,()))
     else Pure.pure (ForInStep.yield (none,())):Sem (ForInStep (Option Bool×Unit)))) R E p s↔R (none,()) p s):=by
  intro l
  induction l with
  | nil=>intro i R _;rw [List.zipIdx_nil,List.forIn_nil];exact Iff.rfl
  | cons q l ih =>
   intro i R h;rw [List.zipIdx_cons,List.forIn_cons,Gi];have e:=h q (Cf ..);subst e;dsimp only;rw [Gi,jsa];exact ih (i+1) R fun q hq=>h q (Cg _ hq)
 rw [Gi];refine (loop ((vU n).toList.zip (vU m).toList) 0 _ hz).trans ?_;show Q (decide ((vU n).size < (vU m).size)) p s↔_;rw [show (vU n).size=n from Array.size_replicate ..,show (vU m).size=m from Array.size_replicate ..]
@[reducible] noncomputable def rankKind (rank:Nat→Nat) (N:Nat):PyProof.Rows.KeyKind where
 α:=Nat
 blt:=fun a b=>decide (a < b)
 irrefl:=fun a=>by simp
 trans:=fun a b c h1 h2=>by simp at *;omega
 negTrans:=fun a b c h=>by simp at *;omega
 total:=fun a b h1 h2=>by simp at *;omega
 keyOf:=fun v=>match v with
  | .ref a=>if a < N then some (rank a) else none
  | _=>none
 dflt:=0
theorem jjM {rank:Nat→Nat} {N:Nat} {v:Value} {n:Nat} (h:(rankKind rank N).keyOf v=some n):∃ a,v=.ref a∧a < N∧rank a=n:=by
 unfold rankKind at h;cases v<;>simp at h;rename_i a;exact ⟨a,rfl,h.1,h.2⟩
theorem jrV {prog:Program} {w:World} {rank:Nat→Nat} {N:Nat} {s:Shared} (b:Bool):G.LtAt prog w { s with heap:=jbn rank N } (rankKind rank N) (tuples' b):=by
 intro A E x y n m Q hx hy hq;obtain ⟨a,rfl,h1,rfl⟩:=jjM hx;obtain ⟨c,rfl,h2,rfl⟩:=jjM hy;exact fun Γ p _=>(jnN (s:={ s with heap:=jbn rank N }) (ja0 h1) rfl (ja0 h2) rfl).mpr hq
theorem jop {prog:Program} {w:World} {A:Around} {E:Value→Shared→Prop} {s:Shared} {b:Bool} {arr:Array Keyed} (rank:Nat→Nat) (hk:∀ p,p∈arr.toList→∃ a,p.1=Value.ref a) (h2:2≤arr.size)
  (hc:∀ (x y:Addr),(∃ p,p∈arr.toList∧p.1=Value.ref x)→(∃ p,p∈arr.toList∧p.1=Value.ref y)→∀ (Q:Bool→Shared→Prop) (E:Value→Shared→Prop),Q (decide (rank x < rank y)) s→wpAny (model prog w) A (keyLt' (tuples' b) (.ref x) (.ref y)) Q E s) :
  wpS (model prog w) A E s sortRuns' (fun _ st'=>(arrOf st').Perm arr∧failedOf st'=none∧(arrOf st').toList.Pairwise fun p q=>∀ x y,p.1=Value.ref x→q.1=Value.ref y→rank x≤rank y) (SortSt.mk' (tuples' b) arr #[] 7 none):=by
 obtain ⟨N,hN⟩:∃ N,∀ (a:Addr),(∃ p,p∈arr.toList∧p.1=Value.ref a)→a < N:=by
  have:∀ l:List Keyed,∃ N,∀ (a:Addr),(∃ p,p∈l∧p.1=Value.ref a)→a < N:=by
   intro l
   induction l with
   | nil=>exact ⟨0,fun a ⟨p,hp,_⟩=>by cases hp⟩
   | cons q l ih =>
    obtain ⟨N,hN⟩:=ih;refine ⟨N+(match q.1 with|.ref a=>a+1|_=>0),fun a ⟨p,hp,e⟩=>?_⟩;rcases Cp.mp hp with rfl|hp
    ·rw [e];exact C9 (Nat.lt_succ_self a) (Nat.le_add_left _ _)
    ·exact C9 (hN a ⟨p,hp,e⟩) (Nat.le_add_right _ _)
  exact this _
 have keys:KeysOf (rankKind rank N) arr:=fun p hp=>by
  obtain ⟨a,e⟩:=hk p hp;refine ⟨rank a,?_⟩;rw [e];show (if a < N then some (rank a) else none)=some (rank a);rw [Ce (hN a ⟨p,hp,e⟩)]
 have lib:=G.wpS_sortRunsSt (prog:=prog) (w:=w) (A:=A) (E:=E) (s:={ s with heap:=jbn rank N }) (κ:=rankKind rank N) (kd:=tuples' b) (a₀:=arr) (st:=SortSt.mk' (tuples' b) arr #[] 7 none)
  (Q:=fun _ st'=>(arrOf st').Perm arr∧failedOf st'=none∧SortedToK (rankKind rank N) (arrOf st') arr.size) (jrV b) keys ⟨Array.Perm.refl _,rfl,rfl⟩ rfl (Stable.refl _) h2 fun st' a1 a2 a3 a4=>⟨a1,a2,a3⟩
 intro Γ p hΓ;have H:Alike prog w (fun v=>∃ p,p∈arr.toList∧p.1=v) ⟨Γ,s,{ s with heap:=jbn rank N },tuples' b⟩:=by
  rintro _ _ ⟨px,hx,rfl⟩ ⟨py,hy,rfl⟩;obtain ⟨x,ex⟩:=hk px hx;obtain ⟨y,ey⟩:=hk py hy;rw [ex,ey];refine ⟨decide (rank x < rank y),fun Q E p h=>⟨p,?_⟩,fun Q E p q=>?_⟩
  ·exact (jnN (ja0 (hN x ⟨px,hx,ex⟩)) rfl (ja0 (hN y ⟨py,hy,ey⟩)) rfl).mp h
  ·exact Sem.wp_mono _ _ _ (fun _ _ _ z=>z) (fun _ _ _ z=>z.elim) p s (hc x y ⟨px,hx,ex⟩ ⟨py,hy,ey⟩ Q (fun _ _=>False) q Γ p hΓ)
 obtain ⟨r,p',⟨_,q1,q2,q3⟩,hI,_,k⟩:=jmS H (SortSt.mk' (tuples' b) arr #[] 7 none) ⟨rfl,fun p hp=>⟨p,hp,rfl⟩⟩ p _ _ (lib Γ p hΓ);refine k (fun r s'=>s'=s∧(arrOf r.2).Perm arr∧failedOf r.2=none∧(arrOf r.2).toList.Pairwise fun p q=>∀ x y,p.1=Value.ref x→q.1=Value.ref y→rank x≤rank y) _ p ⟨rfl,q1,q2,?_⟩;rw [G2];intro i j hi hj hij x y ex ey;have hi':i < (arrOf r.2).size:=by simpa using hi
 have hj':j < (arrOf r.2).size:=by simpa using hj
 have h3:=q3 i j (F5 hij) (by rw [←q1.size_eq];exact hj');have mem:∀ (i:Nat) (hi:i < (arrOf r.2).toList.length) (x:Addr),((arrOf r.2).toList[i]).1=Value.ref x→KK (rankKind rank N) (arrOf r.2) i=rank x:=fun i hi x ex=>by
  have hi':i < (arrOf r.2).size:=by simpa using hi
  unfold KK;rw [Fl hi'];have e2:((arrOf r.2)[i]).1=Value.ref x:=by simpa using ex
  have hm:(arrOf r.2)[i]∈arr.toList:=(Fc.mp q1).mem_iff.mp (by simp);dsimp only;rw [e2];have hx:x < N:=hN x ⟨_,hm,e2⟩;show ((if x < N then some (rank x) else none):Option Nat).getD 0=rank x;rw [Ce hx]
  rfl
 rw [mem i hi x ex,mem j hj y ey] at h3;have h4:decide (rank y < rank x)=false:=h3;have:=of_decide_eq_false h4;omega
end Rw
namespace Rw
set_option tactic.hygienic true
open PySem PyProof.Rows PySem.SeqAt
open AutoSeq1 (wpAny_loadPart')
open MeetsSeq MeetsSeq2 MeetsSeq3 SeqRoads2
noncomputable def jaY:List Int→List Int→Bool
 | [],[]=>false
 | [],_ :: _=>true
 | _ :: _,[]=>false
 | x :: xs,y :: ys=>if x=y then jaY xs ys else decide (x < y)
theorem jne {vs:List Value} {ns:List Int} (h:IntsAre vs ns) {i:Nat} {x:Int} (hx:ns[i]?=some x):∃ t,vs[i]?=some (.int x t):=h.get i x hx
theorem jnn {xs ys:List Int} {i:Nat} (h:xs.length≤i∨ys.length≤i) (hi:i≤xs.length) (hj:i≤ys.length):jaY (xs.drop i) (ys.drop i)=decide (xs.length < ys.length):=by
 by_cases hx:xs.length≤i
 ·rw [Fn hx];by_cases hy:ys.length≤i
  ·rw [Fn hy];simp [jaY];omega
  ·cases hd:ys.drop i with
   | nil=>rw [F6] at hd;omega
   | cons y r =>
    simp [jaY];omega
 ·have hy:ys.length≤i:=h.resolve_left hx;rw [Fn hy];cases hd:xs.drop i with
  | nil=>rw [F6] at hd;omega
  | cons y r =>
   simp [jaY];omega
theorem jqD (l b:Addr) (us vs:Array Value) (n n2:Nat) (dd dd2:Option Addr) (sl sl2:Array (Option Value)) (xs ys:List Int) (hx:IntsAre us.toList xs) (hy:IntsAre vs.toList ys) (k:Nat) :
  ∀ i:Nat,us.size - i=k→i≤us.size→i≤vs.size→Meets (Builtin.«list.__eq__.loop» ⟨[.ref l,.ref b,rawInt i,rawInt 0],[]⟩)
   (fun A R s=>s.heap.get? l=some { cls:=.type "list",dict:=dd,data:=.seq us n,slots:=sl }∧s.heap.get? b=some { cls:=.type "list",dict:=dd2,data:=.seq vs n2,slots:=sl2 }∧R (.ok (.ret (.bool (jaY (xs.drop i) (ys.drop i))))) s):=by
 have lx:us.size=xs.length:=by have:=hx.length;rw [Gr] at this;omega
 have ly:vs.size=ys.length:=by have:=hy.length;rw [Gr] at this;omega
 induction k with
 | zero =>
  intro i hk h1 h2 prog w A R s h;obtain ⟨hp,g,d,tk,os⟩:=s;obtain ⟨hl,hb,h⟩:=h
  wp_walk using D3 hl,D3 hb
  have hi1:us[((i:Nat):Int).toNat]?=none:=by simp;omega
  rw [jnn (.inl (by omega)) (by omega) (by omega)] at h;rw [hi1];dsimp only
  wp_walk using D3 hl,D3 hb
  show R (.ok (.ret (.bool (decide (us.size < vs.size))))) _;rw [lx,ly];exact h
 | succ k ih =>
  intro i hk h1 h2 prog w A R s h;obtain ⟨hp,g,d,tk,os⟩:=s;obtain ⟨hl,hb,h⟩:=h
  wp_walk using D3 hl,D3 hb
  have lt1:i < us.size:=by omega
  obtain ⟨x,ex⟩:∃ x,xs[i]?=some x:=⟨_,Cz (by omega)⟩;obtain ⟨t1,e1⟩:=jne hx ex;have hi1:us[((i:Nat):Int).toNat]?=some (.int x t1):=by rw [Dt,←e1];simp
  have hc:((i:Int)+1)=((i+1:Nat):Int):=by push_cast;rfl
  have dx:xs.drop i=x :: xs.drop (i+1):=by
   obtain ⟨z1,z2⟩:=Cj.mp ex;rw [Fz z1,z2]
  by_cases lt2:i < vs.size
  ·obtain ⟨y,ey⟩:∃ y,ys[i]?=some y:=⟨_,Cz (by omega)⟩;obtain ⟨t2,e2⟩:=jne hy ey;have hi2:vs[((i:Nat):Int).toNat]?=some (.int y t2):=by rw [Dt,←e2];simp
   have dy:ys.drop i=y :: ys.drop (i+1):=by
    obtain ⟨z1,z2⟩:=Cj.mp ey;rw [Fz z1,z2]
   rw [dx,dy,jaY] at h;rw [hi1,hi2];dsimp only;refine Ca ((EqGives.int x y t1 t2).at _ _ prog w _ _ ?_);by_cases hxy:x=y
   ·rw [Ce hxy] at h;have hq:(x == y)=true:=by simpa using hxy
    rw [hq]
    wp_walk
    rw [hc];exact ⟨plainId_quiet plain_eq_loop _,codeAny_builtin entry_eq_loop (by
     rw [Around.under_plainId plain_eq_loop _];exact ih (i+1) (by omega) (by omega) (by omega) prog w A R _ ⟨hl,hb,h⟩)⟩
   ·rw [Cc hxy] at h;have hq:(x == y)=false:=by simpa using hxy
    rw [hq]
    wp_walk using D3 hl,D3 hb
    rw [hi1,hi2];dsimp only;refine Ca (show wpAny (model prog w) _ (richCompare .Lt (.int x t1) (.int y t2)) _ _ _ from PyProof.Rows.lt_int ?_)
    wp_walk
    exact h
  ·have hi2:vs[((i:Nat):Int).toNat]?=none:=by simp;omega
   rw [jnn (.inr (by omega)) (by omega) (by omega)] at h;rw [hi1,hi2];dsimp only
   wp_walk using D3 hl,D3 hb
   show R (.ok (.ret (.bool (decide (us.size < vs.size))))) _;rw [lx,ly];exact h
theorem jjG (l b:Addr) (us vs:Array Value) (n n2:Nat) (dd dd2:Option Addr) (sl sl2:Array (Option Value)) (xs ys:List Int) (hx:IntsAre us.toList xs) (hy:IntsAre vs.toList ys) :
  Meets (Builtin.«list.__lt__» ⟨[.ref l,.ref b],[]⟩)
   (fun A R s=>s.heap.get? l=some { cls:=.type "list",dict:=dd,data:=.seq us n,slots:=sl }∧s.heap.get? b=some { cls:=.type "list",dict:=dd2,data:=.seq vs n2,slots:=sl2 }∧R (.ok (.ret (.bool (jaY xs ys)))) s):=by
 intro prog w A R s h;obtain ⟨hp,g,d,tk,os⟩:=s;obtain ⟨hl,hb,h⟩:=h;have f3:=AutoSeq1.sub_list_list
 wp_walk using D3 hl,D3 hb
 exact ⟨plainId_quiet plain_eq_loop _,codeAny_builtin entry_eq_loop (by
  rw [Around.under_plainId plain_eq_loop _];exact jqD l b us vs n n2 dd dd2 sl sl2 xs ys hx hy _ 0 rfl (C4 _) (C4 _) prog w A R _ ⟨hl,hb,h⟩)⟩
section
variable {prog:Program} {w:World} {A:Around} {E:Value→Shared→Prop} {s:Shared}
noncomputable def IL (h:Heap) (a:Addr) (xs:List Int):Prop:=∃ us:Array Value,h.IsList a us∧IntsAre us.toList xs
theorem jpN {l b:Addr} {xs ys:List Int} {Q:Value→Shared→Prop} (hl:IL s.heap l xs) (hb:IL s.heap b ys) (hu:A.units < cLine) (h:Q (.bool (jaY xs ys)) s):wpAny (model prog w) A (richCompare .Lt (.ref l) (.ref b)) Q E s:=by
 obtain ⟨us,⟨⟨cls,dd,data,sl⟩,ho,hc,n,hd⟩,hx⟩:=hl;obtain ⟨vs,⟨⟨cls2,dd2,data2,sl2⟩,ho2,hc2,n2,hd2⟩,hy⟩:=hb;simp only at hc hd hc2 hd2;subst hc hd hc2 hd2;exact richCompare_meets_room (op:=.Lt) ⟨_,ho,rfl⟩ ⟨_,ho2,rfl⟩ F.slot_list_lt F.entry_list_lt (F.args_list_lt_2 _ _) (jjG l b us vs n n2 dd dd2 sl sl2 xs ys hx hy) ⟨ho,ho2,show Value.bool (jaY xs ys)≠Value.notImplemented∧Q (.bool (jaY xs ys)) s from ⟨(fun x=>nomatch x),h⟩⟩ hu
theorem jlx {l b:Addr} {xs ys:List Int} {c:Bool} {Q:Bool→Shared→Prop} (hl:IL s.heap l xs) (hb:IL s.heap b ys) (hu:A.units < cLine) (h:Q (jaY xs ys) s):wpAny (model prog w) A (oneLt' c (.ref l) (.ref b)) Q E s:=by
 rw [oneLt'_eq];cases c with
 | false =>
  simp only [Fu,Gs];exact Ca (jpN hl hb hu (Fk h))
 | true =>
  simp only [Lf];refine Ca (wpAny_cRoomFor hu ?_);obtain ⟨us,⟨⟨cls,dd,data,sl⟩,ho,hc,n,hd⟩,hx⟩:=hl;obtain ⟨vs,⟨⟨cls2,dd2,data2,sl2⟩,ho2,hc2,n2,hd2⟩,hy⟩:=hb;simp only at hc hd hc2 hd2;subst hc hd hc2 hd2;refine Ca (wpAny_callSpecialIfBound?_slot ⟨_,ho,rfl⟩ F.slot_list_lt (call_meets F.slot_list_lt ⟨_,ho,rfl⟩ F.entry_list_lt (F.args_list_lt_2 _ _) (jjG l b us vs n n2 dd dd2 sl sl2 xs ys hx hy) ⟨ho,ho2,?_⟩));exact Fk h
theorem ji0 {a b:Int} {t u:Tok} {c:Bool} {Q:Bool→Shared→Prop} (h:Q (decide (a < b)) s):wpAny (model prog w) A (oneLt' c (.int a t) (.int b u)) Q E s:=by
 cases c with
 | true=>exact oneLt_int h
 | false=>exact PySem.W.kat_one _ _ (PyProof.Rows.lt_int h)
end
end Rw
namespace Rw
set_option tactic.hygienic true
open PySem Builtin Builtin.ObjectAttr
open PySem.Sem (wp)
section
variable {prog:Program} {w:World} {A:Around} {E:Value→Shared→Prop} {h:Heap} {g:Array GenState} {d:Drawn} {t:Nat} {os:OsState}
variable {nm q:Str} {C N x:Addr} {bs:List Value} {sn:List Str} {sub:List Value} {ab:Bool} {col:Option Bool} {dd:Option Addr} {k0 k1 k2 k3 k5:Option Value} {newId:String}
 {mN:Str→Option Value} {name:Str} {v:Value} {o:Obj} {vs:Array Value}
theorem jon {tk:Tok} {Q:Fin→Shared→Prop} (hC:h.get? C=some (excClassObj nm q C N bs bmE true sn sub ab col dd k0 k1 k2 k3 k5 newId)) (hn:h.Ns N mN) (hna:mN name=none) (hB:typeLookup (.type "Exception") name=pure none)
  (hx:h.get? x=some o) (hc:o.cls=.ref C) (hnc:∀ c,o.data≠.cls c) (hdn:o.dict=none)
  (hq:∀ h' tk',h'.get? x=some { o with dict:=some h.objs.size }→h'.Ns1 h.objs.size (fun y=>if y=name then some v else none)→(∀ b u,b≠x→h.get? b=some u→h'.get? b=some u)→Q (.done (.ret .none)) ⟨h',g,d,tk',os⟩) :
  wpAny (model prog w) A (Builtin.«object.__setattr__» ⟨[.ref x,.str name tk,v],[]⟩) Q E ⟨h,g,d,t,os⟩:=by
 have SF:=F.store_Exception;have pass:=SF.passes (.ref x);unfold Builtin.«object.__setattr__»
 repeat (first|rw [refuse_eq]|(rw [refuseLoop_ref,pass])|(with_reducible refine F2 hx ?_;rw [hc])|with_reducible refine wpAny_mroOf_exc hC ?_|(with_reducible refine Jb hC hn SF.mro hB ?_;rw [hna])|wp_step)
 rw [hdn,Cc (by simp [typeHasDict])];split
 ·rename_i z;cases z
 split
 ·rename_i c z;exact absurd z (hnc c)
 have x1:(h.push { cls:=.type "dict",data:=.dict #[] }).get? x=some o:=Ch _ hx;have ne:x≠h.objs.size:=Di (Cu hx);refine Ca (wpAny_alloc' (Ca (wpAny_update' x1 (Ck ?_))));have gd:((h.push { cls:=.type "dict",data:=.dict #[] }).update x fun o=>{ cls:=o.cls,dict:=some h.objs.size,data:=o.data,slots:=o.slots }).get? h.objs.size=some { cls:=.type "dict",data:=.dict #[] }:=(Heap.get?_update_ne _ _ _ _ (Dj ne)).trans (Heap.get?_push_at rfl rfl)
 have nd:((h.push { cls:=.type "dict",data:=.dict #[] }).update x fun o=>{ cls:=o.cls,dict:=some h.objs.size,data:=o.data,slots:=o.slots }).Ns h.objs.size (fun _=>none):=⟨_,#[],_,gd,rfl,fun e he=>absurd he (by simp),fun _=>rfl⟩;show wpAny _ _ (storeInDict h.objs.size (.str name tk) name v) _ _ _;unfold storeInDict newKeyGuard;refine Ca (Ck (Ca (wpAny_nsSet1 (Heap.Ns1.of_empty nd) fun h' n' hs=>?_)));obtain ⟨oD,esD,epD,hoD,hdD,hcD⟩:=n'.count (Within.cons name v Within.nil)
 refine Ca (wpAny_lookBehind hoD (by rw [hdD];exact pastItsLine_dict (Da hcD (by rw [Cd,Ct,Gb];omega))) ?_)
 wp_walk
 refine hq h' _ ?_ n' fun b u hb e=>?_
 ·refine (hs.2 x ne).trans (Ge _ x1 ?_);have fr:=(Heap.get?_some_iff.mp hx).2;obtain ⟨oc,od,odt,osl⟩:=o;cases odt<;>first|rfl|exact fr
 ·exact (hs.2 b (Di (Cu e))).trans ((Heap.get?_update_ne _ _ _ _ hb).trans (Ch _ e))
theorem jpP {Q:Unit→Shared→Prop} (hC:h.get? C=some (excClassObj nm q C N bs bmE true sn sub ab col dd k0 k1 k2 k3 k5 newId)) (hn:h.Ns N mN) (hns:mN "__setattr__"=none) (hna:mN name=none) (hB:typeLookup (.type "Exception") name=pure none)
  (hx:h.get? x=some o) (hc:o.cls=.ref C) (hnc:∀ c,o.data≠.cls c) (hdn:o.dict=none)
  (hq:∀ h' tk',h'.get? x=some { o with dict:=some h.objs.size }→h'.Ns1 h.objs.size (fun y=>if y=name then some v else none)→(∀ b u,b≠x→h.get? b=some u→h'.get? b=some u)→Q () ⟨h',g,d,tk',os⟩) :
  wpAny (model prog w) A (setAttr (.ref x) name v) Q E ⟨h,g,d,t,os⟩:=by
 have SF:=F.store_Exception;have f3:=SF.slot.bind (.ref x);unfold setAttr callSpecial? specialOf
 repeat (any_goals (first|assumption|(with_reducible refine F2 hx ?_;rw [hc])|(with_reducible refine Jb hC hn SF.mro SF.slot.lookup ?_;rw [hns])|wp_step))
 refine Ld SF.slot.plain SF.entry (wpAny_check_sa (sa:="object.__setattr__") SF hC hx hc (jon hC hn hna hB hx hc hnc hdn fun h' tk' a1 a2 a3=>?_))
 repeat (any_goals (first|assumption|wp_step))
 exact hq h' tk' a1 a2 a3
theorem jo9 {tk:Tok} {dx:Addr} {mA:Str→Option Value} {Q:Fin→Shared→Prop} (hC:h.get? C=some (excClassObj nm q C N bs bmE true sn sub ab col dd k0 k1 k2 k3 k5 newId)) (hn:h.Ns N mN) (hna:mN name=none) (hB:typeLookup (.type "Exception") name=pure none)
  (hx:h.get? x=some o) (hc:o.cls=.ref C) (hnc:∀ c,o.data≠.cls c) (hdx:o.dict=some dx) (hd:h.Ns1 dx mA) (hv:mA name=some v) (hq:Q (.done (.ret v)) ⟨h,g,d,t,os⟩) :
  wpAny (model prog w) A (Builtin.«object.__getattribute__» ⟨[.ref x,.str name tk],[]⟩) Q E ⟨h,g,d,t,os⟩:=by
 have SF:=F.store_Exception;unfold Builtin.«object.__getattribute__»
 repeat (first|(with_reducible refine F2 hx ?_;rw [hc])|(with_reducible refine Jb hC hn SF.mro hB ?_;rw [hna])|wp_step)
 split
 ·rename_i c z;exact absurd z (hnc c)
 unfold instanceDict
 repeat (first|(with_reducible refine F2 hx ?_;rw [hc])|with_reducible refine F2 hC ?_|wp_step)
 rw [hdx]
 repeat (first|(with_reducible refine wpAny_nsGet hd.ns ?_;rw [hv])|wp_step)
 exact hq
theorem jo6:typeLookup (.type "Exception") "__getattribute__"=pure (some (.builtin "BaseException.__getattribute__")):=by rw [typeLookup_type,Jx];kernel_rfl
theorem jpb:typeLookup (.type "Exception") "__getattr__"=pure none:=by rw [typeLookup_type,Jx];kernel_rfl
theorem jry (self:Value):bindSpecial (.builtin "BaseException.__getattribute__") self=pure (.builtin "BaseException.__getattribute__",[self]):=by
 have hop:withoutEnding? "BaseException.__getattribute__" "#opaque"=none:=by decide +kernel
 have hdat:withoutEnding? "BaseException.__getattribute__" "#data"=none:=by decide +kernel
 have hk:builtinKind "BaseException.__getattribute__"=some .slot:=by decide +kernel
 simp only [bindSpecial,typeOf,builtinType,hop,hdat,hk];rfl
theorem jqo {M:Model} {nameV:Value} {Q:Unit→Shared→Prop} (hC:h.get? C=some (excClassObj nm q C N bs bmE true sn sub ab col dd k0 k1 k2 k3 k5 newId)) (hx:h.get? x=some o) (hc:o.cls=.ref C) (hq:Q () ⟨h,g,d,t,os⟩) :
  wpAny M A (checkBuiltinCall "BaseException.__getattribute__" ⟨[.ref x,nameV],[]⟩) Q E ⟨h,g,d,t,os⟩:=by
 have hk:builtinKind "BaseException.__getattribute__"=some .slot:=by decide +kernel
 have sp:splitId "BaseException.__getattribute__"=some ("BaseException","__getattribute__"):=by decide +kernel
 have cb:(Value.ref C :: bmE).contains (.type "BaseException")=true:=by rw [List.contains_cons];rfl
 have ha:=F.args_bexc_ga (.ref x) nameV;simp only [checkBuiltinCall,hk,sp];refine Ca ?_;unfold isInstance
 repeat (first|(with_reducible refine F2 hx ?_;rw [hc])|(with_reducible refine wpAny_isSubtype_exc hC ?_;rw [cb])|wp_step)
 exact hq
theorem jpa {dx:Addr} {mA:Str→Option Value} {expr:Bool} {Q:Value→Shared→Prop} (hC:h.get? C=some (excClassObj nm q C N bs bmE true sn sub ab col dd k0 k1 k2 k3 k5 newId)) (hn:h.Ns N mN) (hng:mN "__getattribute__"=none) (hnh:mN "__getattr__"=none) (hna:mN name=none) (hB:typeLookup (.type "Exception") name=pure none)
  (hx:h.get? x=some o) (hc:o.cls=.ref C) (hnc:∀ c,o.data≠.cls c) (hdx:o.dict=some dx) (hd:h.Ns1 dx mA) (hv:mA name=some v) (hh:handedOut v=pure v) (hq:Q v ⟨h,g,d,t+1,os⟩) :
  wpAny (model prog w) A (getAttr (.ref x) name expr) Q E ⟨h,g,d,t,os⟩:=by
 have SF:=F.store_Exception;have f3:=jry (.ref x);have y0:(expr && onTheHeap (Value.builtin "BaseException.__getattribute__"))=false:=by cases expr<;>rfl
 have y2:(Value.builtin "BaseException.__getattribute__" == Value.builtin "object.__getattribute__")=false:=by decide +kernel
 have y1:(onTheHeap (Value.ref C) && Value.builtin "BaseException.__getattribute__" == Value.builtin "object.__getattribute__")=false:=by rw [y2];rfl
 unfold getAttr getAttrBy
 repeat (any_goals (first|assumption|(with_reducible refine F2 hx ?_;rw [hc])|(with_reducible refine Jb hC hn SF.mro jo6 ?_;rw [hng])|(with_reducible refine Jb hC hn SF.mro jpb ?_;rw [hnh])|wp_step))
 refine Ld (by decide +kernel) F.entry_bexc_ga (jqo hC hx hc (jo9 hC hn hna hB hx hc hnc hdx hd hv ?_));show wpAny _ _ (handedOut v) _ _ _;rw [hh];exact Ck hq
end
end Rw
namespace Rw
set_option tactic.hygienic true
open PySem
open PySem.Sem (wp)
section
variable {M:Model} {A:Around} {E:Value→Shared→Prop} {s:Shared}
structure jd7 (fr:List Addr) (x:Addr) (ob:Obj) (vs:Array Value) (old:Option Addr) (h h':Heap):Prop where
 keep:∀ b o,b∉fr→b≠x→some b≠old→h.get? b=some o→h'.get? b=some o
 slot:∀ b o,b≠x→some b≠old→h.get? b=some o→∃ sl,h'.get? b=some { o with slots:=sl }
 there:∀ b o,h.get? b=some o→∃ o',h'.get? b=some o'
 now:∃ T oT ts,h.objs.size≤T∧T≠x∧h'.get? x=some { ob with data:=.fields (vs.setIfInBounds 1 (.ref T)) }∧h'.get? T=some oT∧oT.data=.fields ts∧ts[3]?=some .none
theorem jjr {base:Heap} {env:Env} {outer:List Env} {L x:Addr} {ob:Obj} {vs:Array Value} {head:Value} {hadNext:Bool} {Q:Unit→Shared→Prop} (hfr:A.frames=some (env :: outer)) (hl:s.heap.FunFrames base (env :: outer)) (hf:env.frame=some L)
  (he:s.heap.get? x=some ob) (hd:ob.data=.fields vs) (hsz:1 < vs.size) (h:∀ h',jd7 ((env :: outer).filterMap (·.frame)) x ob vs none s.heap h'→Q () { s with heap:=h' }) :
  wpAny M A (do let a ←frameOf env;let pl ←entryPlaceOf L hadNext;let b ←EntryCells.newEntry head a .none (rawInt L) .none pl;setField (.ref x) 1 b) (fun _ s'=>wpAny M A (setFlight (.ref x) none) Q E s') E s:=by
 have xf:x∉(env :: outer).filterMap (·.frame):=fun hm=>by
  obtain ⟨_,o,ho,hnf⟩:=hl.mem hm;rw [he] at ho;cases ho;exact hnf vs hd
 refine Ca (wpAny_frameOf_fun hfr hl hf fun h1 hs1=>?_);refine Ca (wpAny_entryPlaceOf fun pl hpl=>?_);unfold EntryCells.newEntry newFields;refine Ca (F1 ?_ (hpl.sizeOk5 _ _ _ _ _));have x1:h1.get? x=some ob:=(hs1.2.1 x xf).trans he;generalize eo:({ cls:=.type "traceback",dict:=none,data:=.fields ([head,.ref L,.none,rawInt L,.none]++(if pl.isEmpty then List.replicate 6 Value.none else pl)).toArray }:Obj)=oT;have dT:oT.data=.fields ([head,.ref L,.none,rawInt L,.none]++(if pl.isEmpty then List.replicate 6 Value.none else pl)).toArray:=by rw [←eo]
 have x2:=Ch (h:=h1) oT x1;refine La x2 hd hsz ?_;have tx:h1.objs.size≠x:=Fs (Cu x1);have d3:=G0 hd (·.setIfInBounds 1 (Value.ref h1.objs.size));have x3:=Ge (Obj.mapFields (·.setIfInBounds 1 (Value.ref h1.objs.size))) x2 (Jw d3);have fT:oT.isFreed=false:=by rw [←eo];rfl
 have t3:=(Fw (h1.push oT) (Obj.mapFields (·.setIfInBounds 1 (Value.ref h1.objs.size))) (Dj tx)).trans (Cv h1 fT);unfold setFlight;refine Ca (F7 x3 d3 (x:=.ref h1.objs.size) (by simp [hsz]) ?_);rw [Ce (show (Value.ref h1.objs.size != Value.none)=true from by simp)];refine La t3 dT (by simp only [Cy,Ci,Cd,Ct]<;>omega) (h _ ?_)
 have keep:∀ b o,b≠x→h1.get? b=some o→(((h1.push oT).update x (Obj.mapFields (·.setIfInBounds 1 (Value.ref h1.objs.size)))).update h1.objs.size (Obj.mapFields (·.setIfInBounds 3 ((none:Option Addr).elim Value.none fun f=>rawInt f)))).get? b=some o:=fun b o bx hb=>by
  have bt:h1.objs.size≠b:=Fs (Cu hb);rw [Fw _ _ bt,Fw _ _ (Dj bx)];exact Ch _ hb
 have xo:Obj.mapFields (·.setIfInBounds 1 (Value.ref h1.objs.size)) ob={ ob with data:=.fields (vs.setIfInBounds 1 (.ref h1.objs.size)) }:=by
  obtain ⟨c,dd,dt,sl⟩:=ob;simp only at hd;subst hd
  rfl
 have x4:(((h1.push oT).update x (Obj.mapFields (·.setIfInBounds 1 (Value.ref h1.objs.size)))).update h1.objs.size (Obj.mapFields (·.setIfInBounds 3 ((none:Option Addr).elim Value.none fun f=>rawInt f)))).get? x=some { ob with data:=.fields (vs.setIfInBounds 1 (.ref h1.objs.size)) }:=by
  rw [Fw _ _ tx,x3,xo]
 have t4:=Ge (Obj.mapFields (·.setIfInBounds 3 ((none:Option Addr).elim Value.none fun f=>rawInt f))) t3 (Jw (G0 dT _));refine ⟨fun b o b1 b2 _ e=>keep b o b2 ((hs1.2.1 b b1).trans e),fun b o b2 _ e=>?_,fun b o e=>?_,h1.objs.size,_,_,?_,tx,x4,t4,G0 dT _,?_⟩
 ·obtain ⟨sl,q⟩:=hs1.2.2 b o e;exact ⟨sl,keep b _ b2 q⟩
 ·by_cases b2:b=x
  ·subst b2;exact ⟨_,x4⟩
  ·obtain ⟨sl,q⟩:=hs1.2.2 b o e;exact ⟨_,keep b _ b2 q⟩
 ·exact Nat.le_of_eq hs1.1.symm
 ·first|(simp;done)|(rcases hpl with rfl|⟨_,_,_,_,_,_,_,rfl⟩<;>simp)
theorem leave_new {base:Heap} {env:Env} {outer:List Env} {L x:Addr} {ob:Obj} {vs:Array Value} {Q:Unit→Shared→Prop} (hfr:A.frames=some (env :: outer)) (hl:s.heap.FunFrames base (env :: outer)) (hf:env.frame=some L)
  (he:s.heap.get? x=some ob) (hd:ob.data=.fields vs) (h1:vs[1]?=some .none) (h:∀ h',jd7 ((env :: outer).filterMap (·.frame)) x ob vs none s.heap h'→Q () { s with heap:=h' }):wpAny M A (leaving env (.ref x)) Q E s:=by
 unfold leaving noteFrame;simp only [hf];refine Ca (Ca (F7 he hd h1 ?_));rw [Cc (by decide)];exact jjr hfr hl hf he hd (D9.mp h1).1 h
theorem jnr {base:Heap} {env:Env} {outer:List Env} {L x T:Addr} {ob oT:Obj} {vs ts:Array Value} {Q:Unit→Shared→Prop} (hfr:A.frames=some (env :: outer)) (hl:s.heap.FunFrames base (env :: outer)) (hf:env.frame=some L)
  (he:s.heap.get? x=some ob) (hd:ob.data=.fields vs) (h1:vs[1]?=some (.ref T)) (tx:T≠x) (hT:s.heap.get? T=some oT) (dT:oT.data=.fields ts) (h3:ts[3]?=some .none)
  (h:∀ h',jd7 ((env :: outer).filterMap (·.frame)) x ob vs (some T) s.heap h'→Q () { s with heap:=h' }):wpAny M A (noteFrame (.ref x) env) (fun _ s'=>wpAny M A (setFlight (.ref x) none) Q E s') E s:=by
 unfold noteFrame;simp only [hf];refine Ca (F7 he hd h1 ?_);rw [Ce (show (Value.ref T != Value.none)=true from by simp)];refine Ca (F7 hT dT h3 ?_);rw [Cc (show ¬((Value.none == rawInt L)=true) from by simp [rawInt])];refine Ca (La hT dT (D9.mp h3).1 ?_);have other:∀ b,b≠T→(s.heap.update T (Obj.mapFields (·.setIfInBounds 3 Value.none))).get? b=s.heap.get? b:=fun b hb=>Fw _ _ (Dj hb)
 have tT:=Ge (Obj.mapFields (·.setIfInBounds 3 Value.none)) hT (Jw (G0 dT _));have nofr:∀ b o,s.heap.get? b=some o→(∀ vs,o.data≠.fields vs)→b≠T:=fun b o hb hnf q=>by
  rw [q,hT] at hb;cases hb;exact hnf ts dT
 refine jjr (s:={ s with heap:=s.heap.update T (Obj.mapFields (·.setIfInBounds 3 Value.none)) }) hfr (hl.of_keeps fun b o hb hnf=>⟨o,(other b (nofr b o hb hnf)).trans hb,rfl⟩) hf ((other x (Dj tx)).trans he) hd (D9.mp h1).1 fun h' nt=>h h' ?_;refine ⟨fun b o b1 b2 b3 e=>nt.keep b o b1 b2 (by simp) ((other b (fun z=>b3 (by rw [z]))).trans e),fun b o b2 b3 e=>nt.slot b o b2 (by simp) ((other b (fun z=>b3 (by rw [z]))).trans e),fun b o e=>?_,?_⟩
 ·by_cases bT:b=T
  ·subst bT;exact nt.there _ _ tT
  ·exact nt.there b o ((other b bT).trans e)
 ·obtain ⟨T2,oT2,ts2,a1,a2,a3,a4,a5,a6⟩:=nt.now;refine ⟨T2,oT2,ts2,?_,a2,a3,a4,a5,a6⟩;have a1':(s.heap.update T (Obj.mapFields (·.setIfInBounds 3 Value.none))).objs.size≤T2:=a1;rw [Heap.size_update] at a1';exact a1'
theorem jqC {base:Heap} {env:Env} {outer:List Env} {L x T:Addr} {ob oT:Obj} {vs ts:Array Value} {Q:Unit→Shared→Prop} (hfr:A.frames=some (env :: outer)) (hl:s.heap.FunFrames base (env :: outer)) (hf:env.frame=some L)
  (he:s.heap.get? x=some ob) (hd:ob.data=.fields vs) (h1:vs[1]?=some (.ref T)) (tx:T≠x) (hT:s.heap.get? T=some oT) (dT:oT.data=.fields ts) (h3:ts[3]?=some .none)
  (h:∀ h',jd7 ((env :: outer).filterMap (·.frame)) x ob vs (some T) s.heap h'→Q () { s with heap:=h' }):wpAny M A (leaving env (.ref x)) Q E s:=by
 unfold leaving;exact Ca (jnr hfr hl hf he hd h1 tx hT dT h3 h)
end
section
variable {M:Model} {A:Around} {E:Value→Shared→Prop} {env:Env}
variable {nm q:Str} {C N:Addr} {bs bm:List Value} {hdct:Bool} {sn:List Str} {sub:List Value} {ab:Bool} {col:Option Bool} {dd:Option Addr} {k0 k1 k2 k3 k5:Option Value} {newId:String}
theorem jom {s:Shared} {x:Sem Value} {Q:Flow→Shared→Prop} (hbase:bm.contains (.type "BaseException")=true) (hh:A.handled=none)
  (h:wpAny M A x (fun v s1=>∃ (e:Addr) (dx:Option Addr) (f0 f2 f3 f4 f5:Value) (sl:Array (Option Value)),v=.ref e∧s1.heap.get? C=some (excClassObj nm q C N bs bm hdct sn sub ab col dd k0 k1 k2 k3 k5 newId) ∧
   s1.heap.get? e=some { cls:=.ref C,dict:=dx,data:=.fields #[f0,.none,f2,f3,f4,f5],slots:=sl }∧E (.ref e) s1) E s) :
  wpAny M A (raiseStmt env (some x) none) Q E s:=by
 have cb:(Value.ref C :: bm).contains (.type "BaseException")=true:=by rw [List.contains_cons,hbase,Bool.or_true]
 unfold raiseStmt;refine Ca (Fd h (fun v s1 h1=>?_) fun _ _ x=>x);obtain ⟨e,dx,f0,f2,f3,f4,f5,sl,rfl,hC,he,hE⟩:=h1;obtain ⟨hp,g,d,tk,os⟩:=s1
 repeat (first|with_reducible refine F2 he ?_|with_reducible refine F2 hC ?_|(with_reducible refine wpAny_isSubtype_exc hC ?_;rw [cb])|wp_step)
 exact wpAny_raiseNew_none hh hE
end
end Rw
namespace Rw
set_option tactic.hygienic true
open PySem
open PySem.Sem (wp)
open AutoSeq1 (wpAny_loadPart')
theorem jsw (l:Addr) (its:Array Value) (n:Nat) (dct:Option Addr) (sl:Array (Option Value)) (t:Tok) :
  Meets (Builtin.«enumerate.__new__» ⟨[.type "enumerate",.ref l],[(Str.ofString "start",(.int 1 t))]⟩) (fun _ R s=>s.heap.get? l=some { cls:=.type "list",dict:=dct,data:=.seq its n,slots:=sl } ∧
   R (.ok (.ret (.ref (s.heap.objs.size+1)))) { s with heap:=(s.heap.push { cls:=.type "list_iterator",data:=.fields #[.ref l,.int 0 0] }).push { cls:=.type "enumerate",data:=.fields #[.none,.bool false,.ref s.heap.objs.size,rawInt 1,.none,.none] } }) :=
 .of_wp fun prog w A R s h=>by
  obtain ⟨hp,g,d,tk,os⟩:=s;obtain ⟨hl,h⟩:=h;have f1:=sub_enumerate;have hL:Heap.IsList (Shared.heap ⟨hp,g,d,tk,os⟩) l its:=⟨_,hl,rfl,n,rfl⟩;have sz:(hp.push { cls:=.type "list_iterator",data:=.fields #[.ref l,.int 0 0] }).objs.size=hp.objs.size+1:=Fb ..
  wp_walk using D3 hl
  refine wpAny_stack_any fun st=>Ck ?_;split
  ·rename_i c _ _ _ _ _;cases (c == Value.type "enumerate")
   ·refine Ca (Gm (a:=(Value.ref l,some (Value.int 1 t))) rfl ?_);refine Ca (Gm (a:=Value.int 1 t) rfl ?_);refine Ca (Gm (a:=some 1) rfl ?_)
    wp_walk using D3 hl,wpAny_pyIter_list hL
    exact ⟨_,rfl,by rw [sz];exact h⟩
   ·refine Ca (Gm (a:=(Value.ref l,some (Value.int 1 t))) rfl ?_);refine Ca (Gm (a:=Value.int 1 t) rfl ?_);refine Ca (Gm (a:=some 1) rfl ?_)
    wp_walk using D3 hl,wpAny_pyIter_list hL
    exact ⟨_,rfl,by rw [sz];exact h⟩
  ·refine Ca (Gm (a:=(Value.ref l,some (Value.int 1 t))) rfl ?_);refine Ca (Gm (a:=Value.int 1 t) rfl ?_);refine Ca (Gm (a:=some 1) rfl ?_)
   wp_walk using D3 hl,wpAny_pyIter_list hL
   exact ⟨_,rfl,by rw [sz];exact h⟩
theorem jtu (a:Value) (t:Tok):checkTypeCall "enumerate" ⟨[a],[(Str.ofString "start",.int 1 t)]⟩=pure ():=by kernel_rfl
theorem jts (a:Value) (t:Tok):checkBuiltinCall "enumerate.__new__" ⟨[.type "enumerate",a],[(Str.ofString "start",.int 1 t)]⟩=pure ():=by kernel_rfl
theorem jru (self a:Value) (t:Tok):Meets (Builtin.«object.__init__» ⟨[self,a],[(Str.ofString "start",.int 1 t)]⟩) (fun _ R s=>s.TypeIs self "enumerate"∧R (.ok (.ret .none)) s):=by
 refine Meets.of_wp fun prog w A R s hs=>?_;obtain ⟨hT,hq⟩:=hs;have hl:=F.called_enumerate.init.lookup;have hm:=F.called_enumerate.made;have hne:(some "enumerate.__new__" != some "object.__new__")=true:=by decide
 repeat (any_goals (first|assumption|wp_step))
 exact ⟨_,rfl,hq⟩
theorem jtt (o a:Value) (t:Tok):argsOk "object.__init__" ⟨[o,a],[(Str.ofString "start",.int 1 t)]⟩:=by unfold argsOk;kernel_rfl
section
variable {prog:Program} {w:World} {A:Around} {E:Value→Shared→Prop} {s:Shared}
theorem jrt {l:Addr} {its:Array Value} {t:Tok} {Q:Value→Shared→Prop} (hL:s.heap.IsList l its)
  (h:∀ h',IsEnum h' (s.heap.objs.size+1) s.heap.objs.size 1 .none→h'.IsListIter s.heap.objs.size l 0→(∀ b o,s.heap.get? b=some o→h'.get? b=some o)→Q (.ref (s.heap.objs.size+1)) { s with heap:=h' }) :
  wpAny (model prog w) A (call (.type "enumerate") [.ref l] [(Str.ofString "start",.int 1 t)]) Q E s:=by
 obtain ⟨⟨c,dct,dt,sl⟩,hl,hc,n,hd⟩:=hL;simp only at hc hd;subst hc hd;have ft:=F.called_enumerate;obtain ⟨c0,tl,hmro⟩:=ft.mro;have m1:=ft.made;have m2:=ft.sub;refine wpAny_call (codeAny_of_tree ?_);show wpAny _ _ (callAny (.type "enumerate") _) _ _ _;refine Ck ⟨Code.quiet_builtin _ (by decide +kernel),codeAny_builtin F.entry_type_call ?_⟩;rw [Around.under_plain (weight_type_call_type "enumerate" [.ref l] [(Str.ofString "start",.int 1 t)]) (units_type_call_type "enumerate" [.ref l] [(Str.ofString "start",.int 1 t)])];have h1:=ft.notType;have h2:=ft.canCreate;have tc:=jtu (.ref l) t
 repeat (any_goals (first|assumption|wp_step))
 have sz:(s.heap.push { cls:=.type "list_iterator",data:=.fields #[.ref l,.int 0 0] }).objs.size=s.heap.objs.size+1:=Fb ..;have k1:codeAny (model prog w) A.in1 (.call (.builtin "enumerate.__new__") ⟨[.type "enumerate",.ref l],[(Str.ofString "start",.int 1 t)]⟩) (fun r s1=>r=.ok (.ret (.ref (s.heap.objs.size+1)))∧s1={ s with heap:=(s.heap.push { cls:=.type "list_iterator",data:=.fields #[.ref l,.int 0 0] }).push { cls:=.type "enumerate",data:=.fields #[.none,.bool false,.ref s.heap.objs.size,rawInt 1,.none,.none] } }) s :=
  Ld ft.plain F.entry_enumerate_new (Gm (jts (.ref l) t) (jsw l its n dct sl t prog w A.in1 (fun r s1=>r=.ok (.ret (.ref (s.heap.objs.size+1)))∧s1={ s with heap:=(s.heap.push { cls:=.type "list_iterator",data:=.fields #[.ref l,.int 0 0] }).push { cls:=.type "enumerate",data:=.fields #[.none,.bool false,.ref s.heap.objs.size,rawInt 1,.none,.none] } }) s ⟨hl,rfl,rfl⟩))
 refine G9 k1 fun r s1 hr=>?_;obtain ⟨rfl,rfl⟩:=hr;have ge:((s.heap.push { cls:=.type "list_iterator",data:=.fields #[.ref l,.int 0 0] }).push { cls:=.type "enumerate",data:=.fields #[.none,.bool false,.ref s.heap.objs.size,rawInt 1,.none,.none] }).get? (s.heap.objs.size+1)=some { cls:=.type "enumerate",data:=.fields #[.none,.bool false,.ref s.heap.objs.size,rawInt 1,.none,.none] }:=by
  rw [←sz];exact Cv _ rfl
 have gi:((s.heap.push { cls:=.type "list_iterator",data:=.fields #[.ref l,.int 0 0] }).push { cls:=.type "enumerate",data:=.fields #[.none,.bool false,.ref s.heap.objs.size,rawInt 1,.none,.none] }).get? s.heap.objs.size=some { cls:=.type "list_iterator",data:=.fields #[.ref l,.int 0 0] }:=Ch _ (Cv _ rfl)
 have old:∀ b o,s.heap.get? b=some o→((s.heap.push { cls:=.type "list_iterator",data:=.fields #[.ref l,.int 0 0] }).push { cls:=.type "enumerate",data:=.fields #[.none,.bool false,.ref s.heap.objs.size,rawInt 1,.none,.none] }).get? b=some o:=fun b o e=>Ch _ (Ch _ e);have fin:=h _ ge ⟨_,gi,rfl,rfl⟩ old;generalize (s.heap.push { cls:=.type "list_iterator",data:=.fields #[.ref l,.int 0 0] }).push { cls:=.type "enumerate",data:=.fields #[.none,.bool false,.ref s.heap.objs.size,rawInt 1,.none,.none] }=h2 at ge fin
 have hT:({ s with heap:=h2 }:Shared).TypeIs (.ref (s.heap.objs.size+1)) "enumerate":=⟨_,ge,rfl⟩;have i1:=ft.init.lookup;have i2:=ft.init.bind (.ref (s.heap.objs.size+1))
 repeat (any_goals (first|assumption|wp_step))
 have k2:codeAny (model prog w) A.in1 (.call (.builtin "object.__init__") ⟨[.ref (s.heap.objs.size+1),.ref l],[(Str.ofString "start",.int 1 t)]⟩) (fun r s2=>r=.ok (.ret .none)∧s2={ s with heap:=h2 }) { s with heap:=h2 } :=
  Ld ft.init.plain F.entry_object_init (ft.init.check _ _ _ _ _ _ _ _ hT (jtt _ _ _) (jru _ _ _ prog w A.in1 (fun r s2=>r=.ok (.ret .none)∧s2={ s with heap:=h2 }) _ ⟨hT,rfl,rfl⟩))
 refine G9 k2 fun r2 s2 hr2=>?_;obtain ⟨rfl,rfl⟩:=hr2
 repeat (any_goals (first|assumption|wp_step))
theorem jrv {e it l:Addr} {i:Nat} {j:Int} {its:Array Value} {x old:Value} {Q:Value→Shared→Prop} (he:IsEnum s.heap e it j old) (hit:s.heap.IsListIter it l i) (hl:s.heap.IsList l its) (hx:its[i]?=some x) (hne:e≠it)
  (hQ:∀ h',IsEnumOut h' e it (j+1) x s.heap.objs.size→h'.IsListIter it l (i+1)→h'.get? s.heap.objs.size=some { cls:=.type "tuple",data:=.seq #[.int j s.toks,x] }→h'.objs.size=s.heap.objs.size+1 →
   (∀ b o,b≠e→b≠it→s.heap.get? b=some o→h'.get? b=some o)→Q (.ref s.heap.objs.size) { s with heap:=h',toks:=s.toks+1 }) :
  wpAny (model prog w) A (Builtin.«enumerate.__next__» ⟨[.ref e],[]⟩) (fun fin s'=>∃ v,fin=.done (.ret v)∧Q v s') E s:=by
 obtain ⟨hp,g,d,tk,os⟩:=s;show wpAny _ _ (field (.ref e) 2 >>= _) _ _ _;refine Ca (F7 he rfl (x:=.ref it) rfl (Ca (wpAny_nextOf_list_item hit hl hx fun ha ita sa=>?_)));have sa':Heap.SameBut it hp ha:=sa;have ea:IsEnum ha e it j old:=(sa'.2 e hne).trans he;show wpAny _ _ (field (.ref e) 3 >>= _) _ _ ⟨ha,g,d,tk,os⟩;refine Ca (F7 ea rfl (x:=rawInt j) rfl ?_);show wpAny _ _ (field (.ref e) 4 >>= _) _ _ ⟨ha,g,d,tk,os⟩;refine Ca (F7 ea rfl (x:=.none) rfl ?_);show wpAny _ _ (mkInt j >>= _) _ _ ⟨ha,g,d,tk,os⟩
 refine Ca (wpAny_mkInt ?_);show wpAny _ _ (setField (.ref e) 3 (rawInt (j+1)) >>= _) _ _ ⟨ha,g,d,tk+1,os⟩;refine Ca (Fo ea (by simp) fun hb eb sb=>?_);have sb':Heap.SameBut e ha hb:=sb;have eb':IsEnum hb e it (j+1) old:=eb;show wpAny _ _ (setField (.ref e) 4 .none >>= _) _ _ ⟨hb,g,d,tk+1,os⟩;refine Ca (Fo eb' (by simp) fun hc ec sc=>?_);have sc':Heap.SameBut e hb hc:=sc;have ec':IsEnum hc e it (j+1) old:=ec;show wpAny _ _ (newTuple [.int j tk,x] >>= _) _ _ ⟨hc,g,d,tk+1,os⟩;refine Ca (wpAny_newTuple ?_)
 have ed:IsEnum (hc.push { cls:=.type "tuple",data:=.seq #[.int j tk,x] }) e it (j+1) old:=Ch _ ec';generalize hh:hc.push { cls:=.type "tuple",data:=.seq #[.int j tk,x] }=hd at ed;have sz:hc.objs.size=hp.objs.size:=by rw [sc'.1,sb'.1,sa'.1]
 have el:e < hp.objs.size:=Cu he;have td:hd.get? hp.objs.size=some { cls:=.type "tuple",data:=.seq #[.int j tk,x] }:=by rw [←hh,←sz];exact Cv _ rfl
 have zd:hd.objs.size=hp.objs.size+1:=by rw [←hh,Fb,sz]
 have kd:∀ b o,b≠e→b≠it→hp.get? b=some o→hd.get? b=some o:=fun b o be bi q=>by
  rw [←hh];exact Ch _ (sc'.extBut b o be (sb'.extBut b o be (sa'.extBut b o bi q)))
 have itd:hd.IsListIter it l (i+1):=by
  rw [←hh];obtain ⟨o,ho,r⟩:=(ita.extBut sb'.extBut (Dj hne)).extBut sc'.extBut (Dj hne);exact ⟨o,Ch _ ho,r⟩
 show wpAny _ _ (Builtin.SmallTypes.ownedTupleIsFree (.ref e) >>= _) _ _ ⟨hd,g,d,tk+1,os⟩;rw [sz];clear hh ec ec' sc sc' eb eb' sb sb' ea sa sa' ita sz;refine Ca ?_;unfold Builtin.SmallTypes.ownedTupleIsFree;refine Ca (F7 ed rfl (x:=.none) rfl (Ck ?_));simp only [Lf];refine Ca (wpAny_rule (Ca (F7 ed rfl (x:=old) rfl ?_)));refine Ca (Fo ed (by simp) fun hf ef sf=>?_);have sf':Heap.SameBut e hd hf:=sf;have ef':IsEnum hf e it (j+1) x:=ef
 show wpAny _ _ (Builtin.SmallTypes.ownedTupleHandOut (.ref e) (.ref hp.objs.size) >>= _) _ _ ⟨hf,g,d,tk+1,os⟩;refine Ca ?_;unfold Builtin.SmallTypes.ownedTupleHandOut;refine Ca (Fo ef' (by simp) fun hg eg sg=>?_);have sg':Heap.SameBut e hf hg:=sg;have eg':IsEnumOut hg e it (j+1) x hp.objs.size:=eg;refine Fo eg' (by simp) fun hk ek sk=>?_;have sk':Heap.SameBut e hg hk:=sk;have ek':IsEnumOut hk e it (j+1) x hp.objs.size:=ek;refine Ca (wpAny_letGo (Ck ⟨_,rfl,hQ hk ek' ?_ ?_ ?_ ?_⟩))
 ·exact ((itd.extBut sf'.extBut (Dj hne)).extBut sg'.extBut (Dj hne)).extBut sk'.extBut (Dj hne)
 ·exact sk'.extBut _ _ (Fs el) (sg'.extBut _ _ (Fs el) (sf'.extBut _ _ (Fs el) td))
 ·rw [sk'.1,sg'.1,sf'.1,zd]
 ·exact fun b o be bi q=>sk'.extBut b o be (sg'.extBut b o be (sf'.extBut b o be (kd b o be bi q)))
theorem jrw {e it l:Addr} {i:Nat} {j:Int} {its:Array Value} {x old:Value} {Q:Option Value→Shared→Prop} (he:IsEnum s.heap e it j old) (hit:s.heap.IsListIter it l i) (hl:s.heap.IsList l its) (hx:its[i]?=some x) (hne:e≠it)
  (hQ:∀ h',IsEnumOut h' e it (j+1) x s.heap.objs.size→h'.IsListIter it l (i+1)→h'.get? s.heap.objs.size=some { cls:=.type "tuple",data:=.seq #[.int j s.toks,x] }→h'.objs.size=s.heap.objs.size+1 →
   (∀ b o,b≠e→b≠it→s.heap.get? b=some o→h'.get? b=some o)→Q (some (.ref s.heap.objs.size)) { s with heap:=h',toks:=s.toks+1 }):wpAny (model prog w) A (pyNext (.ref e)) Q E s:=by
 have hT:s.TypeIs (.ref e) "enumerate":=⟨_,he,rfl⟩;unfold pyNext;exact Ca (Jt (Ft (name:=Str.ofString "__next__") hT F.slot_enumerate_next (Fx F.slot_enumerate_next hT F.entry_enumerate_next (jrv he hit hl hx hne fun h' a b c d k=>Ck (hQ h' a b c d k)) (F.args_enumerate_next_1 _))))
theorem jsv {e it l:Addr} {i:Nat} {j:Int} {its:Array Value} {old:Value} {Q:Option Value→Shared→Prop} (hh:A.handled=none) (he:IsEnum s.heap e it j old) (hit:s.heap.IsListIter it l i) (hl:s.heap.IsList l its) (hx:its[i]?=none)
  (hQ:∀ h',Heap.ExtBut it s.heap h'→Q none { s with heap:=h' }):wpAny (model prog w) A (pyNext (.ref e)) Q E s:=by
 have hT:s.TypeIs (.ref e) "enumerate":=⟨_,he,rfl⟩;unfold pyNext;refine Ca (Jt (Ft (name:=Str.ofString "__next__") hT F.slot_enumerate_next (Fx F.slot_enumerate_next hT F.entry_enumerate_next ?_ (F.args_enumerate_next_1 _))));show wpAny _ _ (field (.ref e) 2 >>= _) _ _ _;refine Ca (F7 he rfl (x:=.ref it) rfl (Ca (wpAny_nextOf_list_end hh hit hl hx fun h' x he' hx'=>?_)));obtain ⟨o,ho,hc⟩:=hx';refine Ca (wpAny_isInstance (T:="StopIteration") (b:=true) ⟨o,ho,hc⟩ isSubtype_stop ?_);exact Ck (hQ _ he')
end
end Rw
namespace Rw
set_option tactic.hygienic true
open PySem
open PySem.Sem (wp)
section
variable {prog:Program} {w:World} {A:Around} {E:Value→Shared→Prop} {s:Shared}
theorem jqm (d:Addr) (hd:(d == sysModules)=false) :
  MeetsIn prog w (Builtin.«dict.items» ⟨[.ref d],[]⟩) (fun _ R s=>s.TypeIs (.ref d) "dict"∧R (.ok (.ret (.ref s.heap.objs.size))) { s with heap:=s.heap.push { cls:=.type "dict_items",data:=.fields #[.ref d] } }) :=
 .of_wp fun A R s ⟨hT,h⟩=>by
  unfold Builtin.«dict.items»;refine Ca ?_;unfold Builtin.Dict.noArgs;refine Ca (wpAny_notOrdered_dict hT ?_);show wpAny _ _ (pure d) _ _ s;refine Ck ?_;show wpAny _ _ (Builtin.Dict.showsAll d >>= _) _ _ s;unfold Builtin.Dict.showsAll;rw [Cc (by rw [hd];exact C7)];exact Ca (Ck (Ca (F1 (Ck ⟨_,rfl,h⟩))))
theorem jrr {v d:Addr} {o:Obj} {es:Array DictEntry} {ep:Nat} {Q:Value→Shared→Prop} (hv:s.heap.IsItemsView v d) (ho:s.heap.get? d=some o) (hd:o.data=.dict es ep)
  (hQ:Q (.ref s.heap.objs.size) { s with heap:=s.heap.push { cls:=.type "dict_itemiterator",data:=.fields #[.none,.bool false,.ref d,.int 0 0,.int es.size 0,.int ep 0,.none,.none] } }):wpAny (model prog w) A (pyIter (.ref v)) Q E s:=by
 obtain ⟨ov,hov,hcv,hdv⟩:=id hv;refine wpAny_pyIter_slot hv.typeIs F.slot_dict_items_iter (Fx F.slot_dict_items_iter hv.typeIs F.entry_dict_items_iter ?_ (F.args_dict_items_iter_1 _));unfold Builtin.«dict_items.__iter__»;refine Ca (Ck (Ca ?_));unfold Builtin.Dict_items.dictOf;refine Ca (F7 hov hdv (x:=.ref d) rfl (Ck (Ca ?_)));unfold Builtin.Dict_items.newIterator;refine Ca (Gn ho hd (Ca (Jr ho hd ?_)));have own:Builtin.Dict_items.ownsTuple "dict_itemiterator"=true:=by decide
 simp only [own,Lf];refine F1 (Ck ⟨_,rfl,"dict_itemiterator",_,⟨_,Cv _ rfl,rfl⟩,F.slot_dict_itemiterator_next.lookup,?_⟩) (by simp only [sizeOk,Builtin.Dict_items.ownedTupleFields,Cy,Ci,Cd,Ct,Gb];omega);simpa [rawInt,Builtin.Dict_items.ownedTupleFields] using hQ
theorem jrs {it d:Addr} {i n ep:Nat} {od:Obj} {es:Array DictEntry} {en:DictEntry} {ok ov:Value} {Q:Option Value→Shared→Prop} (hit:IsItemIter s.heap it d i n ep ok ov) (hod:s.heap.get? d=some od) (hdd:od.data=.dict es ep) (hsz:es.size=n) (hx:es[i]?=some en)
  (hQ:∀ h',IsItemIterOut h' it d (i+1) n ep en.key en.val s.heap.objs.size→h'.get? s.heap.objs.size=some { cls:=.type "tuple",data:=.seq #[en.key,en.val] }→h'.objs.size=s.heap.objs.size+1→(∀ b o,b≠it→s.heap.get? b=some o→h'.get? b=some o)→Q (some (.ref s.heap.objs.size)) { s with heap:=h' }) :
  wpAny (model prog w) A (pyNext (.ref it)) Q E s:=by
 obtain ⟨hp,g,dr,tk,os⟩:=s;have hT:Shared.TypeIs ⟨hp,g,dr,tk,os⟩ (.ref it) "dict_itemiterator":=⟨_,hit,rfl⟩;unfold pyNext;refine Ca (Jt (Ft (name:=Str.ofString "__next__") hT F.slot_dict_itemiterator_next (Fx F.slot_dict_itemiterator_next hT F.entry_dict_itemiterator_next ?_ (F.args_dict_itemiterator_next_1 _))));refine Ca (Ck (Ca (Ca ?_)))
 first|refine Ca (Gg hT (Ck (Ca (J9 hit rfl ?_))))|refine Ca (G3 hT (Ck (Ca (J9 hit rfl ?_))))
 have own:Builtin.Dict_items.ownsTuple "dict_itemiterator"=true:=by decide
 simp only [own,Lf];show wpAny _ _ (if (Value.ref d == Value.none)=true then _ else _) _ _ _;rw [Cc (show ¬((Value.ref d == Value.none)=true) from C7)];refine Ca (Ck (Ca (Gn hod hdd ?_)));rw [Cc (by rw [hsz];simp)];refine Ca (Ck (Ca (Jr hod hdd ?_)));rw [Cc (by simp)];refine Ck ?_;obtain ⟨lt,rfl⟩:=D9.mp hx;simp only [show ¬((i:Int) < 0) from by omega,Gs,Dt,Fl lt];refine Ca ?_
 first|refine Ca (Gg hT (Ck (Ca (Jm hT ?_))))|refine Ca (G3 hT (Ck (Ca (Jm hT ?_))))
 show wpAny _ _ (setField (.ref it) 3 (rawInt ((i:Int)+1)) >>= _) _ _ ⟨hp,g,dr,tk,os⟩;refine Ca (Fo hit (by simp) fun ha ea sa=>?_);have sa':Heap.SameBut it hp ha:=sa;have ea':IsItemIter ha it d (i+1) n ep ok ov:=by
  have z:((i+1:Nat):Int)=(i:Int)+1:=by omega
  unfold IsItemIter;rw [z];simpa [rawInt] using ea
 have ta:Shared.TypeIs ⟨ha,g,dr,tk,os⟩ (.ref it) "dict_itemiterator":=⟨_,ea',rfl⟩;refine Ca (F4 (Ca (Jm ta (Ca (Jm ta ?_)))));show wpAny _ _ (Builtin.Dict_items.pairFromOwner (.ref it) 6 es[i].key es[i].val) _ _ ⟨ha,g,dr,tk,os⟩;unfold Builtin.Dict_items.pairFromOwner;refine Ca (wpAny_newTuple ?_);have eb:IsItemIter (ha.push { cls:=.type "tuple",data:=.seq #[es[i].key,es[i].val] }) it d (i+1) n ep ok ov:=Ch _ ea'
 generalize hh:ha.push { cls:=.type "tuple",data:=.seq #[es[i].key,es[i].val] }=hb at eb;have z1:ha.objs.size=hp.objs.size:=sa'.1;have il:it < hp.objs.size:=Cu hit;have tb:hb.get? hp.objs.size=some { cls:=.type "tuple",data:=.seq #[es[i].key,es[i].val] }:=by rw [←hh,←z1];exact Cv _ rfl
 have zb:hb.objs.size=hp.objs.size+1:=by rw [←hh,Fb,z1]
 have kb:∀ b o,b≠it→hp.get? b=some o→hb.get? b=some o:=fun b o q e=>by rw [←hh];exact Ch _ (sa'.extBut b o q e)
 show wpAny _ _ (Builtin.Dict_items.ownedTupleIsFree (.ref it) >>= _) _ _ ⟨hb,g,dr,tk,os⟩;rw [z1];clear hh ea ea' sa sa' ta z1;refine Ca ?_;unfold Builtin.Dict_items.ownedTupleIsFree;refine Ca (F7 eb rfl (x:=.none) rfl (Ck ?_));simp only [Lf];refine Ca (F7 eb rfl (x:=ok) rfl (Ca (F7 eb rfl (x:=ov) rfl ?_)));refine Ca (Fo eb (by simp) fun hc ec sc=>?_);have sc':Heap.SameBut it hb hc:=sc;have ec':IsItemIter hc it d (i+1) n ep es[i].key ov:=ec
 refine Ca (Fo ec' (by simp) fun hd ed sd=>?_);have sd':Heap.SameBut it hc hd:=sd;have ed':IsItemIter hd it d (i+1) n ep es[i].key es[i].val:=ed;refine Ca (Fo ed' (by simp) fun he ee se=>?_);have se':Heap.SameBut it hd he:=se;have ee':IsItemIterOut he it d (i+1) n ep es[i].key es[i].val hp.objs.size:=ee;refine Ca (Fo ee' (by simp) fun hf ef sf=>?_);have sf':Heap.SameBut it he hf:=sf;have ef':IsItemIterOut hf it d (i+1) n ep es[i].key es[i].val hp.objs.size:=ef
 refine Ca (wpAny_letGo (Ck (Ck ⟨_,rfl,Ck (hQ hf ef' ?_ ?_ ?_)⟩)))
 ·exact sf'.extBut _ _ (Fs il) (se'.extBut _ _ (Fs il) (sd'.extBut _ _ (Fs il) (sc'.extBut _ _ (Fs il) tb)))
 ·show hf.objs.size=hp.objs.size+1;rw [sf'.1,se'.1,sd'.1,sc'.1,zb]
 ·exact fun b o q e=>sf'.extBut b o q (se'.extBut b o q (sd'.extBut b o q (sc'.extBut b o q (kb b o q e))))
theorem jst {it d:Addr} {i n ep:Nat} {od:Obj} {es:Array DictEntry} {ok ov:Value} {Q:Option Value→Shared→Prop} (hh:A.handled=none) (hit:IsItemIter s.heap it d i n ep ok ov) (hod:s.heap.get? d=some od) (hdd:od.data=.dict es ep) (hsz:es.size=n) (hx:n≤i)
  (hQ:∀ h',Heap.ExtBut it s.heap h'→Q none { s with heap:=h' }):wpAny (model prog w) A (pyNext (.ref it)) Q E s:=by
 have hT:s.TypeIs (.ref it) "dict_itemiterator":=⟨_,hit,rfl⟩;unfold pyNext;refine Ca (Jt (Ft (name:=Str.ofString "__next__") hT F.slot_dict_itemiterator_next (Fx F.slot_dict_itemiterator_next hT F.entry_dict_itemiterator_next ?_ (F.args_dict_itemiterator_next_1 _))));refine Ca (Ck (Ca (Ca ?_)))
 first|refine Ca (Gg hT (Ck (Ca (J9 hit rfl ?_))))|refine Ca (G3 hT (Ck (Ca (J9 hit rfl ?_))))
 have own:Builtin.Dict_items.ownsTuple "dict_itemiterator"=true:=by decide
 simp only [own,Lf];show wpAny _ _ (if (Value.ref d == Value.none)=true then _ else _) _ _ s;rw [Cc (show ¬((Value.ref d == Value.none)=true) from C7)];refine Ca (Ck (Ca (Gn hod hdd ?_)));rw [Cc (by rw [hsz];simp)];refine Ca (Ck (Ca (Jr hod hdd ?_)));rw [Cc (by simp)];refine Ck ?_;have ge:es.size≤i:=by rw [hsz];exact hx
 simp only [show ¬((i:Int) < 0) from by omega,Gs,Dt,Gv ge];refine Ca ?_
 first|refine Ca (Gg hT (Ck ?_))|refine Ca (G3 hT (Ck ?_))
 show wpAny _ _ (setField (.ref it) 2 .none >>= _) _ _ s;refine Ca (La hit rfl (by simp) ?_);show wpAny _ _ (newExc (.type "StopIteration") [] >>= _) _ _ _;refine Ca ?_;simp only [newExc,newTuple];refine Ca (F1 ?_ (by size_fits));refine Ca (m:=firstArgMember _ _) (Gm (a:=Value.none) (by first|rfl|(simp only [firstArgMember];rfl)) (F1 ?_ (by size_fits)));simp only [raiseNew];refine Ca (wpAny_handled ?_);rw [show A.in1.handled=none from hh];refine Ca (Ck (wpAny_throw ?_))
 refine Ca (wpAny_isInstance (T:="StopIteration") (b:=true) ⟨_,Cv _ rfl,rfl⟩ isSubtype_stop ?_);exact Ck (hQ _ (((Fg ..).extBut.push _).push _))
end
end Rw
namespace Rd
open Sy
variable {g:Weights} {l r b p:List Nat} {c n x0 f x1:Nat} {a:Join} {js:List Join} {ws:List Word} {cuts:Text}
noncomputable def by8 (l:List Nat):Bytes:=l.map UInt8.ofNat
theorem jfO {a b:Nat} (ha:a < 256) (hb:b < 256) (h:UInt8.ofNat a=UInt8.ofNat b):a=b:=by
 have e:=D7 UInt8.toNat h;simp only [UInt8.toNat_ofNat'] at e;omega
theorem jeD {a:Nat} (ha:a < 256):(UInt8.ofNat a).toNat=a:=by
 simp only [UInt8.toNat_ofNat'];omega
theorem zA (c:Nat) (l:List Nat):by8 (c :: l)=UInt8.ofNat c :: by8 l:=rfl
theorem ze (a b:List Nat):by8 (a++b)=by8 a++by8 b:=Dc
theorem vV (a:List Nat):(by8 a).length=a.length:=Cb ..
noncomputable def jO (l:List Nat):Prop:=∀ x∈l,x < 256
theorem jO.cons (h:jO (c :: l)):c < 256∧jO l:=⟨h c (Cf ..),fun x hx=>h x (Cg _ hx)⟩
theorem jO.app {a:List Nat} (h:jO (a++b)):jO a∧jO b:=⟨fun x hx=>h x (G8 _ hx),fun x hx=>h x (D1 _ hx)⟩
noncomputable def jZ (st:List (List Nat)×List Nat) (c:Nat):List (List Nat)×List Nat:=if c=10 then (st.1++[st.2++[c]],[]) else (st.1,st.2++[c])
noncomputable def jcI (st:List (List Nat)×List Nat):List (List Nat):=if st.2=[] then st.1 else st.1++[st.2]
noncomputable def jS (t:List Nat):List (List Nat):=jcI (t.foldl jZ ([],[]))
theorem job (p:List (List Nat)) (st:List (List Nat)×List Nat) (c:Nat):jZ (p++st.1,st.2) c=(p++(jZ st c).1,(jZ st c).2):=by
 unfold jZ;by_cases h:c=10
 ·simp [h]
 ·simp [h]
theorem jhV (p:List (List Nat)):∀ (t:List Nat) (st:List (List Nat)×List Nat),t.foldl jZ (p++st.1,st.2)=(p++(t.foldl jZ st).1,(t.foldl jZ st).2)
 | [],_=>rfl
 | c :: t,st=>by
  rw [Fi,Fi,job];exact jhV p t (jZ st c)
theorem jff:∀ (t:List Nat) (ls:List (List Nat)) (a:List Nat),(∀ x∈t,x≠10)→t.foldl jZ (ls,a)=(ls,a++t)
 | [],_,_,_=>by simp
 | c :: t,ls,a,h=>by
  rw [Fi];have hc:c≠10:=h c (Cf ..);rw [show jZ (ls,a) c=(ls,a++[c]) by simp [jZ,hc],jff t ls (a++[c]) fun x hx=>h x (Cg _ hx)];simp
theorem jej (hn:l≠[]) (h:∀ x∈l,x≠10):jS l=[l]:=by
 unfold jS;rw [jff l [] [] h];simp [jcI,hn]
theorem jfe (h:∀ x∈l,x≠10):jS (l++10 :: r)=(l++[10]) :: jS r:=by
 unfold jS;rw [Jc,jff l [] [] h,Fi];have e:jZ ([],[]++l) 10=([l++[10]]++([]:List (List Nat)),[]):=by simp [jZ]
 rw [e,jhV [l++[10]] r ([],[])];unfold jcI;by_cases q:(r.foldl jZ ([],[])).2=[]
 ·simp [q]
 ·simp [q]
theorem jeA (t:List Nat):t=[]∨(t≠[]∧(∀ x∈t,x≠10))∨∃ l r,(∀ x∈l,x≠10)∧t=l++10 :: r:=by
 induction t with
 | nil=>exact .inl rfl
 | cons c t ih =>
  by_cases hc:c=10
  ·subst hc;exact .inr (.inr ⟨[],t,by simp,rfl⟩)
  ·rcases ih with rfl|⟨_,h⟩|⟨l,r,h,rfl⟩
   ·exact .inr (.inl ⟨by simp,by simp [hc]⟩)
   ·exact .inr (.inl ⟨by simp,by
     intro x hx;rcases Cp.mp hx with rfl|hx
     ·exact hc
     ·exact h x hx⟩)
   ·exact .inr (.inr ⟨c :: l,r,by
     intro x hx;rcases Cp.mp hx with rfl|hx
     ·exact hc
     ·exact h x hx,rfl⟩)
theorem jc4:∀ {l:List Nat},jO l→(∀ x∈l,x≠10)→((by8 l).takeWhile fun (c:UInt8)=>c != 0x0A)=by8 l
 | [],_,_=>rfl
 | c :: l,hs,h=>by
  have hc:c≠10:=h c (Cf ..);have e:(UInt8.ofNat c != 0x0A)=true:=by
   rw [Lq];intro q;exact hc (jfO hs.cons.1 (by decide) (show UInt8.ofNat c=UInt8.ofNat 10 from q))
  rw [zA,List.takeWhile_cons,e,Ce rfl,jc4 hs.cons.2 fun x hx=>h x (Cg _ hx)]
theorem jez:∀ {l r:List Nat},jO l→(∀ x∈l,x≠10)→((by8 (l++10 :: r)).takeWhile fun (c:UInt8)=>c != 0x0A)=by8 l
 | [],r,_,_=>by
  show ((UInt8.ofNat 10 :: by8 r).takeWhile fun (c:UInt8)=>c != 0x0A)=[];rw [List.takeWhile_cons]
  rfl
 | c :: l,r,hs,h=>by
  have hc:c≠10:=h c (Cf ..);have e:(UInt8.ofNat c != 0x0A)=true:=by
   rw [Lq];intro q;exact hc (jfO hs.cons.1 (by decide) (show UInt8.ofNat c=UInt8.ofNat 10 from q))
  rw [List.cons_append,zA,List.takeWhile_cons,e,Ce rfl,jez hs.cons.2 fun x hx=>h x (Cg _ hx)]
  rfl
noncomputable def vK (st:List (List Nat)×List Nat) (c:Nat):List (List Nat)×List Nat:=if c=32 then (st.1++[st.2],[]) else (st.1,st.2++[c])
noncomputable def jbu (t:List Nat):List (List Nat):=(t.foldl vK ([],[])).1++[(t.foldl vK ([],[])).2]
noncomputable def jad (a:List Nat):List (List Nat)→List (List Nat)
 | []=>[a]
 | p :: r=>(a++p) :: r
noncomputable def jD:List Nat→List (List Nat)
 | []=>[[]]
 | c :: t=>if c=32 then [] :: jD t else jad [c] (jD t)
theorem jat:∀ t:List Nat,jD t≠[]
 | []=>by simp [jD]
 | c :: t=>by
  unfold jD;by_cases h:c=32
  ·simp [h]
  ·rw [Cc h];cases jD t<;>simp [jad]
theorem jmp (a b:List Nat):∀ l:List (List Nat),jad (a++b) l=jad a (jad b l)
 | []=>rfl
 | p :: r=>by simp [jad]
theorem jgp:∀ {l:List (List Nat)},l≠[]→jad [] l=l
 | [],h=>absurd rfl h
 | _ :: _,_=>rfl
theorem jlC:∀ (t:List Nat) (ps:List (List Nat)) (a:List Nat),(t.foldl vK (ps,a)).1++[(t.foldl vK (ps,a)).2]=ps++jad a (jD t)
 | [],ps,a=>by simp [jD,jad]
 | c :: t,ps,a=>by
  rw [Fi];by_cases h:c=32
  ·rw [show vK (ps,a) c=(ps++[a],[]) by simp [vK,h],jlC t (ps++[a]) [],jgp (jat t)];simp [jD,h,jad]
  ·rw [show vK (ps,a) c=(ps,a++[c]) by simp [vK,h],jlC t ps (a++[c]),jmp];simp [jD,h]
theorem jly (t:List Nat):jbu t=jD t:=by
 unfold jbu;rw [jlC t [] [],Jq,jgp (jat t)]
theorem jfn:∀ {t:List Nat},jO t→parted (by8 t)=(jD t).map by8
 | [],_=>rfl
 | c :: t,hs=>by
  have ih:=jfn hs.cons.2;unfold parted at ih ⊢;rw [zA,List.foldr_cons,ih];by_cases h:c=32
  ·subst h;simp only [jD,Lf]
   rfl
  ·have e:¬UInt8.ofNat c=0x20:=fun q=>h (jfO hs.cons.1 (by decide) (show UInt8.ofNat c=UInt8.ofNat 32 from q));rw [Cc e];simp only [jD,Cc h];cases hp:jD t with
   | nil=>exact absurd hp (jat t)
   | cons p r=>rfl
theorem jdh:∀ {t:List Nat},jO t→∀ p∈jD t,jO p
 | [],_=>by simp [jD,jO]
 | c :: t,hs=>by
  have ih:=jdh hs.cons.2;intro p hp;unfold jD at hp;by_cases h:c=32
  ·rw [Ce h] at hp;rcases Cp.mp hp with rfl|hp
   ·intro x hx;cases hx
   ·exact ih p hp
  ·rw [Cc h] at hp;cases hq:jD t with
   | nil=>exact absurd hq (jat t)
   | cons q r =>
    rw [hq] at hp ih;rcases Cp.mp hp with rfl|hp
    ·intro x hx;rcases Ds.mp hx with hx|hx
     ·rw [Cm.mp hx];exact hs.cons.1
     ·exact ih q (Cf ..) x hx
    ·exact ih p (Cg _ hp)
noncomputable def isDigit (c:Nat):Bool:=decide (48≤c) && decide (c≤57)
noncomputable def jP (p:List Nat):Bool:=p.all isDigit && (!p.isEmpty && (p.length == 1 || p.head? != some 48))
noncomputable def jW (n:Nat) (p:List Nat):Nat:=p.foldl (fun n c=>n * 10+c - 48) n
noncomputable def jU (p:List Nat):Nat:=if 5 < p.length then 100000 else jW 0 p
theorem jjs:∀ {p:List Nat} (n:Nat),jO p→p.all isDigit=true→(by8 p).foldl (fun (n:Nat) (c:UInt8)=>10 * n+(c.toNat - 0x30)) n=jW n p
 | [],_,_,_=>rfl
 | c :: p,n,hs,h=>by
  rw [Jf,Cn] at h;have hd:48≤c∧c≤57:=by simpa [isDigit] using h.1
  rw [zA,Fi,jeD hs.cons.1,jjs _ hs.cons.2 h.2];show jW _ p=jW (n * 10+c - 48) p;rw [Nat.mul_comm,Nat.add_sub_assoc hd.1]
theorem jd9:∀ {p:List Nat},jO p→(by8 p).all (fun (c:UInt8)=>decide (0x30≤c.toNat) && decide (c.toNat≤0x39))=p.all isDigit
 | [],_=>rfl
 | c :: p,hs=>by
  rw [zA,Jf,Jf,jeD hs.cons.1,jd9 hs.cons.2]
  rfl
theorem jpc:∀ {p:List Nat},jO p→((by8 p).head?≠some 0x30↔p.head?≠some 48)
 | [],_=>by simp [by8]
 | c :: p,hs=>by
  rw [zA];simp only [List.head?_cons,ne_eq,Jz];constructor
  ·intro h q;exact h (by rw [q];rfl)
  ·intro h q;exact h (jfO hs.cons.1 (by decide) (show UInt8.ofNat c=UInt8.ofNat 48 from q))
theorem jaU (hs:jO p):decimalOf (by8 p)=if jP p=true then some (jW 0 p) else none:=by
 unfold decimalOf;by_cases h:jP p=true
 ·rw [Ce h];simp only [jP,Cn,Gp,Lq,D8,Jd] at h;obtain ⟨h1,h2,h3⟩:=h;rw [Ce,jjs 0 hs h1];refine ⟨?_,?_,?_⟩
  ·cases p with
   | nil=>simp at h2
   | cons c p=>rfl
  ·rcases h3 with h3|h3
   ·exact .inl (by rw [vV];exact h3)
   ·exact .inr ((jpc hs).mpr h3)
  ·rw [jd9 hs];exact h1
 ·rw [Cc h,Cc];rintro ⟨h2,h3,h1⟩;apply h;simp only [jP,Cn,Gp,Lq,D8,Jd];refine ⟨by rw [←jd9 hs];exact h1,?_,?_⟩
  ·cases p with
   | nil=>simp [by8] at h2
   | cons c p=>rfl
  ·rcases h3 with h3|h3
   ·exact .inl (by rw [vV] at h3;exact h3)
   ·exact .inr ((jpc hs).mp h3)
theorem jjt:∀ {p:List Nat} (n:Nat),p.all isDigit=true→n * 10 ^ p.length≤jW n p
 | [],n,_=>by simp [jW]
 | c :: p,n,h=>by
  rw [Jf,Cn] at h;have hd:48≤c∧c≤57:=by simpa [isDigit] using h.1
  have ih:=jjt (p:=p) (n * 10+c - 48) h.2;show n * 10 ^ (p.length+1)≤jW (n * 10+c - 48) p;refine Da ?_ ih;rw [Nat.pow_succ,Nat.mul_comm (10 ^ p.length) 10,←Nat.mul_assoc];exact Nat.mul_le_mul_right _ (by omega)
theorem jr9 (h:jP p=true) (h5:5 < p.length):100000≤jW 0 p:=by
 simp only [jP,Cn,Gp,Lq,D8,Jd] at h;obtain ⟨h1,h2,h3⟩:=h;cases p with
 | nil=>simp at h5
 | cons c p =>
  have hc:c≠48:=by
   rcases h3 with h3|h3
   ·omega
   ·exact fun q=>h3 (by rw [q];rfl)
  rw [Jf,Cn] at h1;have hd:48≤c∧c≤57:=by simpa [isDigit] using h1.1
  have ih:=jjt (p:=p) (0 * 10+c - 48) h1.2;show 100000≤jW (0 * 10+c - 48) p;refine Da ?_ ih;have l5:5≤p.length:=by simp at h5;omega
  have:10 ^ 5≤10 ^ p.length:=Nat.pow_le_pow_right (by decide) l5
  calc 100000=1 * 10 ^ 5:=by decide
   _≤(0 * 10+c - 48) * 10 ^ p.length:=Nat.mul_le_mul (by omega) this
theorem jae (h:jP p=true):jU p=jW 0 p∨(jU p=100000∧100000≤jW 0 p):=by
 unfold jU;by_cases h5:5 < p.length
 ·rw [Ce h5];exact .inr ⟨rfl,jr9 h h5⟩
 ·rw [Cc h5];exact .inl rfl
noncomputable def ju (f:Nat):Nat:=if f < 128 then 1 else if 192≤f∧f < 224 then 2 else if 224≤f∧f < 240 then 3 else if 240≤f∧f < 248 then 4 else 0
noncomputable def v6 (n:Nat):Nat:=if n=2 then 192 else if n=3 then 224 else if n=4 then 240 else 0
noncomputable def vp (n:Nat):Nat:=if n=2 then 128 else if n=3 then 2048 else if n=4 then 65536 else 0
noncomputable def jK:Nat→List Nat→Option Nat
 | n,[]=>some n
 | n,c :: r=>if 128≤c∧c < 192 then jK (n * 64+c - 128) r else none
noncomputable def jli:List Nat→Option Nat
 | []=>none
 | f :: r=>jK (f - v6 (r.length+1)) r
noncomputable def jL (b:List Nat) (n:Nat):Option Nat:=if n=0∨b.length < n then none else (jli (b.take n)).bind fun c=>if c < vp n∨isChar c=false then none else some c
noncomputable def jaD:Nat→List Nat→Option (List Nat)
 | _,[]=>some []
 | 0,_ :: _=>none
 | n+1,f :: b=>(jL (f :: b) (ju f)).bind fun c=>(jaD n ((f :: b).drop (ju f))).map fun t=>c :: t
theorem jcH (h:isChar c=true):c < 0x110000∧(c < 0xD800∨0xE000≤c):=by
 simp only [isChar,Cn,Jd,Bool.and_eq_false_iff,Dd,decide_eq_false_iff_not] at h;omega
theorem jti (h:c < 128):utf8 c=by8 [c]:=by
 unfold utf8;rw [Ce h]
 rfl
theorem jtj (h:¬c < 128) (h2:c < 2048):utf8 c=by8 [0xC0+c / 64,0x80+c % 64]:=by
 unfold utf8;rw [Cc h,Ce h2]
 rfl
theorem jtk (h:¬c < 2048) (h2:c < 65536):utf8 c=by8 [0xE0+c / 4096,0x80+c / 64 % 64,0x80+c % 64]:=by
 unfold utf8;rw [Cc (by omega),Cc h,Ce h2]
 rfl
theorem jtl (h:¬c < 65536):utf8 c=by8 [0xF0+c / 262144,0x80+c / 4096 % 64,0x80+c / 64 % 64,0x80+c % 64]:=by
 unfold utf8;rw [Cc (by omega),Cc (by omega),Cc h]
 rfl
theorem jmX:∀ {a b:List Nat},jO a→jO b→by8 a=by8 b→a=b
 | [],[],_,_,_=>rfl
 | [],_ :: _,_,_,h=>by simp [by8] at h
 | _ :: _,[],_,_,h=>by simp [by8] at h
 | x :: a,y :: b,ha,hb,h=>by
  rw [zA,zA,G6] at h;rw [jfO ha.cons.1 hb.cons.1 h.1,jmX ha.cons.2 hb.cons.2 h.2]
theorem jkI (l:List Nat) (n:Nat):(by8 l).take n=by8 (l.take n):=by simp [by8,List.map_take]
theorem jec (l:List Nat) (n:Nat):(by8 l).drop n=by8 (l.drop n):=by simp [by8,List.map_drop]
noncomputable def valN (n:Nat) (x0 x1 x2 x3:Nat):Nat:=if n=1 then x0 else if n=2 then (x0 - 0xC0) * 64+(x1 - 0x80) else if n=3 then (x0 - 0xE0) * 4096+(x1 - 0x80) * 64+(x2 - 0x80) else (x0 - 0xF0) * 262144+(x1 - 0x80) * 4096+(x2 - 0x80) * 64+(x3 - 0x80)
theorem jqq (hs:jO l) (i:Nat):((by8 l).getD i 0).toNat=l.getD i 0:=by
 unfold by8;rw [Cq,Cq,Dz];cases h:l[i]? with
 | none=>rfl
 | some c=>exact jeD (hs c (Cw h))
theorem zz (hs:jO l) (n:Nat):valueOf n (by8 l)=valN n (l.getD 0 0) (l.getD 1 0) (l.getD 2 0) (l.getD 3 0):=by
 unfold valueOf valN;simp only [jqq hs]
noncomputable def okN (l:List Nat) (n:Nat):Bool:=decide (n≤(by8 l).length) && (isChar (valueOf n (by8 l)) && utf8 (valueOf n (by8 l)) == (by8 l).take n)
theorem Qa {x:Nat} (y:Nat) (h:128+y%64=x):128≤x∧x < 192:=h ▸ ⟨Nat.le_add_right ..,Nat.add_lt_add_left (Nat.mod_lt _ (by decide)) 128⟩
theorem Qb {v a d:Nat} (e:v=a*64+(d - 128)) (h:128≤d) (k:d < 192):v/64=a∧128+v%64=d:=by
 have z:d - 128 < 64:=by omega
 rw [e,Nat.add_comm (a*64),Nat.add_mul_div_right _ _ (by decide),Nat.add_mul_mod_self_right,Nat.div_eq_of_lt z,Nat.mod_eq_of_lt z,Nat.add_sub_of_le h];exact ⟨Nat.zero_add _,rfl⟩
theorem Qd (v:Nat):v/4096=v/64/64∧v/262144=v/64/64/64:=by rw [Nat.div_div_eq_div_mul,Nat.div_div_eq_div_mul];exact ⟨rfl,rfl⟩
theorem jiH (h:c < 0x110000):∃ u,utf8 c=by8 u∧jO u∧u=(if c < 128 then [c] else if c < 2048 then [0xC0+c / 64,0x80+c % 64] else if c < 65536 then [0xE0+c / 4096,0x80+c / 64 % 64,0x80+c % 64] else [0xF0+c / 262144,0x80+c / 4096 % 64,0x80+c / 64 % 64,0x80+c % 64]):=by
 by_cases h1:c < 128
 ·exact ⟨_,jti h1,by intro x hx;simp at hx;omega,by rw [Ce h1]⟩
 ·by_cases h2:c < 2048
  ·refine ⟨_,jtj h1 h2,?_,by rw [Cc h1,Ce h2]⟩;intro x hx;simp at hx;omega
  ·by_cases h3:c < 65536
   ·refine ⟨_,jtk h2 h3,?_,by rw [Cc h1,Cc h2,Ce h3]⟩;intro x hx;simp at hx;rcases hx with z|z|z;(rw [z];exact Nat.lt_trans (Nat.add_lt_add_left (Nat.div_lt_of_lt_mul h3:c/4096 < 16) 224) (by decide));all_goals exact Nat.lt_trans (Qa _ z.symm).2 (by decide)
   ·refine ⟨_,jtl h3,?_,by rw [Cc h1,Cc h2,Cc h3]⟩;intro x hx;simp at hx;rcases hx with z|z|z|z;(rw [z];exact Nat.lt_trans (Nat.add_lt_add_left (Nat.div_lt_of_lt_mul (Nat.lt_trans h (by decide)):c/262144 < 8) 240) (by decide));all_goals exact Nat.lt_trans (Qa _ z.symm).2 (by decide)
theorem jf5 (hs:jO l):okN l n=true↔n≤l.length∧isChar (valueOf n (by8 l))=true∧(if valueOf n (by8 l) < 128 then [valueOf n (by8 l)] else if valueOf n (by8 l) < 2048 then [0xC0+valueOf n (by8 l) / 64,0x80+valueOf n (by8 l) % 64] else if valueOf n (by8 l) < 65536 then [0xE0+valueOf n (by8 l) / 4096,0x80+valueOf n (by8 l) / 64 % 64,0x80+valueOf n (by8 l) % 64] else [0xF0+valueOf n (by8 l) / 262144,0x80+valueOf n (by8 l) / 4096 % 64,0x80+valueOf n (by8 l) / 64 % 64,0x80+valueOf n (by8 l) % 64])=l.take n:=by
 unfold okN;rw [Cn,Cn,Dd,vV];constructor
 ·rintro ⟨h1,h2,h3⟩;refine ⟨h1,h2,?_⟩;obtain ⟨u,e1,e2,e3⟩:=jiH (jcH h2).1;rw [e1,jkI,D8] at h3;have:=jmX e2 (fun x hx=>hs x (List.mem_of_mem_take hx)) h3;rw [←e3];exact this
 ·rintro ⟨h1,h2,h3⟩;refine ⟨h1,h2,?_⟩;obtain ⟨u,e1,e2,e3⟩:=jiH (jcH h2).1;rw [e1,jkI,D8];rw [←e3] at h3;rw [h3]
theorem jbA (h:c < 0x110000) (h2:c < 0xD800∨0xE000≤c):isChar c=true:=by
 simp only [isChar,Cn,Jd,Bool.and_eq_false_iff,Dd,decide_eq_false_iff_not];omega
theorem jsQ (hs:jO (x0 :: r)):okN (x0 :: r) 1=true↔x0 < 128:=by
 rw [jf5 hs,zz hs];have e:valN 1 ((x0 :: r).getD 0 0) ((x0 :: r).getD 1 0) ((x0 :: r).getD 2 0) ((x0 :: r).getD 3 0)=x0:=rfl;rw [e];have h0:=hs.cons.1;constructor
 ·rintro ⟨_,_,h⟩;by_cases h1:x0 < 128
  ·exact h1
  ·rw [Cc h1,Ce (by omega)] at h;simp at h
 ·intro h;exact ⟨by simp,jbA (by omega) (by omega),by rw [Ce h];rfl⟩
theorem jqM (hs:jO (x0 :: x1 :: r)):okN (x0 :: x1 :: r) 2=true↔(194≤x0∧x0 < 224∧128≤x1∧x1 < 192):=by
 rw [jf5 hs,zz hs];have e:valN 2 ((x0 :: x1 :: r).getD 0 0) ((x0 :: x1 :: r).getD 1 0) ((x0 :: x1 :: r).getD 2 0) ((x0 :: x1 :: r).getD 3 0)=(x0 - 0xC0) * 64+(x1 - 0x80):=rfl;rw [e];have t:(x0 :: x1 :: r).take 2=[x0,x1]:=rfl;rw [t];clear e t;generalize hv:(x0 - 0xC0) * 64+(x1 - 0x80)=v;constructor
 ·rintro ⟨_,hc,h⟩;by_cases h1:v < 128
  ·rw [Ce h1] at h;simp at h
  ·by_cases h2:v < 2048
   ·rw [Cc h1,Ce h2] at h;simp only [G6,and_true] at h;have p:=Qa _ h.2;have q:=h.1;clear h hv;exact ⟨by omega,by omega,p.1,p.2⟩
   ·rw [Cc h1,Cc h2] at h;split at h<;>simp at h
 ·intro h;have p:=Qb hv.symm h.2.2.1 h.2.2.2;have q:v < 2048:=(Nat.div_lt_iff_lt_mul (x:=v) (y:=32) (k:=64) (by decide)).mp (by rw [p.1];clear p hv;omega);refine ⟨by simp,jbA (Nat.lt_trans q (by decide)) (.inl (Nat.lt_trans q (by decide))),?_⟩;rw [Cc (by have:=p.1;clear p hv q;omega),Ce q];simp only [G6,and_true];rw [p.1,p.2];exact ⟨Nat.add_sub_of_le (by clear p hv;omega),rfl⟩
theorem jll {x2:Nat} (hs:jO (x0 :: x1 :: x2 :: r)):okN (x0 :: x1 :: x2 :: r) 3=true↔(224≤x0∧x0 < 240∧128≤x1∧x1 < 192∧128≤x2∧x2 < 192∧2048≤(x0 - 0xE0) * 4096+(x1 - 0x80) * 64+(x2 - 0x80)∧isChar ((x0 - 0xE0) * 4096+(x1 - 0x80) * 64+(x2 - 0x80))=true):=by
 rw [jf5 hs,zz hs];have e:valN 3 ((x0 :: x1 :: x2 :: r).getD 0 0) ((x0 :: x1 :: x2 :: r).getD 1 0) ((x0 :: x1 :: x2 :: r).getD 2 0) ((x0 :: x1 :: x2 :: r).getD 3 0)=(x0 - 0xE0) * 4096+(x1 - 0x80) * 64+(x2 - 0x80):=rfl;rw [e];have t:(x0 :: x1 :: x2 :: r).take 3=[x0,x1,x2]:=rfl;rw [t];clear e t;generalize hv:(x0 - 0xE0) * 4096+(x1 - 0x80) * 64+(x2 - 0x80)=v;constructor
 ·rintro ⟨_,hc,h⟩;by_cases h1:v < 128
  ·rw [Ce h1] at h;simp at h
  ·by_cases h2:v < 2048
   ·rw [Cc h1,Ce h2] at h;simp at h
   ·by_cases h3:v < 65536
    ·rw [Cc h1,Cc h2,Ce h3] at h;simp only [G6,and_true] at h;have p:=Qa _ h.2.1;have q:=Qa _ h.2.2;exact ⟨h.1 ▸ Nat.le_add_right ..,h.1 ▸ (show 224+v/4096 < 224+16 from Nat.add_lt_add_left (Nat.div_lt_of_lt_mul h3) 224),p.1,p.2,q.1,q.2,Nat.le_of_not_lt h2,hc⟩
    ·rw [Cc h1,Cc h2,Cc h3] at h;simp at h
 ·rintro ⟨a1,a2,a3,a4,a5,a6,a7,hc⟩;refine ⟨by simp,hc,?_⟩;have p:=Qb (v:=v) (a:=(x0 - 224)*64+(x1 - 128)) (by rw [←hv];simp only [Nat.add_mul,Nat.mul_assoc,Nat.reduceMul]) a5 a6;have q:=Qb p.1 a3 a4;rw [Cc (by clear p q hv;omega),Cc (by clear p q hv;omega),Ce ((Nat.div_lt_iff_lt_mul (x:=v) (y:=16) (k:=4096) (by decide)).mp (by rw [(Qd v).1,q.1];clear p q hv;omega))];simp only [G6,and_true];rw [(Qd v).1,q.1,q.2,p.2];exact ⟨Nat.add_sub_of_le a1,rfl,rfl⟩
theorem jiW {x2 x3:Nat} (hs:jO (x0 :: x1 :: x2 :: x3 :: r)):okN (x0 :: x1 :: x2 :: x3 :: r) 4=true↔(240≤x0∧x0 < 248∧128≤x1∧x1 < 192∧128≤x2∧x2 < 192∧128≤x3∧x3 < 192∧65536≤(x0 - 0xF0) * 262144+(x1 - 0x80) * 4096+(x2 - 0x80) * 64+(x3 - 0x80)∧isChar ((x0 - 0xF0) * 262144+(x1 - 0x80) * 4096+(x2 - 0x80) * 64+(x3 - 0x80))=true):=by
 rw [jf5 hs,zz hs];have e:valN 4 ((x0 :: x1 :: x2 :: x3 :: r).getD 0 0) ((x0 :: x1 :: x2 :: x3 :: r).getD 1 0) ((x0 :: x1 :: x2 :: x3 :: r).getD 2 0) ((x0 :: x1 :: x2 :: x3 :: r).getD 3 0)=(x0 - 0xF0) * 262144+(x1 - 0x80) * 4096+(x2 - 0x80) * 64+(x3 - 0x80):=rfl;rw [e];have t:(x0 :: x1 :: x2 :: x3 :: r).take 4=[x0,x1,x2,x3]:=rfl;rw [t];clear e t;generalize hv:(x0 - 0xF0) * 262144+(x1 - 0x80) * 4096+(x2 - 0x80) * 64+(x3 - 0x80)=v;constructor
 ·rintro ⟨_,hc,h⟩;by_cases h1:v < 128
  ·rw [Ce h1] at h;simp at h
  ·by_cases h2:v < 2048
   ·rw [Cc h1,Ce h2] at h;simp at h
   ·by_cases h3:v < 65536
    ·rw [Cc h1,Cc h2,Ce h3] at h;simp at h
    ·rw [Cc h1,Cc h2,Cc h3] at h;simp only [G6,and_true] at h;have hb:=(jcH hc).1;have p:=Qa _ h.2.1;have q:=Qa _ h.2.2.1;have s:=Qa _ h.2.2.2;exact ⟨h.1 ▸ Nat.le_add_right ..,h.1 ▸ (show 240+v/262144 < 240+8 from Nat.add_lt_add_left (Nat.div_lt_of_lt_mul (Nat.lt_trans hb (by decide))) 240),p.1,p.2,q.1,q.2,s.1,s.2,Nat.le_of_not_lt h3,hc⟩
 ·rintro ⟨a1,a2,a3,a4,a5,a6,a7,a8,a9,hc⟩;refine ⟨by simp,hc,?_⟩;rw [Cc (by clear hv;omega),Cc (by clear hv;omega),Cc (by clear hv;omega)];simp only [G6,and_true];have p:=Qb (v:=v) (a:=((x0 - 240)*64+(x1 - 128))*64+(x2 - 128)) (by rw [←hv];simp only [Nat.add_mul,Nat.mul_assoc,Nat.reduceMul]) a7 a8;have q:=Qb p.1 a5 a6;have s:=Qb q.1 a3 a4;rw [(Qd v).1,(Qd v).2,s.1,s.2,q.2,p.2];exact ⟨Nat.add_sub_of_le a1,rfl,rfl,rfl⟩
theorem vx (h:l.length < n):okN l n=false:=by
 unfold okN;rw [vV,Fv (by omega),Dv]
theorem jms (l:List Nat):charOf (by8 l)=([1,2,3,4].find? (okN l)).map fun n=>(valueOf n (by8 l),(by8 l).drop n):=rfl
theorem jtv {p:Nat→Bool} (h:p 1=true):[1,2,3,4].find? p=some 1:=by simp [h]
theorem jtw {p:Nat→Bool} (h1:p 1=false) (h:p 2=true):[1,2,3,4].find? p=some 2:=by simp [h1,h]
theorem jtx {p:Nat→Bool} (h1:p 1=false) (h2:p 2=false) (h:p 3=true):[1,2,3,4].find? p=some 3:=by simp [h1,h2,h]
theorem jty {p:Nat→Bool} (h1:p 1=false) (h2:p 2=false) (h3:p 3=false) (h:p 4=true):[1,2,3,4].find? p=some 4:=by simp [h1,h2,h3,h]
theorem zT {p:Nat→Bool} (h1:p 1=false) (h2:p 2=false) (h3:p 3=false) (h:p 4=false):[1,2,3,4].find? p=none:=by simp [h1,h2,h3,h]
theorem jbI {b:Bool} {P:Prop} (h:b=true↔P) (n:¬P):b=false:=by
 cases b with
 | false=>rfl
 | true=>exact absurd (h.mp rfl) n
theorem jnt (hs:jO (x0 :: r)) (h:¬(194≤x0∧x0 < 224)):okN (x0 :: r) 2=false:=by
 cases r with
 | nil=>exact vx (by simp)
 | cons x1 r=>exact jbI (jqM hs) (by omega)
theorem jnu (hs:jO (x0 :: r)) (h:¬(224≤x0∧x0 < 240)):okN (x0 :: r) 3=false:=by
 match r,hs with
 | [],_=>exact vx (by simp)
 | [_],_=>exact vx (by simp)
 | x1 :: x2 :: r,hs=>exact jbI (jll hs) (fun q=>h ⟨q.1,q.2.1⟩)
theorem jdE (hs:jO (x0 :: r)) (h:¬(240≤x0∧x0 < 248)):okN (x0 :: r) 4=false:=by
 match r,hs with
 | [],_=>exact vx (by simp)
 | [_],_=>exact vx (by simp)
 | [_,_],_=>exact vx (by simp)
 | x1 :: x2 :: x3 :: r,hs=>exact jbI (jiW hs) (fun q=>h ⟨q.1,q.2.1⟩)
theorem zn (h:l.length < n):jL l n=none:=by
 unfold jL;rw [Ce (.inr h)]
theorem joT (hs:jO (x0 :: r)):charOf (by8 (x0 :: r))=(jL (x0 :: r) (ju x0)).map fun c=>(c,by8 ((x0 :: r).drop (ju x0))):=by
 rw [jms];have h0:=hs.cons.1;by_cases h1:x0 < 128
 ·rw [jtv ((jsQ hs).mpr h1)];have e:ju x0=1:=by simp [ju,h1]
  have ev:valueOf 1 (by8 (x0 :: r))=x0:=by rw [zz hs];rfl
  have ec:jL (x0 :: r) 1=some x0:=by
   unfold jL;rw [Cc (by simp)];show (some (x0 - 0)).bind _=_;simp [vp,jbA (show x0 < 0x110000 by omega) (by omega)]
  rw [e,ec,Dy,Dy,ev,jec]
 ·have n1:okN (x0 :: r) 1=false:=jbI (jsQ hs) h1;by_cases h2:192≤x0∧x0 < 224
  ·have e:ju x0=2:=by simp [ju,h1,h2]
   rw [e];rcases r with _|⟨x1,r⟩
   ·rw [zT n1 (vx (by simp)) (vx (by simp)) (vx (by simp)),zn (by simp),Fj,Fj]
   ·by_cases q:194≤x0∧x0 < 224∧128≤x1∧x1 < 192
    ·rw [jtw n1 ((jqM hs).mpr q)];have ev:valueOf 2 (by8 (x0 :: x1 :: r))=(x0 - 192) * 64+(x1 - 128):=by rw [zz hs];rfl
     have ec:jL (x0 :: x1 :: r) 2=some ((x0 - 192) * 64+(x1 - 128)):=by
      unfold jL;rw [Cc (by simp)];show (jK (x0 - 192) [x1]).bind _=_;have g:128≤x1∧x1 < 192:=⟨q.2.2.1,q.2.2.2⟩;rw [show jK (x0 - 192) [x1]=some ((x0 - 192) * 64+x1 - 128) by simp [jK,g]];rw [show (x0 - 192) * 64+x1 - 128=(x0 - 192) * 64+(x1 - 128) from Nat.add_sub_assoc g.1 _,C5,Cc];rintro (z|z)
      ·simp [vp] at z;omega
      ·rw [jbA (by omega) (by omega)] at z;cases z
     rw [ec,Dy,Dy,ev,jec]
    ·rw [zT n1 (jbI (jqM hs) q) (jnu hs (by omega)) (jdE hs (by omega))];have ec:jL (x0 :: x1 :: r) 2=none:=by
      unfold jL;rw [Cc (by simp)];show (jK (x0 - 192) [x1]).bind _=_;by_cases g:128≤x1∧x1 < 192
      ·rw [show jK (x0 - 192) [x1]=some ((x0 - 192) * 64+x1 - 128) by simp [jK,g],C5,Ce];exact .inl (by simp [vp];omega)
      ·rw [show jK (x0 - 192) [x1]=none by simp only [jK,Cc g]]
       rfl
     rw [ec]
     rfl
  ·by_cases h3:224≤x0∧x0 < 240
   ·have e:ju x0=3:=by simp only [ju,Cc h1,Cc h2,Ce h3]
    rw [e];have n2:=jnt hs (by omega);rcases r with _|⟨x1,_|⟨x2,r⟩⟩
    ·rw [zT n1 n2 (vx (by simp)) (vx (by simp)),zn (by simp),Fj,Fj]
    ·rw [zT n1 n2 (vx (by simp)) (vx (by simp)),zn (by simp),Fj,Fj]
    ·have J:=jll hs;generalize hV:(x0 - 0xE0) * 4096+(x1 - 0x80) * 64+(x2 - 0x80)=V at J;have ev:valueOf 3 (by8 (x0 :: x1 :: x2 :: r))=V:=by rw [zz hs,←hV];rfl
     have ec0:jL (x0 :: x1 :: x2 :: r) 3=(jK (x0 - 224) [x1,x2]).bind fun c=>if c < vp 3∨isChar c=false then none else some c:=by
      unfold jL;rw [Cc (by simp)]
      rfl
     by_cases g1:128≤x1∧x1 < 192
     ·by_cases g2:128≤x2∧x2 < 192
      ·have em:jK (x0 - 224) [x1,x2]=some V:=by
        rw [←hV];simp only [jK,Ce g1,Ce g2,Nat.add_sub_assoc g1.1,Nat.add_sub_assoc g2.1,Nat.add_mul,Nat.mul_assoc,Nat.reduceMul]
       rw [em,C5] at ec0;by_cases q:2048≤V∧isChar V=true
       ·rw [jtx n1 n2 (J.mpr ⟨h3.1,h3.2,g1.1,g1.2,g2.1,g2.2,q.1,q.2⟩)];rw [Cc (by rintro (z|z);(simp [vp] at z;omega);(rw [q.2] at z;cases z))] at ec0;rw [ec0,Dy,Dy,ev,jec]
       ·rw [zT n1 n2 (jbI J fun z=>q ⟨z.2.2.2.2.2.2.1,z.2.2.2.2.2.2.2⟩) (jdE hs (by omega))];rw [Ce (by
         by_cases z:2048≤V
         ·exact .inr (by cases hq:isChar V with
           | false=>rfl
           | true=>exact absurd ⟨z,hq⟩ q)
         ·exact .inl (by simp [vp];omega))] at ec0
        rw [ec0]
        rfl
      ·rw [zT n1 n2 (jbI J (by clear hV;omega)) (jdE hs (by clear J hV;omega)),ec0];rw [show jK (x0 - 224) [x1,x2]=none by simp only [jK,Ce g1,Cc g2]]
       rfl
     ·rw [zT n1 n2 (jbI J (by clear hV;omega)) (jdE hs (by clear J hV;omega)),ec0];rw [show jK (x0 - 224) [x1,x2]=none by simp only [jK,Cc g1]]
      rfl
   ·have n2:=jnt hs (by omega);have n3:=jnu hs h3;by_cases h4:240≤x0∧x0 < 248
    ·have e:ju x0=4:=by simp only [ju,Cc h1,Cc h2,Cc h3,Ce h4]
     rw [e];rcases r with _|⟨x1,_|⟨x2,_|⟨x3,r⟩⟩⟩
     ·rw [zT n1 n2 n3 (vx (by simp)),zn (by simp),Fj,Fj]
     ·rw [zT n1 n2 n3 (vx (by simp)),zn (by simp),Fj,Fj]
     ·rw [zT n1 n2 n3 (vx (by simp)),zn (by simp),Fj,Fj]
     ·have J:=jiW hs;generalize hV:(x0 - 0xF0) * 262144+(x1 - 0x80) * 4096+(x2 - 0x80) * 64+(x3 - 0x80)=V at J;have ev:valueOf 4 (by8 (x0 :: x1 :: x2 :: x3 :: r))=V:=by rw [zz hs,←hV];rfl
      have ec0:jL (x0 :: x1 :: x2 :: x3 :: r) 4=(jK (x0 - 240) [x1,x2,x3]).bind fun c=>if c < vp 4∨isChar c=false then none else some c:=by
       unfold jL;rw [Cc (by simp)]
       rfl
      by_cases g1:128≤x1∧x1 < 192
      ·by_cases g2:128≤x2∧x2 < 192
       ·by_cases g3:128≤x3∧x3 < 192
        ·have em:jK (x0 - 240) [x1,x2,x3]=some V:=by
          rw [←hV];simp only [jK,Ce g1,Ce g2,Ce g3,Nat.add_sub_assoc g1.1,Nat.add_sub_assoc g2.1,Nat.add_sub_assoc g3.1,Nat.add_mul,Nat.mul_assoc,Nat.reduceMul]
         rw [em,C5] at ec0;by_cases q:65536≤V∧isChar V=true
         ·rw [jty n1 n2 n3 (J.mpr ⟨h4.1,h4.2,g1.1,g1.2,g2.1,g2.2,g3.1,g3.2,q.1,q.2⟩)];rw [Cc (by rintro (z|z);(simp [vp] at z;omega);(rw [q.2] at z;cases z))] at ec0;rw [ec0,Dy,Dy,ev,jec]
         ·rw [zT n1 n2 n3 (jbI J fun z=>q ⟨z.2.2.2.2.2.2.2.2.1,z.2.2.2.2.2.2.2.2.2⟩)];rw [Ce (by
           by_cases z:65536≤V
           ·exact .inr (by cases hq:isChar V with
             | false=>rfl
             | true=>exact absurd ⟨z,hq⟩ q)
           ·exact .inl (by simp [vp];omega))] at ec0
          rw [ec0]
          rfl
        ·rw [zT n1 n2 n3 (jbI J (by clear hV;omega)),ec0];rw [show jK (x0 - 240) [x1,x2,x3]=none by simp only [jK,Ce g1,Ce g2,Cc g3]]
         rfl
       ·rw [zT n1 n2 n3 (jbI J (by clear hV;omega)),ec0];rw [show jK (x0 - 240) [x1,x2,x3]=none by simp only [jK,Ce g1,Cc g2]]
        rfl
      ·rw [zT n1 n2 n3 (jbI J (by clear hV;omega)),ec0];rw [show jK (x0 - 240) [x1,x2,x3]=none by simp only [jK,Cc g1]]
       rfl
    ·have e:ju x0=0:=by simp only [ju,Cc h1,Cc h2,Cc h3,Cc h4]
     rw [e,zT n1 n2 n3 (jdE hs h4)]
     rfl
theorem jbB (h:jL b (ju x0)=some c):1≤ju x0∧ju x0≤b.length:=by
 unfold jL at h;by_cases q:ju x0=0∨b.length < ju x0
 ·rw [Ce q] at h;cases h
 ·omega
theorem jjm:∀ (n:Nat) {l:List Nat},jO l→charsFrom n (by8 l)=jaD n l
 | 0,[],_=>rfl
 | 0,c :: l,_=>rfl
 | n+1,[],_=>rfl
 | n+1,x0 :: l,hs=>by
  have e:=joT hs;show (match charOf (by8 (x0 :: l)) with
   | some (c,r)=>(charsFrom n r).map fun (t:Text)=>c :: t
   | none=>none)=(jL (x0 :: l) (ju x0)).bind fun c=>(jaD n ((x0 :: l).drop (ju x0))).map fun t=>c :: t
  rw [e];cases h:jL (x0 :: l) (ju x0) with
  | none=>rfl
  | some c =>
   show (charsFrom n (by8 ((x0 :: l).drop (ju x0)))).map _=_;rw [jjm n fun x hx=>hs x (Lc hx)]
   rfl
noncomputable def chs (l:List Nat):Option (List Nat):=jaD l.length l
theorem jsl (hs:jO l):chars (by8 l)=chs l:=by
 unfold chars chs;rw [vV];exact jjm _ hs
theorem jgr:∀ (n m:Nat) (l:List Nat),l.length≤n→l.length≤m→jaD n l=jaD m l
 | 0,0,_,_,_=>rfl
 | n,m,[],_,_=>by cases n<;>cases m<;>rfl
 | 0,m+1,c :: l,h,_=>by simp at h
 | n+1,0,c :: l,_,h=>by simp at h
 | n+1,m+1,c :: l,h1,h2=>by
  show (jL (c :: l) (ju c)).bind _=(jL (c :: l) (ju c)).bind _;cases h:jL (c :: l) (ju c) with
  | none=>rfl
  | some z =>
   have p:=jbB h;show (jaD n ((c :: l).drop (ju c))).map _=(jaD m ((c :: l).drop (ju c))).map _;rw [jgr n m ((c :: l).drop (ju c)) (by rw [Db];omega) (by rw [Db];omega)]
theorem jbb:chs (f :: l)=(jL (f :: l) (ju f)).bind fun c=>(chs ((f :: l).drop (ju f))).map fun t=>c :: t:=by
 show (jL (f :: l) (ju f)).bind _=_;cases h:jL (f :: l) (ju f) with
 | none=>rfl
 | some z =>
  have p:=jbB h;show (jaD l.length ((f :: l).drop (ju f))).map _=(jaD _ ((f :: l).drop (ju f))).map _;rw [jgr _ _ _ (by rw [Db];simp only [Cd];omega) (Cl _)]
theorem jnS {a:List Nat} (h:n≤a.length):jL (a++b) n=jL a n:=by
 unfold jL;rw [List.take_append_of_le_length h];by_cases z:n=0
 ·rw [Ce (.inl z),Ce (.inl z)]
 ·rw [Cc (by rw [Ci];omega),Cc (by omega)]
theorem jgw:∀ (a:List Nat) (n c:Nat) (b:List Nat),¬(128≤c∧c < 192)→jK n (a++c :: b)=none
 | [],n,c,b,h=>by simp only [Jq,jK,Cc h]
 | x :: a,n,c,b,h=>by
  show (if 128≤x∧x < 192 then jK (n * 64+x - 128) (a++c :: b) else none)=none;by_cases q:128≤x∧x < 192
  ·rw [Ce q];exact jgw a _ c b h
  ·rw [Cc q]
theorem jnT {a:List Nat} (hc:¬(128≤c∧c < 192)) (h:(f :: a).length < n):jL (f :: a++c :: b) n=none:=by
 unfold jL;by_cases z:n=0∨(f :: a++c :: b).length < n
 ·rw [Ce z]
 ·rw [Cc z];have e:(f :: a++c :: b).take n=f :: (a++c :: b.take (n - (a.length+2))):=by
   have hl:(f :: a).length≤n:=by omega
   rw [List.take_append,D6 hl];have h2:n - (f :: a).length=(n - (a.length+2))+1:=(Nat.succ_pred (Nat.sub_ne_zero_of_lt h)).symm
   rw [h2,List.take_succ_cons]
   rfl
  rw [e];show (jK _ (a++c :: b.take (n - (a.length+2)))).bind _=none;rw [jgw _ _ _ _ hc]
  rfl
theorem jrq:chs []=some []:=rfl
theorem jbt (h:f < 128):ju f=1:=by simp only [ju,Ce h]
theorem jcc (h:f < 128) (r:List Nat):jL (f :: r) 1=some f:=by
 unfold jL;rw [Cc (by simp)];show (some (f - 0)).bind _=_;simp [vp,jbA (show f < 0x110000 by omega) (by omega)]
theorem jjn (h:f < 128) (r:List Nat):chs (f :: r)=(chs r).map fun t=>f :: t:=by
 rw [jbb,jbt h,jcc h]
 rfl
theorem jjo:∀ (n:Nat) (a b:List Nat),a.length≤n→chs (a++32 :: b)=(chs a).bind fun x=>(chs b).map fun y=>x++32 :: y
 | _,[],b,_=>by
  rw [Jq,jjn (by decide)]
  rfl
 | 0,_ :: _,_,h=>by simp at h
 | n+1,f :: a,b,h=>by
  have e0:f :: a++32 :: b=f :: (a++32 :: b):=rfl;rw [jbb (f:=f) (l:=a),e0,jbb,←e0];by_cases q:ju f≤(f :: a).length
  ·rw [jnS q];cases hc:jL (f :: a) (ju f) with
   | none=>rfl
   | some c =>
    have p:=jbB hc;have ih:=jjo n ((f :: a).drop (ju f)) b (by rw [Db];simp only [Cd] at h ⊢;omega);rw [C5,C5,List.drop_append_of_le_length q,ih];cases chs ((f :: a).drop (ju f)) with
    | none=>rfl
    | some x =>
     show ((chs b).map _).map _=(chs b).map _;cases chs b<;>rfl
  ·rw [jnT (by decide) (by omega),zn (by omega)]
   rfl
theorem jgq (h:¬f < 128) (e:jL (f :: r) (ju f)=some c):128≤c:=by
 have p:=(jbB e).1;have l:ju f=2∨ju f=3∨ju f=4:=by
  unfold ju at p ⊢;rw [Cc h] at p ⊢;by_cases h2:192≤f∧f < 224
  ·rw [Ce h2];exact .inl rfl
  ·rw [Cc h2] at p ⊢;by_cases h3:224≤f∧f < 240
   ·rw [Ce h3];exact .inr (.inl rfl)
   ·rw [Cc h3] at p ⊢;by_cases h4:240≤f∧f < 248
    ·rw [Ce h4];exact .inr (.inr rfl)
    ·rw [Cc h4] at p;omega
 unfold jL at e;by_cases z:ju f=0∨(f :: r).length < ju f
 ·rw [Ce z] at e;cases e
 ·rw [Cc z] at e;cases hn:jli ((f :: r).take (ju f)) with
  | none=>rw [hn] at e;cases e
  | some v =>
   rw [hn,C5] at e;by_cases y:v < vp (ju f)∨isChar v=false
   ·rw [Ce y] at e;cases e
   ·rw [Cc y] at e;cases e;have:vp (ju f)=128∨vp (ju f)=2048∨vp (ju f)=65536:=by
     rcases l with l|l|l<;>rw [l]<;>simp [vp]
    omega
theorem jj6 (e:jL b n=some c):isChar c=true:=by
 unfold jL at e;by_cases z:n=0∨b.length < n
 ·rw [Ce z] at e;cases e
 ·rw [Cc z] at e;cases hn:jli (b.take n) with
  | none=>rw [hn] at e;cases e
  | some v =>
   rw [hn,C5] at e;by_cases y:v < vp n∨isChar v=false
   ·rw [Ce y] at e;cases e
   ·rw [Cc y] at e;cases e;cases h:isChar c with
    | true=>rfl
    | false=>exact absurd (.inr h) y
theorem jby:∀ (n:Nat) (a x:List Nat),a.length≤n→chs a=some x→(∀ c∈x,isChar c=true)∧((∀ c∈a,c≠32)→∀ c∈x,c≠32)∧((∀ c∈x,c < 128)→x=a)∧(a≠[]→x≠[])
 | _,[],x,_,h=>by
  cases h;exact ⟨by simp,by simp,fun _=>rfl,fun h=>absurd rfl h⟩
 | 0,_ :: _,_,h,_=>by simp at h
 | n+1,f :: a,x,hl,h=>by
  rw [jbb] at h;cases hc:jL (f :: a) (ju f) with
  | none=>rw [hc] at h;cases h
  | some c =>
   have p:=jbB hc;rw [hc,C5] at h;cases hr:chs ((f :: a).drop (ju f)) with
   | none=>rw [hr] at h;cases h
   | some y =>
    rw [hr] at h;cases h;obtain ⟨i1,i2,i3,i4⟩:=jby n _ y (by rw [Db];simp only [Cd] at hl ⊢;omega) hr;refine ⟨?_,?_,?_,fun _=>by simp⟩
    ·intro d hd;rcases Cp.mp hd with rfl|hd
     ·exact jj6 hc
     ·exact i1 d hd
    ·intro hq d hd;rcases Cp.mp hd with rfl|hd
     ·by_cases hf:f < 128
      ·rw [jbt hf,jcc hf] at hc;cases hc;exact hq _ (Cf ..)
      ·have:=jgq hf hc;omega
     ·exact i2 (fun e he=>hq e (Lc he)) d hd
    ·intro hq;have hf:f < 128:=by
      by_cases hf:f < 128
      ·exact hf
      ·have h1:=jgq hf hc;have h2:=hq c (Cf ..);omega
     rw [jbt hf,jcc hf] at hc;cases hc;rw [jbt hf] at i3;have e3:=i3 fun d hd=>hq d (Cg _ hd);rw [e3]
     rfl
theorem jeG:∀ {a:List Nat},(∀ c∈a,c < 128)→chs a=some a
 | [],_=>rfl
 | f :: a,h=>by
  rw [jjn (h f (Cf ..)),jeG fun c hc=>h c (Cg _ hc)]
  rfl
theorem jcN:∀ {t:List Nat},(∀ c∈t,c≠32)→jD t=[t]
 | [],_=>rfl
 | c :: t,h=>by
  unfold jD;rw [Cc (h c (Cf ..)),jcN fun x hx=>h x (Cg _ hx)]
  rfl
theorem jb0:∀ {a r:List Nat},(∀ c∈a,c≠32)→jD (a++32 :: r)=a :: jD r
 | [],r,_=>by
  show jD (32 :: r)=_;unfold jD;rw [Ce rfl];cases r<;>rfl
 | c :: a,r,h=>by
  show jD (c :: (a++32 :: r))=_;rw [jD,Cc (h c (Cf ..)),jb0 fun x hx=>h x (Cg _ hx)]
  rfl
theorem jc8 (t:List Nat):(∀ x∈t,x≠32)∨∃ l r,(∀ x∈l,x≠32)∧t=l++32 :: r:=by
 induction t with
 | nil=>exact .inl (by simp)
 | cons c t ih =>
  by_cases hc:c=32
  ·subst hc;exact .inr ⟨[],t,by simp,rfl⟩
  ·rcases ih with h|⟨l,r,h,rfl⟩
   ·exact .inl (by
     intro x hx;rcases Cp.mp hx with rfl|hx
     ·exact hc
     ·exact h x hx)
   ·exact .inr ⟨c :: l,r,by
     intro x hx;rcases Cp.mp hx with rfl|hx
     ·exact hc
     ·exact h x hx,rfl⟩
noncomputable def jao:List (List Nat)→Option (List (List Nat))
 | []=>some []
 | p :: r=>(chs p).bind fun x=>(jao r).map fun y=>x :: y
theorem jjK:∀ (n:Nat) (t:List Nat),t.length≤n→(chs t).map jD=jao (jD t)
 | n,t,hn=>by
  rcases jc8 t with h|⟨a,r,h,rfl⟩
  ·rw [jcN h];show _=(chs t).bind fun x=>some [x];cases hc:chs t with
   | none=>rfl
   | some x =>
    have f:=(jby _ t x (Cl _) hc).2.1 h;rw [Dy,jcN f]
    rfl
  ·cases n with
   | zero=>simp at hn
   | succ n =>
    have ih:=jjK n r (by simp only [Ci,Cd] at hn;omega);rw [jjo _ a r (Cl _),jb0 h];show _=(chs a).bind fun x=>(jao (jD r)).map fun y=>x :: y;rw [←ih];cases hc:chs a with
    | none=>rfl
    | some x =>
     have f:=(jby _ a x (Cl _) hc).2.1 h;rw [C5,C5];cases chs r with
     | none=>rfl
     | some y =>
      show some (jD (x++32 :: y))=some (x :: jD y);rw [jb0 f]
noncomputable def vD (p:List Nat):Bool:=p.all (fun c=>decide (32 < c) && c != 127) && !p.isEmpty
noncomputable def ja4 (l:List Nat):Option Word:=(chs l).bind fun cs=>match jD cs with
 | [r,t,x,y,c]=>if vD r=true∧vD t=true∧jP x=true∧jP y=true∧jP c=true then some ⟨r,t,jU x,jU y,jU c⟩ else none
 | _=>none
noncomputable def jb2:List (List Nat)→Option Word
 | [r,t,x,y,c]=>if vD r=true∧vD t=true∧jP x=true∧jP y=true∧jP c=true then some ⟨r,t,jW 0 x,jW 0 y,jW 0 c⟩ else none
 | _=>none
theorem jgs (h:jP p=true):∀ c∈p,c < 128:=by
 simp only [jP,Cn] at h;intro c hc;have:=Dk.mp h.1 c hc;simp [isDigit] at this;omega
theorem jlV (hs:jO p):signsOf (by8 p)=(chs p).bind fun q=>if vD q=true then some q else none:=by
 unfold signsOf;rw [jsl hs];cases hc:chs p with
 | none=>rfl
 | some q =>
  have f:=(jby _ p q (Cl _) hc).1;rw [C5,C5];have e:q.all isSign=q.all (fun c=>decide (32 < c) && c != 127):=by
   rw [C8,Dk,Dk];constructor
   ·intro h c hc;have:=h c hc;simp only [isSign,Cn] at this ⊢;exact this.2
   ·intro h c hc;have:=h c hc;simp only [isSign,Cn] at this ⊢;exact ⟨f c hc,this⟩
  rw [e];unfold vD;by_cases h1:q.all (fun c=>decide (32 < c) && c != 127)=true
  ·by_cases h2:q.isEmpty=true
   ·rw [Cc (by simp [h2]),Cc (by simp [h2])]
   ·rw [Ce ⟨by simp [h2],h1⟩,Ce (by rw [h1];simp [h2])]
  ·rw [Cc (fun z=>h1 z.2),Cc (by intro z;rw [Cn] at z;exact h1 z.1)]
theorem jiQ (hs:jO p):decimalOf (by8 p)=(chs p).bind fun q=>if jP q=true then some (jW 0 q) else none:=by
 rw [jaU hs];by_cases h:jP p=true
 ·rw [Ce h,jeG (jgs h),C5,Ce h]
 ·rw [Cc h];cases hc:chs p with
  | none=>rfl
  | some q =>
   rw [C5];by_cases hq:jP q=true
   ·have e:=(jby _ p q (Cl _) hc).2.2.1 (jgs hq);rw [e] at hq;exact absurd hq h
   ·rw [Cc hq]
theorem jp2 (hs:jO l):wordOf (by8 l)=(chs l).bind fun cs=>jb2 (jD cs):=by
 have e1:=jjK _ l (Cl _);have e2:((chs l).bind fun cs=>jb2 (jD cs))=(jao (jD l)).bind jb2:=by
  rw [←e1];cases chs l<;>rfl
 rw [e2];unfold wordOf;rw [jfn hs];have sm:=jdh hs
 match hp:jD l with
 | []=>exact absurd hp (jat l)
 | [p1]=>simp only [jao,List.map];cases chs p1<;>rfl
 | [p1,p2]=>simp only [jao,List.map];cases chs p1<;>cases chs p2<;>rfl
 | [p1,p2,p3]=>simp only [jao,List.map];cases chs p1<;>cases chs p2<;>cases chs p3<;>rfl
 | [p1,p2,p3,p4]=>simp only [jao,List.map];cases chs p1<;>cases chs p2<;>cases chs p3<;>cases chs p4<;>rfl
 | p1 :: p2 :: p3 :: p4 :: p5 :: p6 :: ps =>
  simp only [jao,List.map];cases chs p1 with
  | none=>rfl
  | some _=>cases chs p2 with
   | none=>rfl
   | some _=>cases chs p3 with
    | none=>rfl
    | some _=>cases chs p4 with
     | none=>rfl
     | some _=>cases chs p5 with
      | none=>rfl
      | some _=>cases chs p6 with
       | none=>rfl
       | some _=>cases jao ps<;>rfl
 | [p1,p2,p3,p4,p5] =>
  rw [hp] at sm;have m1:jO p1:=sm _ (by simp);have m2:jO p2:=sm _ (by simp);have m3:jO p3:=sm _ (by simp);have m4:jO p4:=sm _ (by simp);have m5:jO p5:=sm _ (by simp);simp only [jao,List.map];rw [jlV m1,jlV m2,jiQ m3,jiQ m4,jiQ m5];cases chs p1 with
  | none=>rfl
  | some q1 =>
   cases chs p2 with
   | none =>
    simp only [C5,Option.bind_none,Fj];by_cases h1:vD q1=true
    ·rw [Ce h1];rfl
    ·rw [Cc h1];rfl
   | some q2 =>
    simp only [C5,Dy];by_cases h1:vD q1=true
    ·by_cases h2:vD q2=true
     ·rw [Ce h1,Ce h2];simp only [C5];cases chs p3 with
      | none=>rfl
      | some q3 =>
       simp only [C5];by_cases h3:jP q3=true
       ·rw [Ce h3];simp only [C5];cases chs p4 with
        | none=>rfl
        | some q4 =>
         simp only [C5];by_cases h4:jP q4=true
         ·rw [Ce h4];simp only [C5];cases chs p5 with
          | none=>rfl
          | some q5 =>
           simp only [C5,Dy,jb2];by_cases h5:jP q5=true
           ·rw [Ce h5,Ce ⟨h1,h2,h3,h4,h5⟩];rfl
           ·rw [Cc h5,Cc fun z=>h5 z.2.2.2.2];rfl
         ·rw [Cc h4];cases chs p5 with
          | none=>rfl
          | some q5 =>
           simp only [C5,Dy,jb2];exact (Cc fun z=>h4 z.2.2.2.1).symm
       ·rw [Cc h3];cases chs p4 with
        | none=>rfl
        | some q4=>cases chs p5 with
         | none=>rfl
         | some q5 =>
          simp only [C5,Dy,jb2];exact (Cc fun z=>h3 z.2.2.1).symm
     ·rw [Ce h1,Cc h2];cases chs p3 with
      | none=>rfl
      | some q3=>cases chs p4 with
       | none=>rfl
       | some q4=>cases chs p5 with
        | none=>rfl
        | some q5 =>
         simp only [C5,Dy,jb2];exact (Cc fun z=>h2 z.2.1).symm
    ·rw [Cc h1];cases chs p3 with
     | none=>rfl
     | some q3=>cases chs p4 with
      | none=>rfl
      | some q4=>cases chs p5 with
       | none=>rfl
       | some q5 =>
        simp only [C5,Dy,jb2];exact (Cc fun z=>h1 z.1).symm
theorem jbw:∀ a:Text,before a a=false
 | []=>rfl
 | x :: a=>by
  show (decide (x < x) || (x == x && before a a))=false;rw [jbw a,Fv (by omega),Gj,Bool.or_false]
theorem jiP {x y:Nat} {a b:Text}:before (x :: a) (y :: b)=true↔x < y∨(x=y∧before a b=true):=by
 show (decide (x < y) || (x == y && before a b))=true↔_;simp only [Gp,Dd,Cn,D8]
theorem joN {a:Text}:before a []=false:=by cases a<;>rfl
theorem jg0:∀ {a b c:Text},before a b=true→before b c=true→before a c=true
 | _,[],_,h,_=>by rw [joN] at h;cases h
 | _,_ :: _,[],_,h=>by rw [joN] at h;cases h
 | [],_ :: _,_ :: _,_,_=>rfl
 | x :: a,y :: b,z :: c,h1,h2=>by
  rw [jiP] at h1 h2 ⊢;rcases h1 with h1|⟨rfl,h1⟩
  ·rcases h2 with h2|⟨rfl,h2⟩
   ·exact .inl (by omega)
   ·exact .inl h1
  ·rcases h2 with h2|⟨rfl,h2⟩
   ·exact .inl h2
   ·exact .inr ⟨rfl,jg0 h1 h2⟩
theorem jgZ:∀ {a b:Text},before a b=false→before b a=false→a=b
 | [],[],_,_=>rfl
 | [],_ :: _,h,_=>by cases h
 | _ :: _,[],_,h=>by cases h
 | x :: a,y :: b,h1,h2=>by
  have n1:¬(x < y∨(x=y∧before a b=true)):=fun z=>by rw [jiP.mpr z] at h1;cases h1
  have n2:¬(y < x∨(y=x∧before b a=true)):=fun z=>by rw [jiP.mpr z] at h2;cases h2
  have e:x=y:=by omega
  subst e;have m1:before a b=false:=by cases h:before a b with
   | false=>rfl
   | true=>exact absurd (.inr ⟨rfl,h⟩) n1
  have m2:before b a=false:=by cases h:before b a with
   | false=>rfl
   | true=>exact absurd (.inr ⟨rfl,h⟩) n2
  rw [jgZ m1 m2]
theorem jfR {a b:Word}:a.before b=true↔before a.reading b.reading=true∨(a.reading=b.reading∧(a.cost < b.cost∨(a.cost=b.cost∧before a.text b.text=true))):=by
 unfold Word.before;simp only [Gp,Dd,Cn,D8]
theorem jj1 (a:Word):a.before a=false:=by
 cases h:a.before a with
 | false=>rfl
 | true =>
  rw [jfR,jbw,jbw] at h;simp at h
theorem jhF {a b c:Word} (h1:a.before b=true) (h2:b.before c=true):a.before c=true:=by
 rw [jfR] at h1 h2 ⊢;rcases h1 with h1|⟨e1,h1⟩
 ·rcases h2 with h2|⟨e2,h2⟩
  ·exact .inl (jg0 h1 h2)
  ·exact .inl (by rw [←e2];exact h1)
 ·rcases h2 with h2|⟨e2,h2⟩
  ·exact .inl (by rw [e1];exact h2)
  ·refine .inr ⟨e1.trans e2,?_⟩;rcases h1 with h1|⟨f1,h1⟩
   ·rcases h2 with h2|⟨f2,h2⟩
    ·exact .inl (by omega)
    ·exact .inl (by omega)
   ·rcases h2 with h2|⟨f2,h2⟩
    ·exact .inl (by omega)
    ·exact .inr ⟨f1.trans f2,jg0 h1 h2⟩
theorem jmj {a b:Word} (h1:a.before b=false) (h2:b.before a=false):a.reading=b.reading∧a.cost=b.cost∧a.text=b.text:=by
 have n1:¬(before a.reading b.reading=true∨(a.reading=b.reading∧(a.cost < b.cost∨(a.cost=b.cost∧before a.text b.text=true)))):=fun z=>by
  have:=jfR.mpr z;rw [h1] at this;cases this
 have n2:¬(before b.reading a.reading=true∨(b.reading=a.reading∧(b.cost < a.cost∨(b.cost=a.cost∧before b.text a.text=true)))):=fun z=>by
  have:=jfR.mpr z;rw [h2] at this;cases this
 have e:a.reading=b.reading:=jgZ
  (by cases h:before a.reading b.reading with
    | false=>rfl
    | true=>exact (n1 (.inl h)).elim)
  (by cases h:before b.reading a.reading with
    | false=>rfl
    | true=>exact (n2 (.inl h)).elim)
 have ec:a.cost=b.cost:=by
  by_cases q:a.cost < b.cost
  ·exact (n1 (.inr ⟨e,.inl q⟩)).elim
  ·by_cases q2:b.cost < a.cost
   ·exact (n2 (.inr ⟨e.symm,.inl q2⟩)).elim
   ·omega
 refine ⟨e,ec,jgZ ?_ ?_⟩
 ·cases h:before a.text b.text with
  | false=>rfl
  | true=>exact (n1 (.inr ⟨e,.inr ⟨ec,h⟩⟩)).elim
 ·cases h:before b.text a.text with
  | false=>rfl
  | true=>exact (n2 (.inr ⟨e.symm,.inr ⟨ec.symm,h⟩⟩)).elim
section
variable {α:Type} (lt:α→α→Bool)
noncomputable def ins (w:α):List α→List α
 | []=>[w]
 | q :: l=>if lt w q=true then w :: q :: l else q :: ins w l
theorem jg3 (w:α):∀ l,(ins lt w l).Perm (w :: l)
 | []=>.refl _
 | q :: l=>by
  unfold ins;by_cases h:lt w q=true
  ·rw [Ce h]
  ·rw [Cc h];exact ((jg3 w l).cons q).trans (.swap _ _ _)
noncomputable def Asc (l:List α):Prop:=l.Pairwise fun a b=>lt b a=false
variable {lt}
theorem jnd (ir:∀ a,lt a a=false) (tr:∀ {a b c},lt a b=true→lt b c=true→lt a c=true) (nt:∀ {a b c},lt a b=true→lt c b=false→lt a c=true) (w:α):∀ {l:List α},Asc lt l→Asc lt (ins lt w l)
 | [],_=>Go _ _
 | q :: l,h=>by
  unfold Asc at h;rw [Dr] at h;unfold ins;by_cases hw:lt w q=true
  ·rw [Ce hw];unfold Asc;rw [Dr,Dr];refine ⟨?_,h⟩;intro x hx;rcases Cp.mp hx with rfl|hx
   ·cases e:lt x w with
    | false=>rfl
    | true =>
     have:=tr hw e;rw [ir] at this;cases this
   ·have hq:=h.1 x hx;cases e:lt x w with
    | false=>rfl
    | true =>
     have:=tr e hw;rw [hq] at this;cases this
  ·rw [Cc hw];unfold Asc;rw [Dr];refine ⟨?_,jnd ir tr nt w h.2⟩;intro x hx;rcases Cp.mp ((jg3 lt w l).mem_iff.mp hx) with rfl|hx
   ·cases e:lt x q with
    | false=>rfl
    | true=>exact absurd e hw
   ·exact h.1 x hx
noncomputable def jf0 (lt:α→α→Bool) (l:List α):List α:=l.foldl (fun L w=>ins lt w L) []
theorem jn5 (l:List α):∀ L,(l.foldl (fun L w=>ins lt w L) L).Perm (L++l):=by
 induction l with
 | nil=>intro L;rw [D5];exact .refl _
 | cons w l ih =>
  intro L;rw [Fi];refine (ih _).trans ?_;exact ((jg3 lt w L).append_right l).trans (List.perm_middle.symm)
theorem jhO (l:List α):(jf0 lt l).Perm l:=by
 have:=jn5 (lt:=lt) l [];exact this
theorem jjy (ir:∀ a,lt a a=false) (tr:∀ {a b c},lt a b=true→lt b c=true→lt a c=true) (nt:∀ {a b c},lt a b=true→lt c b=false→lt a c=true) (l:List α):Asc lt (jf0 lt l):=by
 have:∀ (l L:List α),Asc lt L→Asc lt (l.foldl (fun L w=>ins lt w L) L):=by
  intro l
  induction l with
  | nil=>intro L h;exact h
  | cons w l ih=>intro L h;exact ih _ (jnd ir tr nt w h)
 exact this l [] List.Pairwise.nil
theorem jiO:∀ {l m:List α},l.Perm m→Asc lt l→Asc lt m→(∀ a∈l,∀ b∈l,lt a b=false→lt b a=false→a=b)→l=m
 | [],m,p,_,_,_=>by rw [p.symm.eq_nil]
 | a :: l,[],p,_,_,_=>absurd p.eq_nil (by simp)
 | a :: l,b :: m,p,hl,hm,an=>by
  unfold Asc at hl hm;rw [Dr] at hl hm;have hb:b∈a :: l:=p.mem_iff.mpr (Cf ..);have ha:a∈b :: m:=p.mem_iff.mp (Cf ..);have e:a=b:=by
   rcases Cp.mp hb with h|h
   ·exact h.symm
   ·rcases Cp.mp ha with h'|h'
    ·exact h'
    ·exact an a (Cf ..) b hb (hm.1 a h') (hl.1 b h)
  subst e;rw [jiO (List.Perm.cons_inv p) hl.2 hm.2 fun x hx y hy=>an x (Cg _ hx) y (Cg _ hy)]
end
theorem jnz (w:Word):∀ L,putWord w L=ins Word.before w L
 | []=>rfl
 | q :: L=>by
  show (if w.before q=true then w :: q :: L else q :: putWord w L)=(if w.before q=true then w :: q :: L else q :: ins Word.before w L);rw [jnz w L]
theorem jrm {a b c:Word} (h1:a.before b=true) (h2:c.before b=false):a.before c=true:=by
 cases h:a.before c with
 | true=>rfl
 | false =>
  cases h':c.before a with
  | true =>
   have:=jhF h' h1;rw [h2] at this;cases this
  | false =>
   obtain ⟨e1,e2,e3⟩:=jmj h h';have:c.before b=true:=by
    rw [jfR] at h1 ⊢;rw [←e1,←e2,←e3];exact h1
   rw [h2] at this;cases this
noncomputable def j9 (ws:List Word):List Word:=ws.foldl (fun L w=>putWord w L) []
theorem jhT (ws:List Word):j9 ws=jf0 Word.before ws:=by
 unfold j9 jf0;congr 1;funext L w;exact jnz w L
theorem jar (ws:List Word):(j9 ws).Perm ws:=by
 rw [jhT];exact jhO ws
theorem jmz (ws:List Word):Asc Word.before (j9 ws):=by
 rw [jhT];exact jjy jj1 jhF jrm ws
noncomputable def Apart (ws:List Word):Prop:=ws.Pairwise fun a b=>a.same b=false
theorem same_iff {a b:Word}:a.same b=true↔a.reading=b.reading∧a.text=b.text:=by
 unfold Word.same;simp only [Cn,D8]
theorem Apart.inj (h:Apart ws):∀ {a b:Word},a∈ws→b∈ws→a.reading=b.reading→a.text=b.text→a=b:=by
 induction ws with
 | nil=>intro a b ha;cases ha
 | cons w ws ih =>
  unfold Apart at h;rw [Dr] at h;intro a b ha hb e1 e2;rcases Cp.mp ha with hw|hm
  ·rcases Cp.mp hb with hb|hb
   ·rw [hw,hb]
   ·have:=h.1 b hb;rw [←hw,same_iff.mpr ⟨e1,e2⟩] at this;cases this
  ·rcases Cp.mp hb with hb|hb
   ·have:=h.1 a (by assumption);rw [←hb,same_iff.mpr ⟨e1.symm,e2.symm⟩] at this;cases this
   ·exact ih h.2 (by assumption) hb e1 e2
theorem joq {l:List Word} (h:Apart ws) (p:l.Perm ws) (s:Asc Word.before l):l=j9 ws:=by
 refine jiO (p.trans (jar ws).symm) s (jmz ws) fun a ha b hb n1 n2=>?_;obtain ⟨e1,_,e3⟩:=jmj n1 n2;exact h.inj (p.mem_iff.mp ha) (p.mem_iff.mp hb) e1 e3
noncomputable def vt (l:List Nat):Option Word:=if l.getLast?=some 10 then ja4 l.dropLast else none
noncomputable def v0:Nat→List (List Nat)→List Word→Except (Nat×Nat) (List Word)
 | _,[],ws=>.ok ws
 | i,l :: ls,ws=>match vt l with
  | none=>.error (i,1)
  | some w=>if w.small=false then .error (i,2) else if ws.any (fun q=>q.same w)=true then .error (i,3) else if ws.length=128 then .error (i,4) else v0 (i+1) ls (ws++[w])
theorem jra (hs:jO l):(wordOf (by8 l)=none∧ja4 l=none)∨∃ w' w,wordOf (by8 l)=some w'∧ja4 l=some w∧w.small=w'.small∧(w.small=true→w=w'):=by
 rw [jp2 hs];unfold ja4;cases chs l with
 | none=>exact .inl ⟨rfl,rfl⟩
 | some cs =>
  simp only [C5]
  match jD cs with
  | []=>exact .inl ⟨rfl,rfl⟩
  | [_]=>exact .inl ⟨rfl,rfl⟩
  | [_,_]=>exact .inl ⟨rfl,rfl⟩
  | [_,_,_]=>exact .inl ⟨rfl,rfl⟩
  | [_,_,_,_]=>exact .inl ⟨rfl,rfl⟩
  | _ :: _ :: _ :: _ :: _ :: _ :: _=>exact .inl ⟨rfl,rfl⟩
  | [r,t,x,y,c] =>
   simp only [jb2];by_cases h:vD r=true∧vD t=true∧jP x=true∧jP y=true∧jP c=true
   ·rw [Ce h,Ce h];obtain ⟨_,_,hx,hy,hc⟩:=h;refine .inr ⟨_,_,rfl,rfl,?_,?_⟩
    ·have q1:decide (jU x < 256)=decide (jW 0 x < 256):=decide_eq_decide.mpr (by rcases jae hx with ex|ex<;>omega);have q2:decide (jU y < 256)=decide (jW 0 y < 256):=decide_eq_decide.mpr (by rcases jae hy with ex|ex<;>omega);have q3:decide (jU c≤65535)=decide (jW 0 c≤65535):=decide_eq_decide.mpr (by rcases jae hc with ex|ex<;>omega);show (decide (r.length≤32) && (decide (t.length≤32) && (decide (jU x < 256) && (decide (jU y < 256) && decide (jU c≤65535)))))=(decide (r.length≤32) && (decide (t.length≤32) && (decide (jW 0 x < 256) && (decide (jW 0 y < 256) && decide (jW 0 c≤65535)))))
     rw [q1,q2,q3]
    ·intro hm;have hm2:(decide (r.length≤32) && (decide (t.length≤32) && (decide (jU x < 256) && (decide (jU y < 256) && decide (jU c≤65535)))))=true:=hm;simp only [Cn,Dd] at hm2;obtain ⟨_,_,b1,b2,b3⟩:=hm2;congr 1
     ·rcases jae hx with ex|ex
      ·exact ex
      ·omega
     ·rcases jae hy with ey|ey
      ·exact ey
      ·omega
     ·rcases jae hc with ec|ec
      ·exact ec
      ·omega
   ·rw [Cc h,Cc h];exact .inl ⟨rfl,rfl⟩
theorem jkH {α:Type} {l m:List α} (p:l.Perm m) (f:α→Bool):l.any f=m.any f:=by
 rw [C8,Ji,Ji];constructor
 ·rintro ⟨x,hx,h⟩;exact ⟨x,p.mem_iff.mp hx,h⟩
 ·rintro ⟨x,hx,h⟩;exact ⟨x,p.mem_iff.mpr hx,h⟩
theorem jlf (ws:List Word) (w:Word):j9 (ws++[w])=putWord w (j9 ws):=by
 unfold j9;rw [Jc]
 rfl
noncomputable def jaV {ε α β:Type} (f:α→β):Except ε α→Except ε β
 | .ok a=>.ok (f a)
 | .error e=>.error e
theorem jdK:∀ (n:Nat) (t:List Nat) (ws:List Word),jO t→t.length≤n→ws.length≤128→readWordsFrom n ws.length (by8 t) (j9 ws)=jaV j9 (v0 ws.length (jS t) ws)
 | n,t,ws,hs,hn,hw=>by
  rcases jeA t with rfl|⟨hne,h⟩|⟨l,r,h,rfl⟩
  ·cases n<;>rfl
  ·cases n with
   | zero=>exact absurd (Jj.mp (Nat.le_zero.mp hn)) hne
   | succ n =>
    rw [jej hne h];have e1:vt t=none:=by
     unfold vt;rw [Cc];intro q;exact h 10 (List.mem_of_getLast? q) rfl
    show _=jaV j9 (match vt t with
     | none=>.error (ws.length,1)
     | some w=>_)
    rw [e1];cases t with
    | nil=>exact absurd rfl hne
    | cons c t =>
     show (match (by8 (c :: t)).drop ((by8 (c :: t)).takeWhile fun (c:UInt8)=>c != 0x0A).length,wordOf ((by8 (c :: t)).takeWhile fun (c:UInt8)=>c != 0x0A) with
      | _ :: r,some w=>_
      | _,_=>Except.error (ws.length,1))=_
     rw [jc4 hs h,Fp]
     rfl
  ·cases n with
   | zero=>simp at hn
   | succ n =>
    have sl:=hs.app.1;have sr:=hs.app.2.cons.2;rw [jfe h];have e1:vt (l++[10])=ja4 l:=by
     unfold vt;rw [Ce (by simp),List.dropLast_concat]
    show _=jaV j9 (match vt (l++[10]) with
     | none=>.error (ws.length,1)
     | some w=>if w.small=false then .error (ws.length,2) else if ws.any (fun q=>q.same w)=true then .error (ws.length,3) else if ws.length=128 then .error (ws.length,4) else v0 (ws.length+1) (jS r) (ws++[w]))
    rw [e1];have ed:(by8 (l++10 :: r)).drop (by8 l).length=0x0A :: by8 r:=by
     rw [ze,List.drop_left]
     rfl
    have eb:∃ c b,by8 (l++10 :: r)=c :: b:=by
     cases l with
     | nil=>exact ⟨_,_,rfl⟩
     | cons c l=>exact ⟨_,_,rfl⟩
    have eu:readWordsFrom (n+1) ws.length (by8 (l++10 :: r)) (j9 ws)=(match (by8 (l++10 :: r)).drop ((by8 (l++10 :: r)).takeWhile fun (c:UInt8)=>c != 0x0A).length,wordOf ((by8 (l++10 :: r)).takeWhile fun (c:UInt8)=>c != 0x0A) with
      | _ :: r,some w=>if w.small=false then .error (ws.length,2) else if (j9 ws).any (fun (q:Word)=>q.same w)=true then .error (ws.length,3) else if WORDS≤ws.length then .error (ws.length,4) else readWordsFrom n (ws.length+1) r (putWord w (j9 ws))
      | _,_=>.error (ws.length,1)):=by
     obtain ⟨c,b,e⟩:=eb;rw [e]
     rfl
    rw [eu,jez sl h,ed];rcases jra sl with ⟨q1,q2⟩|⟨w',w,q1,q2,q3,q4⟩
    ·rw [q1,q2]
     rfl
    ·rw [q1,q2];show (if w'.small=false then _ else _)=jaV j9 (if w.small=false then _ else _);rw [←q3];by_cases hm:w.small=false
     ·rw [Ce hm,Ce hm]
      rfl
     ·have hm':w.small=true:=by cases hh:w.small with
       | true=>rfl
       | false=>exact absurd hh hm
      have ew:=q4 hm';subst ew;rw [Cc hm,Cc hm,jkH (jar ws)];by_cases ha:ws.any (fun q=>q.same w)=true
      ·rw [Ce ha,Ce ha]
       rfl
      ·rw [Cc ha,Cc ha];by_cases h8:ws.length=128
       ·rw [Ce h8,Ce (by rw [h8];exact Cl _)]
        rfl
       ·rw [Cc h8,Cc (by show ¬128≤ws.length;omega),←jlf];have ih:=jdK n r (ws++[w]) sr (by simp only [Ci,Cd] at hn;omega) (by simp only [Ci,Cd,Ct];omega);rw [Ci] at ih;exact ih
theorem jlH {t:List Nat} (hs:jO t):readWords (by8 t)=jaV j9 (v0 0 (jS t) []):=by
 unfold readWords;rw [vV];exact jdK t.length t [] hs (Cl _) (by simp)
theorem jhP {b:Join}:a.before b=true↔a.right < b.right∨(a.right=b.right∧a.left < b.left):=by
 unfold Join.before;simp only [Gp,Dd,Cn,D8]
theorem jg4 {b:Join}:a.before b=false↔¬(a.right < b.right∨(a.right=b.right∧a.left < b.left)):=by
 rw [←jhP];cases a.before b<;>simp
theorem jpg (a:Join):a.before a=false:=by rw [jg4];omega
theorem jqw {b c:Join} (h1:a.before b=true) (h2:b.before c=true):a.before c=true:=by
 rw [jhP] at h1 h2 ⊢;omega
theorem jtF {b c:Join} (h1:a.before b=true) (h2:c.before b=false):a.before c=true:=by
 rw [jhP] at h1 ⊢;rw [jg4] at h2;omega
theorem jlE (w:Join):∀ L,putJoin w L=ins Join.before w L
 | []=>rfl
 | q :: L=>by
  show (if w.before q=true then w :: q :: L else q :: putJoin w L)=(if w.before q=true then w :: q :: L else q :: ins Join.before w L);rw [jlE w L]
noncomputable def j5 (js:List Join):List Join:=js.foldl (fun L j=>putJoin j L) []
theorem jla (js:List Join):j5 js=jf0 Join.before js:=by
 unfold j5 jf0;congr 1;funext L w;exact jlE w L
theorem zg (js:List Join):(j5 js).Perm js:=by
 rw [jla];exact jhO js
theorem jjA (js:List Join):Asc Join.before (j5 js):=by
 rw [jla];exact jjy jpg jqw jtF js
theorem jn6 (js:List Join) (j:Join):j5 (js++[j])=putJoin j (j5 js):=by
 unfold j5;rw [Jc]
 rfl
noncomputable def jii (a b:Join):Bool:=a.right == b.right && a.left == b.left
theorem jjO {b:Join}:jii a b=true↔a.right=b.right∧a.left=b.left:=by
 unfold jii;simp only [Cn,D8]
noncomputable def zF (js:List Join):Prop:=js.Pairwise fun a b=>jii a b=false
theorem zF.inj (h:zF js):∀ {a b:Join},a∈js→b∈js→a.right=b.right→a.left=b.left→a=b:=by
 induction js with
 | nil=>intro a b ha;cases ha
 | cons w js ih =>
  unfold zF at h;rw [Dr] at h;intro a b ha hb e1 e2;rcases Cp.mp ha with hw|hm
  ·rcases Cp.mp hb with hb|hb
   ·rw [hw,hb]
   ·have:=h.1 b hb;rw [←hw,jjO.mpr ⟨e1,e2⟩] at this;cases this
  ·rcases Cp.mp hb with hb|hb
   ·have:=h.1 a hm;rw [←hb,jjO.mpr ⟨e1.symm,e2.symm⟩] at this;cases this
   ·exact ih h.2 hm hb e1 e2
theorem jqv {b:Join} (h1:a.before b=false) (h2:b.before a=false):a.right=b.right∧a.left=b.left:=by
 rw [jg4] at h1 h2;omega
theorem jfM {l:List Join} (h:zF js) (p:l.Perm js) (s:Asc Join.before l):l=j5 js :=
 jiO (p.trans (zg js).symm) s (jjA js) fun a ha b hb n1 n2=>by
  obtain ⟨e1,e2⟩:=jqv n1 n2;exact h.inj (p.mem_iff.mp ha) (p.mem_iff.mp hb) e1 e2
noncomputable def vF (js:List Join):List Join:=js.filter fun j=>j.cost != 0
theorem jlb (h:zF js):vF (j5 js)=j5 (vF js):=by
 refine jfM ?_ ?_ ?_
 ·exact Le _ h
 ·exact (zg js).filter _
 ·exact Le _ (jjA js)
noncomputable def vH (l:List Nat) (k:Nat):Option (List Nat):=if l.getLast?=some 10∧(jD l.dropLast).length=k∧(jD l.dropLast).all jP=true then some ((jD l.dropLast).map jU) else none
noncomputable def vZ:Nat→List (List Nat)→List Join→Except (Nat×Nat) (List Join)
 | _,[],js=>.ok js
 | i,l :: ls,js=>match vH l 3 with
  | some [x,y,c]=>if 255 < x∨255 < y∨65535 < c then .error (i,2) else if js.any (fun q=>q.right == x && q.left == y)=true then .error (i,3) else vZ (i+1) ls (js++[⟨x,y,c⟩])
  | _=>.error (i,1)
noncomputable def va (ls:List (List Nat)):Except (Nat×Nat) (Nat×List Join):=match ls with
 | []=>.error (0,1)
 | l :: ls=>match vH l 1 with
  | some [a]=>if 65535 < a then .error (0,2) else jaV (fun js=>(a,js)) (vZ 1 ls [])
  | _=>.error (0,1)
theorem jhX (h:∀ x∈l,x≠10) (k:Nat):vH l k=none:=by
 unfold vH;rw [Cc];rintro ⟨q,_⟩;exact h 10 (List.mem_of_getLast? q) rfl
theorem jjI (l:List Nat) (k:Nat):vH (l++[10]) k=if (jD l).length=k∧(jD l).all jP=true then some ((jD l).map jU) else none:=by
 unfold vH;rw [List.dropLast_concat];by_cases h:(jD l).length=k∧(jD l).all jP=true
 ·rw [Ce ⟨by simp,h⟩,Ce h]
 ·rw [Cc fun z=>h z.2,Cc h]
theorem jqy (hs:jO l):(joinOf (by8 l)=none∧vH (l++[10]) 3=none)∨∃ x y c X Y C,joinOf (by8 l)=some ⟨X,Y,C⟩∧vH (l++[10]) 3=some [x,y,c]∧(x=X∨(x=100000∧100000≤X))∧(y=Y∨(y=100000∧100000≤Y))∧(c=C∨(c=100000∧100000≤C)):=by
 rw [jjI];unfold joinOf;rw [jfn hs];have sm:=jdh hs
 match hp:jD l with
 | []=>exact absurd hp (jat l)
 | [_]=>exact .inl ⟨rfl,by rw [Cc (by simp)]⟩
 | [_,_]=>exact .inl ⟨rfl,by rw [Cc (by simp)]⟩
 | _ :: _ :: _ :: _ :: _=>exact .inl ⟨rfl,by rw [Cc (by simp)]⟩
 | [p1,p2,p3] =>
  rw [hp] at sm;simp only [List.map];rw [jaU (sm _ (by simp)),jaU (sm _ (by simp)),jaU (sm _ (by simp))];by_cases h1:jP p1=true
  ·by_cases h2:jP p2=true
   ·by_cases h3:jP p3=true
    ·rw [Ce h1,Ce h2,Ce h3,Ce ⟨rfl,by simp [h1,h2,h3]⟩];exact .inr ⟨_,_,_,_,_,_,rfl,rfl,jae h1,jae h2,jae h3⟩
    ·rw [Ce h1,Ce h2,Cc h3];exact .inl ⟨rfl,by rw [Cc (by simp [h3])]⟩
   ·rw [Ce h1,Cc h2];exact .inl ⟨rfl,by rw [Cc (by simp [h2])]⟩
  ·rw [Cc h1];exact .inl ⟨rfl,by rw [Cc (by simp [h1])]⟩
theorem jdJ:∀ (n i:Nat) (t:List Nat) (js:List Join),jO t→t.length≤n→readJoinsFrom n i (by8 t) (j5 js)=jaV j5 (vZ i (jS t) js)
 | n,i,t,js,hs,hn=>by
  rcases jeA t with rfl|⟨hne,h⟩|⟨l,r,h,rfl⟩
  ·cases n<;>rfl
  ·cases n with
   | zero=>exact absurd (Jj.mp (Nat.le_zero.mp hn)) hne
   | succ n =>
    rw [jej hne h];show _=jaV j5 (match vH t 3 with
     | some [x,y,c]=>_
     | _=>.error (i,1))
    rw [jhX h];cases t with
    | nil=>exact absurd rfl hne
    | cons c t =>
     show (match (by8 (c :: t)).drop ((by8 (c :: t)).takeWhile fun (c:UInt8)=>c != 0x0A).length,joinOf ((by8 (c :: t)).takeWhile fun (c:UInt8)=>c != 0x0A) with
      | _ :: r,some w=>_
      | _,_=>Except.error (i,1))=_
     rw [jc4 hs h,Fp]
     rfl
  ·cases n with
   | zero=>simp at hn
   | succ n =>
    have sl:=hs.app.1;have sr:=hs.app.2.cons.2;rw [jfe h];show _=jaV j5 (match vH (l++[10]) 3 with
     | some [x,y,c]=>if 255 < x∨255 < y∨65535 < c then .error (i,2) else if js.any (fun q=>q.right == x && q.left == y)=true then .error (i,3) else vZ (i+1) (jS r) (js++[⟨x,y,c⟩])
     | _=>.error (i,1))
    have ed:(by8 (l++10 :: r)).drop (by8 l).length=0x0A :: by8 r:=by
     rw [ze,List.drop_left]
     rfl
    have eb:∃ c b,by8 (l++10 :: r)=c :: b:=by
     cases l with
     | nil=>exact ⟨_,_,rfl⟩
     | cons c l=>exact ⟨_,_,rfl⟩
    have eu:readJoinsFrom (n+1) i (by8 (l++10 :: r)) (j5 js)=(match (by8 (l++10 :: r)).drop ((by8 (l++10 :: r)).takeWhile fun (c:UInt8)=>c != 0x0A).length,joinOf ((by8 (l++10 :: r)).takeWhile fun (c:UInt8)=>c != 0x0A) with
      | _ :: r,some j=>if SORTS≤j.right∨SORTS≤j.left∨COST < j.cost then .error (i,2) else if (j5 js).any (fun (q:Join)=>q.right == j.right && q.left == j.left)=true then .error (i,3) else readJoinsFrom n (i+1) r (putJoin j (j5 js))
      | _,_=>.error (i,1)):=by
     obtain ⟨c,b,e⟩:=eb;rw [e]
     rfl
    rw [eu,jez sl h,ed];rcases jqy sl with ⟨q1,q2⟩|⟨x,y,c,X,Y,C,q1,q2,ex,ey,ec⟩
    ·rw [q1,q2]
     rfl
    ·rw [q1,q2];show (if 256≤X∨256≤Y∨65535 < C then _ else _)=jaV j5 (if 255 < x∨255 < y∨65535 < c then _ else _);by_cases hm:255 < x∨255 < y∨65535 < c
     ·rw [Ce hm,Ce (by omega)]
      rfl
     ·rw [Cc hm,Cc (by omega)];have e1:x=X:=by omega
      have e2:y=Y:=by omega
      have e3:c=C:=by omega
      subst e1 e2 e3;rw [jkH (zg js)];by_cases ha:js.any (fun q=>q.right == x && q.left == y)=true
      ·rw [Ce ha,Ce ha]
       rfl
      ·rw [Cc ha,Cc ha,←jn6];exact jdJ n (i+1) r (js++[⟨x,y,c⟩]) sr (by simp only [Ci,Cd] at hn;omega)
set_option tactic.hygienic true in
theorem jdj:∀ (ls:List (List Nat)) (i:Nat) (js js':List Join),zF js→vZ i ls js=.ok js'→zF js'
 | [],_,js,js',h,e=>by
  cases e;exact h
 | l :: ls,i,js,js',h,e=>by
  unfold vZ at e;split at e
  ·rename_i x y c hl;by_cases h1:255 < x∨255 < y∨65535 < c
   ·rw [Ce h1] at e;cases e
   ·rw [Cc h1] at e;by_cases h2:js.any (fun q=>q.right == x && q.left == y)=true
    ·rw [Ce h2] at e;cases e
    ·rw [Cc h2] at e;refine jdj ls (i+1) _ js' ?_ e;unfold zF;rw [List.pairwise_append];refine ⟨h,Go _ _,?_⟩;intro a ha b hb;rw [Cm.mp hb];cases q:jii a ⟨x,y,c⟩ with
     | false=>rfl
     | true=>exact absurd (Ji.mpr ⟨a,ha,q⟩) h2
  ·cases e
theorem jlG {t:List Nat} (hs:jO t):readJoins (by8 t)=jaV (fun p=>(p.1,j5 (vF p.2))) (va (jS t)):=by
 unfold readJoins va;rcases jeA t with rfl|⟨hne,h⟩|⟨l,r,h,rfl⟩
 ·rfl
 ·rw [jej hne h];dsimp only;rw [jhX h,jc4 hs h,Fp]
  rfl
 ·have sl:=hs.app.1;have sr:=hs.app.2.cons.2;have ed:(by8 (l++10 :: r)).drop (by8 l).length=0x0A :: by8 r:=by
   rw [ze,List.drop_left]
   rfl
  rw [jfe h];dsimp only;rw [jez sl h,ed,jjI,jaU sl];have key:(∃ c∈l,c=32)∨(∀ c∈l,c≠32):=by
   by_cases q:∃ c∈l,c=32
   ·exact .inl q
   ·exact .inr fun c hc e=>q ⟨c,hc,e⟩
  rcases key with ⟨c,hc,rfl⟩|hno
  ·have n1:jP l=false:=by
    cases q:jP l with
    | false=>rfl
    | true =>
     simp only [jP,Cn] at q;have:=Dk.mp q.1 32 hc;cases this
   have n2:¬(jD l).length=1:=by
    rcases jc8 l with hq|⟨a,b,_,rfl⟩
    ·exact absurd rfl (hq 32 hc)
    ·intro hl;rcases jc8 (a++32 :: b) with hq|⟨a',b',ha',e⟩
     ·exact absurd rfl (hq 32 hc)
     ·rw [e,jb0 ha',Cd] at hl;have:=jat b';cases hb:jD b' with
      | nil=>exact this hb
      | cons _ _=>rw [hb] at hl;simp at hl
   rw [n1,Cc (by simp),Cc fun z=>n2 z.1]
   rfl
  ·rw [jcN hno];by_cases hn:jP l=true
   ·rw [Ce hn,Ce ⟨rfl,by simp [hn]⟩];dsimp only [List.map];have hv:=jae hn;by_cases hm:65535 < jU l
    ·rw [Ce hm,Ce (show COST < jW 0 l by show 65535 < jW 0 l;omega)]
     rfl
    ·have ev:jU l=jW 0 l:=by omega
     rw [Cc hm,Cc (show ¬COST < jW 0 l by show ¬65535 < jW 0 l;omega),vV];have q:=jdJ r.length 1 r [] sr (Cl _);rw [show (j5 [])=[] from rfl] at q;rw [q,ev];cases hj:vZ 1 (jS r) [] with
     | error e=>rfl
     | ok js =>
      have ha:=jdj _ _ _ _ List.Pairwise.nil hj;show Except.ok (jW 0 l,vF (j5 js))=Except.ok (jW 0 l,j5 (vF js));rw [jlb ha]
   ·rw [Cc hn,Cc (by simp [hn])]
    rfl
theorem jbf {α β:Type} {f g:α→List β}:∀ {l:List α},(∀ x∈l,f x=g x)→l.flatMap f=l.flatMap g
 | [],_=>rfl
 | x :: l,h=>by rw [Dl,Dl,h x (Cf ..),jbf fun y hy=>h y (Cg _ hy)]
theorem zk {r:Text} {p:Piece} (h:p∈piecesAt g r):1≤p.sounds∧p.sounds≤r.length∧p.sounds≤32∧((p.word=none∧p.sounds=1)∨∃ i w,p.word=some i∧g.words[i]?=some w∧w.reading=r.take p.sounds):=by
 unfold piecesAt at h;rw [Gx] at h;obtain ⟨j,hj,hp⟩:=h;rw [Dh] at hj;obtain ⟨k,hk,rfl⟩:=hj;rw [Lg,Gy] at hk;have hk2:k < min 32 r.length:=hk;rw [Ds] at hp;rcases hp with hp|hp
 ·rw [Dh] at hp;obtain ⟨i,hi,rfl⟩:=hp;rw [Dx] at hi;refine ⟨by show 1≤k+1;omega,by show k+1≤r.length;omega,by show k+1≤32;omega,.inr ?_⟩;have h2:=hi.2;rw [D8] at h2;cases hw:g.words[i]? with
  | none=>rw [hw] at h2;cases h2
  | some w =>
   rw [hw] at h2;exact ⟨i,w,rfl,hw,Cs h2⟩
 ·by_cases q:k+1=1
  ·rw [Ce q] at hp;rw [Cm.mp hp];exact ⟨Cl _,by show 1≤r.length;omega,by decide,.inl ⟨rfl,rfl⟩⟩
  ·rw [Cc q] at hp;cases hp
theorem jj0 (g:Weights):∀ (f f':Nat) (r:Text),r.length≤f→r.length≤f'→waysFrom g f r=waysFrom g f' r
 | f,f',[],_,_=>by cases f<;>cases f'<;>rfl
 | 0,_,_ :: _,h,_=>by simp at h
 | _+1,0,_ :: _,_,h=>by simp at h
 | f+1,f'+1,x :: r,h1,h2=>by
  show (piecesAt g (x :: r)).flatMap _=(piecesAt g (x :: r)).flatMap _;refine jbf fun p hp=>?_;have q:=zk hp;have l:((x :: r).drop p.sounds).length≤r.length:=by
   rw [Db,Cd];omega
  rw [jj0 g f f' _ (Da l (by simpa using h1)) (Da l (by simpa using h2))]
noncomputable def vN (g:Weights) (r:Text):List Way:=waysFrom g r.length r
theorem jdo (g:Weights) (x:Nat) (r:Text):vN g (x :: r)=(piecesAt g (x :: r)).flatMap fun p=>(vN g ((x :: r).drop p.sounds)).map fun w=>p :: w:=by
 show (piecesAt g (x :: r)).flatMap _=_;refine jbf fun p hp=>?_;have q:=zk hp;unfold vN;rw [jj0 g r.length ((x :: r).drop p.sounds).length _ (by rw [Db,Cd];omega) (Cl _)]
noncomputable def jkY:Text→List Text
 | []=>[[]]
 | x :: r=>(x :: r) :: jkY r
theorem jkZ:∀ (r:Text) (i:Nat),i≤r.length→(jkY r)[i]?=some (r.drop i)
 | [],0,_=>rfl
 | [],_+1,h=>by simp at h
 | x :: r,0,_=>rfl
 | x :: r,i+1,h=>by
  show (jkY r)[i]?=some (r.drop i);exact jkZ r i (by simpa using h)
theorem jjU:∀ (l:List Nat) (a:Nat),l.foldl (fun (a b:Nat)=>a+b) a=a+l.sum
 | [],a=>by simp
 | x :: l,a=>by
  rw [Fi,jjU l (a+x),List.sum_cons];omega
theorem jdc {α β:Type} (f:α→List β):∀ l:List α,(l.flatMap f).length=(l.map fun x=>(f x).length).sum
 | []=>rfl
 | x :: l=>by rw [Dl,Ci,C6,List.sum_cons,jdc f l]
theorem jjp (g:Weights):∀ r:Text,countsFrom g r=(jkY r).map fun t=>(vN g t).length
 | []=>rfl
 | x :: r=>by
  have ih:=jjp g r;show (((piecesAt g (x :: r)).map fun (p:Piece)=>(countsFrom g r).getD (p.sounds - 1) 0).foldl (fun (a b:Nat)=>a+b) 0) :: countsFrom g r=(vN g (x :: r)).length :: (jkY r).map fun t=>(vN g t).length;rw [ih,jdo,jjU,jdc];congr 1;rw [Fy];congr 1;refine Fh fun p hp=>?_;have q:=zk hp;rw [Cb,Cq,Dz,jkZ r _ (by simp at q;omega)];obtain ⟨k,hk⟩:∃ k,p.sounds=k+1:=⟨p.sounds - 1,by omega⟩;rw [hk]
  rfl
theorem jrJ (g:Weights) (r:Text):manyWays g r=(vN g r).length:=by
 unfold manyWays;rw [jjp];cases r<;>rfl
theorem jcg (x:Nat×Way):∀ l,(putCost x l).Perm (x :: l)
 | []=>.refl _
 | y :: l=>by
  unfold putCost;by_cases h:x.1≤y.1
  ·rw [Ce h]
  ·rw [Cc h];exact ((jcg x l).cons y).trans (.swap _ _ _)
theorem jgA (x:Nat×Way):∀ {l:List (Nat×Way)},l.Pairwise (fun a b=>a.1≤b.1)→(putCost x l).Pairwise fun a b=>a.1≤b.1
 | [],_=>Go _ _
 | y :: l,h=>by
  rw [Dr] at h;unfold putCost;by_cases q:x.1≤y.1
  ·rw [Ce q,Dr,Dr];refine ⟨?_,h⟩;intro z hz;rcases Cp.mp hz with rfl|hz
   ·exact q
   ·exact Da q (h.1 z hz)
  ·rw [Cc q,Dr];refine ⟨?_,jgA x h.2⟩;intro z hz;rcases Cp.mp ((jcg x l).mem_iff.mp hz) with rfl|hz
   ·omega
   ·exact h.1 z hz
theorem jdI (x:Nat×Way) (c:Nat):∀ l:List (Nat×Way),(putCost x l).filter (fun y=>y.1 == c)=(x :: l).filter fun y=>y.1 == c
 | []=>rfl
 | y :: l=>by
  unfold putCost;by_cases q:x.1≤y.1
  ·rw [Ce q]
  ·rw [Cc q,D0,jdI x c l,D0,D0,D0];by_cases h1:x.1 == c
   ·by_cases h2:y.1 == c
    ·have e1:=D8.mp h1;have e2:=D8.mp h2;omega
    ·simp [h1,h2]
   ·simp [h1]
noncomputable def jbc (l:List (Nat×Way)):List (Nat×Way):=l.foldr putCost []
theorem jeH:∀ l,(jbc l).Perm l
 | []=>.refl _
 | x :: l=>(jcg x (jbc l)).trans ((jeH l).cons x)
theorem je8:∀ l,(jbc l).Pairwise fun a b=>a.1≤b.1
 | []=>.nil
 | x :: l=>jgA x (je8 l)
theorem jcG (c:Nat):∀ l,(jbc l).filter (fun y=>y.1 == c)=l.filter fun y=>y.1 == c
 | []=>rfl
 | x :: l=>by
  show (putCost x (jbc l)).filter _=_;rw [jdI,D0,D0,jcG c l]
theorem jiE:∀ {l m:List (Nat×Way)},l.Pairwise (fun a b=>a.1≤b.1)→m.Pairwise (fun a b=>a.1≤b.1)→(∀ c,l.filter (fun y=>y.1 == c)=m.filter fun y=>y.1 == c)→l=m
 | [],[],_,_,_=>rfl
 | [],y :: m,_,_,h=>by
  have:=h y.1;rw [D0] at this;simp at this
 | x :: l,[],_,_,h=>by
  have:=h x.1;rw [D0] at this;simp at this
 | x :: l,y :: m,hl,hm,h=>by
  rw [Dr] at hl hm;have mem1:∀ c,(∃ z∈x :: l,z.1=c)↔∃ z∈y :: m,z.1=c:=by
   intro c;have e:=h c;constructor
   ·rintro ⟨z,hz,rfl⟩;have:z∈(y :: m).filter fun q=>q.1 == z.1:=by rw [←e];exact Dx.mpr ⟨hz,by simp⟩
    exact ⟨z,(Dx.mp this).1,rfl⟩
   ·rintro ⟨z,hz,rfl⟩;have:z∈(x :: l).filter fun q=>q.1 == z.1:=by rw [e];exact Dx.mpr ⟨hz,by simp⟩
    exact ⟨z,(Dx.mp this).1,rfl⟩
  have le1:y.1≤x.1:=by
   obtain ⟨z,hz,e⟩:=(mem1 x.1).mp ⟨x,Cf ..,rfl⟩;rcases Cp.mp hz with rfl|hz
   ·omega
   ·have:=hm.1 z hz;omega
  have le2:x.1≤y.1:=by
   obtain ⟨z,hz,e⟩:=(mem1 y.1).mpr ⟨y,Cf ..,rfl⟩;rcases Cp.mp hz with rfl|hz
   ·omega
   ·have:=hl.1 z hz;omega
  have ec:x.1=y.1:=by omega
  have e0:=h x.1;rw [D0,D0,Ce (by simp),Ce (by simp [ec])] at e0;have exy:x=y:=(List.cons.inj e0).1;subst exy;rw [jiE hl.2 hm.2 fun c=>?_];have e:=h c;rw [D0,D0] at e;by_cases hc:(x.1 == c)=true
  ·rw [Ce hc,Ce hc] at e;exact (List.cons.inj e).2
  ·rw [Cc hc,Cc hc] at e;exact e
theorem jji (g:Weights) (x:Nat) (l:List Way):byCost g x l=(jbc (l.map fun w=>(costFrom g x w,w))).map fun y=>y.2:=rfl
theorem jnR {l:List Way} {m:List (Nat×Way)} (hm:m.Pairwise fun a b=>a.1≤b.1) (hs:∀ c,m.filter (fun y=>y.1 == c)=(l.map fun w=>(wayCost g w,w)).filter fun y=>y.1 == c):byCost g 0 l=m.map fun y=>y.2:=by
 rw [jji];congr 1;refine jiE (je8 _) hm fun c=>?_;rw [jcG,hs c]
 rfl
theorem jmr (g:Weights) (x:Nat) (l:List Way):(byCost g x l).Perm l:=by
 rw [jji];have:=(jeH (l.map fun w=>(costFrom g x w,w))).map fun y=>y.2;rw [D4] at this;refine this.trans ?_;have e:((fun y:Nat×Way=>y.2) ∘ fun w=>(costFrom g x w,w))=id:=rfl;rw [e,List.map_id]
theorem jj5 (g:Weights) (x:Nat) (l:List Way):(byCost g x l).length=l.length:=(jmr g x l).length_eq
theorem jmx (g:Weights) (r:Text) (s:Settled):(kept g r s).length=((vN g r).filter (keeps s r)).length:=jj5 g 0 _
noncomputable def pc (p:Piece):Int×Int:=((p.sounds:Int),match p.word with
 | some k=>(k:Int)
 | none=>-1)
theorem jpC {p q:Piece} (h:pc p=pc q):p=q:=by
 obtain ⟨a,x⟩:=p;obtain ⟨b,y⟩:=q;unfold pc at h;have h1:=(Prod.mk.inj h).1;have h2:=(Prod.mk.inj h).2;have e:a=b:=by simp at h1;omega
 subst e;cases x<;>cases y<;>simp at h2 ⊢<;>omega
noncomputable def pLt (a b:Int×Int):Bool:=decide (b.1 < a.1) || (a.1 == b.1 && decide (a.2 < b.2))
theorem jb9 {a b:Int×Int}:pLt a b=true↔b.1 < a.1∨(a.1=b.1∧a.2 < b.2):=by
 unfold pLt;simp
theorem jpA {a b:Int×Int}:pLt a b=false↔¬(b.1 < a.1∨(a.1=b.1∧a.2 < b.2)):=by
 rw [←jb9,Fq]
theorem jiF {α:Type} {R:α→α→Prop} (as:∀ {a b},R a b→¬R b a):∀ {l m:List α},l.Pairwise R→m.Pairwise R→(∀ x,x∈l↔x∈m)→l=m
 | [],[],_,_,_=>rfl
 | [],b :: m,_,_,h=>absurd ((h b).mpr (Cf ..)) (by simp)
 | a :: l,[],_,_,h=>absurd ((h a).mp (Cf ..)) (by simp)
 | a :: l,b :: m,hl,hm,h=>by
  rw [Dr] at hl hm;have e:a=b:=by
   rcases Cp.mp ((h a).mp (Cf ..)) with q|q
   ·exact q
   ·rcases Cp.mp ((h b).mpr (Cf ..)) with q'|q'
    ·exact q'.symm
    ·exact absurd (hl.1 b q') (as (hm.1 a q))
  subst e;rw [jiF as hl.2 hm.2 fun x=>?_];constructor
  ·intro hx;rcases Cp.mp ((h x).mp (Cg _ hx)) with q|q
   ·subst q;exact absurd (hl.1 _ hx) (as (hl.1 _ hx))
   ·exact q
  ·intro hx;rcases Cp.mp ((h x).mpr (Cg _ hx)) with q|q
   ·subst q;exact absurd (hm.1 _ hx) (as (hm.1 _ hx))
   ·exact q
noncomputable def zR (ws:List Word) (r:Text):List (Int×Int):=(ws.zipIdx.filter fun x=>r.take x.1.reading.length == x.1.reading).map fun x=>((x.1.reading.length:Int),(x.2:Int))
theorem jjl (ws:List Word) (w:Word) (r:Text):zR (ws++[w]) r=zR ws r++if r.take w.reading.length=w.reading then [((w.reading.length:Int),(ws.length:Int))] else []:=by
 unfold zR;rw [List.zipIdx_append,Jn,Dc];congr 1;rw [List.zipIdx_cons,List.zipIdx_nil,Fy];by_cases h:r.take w.reading.length=w.reading
 ·rw [Ce h,D0,Ce (by simp [h])]
  rfl
 ·rw [Cc h,D0,Cc (by simp [h])]
  rfl
theorem jqG {r:Text} {x:Int×Int}:x∈zR ws r↔∃ (i:Nat) (w:Word),ws[i]?=some w∧r.take w.reading.length=w.reading∧x=((w.reading.length:Int),(i:Int)):=by
 unfold zR;rw [Dh];constructor
 ·rintro ⟨⟨w,i⟩,h,rfl⟩;rw [Dx,List.mem_zipIdx_iff_getElem?] at h;exact ⟨i,w,h.1,by simpa using h.2,rfl⟩
 ·rintro ⟨i,w,h1,h2,rfl⟩;refine ⟨(w,i),?_,rfl⟩;rw [Dx,List.mem_zipIdx_iff_getElem?];exact ⟨h1,by simpa using h2⟩
theorem jjk (r:Text):∀ (ws:List Word),(zR ws r).Pairwise fun a b=>a.2 < b.2:=by
 intro ws;unfold zR;rw [F9];refine Le _ ?_;have:∀ (ws:List Word) (k:Nat),(ws.zipIdx k).Pairwise (fun a b=>(a.2:Int) < (b.2:Int)):=by
  intro ws
  induction ws with
  | nil=>intro k;exact .nil
  | cons w ws ih =>
   intro k;rw [List.zipIdx_cons,Dr];refine ⟨fun x hx=>?_,ih _⟩;obtain ⟨w',i⟩:=x;have:=List.le_snd_of_mem_zipIdx hx;show (k:Int) < (i:Int);have q:k+1≤i:=this;omega
 exact this ws 0
noncomputable def jc6 (ws:List Word):Prop:=∀ w∈ws,1≤w.reading.length∧w.reading.length≤32
noncomputable def wpj (g:Weights) (r:Text) (j:Nat):List Piece:=((List.range g.words.length).filter fun (i:Nat)=>((g.words[i]?).map fun (w:Word)=>w.reading) == some (r.take j)).map (fun (i:Nat)=>(⟨j,some i⟩:Piece))
noncomputable def jg5 (r:Text):List Nat:=(List.range (min SIGNS r.length)).reverse.map fun (j:Nat)=>j+1
noncomputable def wps (g:Weights) (r:Text):List Piece:=(jg5 r).flatMap (wpj g r)
theorem jf4 {r:Text} {j:Nat} {p:Piece}:p∈wpj g r j↔∃ i w,g.words[i]?=some w∧w.reading=r.take j∧p=⟨j,some i⟩:=by
 unfold wpj;rw [Dh];constructor
 ·rintro ⟨i,hi,rfl⟩;rw [Dx,D8] at hi;cases hw:g.words[i]? with
  | none=>rw [hw] at hi;cases hi.2
  | some w =>
   rw [hw] at hi;exact ⟨i,w,hw,Cs hi.2,rfl⟩
 ·rintro ⟨i,w,h1,h2,rfl⟩;refine ⟨i,?_,rfl⟩;rw [Dx,Gy,D8,h1];exact ⟨(Cj.mp h1).1,by rw [Dy,h2]⟩
theorem jdi (g:Weights) {r:Text} (hr:r≠[]):piecesAt g r=wps g r++[⟨1,none⟩]:=by
 obtain ⟨k,hk⟩:∃ k,min SIGNS r.length=k+1:=by
  cases r with
  | nil=>exact absurd rfl hr
  | cons x r=>exact ⟨_,(Nat.succ_pred_eq_of_pos (Nat.lt_min.mpr ⟨by decide,Nat.succ_pos _⟩)).symm⟩
 have hj:jg5 r=((List.range k).map Nat.succ).reverse.map (fun j=>j+1)++[1]:=by
  unfold jg5;rw [hk,List.range_succ_eq_map,List.reverse_cons,Dc]
  rfl
 show (jg5 r).flatMap (fun j=>wpj g r j++if j=1 then [⟨1,none⟩] else [])=_;unfold wps;rw [hj,F0,F0,Fe];congr 1
 ·refine jbf fun j hj=>?_;have:j≠1:=by
   rw [Dh] at hj;obtain ⟨i,hi,rfl⟩:=hj;rw [Lg,Dh] at hi;obtain ⟨q,_,rfl⟩:=hi;omega
  rw [Cc this,D5]
 ·rw [Dl,Jk,Dl,Jk,Ce rfl,D5,D5]
theorem jiJ (g:Weights) (r:Text):((wps g r).map pc).Pairwise fun a b=>pLt a b=true:=by
 rw [F9];unfold wps;rw [List.pairwise_flatMap];constructor
 ·intro j _;unfold wpj;rw [F9];refine Le _ ?_;refine (List.pairwise_lt_range (n:=g.words.length)).imp fun {a b} h=>?_;rw [jb9];right;exact ⟨rfl,by show (a:Int) < (b:Int);omega⟩
 ·unfold jg5;rw [F9,List.pairwise_reverse];refine (List.pairwise_lt_range (n:=min SIGNS r.length)).imp fun {a b} h p hp q hq=>?_;obtain ⟨i,w,_,_,rfl⟩:=jf4.mp hp;obtain ⟨i',w',_,_,rfl⟩:=jf4.mp hq;rw [jb9];left;show ((a+1:Nat):Int) < ((b+1:Nat):Int);omega
theorem jnO {r:Text} (ok:jc6 g.words) (x:Int×Int):x∈(wps g r).map pc↔x∈zR g.words r:=by
 rw [jqG,Dh];unfold wps;constructor
 ·rintro ⟨p,hp,rfl⟩;rw [Gx] at hp;obtain ⟨j,hj,hp⟩:=hp;obtain ⟨i,w,h1,h2,rfl⟩:=jf4.mp hp;unfold jg5 at hj;rw [Dh] at hj;obtain ⟨k,hk,rfl⟩:=hj;rw [Lg,Gy] at hk;have hl:w.reading.length=k+1:=by
   rw [h2,Dq];omega
  exact ⟨i,w,h1,by rw [hl];exact h2.symm,by unfold pc;rw [hl]⟩
 ·rintro ⟨i,w,h1,h2,rfl⟩;have hw:=ok w (Cw h1);have hl:w.reading.length≤r.length:=by
   have:=D7 List.length h2;rw [Dq] at this;omega
  refine ⟨⟨w.reading.length,some i⟩,?_,rfl⟩;rw [Gx];refine ⟨w.reading.length,?_,jf4.mpr ⟨i,w,h1,h2.symm,rfl⟩⟩;unfold jg5;rw [Dh];refine ⟨w.reading.length - 1,?_,by omega⟩;rw [Lg,Gy];have:SIGNS=32:=rfl;omega
theorem jkg {r:Text} {l:List (Int×Int)} (ok:jc6 g.words) (hr:r≠[]) (hp:l.Perm (zR g.words r)) (ha:Asc pLt l):l++[(1,-1)]=(piecesAt g r).map pc:=by
 have nd:l.Pairwise fun a b=>a≠b:=by
  refine (hp.symm.pairwise ?_ fun {a b} h=>Dj h);exact (jjk r g.words).imp fun {a b} h e=>by rw [e] at h;omega
 have st:l.Pairwise fun a b=>pLt a b=true:=by
  have:=List.Pairwise.and (show l.Pairwise fun a b=>pLt b a=false from ha) nd;refine this.imp fun {a b} h=>?_;rw [jpA] at h;rw [jb9];obtain ⟨h1,h2⟩:=h;obtain ⟨a1,a2⟩:=a;obtain ⟨b1,b2⟩:=b;simp only at h1 ⊢;by_cases e1:a1=b1
  ·subst e1;have:a2≠b2:=fun e=>h2 (by rw [e]);omega
  ·omega
 have e:l=(wps g r).map pc:=jiF (fun {a b} h h'=>by rw [jb9] at h h';omega) st (jiJ g r) fun x=>by rw [jnO ok,hp.mem_iff]
 rw [jdi g hr,Dc,e]
 rfl
noncomputable abbrev PP:=Int×Int
noncomputable def cnt:List (List PP)→List Nat
 | []=>[1]
 | ps :: T=>(ps.map fun p=>(cnt T).getD (p.1.toNat - 1) 0).sum :: cnt T
noncomputable def wys:List (List PP)→List (List (List PP))
 | []=>[[[]]]
 | ps :: T=>(ps.flatMap fun p=>((wys T).getD (p.1.toNat - 1) []).map fun w=>p :: w) :: wys T
theorem ja5:∀ T,(wys T).length=T.length+1
 | []=>rfl
 | _ :: T=>by rw [wys,Cd,ja5 T,Cd]
theorem jdq:∀ T,cnt T=(wys T).map List.length
 | []=>rfl
 | ps :: T=>by
  rw [cnt,wys,C6,jdq T];congr 1;rw [jdc];congr 1;refine Fh fun p _=>?_;rw [Cb,Cq,Dz,Cq];cases (wys T)[p.1.toNat - 1]?<;>rfl
theorem jed (T:List (List PP)):(cnt T).length=T.length+1:=by rw [jdq,Cb,ja5]
noncomputable def zo (g:Weights) (f:Nat→Piece→Bool):Nat→Text→List (List PP)
 | _,[]=>[]
 | i,x :: r=>(((piecesAt g (x :: r)).filter (f i)).map pc) :: zo g f (i+1) r
noncomputable def jce (f:Nat→Piece→Bool) (i:Nat) (w:Way):Bool:=(placed i w).all fun x=>f x.1 x.2
theorem zl (g:Weights) (f:Nat→Piece→Bool):∀ (r:Text) (i:Nat),(zo g f i r).length=r.length
 | [],_=>rfl
 | x :: r,i=>by rw [zo,Cd,zl g f r,Cd]
theorem jhC (g:Weights) (f:Nat→Piece→Bool):∀ (r:Text) (i j:Nat),j < r.length→(zo g f i r)[j]?=some (((piecesAt g (r.drop j)).filter (f (i+j))).map pc)
 | [],_,_,h=>by simp at h
 | x :: r,i,0,_=>rfl
 | x :: r,i,j+1,h=>by
  show (zo g f (i+1) r)[j]?=_;rw [jhC g f r (i+1) j (by simpa using h),Jh];have:i+1+j=i+(j+1):=by omega
  rw [this]
theorem jds {α β:Type} (p:β→Bool) (f:α→List β):∀ l:List α,(l.flatMap f).filter p=l.flatMap fun x=>(f x).filter p
 | []=>rfl
 | x :: l=>by rw [Dl,Jn,jds p f l,Dl]
theorem jbe {α β:Type} (p:α→Bool) (f:α→List β):∀ l:List α,(l.filter p).flatMap f=l.flatMap fun x=>if p x=true then f x else []
 | []=>rfl
 | x :: l=>by
  rw [D0,Dl];by_cases h:p x=true
  ·rw [Ce h,Ce h,Dl,jbe p f l]
  ·rw [Cc h,Cc h,jbe p f l,Jq]
theorem jfg {α β γ:Type} (h:β→γ) (f:α→List β):∀ l:List α,(l.flatMap f).map h=l.flatMap fun x=>(f x).map h
 | []=>rfl
 | x :: l=>by rw [Dl,Dc,jfg h f l,Dl]
theorem je9 {α β γ:Type} (h:α→β) (f:β→List γ):∀ l:List α,(l.map h).flatMap f=l.flatMap fun x=>f (h x)
 | []=>rfl
 | x :: l=>by rw [C6,Dl,je9 h f l,Dl]
theorem jca (g:Weights) (f:Nat→Piece→Bool):∀ (r:Text) (i j:Nat),j≤r.length→(wys (zo g f i r))[j]?=some (((vN g (r.drop j)).filter (jce f (i+j))).map (List.map pc))
 | [],i,0,_=>rfl
 | [],_,_+1,h=>by simp at h
 | x :: r,i,j+1,h=>by
  show (wys (zo g f (i+1) r))[j]?=_;rw [jca g f r (i+1) j (by simpa using h),Jh];have:i+1+j=i+(j+1):=by omega
  rw [this]
 | x :: r,i,0,_=>by
  show some _=some _;congr 1;rw [G1,jdo,Nat.add_zero,jds,jfg,je9,jbe];refine jbf fun p hp=>?_;have q:=zk hp;obtain ⟨k,hk⟩:∃ k,p.sounds=k+1:=⟨p.sounds - 1,by omega⟩;have e1:(pc p).1.toNat - 1=k:=by
   show p.sounds - 1=k;rw [hk];rfl
  rw [e1,Cq,jca g f r (i+1) k (by simp at q;omega),hk,Jh,Option.getD_some];have e2:i+1+k=i+p.sounds:=by omega
  rw [e2,Gc,D4];have e3:(jce f (i+0) ∘ fun w=>p :: w)=fun w=>f i p && jce f (i+p.sounds) w:=rfl;rw [e3];by_cases hf:f i p=true
  ·rw [Ce hf];simp only [hf,Fa,D4]
   rfl
  ·rw [Cc hf];simp [hf]
theorem jgt (i:Nat) (w:Way):jce (fun _ _=>true) i w=true:=by
 unfold jce;simp
noncomputable def tab (g:Weights) (r:Text):List (List PP):=zo g (fun _ _=>true) 0 r
theorem jnJ (g:Weights) (r:Text) {j:Nat} (h:j < r.length):(tab g r)[j]?=some ((piecesAt g (r.drop j)).map pc):=by
 unfold tab;rw [jhC g _ r 0 j h,List.filter_eq_self.mpr fun _ _=>rfl]
theorem vM (g:Weights) (r:Text):(tab g r).length=r.length:=zl g _ r 0
theorem jnI (g:Weights) (r:Text):(cnt (tab g r)).head?=some (manyWays g r):=by
 have h:=jca g (fun _ _=>true) r 0 0 (C4 _);rw [jdq,Gw,Dz];unfold tab;rw [h,jrJ];simp [jgt]
theorem jjF (g:Weights) (r:Text) (s:Settled):(wys (zo g (keepsAt s r.length) 0 r)).head?=some (((vN g r).filter (keeps s r)).map (List.map pc)):=by
 rw [Gw,jca g _ r 0 0 (C4 _)]
 rfl
theorem jqA (g:Weights) (r:Text) (s:Settled):(cnt (zo g (keepsAt s r.length) 0 r)).head?=some (kept g r s).length:=by
 have h:=jjF g r s;rw [Gw] at h;rw [jdq,Gw,Dz,h,jmx];simp
noncomputable def jG:List Int→List PP
 | a :: b :: l=>(a,b) :: jG l
 | _=>[]
noncomputable def jV:List Int→Bool
 | []=>true
 | [_]=>false
 | a :: _ :: l=>decide (0≤a) && jV l
noncomputable def jQ (b:Int):Option Nat:=if b=-1 then none else some (if b < 0 then SyD.NOWORD else b.toNat)
noncomputable def jcd:Option Nat→Int
 | some k=>(k:Int)
 | none=>-1
theorem jdr {b:Int} (h:-1≤b):jcd (jQ b)=b:=by
 unfold jQ;by_cases e:b=-1
 ·rw [Ce e];exact e.symm
 ·rw [Cc e,Cc (by omega)];show ((b.toNat:Nat):Int)=b;omega
theorem jqn {a b:Option Nat} (h:jcd a=jcd b):a=b:=by
 cases a<;>cases b<;>simp [jcd] at h ⊢<;>omega
theorem jm9 (a:Option Nat):-1≤jcd a:=by
 cases a<;>simp [jcd]<;>omega
theorem jaK (p:Piece):pc p=((p.sounds:Int),jcd p.word):=by
 obtain ⟨a,x⟩:=p;cases x<;>rfl
noncomputable def jaT (x:PP):Nat×Option Nat:=(x.1.toNat,jQ x.2)
theorem jeq:∀ l:List Int,SyD.pairsIn l=if jV l=true then some ((jG l).map jaT) else none
 | []=>rfl
 | [_]=>rfl
 | a :: b :: l=>by
  rw [SyD.pairsIn,jeq l,jV,jG];by_cases h:a < 0
  ·rw [Ce h];have:decide (0≤a)=false:=by simp;omega
   rw [this]
   rfl
  ·have:decide (0≤a)=true:=by simp;omega
   rw [Cc h,this,Fa];by_cases e:jV l=true
   ·rw [Ce e,Ce e]
    rfl
   ·rw [Cc e,Cc e]
    rfl
theorem zw:∀ {l:List Int},jV l=true→∀ p∈jG l,0≤p.1
 | [],_,p,hp=>by cases hp
 | [_],h,_,_=>by cases h
 | a :: b :: l,h,p,hp=>by
  rw [jV,Cn] at h;rcases Cp.mp hp with rfl|hp
  ·exact Co h.1
  ·exact zw h.2 p hp
noncomputable def zB (n wc:Int):Int→List PP→Bool
 | _,[]=>true
 | before,p :: l=>decide (before < p.1) && (decide (p.1 < n) && (decide (-1≤p.2) && (decide (p.2 < wc) && zB n wc p.1 l)))
noncomputable def okC (g:Weights) (n:Nat) (c:Nat×Option Nat):Bool:=decide (c.1 < n) && (match c.2 with
 | some k=>decide (k < g.words.length)
 | none=>true)
theorem jns (g:Weights) (n:Nat) (p:PP) (h0:0≤p.1) (hw:g.words.length≤128):okC g n (jaT p)=(decide (p.1 < (n:Int)) && (decide (-1≤p.2) && decide (p.2 < (g.words.length:Int)))):=by
 obtain ⟨a,b⟩:=p;unfold okC jaT jQ;simp only at h0 ⊢;have e1:decide (a.toNat < n)=decide (a < (n:Int)):=by
  congr 1;apply propext;omega
 rw [e1];congr 1;by_cases e:b=-1
 ·subst e;simp only [Ce];have:(-1:Int) < (g.words.length:Int):=by omega
  simp [this]
 ·rw [Cc e];by_cases h:b < 0
  ·simp only [Ce h];have h1:decide (-1≤b)=false:=by simp;omega
   rw [h1,Dv];have:SyD.NOWORD=2 ^ 70:=rfl;simp [this];omega
  ·simp only [Cc h];have h1:decide (-1≤b)=true:=by simp;omega
   rw [h1,Fa];congr 1;apply propext;omega
theorem jmY (g:Weights) (n:Nat) (hw:g.words.length≤128):∀ (l:List PP) (before:Int),(∀ p∈l,0≤p.1)→zB n g.words.length before l=((match l with
  | []=>true
  | p :: _=>decide (before < p.1)) && (placesRise (l.map jaT) && (l.map jaT).all (okC g n)))
 | [],_,_=>rfl
 | [p],before,h=>by
  have hp:=h p (Cf ..);simp only [zB,C6,List.map_nil,placesRise,Jf,List.all_nil,jns g n p hp hw,Bool.and_true,Fa]
 | p :: q :: l,before,h=>by
  have hp:=h p (Cf ..);have hq:=h q (Cg _ (Cf ..));have ih:=jmY g n hw (q :: l) p.1 fun x hx=>h x (Cg _ hx);rw [zB,ih];simp only [C6,placesRise,Jf];have e:decide ((jaT p).1 < (jaT q).1)=decide (p.1 < q.1):=by
   congr 1;apply propext;show p.1.toNat < q.1.toNat↔p.1 < q.1;omega
  rw [e,jns g n p hp hw];cases decide (before < p.1)<;>cases decide (p.1 < (n:Int))<;>cases decide (-1≤p.2)<;>cases decide (p.2 < (g.words.length:Int))<;>cases decide (p.1 < q.1)<;>simp
theorem jlU (g:Weights) (n:Nat) (hw:g.words.length≤128) (cuts:Text) {l:List Int} (he:jV l=true):settledOk g n ⟨cuts,(jG l).map jaT⟩=(cuts.all (fun x=>decide (x≤2)) && zB n g.words.length (-1) (jG l)):=by
 have h0:=zw he;rw [jmY g n hw _ _ h0];have:(match jG l with
   | []=>true
   | p :: _=>decide (-1 < p.1))=true:=by
  cases e:jG l with
  | nil=>rfl
  | cons p r =>
   have:=h0 p (by rw [e];exact Cf ..);simp;omega
 rw [this,Fa]
 rfl
noncomputable def zK (c:List PP) (k:Int):Option Int:=(c.find? fun p=>p.1 == k).map fun p=>p.2
noncomputable def vd (n:Nat) (cuts:Text):List Nat:=0 :: (cuts++List.replicate (n - cuts.length) 0)
theorem jnY {i:Nat} (h1:1≤i) (h2:i≤n) (hl:cuts.length < n):(vd n cuts)[i]?=some (cuts.getD (i - 1) 0):=by
 obtain ⟨k,rfl⟩:∃ k,i=k+1:=⟨i - 1,by omega⟩;unfold vd;rw [List.getElem?_cons_succ,Nat.add_sub_cancel,Cq];by_cases hk:k < cuts.length
 ·rw [List.getElem?_append_left hk,Cz hk]
  rfl
 ·rw [Gz (by omega),List.getElem?_replicate,Ce (by omega),Jv (by omega)]
  rfl
noncomputable def jas (n:Nat) (cuts:Text) (c:List PP) (i:Nat) (p:PP):Bool :=
 (match zK c i with
  | some b=>decide (b=p.2)
  | none=>true) && (((vd n cuts).getD (i+p.1.toNat) 0 != 2) && (List.range (p.1.toNat - 1)).all fun j=>(vd n cuts).getD (i+1+j) 0 != 1 && (zK c ((i+1+j:Nat):Int)).isNone)
theorem je6 {n wc:Int}:∀ {l:List PP} {b:Int},zB n wc b l=true→l.Pairwise (fun p q=>p.1 < q.1)∧∀ p∈l,b < p.1∧p.1 < n∧-1≤p.2∧p.2 < wc
 | [],_,_=>⟨.nil,fun _ h=>by cases h⟩
 | p :: l,b,h=>by
  simp only [zB,Cn,Dd] at h;obtain ⟨h1,h2,h3,h4,h5⟩:=h;obtain ⟨i1,i2⟩:=je6 h5;refine ⟨Dr.mpr ⟨fun q hq=>(i2 q hq).1,i1⟩,fun q hq=>?_⟩;rcases Cp.mp hq with rfl|hq
  ·exact ⟨h1,h2,h3,h4⟩
  ·obtain ⟨a,b,c,d⟩:=i2 q hq;exact ⟨by omega,b,c,d⟩
theorem jq7 {c:List PP} {k b:Int} (h:zK c k=some b):(k,b)∈c:=by
 unfold zK at h;cases hf:c.find? fun p=>p.1 == k with
 | none=>rw [hf] at h;cases h
 | some p =>
  rw [hf] at h;have h1:=List.find?_some hf;have h2:=G4 hf;have e1:p.1=k:=by simpa using h1
  have e2:p.2=b:=Cs h;rw [←e1,←e2];exact h2
theorem jjX {c:List PP} {k:Int}:zK c k=none↔∀ p∈c,p.1≠k:=by
 unfold zK;rw [Option.map_eq_none_iff,Jo];constructor
 ·intro h p hp e;exact h p hp (by simp [e])
 ·intro h p hp e;exact h p hp (by simpa using e)
theorem jgV:∀ {c:List PP} {p:PP},c.Pairwise (fun p q=>p.1 < q.1)→p∈c→zK c p.1=some p.2
 | [],_,_,h=>by cases h
 | q :: c,p,hr,h=>by
  rw [Dr] at hr;unfold zK;rw [Gq];rcases Cp.mp h with rfl|h
  ·simp
  ·have:=hr.1 p h;have e:(q.1 == p.1)=false:=by simp;omega
   rw [e];exact jgV hr.2 h
theorem jmA {c:List PP} {i:Nat} {q:Piece} (hl:cuts.length < n) (hc:zB n g.words.length (-1) c=true) (h1:1≤q.sounds) (h2:i+q.sounds≤n) :
  jas n cuts c i (pc q)=keepsAt ⟨cuts,c.map jaT⟩ n i q:=by
 obtain ⟨hr,hb⟩:=je6 hc;have e0:(pc q).1.toNat=q.sounds:=by rw [jaK];exact Dt _
 have e1:(pc q).2=jcd q.word:=by rw [jaK]
 rw [C8];unfold jas keepsAt;rw [e0,e1];simp only [Cn,Dk,Gy,Gp,D8,Lq,Dd,Settled.cut,Option.isNone_iff_eq_none];have cutAt:∀ k,1≤k→k≤n→(vd n cuts).getD k 0=cuts.getD (k - 1) 0:=fun k a b=>by rw [Cq,jnY a b hl,Option.getD_some]
 constructor
 ·rintro ⟨hv,hcut,hin⟩;refine ⟨fun j hj=>?_,?_,fun x hx=>?_⟩
  ·cases j with
   | zero=>exact .inl rfl
   | succ j =>
    right;have:=(hin j (by omega)).1;rw [cutAt _ (by omega) (by omega),Nat.add_right_comm] at this;exact this
  ·right;rw [cutAt _ (by omega) (by omega)] at hcut;exact hcut
  ·rw [Dh] at hx;obtain ⟨p,hp,rfl⟩:=hx;have bp:=hb p hp;by_cases ha:p.1 < (i:Int)
   ·left;show p.1.toNat < i;omega
   ·right;by_cases hd:((i+q.sounds:Nat):Int)≤p.1
    ·left;show i+q.sounds≤p.1.toNat;omega
    ·right;by_cases hi:p.1=(i:Int)
     ·have v:=jgV hr hp;rw [hi] at v;rw [v] at hv;have hv':p.2=jcd q.word:=Co hv;refine ⟨by show p.1.toNat=i;omega,?_⟩;apply jqn;show jcd q.word=jcd (jQ p.2);rw [jdr bp.2.2.1,hv']
     ·exfalso
      obtain ⟨k,hk⟩:=Int.eq_ofNat_of_zero_le (a:=p.1 - (i+1)) (by omega);have:=(hin k (by omega)).2;rw [jjX] at this;exact this p hp (by omega)
 ·rintro ⟨hin,hcut,hch⟩;refine ⟨?_,?_,fun j hj=>⟨?_,?_⟩⟩
  ·cases hv:zK c (i:Int) with
   | none=>rfl
   | some b =>
    have hm:=jq7 hv;have bp:=hb _ hm;rcases hch (jaT ((i:Int),b)) (Dh.mpr ⟨_,hm,rfl⟩) with h|h|h
    ·have:((i:Int)).toNat < i:=h;omega
    ·have:i+q.sounds≤((i:Int)).toNat:=h;omega
    ·have:q.word=jQ b:=h.2;rw [this,jdr bp.2.2.1];simp
  ·rw [cutAt _ (by omega) (by omega)];rcases hcut with h|h
   ·have:cuts.length≤i+q.sounds - 1:=by omega
    rw [Cq,Jv this];decide
   ·exact h
  ·rcases hin (j+1) (by omega) with h|h
   ·omega
   ·rw [cutAt _ (by omega) (by omega)];rw [Nat.add_right_comm];exact h
  ·rw [jjX];intro p hp e;rcases hch (jaT p) (Dh.mpr ⟨_,hp,rfl⟩) with h|h|h
   ·have:p.1.toNat < i:=h;omega
   ·have:i+q.sounds≤p.1.toNat:=h;omega
   ·have:p.1.toNat=i:=h.1;omega
noncomputable def jbY (n:Nat) (cuts:Text) (c:List PP):Nat→List (List PP)→List (List PP)
 | _,[]=>[]
 | i,ps :: T=>ps.filter (jas n cuts c i) :: jbY n cuts c (i+1) T
theorem jnj {c:List PP} (hl:cuts.length < n) (hc:zB n g.words.length (-1) c=true):∀ (r:Text) (i:Nat),i+r.length=n→jbY n cuts c i (zo g (fun _ _=>true) i r)=zo g (keepsAt ⟨cuts,c.map jaT⟩ n) i r
 | [],_,_=>rfl
 | x :: r,i,h=>by
  rw [zo,jbY,zo,jnj hl hc r (i+1) (by rw [Cd] at h;omega)];congr 1;rw [Gc,List.filter_eq_self.mpr (fun _ _=>rfl)];congr 1;refine List.filter_congr fun q hq=>?_;have m:=zk hq;exact jmA hl hc m.1 (by rw [Cd] at h m;omega)
noncomputable def zc (T:List (List PP)):Nat→List PP→Bool
 | k,[]=>k == T.length
 | k,p :: l=>(k != T.length && (T.getD k []).contains p) && zc T (k+p.1.toNat) l
noncomputable def jR (l:List PP):Way:=(l.map jaT).map fun x=>⟨x.1,x.2⟩
theorem jiG (p:PP) (l:List PP):jR (p :: l)=⟨p.1.toNat,jQ p.2⟩ :: jR l:=rfl
theorem jfp (g:Weights):piecesAt g []=[]:=rfl
theorem jnq {r:Text} {p:PP} (hw:g.words.length≤128) (h0:0≤p.1):p∈(piecesAt g r).map pc↔(⟨p.1.toNat,jQ p.2⟩:Piece)∈piecesAt g r:=by
 constructor
 ·intro h;obtain ⟨q,hq,rfl⟩:=Dh.mp h;have:(⟨(pc q).1.toNat,jQ (pc q).2⟩:Piece)=q:=by
   apply jpC;rw [jaK,jaK];simp only [Dt];rw [jdr (jm9 _)]
  rw [this];exact hq
 ·intro h;have hb:-1≤p.2:=by
   have m:=zk h;rcases m.2.2.2 with ⟨e,_⟩|⟨i,w,e,hi,_⟩
   ·simp only [jQ] at e;by_cases q:p.2=-1
    ·omega
    ·rw [Cc q] at e;cases e
   ·simp only [jQ] at e;by_cases q:p.2=-1
    ·omega
    ·rw [Cc q] at e;by_cases q2:p.2 < 0
     ·rw [Ce q2] at e;have e':=Cs e;have:=(Cj.mp hi).1;have z:SyD.NOWORD=2 ^ 70:=rfl;omega
     ·omega
  refine Dh.mpr ⟨_,h,?_⟩;rw [jaK];simp only;rw [jdr hb];obtain ⟨a,b⟩:=p;simp only at h0 ⊢;rw [Lk h0]
theorem jjx (hw:g.words.length≤128) (r:Text):∀ (l:List PP) (k:Nat),(∀ p∈l,0≤p.1)→k≤r.length→zc (tab g r) k l=isWay g (r.drop k) (jR l)
 | [],k,_,hk=>by
  show (k == (tab g r).length)=(r.drop k).isEmpty;rw [vM,C8,D8,List.isEmpty_iff,F6];omega
 | p :: l,k,h,hk=>by
  have h0:=h p (Cf ..);rw [jiG];show _=((piecesAt g (r.drop k)).contains (⟨p.1.toNat,jQ p.2⟩:Piece) && isWay g ((r.drop k).drop p.1.toNat) (jR l));by_cases hkn:k=r.length
  ·have:r.drop k=[]:=by rw [F6];omega
   rw [this,jfp];unfold zc;rw [vM,hkn];simp
  ·have hk':k < r.length:=by omega
   have eT:(tab g r).getD k []=(piecesAt g (r.drop k)).map pc:=by rw [Cq,jnJ g r hk',Option.getD_some]
   unfold zc;rw [vM,eT];have e1:(k != r.length)=true:=by simp [hkn]
   rw [e1,Fa];by_cases hm:p∈(piecesAt g (r.drop k)).map pc
   ·have hm':=(jnq hw h0).mp hm;rw [Jy.mpr hm,Jy.mpr hm',Fa,Fa,List.drop_drop];have m:=zk hm';simp only [Db] at m;exact jjx hw r l _ (fun x hx=>h x (Cg _ hx)) (by omega)
   ·have hm':¬(⟨p.1.toNat,jQ p.2⟩:Piece)∈piecesAt g (r.drop k):=fun q=>hm ((jnq hw h0).mpr q);have a1:((piecesAt g (r.drop k)).map pc).contains p=false:=by rw [←Fq,Jy];exact hm
    have a2:(piecesAt g (r.drop k)).contains (⟨p.1.toNat,jQ p.2⟩:Piece)=false:=by rw [←Fq,Jy];exact hm'
    rw [a1,a2,Dv,Dv]
noncomputable def zi (x y:Nat) (j:Join):Bool:=j.right == x && j.left == y
theorem find_perm {l:List Join} (ha:zF js) (p:l.Perm js) (x y:Nat):l.find? (zi x y)=js.find? (zi x y):=by
 cases h:js.find? (zi x y) with
 | none =>
  rw [Jo] at h ⊢;exact fun j hj=>h j (p.mem_iff.mp hj)
 | some j =>
  have hj:=G4 h;have hk:=List.find?_some h;cases h':l.find? (zi x y) with
  | none =>
   rw [Jo] at h';exact absurd hk (h' j (p.mem_iff.mpr hj))
  | some j' =>
   have hj':=p.mem_iff.mp (G4 h');have hk':=List.find?_some h';simp only [zi,Cn,D8] at hk hk';rw [ha.inj hj' hj (by omega) (by omega)]
theorem jqx (ha:zF js) (e:g.joins=j5 js) (x y:Nat):((js.find? (zi x y)).map fun j=>j.cost).getD 0=g.join x y:=by
 unfold Weights.join;rw [e];have:=find_perm ha (zg js) x y;rw [←this]
 rfl
noncomputable def dig (n:Nat):List Nat:=(Nat.toDigits 10 n).map Char.toNat
noncomputable def zU:List (List Nat)→List Nat
 | []=>[]
 | [p]=>p
 | p :: q :: r=>p++32 :: zU (q :: r)
noncomputable def jbZ (ns:List Nat):List Nat:=zU (ns.map dig)++[10]
noncomputable def jaq (j:Join):List Nat:=jbZ [j.right,j.left,j.cost]
noncomputable def zp (alone:Nat) (js:List Join):List Nat:=jbZ [alone]++js.flatMap jaq
theorem jmv (h:c∈dig n):c < 256:=by
 unfold dig at h;obtain ⟨d,hd,rfl⟩:=Dh.mp h;have:=Nat.isDigit_of_mem_toDigits (by decide) (by decide) hd;simp only [Char.isDigit,Cn,Dd] at this;have h2:=this.2;have:d.toNat≤57:=h2;omega
theorem jbs (n:Nat):decimal n=by8 (dig n):=by
 unfold decimal dig by8;rw [D4]
 rfl
theorem jq5 (h:jO l):SyRows.bytesTold (by8 l)=Sy.ints l:=by
 unfold SyRows.bytesTold by8 Sy.ints;rw [D4];refine Fh fun x hx=>?_;show ((UInt8.ofNat x).toNat:Int)=x;rw [jeD (h x hx)]
theorem jmw (j:Join):joinLine j=by8 (jaq j):=by
 unfold joinLine line jaq jbZ;rw [jbs,jbs,jbs];show _=by8 ((dig j.right++32 :: (dig j.left++32 :: dig j.cost))++[10]);rw [ze,ze,zA,ze,zA]
 rfl
theorem joH (g:Weights):joinsWritten g=by8 (zp g.alone g.joins):=by
 unfold joinsWritten zp line;rw [jbs,ze];congr 1
 ·show _=by8 (dig g.alone++[10]);rw [ze]
  rfl
 ·induction g.joins with
  | nil=>rfl
  | cons j l ih=>rw [Dl,Dl,ze,ih,jmw]
theorem jfL {a:List Nat} (h1:jO a) (h2:jO b):jO (a++b):=fun x hx=>(Ds.mp hx).elim (h1 x) (h2 x)
theorem jgT:∀ {l:List (List Nat)},(∀ p∈l,jO p)→jO (zU l)
 | [],_=>fun _ h=>by cases h
 | [p],h=>h p (Cf ..)
 | p :: q :: r,h=>by
  refine jfL (h p (Cf ..)) fun x hx=>?_;rcases Cp.mp hx with rfl|hx
  ·decide
  ·exact jgT (fun z hz=>h z (Cg _ hz)) x hx
theorem jit (ns:List Nat):jO (jbZ ns):=by
 refine jfL (jgT fun p hp=>?_) (fun x hx=>by rw [Cm.mp hx];decide);obtain ⟨n,_,rfl⟩:=Dh.mp hp;exact fun x hx=>jmv hx
theorem jkm (a:Nat) (js:List Join):jO (zp a js):=by
 refine jfL (jit _) fun x hx=>?_;obtain ⟨j,_,h⟩:=Gx.mp hx;exact jit _ x h
theorem jbp:∀ w:Way,jR (w.map pc)=w
 | []=>rfl
 | q :: w=>by
  rw [C6,jiG,jbp w];congr 1;apply jpC;rw [jaK,jaK];simp only [Dt];rw [jdr (jm9 _)]
theorem jmy {r:Text} {s:Settled} {m:List (Int×List PP)} (hm:m.Pairwise fun a b=>a.1≤b.1)
  (hs:∀ c:Int,m.filter (fun y=>y.1 == c)=((((vN g r).filter (keeps s r)).map (List.map pc)).map fun w=>((wayCost g (jR w):Int),w)).filter fun y=>y.1 == c) :
  m.map (fun y=>y.2)=(kept g r s).map (List.map pc):=by
 have mem:∀ y∈m,∃ w:Way,y=((wayCost g w:Int),w.map pc):=by
  intro y hy;have:y∈m.filter fun z=>z.1 == y.1:=Dx.mpr ⟨hy,by simp⟩;rw [hs] at this;obtain ⟨v,hv,rfl⟩:=Dh.mp (Dx.mp this).1;obtain ⟨w,_,rfl⟩:=Dh.mp hv;exact ⟨w,by rw [jbp]⟩
 have back:m=(m.map fun y=>(y.1.toNat,jR y.2)).map fun z=>((z.1:Int),z.2.map pc):=by
  rw [D4];have:∀ y∈m,((fun z:Nat×Way=>((z.1:Int),z.2.map pc)) ∘ fun y:Int×List PP=>(y.1.toNat,jR y.2)) y=id y:=by
   intro y hy;obtain ⟨w,rfl⟩:=mem y hy;show (((((wayCost g w:Nat):Int)).toNat:Int),(jR (w.map pc)).map pc)=_;rw [jbp,Dt]
   rfl
  rw [Fh this,List.map_id]
 have e:=jnR (g:=g) (l:=(vN g r).filter (keeps s r)) (m:=m.map fun y=>(y.1.toNat,jR y.2))
  (by
   rw [F9];refine hm.imp fun {a b} h=>?_;show a.1.toNat≤b.1.toNat;omega)
  (fun c=>by
   have h:=hs (c:Int);rw [Gc];have e1:∀ y∈m,((fun y:Nat×Way=>y.1 == c) ∘ fun y:Int×List PP=>(y.1.toNat,jR y.2)) y=(y.1 == (c:Int)):=by
    intro y hy;obtain ⟨w,rfl⟩:=mem y hy;show ((((wayCost g w:Nat):Int)).toNat == c)=(((wayCost g w:Nat):Int) == (c:Int));rw [Dt,C8,D8,D8];omega
   rw [List.filter_congr e1,h,Gc,Gc,Gc,D4,D4];have e2:∀ w:Way,(((fun y:Int×List PP=>y.1 == (c:Int)) ∘ fun w=>((wayCost g (jR w):Int),w)) ∘ List.map pc) w=((fun y:Nat×Way=>y.1 == c) ∘ fun w=>(wayCost g w,w)) w:=by
    intro w;show (((wayCost g (jR (w.map pc)):Nat):Int) == (c:Int))=(wayCost g w == c);rw [jbp,C8,D8,D8];omega
   rw [List.filter_congr fun w _=>e2 w];refine Fh fun w _=>?_;show ((((wayCost g (jR (w.map pc)):Nat):Int)).toNat,jR (w.map pc))=(wayCost g w,w);rw [jbp,Dt])
 unfold kept;show _=(byCost g 0 ((vN g r).filter (keeps s r))).map (List.map pc);rw [e,D4]
 conv=>lhs;rw [back]
 rw [D4]
 rfl
noncomputable def toN (l:List Int):List Nat:=l.map Int.toNat
theorem jqu {l:List Int} (h:∀ z∈l,0≤z):Sy.ints (toN l)=l:=by
 unfold Sy.ints toN;rw [D4];have:∀ z∈l,((fun n:Nat=>(n:Int)) ∘ Int.toNat) z=id z:=fun z hz=>Lk (h z hz);rw [Fh this,List.map_id]
theorem jjR {l:List Int} (h:∀ z∈l,0≤z∧z≤255):jO (toN l):=by
 intro x hx;obtain ⟨z,hz,rfl⟩:=Dh.mp hx;have:=h z hz;omega
theorem jmd {l:List Int} (h:∀ z∈l,0≤z∧z≤255):SyRows.text? l=some (by8 (toN l)):=by
 unfold SyRows.text?;rw [Ce]
 ·unfold by8 toN;rw [D4]
  rfl
 ·unfold NeutralIO.bytes;rw [Dk];intro z hz;simp [h z hz]
theorem jbi {l:List Int} (h:∀ z∈l,0≤z):SyRows.nats? l=some (toN l):=by
 unfold SyRows.nats?;rw [Ce]
 ·rfl
 ·rw [Dk];intro z hz;simp [h z hz]
theorem jox (g:Weights):WaysNeutral.step g [[1]]=(bare,[0]):=rfl
theorem joz (g:Weights) {t:List Int} (h:∀ z∈t,0≤z∧z≤255):WaysNeutral.step g [[2],t]=if 65536 < t.length then (g,[-1]) else match v0 0 (jS (toN t)) [] with
  | .error (i,k)=>(g,[-2,(i:Int),(k:Int)])
  | .ok ws=>({ g with words:=j9 ws },[(ws.length:Int)]):=by
 unfold WaysNeutral.step;have e:WaysNeutral.callOf [[2],t]=some (.words (by8 (toN t))):=by
  show (SyRows.text? t).bind (fun x=>some (SyD.Call.words x))=_;rw [jmd h]
  rfl
 rw [e];have hl:(by8 (toN t)).length=t.length:=by rw [vV];exact Cb ..
 simp only [SyD.step];rw [hl];by_cases q:65536 < t.length
 ·rw [Ce (show SyD.BYTES < t.length from q),Ce q]
  rfl
 ·rw [Cc (show ¬SyD.BYTES < t.length from q),Cc q,jlH (jjR h)];cases v0 0 (jS (toN t)) [] with
  | error p=>obtain ⟨i,k⟩:=p;rfl
  | ok ws =>
   show (_,[((j9 ws).length:Int)])=_;rw [(jar ws).length_eq]
   rfl
theorem joy (g:Weights) {t:List Int} (h:∀ z∈t,0≤z∧z≤255):WaysNeutral.step g [[3],t]=if 65536 < t.length then (g,[-1]) else match va (jS (toN t)) with
  | .error (i,k)=>(g,[-2,(i:Int),(k:Int)])
  | .ok (a,js)=>({ g with alone:=a,joins:=j5 (vF js) },[((vF js).length:Int)]):=by
 unfold WaysNeutral.step;have e:WaysNeutral.callOf [[3],t]=some (.joins (by8 (toN t))):=by
  show (SyRows.text? t).bind (fun x=>some (SyD.Call.joins x))=_;rw [jmd h]
  rfl
 rw [e];have hl:(by8 (toN t)).length=t.length:=by rw [vV];exact Cb ..
 simp only [SyD.step];rw [hl];by_cases q:65536 < t.length
 ·rw [Ce (show SyD.BYTES < t.length from q),Ce q]
  rfl
 ·rw [Cc (show ¬SyD.BYTES < t.length from q),Cc q,jlG (jjR h)];cases va (jS (toN t)) with
  | error p=>obtain ⟨i,k⟩:=p;rfl
  | ok p =>
   obtain ⟨a,js⟩:=p;show (_,[((j5 (vF js)).length:Int)])=_;rw [(zg _).length_eq]
   rfl
theorem joA (g:Weights):WaysNeutral.step g [[4]]=(g,((zp g.alone g.joins).length:Int) :: Sy.ints (zp g.alone g.joins)):=by
 show (g,(((joinsWritten g).length:Int)) :: ([]++SyRows.bytesTold (joinsWritten g)))=_;rw [joH,jq5 (jkm _ _),vV]
 rfl
noncomputable def jax (r:Text):Int:=if r=[]∨24 < r.length then -1 else if isText r=true then 0 else -3
noncomputable def zW (g:Weights) (r cuts:Text) (c:List Int):Int:=if jax r≠0 then jax r else if (cuts.all (fun x=>decide (x≤2)) && decide (cuts.length < r.length))=true∧(jV c && zB r.length g.words.length (-1) (jG c))=true then (if 1024 < manyWays g r then -6 else 0) else -3
noncomputable def zX (g:Weights) (r:Text) (p:List Int):Int:=if jax r≠0 then jax r else if jV p=true then (if zc (tab g r) 0 (jG p)=true then 0 else -5) else -3
noncomputable def vS (cuts:Text) (c:List Int):Settled:=⟨cuts,(jG c).map jaT⟩
theorem jfi (hw:g.words.length≤128) (r cuts:Text) (c:List Int) (f:Settled→Ans):SyD.ofSettled g r cuts c f=if zW g r cuts c≠0 then says (zW g r cuts c) else f (vS cuts c):=by
 unfold SyD.ofSettled zW jax;by_cases h1:r=[]∨24 < r.length
 ·have h1':r=[]∨SyD.ROW < r.length:=h1;simp only [Ce h1',Ce h1]
  rfl
 ·have h1':¬(r=[]∨SyD.ROW < r.length):=h1;rw [Cc h1',jeq];simp only [Cc h1];by_cases ht:isText r=true
  ·simp only [Ce ht];by_cases he:jV c=true
   ·rw [Ce he];simp only [jlU g r.length hw cuts he,he,Fa];cases hA:cuts.all (fun x=>decide (x≤2)) with
    | false=>simp [ht,says,vS]
    | true =>
     cases hB:zB r.length g.words.length (-1) (jG c) with
     | false=>simp [ht,says,vS]
     | true =>
      by_cases hL:cuts.length < r.length
      ·have hL':¬r.length≤cuts.length:=by omega
       by_cases hM:1024 < manyWays g r
       ·have hM':WAYS < manyWays g r:=hM;simp [ht,hL,hL',hM,hM',says]
       ·have hM':¬WAYS < manyWays g r:=hM;simp [ht,hL,hL',hM,hM',vS]
      ·have hL':r.length≤cuts.length:=by omega
       simp [ht,hL,hL',says]
   ·rw [Cc he];simp [he,says]
  ·simp only [Cc ht];by_cases he:jV c=true
   ·rw [Ce he];simp [ht,says]
   ·rw [Cc he];simp [says]
theorem jlk (hw:g.words.length≤128) (r:Text) (p:List Int) (f:Way→Ans):SyD.ofWay g r p f=if zX g r p≠0 then says (zX g r p) else f (jR (jG p)):=by
 unfold SyD.ofWay zX jax;by_cases h1:r=[]∨24 < r.length
 ·have h1':r=[]∨SyD.ROW < r.length:=h1;simp only [Ce h1',Ce h1]
  rfl
 ·have h1':¬(r=[]∨SyD.ROW < r.length):=h1;rw [Cc h1',jeq];simp only [Cc h1];by_cases ht:isText r=true
  ·simp only [Ce ht,ht];by_cases he:jV p=true
   ·rw [Ce he];simp only [he];have e:=jjx hw r (jG p) 0 (zw he) (C4 _);rw [G1] at e;rw [e];show (if _ then _ else if isWay g r (jR (jG p))=true then f (jR (jG p)) else _)=_;by_cases hq:isWay g r (jR (jG p))=true
    ·simp [hq]
    ·simp [hq,says]
   ·rw [Cc he];simp [he,says]
  ·simp [ht,says]
theorem jaN {l:List Int} (h:l.all (fun z=>decide (0≤z))=true):∀ z∈l,0≤z:=fun z hz=>Co (Dk.mp h z hz)
theorem jpT (hw:g.words.length≤128) {r k c:List Int} (hr:∀ z∈r,0≤z) (hk:∀ z∈k,0≤z):WaysNeutral.step g [[5],r,k,c]=(g,if zW g (toN r) (toN k) c≠0 then [zW g (toN r) (toN k) c] else [((kept g (toN r) (vS (toN k) c)).length:Int)]):=by
 unfold WaysNeutral.step;have e:WaysNeutral.callOf [[5],r,k,c]=some (.many (toN r) (toN k) c):=by
  show (SyRows.nats? r).bind (fun x=>(SyRows.nats? k).bind fun y=>some (SyD.Call.many x y c))=_;rw [jbi hr,jbi hk]
  rfl
 rw [e];simp only [SyD.step,SyD.asks];rw [jfi hw];by_cases q:zW g (toN r) (toN k) c≠0
 ·rw [Ce q,Ce q]
  rfl
 ·rw [Cc q,Cc q]
  rfl
theorem jq4 (hw:g.words.length≤128) {i:Int} {r k c:List Int} (hi:0≤i) (hr:∀ z∈r,0≤z) (hk:∀ z∈k,0≤z):WaysNeutral.step g [[6,i],r,k,c]=(g,if zW g (toN r) (toN k) c≠0 then [zW g (toN r) (toN k) c] else match (kept g (toN r) (vS (toN k) c))[i.toNat]? with
  | some w=>(w.length:Int) :: (wayCost g w:Int) :: SyD.flat w
  | none=>[-5]):=by
 unfold WaysNeutral.step;have e:WaysNeutral.callOf [[6,i],r,k,c]=some (.nth i.toNat (toN r) (toN k) c):=by
  show (SyRows.nat? i).bind (fun n=>(SyRows.nats? r).bind (fun x=>(SyRows.nats? k).bind fun y=>some (SyD.Call.nth n x y c)))=_;rw [jbi hr,jbi hk];unfold SyRows.nat?;rw [Ce hi]
  rfl
 rw [e];simp only [SyD.step,SyD.asks];rw [jfi hw];by_cases q:zW g (toN r) (toN k) c≠0
 ·rw [Ce q,Ce q]
  rfl
 ·rw [Cc q,Cc q];cases (kept g (toN r) (vS (toN k) c))[i.toNat]? with
  | none=>rfl
  | some w=>rfl
theorem jpS (hw:g.words.length≤128) {r p:List Int} (hr:∀ z∈r,0≤z):WaysNeutral.step g [[7],r,p]=(g,if zX g (toN r) p≠0 then [zX g (toN r) p] else [(wayCost g (jR (jG p)):Int)]):=by
 unfold WaysNeutral.step;have e:WaysNeutral.callOf [[7],r,p]=some (.cost (toN r) p):=by
  show (SyRows.nats? r).bind (fun x=>some (SyD.Call.cost x p))=_;rw [jbi hr]
  rfl
 rw [e];simp only [SyD.step,SyD.asks];rw [jlk hw];by_cases q:zX g (toN r) p≠0
 ·rw [Ce q,Ce q]
  rfl
 ·rw [Cc q,Cc q]
  rfl
theorem jpU (hw:g.words.length≤128) {r p:List Int} (hr:∀ z∈r,0≤z):WaysNeutral.step g [[8],r,p]=(g,if zX g (toN r) p≠0 then [zX g (toN r) p] else ((wayText g (toN r) (jR (jG p))).length:Int) :: Sy.ints (wayText g (toN r) (jR (jG p)))):=by
 unfold WaysNeutral.step;have e:WaysNeutral.callOf [[8],r,p]=some (.text (toN r) p):=by
  show (SyRows.nats? r).bind (fun x=>some (SyD.Call.text x p))=_;rw [jbi hr]
  rfl
 rw [e];simp only [SyD.step,SyD.asks];rw [jlk hw];by_cases q:zX g (toN r) p≠0
 ·rw [Ce q,Ce q]
  rfl
 ·rw [Cc q,Cc q]
  rfl
end Rd
namespace Rw
open PySem PySem.Spec PyProof.Rows L2 Rd
open Sy (isChar isText Word Join Weights Piece Way Text before wayCost costFrom wayText placed kept keeps keepsAt Settled piecesAt manyWays bare)
open PySem.W (Frag WData Codec OpenSpec Well WellAll ReadsW ReadsAllW)
section
noncomputable abbrev St:=L2.St
variable {H H':Hp} {a q C cur p:Addr} {K:Frag} {l row:List Nat} {i n k:Nat} {as:List Addr} {rows:List (List Nat)} {N:List Str} {te:TE} {o:HO} {σ:St} {X:Cx} {T:List (List PP)}
noncomputable abbrev jie:Stmt:=top 9
noncomputable abbrev jid:Stmt:=top 10
noncomputable abbrev jif:Stmt:=top 11
noncomputable abbrev jgF:Stmt:=top 12
noncomputable abbrev jih:Stmt:=top 13
noncomputable abbrev jdm:Stmt:=top 14
noncomputable abbrev jcW:Stmt:=top 15
noncomputable abbrev jgH:Stmt:=top 18
noncomputable abbrev jdO:Stmt:=top 19
noncomputable abbrev jfx:Stmt:=top 20
noncomputable abbrev jcV:Stmt:=top 21
noncomputable abbrev jdR:Stmt:=top 22
noncomputable abbrev jcq:Stmt:=top 23
noncomputable abbrev jfy:Stmt:=top 24
noncomputable abbrev jcZ:Stmt:=top 25
noncomputable abbrev jcr:Stmt:=top 26
noncomputable abbrev jcY:Stmt:=top 27
noncomputable abbrev jdP:Stmt:=top 31
noncomputable abbrev ja6:Stmt:=top 32
noncomputable abbrev jaH:Stmt:=top 33
noncomputable abbrev jbG:Stmt:=top 34
noncomputable abbrev jdN:Stmt:=top 35
noncomputable abbrev jcT:Stmt:=top 36
noncomputable abbrev jcX:Stmt:=top 41
noncomputable abbrev jco:Stmt:=top 42
noncomputable abbrev jjN:Stmt:=top 43
noncomputable abbrev jdQ:Stmt:=top 44
noncomputable abbrev jdU:Stmt:=top 45
noncomputable abbrev jcU:Stmt:=top 46
noncomputable abbrev jdS:Stmt:=top 47
noncomputable abbrev jeO:Stmt:=top 49
noncomputable abbrev jes:Stmt:=top 50
noncomputable abbrev jdT:Stmt:=top 51
noncomputable abbrev jgI:Stmt:=top 55
noncomputable abbrev jcp:Stmt:=top 56
noncomputable abbrev jdl:Stmt:=top 57
noncomputable abbrev jet:Stmt:=top 58
noncomputable abbrev jcn:Stmt:=top 59
noncomputable abbrev jbN:Stmt:=top 60
noncomputable abbrev jfB:Stmt:=top 61
noncomputable abbrev jal:Stmt:=top 62
noncomputable abbrev jlM:Stmt:=top 63
noncomputable abbrev jfC:Stmt:=top 64
noncomputable abbrev jeN:Stmt:=top 65
noncomputable abbrev jeP:Stmt:=top 66
noncomputable abbrev jcm:Stmt:=top 76
noncomputable abbrev jic:Stmt:=top 77
noncomputable abbrev jeM:Stmt:=top 78
noncomputable abbrev ja1:Stmt:=top 79
noncomputable abbrev ja2:Stmt:=top 80
noncomputable abbrev ja7:Stmt:=top 81
noncomputable abbrev jlN:Stmt:=top 86
noncomputable abbrev jgG:Stmt:=top 87
noncomputable abbrev jfv:Stmt:=top 88
noncomputable abbrev jfu:Stmt:=top 91
noncomputable abbrev jfA:Stmt:=top 92
noncomputable abbrev jfz:Stmt:=top 93
noncomputable abbrev jeQ:Stmt:=top 94
noncomputable abbrev jfw:Stmt:=top 95
noncomputable abbrev jgK:Stmt:=top 96
noncomputable abbrev jig:Stmt:=top 97
noncomputable abbrev jgJ:Stmt:=top 98
noncomputable abbrev jgL:Stmt:=top 99
noncomputable abbrev jck:Stmt:=top 111
noncomputable abbrev jcS:Stmt:=top 112
noncomputable abbrev jcj:Stmt:=top 113
noncomputable abbrev jcl:Stmt:=top 114
noncomputable abbrev jci:Stmt:=top 115
noncomputable abbrev jft:Stmt:=top 116
structure Adr where
 c_Fault:Addr
 c_Joins:Addr
 c_Word:Addr
 c_Settled:Addr
 c_Book:Addr
 c_Tape:Addr
 t_FIRST_BYTE_MARKS:Addr
 t_LEAST_NUMBERS:Addr
noncomputable def Def (K:Frag) (mg:Str→Option Value) (x:Str) (st:Stmt) (ps:List Str):Prop:=∃ f fd,Fun K x x st f fd∧Binds K fd ps []∧mg x=some (.ref f)
noncomputable def Mth (K:Frag) (C:Addr) (x q:Str) (st:Stmt) (ps:List Str):Prop:=∃ f fd,Fun K x q st f fd∧Binds K fd ps []∧PySem.W.findIn K (.ref C) x=some (some (.ref f))∧PySem.W.isFn K (.ref f)=true
structure Kls (K:Frag) (mg:Str→Option Value) (x:Str) (C:Addr):Prop where
 cl:Cls K C
 g:mg x=some (.ref C)
 mks:PySem.W.makesIn K C=true
 kp:PySem.W.keepIn K (.ref C)=true
noncomputable def jkG (K:Frag) (a:Addr) (xs:List Int):Prop:=∃ (o:Obj) (its:Array Value) (n:Nat),K.lookup a=some o∧o.cls=.type "tuple"∧o.data=.seq its n∧its.size≤sizeLine∧jx (xs.map V.int) its.toList
theorem jkG.sq {xs:List Int} (h:jkG K a xs):SqT K H a (xs.map V.int):=.inr h
structure Txt (K:Frag) (mg:Str→Option Value) (t:Adr):Prop where
 xa0:Kls K mg "Joins" t.c_Joins
 xa1:vA K t.c_Joins "by_itself"
 xa2:vA K t.c_Joins "costs"
 xa3:Kls K mg "Word" t.c_Word
 xa4:vA K t.c_Word "reading"
 xa5:vA K t.c_Word "text"
 xa6:vA K t.c_Word "left"
 xa7:vA K t.c_Word "right"
 xa8:vA K t.c_Word "cost"
 xa9:Kls K mg "Settled" t.c_Settled
 xaa:vA K t.c_Settled "cuts"
 xab:vA K t.c_Settled "chosen"
 xac:Kls K mg "Book" t.c_Book
 xad:vA K t.c_Book "words"
 xae:vA K t.c_Book "joins"
 xaf:Kls K mg "Tape" t.c_Tape
 xag:vA K t.c_Tape "numbers"
 xah:vA K t.c_Tape "place"
 xai:mg "Fault"=some (.ref t.c_Fault)
 xaj:Mth K t.c_Fault "__init__" "Fault.__init__" jfr ["self","line","kind"]
 xak:Def K mg "lines_of" jie ["text"]
 xal:Def K mg "is_ended" jid ["line"]
 xam:Def K mg "parts_of" jif ["row"]
 xan:Def K mg "is_number" jgF ["part"]
 xao:Def K mg "value_of" jih ["digits"]
 xap:Def K mg "values_of" jdm ["parts"]
 xaq:Def K mg "line_of" jcW ["numbers"]
 xar:Mth K t.c_Joins "__init__" "Joins.__init__" jfs ["self","by_itself","costs"]
 xas:Def K mg "new_joins" jgH []
 xat:Def K mg "cost_of_join" jdO ["joins","right","left"]
 xau:Def K mg "numbers_of" jfx ["line","count"]
 xav:Def K mg "kind_of_first" jcV ["numbers"]
 xaw:Def K mg "kind_of_join" jdR ["numbers","costs"]
 xax:Def K mg "read_by_itself" jcq ["lines"]
 xay:Def K mg "read_costs" jfy ["lines"]
 xaz:Def K mg "without_zeros" jcZ ["costs"]
 xb0:Def K mg "read_joins" jcr ["text"]
 xb1:Def K mg "text_of_joins" jcY ["joins"]
 xb2:Def K mg "is_character" jdP ["number"]
 xb3:Def K mg "may_stand_in_word" ja6 ["character"]
 xb4:Def K mg "length_by_first_byte" jaH ["first"]
 xb5:Def K mg "number_of_octets" jbG ["octets"]
 xb6:Def K mg "character_at" jdN ["octets","place","length"]
 xb7:Def K mg "characters_of" jcT ["octets"]
 xb8:Mth K t.c_Word "__init__" "Word.__init__" jgE ["self","reading","text","left","right","cost"]
 xb9:Def K mg "order_of_word" jcX ["word"]
 xba:Def K mg "is_row_of_word" jco ["part"]
 xbb:Def K mg "word_of" jjN ["line"]
 xbc:Def K mg "keeps_limits" jdQ ["word"]
 xbd:Def K mg "stands_among" jdU ["word","words"]
 xbe:Def K mg "kind_of_fault" jcU ["word","words"]
 xbf:Def K mg "read_lexicon" jdS ["text"]
 xbg:Def K mg "is_of_pairs" jeO ["row"]
 xbh:Def K mg "pairs_of" jes ["row"]
 xbi:Def K mg "row_of_pairs" jdT ["pairs"]
 xbj:Def K mg "stands_at" jgI ["word","reading","place"]
 xbk:Def K mg "order_of_piece" jcp ["piece"]
 xbl:Def K mg "pieces_at" jdl ["words","reading","place"]
 xbm:Def K mg "table_of" jet ["words","reading"]
 xbn:Def K mg "count_ways" jcn ["table"]
 xbo:Def K mg "ways_that_begin" jbN ["pieces","place","ways"]
 xbp:Def K mg "ways_of" jfB ["table"]
 xbq:Def K mg "ways_in_order" jal ["table","words","joins"]
 xbr:Def K mg "is_way" jlM ["pieces","table"]
 xbs:Def K mg "weights_of" jfC ["piece","words","joins"]
 xbt:Def K mg "cost_of_way" jeN ["way","words","joins"]
 xbu:Def K mg "text_of_way" jeP ["way","words","reading"]
 xbv:Def K mg "are_characters" jcm ["reading"]
 xbw:Def K mg "are_cuts" jic ["cuts","count"]
 xbx:Def K mg "are_choices" jeM ["choices","count","word_count"]
 xby:Def K mg "refusal_of_reading" ja1 ["reading"]
 xbz:Def K mg "refusal_of_settled" ja2 ["reading","cuts","choices","words"]
 xc0:Def K mg "refusal_of_pieces" ja7 ["reading","pieces","words"]
 xc1:Mth K t.c_Settled "__init__" "Settled.__init__" jdM ["self","cuts","chosen"]
 xc2:Def K mg "settle" jlN ["count","cuts","choices"]
 xc3:Def K mg "may_stand" jgG ["piece","place","settled"]
 xc4:Def K mg "kept_of" jfv ["table","settled"]
 xc5:Mth K t.c_Book "__init__" "Book.__init__" jgC ["self"]
 xc6:Def K mg "begin_anew" jfu ["book"]
 xc7:Def K mg "take_words" jfA ["book","text"]
 xc8:Def K mg "take_joins" jfz ["book","text"]
 xc9:Def K mg "write_joins" jeQ ["book"]
 xca:Def K mg "kept_table" jfw ["book","reading","cuts","choices"]
 xcb:Def K mg "tell_many" jgK ["book","reading","cuts","choices"]
 xcc:Def K mg "tell_nth" jig ["book","number","reading","cuts","choices"]
 xcd:Def K mg "tell_cost" jgJ ["book","reading","pieces"]
 xce:Def K mg "tell_text" jgL ["book","reading","pieces"]
 xcf:Mth K t.c_Tape "__init__" "Tape.__init__" jgD ["self","numbers"]
 xcg:Mth K t.c_Tape "has_more" "Tape.has_more" jcQ ["self"]
 xch:Mth K t.c_Tape "take_number" "Tape.take_number" jbF ["self"]
 xci:Mth K t.c_Tape "take_row" "Tape.take_row" jcR ["self"]
 xcj:Def K mg "answer_of_many" jck ["book","tape"]
 xck:Def K mg "answer_of_nth" jcS ["book","tape"]
 xcl:Def K mg "answer_of_cost" jcj ["book","tape"]
 xcm:Def K mg "answer_of_text" jcl ["book","tape"]
 xcn:Def K mg "answer_of_call" jci ["book","tape"]
 xco:Def K mg "answers" jft ["calls"]
 xcp:∃ z,mg "LINE_END"=some (.int (10) z)
 xcq:∃ z,mg "BLANK"=some (.int (32) z)
 xcr:∃ z,mg "DIGIT_ZERO"=some (.int (48) z)
 xcs:∃ z,mg "DIGIT_NINE"=some (.int (57) z)
 xct:∃ z,mg "MOST_SORT"=some (.int (255) z)
 xcu:∃ z,mg "MOST_COST"=some (.int (65535) z)
 xcv:mg "FIRST_BYTE_MARKS"=some (.ref t.t_FIRST_BYTE_MARKS)
 xcw:jkG K t.t_FIRST_BYTE_MARKS [0,0,192,224,240]
 xcx:mg "LEAST_NUMBERS"=some (.ref t.t_LEAST_NUMBERS)
 xcy:jkG K t.t_LEAST_NUMBERS [0,0,128,2048,65536]
 xcz:∃ z,mg "MOST_WORDS"=some (.int (128) z)
 xd0:∃ z,mg "MOST_CHARACTERS"=some (.int (32) z)
 xd1:∃ z,mg "BY_ITSELF"=some (.int (-1) z)
 xd2:∃ z,mg "NO_SORT"=some (.int (0) z)
 xd3:∃ z,mg "MOST_BYTES"=some (.int (65536) z)
 xd4:∃ z,mg "MOST_SOUNDS"=some (.int (24) z)
 xd5:∃ z,mg "MOST_WAYS"=some (.int (1024) z)
 xd6:∃ z,mg "TOO_LONG"=some (.int (-1) z)
 xd7:∃ z,mg "WRONG_TEXT"=some (.int (-2) z)
 xd8:∃ z,mg "WRONG_FORM"=some (.int (-3) z)
 xd9:∃ z,mg "NO_SUCH_WAY"=some (.int (-5) z)
 xda:∃ z,mg "TOO_MANY_WAYS"=some (.int (-6) z)
 xdb:∃ z,mg "CUT"=some (.int (1) z)
 xdc:∃ z,mg "NO_CUT"=some (.int (2) z)
 xdd:∃ z,mg "BEGIN"=some (.int (1) z)
 xde:∃ z,mg "WORDS"=some (.int (2) z)
 xdf:∃ z,mg "JOINS"=some (.int (3) z)
 xdg:∃ z,mg "WRITE"=some (.int (4) z)
 xdh:∃ z,mg "MANY"=some (.int (5) z)
 xdi:∃ z,mg "NTH"=some (.int (6) z)
 xdj:∃ z,mg "COST"=some (.int (7) z)
 xdk:∃ z,mg "TEXT"=some (.int (8) z)
 xdl:mg "len"=none
 xdm:mg "sum"=none
 xdn:mg "str"=none
 xdo:mg "ord"=none
 xdp:mg "range"=none
 xdq:mg "enumerate"=none
 xdr:mg "sorted"=none
theorem jI {P:List Str} {sc:Scope} (a:sc.kind=.function:=by rfl) (b:sc.isCoroutine=false:=by rfl) (c:sc.isGenerator=false:=by rfl) (d:N.Nodup:=by decide +kernel) (e:N.take P.length=P:=by rfl) (f:∀ x∈P,sc.names.lookup x=some .local∨sc.names.lookup x=some .cell:=by decide +kernel) (g:∀ y∈sc.names,y.2≠.free:=by decide +kernel):jr N P sc:=⟨a,b,c,d,e,f,g⟩
theorem jkh:jr ["self","line","kind"] ["self","line","kind"] (jm jfr):=jI
theorem jgN:jr ["text","lines","line","octet"] ["text"] (jm jie):=jI
theorem jmH:jr ["line"] ["line"] (jm jid):=jI
theorem jgP:jr ["row","parts","part","sign"] ["row"] (jm jif):=jI
theorem jfD:jr ["part","sign"] ["part"] (jm jgF):=jI
theorem jgS:jr ["digits","value","digit"] ["digits"] (jm jih):=jI
theorem jfJ:jr ["parts","part"] ["parts"] (jm jdm):=jI
theorem jiq:jr ["numbers","signs","number","sign"] ["numbers"] (jm jcW):=jI
theorem jki:jr ["self","by_itself","costs"] ["self","by_itself","costs"] (jm jfs):=jI
theorem jlR:jr [] [] (jm jgH):=jI
theorem jil:jr ["joins","right","left"] ["joins","right","left"] (jm jdO):=jI
theorem jeS:jr ["line","count","parts"] ["line","count"] (jm jfx):=jI
theorem jho:jr ["numbers"] ["numbers"] (jm jcV):=jI
theorem jip:jr ["numbers","costs"] ["numbers","costs"] (jm jdR):=jI
theorem jbU:jr ["lines","numbers","kind"] ["lines"] (jm jcq):=jI
theorem jeT:jr ["lines","costs","place","line","numbers","kind"] ["lines"] (jm jfy):=jI
theorem jcw:jr ["costs","kept","sorts","cost"] ["costs"] (jm jcZ):=jI
theorem jeU:jr ["text","lines","by_itself"] ["text"] (jm jcr):=jI
theorem jcv:jr ["joins","text","sorts"] ["joins"] (jm jcY):=jI
theorem jim:jr ["number"] ["number"] (jm jdP):=jI
theorem jeu:jr ["character"] ["character"] (jm ja6):=jI
theorem jcC:jr ["first"] ["first"] (jm jaH):=jI
theorem ja9:jr ["octets","number","octet"] ["octets"] (jm jbG):=jI
theorem jc0:jr ["octets","place","length","number"] ["octets","place","length"] (jm jdN):=jI
theorem jcu:jr ["octets","row","place","length","character"] ["octets"] (jm jcT):=jI
theorem jlQ:jr ["self","reading","text","left","right","cost"] ["self","reading","text","left","right","cost"] (jm jgE):=jI
theorem jhp:jr ["word"] ["word"] (jm jcX):=jI
theorem jbT:jr ["part","character"] ["part"] (jm jco):=jI
theorem jis:jr ["line","characters","parts","values"] ["line"] (jm jjN):=jI
theorem jin:jr ["word"] ["word"] (jm jdQ):=jI
theorem jc3:jr ["word","words","other"] ["word","words"] (jm jdU):=jI
theorem jhn:jr ["word","words"] ["word","words"] (jm jcU):=jI
theorem jc1:jr ["text","words","place","line","word","kind"] ["text"] (jm jdS):=jI
theorem jdX:jr ["row","place"] ["row"] (jm jeO):=jI
theorem jgO:jr ["row","place"] ["row"] (jm jes):=jI
theorem jc2:jr ["pairs","row","pair"] ["pairs"] (jm jdT):=jI
theorem jlS:jr ["word","reading","place"] ["word","reading","place"] (jm jgI):=jI
theorem jgi:jr ["piece"] ["piece"] (jm jcp):=jI
theorem jfF:jr ["words","reading","place","pieces","number","word"] ["words","reading","place"] (jm jdl):=jI
theorem jgQ:jr ["words","reading","place"] ["words","reading"] (jm jet):=jI
theorem jeR:jr ["table","counts","place","piece"] ["table"] (jm jcn):=jI
theorem jbH:jr ["pieces","place","ways","found","piece","rest"] ["pieces","place","ways"] (jm jbN):=jI
theorem jir:jr ["table","ways","pieces","place"] ["table"] (jm jfB):=jI
theorem jhq:jr ["table","words","joins"] ["table","words","joins"] (jm jal):=jI
theorem jjP:jr ["pieces","table","place","piece"] ["pieces","table"] (jm jlM):=jI
theorem jeX:jr ["piece","words","joins","word"] ["piece","words","joins"] (jm jfC):=jI
theorem jdW:jr ["way","words","joins","cost","right","piece","weights"] ["way","words","joins"] (jm jeN):=jI
theorem jdZ:jr ["way","words","reading","text","place","piece"] ["way","words","reading"] (jm jeP):=jI
theorem jbS:jr ["reading","sound"] ["reading"] (jm jcm):=jI
theorem jgM:jr ["cuts","count","cut"] ["cuts","count"] (jm jic):=jI
theorem jdV:jr ["choices","count","word_count","before","choice"] ["choices","count","word_count"] (jm jeM):=jI
theorem jdY:jr ["reading"] ["reading"] (jm ja1):=jI
theorem jaQ:jr ["reading","cuts","choices","words","refusal"] ["reading","cuts","choices","words"] (jm ja2):=jI
theorem ja3:jr ["reading","pieces","words","refusal"] ["reading","pieces","words"] (jm ja7):=jI
theorem jij:jr ["self","cuts","chosen"] ["self","cuts","chosen"] (jm jdM):=jI
theorem jjQ:jr ["count","cuts","choices","chosen","choice"] ["count","cuts","choices"] (jm jlN):=jI
theorem jfE:jr ["piece","place","settled","end","within"] ["piece","place","settled"] (jm jgG):=jI
theorem jio:jr ["table","settled","kept","place","pieces","piece"] ["table","settled"] (jm jfv):=jI
theorem jlO:jr ["self"] ["self"] (jm jgC):=jI
theorem jkj:jr ["book"] ["book"] (jm jfu):=jI
theorem jeW:jr ["book","text","words","fault"] ["book","text"] (jm jfA):=jI
theorem jeV:jr ["book","text","joins","fault"] ["book","text"] (jm jfz):=jI
theorem jd0:jr ["book","text"] ["book"] (jm jeQ):=jI
theorem jkk:jr ["book","reading","cuts","choices"] ["book","reading","cuts","choices"] (jm jfw):=jI
theorem jfH:jr ["book","reading","cuts","choices","refusal"] ["book","reading","cuts","choices"] (jm jgK):=jI
theorem jgR:jr ["book","number","reading","cuts","choices","refusal","ways","way"] ["book","number","reading","cuts","choices"] (jm jig):=jI
theorem jfG:jr ["book","reading","pieces","refusal"] ["book","reading","pieces"] (jm jgJ):=jI
theorem jfI:jr ["book","reading","pieces","refusal","text"] ["book","reading","pieces"] (jm jgL):=jI
theorem jlP:jr ["self","numbers"] ["self","numbers"] (jm jgD):=jI
theorem jhm:jr ["self"] ["self"] (jm jcQ):=jI
theorem ja8:jr ["self","number"] ["self"] (jm jbF):=jI
theorem jcs:jr ["self","count","row"] ["self"] (jm jcR):=jI
theorem jbQ:jr ["book","tape","reading","cuts","choices"] ["book","tape"] (jm jck):=jI
theorem jct:jr ["book","tape","number","reading","cuts","choices"] ["book","tape"] (jm jcS):=jI
theorem jbP:jr ["book","tape","reading","pieces"] ["book","tape"] (jm jcj):=jI
theorem jbR:jr ["book","tape","reading","pieces"] ["book","tape"] (jm jcl):=jI
theorem jbO:jr ["book","tape","call"] ["book","tape"] (jm jci):=jI
theorem jik:jr ["calls","tape","book","told","answer"] ["calls"] (jm jft):=jI
noncomputable def Cal (P:Program) (w:World) (K:Frag) (mg:Str→Option Value) (base:Heap) (CX:CXT) (k:Nat) (x:Str) (ps:List Str) (sp:Sp):Prop :=
 ∃ f fd,mg x=some (.ref f)∧PySem.W.keepIn K (.ref f)=true∧Binds K fd ps []∧zG P w K mg base CX k f fd ps sp
noncomputable def Met (P:Program) (w:World) (K:Frag) (mg:Str→Option Value) (base:Heap) (k:Nat) (C:Addr) (x:Str) (ps:List Str) (sp:Sp):Prop :=
 ∃ f fd,PySem.W.findIn K (.ref C) x=some (some (.ref f))∧PySem.W.isFn K (.ref f)=true∧PySem.W.keepIn K (.ref f)=true∧Binds K fd ps []∧zG P w K mg base CX0 k f fd ps sp
section
variable {P:Program} {w:World} {K:Frag} {mg:Str→Option Value} {base:Heap}
theorem Def.ok {x:Str} {st:Stmt} {ps:List Str} {sp:Sp} (D:Def K mg x st ps) (S:jr N ps (jm st)) (len:∀ vs H Q E,sp vs H Q E→vs.length=ps.length)
  (hb:∀ (f:Addr) (cdv:Value) (A:Around) (outer:List Env) (s:Shared) (H:Hp) (vs:List V) (Q:VK) (E:XK),j6 k (A.deeper (envOfC x (jm st) s.heap.objs.size f cdv))→sp vs H Q E →
   ∃ t,PSs (zt CX0 P w K mg base N x (jm st) f cdv A outer s H E).nox (zu st) t∧t { nx:=fun _ H'=>Q .non H',rt:=Q } (start N vs) H):Cal P w K mg base CX0 (k+1) x ps sp:=by
 obtain ⟨f,fd,F,b,g⟩:=D;exact ⟨f,fd,g,F.kp,b,F.ok S len fun cdv A outer s H vs Q E hr h=>hb f cdv A outer s H vs Q E hr h⟩
theorem Mth.ok {x q:Str} {st:Stmt} {ps:List Str} {sp:Sp} (D:Mth K C x q st ps) (S:jr N ps (jm st)) (len:∀ vs H Q E,sp vs H Q E→vs.length=ps.length)
  (hb:∀ (f:Addr) (cdv:Value) (A:Around) (outer:List Env) (s:Shared) (H:Hp) (vs:List V) (Q:VK) (E:XK),j6 k (A.deeper (envOfC q (jm st) s.heap.objs.size f cdv))→sp vs H Q E →
   ∃ t,PSs (zt CX0 P w K mg base N q (jm st) f cdv A outer s H E).nox (zu st) t∧t { nx:=fun _ H'=>Q .non H',rt:=Q } (start N vs) H):Met P w K mg base (k+1) C x ps sp:=by
 obtain ⟨f,fd,F,b,g,i⟩:=D;exact ⟨f,fd,g,i,F.kp,b,F.ok S len fun cdv A outer s H vs Q E hr h=>hb f cdv A outer s H vs Q E hr h⟩
end
section
variable {X:Cx} {k:Nat} {x m:Str} {ps:List Str} {sp:Sp} {C:Addr} {p pos apos:Pos} {e o:Expr} {es:List Expr} {t:TA} {ta:TE} {E:XK} {CX:CXT}
theorem jkK (D:Cal X.prog X.w X.K X.mg X.base CX k x ps sp) (hr:j6 k X.A) (hg:Gl X x) (hx:jan CX X E) (ha:PA X (e :: es) t)
  (hdb:(x == ("__debug__":Str))=false:=by decide) (he:starEach (e :: es) X.env=(false,eval e X.env) :: starEach es X.env:=by rfl) (hpl:(backTo pos (starEach es X.env)).any (·.1)=false:=by rfl) :
  PE X (.Call (.Name x p) (e :: es) [] pos) (jf7 sp [] E t):=by
 obtain ⟨f,fd,g,kp,b,F⟩:=D;exact jrO F hr hg g kp b .nil hx ha hdb he hpl
theorem cal (D:Cal X.prog X.w X.K X.mg X.base CX0 k x ps sp) (hr:j6 k X.A) (hg:Gl X x) (ha:PA X (e :: es) t)
  (hdb:(x == ("__debug__":Str))=false:=by decide) (he:starEach (e :: es) X.env=(false,eval e X.env) :: starEach es X.env:=by rfl) (hpl:(backTo pos (starEach es X.env)).any (·.1)=false:=by rfl) :
  PE X (.Call (.Name x p) (e :: es) [] pos) (jf7 sp [] E0 t):=jkK D hr hg jh5 ha hdb he hpl
theorem jsj (D:Cal X.prog X.w X.K X.mg X.base CX0 k x ps sp) (hr:j6 k X.A) (hg:Gl X x) (hdb:(x == ("__debug__":Str))=false:=by decide) :
  PE X (.Call (.Name x p) [] [] pos) (jf7 sp [] E0 jdn):=by
 obtain ⟨f,fd,g,kp,b,F⟩:=D;exact jqN F hr hg g kp b .nil jh5 hdb
theorem mak (D:Met X.prog X.w X.K X.mg X.base k C "__init__" ps sp) (c:Kls X.K X.mg x C) (hr:j6 (k+1) X.A) (hg:Gl X x) (ha:PA X (e :: es) t)
  (hdb:(x == ("__debug__":Str))=false:=by decide) (he:starEach (e :: es) X.env=(false,eval e X.env) :: starEach es X.env:=by rfl) (hpl:(backTo pos (starEach es X.env)).any (·.1)=false:=by rfl) :
  PE X (.Call (.Name x p) (e :: es) [] pos) (jkD C sp [] E0 t):=by
 obtain ⟨f,fd,g,i,kp,b,F⟩:=D;exact jrQ ⟨c.mks,g,i,c.kp⟩ F hr hg c.g b .nil jh5 ha hdb he hpl
theorem jt9 (D:Met X.prog X.w X.K X.mg X.base k C "__init__" ps sp) (c:Kls X.K X.mg x C) (hr:j6 (k+1) X.A) (hg:Gl X x) (hdb:(x == ("__debug__":Str))=false:=by decide) :
  PE X (.Call (.Name x p) [] [] pos) (jkD C sp [] E0 jdn):=by
 obtain ⟨f,fd,g,i,kp,b,F⟩:=D;exact jqR ⟨c.mks,g,i,c.kp⟩ F hr hg c.g b .nil jh5 hdb
theorem jaC {pl:Sem Bool} (D:Met X.prog X.w X.K X.mg X.base k C m ps sp) (c:Kls X.K X.mg x C) (hr:j6 k X.A) (he:PE X o ta)
  (ht:eval (.Call (.Attribute o m apos) [] [] pos) X.env=(do
   let ov ←eval o X.env
   standAt apos.atName
   let (f,first) ←holding [ov] (getMethod ov m pl)
   callWith pos f first (backTo pos (starEach [] X.env)) (backToKw pos (keywordEach [] X.env))):=by rfl) :
  PE X (.Call (.Attribute o m apos) [] [] pos) (jrk C m sp [] E0 ta jdn):=by
 obtain ⟨f,fd,g,i,kp,b,F⟩:=D;exact jqS he c.cl ⟨g,i,kp⟩ F hr b .nil jh5 ht
theorem gli {y:Str} {i:Int} (h:∃ z,X.mg y=some (.int i z)) (hg:Gl X y) (hd:(y == ("__debug__":Str))=false:=by decide):PE X (.Name y pos) (tC (.int i)):=by
 obtain ⟨z,h⟩:=h;exact jnw hg h ⟨_,rfl⟩ hd
theorem glr {y:Str} (h:X.mg y=some (.ref a)) (hg:Gl X y) (hd:(y == ("__debug__":Str))=false:=by decide):PE X (.Name y pos) (tC (.ref a)):=jnw hg h rfl hd
theorem vf (hm:X.mg "len"=none) (h:PE X e te) (hg:Gl X "len":=by rfl) (hs:starEach [e] X.env=[(false,eval e X.env)]:=by rfl) (hpl:(backTo pos (starEach [] X.env)).any (·.1)=false:=by rfl) :
  PE X (.Call (.Name "len" p) [e] [] pos) (tCB (fun xs H Q=>∃ p ys,xs=[.ref p]∧(SqL X.K H p ys∨SqT X.K H p ys)∧Q (.int ys.length) H) (jf8 te jdn)) :=
 (jcf jkL hg hm PySem.boot_len (jb h jh hs) (by decide) (by decide) hs hpl)
end
noncomputable abbrev iv (l:List Nat):List V:=l.map fun (n:Nat)=>V.int (n:Int)
theorem jaW {v:V} (h:(iv l)[i]?=some v):∃ n,l[i]?=some n∧v=.int (n:Int):=by
 rw [Dz] at h;cases e:l[i]? with
 | none=>rw [e] at h;cases h
 | some n=>rw [e] at h;exact ⟨n,rfl,(Cs h).symm⟩
theorem jf1 (h:l[i]?=some n):(iv l)[i]?=some (.int (n:Int)):=by
 rw [Dz,h];rfl
theorem jy (l:List Nat):(iv l).length=l.length:=Cb ..
theorem jap (l m:List Nat):iv l++iv m=iv (l++m):=(Dc).symm
theorem j7 (h:n≤1000000):n < sizeLine:=Nat.lt_of_le_of_lt h (by decide)
theorem v7 (h:n≤1000000):n≤sizeLine:=F5 (j7 h)
noncomputable def LN (H:Hp) (a:Addr) (l:List Nat):Prop:=H a=some (.lst (iv l))
theorem LN.same (h:LN H a l) (s:jn H H'):LN H' a l:=s _ _ h
theorem LN.sq (h:LN H a l):SqL K H a (iv l):=SqL.of h
theorem jq (h:H p=none):jn H (upd H p o):=fun b u e=>by rw [ji (jp e h)];exact e
theorem jA {H0:Hp} (s:jn H0 H) (h:H0 p=none):jn H0 (upd H p o):=fun b u e=>by rw [ji (jp e h)];exact s b u e
theorem vw {b:Addr} (h:upd H p o b=none):b≠p∧H b=none:=by
 by_cases e:b=p
 ·subst e;rw [jc] at h;cases h
 ·rw [ji e] at h;exact ⟨e,h⟩
noncomputable abbrev LNp (H:Hp):List Addr→List (List Nat)→Prop:=Paired (LN H)
theorem Paired.appendP {α β:Type} {F:α→β→Prop}:∀ {a c:List α} {b d:List β},Paired F a b→Paired F c d→Paired F (a++c) (b++d)
 | _,_,_,_,.nil,h=>h
 | _,_,_,_,.cons r t,h=>.cons r (Paired.appendP t h)
theorem Paired.memP {α β:Type} {F:α→β→Prop} {a:List α} {b:List β} (h:Paired F a b):∀ {x:α},x∈a→∃ y∈b,F x y:=by
 induction h with
 | nil=>intro x hx;cases hx
 | cons r t ih =>
  intro x hx;rcases Cp.mp hx with rfl|hx
  ·exact ⟨_,Cf ..,r⟩
  ·obtain ⟨y,hy,q⟩:=ih hx;exact ⟨y,Cg _ hy,q⟩
theorem Paired.mapM {α β:Type} {F G:α→β→Prop} {a:List α} {b:List β} (h:Paired F a b) (f:∀ x∈a,∀ y,F x y→G x y):Paired G a b:=by
 induction h with
 | nil=>exact .nil
 | cons r t ih=>exact .cons (f _ (Cf ..) _ r) (ih fun x hx y q=>f x (Cg _ hx) y q)
theorem Paired.getP {α β:Type} {F:α→β→Prop} {a:List α} {b:List β} (h:Paired F a b):∀ {i:Nat} {x:α},a[i]?=some x→∃ y,b[i]?=some y∧F x y:=by
 induction h with
 | nil=>intro i x e;simp at e
 | cons r t ih =>
  intro i x e;cases i with
  | zero=>simp at e;subst e;exact ⟨_,rfl,r⟩
  | succ i=>obtain ⟨y,h1,h2⟩:=ih (i:=i) (x:=x) (by simpa using e);exact ⟨y,by simpa using h1,h2⟩
theorem Paired.getR {α β:Type} {F:α→β→Prop} {a:List α} {b:List β} (h:Paired F a b):∀ {i:Nat} {y:β},b[i]?=some y→∃ x,a[i]?=some x∧F x y:=by
 induction h with
 | nil=>intro i x e;simp at e
 | cons r t ih =>
  intro i x e;cases i with
  | zero=>simp at e;subst e;exact ⟨_,rfl,r⟩
  | succ i=>obtain ⟨y,h1,h2⟩:=ih (i:=i) (y:=x) (by simpa using e);exact ⟨y,by simpa using h1,h2⟩
noncomputable def LNs (H:Hp) (a:Addr) (ls:List (List Nat)):Prop:=∃ as:List Addr,H a=some (.lst (as.map V.ref))∧LNp H as ls
theorem LNp.same {ls:List (List Nat)} (h:LNp H as ls) (s:jn H H'):LNp H' as ls:=Paired.mapM h fun _ _ _ q=>LN.same q s
theorem LNs.same {ls:List (List Nat)} (h:LNs H a ls) (s:jn H H'):LNs H' a ls:=by
 obtain ⟨as,h1,h2⟩:=h;exact ⟨as,s _ _ h1,LNp.same h2 s⟩
theorem vh {v:V} (h:(as.map V.ref)[i]?=some v):∃ a,as[i]?=some a∧v=.ref a:=by
 rw [Dz] at h;cases e:as[i]? with
 | none=>rw [e] at h;cases h
 | some n=>rw [e] at h;exact ⟨n,rfl,(Cs h).symm⟩
theorem take_snoc {α:Type} {l:List α} {x:α} (h:l[i]?=some x):l.take (i+1)=l.take i++[x]:=by
 rw [List.take_add_one,h];rfl
theorem jF {a b:Int}:(decide (V.int a=V.int b)=true)↔a=b:=by
 rw [Dd];exact ⟨fun h=>V.int.inj h,fun h=>by rw [h]⟩
noncomputable def dN (l:List Nat):PyData:=.list (l.map fun (n:Nat)=>.int (n:Int))
theorem jkX:∀ l:List Nat,jbW K H (iv l) (l.map fun (n:Nat)=>.int (n:Int))
 | []=>.nil
 | n :: l=>.cons (.int _) (jkX l)
theorem LN.dp (h:LN H a l):Dp K H (.ref a) (dN l):=.lst (SqL.of h) (jkX l)
theorem jkN:∀ l:List Nat,PyData.canLayAll0 (l.map fun (n:Nat)=>.int (n:Int))=true
 | []=>by simp [PyData.canLayAll0]
 | n :: l=>by simp [PyData.canLayAll0,PyData.canLay0,jkN l]
theorem jn0:∀ l:List Nat,PyData.depthAll (l.map fun (n:Nat)=>.int (n:Int))=0
 | []=>by simp [PyData.depthAll]
 | n :: l=>by simp [PyData.depthAll,PyData.depth,jn0 l]
theorem shN (l:List Nat):SeqAt.shaped (dN l)=true:=by
 unfold SeqAt.shaped dN;simp [PyData.canLay0,PyData.depth,jkN,jn0]
theorem jk0:∀ l m:List Nat,PyData.eqvAll (l.map fun (n:Nat)=>.int (n:Int)) (m.map fun (n:Nat)=>.int (n:Int))=decide (l=m)
 | [],[]=>by simp [PyData.eqvAll]
 | [],_ :: _=>by simp [PyData.eqvAll]
 | _ :: _,[]=>by simp [PyData.eqvAll]
 | a :: l,b :: m=>by
  simp only [C6,PyData.eqvAll,jk0 l m,PyData.eqv];rw [C8];simp;intro _;omega
theorem jkz (l m:List Nat):PyData.eqv (dN l) (dN m)=decide (l=m):=by
 unfold dN;rw [PyData.eqv,jk0]
theorem jk3 {J:It} {g:TG} {tb:TS} {D:jcb} (n:Nat) (Pv:Nat→St→Hp→Prop) (h0:Pv 0 σ H) (hg:∀ i σ H,i < n→Pv i σ H→J.go i H) (he:∀ σ H,Pv n σ H→J.stop n H)
  (hs:∀ i σ H x H',i < n→Pv i σ H→J.yld i H x H'→g x σ H' fun σ2 H2=>tb { D with nx:=Pv (i+1),ct:=Pv (i+1),bk:=D.nx } σ2 H2) (hd:∀ σ H,Pv n σ H→D.nx σ H) :
  ∃ W:Nat→Nat→St→Hp→Prop,(∃ m,W 0 m σ H)∧∀ i m σ H,W i m σ H →
   (J.stop i H∧D.nx σ H)∨(J.go i H∧∃ N:St→Hp→Prop,(∀ σ' H',N σ' H'→∃ m',m' < m∧W (i+1) m' σ' H')∧∀ x H',J.yld i H x H'→g x σ H' fun σ2 H2=>tb { D with nx:=N,ct:=N,bk:=D.nx } σ2 H2) :=
 ⟨fun i m σ H=>i≤n∧m=n - i∧Pv i σ H,⟨n,C4 _,rfl,h0⟩,fun i m σ H ⟨hi,hm,hp⟩=>by
  rcases Nat.lt_or_ge i n with h|h
  ·exact .inr ⟨hg i σ H h hp,Pv (i+1),fun σ' H' q=>⟨n - (i+1),by omega,by omega,rfl,q⟩,fun x H' y=>hs i σ H x H' h hp y⟩
  ·have e:i=n:=by omega
   subst e;exact .inl ⟨he σ H hp,hd σ H hp⟩⟩
theorem joa {J:It} {g:TG} {tt:TT} {vs:List Nat} {H1:Hp} {D:Addr} {Qd:Hp→Prop} (n:Nat) (Pv:Nat→Hp→Prop) (h0:Pv 0 (upd H1 D (.lst []))) (hg:∀ i H,i < n→Pv i H→J.go i H) (he:∀ H,Pv n H→J.stop n H)
  (hs:∀ i H x H',i < n→Pv i H→J.yld i H x H'→g x (vq σ vs) H' fun σ2 H2=>vq σ2 vs=vq σ vs∧tt σ2 H2 fun b H3 =>
   if b=true then te σ2 H3 fun y H4=>∃ acc,H4 D=some (.lst acc)∧acc.length < sizeLine∧Pv (i+1) (upd H4 D (.lst (acc++[y]))) else Pv (i+1) H3) (hd:∀ H,Pv n H→Qd H) :
  ∃ W:Nat→Nat→Hp→Prop,(∃ m,W 0 m (upd H1 D (.lst [])))∧∀ i m H,W i m H →
   (J.stop i H∧Qd H)∨(J.go i H∧∃ Nx:Hp→Prop,(∀ H',Nx H'→∃ m',m' < m∧W (i+1) m' H')∧∀ x H',J.yld i H x H'→g x (vq σ vs) H' fun σ2 H2=>vq σ2 vs=vq σ vs∧tt σ2 H2 fun b H3 =>
    if b=true then te σ2 H3 fun y H4=>∃ acc,H4 D=some (.lst acc)∧acc.length < sizeLine∧Nx (upd H4 D (.lst (acc++[y]))) else Nx H3) :=
 ⟨fun i m H=>i≤n∧m=n - i∧Pv i H,⟨n,C4 _,rfl,h0⟩,fun i m H ⟨hi,hm,hp⟩=>by
  rcases Nat.lt_or_ge i n with h|h
  ·exact .inr ⟨hg i H h hp,Pv (i+1),fun H' q=>⟨n - (i+1),by omega,by omega,rfl,q⟩,fun x H' y=>hs i H x H' h hp y⟩
  ·have e:i=n:=by omega
   subst e;exact .inl ⟨he H hp,hd H hp⟩⟩
theorem jcA {F G:Hp→Prop} (h:F H):jte σ H (fun b H3=>if b=true then F H3 else G H3):=by
 show if true=true then F H else G H
 rw [Ce rfl];exact h
structure Col (H H':Hp) (q cur:Addr) (as:List Addr) (rows:List (List Nat)) (row:List Nat):Prop where
 same:jn H H'
 fq:H q=none
 fc:H cur=none
 hq:H' q=some (.lst (as.map V.ref))
 hr:LNp H' as rows
 hc:LN H' cur row
 n1:cur∉as
 n2:q≠cur
 n3:q∉as
theorem Col.start {c:Addr} (hq:H q=none) (hc:upd H q (.lst []) c=none):Col H (upd (upd H q (.lst [])) c (.lst [])) q c [] [] []:=by
 obtain ⟨n,hc0⟩:=vw hc;exact ⟨jA (jq hq) hc0,hq,hc0,by rw [ji (Dj n),jc];rfl,.nil,jc,by simp,Dj n,by simp⟩
theorem Col.push (C:Col H H' q cur as rows row) (n:Nat):Col H (upd H' cur (.lst (iv row++[.int n]))) q cur as rows (row++[n]) where
 same:=jA C.same C.fc
 fq:=C.fq
 fc:=C.fc
 hq:=by rw [ji C.n2];exact C.hq
 hr:=Paired.mapM C.hr fun x hx y qx=>by
  show upd H' cur _ x=_;rw [ji (fun e=>C.n1 (by rw [←e];exact hx))];exact qx
 hc:=by
  show upd H' cur _ cur=_;rw [jc];exact D7 (fun z=>some (HO.lst z)) (jap _ [n])
 n1:=C.n1
 n2:=C.n2
 n3:=C.n3
theorem Col.cut {d:Addr} (C:Col H H' q cur as rows row) (hd:upd H' q (.lst (as.map V.ref++[.ref cur])) d=none) :
  Col H (upd (upd H' q (.lst (as.map V.ref++[.ref cur]))) d (.lst [])) q d (as++[cur]) (rows++[row]) []:=by
 obtain ⟨ndq,hd2⟩:=vw hd;have hd0:H d=none:=C.same.free hd2;have ndc:d≠cur:=fun e=>by
  have z:H' cur=_:=C.hc;rw [←e,hd2] at z;cases z
 have keep:∀ x y,x≠q→LN H' x y→LN (upd (upd H' q (.lst (as.map V.ref++[.ref cur]))) d (.lst [])) x y:=fun x y hx z=>by
  have hxd:x≠d:=fun e=>by
   have z':H' x=_:=z;rw [e,hd2] at z';cases z'
  show upd (upd H' q _) d _ x=_;rw [ji hxd,ji hx];exact z
 refine ⟨jA (jA C.same C.fq) hd0,C.fq,hd0,?_,?_,jc,?_,Dj ndq,?_⟩
 ·rw [ji (Dj ndq),jc,Dc]
  rfl
 ·exact Paired.appendP (Paired.mapM C.hr fun x hx y z=>keep x y (fun e=>C.n3 (by rw [←e];exact hx)) z) (.cons (keep cur row (Dj C.n2) C.hc) .nil)
 ·intro hm;rcases Ds.mp hm with hm|hm
  ·obtain ⟨z,_,hz⟩:=Paired.memP C.hr hm;have hz':H' d=_:=hz;rw [hd2] at hz';cases hz'
  ·exact ndc (Cm.mp hm)
 ·intro hm;rcases Ds.mp hm with hm|hm
  ·exact C.n3 hm
  ·exact C.n2 (Cm.mp hm)
theorem Col.fin (C:Col H H' q cur as rows row) :
  jn H (upd H' q (.lst (as.map V.ref++[.ref cur])))∧LNs (upd H' q (.lst (as.map V.ref++[.ref cur]))) q (rows++[row]):=by
 have keep:∀ x y,x≠q→LN H' x y→LN (upd H' q (.lst (as.map V.ref++[.ref cur]))) x y:=fun x y hx z=>by
  show upd H' q _ x=_;rw [ji hx];exact z
 refine ⟨jA C.same C.fq,as++[cur],?_,?_⟩
 ·rw [jc,Dc]
  rfl
 ·exact Paired.appendP (Paired.mapM C.hr fun x hx y z=>keep x y (fun e=>C.n3 (by rw [←e];exact hx)) z) (.cons (keep cur row (Dj C.n2) C.hc) .nil)
theorem Col.grow {H2:Hp} (C:Col H H' q cur as rows row) (s:jn H' H2):Col H H2 q cur as rows row :=
 ⟨C.same.trans s,C.fq,C.fc,s _ _ C.hq,LNp.same C.hr s,LN.same C.hc s,C.n1,C.n2,C.n3⟩
section
variable {P:Program} {w:World} {K:Frag} {mg:Str→Option Value} {base:Heap} {t:Adr}
noncomputable def jmL:Sp:=fun vs H Q _=>∃ a l,vs=[.ref a]∧LN H a l∧l.length≤100000∧∀ H' p,jn H H'→H p=none→LNs H' p (jS l)→Q (.ref p) H'
theorem jhW (l:List Nat):∀ (st:List (List Nat)×List Nat),(l.foldl jZ st).1.length≤st.1.length+l.length∧(l.foldl jZ st).2.length≤st.2.length+l.length:=by
 induction l with
 | nil=>intro st;exact ⟨Cl _,Cl _⟩
 | cons c l ih =>
  intro st;rw [Fi];have h:=ih (jZ st c);unfold jZ at h ⊢;by_cases q:c=10
  ·simp only [Ce q,Ci,Cd,Ct] at h ⊢;omega
  ·simp only [Cc q,Ci,Cd,Ct] at h ⊢;omega
theorem jgy (T:Txt K mg t):Cal P w K mg base CX0 1 "lines_of" ["text"] jmL:=by
 refine T.xak.ok jgN (fun vs H Q E h=>?_) (fun f cdv A outer s H vs Q E hr h=>?_)
 ·obtain ⟨a,l,rfl,_⟩:=h
  rfl
 ·obtain ⟨a,l,rfl,hl,hz,k⟩:=h;have hu64:=hr.units;have nd:=jgN.nd;refine ⟨_,(jd (jE 1 nd (jN jh))
   (jd (jE 2 nd (jN jh))
   (jd (vg Df rfl (vc (pv 0)) (jM (i:=3) nd rfl (Ff rfl)) (jd (vC (zy De Dm Dn vy (pv 2) (jb (pv 3) jh)))
   (jg (jz (jw vE (pv 3) (gli T.xcp rfl)) (jd (vC (zy De Dm Dn vy (pv 1) (jb (pv 2) jh)))
   (jg (jE 2 nd (jN jh)))) jt))))
   (jd (jz (jw (jsT hu64) (pv 2) (jN jh)) (jg (vC (zy De Dm Dn vy (pv 1) (jb (pv 2) jh)))) jt)
   (jg (jk (pv 1))))))),?_⟩
  refine ⟨C4 _,fun q hq=>⟨C4 _,fun c hc=>?_⟩⟩;have C0:=Col.start hq hc;refine ⟨_,rfl,a,rfl,⟨_,(hl.same C0.same).sq⟩,vk (K:=K) (a:=a) (xs:=iv l) (fun i σ H'=>∃ (cur:Addr) (as:List Addr) (v:Option V),σ=[some (.ref a),some (.ref q),some (.ref cur),v] ∧
    Col H H' q cur as ((l.take i).foldl jZ ([],[])).1 ((l.take i).foldl jZ ([],[])).2)
   ⟨c,[],none,rfl,C0⟩ (fun i σ H' _ ⟨_,_,_,_,C⟩=>(hl.same C.same).sq) ?_ ?_⟩
  ·rintro i y σ H' hi ⟨cur,as,v,rfl,C⟩;obtain ⟨n,hn,rfl⟩:=jaW hi;have hlen:=jhW (l.take i) ([],[]);have hil:i < l.length:=(Cj.mp hn).1;simp only [Ct,Dq,Fy] at hlen;have el:=Cr C.hr;refine ⟨_,rfl,.inl ⟨rfl,_,SqL.of C.hc⟩,_,rfl,cur,_,_,rfl,rfl,C.hc,j7 (by rw [jy];omega),?_⟩;have C1:=C.push n;have est:(l.take (i+1)).foldl jZ ([],[])=jZ ((l.take i).foldl jZ ([],[])) n:=by rw [take_snoc hn,Jc];rfl
   refine ⟨_,rfl,rfl,_,rfl,jB (fun hc=>?_) (fun hc=>?_)⟩
   ·have hn10:n=10:=by have:=jF.mp hc;omega
    refine ⟨_,rfl,.inl ⟨rfl,_,SqL.of C1.hq⟩,_,rfl,q,_,_,rfl,rfl,C1.hq,j7 (by rw [Cb];omega),?_⟩;refine ⟨C4 _,fun d hd=>⟨d,as++[cur],_,rfl,?_⟩⟩;rw [est];unfold jZ;rw [Ce hn10];exact C1.cut hd
   ·have hn10:¬n=10:=fun e=>hc (jF.mpr (by omega));refine ⟨cur,as,_,rfl,?_⟩;rw [est];unfold jZ;rw [Cc hn10];exact C1
  ·rintro σ H' ⟨cur,as,v,rfl,C⟩;rw [jy,Dg] at C;have hlen:=jhW l ([],[]);simp only [Ct,Fy] at hlen;have el:=Cr C.hr;refine ⟨_,rfl,C4 _,fun e he=>⟨dN (l.foldl jZ ([],[])).2,.list [],(C.hc.same (jq he)).dp,.lst (SqL.of jc) .nil,shN _,rfl,_,rfl,?_⟩⟩;have C2:=C.grow (jq (o:=.lst []) he);by_cases hem:(l.foldl jZ ([],[])).2=[]
   ·rw [hem];refine jbJ ⟨_,rfl,?_⟩;refine k _ q C2.same hq ⟨as,C2.hq,?_⟩;unfold jS jcI;rw [Ce hem];exact C2.hr
   ·have:(!PyData.eqv (dN (l.foldl jZ ([],[])).2) (.list []))=true:=by
     cases hh:(l.foldl jZ ([],[])).2 with
     | nil=>exact absurd hh hem
     | cons x r=>rfl
    rw [this];refine vG ⟨_,rfl,.inl ⟨rfl,_,SqL.of C2.hq⟩,_,rfl,q,_,_,rfl,rfl,C2.hq,j7 (by rw [Cb];omega),⟨_,rfl,?_⟩⟩;have F:=C2.fin;refine k _ q F.1 hq ?_;unfold jS jcI;rw [Cc hem];exact F.2
noncomputable def jmK:Sp:=fun vs H Q _=>∃ a l,vs=[.ref a]∧LN H a l∧l≠[]∧Q (.bl (decide (l.getLast?=some 10))) H
theorem jn9 {α:Type}:∀ {l:List α},l≠[]→∃ m x,l=m++[x]
 | l,h=>⟨l.dropLast,l.getLast h,(List.dropLast_concat_getLast h).symm⟩
theorem jgx (T:Txt K mg t):Cal P w K mg base CX0 1 "is_ended" ["line"] jmK:=by
 refine T.xal.ok jmH (fun vs H Q E h=>?_) (fun f cdv A outer s H vs Q E hr h=>?_)
 ·obtain ⟨a,l,rfl,_⟩:=h
  rfl
 ·obtain ⟨a,l,rfl,hl,hne,k⟩:=h;obtain ⟨m,n,rfl⟩:=jn9 hne;refine ⟨_,(jg (jk (zm vE (jC jJ (pv 0) (jaA zJ jj)) (gli T.xcp rfl)))),?_⟩;refine ⟨_,rfl,_,rfl,a,_,_,.int (n:Int),rfl,rfl,hl.sq,?_,rfl,?_⟩
  ·show atI (iv (m++[n])) (-1)=_;rw [←jap];exact jqb _ _
  ·have e:decide ((m++[n]).getLast?=some 10)=decide (V.int (n:Int)=V.int 10):=by
    rw [List.getLast?_concat];congr 1;apply propext;exact ⟨fun h=>by rw [Cs h];rfl,fun h=>by have:=V.int.inj h;rw [show n=10 by omega]⟩
   rw [e] at k;exact k
noncomputable def jmN:Sp:=fun vs H Q _=>∃ a l,vs=[.ref a]∧LN H a l∧l.length≤100000∧∀ H' p,jn H H'→H p=none→LNs H' p (jD l)→Q (.ref p) H'
theorem jlD (l:List Nat):∀ (st:List (List Nat)×List Nat),(l.foldl vK st).1.length≤st.1.length+l.length∧(l.foldl vK st).2.length≤st.2.length+l.length:=by
 induction l with
 | nil=>intro st;exact ⟨Cl _,Cl _⟩
 | cons c l ih =>
  intro st;rw [Fi];have h:=ih (vK st c);unfold vK at h ⊢;by_cases q:c=32
  ·simp only [Ce q,Ci,Cd,Ct] at h ⊢;omega
  ·simp only [Cc q,Ci,Cd,Ct] at h ⊢;omega
theorem jgz (T:Txt K mg t):Cal P w K mg base CX0 1 "parts_of" ["row"] jmN:=by
 refine T.xam.ok jgP (fun vs H Q E h=>?_) (fun f cdv A outer s H vs Q E hr h=>?_)
 ·obtain ⟨a,l,rfl,_⟩:=h
  rfl
 ·obtain ⟨a,l,rfl,hl,hz,k⟩:=h;have nd:=jgP.nd;refine ⟨_,(jd (jE 1 nd (jN jh))
   (jd (jE 2 nd (jN jh))
   (jd (vg Df rfl (vc (pv 0)) (jM (i:=3) nd rfl (Ff rfl)) (jg (jz (jw vE (pv 3) (gli T.xcq rfl)) (jd (vC (zy De Dm Dn vy (pv 1) (jb (pv 2) jh)))
   (jg (jE 2 nd (jN jh)))) (jg (vC (zy De Dm Dn vy (pv 2) (jb (pv 3) jh)))))))
   (jd (vC (zy De Dm Dn vy (pv 1) (jb (pv 2) jh)))
   (jg (jk (pv 1))))))),?_⟩
  refine ⟨C4 _,fun q hq=>⟨C4 _,fun c hc=>?_⟩⟩;have C0:=Col.start hq hc;refine ⟨_,rfl,a,rfl,⟨_,(hl.same C0.same).sq⟩,vk (K:=K) (a:=a) (xs:=iv l) (fun i σ H'=>∃ (cur:Addr) (as:List Addr) (v:Option V),σ=[some (.ref a),some (.ref q),some (.ref cur),v] ∧
    Col H H' q cur as ((l.take i).foldl vK ([],[])).1 ((l.take i).foldl vK ([],[])).2)
   ⟨c,[],none,rfl,C0⟩ (fun i σ H' _ ⟨_,_,_,_,C⟩=>(hl.same C.same).sq) ?_ ?_⟩
  ·rintro i y σ H' hi ⟨cur,as,v,rfl,C⟩;obtain ⟨n,hn,rfl⟩:=jaW hi;have hlen:=jlD (l.take i) ([],[]);have hil:i < l.length:=(Cj.mp hn).1;simp only [Ct,Dq,Fy] at hlen;have el:=Cr C.hr;have est:(l.take (i+1)).foldl vK ([],[])=vK ((l.take i).foldl vK ([],[])) n:=by rw [take_snoc hn,Jc];rfl
   refine ⟨_,rfl,rfl,_,rfl,jB (fun hc=>?_) (fun hc=>?_)⟩
   ·have hn32:n=32:=by have:=jF.mp hc;omega
    refine ⟨_,rfl,.inl ⟨rfl,_,SqL.of C.hq⟩,_,rfl,q,_,_,rfl,rfl,C.hq,j7 (by rw [Cb];omega),?_⟩;refine ⟨C4 _,fun d hd=>⟨d,as++[cur],_,rfl,?_⟩⟩;rw [est];unfold vK;rw [Ce hn32];exact C.cut hd
   ·have hn32:¬n=32:=fun e=>hc (jF.mpr (by omega));refine ⟨_,rfl,.inl ⟨rfl,_,SqL.of C.hc⟩,_,rfl,cur,_,_,rfl,rfl,C.hc,j7 (by rw [jy];omega),?_⟩;refine ⟨cur,as,_,rfl,?_⟩;rw [est];unfold vK;rw [Cc hn32];exact C.push n
  ·rintro σ H' ⟨cur,as,v,rfl,C⟩;rw [jy,Dg] at C;have hlen:=jlD l ([],[]);simp only [Ct,Fy] at hlen;have el:=Cr C.hr;refine ⟨_,rfl,.inl ⟨rfl,_,SqL.of C.hq⟩,_,rfl,q,_,_,rfl,rfl,C.hq,j7 (by rw [Cb];omega),⟨_,rfl,?_⟩⟩;have F:=C.fin;refine k _ q F.1 hq ?_;rw [←jly];exact F.2
end
theorem joQ:bootBuiltins "sum"=some (.builtin "sum"):=by decide +kernel
theorem joP:bootBuiltins "str"=some (.type "str"):=by decide +kernel
theorem joO:bootBuiltins "ord"=some (.builtin "ord"):=by decide +kernel
section
variable {P:Program} {w:World} {K:Frag} {mg:Str→Option Value} {base:Heap} {t:Adr}
noncomputable def jl3:Sp:=fun vs H Q _=>∃ a l,vs=[.ref a]∧LN H a l∧Q (.bl (jP l)) H
theorem jjw (h:l[i]?=some n) (hn:¬(48≤n∧n≤57)):jP l=false:=by
 unfold jP;have:l.all isDigit=false:=by
  rw [←Fq,Dk];intro q;have:=q n (Cw h);unfold isDigit at this;simp at this;exact hn this
 rw [this,Dv]
theorem jlp (T:Txt K mg t):Cal P w K mg base CX0 1 "is_number" ["part"] jl3:=by
 refine T.xan.ok jfD (fun vs H Q E h=>?_) (fun f cdv A outer s H vs Q E hr h=>?_)
 ·obtain ⟨a,l,rfl,_⟩:=h
  rfl
 ·obtain ⟨a,l,rfl,hl,k⟩:=h;have nd:=jfD.nd;refine ⟨_,(jd (vg Df rfl (vc (pv 0)) (jM (i:=1) nd rfl (Ff rfl)) (jg (jz (vL (jbl jaJ jaJ (gli T.xcr rfl) (pv 1) (gli T.xcs rfl))) (jg (jk vY)) jt)))
   (jd (jz (jw vE (vf T.xdl (pv 0)) jj) (jg (jk vY)) jt)
   (jg (jk (jtI (zm vE (vf T.xdl (pv 0)) jj) (jh8 (zm zE (jC jJ (pv 0) jj) (gli T.xcr rfl)))))))),?_⟩
  refine ⟨_,rfl,a,rfl,⟨_,hl.sq⟩,vk (K:=K) (a:=a) (xs:=iv l) (fun i σ H'=>∃ v:Option V,σ=[some (.ref a),v]∧H'=H∧(l.take i).all isDigit=true)
   ⟨none,rfl,rfl,rfl⟩ (fun i σ H' _ ⟨_,_,e,_⟩=>by rw [e];exact hl.sq) ?_ ?_⟩
  ·rintro i y σ H' hi ⟨v,rfl,rfl,hd⟩;obtain ⟨n,hn,rfl⟩:=jaW hi;refine ⟨_,rfl,_,_,rfl,rfl,_,rfl,jB (fun h1=>?_) (fun h1=>?_)⟩
   ·have h1':(48:Int)≤n:=Co h1;refine ⟨_,_,rfl,rfl,_,rfl,jB (fun h2=>?_) (fun h2=>?_)⟩
    ·have h2':¬(n:Int)≤57:=by simpa using h2
     rw [jjw hn (by omega)] at k;exact k
    ·have h2':(n:Int)≤57:=by simpa using h2
     refine ⟨_,rfl,rfl,?_⟩;rw [take_snoc hn,Ln,hd];simp [isDigit];omega
   ·have h1':¬(48:Int)≤n:=fun q=>h1 (C3 q);refine ⟨_,rfl,vG ?_⟩;rw [jjw hn (by omega)] at k;exact k
  ·rintro σ H' ⟨v,rfl,rfl,hd⟩;rw [jy,Dg] at hd;refine ⟨_,rfl,a,_,rfl,.inl hl.sq,rfl,_,rfl,jB (fun h1=>?_) (fun h1=>?_)⟩
   ·have e:l=[]:=by
     have:=jF.mp h1;rw [jy] at this;exact Jj.mp (by omega)
    subst e;exact k
   ·have hne:l≠[]:=fun e=>h1 (jF.mpr (by rw [e];rfl));obtain ⟨x,r,rfl⟩:=List.exists_cons_of_ne_nil hne;refine ⟨_,rfl,a,_,rfl,.inl hl.sq,rfl,_,rfl,jB (fun h2=>?_) (fun h2=>?_)⟩
    ·have h2':=jF.mp h2;rw [jy] at h2';have e:jP (x :: r)=true:=by
      unfold jP;rw [hd];have:((x :: r).length == 1)=true:=by rw [D8];omega
      rw [this]
      rfl
     rw [e] at k;exact k
    ·have h2':¬(x :: r).length=1:=fun q=>h2 (jF.mpr (by rw [jy,q];rfl));refine ⟨_,rfl,a,_,_,.int (x:Int),rfl,rfl,hl.sq,vn (j:=0) rfl,rfl,?_⟩;have e:jP (x :: r)=!decide (V.int (x:Int)=V.int 48):=by
      unfold jP;rw [hd];have:((x :: r).length == 1)=false:=by rw [beq_eq_false_iff_ne];exact h2'
      rw [this,C8];simp;omega
     rw [e] at k;exact k
noncomputable def jmQ:Sp:=fun vs H Q _=>∃ a l,vs=[.ref a]∧LN H a l∧l.all isDigit=true∧Q (.int ((jU l:Nat):Int)) H
theorem jmG (T:Txt K mg t):Cal P w K mg base CX0 1 "value_of" ["digits"] jmQ:=by
 refine T.xao.ok jgS (fun vs H Q E h=>?_) (fun f cdv A outer s H vs Q E hr h=>?_)
 ·obtain ⟨a,l,rfl,_⟩:=h
  rfl
 ·obtain ⟨a,l,rfl,hl,hd,k⟩:=h;have nd:=jgS.nd;refine ⟨_,(jd (jz (jw zh (vf T.xdl (pv 0)) jj) (jg (jk jj)) jt)
   (jd (jE 1 nd jj)
   (jd (vg Df rfl (vc (pv 0)) (jM (i:=2) nd rfl (Ff rfl)) (jg (jE 1 nd (jY jdF (jY vI (jY jpy (pv 1) jj) (pv 2)) (gli T.xcr rfl)))))
   (jg (jk (pv 1)))))),?_⟩
  refine ⟨_,rfl,a,_,rfl,.inl hl.sq,_,_,rfl,rfl,_,rfl,jB (fun h1=>?_) (fun h1=>?_)⟩
  ·have h1':=Co h1;rw [jy] at h1';have e:jU l=100000:=by
    unfold jU;rw [Ce (by omega)]
   rw [e] at k;exact k
  ·have h1':¬(5:Int) < ((iv l).length:Int):=fun q=>h1 (C3 q);rw [jy] at h1';refine ⟨_,rfl,a,rfl,⟨_,hl.sq⟩,vk (K:=K) (a:=a) (xs:=iv l) (fun i σ H'=>∃ v:Option V,σ=[some (.ref a),some (.int ((jW 0 (l.take i):Nat):Int)),v]∧H'=H)
    ⟨none,rfl,rfl⟩ (fun i σ H' _ ⟨_,_,e⟩=>by rw [e];exact hl.sq) ?_ ?_⟩
   ·rintro i y σ H' hi ⟨v,rfl,rfl⟩;obtain ⟨n,hn,rfl⟩:=jaW hi;have dn:=Dk.mp hd n (Cw hn);unfold isDigit at dn;simp at dn;refine ⟨_,rfl,_,_,rfl,rfl,.inr ⟨by decide,by decide⟩,_,rfl,_,_,rfl,rfl,_,_,rfl,rfl,?_⟩;refine ⟨some (.int (n:Int)),?_,rfl⟩;rw [take_snoc hn];show _=[some (V.ref a),some (V.int ((List.foldl _ 0 (l.take i++[n]):Nat):Int)),_];rw [Jc];show [some (V.ref a),some (V.int ((((jW 0 (l.take i):Nat):Int) * 10+(n:Int)) - 48)),some (V.int (n:Int))]=[some (V.ref a),some (V.int ((jW 0 (l.take i) * 10+n - 48:Nat):Int)),_]
    have:((jW 0 (l.take i) * 10+n - 48:Nat):Int)=(((jW 0 (l.take i):Nat):Int) * 10+(n:Int)) - 48:=by omega
    rw [this]
   ·rintro σ H' ⟨v,rfl,rfl⟩;rw [jy,Dg];refine ⟨_,rfl,?_⟩;have e:jU l=jW 0 l:=by
     unfold jU;rw [Cc (by omega)]
    rw [e] at k;exact k
noncomputable def jmb:Sp:=fun vs H Q _=>∃ a ls,vs=[.ref a]∧LNs H a ls∧ls.length≤100000∧(ls.all jP=false→Q .non H)∧(ls.all jP=true→∀ H' p,jn H H'→H p=none→LN H' p (ls.map jU)→Q (.ref p) H')
theorem jfk (T:Txt K mg t):Cal P w K mg base CX0 2 "values_of" ["parts"] jmb:=by
 refine T.xap.ok jfJ (fun vs H Q E h=>?_) (fun f cdv A outer s H vs Q E hr h=>?_)
 ·obtain ⟨a,l,rfl,_⟩:=h
  rfl
 ·obtain ⟨a,ls,rfl,⟨as,hl,hp⟩,hz,k1,k2⟩:=h;have nd:=jfJ.nd;have elen:=Cr hp;refine ⟨_,(jd (vg Df rfl (vc (pv 0)) (jM (i:=1) nd rfl (Ff rfl)) (jg (jz (vL (vz (cal (jlp T) hr.m rfl (jb (pv 1) jh)))) (jg (jk jbD)) jt)))
   (jg (jk (jcO (own:=[("part",1)]) rfl nd (vc (pv 0)) (zQ (N:=["parts","part"]) (sc:=jm jdm) (by decide +kernel)) (fun _ _ _ _ _=>(jM (i:=1) nd rfl (Ff rfl))) (fun _ _ _ _ _=>jbm) (fun _ _ _ _ _=>(cal (jmG T) hr.m rfl (jb (pv 1) jh))))))),?_⟩
  refine ⟨_,rfl,a,rfl,⟨_,SqL.of hl⟩,vk (K:=K) (a:=a) (xs:=as.map V.ref) (fun i σ H'=>∃ v:Option V,σ=[some (.ref a),v]∧H'=H∧(ls.take i).all jP=true)
   ⟨none,rfl,rfl,rfl⟩ (fun i σ H' _ ⟨_,_,e,_⟩=>by rw [e];exact SqL.of hl) ?_ ?_⟩
  ·rintro i y σ H' hi ⟨v,rfl,rfl,hd⟩;obtain ⟨b,hb,rfl⟩:=vh hi;obtain ⟨p,hpi,hbp⟩:=Paired.getP hp hb;refine ⟨_,rfl,b,p,rfl,hbp,_,rfl,jB (fun h1=>?_) (fun h1=>?_)⟩
   ·have h1':jP p=false:=by simpa using h1
    refine k1 ?_;rw [←Fq,Dk];intro q;rw [q p (Cw hpi)] at h1';cases h1'
   ·have h1':jP p=true:=by simpa using h1
    refine ⟨_,rfl,rfl,?_⟩;rw [take_snoc hpi,Ln,hd];simp [h1']
  ·rintro σ H' ⟨v,rfl,rfl,hd⟩;rw [Cb,elen,Dg] at hd;refine ⟨_,rfl,a,rfl,⟨_,SqL.of hl⟩,fun D hD=>jdB (K:=K) (a:=a) (xs:=as.map V.ref) (fun i H2=>jn H' H2∧LN H2 D ((ls.take i).map jU))
    ⟨jq hD,jc⟩ (fun i H2 _ ⟨q,_⟩=>SqL.of (q _ _ hl)) ?_ ?_⟩
   ·rintro i y H2 hi ⟨s2,hD2⟩;obtain ⟨b,hb,rfl⟩:=vh hi;obtain ⟨p,hpi,hbp⟩:=Paired.getP hp hb;have dn:=Dk.mp hd p (Cw hpi);have dg:p.all isDigit=true:=by unfold jP at dn;rw [Cn] at dn;exact dn.1
    have hil:i < ls.length:=(Cj.mp hpi).1;refine ⟨rfl,jcA ⟨_,rfl,b,p,rfl,hbp.same s2,dg,_,hD2,j7 (by rw [jy,Cb,Dq];omega),?_⟩⟩;refine ⟨jA s2 hD,?_⟩;show upd H2 D _ D=_;rw [jc,take_snoc hpi,Dc];exact D7 (fun z=>some (HO.lst z)) (jap _ [jU p])
   ·rintro H2 ⟨s2,hD2⟩;rw [Cb,elen,Dg] at hD2;exact k2 hd H2 D s2 hD hD2
end
theorem joX (l:List Nat) (k n:Nat):vQ (iv l) (some (k:Int)) (some ((k:Int)+(n:Int)))=iv ((l.drop k).take n):=by
 unfold vQ;rw [show (k:Int)+(n:Int)=((k+n:Nat):Int) by omega,HT.jdL,HT.jdL,jy,←List.map_drop,←List.map_take];congr 1;by_cases h:k≤l.length
 ·rw [G7 h];by_cases h2:k+n≤l.length
  ·rw [G7 h2];congr 1;omega
  ·rw [Nat.min_eq_right (by omega)];rw [D6 (by rw [Db];omega),D6 (by rw [Db];omega)]
 ·have e1:min k l.length=l.length:=by omega
  have e2:min (k+n) l.length=l.length:=by omega
  rw [e1,e2,Fn (Cl _),Fn (by omega)];simp
theorem joY (xs:List V) (k:Nat) (h:k≤xs.length):vQ xs (some (k:Int)) none=xs.drop k:=by
 unfold vQ;rw [HT.jdL,HT.jlL,G7 h,D6 (by rw [Db];exact Cl _)]
theorem jkU (l:List Nat):vQ (iv l) none (some (-1))=iv l.dropLast:=by
 unfold vQ;rw [HT.jlL,G1,jy];have e:HT.sIx l.length l.length (some (-1))=l.length - 1:=by
  simp only [HT.sIx];rw [Ce (by decide)];omega
 rw [e,←List.map_take,List.dropLast_eq_take]
 rfl
section
variable {P:Program} {w:World} {K:Frag} {mg:Str→Option Value} {base:Heap} {t:Adr}
noncomputable def sn (n:Nat):Str:=toString ((n:Nat):Int)
theorem jph:∀ l:List (List Nat),TL.jhQ [32] l=zU l
 | []=>rfl
 | [p]=>rfl
 | p :: q :: r=>by
  show p++([32]++TL.jhQ [32] (q :: r))=p++32 :: zU (q :: r);rw [jph (q :: r)]
  rfl
theorem jpn (l:List Nat):TL.tl (Txt.join " " (l.map sn))=zU (l.map dig):=by
 rw [TL.jrD,TL.jnK];have:TL.tl " "=[32]:=rfl;rw [this,D4,jph];congr 1;exact Fh fun n _=>TL.jme n
noncomputable def jot:Sp:=fun vs H Q _=>∃ a l,vs=[.ref a]∧LN H a l∧l.length≤10∧(∀ n∈l,n≤100000)∧∀ H' p,jn H H'→H p=none→LN H' p (jbZ l)→Q (.ref p) H'
theorem js3 (h:n≤100000):(sn n).length≤6:=by
 have e:(sn n).length=(TL.tl (sn n)).length:=TL.jle _;have e2:TL.tl (sn n)=TL.jqL n:=TL.jme n;rw [e,e2];exact TL.jen (by decide) (by omega)
theorem jnG:∀ {l:List Nat},(∀ n∈l,n≤100000)→((l.map sn).map (·.length)).sum≤6 * l.length
 | [],_=>by simp
 | n :: l,h=>by
  have:=jnG fun m hm=>h m (Cg _ hm);have h1:=js3 (h n (Cf ..));simp only [C6,List.sum_cons,Cd] at this ⊢;omega
theorem jpr (h:n≤100000):((n:Int)).natAbs.log2 < 1920:=by
 rw [Int.natAbs_natCast];by_cases h0:n=0
 ·subst h0;decide
 ·exact (Nat.log2_lt h0).mpr (Nat.lt_of_le_of_lt h (by decide +kernel))
theorem jh1 (T:Txt K mg t):Cal P w K mg base CX0 1 "line_of" ["numbers"] jot:=by
 refine T.xaq.ok jiq (fun vs H Q E h=>?_) (fun f cdv A outer s H vs Q E hr h=>?_)
 ·obtain ⟨a,l,rfl,_⟩:=h
  rfl
 ·obtain ⟨a,l,rfl,hl,hz,hn,k⟩:=h;have nd:=jiq.nd;refine ⟨_,(jd (jE 1 nd (jrP jsV (jcO (own:=[("number",2)]) rfl nd (vc (pv 0)) (zQ (N:=["numbers","signs","number","sign"]) (sc:=jm jcW) (by decide +kernel)) (fun _ _ _ _ _=>(jM (i:=2) nd rfl (Ff rfl))) (fun _ _ _ _ _=>jbm) (fun _ _ _ _ _=>(jpD jkM rfl T.xdn joP (jb (pv 2) jh))))))
   (jg (jk (jY jaG (jcO (own:=[("sign",3)]) rfl nd (jsX (pv 1)) (zQ (N:=["numbers","signs","number","sign"]) (sc:=jm jcW) (by decide +kernel)) (fun _ _ _ _ _=>(jM (i:=3) nd rfl (Ff rfl))) (fun _ _ _ _ _=>jbm) (fun _ _ _ _ _=>(jcf jqf rfl T.xdo joO (jb (pv 3) jh)))) (jN (jb (gli T.xcp rfl) jh)))))),?_⟩
  refine ⟨⟨_,rfl⟩,_,rfl,a,rfl,⟨_,hl.sq⟩,fun D hD=>jdB (K:=K) (a:=a) (xs:=iv l) (fun i H2=>jn H H2∧H2 D=some (.lst ((l.take i).map fun n=>V.str (sn n))))
    ⟨jq hD,jc⟩ (fun i H2 _ ⟨q,_⟩=>(hl.same q).sq) ?_ ?_⟩
  ·rintro i y H2 hi ⟨s2,hD2⟩;obtain ⟨n,hni,rfl⟩:=jaW hi;refine ⟨rfl,jcA ⟨_,rfl,_,rfl,jpr (hn n (Cw hni)),_,hD2,j7 (by rw [Cb,Dq];omega),jA s2 hD,?_⟩⟩;rw [jc,take_snoc hni,Dc]
   rfl
  ·rintro H2 ⟨s2,hD2⟩;rw [jy,Dg] at hD2;refine ⟨_,D,l.map sn,rfl,rfl,.inl (SqL.of (by rw [D4];exact hD2)),?_,?_⟩
   ·have:=jnG hn;have e:(" ":Str).length=1:=rfl;rw [Cb,e];omega
   ·have hx:TL.tl (Txt.join " " (l.map sn))=zU (l.map dig):=jpn l;have hlen:(zU (l.map dig)).length≤1000:=by
     have e1:(Txt.join " " (l.map sn)).length=(TL.tl (Txt.join " " (l.map sn))).length:=TL.jle _;have:∀ (l:List Nat),(∀ n∈l,n≤100000)→(zU (l.map dig)).length≤7 * l.length:=by
      intro l
      induction l with
      | nil=>intro _;simp [zU]
      | cons n l ih =>
       intro h;have h1:(dig n).length≤6:=TL.jen (n:=n) (by decide) (by have:=h n (Cf ..);omega);have h2:=ih fun m hm=>h m (Cg _ hm);cases l with
       | nil=>simp only [C6,List.map_nil,zU,Cd,Ct];omega
       | cons m r =>
        simp only [C6,zU,Ci,Cd] at h2 ⊢;omega
     have:=this l hn;omega
    generalize hX:Txt.join " " (l.map sn)=x at hx;refine ⟨_,rfl,x,rfl,fun D2 hD2'=>joa x.cps.size (fun i H3=>jn H2 H3∧LN H3 D2 ((TL.tl x).take i)) ⟨jq hD2',jc⟩ (fun i H3 h _=>h) (fun H3 _=>Cl _) ?_ ?_⟩
    ·rintro i H3 v H4 hi ⟨s3,h3⟩ ⟨rfl,c,hc,rfl⟩;have hci:(TL.tl x)[i]?=some c:=by rw [←hc];simp [TL.tl]
     refine ⟨rfl,jcA ⟨_,rfl,_,rfl,rfl,_,h3,j7 (by rw [jy,Dq,hx];omega),jA s3 hD2',?_⟩⟩;show upd H4 D2 _ D2=_;rw [jc,take_snoc hci];exact D7 (fun z=>some (HO.lst z)) (jap _ [c])
    ·rintro H3 ⟨s3,h3⟩;have e:(TL.tl x).take x.cps.size=zU (l.map dig):=by
      rw [←hx];exact D6 (by simp [TL.tl])
     rw [e] at h3;refine ⟨by show 1≤sizeLine;decide,fun p hp=>?_⟩;have np:D2≠p:=jp (show H3 D2=some _ from h3) hp;refine ⟨D2,p,_,_,rfl,rfl,by rw [ji np];exact h3,jc,v7 (by rw [jy];show _+1≤_;omega),fun q hq=>?_⟩;obtain ⟨_,hq0⟩:=vw hq;have s4:jn H H3:=s2.trans s3;refine k _ q (jA (jA s4 (s4.free hp)) (s4.free hq0)) (s4.free hq0) ?_;show upd _ q _ q=_;rw [jc];exact D7 (fun z=>some (HO.lst z)) (jap _ [10])
noncomputable def jiy:Sp:=fun vs H Q _=>∃ z:Int,vs=[.int z]∧Q (.bl (decide (0≤z) && isChar z.toNat)) H
theorem jcK (T:Txt K mg t):Cal P w K mg base CX0 1 "is_character" ["number"] jiy:=by
 refine T.xb2.ok jim (fun vs H Q E h=>?_) (fun f cdv A outer s H vs Q E hr h=>?_)
 ·obtain ⟨z,rfl,_⟩:=h
  rfl
 ·obtain ⟨z,rfl,k⟩:=h;refine ⟨_,(jg (jk (jh7 (jlz jaJ jaj jj (pv 0) jj) (jh8 (jsU (jlz jaJ jaJ jj (pv 0) jj)))))),?_⟩;refine ⟨_,rfl,_,_,rfl,rfl,_,rfl,jB (fun h1=>?_) (fun h1=>?_)⟩
  ·have h1':=Co h1;refine ⟨_,_,rfl,rfl,_,rfl,jB (fun h2=>?_) (fun h2=>?_)⟩
   ·have h2':=Co h2;refine ⟨_,rfl,_,_,rfl,rfl,_,rfl,jB (fun h3=>?_) (fun h3=>?_)⟩
    ·have h3':=Co h3;refine ⟨_,_,rfl,rfl,_,rfl,?_⟩;have e:(decide (0≤z) && isChar z.toNat)=!decide (z≤57343):=by
      rw [C8];simp [isChar];omega
     rw [e] at k;exact k
    ·have h3':¬55296≤z:=fun q=>h3 (C3 q);refine ⟨_,rfl,?_⟩;have e:(decide (0≤z) && isChar z.toNat)=!false:=by
      rw [C8];simp [isChar];omega
     rw [e] at k;exact k
   ·have h2':¬z < 1114112:=fun q=>h2 (C3 q);have e:(decide (0≤z) && isChar z.toNat)=false:=by
     rw [C8];simp [isChar];omega
    rw [e] at k;exact k
  ·have h1':¬0≤z:=fun q=>h1 (C3 q);refine ⟨_,rfl,jbJ ?_⟩;have e:(decide (0≤z) && isChar z.toNat)=false:=by
    rw [C8];simp;omega
   rw [e] at k;exact k
noncomputable def jew:Sp:=fun vs H Q _=>∃ n:Nat,vs=[.int (n:Int)]∧Q (.bl (decide (32 < n) && n != 127)) H
theorem jeo (T:Txt K mg t):Cal P w K mg base CX0 1 "may_stand_in_word" ["character"] jew:=by
 refine T.xb3.ok jeu (fun vs H Q E h=>?_) (fun f cdv A outer s H vs Q E hr h=>?_)
 ·obtain ⟨z,rfl,_⟩:=h
  rfl
 ·obtain ⟨n,rfl,k⟩:=h;refine ⟨_,(jg (jk (jh7 (zm zh (pv 0) jj) (jh8 (zm zE (pv 0) jj))))),?_⟩;refine ⟨_,rfl,_,_,rfl,rfl,_,rfl,jB (fun h1=>?_) (fun h1=>?_)⟩
  ·have h1':=Co h1;refine ⟨_,rfl,rfl,?_⟩;have e:(decide (32 < n) && n != 127)=!decide (V.int (n:Int)=V.int 127):=by
    rw [C8];simp;omega
   rw [e] at k;exact k
  ·have h1':¬(32:Int) < n:=fun q=>h1 (C3 q);have e:(decide (32 < n) && n != 127)=false:=by
    rw [C8];simp;omega
   rw [e] at k;exact k
noncomputable def jcD:Sp:=fun vs H Q _=>∃ n:Nat,vs=[.int (n:Int)]∧Q (.int ((ju n:Nat):Int)) H
theorem jcB (T:Txt K mg t):Cal P w K mg base CX0 1 "length_by_first_byte" ["first"] jcD:=by
 refine T.xb4.ok jcC (fun vs H Q E h=>?_) (fun f cdv A outer s H vs Q E hr h=>?_)
 ·obtain ⟨z,rfl,_⟩:=h
  rfl
 ·obtain ⟨n,rfl,k⟩:=h;refine ⟨_,(jd (jz (jw jaj (pv 0) jj) (jg (jk jj)) jt)
   (jd (jz (jbl jaJ jaj jj (pv 0) jj) (jg (jk jj)) jt)
   (jd (jz (jbl jaJ jaj jj (pv 0) jj) (jg (jk jj)) jt)
   (jd (jz (jbl jaJ jaj jj (pv 0) jj) (jg (jk jj)) jt)
   (jg (jk jj)))))),?_⟩
  have fin:∀ m:Nat,ju n=m→Q (.int (m:Int)) H:=fun m e=>by rw [e] at k;exact k
  refine ⟨_,rfl,_,_,rfl,rfl,_,rfl,jB (fun h1=>?_) (fun h1=>?_)⟩
  ·have h1':=Co h1;exact fin 1 (by unfold ju;rw [Ce (by omega)])
  ·have h1':¬(n:Int) < 128:=fun q=>h1 (C3 q);have step2:(192:Int)≤n→(n:Int) < 224→Q (.int 2) H:=fun a b=>fin 2 (by unfold ju;rw [Cc (by omega),Ce (by omega)]);have step3:(224:Int)≤n→(n:Int) < 240→Q (.int 3) H:=fun a b=>fin 3 (by unfold ju;rw [Cc (by omega),Cc (by omega),Ce (by omega)]);have step4:(240:Int)≤n→(n:Int) < 248→Q (.int 4) H:=fun a b=>fin 4 (by unfold ju;rw [Cc (by omega),Cc (by omega),Cc (by omega),Ce (by omega)])
   have step0:¬((192:Int)≤n∧(n:Int) < 224)→¬((224:Int)≤n∧(n:Int) < 240)→¬((240:Int)≤n∧(n:Int) < 248)→Q (.int 0) H:=fun a b c=>fin 0 (by unfold ju;rw [Cc (by omega),Cc (by omega),Cc (by omega),Cc (by omega)]);have last:¬((192:Int)≤n∧(n:Int) < 224)→¬((224:Int)≤n∧(n:Int) < 240)→∃ v,(start ["first"] [V.int (n:Int)])[0]?=some (some v)∧∃ i j,V.int 240=.int i∧v=.int j∧∃ k,V.bl (decide (i≤j))=.bl k ∧
     if k=true then ∃ i' j',v=.int i'∧V.int 248=.int j'∧∃ k',V.bl (decide (i' < j'))=.bl k'∧(if k'=true then Q (.int 4) H else Q (.int 0) H)
     else ∃ k',V.bl false=.bl k'∧(if k'=true then Q (.int 4) H else Q (.int 0) H):=fun n2 n3=>by
    refine ⟨_,rfl,_,_,rfl,rfl,_,rfl,jB (fun h5=>?_) (fun h5=>?_)⟩
    ·have h5':=Co h5;exact ⟨_,_,rfl,rfl,_,rfl,jB (fun h6=>step4 h5' (Co h6)) (fun h6=>step0 n2 n3 fun q=>h6 (C3 q.2))⟩
    ·exact ⟨_,rfl,jbJ (step0 n2 n3 fun q=>h5 (C3 q.1))⟩
   have mid:¬((192:Int)≤n∧(n:Int) < 224)→∃ v,(start ["first"] [V.int (n:Int)])[0]?=some (some v)∧∃ i j,V.int 224=.int i∧v=.int j∧∃ k,V.bl (decide (i≤j))=.bl k ∧
     if k=true then ∃ i' j',v=.int i'∧V.int 240=.int j'∧∃ k',V.bl (decide (i' < j'))=.bl k'∧(if k'=true then Q (.int 3) H else _)
     else ∃ k',V.bl false=.bl k'∧(if k'=true then Q (.int 3) H else _):=fun n2=>by
    refine ⟨_,rfl,_,_,rfl,rfl,_,rfl,jB (fun h5=>?_) (fun h5=>?_)⟩
    ·have h5':=Co h5;exact ⟨_,_,rfl,rfl,_,rfl,jB (fun h6=>step3 h5' (Co h6)) (fun h6=>last n2 fun q=>h6 (C3 q.2))⟩
    ·exact ⟨_,rfl,jbJ (last n2 fun q=>h5 (C3 q.1))⟩
   refine ⟨_,rfl,_,_,rfl,rfl,_,rfl,jB (fun h5=>?_) (fun h5=>?_)⟩
   ·have h5':=Co h5;exact ⟨_,_,rfl,rfl,_,rfl,jB (fun h6=>step2 h5' (Co h6)) (fun h6=>mid fun q=>h6 (C3 q.2))⟩
   ·exact ⟨_,rfl,jbJ (mid fun q=>h5 (C3 q.1))⟩
end
section
variable {P:Program} {w:World} {K:Frag} {mg:Str→Option Value} {base:Heap} {t:Adr}
noncomputable def jep:Option Nat→Int
 | some c=>(c:Int)
 | none=>-1
noncomputable def je0:Sp:=fun vs H Q _=>∃ a f r,vs=[.ref a]∧LN H a (f :: r)∧r.length≤3∧v6 (r.length+1)≤f∧∀ H',jn H H'→Q (.int (jep (jK (f - v6 (r.length+1)) r))) H'
theorem jdf:∀ (l:List Nat) (n:Nat) (m:Nat) (r:List Nat),jK n l=some m→jK n (l++r)=jK m r
 | [],n,m,r,h=>by cases h;rfl
 | c :: l,n,m,r,h=>by
  simp only [jK] at h;by_cases q:128≤c∧c < 192
  ·rw [Ce q] at h;rw [List.cons_append,jK,Ce q];exact jdf l _ m r h
  ·rw [Cc q] at h;cases h
theorem jeY (T:Txt K mg t):Cal P w K mg base CX0 1 "number_of_octets" ["octets"] je0:=by
 refine T.xb5.ok ja9 (fun vs H Q E h=>?_) (fun f cdv A outer s H vs Q E hr h=>?_)
 ·obtain ⟨a,f,r,rfl,_⟩:=h
  rfl
 ·obtain ⟨a,f0,r,rfl,hl,hz,hm,k⟩:=h;have nd:=ja9.nd;refine ⟨_,(jd (jE 1 nd (jY jdF (jC jJ (pv 0) jj) (jC ve (glr T.xcv rfl) (vf T.xdl (pv 0)))))
   (jd (vg Df rfl (vc (jau jaR (pv 0) (zI jj) jdH)) (jM (i:=2) nd rfl (Ff rfl)) (jd (jz (vL (jbl jaJ jaj jj (pv 2) jj)) (jg (jk (jaA zJ jj))) jt)
   (jg (jE 1 nd (jY jdF (jY vI (jY jpy (pv 1) jj) (pv 2)) jj)))))
   (jg (jk (pv 1))))),?_⟩
  have hmk:atI (([0,0,192,224,240]:List Int).map V.int) ((iv (f0 :: r)).length:Int)=some (.int ((v6 (r.length+1):Nat):Int)):=by
   rw [jy]
   match r,hz with
   | [],_=>rfl
   | [_],_=>rfl
   | [_,_],_=>rfl
   | [_,_,_],_=>rfl
   | _ :: _ :: _ :: _ :: _,h=>simp at h
  refine ⟨_,rfl,a,_,_,.int (f0:Int),rfl,rfl,hl.sq,vn (j:=0) rfl,_,rfl,a,_,rfl,.inl hl.sq,t.t_FIRST_BYTE_MARKS,_,_,_,rfl,rfl,T.xcw.sq,hmk,_,_,rfl,rfl,?_⟩;refine ⟨_,rfl,_,rfl,a,_,rfl,hl.sq,fun p hp=>?_⟩;have hp1:LN (upd H p (.lst (vQ (iv (f0 :: r)) (some 1) none))) p r:=by
   show upd H p _ p=_;rw [jc];exact D7 (fun z=>some (HO.lst z)) (joY (iv (f0 :: r)) 1 (by simp))
  refine ⟨p,rfl,⟨_,hp1.sq⟩,vk (K:=K) (a:=p) (xs:=iv r) (fun i σ H'=>∃ (m:Nat) (v:Option V),σ=[some (.ref a),some (.int (m:Int)),v]∧H'=upd H p (.lst (vQ (iv (f0 :: r)) (some 1) none))∧jK (f0 - v6 (r.length+1)) (r.take i)=some m)
   ⟨f0 - v6 (r.length+1),none,?_,rfl,rfl⟩ (fun i σ H' _ ⟨_,_,_,e,_⟩=>by rw [e];exact hp1.sq) ?_ ?_⟩
  ·have:((f0 - v6 (r.length+1):Nat):Int)=(f0:Int) - ((v6 (r.length+1):Nat):Int):=by omega
   rw [this]
   rfl
  ·rintro i y σ H' hi ⟨m,v,rfl,rfl,hm2⟩;obtain ⟨n,hn,rfl⟩:=jaW hi;have er:r=r.take i++n :: r.drop (i+1):=by
    have h1:=(Cj.mp hn);obtain ⟨h1,h2⟩:=h1;rw [←h2,←Fz h1,List.take_append_drop]
   have bad:¬(128≤n∧n < 192)→Q (.int (-1)) (upd H p (.lst (vQ (iv (f0 :: r)) (some 1) none))):=fun q=>by
    have e:jK (f0 - v6 (r.length+1)) r=none:=by
     have:=jdf (r.take i) (f0 - v6 (r.length+1)) m (n :: r.drop (i+1)) hm2;rw [←er] at this;rw [this,jK,Cc q]
    have:=k _ (jq (o:=.lst (vQ (iv (f0 :: r)) (some 1) none)) hp);rw [e] at this;exact this
   refine ⟨_,rfl,_,_,rfl,rfl,_,rfl,jB (fun h1=>?_) (fun h1=>?_)⟩
   ·have h1':=Co h1;refine ⟨_,_,rfl,rfl,_,rfl,jB (fun h2=>?_) (fun h2=>?_)⟩
    ·have h2':¬(n:Int) < 192:=by simpa using h2
     exact ⟨_,rfl,bad (by omega)⟩
    ·have h2':(n:Int) < 192:=by simpa using h2
     refine ⟨_,rfl,_,_,rfl,rfl,.inr ⟨by decide,by decide⟩,_,rfl,_,_,rfl,rfl,_,_,rfl,rfl,?_⟩;refine ⟨m * 64+n - 128,some (.int (n:Int)),?_,rfl,?_⟩
     ·have:((m * 64+n - 128:Nat):Int)=(m:Int) * 64+(n:Int) - 128:=by omega
      rw [this]
      rfl
     ·rw [take_snoc hn,jdf _ _ m _ hm2,jK,Ce (by omega)]
      rfl
   ·have h1':¬(128:Int)≤n:=fun q=>h1 (C3 q);exact ⟨_,rfl,vG ⟨_,rfl,bad (by omega)⟩⟩
  ·rintro σ H' ⟨m,v,rfl,rfl,hm2⟩;rw [jy,Dg] at hm2;refine ⟨_,rfl,?_⟩;have:=k _ (jq (o:=.lst (vQ (iv (f0 :: r)) (some 1) none)) hp);rw [hm2] at this;exact this
noncomputable def jiw:Sp:=fun vs H Q _=>∃ (a:Addr) (l:List Nat) (k x:Nat),vs=[.ref a,.int (k:Int),.int ((ju x:Nat):Int)]∧LN H a l∧l[k]?=some x∧∀ H',jn H H'→Q (.int (jep (jL (l.drop k) (ju x)))) H'
theorem jld (x:Nat):ju x≤4:=by
 unfold ju
 repeat' split
 all_goals omega
theorem jrK {x:Nat} (h:ju x≠0):v6 (ju x)≤x:=by
 unfold ju at h ⊢;by_cases h1:x < 128
 ·simp only [Ce h1];simp [v6]
 ·by_cases h2:192≤x∧x < 224
  ·simp only [Cc h1,Ce h2];simp [v6];omega
  ·by_cases h3:224≤x∧x < 240
   ·simp only [Cc h1,Cc h2,Ce h3];simp [v6];omega
   ·by_cases h4:240≤x∧x < 248
    ·simp only [Cc h1,Cc h2,Cc h3,Ce h4];simp [v6];omega
    ·simp only [Cc h1,Cc h2,Cc h3,Cc h4] at h;exact absurd rfl h
theorem jhZ (T:Txt K mg t):Cal P w K mg base CX0 2 "character_at" ["octets","place","length"] jiw:=by
 refine T.xb6.ok jc0 (fun vs H Q E h=>?_) (fun f cdv A outer s H vs Q E hr h=>?_)
 ·obtain ⟨a,l,k,x,rfl,_⟩:=h
  rfl
 ·obtain ⟨a,l,i,x,rfl,hl,hx,k⟩:=h;have nd:=jc0.nd;have hi:i < l.length:=(Cj.mp hx).1;refine ⟨_,(jd (jz (PW.pt (jak (jw vE (pv 2) jj) (jaw (jw zh (jY vI (pv 1) (pv 2)) (vf T.xdl (pv 0)))))) (jg (jk (jaA zJ jj))) jt)
   (jd (jE 3 nd (cal (jeY T) hr.m rfl (jb (jau jaR (pv 0) (zI (pv 1)) (zI (jY vI (pv 1) (pv 2)))) jh)))
   (jd (jz (PW.pt (jak (jw jaj (pv 3) (jC ve (glr T.xcx rfl) (pv 2))) (jaw (vL (vz (cal (jcK T) hr.m rfl (jb (pv 3) jh))))))) (jg (jk (jaA zJ jj))) jt)
   (jg (jk (pv 3)))))),?_⟩
  have none1:jL (l.drop i) (ju x)=none→Q (.int (-1)) H:=fun e=>by
   have:=k H (jn.refl H);rw [e] at this;exact this
  refine ⟨_,rfl,rfl,_,rfl,jB (fun h1=>?_) (fun h1=>?_)⟩
  ·have h1':=jF.mp h1;refine vG ⟨_,rfl,none1 ?_⟩;unfold jL;rw [Ce (.inl (by omega))]
  ·have h1':¬ju x=0:=fun q=>h1 (jF.mpr (by omega));refine ⟨_,rfl,_,rfl,_,_,rfl,rfl,_,rfl,a,_,rfl,.inl hl.sq,_,_,rfl,rfl,_,rfl,jB (fun h2=>?_) (fun h2=>?_)⟩
   ·have h2':=Co h2;rw [jy] at h2';refine ⟨_,rfl,none1 ?_⟩;unfold jL;rw [Ce (.inr (by rw [Db];omega))]
   ·have h2':¬((iv l).length:Int) < (i:Int)+((ju x:Nat):Int):=fun q=>h2 (C3 q);rw [jy] at h2';obtain ⟨n,hn⟩:∃ n,ju x=n+1:=⟨ju x - 1,by omega⟩;have hd:(l.drop i).take (ju x)=x :: (l.drop (i+1)).take n:=by
     have e:=Fz hi;have e2:l[i]=x:=(Cj.mp hx).2;rw [e2] at e;rw [e,hn,List.take_succ_cons]
    have hnl:((l.drop (i+1)).take n).length=n:=by
     rw [Dq,Db];omega
    refine ⟨_,rfl,_,rfl,_,rfl,_,rfl,_,rfl,_,_,rfl,rfl,_,rfl,a,_,rfl,hl.sq,fun p hp=>?_⟩;have hp1:LN (upd H p (.lst (vQ (iv l) (some (i:Int)) (some ((i:Int)+((ju x:Nat):Int)))))) p (x :: (l.drop (i+1)).take n):=by
     show upd H p _ p=_;rw [jc,joX,hd]
    refine ⟨p,x,(l.drop (i+1)).take n,rfl,hp1,by have:=jld x;omega,by rw [hnl,←hn];exact jrK h1',fun H' s2=>?_⟩;have s3:jn H H':=(jq hp).trans s2;rw [hnl,←hn];generalize hc:jK (x - v6 (ju x)) ((l.drop (i+1)).take n)=oc;have hch:jL (l.drop i) (ju x)=oc.bind fun c=>if c < vp (ju x)∨isChar c=false then none else some c:=by
     unfold jL;rw [Cc (by rw [Db];omega),hd];show (jK (x - v6 (((l.drop (i+1)).take n).length+1)) _).bind _=_;rw [hnl,←hn,hc]
    have hlm:atI (([0,0,128,2048,65536]:List Int).map V.int) ((ju x:Nat):Int)=some (.int ((vp (ju x):Nat):Int)):=by
     have:=jld x;generalize ju x=m at this ⊢
     match m,this with
     | 0,_=>rfl
     | 1,_=>rfl
     | 2,_=>rfl
     | 3,_=>rfl
     | 4,_=>rfl
     | m+5,h=>omega
    have none2:jL (l.drop i) (ju x)=none→Q (.int (-1)) H':=fun e=>by
     have:=k H' s3;rw [e] at this;exact this
    refine ⟨_,rfl,_,rfl,t.t_LEAST_NUMBERS,_,_,_,rfl,rfl,T.xcy.sq,hlm,_,_,rfl,rfl,_,rfl,jB (fun h3=>?_) (fun h3=>?_)⟩
    ·have h3':=Co h3;refine vG ⟨_,rfl,none2 ?_⟩;rw [hch];cases oc with
     | none=>rfl
     | some c =>
      show (if _ then _ else _)=none;rw [Ce (.inl (by simp only [jep] at h3';omega))]
    ·have h3':¬jep oc < ((vp (ju x):Nat):Int):=fun q=>h3 (C3 q);cases oc with
     | none=>exact absurd (show (-1:Int) < _ by omega) h3'
     | some c =>
      refine ⟨_,rfl,_,rfl,_,rfl,jB (fun h4=>?_) (fun h4=>?_)⟩
      ·have h4':isChar c=false:=by
        simpa [jep] using h4
       refine ⟨_,rfl,none2 ?_⟩;rw [hch];show (if _ then _ else _)=none;rw [Ce (.inr h4')]
      ·have h4':isChar c=true:=by
        simpa [jep] using h4
       refine ⟨_,rfl,?_⟩;have:=k H' s3;rw [hch] at this;have e:((some c).bind fun c=>if c < vp (ju x)∨isChar c=false then none else some c)=some c:=by
        show (if _ then _ else _)=some c;rw [Cc];rintro (q|q)
        ·simp only [jep] at h3';omega
        ·rw [h4'] at q;cases q
       rw [e] at this;exact this
noncomputable def jhu:Sp:=fun vs H Q _=>∃ a l,vs=[.ref a]∧LN H a l∧l.length≤100000∧(chs l=none→∀ H',jn H H'→Q .non H')∧(∀ cs,chs l=some cs→∀ H' p,jn H H'→H p=none→LN H' p cs→Q (.ref p) H')
theorem jhI {b:List Nat} {c:Nat} (h:jL b n=some c):1≤n∧n≤b.length:=by
 unfold jL at h;by_cases q:n=0∨b.length < n
 ·rw [Ce q] at h;cases h
 ·omega
theorem jhb (T:Txt K mg t):Cal P w K mg base CX0 3 "characters_of" ["octets"] jhu:=by
 refine T.xb7.ok jcu (fun vs H Q E h=>?_) (fun f cdv A outer s H vs Q E hr h=>?_)
 ·obtain ⟨a,l,rfl,_⟩:=h
  rfl
 ·obtain ⟨a,l,rfl,hl,hz,k1,k2⟩:=h;have nd:=jcu.nd;refine ⟨_,(jd (jE 1 nd (jN jh))
   (jd (jE 2 nd jj)
   (jd (jlB Df (jw jaj (pv 2) (vf T.xdl (pv 0))) (jd (jE 3 nd (cal (jcB T) hr.m rfl (jb (jC jJ (pv 0) (pv 2)) jh)))
   (jd (jE 4 nd (cal (jhZ T) hr.m rfl (jb (pv 0) (jb (pv 2) (jb (pv 3) jh)))))
   (jd (jz (jw vE (pv 4) (jaA zJ jj)) (jg (jk jbD)) jt)
   (jd (vC (zy De Dm Dn vy (pv 1) (jb (pv 4) jh)))
   (jg (jE 2 nd (jY vI (pv 2) (pv 3)))))))))
   (jg (jk (pv 1)))))),?_⟩
  refine ⟨C4 _,fun q hq=>?_⟩;refine ⟨fun m σ H'=>∃ (i:Nat) (row:List Nat) (v3 v4:Option V),m=l.length - i∧i≤l.length∧row.length≤i∧σ=[some (.ref a),some (.ref q),some (.int (i:Int)),v3,v4]∧jn H H'∧LN H' q row∧chs l=(chs (l.drop i)).map (fun x=>row++x),
   ⟨_,0,[],none,none,rfl,C4 _,Cl _,rfl,jq hq,jc,by rw [G1];cases chs l<;>rfl⟩,?_⟩
  rintro m σ H' ⟨i,row,v3,v4,rfl,hil,hrl,rfl,s5,hrow,hch⟩;refine ⟨_,rfl,_,rfl,a,_,rfl,.inl (hl.same s5).sq,_,_,rfl,rfl,_,rfl,jB (fun h1=>?_) (fun h1=>?_)⟩
  ·have h1':=Co h1;rw [jy] at h1';have hi:i < l.length:=by omega
   obtain ⟨x,hx⟩:∃ x,l[i]?=some x:=⟨_,Cz hi⟩;refine ⟨fun σ' H2=>∃ (j:Nat) (row':List Nat) (v3 v4:Option V),i < j∧j≤l.length∧row'.length≤j∧σ'=[some (.ref a),some (.ref q),some (.int (j:Int)),v3,v4]∧jn H H2∧LN H2 q row'∧chs l=(chs (l.drop j)).map (fun x=>row'++x),
    fun σ' H2 ⟨j,row',v3,v4,b1,b2,b3,b4,b5,b6,b7⟩=>⟨l.length - j,by omega,j,row',v3,v4,rfl,b2,b3,b4,b5,b6,b7⟩,?_⟩
   refine ⟨_,rfl,_,rfl,a,_,_,_,rfl,rfl,(hl.same s5).sq,vn (jf1 hx),x,rfl,?_⟩;refine ⟨_,rfl,_,rfl,_,rfl,a,l,i,x,rfl,hl.same s5,hx,fun H2 s2=>?_⟩;have hd:l.drop i=x :: l.drop (i+1):=by
    have e:=Fz hi;rw [(Cj.mp hx).2] at e;exact e
   have hcc:chs (l.drop i)=(jL (l.drop i) (ju x)).bind fun c=>(chs ((l.drop i).drop (ju x))).map fun t=>c :: t:=by
    rw [hd];exact jbb
   cases hca:jL (l.drop i) (ju x) with
   | none =>
    rw [hca] at hcc;refine ⟨_,rfl,_,rfl,rfl,_,rfl,vG ?_⟩;exact k1 (by rw [hch,hcc];rfl) H2 (s5.trans s2)
   | some c =>
    rw [hca] at hcc;have hc:=jhI hca;rw [Db] at hc;refine ⟨_,rfl,_,rfl,rfl,_,rfl,jB (fun h2=>?_) (fun h2=>?_)⟩
    ·have h2':=jF.mp h2;simp only [jep] at h2';omega
    ·refine ⟨_,rfl,.inl ⟨rfl,_,SqL.of (hrow.same s2)⟩,_,rfl,q,_,_,rfl,rfl,hrow.same s2,j7 (by rw [jy];omega),?_⟩;refine ⟨_,rfl,_,rfl,_,_,rfl,rfl,?_⟩;refine ⟨i+ju x,row++[c],some (.int ((ju x:Nat):Int)),some (.int (jep (some c))),by omega,by omega,by rw [Ci];show _+1≤_;omega,?_,jA (s5.trans s2) hq,?_,?_⟩
     ·have:((i+ju x:Nat):Int)=(i:Int)+((ju x:Nat):Int):=by omega
      rw [this]
      rfl
     ·show upd H2 q _ q=_;rw [jc];exact D7 (fun z=>some (HO.lst z)) (jap _ [c])
     ·rw [hch,hcc,List.drop_drop];show Option.map _ (Option.map _ _)=_;rw [Option.map_map];congr 1;funext z;show row++c :: z=row++[c]++z;simp
  ·have h1':¬(i:Int) < ((iv l).length:Int):=fun q=>h1 (C3 q);rw [jy] at h1';refine ⟨_,rfl,?_⟩;rw [Fn (by omega)] at hch;refine k2 row (by rw [hch,jrq];simp) H' q s5 hq hrow
noncomputable def jgm:Sp:=fun vs H Q _=>∃ a l,vs=[.ref a]∧LN H a l∧Q (.bl (vD l)) H
theorem jbM (T:Txt K mg t):Cal P w K mg base CX0 2 "is_row_of_word" ["part"] jgm:=by
 refine T.xba.ok jbT (fun vs H Q E h=>?_) (fun f cdv A outer s H vs Q E hr h=>?_)
 ·obtain ⟨a,l,rfl,_⟩:=h
  rfl
 ·obtain ⟨a,l,rfl,hl,k⟩:=h;have nd:=jbT.nd;refine ⟨_,(jd (vg Df rfl (vc (pv 0)) (jM (i:=1) nd rfl (Ff rfl)) (jg (jz (vL (vz (cal (jeo T) hr.m rfl (jb (pv 1) jh)))) (jg (jk vY)) jt)))
   (jg (jk (zm zh (vf T.xdl (pv 0)) jj)))),?_⟩
  refine ⟨_,rfl,a,rfl,⟨_,hl.sq⟩,vk (K:=K) (a:=a) (xs:=iv l) (fun i σ H'=>∃ v:Option V,σ=[some (.ref a),v]∧H'=H∧(l.take i).all (fun c=>decide (32 < c) && c != 127)=true)
   ⟨none,rfl,rfl,rfl⟩ (fun i σ H' _ ⟨_,_,e,_⟩=>by rw [e];exact hl.sq) ?_ ?_⟩
  ·rintro i y σ H' hi ⟨v,rfl,rfl,hd⟩;obtain ⟨n,hn,rfl⟩:=jaW hi;refine ⟨_,rfl,n,rfl,_,rfl,jB (fun h1=>?_) (fun h1=>?_)⟩
   ·have h1':(decide (32 < n) && n != 127)=false:=by
     cases hb:(decide (32 < n) && n != 127) with
     | false=>rfl
     | true=>rw [hb] at h1;cases h1
    have e:vD l=false:=by
     unfold vD;have:l.all (fun c=>decide (32 < c) && c != 127)=false:=by
      rw [←Fq,Dk];intro q;rw [q n (Cw hn)] at h1';cases h1'
     rw [this,Dv]
    rw [e] at k;exact k
   ·have h1':(decide (32 < n) && n != 127)=true:=by
     cases hb:(decide (32 < n) && n != 127) with
     | true=>rfl
     | false=>rw [hb] at h1;exact absurd rfl h1
    refine ⟨_,rfl,rfl,?_⟩;rw [take_snoc hn,Ln,hd];simp only [Jf,List.all_nil,h1']
    rfl
  ·rintro σ H' ⟨v,rfl,rfl,hd⟩;rw [jy,Dg] at hd;refine ⟨_,rfl,a,_,rfl,.inl hl.sq,_,_,rfl,rfl,?_⟩;have e:vD l=decide ((0:Int) < ((iv l).length:Int)):=by
    unfold vD;rw [hd,jy];cases l with
    | nil=>rfl
    | cons x r=>simp
   rw [e] at k;exact k
end
noncomputable def wf (r x:Addr) (l m c:Int):List (Str×V):=[("reading",.ref r),("text",.ref x),("left",.int l),("right",.int m),("cost",.int c)]
noncomputable def vB (C:Addr) (H:Hp) (a:Addr) (wd:Word):Prop:=∃ dx r x,H a=some (.ins C dx (wf r x wd.left wd.right wd.cost))∧LN H r wd.reading∧LN H x wd.text
theorem vB.same {wd:Word} (h:vB C H a wd) (s:jn H H'):vB C H' a wd:=by
 obtain ⟨dx,r,x,h1,h2,h3⟩:=h;exact ⟨dx,r,x,s _ _ h1,h2.same s,h3.same s⟩
noncomputable def vm (C:Addr) (H:Hp) (b:Addr) (ws:List Word):Prop:=∃ as:List Addr,H b=some (.lst (as.map V.ref))∧Paired (vB C H) as ws
theorem vm.same {b:Addr} {ws:List Word} (h:vm C H b ws) (s:jn H H'):vm C H' b ws:=by
 obtain ⟨as,h1,h2⟩:=h;exact ⟨as,s _ _ h1,Paired.mapM h2 fun _ _ _ q=>q.same s⟩
theorem jdC:¬(decide (V.ref a=V.non)=true):=fun h=>by
 have:=Co h;cases this
theorem jkV (as:List Addr) (k:Nat) (h:k≤as.length):vQ (as.map V.ref) (some (k:Int)) none=(as.drop k).map V.ref:=by
 rw [joY _ _ (by rw [Cb];exact h),←List.map_drop]
theorem Paired.dropP {α β:Type} {F:α→β→Prop}:∀ {a:List α} {b:List β} (n:Nat),Paired F a b→Paired F (a.drop n) (b.drop n)
 | _,_,0,h=>h
 | _,_,_+1,.nil=>.nil
 | _,_,n+1,.cons _ t=>Paired.dropP n t
section
variable {P:Program} {w:World} {K:Frag} {mg:Str→Option Value} {base:Heap} {t:Adr}
noncomputable def jl2 (C:Addr):Sp:=fun vs H Q _=>∃ p dx r x l m c,vs=[.ref p,.ref r,.ref x,.int l,.int m,.int c]∧H p=some (.ins C dx [])∧∀ H':Hp,H' p=some (.ins C dx (wf r x l m c))→(∀ b o,H b=some o→b≠p→H' b=some o)→Q .non H'
theorem jlo (T:Txt K mg t):Met P w K mg base 1 t.c_Word "__init__" ["self","reading","text","left","right","cost"] (jl2 t.c_Word):=by
 refine T.xb8.ok jlQ (fun vs H Q E h=>?_) (fun f cdv A outer s H vs Q E hr h=>?_)
 ·obtain ⟨p,dx,r,x,l,m,c,rfl,_⟩:=h
  rfl
 ·obtain ⟨p,dx,r,x,l,m,c,rfl,hp,k⟩:=h;refine ⟨_,(jd (vJ (pv 0) (pv 1) rfl)
   (jd (vJ (pv 0) (pv 2) rfl)
   (jd (vJ (pv 0) (pv 3) rfl)
   (jd (vJ (pv 0) (pv 4) rfl)
   (jg (vJ (pv 0) (pv 5) rfl)))))),?_⟩
  refine ⟨_,rfl,_,rfl,p,t.c_Word,dx,_,rfl,hp,T.xa3.cl,T.xa4,by decide,?_⟩;refine ⟨_,rfl,_,rfl,p,t.c_Word,dx,_,rfl,jc,T.xa3.cl,T.xa5,(by show 1 < 1000;decide),?_⟩;refine ⟨_,rfl,_,rfl,p,t.c_Word,dx,_,rfl,jc,T.xa3.cl,T.xa6,(by show 2 < 1000;decide),?_⟩;refine ⟨_,rfl,_,rfl,p,t.c_Word,dx,_,rfl,jc,T.xa3.cl,T.xa7,(by show 3 < 1000;decide),?_⟩;refine ⟨_,rfl,_,rfl,p,t.c_Word,dx,_,rfl,jc,T.xa3.cl,T.xa8,(by show 4 < 1000;decide),?_⟩;refine k _ ?_ fun b o e hb=>by rw [ji hb,ji hb,ji hb,ji hb,ji hb];exact e
  rw [jc]
  rfl
noncomputable def jov (C:Addr):Sp:=fun vs H Q _=>∃ a l,vs=[.ref a]∧LN H a l∧l≠[]∧l.length≤100000∧(vt l=none→∀ H',jn H H'→Q .non H')∧(∀ wd,vt l=some wd→∀ H' p,jn H H'→vB C H' p wd→Q (.ref p) H')
theorem jmZ:∀ (n:Nat) (l x:List Nat),l.length≤n→chs l=some x→x.length≤l.length
 | 0,[],x,_,h=>by cases h;exact Cl _
 | 0,_ :: _,_,h,_=>by simp at h
 | n+1,[],x,_,h=>by cases h;exact Cl _
 | n+1,f :: l,x,hn,h=>by
  rw [jbb] at h;cases hc:jL (f :: l) (ju f) with
  | none=>rw [hc] at h;cases h
  | some c =>
   rw [hc] at h;have hl:=jhI hc;have h2:(chs ((f :: l).drop (ju f))).map (fun t=>c :: t)=some x:=h;cases hr:chs ((f :: l).drop (ju f)) with
   | none=>rw [hr] at h2;cases h2
   | some y =>
    rw [hr] at h2;have e:c :: y=x:=Cs h2;have:=jmZ n _ y (by rw [Db];simp only [Cd] at hn hl ⊢;omega) hr;rw [Db] at this;rw [←e,Cd];omega
theorem jpB (l:List Nat):(jD l).length≤l.length+1:=by
 rw [←jly];unfold jbu;have:=jlD l ([],[]);simp only [Ct,Fy] at this;rw [Ci];show _+1≤_;omega
theorem joi (T:Txt K mg t):Cal P w K mg base CX0 4 "word_of" ["line"] (jov t.c_Word):=by
 refine T.xbb.ok jis (fun vs H Q E h=>?_) (fun f cdv A outer s H vs Q E hr h=>?_)
 ·obtain ⟨a,l,rfl,_⟩:=h
  rfl
 ·obtain ⟨a,l,rfl,hl,hne,hz,k1,k2⟩:=h;have nd:=jis.nd;refine ⟨_,(jd (jz (vL (vz (cal (jgx T) hr.m rfl (jb (pv 0) jh)))) (jg (jk jbD)) jt)
   (jd (jE 1 nd (cal (jhb T) hr.m rfl (jb (jau jaR (pv 0) jdH (zI (jaA zJ jj))) jh)))
   (jd (jz (jac (jbC (pv 1))) (jg (jk jbD)) jt)
   (jd (jE 2 nd (cal (jgz T) hr.m rfl (jb (pv 1) jh)))
   (jd (jz (PW.pt (jak (jw zE (vf T.xdl (pv 2)) jj) (jak (vL (vz (cal (jbM T) hr.m rfl (jb (jC jJ (pv 2) jj) jh)))) (jaw (vL (vz (cal (jbM T) hr.m rfl (jb (jC jJ (pv 2) jj) jh)))))))) (jg (jk jbD)) jt)
   (jd (jE 3 nd (cal (jfk T) hr.m rfl (jb (jau jaR (pv 2) (zI jj) jdH) jh)))
   (jd (jz (jac (jbC (pv 3))) (jg (jk jbD)) jt)
   (jg (jk (mak (jlo T) T.xa3 hr.m rfl (jb (jC jJ (pv 2) jj) (jb (jC jJ (pv 2) jj) (jb (jC jJ (pv 3) jj) (jb (jC jJ (pv 3) jj) (jb (jC jJ (pv 3) jj) jh))))))))))))))),?_⟩
  refine ⟨_,rfl,a,l,rfl,hl,hne,_,rfl,jB (fun h1=>?_) (fun h1=>?_)⟩
  ·have h1':¬l.getLast?=some 10:=by simpa using h1
   exact k1 (by unfold vt;rw [Cc h1']) H (jn.refl H)
  ·have h1':l.getLast?=some 10:=by simpa using h1
   have eW:vt l=ja4 l.dropLast:=by unfold vt;rw [Ce h1']
   rw [eW] at k1 k2;have hdl:l.dropLast.length≤100000:=by rw [List.length_dropLast];omega
   refine ⟨_,rfl,_,rfl,_,rfl,a,_,rfl,hl.sq,fun p hp=>?_⟩;have hp1:LN (upd H p (.lst (vQ (iv l) none (some (-1))))) p l.dropLast:=by
    show upd H p _ p=_;rw [jc,jkU]
   have s1:jn H (upd H p (.lst (vQ (iv l) none (some (-1))))):=jq hp;refine ⟨p,l.dropLast,rfl,hp1,hdl,fun hc H2 s2=>?_,fun cs hc H2 q s2 hq hcs=>?_⟩
   ·refine ⟨_,rfl,_,rfl,vG ?_⟩;exact k1 (by unfold ja4;rw [hc];rfl) H2 (s1.trans s2)
   ·refine ⟨_,rfl,_,rfl,jB (fun h=>absurd h jdC) (fun _=>?_)⟩;have hcl:=jmZ _ _ _ (Cl _) hc;refine ⟨_,rfl,q,cs,rfl,hcs,by omega,fun H3 pp s3 hpp hps=>?_⟩;have s13:jn H H3:=(s1.trans s2).trans s3;have eP:ja4 l.dropLast=match jD cs with
      | [r,t,x,y,c]=>if vD r=true∧vD t=true∧jP x=true∧jP y=true∧jP c=true then some ⟨r,t,jU x,jU y,jU c⟩ else none
      | _=>none:=by unfold ja4;rw [hc];rfl
    rw [eP] at k1 k2;obtain ⟨as,hpl,hpr⟩:=hps;have hlen:=Cr hpr;refine ⟨_,rfl,pp,_,rfl,.inl (SqL.of hpl),rfl,_,rfl,jB (fun h2=>?_) (fun h2=>?_)⟩
    ·have h2':¬(jD cs).length=5:=by
      intro e;have e5:((as.map V.ref).length:Int)=5:=by rw [Cb,hlen,e];rfl
      rw [e5] at h2;simp at h2
     refine vG (k1 ?_ H3 s13)
     match hh:jD cs,h2' with
     | [],_=>rfl
     | [_],_=>rfl
     | [_,_],_=>rfl
     | [_,_,_],_=>rfl
     | [_,_,_,_],_=>rfl
     | [_,_,_,_,_],h=>exact absurd rfl h
     | _ :: _ :: _ :: _ :: _ :: _ :: _,_=>rfl
    ·have h2':(jD cs).length=5:=by
      have e5:((as.map V.ref).length:Int)=5:=by simpa using h2
      rw [Cb,hlen] at e5;omega
     match hpc:jD cs,h2' with
     | [r,x,n1,n2,n3],_ =>
     rw [hpc] at hpr k1 k2;have ha5:as.length=5:=by rw [hlen,hpc];rfl
     match as,ha5 with
     | [b0,b1,b2,b3,b4],_ =>
     cases hpr with|cons r0 hpr =>
     cases hpr with|cons r1 hpr =>
     refine ⟨_,rfl,pp,_,_,.ref b0,rfl,rfl,SqL.of hpl,rfl,b0,r,rfl,r0,_,rfl,jB (fun h3=>?_) (fun h3=>?_)⟩
     ·have h3':vD r=false:=by simpa using h3
      refine vG (k1 ?_ H3 s13);show (if _ then _ else _)=none;rw [Cc];rintro ⟨q1,_⟩;rw [h3'] at q1;cases q1
     ·have h3':vD r=true:=by simpa using h3
      refine ⟨_,rfl,pp,_,_,.ref b1,rfl,rfl,SqL.of hpl,rfl,b1,x,rfl,r1,_,rfl,jB (fun h4=>?_) (fun h4=>?_)⟩
      ·have h4':vD x=false:=by simpa using h4
       refine k1 ?_ H3 s13;show (if _ then _ else _)=none;rw [Cc];rintro ⟨_,q1,_⟩;rw [h4'] at q1;cases q1
      ·have h4':vD x=true:=by simpa using h4
       refine ⟨_,rfl,_,rfl,pp,_,rfl,SqL.of hpl,fun pq hpq=>?_⟩;have hq1:LNs (upd H3 pq (.lst (vQ ([b0,b1,b2,b3,b4].map V.ref) (some 2) none))) pq [n1,n2,n3]:=by
        refine ⟨[b2,b3,b4],?_,LNp.same hpr (jq hpq)⟩;rw [jc];exact D7 (fun z=>some (HO.lst z)) (jkV [b0,b1,b2,b3,b4] 2 (by simp))
       have s4:jn H3 (upd H3 pq (.lst (vQ ([b0,b1,b2,b3,b4].map V.ref) (some 2) none))):=jq hpq;refine ⟨pq,[n1,n2,n3],rfl,hq1,by simp,fun hn=>?_,fun hn H5 pv s5 hpv hv=>?_⟩
       ·refine ⟨_,rfl,_,rfl,vG (k1 ?_ _ (s13.trans s4))⟩;show (if _ then _ else _)=none;rw [Cc];rintro ⟨_,_,q1,q2,q3⟩;simp [q1,q2,q3] at hn
       ·refine ⟨_,rfl,_,rfl,jB (fun h=>absurd h jdC) (fun _=>?_)⟩;have hn':jP n1=true∧jP n2=true∧jP n3=true:=by simpa using hn
        have hpl5:=s5 _ _ (s4 _ _ hpl);refine ⟨_,rfl,pp,_,_,.ref b0,rfl,rfl,SqL.of hpl5,rfl,_,rfl,pp,_,_,.ref b1,rfl,rfl,SqL.of hpl5,rfl,_,rfl,pv,_,_,.int ((jU n1:Nat):Int),rfl,rfl,hv.sq,rfl,
         _,rfl,pv,_,_,.int ((jU n2:Nat):Int),rfl,rfl,hv.sq,rfl,_,rfl,pv,_,_,.int ((jU n3:Nat):Int),rfl,rfl,hv.sq,rfl,fun z dz hz0 hdz ndz=>?_⟩
        refine ⟨z,dz,b0,b1,_,_,_,rfl,jc,fun H6 h6 k6=>⟨rfl,?_⟩⟩;have s6:jn H5 H6:=jn.made hz0 hdz k6;have s36:jn H3 H6:=(s4.trans s5).trans s6;refine k2 ⟨r,x,jU n1,jU n2,jU n3⟩ ?_ H6 z (s13.trans s36) ⟨dz,b0,b1,h6,LN.same r0 s36,LN.same r1 s36⟩;show (if _ then _ else _)=some _;rw [Ce ⟨h3',h4',hn'⟩]
end
theorem zY (r x:Addr) (l m c:Int):(wf r x l m c).lookup ("reading":Str)=some (.ref r):=rfl
theorem jd5 (r x:Addr) (l m c:Int):(wf r x l m c).lookup ("text":Str)=some (.ref x):=rfl
theorem jnM (r x:Addr) (l m c:Int):(wf r x l m c).lookup ("left":Str)=some (.int l):=rfl
theorem jmk (r x:Addr) (l m c:Int):(wf r x l m c).lookup ("right":Str)=some (.int m):=rfl
theorem jjb (r x:Addr) (l m c:Int):(wf r x l m c).lookup ("cost":Str)=some (.int c):=rfl
section
variable {P:Program} {w:World} {K:Frag} {mg:Str→Option Value} {base:Heap} {t:Adr}
noncomputable def jhx (C:Addr):Sp:=fun vs H Q _=>∃ a dx r x l m c,vs=[.ref a]∧H a=some (.ins C dx (wf r x l m c))∧∀ p,H p=none→Q (.ref p) (upd H p (.tup [.ref r,.int c,.ref x]))
theorem jhe (T:Txt K mg t):Cal P w K mg base CX0 1 "order_of_word" ["word"] (jhx t.c_Word):=by
 refine T.xb9.ok jhp (fun vs H Q E h=>?_) (fun f cdv A outer s H vs Q E hr h=>?_)
 ·obtain ⟨a,dx,r,x,l,m,c,rfl,_⟩:=h
  rfl
 ·obtain ⟨a,dx,r,x,l,m,c,rfl,ha,k⟩:=h;refine ⟨_,(jg (jk (jav (jb (jH (pv 0) rfl) (jb (jH (pv 0) rfl) (jb (jH (pv 0) rfl) jh)))))),?_⟩;refine ⟨_,rfl,a,_,dx,_,_,rfl,ha,T.xa3.cl,T.xa4,zY ..,_,rfl,a,_,dx,_,_,rfl,ha,T.xa3.cl,T.xa8,jjb ..,_,rfl,a,_,dx,_,_,rfl,ha,T.xa3.cl,T.xa5,jd5 ..,by show 3≤sizeLine;decide,fun p hp=>k p hp⟩
noncomputable def jiz (C:Addr):Sp:=fun vs H Q _=>∃ a wd,vs=[.ref a]∧vB C H a wd∧Q (.bl wd.small) H
theorem jq0 (wd:Word):wd.small=(decide (wd.reading.length≤32) && (decide (wd.text.length≤32) && (decide (wd.left < 256) && (decide (wd.right < 256) && decide (wd.cost≤65535))))):=rfl
theorem jcL (T:Txt K mg t):Cal P w K mg base CX0 1 "keeps_limits" ["word"] (jiz t.c_Word):=by
 refine T.xbc.ok jin (fun vs H Q E h=>?_) (fun f cdv A outer s H vs Q E hr h=>?_)
 ·obtain ⟨a,wd,rfl,_⟩:=h
  rfl
 ·obtain ⟨a,wd,rfl,⟨dx,r,x,ha,hr1,hx1⟩,k⟩:=h;refine ⟨_,(jd (jz (PW.pt (jak (jw zh (vf T.xdl (jH (pv 0) rfl)) (gli T.xd0 rfl)) (jaw (jw zh (vf T.xdl (jH (pv 0) rfl)) (gli T.xd0 rfl))))) (jg (jk vY)) jt)
   (jg (jk (jh7 (zm jaJ (jH (pv 0) rfl) (gli T.xct rfl)) (jh7 (zm jaJ (jH (pv 0) rfl) (gli T.xct rfl)) (jh8 (zm jaJ (jH (pv 0) rfl) (gli T.xcu rfl)))))))),?_⟩
  rw [jq0] at k;have fin:∀ b:Bool,(b=true↔(wd.reading.length≤32∧wd.text.length≤32∧wd.left < 256∧wd.right < 256∧wd.cost≤65535))→Q (.bl b) H:=fun b hb=>by
   have e:(decide (wd.reading.length≤32) && (decide (wd.text.length≤32) && (decide (wd.left < 256) && (decide (wd.right < 256) && decide (wd.cost≤65535)))))=b:=by
    rw [C8,hb];simp
   rw [e] at k;exact k
  refine ⟨_,rfl,a,_,dx,_,_,rfl,ha,T.xa3.cl,T.xa4,zY ..,r,_,rfl,.inl hr1.sq,_,_,rfl,rfl,_,rfl,jB (fun h1=>?_) (fun h1=>?_)⟩
  ·have h1':=Co h1;rw [jy] at h1';exact vG (fin false (by simp;omega))
  ·have h1':¬(32:Int) < ((iv wd.reading).length:Int):=fun q=>h1 (C3 q);rw [jy] at h1';refine ⟨_,rfl,a,_,dx,_,_,rfl,ha,T.xa3.cl,T.xa5,jd5 ..,x,_,rfl,.inl hx1.sq,_,_,rfl,rfl,_,rfl,jB (fun h2=>?_) (fun h2=>?_)⟩
   ·have h2':=Co h2;rw [jy] at h2';exact fin false (by simp;omega)
   ·have h2':¬(32:Int) < ((iv wd.text).length:Int):=fun q=>h2 (C3 q);rw [jy] at h2';refine ⟨_,rfl,a,_,dx,_,_,rfl,ha,T.xa3.cl,T.xa6,jnM ..,_,_,rfl,rfl,_,rfl,jB (fun h3=>?_) (fun h3=>?_)⟩
    ·have h3':=Co h3;refine ⟨_,rfl,a,_,dx,_,_,rfl,ha,T.xa3.cl,T.xa7,jmk ..,_,_,rfl,rfl,_,rfl,jB (fun h4=>?_) (fun h4=>?_)⟩
     ·have h4':=Co h4;refine ⟨_,rfl,a,_,dx,_,_,rfl,ha,T.xa3.cl,T.xa8,jjb ..,_,_,rfl,rfl,fin _ ?_⟩;rw [Dd];omega
     ·have h4':¬((wd.right:Int))≤255:=fun q=>h4 (C3 q);exact fin false (by simp;omega)
    ·have h3':¬((wd.left:Int))≤255:=fun q=>h3 (C3 q);exact fin false (by simp;omega)
noncomputable def jiD (C:Addr):Sp:=fun vs H Q _=>∃ a b wd ws,vs=[.ref a,.ref b]∧vB C H a wd∧vm C H b ws∧Q (.bl (ws.any fun q=>q.same wd)) H
theorem jhl (q wd:Word):q.same wd=(decide (q.reading=wd.reading) && decide (q.text=wd.text)):=by
 unfold Sy.Word.same;rw [C8];simp
theorem jcM (T:Txt K mg t):Cal P w K mg base CX0 1 "stands_among" ["word","words"] (jiD t.c_Word):=by
 refine T.xbd.ok jc3 (fun vs H Q E h=>?_) (fun f cdv A outer s H vs Q E hr h=>?_)
 ·obtain ⟨a,b,wd,ws,rfl,_⟩:=h
  rfl
 ·obtain ⟨a,b,wd,ws,rfl,⟨dx,r,x,ha,hr1,hx1⟩,⟨as,hb,hws⟩,k⟩:=h;have hu64:=hr.units;have nd:=jc3.nd;have elen:=Cr hws;refine ⟨_,(jd (vg Df rfl (vc (pv 1)) (jM (i:=2) nd rfl (Ff rfl)) (jg (jz (PW.pt (jpL (jw (jh4 hu64) (jH (pv 2) rfl) (jH (pv 0) rfl)) (jnB (jw (jh4 hu64) (jH (pv 2) rfl) (jH (pv 0) rfl))))) (jg (jk vY)) jt)))
   (jg (jk vY))),?_⟩
  refine ⟨_,rfl,b,rfl,⟨_,SqL.of hb⟩,vk (K:=K) (a:=b) (xs:=as.map V.ref) (fun i σ H'=>∃ v:Option V,σ=[some (.ref a),some (.ref b),v]∧H'=H∧((ws.take i).any fun q=>q.same wd)=false)
   ⟨none,rfl,rfl,rfl⟩ (fun i σ H' _ ⟨_,_,e,_⟩=>by rw [e];exact SqL.of hb) ?_ ?_⟩
  ·rintro i y σ H' hi ⟨v,rfl,rfl,hd⟩;obtain ⟨c,hc,rfl⟩:=vh hi;obtain ⟨q,hq,dq,rq,xq,hcq,hrq,hxq⟩:=Paired.getP hws hc;have no:q.same wd=false→∃ v',[some (V.ref a),some (V.ref b),some (V.ref c)]=[some (V.ref a),some (V.ref b),v']∧H'=H'∧((ws.take (i+1)).any fun q=>q.same wd)=false:=fun e=>by
    refine ⟨_,rfl,rfl,?_⟩;rw [take_snoc hq,List.any_append,hd];simp [e]
   refine ⟨_,rfl,c,_,dq,_,_,rfl,hcq,T.xa3.cl,T.xa4,zY ..,_,rfl,a,_,dx,_,_,rfl,ha,T.xa3.cl,T.xa4,zY ..,dN q.reading,dN wd.reading,hrq.dp,hr1.dp,shN _,shN _,_,rfl,?_⟩;rw [jkz];refine jB (fun h1=>?_) (fun h1=>?_)
   ·refine ⟨_,rfl,c,_,dq,_,_,rfl,hcq,T.xa3.cl,T.xa5,jd5 ..,_,rfl,a,_,dx,_,_,rfl,ha,T.xa3.cl,T.xa5,jd5 ..,dN q.text,dN wd.text,hxq.dp,hx1.dp,shN _,shN _,_,rfl,?_⟩;rw [jkz];refine jB (fun h2=>?_) (fun h2=>?_)
    ·have e:(ws.any fun q=>q.same wd)=true:=by
      rw [Ji];exact ⟨q,Cw hq,by rw [jhl,h1,h2];rfl⟩
     rw [e] at k;exact k
    ·refine no ?_;rw [jhl,h1];simpa using h2
   ·refine jbJ (no ?_);rw [jhl];have:decide (q.reading=wd.reading)=false:=by simpa using h1
    rw [this,Dv]
  ·rintro σ H' ⟨v,rfl,rfl,hd⟩;rw [Cb,elen,Dg] at hd;rw [hd] at k;exact k
noncomputable def vX (wd:Word) (ws:List Word):Int:=if wd.small=false then 2 else if (ws.any fun q=>q.same wd)=true then 3 else if ws.length=128 then 4 else 0
noncomputable def jhv (C:Addr):Sp:=fun vs H Q _=>(∃ b,vs=[.non,.ref b]∧Q (.int 1) H)∨∃ a b wd ws,vs=[.ref a,.ref b]∧vB C H a wd∧vm C H b ws∧Q (.int (vX wd ws)) H
theorem jhc (T:Txt K mg t):Cal P w K mg base CX0 2 "kind_of_fault" ["word","words"] (jhv t.c_Word):=by
 refine T.xbe.ok jhn (fun vs H Q E h=>?_) (fun f cdv A outer s H vs Q E hr h=>?_)
 ·rcases h with ⟨b,rfl,_⟩|⟨a,b,wd,ws,rfl,_⟩<;>rfl
 ·rcases h with ⟨b,rfl,k⟩|⟨a,b,wd,ws,rfl,ha,hb,k⟩
  ·refine ⟨_,(jd (jz (jac (jbC (pv 0))) (jg (jk jj)) jt)
   (jd (jz (vL (vz (cal (jcL T) hr.m rfl (jb (pv 0) jh)))) (jg (jk jj)) jt)
   (jd (jz (vz (cal (jcM T) hr.m rfl (jb (pv 0) (jb (pv 1) jh)))) (jg (jk jj)) jt)
   (jd (jz (jw vE (vf T.xdl (pv 1)) (gli T.xcz rfl)) (jg (jk jj)) jt)
   (jg (jk jj)))))),?_⟩
   exact ⟨_,rfl,_,rfl,vG k⟩
  ·refine ⟨_,(jd (jz (jac (jbC (pv 0))) (jg (jk jj)) jt)
   (jd (jz (vL (vz (cal (jcL T) hr.m rfl (jb (pv 0) jh)))) (jg (jk jj)) jt)
   (jd (jz (vz (cal (jcM T) hr.m rfl (jb (pv 0) (jb (pv 1) jh)))) (jg (jk jj)) jt)
   (jd (jz (jw vE (vf T.xdl (pv 1)) (gli T.xcz rfl)) (jg (jk jj)) jt)
   (jg (jk jj)))))),?_⟩
   obtain ⟨as,hb1,hb2⟩:=id hb;have elen:=Cr hb2;refine ⟨_,rfl,_,rfl,jB (fun h=>absurd h jdC) (fun _=>?_)⟩;refine ⟨_,rfl,a,wd,rfl,ha,_,rfl,jB (fun h1=>?_) (fun h1=>?_)⟩
   ·have h1':wd.small=false:=by simpa using h1
    have e:vX wd ws=2:=by unfold vX;rw [Ce h1']
    rw [e] at k;exact k
   ·have h1':¬wd.small=false:=by simpa using h1
    refine ⟨_,rfl,_,rfl,a,b,wd,ws,rfl,ha,hb,_,rfl,jB (fun h2=>?_) (fun h2=>?_)⟩
    ·have e:vX wd ws=3:=by unfold vX;rw [Cc h1',Ce h2]
     rw [e] at k;exact k
    ·refine ⟨_,rfl,b,_,rfl,.inl (SqL.of hb1),rfl,_,rfl,jB (fun h3=>?_) (fun h3=>?_)⟩
     ·have h3':=jF.mp h3;rw [Cb,elen] at h3';have e:vX wd ws=4:=by unfold vX;rw [Cc h1',Cc h2,Ce (by omega)]
      rw [e] at k;exact k
     ·have h3':¬ws.length=128:=fun q=>h3 (jF.mpr (by rw [Cb,elen,q];rfl));have e:vX wd ws=0:=by unfold vX;rw [Cc h1',Cc h2,Cc h3']
      rw [e] at k;exact k
noncomputable def jf (z:Int) (d:Addr):List (Str×V):=[("by_itself",.int z),("costs",.ref d)]
noncomputable def jkv (j:Join):List Key×V:=([.inl (j.right:Int),.inl (j.left:Int)],.int (j.cost:Int))
noncomputable def vT (C:Addr) (H:Hp) (a:Addr) (z:Nat) (js:List Join):Prop:=∃ dx d,H a=some (.ins C dx (jf z d))∧H d=some (.dT (js.map jkv))
theorem vT.same {z:Nat} {js:List Join} (h:vT C H a z js) (s:jn H H'):vT C H' a z js:=by
 obtain ⟨dx,d,h1,h2⟩:=h;exact ⟨dx,d,s _ _ h1,s _ _ h2⟩
theorem jre (z:Int) (d:Addr):(jf z d).lookup ("by_itself":Str)=some (.int z):=rfl
theorem jeh (z:Int) (d:Addr):(jf z d).lookup ("costs":Str)=some (.ref d):=rfl
noncomputable def jkn (C:Addr):Sp:=fun vs H Q _=>∃ p dx z d,vs=[.ref p,.int z,.ref d]∧H p=some (.ins C dx [])∧∀ H':Hp,H' p=some (.ins C dx (jf z d))→(∀ b o,H b=some o→b≠p→H' b=some o)→Q .non H'
theorem jeI (T:Txt K mg t):Met P w K mg base 1 t.c_Joins "__init__" ["self","by_itself","costs"] (jkn t.c_Joins):=by
 refine T.xar.ok jki (fun vs H Q E h=>?_) (fun f cdv A outer s H vs Q E hr h=>?_)
 ·obtain ⟨p,dx,z,d,rfl,_⟩:=h
  rfl
 ·obtain ⟨p,dx,z,d,rfl,hp,k⟩:=h;refine ⟨_,(jd (vJ (pv 0) (pv 1) rfl)
   (jg (vJ (pv 0) (pv 2) rfl))),?_⟩
  refine ⟨_,rfl,_,rfl,p,t.c_Joins,dx,_,rfl,hp,T.xa0.cl,T.xa1,by decide,?_⟩;refine ⟨_,rfl,_,rfl,p,t.c_Joins,dx,_,rfl,jc,T.xa0.cl,T.xa2,(by show 1 < 1000;decide),?_⟩;refine k _ ?_ fun b o e hb=>by rw [ji hb,ji hb];exact e
  rw [jc]
  rfl
noncomputable def jl5 (C:Addr):Sp:=fun vs H Q _=>vs=[]∧∀ H' p,jn H H'→vT C H' p 65535 []→Q (.ref p) H'
theorem jfj (T:Txt K mg t):Cal P w K mg base CX0 3 "new_joins" [] (jl5 t.c_Joins):=by
 refine T.xas.ok jlR (fun vs H Q E h=>?_) (fun f cdv A outer s H vs Q E hr h=>?_)
 ·obtain ⟨rfl,_⟩:=h
  rfl
 ·obtain ⟨rfl,k⟩:=h;refine ⟨_,(jg (jk (mak (jeI T) T.xa0 hr.m rfl (jb (gli T.xcu rfl) (jb jhk jh))))),?_⟩;intro d hd x dx hx hdx ne;refine ⟨x,dx,_,d,rfl,jc,fun H2 h2 k2=>⟨rfl,?_⟩⟩;have s1:jn (upd H d (.dT [])) H2:=jn.made hx hdx k2;exact k H2 x ((jq hd).trans s1) ⟨dx,d,h2,s1 _ _ jc⟩
theorem jnh {j:Join} {x y:Nat}:decide ((jkv j).1=[Sum.inl (x:Int),Sum.inl (y:Int)])=zi x y j:=by
 unfold jkv zi;rw [C8];simp;omega
theorem jfP (x y:Nat):∀ js:List Join,v8 (js.map jkv) [Sum.inl (x:Int),Sum.inl (y:Int)]=(js.find? (zi x y)).map fun j=>V.int (j.cost:Int)
 | []=>rfl
 | j :: js=>by
  rw [C6,Gq];cases h:zi x y j with
  | true =>
   have e:(jkv j).1=[Sum.inl (x:Int),Sum.inl (y:Int)]:=Co (jnh.trans h);rw [za e]
   rfl
  | false =>
   have e:¬(jkv j).1=[Sum.inl (x:Int),Sum.inl (y:Int)]:=of_decide_eq_false (jnh.trans h);rw [v9 e];exact jfP x y js
noncomputable def jix (C:Addr):Sp:=fun vs H Q _=>∃ (a:Addr) (z:Nat) (js:List Join) (x y:Nat),vs=[.ref a,.int (x:Int),.int (y:Int)]∧vT C H a z js∧∀ H',jn H H'→Q (.int ((((js.find? (zi x y)).map fun j=>j.cost).getD 0:Nat):Int)) H'
theorem jcJ (T:Txt K mg t):Cal P w K mg base CX0 1 "cost_of_join" ["joins","right","left"] (jix t.c_Joins):=by
 refine T.xat.ok jil (fun vs H Q E h=>?_) (fun f cdv A outer s H vs Q E hr h=>?_)
 ·obtain ⟨a,z,js,x,y,rfl,_⟩:=h
  rfl
 ·obtain ⟨a,z,js,x,y,rfl,⟨dx,d,ha,hd⟩,k⟩:=h;have hu:=jeg hr;refine ⟨_,(jg (jk (jqO hu (jH (pv 0) rfl) (jav (jb (pv 1) (jb (pv 2) jh))) jj ⟨rfl,rfl,rfl,rfl⟩))),?_⟩;refine ⟨_,rfl,a,_,dx,_,_,rfl,ha,T.xa0.cl,T.xa2,jeh ..,d,rfl,.inr ⟨_,.inl hd⟩,_,rfl,_,rfl,by show 2≤sizeLine;decide,fun p hp=>?_⟩;have s1:jn H (upd H p (.tup [.int (x:Int),.int (y:Int)])):=jq hp;refine ⟨_,jam.t (k:=[Sum.inl (x:Int),Sum.inl (y:Int)]) (s1 _ _ hd) jc,?_⟩;have:=k _ s1;rw [jfP];cases hf:js.find? (zi x y) with
  | none=>rw [hf] at this;exact this
  | some j=>rw [hf] at this;exact this
noncomputable def jkr:Sp:=fun vs H Q _=>∃ (a:Addr) (l:List Nat) (n:Nat),vs=[.ref a,.int (n:Int)]∧LN H a l∧l≠[]∧l.length≤100000∧(vH l n=none→∀ H',jn H H'→Q .non H')∧(∀ ns,vH l n=some ns→∀ H' p,jn H H'→LN H' p ns→Q (.ref p) H')
theorem jeL (T:Txt K mg t):Cal P w K mg base CX0 3 "numbers_of" ["line","count"] jkr:=by
 refine T.xau.ok jeS (fun vs H Q E h=>?_) (fun f cdv A outer s H vs Q E hr h=>?_)
 ·obtain ⟨a,l,n,rfl,_⟩:=h
  rfl
 ·obtain ⟨a,l,n,rfl,hl,hne,hz,k1,k2⟩:=h;have nd:=jeS.nd;refine ⟨_,(jd (jz (vL (vz (cal (jgx T) hr.m rfl (jb (pv 0) jh)))) (jg (jk jbD)) jt)
   (jd (jE 2 nd (cal (jgz T) hr.m rfl (jb (jau jaR (pv 0) jdH (zI (jaA zJ jj))) jh)))
   (jd (jz (jw zE (vf T.xdl (pv 2)) (pv 1)) (jg (jk jbD)) jt)
   (jg (jk (cal (jfk T) hr.m rfl (jb (pv 2) jh))))))),?_⟩
  refine ⟨_,rfl,a,l,rfl,hl,hne,_,rfl,jB (fun h1=>?_) (fun h1=>?_)⟩
  ·have h1':¬l.getLast?=some 10:=by simpa using h1
   exact k1 (by unfold vH;rw [Cc fun q=>h1' q.1]) H (jn.refl H)
  ·have h1':l.getLast?=some 10:=by simpa using h1
   have hdl:l.dropLast.length≤100000:=by rw [List.length_dropLast];omega
   refine ⟨_,rfl,_,rfl,_,rfl,a,_,rfl,hl.sq,fun p hp=>?_⟩;have hp1:LN (upd H p (.lst (vQ (iv l) none (some (-1))))) p l.dropLast:=by
    show upd H p _ p=_;rw [jc,jkU]
   have s1:jn H (upd H p (.lst (vQ (iv l) none (some (-1))))):=jq hp;refine ⟨p,l.dropLast,rfl,hp1,hdl,fun H3 pp s3 hpp hps=>?_⟩;have s13:jn H H3:=s1.trans s3;obtain ⟨as,hpl,hpr⟩:=id hps;have hlen:=Cr hpr;have hpn:=jpB l.dropLast;have hl1:0 < l.length:=List.length_pos_iff.mpr hne;rw [List.length_dropLast] at hpn;refine ⟨_,rfl,pp,_,rfl,.inl (SqL.of hpl),_,rfl,rfl,_,rfl,jB (fun h2=>?_) (fun h2=>?_)⟩
   ·have h2':¬(jD l.dropLast).length=n:=by
     intro e;rw [Cb,hlen,e] at h2;simp at h2
    exact k1 (by unfold vH;rw [Cc fun q=>h2' q.2.1]) H3 s13
   ·have h2':(jD l.dropLast).length=n:=by
     have e5:((as.map V.ref).length:Int)=(n:Int):=by simpa using h2
     rw [Cb,hlen] at e5;omega
    refine ⟨_,rfl,pp,_,rfl,hps,by omega,fun hn=>?_,fun hn H4 q s4 hq hv=>?_⟩
    ·exact k1 (by unfold vH;rw [Cc fun q=>by rw [q.2.2] at hn;cases hn]) H3 s13
    ·exact k2 _ (by unfold vH;rw [Ce ⟨h1',h2',hn⟩]) H4 q (s13.trans s4) hv
noncomputable def jhw:Sp:=fun vs H Q _=>(vs=[.non]∧Q (.int 1) H)∨∃ (a:Addr) (x:Nat),vs=[.ref a]∧LN H a [x]∧Q (.int (if 65535 < x then 2 else 0)) H
theorem jhd (T:Txt K mg t):Cal P w K mg base CX0 1 "kind_of_first" ["numbers"] jhw:=by
 refine T.xav.ok jho (fun vs H Q E h=>?_) (fun f cdv A outer s H vs Q E hr h=>?_)
 ·rcases h with ⟨rfl,_⟩|⟨a,x,rfl,_⟩<;>rfl
 ·rcases h with ⟨rfl,k⟩|⟨a,x,rfl,ha,k⟩
  ·refine ⟨_,(jd (jz (jac (jbC (pv 0))) (jg (jk jj)) jt)
   (jd (jz (jw zh (jC jJ (pv 0) jj) (gli T.xcu rfl)) (jg (jk jj)) jt)
   (jg (jk jj)))),?_⟩
   exact ⟨_,rfl,_,rfl,vG k⟩
  ·refine ⟨_,(jd (jz (jac (jbC (pv 0))) (jg (jk jj)) jt)
   (jd (jz (jw zh (jC jJ (pv 0) jj) (gli T.xcu rfl)) (jg (jk jj)) jt)
   (jg (jk jj)))),?_⟩
   refine ⟨_,rfl,_,rfl,jB (fun h=>absurd h jdC) (fun _=>?_)⟩;refine ⟨_,rfl,a,_,_,.int (x:Int),rfl,rfl,ha.sq,rfl,_,_,rfl,rfl,_,rfl,jB (fun h1=>?_) (fun h1=>?_)⟩
   ·have h1':=Co h1;rw [Ce (by omega)] at k;exact k
   ·have h1':¬(65535:Int) < (x:Int):=fun q=>h1 (C3 q);rw [Cc (by omega)] at k;exact k
noncomputable def zV (x y c:Nat) (js:List Join):Int:=if 255 < x∨255 < y∨65535 < c then 2 else if (js.any fun q=>q.right == x && q.left == y)=true then 3 else 0
noncomputable def jiA:Sp:=fun vs H Q _=>(∃ d,vs=[.non,.ref d]∧Q (.int 1) H)∨∃ (a d:Addr) (x y c:Nat) (js:List Join),vs=[.ref a,.ref d]∧LN H a [x,y,c]∧H d=some (.dT (js.map jkv))∧∀ H',jn H H'→Q (.int (zV x y c js)) H'
theorem jk1 (x y:Nat) (js:List Join):(js.find? (zi x y)).isSome=js.any fun q=>q.right == x && q.left == y:=by
 rw [C8,List.find?_isSome,Ji]
 rfl
theorem jh0 (T:Txt K mg t):Cal P w K mg base CX0 1 "kind_of_join" ["numbers","costs"] jiA:=by
 refine T.xaw.ok jip (fun vs H Q E h=>?_) (fun f cdv A outer s H vs Q E hr h=>?_)
 ·rcases h with ⟨d,rfl,_⟩|⟨a,d,x,y,c,js,rfl,_⟩<;>rfl
 ·have hu:=jeg hr;rcases h with ⟨d,rfl,k⟩|⟨a,d,x,y,c,js,rfl,ha,hd,k⟩
  ·refine ⟨_,(jd (jz (jac (jbC (pv 0))) (jg (jk jj)) jt)
   (jd (jz (PW.pt (jak (jw zh (jC jJ (pv 0) jj) (gli T.xct rfl)) (jak (jw zh (jC jJ (pv 0) jj) (gli T.xct rfl)) (jaw (jw zh (jC jJ (pv 0) jj) (gli T.xcu rfl)))))) (jg (jk jj)) jt)
   (jd (jz (jac (jh6 hu (jav (jb (jC jJ (pv 0) jj) (jb (jC jJ (pv 0) jj) jh))) (pv 1)) (by with_unfolding_all rfl)) (jg (jk jj)) jt)
   (jg (jk jj))))),?_⟩
   exact ⟨_,rfl,_,rfl,vG k⟩
  ·refine ⟨_,(jd (jz (jac (jbC (pv 0))) (jg (jk jj)) jt)
   (jd (jz (PW.pt (jak (jw zh (jC jJ (pv 0) jj) (gli T.xct rfl)) (jak (jw zh (jC jJ (pv 0) jj) (gli T.xct rfl)) (jaw (jw zh (jC jJ (pv 0) jj) (gli T.xcu rfl)))))) (jg (jk jj)) jt)
   (jd (jz (jac (jh6 hu (jav (jb (jC jJ (pv 0) jj) (jb (jC jJ (pv 0) jj) jh))) (pv 1)) (by with_unfolding_all rfl)) (jg (jk jj)) jt)
   (jg (jk jj))))),?_⟩
   refine ⟨_,rfl,_,rfl,jB (fun h=>absurd h jdC) (fun _=>?_)⟩;have two:255 < x∨255 < y∨65535 < c→Q (.int 2) H:=fun q=>by
    have:=k H (jn.refl H);unfold zV at this;rw [Ce q] at this;exact this
   refine ⟨_,rfl,a,_,_,.int (x:Int),rfl,rfl,ha.sq,rfl,_,_,rfl,rfl,_,rfl,jB (fun h1=>?_) (fun h1=>?_)⟩
   ·have h1':=Co h1;exact vG (two (.inl (by omega)))
   ·have h1':¬(255:Int) < (x:Int):=fun q=>h1 (C3 q);refine ⟨_,rfl,a,_,_,.int (y:Int),rfl,rfl,ha.sq,rfl,_,_,rfl,rfl,_,rfl,jB (fun h2=>?_) (fun h2=>?_)⟩
    ·have h2':=Co h2;exact vG (two (.inr (.inl (by omega))))
    ·have h2':¬(255:Int) < (y:Int):=fun q=>h2 (C3 q);refine ⟨_,rfl,a,_,_,.int (c:Int),rfl,rfl,ha.sq,rfl,_,_,rfl,rfl,_,rfl,jB (fun h3=>?_) (fun h3=>?_)⟩
     ·have h3':=Co h3;exact two (.inr (.inr (by omega)))
     ·have h3':¬(65535:Int) < (c:Int):=fun q=>h3 (C3 q);have hn:¬(255 < x∨255 < y∨65535 < c):=by omega
      refine ⟨_,rfl,a,_,_,.int (x:Int),rfl,rfl,ha.sq,rfl,_,rfl,a,_,_,.int (y:Int),rfl,rfl,ha.sq,rfl,by show 2≤sizeLine;decide,fun p hp=>?_⟩;have s1:jn H (upd H p (.tup [.int (x:Int),.int (y:Int)])):=jq hp;refine ⟨_,rfl,d,_,rfl,jam.t (k:=[Sum.inl (x:Int),Sum.inl (y:Int)]) (s1 _ _ hd) jc,_,rfl,?_⟩;rw [jfP,Option.isSome_map,jk1];have:=k _ s1;unfold zV at this;rw [Cc hn] at this;refine jB (fun h4=>?_) (fun h4=>?_)
      ·rw [Ce h4] at this;exact this
      ·rw [Cc h4] at this;exact this
end
noncomputable abbrev zv (l:List Int):List V:=l.map V.int
noncomputable def LI (H:Hp) (a:Addr) (l:List Int):Prop:=H a=some (.lst (zv l))
theorem LI.same {l:List Int} (h:LI H a l) (s:jn H H'):LI H' a l:=s _ _ h
theorem LI.sq {l:List Int} (h:LI H a l):SqL K H a (zv l):=SqL.of h
theorem zL (l:List Int):(zv l).length=l.length:=Cb ..
theorem jiK {l:List Int} {x:Int} (h:l[i]?=some x):(zv l)[i]?=some (.int x):=by rw [Dz,h];rfl
theorem jsc (l:List Nat):zv (Sy.ints l)=iv l:=by unfold zv Sy.ints;rw [D4];rfl
theorem LN.li (h:LN H a l):LI H a (Sy.ints l):=by
 show H a=_;rw [jsc];exact h
noncomputable def jX (H:Hp) (a:Addr) (p:PP):Prop:=H a=some (.tup [.int p.1,.int p.2])
noncomputable def LOf {β:Type} (F:Hp→Addr→β→Prop) (H:Hp) (a:Addr) (xs:List β):Prop:=∃ as:List Addr,H a=some (.lst (as.map V.ref))∧Paired (F H) as xs
noncomputable def jkF {β:Type} (F:Hp→Addr→β→Prop):Prop:=∀ H H' a x,F H a x→jn H H'→F H' a x
theorem jX.mono:jkF jX:=fun _ _ _ _ h s=>s _ _ h
theorem LOf.mono {β:Type} {F:Hp→Addr→β→Prop} (m:jkF F):jkF (LOf F):=fun H H' a xs h s=>by
 obtain ⟨as,h1,h2⟩:=h;exact ⟨as,s _ _ h1,Paired.mapM h2 fun _ _ _ q=>m _ _ _ _ q s⟩
noncomputable abbrev LP:Hp→Addr→List PP→Prop:=LOf jX
noncomputable abbrev Tb:Hp→Addr→List (List PP)→Prop:=LOf LP
noncomputable abbrev Wy:Hp→Addr→List (List (List PP))→Prop:=LOf Tb
theorem LP.mono:jkF LP:=LOf.mono jX.mono
theorem Tb.mono:jkF Tb:=LOf.mono LP.mono
theorem LOf.get {β:Type} {F:Hp→Addr→β→Prop} {xs:List β} (h:Paired (F H) as xs) {x:β} (hx:xs[i]?=some x):∃ b,(as.map V.ref)[i]?=some (.ref b)∧F H b x:=by
 obtain ⟨b,h1,h2⟩:=Paired.getR h hx;exact ⟨b,by rw [Dz,h1];rfl,h2⟩
theorem zS:∀ l:List Int,jV l=true↔l.length % 2=0∧∀ (i:Nat) (x:Int),l[2 * i]?=some x→0≤x
 | []=>by simp [jV]
 | [a]=>by simp [jV]
 | a :: b :: l=>by
  have ih:=zS l;rw [jV,Cn,Dd,ih];constructor
  ·rintro ⟨h0,h1,h2⟩;refine ⟨by simp only [Cd];omega,fun i x hx=>?_⟩;cases i with
   | zero=>simp at hx;omega
   | succ i=>exact h2 i x (by rw [←hx,show 2 * (i+1)=2 * i+1+1 by omega];simp)
  ·rintro ⟨h1,h2⟩;refine ⟨h2 0 a (by simp),by simp only [Cd] at h1;omega,fun i x hx=>h2 (i+1) x ?_⟩;rw [show 2 * (i+1)=2 * i+1+1 by omega];simpa using hx
theorem jjJ:∀ (l:List Int) (i:Nat) (x y:Int),l[2 * i]?=some x→l[2 * i+1]?=some y→(jG l)[i]?=some (x,y)
 | [],i,x,y,h,_=>by simp at h
 | [a],i,x,y,h,h2=>by simp at h2
 | a :: b :: l,0,x,y,h,h2=>by
  simp at h h2;subst h h2
  rfl
 | a :: b :: l,i+1,x,y,h,h2=>by
  rw [show 2 * (i+1)=2 * i+1+1 by omega] at h;rw [show 2 * (i+1)+1=2 * i+1+1+1 by omega] at h2;exact jjJ l i x y (by simpa using h) (by simpa using h2)
theorem pairs_len:∀ l:List Int,(jG l).length=l.length / 2
 | []=>rfl
 | [a]=>by simp [jG]
 | a :: b :: l=>by
  rw [jG,Cd,pairs_len l];simp only [Cd];omega
theorem jpM (n:Nat) (h:n≤1000000):RgC 0 (n:Int) 2 ((n+1) / 2):=by
 have e:Builtin.Range.rangeSize 0 (n:Int) 2=(((n+1) / 2:Nat):Int):=by
  unfold Builtin.Range.rangeSize;rw [Ce (by decide)];split<;>omega
 refine ⟨by decide,by decide,?_,e⟩;have f:∀ z:Int,-4000000≤z→z≤4000000→Builtin.Range.rangeFitsLong z=true:=fun z h1 h2=>by
  unfold Builtin.Range.rangeFitsLong;rw [Cn,Dd,Dd];omega
 unfold Builtin.Range.small;rw [e,f 0 (by decide) (by decide),f n (by omega) (by omega),f 2 (by decide) (by decide),f _ (by omega) (by omega),Ce (by decide),f ((n:Int)+(2 - 1)) (by omega) (by omega)];simp
theorem ixL (h:X.K=K):IxR X (jsY K):=by rw [←h];exact jJ
theorem ixT (h:X.K=K):IxR X (jsZ K):=by rw [←h];exact ve
theorem jt8 {e:Expr} {p pos:Pos} (hm:X.mg "len"=none) (h:PE X e te) (hk:X.K=K:=by rfl) (hg:Gl X "len":=by rfl) (hs:starEach [e] X.env=[(false,eval e X.env)]:=by rfl) (hpl:(backTo pos (starEach [] X.env)).any (·.1)=false:=by rfl) :
  PE X (.Call (.Name "len" p) [e] [] pos) (tCB (fun xs H Q=>∃ p ys,xs=[.ref p]∧(SqL K H p ys∨SqT K H p ys)∧Q (.int ys.length) H) (jf8 te jdn)):=by
 subst hk;exact vf hm h hg hs hpl
section
variable {P:Program} {w:World} {K:Frag} {mg:Str→Option Value} {base:Heap} {t:Adr}
noncomputable def ji6:Sp:=fun vs H Q _=>∃ a l,vs=[.ref a]∧LI H a l∧l.length≤1000000∧Q (.bl (jV l)) H
theorem jdD (T:Txt K mg t):Cal P w K mg base CX0 1 "is_of_pairs" ["row"] ji6:=by
 refine T.xbg.ok jdX (fun vs H Q E h=>?_) (fun f cdv A outer s H vs Q E hr h=>?_)
 ·obtain ⟨a,l,rfl,_⟩:=h
  rfl
 ·obtain ⟨a,l,rfl,hl,hz,k⟩:=h;have nd:=jdX.nd;refine ⟨_,(jd (jz (jw zE (jY jsS (vf T.xdl (pv 0)) jj) jj) (jg (jk vY)) jt)
   (jd (vg Df rfl (jcP rfl T.xdp (jb jj (jb (vf T.xdl (pv 0)) (jb jj jh)))) (jM (i:=1) nd rfl (Ff rfl)) (jg (jz (jw jaj (jC jJ (pv 0) (pv 1)) jj) (jg (jk vY)) jt)))
   (jg (jk vY)))),?_⟩
  refine ⟨_,rfl,a,_,rfl,.inl hl.sq,_,_,rfl,rfl,(by show (0:Int) < 2;decide),rfl,_,rfl,jB (fun h1=>?_) (fun h1=>?_)⟩
  ·have h1':¬l.length % 2=0:=fun e=>by
    have h2:¬(V.int (((zv l).length:Int) % 2)=V.int 0):=by simpa using h1
    exact h2 (by rw [zL];congr 1;omega)
   have e:jV l=false:=by
    rw [←Fq,zS];exact fun q=>h1' q.1
   rw [e] at k;exact k
  ·have h1':l.length % 2=0:=by
    have h2:V.int (((zv l).length:Int) % 2)=V.int 0:=by simpa using h1
    have h3:=V.int.inj h2;rw [zL] at h3;omega
   refine ⟨_,rfl,a,_,rfl,.inl hl.sq,_,_,_,_,rfl,by rw [zL];exact jpM l.length hz,jef (fun i σ H'=>∃ v:Option V,σ=[some (.ref a),v]∧H'=H∧∀ j x,j < i→l[2 * j]?=some x→0≤x)
    ⟨none,rfl,rfl,fun j x h=>absurd h (Nat.not_lt_zero _)⟩ ?_ ?_⟩
   ·rintro i σ H' hi ⟨v,rfl,rfl,hd⟩;have hlt:2 * i < l.length:=by omega
    obtain ⟨x,hx⟩:∃ x,l[2 * i]?=some x:=⟨_,Cz hlt⟩;refine ⟨_,rfl,_,rfl,a,_,_,.int x,rfl,rfl,hl.sq,?_,_,_,rfl,rfl,_,rfl,jB (fun h2=>?_) (fun h2=>?_)⟩
    ·rw [show (0:Int)+(i:Int) * 2=((2 * i:Nat):Int) by omega];exact vn (jiK hx)
    ·have h2':=Co h2;have e:jV l=false:=by
      rw [←Fq,zS];intro q;have:=q.2 i x hx;omega
     rw [e] at k;exact k
    ·have h2':¬x < 0:=fun q=>h2 (C3 q);refine ⟨_,rfl,rfl,fun j y hj hy=>?_⟩;by_cases e:j=i
     ·subst e;rw [hx] at hy;have:=Cs hy;omega
     ·exact hd j y (by omega) hy
   ·rintro σ H' ⟨v,rfl,rfl,hd⟩;have e:jV l=true:=by
     rw [zS];refine ⟨h1',fun i x hx=>hd i x ?_ hx⟩;have:=(Cj.mp hx).1;omega
    rw [e] at k;exact k
noncomputable def jmM:Sp:=fun vs H Q _=>∃ a l,vs=[.ref a]∧LI H a l∧l.length≤1000000∧l.length % 2=0∧∀ H' p,jn H H'→H p=none→LP H' p (jG l)→Q (.ref p) H'
theorem jaF (T:Txt K mg t):Cal P w K mg base CX0 1 "pairs_of" ["row"] jmM:=by
 refine T.xbh.ok jgO (fun vs H Q E h=>?_) (fun f cdv A outer s H vs Q E hr h=>?_)
 ·obtain ⟨a,l,rfl,_⟩:=h
  rfl
 ·obtain ⟨a,l,rfl,hl,hz,h2,k⟩:=h;have nd:=jgO.nd;refine ⟨_,(jg (jk (jcO (own:=[("place",1)]) rfl nd (jcP rfl T.xdp (jb jj (jb (vf T.xdl (pv 0)) (jb jj jh)))) (zQ (N:=["row","place"]) (sc:=jm jes) (by decide +kernel)) (fun _ _ _ _ _=>(jM (i:=1) nd rfl (Ff rfl))) (fun _ _ _ _ _=>jbm) (fun _ _ _ _ _=>(jav (jb (jC (ixL (K:=K) rfl) (pv 0) (pv 1)) (jb (jC (ixL (K:=K) rfl) (pv 0) (jY vI (pv 1) jj)) jh))))))),?_⟩
  refine ⟨_,rfl,a,_,rfl,.inl hl.sq,_,_,_,_,rfl,by rw [zL];exact jpM l.length hz,fun D hD=>joa ((l.length+1) / 2) (fun i H2=>jn H H2∧∃ as:List Addr,D∉as∧H2 D=some (.lst (as.map V.ref))∧Paired (jX H2) as ((jG l).take i))
   ⟨jq hD,[],by simp,jc,.nil⟩ (fun i H2 h _=>h) (fun H2 _=>Cl _) ?_ ?_⟩
  ·rintro i H2 v H3 hi ⟨s2,as,nD,hD2,hp⟩ ⟨rfl,rfl⟩;obtain ⟨x,hx⟩:∃ x,l[2 * i]?=some x:=⟨_,Cz (by omega)⟩;obtain ⟨y,hy⟩:∃ y,l[2 * i+1]?=some y:=⟨_,Cz (by omega)⟩;have hl2:=hl.same s2;have hlen:=Cr hp;have hpl:=pairs_len l;rw [Dq] at hlen
   refine ⟨rfl,jcA ⟨_,rfl,_,rfl,a,_,_,.int x,rfl,rfl,hl2.sq,by rw [show (0:Int)+(i:Int) * 2=((2 * i:Nat):Int) by omega];exact vn (jiK hx),_,rfl,_,rfl,_,_,rfl,rfl,a,_,_,.int y,rfl,rfl,hl2.sq,by rw [show (0:Int)+(i:Int) * 2+1=((2 * i+1:Nat):Int) by omega];exact vn (jiK hy),by show 2≤sizeLine;decide,fun p hp0=>?_⟩⟩;have npD:D≠p:=jp hD2 hp0;refine ⟨as.map V.ref,by rw [ji npD];exact hD2,j7 (by rw [Cb];omega),jA (jA s2 (s2.free hp0)) hD,as++[p],?_,?_,?_⟩
   ·intro h;rcases Ds.mp h with h|h
    ·exact nD h
    ·exact npD (Cm.mp h)
   ·rw [jc,Dc]
    rfl
   ·rw [take_snoc (jjJ l i x y hx hy)];refine Paired.appendP (Paired.mapM hp fun b hb q e=>?_) (.cons ?_ .nil)
    ·show upd (upd H3 p _) D _ b=_;have e':H3 b=_:=e;rw [ji (fun z=>nD (by rw [←z];exact hb)),ji (jp e' hp0)];exact e'
    ·show upd (upd H3 p _) D _ p=_;rw [ji (Dj npD),jc]
  ·rintro H2 ⟨s2,as,nD,hD2,hp⟩;rw [D6 (by rw [pairs_len];omega)] at hp;exact k H2 D s2 hD ⟨as,hD2,hp⟩
noncomputable def jiC:Sp:=fun vs H Q _=>∃ a ps,vs=[.ref a]∧LP H a ps∧ps.length≤100000∧∀ H' p,jn H H'→H p=none→LI H' p (ps.flatMap fun p=>[p.1,p.2])→Q (.ref p) H'
theorem jee:∀ ps:List PP,(ps.flatMap fun p=>[p.1,p.2]).length=2 * ps.length
 | []=>rfl
 | p :: ps=>by rw [Dl,Ci,jee ps];simp only [Cd,Ct];omega
theorem jh3 (T:Txt K mg t):Cal P w K mg base CX0 1 "row_of_pairs" ["pairs"] jiC:=by
 refine T.xbi.ok jc2 (fun vs H Q E h=>?_) (fun f cdv A outer s H vs Q E hr h=>?_)
 ·obtain ⟨a,l,rfl,_⟩:=h
  rfl
 ·obtain ⟨a,ps,rfl,⟨as,ha,hp⟩,hz,k⟩:=h;have nd:=jc2.nd;have elen:=Cr hp;refine ⟨_,(jd (jE 1 nd (jN jh))
   (jd (vg Df rfl (vc (pv 0)) (jM (i:=2) nd rfl (Ff rfl)) (jd (vC (zy De Dm Dn vy (pv 1) (jb (jC ve (pv 2) jj) jh)))
   (jg (vC (zy De Dm Dn vy (pv 1) (jb (jC ve (pv 2) jj) jh))))))
   (jg (jk (pv 1))))),?_⟩
  refine ⟨C4 _,fun q hq=>?_⟩;refine ⟨_,rfl,a,rfl,⟨_,SqL.of ((jq hq) _ _ ha)⟩,vk (K:=K) (a:=a) (xs:=as.map V.ref) (fun i σ H'=>∃ v:Option V,σ=[some (.ref a),some (.ref q),v]∧jn H H'∧LI H' q ((ps.take i).flatMap fun p=>[p.1,p.2]))
   ⟨none,rfl,jq hq,jc⟩ (fun i σ H' _ ⟨_,_,e,_⟩=>SqL.of (e _ _ ha)) ?_ ?_⟩
  ·rintro i y σ H' hi ⟨v,rfl,s2,hq2⟩;obtain ⟨b,hb,rfl⟩:=vh hi;obtain ⟨p,hpi,hbp⟩:=Paired.getP hp hb;have hbp':H' b=_:=s2 _ _ hbp;have nb:b≠q:=jp (show H b=_ from hbp) hq;have hfl:=jee (ps.take i);rw [Dq] at hfl;have hil:=(Cj.mp hpi).1;refine ⟨_,rfl,.inl ⟨rfl,_,SqL.of hq2⟩,_,rfl,b,_,_,.int p.1,rfl,rfl,.inl (.inl hbp'),rfl,q,_,_,rfl,rfl,hq2,j7 (by rw [zL];omega),?_⟩;refine ⟨_,rfl,.inl ⟨rfl,_,SqL.of jc⟩,_,rfl,b,_,_,.int p.2,rfl,rfl,.inl (.inl (by rw [ji nb];exact hbp')),rfl,q,_,_,rfl,rfl,jc,j7 (by rw [Ci,zL];show _+1≤_;omega),?_⟩
   refine ⟨_,rfl,jA (jA s2 hq) hq,?_⟩;show upd _ q _ q=_;rw [jc,take_snoc hpi,F0];congr 1;simp [zv]
  ·rintro σ H' ⟨v,rfl,s2,hq2⟩;rw [Cb,elen,Dg] at hq2;exact ⟨_,rfl,k H' q s2 hq hq2⟩
noncomputable def jl7 (C:Addr):Sp:=fun vs H Q _=>∃ (a b:Addr) (k:Nat) (wd:Word) (r:List Nat),vs=[.ref a,.ref b,.int (k:Int)]∧vB C H a wd∧LN H b r∧∀ H',jn H H'→Q (.bl (decide ((r.drop k).take wd.reading.length=wd.reading))) H'
theorem jls (T:Txt K mg t):Cal P w K mg base CX0 1 "stands_at" ["word","reading","place"] (jl7 t.c_Word):=by
 refine T.xbj.ok jlS (fun vs H Q E h=>?_) (fun f cdv A outer s H vs Q E hr h=>?_)
 ·obtain ⟨a,b,k,wd,r,rfl,_⟩:=h
  rfl
 ·obtain ⟨a,b,n,wd,r,rfl,⟨dx,ra,xa,ha,h1,h2⟩,hb,k⟩:=h;have hu64:=hr.units;refine ⟨_,(jg (jk (zm (jh4 hu64) (jau jaR (pv 1) (zI (pv 2)) (zI (jY vI (pv 2) (vf T.xdl (jH (pv 0) rfl))))) (jH (pv 0) rfl)))),?_⟩;refine ⟨_,rfl,_,rfl,_,rfl,_,rfl,_,rfl,a,_,dx,_,_,rfl,ha,T.xa3.cl,T.xa4,zY ..,ra,_,rfl,.inl h1.sq,_,_,rfl,rfl,_,rfl,b,_,rfl,hb.sq,fun p hp=>?_⟩;have s1:jn H (upd H p (.lst (vQ (iv r) (some (n:Int)) (some ((n:Int)+((iv wd.reading).length:Int)))))):=jq hp
  have hp1:LN (upd H p (.lst (vQ (iv r) (some (n:Int)) (some ((n:Int)+((iv wd.reading).length:Int)))))) p ((r.drop n).take wd.reading.length):=by
   show upd H p _ p=_;rw [jc,jy,joX]
  refine ⟨_,rfl,a,_,dx,_,_,rfl,s1 _ _ ha,T.xa3.cl,T.xa4,zY ..,dN _,dN _,hp1.dp,(h1.same s1).dp,shN _,shN _,?_⟩;rw [jkz];exact k _ s1
noncomputable def jgn:Sp:=fun vs H Q _=>∃ a p,vs=[.ref a]∧jX H a p∧∀ q,H q=none→Q (.ref q) (upd H q (.tup [.int (-p.1),.int p.2]))
theorem jgg (T:Txt K mg t):Cal P w K mg base CX0 1 "order_of_piece" ["piece"] jgn:=by
 refine T.xbk.ok jgi (fun vs H Q E h=>?_) (fun f cdv A outer s H vs Q E hr h=>?_)
 ·obtain ⟨a,p,rfl,_⟩:=h
  rfl
 ·obtain ⟨a,p,rfl,ha,k⟩:=h;refine ⟨_,(jg (jk (jav (jb (jaA zJ (jC ve (pv 0) jj)) (jb (jC ve (pv 0) jj) jh))))),?_⟩;refine ⟨_,rfl,a,_,_,.int p.1,rfl,rfl,.inl (.inl ha),rfl,_,rfl,_,rfl,a,_,_,.int p.2,rfl,rfl,.inl (.inl ha),rfl,by show 2≤sizeLine;decide,fun q hq=>k q hq⟩
end
noncomputable def WFT (T:List (List PP)):Prop:=∀ (i:Nat) (ps:List PP) (p:PP),T[i]?=some ps→p∈ps→1≤p.1∧(i:Int)+p.1≤T.length
theorem jkP:∀ l:List Nat,(l.map fun (n:Nat)=>(n:Int)).sum=((l.sum:Nat):Int)
 | []=>rfl
 | n :: l=>by rw [C6,List.sum_cons,List.sum_cons,jkP l];omega
theorem zj {α:Type} {l:List α} {x:α} (h:l[k]?=some x):l.drop k=x :: l.drop (k+1):=by
 obtain ⟨h1,h2⟩:=Cj.mp h;rw [Fz h1,h2]
noncomputable def jaa (T:List (List PP)) (k:Nat):List Nat:=List.replicate k 0++cnt (T.drop k)
theorem jnV {j:Nat} (hj:j≤T.length - (k+1)) (hk:k < T.length):(jaa T (k+1))[k+1+j]?=some ((cnt (T.drop (k+1))).getD j 0):=by
 unfold jaa;rw [Gz (by rw [Du];omega),Du,show k+1+j - (k+1)=j by omega,Cq];have:j < (cnt (T.drop (k+1))).length:=by rw [jed,Db];omega
 rw [Cz this]
 rfl
theorem jnX {ps:List PP} (h:T[k]?=some ps):(jaa T (k+1)).set k (ps.map fun p=>(cnt (T.drop (k+1))).getD (p.1.toNat - 1) 0).sum=jaa T k:=by
 unfold jaa;rw [zj h,List.replicate_succ',Fe];rw [List.set_append_right _ _ (by rw [Du];exact Cl _),Du,Nat.sub_self]
 rfl
theorem jnW (h:k≤T.length):(jaa T k).length=T.length+1:=by
 unfold jaa;rw [Ci,Du,jed,Db];omega
theorem jib (n:Nat) (h:n≤1000000):RgC ((n:Int) - 1) (-1) (-1) n:=by
 have:=RgC.neg (i:=(n:Int) - 1) (j:=-1) (by omega) (by omega) (by omega) (by omega);rw [show ((n:Int) - 1 - -1).toNat=n by omega] at this;exact this
section
variable {P:Program} {w:World} {K:Frag} {mg:Str→Option Value} {base:Heap} {t:Adr}
noncomputable def jkp:Sp:=fun vs H Q _=>∃ a T,vs=[.ref a]∧Tb H a T∧WFT T∧T.length≤1000∧(∀ ps∈T,ps.length≤1000)∧∀ H',jn H H'→Q (.int (((cnt T).headD 0:Nat):Int)) H'
theorem jeJ (T:Txt K mg t):Cal P w K mg base CX0 1 "count_ways" ["table"] jkp:=by
 refine T.xbn.ok jeR (fun vs H Q E h=>?_) (fun f cdv A outer s H vs Q E hr h=>?_)
 ·obtain ⟨a,l,rfl,_⟩:=h
  rfl
 ·obtain ⟨a,T',rfl,⟨as,ha,hp⟩,wf,hz,hz2,k⟩:=h;have nd:=jeR.nd;have elen:=Cr hp;refine ⟨_,(jd (jpJ (i:=1) nd rfl (Or.inr rfl) (jY jaG (jY jpz (jN (jb jj jh)) (vf T.xdl (pv 0))) (jN (jb jj jh))))
   (jd (vg Df rfl (jcP rfl T.xdp (jb (jY jdF (vf T.xdl (pv 0)) jj) (jb (jaA zJ jj) (jb (jaA zJ jj) jh)))) (jM (i:=2) nd rfl (Or.inr rfl)) (jg (jpI (jcf (jsn rfl) rfl T.xdm joQ (jb (jcO (own:=[("piece",3)]) rfl nd (vc (jC jJ (pv 0) (pv 2))) (zQ (N:=["table","counts","place","piece"]) (sc:=jm jcn) (by decide +kernel)) (fun _ _ _ _ _=>(jM (i:=3) nd rfl (Ff rfl))) (fun _ _ _ _ _=>jbm) (fun _ _ _ _ _=>(jC (ixL (K:=K) rfl) (pv 1) (jY vI (pv 2) (jC (ixT (K:=K) rfl) (pv 3) jj))))) jh)) (jpE (pv 1) (pv 2) jlT))))
   (jg (jk (jC jJ (pv 1) jj))))),?_⟩
  refine ⟨by show 1≤sizeLine;decide,fun p1 hp1=>?_⟩;have s1:jn H (upd H p1 (.lst [.int 0])):=jq hp1;refine ⟨_,rfl,a,_,rfl,.inl (SqL.of (s1 _ _ ha)),p1,_,_,rfl,rfl,jc,by rw [Cb];omega,by rw [Cb];omega,v7 (by simp only [Cb,Cd,Ct,Dt];omega),fun p2 hp2=>?_⟩;obtain ⟨_,hp2'⟩:=vw hp2;have s2:jn H (upd (upd H p1 (.lst [.int 0])) p2 (.lst (List.replicate ((as.map V.ref).length:Int).toNat [V.int 0]).flatten)):=jA s1 hp2';refine ⟨by show 1≤sizeLine;decide,fun p3 hp3=>?_⟩;have hp3':=s2.free hp3
  have n23:p2≠p3:=fun e=>by rw [←e,jc] at hp3;cases hp3
  refine ⟨p2,p3,_,_,rfl,rfl,by rw [ji n23,jc],jc,v7 (by rw [jiU,Cb];simp only [Cd,Ct];omega),fun q hq=>?_⟩;have s3:jn H (upd (upd (upd H p1 (.lst [.int 0])) p2 (.lst (List.replicate ((as.map V.ref).length:Int).toNat [V.int 0]).flatten)) p3 (.lst [.int 1])):=jA s2 hp3';have hq':=s3.free hq;have e0:(List.replicate ((as.map V.ref).length:Int).toNat [V.int 0]).flatten++[V.int 1]=iv (jaa T' T'.length):=by
   rw [Cb,elen,Dt];have e1:∀ n:Nat,(List.replicate n [V.int 0]).flatten=iv (List.replicate n 0):=fun n=>by
    induction n with
    | zero=>rfl
    | succ n ih=>rw [Ga,Ja,ih];rfl
   unfold jaa;rw [e1,Fp];exact jap _ [1]
  rw [e0];have hda:∀ H':Hp,jn H H'→SqL K H' a (as.map V.ref):=fun H' s'=>SqL.of (s' _ _ ha);refine ⟨_,rfl,a,_,rfl,.inl (hda _ (jA s3 hq')),_,_,rfl,rfl,_,rfl,_,rfl,_,_,_,T'.length,rfl,by rw [Cb,elen];exact jib _ (by omega),jef (fun i σ H'=>∃ (v v2:Option V),σ=[some (.ref a),some (.ref q),v,v2]∧jn H H'∧LN H' q (jaa T' (T'.length - i)))
   ⟨none,none,rfl,jA s3 hq',jc⟩ ?_ ?_⟩
  ·rintro i σ H' hi ⟨v,v2,rfl,s4,h4⟩;obtain ⟨m,hm⟩:∃ m,T'.length - i=m+1:=⟨T'.length - i - 1,by omega⟩;have hml:m < T'.length:=by omega
   obtain ⟨ps,hps⟩:∃ ps,T'[m]?=some ps:=⟨_,Cz hml⟩;obtain ⟨b,hb,bs,hbl,hbp⟩:=LOf.get hp hps;have em:(((as.map V.ref).length:Int) - 1+(i:Int) * (-1))=(m:Int):=by rw [Cb,elen];omega
   rw [hm] at h4;rw [em];have blen:=Cr hbp;have hbz:=hz2 ps (Cw hps);refine ⟨_,rfl,_,rfl,a,_,_,.ref b,rfl,rfl,hda _ s4,vn hb,b,rfl,⟨_,SqL.of (s4 _ _ hbl)⟩,fun D hD=>jdB (K:=K) (a:=b) (xs:=bs.map V.ref) (fun j H2=>jn H' H2∧LN H2 D ((ps.take j).map fun p=>(cnt (T'.drop (m+1))).getD (p.1.toNat - 1) 0))
    ⟨jq hD,jc⟩ (fun j H2 _ ⟨q2,_⟩=>SqL.of (q2 _ _ (s4 _ _ hbl))) ?_ ?_⟩
   ·rintro j y H2 hj ⟨s5,h5⟩;obtain ⟨x,hx,rfl⟩:=vh hj;obtain ⟨p,hpj,hxp⟩:=Paired.getP hbp hx;obtain ⟨w1,w2⟩:=wf m ps p hps (Cw hpj);have hx2:H2 x=_:=s5 _ _ (s4 _ _ hxp);have hjl:=(Cj.mp hpj).1;refine ⟨rfl,jcA ⟨_,rfl,_,rfl,_,rfl,x,_,_,.int p.1,rfl,rfl,.inl (.inl hx2),rfl,_,_,rfl,rfl,q,_,_,.int (((cnt (T'.drop (m+1))).getD (p.1.toNat - 1) 0:Nat):Int),rfl,rfl,(h4.same s5).sq,?_,_,h5,j7 (by rw [jy,Cb,Dq];omega),jA s5 hD,?_⟩⟩
    ·rw [show (m:Int)+p.1=((m+1+(p.1.toNat - 1):Nat):Int) by omega];exact vn (jf1 (jnV (by omega) hml))
    ·show upd H2 D _ D=_;rw [jc,take_snoc hpj,Dc];exact D7 (fun z=>some (HO.lst z)) (jap _ [_])
   ·rintro H2 ⟨s5,h5⟩;rw [Cb,blen,Dg] at h5;refine ⟨D,_,rfl,SqL.of h5.li,?_⟩;have hq2:=h4.same s5;refine ⟨_,rfl,_,rfl,q,_,_,m,rfl,rfl,hq2,?_,?_⟩
    ·unfold ixN;rw [Ce (by omega),Ce (by rw [jy,jnW (by omega)];omega),Dt]
    ·refine ⟨_,_,rfl,jA (s4.trans s5) hq',?_⟩;show upd H2 q _ q=_;rw [jc,show T'.length - (i+1)=m by omega,←jnX hps];unfold Sy.ints;rw [jkP];congr 1;unfold iv;rw [List.map_set]
  ·rintro σ H' ⟨v,v2,rfl,s4,h4⟩;rw [Nat.sub_self] at h4;refine ⟨_,rfl,q,_,_,.int (((cnt T').headD 0:Nat):Int),rfl,rfl,h4.sq,?_,k H' s4⟩;have h0:(jaa T' 0)[0]?=some ((cnt T').headD 0):=by
    unfold jaa;rw [G1];show (cnt T')[0]?=_;cases hc:cnt T' with
    | nil=>have:=jed T';rw [hc] at this;simp at this
    | cons x l=>rfl
   exact vn (j:=0) (jf1 h0)
noncomputable def je3 (n:Nat) (p:PP):Prop:=p.2=-1∨(0≤p.2∧p.2 < n)
noncomputable def jkx (CW CJ:Addr):Sp:=fun vs H Q _=>∃ (a b c:Addr) (p:PP) (g:Weights) (js:List Join),vs=[.ref a,.ref b,.ref c]∧jX H a p∧vm CW H b g.words∧vT CJ H c g.alone js∧je3 g.words.length p ∧
 ∀ q,H q=none→Q (.ref q) (upd H q (.tup [.int ((g.left ⟨p.1.toNat,jQ p.2⟩:Nat):Int),.int ((g.right ⟨p.1.toNat,jQ p.2⟩:Nat):Int),.int ((g.cost ⟨p.1.toNat,jQ p.2⟩:Nat):Int)]))
theorem jjc {g:Weights} {p:PP} (h0:0≤p.2) {wd:Word} (h:g.words[p.2.toNat]?=some wd) (n:Nat):g.word ⟨n,jQ p.2⟩=some wd:=by
 unfold jQ;rw [Cc (by omega),Cc (by omega)];exact h
theorem jjd {g:Weights} {p:PP} (h:p.2=-1) (n:Nat):g.word ⟨n,jQ p.2⟩=none:=by
 unfold jQ;rw [Ce h]
 rfl
theorem jke (T:Txt K mg t):Cal P w K mg base CX0 1 "weights_of" ["piece","words","joins"] (jkx t.c_Word t.c_Joins):=by
 refine T.xbs.ok jeX (fun vs H Q E h=>?_) (fun f cdv A outer s H vs Q E hr h=>?_)
 ·obtain ⟨a,b,c,p,g,js,rfl,_⟩:=h
  rfl
 ·obtain ⟨a,b,c,p,g,js,rfl,ha,⟨as,hb,hw⟩,⟨dx,d,hc,hd⟩,ok,k⟩:=h;have nd:=jeX.nd;refine ⟨_,(jd (jz (jw vE (jC ve (pv 0) jj) (gli T.xd1 rfl)) (jg (jk (jav (jb (gli T.xd2 rfl) (jb (gli T.xd2 rfl) (jb (jH (pv 2) rfl) jh)))))) jt)
   (jd (jE 3 nd (jC jJ (pv 1) (jC ve (pv 0) jj)))
   (jg (jk (jav (jb (jH (pv 3) rfl) (jb (jH (pv 3) rfl) (jb (jH (pv 3) rfl) jh)))))))),?_⟩
  refine ⟨_,rfl,a,_,_,.int p.2,rfl,rfl,.inl (.inl ha),rfl,rfl,_,rfl,jB (fun h1=>?_) (fun h1=>?_)⟩
  ·have h1':=jF.mp h1;refine ⟨_,rfl,c,_,dx,_,_,rfl,hc,T.xa0.cl,T.xa1,jre ..,by show 3≤sizeLine;decide,fun q hq=>?_⟩;have:=k q hq;unfold Weights.left Weights.right Weights.cost at this;rw [jjd h1'] at this;exact this
  ·have h1':¬p.2=-1:=fun e=>h1 (jF.mpr e);have ok':0≤p.2∧p.2 < g.words.length:=ok.resolve_left h1';obtain ⟨wd,hwd⟩:∃ wd,g.words[p.2.toNat]?=some wd:=⟨_,Cz (by omega)⟩;obtain ⟨x,hx,dw,r,y,hx1,_,_⟩:=LOf.get (F:=vB t.c_Word) hw hwd;refine ⟨_,rfl,_,rfl,a,_,_,.int p.2,rfl,rfl,.inl (.inl ha),rfl,b,_,_,.ref x,rfl,rfl,SqL.of hb,by rw [show p.2=((p.2.toNat:Nat):Int) by omega];exact vn hx,?_⟩;refine ⟨_,rfl,x,_,dw,_,_,rfl,hx1,T.xa3.cl,T.xa6,jnM ..,_,rfl,x,_,dw,_,_,rfl,hx1,T.xa3.cl,T.xa7,jmk ..,_,rfl,x,_,dw,_,_,rfl,hx1,T.xa3.cl,T.xa8,jjb ..,by show 3≤sizeLine;decide,fun q hq=>?_⟩
   have:=k q hq;unfold Weights.left Weights.right Weights.cost at this;rw [jjc ok'.1 hwd] at this;exact this
noncomputable def jd2 (CW CJ:Addr):Sp:=fun vs H Q _=>∃ (a b c:Addr) (ps:List PP) (g:Weights) (js:List Join),vs=[.ref a,.ref b,.ref c]∧LP H a ps∧vm CW H b g.words∧vT CJ H c g.alone js∧(∀ p∈ps,je3 g.words.length p) ∧
 (∀ x y,((js.find? (zi x y)).map fun j=>j.cost).getD 0=g.join x y)∧∀ H',jn H H'→Q (.int ((wayCost g (jR ps):Nat):Int)) H'
theorem joW (g:Weights) (x:Nat) (p:PP) (l:List PP):costFrom g x (jR (p :: l))=g.join x (g.left ⟨p.1.toNat,jQ p.2⟩)+(g.cost ⟨p.1.toNat,jQ p.2⟩+costFrom g (g.right ⟨p.1.toNat,jQ p.2⟩) (jR l)):=rfl
theorem jbj (T:Txt K mg t):Cal P w K mg base CX0 2 "cost_of_way" ["way","words","joins"] (jd2 t.c_Word t.c_Joins):=by
 refine T.xbt.ok jdW (fun vs H Q E h=>?_) (fun f cdv A outer s H vs Q E hr h=>?_)
 ·obtain ⟨a,b,c,ps,g,js,rfl,_⟩:=h
  rfl
 ·obtain ⟨a,b,c,ps,g,js,rfl,⟨as,ha,hp⟩,hw,hj,ok,hjn,k⟩:=h;have nd:=jdW.nd;have elen:=Cr hp;refine ⟨_,(jd (jE 3 nd jj)
   (jd (jE 4 nd (gli T.xd2 rfl))
   (jd (vg Df rfl (vc (pv 0)) (jM (i:=5) nd rfl (Ff rfl)) (jd (jE 6 nd (cal (jke T) hr.m rfl (jb (pv 5) (jb (pv 1) (jb (pv 2) jh)))))
   (jd (jE 3 nd (jY vI (jY vI (pv 3) (cal (jcJ T) hr.m rfl (jb (pv 2) (jb (pv 4) (jb (jC ve (pv 6) jj) jh))))) (jC ve (pv 6) jj)))
   (jg (jE 4 nd (jC ve (pv 6) jj))))))
   (jg (jk (jY vI (pv 3) (cal (jcJ T) hr.m rfl (jb (pv 2) (jb (pv 4) (jb (gli T.xd2 rfl) jh)))))))))),?_⟩
  refine ⟨_,rfl,a,rfl,⟨_,SqL.of ha⟩,vk (K:=K) (a:=a) (xs:=as.map V.ref) (fun i σ H'=>∃ (n x:Nat) (v v2:Option V),σ=[some (.ref a),some (.ref b),some (.ref c),some (.int (n:Int)),some (.int (x:Int)),v,v2]∧jn H H'∧n+costFrom g x (jR (ps.drop i))=wayCost g (jR ps))
   ⟨0,0,none,none,rfl,jn.refl H,by rw [G1,Fy];rfl⟩ (fun i σ H' _ ⟨_,_,_,_,_,q,_⟩=>SqL.of (q _ _ ha)) ?_ ?_⟩
  ·rintro i y σ H' hi ⟨n,x,v,v2,rfl,s1,hn⟩;obtain ⟨e,he,rfl⟩:=vh hi;obtain ⟨p,hpi,hep⟩:=Paired.getP hp he;rw [zj hpi,joW] at hn;refine ⟨_,rfl,_,rfl,_,rfl,e,b,c,p,g,js,rfl,jX.mono _ _ _ _ hep s1,hw.same s1,hj.same s1,ok p (Cw hpi),fun q hq=>?_⟩;have s2:jn H (upd H' q (.tup [.int ((g.left ⟨p.1.toNat,jQ p.2⟩:Nat):Int),.int ((g.right ⟨p.1.toNat,jQ p.2⟩:Nat):Int),.int ((g.cost ⟨p.1.toNat,jQ p.2⟩:Nat):Int)])):=jA s1 (s1.free hq);refine ⟨_,rfl,_,rfl,_,rfl,_,rfl,q,_,_,.int ((g.left ⟨p.1.toNat,jQ p.2⟩:Nat):Int),rfl,rfl,.inl (.inl jc),rfl,c,_,js,x,_,rfl,hj.same s2,fun H3 s3=>?_⟩
   have hq3:=s3 _ _ (jc (H:=H') (a:=q) (o:=.tup [.int ((g.left ⟨p.1.toNat,jQ p.2⟩:Nat):Int),.int ((g.right ⟨p.1.toNat,jQ p.2⟩:Nat):Int),.int ((g.cost ⟨p.1.toNat,jQ p.2⟩:Nat):Int)]));rw [hjn];refine ⟨_,_,rfl,rfl,_,rfl,q,_,_,.int ((g.cost ⟨p.1.toNat,jQ p.2⟩:Nat):Int),rfl,rfl,.inl (.inl hq3),rfl,_,_,rfl,rfl,?_⟩;refine ⟨_,rfl,q,_,_,.int ((g.right ⟨p.1.toNat,jQ p.2⟩:Nat):Int),rfl,rfl,.inl (.inl hq3),rfl,?_⟩;refine ⟨n+g.join x (g.left ⟨p.1.toNat,jQ p.2⟩)+g.cost ⟨p.1.toNat,jQ p.2⟩,g.right ⟨p.1.toNat,jQ p.2⟩,some (.ref e),some (.ref q),?_,s2.trans s3,by omega⟩
   rw [show ((n+g.join x (g.left ⟨p.1.toNat,jQ p.2⟩)+g.cost ⟨p.1.toNat,jQ p.2⟩:Nat):Int)=(n:Int)+(g.join x (g.left ⟨p.1.toNat,jQ p.2⟩):Int)+(g.cost ⟨p.1.toNat,jQ p.2⟩:Int) by omega]
   rfl
  ·rintro σ H' ⟨n,x,v,v2,rfl,s1,hn⟩;rw [Cb,elen,Fp] at hn;refine ⟨_,rfl,_,rfl,_,rfl,c,_,js,x,0,rfl,hj.same s1,fun H3 s3=>?_⟩;rw [hjn];refine ⟨_,_,rfl,rfl,?_⟩;have:=k H3 (s1.trans s3);have e:(n:Int)+((g.join x 0:Nat):Int)=((wayCost g (jR ps):Nat):Int):=by
    have:costFrom g x (jR [])=g.join x 0:=rfl;rw [this] at hn;omega
   show Q (.int ((n:Int)+((g.join x 0:Nat):Int))) H3;rw [e];exact this
noncomputable def jiM (n m:Nat):Nat→List PP→Prop
 | _,[]=>True
 | k,p :: l=>((p.2=-1∧p.1=1∧k < m)∨(0≤p.2∧p.2 < n∧0≤p.1))∧jiM n m (k+p.1.toNat) l
noncomputable def txt (g:Weights) (r:List Nat) (k:Nat) (w:Way):List Nat:=(placed k w).flatMap fun x=>g.sign x.2 ((r.drop x.1).take x.2.sounds)
theorem jmh (g:Weights) (r:List Nat) (k:Nat) (p:PP) (l:List PP):txt g r k (jR (p :: l))=g.sign ⟨p.1.toNat,jQ p.2⟩ ((r.drop k).take p.1.toNat)++txt g r (k+p.1.toNat) (jR l):=rfl
noncomputable def ji7 (CW:Addr):Sp:=fun vs H Q _=>∃ (a b c:Addr) (ps:List PP) (g:Weights) (r:List Nat),vs=[.ref a,.ref b,.ref c]∧LP H a ps∧vm CW H b g.words∧LN H c r∧jiM g.words.length r.length 0 ps∧ps.length≤1000∧(∀ wd∈g.words,wd.text.length≤32) ∧
 ∀ H' p,jn H H'→H p=none→LN H' p (wayText g r (jR ps))→Q (.ref p) H'
theorem jiY (T:Txt K mg t):Cal P w K mg base CX0 1 "text_of_way" ["way","words","reading"] (ji7 t.c_Word):=by
 refine T.xbu.ok jdZ (fun vs H Q E h=>?_) (fun f cdv A outer s H vs Q E hr h=>?_)
 ·obtain ⟨a,b,c,ps,g,r,rfl,_⟩:=h
  rfl
 ·obtain ⟨a,b,c,ps,g,r,rfl,⟨as,ha,hp⟩,⟨bs,hb,hw⟩,hc,fine,hz,hz2,k⟩:=h;have nd:=jdZ.nd;have elen:=Cr hp;refine ⟨_,(jd (jE 3 nd (jN jh))
   (jd (jE 4 nd jj)
   (jd (vg Df rfl (vc (pv 0)) (jM (i:=5) nd rfl (Ff rfl)) (jd (jz (jw vE (jC ve (pv 5) jj) (gli T.xd1 rfl)) (jg (vC (zy De Dm Dn vy (pv 3) (jb (jC jJ (pv 2) (pv 4)) jh)))) (jg (vC (zy De PySem.F.slot_list_extend PySem.F.type_list_extend jfh (pv 3) (jb (jH (jC jJ (pv 1) (jC ve (pv 5) jj)) rfl) jh)))))
   (jg (jE 4 nd (jY vI (pv 4) (jC ve (pv 5) jj))))))
   (jg (jk (pv 3)))))),?_⟩
  refine ⟨C4 _,fun q hq=>?_⟩;have s0:jn H (upd H q (.lst [])):=jq hq;refine ⟨_,rfl,a,rfl,⟨_,SqL.of (s0 _ _ ha)⟩,vk (K:=K) (a:=a) (xs:=as.map V.ref) (fun i σ H'=>∃ (n:Nat) (l:List Nat) (v:Option V),σ=[some (.ref a),some (.ref b),some (.ref c),some (.ref q),some (.int (n:Int)),v]∧jn H H'∧LN H' q l∧l.length≤32 * i∧jiM g.words.length r.length n (ps.drop i)∧l++txt g r n (jR (ps.drop i))=wayText g r (jR ps))
   ⟨0,[],none,rfl,s0,jc,C4 _,fine,rfl⟩ (fun i σ H' _ ⟨_,_,_,_,q,_⟩=>SqL.of (q _ _ ha)) ?_ ?_⟩
  ·rintro i y σ H' hi ⟨n,l,v,rfl,s1,hq1,hl,hf,hn⟩;obtain ⟨e,he,rfl⟩:=vh hi;obtain ⟨p,hpi,hep⟩:=Paired.getP hp he;have hil:=(Cj.mp hpi).1;rw [zj hpi] at hf hn;rw [jmh,←Fe] at hn;have he1:H' e=_:=s1 _ _ hep;have ne:e≠q:=jp (show H e=_ from hep) hq
   have fin:∀ (x:List Nat),x=g.sign ⟨p.1.toNat,jQ p.2⟩ ((r.drop n).take p.1.toNat)→x.length≤32→∃ (n':Nat) (l':List Nat) (v:Option V),[some (.ref a),some (.ref b),some (.ref c),some (.ref q),some (.int ((n:Int)+p.1)),some (.ref e)]=[some (.ref a),some (.ref b),some (.ref c),some (.ref q),some (.int (n':Int)),v]∧jn H (upd H' q (.lst (iv l++iv x)))∧LN (upd H' q (.lst (iv l++iv x))) q l'∧l'.length≤32 * (i+1)∧jiM g.words.length r.length n' (ps.drop (i+1))∧l'++txt g r n' (jR (ps.drop (i+1)))=wayText g r (jR ps):=fun x ex hx=>by
    refine ⟨n+p.1.toNat,l++x,some (.ref e),?_,jA s1 hq,?_,by rw [Ci];omega,hf.2,by rw [ex];exact hn⟩
    ·have h0:0≤p.1:=by rcases hf.1 with h|h<;>omega
     rw [show ((n+p.1.toNat:Nat):Int)=(n:Int)+p.1 by omega]
    ·show upd H' q _ q=_;rw [jc,jap]
   refine ⟨_,rfl,e,_,_,.int p.2,rfl,rfl,.inl (.inl he1),rfl,rfl,_,rfl,jB (fun h1=>?_) (fun h1=>?_)⟩
   ·have h1':=jF.mp h1;have hf1:p.1=1∧n < r.length:=by rcases hf.1 with h|h<;>omega
    obtain ⟨ch,hch⟩:∃ ch,r[n]?=some ch:=⟨_,Cz hf1.2⟩;refine ⟨_,rfl,.inl ⟨rfl,_,SqL.of hq1⟩,_,rfl,_,rfl,c,_,_,.int (ch:Int),rfl,rfl,(hc.same s1).sq,vn (jf1 hch),q,_,_,rfl,rfl,hq1,j7 (by rw [jy];omega),?_⟩;refine ⟨_,rfl,_,rfl,e,_,_,.int p.1,rfl,rfl,.inl (.inl (by rw [ji ne];exact he1)),rfl,_,_,rfl,rfl,?_⟩;refine fin [ch] ?_ (by simp);unfold Weights.sign;rw [jjd h1',hf1.1,zj hch]
    rfl
   ·have h1':¬p.2=-1:=fun e=>h1 (jF.mpr e);have hf1:0≤p.2∧p.2 < g.words.length:=by rcases hf.1 with h|h<;>omega
    obtain ⟨wd,hwd⟩:∃ wd,g.words[p.2.toNat]?=some wd:=⟨_,Cz (by omega)⟩;obtain ⟨x,hx,dw,ra,ta,hx1,_,hta⟩:=LOf.get (F:=vB t.c_Word) hw hwd;have hwz:=hz2 wd (Cw hwd);refine ⟨_,rfl,.inl ⟨rfl,_,SqL.of hq1⟩,_,rfl,_,rfl,e,_,_,.int p.2,rfl,rfl,.inl (.inl he1),rfl,b,_,_,.ref x,rfl,rfl,SqL.of (s1 _ _ hb),by rw [show p.2=((p.2.toNat:Nat):Int) by omega];exact vn hx,x,_,dw,_,_,rfl,s1 _ _ hx1,T.xa3.cl,T.xa5,jd5 ..,q,ta,_,_,rfl,rfl,hq1,hta.same s1,v7 (by rw [jy,jy];omega),?_⟩
    refine ⟨_,rfl,_,rfl,e,_,_,.int p.1,rfl,rfl,.inl (.inl (by rw [ji ne];exact he1)),rfl,_,_,rfl,rfl,?_⟩;refine fin wd.text ?_ hwz;unfold Weights.sign;rw [jjc hf1.1 hwd]
    rfl
  ·rintro σ H' ⟨n,l,v,rfl,s1,hq1,hl,hf,hn⟩;rw [Cb,elen,Fp] at hn;have:l=wayText g r (jR ps):=by rw [←hn];exact (D5 _).symm
   rw [this] at hq1;exact ⟨_,rfl,k H' q s1 hq hq1⟩
end
end
section
variable {H H':Hp} {a q b D x:Addr} {K:Frag} {k n y:Nat} {xs:List V} {l cuts:List Nat} {as:List Addr} {X:Cx} {s:Shared} {pos:Pos} {ku xu:List Value} {P:Program} {w:World} {o:HO} {T:List (List PP)} {σ:St} {E:Value→Shared→Prop} {h:Heap} {wd:Word} {p:PP} {ps:List PP} {g:TG} {e:Expr} {js:List Join}
noncomputable def del (H:Hp) (q:Addr):Hp:=fun a=>if a=q then none else H a
theorem jT (h:b≠q):del H q b=H b:=Cc h
theorem jaL:del H q q=none:=Ce rfl
theorem jkW (h:del H q b=some o):b≠q∧H b=some o:=by
 by_cases e:b=q
 ·rw [e,jaL] at h;cases h
 ·rw [jT e] at h;exact ⟨e,h⟩
theorem vj (H:Hp) (q:Addr):jn (del H q) H:=fun b o e=>(jkW e).2
theorem zD (s:jn H H') (q:Addr):jn (del H q) (del H' q):=fun b o e=>by
 obtain ⟨h1,h2⟩:=jkW e;rw [jT h1];exact s _ _ h2
theorem vv (H:Hp) (q:Addr) (o:HO):del (upd H q o) q=del H q:=by
 funext b;unfold del;split
 ·rfl
 ·rename_i h;exact ji h
theorem jm5 (h:b≠q):del (upd H b o) q=upd (del H q) b o:=by
 funext x;by_cases e:x=b
 ·subst e;rw [jT h,jc,jc]
 ·rw [ji e];by_cases e2:x=q
  ·subst e2;rw [jaL,jaL]
  ·rw [jT e2,jT e2,ji e]
theorem Paired.setP {α β:Type} {F:α→β→Prop}:∀ {a:List α} {b:List β} {x:α} {y:β} (i:Nat),Paired F a b→F x y→Paired F (a.set i x) (b.set i y)
 | _,_,_,_,_,.nil,_=>.nil
 | _,_,_,_,0,.cons r t,h=>.cons h t
 | _,_,_,_,i+1,.cons r t,h=>.cons r (Paired.setP i t h)
theorem jX.del (h:jX H a p) (hq:H q=some (.lst xs)):jX (del H q) a p:=by
 have h':H a=some _:=h;show Rw.del H q a=_;rw [jT (fun e=>by rw [e,hq] at h';cases h')];exact h'
noncomputable def dP (p:PP):PyData:=.tuple [.int p.1,.int p.2]
theorem jsx (p q:PP):PyData.eqv (dP p) (dP q)=decide (p=q):=by
 obtain ⟨a,b⟩:=p;obtain ⟨c,d⟩:=q;unfold dP;simp only [PyData.eqv,PyData.eqvAll];rw [C8];simp
theorem joJ (p:PP):∀ ps:List PP,((ps.map dP).any fun y=>PyData.eqv y (dP p))=ps.contains p
 | []=>rfl
 | q :: ps=>by
  rw [C6,List.any_cons,joJ p ps,jsx,List.contains_cons];congr 1;rw [C8,Dd,D8];exact eq_comm
theorem jX.dp (h:jX H a p):Dp K H (.ref a) (dP p):=.tup (SqT.of h) (.cons (.int _) (.cons (.int _) .nil))
theorem jqk (h:Paired (jX H) as ps):jbW K H (as.map V.ref) (ps.map dP):=by
 induction h with
 | nil=>exact .nil
 | cons r t ih=>exact .cons (jX.dp r) ih
theorem joS:∀ ps:List PP,PyData.canLayAll0 (ps.map dP)=true
 | []=>by simp [PyData.canLayAll0]
 | n :: l=>by simp [PyData.canLayAll0,PyData.canLay0,joS l,dP]
noncomputable def jrU:R2:=fun x y H Q=>∃ a b p ps,x=.ref a∧y=.ref b∧jX H a p∧LP H b ps∧Q (.bl (!(ps.contains p))) H
theorem jkf (hu:X.A.units+64 < cLine):OpR X (compareOp .NotIn) jrU:=by
 intro pins s σ H x y v u Q I rx ry h;obtain ⟨a,b,p,ps,rfl,rfl,ha,⟨as,hb,hp⟩,q⟩:=h;obtain ⟨as1,r1⟩:=Dp.reads I (dP p) _ v (jX.dp (K:=X.K) ha) rx;obtain ⟨bs1,r2⟩:=Dp.reads I (.list (ps.map dP)) _ u (.lst (K:=X.K) (SqL.of hb) (jqk hp)) ry;refine SeqAt.notIn_list_reads r2 r1 (joS ps) (by simp [dP,PyData.canLay0,PyData.canLayAll0]) ?_ ⟨.bl _,H,I,rfl,?_⟩
 ·have:(dP p).depth≤1:=by simp [dP,PyData.depth,PyData.depthAll]
  have h2:min (PyData.depthAll (ps.map dP)) (dP p).depth≤(dP p).depth:=Nat.min_le_right _ _;omega
 ·rw [joJ];exact q
theorem jfT:∀ (T:List (List PP)) (j:Nat) (ws:List (List PP)) (w:List PP),(wys T)[j]?=some ws→w∈ws→w.length≤T.length
 | [],0,ws,w,h,hw=>by
  simp [wys] at h;subst h;simp at hw;rw [hw];exact Cl _
 | [],j+1,ws,w,h,hw=>by simp [wys] at h
 | ps :: T,0,ws,w,h,hw=>by
  simp [wys] at h;subst h;obtain ⟨p,_,hw⟩:=Gx.mp hw;obtain ⟨w',hw',rfl⟩:=Dh.mp hw;cases hg:(wys T)[p.1.toNat - 1]? with
  | none=>rw [hg] at hw';simp at hw'
  | some ws' =>
   rw [hg] at hw';have:=jfT T _ ws' w' hg hw';simp only [Cd];omega
 | ps :: T,j+1,ws,w,h,hw=>by
  have:=jfT T j ws w (by simpa [wys] using h) hw;simp only [Cd];omega
noncomputable def zZ (T:List (List PP)) (k:Nat):List (List (List PP)):=List.replicate k []++wys (T.drop k)
theorem jp4 {j:Nat}:(zZ T (k+1)).getD (k+1+j) []=(wys (T.drop (k+1))).getD j []:=by
 unfold zZ;rw [Cq,Gz (by rw [Du];omega),Du,show k+1+j - (k+1)=j by omega,Cq]
theorem jj4 (h:k≤T.length):(zZ T k).length=T.length+1:=by
 unfold zZ;rw [Ci,Du,ja5,Db];omega
noncomputable def jai (W:List (List (List PP))) (k:Nat) (ps:List PP):List (List PP):=ps.flatMap fun p=>(W.getD (k+p.1.toNat) []).map fun w=>p :: w
theorem jk5 (h:∀ p∈ps,(1:Int)≤p.1):jai (zZ T (k+1)) k ps=ps.flatMap fun p=>((wys (T.drop (k+1))).getD (p.1.toNat - 1) []).map fun w=>p :: w:=by
 unfold jai;refine jbf fun p hp=>?_;have:=h p hp;rw [show k+p.1.toNat=k+1+(p.1.toNat - 1) by omega,jp4]
theorem jp5 (h:T[k]?=some ps) (h1:∀ p∈ps,(1:Int)≤p.1):(zZ T (k+1)).set k (jai (zZ T (k+1)) k ps)=zZ T k:=by
 rw [jk5 h1];unfold zZ;rw [zj h,List.replicate_succ',Fe];rw [List.set_append_right _ _ (by rw [Du];exact Cl _),Du,Nat.sub_self]
 rfl
theorem jmn:∀ (T:List (List PP)) (k:Nat),k≤T.length→wys (T.drop k)=(wys T).drop k
 | T,0,_=>rfl
 | [],k+1,h=>by simp at h
 | ps :: T,k+1,h=>by
  rw [Jh,jmn T k (by simpa using h)]
  rfl
section
variable {P:Program} {w:World} {K:Frag} {mg:Str→Option Value} {base:Heap} {t:Adr}
noncomputable def jfN:Sp:=fun vs H Q _=>∃ (a c:Addr) (k:Nat) (ps:List PP) (W:List (List (List PP))),vs=[.ref a,.int (k:Int),.ref c]∧LP H a ps∧Wy H c W∧(∀ p∈ps,0≤p.1∧k+p.1.toNat < W.length)∧(∀ ws∈W,∀ w∈ws,w.length≤1000)∧(jai W k ps).length≤100000 ∧
 ∀ H' p,jn H H'→H p=none→Tb (del H' c) p (jai W k ps)→Q (.ref p) H'
theorem jfl (T:Txt K mg t):Cal P w K mg base CX0 1 "ways_that_begin" ["pieces","place","ways"] jfN:=by
 refine T.xbo.ok jbH (fun vs H Q E h=>?_) (fun f cdv A outer s H vs Q E hr h=>?_)
 ·obtain ⟨a,c,k,ps,W,rfl,_⟩:=h
  rfl
 ·obtain ⟨a,c,n,ps,W,rfl,⟨as,ha,hp⟩,⟨cs,hc,hw⟩,hi0,hz1,hz2,k⟩:=h;have nd:=jbH.nd;have elen:=Cr hp;refine ⟨_,(jd (jE 3 nd (jN jh))
   (jd (vg Df rfl (vc (pv 0)) (jM (i:=4) nd rfl (Ff rfl)) (jg (vg Df rfl (vc (jC jJ (pv 2) (jY vI (pv 1) (jC ve (pv 4) jj)))) (jM (i:=5) nd rfl (Ff rfl)) (jg (vC (zy De Dm Dn vy (pv 3) (jb (jY jaG (jN (jb (pv 4) jh)) (pv 5)) jh)))))))
   (jg (jk (pv 3))))),?_⟩
  refine ⟨C4 _,fun q hq=>?_⟩;have s0:jn H (upd H q (.lst [])):=jq hq;have ncq:c≠q:=jp hc hq;have hmono:∀ i j:Nat,i≤j→(jai W n (ps.take i)).length≤(jai W n (ps.take j)).length:=fun i j hij=>by
   have e:(ps.take j).take i=ps.take i:=by rw [List.take_take,G7 hij]
   rw [←e]
   conv=>rhs;rw [←List.take_append_drop i (ps.take j)]
   unfold jai;rw [F0,Ci];omega
  refine ⟨_,rfl,a,rfl,⟨_,SqL.of (s0 _ _ ha)⟩,vk (K:=K) (a:=a) (xs:=as.map V.ref) (fun i σ H'=>∃ (v v2:Option V) (fs:List Addr),σ=[some (.ref a),some (.int (n:Int)),some (.ref c),some (.ref q),v,v2]∧jn H H'∧H' q=some (.lst (fs.map V.ref))∧Paired (LP (del (del H' c) q)) fs (jai W n (ps.take i)))
   ⟨none,none,[],rfl,s0,jc,.nil⟩ (fun i σ H' _ ⟨_,_,_,_,q,_⟩=>SqL.of (q _ _ ha)) ?_ ?_⟩
  ·rintro i y σ H' hi ⟨v,v2,fs,rfl,s1,hq1,hf⟩;obtain ⟨e,he,rfl⟩:=vh hi;obtain ⟨p,hpi,hep⟩:=Paired.getP hp he;have hil:=(Cj.mp hpi).1;obtain ⟨p0,pW⟩:=hi0 p (Cw hpi);obtain ⟨ws,hws⟩:∃ ws,W[n+p.1.toNat]?=some ws:=⟨_,Cz pW⟩;obtain ⟨b,hb,bs,hbl,hbp⟩:=LOf.get hw hws;have blen:=Cr hbp;have est:∀ j,(jai W n (ps.take i)++(ws.take j).map fun w=>p :: w).length≤100000:=fun j=>by
    have h1:=hmono (i+1) ps.length (by omega);rw [Dg,take_snoc hpi] at h1;unfold jai at h1 ⊢;rw [F0,Dl,Jk,D5,Cq,hws,Ci] at h1;simp only [Option.getD_some,Cb] at h1;rw [Ci,Cb,Dq];unfold jai at hz2;omega
   refine ⟨_,rfl,_,rfl,_,rfl,e,_,_,.int p.1,rfl,rfl,.inl (.inl (s1 _ _ hep)),rfl,_,_,rfl,rfl,c,_,_,.ref b,rfl,rfl,SqL.of (s1 _ _ hc),by rw [show (n:Int)+p.1=((n+p.1.toNat:Nat):Int) by omega];exact vn hb,b,rfl,⟨_,SqL.of (s1 _ _ hbl)⟩,
    vk (K:=K) (a:=b) (xs:=bs.map V.ref) (fun j σ H2=>∃ (v2:Option V) (fs:List Addr),σ=[some (.ref a),some (.int (n:Int)),some (.ref c),some (.ref q),some (.ref e),v2]∧jn H H2∧H2 q=some (.lst (fs.map V.ref))∧Paired (LP (del (del H2 c) q)) fs (jai W n (ps.take i)++(ws.take j).map fun w=>p :: w))
    ⟨v2,fs,rfl,s1,hq1,by rw [List.take_zero,List.map_nil,D5];exact hf⟩ (fun j σ H2 _ ⟨_,_,_,q,_⟩=>SqL.of (q _ _ hbl)) ?_ ?_⟩
   ·rintro j y σ H2 hj ⟨v3,fs2,rfl,s2,hq2,hf2⟩;obtain ⟨x,hx,rfl⟩:=vh hj;obtain ⟨w,hwj,xs,hxl,hxp⟩:=Paired.getP hbp hx;have hwz:=hz1 ws (Cw hws) w (Cw hwj);have xlen:=Cr hxp;have flen:=Cr hf2;have hjl:=(Cj.mp hwj).1;refine ⟨_,rfl,.inl ⟨rfl,_,SqL.of hq2⟩,_,rfl,by show 1≤sizeLine;decide,fun u hu=>?_⟩;have nuq:u≠q:=Dj (jp hq2 hu);have nuc:u≠c:=Dj (jp (s2 _ _ hc) hu);have nxu:x≠u:=jp (s2 _ _ hxl) hu
    refine ⟨_,rfl,u,x,_,_,rfl,rfl,jc,by rw [ji nxu];exact s2 _ _ hxl,v7 (by rw [Cb,xlen];simp only [Cd,Ct];omega),fun u2 hu2=>?_⟩;obtain ⟨nu2,hu2'⟩:=vw hu2;have nuq2:u2≠q:=Dj (jp hq2 hu2');have nuc2:u2≠c:=Dj (jp (s2 _ _ hc) hu2');refine ⟨q,_,_,rfl,rfl,by rw [ji (Dj nuq2),ji (Dj nuq)];exact hq2,j7 (by rw [Cb,flen];have:=est j;omega),?_⟩;have s3:jn H2 (upd (upd H2 u (.lst [.ref e])) u2 (.lst ([.ref e]++xs.map V.ref))):=jA (jq hu) hu2'
    have eD:del (del (upd (upd (upd H2 u (.lst [.ref e])) u2 (.lst ([.ref e]++xs.map V.ref))) q (.lst (fs2.map V.ref++[.ref u2]))) c) q=del (del (upd (upd H2 u (.lst [.ref e])) u2 (.lst ([.ref e]++xs.map V.ref))) c) q:=by
     rw [jm5 (Dj ncq),vv]
    refine ⟨some (.ref x),fs2++[u2],rfl,jA (s2.trans s3) hq,by rw [jc,Dc];rfl,?_⟩;rw [eD];have sD:=zD (zD s3 c) q;rw [take_snoc hwj,Dc,←Fe];refine Paired.appendP (Paired.mapM hf2 fun _ _ _ z=>LP.mono _ _ _ _ z sD) (.cons ⟨e :: xs,?_,.cons ?_ ?_⟩ .nil)
    ·rw [jT nuq2,jT nuc2,jc]
     rfl
    ·have pm:∀ (z:Addr) (pp:PP),jX H z pp→jX (del (del (upd (upd H2 u (.lst [.ref e])) u2 (.lst ([.ref e]++xs.map V.ref))) c) q) z pp:=fun z pp hz=>by
      have h1:=jX.mono _ _ _ _ hz (s2.trans s3);have h2:=jX.del h1 ((s2.trans s3) _ _ hc);refine jX.del h2 (xs:=fs2.map V.ref) ?_;rw [jT (Dj ncq)];exact s3 _ _ hq2
     exact pm _ _ hep
    ·have pm:∀ (z:Addr) (pp:PP),jX H z pp→jX (del (del (upd (upd H2 u (.lst [.ref e])) u2 (.lst ([.ref e]++xs.map V.ref))) c) q) z pp:=fun z pp hz=>by
      have h1:=jX.mono _ _ _ _ hz (s2.trans s3);have h2:=jX.del h1 ((s2.trans s3) _ _ hc);refine jX.del h2 (xs:=fs2.map V.ref) ?_;rw [jT (Dj ncq)];exact s3 _ _ hq2
     exact Paired.mapM hxp fun z _ pp hz=>pm z pp hz
   ·rintro σ H2 ⟨v3,fs2,rfl,s2,hq2,hf2⟩;rw [Cb,blen,Dg] at hf2;refine ⟨_,_,fs2,rfl,s2,hq2,?_⟩;rw [take_snoc hpi];unfold jai at hf2 ⊢;rw [F0,Dl,Jk,D5,Cq (i:=n+p.1.toNat),hws];exact hf2
  ·rintro σ H' ⟨v,v2,fs,rfl,s1,hq1,hf⟩;rw [Cb,elen,Dg] at hf;refine ⟨_,rfl,k H' q s1 hq ⟨fs,by rw [jT (Dj ncq)];exact hq1,Paired.mapM hf fun _ _ _ z=>LP.mono _ _ _ _ z (vj _ _)⟩⟩
noncomputable def jou:Sp:=fun vs H Q _=>∃ (a:Addr) (T:List (List PP)),vs=[.ref a]∧Tb H a T∧WFT T∧T.length≤1000∧(∀ (k:Nat) (ws:List (List PP)),(wys T)[k]?=some ws→ws.length≤100000)∧∀ H' p,jn H H'→Tb H' p ((wys T).headD [])→Q (.ref p) H'
theorem joh (T:Txt K mg t):Cal P w K mg base CX0 2 "ways_of" ["table"] jou:=by
 refine T.xbp.ok jir (fun vs H Q E h=>?_) (fun f cdv A outer s H vs Q E hr h=>?_)
 ·obtain ⟨a,l,rfl,_⟩:=h
  rfl
 ·obtain ⟨a,T',rfl,⟨as,ha,hp⟩,wf,hz,hz2,k⟩:=h;have nd:=jir.nd;have elen:=Cr hp;refine ⟨_,(jd (jE 1 nd (jY jaG (jcO (own:=[("pieces",2)]) rfl nd (vc (pv 0)) (zQ (N:=["table","ways","pieces","place"]) (sc:=jm jfB) (by decide +kernel)) (fun _ _ _ _ _=>(jM (i:=2) nd rfl (Ff rfl))) (fun _ _ _ _ _=>jbm) (fun _ _ _ _ _=>(jN jh))) (jN (jb (jN (jb (jN jh) jh)) jh))))
   (jd (vg Df rfl (jcP rfl T.xdp (jb (jY jdF (vf T.xdl (pv 0)) jj) (jb (jaA zJ jj) (jb (jaA zJ jj) jh)))) (jM (i:=3) nd rfl (Ff rfl)) (jg (jpI (cal (jfl T) hr.m rfl (jb (jC jJ (pv 0) (pv 3)) (jb (pv 3) (jb (pv 1) jh)))) (jpE (pv 1) (pv 3) jlT))))
   (jg (jk (jC jJ (pv 1) jj))))),?_⟩
  refine ⟨_,rfl,a,rfl,⟨_,SqL.of ha⟩,fun D hD=>jdB (K:=K) (a:=a) (xs:=as.map V.ref) (fun i H2=>jn H H2∧∃ bs:List Addr,H2 D=some (.lst (bs.map V.ref))∧Paired (Tb (del H2 D)) bs (List.replicate i []))
    ⟨jq hD,[],jc,.nil⟩ (fun i H2 _ ⟨q,_⟩=>SqL.of (q _ _ ha)) ?_ ?_⟩
  ·rintro i y H2 hi ⟨s2,bs,hD2,hb⟩;have blen:=Cr hb;have hil:=(Cj.mp hi).1;rw [Cb] at hil;rw [Du] at blen;refine ⟨rfl,jcA ⟨C4 _,fun u hu=>?_⟩⟩;have nDu:D≠u:=jp hD2 hu;refine ⟨bs.map V.ref,by rw [ji nDu];exact hD2,j7 (by rw [Cb];omega),jA (jA s2 (s2.free hu)) hD,bs++[u],by rw [jc,Dc];rfl,?_⟩;rw [vv,List.replicate_succ'];exact Paired.appendP (Paired.mapM hb fun _ _ _ z=>Tb.mono _ _ _ _ z (zD (jq hu) D)) (.cons ⟨[],by rw [jT (Dj nDu),jc];rfl,.nil⟩ .nil)
  ·rintro H2 ⟨s2,bs,hD2,hb⟩;rw [Cb,elen] at hb;have blen:=Cr hb;rw [Du] at blen;refine ⟨C4 _,fun u hu=>⟨by show 1≤sizeLine;decide,fun u2 hu2=>⟨by show 1≤sizeLine;decide,fun u3 hu3=>?_⟩⟩⟩;obtain ⟨n12,hu2'⟩:=vw hu2;obtain ⟨n23,hu3'⟩:=vw hu3;obtain ⟨n13,hu3''⟩:=vw hu3';have s3:jn H2 (upd (upd (upd H2 u (.lst [])) u2 (.lst [.ref u])) u3 (.lst [.ref u2])):=jA (jA (jq hu) hu2') hu3'';refine ⟨D,u3,bs.map V.ref,[.ref u2],rfl,rfl,s3 _ _ hD2,jc,v7 (by rw [Cb];simp only [Cd,Ct];omega),fun q hq=>?_⟩
   have hq0:H2 q=none:=s3.free hq;have h0:H q=none:=s2.free hq0;have s4:jn H2 (upd (upd (upd (upd H2 u (.lst [])) u2 (.lst [.ref u])) u3 (.lst [.ref u2])) q (.lst (bs.map V.ref++[.ref u2]))):=jA s3 hq0;have hD0:D≠q:=jp hD2 hq0;refine ⟨_,rfl,a,_,rfl,.inl (SqL.of (s4 _ _ (s2 _ _ ha))),_,_,rfl,rfl,_,rfl,_,rfl,_,_,_,T'.length,rfl,by rw [Cb,elen];exact jib _ (by omega),jef (fun i σ H'=>∃ (v:Option V) (cs:List Addr),σ=[some (.ref a),some (.ref q),none,v]∧jn H H'∧H' q=some (.lst (cs.map V.ref))∧Paired (Tb (del H' q)) cs (zZ T' (T'.length - i)))
    ⟨none,bs++[u2],rfl,s2.trans s4,by rw [jc,Dc];rfl,?_⟩ ?_ ?_⟩
   ·rw [vv];unfold zZ;rw [Nat.sub_zero,Fp];have nu:u≠q:=jp (o:=.lst []) (by rw [ji (Dj n13),ji (Dj n12),jc]) hq;have nu2:u2≠q:=jp (o:=.lst [.ref u]) (by rw [ji (Dj n23),jc]) hq;refine Paired.appendP (Paired.mapM hb fun x _ y z=>?_) (.cons ⟨[u],?_,.cons ⟨[],?_,.nil⟩ .nil⟩ .nil)
    ·have z1:=Tb.mono _ _ _ _ z (vj _ _);refine Tb.mono _ _ _ _ z1 (fun b o e=>?_);rw [jT (jp e hq0)];exact s3 _ _ e
    ·rw [jT nu2,ji (Dj n23),jc]
     rfl
    ·rw [jT nu,ji (Dj n13),ji (Dj n12),jc]
     rfl
   ·rintro i σ H' hi ⟨v,cs,rfl,s5,hq5,hc⟩;obtain ⟨m,hm⟩:∃ m,T'.length - i=m+1:=⟨T'.length - i - 1,by omega⟩;have hml:m < T'.length:=by omega
    obtain ⟨ps,hps⟩:∃ ps,T'[m]?=some ps:=⟨_,Cz hml⟩;obtain ⟨b,hb2,hbl⟩:=LOf.get hp hps;have em:(((as.map V.ref).length:Int) - 1+(i:Int) * (-1))=(m:Int):=by rw [Cb,elen];omega
    rw [hm] at hc;rw [em];have clen:=Cr hc;rw [jj4 (by omega)] at clen;have h1:∀ p∈ps,(1:Int)≤p.1:=fun p hpp=>(wf m ps p hps hpp).1;refine ⟨_,rfl,_,rfl,a,_,_,.ref b,rfl,rfl,SqL.of (s5 _ _ ha),vn hb2,_,rfl,_,rfl,b,q,m,ps,zZ T' (m+1),rfl,LP.mono _ _ _ _ hbl s5,⟨cs,hq5,Paired.mapM hc fun _ _ _ z=>Tb.mono _ _ _ _ z (vj _ _)⟩,?_,?_,?_,fun H6 x s6 hx6 hx=>?_⟩
    ·intro p hpp;have:=wf m ps p hps hpp;rw [jj4 (by omega)];omega
    ·intro ws hws w hw;unfold zZ at hws;rcases Ds.mp hws with hws|hws
     ·rw [List.eq_of_mem_replicate hws] at hw;cases hw
     ·obtain ⟨j,hj⟩:=List.mem_iff_getElem?.mp hws;have:=jfT _ j ws w hj hw;rw [Db] at this;omega
    ·refine hz2 m _ ?_;rw [jk5 h1];have e:=jmn T' m (by omega);rw [zj hps] at e;have:((wys T').drop m)[0]?=some (ps.flatMap fun p=>((wys (T'.drop (m+1))).getD (p.1.toNat - 1) []).map fun w=>p :: w):=by rw [←e];rfl
     rw [List.getElem?_drop] at this;exact this
    ·refine ⟨_,rfl,_,rfl,q,_,_,m,rfl,rfl,s6 _ _ hq5,?_,?_⟩
     ·unfold ixN;rw [Ce (by omega),Ce (by rw [Cb];omega),Dt]
     ·refine ⟨_,cs.set m x,rfl,jA (s5.trans s6) h0,?_,?_⟩
      ·rw [jc,List.map_set]
      ·rw [vv,show T'.length - (i+1)=m by omega,←jp5 hps h1];exact Paired.setP m (Paired.mapM hc fun _ _ _ z=>Tb.mono _ _ _ _ z (zD s6 q)) hx
   ·rintro σ H' ⟨v,cs,rfl,s5,hq5,hc⟩;rw [Nat.sub_self] at hc;have h0:(zZ T' 0)[0]?=some ((wys T').headD []):=by
     unfold zZ;rw [G1];show (wys T')[0]?=_;cases hcc:wys T' with
     | nil=>have:=ja5 T';rw [hcc] at this;simp at this
     | cons x l=>rfl
    obtain ⟨b,hb2,hbl⟩:=LOf.get (F:=fun _=>Tb (del H' q)) (H:=H') hc h0;exact ⟨_,rfl,q,_,_,.ref b,rfl,rfl,SqL.of hq5,vn (j:=0) hb2,k H' b s5 (Tb.mono _ _ _ _ hbl (vj _ _))⟩
noncomputable def jpQ:Sp:=fun vs H Q _=>∃ (a b:Addr) (ps:List PP) (T:List (List PP)),vs=[.ref a,.ref b]∧LP H a ps∧Tb H b T∧WFT T∧(∀ p∈ps,0≤p.1)∧Q (.bl (zc T 0 ps)) H
theorem jpw (T:Txt K mg t):Cal P w K mg base CX0 1 "is_way" ["pieces","table"] jpQ:=by
 refine T.xbr.ok jjP (fun vs H Q E h=>?_) (fun f cdv A outer s H vs Q E hr h=>?_)
 ·obtain ⟨a,b,ps,T,rfl,_⟩:=h
  rfl
 ·obtain ⟨a,b,ps,T',rfl,⟨as,ha,hp⟩,⟨bs,hb,ht⟩,wf,h0,k⟩:=h;have nd:=jjP.nd;have hu64:=hr.units;have elen:=Cr hp;have tlen:=Cr ht;refine ⟨_,(jd (jE 2 nd jj)
   (jd (vg Df rfl (vc (pv 0)) (jM (i:=3) nd rfl (Ff rfl)) (jd (jz (PW.pt (jak (jw vE (pv 2) (vf T.xdl (pv 1))) (jaw (jw (jkf hu64) (pv 3) (jC jJ (pv 1) (pv 2)) (by with_unfolding_all rfl))))) (jg (jk vY)) jt)
   (jg (jE 2 nd (jY vI (pv 2) (jC ve (pv 3) jj))))))
   (jg (jk (zm vE (pv 2) (vf T.xdl (pv 1))))))),?_⟩
  refine ⟨_,rfl,a,rfl,⟨_,SqL.of ha⟩,vk (K:=K) (a:=a) (xs:=as.map V.ref) (fun i σ H'=>∃ (n:Nat) (v:Option V),σ=[some (.ref a),some (.ref b),some (.int (n:Int)),v]∧H'=H∧n≤T'.length∧zc T' n (ps.drop i)=zc T' 0 ps)
   ⟨0,none,rfl,rfl,C4 _,rfl⟩ (fun i σ H' _ ⟨_,_,_,q,_⟩=>by rw [q];exact SqL.of ha) ?_ ?_⟩
  ·rintro i y σ H' hi ⟨n,v,rfl,rfl,hn,hw⟩;obtain ⟨e,he,rfl⟩:=vh hi;obtain ⟨p,hpi,hep⟩:=Paired.getP hp he;rw [zj hpi,zc] at hw;refine ⟨_,rfl,_,rfl,b,_,rfl,.inl (SqL.of hb),rfl,_,rfl,jB (fun h1=>?_) (fun h1=>?_)⟩
   ·have h1':=jF.mp h1;rw [Cb,tlen] at h1';have e1:(n != T'.length)=false:=by simp;omega
    rw [e1,Dv,Dv] at hw;rw [←hw] at k;exact vG k
   ·have h1':n < T'.length:=by
     have:¬(n:Int)=((bs.map V.ref).length:Int):=fun q=>h1 (jF.mpr q);rw [Cb,tlen] at this;omega
    obtain ⟨qs,hqs⟩:∃ qs,T'[n]?=some qs:=⟨_,Cz h1'⟩;obtain ⟨c,hc,hcl⟩:=LOf.get ht hqs;have e1:(n != T'.length)=true:=by simp;omega
    have e2:T'.getD n []=qs:=by rw [Cq,hqs];rfl
    rw [e1,e2,Fa] at hw;refine ⟨_,rfl,_,rfl,_,rfl,b,_,_,.ref c,rfl,rfl,SqL.of hb,vn hc,e,c,p,qs,rfl,rfl,hep,hcl,_,rfl,jB (fun h2=>?_) (fun h2=>?_)⟩
    ·have h2':qs.contains p=false:=by simpa using h2
     rw [h2',Dv] at hw;rw [←hw] at k;exact k
    ·have h2':qs.contains p=true:=by simpa using h2
     rw [h2',Fa] at hw;have w1:=wf n qs p hqs (by simpa using h2');refine ⟨_,rfl,_,rfl,e,_,_,.int p.1,rfl,rfl,.inl (.inl hep),rfl,_,_,rfl,rfl,?_⟩;refine ⟨n+p.1.toNat,some (.ref e),?_,rfl,by omega,hw⟩;rw [show ((n+p.1.toNat:Nat):Int)=(n:Int)+p.1 by omega]
     rfl
  ·rintro σ H' ⟨n,v,rfl,rfl,hn,hw⟩;rw [Cb,elen,Fp,zc] at hw;refine ⟨_,rfl,_,rfl,b,_,rfl,.inl (SqL.of hb),rfl,?_⟩;rw [←hw] at k;have e:(n == T'.length)=decide (V.int (n:Int)=V.int ((bs.map V.ref).length:Int)):=by
    rw [C8,D8,jF,Cb,tlen];omega
   rw [e] at k;exact k
end
theorem jk4 {tb:TS} {D:jcb} (Pv:Nat→St→Hp→Prop) (h0:Pv 0 σ H) (hl:∀ i σ H,i≤xs.length→Pv i σ H→SqL K H a xs)
  (hs:∀ i x σ H T,xs[i]?=some x→Pv i σ H→H T=none→g (.ref T) σ (upd H T (.tup [.int (i:Nat),x])) fun σ2 H2=>tb { D with nx:=Pv (i+1),ct:=Pv (i+1),bk:=D.nx } σ2 H2) (hd:∀ σ H,Pv xs.length σ H→D.nx σ H) :
  ∃ W:Nat→Nat→St→Hp→Prop,(∃ m,W 0 m σ H)∧∀ i m σ H,W i m σ H →
   ((Ite K a).stop i H∧D.nx σ H)∨((Ite K a).go i H∧∃ N:St→Hp→Prop,(∀ σ' H',N σ' H'→∃ m',m' < m∧W (i+1) m' σ' H')∧∀ x H',(Ite K a).yld i H x H'→g x σ H' fun σ2 H2=>tb { D with nx:=N,ct:=N,bk:=D.nx } σ2 H2) :=
 jk3 xs.length Pv h0 (fun i σ H hi hp=>⟨xs,xs[i],hl i σ H (F5 hi) hp,by simp [hi]⟩) (fun σ H hp=>⟨xs,hl _ σ H (Cl _) hp,Cl _⟩)
  (fun i σ H x H' hi hp y=>by
   obtain ⟨T,z,rfl,hT,rfl,hz⟩:=y;exact hs i z σ H T (hz xs (hl i σ H (F5 hi) hp)) hp hT) hd
section
variable {P:Program} {w:World} {K:Frag} {mg:Str→Option Value} {base:Heap} {t:Adr}
noncomputable def jgl:Sp:=fun vs H Q _=>∃ a l,vs=[.ref a]∧LN H a l∧Q (.bl (isText l)) H
theorem jgf (T:Txt K mg t):Cal P w K mg base CX0 2 "are_characters" ["reading"] jgl:=by
 refine T.xbv.ok jbS (fun vs H Q E h=>?_) (fun f cdv A outer s H vs Q E hr h=>?_)
 ·obtain ⟨a,l,rfl,_⟩:=h
  rfl
 ·obtain ⟨a,l,rfl,hl,k⟩:=h;have nd:=jbS.nd;refine ⟨_,(jd (vg Df rfl (vc (pv 0)) (jM (i:=1) nd rfl (Ff rfl)) (jg (jz (vL (vz (cal (jcK T) hr.m rfl (jb (pv 1) jh)))) (jg (jk vY)) jt)))
   (jg (jk vY))),?_⟩
  refine ⟨_,rfl,a,rfl,⟨_,hl.sq⟩,vk (K:=K) (a:=a) (xs:=iv l) (fun i σ H'=>∃ v:Option V,σ=[some (.ref a),v]∧H'=H∧isText (l.take i)=true)
   ⟨none,rfl,rfl,rfl⟩ (fun i σ H' _ ⟨_,_,e,_⟩=>by rw [e];exact hl.sq) ?_ ?_⟩
  ·rintro i y σ H' hi ⟨v,rfl,rfl,hd⟩;obtain ⟨n,hn,rfl⟩:=jaW hi;refine ⟨_,rfl,(n:Int),rfl,_,rfl,jB (fun h1=>?_) (fun h1=>?_)⟩
   ·have h1':isChar n=false:=by simpa using h1
    have e:isText l=false:=by
     unfold isText;rw [←Fq,Dk];intro q;rw [q n (Cw hn)] at h1';cases h1'
    rw [e] at k;exact k
   ·have h1':isChar n=true:=by simpa using h1
    refine ⟨_,rfl,rfl,?_⟩;unfold isText at hd ⊢;rw [take_snoc hn,Ln,hd];simp [h1']
  ·rintro σ H' ⟨v,rfl,rfl,hd⟩;rw [jy,Dg] at hd;rw [hd] at k;exact k
noncomputable def jmJ:Sp:=fun vs H Q _=>∃ (a:Addr) (l:List Nat) (n:Nat),vs=[.ref a,.int (n:Int)]∧LN H a l∧Q (.bl (l.all (fun x=>decide (x≤2)) && decide (l.length < n))) H
theorem jmE (T:Txt K mg t):Cal P w K mg base CX0 1 "are_cuts" ["cuts","count"] jmJ:=by
 refine T.xbw.ok jgM (fun vs H Q E h=>?_) (fun f cdv A outer s H vs Q E hr h=>?_)
 ·obtain ⟨a,l,n,rfl,_⟩:=h
  rfl
 ·obtain ⟨a,l,m,rfl,hl,k⟩:=h;have nd:=jgM.nd;refine ⟨_,(jd (vg Df rfl (vc (pv 0)) (jM (i:=2) nd rfl (Ff rfl)) (jg (jz (jw zh (pv 2) jj) (jg (jk vY)) jt)))
   (jg (jk (zm jaj (vf T.xdl (pv 0)) (pv 1))))),?_⟩
  refine ⟨_,rfl,a,rfl,⟨_,hl.sq⟩,vk (K:=K) (a:=a) (xs:=iv l) (fun i σ H'=>∃ v:Option V,σ=[some (.ref a),some (.int (m:Int)),v]∧H'=H∧(l.take i).all (fun x=>decide (x≤2))=true)
   ⟨none,rfl,rfl,rfl⟩ (fun i σ H' _ ⟨_,_,e,_⟩=>by rw [e];exact hl.sq) ?_ ?_⟩
  ·rintro i y σ H' hi ⟨v,rfl,rfl,hd⟩;obtain ⟨n,hn,rfl⟩:=jaW hi;refine ⟨_,rfl,_,_,rfl,rfl,_,rfl,jB (fun h1=>?_) (fun h1=>?_)⟩
   ·have h1':=Co h1;have e:l.all (fun x=>decide (x≤2))=false:=by
     rw [←Fq,Dk];intro q;have:=Co (q n (Cw hn));omega
    rw [e] at k;exact k
   ·have h1':¬(2:Int) < (n:Int):=fun q=>h1 (C3 q);refine ⟨_,rfl,rfl,?_⟩;rw [take_snoc hn,Ln,hd];simp;omega
  ·rintro σ H' ⟨v,rfl,rfl,hd⟩;rw [jy,Dg] at hd;rw [hd,Fa] at k;refine ⟨_,rfl,a,_,rfl,.inl hl.sq,_,rfl,_,_,rfl,rfl,?_⟩;have e:decide (l.length < m)=decide (((iv l).length:Int) < (m:Int)):=by
    rw [C8,Dd,Dd,jy];omega
   rw [e] at k;exact k
noncomputable def ji5:Sp:=fun vs H Q _=>∃ (a:Addr) (l:List Int) (n m:Nat),vs=[.ref a,.int (n:Int),.int (m:Int)]∧LI H a l∧l.length≤1000000∧∀ H',jn H H'→Q (.bl (jV l && zB n m (-1) (jG l))) H'
theorem jiX (T:Txt K mg t):Cal P w K mg base CX0 2 "are_choices" ["choices","count","word_count"] ji5:=by
 refine T.xbx.ok jdV (fun vs H Q E h=>?_) (fun f cdv A outer s H vs Q E hr h=>?_)
 ·obtain ⟨a,l,n,m,rfl,_⟩:=h
  rfl
 ·obtain ⟨a,l,n,m,rfl,hl,hz,k⟩:=h;have nd:=jdV.nd;refine ⟨_,(jd (jz (vL (vz (cal (jdD T) hr.m rfl (jb (pv 0) jh)))) (jg (jk vY)) jt)
   (jd (jE 3 nd (jaA zJ jj))
   (jd (vg Df rfl (vc (cal (jaF T) hr.m rfl (jb (pv 0) jh))) (jM (i:=4) nd rfl (Ff rfl)) (jd (jz (vL (jbl jaj jaj (pv 3) (jC ve (pv 4) jj) (pv 1))) (jg (jk vY)) jt)
   (jd (jz (PW.pt (jak (jw jaj (jC ve (pv 4) jj) (gli T.xd1 rfl)) (jaw (jw jrf (jC ve (pv 4) jj) (pv 2))))) (jg (jk vY)) jt)
   (jg (jE 3 nd (jC ve (pv 4) jj))))))
   (jg (jk vY))))),?_⟩
  refine ⟨_,rfl,a,l,rfl,hl,hz,_,rfl,jB (fun h1=>?_) (fun h1=>?_)⟩
  ·have h1':jV l=false:=by simpa using h1
   have:=k H (jn.refl H);rw [h1',Dv] at this;exact this
  ·have h1':jV l=true:=by simpa using h1
   rw [h1',Fa] at k;refine ⟨_,rfl,_,rfl,a,l,rfl,hl,hz,((zS l).mp h1').1,fun H1 p s1 _ hp=>?_⟩;obtain ⟨as,hp1,hp2⟩:=hp;have elen:=Cr hp2;refine ⟨p,rfl,⟨_,SqL.of hp1⟩,vk (K:=K) (a:=p) (xs:=as.map V.ref) (fun i σ H'=>∃ (z:Int) (v:Option V),σ=[some (.ref a),some (.int (n:Int)),some (.int (m:Int)),some (.int z),v]∧H'=H1∧zB n m z ((jG l).drop i)=zB n m (-1) (jG l))
    ⟨-1,none,rfl,rfl,rfl⟩ (fun i σ H' _ ⟨_,_,_,e,_⟩=>by rw [e];exact SqL.of hp1) ?_ ?_⟩
   ·rintro i y σ H' hi ⟨z,v,rfl,rfl,hd⟩;obtain ⟨b,hb,rfl⟩:=vh hi;obtain ⟨q,hqi,hbq⟩:=Paired.getP hp2 hb;rw [zj hqi,zB] at hd;have no:(decide (z < q.1) && (decide (q.1 < (n:Int)) && (decide (-1≤q.2) && (decide (q.2 < (m:Int)) && zB n m q.1 ((jG l).drop (i+1))))))=false→Q (.bl false) H':=fun e=>by
     have:=k _ s1;rw [←hd,e] at this;exact this
    refine ⟨_,rfl,_,rfl,b,_,_,.int q.1,rfl,rfl,.inl (.inl hbq),rfl,_,_,rfl,rfl,_,rfl,jB (fun h2=>?_) (fun h2=>?_)⟩
    ·refine ⟨_,rfl,_,_,rfl,rfl,_,rfl,jB (fun h3=>?_) (fun h3=>?_)⟩
     ·refine no ?_;have h3':decide (q.1 < (n:Int))=false:=by simpa using h3
      rw [h3',Dv,Gj]
     ·have h3':decide (q.1 < (n:Int))=true:=by simpa using h3
      refine ⟨_,rfl,b,_,_,.int q.2,rfl,rfl,.inl (.inl hbq),rfl,_,_,rfl,rfl,_,rfl,jB (fun h4=>?_) (fun h4=>?_)⟩
      ·refine vG (no ?_);have h4':=Co h4;have:decide (-1≤q.2)=false:=by simp;omega
       rw [this,Dv,Gj,Gj]
      ·have h4':¬q.2 < -1:=fun e=>h4 (C3 e);refine ⟨_,rfl,b,_,_,.int q.2,rfl,rfl,.inl (.inl hbq),rfl,_,rfl,_,_,rfl,rfl,_,rfl,jB (fun h5=>?_) (fun h5=>?_)⟩
       ·refine no ?_;have h5':=Co h5;have:decide (q.2 < (m:Int))=false:=by simp;omega
        rw [this,Dv,Gj,Gj,Gj]
       ·have h5':¬(m:Int)≤q.2:=fun e=>h5 (C3 e);refine ⟨_,rfl,b,_,_,.int q.1,rfl,rfl,.inl (.inl hbq),rfl,?_⟩;refine ⟨q.1,_,rfl,rfl,?_⟩;rw [←hd,h2,h3',show decide (-1≤q.2)=true by simp;omega,show decide (q.2 < (m:Int))=true by simp;omega]
        rfl
    ·refine ⟨_,rfl,vG (no ?_)⟩;have h2':decide (z < q.1)=false:=by simpa using h2
     rw [h2',Dv]
   ·rintro σ H' ⟨z,v,rfl,rfl,hd⟩;rw [Cb,elen,Fp,zB] at hd;have:=k _ s1;rw [←hd] at this;exact this
noncomputable def jd3:Sp:=fun vs H Q _=>∃ a l,vs=[.ref a]∧LN H a l∧Q (.int (jax l)) H
theorem jaO (T:Txt K mg t):Cal P w K mg base CX0 3 "refusal_of_reading" ["reading"] jd3:=by
 refine T.xby.ok jdY (fun vs H Q E h=>?_) (fun f cdv A outer s H vs Q E hr h=>?_)
 ·obtain ⟨a,l,rfl,_⟩:=h
  rfl
 ·obtain ⟨a,l,rfl,hl,k⟩:=h;refine ⟨_,(jd (jz (PW.pt (jak (jw vE (vf T.xdl (pv 0)) jj) (jaw (jw zh (vf T.xdl (pv 0)) (gli T.xd4 rfl))))) (jg (jk (gli T.xd6 rfl))) jt)
   (jd (jz (vL (vz (cal (jgf T) hr.m rfl (jb (pv 0) jh)))) (jg (jk (gli T.xd8 rfl))) jt)
   (jg (jk jj)))),?_⟩
  have no:l=[]∨24 < l.length→Q (.int (-1)) H:=fun q=>by
   unfold jax at k;rw [Ce q] at k;exact k
  refine ⟨_,rfl,a,_,rfl,.inl hl.sq,rfl,_,rfl,jB (fun h1=>?_) (fun h1=>?_)⟩
  ·have h1':=jF.mp h1;rw [jy] at h1';exact vG (no (.inl (Jj.mp (by omega))))
  ·have h1':¬((iv l).length:Int)=0:=fun e=>h1 (jF.mpr e);rw [jy] at h1';refine ⟨_,rfl,a,_,rfl,.inl hl.sq,_,_,rfl,rfl,_,rfl,jB (fun h2=>?_) (fun h2=>?_)⟩
   ·have h2':=Co h2;rw [jy] at h2';exact no (.inr (by omega))
   ·have h2':¬(24:Int) < ((iv l).length:Int):=fun e=>h2 (C3 e);rw [jy] at h2';have e:¬(l=[]∨24 < l.length):=by
     rintro (q|q)
     ·rw [q] at h1';simp at h1'
     ·omega
    unfold jax at k;rw [Cc e] at k;refine ⟨_,rfl,a,l,rfl,hl,_,rfl,jB (fun h3=>?_) (fun h3=>?_)⟩
    ·have h3':¬isText l=true:=by simpa using h3
     rw [Cc h3'] at k;exact k
    ·have h3':isText l=true:=by simpa using h3
     rw [Ce h3'] at k;exact k
noncomputable def sf (x d:Addr):List (Str×V):=[("cuts",.ref x),("chosen",.ref d)]
noncomputable def jfU (C:Addr) (H:Hp) (a:Addr) (n:Nat) (cuts:List Nat) (c:List PP):Prop:=∃ dx x d kvs,H a=some (.ins C dx (sf x d))∧LN H x (vd n cuts)∧H d=some (.dK kvs)∧∀ k:Int,v8 kvs (.inl k)=(zK c k).map V.int
theorem jfU.same {C:Addr} {c:List PP} (h:jfU C H a n cuts c) (s:jn H H'):jfU C H' a n cuts c:=by
 obtain ⟨dx,x,d,kvs,h1,h2,h3,h4⟩:=h;exact ⟨dx,x,d,kvs,s _ _ h1,h2.same s,s _ _ h3,h4⟩
theorem jnF (x d:Addr):(sf x d).lookup ("cuts":Str)=some (.ref x):=rfl
theorem jfK (x d:Addr):(sf x d).lookup ("chosen":Str)=some (.ref d):=rfl
noncomputable def jiv (C:Addr):Sp:=fun vs H Q _=>∃ p dx x d,vs=[.ref p,.ref x,.ref d]∧H p=some (.ins C dx [])∧∀ H':Hp,H' p=some (.ins C dx (sf x d))→(∀ b o,H b=some o→b≠p→H' b=some o)→Q .non H'
theorem jhY (T:Txt K mg t):Met P w K mg base 1 t.c_Settled "__init__" ["self","cuts","chosen"] (jiv t.c_Settled):=by
 refine T.xc1.ok jij (fun vs H Q E h=>?_) (fun f cdv A outer s H vs Q E hr h=>?_)
 ·obtain ⟨p,dx,x,d,rfl,_⟩:=h
  rfl
 ·obtain ⟨p,dx,x,d,rfl,hp,k⟩:=h;refine ⟨_,(jd (vJ (pv 0) (pv 1) rfl)
   (jg (vJ (pv 0) (pv 2) rfl))),?_⟩
  refine ⟨_,rfl,_,rfl,p,t.c_Settled,dx,_,rfl,hp,T.xa9.cl,T.xaa,by decide,?_⟩;refine ⟨_,rfl,_,rfl,p,t.c_Settled,dx,_,rfl,jc,T.xa9.cl,T.xab,(by show 1 < 1000;decide),?_⟩;refine k _ ?_ fun b o e hb=>by rw [ji hb,ji hb];exact e
  rw [jc]
  rfl
theorem jqY {κ:Type} [DecidableEq κ] (kvs:List (κ×V)) (k:κ) (v:V):(jah kvs k v).length≤kvs.length+1:=by
 unfold jah;split
 ·rw [Cb];omega
 ·rw [Ci];exact Cl _
theorem jp1 {c:List PP} (k:Int) (h:∀ q∈c,q.1≠p.1):zK (c++[p]) k=if k=p.1 then some p.2 else zK c k:=by
 unfold zK;rw [List.find?_append];by_cases e:k=p.1
 ·have:c.find? (fun q=>q.1 == k)=none:=by
   rw [Jo];intro q hq;have:=h q hq;simp;omega
  rw [this,Ce e];simp [e]
 ·rw [Cc e];have:([p].find? fun q=>q.1 == k)=none:=by simp;omega
  rw [this,Option.or_none]
noncomputable def jpR (C:Addr):Sp:=fun vs H Q _=>∃ (a b:Addr) (n:Nat) (cuts:List Nat) (l:List Int),vs=[.int (n:Int),.ref a,.ref b]∧LN H a cuts∧LI H b l∧cuts.length < n∧n≤1000∧l.length≤100000∧l.length % 2=0∧(jG l).Pairwise (fun p q=>p.1 < q.1) ∧
 ∀ H' p,jn H H'→jfU C H' p n cuts (jG l)→Q (.ref p) H'
theorem jpx (T:Txt K mg t):Cal P w K mg base CX0 3 "settle" ["count","cuts","choices"] (jpR t.c_Settled):=by
 refine T.xc2.ok jjQ (fun vs H Q E h=>?_) (fun f cdv A outer s H vs Q E hr h=>?_)
 ·obtain ⟨a,b,n,cuts,l,rfl,_⟩:=h
  rfl
 ·obtain ⟨a,b,n,cuts,l,rfl,ha,hb,hn,hz,hz2,h2,hpw,k⟩:=h;have nd:=jjQ.nd;have hu:=jeg hr;refine ⟨_,(jd (jE 3 nd jqP)
   (jd (vg Df rfl (vc (cal (jaF T) hr.m rfl (jb (pv 2) jh))) (jM (i:=4) nd rfl (Ff rfl)) (jg (ji3 hu (pv 3) (jC ve (pv 4) jj) (jC ve (pv 4) jj) rfl)))
   (jg (jk (mak (jhY T) T.xa9 hr.m rfl (jb (jY jaG (jY jaG (jN (jb jj jh)) (pv 1)) (jY jpz (jN (jb jj jh)) (jY jdF (pv 0) (vf T.xdl (pv 1))))) (jb (pv 3) jh))))))),?_⟩
  refine fun d hd=>?_;have s0:jn H (upd H d (.dK [])):=jq hd;refine ⟨_,rfl,b,l,rfl,hb.same s0,by omega,h2,fun H1 p s1 hp0 hp=>?_⟩;obtain ⟨as,hp1,hp2⟩:=hp;have elen:=Cr hp2;have pl:=pairs_len l;have ndp:d≠p:=jp (H:=upd H d (.dK [])) jc hp0;refine ⟨p,rfl,⟨_,SqL.of hp1⟩,vk (K:=K) (a:=p) (xs:=as.map V.ref) (fun i σ H'=>∃ (v:Option V) (kvs:List (Key×V)),σ=[some (.int (n:Int)),some (.ref a),some (.ref b),some (.ref d),v]∧jn (del H1 d) (del H' d)∧H' d=some (.dK kvs)∧kvs.length≤i∧∀ k:Int,v8 kvs (.inl k)=(zK ((jG l).take i) k).map V.int)
   ⟨none,[],rfl,jn.refl _,s1 _ _ jc,Cl _,fun _=>rfl⟩ (fun i σ H' _ ⟨_,_,_,e,_⟩=>SqL.of (vj _ _ _ _ (e _ _ (by rw [jT (Dj ndp)];exact hp1)))) ?_ ?_⟩
  ·rintro i y σ H' hi ⟨v,kvs,rfl,s2,hd2,hkl,hv⟩;obtain ⟨x,hx,rfl⟩:=vh hi;obtain ⟨q,hqi,hxq⟩:=Paired.getP hp2 hx;have hil:=(Cj.mp hqi).1;have hxq1:H1 x=some _:=hxq;have nxd:x≠d:=fun e=>by
    have:H1 d=some _:=s1 _ _ jc;rw [e,this] at hxq1;cases hxq1
   have hx2:H' x=_:=vj _ _ _ _ (s2 _ _ (by rw [jT nxd];exact hxq1));refine ⟨_,rfl,x,_,_,.int q.2,rfl,rfl,.inl (.inl hx2),rfl,_,rfl,_,rfl,x,_,_,.int q.1,rfl,rfl,.inl (.inl hx2),rfl,d,_,rfl,jd6.k (k:=.inl q.1) hd2 (j7 (by omega)),?_⟩;refine ⟨_,_,rfl,?_,jc,Da (jqY _ _ _) (by omega),fun kk=>?_⟩
   ·rw [vv];exact s2
   ·rw [jq8,take_snoc hqi,jp1]
    ·by_cases e:kk=q.1
     ·rw [Ce e,Ce (by rw [e])];rfl
     ·rw [Cc e,Cc (fun z=>e (Sum.inl.inj z))];exact hv kk
    ·intro z hz;have h3:(jG l).take (i+1)=(jG l).take i++[q]:=take_snoc hqi;have h4:((jG l).take (i+1)).Pairwise (fun p q=>p.1 < q.1):=hpw.sublist (List.take_sublist _ _);rw [h3] at h4;have:=(List.pairwise_append.mp h4).2.2 z hz q (Cm.mpr rfl);omega
  ·rintro σ H' ⟨v,kvs,rfl,s2,hd2,hkl,hv⟩;rw [Cb,elen,Dg] at hv;have s3:jn H H':=fun x o e=>by
    have nxd:=jp e hd;exact vj _ _ _ _ (s2 _ _ (by rw [jT nxd];exact s1 _ _ (s0 _ _ e)))
   have ha2:=ha.same s3;refine ⟨by show 1≤sizeLine;decide,fun p1 hp1'=>?_⟩;have t1:jn H' (upd H' p1 (.lst [.int 0])):=jq hp1';refine ⟨_,rfl,p1,a,_,_,rfl,rfl,jc,t1 _ _ ha2,v7 (by rw [jy];simp only [Cd,Ct];omega),fun p2 hp2'=>?_⟩;have t2:jn H' (upd (upd H' p1 (.lst [.int 0])) p2 (.lst ([.int 0]++iv cuts))):=jA t1 (t1.free hp2');refine ⟨by show 1≤sizeLine;decide,fun p3 hp3'=>?_⟩;have n23:p2≠p3:=jp jc hp3';have t3:jn H' (upd (upd (upd H' p1 (.lst [.int 0])) p2 (.lst ([.int 0]++iv cuts))) p3 (.lst [.int 0])):=jA t2 (t2.free hp3')
   refine ⟨_,rfl,_,rfl,a,_,rfl,.inl (ha2.same t3).sq,_,_,rfl,rfl,p3,_,_,rfl,rfl,jc,by rw [jy];omega,by rw [jy];omega,v7 (by rw [jy];simp only [Cd,Ct];omega),fun p4 hp4'=>?_⟩;have n24:p2≠p4:=jp (o:=.lst ([.int 0]++iv cuts)) (by rw [ji n23,jc]) hp4';refine ⟨p2,p4,_,_,rfl,rfl,by rw [ji n24,ji n23,jc],jc,v7 (by rw [Ci,jy,jiU];simp only [Cd,Ct];omega),fun p5 hp5'=>?_⟩
   have t4:jn H' (upd (upd (upd (upd H' p1 (.lst [.int 0])) p2 (.lst ([.int 0]++iv cuts))) p3 (.lst [.int 0])) p4 (.lst (List.replicate ((n:Int) - ((iv cuts).length:Int)).toNat [V.int 0]).flatten)):=jA t3 (t3.free hp4');have hp5'':=t4.free hp5';have e5:([V.int 0]++iv cuts)++(List.replicate ((n:Int) - ((iv cuts).length:Int)).toNat [V.int 0]).flatten=iv (vd n cuts):=by
    have e1:∀ n:Nat,(List.replicate n [V.int 0]).flatten=iv (List.replicate n 0):=fun n=>by
     induction n with
     | zero=>rfl
     | succ n ih=>rw [Ga,Ja,ih];rfl
    rw [e1,jy,show ((n:Int) - (cuts.length:Int)).toNat=n - cuts.length by omega];unfold vd;rw [Fe,jap]
    rfl
   rw [e5];have t5:=jA (o:=.lst (iv (vd n cuts))) t4 hp5'';refine ⟨_,rfl,fun z dz hz0 hdz ndz=>?_⟩;refine ⟨z,dz,p5,d,rfl,jc,fun H6 h6 k6=>⟨rfl,?_⟩⟩;have t6:=jn.made hz0 hdz k6;refine k H6 z ((s3.trans t5).trans t6) ⟨dz,p5,d,kvs,h6,?_,t6 _ _ (t5 _ _ hd2),hv⟩;exact t6 _ _ jc
noncomputable def jl4 (C:Addr):Sp:=fun vs H Q _=>∃ (a b:Addr) (i n:Nat) (p:PP) (cuts:List Nat) (c:List PP),vs=[.ref a,.int (i:Int),.ref b]∧jX H a p∧jfU C H b n cuts c∧1≤p.1∧(i:Int)+p.1≤n∧n≤1000∧cuts.length < n∧Q (.bl (jas n cuts c i p)) H
theorem jnZ (h:cuts.length < n):(vd n cuts).length=n+1:=by
 unfold vd;rw [Cd,Ci,Du];omega
theorem jjq (h:cuts.length < n) {j:Nat} (hj:j≤n):(vd n cuts)[j]?=some ((vd n cuts).getD j 0):=by
 rw [Cq,Cz (by rw [jnZ h];omega)]
 rfl
theorem Qm {A G H:Prop} (m:(A→G)→H) (r:A→G):H:=m r
theorem jlq (T:Txt K mg t):Cal P w K mg base CX0 1 "may_stand" ["piece","place","settled"] (jl4 t.c_Settled):=by
 refine T.xc3.ok jfE (fun vs H Q E h=>?_) (fun f cdv A outer s H vs Q E hr h=>?_)
 ·obtain ⟨a,b,i,n,p,cuts,c,rfl,_⟩:=h
  rfl
 ·obtain ⟨a,b,i,n,p,cuts,c,rfl,ha,⟨dx,x,d,kvs,hb,hx,hd,hv⟩,h1,h2,hz,hc,k⟩:=h;have nd:=jfE.nd;have hu:=jeg hr;refine ⟨_,(jd (jE 3 nd (jY vI (pv 1) (jC ve (pv 0) jj)))
   (jd (jz (PW.pt (jpL (jac (jh6 hu (pv 1) (jH (pv 2) rfl)) (by with_unfolding_all rfl)) (jnB (jw zE (jnv hu (jH (pv 2) rfl) (pv 1) (fun _ _=>rfl)) (jC ve (pv 0) jj))))) (jg (jk vY)) jt)
   (jd (jz (jw vE (jC jJ (jH (pv 2) rfl) (pv 3)) (gli T.xdc rfl)) (jg (jk vY)) jt)
   (jd (vg Df rfl (jpH rfl T.xdp (jb (jY vI (pv 1) jj) (jb (pv 3) jh))) (jM (i:=4) nd rfl (Ff rfl)) (jg (jz (PW.pt (jak (jw vE (jC jJ (jH (pv 2) rfl) (pv 4)) (gli T.xdb rfl)) (jaw (jac (jh6 hu (pv 4) (jH (pv 2) rfl)) (by with_unfolding_all rfl))))) (jg (jk vY)) jt)))
   (jg (jk vY)))))),?_⟩
  have ee:(i:Int)+p.1=((i+p.1.toNat:Nat):Int):=by omega
  unfold jas at k;refine ⟨_,rfl,_,rfl,a,_,_,.int p.1,rfl,rfl,.inl (.inl ha),rfl,_,_,rfl,rfl,?_⟩;refine ⟨_,rfl,_,rfl,b,_,dx,_,_,rfl,hb,T.xa9.cl,T.xab,jfK ..,d,_,rfl,jam.k (k:=.inl (i:Int)) hd,_,rfl,?_⟩;rw [hv];apply Qm
  ·intro R;rcases hvi:zK c (i:Int) with _|z
   ·rw [hvi] at k;simp only [Fa] at k;exact jbJ (jbJ (R k))
   ·rw [hvi] at k;refine vG ⟨_,rfl,b,_,dx,_,_,rfl,hb,T.xa9.cl,T.xab,jfK ..,_,rfl,d,.int z,rfl,?dg,_,rfl,a,_,_,.int p.2,rfl,rfl,.inl (.inl ha),rfl,rfl,_,rfl,jB (fun h3=>?bad) (fun h3=>?good)⟩
    case dg =>
     have:=jam.k (k:=.inl (i:Int)) hd;rw [hv,hvi] at this;exact this
    case bad =>
     have h3':¬z=p.2:=by simpa using h3
     have e:decide (z=p.2)=false:=by simpa using h3'
     simp only [e,Dv] at k;exact k
    case good =>
     have h3':z=p.2:=by simpa using h3
     have e:decide (z=p.2)=true:=C3 h3';simp only [e,Fa] at k;exact R k
  ·clear k;intro k
   have hxe:atI (iv (vd n cuts)) ((i:Int)+p.1)=some (.int (((vd n cuts).getD (i+p.1.toNat) 0:Nat):Int)):=by
    rw [ee];exact vn (jf1 (jjq hc (by omega)))
   refine ⟨_,rfl,b,_,dx,_,_,rfl,hb,T.xa9.cl,T.xaa,jnF ..,_,rfl,x,_,_,_,rfl,rfl,hx.sq,hxe,rfl,_,rfl,jB (fun h3=>?_) (fun h3=>?_)⟩
   ·have h3':=jF.mp h3;have e:((vd n cuts).getD (i+p.1.toNat) 0 != 2)=false:=by simp only [bne_eq_false_iff_eq];omega
    rw [e,Dv] at k;exact k
   ·have h3':¬(((vd n cuts).getD (i+p.1.toNat) 0:Nat):Int)=2:=fun e=>h3 (jF.mpr e);have e:((vd n cuts).getD (i+p.1.toNat) 0 != 2)=true:=by simp only [Lq,ne_eq];omega
    rw [e,Fa] at k;refine ⟨_,rfl,_,_,rfl,rfl,_,rfl,_,_,rfl,⟨by omega,by omega,by omega,by omega⟩,jo4 (fun j σ H'=>∃ (v:Option V),σ=[some (.ref a),some (.int (i:Int)),some (.ref b),some (.int ((i:Int)+p.1)),v]∧H'=H∧∀ m,m < j→((vd n cuts).getD (i+1+m) 0 != 1 && (zK c ((i+1+m:Nat):Int)).isNone)=true)
     ⟨none,rfl,rfl,fun m hm=>absurd hm (Nat.not_lt_zero _)⟩ ?_ ?_⟩
    ·rintro j σ H' hj ⟨v,rfl,rfl,hd2⟩;have ej:(i:Int)+1+(j:Int)=((i+1+j:Nat):Int):=by omega
     have no:((vd n cuts).getD (i+1+j) 0 != 1 && (zK c ((i+1+j:Nat):Int)).isNone)=false→Q (.bl false) H':=fun q=>by
      have e:((List.range (p.1.toNat - 1)).all fun j=>(vd n cuts).getD (i+1+j) 0 != 1 && (zK c ((i+1+j:Nat):Int)).isNone)=false:=by
       rw [←Fq,Dk];intro z;have:=z j (Gy.mpr (by omega));rw [q] at this;cases this
      rw [e] at k;exact k
     have hxj:atI (iv (vd n cuts)) ((i:Int)+1+(j:Int))=some (.int (((vd n cuts).getD (i+1+j) 0:Nat):Int)):=by
      rw [ej];exact vn (jf1 (jjq hc (by omega)))
     refine ⟨_,rfl,b,_,dx,_,_,rfl,hb,T.xa9.cl,T.xaa,jnF ..,_,rfl,x,_,_,_,rfl,rfl,hx.sq,hxj,rfl,_,rfl,jB (fun h4=>?_) (fun h4=>?_)⟩
     ·have h4':=jF.mp h4;refine vG (no ?_);have:((vd n cuts).getD (i+1+j) 0 != 1)=false:=by simp only [bne_eq_false_iff_eq];omega
      rw [this,Dv]
     ·have h4':¬(((vd n cuts).getD (i+1+j) 0:Nat):Int)=1:=fun e=>h4 (jF.mpr e);have e4:((vd n cuts).getD (i+1+j) 0 != 1)=true:=by simp only [Lq,ne_eq];omega
      refine ⟨_,rfl,_,rfl,b,_,dx,_,_,rfl,hb,T.xa9.cl,T.xab,jfK ..,d,_,rfl,jam.k (k:=.inl ((i:Int)+1+(j:Int))) hd,_,rfl,?_⟩;rw [hv,ej];cases hvj:zK c ((i+1+j:Nat):Int) with
      | some z =>
       refine vG (no ?_);rw [hvj];exact Gj _
      | none =>
       refine jbJ ⟨_,rfl,rfl,fun m hm=>?_⟩;by_cases e5:m=j
       ·subst e5;rw [hvj,e4]
        rfl
       ·exact hd2 m (by omega)
    ·rintro σ H' ⟨v,rfl,rfl,hd2⟩;have e6:((i:Int)+p.1 - ((i:Int)+1)).toNat=p.1.toNat - 1:=by omega
     rw [e6] at hd2;have e:((List.range (p.1.toNat - 1)).all fun j=>(vd n cuts).getD (i+1+j) 0 != 1 && (zK c ((i+1+j:Nat):Int)).isNone)=true:=by
      rw [Dk];intro z hz2;exact hd2 z (Gy.mp hz2)
     rw [e] at k;exact k
noncomputable def jos (C:Addr):Sp:=fun vs H Q _=>∃ (a b:Addr) (T:List (List PP)) (cuts:List Nat) (c:List PP),vs=[.ref a,.ref b]∧Tb H a T∧jfU C H b T.length cuts c∧WFT T∧T.length≤1000∧(∀ ps∈T,ps.length≤1000)∧cuts.length < T.length ∧
 ∀ H' p,jn H H'→Tb H' p (jbY T.length cuts c 0 T)→Q (.ref p) H'
theorem jfd (n:Nat) (cuts:List Nat) (c:List PP):∀ (T:List (List PP)) (i:Nat),(jbY n cuts c i T).length=T.length
 | [],_=>rfl
 | ps :: T,i=>by rw [jbY,Cd,jfd n cuts c T (i+1),Cd]
theorem jjE (n:Nat) (cuts:List Nat) (c:List PP):∀ (T:List (List PP)) (i j:Nat) (ps:List PP),T[j]?=some ps→(jbY n cuts c i T)[j]?=some (ps.filter (jas n cuts c (i+j)))
 | [],i,j,ps,h=>by simp at h
 | qs :: T,i,0,ps,h=>by
  simp at h;subst h
  rfl
 | qs :: T,i,j+1,ps,h=>by
  have:=jjE n cuts c T (i+1) j ps (by simpa using h);rw [jbY,List.getElem?_cons_succ,this,show i+1+j=i+(j+1) by omega]
theorem jog (T:Txt K mg t):Cal P w K mg base CX0 2 "kept_of" ["table","settled"] (jos t.c_Settled):=by
 refine T.xc4.ok jio (fun vs H Q E h=>?_) (fun f cdv A outer s H vs Q E hr h=>?_)
 ·obtain ⟨a,b,T',cuts,c,rfl,_⟩:=h
  rfl
 ·obtain ⟨a,b,T',cuts,c,rfl,⟨as,ha,hp⟩,hb,wf,hz,hz2,hc,k⟩:=h;have nd:=jio.nd;have elen:=Cr hp;refine ⟨_,(jd (jE 2 nd (jN jh))
   (jd (vg Df rfl (ji2 rfl T.xdq (jb (pv 0) jh)) (jfo rfl (zC (jM (i:=3) nd rfl (Or.inr rfl)) (zC (jM (i:=4) nd rfl (Ff rfl)) jdG))) (jg (vC (zy De Dm Dn vy (pv 2) (jb (jcO (own:=[("piece",5)]) rfl nd (vc (pv 4)) (zQ (N:=["table","settled","kept","place","pieces","piece"]) (sc:=jm jfv) (by decide +kernel)) (fun _ _ _ _ _=>(jM (i:=5) nd rfl (Ff rfl))) (fun _ _ _ _ _=>(jny (vz (cal (jlq T) hr.m rfl (jb (pv 5) (jb (pv 3) (jb (pv 1) jh))))))) (fun _ _ _ _ _=>(pv 5))) jh)))))
   (jg (jk (pv 2))))),?_⟩
  refine ⟨C4 _,fun q hq=>?_⟩;have s0:jn H (upd H q (.lst [])):=jq hq;refine ⟨_,rfl,a,_,rfl,SqL.of (s0 _ _ ha),jk4 (K:=K) (a:=a) (xs:=as.map V.ref) (fun i σ H'=>∃ (v v2:Option V) (fs:List Addr),σ=[some (.ref a),some (.ref b),some (.ref q),v,v2,none]∧jn H H'∧H' q=some (.lst (fs.map V.ref))∧Paired (LP (del H' q)) fs ((jbY T'.length cuts c 0 T').take i))
   ⟨none,none,[],rfl,s0,jc,.nil⟩ (fun i σ H' _ ⟨_,_,_,_,e,_⟩=>SqL.of (e _ _ ha)) ?_ ?_⟩
  ·rintro i y σ H' tp hi ⟨v,v2,fs,rfl,s1,hq1,hf⟩ htp;obtain ⟨e,he,rfl⟩:=vh hi;obtain ⟨ps,hpi,es,hel,hep⟩:=Paired.getP hp he;have hil:=(Cj.mp hpi).1;have s2:jn H' (upd H' tp (.tup [.int (i:Nat),.ref e])):=jq htp;have plen:=Cr hep;have flen:=Cr hf;have hpz:=hz2 ps (Cw hpi);rw [Dq,jfd] at flen;refine ⟨tp,_,rfl,SqT.of jc,rfl,_,_,rfl,_,_,rfl,rfl,?_⟩
   refine ⟨_,rfl,.inl ⟨rfl,_,SqL.of (s2 _ _ hq1)⟩,_,rfl,e,rfl,⟨_,SqL.of (s2 _ _ (s1 _ _ hel))⟩,fun D hD=>jdB (K:=K) (a:=e) (xs:=es.map V.ref) (fun j H2=>jn H' H2∧∃ gs:List Addr,H2 D=some (.lst (gs.map V.ref))∧gs.length≤j∧Paired (jX (del (del H2 q) D)) gs ((ps.take j).filter (jas T'.length cuts c i)))
    ⟨jA s2 ((vw hD).2),[],jc,Cl _,.nil⟩ (fun j H2 _ ⟨q2,_⟩=>SqL.of (q2 _ _ (s1 _ _ hel))) ?_ ?_⟩
   ·rintro j y H2 hj ⟨s3,gs,hD2,hgl,hg⟩;obtain ⟨x,hx,rfl⟩:=vh hj;obtain ⟨p,hpj,hxp⟩:=Paired.getP hep hx;have hjl:=(Cj.mp hpj).1;obtain ⟨w1,w2⟩:=wf i ps p hpi (Cw hpj);have hx2:=jX.mono _ _ _ _ hxp (s1.trans s3);refine ⟨rfl,_,rfl,_,rfl,_,rfl,x,b,i,T'.length,p,cuts,c,rfl,hx2,hb.same (s1.trans s3),w1,w2,hz,hc,_,rfl,?_⟩;cases hm:jas T'.length cuts c i p with
    | false =>
     refine jbJ ⟨s3,gs,hD2,by omega,?_⟩;rw [take_snoc hpj,Jn];simp only [D0,hm,List.filter_nil,Gs,D5,Fu];exact hg
    | true =>
     refine vG ⟨_,rfl,_,hD2,j7 (by rw [Cb];omega),?_⟩;have hD0:H' D=none:=(vw hD).2;refine ⟨jA s3 hD0,gs++[x],by rw [jc,Dc];rfl,by rw [Ci];simp only [Cd,Ct];omega,?_⟩;have nDq:D≠q:=fun z=>by rw [z,hq1] at hD0;cases hD0
     rw [jm5 nDq,vv,take_snoc hpj,Jn];simp only [D0,hm,List.filter_nil,Lf];refine Paired.appendP hg (.cons ?_ .nil);have h5:=jX.del hx2 (s3 _ _ hq1);exact jX.del h5 (by rw [jT nDq];exact hD2)
   ·rintro H2 ⟨s3,gs,hD2,hgl,hg⟩;have hD0:H' D=none:=(vw hD).2;have nDq:D≠q:=fun z=>by rw [z,hq1] at hD0;cases hD0
    rw [Cb,plen,Dg] at hg;refine ⟨q,_,_,rfl,rfl,s3 _ _ hq1,j7 (by rw [Cb];omega),?_⟩;refine ⟨_,_,fs++[D],rfl,jA (s1.trans s3) hq,by rw [jc,Dc];rfl,?_⟩;rw [vv,take_snoc (jjE T'.length cuts c T' 0 i ps hpi),Fy];refine Paired.appendP (Paired.mapM hf fun _ _ _ z=>LP.mono _ _ _ _ z (zD s3 q)) (.cons ⟨gs,by rw [jT nDq];exact hD2,Paired.mapM hg fun _ _ _ z=>jX.mono _ _ _ _ z (vj _ _)⟩ .nil)
  ·rintro σ H' ⟨v,v2,fs,rfl,s1,hq1,hf⟩;rw [Cb,elen,D6 (by rw [jfd];exact Cl _)] at hf;exact ⟨_,rfl,k H' q s1 ⟨fs,hq1,Paired.mapM hf fun _ _ _ z=>LP.mono _ _ _ _ z (vj _ _)⟩⟩
end
section
variable {X:Cx} {pins:List (Addr×Obj)} {σ:St} {H:Hp} {s:Shared} {h':Heap}
theorem jlX {ch:List Addr} {ys:List V} {its:List Value} {t':Nat} (I:Inv X pins σ H s) (hD:D∈ch) (k:∀ b o,b∉ch→s.heap.get? b=some o→h'.get? b=some o) (hf:∀ b∈ch,zN X pins H b)
  (hv:jx ys its) (hz:ys.length≤sizeLine) (hg:h'.get? D=some { cls:=.type "list",data:=.seq its.toArray n }) (hth:∀ b∈ch,∃ o,h'.get? b=some o):Inv X pins σ (upd H D (.lst ys)) { s with heap:=h',toks:=t' }:=by
 have hD0:H D=none:=(hf D hD).1;have up:∀ b u,H b=some u→upd H D (.lst ys) b=some u:=fun b u e=>by rw [ji (jp e hD0)];exact e
 refine I.step (g':=s.gens) (d':=s.drawn) (ch:=ch) (fun b hb=>⟨(hf b hb).2.2.2.1,(hf b hb).2.1,(hf b hb).2.2.2.2.1,(hf b hb).2.2.2.2.2⟩) (fun b o _ _ hc e _=>k b o hc e) (fun b o _ _ hc e _=>⟨o.slots,k b o hc e⟩)
  (fun b o hc e q=>by rw [ji (fun z=>hc (by rw [z];exact hD))];exact q) (fun b o hc e=>⟨o,k b o hc e⟩) (fun b xs e=>up _ _ e) (fun b o u e=>up _ _ e) (fun b ps e=>⟨#[],by rw [up _ _ e];simp⟩) (fun m hm=>?_) (fun b u e=>?_) I.bare
 ·obtain ⟨o,es,ep,ho,r⟩:=hm;exact ⟨o,es,ep,k _ o (fun z=>(hf _ z).2.1 rfl) ho,r⟩
 ·by_cases eb:b=D
  ·subst eb;rw [jc] at e;cases e;exact ⟨hz,its,n,hv,hg⟩
  ·rw [ji eb] at e;refine (I.hok b u e).stay (fun c v hc q=>k c v ?_ q) (fun c q=>up _ _ q) fun c xs q=>up _ _ q;intro z;have hc0:=(hf c z).1;rcases hc with y|y
   ·rw [y,e] at hc0;cases hc0
   ·rw [y] at hc0;cases hc0
end
theorem jfm {α β:Type} {F:α→β→Prop} {l2 l3:List β} (p:l3.Perm l2):∀ {l:List α},Paired F l l2→∃ m,m.Perm l∧Paired F m l3:=by
 induction p with
 | nil=>intro l h;exact ⟨l,List.Perm.refl _,h⟩
 | cons x p ih =>
  intro l h;cases h with
  | cons r t =>
   obtain ⟨m,h1,h2⟩:=ih t;exact ⟨_,h1.cons _,.cons r h2⟩
 | swap x y l' =>
  intro l h;cases h with
  | cons r t =>
   cases t with
   | cons r2 t=>exact ⟨_,List.Perm.swap ..,.cons r2 (.cons r t)⟩
 | trans p1 p2 ih1 ih2 =>
  intro l h;obtain ⟨m,h1,h2⟩:=ih2 h;obtain ⟨m2,h3,h4⟩:=ih1 h2;exact ⟨m2,h3.trans h1,h4⟩
noncomputable def jaf (p:V×V) (q:Value×Value):Prop:=RelV p.1 q.1∧RelV p.2 q.2
theorem jhj:∀ {ks xs:List V} {ku xu:List Value},jx ks ku→jx xs xu→Paired jaf (ks.zip xs) (ku.zip xu)
 | _,_,_,_,.nil,_=>.nil
 | _,_,_,_,.cons _ _,.nil=>.nil
 | _,_,_,_,.cons r t,.cons r2 t2=>.cons ⟨r,r2⟩ (jhj t t2)
theorem jhi:∀ {ps:List (V×V)} {qs:List (Value×Value)},Paired jaf ps qs→jx (ps.map (·.2)) (qs.map (·.2))
 | _,_,.nil=>.nil
 | _,_,.cons r t=>.cons r.2 (jhi t)
section
variable {X:Cx} {pins:List (Addr×Obj)} {σ:St}
noncomputable def jbX (X:Cx) (s:Shared) (ku xu:List Value) (good:List (Value×Value)→Prop):Prop :=
 (xu.length < 2→good (ku.zip xu))∧(2≤xu.length→∃ kd,(∀ (Q:SortKind→Shared→Prop) (E:Value→Shared→Prop),Q kd s→wpAny (model X.prog X.w) X.A.in1.in1 (keyKind' ku.toArray) Q E s) ∧
  ∀ (E:Value→Shared→Prop),wpS (model X.prog X.w) X.A.in1.in1 E s sortRuns' (fun _ st=>(arrOf st).Perm (ku.toArray.zip xu.toArray)∧failedOf st=none∧good (arrOf st).toList) (SortSt.mk' kd (ku.toArray.zip xu.toArray) #[] 7 none))
theorem z0 (ku xu:List Value):(ku.toArray.zip xu.toArray).toList=ku.zip xu:=by simp
theorem js4 {kS:Addr} {ks:List V} {e e1:Nat} {P:PySem.Fin→Shared→Prop} (good:List (V×V)→Prop)
  (I:Inv X pins σ H s) (hD:s.heap.get? D=some (seqObj "list" #[] e1)) (hK:s.heap.get? kS=some (seqObj "list" ku.toArray e)) (ne:kS≠D) (fD:zN X pins H D) (fK:zN X pins H kS)
  (rk:jx ks ku) (rx:jx xs xu) (hl:ks.length=xs.length) (hz:xs.length≤sizeLine) (hs:jbX X s ku xu fun qs=>∀ ps,Paired jaf ps qs→ps.Perm (ks.zip xs)→good ps)
  (h:∀ s' ps,Inv X pins σ (upd H D (.lst (ps.map (·.2)))) s'→ps.Perm (ks.zip xs)→good ps→P (.done (.ret .none)) s') :
  wpAny (model X.prog X.w) X.A.in1.in1 (ksk_end D false xu.toArray e1 (.ref kS) ku.toArray) P E s:=by
 have lk:=rk.length;have lx:=rx.length;have tail:∀ st:SortSt,failedOf st=none→(arrOf st).toList.Perm (ku.zip xu)→(∀ ps,Paired jaf ps (arrOf st).toList→ps.Perm (ks.zip xs)→good ps)→wpAny (model X.prog X.w) X.A.in1.in1 (ksk_tail D false e1 (.ref kS) st) P E s:=by
  intro st hfl hp hg;obtain ⟨ps,pp,pr⟩:=jfm hp (jhj rk rx);have u1:=Fg s.heap kS (Obj.mapSeq fun _=>(#[]:Array Value));have d1:(s.heap.update kS (Obj.mapSeq fun _=>(#[]:Array Value))).get? D=some (seqObj "list" #[] e1):=(u1.2 D (Dj ne)).trans hD;have u2:=Fg (s.heap.update kS (Obj.mapSeq fun _=>(#[]:Array Value))) D (Obj.mapSeq fun _=>(arrOf st).map (·.2));have len:(arrOf st).size=xs.length:=by
   have:=hp.length_eq;rw [Lo,Gr] at this;omega
  have d2:=Js d1 fun _=>(arrOf st).map (·.2);have k2:=Js hK fun _=>(#[]:Array Value);unfold ksk_tail;dsimp only;refine Ca (Ju hK rfl ?_ (by rw [Cy,←lk,hl];exact hz) (C4 _));refine Ca (wpAny_letGo ?_);refine Ca (seqEpoch_at d1 rfl ?_);refine Ca (Ju d1 rfl ?_ (C4 _) (by show ((arrOf st).map (·.2)).size≤sizeLine+1;rw [Array.size_map,len];exact Nat.le_succ_of_le hz));rw [hfl];simp only [bne_self_eq_false,Fu,Gs];refine Ck (h _ ps ?_ pp (hg ps pr pp))
  have ea:(arrOf st).map (·.2)=((arrOf st).toList.map (·.2)).toArray:=by rw [←Array.toList_map]
  refine jlX (t':=s.toks) (ch:=[D,kS]) I (by simp) (fun b o hb q=>?_) (fun b hb=>?_) (jhi pr) (by rw [Cb,pp.length_eq,Lo];omega) (by rw [←ea];exact d2) (fun b hb=>?_)
  ·have hb':b≠D∧b≠kS:=by simpa using hb
   rw [u2.2 b hb'.1,u1.2 b hb'.2];exact q
  ·have hb':b=D∨b=kS:=by simpa using hb
   rcases hb' with z|z
   ·rw [z];exact fD
   ·rw [z];exact fK
  ·have hb':b=D∨b=kS:=by simpa using hb
   rcases hb' with z|z
   ·rw [z];exact ⟨_,d2⟩
   ·rw [z];exact ⟨_,(u2.2 kS ne).trans k2⟩
 unfold ksk_end;dsimp only;simp only [Fu,Gs];by_cases h2:xu.toArray.size < 2
 ·rw [Ce h2,Ce h2];refine Ca (Ck ?_);rw [StateT.run_pure];refine Ca (Ck ?_);have h2':xu.length < 2:=by simpa using h2
  refine tail (SortSt.mk' general' (ku.toArray.zip xu.toArray) #[] 7 none) rfl ?_ ?_
  ·show (ku.toArray.zip xu.toArray).toList.Perm _;rw [z0]
  ·show ∀ ps,Paired jaf ps (ku.toArray.zip xu.toArray).toList→_;rw [z0];exact hs.1 h2'
 ·rw [Cc h2,Cc h2];have h2':2≤xu.length:=by rw [Cy] at h2;omega
  obtain ⟨kd,hkd,hrun⟩:=hs.2 h2';refine Ca (hkd _ _ ?_);refine Ca (Fd (hrun E) ?_ fun _ _ z=>z);rintro ⟨⟨⟩,st'⟩ s' ⟨rfl,hp,hf,hg⟩;refine tail st' hf ?_ hg;have:=Fc.mp hp;rw [z0] at this;exact this
theorem jr0 {kS:Addr} {f:Value} {e1:Nat} {P:PySem.Fin→Shared→Prop} (KP:List V→Hp→Prop) (good:List V→List (V×V)→Hp→Prop)
  (I:Inv X pins σ H s) (hD:s.heap.get? D=some (seqObj "list" #[] e1)) (hK:s.heap.get? kS=some (seqObj "list" #[] 0)) (ne:kS≠D) (fD:zN X pins H D) (fK:zN X pins H kS)
  (rx:jx xs xu) (hz:xs.length≤sizeLine) (k0:KP [] H)
  (turn:∀ (own:List (Addr×Obj)) (i:Nat) (x:V) (v:Value) (ks:List V) (H':Hp) (s':Shared),xs[i]?=some x→RelV x v→ks.length=i→Inv X (pins++own) σ H' s'→KP ks H' →
   wpAny (model X.prog X.w) X.A.in1.in1 (call f [v]) (fun u s2=>∃ y H2,Inv X (pins++own) σ H2 s2∧RelV y u∧KP (ks++[y]) H2) (fun _ _=>False) s')
  (srt:∀ ks ku H' s',Inv X pins σ H' s'→KP ks H'→ks.length=xs.length→jx ks ku→jbX X s' ku xu fun qs=>∀ ps,Paired jaf ps qs→ps.Perm (ks.zip xs)→good ks ps H')
  (h:∀ s' ks ps H',KP ks H'→H' D=none→Inv X pins σ (upd H' D (.lst (ps.map (·.2)))) s'→ks.length=xs.length→ps.Perm (ks.zip xs)→good ks ps H'→P (.done (.ret .none)) s') :
  wpAny (model X.prog X.w) X.A.in1.in1 (ksk_rest D f false xu.toArray e1 (.ref kS)) P E s:=by
 have lx:=rx.length;have pinIt:∀ {H':Hp} {s':Shared} {ku:Array Value} {e:Nat},Inv X pins σ H' s'→H' D=none→H' kS=none→s'.heap.get? D=some (seqObj "list" #[] e1)→s'.heap.get? kS=some (seqObj "list" ku e) →
   Inv X (pins++[(kS,seqObj "list" ku e),(D,seqObj "list" #[] e1)]) σ H' s':=fun {H' s' ku e} J h1 h2 h3 h4=>by
  refine J.pins_of fun p hp=>?_;rcases Ds.mp hp with hp|hp
  ·exact J.pin p (D1 _ hp)
  ·have hp':p=(kS,seqObj "list" ku e)∨p=(D,seqObj "list" #[] e1):=by simpa using hp
   rcases hp' with z|z
   ·rw [z];exact ⟨h4,h2,fK.2.1,fK.2.2.1,fun v q=>by cases q⟩
   ·rw [z];exact ⟨h3,h1,fD.2.1,fD.2.2.1,fun v q=>by cases q⟩
 unfold ksk_rest;refine Ca (wpAny_rule ?_);rw [←Array.forIn_toList];simp only [Lj];refine Ca (ksk_fold (fun i s'=>∃ (ks:List V) (ku:List Value) (e:Nat) (H':Hp),Inv X (pins++[(kS,seqObj "list" ku.toArray e),(D,seqObj "list" #[] e1)]) σ H' s'∧ks.length=i∧jx ks ku∧KP ks H') xu 0 s
  ⟨[],[],0,H,pinIt I fD.1 fK.1 hD hK,rfl,.nil,k0⟩ ?one ?all)
 case one =>
  rintro j v s' hv ⟨ks,ku,e,H',J,hl,rk,kp⟩;simp only [Fy] at hl ⊢;have hj:j < xu.length:=(Cj.mp hv).1;obtain ⟨x,hx⟩:∃ x,xs[j]?=some x:=⟨_,Cz (by omega)⟩;obtain ⟨v',hv',rv⟩:=jx.get rx hx;rw [hv] at hv';cases hv';refine Ca (Jt (Fd (turn _ j x v ks H' s' hx rv hl J kp) (fun u s2 hu=>?_) fun _ _ z=>z.elim));obtain ⟨y,H2,J2,ry,kp2⟩:=hu;have pK:=J2.pin (kS,seqObj "list" ku.toArray e) (by simp);have pD:=J2.pin (D,seqObj "list" #[] e1) (by simp);have lk:=rk.length
  have u1:=Fg s2.heap kS (Obj.mapSeq (·.push u));have g1:=Js pK.1 (·.push u);dsimp only;refine Ca (Ju pK.1 rfl ?_ (by rw [Cy];omega) (by rw [Array.size_push,Cy];omega));have J3:Inv X pins σ H2 { s2 with heap:=s2.heap.update kS (Obj.mapSeq (·.push u)) } :=
   (J2.unpinned).turned (t':=s2.toks) (it:=kS) (fun b o hb q=>(u1.2 b hb).trans q) pK.2.1 fK.2.1 fK.2.2.2.1 fK.2.2.2.2.1 fK.2.2.2.2.2
  refine Ck ⟨rfl,ks++[y],ku++[u],_,H2,pinIt J3 pD.2.1 pK.2.1 ((u1.2 D (Dj ne)).trans pD.1) (by rw [show (ku++[u]).toArray=ku.toArray.push u by simp];exact g1),by rw [Ci,hl];rfl,Paired.appendP rk (.cons ry .nil),kp2⟩
 case all =>
  rintro s' ⟨ks,ku,e,H',J,hl,rk,kp⟩;rw [Fy] at hl;have pK:=J.pin (kS,seqObj "list" ku.toArray e) (by simp);have pD:=J.pin (D,seqObj "list" #[] e1) (by simp);have J2:=J.unpinned;refine Ca (listItems_at pK.1 rfl ?_);exact js4 (fun ps=>good ks ps H') J2 pD.1 pK.1 ne ⟨pD.2.1,fD.2⟩ ⟨pK.2.1,fK.2⟩ rk rx (by omega) hz (srt ks ku H' s' J2 kp (by omega) rk) fun s3 ps J3 pp gg=>h s3 ks ps H' kp pD.2.1 J3 (by omega) pp gg
theorem jjS {l:Addr} {Q:VK} (KP:List V→Hp→Prop) (good:List V→List (V×V)→Hp→Prop) (I:Inv X pins σ H s) (hl:SqL X.K H l xs) (k0:KP [] H)
  (turn:∀ (own:List (Addr×Obj)) (i:Nat) (x:V) (v:Value) (ks:List V) (H':Hp) (s':Shared),xs[i]?=some x→RelV x v→ks.length=i→Inv X (pins++own) σ H' s'→KP ks H' →
   wpAny (model X.prog X.w) X.A.in1.in1 (call (.ref q) [v]) (fun u s2=>∃ y H2,Inv X (pins++own) σ H2 s2∧RelV y u∧KP (ks++[y]) H2) (fun _ _=>False) s')
  (srt:∀ ks ku xu H' s',Inv X pins σ H' s'→KP ks H'→ks.length=xs.length→jx ks ku→jx xs xu→jbX X s' ku xu fun qs=>∀ ps,Paired jaf ps qs→ps.Perm (ks.zip xs)→good ks ps H')
  (h:∀ D ks ps H',KP ks H'→H' D=none→ks.length=xs.length→ps.Perm (ks.zip xs)→good ks ps H'→Q (.ref D) (upd H' D (.lst (ps.map (·.2))))) :
  wpAny (model X.prog X.w) X.A (call (.builtin "sorted") [.ref l] [(Str.ofString "key",.ref q)]) (EP X pins σ Q) E s:=by
 obtain ⟨xu,rx,pl,hz⟩:=I.list hl;have lx:=rx.length;refine call_function_entry_kw kind_sorted plain_sorted entry_sorted (ksk_s1 _ _) ?_;unfold Builtin.«sorted»;refine Ca (m:=checkCount "sorted" 1 1 _) (Ck ?_);refine Ca (collect_list pl.isList ?_ (by omega));refine Ca (wpAny_newList ?_ (by omega));have sz:((s.heap.push (seqObj "list" #[] 0)).update s.heap.objs.size (Obj.mapSeq (·++xu.toArray))).objs.size=s.heap.objs.size+1:=by rw [Heap.size_update,size_push']
 have old:∀ b o,s.heap.get? b=some o→(((s.heap.push (seqObj "list" #[] 0)).update s.heap.objs.size (Obj.mapSeq (·++xu.toArray))).push (seqObj "list" xu.toArray 0)).get? b=some o:=fun b o z=>by
  have lt:b < s.heap.objs.size:=Cu z;rw [Heap.get?_push_ne _ _ _ (by rw [sz];exact Di (J8 lt)),Heap.get?_update_ne _ _ _ _ (Di lt),Heap.get?_push_ne _ _ _ (Di lt)];exact z
 have gD:(((s.heap.push (seqObj "list" #[] 0)).update s.heap.objs.size (Obj.mapSeq (·++xu.toArray))).push (seqObj "list" xu.toArray 0)).get? (s.heap.objs.size+1)=some (seqObj "list" xu.toArray 0):=by
  rw [←sz];exact Cv _ rfl
 show wpAny _ _ _ _ _ { s with heap:=((s.heap.push (seqObj "list" #[] 0)).update s.heap.objs.size (Obj.mapSeq (·++xu.toArray))).push (seqObj "list" xu.toArray 0) };rw [sz];generalize eh:((s.heap.push (seqObj "list" #[] 0)).update s.heap.objs.size (Obj.mapSeq (·++xu.toArray))).push (seqObj "list" xu.toArray 0)=h1 at old gD;have sz1:h1.objs.size=s.heap.objs.size+2:=by rw [←eh,size_push',sz]
 refine Ca (F4 (wpAny_call_entry_kw slot_list_sort ⟨_,gD,rfl⟩ entry_list_sort ?body (ksk_l1 _ _)))
 case body =>
  show wpAny (model X.prog X.w) X.A.in1.in1 (Builtin.«list.sort» ⟨[.ref (s.heap.objs.size+1)],[(Str.ofString "key",.ref q)]⟩) _ _ _;rw [ksk_t1];have u1:=Fg h1 (s.heap.objs.size+1) (Obj.mapSeq fun _=>(#[]:Array Value));have g1:=Js gD fun _=>(#[]:Array Value);unfold ksk_tree;refine Ca (listItems_at gD rfl ?_);refine Ca (Ju gD rfl ?_ (by rw [Cy];omega) (C4 _));refine Ca (seqEpoch_at g1 rfl ?_);refine Ca (wpAny_newTuple ?_ (by show xu.length≤_;omega))
  refine Ca (wpAny_newList ?_ (C4 _));refine F4 ?_;have sz2:((h1.update (s.heap.objs.size+1) (Obj.mapSeq fun _=>(#[]:Array Value))).push (seqObj "tuple" xu.toArray 0)).objs.size=s.heap.objs.size+3:=by rw [size_push',Heap.size_update,sz1]
  have old2:∀ b o,s.heap.get? b=some o→(((h1.update (s.heap.objs.size+1) (Obj.mapSeq fun _=>(#[]:Array Value))).push (seqObj "tuple" xu.toArray 0)).push (seqObj "list" #[] 0)).get? b=some o:=fun b o z=>by
   have lt:b < s.heap.objs.size:=Cu z;exact Ch _ (Ch _ ((u1.2 b (Di (J8 lt))).trans (old b o z)))
  have J:Inv X pins σ H { s with heap:=((h1.update (s.heap.objs.size+1) (Obj.mapSeq fun _=>(#[]:Array Value))).push (seqObj "tuple" xu.toArray 0)).push (seqObj "list" #[] 0) }:=I.kept (t':=s.toks) old2;refine jr0 (D:=s.heap.objs.size+1) (s:={ s with heap:=((h1.update (s.heap.objs.size+1) (Obj.mapSeq fun _=>(#[]:Array Value))).push (seqObj "tuple" xu.toArray 0)).push (seqObj "list" #[] 0) }) KP good J (Ch _ (Ch _ g1)) (Cv _ rfl) (by rw [sz2];exact fun z=>by have z':s.heap.objs.size+3=s.heap.objs.size+1:=z;omega)
   (I.fpOk (by omega) (I.hok.fresh (by omega))) (I.fpOk (by rw [sz2];omega) (I.hok.fresh (by rw [sz2];omega))) rx hz k0 turn (fun ks ku H' s' J' kp hl rk=>srt ks ku xu H' s' J' kp hl rk rx) fun s' ks ps H' kp hn J' hl pp gg=>⟨_,rfl,?_⟩
  exact Ck ⟨_,rfl,.ref (s.heap.objs.size+1),_,J',rfl,h _ ks ps H' kp hn hl pp gg⟩
end
theorem jg1 {α:Type} {p q:α→Bool}:∀ {l:List α},(∀ x∈l,p x=true→q x=true)→l.countP p≤l.countP q
 | [],_=>Cl _
 | x :: l,h=>by
  have ih:=jg1 fun y hy=>h y (Cg _ hy);have hx:=h x (Cf ..);rw [List.countP_cons,List.countP_cons];by_cases c:p x=true
  ·rw [Ce c,Ce (hx c)];omega
  ·rw [Cc c];split<;>omega
theorem jkT {α:Type} {p q:α→Bool}:∀ {l:List α} {x:α},x∈l→p x=false→q x=true→(∀ x∈l,p x=true→q x=true)→l.countP p < l.countP q
 | y :: l,x,hm,h1,h2,h=>by
  have hy:=h y (Cf ..);rw [List.countP_cons,List.countP_cons];rcases Cp.mp hm with rfl|hm
  ·have:=jg1 fun y hy=>h y (Cg _ hy);rw [Cc (by rw [h1];simp),Ce h2];omega
  ·have:=jkT hm h1 h2 fun y hy=>h y (Cg _ hy);by_cases c:p y=true
   ·rw [Ce c,Ce (hy c)];omega
   ·rw [Cc c];split<;>omega
theorem jnC {δ:Type} {lt:δ→δ→Bool} {dt:Addr→δ} {y:Addr} (ir:∀ a,lt a a=false) (tr:∀ a b c,lt a b=true→lt b c=true→lt a c=true) (nt:∀ a b c,lt a b=true→lt c b=false→lt a c=true) (hx:x∈as) :
  decide (as.countP (fun z=>lt (dt z) (dt x)) < as.countP fun z=>lt (dt z) (dt y))=lt (dt x) (dt y):=by
 cases h:lt (dt x) (dt y) with
 | true=>exact C3 (jkT hx (ir _) h fun z _ hz=>tr _ _ _ hz h)
 | false =>
  have:=jg1 (p:=fun z=>lt (dt z) (dt y)) (q:=fun z=>lt (dt z) (dt x)) (l:=as) fun z _ hz=>nt _ _ _ hz h;exact Fv (by omega)
theorem jlZ {δ:Type} [Inhabited δ] (lt:δ→δ→Bool) (KD:Addr→δ→Prop) (b:Bool) (uniq:∀ p d d',KD p d→KD p d'→d=d') (ir:∀ a,lt a a=false) (tr:∀ a b c,lt a b=true→lt b c=true→lt a c=true)
  (nt:∀ a b c,lt a b=true→lt c b=false→lt a c=true) (hlen:ku.length=xu.length) (hk:∀ v∈ku,∃ a d,v=Value.ref a∧KD a d)
  (kind:0 < ku.length→∀ (Q:SortKind→Shared→Prop) (E:Value→Shared→Prop),Q (tuples' b) s→wpAny (model X.prog X.w) X.A.in1.in1 (keyKind' ku.toArray) Q E s)
  (cmp:∀ x y dx dy,KD x dx→KD y dy→∀ (Q:Bool→Shared→Prop) (E:Value→Shared→Prop),Q (lt dx dy) s→wpAny (model X.prog X.w) X.A.in1.in1 (keyLt' (tuples' b) (.ref x) (.ref y)) Q E s) :
  jbX X s ku xu fun qs=>qs.Pairwise fun p q=>∀ x y dx dy,p.1=Value.ref x→q.1=Value.ref y→KD x dx→KD y dy→lt dy dx=false:=by
 classical
 refine ⟨fun h2=>?_,fun h2=>⟨tuples' b,kind (by omega),fun E=>?_⟩⟩
 ·match ku,xu,hlen,h2 with
  | [],[],_,_=>exact .nil
  | [a],[b],_,_=>exact Go ..
  | _ :: _ :: _,_ :: _ :: _,_,h2=>exact absurd h2 (by simp only [Cd];omega)
 ·let dt:Addr→δ:=fun a=>if h:∃ d,KD a d then h.choose else default
  have hdt:∀ a d,KD a d→dt a=d:=fun a d h=>by
   have e:∃ d,KD a d:=⟨d,h⟩;show (if h:∃ d,KD a d then h.choose else default)=d;rw [dif_pos e];exact uniq a _ _ e.choose_spec h
  let as:List Addr:=ku.filterMap fun v=>match v with
   | .ref a=>some a
   | _=>none
  have has:∀ a,Value.ref a∈ku→a∈as:=fun a h=>List.mem_filterMap.mpr ⟨_,h,rfl⟩;have mk:∀ p,p∈(ku.toArray.zip xu.toArray).toList→p.1∈ku:=fun p hp=>by
   rw [z0] at hp;exact (Jp (a:=p.1) (b:=p.2) hp).1
  refine wpS_mono (jop (b:=b) (arr:=ku.toArray.zip xu.toArray) (fun x=>as.countP fun z=>lt (dt z) (dt x)) (fun p hp=>?_) (by rw [Array.size_zip];simp;omega) (fun x y hx hy Q E q=>?_)) fun _ st' h=>⟨h.1,h.2.1,?_⟩
  ·obtain ⟨a,d,e,_⟩:=hk p.1 (mk p hp);exact ⟨a,e⟩
  ·obtain ⟨p,hp,ep⟩:=hx;obtain ⟨r,hr,er⟩:=hy;obtain ⟨a,d,e,kd⟩:=hk p.1 (mk p hp);obtain ⟨a2,d2,e2,kd2⟩:=hk r.1 (mk r hr);rw [ep] at e;rw [er] at e2;cases e;cases e2;have hm:x∈as:=has x (by rw [←ep];exact mk p hp);rw [jnC ir tr nt hm,hdt _ _ kd,hdt _ _ kd2] at q;exact cmp x y d d2 kd kd2 Q E q
  ·refine h.2.2.imp_of_mem fun {p q} hp hq hle x y dx dy ex ey kx ky=>?_;have hle':=hle x y ex ey;have hp':=mk p ((Fc.mp h.1).mem_iff.mp hp);have hq':=mk q ((Fc.mp h.1).mem_iff.mp hq);have hm:y∈as:=has y (by rw [←ey];exact hq');have rb:=jnC (dt:=dt) (x:=y) (y:=x) ir tr nt hm;have e:lt dy dx=lt (dt y) (dt x):=by rw [hdt _ _ kx,hdt _ _ ky]
   rw [e,←rb];exact Fv (by omega)
noncomputable def jlY (X:Cx) (sp:Sp) (σ:St) (Q:VK) (v:V) (H1:Hp):Prop:=∃ (l:Addr) (xs:List V) (KP:List V→Hp→Prop) (good:List V→List (V×V)→Hp→Prop),v=.ref l∧SqL X.K H1 l xs∧KP [] H1 ∧
 (∀ (i:Nat) (x:V) (ks:List V) (H':Hp),xs[i]?=some x→ks.length=i→KP ks H'→sp [x] H' (fun y H2=>KP (ks++[y]) H2) E0) ∧
 (∀ pins ks ku xu H' s',Inv X pins σ H' s'→KP ks H'→ks.length=xs.length→jx ks ku→jx xs xu→jbX X s' ku xu fun qs=>∀ ps,Paired jaf ps qs→ps.Perm (ks.zip xs)→good ks ps H') ∧
 ∀ D ks ps H',KP ks H'→H' D=none→ks.length=xs.length→ps.Perm (ks.zip xs)→good ks ps H'→Q (.ref D) (upd H' D (.lst (ps.map (·.2))))
noncomputable def jtU (X:Cx) (sp:Sp) (te:TE):TE:=fun σ H Q=>te σ H (jlY X sp σ Q)
section
variable {X:Cx} {k:Nat} {x:Str} {ps:List Str} {sp:Sp} {p p2 pos kp:Pos} {e:Expr} {te:TE}
theorem jrX {pins:List (Addr×Obj)} {Q:VK} {us:List Value} {vs:List V} {f:Addr} {fd:FuncData} (F:zG X.prog X.w X.K X.mg X.base CX0 k f fd ps sp) (hr:j6 (k+2) X.A) (hb:Binds X.K fd ps [])
  (I:Inv X pins σ H s) (r:jx vs us) (h:sp vs H Q E0):wpAny (model X.prog X.w) X.A.in1.in1 (call (.ref f) us) (EP X pins σ Q) (fun _ _=>False) s:=by
 have hl:us.length=ps.length:=by rw [←r.length];exact F.len _ _ _ _ h
 have hb':=hb s us I.kIn (by simpa using hl);rw [D5] at hb';refine wpAny_call (G9 (F.run X.A.in1.in1 X.stack s H ⟨us,[]⟩ us vs Q E0 hr.in1.in1 I.env0.in1.in1 hb' r h) fun r s' hq=>?_);cases r with
 | error e=>exact hq
 | ok fl =>
  cases fl with
  | ret u=>exact I.after hq
  | next=>exact False.elim hq
  | brk=>exact False.elim hq
  | cont=>exact False.elim hq
theorem jnx (D:Cal X.prog X.w X.K X.mg X.base CX0 k x ps sp) (hr:j6 (k+2) X.A) (hm:X.mg "sorted"=none) (hgx:Gl X x) (he:PE X e te) (hg:Gl X "sorted":=by rfl) (hdb:(x == ("__debug__":Str))=false:=by decide)
  (hs:starEach [e] X.env=[(false,eval e X.env)]:=by rfl):PE X (.Call (.Name "sorted" p) [e] [⟨some "key",.Name x p2,kp⟩] pos) (jtU X sp te):=by
 obtain ⟨f,fd,g,kp0,b,F⟩:=D;intro pins s σ H Q I h;refine Fm (jaX I hg hm boot_sorted ?_);refine callWith_kw (thn (jb he jh hs pos pins s σ H (fun vs H1=>match vs with|[v]=>jlY X sp σ Q v H1|_=>False) I h) fun us s1 ⟨vs,H1,I1,r1,q1⟩=>?_) (by rw [hs];rfl) (by rw [hs];rfl);refine kws_cons ?_;refine jaM I1 hgx g (kws_nil ?_) hdb;cases r1 with
 | nil=>exact q1.elim
 | cons r rr =>
  cases rr with
  | cons _ _=>exact q1.elim
  | nil =>
  obtain ⟨l,xs,KP,good,e1,hl,k0,turn,srt,fin⟩:=q1;cases e1;cases r;exact jjS KP good I1 hl k0 (fun own i x v ks H' s' hx rv hk J kp=>jrX F hr b J (.cons rv .nil) (turn i x ks H' hx hk kp)) (fun ks ku xu H' s' J kp hl rk rx=>srt pins ks ku xu H' s' J kp hl rk rx) fun D ks ps H' kp hn hl pp gg=>fin D ks ps H' kp hn hl pp gg
end
theorem Paired.pw {α β:Type} {F:α→β→Prop} {R:β→β→Prop} {S:α→α→Prop} (h:∀ a a' b b',F a b→F a' b'→R b b'→S a a'):∀ {l:List α} {m:List β},Paired F l m→m.Pairwise R→l.Pairwise S
 | _,_,.nil,_=>.nil
 | _,_,.cons r t,hp=>by
  obtain ⟨h1,h2⟩:=Dr.mp hp;refine Dr.mpr ⟨fun a ha=>?_,Paired.pw h t h2⟩;obtain ⟨b,hb,hf⟩:=Paired.memP t ha;exact h _ _ _ _ r hf (h1 b hb)
theorem ji4 {R:Addr→Addr→Prop} {ps:List (V×V)} {qs:List (Value×Value)} (h:Paired jaf ps qs) (hq:qs.Pairwise fun p q=>∀ x y,p.1=Value.ref x→q.1=Value.ref y→R x y):ps.Pairwise fun p q=>∀ x y,p.1=V.ref x→q.1=V.ref y→R x y :=
 Paired.pw (fun a a' b b' f f' r x y ex ey=>r x y (by have:=f.1;rw [ex] at this;exact this) (by have:=f'.1;rw [ey] at this;exact this)) h hq
theorem jtn {γ:Type} {F:Addr→γ→Prop} {G:Addr→γ→Prop}:∀ {qs as:List Addr} {cs:List γ},Paired F qs cs→Paired G as cs→∃ tr:List (Addr×Addr×γ),tr.map (fun t=>t.2.2)=cs∧Paired (fun (t:Addr×Addr×γ) (v:V×V)=>v.1=V.ref t.1∧v.2=V.ref t.2.1∧F t.1 t.2.2∧G t.2.1 t.2.2) tr ((qs.map V.ref).zip (as.map V.ref))
 | _,_,_,.nil,.nil=>⟨[],rfl,.nil⟩
 | _,_,_,.cons r t,.cons r2 t2=>by
  obtain ⟨tr,h1,h2⟩:=jtn t t2;exact ⟨(_,_,_) :: tr,by rw [C6,h1],.cons ⟨rfl,rfl,r,r2⟩ h2⟩
theorem sorted_out {δ γ:Type} {KD:Addr→δ→Prop} {IT:Addr→γ→Prop} (kf:γ→δ) (lt:δ→δ→Bool) {qs:List Addr} {cs:List γ} {prs:List (V×V)} (h1:Paired (fun q c=>KD q (kf c)) qs cs) (h2:Paired IT as cs) (hp:prs.Perm ((qs.map V.ref).zip (as.map V.ref)))
  (hg:prs.Pairwise fun p q=>∀ x y,p.1=V.ref x→q.1=V.ref y→∀ dx dy,KD x dx→KD y dy→lt dy dx=false) :
  ∃ as' cs',prs.map (·.2)=as'.map V.ref∧Paired IT as' cs'∧cs'.Perm cs∧cs'.Pairwise fun a b=>lt (kf b) (kf a)=false:=by
 obtain ⟨tr,e1,f1⟩:=jtn h1 h2;obtain ⟨tr',p1,f2⟩:=jfm hp f1;refine ⟨tr'.map fun t=>t.2.1,tr'.map fun t=>t.2.2,?_,?_,?_,?_⟩
 ·clear hp hg p1
  induction f2 with
  | nil=>rfl
  | cons r t ih=>rw [C6,C6,C6,ih,r.2.1]
 ·clear hp hg p1
  induction f2 with
  | nil=>exact .nil
  | cons r t ih=>exact .cons r.2.2.2 ih
 ·rw [←e1];exact p1.map _
 ·rw [F9];exact Paired.pw (fun a a' b b' f f' r=>r _ _ f.1 f'.1 _ _ f.2.2.1 f'.2.2.1) f2 hg
noncomputable def ltP (a b:Int×Int):Bool:=if a.1=b.1 then decide (a.2 < b.2) else decide (a.1 < b.1)
theorem jsK (a:Int×Int):ltP a a=false:=by simp [ltP]
theorem jf3 {a b:Int×Int}:ltP a b=true↔a.1 < b.1∨(a.1=b.1∧a.2 < b.2):=by
 unfold ltP;split<;>simp<;>omega
theorem jsL {a b:Int×Int}:ltP a b=false↔¬(a.1 < b.1∨(a.1=b.1∧a.2 < b.2)):=by
 rw [←jf3];simp
theorem jsN (a b c:Int×Int) (h1:ltP a b=true) (h2:ltP b c=true):ltP a c=true:=by
 rw [jf3] at *;omega
theorem jsM (a b c:Int×Int) (h1:ltP a b=true) (h2:ltP c b=false):ltP a c=true:=by
 rw [jsL] at h2;rw [jf3] at *;omega
theorem jfQ:∀ {qs:List Addr} {ku:List Value},jx (qs.map V.ref) ku→ku=qs.map Value.ref
 | [],_,.nil=>rfl
 | q :: qs,_,.cons r t=>by
  have e:=jfQ t;cases r;rw [e]
  rfl
section
variable {X:Cx} {pins:List (Addr×Obj)} {σ:St} {H:Hp} {s:Shared}
theorem jjW {T:Value} (hT2:(T == T)=true):∀ {ku:List Value},(∀ v∈ku,∃ (a:Addr) (o:Obj) (xs:Array Value) (n:Nat) (f:Value),v=.ref a∧s.heap.get? a=some o∧o.cls=.type "tuple"∧o.data=.seq xs n∧xs[0]?=some f∧PySem.W.Looks (model X.prog X.w) s.heap (typeOf f) T) →
  ∃ fs,PySem.W.KatTups s.heap ku fs∧fs.length=ku.length∧∀ v∈fs,PySem.W.Looks (model X.prog X.w) s.heap (typeOf v) T
 | [],_=>⟨[],.nil,rfl,fun _ h=>nomatch h⟩
 | v :: ku,h=>by
  obtain ⟨a,o,xs,n,f,rfl,h1,h2,h3,h4,h5⟩:=h v (Cf ..);obtain ⟨fs,k1,k2,k3⟩:=jjW hT2 fun v hv=>h v (Cg _ hv);refine ⟨f :: fs,.cons h1 h2 h3 h4 k1,by simp [k2],fun v hv=>?_⟩;rcases Cp.mp hv with rfl|hv
  ·exact h5
  ·exact k3 v hv
theorem jni (b:Bool) {T:Value} (hT2:(T == T)=true) (hb:(T != Value.type "tuple")=b) (h:∀ v∈ku,∃ (a:Addr) (o:Obj) (xs:Array Value) (n:Nat) (f:Value),v=.ref a∧s.heap.get? a=some o∧o.cls=.type "tuple"∧o.data=.seq xs n∧xs[0]?=some f∧PySem.W.Looks (model X.prog X.w) s.heap (typeOf f) T)
  (h0:0 < ku.length) (Q:SortKind→Shared→Prop) (E:Value→Shared→Prop) (q:Q (tuples' b) s):wpAny (model X.prog X.w) X.A.in1.in1 (keyKind' ku.toArray) Q E s:=by
 obtain ⟨fs,k1,k2,k3⟩:=jjW hT2 h;exact PySem.W.kat_kind k1 (by omega) k3 hT2 (by rw [hb];exact q)
noncomputable def KP2 (H:Hp) (q:Addr) (d:Int×Int):Prop:=H q=some (.tup [.int d.1,.int d.2])
theorem KP2.uniq (q:Addr) (d d':Int×Int) (h:KP2 H q d) (h':KP2 H q d'):d=d':=by
 unfold KP2 at h h';rw [h] at h';injection h' with h';injection h' with h';injection h' with e1 h';injection h' with e2 h';injection e1 with e1;injection e2 with e2;exact Prod.ext e1 e2
theorem KP2.at (I:Inv X pins σ H s) {d:Int×Int} (h:KP2 H q d):∃ o t u n,s.heap.get? q=some o∧o.cls=.type "tuple"∧o.data=.seq #[.int d.1 t,.int d.2 u] n:=by
 obtain ⟨its,rv,⟨o,ho,hc,n,hd⟩,_⟩:=I.tuple (SqT.of (K:=X.K) h);cases rv with
 | cons r1 rv =>
  cases rv with
  | cons r2 rv =>
   cases rv;obtain ⟨t,rfl⟩:=r1;obtain ⟨u,rfl⟩:=r2;exact ⟨o,t,u,n,ho,hc,hd⟩
theorem jgU (I:Inv X pins σ H s) (hlen:ku.length=xu.length) (hk:∀ v∈ku,∃ a d,v=Value.ref a∧KP2 H a d) :
  jbX X s ku xu fun qs=>qs.Pairwise fun p q=>∀ x y dx dy,p.1=Value.ref x→q.1=Value.ref y→KP2 H x dx→KP2 H y dy→ltP dy dx=false:=by
 refine jlZ ltP (KP2 H) true KP2.uniq jsK jsN jsM hlen hk (jni true (T:=.type "int") (by decide) (by decide) fun v hv=>?_) fun x y dx dy kx ky Q E q=>?_
 ·obtain ⟨a,d,rfl,kd⟩:=hk v hv;obtain ⟨o,t,u,n,ho,hc,hd⟩:=kd.at I;exact ⟨a,o,_,n,.int d.1 t,rfl,ho,hc,hd,rfl,PySem.W.Looks.now⟩
 ·obtain ⟨o,t,u,n,ho,hc,hd⟩:=kx.at I;obtain ⟨o2,t2,u2,n2,ho2,hc2,hd2⟩:=ky.at I;refine PySem.W.kat_lt ho hd ho2 hd2 ?_;show PySem.W.KatLex X.prog X.w X.A.in1.in1 true (decide ((#[Value.int dx.1 t,Value.int dx.2 u]:Array Value).size < (#[Value.int dy.1 t2,Value.int dy.2 u2]:Array Value).size)) Q [(.int dx.1 t,.int dy.1 t2),(.int dx.2 u,.int dy.2 u2)] 0 s;unfold ltP at q;refine Lh (wpAny_eqBool_int (PySem.W.kat_go (fun h1=>?_) (fun h1=>?_)))
  ·have e1:dx.1=dy.1:=by simpa using h1
   rw [Ce e1] at q;refine Lp (Lh (wpAny_eqBool_int (PySem.W.kat_go (fun h2=>?_) (fun h2=>?_))))
   ·have e2:dx.2=dy.2:=by simpa using h2
    refine Lp (PySem.W.kat_nil ?_);have:decide (dx.2 < dy.2)=false:=by simp;omega
    rw [this] at q;exact q
   ·exact PySem.W.kat_no (ji0 q)
  ·have e1:¬dx.1=dy.1:=by simpa using h1
   rw [Cc e1] at q;exact PySem.W.kat_no (ji0 q)
end
theorem pgT {es:List Expr} {t:TGs} (hk:X.K=K) (hc:X.calm=true) (h:PGs X es t) (hn:(assignEach es X.env).length=n:=by rfl) (hst:(assignEach es X.env).findIdx? (·.1)=none:=by rfl):PG X (.Tuple es k pos) (jsA K n t):=by
 subst hk;exact jfo hc h hn hst
theorem jtZ {f:Str} {ta:TE} (he:PE X e ta) (hk:X.K=K:=by rfl) (hb:attributeBase e f X.env (eval e X.env)=eval e X.env:=by rfl):PE X (.Attribute e f pos) (jtb K ta f):=by
 subst hk;exact jH he hb
theorem jrG {tt:TT} {te:TE} {vs:List Nat} {H1:Hp} {Qd:Hp→Prop} (Pv:Nat→Hp→Prop) (h0:Pv 0 (upd H1 D (.lst []))) (hl:∀ i H,i≤xs.length→Pv i H→SqL K H a xs)
  (hs:∀ i x H T,xs[i]?=some x→Pv i H→H T=none→g (.ref T) (vq σ vs) (upd H T (.tup [.int (i:Nat),x])) fun σ2 H2=>vq σ2 vs=vq σ vs∧tt σ2 H2 fun b H3 =>
   if b=true then te σ2 H3 fun y H4=>∃ acc,H4 D=some (.lst acc)∧acc.length < sizeLine∧Pv (i+1) (upd H4 D (.lst (acc++[y]))) else Pv (i+1) H3) (hd:∀ H,Pv xs.length H→Qd H) :
  ∃ W:Nat→Nat→Hp→Prop,(∃ m,W 0 m (upd H1 D (.lst [])))∧∀ i m H,W i m H →
   ((Ite K a).stop i H∧Qd H)∨((Ite K a).go i H∧∃ Nx:Hp→Prop,(∀ H',Nx H'→∃ m',m' < m∧W (i+1) m' H')∧∀ x H',(Ite K a).yld i H x H'→g x (vq σ vs) H' fun σ2 H2=>vq σ2 vs=vq σ vs∧tt σ2 H2 fun b H3 =>
    if b=true then te σ2 H3 fun y H4=>∃ acc,H4 D=some (.lst acc)∧acc.length < sizeLine∧Nx (upd H4 D (.lst (acc++[y]))) else Nx H3) :=
 joa xs.length Pv h0 (fun i H hi hp=>⟨xs,xs[i],hl i H (F5 hi) hp,by simp [hi]⟩) (fun H hp=>⟨xs,hl _ H (Cl _) hp,Cl _⟩)
  (fun i H x H' hi hp y=>by
   obtain ⟨T,z,rfl,hT,rfl,hz⟩:=y;exact hs i z H T (hz xs (hl i H (F5 hi) hp)) hp hT) hd
theorem jrH (a b:Int×Int):ltP (-a.1,a.2) (-b.1,b.2)=pLt a b:=by
 unfold ltP pLt;rw [C8];by_cases h:a.1=b.1
 ·have:¬b.1 < a.1:=by omega
  simp [h]
 ·have:¬-a.1=-b.1:=by omega
  simp [h,this]
theorem jkO (ws:List Word) (r:Text):(zR ws r).length≤ws.length:=by
 unfold zR;rw [Cb];refine Da (F3 ..) ?_;simp
section
variable {P:Program} {w:World} {K:Frag} {mg:Str→Option Value} {base:Heap} {t:Adr}
noncomputable def jl6 (C:Addr):Sp:=fun vs H Q _=>∃ (a b:Addr) (k:Nat) (g:Weights) (r:List Nat),vs=[.ref a,.ref b,.int (k:Int)]∧vm C H a g.words∧LN H b r∧k < r.length∧jc6 g.words∧g.words.length≤128 ∧
 ∀ H' p,jn H H'→H p=none→LP H' p ((piecesAt g (r.drop k)).map pc)→Q (.ref p) H'
theorem jlr (T:Txt K mg t):Cal P w K mg base CX0 4 "pieces_at" ["words","reading","place"] (jl6 t.c_Word):=by
 refine T.xbl.ok jfF (fun vs H Q E h=>?_) (fun f cdv A outer s H vs Q E hr h=>?_)
 ·obtain ⟨a,b,k,g,r,rfl,_⟩:=h
  rfl
 ·obtain ⟨a,b,n,g,r,rfl,⟨as,ha,hw⟩,hb,hn,okw,h128,k⟩:=h;have nd:=jfF.nd;have elen:=Cr hw
  refine ⟨_,(jd (jqX (i:=3) (own:=[("number",4),("word",5)]) rfl nd rfl rfl (jr5 rfl rfl rfl rfl) (ji2 rfl T.xdq (jb (pv 0) jh)) (zQ (N:=["words","reading","place","pieces","number","word"]) (sc:=jm jdl) (by decide +kernel)) (fun _ _ _ _ _=>(pgT (K:=K) (n:=2) rfl rfl (zC (jM (i:=4) nd rfl (Ff rfl)) (zC (jM (i:=5) nd rfl (Ff rfl)) jdG)))) (fun _ _ _ _ _=>(jny (vz (cal (jls T) hr.m rfl (jb (pv 5) (jb (pv 1) (jb (pv 2) jh))))))) (fun _ _ _ _ _=>(jav (jb (jt8 (K:=K) T.xdl (jtZ (K:=K) (pv 5))) (jb (pv 4) jh)))))
   (jg (jk (jY jaG (jnx (jgg T) hr.m T.xdr rfl (pv 3)) (jN (jb (jav (jb jj (jb (gli T.xd1 rfl) jh))) jh)))))),?_⟩
  refine ⟨_,rfl,a,_,rfl,SqL.of ha,fun D hD=>jrG (K:=K) (a:=a) (xs:=as.map V.ref) (fun i H2=>jn H H2∧∃ bs:List Addr,H2 D=some (.lst (bs.map V.ref))∧Paired (jX (del H2 D)) bs (zR (g.words.take i) (r.drop n)))
   ⟨jq hD,[],jc,.nil⟩ (fun i H2 _ ⟨q,_⟩=>SqL.of (q _ _ ha)) ?_ ?_⟩
  ·rintro i y H2 tp hi ⟨s2,bs,hD2,hp⟩ htp;obtain ⟨x,hx,rfl⟩:=vh hi;obtain ⟨wd,hwi,hxw⟩:=Paired.getP hw hx;have hil:=(Cj.mp hwi).1;have blen:=Cr hp;have clen:=jkO (g.words.take i) (r.drop n);rw [Dq] at clen;have s3:jn H2 (upd H2 tp (.tup [.int (i:Nat),.ref x])):=jq htp;have ntD:D≠tp:=jp hD2 htp;refine ⟨tp,_,rfl,SqT.of jc,rfl,_,_,rfl,_,_,rfl,rfl,rfl,_,rfl,_,rfl,_,rfl,x,b,n,wd,r,rfl,hxw.same (s2.trans s3),hb.same (s2.trans s3),fun H4 s4=>⟨_,rfl,?_⟩⟩;have s14:=(s2.trans s3).trans s4;have hD4:=s4 _ _ (s3 _ _ hD2)
   have hp4:Paired (jX (del H4 D)) bs (zR (g.words.take i) (r.drop n)):=Paired.mapM hp fun _ _ _ z=>jX.mono _ _ _ _ z (zD (s3.trans s4) D);refine jB (fun h1=>?_) (fun h1=>?_)
   ·have h1':=Co h1;obtain ⟨dx,ra,xa,hx1,hra,_⟩:=hxw.same s14;refine ⟨_,rfl,x,_,dx,_,_,rfl,hx1,T.xa3.cl,T.xa4,zY ..,ra,_,rfl,.inl hra.sq,_,rfl,by show 2≤sizeLine;decide,fun p hp0=>?_⟩;have npD:D≠p:=jp hD4 hp0;refine ⟨bs.map V.ref,by rw [ji npD];exact hD4,j7 (by rw [Cb];omega),jA (jA s14 (s14.free hp0)) hD,bs++[p],by rw [jc,Dc];rfl,?_⟩;rw [vv,take_snoc hwi,jjl,Ce h1'];refine Paired.appendP (Paired.mapM hp4 fun _ _ _ z=>jX.mono _ _ _ _ z (zD (jq hp0) D)) (.cons ?_ .nil);show del _ D p=_
    rw [jT (Dj npD),jc,jy,Dq,G7 (by omega)]
   ·have h1':¬List.take wd.reading.length (r.drop n)=wd.reading:=fun e=>h1 (C3 e);refine ⟨s14,bs,hD4,?_⟩;rw [take_snoc hwi,jjl,Cc h1',D5];exact hp4
  ·rintro H2 ⟨s2,bs,hD2,hp⟩;rw [Cb,elen,Dg] at hp;have hp':Paired (jX H2) bs (zR g.words (r.drop n)):=Paired.mapM hp fun _ _ _ z=>jX.mono _ _ _ _ z (vj _ _);have blen:=Cr hp';have clen:=jkO g.words (r.drop n);refine ⟨_,rfl,D,bs.map V.ref,fun ks H'=>jn H2 H'∧∃ qs:List Addr,ks=qs.map V.ref∧Paired (fun q c=>KP2 H' q (-c.1,c.2)) qs ((zR g.words (r.drop n)).take ks.length),fun ks prs H'=>prs.Pairwise fun p q=>∀ x y,p.1=V.ref x→q.1=V.ref y→∀ dx dy,KP2 H' x dx→KP2 H' y dy→ltP dy dx=false,
    rfl,SqL.of hD2,⟨jn.refl _,[],rfl,.nil⟩,?_,?_,?_⟩
   ·rintro i x ks H' hx hk ⟨s3,qs,rfl,hq⟩;obtain ⟨c0,hc0,rfl⟩:=vh hx;obtain ⟨c,hci,hcp⟩:=Paired.getP hp' hc0;refine ⟨c0,c,rfl,jX.mono _ _ _ _ hcp s3,fun q hq0=>⟨jA s3 (s3.free hq0),qs++[q],by rw [Dc];rfl,?_⟩⟩;rw [Cb] at hk hq;rw [Ci,Cb,hk];rw [hk] at hq;show Paired _ _ ((zR g.words (r.drop n)).take (i+1));rw [take_snoc hci];refine Paired.appendP (Paired.mapM hq fun z _ d e=>?_) (.cons ?_ .nil)
    ·exact jq hq0 _ _ e
    ·exact jc
   ·rintro pins ks ku xu H' s' J ⟨s3,qs,rfl,hq⟩ hl rk rx;have lk:=rk.length;have lx:=rx.length;obtain rfl:=jfQ rk;obtain ⟨c1,c2⟩:=jgU J (ku:=qs.map Value.ref) (xu:=xu) (by omega) (fun v hv=>by
     obtain ⟨q,hq1,rfl⟩:=Dh.mp hv;obtain ⟨c,_,hc⟩:=Paired.memP hq hq1;exact ⟨q,_,rfl,hc⟩)
    have back:∀ qs':List (Value×Value),(qs'.Pairwise fun p q=>∀ x y dx dy,p.1=Value.ref x→q.1=Value.ref y→KP2 H' x dx→KP2 H' y dy→ltP dy dx=false)→∀ ps,Paired jaf ps qs'→ps.Perm ((qs.map V.ref).zip (bs.map V.ref))→ps.Pairwise fun p q=>∀ x y,p.1=V.ref x→q.1=V.ref y→∀ dx dy,KP2 H' x dx→KP2 H' y dy→ltP dy dx=false:=fun qs' h ps hr _ =>
     ji4 hr (h.imp fun z x y ex ey dx dy=>z x y dx dy ex ey)
    refine ⟨fun h2=>back _ (c1 h2),fun h2=>?_⟩;obtain ⟨kd,e1,e2⟩:=c2 h2;exact ⟨kd,e1,fun E=>wpS_mono (e2 E) fun _ st h=>⟨h.1,h.2.1,back _ h.2.2⟩⟩
   ·rintro D2 ks prs H' ⟨s3,qs,rfl,hq⟩ hD2n hl pp gg;rw [Cb,Cb] at hl;rw [Cb,hl,blen,Dg] at hq;obtain ⟨as',cs',e1,e2,e3,e4⟩:=sorted_out (IT:=jX H') (fun c:Int×Int=>(-c.1,c.2)) ltP hq (Paired.mapM hp' fun _ _ _ z=>jX.mono _ _ _ _ z s3) pp gg;rw [e1];have s4:jn H' (upd H' D2 (.lst (as'.map V.ref))):=jq hD2n;have l3:=Cr e2;have l4:=e3.length_eq;refine ⟨by show 2≤sizeLine;decide,fun p1 hp1=>?_⟩;obtain ⟨n1,hp1'⟩:=vw hp1;refine ⟨by show 1≤sizeLine;decide,fun p2 hp2=>?_⟩;obtain ⟨n2,hp2'⟩:=vw hp2;obtain ⟨n3,hp2''⟩:=vw hp2'
    refine ⟨D2,p2,as'.map V.ref,[.ref p1],rfl,rfl,by rw [ji (Dj n3),ji (Dj n1),jc],jc,v7 (by rw [Cb];simp only [Cd,Ct];omega),fun p3 hp3=>?_⟩;obtain ⟨n4,hp3'⟩:=vw hp3;obtain ⟨n5,hp3''⟩:=vw hp3';obtain ⟨n6,hp3'''⟩:=vw hp3'';have s13:jn H H':=s2.trans s3;have sA:jn H' (upd (upd (upd H' D2 (.lst (as'.map V.ref))) p1 (.tup [.int 1,.int (-1)])) p2 (.lst [.ref p1])):=jA (jA s4 hp1') hp2'';refine k _ p3 (jA (s13.trans sA) (s13.free hp3''')) (s13.free hp3''') ⟨as'++[p1],by rw [jc,Dc];rfl,?_⟩
    have asc:Asc pLt cs':=e4.imp fun {x y} h=>by rw [←jrH];exact h
    rw [←jkg okw (fun e=>by rw [F6] at e;omega) e3 asc];refine Paired.appendP (Paired.mapM e2 fun _ _ _ z=>jX.mono _ _ _ _ z (jA sA hp3''')) (.cons ?_ .nil);show upd _ p3 _ p1=_;rw [ji (Dj n5),ji (Dj n2),jc]
noncomputable def jmO (C:Addr):Sp:=fun vs H Q _=>∃ (a b:Addr) (g:Weights) (r:List Nat),vs=[.ref a,.ref b]∧vm C H a g.words∧LN H b r∧jc6 g.words∧g.words.length≤128∧r.length≤1000 ∧
 ∀ H' p,jn H H'→Tb H' p (tab g r)→Q (.ref p) H'
theorem jdg (T:Txt K mg t):Cal P w K mg base CX0 5 "table_of" ["words","reading"] (jmO t.c_Word):=by
 refine T.xbm.ok jgQ (fun vs H Q E h=>?_) (fun f cdv A outer s H vs Q E hr h=>?_)
 ·obtain ⟨a,b,g,r,rfl,_⟩:=h
  rfl
 ·obtain ⟨a,b,g,r,rfl,ha,hb,okw,h128,hz,k⟩:=h;have nd:=jgQ.nd;refine ⟨_,(jg (jk (jcO (own:=[("place",2)]) rfl nd (jpG rfl T.xdp (jb (vf T.xdl (pv 1)) jh)) (zQ (N:=["words","reading","place"]) (sc:=jm jet) (by decide +kernel)) (fun _ _ _ _ _=>(jM (i:=2) nd rfl (Ff rfl))) (fun _ _ _ _ _=>jbm) (fun _ _ _ _ _=>(cal (jlr T) hr.m rfl (jb (pv 0) (jb (pv 1) (jb (pv 2) jh)))))))),?_⟩;refine ⟨_,rfl,b,_,rfl,.inl hb.sq,_,rfl,by omega,by rw [jy];omega,fun D hD=>jqB (fun i H2=>jn H H2∧∃ bs:List Addr,H2 D=some (.lst (bs.map V.ref))∧Paired (LP (del H2 D)) bs ((tab g r).take i))
   ⟨jq hD,[],jc,.nil⟩ ?_ ?_⟩
  ·rintro i H2 hi ⟨s2,bs,hD2,hp⟩;have hi':i < r.length:=by rw [jy] at hi;omega
   have blen:=Cr hp;rw [Dq,vM] at blen;refine ⟨rfl,jcA ⟨_,rfl,_,rfl,_,rfl,a,b,i,g,r,by rw [Int.zero_add];rfl,ha.same s2,hb.same s2,hi',okw,h128,fun H3 p s3 hp0 hpl=>?_⟩⟩;have npD:D≠p:=jp hD2 hp0;refine ⟨bs.map V.ref,s3 _ _ hD2,j7 (by rw [Cb];omega),jA (s2.trans s3) hD,bs++[p],by rw [jc,Dc];rfl,?_⟩;rw [vv,take_snoc (jnJ g r hi')];refine Paired.appendP (Paired.mapM hp fun _ _ _ z=>LP.mono _ _ _ _ z (zD s3 D)) (.cons ?_ .nil);obtain ⟨xs,h1,h2⟩:=hpl;refine ⟨xs,by rw [jT (Dj npD)];exact h1,Paired.mapM h2 fun z _ c q=>jX.del q (s3 _ _ hD2)⟩
  ·rintro H2 ⟨s2,bs,hD2,hp⟩;rw [D6 (by rw [vM,jy];omega)] at hp;exact k H2 D s2 ⟨bs,hD2,Paired.mapM hp fun _ _ _ z=>LP.mono _ _ _ _ z (vj _ _)⟩
end
noncomputable def XO (x:Addr) (o:Obj):HO:=.ext fun h=>h.get? x=some o
theorem jkE {o:Obj} (e:h.get? x=some o):vb P w H h x (XO x o):=⟨e,⟨o,e⟩,fun h1 h2 q k=>k o q⟩
theorem XO.at {o:Obj} (hok:HOk P w H h) (e:H x=some (XO x o)):h.get? x=some o:=(hok x _ e).1
noncomputable def je2 (K:Frag) (C fI:Addr):Prop:=∃ (nm q:Str) (N:Addr) (bs:List Value) (sn:List Str) (sub:List Value) (ab:Bool) (col:Option Bool) (dd:Option Addr) (k0 k1 k2 k3 k5:Option Value) (mN:Str→Option Value),
 (∀ h:Heap,K.In h→h.get? C=some (excClassObj nm q C N bs bmE true sn sub ab col dd k0 k1 k2 k3 k5 "Exception.__new__")∧h.Ns N mN)∧mN "__init__"=some (.ref fI)∧mN "__setattr__"=none∧mN "line"=none∧mN "kind"=none∧mN "__getattribute__"=none∧mN "__getattr__"=none
theorem jqI:typeLookup (.type "Exception") "line"=pure none:=by rw [typeLookup_type,Jx];kernel_rfl
theorem jqH:typeLookup (.type "Exception") "kind"=pure none:=by rw [typeLookup_type,Jx];kernel_rfl
noncomputable def jdt (f:Str):Prop:=f="line"∨f="kind"
theorem jdt.no {f:Str} (h:jdt f):typeLookup (.type "Exception") f=pure none:=by
 rcases h with rfl|rfl
 ·exact jqI
 ·exact jqH
noncomputable def sX1 (C:Addr) (ta tv:TE) (f:Str):TS:=fun D σ H=>tv σ H fun y H1=>ta σ H1 fun xv H2=>∃ x ob,xv=.ref x∧H2 x=some (XO x ob)∧ob.cls=.ref C∧(∀ c,ob.data≠.cls c)∧ob.dict=none ∧
 ∀ dx,H2 dx=none→dx≠x→D.nx σ (upd (upd H2 dx (.xd [(f,y)])) x (XO x { ob with dict:=some dx }))
noncomputable def sX2 (C:Addr) (ta tv:TE) (f:Str):TS:=fun D σ H=>tv σ H fun y H1=>ta σ H1 fun xv H2=>∃ x ob dx fs,xv=.ref x∧H2 x=some (XO x ob)∧ob.cls=.ref C∧(∀ c,ob.data≠.cls c)∧ob.dict=some dx∧dx≠x∧H2 dx=some (.xd fs)∧fs.length≤100∧D.nx σ (upd H2 dx (.xd (vR f y fs)))
section
variable {X:Cx} {o value:Expr} {f:Str} {pos pos':Pos} {ta tv:TE} {C fI:Addr}
theorem jtJ (hK:je2 X.K C fI) (hf:jdt f) (ha:PE X o ta) (hv:PE X value tv) (hs:swapsWith value (some (.Attribute o f pos')) pos.line X.env=pure false):PS X (.Assign [.Attribute o f pos'] value pos) (sX1 C ta tv f):=by
 intro pins s σ H D I h;refine Jg (thn (hv pins s σ H _ I h) fun u s1 ⟨y,H1,I1,ry,q⟩=>thn (ha pins s1 σ H1 _ I1 q) fun ov s2 zqq=>?_) hs;obtain ⟨xv,H2,I2,rx,x,ob,ex,ea,e1,e2,e3,nx⟩:=zqq;subst ex;obtain rfl:ov=Value.ref x:=rx;obtain ⟨nm,q,N,bs,sn,sub,ab,col,dd,k0,k1,k2,k3,k5,mN,kk,n1,n2,n3,n4,n5,n6⟩:=hK;obtain ⟨c1,c2⟩:=kk s2.heap I2.kIn;have hx:=XO.at I2.hok ea;have nf:mN f=none:=by rcases hf with rfl|rfl<;>assumption
 obtain ⟨hp,g,d,t,os⟩:=s2;refine jpP c1 c2 n2 nf hf.no hx e1 e2 e3 fun h' tk' a1 a2 a3=>?_;have fr:H2 hp.objs.size=none:=I2.hok.fresh (Cl _);have nd:hp.objs.size≠x:=Dj (Di (Cu hx));have up:∀ b u,H2 b=some u→b≠x→upd (upd H2 hp.objs.size (.xd [(f,y)])) x (XO x { ob with dict:=some hp.objs.size }) b=some u:=fun b u e nb=>by
  rw [ji nb,ji (jp e fr)];exact e
 have nx1:∀ b u,H2 b=some u→(∀ p,u≠.ext p)→b≠x:=fun b u e ne z=>by
  rw [z,ea] at e;exact ne _ (Cs e).symm
 refine ⟨σ,_,I2.step (g':=g) (d':=d) (ch:=[]) (fun _ z=>nomatch z) (fun b o _ _ _ e n=>a3 b o (fun z=>by rw [z,ea] at n;cases n) e) (fun b o _ _ _ e n=>⟨o.slots,a3 b o (fun z=>by rw [z,ea] at n;cases n) e⟩)
  (fun b o _ e n=>?_) (fun b o _ e=>?_) (fun b xs e=>up b _ e (nx1 b _ e fun p z=>by cases z)) (fun b o u e=>up b _ e (nx1 b _ e fun p z=>by cases z)) (fun b ps e=>⟨#[],by rw [up b _ e (nx1 b _ e fun p z=>by cases z)];simp⟩) (fun m hm=>?_) (fun b u e=>?_) I2.bare,nx _ fr nd⟩
 ·have b1:b≠x:=fun z=>by rw [z,ea] at n;cases n
  rw [ji b1,ji (Di (Cu e))];exact n
 ·by_cases b1:b=x
  ·subst b1;exact ⟨_,a1⟩
  ·exact ⟨o,a3 b o b1 e⟩
 ·obtain ⟨o,es,ep,ho,r⟩:=hm;exact ⟨o,es,ep,a3 _ o (fun z=>by have:=I2.free;rw [z,ea] at this;cases this) ho,r⟩
 ·by_cases b1:b=x
  ·subst b1;rw [jc] at e;cases e;exact jkE a1
  ·rw [ji b1] at e;by_cases b2:b=hp.objs.size
   ·subst b2;rw [jc] at e;cases e;refine ⟨_,a2,fun z=>?_⟩;show zr (List.lookup z [(f,y)]) (if z=f then some u else none);by_cases zf:z=f
    ·have hb:(z == f)=true:=D8.mpr zf;simp only [List.lookup,hb,Ce zf];exact ry
    ·have hb:(z == f)=false:=beq_eq_false_iff_ne.mpr zf;simp only [List.lookup,hb,Cc zf];exact True.intro
   ·rw [ji b2] at e;refine (I2.hok b u e).stay (fun c v hc z=>a3 c v ?_ z) (fun c z=>up c _ z (nx1 c _ z fun p y=>by cases y)) fun c xs z=>up c _ z (nx1 c _ z fun p y=>by cases y);rcases hc with z1|z1
    ·rw [z1];exact b1
    ·exact nx1 c _ z1 fun p y=>by cases y
theorem jtK (hK:je2 X.K C fI) (hf:jdt f) (ha:PE X o ta) (hv:PE X value tv) (hs:swapsWith value (some (.Attribute o f pos')) pos.line X.env=pure false):PS X (.Assign [.Attribute o f pos'] value pos) (sX2 C ta tv f):=by
 intro pins s σ H D I h;refine Jg (thn (hv pins s σ H _ I h) fun u s1 ⟨y,H1,I1,ry,q⟩=>thn (ha pins s1 σ H1 _ I1 q) fun ov s2 zqq=>?_) hs;obtain ⟨xv,H2,I2,rx,x,ob,dx,fs,ex,ea,e1,e2,e3,e4,e5,e6,nx⟩:=zqq;subst ex;obtain rfl:ov=Value.ref x:=rx;obtain ⟨nm,q,N,bs,sn,sub,ab,col,dd,k0,k1,k2,k3,k5,mN,kk,n1,n2,n3,n4,n5,n6⟩:=hK;obtain ⟨c1,c2⟩:=kk s2.heap I2.kIn;have hx:=XO.at I2.hok ea;have nf:mN f=none:=by rcases hf with rfl|rfl<;>assumption
 obtain ⟨mA,d1,d2⟩:=(show vb X.prog X.w H2 s2.heap dx (.xd fs) from I2.hok dx _ e5);have wi:PySem.Within mA (fs.map (·.1)):=fun z hz=>by
  cases hl:fs.lookup z with
  | none =>
   have:=d2 z;rw [hl] at this;exact absurd (zr.none_of this) hz
  | some v=>exact Dh.mpr ⟨(z,v),mem_of_lookup hl,rfl⟩
 have xC:x≠C:=fun z=>by
  rw [z,c1] at hx;have:=Cs hx;rw [←this] at e2;exact e2 _ rfl
 obtain ⟨hp,g,d,t,os⟩:=s2;refine store_attr F.store_Exception c1 c2 n2 nf hf.no xC ⟨ob,hx,e1,e2,.inr ⟨dx,e3,e4,d1⟩⟩ (fun h' tk' a1 a2 a3=>?_) wi (by rw [Cb,Gb];omega);obtain ⟨o1,b1,b2,b3,b4,b5⟩:=a3 ob hx;have eo:o1=ob:=by
  have:=b5 dx e3;obtain ⟨p1,p2,p3,p4⟩:=o1;obtain ⟨q1,q2,q3,q4⟩:=ob;simp only at b2 b3 b4 this e3;subst b2 b3 b4 this e3
  rfl
 subst eo;have keep:∀ b o,b≠dx→hp.get? b=some o→h'.get? b=some o:=fun b o nb e=>by
  by_cases bx:b=x
  ·subst bx;rw [hx] at e;rw [b1];exact e
  ·exact a2 b o bx (fun o0 dy z1 z2=>by
    rw [hx] at z1;cases z1;rw [e3] at z2;cases z2;exact nb) e
 obtain ⟨oz,y1,y2,y3,y4⟩:=a1;have y4':h'.Ns1 dx (fun z=>if z=f then some u else mA z):=by
  rw [b1] at y1;cases y1;rcases y4 with ⟨z,_⟩|⟨dz,z1,z2,z3⟩
  ·rw [e3] at z;cases z
  ·rw [e3] at z1;cases z1;exact z3
 have up:∀ b u,H2 b=some u→b≠dx→upd H2 dx (.xd (vR f y fs)) b=some u:=fun b u e nb=>by rw [ji nb];exact e
 have nx1:∀ b u,H2 b=some u→(∀ p,u≠.xd p)→b≠dx:=fun b u e ne z=>by
  rw [z,e5] at e;exact ne _ (Cs e).symm
 refine ⟨σ,_,I2.step (g':=g) (d':=d) (ch:=[]) (fun _ z=>nomatch z) (fun b o _ _ _ e n=>keep b o (fun z=>by rw [z,e5] at n;cases n) e) (fun b o _ _ _ e n=>⟨o.slots,keep b o (fun z=>by rw [z,e5] at n;cases n) e⟩)
  (fun b o _ e n=>by rw [ji (fun z=>by rw [z,e5] at n;cases n)];exact n) (fun b o _ e=>?_) (fun b xs e=>up b _ e (nx1 b _ e fun p z=>by cases z)) (fun b o u e=>up b _ e (nx1 b _ e fun p z=>by cases z)) (fun b ps e=>⟨#[],by rw [up b _ e (nx1 b _ e fun p z=>by cases z)];simp⟩) (fun m hm=>?_) (fun b v e=>?_) I2.bare,nx⟩
 ·by_cases bd:b=dx
  ·subst bd;obtain ⟨oD,_,_,gD,_⟩:=y4';exact ⟨_,gD⟩
  ·exact ⟨o,keep b o bd e⟩
 ·obtain ⟨o,es,ep,ho,r⟩:=hm;exact ⟨o,es,ep,keep _ o (fun z=>by have:=I2.free;rw [z,e5] at this;cases this) ho,r⟩
 ·by_cases bd:b=dx
  ·subst bd;rw [jc] at e;cases e;refine ⟨_,y4',fun z=>?_⟩;show zr ((vR f y fs).lookup z) (if z=f then some u else mA z);rw [jdd];by_cases zf:z=f
   ·rw [Ce zf,Ce zf];exact ry
   ·rw [Cc zf,Cc zf];exact d2 z
  ·rw [ji bd] at e;refine (I2.hok b v e).stay (fun c v' hc z=>keep c v' ?_ z) (fun c z=>up c _ z (nx1 c _ z fun p y=>by cases y)) fun c xs z=>up c _ z (nx1 c _ z fun p y=>by cases y);rcases hc with z1|z1
   ·rw [z1];exact bd
   ·exact nx1 c _ z1 fun p y=>by cases y
end
section
variable {P:Program} {w:World} {K:Frag} {mg:Str→Option Value} {base:Heap} {t:Adr}
noncomputable def xf (i j:Int):List (Str×V):=[("line",.int i),("kind",.int j)]
noncomputable def jbL (C:Addr):Sp:=fun vs H Q _=>∃ x ob i j,vs=[.ref x,.int i,.int j]∧H x=some (XO x ob)∧ob.cls=.ref C∧(∀ c,ob.data≠.cls c)∧ob.dict=none ∧
 ∀ dx H',H dx=none→dx≠x→H' x=some (XO x { ob with dict:=some dx })→H' dx=some (.xd (xf i j))→(∀ b,b≠x→b≠dx→H' b=H b)→Q .non H'
theorem jj8 (T:Txt K mg t) {fI:Addr} (hK:je2 K t.c_Fault fI):Met P w K mg base 1 t.c_Fault "__init__" ["self","line","kind"] (jbL t.c_Fault):=by
 refine T.xaj.ok jkh (fun vs H Q E h=>?_) (fun f cdv A outer s H vs Q E hr h=>?_)
 ·obtain ⟨x,ob,i,j,rfl,_⟩:=h
  rfl
 ·obtain ⟨x,ob,i,j,rfl,hx,e1,e2,e3,k⟩:=h;refine ⟨_,(jd (jtJ hK (.inl rfl) (pv 0) (pv 1) rfl) (jg (jtK hK (.inr rfl) (pv 0) (pv 2) rfl))),?_⟩;refine ⟨_,rfl,_,rfl,x,ob,rfl,hx,e1,e2,e3,fun dx hd nd=>?_⟩;refine ⟨_,rfl,_,rfl,x,{ ob with dict:=some dx },dx,[("line",.int i)],rfl,jc,e1,e2,rfl,nd,by rw [ji nd,jc],by show 1≤100;decide,?_⟩;refine k dx _ hd nd (by rw [ji (Dj nd),jc]) (by rw [jc];rfl) fun b b1 b2=>by rw [ji b2,ji b1,ji b2]
end
theorem jpu (x:vb P w H h a o):∃ u,h.get? a=some u:=by
 induction o with
 | lst xs=>obtain ⟨_,_,_,_,e⟩:=x;exact ⟨_,e⟩
 | tup xs=>obtain ⟨_,_,_,_,e,_⟩:=x;exact ⟨_,e⟩
 | dK kvs=>obtain ⟨_,_,_,_,o,_,_,e,_⟩:=x;exact ⟨_,e⟩
 | dT kvs=>obtain ⟨_,_,_,_,o,_,_,e,_⟩:=x;exact ⟨_,e⟩
 | set S n=>obtain ⟨o,_,_,_,e,_⟩:=x;exact ⟨_,e⟩
 | ins C dx fs=>obtain ⟨_,_,_,e,_⟩:=x;exact ⟨_,e⟩
 | own y=>exact x
 | xd fs=>obtain ⟨_,⟨_,_,_,e,_⟩,_⟩:=x;exact ⟨_,e⟩
 | rng lo hi=>obtain ⟨_,_,_,e⟩:=x;exact ⟨_,e⟩
 | frz o u ih=>exact ⟨_,x.1⟩
 | tbl ps=>exact ⟨_,x⟩
 | met f y=>exact ⟨_,x⟩
 | ext p=>exact x.2.1
theorem jqt (hok:HOk P w H h) (e:h.get? a=none):H a=none:=by
 cases q:H a with
 | none=>rfl
 | some o =>
  obtain ⟨u,hu⟩:=jpu (hok a o q);rw [e] at hu;cases hu
noncomputable def CXF (P:Program) (w:World) (C:Addr):CXT:=fun outer H s E e s'=>∃ (x:Addr) (ob:Obj) (dx:Addr) (H':Hp) (vs:Array Value) (T:Addr) (oT:Obj) (ts:Array Value),e=.ref x∧s'.os=s.os∧AllBare s'.gens∧Un (frs outer) [] H H' s.heap s'.heap∧HOk P w H' s'.heap ∧
 s.heap.get? x=none∧H' x=some (XO x ob)∧ob.cls=.ref C∧ob.dict=some dx∧ob.data=.fields vs∧vs[1]?=some (.ref T)∧T≠x∧s.heap.objs.size≤T∧H' T=none∧s'.heap.get? T=some oT∧oT.data=.fields ts∧ts[3]?=some .none∧∀ ob',E (.ref C) (some dx) (upd H' x (XO x ob'))
section
variable {P:Program} {w:World} {K:Frag} {mg:Str→Option Value} {base:Heap} {N:List Str} {qn:Str} {sc:Scope} {f C:Addr} {cdv:Value} {A:Around} {outer:List Env} {s0:Shared} {H0:Hp} {E:XK}
 {pins:List (Addr×Obj)} {σ:St} {H:Hp} {s:Shared} {x dx:Addr} {ob:Obj} {vs:Array Value}
theorem jlw (I:Inv X pins σ H s) (hex:X.ex=[]) (e:s.heap.get? b=none):X.s_0.heap.get? b=none:=by
 cases q:X.s_0.heap.get? b with
 | none=>rfl
 | some o =>
  obtain ⟨o',z⟩:=I.base.there b o q (by rw [hex];simp);rw [e] at z;cases z
theorem jjH (I:Inv (zt (CXF P w C) P w K mg base N qn sc f cdv A outer s0 H0 E) pins σ H s) (hx:H x=some (XO x ob)) (hc:ob.cls=.ref C) (hdx:ob.dict=some dx) (hd:ob.data=.fields vs) (h1:1 < vs.size) (xn:s0.heap.get? x=none)
  {old:Option Addr} (on:∀ T,old=some T→H T=none∧s0.heap.get? T=none) (hE:∀ ob',E (.ref C) (some dx) (upd H x (XO x ob'))) {h':Heap}
  (nt:jd7 (frs (envOfC qn sc s0.heap.objs.size f cdv :: outer)) x ob vs old s.heap h'):CXF P w C outer H0 s0 E (.ref x) { s with heap:=h' }:=by
 obtain ⟨T,oT,ts,t1,t2,t3,t4,t5,t6⟩:=nt.now;have xo:=XO.at I.hok hx;have neL:∀ b o,s0.heap.get? b=some o→b∉frs outer→b∉frs (envOfC qn sc s0.heap.objs.size f cdv :: outer):=fun b o e nb hb=>by
  rcases Cp.mp (show b∈s0.heap.objs.size :: frs outer from hb) with z|z
  ·rw [z,Heap.get?_none_of_le (Cl _)] at e;cases e
  ·exact nb z
 have nx:∀ b o,s0.heap.get? b=some o→b≠x:=fun b o e z=>by rw [z,xn] at e;cases e
 have no:∀ b o,s0.heap.get? b=some o→some b≠old:=fun b o e z=>by
  have:=(on b z.symm).2;rw [this] at e;cases e
 have up:∀ b u,H b=some u→(∀ p,u≠.ext p)→upd H x (XO x { ob with data:=.fields (vs.setIfInBounds 1 (.ref T)) }) b=some u:=fun b u e ne=>by
  rw [ji (fun z=>by rw [z,hx] at e;exact ne _ (Cs e).symm)];exact e
 have B:Un (frs outer) [] H0 H s0.heap s.heap:=I.base;have keepT:∀ b u,H b=some u→b≠x→∀ o,s.heap.get? b=some o→h'.get? b=some o:=fun b u e bx o z=>by
  refine nt.keep b o (fun hb=>?_) bx (fun q=>?_) z
  ·have:=I.stkFree b hb;rw [e] at this;cases this
  ·have:=(on b q.symm).1;rw [e] at this;cases this
 refine ⟨x,{ ob with data:=.fields (vs.setIfInBounds 1 (.ref T)) },dx,upd H x (XO x { ob with data:=.fields (vs.setIfInBounds 1 (.ref T)) }),vs.setIfInBounds 1 (.ref T),T,oT,ts,rfl,I.os,I.bare,?_,?_,xn,jc,hc,hdx,rfl,by simp [h1],t2,?_,?_,t4,t5,t6,fun ob'=>?_⟩
 ·refine ⟨fun b o e n hb _=>?_,fun b o e n hb _=>?_,fun b o e n _=>?_,fun b o e _=>?_,fun b xs e=>up b _ (B.tups b xs e) (fun p z=>(by cases z)),fun b o u e=>up b _ (B.frzs b o u e) (fun p z=>(by cases z)),fun b ps e=>?_⟩
  ·exact nt.keep b o (neL b o e hb) (nx b o e) (no b o e) (B.keep b o e n hb (by simp))
  ·obtain ⟨sl,q⟩:=B.slot b o e n hb (by simp);obtain ⟨sl2,q2⟩:=nt.slot b _ (nx b o e) (no b o e) q;exact ⟨sl2,q2⟩
  ·rw [ji (nx b o e)];exact B.free b o e n (by simp)
  ·obtain ⟨o',q⟩:=B.there b o e (by simp);exact nt.there b o' q
  ·obtain ⟨m,q⟩:=B.tbls b ps e;exact ⟨m,up b _ q fun p z=>by cases z⟩
 ·intro b u e;by_cases bx:b=x
  ·subst bx;rw [jc] at e;cases e;exact jkE t3
  ·rw [ji bx] at e;refine (I.hok b u e).stay (fun c v hq z=>?_) (fun c z=>up c _ z fun p y=>by cases y) fun c xs z=>up c _ z fun p y=>by cases y
   rcases hq with z1|z1
   ·rw [z1] at z ⊢;exact keepT b u e bx v z
   ·exact keepT c _ z1 (fun q=>by rw [q,hx] at z1;cases z1) v z
 ·exact Da I.sz t1
 ·rw [ji t2];exact I.hok.fresh t1
 ·have e:upd (upd H x (XO x { ob with data:=.fields (vs.setIfInBounds 1 (.ref T)) })) x (XO x ob')=upd H x (XO x ob'):=by
   funext b;by_cases bx:b=x
   ·subst bx;rw [jc,jc]
   ·rw [ji bx,ji bx,ji bx]
  rw [e];exact hE ob'
theorem jrg (kn:sc.kind≠.module):jan (CXF P w C) (zt (CXF P w C) P w K mg base N qn sc f cdv A outer s0 H0 E) E:=by
 rintro pins σ H s e s' I ⟨x,ob,dx,H',vs,T,oT,ts,rfl,os,bare,un,hok,xn,hx,hc,hdx,hd,h1,tx,tn,hT,gT,dT,h3,hE⟩;have J:Inv (zt (CXF P w C) P w K mg base N qn sc f cdv A outer s0 H0 E) pins σ H' s':=I.call' (ch:=[]) os un hok bare fun b z=>absurd z (by simp);show wpAny (model P w) (A.deeper (envOfC qn sc s0.heap.objs.size f cdv)) (leaving (envOfC qn sc s0.heap.objs.size f cdv) (.ref x)) _ _ s';refine jqC (base:=base) J.ok.frames J.stack rfl (XO.at J.hok hx) hd h1 tx gT dT h3 fun h' nt=>?_
 exact jjH J hx hc hdx hd (D9.mp h1).1 (jlw (X:=zt (CXF P w C) P w K mg base N qn sc f cdv A outer s0 H0 E) I rfl xn) (fun T' z=>by cases z;exact ⟨hT,Heap.get?_none_of_le (Da I.sz tn)⟩) hE nt
theorem Def.okX {x:Str} {st:Stmt} {ps:List Str} {sp:Sp} (D:Def K mg x st ps) (S:jr N ps (jm st)) (len:∀ vs H Q E,sp vs H Q E→vs.length=ps.length)
  (hb:∀ (f:Addr) (cdv:Value) (A:Around) (outer:List Env) (s:Shared) (H:Hp) (vs:List V) (Q:VK) (E:XK),j6 k (A.deeper (envOfC x (jm st) s.heap.objs.size f cdv))→sp vs H Q E →
   ∃ t,PSs (zt (CXF P w C) P w K mg base N x (jm st) f cdv A outer s H E) (zu st) t∧t { nx:=fun _ H'=>Q .non H',rt:=Q } (start N vs) H):Cal P w K mg base (CXF P w C) (k+1) x ps sp:=by
 obtain ⟨f,fd,F,b,g⟩:=D;refine ⟨f,fd,g,F.kp,b,?_⟩;obtain ⟨oc,od,kV,doc,pm,an,cdv,ct,osl,rfl,lk,hcd⟩:=F.ex;exact jn2 lk hcd S len fun A outer s H vs Q E hr hsp=>hb f cdv A outer s H vs Q E hr hsp
noncomputable def jpO (C:Addr) (E:XK) (ta:TA):TS:=fun _ σ H=>ta σ H fun vs H1=>∃ i j:Int,vs=[.int i,.int j]∧∀ dx H',jn H1 H'→H' dx=some (.xd (xf i j))→E (.ref C) (some dx) H'
theorem jrY (s:jn H H') (e:H a=none):jn H (upd H' a o):=fun b u q=>by
 rw [ji (jp q e)];exact s b u q
theorem jqV {fI:Addr} {fd:FuncData} {ps:List Str} {e1 e2:Expr} {ta:TA} {np cpos:Pos} (hK:je2 K C fI) (hfn:PySem.W.isFn K (.ref fI)=true) (hkp:PySem.W.keepIn K (.ref C)=true) (hm:mg "Fault"=some (.ref C)) (hb:Binds K fd ps []) (F:zG P w K mg base CX0 k fI fd ps (jbL C))
  (hr:j6 (k+1) (A.deeper (envOfC qn sc s0.heap.objs.size f cdv))) (hg:Gl (zt (CXF P w C) P w K mg base N qn sc f cdv A outer s0 H0 E) "Fault") (ha:PA (zt (CXF P w C) P w K mg base N qn sc f cdv A outer s0 H0 E) [e1,e2] ta)
  (he:starEach [e1,e2] (envOfC qn sc s0.heap.objs.size f cdv)=(false,eval e1 (envOfC qn sc s0.heap.objs.size f cdv)) :: starEach [e2] (envOfC qn sc s0.heap.objs.size f cdv):=by rfl) (hpl:(backTo cpos (starEach [e2] (envOfC qn sc s0.heap.objs.size f cdv))).any (·.1)=false:=by rfl) :
  PS (zt (CXF P w C) P w K mg base N qn sc f cdv A outer s0 H0 E) (.Raise (some (.Call (.Name "Fault" np) [e1,e2] [] cpos)) none pos) (jpO C E ta):=by
 intro pins s σ H D I h;obtain ⟨nm,q,N',bs,sn,sub,ab,col,dd,k0,k1,k2,k3,k5,mN,kk,n1,n2,n3,n4,n5,n6⟩:=hK;rw [arm_exec_Raise];refine Ca (Ll (jom (C:=C) (nm:=nm) (q:=q) (N:=N') (bs:=bs) (bm:=bmE) (hdct:=true) (sn:=sn) (sub:=sub) (ab:=ab) (col:=col) (dd:=dd) (k0:=k0) (k1:=k1) (k2:=k2) (k3:=k3) (k5:=k5) (newId:="Exception.__new__") (by decide) (I.ok.hd rfl) ?_));refine Ca (thn (Fm (jaM I hg hm ?_)) fun v s3 h3=>Ca (Ll (Ck h3)))
 refine PySem.W.callWith_K (h₀:=base) I.ok.mod.kin hkp (thn (ha cpos pins s σ H _ I h) fun us s1 ⟨vs,H1,I1,r,i,j,ev,hE⟩=>⟨I1.kIn,?_⟩) he hpl;subst ev;obtain ⟨c1,c2⟩:=kk s1.heap I1.kIn;obtain ⟨oI,l1,l2⟩:∃ oI,s1.heap.get? fI=some oI∧oI.cls=.type "function":=by
  have e:(K.lookup fI).map (fun o=>o.cls)=some (.type "function"):=D8.mp hfn;cases q:K.lookup fI with
  | none=>rw [q] at e;cases e
  | some o=>rw [q] at e;exact ⟨o,I1.kIn _ _ q,Cs e⟩
 have hlen:us.length=2:=by rw [←r.length];rfl
 obtain ⟨hp,g,d,tk,os⟩:=s1;refine wpAny_call_exc_init PySem.F.excBase_Exception c1 c2 n1 l1 l2 (fun h' x hm'=>?_) (by rw [Jq,hlen];decide);obtain ⟨tt,x1,x2,x3⟩:=hm'.there;have xn:H1 x=none:=jqt I1.hok hm'.new;have up:∀ b u,H1 b=some u→upd H1 x (XO x { cls:=.ref C,data:=.fields #[.ref tt,.none,.none,.none,.bool false,.none] }) b=some u:=fun b u e=>by rw [ji (jp e xn)];exact e
 have J:Inv (zt (CXF P w C) P w K mg base N qn sc f cdv A outer s0 H0 E) pins σ (upd H1 x (XO x { cls:=.ref C,data:=.fields #[.ref tt,.none,.none,.none,.bool false,.none] })) ⟨h',g,d,tk,os⟩:=by
  refine I1.step (g':=g) (d':=d) (ch:=[]) (fun _ z=>nomatch z) (fun b o _ _ _ e n=>hm'.keeps b o e) (fun b o _ _ _ e n=>⟨o.slots,hm'.keeps b o e⟩) (fun b o _ e n=>?_) (fun b o _ e=>⟨o,hm'.keeps b o e⟩) (fun b xs e=>up b _ e) (fun b o u e=>up b _ e) (fun b ps e=>⟨#[],by rw [up b _ e];simp⟩) (fun m hm=>?_) (fun b u e=>?_) I1.bare
  ·rw [ji (fun z=>by rw [z] at e;have:=hm'.new;rw [this] at e;cases e)];exact n
  ·obtain ⟨o,es,ep,ho,r⟩:=hm;exact ⟨o,es,ep,hm'.keeps _ o ho,r⟩
  ·by_cases bx:b=x
   ·subst bx;rw [jc] at e;cases e;exact jkE x1
   ·rw [ji bx] at e;exact (I1.hok b u e).stay (fun c v _ z=>hm'.keeps c v z) (fun c z=>up c _ z) fun c xs z=>up c _ z
 have r2:jx (.ref x :: [.int i,.int j]) (.ref x :: us):=.cons rfl r;have hb':=hb ⟨h',g,d,tk,os⟩ (.ref x :: us) J.kIn (by rw [←(F.len _ _ (fun _ _=>True) (fun _ _ _=>True) (show jbL C [.ref x,.int i,.int j] (upd H1 x (XO x { cls:=.ref C,data:=.fields #[.ref tt,.none,.none,.none,.bool false,.none] })) (fun _ _=>True) (fun _ _ _=>True) from ⟨x,_,i,j,rfl,jc,rfl,(fun c z=>by cases z),rfl,fun _ _ _ _ _ _ _=>trivial⟩))];simp [hlen]);rw [D5] at hb'
 refine wpAny_call (G9 (F.run _ _ ⟨h',g,d,tk,os⟩ _ ⟨.ref x :: us,[]⟩ (.ref x :: us) _ (fun v H2=>v=.non∧∃ dx,H2 x=some (XO x { cls:=.ref C,dict:=some dx,data:=.fields #[.ref tt,.none,.none,.none,.bool false,.none] })∧H2 dx=some (.xd (xf i j))∧jn H1 H2) E0 (hr.make C us []) (J.env0.make C us []) hb' r2 ⟨x,_,i,j,rfl,jc,rfl,(fun c z=>by cases z),rfl,fun dx H' a1 a2 a3 a4 a5=>⟨rfl,dx,a3,a4,fun b u e=>?_⟩⟩) fun rr s' hq=>?_)
 ·have bx:b≠x:=jp e xn;have bd:b≠dx:=fun z=>by
   have y:=up b u e;rw [z,a1] at y;cases y
  rw [a5 b bx bd];exact up b u e
 ·cases rr with
  | error e=>exact hq.elim
  | ok fl =>
   cases fl with
   | ret u =>
    obtain ⟨v,H2,J2,rv,ev,dx,y1,y2,y3⟩:=J.after hq;subst ev;cases rv;refine ⟨rfl,x,some dx,_,_,_,_,_,_,rfl,(kk s'.heap J2.kIn).1,XO.at J2.hok y1,?_⟩;show wpAny (model P w) (A.deeper (envOfC qn sc s0.heap.objs.size f cdv)) (leaving (envOfC qn sc s0.heap.objs.size f cdv) (.ref x)) _ _ s';have sx:s0.heap.get? x=none:=jlw (X:=zt (CXF P w C) P w K mg base N qn sc f cdv A outer s0 H0 E) I1 rfl hm'.new;refine leave_new (base:=base) J2.ok.frames J2.stack rfl (XO.at J2.hok y1) rfl rfl fun h2 nt=>?_
    exact jjH J2 y1 rfl rfl rfl (by show 1 < 6;decide) sx (fun T z=>by cases z) (fun ob'=>hE dx _ (jrY y3 xn) (by rw [ji (fun z=>by rw [z,y1] at y2;cases y2)];exact y2)) nt
   | next=>exact False.elim hq
   | brk=>exact False.elim hq
   | cont=>exact False.elim hq
end
noncomputable abbrev WK:=List Nat×Nat×List Nat
noncomputable def mkW (k:WK):Word:=⟨k.1,k.2.2,0,0,k.2.1⟩
noncomputable def ltW (a b:WK):Bool:=(mkW a).before (mkW b)
theorem jei:∀ a b:List Nat,jaY (Sy.ints a) (Sy.ints b)=before a b
 | [],[]=>rfl
 | [],_ :: _=>rfl
 | _ :: _,[]=>rfl
 | a :: l,b :: m=>by
  show (if (a:Int)=(b:Int) then jaY (Sy.ints l) (Sy.ints m) else decide ((a:Int) < (b:Int)))=(decide (a < b) || (a == b && before l m));rw [jei l m];by_cases h:a=b
  ·subst h;rw [Ce rfl];simp
  ·rw [Cc (by omega)];have:(a == b)=false:=by simpa using h
   rw [this,Dv,Bool.or_false];rw [C8,Dd,Dd];omega
noncomputable def KW (H:Hp) (q:Addr) (k:WK):Prop:=∃ ra xa,H q=some (.tup [.ref ra,.int (k.2.1:Int),.ref xa])∧LN H ra k.1∧LN H xa k.2.2
theorem jpq {m:List Nat} (h:LN H a l) (h':LN H a m):l=m:=by
 unfold LN at h h';rw [h] at h';injection h' with h';injection h' with h';have:∀ (l m:List Nat),iv l=iv m→l=m:=by
  intro l
  induction l with
  | nil=>intro m e;cases m with|nil=>rfl|cons _ _=>cases e
  | cons x l ih =>
   intro m e;cases m with
   | nil=>cases e
   | cons y m =>
    injection e with e1 e2;injection e1 with e1;rw [ih m e2,show x=y by omega]
 exact this l m h'
theorem KW.uniq (q:Addr) (d d':WK) (h:KW H q d) (h':KW H q d'):d=d':=by
 obtain ⟨ra,xa,h1,h2,h3⟩:=h;obtain ⟨ra',xa',h1',h2',h3'⟩:=h';rw [h1] at h1';injection h1' with e;injection e with e;injection e with e1 e;injection e with e2 e;injection e with e3 e;injection e1 with e1;injection e2 with e2;injection e3 with e3;subst e1 e3;obtain ⟨r,c,x⟩:=d;obtain ⟨r',c',x'⟩:=d';have:=jpq h2 h2';have:=jpq h3 h3';simp only at *;have:c=c':=by omega
 simp [*]
section
variable {X:Cx} {pins:List (Addr×Obj)} {σ:St} {H:Hp} {s:Shared}
theorem LN.il (I:Inv X pins σ H s) (h:LN H a l):IL s.heap a (Sy.ints l):=by
 obtain ⟨its,rv,pl,_⟩:=I.list (h.sq (K:=X.K));refine ⟨its.toArray,pl.isList,?_⟩;rw [Lj];have:∀ (l:List Nat) (its:List Value),jx (iv l) its→IntsAre its (Sy.ints l):=by
  intro l
  induction l with
  | nil=>intro its r;cases r;exact .nil
  | cons n l ih =>
   intro its r;cases r with
   | cons r1 r2 =>
    obtain ⟨t,rfl⟩:=r1;exact .cons _ t (ih _ r2)
 exact this l its rv
theorem KW.at (I:Inv X pins σ H s) {k:WK} (h:KW H q k):∃ o ra xa t n,s.heap.get? q=some o∧o.cls=.type "tuple"∧o.data=.seq #[.ref ra,.int (k.2.1:Int) t,.ref xa] n∧LN H ra k.1∧LN H xa k.2.2:=by
 obtain ⟨ra,xa,h1,h2,h3⟩:=h;obtain ⟨its,rv,⟨o,ho,hc,n,hd⟩,_⟩:=I.tuple (SqT.of (K:=X.K) h1);cases rv with
 | cons r1 rv =>
  cases rv with
  | cons r2 rv =>
   cases rv with
   | cons r3 rv =>
    cases rv;cases r1;obtain ⟨t,rfl⟩:=r2;cases r3;exact ⟨o,ra,xa,t,n,ho,hc,hd,h2,h3⟩
theorem jnp (I:Inv X pins σ H s) {A:Around} {m:List Nat} (ha:LN H a l) (hb:LN H b m) (hu:A.units+1 < cLine):SeqAt.EqAt A s (.ref a) (.ref b) (decide (l=m)):=by
 obtain ⟨as,r1⟩:=Dp.reads I (dN l) _ (.ref a) (ha.dp (K:=X.K)) rfl;obtain ⟨bs,r2⟩:=Dp.reads I (dN m) _ (.ref b) (hb.dp (K:=X.K)) rfl;rw [←jkz];refine SeqAt.eqAt_reads (dN l) (dN m) A s _ _ as bs r1 r2 ?_ ?_ ?_
 ·simp [dN,PyData.canLay0,jkN]
 ·simp [dN,PyData.canLay0,jkN]
 ·have:(dN l).depth≤1:=by simp [dN,PyData.depth,jn0]
  have h2:min (dN l).depth (dN m).depth≤(dN l).depth:=Nat.min_le_left _ _;omega
theorem jmI (I:Inv X pins σ H s) (hu:X.A.units+64 < cLine) (hlen:ku.length=xu.length) (hk:∀ v∈ku,∃ a d,v=Value.ref a∧KW H a d) :
  jbX X s ku xu fun qs=>qs.Pairwise fun p q=>∀ x y dx dy,p.1=Value.ref x→q.1=Value.ref y→KW H x dx→KW H y dy→ltW dy dx=false:=by
 have hu2:X.A.in1.in1.units < cLine:=by show X.A.units+1+1 < cLine;omega
 have hu3:X.A.in1.in1.units+1 < cLine:=by show X.A.units+1+1+1 < cLine;omega
 refine jlZ ltW (KW H) true KW.uniq (fun a=>jj1 _) (fun a b c h1 h2=>jhF h1 h2) (fun a b c h1 h2=>jrm h1 h2) hlen hk (jni true (T:=.type "list") (by decide) (by decide) fun v hv=>?_) fun x y dx dy kx ky Q E q=>?_
 ·obtain ⟨a,d,rfl,kd⟩:=hk v hv;obtain ⟨o,ra,xa,t,n,ho,hc,hd,h2,h3⟩:=kd.at I;obtain ⟨us,⟨ol,hl,hlc,_⟩,_⟩:=h2.il I;exact ⟨a,o,_,n,.ref ra,rfl,ho,hc,hd,rfl,by rw [←hlc];exact (PySem.W.Looks.ld hl).andThen .now⟩
 ·obtain ⟨o,ra,xa,t,n,ho,hc,hd,h2,h3⟩:=kx.at I;obtain ⟨o2,ra2,xa2,t2,n2,ho2,hc2,hd2,h4,h5⟩:=ky.at I;have q':Q (if dx.1=dy.1 then (if dx.2.1=dy.2.1 then before dx.2.2 dy.2.2 else decide ((dx.2.1:Int) < (dy.2.1:Int))) else before dx.1 dy.1) s:=by
   have e:ltW dx dy=(if dx.1=dy.1 then (if dx.2.1=dy.2.1 then before dx.2.2 dy.2.2 else decide ((dx.2.1:Int) < (dy.2.1:Int))) else before dx.1 dy.1):=by
    show (before dx.1 dy.1 || (dx.1 == dy.1 && (decide (dx.2.1 < dy.2.1) || (dx.2.1 == dy.2.1 && before dx.2.2 dy.2.2))))=_;by_cases e1:dx.1=dy.1
    ·rw [Ce e1,e1,jbw,beq_self_eq_true,Fa,Bool.false_or];by_cases e2:dx.2.1=dy.2.1
     ·rw [Ce e2,e2,beq_self_eq_true,Fa,show decide (dy.2.1 < dy.2.1)=false by simp,Bool.false_or]
     ·rw [Cc e2,show (dx.2.1 == dy.2.1)=false by simpa using e2,Dv,Bool.or_false];rw [C8,Dd,Dd];omega
    ·rw [Cc e1,show (dx.1 == dy.1)=false by simpa using e1,Dv,Bool.or_false]
   rw [←e];exact q
  refine PySem.W.kat_lt ho hd ho2 hd2 ?_;show PySem.W.KatLex X.prog X.w X.A.in1.in1 true (decide ((#[Value.ref ra,Value.int (dx.2.1:Int) t,Value.ref xa]:Array Value).size < (#[Value.ref ra2,Value.int (dy.2.1:Int) t2,Value.ref xa2]:Array Value).size)) Q [(.ref ra,.ref ra2),(.int (dx.2.1:Int) t,.int (dy.2.1:Int) t2),(.ref xa,.ref xa2)] 0 s;refine Lh (jnp I h2 h4 hu3 _ _ _ _ (PySem.W.kat_go (fun h1=>?_) (fun h1=>?_)))
  ·have e1:=Co h1;rw [Ce e1] at q';refine Lp (Lh (wpAny_eqBool_int (PySem.W.kat_go (fun h6=>?_) (fun h6=>?_))))
   ·have e2:dx.2.1=dy.2.1:=by (have:(dx.2.1:Int)=(dy.2.1:Int):=(by simpa using h6));omega
    rw [Ce e2] at q';refine Lp (Lh (jnp I h3 h5 hu3 _ _ _ _ (PySem.W.kat_go (fun h7=>?_) (fun h7=>?_))))
    ·have e3:=Co h7;rw [e3,jbw] at q';exact Lp (PySem.W.kat_nil q')
    ·refine PySem.W.kat_no (jlx (h3.il I) (h5.il I) hu2 ?_);rw [jei];exact q'
   ·have e2:¬dx.2.1=dy.2.1:=fun z=>by
     have:((dx.2.1:Int) == (dy.2.1:Int))=true:=by rw [z];simp
     rw [this] at h6;cases h6
    rw [Cc e2] at q';exact PySem.W.kat_no (ji0 q')
  ·have e1:=of_decide_eq_false h1;rw [Cc e1] at q';refine PySem.W.kat_no (jlx (h2.il I) (h4.il I) hu2 ?_);rw [jei];exact q'
end
structure jc7 (K:Frag) (t:Adr):Prop where
 flt:∃ fI,je2 K t.c_Fault fI∧PySem.W.findIn K (.ref t.c_Fault) "__init__"=some (some (.ref fI))
 kp:PySem.W.keepIn K (.ref t.c_Fault)=true
section
variable {P:Program} {w:World} {K:Frag} {mg:Str→Option Value} {base:Heap} {t:Adr} {N:List Str} {qn:Str} {sc:Scope} {f:Addr} {cdv:Value} {A:Around} {outer:List Env} {s0:Shared} {H0:Hp} {E:XK}
theorem jia {e1 e2:Expr} {ta:TA} {np cpos:Pos} (T:Txt K mg t) (U:jc7 K t) (hr:j6 2 (A.deeper (envOfC qn sc s0.heap.objs.size f cdv))) (hg:Gl (zt (CXF P w t.c_Fault) P w K mg base N qn sc f cdv A outer s0 H0 E) "Fault") (ha:PA (zt (CXF P w t.c_Fault) P w K mg base N qn sc f cdv A outer s0 H0 E) [e1,e2] ta)
  (he:starEach [e1,e2] (envOfC qn sc s0.heap.objs.size f cdv)=(false,eval e1 (envOfC qn sc s0.heap.objs.size f cdv)) :: starEach [e2] (envOfC qn sc s0.heap.objs.size f cdv):=by rfl) (hpl:(backTo cpos (starEach [e2] (envOfC qn sc s0.heap.objs.size f cdv))).any (·.1)=false:=by rfl) :
  PS (zt (CXF P w t.c_Fault) P w K mg base N qn sc f cdv A outer s0 H0 E) (.Raise (some (.Call (.Name "Fault" np) [e1,e2] [] cpos)) none pos) (jpO t.c_Fault E ta):=by
 obtain ⟨fI,hK,hf⟩:=U.flt;obtain ⟨f',fd,g1,g2,g3,g4,g5⟩:=jj8 (P:=P) (w:=w) (base:=base) T hK;rw [hf] at g1;cases g1;exact jqV hK g2 U.kp T.xai g4 g5 hr hg ha he hpl
end
theorem jiV (n:Nat):∀ (l:List Nat) (st:List (List Nat)×List Nat),(∀ r∈st.1,r≠[]∧r.length≤n)→st.2.length+l.length≤n→(∀ r∈(l.foldl jZ st).1,r≠[]∧r.length≤n)∧(l.foldl jZ st).2.length≤n
 | [],st,h1,h2=>⟨h1,by simpa using h2⟩
 | c :: l,st,h1,h2=>by
  rw [Fi];rw [Cd] at h2;unfold jZ;by_cases q:c=10
  ·rw [Ce q];refine jiV n l _ (fun r hr=>?_) (by show 0+_≤n;omega);rcases Ds.mp hr with hr|hr
   ·exact h1 r hr
   ·rw [Cm.mp hr];exact ⟨by simp,by rw [Ci];simp only [Cd,Ct];omega⟩
  ·rw [Cc q];exact jiV n l _ h1 (by rw [Ci];simp only [Cd,Ct];omega)
theorem jek {r:List Nat} (h:r∈jS l):r≠[]∧r.length≤l.length:=by
 obtain ⟨h1,h2⟩:=jiV l.length l ([],[]) (fun r hr=>nomatch hr) (by simp);unfold jS jcI at h;split at h
 ·exact h1 r h
 ·rename_i q;rcases Ds.mp h with h|h
  ·exact h1 r h
  ·rw [Cm.mp h];exact ⟨q,h2⟩
theorem jpp (l:List Nat):(jS l).length≤l.length+1:=by
 have:=jhW l ([],[]);unfold jS jcI;simp only [Ct,Fy] at this;split
 ·omega
 ·rw [Ci];simp only [Cd,Ct];omega
theorem jp3 (h:vt l=some wd):wd.reading≠[]∧wd.text≠[]:=by
 unfold vt at h;split at h
 ·unfold ja4 at h;cases hc:chs l.dropLast with
  | none=>rw [hc] at h;cases h
  | some cs =>
   rw [hc] at h;simp only [C5] at h;split at h
   ·split at h
    ·rename_i q;cases h;obtain ⟨q1,q2,_⟩:=q;unfold vD at q1 q2;rw [Cn] at q1 q2;refine ⟨fun e=>?_,fun e=>?_⟩
     ·have z:=q1.2;dsimp only at e;rw [e] at z;cases z
     ·have z:=q2.2;dsimp only at e;rw [e] at z;cases z
    ·cases h
   ·cases h
 ·cases h
theorem LN.del (h:LN H a l) (hl:l≠[]) (hq:H q=some (.lst (as.map V.ref))):LN (del H q) a l:=by
 show Rw.del H q a=_;have h':H a=some (.lst (iv l)):=h;rw [jT (fun e=>by
  rw [e,hq] at h';injection h' with h';injection h' with h';cases l with
  | nil=>exact hl rfl
  | cons x l =>
   cases as with
   | nil=>cases h'
   | cons y as=>injection h' with h1 h2;cases h1)]
 exact h'
theorem vB.del {C:Addr} (h:vB C H a wd) (h1:wd.reading≠[]) (h2:wd.text≠[]) (hq:H q=some (.lst (as.map V.ref))):vB C (del H q) a wd:=by
 obtain ⟨dx,r,x,e1,e2,e3⟩:=h;exact ⟨dx,r,x,by rw [jT (fun e=>by rw [e,hq] at e1;cases e1)];exact e1,e2.del h1 hq,e3.del h2 hq⟩
theorem jqz {ws:List Word} (h:vX wd ws≠0) (i:Nat) (ls:List (List Nat)) (l:List Nat) (hl:vt l=some wd):v0 i (l :: ls) ws=.error (i,(vX wd ws).toNat)∧0≤vX wd ws:=by
 rw [v0,hl];simp only;unfold vX at h ⊢;split
 ·exact ⟨rfl,by decide⟩
 ·split
  ·exact ⟨rfl,by decide⟩
  ·split
   ·exact ⟨rfl,by decide⟩
   ·rename_i q1 q2 q3;rw [Cc q1,Cc q2,Cc q3] at h;exact absurd rfl h
theorem jpm {ws:List Word} (h:vX wd ws=0) (i:Nat) (ls:List (List Nat)) (l:List Nat) (hl:vt l=some wd):v0 i (l :: ls) ws=v0 (i+1) ls (ws++[wd])∧wd.small=true∧(ws.any fun q=>q.same wd)=false∧ws.length≠128:=by
 rw [v0,hl];simp only;unfold vX at h;by_cases q1:wd.small=false
 ·rw [Ce q1] at h;cases h
 ·rw [Cc q1] at h ⊢;by_cases q2:(ws.any fun q=>q.same wd)=true
  ·rw [Ce q2] at h;cases h
  ·rw [Cc q2] at h ⊢;by_cases q3:ws.length=128
   ·rw [Ce q3] at h;cases h
   ·rw [Cc q3];exact ⟨rfl,by simpa using q1,by simpa using q2,q3⟩
section
variable {P:Program} {w:World} {K:Frag} {mg:Str→Option Value} {base:Heap} {t:Adr}
noncomputable def jn7 (wd:Word):WK:=(wd.reading,wd.cost,wd.text)
theorem jrI (a b:Word):ltW (jn7 a) (jn7 b)=a.before b:=rfl
noncomputable def jiB (C CF:Addr):Sp:=fun vs H Q E=>∃ (a:Addr) (l:List Nat),vs=[.ref a]∧LN H a l∧l.length≤70000∧(∀ i j,v0 0 (jS l) []=.error (i,j)→∀ dx H',jn H H'→H' dx=some (.xd (xf (i:Int) (j:Int)))→E (.ref CF) (some dx) H') ∧
 (∀ ws,v0 0 (jS l) []=.ok ws→∀ H' p,jn H H'→vm C H' p (j9 ws)→Q (.ref p) H')
theorem jh2 (T:Txt K mg t) (U:jc7 K t):Cal P w K mg base (CXF P w t.c_Fault) 5 "read_lexicon" ["text"] (jiB t.c_Word t.c_Fault):=by
 refine T.xbf.okX jc1 (fun vs H Q E h=>?_) (fun f cdv A outer s H vs Q E hr h=>?_)
 ·obtain ⟨a,l,rfl,_⟩:=h
  rfl
 ·obtain ⟨a,l,rfl,hl,hz,kE,kQ⟩:=h;have nd:=jc1.nd;have hu64:=hr.units;refine ⟨_,(jd (jE 1 nd (jN jh))
   (jd (vg PassesOwn.leaving rfl (ji2 rfl T.xdq (jb (cal (jgy T) hr.m rfl (jb (pv 0) jh)) jh)) (jfo rfl (zC (jM (i:=2) nd rfl (Ff rfl)) (zC (jM (i:=3) nd rfl (Ff rfl)) jdG))) (jd (jE 4 nd (cal (joi T) hr.m rfl (jb (pv 3) jh)))
   (jd (jE 5 nd (cal (jhc T) hr.m rfl (jb (pv 4) (jb (pv 1) jh))))
   (jd (jz (jw zE (pv 5) jj) (jg (jia T U hr.m rfl (jb (pv 2) (jb (pv 5) jh)))) jt)
   (jg (vC (zy De Dm Dn vy (pv 1) (jb (pv 4) jh))))))))
   (jg (jk (jnx (jhe T) hr.m T.xdr rfl (pv 1)))))),?_⟩
  refine ⟨C4 _,fun q hq=>?_⟩;have s0:jn H (upd H q (.lst [])):=jq hq;refine ⟨_,rfl,a,l,rfl,hl.same s0,by omega,fun H1 p s1 hp0 hps=>?_⟩;obtain ⟨rs,hp1,hrp⟩:=hps;have rlen:=Cr hrp;have npq:p≠q:=fun e=>by rw [e,jc] at hp0;cases hp0
  have hq1:H1 q=some (.lst []):=s1 _ _ jc;refine ⟨p,_,rfl,SqL.of hp1,jk4 (K:=K) (a:=p) (xs:=rs.map V.ref) (fun i σ H'=>∃ (v2 v3 v4 v5:Option V) (as:List Addr) (ws:List Word),σ=[some (.ref a),some (.ref q),v2,v3,v4,v5]∧jn (del H1 q) (del H' q)∧H' q=some (.lst (as.map V.ref))∧Paired (vB t.c_Word (del H' q)) as ws∧ws.length=i∧ws.length≤128∧Apart ws∧v0 0 (jS l) []=v0 i ((jS l).drop i) ws)
   ⟨none,none,none,none,[],[],rfl,jn.refl _,hq1,.nil,rfl,C4 _,.nil,rfl⟩ (fun i σ H' _ ⟨_,_,_,_,_,_,_,e,_⟩=>SqL.of (vj _ _ _ _ (e _ _ (by rw [jT npq];exact hp1)))) ?_ ?_⟩
  ·rintro i y σ H' tp hi ⟨v2,v3,v4,v5,as,ws,rfl,s2,hq2,hw,hwi,h128,hap,hrd⟩ htp;obtain ⟨b,hb,rfl⟩:=vh hi;obtain ⟨row,hri,hbr⟩:=Paired.getP hrp hb;obtain ⟨rne,rle⟩:=jek (Cw hri);have hbq:LN (del H' q) b row:=s2 _ _ (by
    have h9:H1 b=some (.lst (iv row)):=hbr;rw [jT (fun e=>by rw [e,hq1] at h9;injection h9 with h9;injection h9 with h9;cases row with|nil=>exact rne rfl|cons _ _=>cases h9)];exact h9)
   have s3:jn H' (upd H' tp (.tup [.int (i:Nat),.ref b])):=jq htp;have sH:jn H H':=fun z o e=>by
    have zq:=jp e hq;exact vj _ _ _ _ (s2 _ _ (by rw [jT zq];exact s1 _ _ (s0 _ _ e)))
   have alen:=Cr hw;rw [zj hri] at hrd;refine ⟨tp,_,rfl,SqT.of jc,rfl,_,_,rfl,_,_,rfl,rfl,?_⟩;have hb4:=(hbq.same (vj _ _)).same s3;refine ⟨_,rfl,b,row,rfl,hb4,rne,by omega,fun hn H4 s4=>?_,fun wd hwd H4 pw s4 hpw=>?_⟩
   ·refine ⟨_,rfl,_,rfl,.inl ⟨q,rfl,?_⟩⟩;refine ⟨_,rfl,rfl,_,rfl,vG ?_⟩;refine ⟨_,rfl,_,rfl,(i:Int),1,rfl,fun dx H5 s5 hd5=>?_⟩;refine kE i 1 ?_ dx H5 (((sH.trans s3).trans s4).trans s5) hd5;rw [hrd,v0,hn]
   ·have hq4:=s4 _ _ (s3 _ _ hq2);have hw4:vm t.c_Word H4 q ws:=⟨as,hq4,Paired.mapM hw fun _ _ _ z=>z.same ((vj _ _).trans (s3.trans s4))⟩;refine ⟨_,rfl,_,rfl,.inr ⟨pw,q,wd,ws,rfl,hpw,hw4,?_⟩⟩;refine ⟨_,rfl,rfl,_,rfl,jB (fun h1=>?_) (fun h1=>?_)⟩
    ·have h1':vX wd ws≠0:=fun e=>by rw [e] at h1;simp at h1
     obtain ⟨e1,e2⟩:=jqz h1' i ((jS l).drop (i+1)) row hwd;refine ⟨_,rfl,_,rfl,(i:Int),vX wd ws,rfl,fun dx H5 s5 hd5=>?_⟩;rw [e1] at hrd;refine kE i _ hrd dx H5 (((sH.trans s3).trans s4).trans s5) ?_;rw [hd5,show (((vX wd ws).toNat:Nat):Int)=vX wd ws by omega]
    ·have h1':vX wd ws=0:=by
      have:V.int (vX wd ws)=V.int 0:=by simpa using h1
      exact V.int.inj this
     obtain ⟨e1,e2,e3,e4⟩:=jpm h1' i ((jS l).drop (i+1)) row hwd;rw [e1] at hrd;obtain ⟨f1,f2⟩:=jp3 hwd;refine ⟨_,rfl,.inl ⟨rfl,_,SqL.of hq4⟩,_,rfl,q,_,_,rfl,rfl,hq4,j7 (by rw [Cb];omega),?_⟩;refine ⟨_,_,_,_,as++[pw],ws++[wd],rfl,?_,by rw [jc,Dc];rfl,?_,by rw [Ci,hwi];rfl,by rw [Ci];simp only [Cd,Ct];omega,?_,hrd⟩
     ·rw [vv];exact s2.trans (zD (s3.trans s4) q)
     ·rw [vv];exact Paired.appendP (Paired.mapM hw fun _ _ _ z=>z.same (zD (s3.trans s4) q)) (.cons (hpw.del f1 f2 hq4) .nil)
     ·refine List.pairwise_append.mpr ⟨hap,Go ..,fun x hx y hy=>?_⟩;rw [Cm.mp hy];cases hs:x.same wd with
      | false=>rfl
      | true =>
       have:(ws.any fun q=>q.same wd)=true:=Ji.mpr ⟨x,hx,hs⟩;rw [e3] at this;cases this
  ·rintro σ H' ⟨v2,v3,v4,v5,as,ws,rfl,s2,hq2,hw,hwi,h128,hap,hrd⟩;rw [Cb,rlen,Fp] at hrd;have sH:jn H H':=fun z o e=>by
    have zq:=jp e hq;exact vj _ _ _ _ (s2 _ _ (by rw [jT zq];exact s1 _ _ (s0 _ _ e)))
   have hw':Paired (vB t.c_Word H') as ws:=Paired.mapM hw fun _ _ _ z=>z.same (vj _ _);have alen:=Cr hw';refine ⟨_,rfl,q,as.map V.ref,fun ks H2=>jn H' H2∧∃ qs:List Addr,ks=qs.map V.ref∧Paired (fun z wd=>KW H2 z (jn7 wd)) qs (ws.take ks.length),fun ks prs H2=>prs.Pairwise fun p q=>∀ x y,p.1=V.ref x→q.1=V.ref y→∀ dx dy,KW H2 x dx→KW H2 y dy→ltW dy dx=false,
    rfl,SqL.of hq2,⟨jn.refl _,[],rfl,.nil⟩,?_,?_,?_⟩
   ·rintro i x ks H2 hx hk ⟨s3,qs,rfl,hqs⟩;obtain ⟨c0,hc0,rfl⟩:=vh hx;obtain ⟨wd,hci,hcw⟩:=Paired.getP hw' hc0;obtain ⟨dx,r,xt,g1,g2,g3⟩:=hcw.same s3;refine ⟨c0,dx,r,xt,wd.left,wd.right,wd.cost,rfl,g1,fun z hz0=>⟨jA s3 (s3.free hz0),qs++[z],by rw [Dc];rfl,?_⟩⟩;rw [Cb] at hk hqs;rw [Ci,Cb,hk];rw [hk] at hqs;show Paired _ _ (ws.take (i+1));rw [take_snoc hci];have sN:jn H2 (upd H2 z (.tup [.ref r,.int (wd.cost:Int),.ref xt])):=jq hz0;refine Paired.appendP (Paired.mapM hqs fun z' _ d e=>?_) (.cons ⟨r,xt,jc,g2.same sN,g3.same sN⟩ .nil)
    obtain ⟨ra,xa,j1,j2,j3⟩:=e;exact ⟨ra,xa,sN _ _ j1,j2.same sN,j3.same sN⟩
   ·rintro pins ks ku xu H2 s' J ⟨s3,qs,rfl,hqs⟩ hl rk rx;have lk:=rk.length;have lx:=rx.length;obtain rfl:=jfQ rk;obtain ⟨c1,c2⟩:=jmI J hu64 (ku:=qs.map Value.ref) (xu:=xu) (by omega) (fun v hv=>by
     obtain ⟨z,hz1,rfl⟩:=Dh.mp hv;obtain ⟨c,_,hc⟩:=Paired.memP hqs hz1;exact ⟨z,_,rfl,hc⟩)
    have back:∀ qs':List (Value×Value),(qs'.Pairwise fun p q=>∀ x y dx dy,p.1=Value.ref x→q.1=Value.ref y→KW H2 x dx→KW H2 y dy→ltW dy dx=false)→∀ ps,Paired jaf ps qs'→ps.Perm ((qs.map V.ref).zip (as.map V.ref))→ps.Pairwise fun p q=>∀ x y,p.1=V.ref x→q.1=V.ref y→∀ dx dy,KW H2 x dx→KW H2 y dy→ltW dy dx=false:=fun qs' h ps hr _ =>
     ji4 hr (h.imp fun z x y ex ey dx dy=>z x y dx dy ex ey)
    refine ⟨fun h2=>back _ (c1 h2),fun h2=>?_⟩;obtain ⟨kd,e1,e2⟩:=c2 h2;exact ⟨kd,e1,fun E=>wpS_mono (e2 E) fun _ st h=>⟨h.1,h.2.1,back _ h.2.2⟩⟩
   ·rintro D2 ks prs H2 ⟨s3,qs,rfl,hqs⟩ hD2n hl pp gg;rw [Cb,Cb] at hl;rw [Cb,hl,alen,Dg] at hqs;obtain ⟨as',ws',e1,e2,e3,e4⟩:=sorted_out (IT:=vB t.c_Word H2) jn7 ltW hqs (Paired.mapM hw' fun _ _ _ z=>z.same s3) pp gg;rw [e1];have asc:Asc Word.before ws':=e4.imp fun {x y} h=>by rw [←jrI];exact h
    have sN:jn H2 (upd H2 D2 (.lst (as'.map V.ref))):=jq hD2n;refine kQ ws (by rw [hrd];rfl) _ D2 ((sH.trans s3).trans sN) ⟨as',jc,?_⟩;rw [←joq hap e3 asc];exact Paired.mapM e2 fun _ _ _ z=>z.same sN
noncomputable def jgo (CF:Addr):Sp:=fun vs H Q E=>∃ (a:Addr) (ls:List (List Nat)),vs=[.ref a]∧LNs H a ls∧(∀ r∈ls,r≠[]∧r.length≤70000) ∧
 (∀ j:Nat,(ls=[]∧j=1)∨(∃ l r,ls=l :: r∧vH l 1=none∧j=1)∨(∃ l r x,ls=l :: r∧vH l 1=some [x]∧65535 < x∧j=2)→∀ dx H',jn H H'→H' dx=some (.xd (xf 0 (j:Int)))→E (.ref CF) (some dx) H') ∧
 (∀ l r x,ls=l :: r→vH l 1=some [x]→¬65535 < x→∀ H',jn H H'→Q (.int (x:Int)) H')
theorem jlj {ns:List Nat} (h:vH l k=some ns):ns.length=k:=by
 unfold vH at h;split at h
 ·rename_i q;cases h;rw [Cb];exact q.2.1
 ·cases h
noncomputable def dNs (ls:List (List Nat)):PyData:=.list (ls.map dN)
theorem jqj {ls:List (List Nat)} (h:LNp H as ls):jbW K H (as.map V.ref) (ls.map dN):=by
 induction h with
 | nil=>exact .nil
 | cons r t ih=>exact .cons (LN.dp r) ih
theorem jrc:∀ ls:List (List Nat),PyData.canLayAll0 (ls.map dN)=true
 | []=>by simp [PyData.canLayAll0]
 | n :: l=>by simp [PyData.canLayAll0,PyData.canLay0,jrc l,dN,jkN]
theorem jrd:∀ ls:List (List Nat),PyData.depthAll (ls.map dN)≤1
 | []=>by simp [PyData.depthAll]
 | n :: l=>by
  have:=jrd l;simp only [C6,PyData.depthAll,dN,PyData.depth,jn0];omega
theorem juk (ls:List (List Nat)):SeqAt.shaped (dNs ls)=true:=by
 have:=jrd ls;unfold SeqAt.shaped dNs;simp [PyData.canLay0,PyData.depth,jrc];omega
theorem jgh (T:Txt K mg t) (U:jc7 K t):Cal P w K mg base (CXF P w t.c_Fault) 4 "read_by_itself" ["lines"] (jgo t.c_Fault):=by
 refine T.xax.okX jbU (fun vs H Q E h=>?_) (fun f cdv A outer s H vs Q E hr h=>?_)
 ·obtain ⟨a,l,rfl,_⟩:=h
  rfl
 ·obtain ⟨a,ls,rfl,⟨as,ha,hp⟩,hz,kE,kQ⟩:=h;have nd:=jbU.nd;have hu64:=hr.units;have elen:=Cr hp;refine ⟨_,(jd (jz (jw (jh4 hu64) (pv 0) (jN jh)) (jg (jia T U hr.m rfl (jb jj (jb jj jh)))) jt)
   (jd (jE 1 nd (cal (jeL T) hr.m rfl (jb (jC jJ (pv 0) jj) (jb jj jh))))
   (jd (jE 2 nd (cal (jhd T) hr.m rfl (jb (pv 1) jh)))
   (jd (jz (jw zE (pv 2) jj) (jg (jia T U hr.m rfl (jb jj (jb (pv 2) jh)))) jt)
   (jg (jk (jC jJ (pv 1) jj))))))),?_⟩
  refine ⟨_,rfl,C4 _,fun e he=>⟨dNs ls,.list [],.lst (SqL.of (jq he _ _ ha)) (jqj (LNp.same hp (jq he))),.lst (SqL.of jc) .nil,juk _,rfl,_,rfl,?_⟩⟩;have s1:jn H (upd H e (.lst [])):=jq he;cases ls with
  | nil =>
   refine vG ?_;exact ⟨0,1,rfl,fun dx H5 s5 hd5=>kE 1 (.inl ⟨rfl,rfl⟩) dx H5 (s1.trans s5) hd5⟩
  | cons l r =>
   refine jbJ ?_;cases as with
   | nil=>simp at elen
   | cons b as =>
    cases hp with
    | cons hb hp =>
    obtain ⟨lne,lle⟩:=hz l (Cf ..);refine ⟨_,rfl,a,_,_,.ref b,rfl,rfl,SqL.of (s1 _ _ ha),vn (j:=0) rfl,b,l,1,rfl,LN.same hb s1,lne,by omega,fun hn H2 s2=>?_,fun ns hn H2 pn s2 hpn=>?_⟩
    ·refine ⟨_,rfl,.inl ⟨rfl,?_⟩⟩;refine ⟨_,rfl,rfl,_,rfl,vG ?_⟩;exact ⟨_,rfl,0,1,rfl,fun dx H5 s5 hd5=>kE 1 (.inr (.inl ⟨l,r,rfl,hn,rfl⟩)) dx H5 ((s1.trans s2).trans s5) hd5⟩
    ·have hn1:=jlj hn
     match ns,hn1 with
     | [x],_ =>
     refine ⟨_,rfl,.inr ⟨pn,x,rfl,hpn,?_⟩⟩;refine ⟨_,rfl,rfl,_,rfl,?_⟩;by_cases hx:65535 < x
     ·rw [Ce hx];refine vG ?_;exact ⟨_,rfl,0,2,rfl,fun dx H5 s5 hd5=>kE 2 (.inr (.inr ⟨l,r,x,rfl,hn,hx,rfl⟩)) dx H5 ((s1.trans s2).trans s5) hd5⟩
     ·rw [Cc hx];refine jbJ ⟨_,rfl,pn,_,_,.int (x:Int),rfl,rfl,hpn.sq,rfl,?_⟩;exact kQ l r x rfl hn hx H2 (s1.trans s2)
end
noncomputable def It1 (K:Frag) (a:Addr):It :=
 ⟨fun i H=>∃ (xs:List V) (x:V),SqL K H a xs∧xs[i]?=some x,fun i H v H'=>∃ T x,v=.ref T∧H T=none∧H'=upd H T (.tup [.int ((i:Int)+1),x])∧∀ xs,SqL K H a xs→xs[i]?=some x,fun i H=>∃ xs:List V,SqL K H a xs∧xs.length≤i⟩
theorem jq6 {elts:List Expr} {kk:Nat} {tpos:Pos} (a e it:Addr) :
  jd8 P w K (.Tuple elts kk tpos) (It1 K a) [e,it] e (fun i h=>(∃ old,IsEnum h e it ((i:Int)+1) old)∧h.IsListIter it a i∧e≠it) where
 mem:=by simp
 obj:=fun i h st b hb=>by
  obtain ⟨⟨old,he⟩,⟨o,ho,hc,hd⟩,_⟩:=st;have e':b=e∨b=it:=by simpa using hb
  rcases e' with z|z
  ·rw [z];exact ⟨_,he,fun v q=>nomatch q⟩
  ·rw [z];exact ⟨o,ho,fun v q=>by rw [hd] at q;cases q⟩
 keep:=fun i h h' st k=>let ⟨⟨old,he⟩,hi,hne⟩:=st;⟨⟨old,k e (by simp) _ he⟩,hi.at fun o q=>k it (by simp) o q,hne⟩
 item:=by
  intro X hP hw hK hc i pins s σ H E I hf st hg;subst hP hw hK;obtain ⟨⟨old,he⟩,hit,hne⟩:=st;obtain ⟨xs,x,hq,hx⟩:=hg;obtain ⟨its,rv,p,hz⟩:=I.list hq;obtain ⟨u,hu,ru⟩:=rv.get hx;have hel:e < s.heap.objs.size:=Cu he;have hil:it < s.heap.objs.size:=by obtain ⟨_,q,_⟩:=hit;exact Cu q
  refine jrw he hit p.isList (x:=u) (by simpa using hu) hne fun h' ho hit' hT hsz hk=>?_;refine ⟨_,rfl,wpAny_letOwnedTupleGo_enum (s:={ s with heap:=h',toks:=s.toks+1 }) ho fun h'' he' sb=>?_⟩;have hT2:h''.get? s.heap.objs.size=some { cls:=.type "tuple",data:=.seq #[.int ((i:Int)+1) s.toks,u] }:=(sb.2 _ (Fs hel)).trans hT;have new:vb X.prog X.w (upd H s.heap.objs.size (.tup [.int ((i:Int)+1),x])) h'' s.heap.objs.size (.tup [.int ((i:Int)+1),x]) :=
   ⟨by show 2≤sizeLine;decide,[.int ((i:Int)+1) s.toks,u],.cons ⟨_,rfl⟩ (.cons ru .nil),⟨_,hT2,rfl,_,rfl⟩⟩
  have I1:Inv X pins σ (upd H s.heap.objs.size (.tup [.int ((i:Int)+1),x])) { s with heap:=h'',toks:=s.toks+1 } :=
   I.turnedNew (ch:=[e,it]) (fun b ob hb q=>(sb.2 b (fun z=>hb (by simp [z]))).trans (hk b ob (fun z=>hb (by simp [z])) (fun z=>hb (by simp [z])) q)) hf (Cl _) new
  refine ⟨.ref s.heap.objs.size,_,I1,rfl,⟨_,x,rfl,I.hok.fresh (Cl _),rfl,fun ys hy=>by rw [I.list_inj hy hq];exact hx⟩,⟨⟨u,?_⟩,hit'.at fun o q=>(sb.2 it (Dj hne)).trans q,hne⟩,fun b hb=>?_⟩
  ·have e1:((i+1:Nat):Int)+1=(i:Int)+1+1:=by omega
   rw [e1];exact he'
  ·have hb':b < s.heap.objs.size:=by
    have e':b=e∨b=it:=by simpa using hb
    rcases e' with z|z
    ·rw [z];exact hel
    ·rw [z];exact hil
   rw [ji (Di hb')];exact (hf b hb).1
 done:=by
  intro X hP hw hK hc i pins s σ H E I hf st hg;subst hP hw hK;obtain ⟨⟨old,he⟩,hit,hne⟩:=st;obtain ⟨xs,hq,hx⟩:=hg;obtain ⟨its,rv,p,hz⟩:=I.list hq;obtain ⟨f0,f1,f2,f3,f4,f5⟩:=hf it (by simp);have hl:=rv.length;exact jsv (I.ok.hd hc) he hit p.isList (by simp;omega) fun h' eb=>⟨rfl,I.turned (t':=s.toks) (fun b o hb q=>eb b o hb q) f0 f1 f3 f4 f5⟩
 self:=fun A i s Q E st h=>let ⟨⟨_,he⟩,_⟩:=st;wpAny_pyIter_enum he h
noncomputable def jsB (K:Frag) (te:TE):TI:=fun σ H R=>te σ H fun v H1=>∃ a xs,v=.ref a∧SqL K H1 a xs∧R (It1 K a) H1
theorem joZ {M:Model} {A:Around} {env:Env} {T:String} {rest:List Expr} {kws:List Keyword} {Q:Value→Shared→Prop}
  (h:wpAny M A (spliced (backTo pos (starEach (e :: rest) env))) (fun vs s1=>wpAny M A (evalAll ((backToKw pos (keywordEach kws env)).map (·.2))) (fun kvs s2=>wpAny M A (call (.type T) vs (((backToKw pos (keywordEach kws env)).filterMap (·.1)).zip kvs)) Q E s2) E s1) E s)
  (he:backTo pos (starEach (e :: rest) env)=(false,eval e env) :: backTo pos (starEach rest env)) (hplain:(backTo pos (starEach (e :: rest) env)).any (·.1)=false) (hall:(backToKw pos (keywordEach kws env)).all (·.1.isSome)=true) (hkw:(backToKw pos (keywordEach kws env)).any (·.1.isNone)=false) :
  wpAny M A (callWith pos (.type T) [] (backTo pos (starEach (e :: rest) env)) (backToKw pos (keywordEach kws env))) Q E s:=by
 unfold callWith;refine Ca (F4 ?_);rw [he] at h ⊢;refine Fd (evalArgs_kwB (Q:=fun a s2=>wpAny M A (call (.type T) ([]++a.pos) a.kw) Q E s2) hall h) (fun a s1 h1=>Ca (Ll ?_)) fun _ _ x=>x;rw [←he];simp only [hplain,hkw,Bool.or_false];refine Ca (Ck ?_);exact Ca (Fd h1 (fun r s2 hr=>Ca (F4 (wpAny_point (Ck hr)))) fun _ _ x=>x)
theorem jqU {te:TE} {p tpos kp ip:Pos} {elts:List Expr} {kk ck:Nat} (hg:Gl X "enumerate") (hm:X.mg "enumerate"=none) (he:PE X e te) (hs:starEach [e] X.env=[(false,eval e X.env)]:=by rfl) :
  PI X (.Tuple elts kk tpos) (.Call (.Name "enumerate" p) [e] [⟨some "start",.Constant (.int 1) ck ip,kp⟩] pos) (jsB X.K te):=by
 intro pins s σ H R I h;refine Fm (jaX I hg hm boot_enumerate ?_);refine joZ (thn (jb he jh hs pos pins s σ H (fun vs H1=>match vs with|[v]=>∃ a xs,v=.ref a∧SqL X.K H1 a xs∧R (It1 X.K a) H1|_=>False) I h) fun us s1 ⟨vs,H1,I1,r1,q1⟩=>?_) (by rw [hs];rfl) (by rw [hs];rfl) rfl rfl;refine kws_cons (thn (jj (X:=X) pins s1 σ H1 (fun v H2=>v=.int 1∧H2=H1) I1 ⟨rfl,rfl⟩) fun kv s2 ⟨v2,H2,I2,rv2,e2,e3⟩=>kws_nil ?_);subst e2 e3;obtain ⟨tok,rfl⟩:=rv2;cases r1 with
 | nil=>exact q1.elim
 | cons r rr =>
  cases rr with
  | cons _ _=>exact q1.elim
  | nil =>
  obtain ⟨a,xs,ex,hq,q⟩:=q1;subst ex;cases r;obtain ⟨its,rv,p',hz⟩:=I2.list hq;refine jrt p'.isList fun h' he hit hk=>?_;have J:Inv X pins σ H2 { s2 with heap:=h' }:=I2.kept (t':=s2.toks) hk;refine wpAny_pyIter_enum he ⟨s2.heap.objs.size+1,[s2.heap.objs.size+1,s2.heap.objs.size],_,_,H2,rfl,J,jq6 a (s2.heap.objs.size+1) s2.heap.objs.size,⟨⟨.none,he⟩,hit,Nat.succ_ne_self _⟩,fun b hb=>?_,q⟩;have e':b=s2.heap.objs.size+1∨b=s2.heap.objs.size:=by simpa using hb
  have hle:s2.heap.objs.size≤b:=by
   rcases e' with z|z
   ·rw [z];exact Nat.le_add_right _ _
   ·rw [z];exact Cl _
  exact I2.fpOk hle (I2.hok.fresh hle)
theorem jrx {tb:TS} {D:jcb} (Pv:Nat→St→Hp→Prop) (h0:Pv 0 σ H) (hl:∀ i σ H,i≤xs.length→Pv i σ H→SqL K H a xs)
  (hs:∀ i x σ H T,xs[i]?=some x→Pv i σ H→H T=none→g (.ref T) σ (upd H T (.tup [.int ((i:Int)+1),x])) fun σ2 H2=>tb { D with nx:=Pv (i+1),ct:=Pv (i+1),bk:=D.nx } σ2 H2) (hd:∀ σ H,Pv xs.length σ H→D.nx σ H) :
  ∃ W:Nat→Nat→St→Hp→Prop,(∃ m,W 0 m σ H)∧∀ i m σ H,W i m σ H →
   ((It1 K a).stop i H∧D.nx σ H)∨((It1 K a).go i H∧∃ N:St→Hp→Prop,(∀ σ' H',N σ' H'→∃ m',m' < m∧W (i+1) m' σ' H')∧∀ x H',(It1 K a).yld i H x H'→g x σ H' fun σ2 H2=>tb { D with nx:=N,ct:=N,bk:=D.nx } σ2 H2) :=
 jk3 xs.length Pv h0 (fun i σ H hi hp=>⟨xs,xs[i],hl i σ H (F5 hi) hp,by simp [hi]⟩) (fun σ H hp=>⟨xs,hl _ σ H (Cl _) hp,Cl _⟩)
  (fun i σ H x H' hi hp y=>by
   obtain ⟨T,z,rfl,hT,rfl,hz⟩:=y;exact hs i z σ H T (hz xs (hl i σ H (F5 hi) hp)) hp hT) hd
theorem jnA {x:Nat} {v:V} (h:(js.any fun q=>q.right == x && q.left == y)=false):jah (js.map jkv) [Sum.inl (x:Int),Sum.inl (y:Int)] v=js.map jkv++[([Sum.inl (x:Int),Sum.inl (y:Int)],v)]:=by
 unfold jah;rw [Cc];rw [jcz,jfP,Option.isSome_map,jk1,h];simp
theorem jpl {x c:Nat} (h:zV x y c js≠0) (i:Nat) (ls:List (List Nat)) (l:List Nat) (hl:vH l 3=some [x,y,c]):vZ i (l :: ls) js=.error (i,(zV x y c js).toNat)∧0≤zV x y c js:=by
 rw [vZ,hl];simp only;unfold zV at h ⊢;split
 ·exact ⟨rfl,by decide⟩
 ·split
  ·exact ⟨rfl,by decide⟩
  ·rename_i q1 q2;rw [Cc q1,Cc q2] at h;exact absurd rfl h
theorem jn8 {x c:Nat} (h:zV x y c js=0) (i:Nat) (ls:List (List Nat)) (l:List Nat) (hl:vH l 3=some [x,y,c]):vZ i (l :: ls) js=vZ (i+1) ls (js++[⟨x,y,c⟩])∧(js.any fun q=>q.right == x && q.left == y)=false:=by
 rw [vZ,hl];simp only;unfold zV at h;by_cases q1:255 < x∨255 < y∨65535 < c
 ·rw [Ce q1] at h;cases h
 ·rw [Cc q1] at h ⊢;by_cases q2:(js.any fun q=>q.right == x && q.left == y)=true
  ·rw [Ce q2] at h;cases h
  ·rw [Cc q2];exact ⟨rfl,by simpa using q2⟩
section
variable {P:Program} {w:World} {K:Frag} {mg:Str→Option Value} {base:Heap} {t:Adr}
noncomputable def jks (CF:Addr):Sp:=fun vs H Q E=>∃ (a:Addr) (ls:List (List Nat)),vs=[.ref a]∧LNs H a ls∧ls≠[]∧ls.length≤70001∧(∀ r∈ls,r≠[]∧r.length≤70000) ∧
 (∀ i j,vZ 1 (ls.drop 1) []=.error (i,j)→∀ dx H',jn H H'→H' dx=some (.xd (xf (i:Int) (j:Int)))→E (.ref CF) (some dx) H') ∧
 (∀ js,vZ 1 (ls.drop 1) []=.ok js→∀ H' d,jn H H'→H d=none→H' d=some (.dT (js.map jkv))→Q (.ref d) H')
theorem jka (T:Txt K mg t) (U:jc7 K t):Cal P w K mg base (CXF P w t.c_Fault) 4 "read_costs" ["lines"] (jks t.c_Fault):=by
 refine T.xay.okX jeT (fun vs H Q E h=>?_) (fun f cdv A outer s H vs Q E hr h=>?_)
 ·obtain ⟨a,l,rfl,_⟩:=h
  rfl
 ·obtain ⟨a,ls,rfl,⟨as,ha,hp⟩,hne,hz,hrow,kE,kQ⟩:=h;have nd:=jeT.nd;have hu:=jeg hr;have elen:=Cr hp;refine ⟨_,(jd (jE 1 nd jhk)
   (jd (vg PassesOwn.leaving rfl (jqU rfl T.xdq (jau jaR (pv 0) (zI jj) jdH)) (jfo rfl (zC (jM (i:=2) nd rfl (Ff rfl)) (zC (jM (i:=3) nd rfl (Ff rfl)) jdG))) (jd (jE 4 nd (cal (jeL T) hr.m rfl (jb (pv 3) (jb jj jh))))
   (jd (jE 5 nd (cal (jh0 T) hr.m rfl (jb (pv 4) (jb (pv 1) jh))))
   (jd (jz (jw zE (pv 5) jj) (jg (jia T U hr.m rfl (jb (pv 2) (jb (pv 5) jh)))) jt)
   (jg (ji3 hu (pv 1) (jav (jb (jC jJ (pv 4) jj) (jb (jC jJ (pv 4) jj) jh))) (jC jJ (pv 4) jj) rfl))))))
   (jg (jk (pv 1))))),?_⟩
  refine fun d hd=>?_;have s0:jn H (upd H d (.dT [])):=jq hd;refine ⟨_,rfl,1,rfl,a,_,rfl,SqL.of (s0 _ _ ha),fun p hp0=>?_⟩;have hlen1:1≤as.length:=by rw [elen];exact List.length_pos_iff.mpr hne
  have ecut:vQ (as.map V.ref) (some 1) none=(as.drop 1).map V.ref:=jkV as 1 hlen1;rw [ecut];have s1:jn (upd H d (.dT [])) (upd (upd H d (.dT [])) p (.lst ((as.drop 1).map V.ref))):=jq hp0;have npd:p≠d:=fun e=>by rw [e,jc] at hp0;cases hp0
  have hp':=Paired.dropP 1 hp;have dlen:=Cr hp';refine ⟨p,_,rfl,SqL.of jc,jrx (K:=K) (a:=p) (xs:=(as.drop 1).map V.ref) (fun i σ H'=>∃ (v2 v3 v4 v5:Option V) (js:List Join),σ=[some (.ref a),some (.ref d),v2,v3,v4,v5]∧jn H H'∧H' p=some (.lst ((as.drop 1).map V.ref))∧H' d=some (.dT (js.map jkv))∧js.length=i∧vZ 1 (ls.drop 1) []=vZ (1+i) ((ls.drop 1).drop i) js)
   ⟨none,none,none,none,[],rfl,s0.trans s1,jc,by rw [ji (Dj npd),jc];rfl,rfl,rfl⟩ (fun i σ H' _ ⟨_,_,_,_,_,_,_,e,_⟩=>SqL.of e) ?_ ?_⟩
  ·rintro i y σ H' tp hi ⟨v2,v3,v4,v5,js,rfl,s2,hpp,hdd,hji,hrd⟩ htp;obtain ⟨b,hb,rfl⟩:=vh hi;obtain ⟨row,hri,hbr⟩:=Paired.getP hp' hb;obtain ⟨rne,rle⟩:=hrow row (Lc (Cw hri));have hil:=(Cj.mp hri).1;rw [Db] at hil;have s3:jn H' (upd H' tp (.tup [.int ((i:Int)+1),.ref b])):=jq htp;rw [zj hri] at hrd;refine ⟨tp,_,rfl,SqT.of jc,rfl,_,_,rfl,_,_,rfl,rfl,?_⟩;refine ⟨_,rfl,b,row,3,rfl,LN.same hbr (s2.trans s3),rne,by omega,fun hn H4 s4=>?_,fun ns hn H4 pn s4 hpn=>?_⟩
   ·refine ⟨_,rfl,_,rfl,.inl ⟨d,rfl,?_⟩⟩;refine ⟨_,rfl,rfl,_,rfl,vG ?_⟩;refine ⟨_,rfl,_,rfl,((1+i:Nat):Int),1,?_,fun dx H5 s5 hd5=>?_⟩
    ·rw [show ((1+i:Nat):Int)=(i:Int)+1 by omega]
    ·refine kE (1+i) 1 ?_ dx H5 (((s2.trans s3).trans s4).trans s5) hd5;rw [hrd,vZ,hn]
   ·have hn3:=jlj hn
    match ns,hn3 with
    | [x,y,c],_ =>
    have hd4:=s4 _ _ (s3 _ _ hdd);refine ⟨_,rfl,_,rfl,.inr ⟨pn,d,x,y,c,js,rfl,hpn,hd4,fun H5 s5=>?_⟩⟩;refine ⟨_,rfl,rfl,_,rfl,jB (fun h1=>?_) (fun h1=>?_)⟩
    ·have h1':zV x y c js≠0:=fun e=>by rw [e] at h1;simp at h1
     obtain ⟨e1,e2⟩:=jpl h1' (1+i) ((ls.drop 1).drop (i+1)) row hn;refine ⟨_,rfl,_,rfl,((1+i:Nat):Int),zV x y c js,?_,fun dx H6 s6 hd6=>?_⟩
     ·rw [show ((1+i:Nat):Int)=(i:Int)+1 by omega]
     ·rw [e1] at hrd;refine kE (1+i) _ hrd dx H6 ((((s2.trans s3).trans s4).trans s5).trans s6) ?_;rw [hd6,show (((zV x y c js).toNat:Nat):Int)=zV x y c js by omega]
    ·have h1':zV x y c js=0:=by
      have:V.int (zV x y c js)=V.int 0:=by simpa using h1
      exact V.int.inj this
     obtain ⟨e1,e2⟩:=jn8 h1' (1+i) ((ls.drop 1).drop (i+1)) row hn;rw [e1] at hrd;have hpn5:=hpn.same s5;refine ⟨_,rfl,pn,_,_,.int (c:Int),rfl,rfl,hpn5.sq,rfl,_,rfl,_,rfl,pn,_,_,.int (x:Int),rfl,rfl,hpn5.sq,rfl,_,rfl,pn,_,_,.int (y:Int),rfl,rfl,hpn5.sq,rfl,by show 2≤sizeLine;decide,fun q hq=>?_⟩;have hd5:=s5 _ _ hd4;have ndq:d≠q:=jp hd5 hq;have npq:p≠q:=jp (s5 _ _ (s4 _ _ (s3 _ _ hpp))) hq;have s15:jn H (upd H5 q (.tup [.int (x:Int),.int (y:Int)])):=jA ((((s2.trans s3).trans s4).trans s5)) ((((s2.trans s3).trans s4).trans s5).free hq)
     refine ⟨d,_,rfl,jd6.t (k:=[Sum.inl (x:Int),Sum.inl (y:Int)]) (by rw [ji ndq];exact hd5) jc (j7 (by rw [Cb];omega)),?_⟩;refine ⟨_,_,_,_,js++[⟨x,y,c⟩],rfl,jA s15 hd,?_,?_,by rw [Ci,hji];rfl,by rw [hrd,show 1+i+1=1+(i+1) by omega]⟩
     ·rw [ji npd,ji npq];exact s5 _ _ (s4 _ _ (s3 _ _ hpp))
     ·rw [jc,jnA e2,Dc]
      rfl
  ·rintro σ H' ⟨v2,v3,v4,v5,js,rfl,s2,hpp,hdd,hji,hrd⟩;rw [Cb,dlen,Fp] at hrd;exact ⟨_,rfl,kQ js (by rw [hrd];rfl) H' d s2 hd hdd⟩
end
end
section
variable {H H' H1:Hp} {g:Weights} {js:List Join} {r:Text} {X:Cx} {P C a b d p:Addr} {w:World} {s:Shared} {l as:List Addr} {pins:List (Addr×Obj)} {o:Obj} {pos:Pos} {f:Nat→Piece→Bool} {σ:St} {es:Array DictEntry} {ep:Nat} {q:Str} {prog:Program} {xu:List Value} {t:Adr}
theorem jg2 {kvs:List (List Key×V)} (I:Inv X pins σ H s) (h:H d=some (.frz o (.dT kvs))) :
  (d == sysModules)=false∧s.heap.get? d=some o∧o.ExactDict∧∃ (es:Array DictEntry) (ep:Nat),o.data=.dict es ep∧es.size=kvs.length ∧
   ∀ (i:Nat) (k:List Key) (v:V),kvs[i]?=some (k,v)→∃ (en:DictEntry) (q:Addr),es[i]?=some en∧en.key=.ref q∧H q=some (.tup (k.map kV))∧RelV v en.val:=by
 obtain ⟨hd,z,hs,xs,pr,o',es,ep,ho,hx,hdt,he,_⟩:=I.hok d _ h;have ee:o'=o:=by rw [hd] at ho;exact (Cs ho).symm
 subst ee;refine ⟨hs,hd,hx,es,ep,hdt,?_,fun i k v e=>?_⟩
 ·rw [show es.size=xs.length from size_of_entries he];exact (Cr pr).symm
 ·obtain ⟨b,hb,e1,e2,e3⟩:=jok pr e;have q:=entry_at he i;rw [hb] at q;exact ⟨_,b.2.1,q,rfl,e2,e3⟩
noncomputable def jsd (d:Addr) (o:Obj) (kvs:List (List Key×V)):It :=
 ⟨fun i H=>H d=some (.frz o (.dT kvs))∧i < kvs.length,fun i H x H'=>∃ T k v q,kvs[i]?=some (k,v)∧x=.ref T∧H T=none∧H q=some (.tup (k.map kV))∧H'=upd H T (.tup [.ref q,v]),fun i H=>H d=some (.frz o (.dT kvs))∧kvs.length≤i⟩
theorem jr7 {P:Program} {K:Frag} {kvs:List (List Key×V)} {elts:List Expr} {kk:Nat} {tpos:Pos} (it:Addr) (hod:o.data=.dict es ep) :
  jd8 P w K (.Tuple elts kk tpos) (jsd d o kvs) [it] it (fun i h=>∃ ok ov,IsItemIter h it d i kvs.length ep ok ov) where
 mem:=Cm.mpr rfl
 obj:=fun i h st b hb=>by
  obtain rfl:=Cm.mp hb;obtain ⟨ok,ov,e⟩:=st;exact ⟨_,e,fun v z=>nomatch z⟩
 keep:=fun i h h' st k=>let ⟨ok,ov,e⟩:=st;⟨ok,ov,k it (Cm.mpr rfl) _ e⟩
 item:=by
  intro X hP hw hK hc i pins s σ H E I hf st hg;subst hP hw hK;obtain ⟨hd,hi⟩:=hg;obtain ⟨hs,hgd,hx,es',ep',hdt,hsz,ent⟩:=jg2 I hd;obtain ⟨rfl,rfl⟩:=jm6 hod hdt;obtain ⟨⟨k,v⟩,hkv⟩:∃ p,kvs[i]?=some p:=⟨kvs[i],Cz hi⟩;obtain ⟨en,q,hen,hkey,hq,rv⟩:=ent i k v hkv;obtain ⟨ok,ov,he⟩:=st;have hlt:it < s.heap.objs.size:=Cu he;refine jrs he hgd hdt hsz hen fun h' ho hT hz hk=>?_;refine ⟨_,rfl,wpAny_letOwnedTupleGo_items (s:={ s with heap:=h' }) ho fun h'' he' sb=>?_⟩;have hT2:=(sb.2 _ (Fs hlt)).trans hT
  have new:vb X.prog X.w (upd H s.heap.objs.size (.tup [.ref q,v])) h'' s.heap.objs.size (.tup [.ref q,v]) :=
   ⟨by show 2≤sizeLine;decide,[en.key,en.val],.cons hkey (.cons rv .nil),⟨_,hT2,rfl,_,rfl⟩⟩
  have I1:=I.turnedNew (t':=s.toks) (ch:=[it]) (fun b ob hb e=>(sb.2 b (fun z=>hb (Cm.mpr z))).trans (hk b ob (fun z=>hb (Cm.mpr z)) e)) hf (Cl _) new;refine ⟨.ref s.heap.objs.size,_,I1,rfl,⟨_,k,v,q,hkv,rfl,I.hok.fresh (Cl _),hq,rfl⟩,⟨en.key,en.val,he'⟩,fun b hb=>?_⟩;obtain rfl:=Cm.mp hb;rw [ji (Di hlt)];exact (hf b hb).1
 done:=by
  intro X hP hw hK hc i pins s σ H E I hf st hg;subst hP hw hK;obtain ⟨hd,hi⟩:=hg;obtain ⟨f0,f1,f2,f3,f4,f5⟩:=hf it (Cm.mpr rfl);obtain ⟨hs,hgd,hx,es',ep',hdt,hsz,ent⟩:=jg2 I hd;obtain ⟨rfl,rfl⟩:=jm6 hod hdt;obtain ⟨ok,ov,he⟩:=st;exact jst (I.ok.hd hc) he hgd hdt hsz hi fun h' eb=>⟨rfl,I.turned (t':=s.toks) (fun b ob hb e=>eb b ob hb e) f0 f1 f3 f4 f5⟩
 self:=fun A i s Q E st h=>let ⟨_,_,e⟩:=st;PySem.W.kcp_self e h
noncomputable def jrB (td:TE):TI:=fun σ H R=>td σ H fun x H1=>∃ d o kvs,x=.ref d∧H1 d=some (.frz o (.dT kvs))∧R (jsd d o kvs) H1
theorem jpF {e:Expr} {td:TE} {apos cpos:Pos} {elts:List Expr} {kk:Nat} {tpos:Pos} (he:PE X e td) (hbase:attributeBase e "items" X.env (eval e X.env)=eval e X.env:=by rfl) (hline:(apos.endLine == cpos.line)=true:=by rfl) :
  PI X (.Tuple elts kk tpos) (.Call (.Attribute e "items" apos) [] [] cpos) (jrB td):=by
 intro pins s σ H R I h;refine wpAny_Call_method (T:="dict") (id:="dict.items") hbase rfl hline F.plainAttrs_dict F.slot_dict_items F.type_dict_items (thn (he pins s σ H _ I h) fun u s1 zqq=>?_);obtain ⟨x,H1,I1,rx,d,o,kvs,ex,hd,q⟩:=zqq;subst ex;obtain rfl:u=Value.ref d:=rx;obtain ⟨hs,hgd,hx,es,ep,hdt,hsz,ent⟩:=jg2 I1 hd;have hT:s1.TypeIs (.ref d) "dict":=⟨o,hgd,hx.1⟩;refine ⟨hT,fun a e=>by cases e;exact ⟨o,hgd,hx.2.1⟩,?_⟩;have I2:Inv X pins σ H1 { s1 with heap:=s1.heap.push { cls:=.type "dict_items",data:=.fields #[.ref d] } }:=I1.kept (t':=s1.toks) fun b ob q=>Ch _ q
 have fin:wpAny (model X.prog X.w) X.A (pyIter (.ref s1.heap.objs.size)) (PIE X pins σ (.Tuple elts kk tpos) R) X.xe { s1 with heap:=s1.heap.push { cls:=.type "dict_items",data:=.fields #[.ref d] } }:=by
  refine jrr (d:=d) ⟨_,Cv _ rfl,rfl,rfl⟩ (Ch _ hgd) hdt (jh9 (tk:=s1.toks) I2 _ (jr7 _ hdt) ⟨.none,.none,?_⟩ q);rw [hsz];exact Cv _ rfl
 show wpAny _ _ (callWith cpos (.builtin "dict.items") [.ref d] [] []) _ X.xe s1;exact method_meetsIn F.slot_dict_items F.entry_dict_items rfl (PySem.evalArgs_none ⟨rfl,hT,F.args_dict_items_1 _,_,jqm d hs,hT,fin⟩)
theorem jiu (l:List Join) (j:Join):vF (l++[j])=vF l++if j.cost=0 then [] else [j]:=by
 unfold vF;rw [Jn,D0,List.filter_nil];congr 1;by_cases h:j.cost=0
 ·rw [Ce h,h];rfl
 ·rw [Cc h,Ce (by simpa using h)]
noncomputable def jgX (js:List Join):Prop:=zF js∧js.length≤70000∧∀ j∈js,j.right≤255∧j.left≤255∧j.cost≤65535
set_option tactic.hygienic true in
theorem jdk:∀ (ls:List (List Nat)) (i:Nat) (js js':List Join),(∀ j∈js,j.right≤255∧j.left≤255∧j.cost≤65535)→vZ i ls js=.ok js'→(∀ j∈js',j.right≤255∧j.left≤255∧j.cost≤65535)∧js'.length=js.length+ls.length
 | [],_,js,js',h,e=>by
  cases e;exact ⟨h,rfl⟩
 | l :: ls,i,js,js',h,e=>by
  unfold vZ at e;split at e
  ·rename_i x y c hl;split at e
   ·cases e
   ·rename_i h1;split at e
    ·cases e
    ·obtain ⟨a1,a2⟩:=jdk ls (i+1) _ js' (fun j hj=>by
      rcases Ds.mp hj with q|q
      ·exact h j q
      ·rw [Cm.mp q];exact ⟨by show x≤255;omega,by show y≤255;omega,by show c≤65535;omega⟩) e
     refine ⟨a1,?_⟩;rw [a2];simp only [Ci,Cd,Ct];omega
  ·cases e
theorem jq2 (h:jgX js):jgX (vF js):=⟨h.1.filter _,Da (F3 ..) h.2.1,fun j hj=>h.2.2 j (Dx.mp hj).1⟩
section
variable {P:Program} {w:World} {K:Frag} {mg:Str→Option Value} {base:Heap} {t:Adr}
noncomputable def jhA:Sp:=fun vs H Q _=>∃ (d:Addr) (js:List Join),vs=[.ref d]∧H d=some (.dT (js.map jkv))∧jgX js∧∀ H' e,jn H H'→H' e=some (.dT ((vF js).map jkv))→Q (.ref e) H'
theorem joK (h:zF js) {i:Nat} {j:Join} (hj:js[i]?=some j):((vF (js.take i)).any fun q=>q.right == j.right && q.left == j.left)=false:=by
 rw [List.any_eq_false];intro q hq e;have hq2:q∈js.take i:=(Dx.mp hq).1;obtain ⟨k,hk,e2⟩:=List.mem_iff_getElem.mp hq2;rw [Dq] at hk;rw [List.getElem_take] at e2;obtain ⟨hi,e3⟩:=Cj.mp hj;have:=G2.mp h k i (by omega) hi (by omega);rw [e2,e3] at this;unfold jii at this;rw [this] at e;cases e
theorem jhh (T:Txt K mg t):Cal P w K mg base CX0 1 "without_zeros" ["costs"] jhA:=by
 refine T.xaz.ok jcw (fun vs H Q E h=>?_) (fun f cdv A outer s H vs Q E hr h=>?_)
 ·obtain ⟨a,l,rfl,_⟩:=h
  rfl
 ·obtain ⟨d,js,rfl,hd,ok,k⟩:=h;have nd:=jcw.nd;have hu:=jeg hr;refine ⟨_,(jd (jE 1 nd jhk)
   (jd (jrR (vg Df rfl (jpF (pv 0)) (jfo rfl (zC (jM (i:=2) nd rfl (Ff rfl)) (zC (jM (i:=3) nd rfl (Ff rfl)) jdG))) (jg (jz (jw zE (pv 3) jj) (jg (ji3 hu (pv 1) (pv 2) (pv 3) rfl)) jt))))
   (jg (jk (pv 1))))),?_⟩
  intro e he;have ned:d≠e:=jp hd he;have hd1:upd H e (.dT []) d=some (.dT (js.map jkv)):=by rw [ji ned];exact hd
  refine ⟨d,_,hd1,trivial,fun od=>?_⟩;refine ⟨_,rfl,d,od,_,rfl,jc,?_⟩;have nda:(js.map jkv).length=js.length:=Cb ..;refine jk3 js.length (fun i σ H'=>∃ (v2 v3:Option V),σ=[some (.ref d),some (.ref e),v2,v3]∧(∀ b o,H b=some o→b≠d→H' b=some o)∧H' d=some (.frz od (.dT (js.map jkv)))∧H' e=some (.dT ((vF (js.take i)).map jkv)))
   ⟨none,none,rfl,fun b o hb nb=>by rw [ji nb,ji (jp hb he)];exact hb,jc,by rw [ji (Dj ned),jc];rfl⟩
   (fun i σ H' hi ⟨_,_,_,_,q,_⟩=>⟨q,by rw [nda];exact hi⟩) (fun σ H' ⟨_,_,_,_,q,_⟩=>⟨q,by rw [nda];exact Cl _⟩) ?_ ?_
  ·rintro i σ H' x H2 hi ⟨v2,v3,rfl,sm,hdf,hee⟩ ⟨tp,k1,v,q,hkv,rfl,htp,hq,rfl⟩;obtain ⟨j,hj⟩:∃ j,js[i]?=some j:=⟨js[i],Cz hi⟩;rw [Dz,hj] at hkv;have ekv:jkv j=(k1,v):=by simpa using hkv
   unfold jkv at ekv;obtain ⟨rfl,rfl⟩:=Prod.mk.inj ekv;have s3:jn H' (upd H' tp (.tup [.ref q,.int (j.cost:Int)])):=jq htp;refine ⟨tp,_,rfl,SqT.of jc,rfl,_,_,rfl,_,_,rfl,rfl,?_⟩;have sm3:∀ b o,H b=some o→b≠d→upd H' tp (.tup [.ref q,.int (j.cost:Int)]) b=some o:=fun b o hb nb=>s3 _ _ (sm b o hb nb);refine ⟨_,rfl,rfl,_,rfl,jB (fun h1=>?_) (fun h1=>?_)⟩
   ·have h0:¬j.cost=0:=fun z=>by rw [z] at h1;simp at h1
    have l3:(vF (js.take i)).length≤70000:=Da (F3 ..) (Da (List.length_take_le ..) (by have:=ok.2.1;omega));refine ⟨_,rfl,_,rfl,_,rfl,e,_,rfl,jd6.t (k:=[Sum.inl (j.right:Int),Sum.inl (j.left:Int)]) (s3 _ _ hee) (s3 _ _ hq) (j7 (by rw [Cb];omega)),?_⟩;refine ⟨_,_,rfl,fun b o hb nb=>?_,?_,?_⟩
    ·rw [ji (jp hb he)];exact sm3 b o hb nb
    ·rw [ji ned];exact s3 _ _ hdf
    ·rw [jc,jnA (joK ok.1 hj),take_snoc hj,jiu,Cc h0,Dc]
     rfl
   ·have h0:j.cost=0:=by
     have:V.int (j.cost:Int)=V.int 0:=by simpa using h1
     have:=V.int.inj this;omega
    refine ⟨_,_,rfl,sm3,s3 _ _ hdf,?_⟩;rw [take_snoc hj,jiu,Ce h0,D5];exact s3 _ _ hee
  ·rintro σ H' ⟨v2,v3,rfl,sm,hdf,hee⟩;refine ⟨hdf,_,rfl,k _ e (fun b o hb=>?_) (by rw [ji (Dj ned),hee,Dg])⟩;by_cases nb:b=d
   ·subst nb;rw [jc,←hb,hd]
   ·rw [ji nb];exact sm b o hb nb
end
theorem jtm {A:Around} (hd:o.data=.dict es ep) (hh:A.handled=none) (I d:Addr) (hne:d≠I) :
  Walks prog w A I [I,d] [I] es.size (fun i v=>∃ en,es[i]?=some en∧v=en.key) (fun i h=>h.IsKeyIter I d i es.size ep∧h.get? d=some o) where
 sub:=fun b hb=>by rw [Cm.mp hb];exact Cf ..
 frame:=fun _ _ _ st hk=>⟨st.1.at fun o e=>hk I (Cf ..) o e,hk d (Cg _ (Cf ..)) o st.2⟩
 item:=fun i s Q E hi st hQ=>by
  refine jj7 st.1 st.2 hd rfl (Fl hi) fun h' hit' hs'=>?_;exact hQ _ h' s.toks ⟨_,Fl hi,rfl⟩ ⟨hit',(hs'.2 d hne).trans st.2⟩ fun b o hb e=>(hs'.2 b fun h=>hb (by rw [h];exact Cm.mpr rfl)).trans e
 done:=fun s Q E st hQ=>jlg hh st.1 st.2 hd rfl (Cl _) fun h' he'=>hQ h' s.toks fun b o hb e=>he' b o (fun h=>hb (by rw [h];exact Cm.mpr rfl)) e
 self:=fun _ _ _ _ st hQ=>by
  refine wpAny_pyIter_slot st.1.typeIs F.slot_dict_keyiterator_iter (Fx F.slot_dict_keyiterator_iter st.1.typeIs F.entry_dict_keyiterator_iter ?_ (F.args_dict_keyiterator_iter_1 _));show wpAny _ _ (ret (.ref I)) _ _ _;exact Ck ⟨_,rfl,"dict_keyiterator",_,st.1.typeIs,F.slot_dict_keyiterator_next.lookup,hQ⟩
theorem jr1 (lo:(d == sysModules)=false) (hx:o.ExactDict) (hd:o.data=.dict es ep) :
  PySem.W.KdlSrc prog w "dict" d d es.size (fun i v=>∃ en,es[i]?=some en∧v=en.key) (fun h=>h.get? d=some o) where
 type:=fun _ e=>⟨o,e,hx.1⟩
 there:=fun _ e=>⟨Cu e,Cu e⟩
 keep:=fun _ _ e hk=>hk d (.inl rfl) o e
 notList:=by decide
 notTuple:=by decide
 hint:=fun _ _ _ _ e hq=>PySem.W.kdl_hint_dict ⟨o,e,hx.1⟩ hq
 iter:=fun _ s hh e=>⟨_,_,(fun _ _ hq=>jpf lo e hx hd hq),jtm hd hh _ d (Di (Cu e)),⟨⟨_,Cv _ rfl,rfl,rfl⟩,Ch _ e⟩⟩
section
variable {X:Cx} {pins:List (Addr×Obj)} {σ:St}
theorem jq1 {D:Addr} {xs:List V} {e0:Nat} {P:PySem.Fin→Shared→Prop} {E:Value→Shared→Prop} (good:List (V×V)→Prop) (I:Inv X pins σ H s) (hD:s.heap.get? D=some (seqObj "list" xu.toArray e0)) (fD:zN X pins H D)
  (rx:jx xs xu) (hz:xs.length≤sizeLine) (hs:∀ s',Inv X pins σ H s'→jbX X s' xu xu fun qs=>∀ ps,Paired jaf ps qs→ps.Perm (xs.zip xs)→good ps)
  (h:∀ s' ps,Inv X pins σ (upd H D (.lst (ps.map (·.2)))) s'→ps.Perm (xs.zip xs)→good ps→P (.done (.ret .none)) s') :
  wpAny (model X.prog X.w) X.A.in1.in1 (Builtin.«list.sort» ⟨[.ref D],[]⟩) P E s:=by
 have lx:=rx.length;have hlt:D < s.heap.objs.size:=Cu hD;rw [list_sort_plain];have u1:=Fg s.heap D (Obj.mapSeq fun _=>(#[]:Array Value));have g1:=Js hD fun _=>(#[]:Array Value);refine Ca (listItems_at hD rfl ?_);refine Ca (Ju hD rfl ?_ (by rw [Cy];omega) (C4 _));refine Ca (seqEpoch_at g1 rfl ?_);refine Ca (wpAny_newTuple ?_ (by show xu.length≤_;omega));refine Ca (wpAny_newList ?_ (C4 _));refine F4 ?_
 show wpAny (model X.prog X.w) X.A.in1.in1 _ P E { s with heap:=((s.heap.update D (Obj.mapSeq fun _=>(#[]:Array Value))).push (seqObj "tuple" xu.toArray 0)).push (seqObj "list" #[] 0) };have g3:(((s.heap.update D (Obj.mapSeq fun _=>(#[]:Array Value))).push (seqObj "tuple" xu.toArray 0)).push (seqObj "list" #[] 0)).get? D=some (seqObj "list" #[] _):=Ch _ (Ch _ g1)
 have k3:∀ b o,b≠D→s.heap.get? b=some o→(((s.heap.update D (Obj.mapSeq fun _=>(#[]:Array Value))).push (seqObj "tuple" xu.toArray 0)).push (seqObj "list" #[] 0)).get? b=some o:=fun b o hb q=>Ch _ (Ch _ ((u1.2 b hb).trans q));generalize eh:((s.heap.update D (Obj.mapSeq fun _=>(#[]:Array Value))).push (seqObj "tuple" xu.toArray 0)).push (seqObj "list" #[] 0)=h3 at g3 k3 ⊢;have J:Inv X pins σ H { s with heap:=h3 }:=I.turned (t':=s.toks) (it:=D) k3 fD.1 fD.2.1 fD.2.2.2.1 fD.2.2.2.2.1 fD.2.2.2.2.2;dsimp only
 have fin:∀ st:SortSt,(arrOf st).toList.Perm (xu.zip xu)→(∀ ps,Paired jaf ps (arrOf st).toList→ps.Perm (xs.zip xs)→good ps)→P (.done (.ret .none)) { s with heap:=h3.update D (Obj.mapSeq fun _=>(arrOf st).map (·.2)) }:=by
  intro st hp hg;obtain ⟨ps,pp,pr⟩:=jfm hp (jhj rx rx);have u2:=Fg h3 D (Obj.mapSeq fun _=>(arrOf st).map (·.2));have d2:=Js g3 fun _=>(arrOf st).map (·.2);refine h _ ps ?_ pp (hg ps pr pp);have ea:(arrOf st).map (·.2)=((arrOf st).toList.map (·.2)).toArray:=by rw [←Array.toList_map]
  refine jlX (s:={ s with heap:=h3 }) (t':=s.toks) (ch:=[D]) J (Cm.mpr rfl) (fun b o hb q=>?_) (fun b hb=>?_) (jhi pr) (by rw [Cb,pp.length_eq,Lo];omega) (by rw [←ea];exact d2) (fun b hb=>?_)
  ·exact (u2.2 b fun z=>hb (Cm.mpr z)).trans q
  ·rw [Cm.mp hb];exact fD
  ·rw [Cm.mp hb];exact ⟨_,d2⟩
 have hsz:xu.toArray.size=xu.length:=Cy ..;by_cases h2:xu.toArray.size < 2
 ·rw [Ce h2,Ce h2];refine Ca (Ck ?_);rw [StateT.run_pure];refine Ca (Ck ?_);dsimp only;refine Ca (seqEpoch_at g3 rfl ?_);refine Ca (Ju g3 rfl ?_ (C4 _) (by show ((xu.toArray.zip xu.toArray).map (·.2)).size≤_;rw [Array.size_map,Array.size_zip,hsz];omega));simp only [bne_self_eq_false,Fu,Gs];refine Ck (fin (SortSt.mk' general' (xu.toArray.zip xu.toArray) #[] 7 none) ?_ ?_)
  ·show (xu.toArray.zip xu.toArray).toList.Perm _;rw [z0]
  ·show ∀ ps,Paired jaf ps (xu.toArray.zip xu.toArray).toList→_;rw [z0];exact (hs _ J).1 (by omega)
 ·rw [Cc h2,Cc h2];obtain ⟨kd,hkd,hrun⟩:=(hs _ J).2 (by omega);refine Ca (hkd _ _ ?_);refine Ca (Fd (hrun E) ?_ fun _ _ z=>z);rintro ⟨⟨⟩,st'⟩ s' ⟨rfl,hp,hf,hg⟩;have hp':=Fc.mp hp;rw [z0] at hp';have len:=hp'.length_eq;rw [Lo,Gr] at len;dsimp only;refine Ca (seqEpoch_at g3 rfl ?_);refine Ca (Ju g3 rfl ?_ (C4 _) (by show ((arrOf st').map (·.2)).size≤_;rw [Array.size_map,len];omega));rw [hf];simp only [bne_self_eq_false,Fu,Gs]
  exact Ck (fin st' hp' hg)
noncomputable def jk2 (j:Join):Int×Int:=((j.right:Int),(j.left:Int))
theorem jsE (a b:Join):ltP (jk2 a) (jk2 b)=a.before b:=by
 rw [C8,jf3,jhP];simp only [jk2];omega
noncomputable def js0:List V→Hp→VK→Prop:=fun vs H Q=>∃ (d:Addr) (js:List Join),vs=[V.ref d]∧H d=some (.dT (js.map jkv))∧zF js∧∀ (D:Addr) (as:List Addr),H D=none→Paired (fun a j=>KP2 H a (jk2 j)) as (j5 js)→Q (.ref D) (upd H D (.lst (as.map V.ref)))
theorem jjD {P:Program}:∀ {js:List Join} {xs:List (List Key×Addr×Value)},Paired (fun (p:List Key×V) (q:List Key×Addr×Value)=>p.1=q.1∧H q.2.1=some (.tup (p.1.map kV))∧RelV p.2 q.2.2) (js.map jkv) xs →
  Paired (fun a j=>KP2 H a (jk2 j)) (xs.map fun q=>q.2.1) js∧(xs.map (entryOfKey (tupleKind (vO P w)))).map (fun en=>en.key)=(xs.map fun q=>q.2.1).map Value.ref
 | [],_,.nil=>⟨.nil,rfl⟩
 | j :: js,_,.cons r t=>by
  obtain ⟨h1,h2⟩:=jjD t;refine ⟨.cons r.2.1 h1,?_⟩;rw [C6,C6,h2]
  rfl
theorem jqh (hc:X.calm=true):jcE X (.builtin "sorted") js0:=by
 intro pins s σ H vs us Q I r h;obtain ⟨d,js,rfl,hd,hap,q⟩:=h;rw [jx.ref1 r];obtain ⟨hz,hs,xs,pr,o,es,ep,ho,hx,hdt,he,_⟩:=I.hok d _ hd;obtain ⟨pk,ek⟩:=jjD pr;generalize eas:(xs.map fun q=>q.2.1)=as at pk ek;have alen:=Cr pk;have elen:es.size=js.length:=by
  have:=size_of_entries he;rw [this,←alen,←eas,Cb]
 rw [Cb] at hz;refine Calls.call_function_entry kind_sorted plain_sorted entry_sorted (args_sorted1 _) ?_;unfold Builtin.«sorted»;refine Ca (m:=checkCount "sorted" 1 1 _) (Ck ?_);refine Ca (PySem.W.kdu_collect (jr1 hs hx hdt) (I.ok.hd hc) ho (by omega) fun h' tk acc hk hacc=>?_);have eacc:acc.toList=as.map Value.ref:=by
  rw [←ek,←he];refine List.ext_getElem? fun i=>?_;rw [Dz,Array.getElem?_toList,Array.getElem?_toList];by_cases hi:i < es.size
  ·have hi':i < acc.size:=by rw [hacc.1];exact hi
   obtain ⟨en,e1,e2⟩:=hacc.2 i acc[i] (Fl (by rw [hacc.1];exact hi));rw [Fl (by rw [hacc.1];exact hi),e1,e2]
   rfl
  ·rw [Gv (by rw [hacc.1];omega),Gv (by omega)]
   rfl
 rw [eacc];refine Ca (wpAny_newList ?_ (by rw [Cb];omega));have J:Inv X pins σ H { s with heap:=h'.push (seqObj "list" (as.map Value.ref).toArray 0),toks:=tk }:=I.kept (t':=tk) fun b o z=>Ch _ (hk b o z);have J0:Inv X pins σ H { s with heap:=h',toks:=tk }:=I.kept (t':=tk) hk;have hfr:H h'.objs.size=none:=J0.hok.fresh (Cl _);have gD:(h'.push (seqObj "list" (as.map Value.ref).toArray 0)).get? h'.objs.size=some (seqObj "list" (as.map Value.ref).toArray 0):=Cv _ rfl;have hvs:jx (as.map V.ref) (as.map Value.ref):=by
  clear q alen eas pk ek eacc J gD
  induction as with
  | nil=>exact .nil
  | cons a as ih=>exact .cons rfl ih
 refine Ca (F4 (Fx slot_list_sort ⟨_,gD,rfl⟩ entry_list_sort (jq1 (fun ps=>ps.Pairwise fun p q=>∀ x y,p.1=V.ref x→q.1=V.ref y→∀ dx dy,KP2 H x dx→KP2 H y dy→ltP dy dx=false) J gD (J0.fpOk (Cl _) hfr) hvs (by rw [Cb];omega) ?srt fun s' ps J' pp gg=>⟨_,rfl,?ret⟩) (args_list_sort _)))
 case srt =>
  intro s' J';obtain ⟨c1,c2⟩:=jgU J' (ku:=as.map Value.ref) (xu:=as.map Value.ref) rfl (fun v hv=>by
   obtain ⟨z,hz1,rfl⟩:=Dh.mp hv;obtain ⟨c,_,hc⟩:=Paired.memP pk hz1;exact ⟨z,_,rfl,hc⟩)
  have back:∀ qs':List (Value×Value),(qs'.Pairwise fun p q=>∀ x y dx dy,p.1=Value.ref x→q.1=Value.ref y→KP2 H x dx→KP2 H y dy→ltP dy dx=false)→∀ ps,Paired jaf ps qs'→ps.Perm ((as.map V.ref).zip (as.map V.ref))→ps.Pairwise fun p q=>∀ x y,p.1=V.ref x→q.1=V.ref y→∀ dx dy,KP2 H x dx→KP2 H y dy→ltP dy dx=false:=fun qs' h ps hr _ =>
   ji4 hr (h.imp fun z x y ex ey dx dy=>z x y dx dy ex ey)
  refine ⟨fun h2=>back _ (c1 h2),fun h2=>?_⟩;obtain ⟨kd,e1,e2⟩:=c2 h2;exact ⟨kd,e1,fun E=>wpS_mono (e2 E) fun _ st h=>⟨h.1,h.2.1,back _ h.2.2⟩⟩
 case ret =>
  obtain ⟨as',js',e1,e2,e3,e4⟩:=sorted_out (IT:=fun a j=>KP2 H a (jk2 j)) jk2 ltP pk pk pp gg;have asc:Asc Join.before js':=e4.imp fun {x y} h=>by rw [←jsE];exact h
  rw [jfM hap e3 asc] at e2;rw [e1] at J';exact Ck ⟨_,rfl,.ref _,_,J',rfl,q _ as' hfr e2⟩
end
theorem jss (hd:(d == sysModules)=false) (hdat:o.data=.dict es ep) :
  MeetsIn prog w (Builtin.«dict.__len__» ⟨[.ref d],[]⟩) (fun _ R s=>s.heap.get? d=some o∧R (.ok (.ret (.int es.size s.toks))) { s with toks:=s.toks+1 }) :=
 .of_wp fun A R s ⟨ho,h⟩=>by
  show wpAny _ _ (dictSize d >>= _) _ _ s;unfold dictSize;refine Ca (Ca (Gn ho hdat (Ck ?_)));show wpAny _ _ (Builtin.Dict.pendingCount d >>= _) _ _ s;exact Ca (wpAny_pendingCount_other hd (wpAny_ret_mkInt (by rw [Nat.add_zero];exact h)))
theorem joR:jcE X (.builtin "len") (fun xs H Q=>∃ a kvs,xs=[V.ref a]∧H a=some (.dT kvs)∧Q (.int kvs.length) H):=by
 intro pins s σ H vs us Q I r h;obtain ⟨d,kvs,rfl,hd,q⟩:=h;rw [jx.ref1 r];obtain ⟨hz,hs,xs,pr,o,es,ep,ho,hx,hdt,he,_⟩:=I.hok d _ hd;have esz:es.size=kvs.length:=(size_of_entries he).trans (Cr pr).symm;have hfit:(es.size:Int) < 2 ^ 63:=by rw [esz];rw [Gb] at hz;omega
 have hT:s.TypeIs (.ref d) "dict":=⟨o,ho,hx.1⟩;refine Calls.call_function_entry kind_len plain_len entry_len (args_len1 _) ?_;unfold Builtin.«len»;refine Ca (m:=oneArg "len" _) (Ck ?_);refine Ca (m:=callSpecial? (.ref d) (Str.ofString "__len__")) (Ft (name:=Str.ofString "__len__") hT F.slot_dict_len (call_meetsIn F.slot_dict_len hT F.entry_dict_len (F.args_dict_len_1 _) (jss hs hdt) ⟨ho,?_⟩));show wpAny _ _ _ _ _ { s with toks:=s.toks+1 };refine Ca (F4 (Ck ?_));refine Ca (wpAny_letGo ?_)
 show wpAny _ _ (if ((es.size:Nat):Int) < 0 then _ else _) _ _ _;rw [Cc (Int.not_lt.mpr (Int.natCast_nonneg _))];show wpAny _ _ (if ((es.size:Nat):Int) ≥ 2 ^ 63 then _ else _) _ _ _;rw [Cc (Int.not_le.mpr hfit)];refine Ca (wpAny_mkInt (Ck ⟨_,rfl,.int (kvs.length:Nat),H,I.kept (t':=s.toks+1+1) (fun _ _ z=>z),⟨_,by rw [esz]⟩,q⟩))
section
variable {P:Program} {w:World} {K:Frag} {mg:Str→Option Value} {base:Heap} {t:Adr}
set_option tactic.hygienic true in
theorem jlc {ls:List (List Nat)} {a:Nat} (h:va ls=.ok (a,js)) (hl:ls.length≤70000):jgX js∧a≤65535:=by
 unfold va at h;split at h
 ·cases h
 ·rename_i l ls;split at h
  ·split at h
   ·cases h
   ·rename_i hx;cases e:vZ 1 ls [] with
    | error x=>rw [e] at h;cases h
    | ok js' =>
     rw [e] at h;cases h;obtain ⟨h1,h2⟩:=jdk ls 1 [] js (fun j hj=>nomatch hj) e;refine ⟨⟨jdj ls 1 [] js .nil e,?_,h1⟩,by omega⟩;rw [h2];simp only [Ct,Cd] at hl ⊢;omega
  ·cases h
noncomputable def jkt (CJ CF:Addr):Sp:=fun vs H Q E=>∃ (a:Addr) (l:List Nat),vs=[.ref a]∧LN H a l∧l.length≤69999∧(∀ i j,va (jS l)=.error (i,j)→∀ dx H',jn H H'→H' dx=some (.xd (xf (i:Int) (j:Int)))→E (.ref CF) (some dx) H') ∧
 (∀ z js,va (jS l)=.ok (z,js)→∀ H' p,jn H H'→vT CJ H' p z (vF js)→Q (.ref p) H')
theorem jkb (T:Txt K mg t) (U:jc7 K t):Cal P w K mg base (CXF P w t.c_Fault) 5 "read_joins" ["text"] (jkt t.c_Joins t.c_Fault):=by
 refine T.xb0.okX jeU (fun vs H Q E h=>?_) (fun f cdv A outer s H vs Q E hr h=>?_)
 ·obtain ⟨a,l,rfl,_⟩:=h
  rfl
 ·obtain ⟨a,l,rfl,hl,hz,kE,kQ⟩:=h;have nd:=jeU.nd;have KN:(jm jcr).kind≠.module:=by decide
  refine ⟨_,(jd (jE 1 nd (cal (jgy T) hr.m rfl (jb (pv 0) jh)))
   (jd (jE 2 nd (jkK (jgh T U) hr.m rfl (jrg KN) (jb (pv 1) jh)))
   (jg (jk (mak (jeI T) T.xa0 hr.m rfl (jb (pv 2) (jb (cal (jhh T) hr.m rfl (jb (jkK (jka T U) hr.m rfl (jrg KN) (jb (pv 1) jh)) jh)) jh))))))),?_⟩
  refine ⟨_,rfl,a,l,rfl,hl,by omega,fun H1 p s1 hp0 hps=>?_⟩;have hll:(jS l).length≤l.length+1:=by
   have:=(jhW l ([],[])).1;simp only [Ct,Fy] at this;unfold jS jcI;split
   ·omega
   ·rw [Ci];simp only [Cd,Ct];omega
  have hrow:∀ r∈jS l,r≠[]∧r.length≤70000:=fun r hr=>⟨(jek hr).1,by have:=(jek hr).2;omega⟩;refine ⟨_,rfl,p,jS l,rfl,hps,hrow,fun j hj dx H2 s2 hd2=>?_,fun l0 r0 x e0 hn hx H2 s2=>?_⟩
  ·refine kE 0 j ?_ dx H2 (s1.trans s2) hd2;unfold va;rcases hj with ⟨e0,rfl⟩|⟨l0,r0,e0,hn,rfl⟩|⟨l0,r0,x,e0,hn,hx,rfl⟩
   ·rw [e0]
   ·rw [e0];simp only;rw [hn]
   ·rw [e0];simp only;rw [hn];simp only;rw [Ce hx]
  ·have ed:(jS l).drop 1=r0:=by rw [e0];rfl
   have hne:jS l≠[]:=by rw [e0];exact fun z=>nomatch z
   refine ⟨_,rfl,_,rfl,p,jS l,rfl,hps.same s2,hne,by omega,hrow,fun i j he dx H3 s3 hd3=>?_,fun js he H3 d s3 hd0 hd3=>?_⟩
   ·refine kE i j ?_ dx H3 ((s1.trans s2).trans s3) hd3;rw [ed] at he;unfold va;rw [e0];simp only;rw [hn];simp only;rw [Cc hx,he];rfl
   ·rw [ed] at he;have ev:va (jS l)=.ok (x,js):=by
     unfold va;rw [e0];simp only;rw [hn];simp only;rw [Cc hx,he];rfl
    have jo:=(jlc ev (by omega)).1;refine ⟨d,js,rfl,hd3,jo,fun H4 e s4 he4=>?_⟩;intro y dy hy hdy ne;refine ⟨y,dy,_,e,rfl,jc,fun H5 h5 k5=>⟨rfl,?_⟩⟩;have s5:jn H4 H5:=jn.made hy hdy k5;exact kQ x js ev H5 y ((((s1.trans s2).trans s3).trans s4).trans s5) ⟨dy,e,h5,s5 _ _ he4⟩
noncomputable def jhy (CJ:Addr):Sp:=fun vs H Q _=>∃ (a:Addr) (z:Nat) (js:List Join),vs=[.ref a]∧vT CJ H a z js∧jgX js∧js.length≤5000∧z≤65535∧∀ H' p,jn H H'→H p=none→LN H' p (zp z (j5 js))→Q (.ref p) H'
theorem jjC:∀ (l:List Nat),(∀ n∈l,n≤100000)→(zU (l.map dig)).length≤7 * l.length
 | [],_=>C4 _
 | [n],h=>by
  have h1:(dig n).length≤6:=TL.jen (n:=n) (by decide) (by have:=h n (Cf ..);omega);show (dig n).length≤7;omega
 | n :: m :: l,h=>by
  have h1:(dig n).length≤6:=TL.jen (n:=n) (by decide) (by have:=h n (Cf ..);omega);have h2:=jjC (m :: l) fun x hx=>h x (Cg _ hx);simp only [C6,zU,Ci,Cd] at h2 ⊢;omega
theorem jg6 {l:List Nat} (h:∀ n∈l,n≤100000):(jbZ l).length≤7 * l.length+1:=by
 have:=jjC l h;unfold jbZ;rw [Ci,List.length_singleton];omega
theorem jjB {j:Join} (h:j.right≤255∧j.left≤255∧j.cost≤65535):(jaq j).length≤22 :=
 jg6 (l:=[j.right,j.left,j.cost]) fun n hn=>by
  simp only [Cp,List.not_mem_nil,or_false] at hn;omega
theorem jfa:∀ {js:List Join},(∀ j∈js,j.right≤255∧j.left≤255∧j.cost≤65535)→(js.flatMap jaq).length≤22 * js.length
 | [],_=>C4 _
 | j :: js,h=>by
  have h1:=jjB (h j (Cf ..));have h2:=jfa (js:=js) fun x hx=>h x (Cg _ hx);rw [Dl,Ci,Cd];omega
theorem jhf (T:Txt K mg t):Cal P w K mg base CX0 2 "text_of_joins" ["joins"] (jhy t.c_Joins):=by
 refine T.xb1.ok jcv (fun vs H Q E h=>?_) (fun f cdv A outer s H vs Q E hr h=>?_)
 ·obtain ⟨a,z,js,rfl,_⟩:=h
  rfl
 ·obtain ⟨a,z,js,rfl,⟨dx,d,ha,hd⟩,ok,h5,hz,k⟩:=h;have nd:=jcv.nd;have hu:=jeg hr;refine ⟨_,(jd (jE 1 nd (cal (jh1 T) hr.m rfl (jb (jN (jb (jH (pv 0) rfl) jh)) jh)))
   (jd (vg Df rfl (vc (jcf (jqh rfl) rfl T.xdr boot_sorted (jb (jH (pv 0) rfl) jh))) (jM (i:=2) nd rfl (Ff rfl)) (jg (vC (zy De PySem.F.slot_list_extend PySem.F.type_list_extend jfh (pv 1) (jb (cal (jh1 T) hr.m rfl (jb (jN (jb (jC ve (pv 2) jj) (jb (jC ve (pv 2) jj) (jb (jnv hu (jH (pv 0) rfl) (pv 2) (fun _ _=>rfl)) jh)))) jh)) jh)))))
   (jg (jk (pv 1))))),?_⟩
  refine ⟨_,rfl,a,_,dx,_,_,rfl,ha,T.xa0.cl,T.xa1,jre ..,by show 1≤sizeLine;decide,fun q hq=>?_⟩;have s0:jn H (upd H q (.lst [.int (z:Int)])):=jq hq;have hz1:∀ n∈[z],n≤100000:=fun n hn=>by rw [Cm.mp hn];omega
  refine ⟨q,[z],rfl,jc,by show 1≤10;decide,hz1,fun H1 p s1 hp0 hp1=>?_⟩;have sH1:jn H H1:=s0.trans s1;have hpH:H p=none:=s0.free hp0;refine ⟨_,rfl,a,_,dx,_,_,rfl,sH1 _ _ ha,T.xa0.cl,T.xa2,jeh ..,d,js,rfl,sH1 _ _ hd,ok.1,fun D as hD hpk=>?_⟩;have nDp:D≠p:=fun e=>by rw [e] at hD;rw [show H1 p=_ from hp1] at hD;cases hD
  have jl:(j5 js).length=js.length:=(zg js).length_eq;have elen:=Cr hpk;have jsm:∀ j∈j5 js,j.right≤255∧j.left≤255∧j.cost≤65535:=fun j hj=>ok.2.2 j ((zg js).mem_iff.mp hj);refine ⟨D,rfl,⟨_,SqL.of jc⟩,vk (K:=K) (a:=D) (xs:=as.map V.ref) (fun i σ H'=>∃ (v:Option V),σ=[some (.ref a),some (.ref p),v]∧(∀ b o,upd H1 D (.lst (as.map V.ref)) b=some o→b≠p→H' b=some o)∧LN H' p (jbZ [z]++((j5 js).take i).flatMap jaq))
   ⟨none,rfl,fun b o hb _=>hb,?_⟩ (fun i σ H' _ ⟨_,_,q,_⟩=>SqL.of (q _ _ jc nDp)) ?_ ?_⟩
  ·show upd H1 D _ p=_;rw [ji (Dj nDp),List.take_zero,Jk,D5];exact hp1
  ·rintro i y σ H' hi ⟨v,rfl,sm,hl⟩;obtain ⟨e,he,rfl⟩:=vh hi;obtain ⟨j,hji,hek⟩:=Paired.getP hpk he;have hjm:=Cw hji;have hil:=(Cj.mp hji).1;obtain ⟨j1,j2,j3⟩:=jsm j hjm;have hjs:j∈js:=(zg js).mem_iff.mp hjm;have up:∀ {b:Addr} {o:HO},H1 b=some o→b≠p→H' b=some o:=fun {b o} hb nb=>sm b o (by rw [ji (jp hb hD)];exact hb) nb;have hek1:H1 e=some (.tup [.int (j.right:Int),.int (j.left:Int)]):=hek;have he':H' e=some (.tup [.int (j.right:Int),.int (j.left:Int)]):=up hek1 (fun z=>by rw [z,show H1 p=_ from hp1] at hek1;cases hek1)
   have ha':H' a=_:=up (sH1 _ _ ha) (jp ha hpH);have hd':H' d=_:=up (sH1 _ _ hd) (jp hd hpH);have hg:v8 (js.map jkv) [Sum.inl (j.right:Int),Sum.inl (j.left:Int)]=some (V.int (j.cost:Int)):=by
    rw [jfP];cases hf:js.find? (zi j.right j.left) with
    | none=>exact absurd (Jo.mp hf j hjs) (by simp [zi])
    | some x =>
     have hx:=List.find?_some hf;have hxm:=G4 hf;simp only [zi,Cn,D8] at hx;rw [ok.1.inj hxm hjs hx.1 hx.2]
     rfl
   have hD':=jam.t (k:=[Sum.inl (j.right:Int),Sum.inl (j.left:Int)]) hd' he';rw [hg] at hD';have hln:∀ n∈[j.right,j.left,j.cost],n≤100000:=fun n hn=>by
    simp only [Cp,List.not_mem_nil,or_false] at hn;omega
   refine ⟨_,rfl,.inl ⟨rfl,_,SqL.of hl⟩,_,rfl,e,_,_,.int (j.right:Int),rfl,rfl,.inl (.inl he'),rfl,_,rfl,e,_,_,.int (j.left:Int),rfl,rfl,.inl (.inl he'),rfl,_,rfl,a,_,dx,_,_,rfl,ha',T.xa0.cl,T.xa2,jeh ..,_,rfl,d,_,rfl,hD',by show 3≤sizeLine;decide,fun q2 hq2=>?_⟩;refine ⟨q2,[j.right,j.left,j.cost],rfl,jc,by show 3≤10;decide,hln,fun H3 p3 s3 hp30 hp3=>?_⟩;have s2:jn H' (upd H' q2 (.lst [.int (j.right:Int),.int (j.left:Int),.int (j.cost:Int)])):=jq hq2;have hl3:LN H3 p _:=(hl.same s2).same s3;have b1:=jg6 hz1;have b2:=jjB (jsm j hjm)
   have b3:(((j5 js).take i).flatMap jaq).length≤22 * 5000:=Da (jfa fun j hj=>jsm j (List.mem_of_mem_take hj)) (Nat.mul_le_mul_left _ (Da (List.length_take_le ..) (by omega)));have b4:(jbZ [j.right,j.left,j.cost]).length≤22:=b2;simp only [Cd,Ct] at b1;refine ⟨p,p3,_,_,rfl,rfl,hl3,hp3,v7 (by rw [jy,jy,Ci];omega),?_⟩;refine ⟨_,rfl,fun b o hb nb=>?_,?_⟩
   ·rw [ji nb];exact s3 _ _ (s2 _ _ (sm b o hb nb))
   ·show upd H3 p _ p=_;rw [jc,jap,take_snoc hji,F0,←Fe];simp only [Dl,Jk,D5]
    rfl
  ·rintro σ H' ⟨v,rfl,sm,hl⟩;rw [Cb,elen,Dg] at hl;refine ⟨_,rfl,k H' p (fun b o hb=>?_) hpH hl⟩;have h1:=sH1 _ _ hb;exact sm b o (by rw [ji (jp h1 hD)];exact h1) (jp hb hpH)
end
noncomputable def tbO (P:Addr) (ps:Array Value):HO:=.ext fun h=>h.get? P=some (PySem.W.tabObj ps)
noncomputable def cdO (c:Addr) (q:Str):HO:=.ext fun h=>h.CodeRec (.ref c) q
theorem jpW {P0:Program} {h:Heap} {ps:Array Value} (e:h.get? P=some (PySem.W.tabObj ps)):vb P0 w H h P (tbO P ps):=⟨e,⟨_,e⟩,fun _ _ a k=>k _ a⟩
theorem jsk {P0:Program} {h:Heap} {c:Addr} (e:h.CodeRec (.ref c) q):vb P0 w H h c (cdO c q):=by
 have e':=e;obtain ⟨c2,oc,vs,t,e1,e2,e3,e4⟩:=e';cases e1;refine ⟨e,⟨_,e2⟩,fun h1 h2 a k=>?_⟩;obtain ⟨c3,oc,vs,t,e1,e2,e3,e4⟩:=a;cases e1;exact ⟨_,oc,vs,t,rfl,k _ e2,e3,e4⟩
noncomputable def HT (P:Addr) (q:Str) (pos:Pos) (H:Hp):Prop:=H P=some (tbO P #[])∨∃ c,H P=some (tbO P #[rawInt pos.line,rawInt pos.col,.ref c])∧H c=some (cdO c q)
noncomputable def Bes (P:Addr) (H H':Hp):Prop:=∀ b o,H b=some o→b≠P→H' b=some o
section
variable {X:Cx} {pins:List (Addr×Obj)} {σ:St} {H:Hp} {s:Shared} {c P:Addr} {params:Arguments} {body:Expr} {lsc:Scope} {pos:Pos} {cl:List (Str×Addr)}
structure jp7 (K:Frag) (mg:Str→Option Value) (base:Heap) (c P:Addr):Prop where
 hd:PySem.W.codeHdIn K c P=true
 bm:∃ bm ob,mg "__builtins__"=some (.ref bm)∧bm≠builtinsNs∧base.get? bm=some ob∧ob.cls=.type "module"∧ob.dict=some builtinsNs∧ob.data=.plain
theorem jsO (L:jp7 X.K X.mg X.base c P) (hcode:X.env.code=.ref c) (hdef:defaultsOf params X.env=([],[])) (hcl:closureFor lsc X.env=pure cl) (I:Inv X pins σ H s) (hT:HT P (X.env.qual++"<lambda>") pos H) {Q:Value→Shared→Prop} {E:Value→Shared→Prop}
  (h:∀ f c' ctv pm H1 s1,Inv X (pins++[(f,PySem.W.kla_obj "<lambda>" (X.env.qual++"<lambda>") params body lsc cl pm c' ctv)]) σ H1 s1→HT P (X.env.qual++"<lambda>") pos H1→H1 c'=some (cdO c' (X.env.qual++"<lambda>"))→Bes P H H1→Q (.ref f) s1) :
  wpAny (model X.prog X.w) X.A (eval (.Lambda params body lsc pos) X.env) Q E s:=by
 refine PySem.W.kla_eval hdef ?_;have C0:PySem.W.CodeHd X.base c P:=PySem.W.codeHd_of_K I.mod.kin L.hd;have C1:PySem.W.CodeHd s.heap c P:=C0.keeps I.bk;have hg:s.heap.Ns mainGlobals X.mg:=I.mod.glob.keeps I.bk;have hPo:∃ ps,H P=some (tbO P ps):=by
  rcases hT with e|⟨_,e,_⟩
  ·exact ⟨_,e⟩
  ·exact ⟨_,e⟩
 have hne:∀ b o,X.base.get? b=some o→b≠P:=fun b o e z=>by
  obtain ⟨ps,hP⟩:=hPo;have:=(I.bs b o e).2;rw [z,hP] at this;cases this
 have hgP:mainGlobals≠P:=by
  obtain ⟨o,es,ep,e,_⟩:=I.mod.glob;exact hne _ _ e
 obtain ⟨bm,ob,b1,b2,b3,b4,b5,b6⟩:=L.bm;have hbG:bm≠mainGlobals:=fun q=>by
  obtain ⟨o,es,ep,e,hd,_⟩:=I.mod.glob;rw [q,e] at b3;cases b3;rw [hd] at b6;cases b6
 have hb:s.heap.BuiltinsAt X.mg P:=⟨bm,ob,b1,b2,hbG,hne _ _ b3,I.bk _ _ b3,b4,b5,b6⟩;have npin:∀ {h':Heap} {H1:Hp} {f:Addr} {o:Obj} {tk:Nat},Inv X pins σ H1 { s with heap:=h',toks:=tk }→h'.get? f=some o→s.heap.objs.size≤f→H1 f=none→(∀ v,o.data≠.cell v)→Inv X (pins++[(f,o)]) σ H1 { s with heap:=h',toks:=tk }:=fun {h' H1 f o tk} J e1 e2 e3 e4=>by
  refine J.pins_of fun p hp=>?_;rcases Ds.mp hp with hp|hp
  ·exact J.pin p (D1 _ hp)
  ·rw [Cm.mp hp];exact ⟨e1,e3,Fs (C9 I.lt e2),I.nofs e2,e4⟩
 rcases hT with hP|⟨c',hP,hc'⟩
 ·have hPs:s.heap.get? P=some (PySem.W.tabObj #[]):=(I.hok P _ hP).1;refine PySem.W.kla_makeFunction (clos:=cl) hcl I.ok.glob hg hcode C1 hPs trivial rfl hgP hb fun c' ctv h' tk hx hge hlt hrec htb=>?_;have hcn:H c'=none:=I.hok.fresh hge;have nPc:P≠c':=jp hP hcn;have lt:∀ b o,s.heap.get? b=some o→b≠c':=fun b o e=>Di (C9 (Cu e) hge);have keep:∀ b o,b≠P→s.heap.get? b=some o→(h'.push (PySem.W.kla_obj "<lambda>" (X.env.qual++"<lambda>") params body lsc cl ((X.mg "__name__").getD .none) c' ctv)).get? b=some o:=fun b o q e=>Ch _ (hx b o q e)
  have htb':=Ch (PySem.W.kla_obj "<lambda>" (X.env.qual++"<lambda>") params body lsc cl ((X.mg "__name__").getD .none) c' ctv) htb;have hrec':(h'.push (PySem.W.kla_obj "<lambda>" (X.env.qual++"<lambda>") params body lsc cl ((X.mg "__name__").getD .none) c' ctv)).CodeRec (.ref c') (X.env.qual++"<lambda>"):=by
   obtain ⟨c2,oc,vs,t,e1,e2,e3,e4⟩:=hrec;exact ⟨c2,oc,vs,t,e1,Ch _ e2,e3,e4⟩
  have ok1:=I.hok.write (e:=P) (by rw [hP];trivial) (.inl rfl) keep ⟨_,htb'⟩ (jpW htb');have hc1:upd H P (tbO P (#[]++#[rawInt pos.line,rawInt pos.col,.ref c'])) c'=none:=by rw [ji (Dj nPc)];exact hcn
  have up:∀ b o,H b=some o→b≠P→upd (upd H P (tbO P (#[]++#[rawInt pos.line,rawInt pos.col,.ref c']))) c' (cdO c' (X.env.qual++"<lambda>")) b=some o:=fun b o e q=>by rw [ji (jp e hcn),ji q];exact e
  have J:Inv X pins σ (upd (upd H P (tbO P (#[]++#[rawInt pos.line,rawInt pos.col,.ref c']))) c' (cdO c' (X.env.qual++"<lambda>"))) { s with heap:=h'.push (PySem.W.kla_obj "<lambda>" (X.env.qual++"<lambda>") params body lsc cl ((X.mg "__name__").getD .none) c' ctv),toks:=tk }:=by
   refine I.step (g':=s.gens) (d':=s.drawn) (ch:=[]) (fun _ z=>nomatch z) (fun b o _ _ _ e n=>keep b o (fun z=>by rw [z,hP] at n;cases n) e) (fun b o _ _ _ e n=>⟨o.slots,keep b o (fun z=>by rw [z,hP] at n;cases n) e⟩) (fun b o _ e n=>?_) (fun b o _ e=>?_)
    (fun b xs e=>up b _ e fun z=>by rw [z,hP] at e;cases e) (fun b o u e=>up b _ e fun z=>by rw [z,hP] at e;cases e) (fun b ps e=>by rw [up b _ e fun z=>by rw [z,hP] at e;cases e];exact ⟨#[],by simp⟩) (fun m hm=>?_) (fun b u e=>?_) I.bare
   ·rw [ji (lt b o e),ji (fun z=>by rw [z,hP] at n;cases n)];exact n
   ·by_cases z:b=P
    ·rw [z];exact ⟨_,htb'⟩
    ·exact ⟨o,keep b o z e⟩
   ·obtain ⟨o,es,ep,ho,r⟩:=hm;exact ⟨o,es,ep,keep _ o (fun z=>by have:=I.free;rw [z,hP] at this;cases this) ho,r⟩
   ·by_cases z:b=c'
    ·subst z;rw [jc] at e;cases e;exact jsk hrec'
    ·rw [ji z] at e;exact (ok1 b u e).stay (fun _ _ _ q=>q) (fun b' q=>by rw [ji (jp q hc1)];exact q) fun b' xs q=>by rw [ji (jp q hc1)];exact q
  have hsz:s.heap.objs.size≤h'.objs.size:=F5 (Nat.lt_of_le_of_lt hge hlt);have hfn:upd (upd H P (tbO P (#[]++#[rawInt pos.line,rawInt pos.col,.ref c']))) c' (cdO c' (X.env.qual++"<lambda>")) h'.objs.size=none:=by
   rw [ji (Fs hlt),ji (fun z=>absurd (Cu htb) (by rw [z];exact Gh _))];exact I.hok.fresh hsz
  refine h h'.objs.size c' ctv _ _ _ (npin J (Cv _ rfl) hsz hfn fun v z=>nomatch z) (.inr ⟨c',?_,jc⟩) jc up;rw [ji nPc,jc]
  rfl
 ·have hPs:s.heap.get? P=some (PySem.W.tabObj #[rawInt pos.line,rawInt pos.col,.ref c']):=(I.hok P _ hP).1;refine PySem.W.kla_makeFunctionHit (clos:=cl) (cv:=.ref c') hcl I.ok.glob hg hcode C1 hPs ⟨⟩ (by simp [codeAmong,rawInt]) hb fun ctv h' tk hk hsz=>?_;have J:Inv X pins σ H { s with heap:=h'.push (PySem.W.kla_obj "<lambda>" (X.env.qual++"<lambda>") params body lsc cl ((X.mg "__name__").getD .none) c' ctv),toks:=tk }:=I.kept fun b o e=>Ch _ (hk b o e)
  exact h h'.objs.size c' ctv _ H _ (npin J (Cv _ rfl) hsz (I.hok.fresh hsz) fun v z=>nomatch z) (.inr ⟨c',hP,hc'⟩) hc' fun b o e _=>e
noncomputable def cxL (X:Cx) (N:List Str) (qual:Str) (lsc:Scope) (f:Addr) (cd:Value) (cl:List (Str×Addr)) (A:Around) (s:Shared) (H:Hp):Cx where
 prog:=X.prog
 w:=X.w
 K:=X.K
 mg:=X.mg
 base:=X.base
 A:=A.deeper (PySem.W.envX qual lsc s.heap.objs.size f cd cl)
 N:=N
 s_0:=s
 H_0:=H
 env:=PySem.W.envX qual lsc s.heap.objs.size f cd cl
 outer:=X.stack
 stack:=PySem.W.envX qual lsc s.heap.objs.size f cd cl :: X.stack
 ex:=[]
 calm:=true
 fn:=fun _=>false
 pn:=[]
 xe:=fun _ _=>False
theorem jrE {params:Arguments} {body:Expr} {lsc:Scope} {cl:List (Str×Addr)} {f c':Addr} {pm ctv:Value} {qual x:Str} {A:Around} {u:Value} {v:V} {vs:List (Str×V)} {t:TE} {Q:VK}
  (I:Inv X pins σ H s) (hp:(f,PySem.W.kla_obj "<lambda>" qual params body lsc cl pm c' ctv)∈X.pn++pins) (hc:H c'=some (cdO c' qual)) (hfr:A.frames=some X.stack) (hh:A.handled=none) (hroom:A.depth < recursionLimit) (rv:RelV v u)
  (hb:bindArgs (PySem.W.kla_fn "<lambda>" qual params body lsc cl pm (.ref c') ctv) ⟨[u],[]⟩=pure [(x,u)]) (hx:lsc.names.lookup x=some .local) (hco:lsc.isCoroutine=false) (hgen:lsc.isGenerator=false) (hk:lsc.kind=.function) (hcell:∀ y∈lsc.names,y.2≠.cell)
  (hinj:∀ y z c,cl.lookup y=some c→cl.lookup z=some c→y=z) (hhas:∀ y,lsc.names.lookup y=some .free→∃ c,cl.lookup y=some c) (hsub:∀ y c,cl.lookup y=some c→X.env.cells.lookup y=some c) (hcm:∀ y c,cl.lookup y=some c→lsc.names.lookup y=some .free)
  (hvs:∀ (i:Nat) (y:Str) (z:V),vs[i]?=some (y,z)→∃ j:Nat,X.N[j]?=some y∧σ[j]?=some (some z)∧X.env.scope.names.lookup y=some .cell∧∃ c,cl.lookup y=some c) (hNd:(x :: vs.map (·.1)).Nodup)
  (hbody:PE (cxL X (x :: vs.map (·.1)) qual lsc f (.ref c') cl A s H) body t) (q:t (some v :: vs.map fun p=>some p.2) H Q) :
  wpAny (model X.prog X.w) A (call (.ref f) [u]) (EP X pins σ Q) (fun _ _=>False) s:=by
 obtain ⟨pf,pn0,pL,pfs,_⟩:=I.pin _ hp;have hrec:s.heap.CodeRec (.ref c') qual:=(I.hok c' _ hc).1;have e0:=I.env0;refine wpAny_call (G9 (PySem.W.kla_callFunE (R:=fun r s'=>match r with|.ok (.ret u)=>CE X.stack X.prog X.w H s Q u s'|_=>False) hroom pf rfl hco hgen rfl hrec ?_) fun r s' hq=>?_)
 ·rw [hb];refine Ck (wpAny_newFunctionEnv hcell (fun y hy=>by rw [Cm.mp hy];exact hx) (fun h₁ hns hsb=>⟨I.nolimit.fresh _ hsb,?_⟩) hk);have hk₁:∀ b o,s.heap.get? b=some o→h₁.get? b=some o:=fun b o e=>hsb.extBut b o (Di (Cu e)) (Ch _ e);show codeAny _ _ (.expr body (PySem.W.envX qual lsc s.heap.objs.size f (.ref c') cl)) _ _;have J:Inv (cxL X (x :: vs.map (·.1)) qual lsc f (.ref c') cl A s H) [] (some v :: vs.map fun p=>some p.2) H { s with heap:=h₁,toks:=s.toks+1 }:=by
   have noA:∀ b:Addr,b∉([]:List Addr):=fun b z=>nomatch z;refine ⟨⟨e0.mod,hk,rfl,rfl,Cl _,hinj,fun y hy=>?_,fun y c z _=>absurd z C7,fun _=>hh,Around.frames_deeper hfr,.inr ⟨rfl,rfl⟩,fun b z=>absurd z (noA b),e0.bs,e0.bsz,fun b _ _=>noA b,fun b z=>absurd z (noA b),e0.funs,e0.frf⟩,
    rfl,e0.bare,Un.kept hk₁,⟨_,hns,fun i y z h1 h2 h3=>?_⟩,fun y c h=>?_,e0.hok.fresh (Cl _),fun y c h=>I.freeC y c (hsub y c h),fun p hp=>absurd (show p∈([]:List (Addr×Obj)) from hp) List.not_mem_nil,e0.hok.kept hk₁,?_⟩
   ·have hy':lsc.names.lookup y=some .cell∨lsc.names.lookup y=some .free:=hy;rcases hy' with hy|hy
    ·exact absurd rfl (hcell _ (Do hy))
    ·exact hhas y hy
   ·cases i with
    | zero =>
     have e1:x=y:=by simpa [cxL] using h1
     have e2:v=z:=by simpa using h2
     subst e1 e2;exact ⟨u,rv,.inl ⟨hx,by simp⟩⟩
    | succ i =>
     have h1':(vs.map (·.1))[i]?=some y:=by simpa [cxL] using h1
     have h2':(vs.map fun p=>some p.2)[i]?=some (some z):=by simpa using h2
     rw [Dz] at h1' h2';cases hv:vs[i]? with
     | none=>rw [hv] at h1';cases h1'
     | some p =>
      rw [hv] at h1' h2';have e1:p.1=y:=by simpa using h1'
      have e2:p.2=z:=by simpa using h2'
      obtain ⟨y',z'⟩:=p;subst e1 e2;obtain ⟨j,j1,j2,j3,c,j4⟩:=hvs i _ _ hv;obtain ⟨m,hn,hl⟩:=I.loc;obtain ⟨u',r',lk⟩:=hl j _ _ j1 j2 (.inr (.inl j3));refine ⟨u',r',.inr ⟨.inr (hcm _ _ j4),c,j4,?_⟩⟩;rcases lk with ⟨k1,_⟩|⟨_,c2,k1,k2⟩
      ·have k1':X.env.scope.names.lookup y'=some .local:=k1;rw [j3] at k1';cases k1'
      ·rw [hsub _ _ j4] at k1;cases k1;obtain ⟨o,ho,hd⟩:=k2;exact ⟨o,hk₁ _ _ ho,hd⟩
   ·obtain ⟨w',o,ho,hd⟩:=I.cell y c (hsub y c h);exact ⟨w',o,hk₁ _ _ ho,hd⟩
   ·simp [cxL]
  refine PySem.W.kla_codeExpr (Fd (hbody [] _ _ H _ J q) (fun u2 s2 hq=>?_) fun _ _ z=>z.elim);obtain ⟨v2,H2,J2,r2,q2⟩:=hq;exact ⟨v2,H2,J2.os,J2.bare,J2.base,J2.hok,r2,q2⟩
 ·cases r with
  | error e=>exact hq
  | ok fl =>
   cases fl with
   | ret u2=>exact I.after hq
   | next=>exact False.elim hq
   | brk=>exact False.elim hq
   | cont=>exact False.elim hq
end
theorem Paired.uni {α β:Type} {F:α→β→Prop} (u:∀ a x y,F a x→F a y→x=y):∀ {as:List α} {xs ys:List β},Paired F as xs→Paired F as ys→xs=ys
 | _,_,_,.nil,.nil=>rfl
 | _,_,_,.cons r t,.cons r2 t2=>by rw [u _ _ _ r r2,Paired.uni u t t2]
theorem LOf.uni {β:Type} {F:Hp→Addr→β→Prop} (u:∀ a x y,F H a x→F H a y→x=y):∀ a xs ys,LOf F H a xs→LOf F H a ys→xs=ys:=by
 rintro a xs ys ⟨as,h1,h2⟩ ⟨bs,h3,h4⟩;rw [h1] at h3;have e:as.map V.ref=bs.map V.ref:=HO.lst.inj (Cs h3);have e2:as=bs:=(List.map_inj_right fun _ _ h=>V.ref.inj h).mp e;subst e2;exact Paired.uni u h2 h4
theorem jX.uni:∀ a x y,jX H a x→jX H a y→x=y:=fun a x y h1 h2=>by
 have h1':H a=_:=h1;have h2':H a=_:=h2;rw [h1'] at h2';have:=HO.tup.inj (Cs h2');obtain ⟨x1,x2⟩:=x;obtain ⟨y1,y2⟩:=y;simp at this;rw [this.1,this.2]
theorem LP.uni:∀ a x y,LP H a x→LP H a y→x=y:=LOf.uni jX.uni
theorem jk8:∀ {kz:List Int} {ku:List Value},jx (kz.map V.int) ku→IntsAre ku kz
 | [],_,.nil=>.nil
 | n :: kz,_,.cons r t=>by
  obtain ⟨t',e⟩:=r;rw [e];exact .cons n t' (jk8 t)
theorem jlI:∀ {as:List Addr} {xu:List Value},jx (as.map V.ref) xu→xu=as.map Value.ref
 | [],_,.nil=>rfl
 | a :: as,_,.cons r t=>by
  have r':_=Value.ref a:=r;rw [r',jlI t]
  rfl
noncomputable def bkP (p:V×V):Int×Addr:=(match p.1 with|.int n=>n|_=>0,match p.2 with|.ref a=>a|_=>0)
noncomputable def upP (p:Int×Addr):Int×Value:=(p.1,.ref p.2)
theorem jk9:∀ {ps:List (V×V)} {qs:List (Value×Value)},Paired jaf ps qs→(∀ p∈ps,∃ n a,p=(V.int n,V.ref a))→qs.map kskF=(ps.map bkP).map upP
 | _,_,.nil,_=>rfl
 | _,_,.cons (b:=q) r t,h=>by
  obtain ⟨n,a,rfl⟩:=h _ (Cf ..);rw [C6,C6,C6,jk9 t fun p hp=>h p (Cg _ hp)];obtain ⟨⟨t',e1⟩,e2⟩:=r;obtain ⟨q1,q2⟩:=q;have e2':q2=Value.ref a:=e2;have e1':q1=Value.int n t':=e1;rw [e1',e2']
  rfl
theorem jna (l:List (Int×Addr)) (c:Int):(l.map upP).filter (fun p=>p.1 == c)=(l.filter fun p=>p.1 == c).map upP:=by
 rw [Gc]
 rfl
noncomputable def jnQ (kz:List Int) (as:List Addr) (ps:List (V×V)):Prop:=∃ prs:List (Int×Addr),ps=prs.map (fun p=>(V.int p.1,V.ref p.2))∧prs.Perm (kz.zip as)∧prs.Pairwise (fun p q=>p.1≤q.1)∧∀ c,prs.filter (fun p=>p.1 == c)=(kz.zip as).filter fun p=>p.1 == c
theorem jto (kz:List Int) (as:List Addr):kz.zip (as.map Value.ref)=(kz.zip as).map upP:=by
 rw [List.zip_map_right]
 rfl
theorem jjv {kz:List Int} (rx:jx (as.map V.ref) xu) {qs:List (Value×Value)} (h3:(qs.map kskF).Pairwise fun p q=>p.1≤q.1) (h4:∀ c,(qs.map kskF).filter (fun p=>p.1 == c)=(kz.zip xu).filter fun p=>p.1 == c)
  (ps:List (V×V)) (hr:Paired jaf ps qs) (hp:ps.Perm ((kz.map V.int).zip (as.map V.ref))):jnQ kz as ps:=by
 have ez:(kz.map V.int).zip (as.map V.ref)=(kz.zip as).map fun p=>(V.int p.1,V.ref p.2):=by
  rw [List.zip_map]
  rfl
 rw [ez] at hp;have al:∀ p∈ps,∃ n a,p=(V.int n,V.ref a):=fun p hm=>by
  obtain ⟨q,_,e⟩:=Dh.mp (hp.mem_iff.mp hm);exact ⟨_,_,e.symm⟩
 have e:=jk9 hr al;have inj:∀ x y:Int×Addr,upP x=upP y→x=y:=fun x y h=>by
  obtain ⟨x1,x2⟩:=x;obtain ⟨y1,y2⟩:=y;have h':(x1,Value.ref x2)=(y1,Value.ref y2):=h;simp at h';rw [h'.1,h'.2]
 refine ⟨ps.map bkP,?_,?_,?_,fun c=>?_⟩
 ·rw [D4];have:∀ p∈ps,((fun p:Int×Addr=>(V.int p.1,V.ref p.2)) ∘ bkP) p=id p:=fun p hm=>by
   obtain ⟨n,a,rfl⟩:=al p hm
   rfl
  rw [Fh this,List.map_id]
 ·have:=hp.map bkP;rw [D4] at this;have e2:(kz.zip as).map (bkP ∘ fun p:Int×Addr=>(V.int p.1,V.ref p.2))=(kz.zip as).map id:=Fh fun p _=>rfl;rw [e2,List.map_id] at this;exact this
 ·rw [e,F9] at h3;exact h3
 ·have:=h4 c;rw [e,jna,jlI rx,jto,jna] at this;exact (List.map_inj_right inj).mp this
theorem jor {kz:List Int} {ku:List Value} (rk:jx (kz.map V.int) ku) (rx:jx (as.map V.ref) xu) (hl:kz.length=as.length) :
  jbX X s ku xu fun qs=>∀ ps,Paired jaf ps qs→ps.Perm ((kz.map V.int).zip (as.map V.ref))→jnQ kz as ps:=by
 have hk:IntsAre ku.toArray.toList kz:=by simpa using jk8 rk
 have lk:kz.length=ku.length:=by simpa using rk.length
 have lx:as.length=xu.length:=by simpa using rx.length
 have hz:∀ p,p∈(ku.toArray.zip xu.toArray).toList→∃ n t,p.1=Value.int n t:=fun p hp'=>ksk_intKeys (vs:=xu) hk p hp';have e2:(ku.toArray.zip xu.toArray).toList.map kskF=kz.zip xu:=by
  rw [ksk_zip,←hk.nums,List.zip_map_left];exact Fh fun ⟨x,y⟩ _=>rfl
 refine ⟨fun h2=>jjv rx ?_ fun c=>?_,fun h2=>⟨oneType',fun Q E q=>?_,fun E=>?_⟩⟩
 ·rw [←z0,e2,G2];intro i j hi hj hij;rw [Lo] at hj;omega
 ·rw [←z0,e2]
 ·rw [ksk_kind hk (by rw [Cy];omega)];exact Ck q
 ·refine wpS_sortRunsSt (κ:=intKind) (a₀:=ku.toArray.zip xu.toArray) intKind_oneLt (ksk_keysOfInt (ksk_intKeys hk)) ⟨Array.Perm.refl _,rfl,rfl⟩ rfl (Stable.refl _) (by rw [Array.size_zip];simp;omega) fun st' a1 a2 a3 a4=>⟨a1,a2,jjv rx ?_ fun c=>?_⟩
  ·have hs:=sortedTo_of_int a3;rw [←a1.size_eq] at hs;rw [G2];intro i j hi hj hij;have hi':i < (arrOf st').size:=by simpa using hi
   have hj':j < (arrOf st').size:=by simpa using hj
   have q:=hs i j (F5 hij) hj';rw [K_eq hi',K_eq hj'] at q;simpa [kskF] using q
  ·have hx:∀ p,p∈(arrOf st').toList→∃ n t,p.1=Value.int n t:=fun p hp'=>hz p ((Fc.mp a1).mem_iff.mp hp');have t:rowOf intKind c (arrOf st').toList=rowOf intKind c (ku.toArray.zip xu.toArray).toList:=a4 c;rw [ksk_filter hx,t,←ksk_filter hz,e2]
theorem jq3 {ws:List (List PP)} {cost:List PP→Int} {ps:List (V×V)} (hp:Paired (LP H) as ws) (h:jnQ (ws.map cost) as ps) :
  ∃ (bs:List Addr) (m:List (Int×List PP)),ps.map (·.2)=bs.map V.ref∧Paired (LP H) bs (m.map (·.2))∧m.Pairwise (fun a b=>a.1≤b.1)∧∀ c:Int,m.filter (fun y=>y.1 == c)=(ws.map fun w=>(cost w,w)).filter fun y=>y.1 == c:=by
 classical
 obtain ⟨prs,e1,pp,pw,pf⟩:=h
 let W:Addr→List PP:=fun a=>if h:∃ w,LP H a w then h.choose else []
 have hW:∀ a w,LP H a w→W a=w:=fun a w q=>by
  have e:∃ w,LP H a w:=⟨w,q⟩;show (if h:∃ w,LP H a w then h.choose else [])=w;rw [dif_pos e];exact LP.uni a _ _ e.choose_spec q
 have wl:∀ a∈as,LP H a (W a):=fun a ha=>by
  obtain ⟨w,_,q⟩:=Paired.memP hp ha;rw [hW a w q];exact q
 have eas:as.map W=ws:=by
  clear e1 pp pf wl
  induction hp with
  | nil=>rfl
  | cons r t ih=>rw [C6,ih,hW _ _ r]
 have ez:((ws.map cost).zip as).map (fun p=>(p.1,W p.2))=ws.map fun w=>(cost w,w):=by
  rw [←eas,D4];clear e1 pp pf wl eas hp
  induction as with
  | nil=>rfl
  | cons a as ih=>rw [C6,List.zip_cons_cons,C6,ih];rfl
 refine ⟨prs.map (·.2),prs.map fun p=>(p.1,W p.2),?_,?_,?_,fun c=>?_⟩
 ·rw [e1,D4,D4]
  rfl
 ·have mm:∀ p∈prs,p.2∈as:=fun p hm=>by
   have:=pp.mem_iff.mp hm;obtain ⟨p1,p2⟩:=p;exact (Jp this).2
  clear e1 pp pw pf ez;rw [D4]
  induction prs with
  | nil=>exact .nil
  | cons p l ih=>exact .cons (wl _ (mm p (Cf ..))) (ih fun q hq=>mm q (Cg _ hq))
 ·rw [F9];exact pw
 ·rw [←ez,Gc,Gc];have:=pf c;show (prs.filter fun p=>p.1 == c).map _=(((ws.map cost).zip as).filter fun p=>p.1 == c).map _;rw [this]
noncomputable def Chg:HO→Prop
 | .ext _=>True
 | .ins _ _ fs=>fs.head?.map (·.1)=some ("words":Str)∨fs.head?.map (·.1)=some ("numbers":Str)
 | _=>False
theorem joU {dx:Addr} {x:Str} {v:V} {fs:List (Str×V)} (h1:x≠"words") (h2:x≠"numbers"):¬Chg (.ins C dx ((x,v) :: fs)):=by
 rintro (z|z)
 ·exact h1 (Cs z)
 ·exact h2 (Cs z)
noncomputable def Sm (H H':Hp):Prop:=∀ b o,H b=some o→¬Chg o→H' b=some o
theorem jn.sm (s:jn H H'):Sm H H':=fun b o h _=>s b o h
theorem HT.ext (h:HT P q pos H):∃ f,H P=some (.ext f):=by
 rcases h with e|⟨_,e,_⟩
 ·exact ⟨_,e⟩
 ·exact ⟨_,e⟩
theorem Bes.sm (h:HT P q pos H) (s:Bes P H H'):Sm H H':=fun b o e n=>s b o e fun z=>by
 obtain ⟨f,hf⟩:=h.ext;rw [z,hf] at e;cases e;exact n trivial
theorem HT.same (h:HT P q pos H) (s:jn H H'):HT P q pos H':=by
 rcases h with e|⟨c,e1,e2⟩
 ·exact .inl (s _ _ e)
 ·exact .inr ⟨c,s _ _ e1,s _ _ e2⟩
theorem jn.bes (s:jn H H'):Bes P H H':=fun b o e _=>s b o e
theorem Bes.trans {H2:Hp} (a:Bes P H H1) (b:Bes P H1 H2):Bes P H H2:=fun c o h n=>b c o (a c o h n) n
theorem LN.sm {l:List Nat} (h:LN H a l) (s:Sm H H'):LN H' a l:=s _ _ h id
theorem jX.sm {l:PP} (h:jX H a l) (s:Sm H H'):jX H' a l:=s _ _ h id
theorem LP.sm {l:List PP} (h:LP H a l) (s:Sm H H'):LP H' a l:=by
 obtain ⟨as,h1,h2⟩:=h;exact ⟨as,s _ _ h1 id,Paired.mapM h2 fun _ _ _ q=>q.sm s⟩
theorem Tb.sm {l:List (List PP)} (h:Tb H a l) (s:Sm H H'):Tb H' a l:=by
 obtain ⟨as,h1,h2⟩:=h;exact ⟨as,s _ _ h1 id,Paired.mapM h2 fun _ _ _ q=>LP.sm q s⟩
theorem vB.sm {wd:Word} (h:vB C H a wd) (s:Sm H H'):vB C H' a wd:=by
 obtain ⟨dx,r,x,h1,h2,h3⟩:=h;exact ⟨dx,r,x,s _ _ h1 (joU (by decide) (by decide)),h2.sm s,h3.sm s⟩
theorem vm.sm {ws:List Word} (h:vm C H b ws) (s:Sm H H'):vm C H' b ws:=by
 obtain ⟨as,h1,h2⟩:=h;exact ⟨as,s _ _ h1 id,Paired.mapM h2 fun _ _ _ q=>q.sm s⟩
theorem vT.sm {z:Nat} (h:vT C H a z js) (s:Sm H H'):vT C H' a z js:=by
 obtain ⟨dx,d,h1,h2⟩:=h;exact ⟨dx,d,s _ _ h1 (joU (by decide) (by decide)),s _ _ h2 id⟩
noncomputable abbrev jeE (g:Weights) (w:List PP):Int:=((wayCost g (jR w):Nat):Int)
noncomputable def jnk (CW CJ P:Addr) (q:Str) (lp:Pos) (b c:Addr) (g:Weights) (js:List Join) (ws:List (List PP)) (Q:VK) (v:V) (H1:Hp):Prop:=∃ l,v=V.ref l∧Tb H1 l ws∧vm CW H1 b g.words∧vT CJ H1 c g.alone js ∧
 (∀ w∈ws,∀ p∈w,je3 g.words.length p)∧(∀ x y,((js.find? (zi x y)).map fun j=>j.cost).getD 0=g.join x y)∧HT P q lp H1 ∧
 ∀ H2 p (m:List (Int×List PP)),Bes P H1 H2→HT P q lp H2→Tb H2 p (m.map (·.2))→m.Pairwise (fun a b=>a.1≤b.1)→(∀ z:Int,m.filter (fun y=>y.1 == z)=(ws.map fun w=>(jeE g w,w)).filter fun y=>y.1 == z)→Q (.ref p) H2
noncomputable def juq (CW CJ P:Addr) (q:Str) (lp:Pos) (te:TE):TE:=fun σ H Q=>∃ (b c:Addr) (g:Weights) (js:List Join) (ws:List (List PP)),σ[1]?=some (some (V.ref b))∧σ[2]?=some (some (V.ref c))∧te σ H (jnk CW CJ P q lp b c g js ws Q)
theorem jqT {CW CJ c0:Addr} {params:Arguments} {body:Expr} {lsc:Scope} {lp kp p:Pos} {cl:List (Str×Addr)} {e:Expr} {te:TE}
  (L:jp7 X.K X.mg X.base c0 P) (hcode:X.env.code=.ref c0) (hdef:defaultsOf params X.env=([],[])) (hcl:closureFor lsc X.env=pure cl) (hr:j6 5 X.A) (hm:X.mg "sorted"=none) (he:PE X e te)
  (hb:∀ (u pm ctv:Value) (c':Addr),bindArgs (PySem.W.kla_fn "<lambda>" (X.env.qual++"<lambda>") params body lsc cl pm (.ref c') ctv) ⟨[u],[]⟩=pure [(("way":Str),u)])
  (hx:lsc.names.lookup ("way":Str)=some .local) (hco:lsc.isCoroutine=false) (hgen:lsc.isGenerator=false) (hk:lsc.kind=.function) (hcell:∀ y∈lsc.names,y.2≠.cell)
  (hinj:∀ y z c,cl.lookup y=some c→cl.lookup z=some c→y=z) (hhas:∀ y,lsc.names.lookup y=some .free→∃ c,cl.lookup y=some c) (hsub:∀ y c,cl.lookup y=some c→X.env.cells.lookup y=some c) (hcm:∀ y c,cl.lookup y=some c→lsc.names.lookup y=some .free)
  (hN1:X.N[1]?=some ("words":Str)) (hN2:X.N[2]?=some ("joins":Str)) (hs1:X.env.scope.names.lookup ("words":Str)=some .cell) (hs2:X.env.scope.names.lookup ("joins":Str)=some .cell) (hl1:∃ c,cl.lookup ("words":Str)=some c) (hl2:∃ c,cl.lookup ("joins":Str)=some c)
  (hbody:∀ f c' s H,PE (cxL X ["way","words","joins"] (X.env.qual++"<lambda>") lsc f (.ref c') cl X.A.in1.in1 s H) body (jf7 (jd2 CW CJ) [] E0 (jf8 (jmc 0) (jf8 (jmc 1) (jf8 (jmc 2) jdn)))))
  (hg:Gl X "sorted":=by rfl) (hs:starEach [e] X.env=[(false,eval e X.env)]:=by rfl) :
  PE X (.Call (.Name "sorted" p) [e] [⟨some "key",.Lambda params body lsc lp,kp⟩] pos) (juq CW CJ P (X.env.qual++"<lambda>") lp te):=by
 intro pins s σ H Q I h;obtain ⟨b,c,g,js,ws,hσ1,hσ2,h⟩:=h;refine Fm (jaX I hg hm boot_sorted ?_);refine callWith_kw (thn (jb he jh hs pos pins s σ H (fun vs H1=>match vs with|[v]=>jnk CW CJ P (X.env.qual++"<lambda>") lp b c g js ws Q v H1|_=>False) I h) fun us s1 ⟨vs,H1,I1,r1,q1⟩=>?_) (by rw [hs];rfl) (by rw [hs];rfl);refine kws_cons ?_;cases r1 with
 | nil=>exact q1.elim
 | cons r rr =>
 cases rr with
 | cons _ _=>exact q1.elim
 | nil =>
 obtain ⟨l,e1,hl,hw,hj,hok,hjn,hT,fin⟩:=q1;cases e1;cases r;refine jsO L hcode hdef hcl I1 hT fun f c' ctv pm H2 s2 I2 hT2 hc2 hB=>?_;refine kws_nil ?_;have sm:=Bes.sm hT hB;have hl2':=hl.sm sm;have hw2:=hw.sm sm;have hj2:=hj.sm sm;obtain ⟨as,ha,hp⟩:=hl2';have elen:=Cr hp;have hroom:X.A.in1.in1.depth < recursionLimit:=by have:=hr.in1.in1.dp;omega
 refine Fd (jjS (Q:=Q) (E:=X.xe) (fun ks H'=>jn H2 H'∧ks=(ws.take ks.length).map fun w=>V.int (jeE g w)) (fun _ ps _=>jnQ (ws.map (jeE g)) as ps) I2 (SqL.of ha) ⟨jn.refl _,rfl⟩ ?turn ?srt ?fin) (fun u s3 hq=>?_) fun _ _ z=>z
 case turn =>
  intro own i x v ks H' s' hxi rv hki J kp;obtain ⟨k1,k2⟩:=kp;have hi:i < ws.length:=by
   have:=(Cj.mp hxi).1;rw [Cb] at this;omega
  have hwi:ws[i]?=some ws[i]:=Cz hi;obtain ⟨a,h1,h2⟩:=LOf.get hp hwi;rw [hxi] at h1;cases h1;refine jrE (pm:=pm) (ctv:=ctv) (A:=X.A.in1.in1) (x:="way") (vs:=[("words",.ref b),("joins",.ref c)]) J (by simp) (k1 _ _ hc2) J.env0.in1.in1.frames hr.in1.in1.hd hroom rv (hb _ _ _ _) hx hco hgen hk hcell hinj hhas hsub hcm ?_ (show ([("way":Str),"words","joins"]:List Str).Nodup by decide) (hbody _ _ _ _) ?_
  ·intro j y z hjv
   match j,hjv with
   | 0,hjv =>
    cases hjv;exact ⟨1,hN1,hσ1,hs1,hl1⟩
   | 1,hjv =>
    cases hjv;exact ⟨2,hN2,hσ2,hs2,hl2⟩
  ·refine ⟨_,rfl,_,rfl,_,rfl,a,b,c,ws[i],g,js,rfl,LP.mono _ _ _ _ h2 k1,hw2.same k1,hj2.same k1,hok _ (List.getElem_mem hi),hjn,fun H3 sm3=>⟨k1.trans sm3,?_⟩⟩;rw [Ci,hki];show ks++[V.int (jeE g ws[i])]=(ws.take (i+1)).map _;have k2':(ws.take i).map (fun w=>V.int (jeE g w))=ks:=by rw [hki] at k2;exact k2.symm
   rw [List.take_add_one,hwi,Dc,k2']
   rfl
 case srt =>
  rintro ks ku xu H' s' J ⟨k1,k2⟩ hlk rk rx;rw [hlk,Cb,elen,Dg] at k2;have k3:ks=(ws.map (jeE g)).map V.int:=by rw [k2,D4];rfl
  subst k3;exact jor rk rx (by rw [Cb];omega)
 case fin =>
  rintro D ks ps H' ⟨k1,k2⟩ hn hlk pp gg;obtain ⟨bs,m,e1,e2,e3,e4⟩:=jq3 (Paired.mapM hp fun _ _ _ q=>LP.mono _ _ _ _ q k1) gg;rw [e1];have s2:jn H2 (upd H' D (.lst (bs.map V.ref))):=k1.trans (jq hn);exact fin _ _ m (hB.trans (jn.bes s2)) (hT2.same s2) ⟨bs,jc,Paired.mapM e2 fun _ _ _ q=>LP.mono _ _ _ _ q (jq hn)⟩ e3 e4
 ·obtain ⟨v,H3,J,r,q⟩:=hq;exact ⟨v,H3,J.unpinned,r,q⟩
theorem jeC {x1 x2 y:Str} {c1 c2 c:Addr} (h:[(x1,c1),(x2,c2)].lookup y=some c):(y=x1∧c=c1)∨(y=x2∧c=c2):=by
 have:=Do h;simpa using this
structure jiN (K:Frag) (mg:Str→Option Value) (base:Heap) (P:Addr):Prop where
 ex:∃ c,(∀ f oc od fd osl,mg "ways_in_order"=some (.ref f)→K.lookup f=some ⟨oc,od,.func fd,osl⟩→fd.code=.ref c)∧jp7 K mg base c P
noncomputable abbrev jt7:Str:=(("ways_in_order":Str)++".<locals>.")++"<lambda>"
noncomputable abbrev jt6:Pos:=⟨269,38,269,80⟩
noncomputable abbrev HW (P:Addr) (H:Hp):Prop:=HT P jt7 jt6 H
section
variable {P:Program} {w:World} {K:Frag} {mg:Str→Option Value} {base:Heap} {t:Adr}
noncomputable abbrev JOk (g:Weights) (js:List Join):Prop:=∀ x y,((js.find? (zi x y)).map fun j=>j.cost).getD 0=g.join x y
noncomputable def jhz (CW CJ PT:Addr):Sp:=fun vs H Q _=>∃ (a b c:Addr) (T:List (List PP)) (g:Weights) (js:List Join),vs=[.ref a,.ref b,.ref c]∧Tb H a T∧vm CW H b g.words∧vT CJ H c g.alone js∧WFT T∧T.length≤1000∧(∀ (k:Nat) (ws:List (List PP)),(wys T)[k]?=some ws→ws.length≤100000) ∧
 (∀ w∈(wys T).headD [],∀ p∈w,je3 g.words.length p)∧JOk g js∧HW PT H ∧
 ∀ H2 p (m:List (Int×List PP)),Bes PT H H2→HW PT H2→Tb H2 p (m.map (·.2))→m.Pairwise (fun a b=>a.1≤b.1)→(∀ z:Int,m.filter (fun y=>y.1 == z)=(((wys T).headD []).map fun w=>(jeE g w,w)).filter fun y=>y.1 == z)→Q (.ref p) H2
theorem jhg (T:Txt K mg t) {PT:Addr} (L:jiN K mg base PT):Cal P w K mg base CX0 6 "ways_in_order" ["table","words","joins"] (jhz t.c_Word t.c_Joins PT):=by
 obtain ⟨f,fd,F,b,g⟩:=T.xbq;obtain ⟨c,hc,L⟩:=L.ex;have kp:=F.kp;obtain ⟨oc,od,kV,doc,pm,an,cdv,ct,osl,rfl,lk,hcd⟩:=F.ex;have ecd:cdv=.ref c:=hc f _ _ _ _ g lk;subst ecd;refine ⟨f,_,g,kp,b,jn2 lk hcd jhq (fun vs H Q E h=>?_) fun A outer s H vs Q E hr h=>?_⟩
 ·obtain ⟨_,_,_,_,_,_,rfl,_⟩:=h
  rfl
 ·obtain ⟨a,b1,c1,TT,gg,js,rfl,hT,hw,hj,wf,tl,wl,ok,jo,hW,k⟩:=h
  suffices hh:∃ t',PSs (zt CX0 P w K mg base ["table","words","joins"] "ways_in_order" (jm jal) f (.ref c) A outer s H E).nox (zu jal) t'∧t' { nx:=fun _ H'=>Q .non H',rt:=Q } (start ["table","words","joins"] [.ref a,.ref b1,.ref c1]) H by
   obtain ⟨t',h1,h2⟩:=hh;exact ⟨t',h1.nox,h2⟩
  refine ⟨_,jg (jk (jqT (CW:=t.c_Word) (CJ:=t.c_Joins) (cl:=[("words",s.heap.objs.size+1),("joins",s.heap.objs.size+2)]) L rfl rfl rfl hr T.xdr (cal (joh T) hr.m rfl (jb (pv 0) jh)) (fun u pm ctv c'=>rfl) rfl rfl rfl rfl ?_ ?_ ?_ ?_ ?_ rfl rfl rfl rfl ⟨_,rfl⟩ ⟨_,rfl⟩
   (fun f' c' s' H'=>cal (jbj T) (j6.deeper hr.in1.in1 _) rfl (jb (pv 0) (jb (pv 1) (jb (pv 2) jh)))))),?_⟩
  ·decide +kernel
  ·intro y z c' h1 h2;rcases jeC h1 with ⟨rfl,rfl⟩|⟨rfl,rfl⟩<;>rcases jeC h2 with ⟨rfl,e⟩|⟨rfl,e⟩
   ·rfl
   ·exact absurd (show s.heap.objs.size+1=s.heap.objs.size+2 from e) (by omega)
   ·exact absurd (show s.heap.objs.size+2=s.heap.objs.size+1 from e) (by omega)
   ·rfl
  ·intro y h1;have h2:(y,NameKind.free)∈[(("way":Str),NameKind.local),("joins",.free),("words",.free),("cost_of_way",.globalImplicit)]:=Do h1;simp at h2;rcases h2 with rfl|rfl
   ·exact ⟨_,rfl⟩
   ·exact ⟨_,rfl⟩
  ·intro y c' h1;rcases jeC h1 with ⟨rfl,rfl⟩|⟨rfl,rfl⟩<;>rfl
  ·intro y c' h1;rcases jeC h1 with ⟨rfl,rfl⟩|⟨rfl,rfl⟩<;>rfl
  ·exact ⟨b1,c1,gg,js,(wys TT).headD [],rfl,rfl,⟨_,rfl,a,TT,rfl,hT,wf,tl,wl,fun H' p sm hp=>⟨p,rfl,hp,hw.same sm,hj.same sm,ok,jo,hW.same sm,fun H2 p2 m hB hT2=>k H2 p2 m (Bes.trans (jn.bes sm) hB) hT2⟩⟩⟩
end
noncomputable def tXf (C:Addr) (ta:TE) (f:Str):TE:=fun σ H Q=>ta σ H fun xv H1=>∃ x ob dx fs v,xv=V.ref x∧H1 x=some (XO x ob)∧ob.cls=.ref C∧(∀ c,ob.data≠.cls c)∧ob.dict=some dx∧H1 dx=some (.xd fs)∧fs.lookup f=some v∧Q v H1
theorem jkC {fI:Addr} {o:Expr} {f:Str} {ta:TE} (hK:je2 X.K C fI) (hf:jdt f) (ha:PE X o ta) (hb:attributeBase o f X.env (eval o X.env)=eval o X.env:=by rfl):PE X (.Attribute o f pos) (tXf C ta f):=by
 intro pins s σ H Q I h;refine jmV hb (thn (ha pins s σ H _ I h) fun u s1 zqq=>?_);obtain ⟨xv,H1,I1,rx,x,ob,dx,fs,v,ex,ea,e1,e2,e3,e5,l,q⟩:=zqq;subst ex;obtain rfl:u=Value.ref x:=rx;obtain ⟨nm,q',N,bs,sn,sub,ab,col,dd,k0,k1,k2,k3,k5,mN,kk,n1,n2,n3,n4,n5,n6⟩:=hK;obtain ⟨c1,c2⟩:=kk s1.heap I1.kIn;have nf:mN f=none:=by rcases hf with rfl|rfl<;>assumption
 obtain ⟨mA,d1,d2⟩:=(show vb X.prog X.w H1 s1.heap dx (.xd fs) from I1.hok dx _ e5);obtain ⟨u,hu,ru⟩:=zr.some_of (v:=v) (o:=mA f) (by rw [←l];exact d2 f);have hx:=XO.at I1.hok ea;have J:=I1.tok (s1.toks+1);obtain ⟨hp,g,d,t,os⟩:=s1;exact jpa c1 c2 n5 n6 nf hf.no hx e1 e2 e3 d1 hu (PySem.W.handedOut_of (jju ru)) ⟨v,H1,J,ru,q⟩
noncomputable abbrev jmf (X:Cx) (pins:List (Addr×Obj)) (E:Value→Shared→Prop):Cx:={ X with pn:=X.pn++pins,xe:=E }
noncomputable abbrev hdX (X:Cx) (e:Value):Cx:={ X with A:=X.A.mark (some e),calm:=false,xe:=fun _ _=>False }
section
variable {X:Cx} {pins ps:List (Addr×Obj)} {σ:St} {H:Hp} {s:Shared} {E:Value→Shared→Prop} {e:Value}
theorem inT (I:Inv X pins σ H s):Inv (jmf X pins E) [] σ H s :=
 ⟨⟨I.ok.mod,I.ok.kind,I.ok.glob,I.ok.blt,I.ok.above,I.ok.inj,I.ok.has,I.ok.cab,I.ok.hd,I.ok.frames,I.ok.stk,I.ok.exf,I.ok.bs,I.ok.bsz,I.ok.noex,I.ok.exfs,I.ok.funs,I.ok.frf⟩,I.os,I.bare,I.base,I.loc,I.cell,I.free,I.freeC,fun p hp=>I.pin p (by simpa using hp),I.hok,I.len⟩
theorem ji1 (I:Inv (jmf X pins E) ps σ H s):Inv X pins σ H s :=
 ⟨⟨I.ok.mod,I.ok.kind,I.ok.glob,I.ok.blt,I.ok.above,I.ok.inj,I.ok.has,I.ok.cab,I.ok.hd,I.ok.frames,I.ok.stk,I.ok.exf,I.ok.bs,I.ok.bsz,I.ok.noex,I.ok.exfs,I.ok.funs,I.ok.frf⟩,I.os,I.bare,I.base,I.loc,I.cell,I.free,I.freeC,fun p hp=>I.pin p (G8 _ hp),I.hok,I.len⟩
theorem inH (I:Inv X pins σ H s):Inv (hdX X e) pins σ H s :=
 ⟨⟨I.ok.mod,I.ok.kind,I.ok.glob,I.ok.blt,I.ok.above,I.ok.inj,I.ok.has,I.ok.cab,(fun z=>nomatch z),I.ok.frames,I.ok.stk,I.ok.exf,I.ok.bs,I.ok.bsz,I.ok.noex,I.ok.exfs,I.ok.funs,I.ok.frf⟩,I.os,I.bare,I.base,I.loc,I.cell,I.free,I.freeC,I.pin,I.hok,I.len⟩
theorem jua (ok:X.Ok) (I:Inv (hdX X e) pins σ H s):Inv X pins σ H s:=⟨ok,I.os,I.bare,I.base,I.loc,I.cell,I.free,I.freeC,I.pin,I.hok,I.len⟩
end
noncomputable def xeF (X:Cx) (C:Addr) (pins:List (Addr×Obj)) (E:XK):Value→Shared→Prop:=fun e s'=>∃ (x:Addr) (ob:Obj) (dx:Addr) (σ:St) (H':Hp) (vs:Array Value) (T:Addr) (oT:Obj) (ts:Array Value),e=.ref x∧Inv X pins σ H' s' ∧
 H' x=some (XO x ob)∧ob.cls=.ref C∧ob.dict=some dx∧ob.data=.fields vs∧vs[1]?=some (.ref T)∧T≠x∧zN X pins H' T∧s'.heap.get? T=some oT∧oT.data=.fields ts∧ts[3]?=some .none∧∀ ob',E (.ref C) (some dx) (upd H' x (XO x ob'))
theorem jrh {E:XK}:jan (CXF X.prog X.w C) (jmf X pins (xeF X C pins E)) E:=by
 rintro ps σ H s e s' I ⟨x,ob,dx,H',vs,T,oT,ts,rfl,os,bare,un,hok,xn,hx,hc,hdx,hd,h1,tx,tn,hT,gT,dT,h3,hE⟩;have J:Inv (jmf X pins (xeF X C pins E)) ps σ H' s':=I.call' (ch:=[]) os un hok bare fun b z=>absurd z (by simp);exact ⟨x,ob,dx,σ,H',vs,T,oT,ts,rfl,ji1 J,hx,hc,hdx,hd,h1,tx,(ji1 I).fpOk tn hT,gT,dT,h3,hE⟩
section
variable {X:Cx} {C fI:Addr} {body:List Stmt} {s0:Stmt} {suite:List Stmt} {i:Nat} {n:Str} {hpos pos np:Pos}
noncomputable def juj (C:Addr) (i:Nat) (tb:XK→TS) (ts:TS):TS:=fun D σ H=>tb (fun c d H'=>∃ dx,c=.ref C∧d=some dx∧∀ x ob (σ':St),H' x=some (XO x ob)→ob.cls=.ref C→ob.dict=some dx→(∀ c,ob.data≠.cls c)→i < σ'.length →
 ts { nx:=fun _ _=>False,rt:=D.rt } (σ'.set i (some (.ref x))) H') D σ H
theorem jqK {x T:Addr} {ob:Obj} {vs:Array Value} {h':Heap} (J:Inv X pins σ H s) (hx:H x=some (XO x ob)) (fT:zN X pins H T) (nt:jd7 (frs X.stack) x ob vs (some T) s.heap h') {ob2:Obj} (x2:h'.get? x=some ob2) :
  Inv X pins σ (upd H x (XO x ob2)) { s with heap:=h' }:=by
 have up:∀ b u,H b=some u→(∀ p,u≠.ext p)→upd H x (XO x ob2) b=some u:=fun b u e ne=>by
  rw [ji (fun z=>by rw [z,hx] at e;exact ne _ (Cs e).symm)];exact e
 have keepT:∀ b u,H b=some u→b≠x→∀ o,s.heap.get? b=some o→h'.get? b=some o:=fun b u e bx o z=>by
  refine nt.keep b o (fun hb=>?_) bx (fun q=>?_) z
  ·have:=J.stkFree b hb;rw [e] at this;cases this
  ·have:=fT.1;rw [←Cs q,e] at this;cases this
 have nx:∀ b,H b=none→b≠x:=fun b e z=>by rw [z,hx] at e;cases e
 refine J.call' (s':={ s with heap:=h' }) (ch:=[T]) rfl ⟨fun b o e q hb hc=>?_,fun b o e q hb hc=>?_,fun b o e q hc=>?_,fun b o e hc=>nt.there b o e,fun b xs e=>up b _ e (fun p z=>by cases z),fun b o u e=>up b _ e (fun p z=>by cases z),fun b ps e=>⟨#[],by rw [up b _ e (fun p z=>by cases z)];simp⟩⟩ ?_ J.bare fun b hb=>?_
 ·exact nt.keep b o hb (nx b q) (fun z=>hc (by simp [Cs z])) e
 ·exact nt.slot b o (nx b q) (fun z=>hc (by simp [Cs z])) e
 ·rw [ji (nx b q)];exact q
 ·intro b u e;by_cases bx:b=x
  ·subst bx;rw [jc] at e;cases e;exact jkE x2
  ·rw [ji bx] at e;refine (J.hok b u e).stay (fun c v hq z=>?_) (fun c z=>up c _ z fun p y=>by cases y) fun c xs z=>up c _ z fun p y=>by cases y
   rcases hq with z1|z1
   ·rw [z1] at z ⊢;exact keepT b u e bx v z
   ·exact keepT c _ z1 (fun q=>by rw [q,hx] at z1;cases z1) v z
 ·rw [Cm.mp hb];exact ⟨fT.2.2.2.1,fT.2.1,fT.2.2.2.2.1,fT.2.2.2.2.2⟩
theorem jpt {h':Heap} {m':Str→Option Value} {tk:Nat} (I:Inv X pins σ H s) (hn':h'.Ns X.env.locals m') (hs:Heap.SameBut X.env.locals s.heap h'):Inv X pins (List.replicate X.N.length none) H { s with heap:=h',toks:=tk }:=by
 obtain ⟨m,hn,hl⟩:=id I.loc;have cne:=I.cne;refine ⟨I.ok,I.os,I.bare,⟨fun b o e n hb hx=>?_,fun b o e n hb hx=>?_,I.base.free,fun b o e hx=>?_,I.base.tups,I.base.frzs,I.base.tbls⟩,⟨_,hn',fun j y v' e1 e2 e3=>?_⟩,fun y c e=>?_,I.free,I.freeC,fun p hp=>?_,fun b ob e=>?_,by simp⟩
 ·exact (hs.2 b (Di (C9 (Cu e) I.ok.above))).trans (I.base.keep b o e n hb hx)
 ·obtain ⟨sl,e1⟩:=I.base.slot b o e n hb hx;exact ⟨sl,(hs.2 b (Di (C9 (Cu e) I.ok.above))).trans e1⟩
 ·obtain ⟨o',e1⟩:=I.base.there b o e hx;exact ⟨o',(hs.2 b (Di (C9 (Cu e) I.ok.above))).trans e1⟩
 ·rw [List.getElem?_replicate] at e2;split at e2<;>cases e2
 ·obtain ⟨w',z⟩:=I.cell y c e;exact ⟨w',z.sameBut hs (cne y c e)⟩
 ·obtain ⟨e,n,ne,nf,d⟩:=I.pin p hp;exact ⟨(hs.2 p.1 ne).trans e,n,ne,nf,d⟩
 ·refine (I.hok b ob e).stay (fun c w' hc q=>(hs.2 c ?_).trans q) (fun _ q=>q) fun _ _ q=>q;rintro rfl;have hf:=I.free;rcases hc with z|hc
  ·rw [z,e] at hf;cases hf
  ·rw [hf] at hc;cases hc
theorem jpK {tb:XK→TS} {ts:TS} (hK:je2 X.K C fI) (hm:X.mg "Fault"=some (.ref C)) (hg:Gl X "Fault") (hN:X.N.Nodup) (hi:X.N[i]?=some n) (hloc:X.env.scope.names.lookup n=some .local) (hfr:X.env.frame=some X.env.locals) (hst:X.stack=X.env :: X.outer)
  (hb:∀ pins E,PSs (jmf X pins (xeF X C pins E)) body (tb E)) (hs:∀ e,PSs (hdX X e) (s0 :: suite) ts) :
  PS X (.Try body [.ExceptHandler (some (.Name "Fault" np)) (some n) (s0 :: suite) hpos] [] [] pos) (juj C i tb ts):=by
 intro pins s σ H D I h;refine wpAny_Try_except (Fd (hb pins _ [] s σ H D (inT I) h) (fun f s1 h1=>?_) fun e s1 h1=>?_)
 ·cases f with
  | next=>obtain ⟨σ',H',J,q⟩:=h1;exact Lm ⟨σ',H',ji1 J,q⟩
  | brk=>obtain ⟨σ',H',J,q⟩:=h1;exact ⟨σ',H',ji1 J,q⟩
  | cont=>obtain ⟨σ',H',J,q⟩:=h1;exact ⟨σ',H',ji1 J,q⟩
  | ret u=>obtain ⟨v,σ',H',J,r,q⟩:=h1;exact ⟨v,σ',H',ji1 J,r,q⟩
 ·obtain ⟨x,ob,dx,σ',H',vs,T,oT,tv,rfl,J,hx,hcl,hdx,hd,h1',tx,fT,gT,dT,h3,hE⟩:=h1;refine jnr (base:=X.base) (outer:=X.outer) (by rw [J.ok.frames,hst]) (by rw [←hst];exact J.stack) hfr (XO.at J.hok hx) hd h1' tx gT dT h3 fun h' nt=>?_;have nt':jd7 (frs X.stack) x ob vs (some T) s1.heap h':=by rw [hst];exact nt
  obtain ⟨T2,oT2,ts2,t1,t2,t3,t4,t5,t6⟩:=nt'.now;have J2:=inH (e:=.ref x) (jqK J hx fT nt' t3);have fT2:=J.fpOk (H':=upd H' x (XO x { ob with data:=.fields (vs.setIfInBounds 1 (.ref T2)) })) t1 (by rw [ji t2];exact J.hok.fresh t1);have hsz:1 < vs.size:=(D9.mp h1').1;obtain ⟨dx',e1,e2,e3⟩:=hE { ob with data:=.fields (vs.setIfInBounds 1 (.ref T2)) };cases e2;refine wpAny_handleBy_cons (codeAny_handlers_test ?_) (by intro q;cases q);refine jaM (X:=hdX X (.ref x)) J2 hg hm ?_;obtain ⟨nm,q',N,bs,sn,sub,ab,col,dd,k0,k1,k2,k3,k5,mN,kk,n1,n2,n3,n4,n5,n6⟩:=hK
  obtain ⟨c1,c2⟩:=kk h' J2.kIn;obtain ⟨hp1,g1,d1,tk1,os1⟩:=s1;refine wpAny_excMatches_sub_self c1 t3 hcl (by decide) ?_;refine codeAny_handlers_suite_as ?_;refine wpAny_setFlight_none (tb:=T2) t3 rfl (by simp [hsz]) t4 t5 (D9.mp t6).1 ?_;have u2:=Fg h' T2 (Obj.mapFields (·.setIfInBounds 3 Value.none));have J4:=J2.turned (t':=tk1) (it:=T2) (fun b o hb q=>(u2.2 b hb).trans q) fT2.1 fT2.2.1 fT2.2.2.2.1 fT2.2.2.2.2.1 fT2.2.2.2.2.2;refine jhB (X:=hdX X (.ref x)) (v:=.ref x) J4 hN hi (.inl hloc) rfl (fun s5 J5=>?_) (.inr hloc)
  refine Fd (hs (.ref x) pins s5 _ _ { nx:=fun _ _=>False,rt:=D.rt } J5 (e3 x _ σ' jc hcl hdx (fun c z=>by cases z) (by rw [J.len];exact (Cj.mp hi).1))) (fun f s6 h6=>?_) fun _ _ z=>z.elim;cases f with
  | next=>obtain ⟨_,_,_,q⟩:=h6;exact q.elim
  | brk=>obtain ⟨_,_,_,q⟩:=h6;exact False.elim q
  | cont=>obtain ⟨_,_,_,q⟩:=h6;exact False.elim q
  | ret u =>
   obtain ⟨v,σ6,H6,J6,rv,q⟩:=h6;have J7:=jua J.ok J6;obtain ⟨m,hn,_⟩:=J7.loc;exact wpAny_nameGoes hloc hn (by rw [J.ok.kind];rfl) fun h7 m' hn' hs'=>⟨v,_,H6,jpt J7 hn' hs',rv,q⟩
end
theorem jf9 {i j:Nat} {ps:List PP} (h:(zo g f i r)[j]?=some ps):j < r.length∧ps=((piecesAt g (r.drop j)).filter (f (i+j))).map pc:=by
 have hj:j < r.length:=by
  have:=(Cj.mp h).1
  rwa [zl] at this
 rw [jhC g f r i j hj] at h;exact ⟨hj,(Cs h).symm⟩
theorem jol (ok:jc6 g.words):(piecesAt g r).length≤g.words.length+1:=by
 cases r with
 | nil=>rw [jfp];exact C4 _
 | cons x r =>
  rw [jdi g (by simp),Ci];have n1:((wps g (x :: r)).map pc).Nodup:=(jiJ g (x :: r)).imp fun {a b} h e=>by
   rw [e,jb9] at h;omega
  have n2:(zR g.words (x :: r)).Nodup:=(jjk (x :: r) g.words).imp fun {a b} h e=>by
   rw [e] at h;omega
  have p:=(List.perm_ext_iff_of_nodup n1 n2).mpr fun y=>jnO ok y;have e:=p.length_eq;rw [Cb] at e;have l:(zR g.words (x :: r)).length≤g.words.length:=by
   unfold zR;rw [Cb];refine Da (F3 _ _) ?_;rw [List.length_zipIdx];exact Cl _
  simp only [Cd,Ct];omega
theorem jhD (ok:jc6 g.words) (hw:g.words.length≤128):∀ ps∈zo g f 0 r,ps.length≤1000:=fun ps hp=>by
 obtain ⟨j,hj⟩:=List.getElem?_of_mem hp;obtain ⟨_,rfl⟩:=jf9 hj;rw [Cb];have h1:=F3 (f (0+j)) (piecesAt g (r.drop j));have h2:=jol (r:=r.drop j) ok;omega
theorem jcy:WFT (zo g f 0 r):=fun i ps p h hp=>by
 obtain ⟨hj,rfl⟩:=jf9 h;obtain ⟨q,hq,rfl⟩:=Dh.mp hp;have m:=zk (Dx.mp hq).1;rw [Db] at m;rw [zl,jaK];show 1≤(q.sounds:Int)∧(i:Int)+(q.sounds:Int)≤(r.length:Int);omega
theorem jri {q:Piece} (h:q∈piecesAt g r):je3 g.words.length (pc q):=by
 rw [jaK];rcases (zk h).2.2.2 with ⟨e,_⟩|⟨i,wd,e,hi,_⟩
 ·left;rw [e];rfl
 ·right;rw [e];have:=(Cj.mp hi).1;show 0≤(i:Int)∧(i:Int) < (g.words.length:Int);omega
theorem jnH:∀ ps∈zo g f 0 r,∀ p∈ps,je3 g.words.length p:=fun ps hp p hq=>by
 obtain ⟨j,hj⟩:=List.getElem?_of_mem hp;obtain ⟨_,rfl⟩:=jf9 hj;obtain ⟨q,hq2,rfl⟩:=Dh.mp hq;exact jri (Dx.mp hq2).1
theorem jmo {F:PP→Prop}:∀ {T:List (List PP)},(∀ ps∈T,∀ p∈ps,F p)→∀ ws∈wys T,∀ w∈ws,∀ p∈w,F p
 | [],_,ws,h,w,hw,p,hp=>by
  rw [wys,Cm] at h;rw [h,Cm] at hw;rw [hw] at hp;cases hp
 | r :: T,ok,ws,h,w,hw,p,hp=>by
  have ih:=jmo (F:=F) (T:=T) fun ps hps=>ok ps (Cg _ hps);rw [wys] at h;rcases Cp.mp h with rfl|h
  ·obtain ⟨q,hq,hw⟩:=Gx.mp hw;obtain ⟨w',hw',rfl⟩:=Dh.mp hw;rcases Cp.mp hp with rfl|hp
   ·exact ok r (Cf ..) p hq
   ·cases hk:(wys T)[q.1.toNat - 1]? with
    | none=>rw [Cq,hk] at hw';cases hw'
    | some l =>
     rw [Cq,hk] at hw';exact ih l (Cw hk) w' hw' p hp
  ·exact ih ws h w hw p hp
theorem jjZ (g:Weights):∀ (r:Text) (j:Nat),(vN g (r.drop j)).length≤(vN g r).length
 | r,0=>Cl _
 | [],j+1=>by simp
 | x :: r,j+1=>by
  rw [Jh];refine Da (jjZ g r j) ?_;rw [jdo,jdi g (by simp),F0,Ci];simp
theorem jsb (h:manyWays g r≤1024) {k:Nat} {ws:List (List PP)} (hk:(wys (zo g f 0 r))[k]?=some ws):ws.length≤100000:=by
 have hk2:k≤r.length:=by
  have:=(Cj.mp hk).1;rw [ja5,zl] at this;omega
 rw [jca g f r 0 k hk2] at hk;cases hk;rw [Cb];have h1:=F3 (jce f (0+k)) (vN g (r.drop k));have h2:=jjZ g r k;have h3:manyWays g r=(vN g r).length:=by
  have e:=jnI g r;rw [jdq,Gw,Dz] at e;have e2:=jca g (fun _ _=>true) r 0 0 (C4 _);have e3:(wys (tab g r))[0]?=some (((vN g (r.drop 0)).filter (jce (fun _ _=>true) (0+0))).map (List.map pc)):=e2;rw [e3] at e;have e4:=Cs e;rw [Cb,List.filter_eq_self.mpr fun w _=>jgt _ w,G1] at e4;exact e4.symm
 omega
theorem jhE:∀ {l:List PP} {k:Nat},zc (tab g r) k l=true→(∀ p∈l,0≤p.1)→jiM g.words.length r.length k l∧(∀ p∈l,je3 g.words.length p)∧k+l.length≤r.length
 | [],k,h,_=>⟨trivial,(fun _ z=>nomatch z),by
  have:k=(tab g r).length:=by simpa [zc] using h
  rw [vM] at this;simp [this]⟩
 | p :: l,k,h,h0=>by
  rw [zc,Cn,Cn] at h;obtain ⟨⟨h1,h2⟩,h3⟩:=h;obtain ⟨i1,i2,i3⟩:=jhE h3 fun q hq=>h0 q (Cg _ hq);have h2':p∈(tab g r).getD k []:=by simpa using h2
  cases hk:(tab g r)[k]? with
  | none=>rw [Cq,hk] at h2';cases h2'
  | some ps =>
   rw [Cq,hk] at h2';obtain ⟨hj,rfl⟩:=jf9 hk;obtain ⟨q,hq,rfl⟩:=Dh.mp h2';have hq':=(Dx.mp hq).1;have m:=zk hq';have po:=jri hq';have es:(pc q).1=(q.sounds:Int):=by rw [jaK]
   refine ⟨⟨?_,i1⟩,fun y hy=>?_,?_⟩
   ·rcases m.2.2.2 with ⟨e,e1⟩|⟨i,wd,e,hi,_⟩
    ·left;refine ⟨by rw [jaK,e];rfl,by rw [es,e1];rfl,hj⟩
    ·right;rcases po with po|po
     ·rw [jaK,e] at po;exact absurd (show (i:Int)=-1 from po) (by omega)
     ·exact ⟨po.1,po.2,h0 _ (Cf ..)⟩
   ·rcases Cp.mp hy with rfl|hy
    ·exact po
    ·exact i2 y hy
   ·rw [es,Dt] at i3;rw [Cd];omega
theorem jml {K:Frag} {ws:List Word} (h:vm C H b ws):∃ xs:List V,SqL K H b xs∧xs.length=ws.length:=by
 obtain ⟨as,h1,h2⟩:=h;exact ⟨_,SqL.of h1,by rw [Cb];exact Cr h2⟩
theorem jdy {z:Int} (h:(!decide (V.int z=V.int 0))=true):z≠0:=fun e=>by
 subst e;simp at h
theorem jb8 {z:Int} (h:¬(!decide (V.int z=V.int 0))=true):z=0:=by
 have:decide (V.int z=V.int 0)=true:=by simpa using h
 exact jF.mp this
theorem jch (h:jax r=0):r≠[]∧r.length≤24:=by
 unfold jax at h;by_cases c:r=[]∨24 < r.length
 ·rw [Ce c] at h;cases h
 ·exact ⟨fun e=>c (.inl e),Nat.le_of_not_lt fun e=>c (.inr e)⟩
theorem jkR (g:Weights) (r:Text):(cnt (tab g r)).headD 0=manyWays g r:=by
 have:=jnI g r;rw [List.headD_eq_head?_getD,this]
 rfl
section
variable {P:Program} {w:World} {K:Frag} {mg:Str→Option Value} {base:Heap} {t:Adr}
noncomputable def jd4 (CW:Addr):Sp:=fun vs H Q _=>∃ (a b c d:Addr) (g:Weights) (r k:List Nat) (l:List Int),vs=[.ref a,.ref b,.ref c,.ref d]∧LN H a r∧LN H b k∧LI H c l∧vm CW H d g.words∧jc6 g.words∧g.words.length≤128∧l.length≤100000 ∧
 ∀ H',jn H H'→Q (.int (zW g r k l)) H'
theorem jaP (T:Txt K mg t):Cal P w K mg base CX0 6 "refusal_of_settled" ["reading","cuts","choices","words"] (jd4 t.c_Word):=by
 refine T.xbz.ok jaQ (fun vs H Q E h=>?_) (fun f cdv A outer s H vs Q E hr h=>?_)
 ·obtain ⟨a,b,c,d,g,r,k,l,rfl,_⟩:=h
  rfl
 ·obtain ⟨a,b,c,d,g,r,k,l,rfl,ha,hb,hc,hd,ok,hw,hl,q⟩:=h;have nd:=jaQ.nd;obtain ⟨xs,hxs,exs⟩:=jml (K:=K) hd;refine ⟨_,(jd (jE 4 nd (cal (jaO T) hr.m rfl (jb (pv 0) jh)))
   (jd (jz (jw zE (pv 4) jj) (jg (jk (pv 4))) jt)
   (jd (jz (PW.pt (jak (vL (vz (cal (jmE T) hr.m rfl (jb (pv 1) (jb (vf T.xdl (pv 0)) jh))))) (jaw (vL (vz (cal (jiX T) hr.m rfl (jb (pv 2) (jb (vf T.xdl (pv 0)) (jb (vf T.xdl (pv 3)) jh))))))))) (jg (jk (gli T.xd8 rfl))) jt)
   (jd (jz (jw zh (cal (jeJ T) hr.m rfl (jb (cal (jdg T) hr.m rfl (jb (pv 3) (jb (pv 0) jh))) jh)) (gli T.xd5 rfl)) (jg (jk (gli T.xda rfl))) jt)
   (jg (jk jj)))))),?_⟩
  refine ⟨_,rfl,a,r,rfl,ha,?_⟩;refine ⟨_,rfl,rfl,_,rfl,jB (fun h1=>?_) (fun h1=>?_)⟩
  ·have h1':=jdy h1;have:=q H (jn.refl _);unfold zW at this;rw [Ce h1'] at this;exact ⟨_,rfl,this⟩
  ·have h1':=jb8 h1;obtain ⟨rn,rl⟩:=jch h1';unfold zW at q;simp only [h1',ne_eq,not_true_eq_false,Gs] at q;have bad:∀ {H1:Hp},jn H H1→¬((k.all (fun x=>decide (x≤2)) && decide (k.length < r.length))=true∧(jV l && zB r.length g.words.length (-1) (jG l))=true)→Q (.int (-3)) H1:=fun {H1} s1 z=>by
    have:=q H1 s1;rw [Cc z] at this;exact this
   refine ⟨_,rfl,_,rfl,a,_,rfl,.inl ha.sq,b,k,(iv r).length,rfl,hb,_,rfl,jB (fun h2=>vG (bad (jn.refl _) fun z=>?_)) (fun h2=>?_)⟩
   ·rw [jy,z.1] at h2;cases h2
   ·have h2':(k.all (fun x=>decide (x≤2)) && decide (k.length < r.length))=true:=by
     rw [jy] at h2;simpa using h2
    refine ⟨_,rfl,_,rfl,a,_,rfl,.inl ha.sq,_,rfl,d,_,rfl,.inl hxs,c,l,(iv r).length,xs.length,rfl,hc,by omega,fun H1 s1=>⟨_,rfl,jB (fun h3=>bad s1 fun z=>?_) (fun h3=>?_)⟩⟩
    ·rw [jy,exs,z.2] at h3;cases h3
    ·have h3':(jV l && zB r.length g.words.length (-1) (jG l))=true:=by
      rw [jy,exs] at h3;simpa using h3
     rw [Ce ⟨h2',h3'⟩] at q;refine ⟨_,rfl,_,rfl,d,a,g,r,rfl,hd.same s1,ha.same s1,ok,hw,by omega,fun H2 p s2 hp=>⟨p,tab g r,rfl,hp,jcy,by rw [vM];omega,jhD ok hw,fun H3 s3=>⟨_,_,rfl,rfl,_,rfl,jB (fun h4=>?_) (fun h4=>?_)⟩⟩⟩
     ·have h4':=Co h4;rw [jkR] at h4';have:=q H3 ((s1.trans s2).trans s3);rw [Ce (by omega)] at this;exact this
     ·have h4':¬(1024:Int) < _:=fun e=>h4 (C3 e);rw [jkR] at h4';have:=q H3 ((s1.trans s2).trans s3);rw [Cc (by omega)] at this;exact this
noncomputable def jex (CW:Addr):Sp:=fun vs H Q _=>∃ (a c d:Addr) (g:Weights) (r:List Nat) (l:List Int),vs=[.ref a,.ref c,.ref d]∧LN H a r∧LI H c l∧vm CW H d g.words∧jc6 g.words∧g.words.length≤128∧l.length≤100000 ∧
 ∀ H',jn H H'→Q (.int (zX g r l)) H'
theorem jaZ (T:Txt K mg t):Cal P w K mg base CX0 6 "refusal_of_pieces" ["reading","pieces","words"] (jex t.c_Word):=by
 refine T.xc0.ok ja3 (fun vs H Q E h=>?_) (fun f cdv A outer s H vs Q E hr h=>?_)
 ·obtain ⟨a,c,d,g,r,l,rfl,_⟩:=h
  rfl
 ·obtain ⟨a,c,d,g,r,l,rfl,ha,hc,hd,ok,hw,hl,q⟩:=h;have nd:=ja3.nd;refine ⟨_,(jd (jE 3 nd (cal (jaO T) hr.m rfl (jb (pv 0) jh)))
   (jd (jz (jw zE (pv 3) jj) (jg (jk (pv 3))) jt)
   (jd (jz (vL (vz (cal (jdD T) hr.m rfl (jb (pv 1) jh)))) (jg (jk (gli T.xd8 rfl))) jt)
   (jd (jz (vL (vz (cal (jpw T) hr.m rfl (jb (cal (jaF T) hr.m rfl (jb (pv 1) jh)) (jb (cal (jdg T) hr.m rfl (jb (pv 2) (jb (pv 0) jh))) jh))))) (jg (jk (gli T.xd9 rfl))) jt)
   (jg (jk jj)))))),?_⟩
  refine ⟨_,rfl,a,r,rfl,ha,?_⟩;refine ⟨_,rfl,rfl,_,rfl,jB (fun h1=>?_) (fun h1=>?_)⟩
  ·have h1':=jdy h1;have:=q H (jn.refl _);unfold zX at this;rw [Ce h1'] at this;exact ⟨_,rfl,this⟩
  ·have h1':=jb8 h1;obtain ⟨rn,rl⟩:=jch h1';unfold zX at q;simp only [h1',ne_eq,not_true_eq_false,Gs] at q;refine ⟨_,rfl,c,l,rfl,hc,by omega,_,rfl,jB (fun h2=>?_) (fun h2=>?_)⟩
   ·have h2':¬jV l=true:=by simpa using h2
    have:=q H (jn.refl _);rw [Cc h2'] at this;exact this
   ·have h2':jV l=true:=by simpa using h2
    rw [Ce h2'] at q;refine ⟨_,rfl,c,l,rfl,hc,by omega,((zS l).mp h2').1,fun H1 p s1 _ hp=>?_⟩;refine ⟨_,rfl,_,rfl,d,a,g,r,rfl,hd.same s1,ha.same s1,ok,hw,by omega,fun H2 p2 s2 hp2=>?_⟩;refine ⟨p,p2,jG l,tab g r,rfl,LP.mono _ _ _ _ hp s2,hp2,jcy,zw h2',_,rfl,jB (fun h3=>?_) (fun h3=>?_)⟩
    ·have h3':¬zc (tab g r) 0 (jG l)=true:=by simpa using h3
     have:=q H2 (s1.trans s2);rw [Cc h3'] at this;exact this
    ·have h3':zc (tab g r) 0 (jG l)=true:=by simpa using h3
     have:=q H2 (s1.trans s2);rw [Ce h3'] at this;exact this
end
noncomputable def Kp (l:List Addr) (H H':Hp):Prop:=∀ a o,H a=some o→a∉l→H' a=some o
theorem Kp.trans {H2:Hp} (a:Kp l H H1) (b:Kp l H1 H2):Kp l H H2:=fun c o h n=>b c o (a c o h n) n
theorem Kp.more {m:List Addr} (a:Kp l H H1) (h:∀ x∈l,x∈m):Kp m H H1:=fun c o e n=>a c o e fun z=>n (h c z)
theorem jn.kp (s:jn H H'):Kp l H H':=fun a o h _=>s a o h
theorem Bes.kp (s:Bes P H H'):Kp [P] H H':=fun a o h n=>s a o h fun z=>n (by simp [z])
theorem Kp.sm (s:Kp l H H') (h:∀ x∈l,∃ u,H x=some u∧Chg u):Sm H H':=fun b o e n=>s b o e fun z=>by
 obtain ⟨u,h1,h2⟩:=h b z;rw [e] at h1;cases h1;exact n h2
theorem Kp.free (s:Kp l H H') (hl:∀ x∈l,H' x≠none) (h:H' p=none):H p=none:=by
 cases e:H p with
 | none=>rfl
 | some o =>
  by_cases z:p∈l
  ·exact absurd h (hl p z)
  ·rw [s p o e z] at h;cases h
theorem jdA {o:HO}:Kp [p] H (upd H p o):=fun b v e n=>by rw [ji (fun z=>n (by simp [z]))];exact e
theorem jdz {o:HO} (h:upd H b o p=none):H p=none:=jdA.free (fun x hx=>by rw [Cm.mp hx,jc];simp) h
theorem jd1 {u o:HO} (h:H p=some u) (c:Chg u):Sm H (upd H p o):=jdA.sm fun x hx=>⟨u,by rw [Cm.mp hx];exact h,c⟩
theorem LI.sm {l:List Int} (h:LI H a l) (s:Sm H H'):LI H' a l:=s _ _ h id
noncomputable def bf (x j:Addr):List (Str×V):=[("words",.ref x),("joins",.ref j)]
theorem zP (x j:Addr):(bf x j).lookup ("words":Str)=some (.ref x):=rfl
theorem jeb (x j:Addr):(bf x j).lookup ("joins":Str)=some (.ref j):=rfl
theorem jsh (C dx x j:Addr):Chg (.ins C dx (bf x j)):=.inl rfl
noncomputable def vi (t:Adr) (H:Hp) (b:Addr) (g:Weights) (js:List Join):Prop:=∃ dx x j,H b=some (.ins t.c_Book dx (bf x j))∧vm t.c_Word H x g.words∧vT t.c_Joins H j g.alone js
theorem vi.same (h:vi t H b g js) (s:jn H H'):vi t H' b g js:=by
 obtain ⟨dx,x,j,h1,h2,h3⟩:=h;exact ⟨dx,x,j,s _ _ h1,h2.same s,h3.same s⟩
theorem vi.kp (h:vi t H b g js) (s:Kp l H H') (hb:b∉l) (m:Sm H H'):vi t H' b g js:=by
 obtain ⟨dx,x,j,h1,h2,h3⟩:=h;exact ⟨dx,x,j,s _ _ h1 hb,h2.sm m,h3.sm m⟩
theorem vi.chg (h:vi t H b g js):∃ u,H b=some u∧Chg u:=by
 obtain ⟨dx,x,j,h1,_⟩:=h;exact ⟨_,h1,jsh ..⟩
structure zM (g:Weights) (js:List Join):Prop where
 ok:jc6 g.words
 hw:g.words.length≤128
 tx:∀ wd∈g.words,wd.text.length≤32
 ja:jgX js
 jl:js.length≤5000
 je:g.joins=j5 js
 al:g.alone≤65535
theorem zM.jo (h:zM g js):JOk g js:=fun x y=>jqx h.ja.1 h.je x y
section
variable {P:Program} {w:World} {K:Frag} {mg:Str→Option Value} {base:Heap} {t:Adr}
noncomputable def jl0 (t:Adr):Sp:=fun vs H Q _=>∃ p dx,vs=[.ref p]∧H p=some (.ins t.c_Book dx [])∧∀ H':Hp,(∀ b o,H b=some o→b≠p→H' b=some o)→vi t H' p bare []→Q .non H'
theorem jlm (T:Txt K mg t):Met P w K mg base 4 t.c_Book "__init__" ["self"] (jl0 t):=by
 refine T.xc5.ok jlO (fun vs H Q E h=>?_) (fun f cdv A outer s H vs Q E hr h=>?_)
 ·obtain ⟨p,dx,rfl,_⟩:=h
  rfl
 ·obtain ⟨p,dx,rfl,hp,k⟩:=h;refine ⟨_,(jd (vJ (pv 0) (jN jh) rfl)
   (jg (vJ (pv 0) (jsj (jfj T) hr.m rfl) rfl))),?_⟩
  refine ⟨by decide,fun q hq=>?_⟩;have qp:p≠q:=jp hp hq;refine ⟨_,rfl,p,t.c_Book,dx,_,rfl,(by rw [ji qp];exact hp),T.xac.cl,T.xad,by decide,?_⟩;refine ⟨rfl,fun H1 j s1 hj=>?_⟩;have h1p:=s1 _ _ (jc (H:=upd H q (.lst [])) (a:=p) (o:=.ins t.c_Book dx (vR "words" (.ref q) [])));have h1q:H1 q=some (.lst []):=s1 _ _ (by rw [ji (Dj qp),jc]);refine ⟨_,rfl,p,t.c_Book,dx,_,rfl,h1p,T.xac.cl,T.xae,(by show 1 < 1000;decide),?_⟩;have m:Sm H1 (upd H1 p (.ins t.c_Book dx (vR "joins" (.ref j) (vR "words" (.ref q) [])))):=jd1 h1p (.inl rfl)
  refine k _ (fun b o e hb=>?_) ⟨dx,q,j,jc,⟨[],m _ _ h1q id,.nil⟩,hj.sm m⟩;rw [ji hb];refine s1 _ _ ?_;rw [ji hb,ji (jp e hq)];exact e
noncomputable def jko (t:Adr):Sp:=fun vs H Q _=>∃ b g js,vs=[.ref b]∧vi t H b g js∧∀ H' p,Kp [b] H H'→H p=none→vi t H' b bare []→LI H' p [0]→Q (.ref p) H'
theorem jj9 (T:Txt K mg t):Cal P w K mg base CX0 4 "begin_anew" ["book"] (jko t):=by
 refine T.xc6.ok jkj (fun vs H Q E h=>?_) (fun f cdv A outer s H vs Q E hr h=>?_)
 ·obtain ⟨_,_,_,rfl,_⟩:=h
  rfl
 ·obtain ⟨b,g,js,rfl,⟨dx,x,j0,hp,_,_⟩,k⟩:=h;refine ⟨_,(jd (vJ (pv 0) (jN jh) rfl)
   (jd (vJ (pv 0) (jsj (jfj T) hr.m rfl) rfl)
   (jg (jk (jN (jb jj jh)))))),?_⟩
  refine ⟨by decide,fun q hq=>?_⟩;have qp:b≠q:=jp hp hq;refine ⟨_,rfl,b,t.c_Book,dx,_,rfl,(by rw [ji qp];exact hp),T.xac.cl,T.xad,(by show 2 < 1000;decide),?_⟩;refine ⟨rfl,fun H1 j s1 hj=>?_⟩;have h1p:=s1 _ _ (jc (H:=upd H q (.lst [])) (a:=b) (o:=.ins t.c_Book dx (vR "words" (.ref q) (bf x j0))));have h1q:H1 q=some (.lst []):=s1 _ _ (by rw [ji (Dj qp),jc]);refine ⟨_,rfl,b,t.c_Book,dx,_,rfl,h1p,T.xac.cl,T.xae,(by show 2 < 1000;decide),?_⟩;have m:Sm H1 (upd H1 b (.ins t.c_Book dx (vR "joins" (.ref j) (vR "words" (.ref q) (bf x j0))))):=jd1 h1p (.inl rfl)
  refine ⟨(by show 1≤sizeLine;rw [Gb];decide),fun p hp'=>?_⟩;have sN:=jq (o:=.lst [V.int 0]) hp';refine k _ p (fun a o e n=>sN _ _ ?_) (jdz (jdz (s1.free (jdz hp')))) (vi.same ⟨dx,q,j,jc,⟨[],m _ _ h1q id,.nil⟩,hj.sm m⟩ sN) jc;have hb:a≠b:=fun z=>n (by simp [z]);rw [ji hb];refine s1 _ _ ?_;rw [ji hb,ji (jp e hq)];exact e
end
noncomputable def jaB (g:Weights) (l:List Nat):Weights×List Int:=if 65536 < l.length then (g,[-1]) else match v0 0 (jS l) [] with
 | .error (i,k)=>(g,[-2,(i:Int),(k:Int)])
 | .ok ws=>({ g with words:=j9 ws },[(ws.length:Int)])
noncomputable def zx (g:Weights) (js:List Join) (l:List Nat):Weights×List Join×List Int:=if 65536 < l.length then (g,js,[-1]) else match va (jS l) with
 | .error (i,k)=>(g,js,[-2,(i:Int),(k:Int)])
 | .ok (a,j)=>({ g with alone:=a,joins:=j5 (vF j) },vF j,[((vF j).length:Int)])
theorem zH:1≤sizeLine:=by rw [Gb];decide
theorem jno (ws:List Word):(j9 ws).length=ws.length:=(jar ws).length_eq
section
variable {P:Program} {w:World} {K:Frag} {mg:Str→Option Value} {base:Heap} {t:Adr}
noncomputable def jkw (t:Adr):Sp:=fun vs H Q _=>∃ (b a:Addr) (g:Weights) (js:List Join) (l:List Nat),vs=[.ref b,.ref a]∧vi t H b g js∧LN H a l∧∀ H' p,Kp [b] H H'→H p=none→vi t H' b (jaB g l).1 js→LI H' p (jaB g l).2→Q (.ref p) H'
theorem jkd (T:Txt K mg t) (U:jc7 K t):Cal P w K mg base CX0 6 "take_words" ["book","text"] (jkw t):=by
 refine T.xc7.ok jeW (fun vs H Q E h=>?_) (fun f cdv A outer s H vs Q E hr h=>?_)
 ·obtain ⟨_,_,_,_,_,rfl,_⟩:=h
  rfl
 ·obtain ⟨b,a,g,js,l,rfl,hb,hl,k⟩:=h;have nd:=jeW.nd;obtain ⟨fI,hK,_⟩:=U.flt;refine ⟨_,(jd (jz (jw zh (vf T.xdl (pv 1)) (gli T.xd3 rfl)) (jg (jk (jN (jb (gli T.xd6 rfl) jh)))) jt)
   (jd (jpK (i:=3) hK T.xai rfl nd rfl rfl rfl rfl (fun _ _=>(jg (jE 2 nd (jkK (jh2 T U) hr.m rfl jrh (jb (pv 1) jh))))) (fun _=>(jg (jk (jN (jb (gli T.xd7 rfl) (jb (jkC hK (Ff rfl) (pv 3)) (jb (jkC hK (Or.inr rfl) (pv 3)) jh))))))))
   (jd (vJ (pv 0) (pv 2) rfl)
   (jg (jk (jN (jb (vf T.xdl (pv 2)) jh))))))),?_⟩
  refine ⟨_,rfl,a,_,rfl,.inl hl.sq,_,_,rfl,rfl,_,rfl,jB (fun h1=>?_) (fun h1=>?_)⟩
  ·have h1':=Co h1;rw [jy] at h1';have e:jaB g l=(g,[-1]):=Ce (by omega);rw [e] at k;exact ⟨zH,fun p hp=>k _ p (jn.kp (jq hp)) hp (hb.same (jq hp)) jc⟩
  ·have h1':¬(65536:Int) < ((iv l).length:Int):=fun e=>h1 (C3 e);rw [jy] at h1';have ew:jaB g l=match v0 0 (jS l) [] with
    | .error (i,k)=>(g,[-2,(i:Int),(k:Int)])
    | .ok ws=>({ g with words:=j9 ws },[(ws.length:Int)]):=Cc (by omega)
   rw [ew] at k;refine ⟨_,rfl,a,l,rfl,hl,by omega,fun i j he dx H1 s1 hx=>⟨dx,rfl,rfl,fun x ob σ' hx' hc hd hnc hlen=>?_⟩,fun ws he H1 p s1 hp=>?_⟩
   ·rw [he] at k;have hg:=Gu (a:=some (V.ref x)) hlen;exact ⟨_,hg,x,ob,dx,_,.int i,rfl,hx',hc,hnc,hd,hx,rfl,_,hg,x,ob,dx,_,.int j,rfl,hx',hc,hnc,hd,hx,rfl,(by show 3≤sizeLine;rw [Gb];decide),fun p hp=>k _ p (jn.kp (s1.trans (jq hp))) (s1.free hp) (hb.same (s1.trans (jq hp))) jc⟩
   ·rw [he] at k;obtain ⟨dx,x,j0,hp0,hp1,hp2⟩:=hb;have hb1:=s1 _ _ hp0;refine ⟨_,rfl,_,rfl,b,t.c_Book,dx,_,rfl,hb1,T.xac.cl,T.xad,(by show 2 < 1000;decide),?_⟩;have m:Sm H1 (upd H1 b (.ins t.c_Book dx (vR "words" (.ref p) (bf x j0)))):=jd1 hb1 (.inl rfl);obtain ⟨xs,hxs,exs⟩:=jml (K:=K) (hp.sm m);refine ⟨_,rfl,p,_,rfl,.inl hxs,zH,fun p2 hp2'=>?_⟩;have sN:=jq (o:=.lst [V.int (xs.length:Nat)]) hp2';refine k _ p2 (Kp.trans (Kp.trans (jn.kp s1) jdA) (jn.kp sN)) (s1.free (jdz hp2')) (vi.same ⟨dx,p,j0,jc,hp.sm m,(hp2.same s1).sm m⟩ sN) ?_;rw [exs,jno] at *;exact jc
noncomputable def jku (t:Adr):Sp:=fun vs H Q _=>∃ (b a:Addr) (g:Weights) (js:List Join) (l:List Nat),vs=[.ref b,.ref a]∧vi t H b g js∧LN H a l∧∀ H' p,Kp [b] H H'→H p=none→vi t H' b (zx g js l).1 (zx g js l).2.1→LI H' p (zx g js l).2.2→Q (.ref p) H'
theorem jkc (T:Txt K mg t) (U:jc7 K t):Cal P w K mg base CX0 6 "take_joins" ["book","text"] (jku t):=by
 refine T.xc8.ok jeV (fun vs H Q E h=>?_) (fun f cdv A outer s H vs Q E hr h=>?_)
 ·obtain ⟨_,_,_,_,_,rfl,_⟩:=h
  rfl
 ·obtain ⟨b,a,g,js,l,rfl,hb,hl,k⟩:=h;have nd:=jeV.nd;obtain ⟨fI,hK,_⟩:=U.flt;refine ⟨_,(jd (jz (jw zh (vf T.xdl (pv 1)) (gli T.xd3 rfl)) (jg (jk (jN (jb (gli T.xd6 rfl) jh)))) jt)
   (jd (jpK (i:=3) hK T.xai rfl nd rfl rfl rfl rfl (fun _ _=>(jg (jE 2 nd (jkK (jkb T U) hr.m rfl jrh (jb (pv 1) jh))))) (fun _=>(jg (jk (jN (jb (gli T.xd7 rfl) (jb (jkC hK (Ff rfl) (pv 3)) (jb (jkC hK (Or.inr rfl) (pv 3)) jh))))))))
   (jd (vJ (pv 0) (pv 2) rfl)
   (jg (jk (jN (jb (jcf joR rfl T.xdl PySem.boot_len (jb (jH (pv 2) rfl) jh)) jh))))))),?_⟩
  refine ⟨_,rfl,a,_,rfl,.inl hl.sq,_,_,rfl,rfl,_,rfl,jB (fun h1=>?_) (fun h1=>?_)⟩
  ·have h1':=Co h1;rw [jy] at h1';have e:zx g js l=(g,js,[-1]):=Ce (by omega);rw [e] at k;exact ⟨zH,fun p hp=>k _ p (jn.kp (jq hp)) hp (hb.same (jq hp)) jc⟩
  ·have h1':¬(65536:Int) < ((iv l).length:Int):=fun e=>h1 (C3 e);rw [jy] at h1';have ew:zx g js l=match va (jS l) with
    | .error (i,k)=>(g,js,[-2,(i:Int),(k:Int)])
    | .ok (a,j)=>({ g with alone:=a,joins:=j5 (vF j) },vF j,[((vF j).length:Int)]):=Cc (by omega)
   rw [ew] at k;refine ⟨_,rfl,a,l,rfl,hl,by omega,fun i j he dx H1 s1 hx=>⟨dx,rfl,rfl,fun x ob σ' hx' hc hd hnc hlen=>?_⟩,fun z j he H1 p s1 hp=>?_⟩
   ·rw [he] at k;have hg:=Gu (a:=some (V.ref x)) hlen;exact ⟨_,hg,x,ob,dx,_,.int i,rfl,hx',hc,hnc,hd,hx,rfl,_,hg,x,ob,dx,_,.int j,rfl,hx',hc,hnc,hd,hx,rfl,(by show 3≤sizeLine;rw [Gb];decide),fun p hp=>k _ p (jn.kp (s1.trans (jq hp))) (s1.free hp) (hb.same (s1.trans (jq hp))) jc⟩
   ·rw [he] at k;obtain ⟨dx,x,j0,hp0,hp1,hp2⟩:=hb;have hb1:=s1 _ _ hp0;refine ⟨_,rfl,_,rfl,b,t.c_Book,dx,_,rfl,hb1,T.xac.cl,T.xae,(by show 2 < 1000;decide),?_⟩;have m:Sm H1 (upd H1 b (.ins t.c_Book dx (vR "joins" (.ref p) (bf x j0)))):=jd1 hb1 (.inl rfl);have hp3:=hp.sm m;obtain ⟨dj,dd,hj1,hj2⟩:=id hp3;refine ⟨_,rfl,p,t.c_Joins,dj,_,_,rfl,hj1,T.xa0.cl,T.xa2,jeh _ _,dd,_,rfl,hj2,zH,fun p2 hp2'=>?_⟩;have sN:=jq (o:=.lst [V.int (((vF j).map jkv).length:Nat)]) hp2'
    refine k _ p2 (Kp.trans (Kp.trans (jn.kp s1) jdA) (jn.kp sN)) (s1.free (jdz hp2')) (vi.same ⟨dx,x,p,jc,(hp1.same s1).sm m,hp3⟩ sN) ?_;rw [Cb] at *;exact jc
theorem jgW {z:Nat} (h:jgX js) (hl:js.length≤5000) (hz:z≤65535):(zp z (j5 js)).length≤110008:=by
 unfold zp;rw [Ci];have h1:(j5 js).Perm js:=zg js;have h2:=jfa (js:=j5 js) fun j hj=>h.2.2 j (h1.mem_iff.mp hj);have h3:=jg6 (l:=[z]) (by intro n hn;rw [Cm.mp hn];omega);rw [h1.length_eq] at h2;simp only [Cd,Ct] at h3;omega
theorem jiS (l:List Nat):iv l=zv (Sy.ints l):=by
 unfold iv zv Sy.ints;rw [D4]
 rfl
noncomputable def ji8 (t:Adr):Sp:=fun vs H Q _=>∃ (b:Addr) (g:Weights) (js:List Join),vs=[.ref b]∧vi t H b g js∧zM g js∧∀ H' p,jn H H'→H p=none→LI H' p (((zp g.alone g.joins).length:Int) :: Sy.ints (zp g.alone g.joins))→Q (.ref p) H'
theorem jiZ (T:Txt K mg t):Cal P w K mg base CX0 3 "write_joins" ["book"] (ji8 t):=by
 refine T.xc9.ok jd0 (fun vs H Q E h=>?_) (fun f cdv A outer s H vs Q E hr h=>?_)
 ·obtain ⟨_,_,_,rfl,_⟩:=h
  rfl
 ·obtain ⟨b,g,js,rfl,⟨dx,x,j,h1,h2,h3⟩,bo,k⟩:=h;have nd:=jd0.nd;refine ⟨_,(jd (jE 1 nd (cal (jhf T) hr.m rfl (jb (jH (pv 0) rfl) jh)))
   (jg (jk (jY jaG (jN (jb (vf T.xdl (pv 1)) jh)) (pv 1))))),?_⟩
  refine ⟨_,rfl,b,t.c_Book,dx,_,_,rfl,h1,T.xac.cl,T.xae,jeb _ _,j,g.alone,js,rfl,h3,bo.ja,bo.jl,bo.al,fun H1 p s1 hp0 hp=>?_⟩;have wl:=jgW bo.ja bo.jl bo.al;refine ⟨_,rfl,p,_,rfl,.inl hp.sq,zH,fun q hq=>?_⟩;have sq:=jq (o:=.lst [V.int ((iv (zp g.alone (j5 js))).length:Nat)]) hq;refine ⟨_,rfl,q,p,_,_,rfl,rfl,jc,sq _ _ hp,v7 (by rw [jy];simp only [Cd,Ct];omega),fun p2 hp2=>?_⟩;rw [bo.je] at k;refine k _ p2 ((s1.trans sq).trans (jq hp2)) ((s1.trans sq).free hp2) ?_;rw [jy,jiS];exact jc
noncomputable def jkq (t:Adr):Sp:=fun vs H Q _=>∃ (b a c d:Addr) (g:Weights) (js:List Join) (r k:List Nat) (l:List Int),vs=[.ref b,.ref a,.ref c,.ref d]∧vi t H b g js∧LN H a r∧LN H c k∧LI H d l∧jc6 g.words∧g.words.length≤128∧r.length≤24∧k.length < r.length∧l.length≤100000 ∧
 jV l=true∧zB r.length g.words.length (-1) (jG l)=true∧∀ H' p,jn H H'→Tb H' p (zo g (keepsAt (vS k l) r.length) 0 r)→Q (.ref p) H'
theorem jeK (T:Txt K mg t):Cal P w K mg base CX0 6 "kept_table" ["book","reading","cuts","choices"] (jkq t):=by
 refine T.xca.ok jkk (fun vs H Q E h=>?_) (fun f cdv A outer s H vs Q E hr h=>?_)
 ·obtain ⟨_,_,_,_,_,_,_,_,_,rfl,_⟩:=h
  rfl
 ·obtain ⟨b,a,c,d,g,js,r,k,l,rfl,⟨dx,x,j,h1,h2,h3⟩,ha,hc,hd,ok,hw,hr24,hk,hl,he,hch,q⟩:=h;refine ⟨_,(jg (jk (cal (jog T) hr.m rfl (jb (cal (jdg T) hr.m rfl (jb (jH (pv 0) rfl) (jb (pv 1) jh))) (jb (cal (jpx T) hr.m rfl (jb (vf T.xdl (pv 1)) (jb (pv 2) (jb (pv 3) jh)))) jh))))),?_⟩;refine ⟨_,rfl,b,t.c_Book,dx,_,_,rfl,h1,T.xac.cl,T.xad,zP _ _,_,rfl,x,a,g,r,rfl,h2,ha,ok,hw,by omega,fun H1 p s1 hp=>?_⟩;refine ⟨_,rfl,a,_,rfl,.inl (ha.same s1).sq,_,rfl,_,rfl,c,d,(iv r).length,k,l,rfl,hc.same s1,hd.same s1,by rw [jy];exact hk,by rw [jy];omega,hl,((zS l).mp he).1,(je6 hch).1,fun H2 p2 s2 hp2=>?_⟩
  have e:(iv r).length=(tab g r).length:=by rw [jy,vM]
  rw [e] at hp2;refine ⟨p,p2,tab g r,k,jG l,rfl,Tb.mono _ _ _ _ hp s2,hp2,jcy,by rw [vM];omega,jhD ok hw,by rw [vM];exact hk,fun H3 p3 s3 hp3=>?_⟩;refine q H3 p3 ((s1.trans s2).trans s3) ?_;rw [vM] at hp3;have e2:=jnj (g:=g) (n:=r.length) hk hch r 0 (Fy _);unfold tab at hp3;rw [e2] at hp3;exact hp3
end
end
section
variable {H H':Hp} {PT C p q f:Addr} {x:Str} {l xs s:List Int} {K:Frag} {n k:Nat} {g:Weights} {ps:List Str} {oc:Value} {od:Option Addr} {osl:Array (Option Value)} {r:Text} {t:Adr} {js:List Join} {X:Cx}
theorem jnL (tx:∀ wd∈g.words,wd.text.length≤32):∀ (l:List PP) (k:Nat),jiM g.words.length r.length k l→(txt g r k (jR l)).length≤32 * l.length
 | [],k,_=>C4 _
 | p :: l,k,h=>by
  have ih:=jnL tx l (k+p.1.toNat) h.2;rw [jmh,Ci,Cd];have:(g.sign ⟨p.1.toNat,jQ p.2⟩ ((r.drop k).take p.1.toNat)).length≤32:=by
   unfold Weights.sign;rcases h.1 with ⟨h1,h2,_⟩|⟨h1,h2,_⟩
   ·rw [jjd h1,h2];show ((r.drop k).take 1).length≤32;rw [Dq];omega
   ·have hi:p.2.toNat < g.words.length:=by omega
    rw [jjc h1 (Cz hi)];exact tx _ (List.getElem_mem hi)
  omega
theorem jnD {k:Text} (h:zW g r k l=0):jax r=0∧k.length < r.length∧jV l=true∧zB r.length g.words.length (-1) (jG l)=true∧manyWays g r≤1024:=by
 unfold zW at h;by_cases c:jax r≠0
 ·rw [Ce c] at h;exact absurd h c
 ·rw [Cc c] at h;have c':jax r=0:=Decidable.not_not.mp c;split at h
  ·rename_i z;obtain ⟨z1,z2⟩:=z;rw [Cn] at z1 z2;split at h
   ·cases h
   ·exact ⟨c',Co z1.2,z2.1,z2.2,by omega⟩
  ·cases h
theorem jnE (h:zX g r l=0):jax r=0∧jV l=true∧zc (tab g r) 0 (jG l)=true:=by
 unfold zX at h;by_cases c:jax r≠0
 ·rw [Ce c] at h;exact absurd h c
 ·rw [Cc c] at h;have c':jax r=0:=Decidable.not_not.mp c;split at h
  ·rename_i z;split at h
   ·rename_i z2;exact ⟨c',z,z2⟩
   ·cases h
  ·cases h
theorem jnP:∀ (T:List (List PP)),∀ ws∈wys T,∀ w∈ws,w.length≤T.length
 | [],ws,h,w,hw=>by
  rw [wys,Cm] at h;rw [h,Cm] at hw;rw [hw];exact Cl _
 | r :: T,ws,h,w,hw=>by
  have ih:=jnP T;rw [wys] at h;rw [Cd];rcases Cp.mp h with rfl|h
  ·obtain ⟨q,hq,hw⟩:=Gx.mp hw;obtain ⟨w',hw',rfl⟩:=Dh.mp hw;cases hk:(wys T)[q.1.toNat - 1]? with
   | none=>rw [Cq,hk] at hw';cases hw'
   | some l =>
    rw [Cq,hk] at hw';have:=ih l (Cw hk) w' hw';rw [Cd];omega
  ·have:=ih ws h w hw;omega
theorem jhG (T:List (List PP)):(wys T).headD []∈wys T:=by
 cases T with
 | nil=>simp [wys]
 | cons=>simp [wys]
theorem jnb (v:Way):(v.map pc).flatMap (fun p=>[p.1,p.2])=SyD.flat v:=by
 unfold SyD.flat;rw [List.flatMap_map]
 rfl
noncomputable def jkB (g:Weights) (r k:Text) (l:List Int):List Int:=if zW g r k l≠0 then [zW g r k l] else [((kept g r (vS k l)).length:Int)]
noncomputable def jem (g:Weights) (n:Nat) (r k:Text) (l:List Int):List Int:=if zW g r k l≠0 then [zW g r k l] else match (kept g r (vS k l))[n]? with
 | some v=>(v.length:Int) :: (wayCost g v:Int) :: SyD.flat v
 | none=>[-5]
noncomputable def jfX (g:Weights) (r:Text) (l:List Int):List Int:=if zX g r l≠0 then [zX g r l] else [(wayCost g (jR (jG l)):Int)]
noncomputable def jga (g:Weights) (r:Text) (l:List Int):List Int:=if zX g r l≠0 then [zX g r l] else ((wayText g r (jR (jG l))).length:Int) :: Sy.ints (wayText g r (jR (jG l)))
section
variable {P:Program} {w:World} {K:Frag} {mg:Str→Option Value} {base:Heap} {t:Adr}
noncomputable def jl9 (t:Adr):Sp:=fun vs H Q _=>∃ (b a c d:Addr) (g:Weights) (js:List Join) (r k:List Nat) (l:List Int),vs=[.ref b,.ref a,.ref c,.ref d]∧vi t H b g js∧zM g js∧LN H a r∧LN H c k∧LI H d l∧l.length≤100000∧∀ H' p,jn H H'→H p=none→LI H' p (jkB g r k l)→Q (.ref p) H'
theorem jlu (T:Txt K mg t):Cal P w K mg base CX0 7 "tell_many" ["book","reading","cuts","choices"] (jl9 t):=by
 refine T.xcb.ok jfH (fun vs H Q E h=>?_) (fun f cdv A outer s H vs Q E hr h=>?_)
 ·obtain ⟨_,_,_,_,_,_,_,_,_,rfl,_⟩:=h
  rfl
 ·obtain ⟨b,a,c,d,g,js,r,k,l,rfl,hb,bo,ha,hc,hd,hl,q⟩:=h;have nd:=jfH.nd;obtain ⟨dx,x,j,h1,h2,h3⟩:=id hb;refine ⟨_,(jd (jE 4 nd (cal (jaP T) hr.m rfl (jb (pv 1) (jb (pv 2) (jb (pv 3) (jb (jH (pv 0) rfl) jh))))))
   (jd (jz (jw zE (pv 4) jj) (jg (jk (jN (jb (pv 4) jh)))) jt)
   (jg (jk (jN (jb (cal (jeJ T) hr.m rfl (jb (cal (jeK T) hr.m rfl (jb (pv 0) (jb (pv 1) (jb (pv 2) (jb (pv 3) jh))))) jh)) jh)))))),?_⟩
  refine ⟨_,rfl,_,rfl,_,rfl,_,rfl,b,t.c_Book,dx,_,_,rfl,h1,T.xac.cl,T.xad,zP _ _,a,c,d,x,g,r,k,l,rfl,ha,hc,hd,h2,bo.ok,bo.hw,hl,fun H1 s1=>?_⟩;refine ⟨_,rfl,rfl,_,rfl,jB (fun h4=>?_) (fun h4=>?_)⟩
  ·have h4':=jdy h4;refine ⟨_,rfl,zH,fun p hp=>q _ p (s1.trans (jq hp)) (s1.free hp) ?_⟩;unfold jkB;rw [Ce h4'];exact jc
  ·have h4':=jb8 h4;obtain ⟨e1,e2,e3,e4,e5⟩:=jnD h4';obtain ⟨rn,rl⟩:=jch e1;refine ⟨_,rfl,_,rfl,_,rfl,_,rfl,b,a,c,d,g,js,r,k,l,rfl,hb.same s1,ha.same s1,hc.same s1,hd.same s1,bo.ok,bo.hw,rl,e2,hl,e3,e4,fun H2 p s2 hp=>?_⟩;refine ⟨p,_,rfl,hp,jcy,by rw [zl];omega,jhD bo.ok bo.hw,fun H3 s3=>⟨zH,fun p2 hp2=>q _ p2 (((s1.trans s2).trans s3).trans (jq hp2)) (((s1.trans s2).trans s3).free hp2) ?_⟩⟩;unfold jkB;rw [Cc (by rw [h4'];simp)];have e:(cnt (zo g (keepsAt (vS k l) r.length) 0 r)).headD 0=(kept g r (vS k l)).length:=by
    rw [List.headD_eq_head?_getD,jqA]
    rfl
   rw [e] at *;exact jc
noncomputable def jl8 (t:Adr):Sp:=fun vs H Q _=>∃ (b a d:Addr) (g:Weights) (js:List Join) (r:List Nat) (l:List Int),vs=[.ref b,.ref a,.ref d]∧vi t H b g js∧zM g js∧LN H a r∧LI H d l∧l.length≤100000∧∀ H' p,jn H H'→H p=none→LI H' p (jfX g r l)→Q (.ref p) H'
theorem jlt (T:Txt K mg t):Cal P w K mg base CX0 7 "tell_cost" ["book","reading","pieces"] (jl8 t):=by
 refine T.xcd.ok jfG (fun vs H Q E h=>?_) (fun f cdv A outer s H vs Q E hr h=>?_)
 ·obtain ⟨_,_,_,_,_,_,_,rfl,_⟩:=h
  rfl
 ·obtain ⟨b,a,d,g,js,r,l,rfl,hb,bo,ha,hd,hl,q⟩:=h;have nd:=jfG.nd;obtain ⟨dx,x,j,h1,h2,h3⟩:=id hb;refine ⟨_,(jd (jE 3 nd (cal (jaZ T) hr.m rfl (jb (pv 1) (jb (pv 2) (jb (jH (pv 0) rfl) jh)))))
   (jd (jz (jw zE (pv 3) jj) (jg (jk (jN (jb (pv 3) jh)))) jt)
   (jg (jk (jN (jb (cal (jbj T) hr.m rfl (jb (cal (jaF T) hr.m rfl (jb (pv 2) jh)) (jb (jH (pv 0) rfl) (jb (jH (pv 0) rfl) jh)))) jh)))))),?_⟩
  refine ⟨_,rfl,_,rfl,_,rfl,b,t.c_Book,dx,_,_,rfl,h1,T.xac.cl,T.xad,zP _ _,a,d,x,g,r,l,rfl,ha,hd,h2,bo.ok,bo.hw,hl,fun H1 s1=>?_⟩;refine ⟨_,rfl,rfl,_,rfl,jB (fun h4=>?_) (fun h4=>?_)⟩
  ·have h4':=jdy h4;refine ⟨_,rfl,zH,fun p hp=>q _ p (s1.trans (jq hp)) (s1.free hp) ?_⟩;unfold jfX;rw [Ce h4'];exact jc
  ·have h4':=jb8 h4;obtain ⟨e1,e2,e3⟩:=jnE h4';obtain ⟨w1,w2,w3⟩:=jhE e3 (zw e2);refine ⟨_,rfl,d,l,rfl,hd.same s1,by omega,((zS l).mp e2).1,fun H2 p s2 hp0 hp=>?_⟩;have s12:=s1.trans s2;refine ⟨_,rfl,b,t.c_Book,dx,_,_,rfl,s12 _ _ h1,T.xac.cl,T.xad,zP _ _,_,rfl,b,t.c_Book,dx,_,_,rfl,s12 _ _ h1,T.xac.cl,T.xae,jeb _ _,?_⟩;refine ⟨p,x,j,jG l,g,js,rfl,hp,h2.same s12,h3.same s12,w2,bo.jo,fun H3 s3=>⟨zH,fun p2 hp2=>q _ p2 ((s12.trans s3).trans (jq hp2)) ((s12.trans s3).free hp2) ?_⟩⟩;unfold jfX;rw [Cc (by rw [h4'];simp)];exact jc
noncomputable def jma (t:Adr):Sp:=fun vs H Q _=>∃ (b a d:Addr) (g:Weights) (js:List Join) (r:List Nat) (l:List Int),vs=[.ref b,.ref a,.ref d]∧vi t H b g js∧zM g js∧LN H a r∧LI H d l∧l.length≤100000∧∀ H' p,jn H H'→H p=none→LI H' p (jga g r l)→(jga g r l).length≤1000→Q (.ref p) H'
theorem jlv (T:Txt K mg t):Cal P w K mg base CX0 7 "tell_text" ["book","reading","pieces"] (jma t):=by
 refine T.xce.ok jfI (fun vs H Q E h=>?_) (fun f cdv A outer s H vs Q E hr h=>?_)
 ·obtain ⟨_,_,_,_,_,_,_,rfl,_⟩:=h
  rfl
 ·obtain ⟨b,a,d,g,js,r,l,rfl,hb,bo,ha,hd,hl,q⟩:=h;have nd:=jfI.nd;obtain ⟨dx,x,j,h1,h2,h3⟩:=id hb;refine ⟨_,(jd (jE 3 nd (cal (jaZ T) hr.m rfl (jb (pv 1) (jb (pv 2) (jb (jH (pv 0) rfl) jh)))))
   (jd (jz (jw zE (pv 3) jj) (jg (jk (jN (jb (pv 3) jh)))) jt)
   (jd (jE 4 nd (cal (jiY T) hr.m rfl (jb (cal (jaF T) hr.m rfl (jb (pv 2) jh)) (jb (jH (pv 0) rfl) (jb (pv 1) jh)))))
   (jg (jk (jY jaG (jN (jb (vf T.xdl (pv 4)) jh)) (pv 4))))))),?_⟩
  refine ⟨_,rfl,_,rfl,_,rfl,b,t.c_Book,dx,_,_,rfl,h1,T.xac.cl,T.xad,zP _ _,a,d,x,g,r,l,rfl,ha,hd,h2,bo.ok,bo.hw,hl,fun H1 s1=>?_⟩;refine ⟨_,rfl,rfl,_,rfl,jB (fun h4=>?_) (fun h4=>?_)⟩
  ·have h4':=jdy h4;have e:jga g r l=[zX g r l]:=Ce h4';rw [e] at q;exact ⟨_,rfl,zH,fun p hp=>q _ p (s1.trans (jq hp)) (s1.free hp) jc (by show 1≤1000;decide)⟩
  ·have h4':=jb8 h4;obtain ⟨e1,e2,e3⟩:=jnE h4';obtain ⟨rn,rl⟩:=jch e1;obtain ⟨w1,w2,w3⟩:=jhE e3 (zw e2);refine ⟨_,rfl,d,l,rfl,hd.same s1,by omega,((zS l).mp e2).1,fun H2 p s2 hp0 hp=>?_⟩;have s12:=s1.trans s2;refine ⟨_,rfl,b,t.c_Book,dx,_,_,rfl,s12 _ _ h1,T.xac.cl,T.xad,zP _ _,_,rfl,?_⟩;refine ⟨p,x,a,jG l,g,r,rfl,hp,h2.same s12,ha.same s12,w1,by omega,bo.tx,fun H3 p3 s3 hp30 hp3=>?_⟩;have tl:=jnL bo.tx (jG l) 0 w1;have tl':(wayText g r (jR (jG l))).length≤32 * (jG l).length:=tl;refine ⟨_,rfl,p3,_,rfl,.inl hp3.sq,zH,fun p4 hp4=>?_⟩
   have s4:=jq (o:=.lst [V.int ((iv (wayText g r (jR (jG l)))).length:Nat)]) hp4;refine ⟨_,rfl,p4,p3,_,_,rfl,rfl,jc,s4 _ _ hp3,v7 (by rw [jy];simp only [Cd,Ct];omega),fun p5 hp5=>q _ p5 (((s12.trans s3).trans s4).trans (jq hp5)) (((s12.trans s3).trans s4).free hp5) ?_ ?_⟩
   ·unfold jga;rw [Cc (by rw [h4'];simp),jy,jiS];exact jc
   ·unfold jga;rw [Cc (by rw [h4'];simp),Cd];unfold Sy.ints;rw [Cb];omega
end
theorem jqF {m:List (Int×List PP)} {ws:List (List PP)} {cost:List PP→Int} (h:∀ z:Int,m.filter (fun y=>y.1 == z)=(ws.map fun w=>(cost w,w)).filter fun y=>y.1 == z):∀ y∈m,y.2∈ws:=fun y hy=>by
 have:y∈m.filter fun z=>z.1 == y.1:=Dx.mpr ⟨hy,by simp⟩;rw [h] at this;obtain ⟨v,hv,e⟩:=Dh.mp (Dx.mp this).1;rw [←e];exact hv
section
variable {P:Program} {w:World} {K:Frag} {mg:Str→Option Value} {base:Heap} {t:Adr}
noncomputable def jmP (t:Adr) (PT:Addr):Sp:=fun vs H Q _=>∃ (b a c d:Addr) (n:Nat) (g:Weights) (js:List Join) (r k:List Nat) (l:List Int),vs=[.ref b,.int (n:Int),.ref a,.ref c,.ref d]∧vi t H b g js∧zM g js∧LN H a r∧LN H c k∧LI H d l∧l.length≤100000∧HW PT H ∧
 ∀ H' p,Bes PT H H'→H p=none→HW PT H'→LI H' p (jem g n r k l)→(jem g n r k l).length≤1000→Q (.ref p) H'
theorem jmF (T:Txt K mg t) (L:jiN K mg base PT):Cal P w K mg base CX0 7 "tell_nth" ["book","number","reading","cuts","choices"] (jmP t PT):=by
 refine T.xcc.ok jgR (fun vs H Q E h=>?_) (fun f cdv A outer s H vs Q E hr h=>?_)
 ·obtain ⟨_,_,_,_,_,_,_,_,_,_,rfl,_⟩:=h
  rfl
 ·obtain ⟨b,a,c,d,n,g,js,r,k,l,rfl,hb,bo,ha,hc,hd,hl,hW,q⟩:=h;have nd:=jgR.nd;obtain ⟨dx,x,j,h1,h2,h3⟩:=id hb;refine ⟨_,(jd (jE 5 nd (cal (jaP T) hr.m rfl (jb (pv 2) (jb (pv 3) (jb (pv 4) (jb (jH (pv 0) rfl) jh))))))
   (jd (jz (jw zE (pv 5) jj) (jg (jk (jN (jb (pv 5) jh)))) jt)
   (jd (jE 6 nd (cal (jhg T L) hr.m rfl (jb (cal (jeK T) hr.m rfl (jb (pv 0) (jb (pv 2) (jb (pv 3) (jb (pv 4) jh))))) (jb (jH (pv 0) rfl) (jb (jH (pv 0) rfl) jh)))))
   (jd (jz (jw jrf (pv 1) (vf T.xdl (pv 6))) (jg (jk (jN (jb (gli T.xd9 rfl) jh)))) jt)
   (jd (jE 7 nd (jC jJ (pv 6) (pv 1)))
   (jg (jk (jY jaG (jN (jb (vf T.xdl (pv 7)) (jb (cal (jbj T) hr.m rfl (jb (pv 7) (jb (jH (pv 0) rfl) (jb (jH (pv 0) rfl) jh)))) jh))) (cal (jh3 T) hr.m rfl (jb (pv 7) jh)))))))))),?_⟩
  refine ⟨_,rfl,_,rfl,_,rfl,_,rfl,b,t.c_Book,dx,_,_,rfl,h1,T.xac.cl,T.xad,zP _ _,a,c,d,x,g,r,k,l,rfl,ha,hc,hd,h2,bo.ok,bo.hw,hl,fun H1 s1=>?_⟩;refine ⟨_,rfl,rfl,_,rfl,jB (fun h4=>?_) (fun h4=>?_)⟩
  ·have h4':=jdy h4;have e:jem g n r k l=[zW g r k l]:=Ce h4';rw [e] at q;exact ⟨_,rfl,zH,fun p hp=>q _ p (jn.bes (s1.trans (jq hp))) (s1.free hp) (hW.same (s1.trans (jq hp))) jc (by show 1≤1000;decide)⟩
  ·have h4':=jb8 h4;obtain ⟨e1,e2,e3,e4,e5⟩:=jnD h4';obtain ⟨rn,rl⟩:=jch e1;refine ⟨_,rfl,_,rfl,_,rfl,_,rfl,b,a,c,d,g,js,r,k,l,rfl,hb.same s1,ha.same s1,hc.same s1,hd.same s1,bo.ok,bo.hw,rl,e2,hl,e3,e4,fun H2 p s2 hp=>?_⟩;have s12:=s1.trans s2;have ehd:(wys (zo g (keepsAt (vS k l) r.length) 0 r)).headD []=((vN g r).filter (keeps (vS k l) r)).map (List.map pc):=by
    rw [List.headD_eq_head?_getD,jjF]
    rfl
   refine ⟨_,rfl,b,t.c_Book,dx,_,_,rfl,s12 _ _ h1,T.xac.cl,T.xad,zP _ _,_,rfl,b,t.c_Book,dx,_,_,rfl,s12 _ _ h1,T.xac.cl,T.xae,jeb _ _,?_⟩;refine ⟨p,x,j,_,g,js,rfl,hp,h2.same s12,h3.same s12,jcy,by rw [zl];omega,fun _ _ hk=>jsb e5 hk,fun v hv=>jmo jnH _ (jhG _) v hv,bo.jo,hW.same s12,fun H3 p3 m hB hW3 hp3 hm hf=>?_⟩;have em:m.map (·.2)=(kept g r (vS k l)).map (List.map pc):=jmy hm (by rw [ehd] at hf;exact hf);have hmem:∀ v∈kept g r (vS k l),v.map pc∈(wys (zo g (keepsAt (vS k l) r.length) 0 r)).headD []:=fun v hv=>by
    have:v.map pc∈m.map (·.2):=by rw [em];exact List.mem_map_of_mem hv
    obtain ⟨y,hy,e⟩:=Dh.mp this;rw [←e];exact jqF hf y hy
   rw [em] at hp3;obtain ⟨as,hp3a,hp3b⟩:=hp3;have elen:as.length=(kept g r (vS k l)).length:=by rw [Cr hp3b,Cb]
   have b3:Bes PT H H3:=(jn.bes s12).trans hB;have bne:b≠PT:=fun z=>by
    obtain ⟨u,hu⟩:=hW.ext;rw [z,hu] at h1;cases h1
   have hb3:=b3 _ _ h1 bne;have sm3:=Bes.sm hW b3;have fr3:∀ {x:Addr},H3 x=none→H x=none:=fun h=>b3.kp.free (fun x hx=>by
    obtain ⟨u,hu⟩:=hW3.ext;rw [Cm.mp hx,hu];simp) h
   refine ⟨_,rfl,_,rfl,p3,_,rfl,.inl (SqL.of hp3a),_,_,rfl,rfl,_,rfl,jB (fun h5=>?_) (fun h5=>?_)⟩
   ·have h5':=Co h5;rw [Cb,elen] at h5';have e:jem g n r k l=[-5]:=by
     unfold jem;rw [Cc (by rw [h4'];simp),Jv (by omega)]
    rw [e] at q;exact ⟨zH,fun p hp=>q _ p (b3.trans (jn.bes (jq hp))) (fr3 hp) (hW3.same (jq hp)) jc (by show 1≤1000;decide)⟩
   ·have h5':¬(((as.map V.ref).length:Nat):Int)≤(n:Int):=fun e=>h5 (C3 e);rw [Cb,elen] at h5';have hn:n < (kept g r (vS k l)).length:=by omega
    have hv:(kept g r (vS k l))[n]?=some (kept g r (vS k l))[n]:=Cz hn;generalize (kept g r (vS k l))[n]=v at hv;have hvm:=hmem v (Cw hv);obtain ⟨y,hy1,hy2⟩:=LOf.get hp3b (x:=v.map pc) (i:=n) (by rw [Dz,hv];rfl);have vpc:=jmo (F:=je3 g.words.length) jnH _ (jhG _) _ hvm;have vlen:=jnP _ _ (jhG _) _ hvm;rw [Cb,zl] at vlen;obtain ⟨ys,hys,hys2⟩:=id hy2;have eys:ys.length=v.length:=by rw [Cr hys2,Cb]
    refine ⟨_,rfl,_,rfl,p3,_,_,_,rfl,rfl,SqL.of hp3a,vn hy1,?_⟩;refine ⟨_,rfl,y,_,rfl,.inl (SqL.of hys),_,rfl,_,rfl,b,t.c_Book,dx,_,_,rfl,hb3,T.xac.cl,T.xad,zP _ _,_,rfl,b,t.c_Book,dx,_,_,rfl,hb3,T.xac.cl,T.xae,jeb _ _,?_⟩;refine ⟨y,x,j,v.map pc,g,js,rfl,hy2,h2.sm sm3,h3.sm sm3,vpc,bo.jo,fun H4 s4=>⟨(by show 2≤sizeLine;rw [Gb];decide),fun p4 hp4=>?_⟩⟩;have s5:=jq (o:=.lst [V.int ((ys.map V.ref).length:Nat),V.int ((wayCost g (jR (v.map pc)):Nat):Int)]) hp4;refine ⟨_,rfl,y,v.map pc,rfl,LP.mono _ _ _ _ hy2 (s4.trans s5),by rw [Cb];omega,fun H6 p6 s6 hp60 hp6=>?_⟩
    refine ⟨p4,p6,_,_,rfl,rfl,s6 _ _ jc,hp6,v7 (by rw [zL,jee,show (v.map pc).length=v.length from Cb ..];simp only [Cd,Ct];omega),fun p7 hp7=>?_⟩;have s37:=((s4.trans s5).trans s6).trans (jq (o:=.lst ([V.int ((ys.map V.ref).length:Nat),V.int ((wayCost g (jR (v.map pc)):Nat):Int)]++zv ((v.map pc).flatMap fun p=>[p.1,p.2]))) hp7);have e:jem g n r k l=(v.length:Int) :: (wayCost g v:Int) :: SyD.flat v:=by
     unfold jem;rw [Cc (by rw [h4'];simp),hv]
    rw [e] at q;refine q _ p7 (b3.trans (jn.bes s37)) (fr3 (((s4.trans s5).trans s6).free hp7)) (hW3.same s37) ?_ ?_
    ·show upd _ p7 _ p7=_;rw [jc,Cb,eys,jbp,jnb]
     rfl
    ·rw [Cd,Cd,←jnb,jee,Cb];omega
end
theorem jey {a:Addr} {xs:List V} (h:SqL K H a xs) (s:Sm H H'):SqL K H' a xs:=by
 rcases h with (h|⟨o,h⟩)|h
 ·exact .inl (.inl (s _ _ h id))
 ·exact .inl (.inr ⟨o,s _ _ h id⟩)
 ·exact .inr h
noncomputable def tf (l:Addr) (n:Int):List (Str×V):=[("numbers",.ref l),("place",.int n)]
theorem jeB (l:Addr) (n:Int):(tf l n).lookup ("numbers":Str)=some (.ref l):=rfl
theorem jbo (l:Addr) (n:Int):(tf l n).lookup ("place":Str)=some (.int n):=rfl
noncomputable def v1 (K:Frag) (t:Adr) (H:Hp) (p l:Addr) (xs:List Int) (n:Nat):Prop:=∃ dx,H p=some (.ins t.c_Tape dx (tf l n))∧SqL K H l (zv xs)
theorem v1.same {l:Addr} (h:v1 K t H p l xs n) (s:jn H H'):v1 K t H' p l xs n:=by
 obtain ⟨dx,h1,h2⟩:=h;exact ⟨dx,s _ _ h1,jey h2 (jn.sm s)⟩
theorem v1.kp {l:Addr} {ls:List Addr} (h:v1 K t H p l xs n) (s:Kp ls H H') (hp:p∉ls) (m:Sm H H'):v1 K t H' p l xs n:=by
 obtain ⟨dx,h1,h2⟩:=h;exact ⟨dx,s _ _ h1 hp,jey h2 m⟩
theorem v1.chg {l:Addr} (h:v1 K t H p l xs n):∃ u,H p=some u∧Chg u:=by
 obtain ⟨dx,h1,_⟩:=h;exact ⟨_,h1,.inr rfl⟩
theorem jso (l:List Int) (k n:Nat):vQ (zv l) (some (k:Int)) (some ((k:Int)+(n:Int)))=zv ((l.drop k).take n):=by
 unfold vQ;rw [show (k:Int)+(n:Int)=((k+n:Nat):Int) by omega,HT.jdL,HT.jdL,zL,←List.map_drop,←List.map_take];congr 1;by_cases h:k≤l.length
 ·rw [G7 h];by_cases h2:k+n≤l.length
  ·rw [G7 h2];congr 1;omega
  ·rw [Nat.min_eq_right (by omega)];rw [D6 (by rw [Db];omega),D6 (by rw [Db];omega)]
 ·have e1:min k l.length=l.length:=by omega
  have e2:min (k+n) l.length=l.length:=by omega
  rw [e1,e2,Fn (Cl _),Fn (by omega)];simp
section
variable {P:Program} {w:World} {K:Frag} {mg:Str→Option Value} {base:Heap} {t:Adr}
noncomputable def jl1 (C:Addr):Sp:=fun vs H Q _=>∃ p dx l,vs=[.ref p,.ref l]∧H p=some (.ins C dx [])∧∀ H':Hp,H' p=some (.ins C dx (tf l 0))→(∀ b o,H b=some o→b≠p→H' b=some o)→Q .non H'
theorem jln (T:Txt K mg t):Met P w K mg base 1 t.c_Tape "__init__" ["self","numbers"] (jl1 t.c_Tape):=by
 refine T.xcf.ok jlP (fun vs H Q E h=>?_) (fun f cdv A outer s H vs Q E hr h=>?_)
 ·obtain ⟨p,dx,l,rfl,_⟩:=h
  rfl
 ·obtain ⟨p,dx,l,rfl,hp,k⟩:=h;refine ⟨_,(jd (vJ (pv 0) (pv 1) rfl)
   (jg (vJ (pv 0) jj rfl))),?_⟩
  refine ⟨_,rfl,_,rfl,p,t.c_Tape,dx,_,rfl,hp,T.xaf.cl,T.xag,by decide,?_⟩;refine ⟨_,rfl,p,t.c_Tape,dx,_,rfl,jc,T.xaf.cl,T.xah,(by show 1 < 1000;decide),?_⟩;refine k _ ?_ fun b o e hb=>by rw [ji hb,ji hb];exact e
  rw [jc]
  rfl
noncomputable def jhr (K:Frag) (t:Adr):Sp:=fun vs H Q _=>∃ p l xs n,vs=[.ref p]∧v1 K t H p l xs n∧Q (.bl (decide (n < xs.length))) H
theorem jg8 (T:Txt K mg t):Met P w K mg base 1 t.c_Tape "has_more" ["self"] (jhr K t):=by
 refine T.xcg.ok jhm (fun vs H Q E h=>?_) (fun f cdv A outer s H vs Q E hr h=>?_)
 ·obtain ⟨_,_,_,_,rfl,_⟩:=h
  rfl
 ·obtain ⟨p,l,xs,n,rfl,⟨dx,h1,h2⟩,k⟩:=h;refine ⟨_,(jg (jk (zm jaj (jH (pv 0) rfl) (vf T.xdl (jH (pv 0) rfl))))),?_⟩;refine ⟨_,rfl,p,t.c_Tape,dx,_,_,rfl,h1,T.xaf.cl,T.xah,jbo _ _,_,rfl,p,t.c_Tape,dx,_,_,rfl,h1,T.xaf.cl,T.xag,jeB _ _,l,_,rfl,.inl h2,_,_,rfl,rfl,?_⟩;have e:decide ((n:Int) < ((zv xs).length:Int))=decide (n < xs.length):=by rw [zL];simp
  show Q (.bl (decide ((n:Int) < ((zv xs).length:Int)))) H;rw [e];exact k
noncomputable def jeZ (K:Frag) (t:Adr):Sp:=fun vs H Q _=>∃ p l xs n z,vs=[.ref p]∧v1 K t H p l xs n∧xs[n]?=some z∧∀ H',Kp [p] H H'→v1 K t H' p l xs (n+1)→Q (.int z) H'
theorem jag (T:Txt K mg t):Met P w K mg base 1 t.c_Tape "take_number" ["self"] (jeZ K t):=by
 refine T.xch.ok ja8 (fun vs H Q E h=>?_) (fun f cdv A outer s H vs Q E hr h=>?_)
 ·obtain ⟨_,_,_,_,_,rfl,_⟩:=h
  rfl
 ·obtain ⟨p,l,xs,n,z,rfl,⟨dx,h1,h2⟩,hz,k⟩:=h;have nd:=ja8.nd;refine ⟨_,(jd (jE 1 nd (jC jJ (jH (pv 0) rfl) (jH (pv 0) rfl)))
   (jd (vJ (pv 0) (jY vI (jH (pv 0) rfl) jj) rfl)
   (jg (jk (pv 1))))),?_⟩
  refine ⟨_,rfl,p,t.c_Tape,dx,_,_,rfl,h1,T.xaf.cl,T.xag,jeB _ _,_,rfl,p,t.c_Tape,dx,_,_,rfl,h1,T.xaf.cl,T.xah,jbo _ _,l,_,_,_,rfl,rfl,h2,vn (jiK hz),?_⟩;refine ⟨_,rfl,p,t.c_Tape,dx,_,_,rfl,h1,T.xaf.cl,T.xah,jbo _ _,_,_,rfl,rfl,_,rfl,p,t.c_Tape,dx,_,rfl,h1,T.xaf.cl,T.xah,(by show 2 < 1000;decide),?_⟩;refine ⟨_,rfl,k _ jdA ⟨dx,jc,jey h2 (jd1 h1 (.inr rfl))⟩⟩
noncomputable def jhs (K:Frag) (t:Adr):Sp:=fun vs H Q _=>∃ p l xs n c,vs=[.ref p]∧v1 K t H p l xs n∧xs[n]?=some ((c:Nat):Int)∧∀ H' q,Kp [p] H H'→v1 K t H' p l xs (n+1+c)→LI H' q ((xs.drop (n+1)).take c)→Q (.ref q) H'
theorem jg9 (T:Txt K mg t):Met P w K mg base 2 t.c_Tape "take_row" ["self"] (jhs K t):=by
 refine T.xci.ok jcs (fun vs H Q E h=>?_) (fun f cdv A outer s H vs Q E hr h=>?_)
 ·obtain ⟨_,_,_,_,_,rfl,_⟩:=h
  rfl
 ·obtain ⟨p,l,xs,n,c,rfl,hT,hz,k⟩:=h;have nd:=jcs.nd;refine ⟨_,(jd (jE 1 nd (jaC (jag T) T.xaf hr.m (pv 0)))
   (jd (jE 2 nd (jau jaR (jH (pv 0) rfl) (zI (jH (pv 0) rfl)) (zI (jY vI (jH (pv 0) rfl) (pv 1)))))
   (jd (vJ (pv 0) (jY vI (jH (pv 0) rfl) (pv 1)) rfl)
   (jg (jk (pv 2)))))),?_⟩
  obtain ⟨dx,h1,h2⟩:=id hT;refine ⟨_,rfl,p,dx,_,rfl,h1,rfl,p,l,xs,n,_,rfl,hT,hz,fun H1 k1 hT1=>?_⟩;obtain ⟨dx1,h11,h21⟩:=id hT1;refine ⟨_,rfl,p,t.c_Tape,dx1,_,_,rfl,h11,T.xaf.cl,T.xag,jeB _ _,_,rfl,p,t.c_Tape,dx1,_,_,rfl,h11,T.xaf.cl,T.xah,jbo _ _,_,rfl,_,rfl,p,t.c_Tape,dx1,_,_,rfl,h11,T.xaf.cl,T.xah,jbo _ _,_,rfl,_,_,rfl,rfl,_,rfl,l,_,rfl,h21,fun q hq=>?_⟩;rw [jso];have sq:=jq (o:=.lst (zv ((xs.drop (n+1)).take c))) hq;have h12:=sq _ _ h11
  refine ⟨_,rfl,p,t.c_Tape,dx1,_,_,rfl,h12,T.xaf.cl,T.xah,jbo _ _,_,rfl,_,_,rfl,rfl,_,rfl,p,t.c_Tape,dx1,_,rfl,h12,T.xaf.cl,T.xah,(by show 2 < 1000;decide),?_⟩;have sm2:=jd1 (o:=.ins t.c_Tape dx1 (vR "place" (V.int (((n+1:Nat):Int)+(c:Int))) (tf l ((n+1:Nat):Int)))) h12 (.inr rfl);refine ⟨_,rfl,k _ q ((k1.trans (jn.kp sq)).trans jdA) ⟨dx1,?_,jey (jey h21 (jn.sm sq)) sm2⟩ (sm2 _ _ jc id)⟩;rw [jc];show some (HO.ins t.c_Tape dx1 (tf l (((n+1:Nat):Int)+(c:Int))))=_;rw [show ((n+1:Nat):Int)+(c:Int)=((n+1+c:Nat):Int) by omega]
end
set_option tactic.hygienic true in
theorem jpo {l:List Nat} {wd:Word} (h:vt l=some wd):1≤wd.reading.length:=by
 unfold vt at h;split at h
 ·unfold ja4 at h;cases hc:chs l.dropLast with
  | none=>rw [hc] at h;cases h
  | some cs =>
   rw [hc] at h;simp only [C5] at h;split at h
   ·split at h
    ·rename_i z;cases h;have z1:=z.1;unfold vD at z1;rename_i r _ _ _ _ _;cases r with
     | nil=>simp at z1
     | cons=>simp
    ·cases h
   ·cases h
 ·cases h
set_option tactic.hygienic true in
theorem jgB:∀ (ls:List (List Nat)) (i:Nat) (ws ws':List Word),(∀ wd∈ws,wd.small=true∧1≤wd.reading.length)→ws.length≤128→v0 i ls ws=.ok ws'→(∀ wd∈ws',wd.small=true∧1≤wd.reading.length)∧ws'.length≤128
 | [],i,ws,ws',h1,h2,h=>by
  cases h;exact ⟨h1,h2⟩
 | l :: ls,i,ws,ws',h1,h2,h=>by
  rw [v0] at h;split at h
  ·cases h
  ·rename_i wd hw;split at h
   ·cases h
   ·rename_i q1;split at h
    ·cases h
    ·split at h
     ·cases h
     ·rename_i q3;refine jgB ls (i+1) (ws++[wd]) ws' (fun x hx=>?_) ?_ h
      ·rcases Ds.mp hx with hx|hx
       ·exact h1 x hx
       ·rw [Cm.mp hx];exact ⟨by simpa using q1,jpo hw⟩
      ·rw [Ci];simp only [Cd,Ct];omega
theorem jqe (h:zM g js) (l:List Nat):zM (jaB g l).1 js∧(jaB g l).2.length≤3:=by
 unfold jaB;split
 ·exact ⟨h,by show 1≤3;decide⟩
 ·split
  ·exact ⟨h,by show 3≤3;decide⟩
  ·rename_i ws e;obtain ⟨h1,h2⟩:=jgB _ 0 [] ws (fun _ z=>nomatch z) (by decide) e;have sm:∀ wd∈j9 ws,wd.reading.length≤32∧wd.text.length≤32∧1≤wd.reading.length:=fun wd hwd=>by
    obtain ⟨z,z2⟩:=h1 wd ((jar ws).mem_iff.mp hwd);unfold Word.small at z;simp only [Cn,Dd] at z;exact ⟨z.1,z.2.1,z2⟩
   exact ⟨⟨fun wd hwd=>⟨(sm wd hwd).2.2,(sm wd hwd).1⟩,by show (j9 ws).length≤128;rw [jno];exact h2,fun wd hwd=>(sm wd hwd).2.1,h.ja,h.jl,h.je,h.al⟩,by show 1≤3;decide⟩
set_option tactic.hygienic true in
theorem jpi {ls:List (List Nat)} {a:Nat} (h:va ls=.ok (a,js)):js.length≤ls.length:=by
 unfold va at h;split at h
 ·cases h
 ·rename_i l ls;split at h
  ·split at h
   ·cases h
   ·cases e:vZ 1 ls [] with
    | error x=>rw [e] at h;cases h
    | ok js' =>
     rw [e] at h;cases h;obtain ⟨_,h2⟩:=jdk ls 1 [] js (fun j hj=>nomatch hj) e;rw [h2];simp only [Ct,Cd];omega
  ·cases h
set_option tactic.hygienic true in
theorem jqd (h:zM g js) {l:List Nat} (hl:l.length≤4096∨65536 < l.length):zM (zx g js l).1 (zx g js l).2.1∧(zx g js l).2.2.length≤3:=by
 unfold zx;split
 ·exact ⟨h,by show 1≤3;decide⟩
 ·split
  ·exact ⟨h,by show 3≤3;decide⟩
  ·rename_i a j e;have ll:=jpp l;obtain ⟨h1,h2⟩:=jlc e (by omega);have h3:j.length≤5000:=by
    have:=jpi e;omega
   exact ⟨⟨h.ok,h.hw,h.tx,jq2 h1,Da (F3 ..) h3,rfl,h2⟩,by show 1≤3;decide⟩
theorem jmW:zM bare []:=⟨(fun _ z=>nomatch z),(by decide),(fun _ z=>nomatch z),⟨.nil,(by decide),(fun _ z=>nomatch z)⟩,(by decide),rfl,(by decide)⟩
theorem jtf (h:∀ z∈l,0≤z):iv (toN l)=zv l:=by rw [jiS,jqu h]
theorem LI.ln {a:Addr} (h:LI H a l) (n:∀ z∈l,0≤z):LN H a (toN l):=by
 show H a=_;rw [jtf n];exact h
theorem jja (l:List Int):(toN l).length=l.length:=Cb ..
theorem js1 {x:List Int} (h:PyFlat.row (xs.drop n)=some (x,s)):∃ c:Nat,xs[n]?=some ((c:Nat):Int)∧x=(xs.drop (n+1)).take c∧xs.drop (n+1+c)=s:=by
 cases e:xs.drop n with
 | nil=>rw [e] at h;cases h
 | cons m r =>
  rw [e] at h;have e1:xs[n]?=some m:=by
   have:=List.getElem?_drop (xs:=xs) (i:=n) (j:=0);rw [e] at this;simpa using this.symm
  have e2:xs.drop (n+1)=r:=by rw [←List.drop_drop,e];rfl
  have h':(if 0≤m∧m.toNat≤r.length then some (r.take m.toNat,r.drop m.toNat) else none)=some (x,s):=h;by_cases z:0≤m∧m.toNat≤r.length
  ·rw [Ce z] at h';cases h';exact ⟨m.toNat,by rw [e1,Lk z.1],by rw [e2],by rw [←List.drop_drop,e2]⟩
  ·rw [Cc z] at h';cases h'
theorem Met.imp {P:Program} {w:World} {mg:Str→Option Value} {base:Heap} {sp sp':Sp} (h:Met P w K mg base k C x ps sp) (i:∀ vs H Q E,sp' vs H Q E→sp vs H Q E):Met P w K mg base k C x ps sp':=by
 obtain ⟨f,fd,a,b,c,d,F⟩:=h;exact ⟨f,fd,a,b,c,d,F.imp i⟩
section
variable {P:Program} {w:World} {K:Frag} {mg:Str→Option Value} {base:Heap} {t:Adr}
noncomputable def js5 (K:Frag) (t:Adr):Sp:=fun vs H Q _=>∃ p l xs n x s,vs=[.ref p]∧v1 K t H p l xs n∧PyFlat.row (xs.drop n)=some (x,s)∧∀ H' q n',Kp [p] H H'→v1 K t H' p l xs n'→xs.drop n'=s→LI H' q x→x.length≤xs.length→Q (.ref q) H'
theorem jab (T:Txt K mg t):Met P w K mg base 2 t.c_Tape "take_row" ["self"] (js5 K t):=(jg9 T).imp fun vs H Q E h=>by
 obtain ⟨p,l,xs,n,x,s,rfl,hT,hr,k⟩:=h;obtain ⟨c,h1,h2,h3⟩:=js1 hr;exact ⟨p,l,xs,n,c,rfl,hT,h1,fun H' q k1 t1 l1=>k H' q _ k1 t1 h3 (by rw [h2];exact l1) (by rw [h2,Dq,Db];omega)⟩
end
structure Wd (K:Frag) (t:Adr) (PT:Addr) (H:Hp) (b p:Addr) (g:Weights) (js:List Join) (l:Addr) (xs:List Int) (n:Nat):Prop where
 bk:vi t H b g js
 tp:v1 K t H p l xs n
 tb:HW PT H
section
variable {K:Frag} {t:Adr} {PT:Addr} {H H':Hp} {b p:Addr} {g g':Weights} {js js':List Join} {l:Addr} {xs:List Int} {n n':Nat}
theorem Wd.bp (h:Wd K t PT H b p g js l xs n):b≠p:=fun e=>by
 obtain ⟨dx,x,j,h1,_⟩:=h.bk;obtain ⟨dx2,h2,_⟩:=h.tp;rw [e,h2] at h1;have:=HO.ins.inj (Cs h1);have e2:=D7 (fun l=>l.map (·.1)) this.2.2;exact absurd e2 (by show ¬(([("numbers":Str),"place"]:List Str)=(["words","joins"]:List Str));decide)
theorem HT.kp {P:Addr} {q:Str} {pos:Pos} {ls:List Addr} (h:HT P q pos H) (s:Kp ls H H') (hl:∀ x∈ls,∀ f,H x≠some (.ext f)):HT P q pos H':=by
 have go:∀ a f,H a=some (.ext f)→H' a=some (.ext f):=fun a f e=>s a _ e fun z=>hl a z f e;rcases h with e|⟨c,e1,e2⟩
 ·exact .inl (go _ _ e)
 ·exact .inr ⟨c,go _ _ e1,go _ _ e2⟩
theorem Wd.tape (h:Wd K t PT H b p g js l xs n) (k:Kp [p] H H') (ht:v1 K t H' p l xs n'):Wd K t PT H' b p g js l xs n'∧Sm H H':=by
 have sm:Sm H H':=k.sm fun x hx=>by rw [Cm.mp hx];exact h.tp.chg
 refine ⟨⟨h.bk.kp k (by simpa using h.bp) sm,ht,h.tb.kp k fun x hx f e=>?_⟩,sm⟩;obtain ⟨dx,h1,_⟩:=h.tp;rw [Cm.mp hx,h1] at e;cases e
theorem Wd.book (h:Wd K t PT H b p g js l xs n) (k:Kp [b] H H') (hb:vi t H' b g' js'):Wd K t PT H' b p g' js' l xs n∧Sm H H':=by
 have sm:Sm H H':=k.sm fun x hx=>by rw [Cm.mp hx];exact h.bk.chg
 refine ⟨⟨hb,h.tp.kp k (by simpa using Dj h.bp) sm,h.tb.kp k fun x hx f e=>?_⟩,sm⟩;obtain ⟨dx,x2,j,h1,_⟩:=h.bk;rw [Cm.mp hx,h1] at e;cases e
theorem Wd.free (h:Wd K t PT H' b p g js l xs n) (k:Kp [b,p,PT] H H') (hq:H' q=none):H q=none:=k.free (fun x hx z=>by
 rcases Cp.mp hx with e|hx
 ·obtain ⟨_,_,_,y,_⟩:=h.bk;rw [e,y] at z;cases z
 rcases Cp.mp hx with e|hx
 ·obtain ⟨_,y,_⟩:=h.tp;rw [e,y] at z;cases z
 ·obtain ⟨_,y⟩:=h.tb.ext;rw [Cm.mp hx,y] at z;cases z) hq
theorem Wd.same (h:Wd K t PT H b p g js l xs n) (s:jn H H'):Wd K t PT H' b p g js l xs n:=⟨h.bk.same s,h.tp.same s,HT.same h.tb s⟩
theorem Wd.tab (h:Wd K t PT H b p g js l xs n) (k:Bes PT H H') (hw:HW PT H'):Wd K t PT H' b p g js l xs n∧Sm H H':=by
 have sm:Sm H H':=Bes.sm h.tb k;obtain ⟨f,hf⟩:=h.tb.ext;refine ⟨⟨h.bk.kp k.kp (fun z=>?_) sm,h.tp.kp k.kp (fun z=>?_) sm,hw⟩,sm⟩
 ·obtain ⟨dx,x2,j,h1,_⟩:=h.bk;rw [Cm.mp z,hf] at h1;cases h1
 ·obtain ⟨dx,h1,_⟩:=h.tp;rw [Cm.mp z,hf] at h1;cases h1
end
section
variable {P:Program} {w:World} {K:Frag} {mg:Str→Option Value} {base:Heap} {t:Adr}
noncomputable def jgk (K:Frag) (t:Adr) (PT:Addr):Sp:=fun vs H Q _=>∃ (b p:Addr) (g:Weights) (js:List Join) (l:Addr) (xs:List Int) (n:Nat) (r s1 k s2 c s3:List Int),vs=[.ref b,.ref p]∧Wd K t PT H b p g js l xs n∧zM g js∧xs.length≤100000 ∧
 PyFlat.row (xs.drop n)=some (r,s1)∧PyFlat.row s1=some (k,s2)∧PyFlat.row s2=some (c,s3)∧(∀ z∈r,0≤z)∧(∀ z∈k,0≤z)∧∀ H' q n',Kp [p] H H'→H q=none→Wd K t PT H' b p g js l xs n'→xs.drop n'=s3→LI H' q (jkB g (toN r) (toN k) c)→Q (.ref q) H'
theorem jgd (T:Txt K mg t):Cal P w K mg base CX0 8 "answer_of_many" ["book","tape"] (jgk K t PT):=by
 refine T.xcj.ok jbQ (fun vs H Q E h=>?_) (fun f cdv A outer s H vs Q E hr h=>?_)
 ·obtain ⟨_,_,_,_,_,_,_,_,_,_,_,_,_,rfl,_⟩:=h
  rfl
 ·obtain ⟨b,p,g,js,l,xs,n,r,s1,k,s2,c,s3,rfl,wd,bo,hx,r1,r2,r3,nr,nk,kk⟩:=h;have nd:=jbQ.nd;refine ⟨_,(jd (jE 2 nd (jaC (jab T) T.xaf hr.m (pv 1)))
   (jd (jE 3 nd (jaC (jab T) T.xaf hr.m (pv 1)))
   (jd (jE 4 nd (jaC (jab T) T.xaf hr.m (pv 1)))
   (jg (jk (cal (jlu T) hr.m rfl (jb (pv 0) (jb (pv 2) (jb (pv 3) (jb (pv 4) jh)))))))))),?_⟩
  obtain ⟨dx,h0,_⟩:=wd.tp;refine ⟨_,rfl,p,dx,_,rfl,h0,rfl,p,l,xs,n,r,s1,rfl,wd.tp,r1,fun H1 q1 n1 k1 t1 d1 l1 e1=>?_⟩;obtain ⟨wd1,m1⟩:=wd.tape k1 t1;obtain ⟨dx1,h1,_⟩:=wd1.tp;refine ⟨_,rfl,p,dx1,_,rfl,h1,rfl,p,l,xs,n1,k,s2,rfl,wd1.tp,by rw [d1];exact r2,fun H2 q2 n2 k2 t2 d2 l2 e2=>?_⟩;obtain ⟨wd2,m2⟩:=wd1.tape k2 t2;obtain ⟨dx2,h2,_⟩:=wd2.tp;refine ⟨_,rfl,p,dx2,_,rfl,h2,rfl,p,l,xs,n2,c,s3,rfl,wd2.tp,by rw [d2];exact r3,fun H3 q3 n3 k3 t3 d3 l3 e3=>?_⟩;obtain ⟨wd3,m3⟩:=wd2.tape k3 t3
  exact ⟨_,rfl,_,rfl,_,rfl,_,rfl,b,q1,q2,q3,g,js,toN r,toN k,c,rfl,wd3.bk,bo,((l1.sm m2).sm m3).ln nr,(l2.sm m3).ln nk,l3,by omega,fun H' q s q0 hq=>kk _ q n3 (((k1.trans k2).trans k3).trans (jn.kp s)) (wd3.free (((k1.trans k2).trans k3).more (by simp)) q0) (wd3.same s) d3 hq⟩
noncomputable def jht (K:Frag) (t:Adr) (PT:Addr):Sp:=fun vs H Q _=>∃ (b p:Addr) (g:Weights) (js:List Join) (l:Addr) (xs:List Int) (n:Nat) (i:Int) (s0 r s1 k s2 c s3:List Int),vs=[.ref b,.ref p]∧Wd K t PT H b p g js l xs n∧zM g js∧xs.length≤100000∧xs.drop n=i :: s0∧0≤i ∧
 PyFlat.row s0=some (r,s1)∧PyFlat.row s1=some (k,s2)∧PyFlat.row s2=some (c,s3)∧(∀ z∈r,0≤z)∧(∀ z∈k,0≤z)∧∀ H' q n',Kp [p,PT] H H'→H q=none→Wd K t PT H' b p g js l xs n'→xs.drop n'=s3→LI H' q (jem g i.toNat (toN r) (toN k) c)→(jem g i.toNat (toN r) (toN k) c).length≤1000→Q (.ref q) H'
theorem jm7 {i:Int} (h:xs.drop n=i :: s):xs[n]?=some i∧xs.drop (n+1)=s:=by
 refine ⟨?_,by rw [←List.drop_drop,h];rfl⟩;have:=List.getElem?_drop (xs:=xs) (i:=n) (j:=0);rw [h] at this;simpa using this.symm
theorem jt5 {x y:Addr} (h:Kp [x] H H'):Kp [x,y] H H':=h.more (by simp)
theorem jha (T:Txt K mg t) (L:jiN K mg base PT):Cal P w K mg base CX0 8 "answer_of_nth" ["book","tape"] (jht K t PT):=by
 refine T.xck.ok jct (fun vs H Q E h=>?_) (fun f cdv A outer s H vs Q E hr h=>?_)
 ·obtain ⟨_,_,_,_,_,_,_,_,_,_,_,_,_,_,_,rfl,_⟩:=h
  rfl
 ·obtain ⟨b,p,g,js,l,xs,n,i,s0,r,s1,k,s2,c,s3,rfl,wd,bo,hx,r0,i0,r1,r2,r3,nr,nk,kk⟩:=h;have nd:=jct.nd;refine ⟨_,(jd (jE 2 nd (jaC (jag T) T.xaf hr.m (pv 1)))
   (jd (jE 3 nd (jaC (jab T) T.xaf hr.m (pv 1)))
   (jd (jE 4 nd (jaC (jab T) T.xaf hr.m (pv 1)))
   (jd (jE 5 nd (jaC (jab T) T.xaf hr.m (pv 1)))
   (jg (jk (cal (jmF T L) hr.m rfl (jb (pv 0) (jb (pv 2) (jb (pv 3) (jb (pv 4) (jb (pv 5) jh)))))))))))),?_⟩
  obtain ⟨dx,h0,_⟩:=wd.tp;obtain ⟨a1,a2⟩:=jm7 r0;refine ⟨_,rfl,p,dx,_,rfl,h0,rfl,p,l,xs,n,i,rfl,wd.tp,a1,fun H0 k0 t0=>?_⟩;obtain ⟨wd0,m0⟩:=wd.tape k0 t0;obtain ⟨dx0,h0',_⟩:=wd0.tp;refine ⟨_,rfl,p,dx0,_,rfl,h0',rfl,p,l,xs,n+1,r,s1,rfl,wd0.tp,by rw [a2];exact r1,fun H1 q1 n1 k1 t1 d1 l1 e1=>?_⟩;obtain ⟨wd1,m1⟩:=wd0.tape k1 t1;obtain ⟨dx1,h1,_⟩:=wd1.tp;refine ⟨_,rfl,p,dx1,_,rfl,h1,rfl,p,l,xs,n1,k,s2,rfl,wd1.tp,by rw [d1];exact r2,fun H2 q2 n2 k2 t2 d2 l2 e2=>?_⟩;obtain ⟨wd2,m2⟩:=wd1.tape k2 t2;obtain ⟨dx2,h2,_⟩:=wd2.tp
  refine ⟨_,rfl,p,dx2,_,rfl,h2,rfl,p,l,xs,n2,c,s3,rfl,wd2.tp,by rw [d2];exact r3,fun H3 q3 n3 k3 t3 d3 l3 e3=>?_⟩;obtain ⟨wd3,m3⟩:=wd2.tape k3 t3;refine ⟨_,rfl,_,rfl,_,rfl,_,rfl,_,rfl,b,q1,q2,q3,i.toNat,g,js,toN r,toN k,c,by rw [Lk i0];rfl,wd3.bk,bo,((l1.sm m2).sm m3).ln nr,(l2.sm m3).ln nk,l3,by omega,wd3.tb,fun H' q s q0 hW hq hl=>?_⟩;exact kk _ q n3 (Kp.trans (jt5 (((k0.trans k1).trans k2).trans k3)) (s.kp.more (by simp))) (wd3.free ((((k0.trans k1).trans k2).trans k3).more (by simp)) q0) (wd3.tab s hW).1 d3 hq hl
noncomputable def jbV (K:Frag) (t:Adr) (PT:Addr) (F:Weights→Text→List Int→List Int):Sp:=fun vs H Q _=>∃ (b p:Addr) (g:Weights) (js:List Join) (l:Addr) (xs:List Int) (n:Nat) (r s1 c s2:List Int),vs=[.ref b,.ref p]∧Wd K t PT H b p g js l xs n∧zM g js∧xs.length≤100000 ∧
 PyFlat.row (xs.drop n)=some (r,s1)∧PyFlat.row s1=some (c,s2)∧(∀ z∈r,0≤z)∧∀ H' q n',Kp [p] H H'→H q=none→Wd K t PT H' b p g js l xs n'→xs.drop n'=s2→LI H' q (F g (toN r) c)→(F g (toN r) c).length≤1000→Q (.ref q) H'
theorem joV (g:Weights) (r:Text) (l:List Int):(jfX g r l).length≤1000:=by
 unfold jfX;split<;>simp
theorem jgc (T:Txt K mg t):Cal P w K mg base CX0 8 "answer_of_cost" ["book","tape"] (jbV K t PT jfX):=by
 refine T.xcl.ok jbP (fun vs H Q E h=>?_) (fun f cdv A outer s H vs Q E hr h=>?_)
 ·obtain ⟨_,_,_,_,_,_,_,_,_,_,_,rfl,_⟩:=h
  rfl
 ·obtain ⟨b,p,g,js,l,xs,n,r,s1,c,s2,rfl,wd,bo,hx,r1,r2,nr,kk⟩:=h;have nd:=jbP.nd;refine ⟨_,(jd (jE 2 nd (jaC (jab T) T.xaf hr.m (pv 1)))
   (jd (jE 3 nd (jaC (jab T) T.xaf hr.m (pv 1)))
   (jg (jk (cal (jlt T) hr.m rfl (jb (pv 0) (jb (pv 2) (jb (pv 3) jh)))))))),?_⟩
  obtain ⟨dx,h0,_⟩:=wd.tp;refine ⟨_,rfl,p,dx,_,rfl,h0,rfl,p,l,xs,n,r,s1,rfl,wd.tp,r1,fun H1 q1 n1 k1 t1 d1 l1 e1=>?_⟩;obtain ⟨wd1,m1⟩:=wd.tape k1 t1;obtain ⟨dx1,h1,_⟩:=wd1.tp;refine ⟨_,rfl,p,dx1,_,rfl,h1,rfl,p,l,xs,n1,c,s2,rfl,wd1.tp,by rw [d1];exact r2,fun H2 q2 n2 k2 t2 d2 l2 e2=>?_⟩;obtain ⟨wd2,m2⟩:=wd1.tape k2 t2;exact ⟨_,rfl,_,rfl,_,rfl,b,q1,q2,g,js,toN r,c,rfl,wd2.bk,bo,(l1.sm m2).ln nr,l2,by omega,fun H' q s q0 hq=>kk _ q n2 ((k1.trans k2).trans (jn.kp s)) (wd2.free ((k1.trans k2).more (by simp)) q0) (wd2.same s) d2 hq (joV ..)⟩
theorem jge (T:Txt K mg t):Cal P w K mg base CX0 8 "answer_of_text" ["book","tape"] (jbV K t PT jga):=by
 refine T.xcm.ok jbR (fun vs H Q E h=>?_) (fun f cdv A outer s H vs Q E hr h=>?_)
 ·obtain ⟨_,_,_,_,_,_,_,_,_,_,_,rfl,_⟩:=h
  rfl
 ·obtain ⟨b,p,g,js,l,xs,n,r,s1,c,s2,rfl,wd,bo,hx,r1,r2,nr,kk⟩:=h;have nd:=jbR.nd;refine ⟨_,(jd (jE 2 nd (jaC (jab T) T.xaf hr.m (pv 1)))
   (jd (jE 3 nd (jaC (jab T) T.xaf hr.m (pv 1)))
   (jg (jk (cal (jlv T) hr.m rfl (jb (pv 0) (jb (pv 2) (jb (pv 3) jh)))))))),?_⟩
  obtain ⟨dx,h0,_⟩:=wd.tp;refine ⟨_,rfl,p,dx,_,rfl,h0,rfl,p,l,xs,n,r,s1,rfl,wd.tp,r1,fun H1 q1 n1 k1 t1 d1 l1 e1=>?_⟩;obtain ⟨wd1,m1⟩:=wd.tape k1 t1;obtain ⟨dx1,h1,_⟩:=wd1.tp;refine ⟨_,rfl,p,dx1,_,rfl,h1,rfl,p,l,xs,n1,c,s2,rfl,wd1.tp,by rw [d1];exact r2,fun H2 q2 n2 k2 t2 d2 l2 e2=>?_⟩;obtain ⟨wd2,m2⟩:=wd1.tape k2 t2;exact ⟨_,rfl,_,rfl,_,rfl,b,q1,q2,g,js,toN r,c,rfl,wd2.bk,bo,(l1.sm m2).ln nr,l2,by omega,fun H' q s q0 hq hl=>kk _ q n2 ((k1.trans k2).trans (jn.kp s)) (wd2.free ((k1.trans k2).more (by simp)) q0) (wd2.same s) d2 hq hl⟩
end
noncomputable def je1 (rest:List Int) (c:List (List Int)) (s:List Int):Prop :=
 (rest=1 :: s∧c=[[1]])∨(∃ s0 r0,rest=2 :: s0∧PyFlat.row s0=some (r0,s)∧c=[[2],r0])∨(∃ s0 r0,rest=3 :: s0∧PyFlat.row s0=some (r0,s)∧c=[[3],r0])∨(rest=4 :: s∧c=[[4]]) ∨
 (∃ s0 r0 s1 r1 s2 r2,rest=5 :: s0∧PyFlat.row s0=some (r0,s1)∧PyFlat.row s1=some (r1,s2)∧PyFlat.row s2=some (r2,s)∧c=[[5],r0,r1,r2]) ∨
 (∃ i s0 r0 s1 r1 s2 r2,rest=6 :: i :: s0∧PyFlat.row s0=some (r0,s1)∧PyFlat.row s1=some (r1,s2)∧PyFlat.row s2=some (r2,s)∧c=[[6,i],r0,r1,r2]) ∨
 (∃ s0 r0 s1 r1,rest=7 :: s0∧PyFlat.row s0=some (r0,s1)∧PyFlat.row s1=some (r1,s)∧c=[[7],r0,r1])∨(∃ s0 r0 s1 r1,rest=8 :: s0∧PyFlat.row s0=some (r0,s1)∧PyFlat.row s1=some (r1,s)∧c=[[8],r0,r1])
set_option tactic.hygienic true in
theorem vP {r t:List Int} {xs:List (List Int)} (h:PyFlat.rows (k+1) r=some (xs,t)):∃ x s ys,PyFlat.row r=some (x,s)∧PyFlat.rows k s=some (ys,t)∧xs=x :: ys:=by
 rw [PyFlat.rows] at h;split at h
 ·cases h
 ·rename_i x s e;split at h
  ·cases h
  ·rename_i ys t' e2;cases h;exact ⟨x,s,ys,e,e2,rfl⟩
theorem jay {r t:List Int} {xs:List (List Int)} (h:PyFlat.rows 0 r=some (xs,t)):xs=[]∧r=t:=by
 rw [PyFlat.rows] at h;cases h;exact ⟨rfl,rfl⟩
set_option tactic.hygienic true in
theorem jrp {rest:List Int} {c:List (List Int)} (h:PyFlat.call PyWqaibl.shape rest=some (c,s)):je1 rest c s:=by
 cases rest with
 | nil=>cases h
 | cons p r =>
  rw [PyFlat.call] at h;split at h
  ·cases h
  ·rename_i n k e;split at h
   ·cases h
   ·rename_i hn;split at h
    ·cases h
    ·rename_i xs t' e2;cases h;unfold PyWqaibl.shape at e;split at e
     ·rename_i hp;cases e;subst hp;obtain ⟨rfl,rfl⟩:=jay e2;exact .inl ⟨rfl,rfl⟩
     split at e
     ·rename_i hp;cases e;subst hp;obtain ⟨x,s1,ys,a1,a2,rfl⟩:=vP e2;obtain ⟨rfl,rfl⟩:=jay a2;exact .inr (.inl ⟨_,_,rfl,a1,rfl⟩)
     split at e
     ·rename_i hp;cases e;subst hp;obtain ⟨x,s1,ys,a1,a2,rfl⟩:=vP e2;obtain ⟨rfl,rfl⟩:=jay a2;exact .inr (.inr (.inl ⟨_,_,rfl,a1,rfl⟩))
     split at e
     ·rename_i hp;cases e;subst hp;obtain ⟨rfl,rfl⟩:=jay e2;exact .inr (.inr (.inr (.inl ⟨rfl,rfl⟩)))
     split at e
     ·rename_i hp;cases e;subst hp;obtain ⟨x,s1,ys,a1,a2,rfl⟩:=vP e2;obtain ⟨x2,s2,ys,b2,a3,rfl⟩:=vP a2;obtain ⟨x3,s3,ys,b3,a4,rfl⟩:=vP a3;obtain ⟨rfl,rfl⟩:=jay a4;exact .inr (.inr (.inr (.inr (.inl ⟨_,_,_,_,_,_,rfl,a1,b2,b3,rfl⟩))))
     split at e
     ·rename_i hp;cases e;subst hp;cases r with
      | nil=>exact absurd (show ([]:List Int).length < 1 by decide) hn
      | cons i r =>
       obtain ⟨x,s1,ys,a1,a2,rfl⟩:=vP e2;obtain ⟨x2,s2,ys,b2,a3,rfl⟩:=vP a2;obtain ⟨x3,s3,ys,b3,a4,rfl⟩:=vP a3;obtain ⟨rfl,rfl⟩:=jay a4;exact .inr (.inr (.inr (.inr (.inr (.inl ⟨_,_,_,_,_,_,_,rfl,a1,b2,b3,rfl⟩)))))
     split at e
     ·rename_i hp;cases e;subst hp;obtain ⟨x,s1,ys,a1,a2,rfl⟩:=vP e2;obtain ⟨x2,s2,ys,b2,a3,rfl⟩:=vP a2;obtain ⟨rfl,rfl⟩:=jay a3;exact .inr (.inr (.inr (.inr (.inr (.inr (.inl ⟨_,_,_,_,rfl,a1,b2,rfl⟩))))))
     split at e
     ·rename_i hp;cases e;subst hp;obtain ⟨x,s1,ys,a1,a2,rfl⟩:=vP e2;obtain ⟨x2,s2,ys,b2,a3,rfl⟩:=vP a2;obtain ⟨rfl,rfl⟩:=jay a3;exact .inr (.inr (.inr (.inr (.inr (.inr (.inr ⟨_,_,_,_,rfl,a1,b2,rfl⟩))))))
     ·cases e
theorem ifN {a b:Int} {A B:Prop} (n:a≠b) (h:B):if decide (V.int a=V.int b)=true then A else B:=by
 rw [Cc (fun e=>n (jF.mp e))];exact h
theorem ifY {a:Int} {A B:Prop} (h:A):if decide (V.int a=V.int a)=true then A else B:=by
 rw [Ce (jF.mpr rfl)];exact h
theorem jkJ (h:l.all (fun (z:Int)=>decide (0≤z) && decide (z≤255))=true):∀ z∈l,0≤z∧z≤255:=fun z hz=>by
 have:=Dk.mp h z hz;simpa using this
section
variable {P:Program} {w:World} {K:Frag} {mg:Str→Option Value} {base:Heap} {t:Adr}
noncomputable def jgj (K:Frag) (t:Adr) (PT:Addr):Sp:=fun vs H Q _=>∃ (b p:Addr) (g:Weights) (js:List Join) (l:Addr) (xs:List Int) (n:Nat) (c:List (List Int)) (s:List Int),vs=[.ref b,.ref p]∧Wd K t PT H b p g js l xs n∧zM g js∧xs.length≤100000∧je1 (xs.drop n) c s∧WaysNeutral.asked1 c=true ∧
 ∀ H' q n' g' js' a,Kp [b,p,PT] H H'→H q=none→Wd K t PT H' b p g' js' l xs n'→zM g' js'→xs.drop n'=s→WaysNeutral.step g c=(g',a)→LI H' q a→a.length≤110010→Q (.ref q) H'
theorem jgb (T:Txt K mg t) (U:jc7 K t) (L:jiN K mg base PT):Cal P w K mg base CX0 9 "answer_of_call" ["book","tape"] (jgj K t PT):=by
 refine T.xcn.ok jbO (fun vs H Q E h=>?_) (fun f cdv A outer s H vs Q E hr h=>?_)
 ·obtain ⟨_,_,_,_,_,_,_,_,_,rfl,_⟩:=h
  rfl
 ·obtain ⟨b,p,g,js,l,xs,n,c,s,rfl,wd,bo,hx,hc,ha,kk⟩:=h;have nd:=jbO.nd;refine ⟨_,(jd (jE 2 nd (jaC (jag T) T.xaf hr.m (pv 1)))
   (jd (jz (jw vE (pv 2) (gli T.xdd rfl)) (jg (jk (cal (jj9 T) hr.m rfl (jb (pv 0) jh)))) jt)
   (jd (jz (jw vE (pv 2) (gli T.xde rfl)) (jg (jk (cal (jkd T U) hr.m rfl (jb (pv 0) (jb (jaC (jab T) T.xaf hr.m (pv 1)) jh))))) jt)
   (jd (jz (jw vE (pv 2) (gli T.xdf rfl)) (jg (jk (cal (jkc T U) hr.m rfl (jb (pv 0) (jb (jaC (jab T) T.xaf hr.m (pv 1)) jh))))) jt)
   (jd (jz (jw vE (pv 2) (gli T.xdg rfl)) (jg (jk (cal (jiZ T) hr.m rfl (jb (pv 0) jh)))) jt)
   (jd (jz (jw vE (pv 2) (gli T.xdh rfl)) (jg (jk (cal (jgd T (PT:=PT)) hr.m rfl (jb (pv 0) (jb (pv 1) jh))))) jt)
   (jd (jz (jw vE (pv 2) (gli T.xdi rfl)) (jg (jk (cal (jha T L) hr.m rfl (jb (pv 0) (jb (pv 1) jh))))) jt)
   (jd (jz (jw vE (pv 2) (gli T.xdj rfl)) (jg (jk (cal (jgc T (PT:=PT)) hr.m rfl (jb (pv 0) (jb (pv 1) jh))))) jt)
   (jd (jz (jw vE (pv 2) (gli T.xdk rfl)) (jg (jk (cal (jge T (PT:=PT)) hr.m rfl (jb (pv 0) (jb (pv 1) jh))))) jt)
   (jg jqW)))))))))),?_⟩
  obtain ⟨dx,h0,_⟩:=wd.tp;have kb:∀ {H1 H2:Hp},Kp [b] H1 H2→Kp [b,p,PT] H1 H2:=fun k=>k.more (by simp);have kp:∀ {H1 H2:Hp},Kp [p] H1 H2→Kp [b,p,PT] H1 H2:=fun k=>k.more (by simp);rcases hc with ⟨e,rfl⟩|⟨s0,r0,e,e1,rfl⟩|⟨s0,r0,e,e1,rfl⟩|⟨e,rfl⟩|⟨s0,r0,s1,r1,s2,r2,e,e1,e2,e3,rfl⟩|⟨i,s0,r0,s1,r1,s2,r2,e,e1,e2,e3,rfl⟩|⟨s0,r0,s1,r1,e,e1,e2,rfl⟩|⟨s0,r0,s1,r1,e,e1,e2,rfl⟩
  all_goals obtain ⟨a1,d1⟩:=jm7 e
  all_goals refine ⟨_,rfl,p,dx,_,rfl,h0,rfl,p,l,xs,n,_,rfl,wd.tp,a1,fun H1 k1 t1=>?_⟩
  all_goals obtain ⟨wd1,m1⟩:=wd.tape k1 t1
  all_goals repeat refine ⟨_,rfl,rfl,_,rfl,ifN (by decide) ?_⟩
  all_goals refine ⟨_,rfl,rfl,_,rfl,ifY ?_⟩
  ·exact ⟨_,rfl,b,g,js,rfl,wd1.bk,fun H2 q k2 q0 hb2 hq=>kk H2 q (n+1) bare [] [0] ((kp k1).trans (kb k2)) (wd1.free (kp k1) q0) (wd1.book k2 hb2).1 jmW d1 (jox g) hq (by decide)⟩
  ·have hb:=jkJ (l:=r0) ha;obtain ⟨dx1,h1,_⟩:=wd1.tp;refine ⟨_,rfl,_,rfl,p,dx1,_,rfl,h1,rfl,p,l,xs,n+1,r0,s,rfl,wd1.tp,by rw [d1];exact e1,fun H2 q2 n2 k2 t2 d2 l2 _=>?_⟩;obtain ⟨wd2,m2⟩:=wd1.tape k2 t2;obtain ⟨o1,o2⟩:=jqe bo (toN r0);have st:WaysNeutral.step g [[2],r0]=jaB g (toN r0):=by
    rw [joz g hb];unfold jaB;rw [jja]<;>(cases v0 0 (jS (toN r0)) []<;>rfl)
   exact ⟨b,q2,g,js,toN r0,rfl,wd2.bk,l2.ln fun z hz=>(hb z hz).1,fun H3 q k3 q0 hb3 hq=>kk H3 q n2 _ js _ (((kp k1).trans (kp k2)).trans (kb k3)) (wd2.free ((kp k1).trans (kp k2)) q0) (wd2.book k3 hb3).1 o1 d2 st hq (Da o2 (by decide))⟩
  ·have ha':(r0.all (fun (z:Int)=>decide (0≤z) && decide (z≤255)) && (decide (r0.length≤4096) || decide (65536 < r0.length)))=true:=ha;rw [Cn] at ha';have hb:=jkJ (l:=r0) ha'.1;have hl:(toN r0).length≤4096∨65536 < (toN r0).length:=by
    rw [jja];simpa using ha'.2
   obtain ⟨dx1,h1,_⟩:=wd1.tp;refine ⟨_,rfl,_,rfl,p,dx1,_,rfl,h1,rfl,p,l,xs,n+1,r0,s,rfl,wd1.tp,by rw [d1];exact e1,fun H2 q2 n2 k2 t2 d2 l2 _=>?_⟩;obtain ⟨wd2,m2⟩:=wd1.tape k2 t2;obtain ⟨o1,o2⟩:=jqd bo hl;have st:WaysNeutral.step g [[3],r0]=((zx g js (toN r0)).1,(zx g js (toN r0)).2.2):=by
    rw [joy g hb];unfold zx;rw [jja]<;>(cases va (jS (toN r0))<;>split<;>rfl)
   exact ⟨b,q2,g,js,toN r0,rfl,wd2.bk,l2.ln fun z hz=>(hb z hz).1,fun H3 q k3 q0 hb3 hq=>kk H3 q n2 _ _ _ (((kp k1).trans (kp k2)).trans (kb k3)) (wd2.free ((kp k1).trans (kp k2)) q0) (wd2.book k3 hb3).1 o1 d2 st hq (Da o2 (by decide))⟩
  ·have wl:=jgW bo.ja bo.jl bo.al;refine ⟨_,rfl,b,g,js,rfl,wd1.bk,bo,fun H2 q s2 q0 hq=>kk H2 q (n+1) g js _ ((kp k1).trans (jn.kp s2)) (wd1.free (kp k1) q0) (wd1.same s2) bo d1 (joA g) hq ?_⟩;rw [Cd,bo.je];unfold Sy.ints;rw [Cb];omega
  ·have ha':(r0.all (fun (z:Int)=>decide (0≤z)) && r1.all (fun (z:Int)=>decide (0≤z)))=true:=ha;rw [Cn] at ha';have nr:=jaN ha'.1;have nk:=jaN ha'.2;refine ⟨_,rfl,_,rfl,b,p,g,js,l,xs,n+1,r0,s1,r1,s2,r2,s,rfl,wd1,bo,hx,by rw [d1];exact e1,e2,e3,nr,nk,fun H2 q n2 k2 q0 wd2 d2 hq=>kk H2 q n2 g js _ ((kp k1).trans (kp k2)) (wd1.free (kp k1) q0) wd2 bo d2 (jpT bo.hw nr nk) hq ?_⟩;split<;>simp
  ·have ha':(decide (0≤i) && (r0.all (fun (z:Int)=>decide (0≤z)) && r1.all (fun (z:Int)=>decide (0≤z))))=true:=ha;rw [Cn,Cn] at ha';have nr:=jaN ha'.2.1;have nk:=jaN ha'.2.2;have i0:=Co ha'.1;exact ⟨_,rfl,_,rfl,b,p,g,js,l,xs,n+1,i,s0,r0,s1,r1,s2,r2,s,rfl,wd1,bo,hx,d1,i0,e1,e2,e3,nr,nk,fun H2 q n2 k2 q0 wd2 d2 hq hl=>kk H2 q n2 g js _ ((kp k1).trans (k2.more (by simp))) (wd1.free (kp k1) q0) wd2 bo d2 (jq4 bo.hw i0 nr nk) hq (Da hl (by decide))⟩
  ·have nr:=jaN (l:=r0) ha;exact ⟨_,rfl,_,rfl,b,p,g,js,l,xs,n+1,r0,s1,r1,s,rfl,wd1,bo,hx,by rw [d1];exact e1,e2,nr,fun H2 q n2 k2 q0 wd2 d2 hq hl=>kk H2 q n2 g js _ ((kp k1).trans (kp k2)) (wd1.free (kp k1) q0) wd2 bo d2 (jpS bo.hw nr) hq (Da hl (by decide))⟩
  ·have nr:=jaN (l:=r0) ha;exact ⟨_,rfl,_,rfl,b,p,g,js,l,xs,n+1,r0,s1,r1,s,rfl,wd1,bo,hx,by rw [d1];exact e1,e2,nr,fun H2 q n2 k2 q0 wd2 d2 hq hl=>kk H2 q n2 g js _ ((kp k1).trans (kp k2)) (wd1.free (kp k1) q0) wd2 bo d2 (jpU bo.hw nr) hq (Da hl (by decide))⟩
end
noncomputable def jba:List Int→List (List (List Int))→Prop
 | rest,[]=>rest=[]
 | rest,c :: cs=>∃ s,je1 rest c s∧jba s cs
set_option tactic.hygienic true in
theorem jjj:∀ (f:Nat) (l:List Int) (cs:List (List (List Int))),PyFlat.calls PyWqaibl.shape f l=some cs→jba l cs
 | f,[],cs,h=>by
  have h':some []=some cs:=by cases f<;>exact h
  cases h'
  rfl
 | 0,p :: r,cs,h=>by cases h
 | f+1,p :: r,cs,h=>by
  rw [PyFlat.calls] at h;split at h
  ·cases h
  ·rename_i c t e;split at h
   ·cases h
   ·rename_i cs' e2;cases h;exact ⟨t,jrp e,jjj f t cs' e2⟩
theorem jq9 {r s:List Int} {c:List (List Int)} (h:je1 r c s):PyWqaibl.whole c=c:=by
 rcases h with ⟨_,rfl⟩|⟨_,_,_,_,rfl⟩|⟨_,_,_,_,rfl⟩|⟨_,rfl⟩|⟨_,_,_,_,_,_,_,_,_,_,rfl⟩|⟨_,_,_,_,_,_,_,_,_,_,_,rfl⟩|⟨_,_,_,_,_,_,_,rfl⟩|⟨_,_,_,_,_,_,_,rfl⟩<;>rfl
theorem jq8:∀ {l:List Int} {cs:List (List (List Int))},jba l cs→cs.map PyWqaibl.whole=cs
 | _,[],_=>rfl
 | _,_ :: _,⟨_,a,b⟩=>by rw [C6,jq9 a,jq8 b]
set_option tactic.hygienic true in
theorem jqg {cs:List (List (List Int))} (h:PyWqaibl.calls l=some cs):jba l cs:=by
 unfold PyWqaibl.calls at h;split at h
 ·cases h
 ·rename_i cs' e;cases h;have:=jjj _ _ _ e;rwa [jq8 this]
theorem jrC {rest:List Int} {c:List (List Int)} (h:je1 rest c s):rest≠[]:=by
 rcases h with ⟨e,rfl⟩|⟨s0,r0,e,e1,rfl⟩|⟨s0,r0,e,e1,rfl⟩|⟨e,rfl⟩|⟨s0,r0,s1,r1,s2,r2,e,e1,e2,e3,rfl⟩|⟨i,s0,r0,s1,r1,s2,r2,e,e1,e2,e3,rfl⟩|⟨s0,r0,s1,r1,e,e1,e2,rfl⟩|⟨s0,r0,s1,r1,e,e1,e2,rfl⟩<;>rw [e]<;>simp
noncomputable abbrev jbk:Weights→List (List (List Int))→List (List Int):=PyFlat.played WaysNeutral.step
theorem joM (h:PyWqaibl.answers_asked xs=true):∃ cs,jba xs cs∧cs.length≤100∧(∀ c∈cs,WaysNeutral.asked1 c=true)∧PyWqaibl.answers xs=PyFlat.told (jbk bare cs):=by
 unfold PyWqaibl.answers_asked at h;unfold PyWqaibl.answers;cases e:PyWqaibl.calls xs with
 | none=>rw [e] at h;cases h
 | some cs =>
  rw [e] at h;simp only [Cn] at h;refine ⟨cs,jqg e,Co h.1,?_,rfl⟩;have h2:=h.2;unfold WaysNeutral.asked at h2;rw [Cn] at h2;exact Dk.mp h2.1
theorem jhJ {b:Addr} (h:H b=none):del H q b=none:=by
 by_cases e:b=q
 ·rw [e];exact jaL
 ·rw [jT e];exact h
theorem jm4 {o:HO} (h:H q=none):del (upd H q o) q=H:=by
 rw [vv];funext b;by_cases e:b=q
 ·rw [e,jaL,h]
 ·exact jT e
theorem jr8 {pins:List (Addr×Obj)} {σ:St} {s:Shared} {D:Addr} {xs:List V} (I:Inv X pins σ H s) (hD:H D=some (.lst xs)):∃ its n,jx xs its∧xs.length≤sizeLine∧Inv X (pins++[(D,{ cls:=.type "list",data:=.seq its.toArray n })]) σ (del H D) s:=by
 obtain ⟨hz,its,n,hv,hg⟩:=I.hok D _ hD;refine ⟨its,n,hv,hz,I.ok,I.os,I.bare,⟨I.base.keep,I.base.slot,fun b o e n hx=>?_,I.base.there,fun b xs e=>?_,fun b o u e=>?_,fun b ps e=>?_⟩,I.loc,I.cell,?_,fun x c e=>?_,fun p hp=>?_,fun b ob e=>?_,I.len⟩
 ·exact jhJ (I.base.free b o e n hx)
 ·have:=I.base.tups b xs e;rw [jT (fun z=>by rw [z,hD] at this;cases this)];exact this
 ·have:=I.base.frzs b o u e;rw [jT (fun z=>by rw [z,hD] at this;cases this)];exact this
 ·obtain ⟨m,h⟩:=I.base.tbls b ps e;exact ⟨m,by rw [jT (fun z=>by rw [z,hD] at h;cases h)];exact h⟩
 ·exact jhJ I.free
 ·exact jhJ (I.freeC x c e)
 ·rw [←Fe] at hp;rcases Ds.mp hp with hp|hp
  ·obtain ⟨h1,h2,h3⟩:=I.pin p hp;exact ⟨h1,jhJ h2,h3⟩
  ·rw [Cm.mp hp];refine ⟨hg,jaL,fun z=>?_,fun z=>?_,fun v z=>by cases z⟩
   ·have:=I.free;rw [←z,hD] at this;cases this
   ·obtain ⟨_,o,ho,_⟩:=I.ok.funs.mem z;have:=I.base.free D o ho (I.ok.frf D z) fun y=>I.ok.exfs D y z;rw [hD] at this;cases this
 ·have bD:b≠D:=fun z=>by rw [z,jaL] at e;cases e
  rw [jT bD] at e;refine (I.hok b ob e).stay (fun _ _ _ q=>q) (fun c z=>?_) fun c xs z=>?_
  ·rw [jT (fun y=>by rw [y,hD] at z;cases z)];exact z
  ·rw [jT (fun y=>by rw [y,hD] at z;cases z)];exact z
theorem jrW {pins:List (Addr×Obj)} {σ:St} {s:Shared} {D:Addr} {xs:List V} {its:List Value} (I:Inv X (pins++[(D,{ cls:=.type "list",data:=.seq its.toArray n })]) σ H s) (hv:jx xs its) (hz:xs.length≤sizeLine) (h0:X.s_0.heap.get? D=none)
  (hc:∀ x c,X.env.cells.lookup x=some c→c≠D) (hp:∀ p∈X.pn++pins,p.1≠D):H D=none∧Inv X pins σ (upd H D (.lst xs)) s:=by
 obtain ⟨g1,g2,g3,g4,g5⟩:=I.pin (D,_) (D1 _ (D1 _ (Cm.mpr rfl)));have up:∀ b u,H b=some u→upd H D (.lst xs) b=some u:=fun b u e=>by rw [ji (jp e g2)];exact e
 refine ⟨g2,I.ok,I.os,I.bare,⟨I.base.keep,I.base.slot,fun b o e n hx=>?_,I.base.there,fun b xs e=>up _ _ (I.base.tups b xs e),fun b o u e=>up _ _ (I.base.frzs b o u e),fun b ps e=>?_⟩,I.loc,I.cell,?_,fun x c e=>?_,fun p hp'=>?_,fun b ob e=>?_,I.len⟩
 ·rw [ji (fun z=>by rw [z,h0] at e;cases e)];exact I.base.free b o e n hx
 ·obtain ⟨m,h⟩:=I.base.tbls b ps e;exact ⟨m,up _ _ h⟩
 ·rw [ji (Dj g3)];exact I.free
 ·rw [ji (hc x c e)];exact I.freeC x c e
 ·obtain ⟨h1,h2,h3⟩:=I.pin p (by rw [←Fe];exact G8 _ hp');exact ⟨h1,by rw [ji (hp p hp')];exact h2,h3⟩
 ·by_cases e2:b=D
  ·subst e2;rw [jc] at e;cases e;exact ⟨hz,its,n,hv,g1⟩
  ·rw [ji e2] at e;exact (I.hok b ob e).stay (fun _ _ _ q=>q) (fun c z=>up _ _ z) fun c xs z=>up _ _ z
noncomputable def tFr (H0:Hp) (te:TE):TE:=fun σ H Q=>∃ D xs,H D=some (.lst xs)∧H0 D=none∧te σ (del H D) fun v H'=>H' D=none→Q v (upd H' D (.lst xs))
theorem jqQ {e:Expr} {te:TE} (hex:X.ex=[]) (he:PE X e te):PE X e (tFr X.H_0 te):=by
 intro pins s σ H Q I h;obtain ⟨D,xs,hD,h0,h⟩:=h;obtain ⟨its,n,hv,hz,J⟩:=jr8 I hD;have nD:∀ b,H b=none→b≠D:=fun b e z=>by rw [z,hD] at e;cases e
 have s0:X.s_0.heap.get? D=none:=by
  cases q:X.s_0.heap.get? D with
  | none=>rfl
  | some o =>
   have:=I.base.free D o q h0 (by rw [hex];simp);rw [hD] at this;cases this
 refine thn (he _ s σ _ _ J h) fun u s1 ⟨v,H1,J1,r,q⟩=>?_;obtain ⟨g1,g2⟩:=jrW J1 hv hz s0 (fun x c e=>nD _ (I.freeC x c e)) (fun p hp=>nD _ (I.pin p hp).2.1);exact ⟨v,_,g2,r,q g1⟩
section
variable {P:Program} {w:World} {K:Frag} {mg:Str→Option Value} {base:Heap} {t:Adr}
noncomputable def jev (K:Frag) (PT:Addr):Sp:=fun vs H Q _=>∃ (l:Addr) (xs:List Int),vs=[.ref l]∧SqL K H l (zv xs)∧HW PT H∧xs.length≤45500∧PyWqaibl.answers_asked xs=true∧∀ H' p,Kp [PT] H H'→HW PT H'→LI H' p (PyWqaibl.answers xs)→Q (.ref p) H'
theorem jof (T:Txt K mg t) (U:jc7 K t) (L:jiN K mg base PT) {fd:FuncData} (F:Fun K "answers" "answers" jft f fd):zG P w K mg base CX0 10 f fd ["calls"] (jev K PT):=by
 refine F.ok jik (fun vs H Q E h=>?_) (fun cdv A outer s H vs Q E hr h=>?_)
 ·obtain ⟨_,_,rfl,_⟩:=h
  rfl
 ·obtain ⟨l,xs,rfl,hl,hW,hx,ha,kk⟩:=h;obtain ⟨cs0,c1,c2,c3,c4⟩:=joM ha;rw [c4] at kk;have nd:=jik.nd;refine ⟨_,(jd (jE 1 nd (mak (jln T) T.xaf hr.m rfl (jb (pv 0) jh)))
   (jd (jE 2 nd (jt9 (jlm T) T.xac hr.m rfl))
   (jd (jE 3 nd (jN jh))
   (jd (jlB Df (vz (jaC (jg8 T) T.xaf hr.m (pv 1))) (jd (jE 4 nd (jqQ rfl (cal (jgb T U L) hr.m rfl (jb (pv 2) (jb (pv 1) jh)))))
   (jd (vC (zy De Dm Dn vy (pv 3) (jb (vf T.xdl (pv 4)) jh)))
   (jg (vC (zy De PySem.F.slot_list_extend PySem.F.type_list_extend jfh (pv 3) (jb (pv 4) jh)))))))
   (jg (jk (pv 3))))))),?_⟩
  refine ⟨_,rfl,fun p dxp hp hdp nep=>⟨p,dxp,l,rfl,jc,fun H1 h1 k1=>⟨rfl,?_⟩⟩⟩;have s1:jn H H1:=jn.made hp hdp k1;refine fun b dxb hb hdb neb=>⟨b,dxb,rfl,jc,fun H2 k2 hb2=>⟨rfl,?_⟩⟩;have s2:jn H1 H2:=jn.made hb hdb k2;refine ⟨C4 _,fun D hD=>?_⟩;have s12:=s1.trans s2;have wd0:Wd K t PT H2 b p bare [] l xs 0:=⟨hb2,⟨dxp,s2 _ _ h1,jey hl (jn.sm s12)⟩,HT.same hW s12⟩;have hbn:H b=none:=s1.free hb;have hDn:H D=none:=s12.free hD;have sl:sizeLine=16777216:=Gb
  refine ⟨fun m σ H'=>∃ (n:Nat) (cs:List (List (List Int))) (g:Weights) (js:List Join) (told:List Int) (v:Option V),m=cs.length∧σ=[some (.ref l),some (.ref p),some (.ref b),some (.ref D),v]∧Kp [PT] H H'∧Wd K t PT (del H' D) b p g js l xs n∧zM g js∧LI H' D told∧told.length≤110011 * (100 - cs.length)∧cs.length≤100∧jba (xs.drop n) cs∧(∀ c∈cs,WaysNeutral.asked1 c=true)∧told++PyFlat.told (jbk g cs)=PyFlat.told (jbk bare cs0),
   ⟨_,0,cs0,bare,[],[],none,rfl,rfl,jn.kp (s12.trans (jq hD)),by rw [jm4 hD];exact wd0,jmW,jc,C4 _,c2,c1,c3,rfl⟩,?_⟩
  rintro m σ H' ⟨n,cs,g,js,told,v,rfl,rfl,kp,wd,bo,hD',tl,cl,ca,ca2,et⟩;have tp:=wd.tp.same (vj _ _);obtain ⟨dx,h0,_⟩:=id tp;refine ⟨_,rfl,p,dx,_,rfl,h0,rfl,p,l,xs,n,rfl,tp,_,rfl,jB (fun h4=>?_) (fun h4=>?_)⟩
  ·have h4':=Co h4;cases cs with
   | nil =>
    have e:xs.drop n=[]:=ca;rw [F6] at e;omega
   | cons c cs =>
    obtain ⟨s',ci,ca'⟩:=ca;refine ⟨fun σ' H2=>∃ (n:Nat) (g:Weights) (js:List Join) (told:List Int) (v:Option V),σ'=[some (.ref l),some (.ref p),some (.ref b),some (.ref D),v]∧Kp [PT] H H2∧Wd K t PT (del H2 D) b p g js l xs n∧zM g js∧LI H2 D told∧told.length≤110011 * (100 - cs.length)∧cs.length≤100∧jba (xs.drop n) cs∧(∀ c∈cs,WaysNeutral.asked1 c=true)∧told++PyFlat.told (jbk g cs)=PyFlat.told (jbk bare cs0),
     fun σ' H2 ⟨n,g,js,told,v,z1,z2,z3,z4,z5,z6,z7,z8,z9,z10⟩=>⟨cs.length,by rw [Cd];omega,n,cs,g,js,told,v,rfl,z1,z2,z3,z4,z5,z6,z7,z8,z9,z10⟩,?_⟩
    refine ⟨D,_,hD',hDn,_,rfl,_,rfl,b,p,g,js,l,xs,n,c,s',rfl,wd,bo,by omega,ci,ca2 c (Cf ..),fun H3 q n' g' js' a k3 _ wd3 bo3 d3 st hq al hD3=>?_⟩;rw [Cd] at tl cl;have qD:q≠D:=jp (show H3 q=_ from hq) hD3;have kp3:∀ x o,H x=some o→x∉[PT]→H3 x=some o:=fun x o e n=>k3 x o (by rw [jT (jp e hDn)];exact kp x o e n) (by
     have x1:x≠b:=jp e hbn;have x2:x≠p:=jp e hp;have x3:x≠PT:=fun z=>n (by simp [z]);simp [x1,x2,x3])
    refine ⟨_,rfl,.inl ⟨rfl,_,SqL.of jc⟩,_,rfl,q,_,rfl,.inl (SqL.of (by rw [ji qD];exact hq)),D,_,_,rfl,rfl,jc,by rw [zL];omega,?_⟩;refine ⟨_,rfl,.inl ⟨rfl,_,SqL.of jc⟩,_,rfl,D,q,_,_,rfl,rfl,jc,by rw [ji qD,ji qD];exact hq,by rw [Ci,zL,zL];simp only [Cd,Ct];omega,?_⟩;refine ⟨n',g',js',told++((a.length:Int) :: a),some (.ref q),rfl,fun x o e n=>?_,?_,bo3,?_,?_,by omega,by rw [d3];exact ca',fun c hc=>ca2 c (Cg _ hc),?_⟩
    ·have xD:=jp e hDn;rw [ji xD,ji xD,ji xD];exact kp3 x o e n
    ·rw [vv,vv,jm4 hD3];exact wd3
    ·show upd _ D _ D=_;rw [jc,zL,show told++((a.length:Int) :: a)=(told++[(a.length:Int)])++a by simp];unfold zv;rw [Dc,Dc]
     rfl
    ·rw [Ci,Cd];omega
    ·rw [←et];show _=told++PyFlat.told ((WaysNeutral.step g c).2 :: jbk (WaysNeutral.step g c).1 cs);rw [st];unfold PyFlat.told;rw [Dl,Fe]
  ·have h4':¬n < xs.length:=fun e=>h4 (C3 e);cases cs with
   | cons c cs =>
    obtain ⟨s',ci,_⟩:=ca;exact absurd (F6.mpr (by omega)) (jrC ci)
   | nil =>
    have e:told=PyFlat.told (jbk bare cs0):=by
     rw [←et];exact (D5 _).symm
    rw [e] at hD';exact ⟨_,rfl,kk _ D kp (HT.same wd.tb (vj _ _)) hD'⟩
end
section
variable {K:Frag} {h:Heap} {mg:Str→Option Value}
theorem jsq {st:Stmt} {an:Option Addr} {kV doc pm cdv ct:Value} (X:K.In h) (G:h.Ns mainGlobals mg) (a:PySem.W.nsIn K mainGlobals x=some (some (.ref f)))
  (l:K.lookup f=some ⟨oc,od,.func (PySem.W.fnOf x x (jbd st) (zu st) (jm st) .none kV doc pm an cdv ct),osl⟩) (c:PySem.W.codeIn K cdv x=true) (k:PySem.W.keepIn K (.ref f)=true)
  (b:∀ (kV doc pm:Value) (an:Option Addr) (cdv ct:Value) (us:List Value),us.length=ps.length→bindArgs (PySem.W.fnOf x x (jbd st) (zu st) (jm st) .none kV doc pm an cdv ct) ⟨us,[]⟩=pure (ps.zip us)):Def K mg x st ps :=
 ⟨f,_,jo5 (st:=st) l c k,Binds.all (b kV doc pm an cdv ct),PySem.W.mg_of X G a⟩
theorem jsP {q:Str} {st:Stmt} {an:Option Addr} {kV doc pm cdv ct:Value} (a:PySem.W.findIn K (.ref C) x=some (some (.ref f))) (i:PySem.W.isFn K (.ref f)=true)
  (l:K.lookup f=some ⟨oc,od,.func (PySem.W.fnOf x q (jbd st) (zu st) (jm st) .none kV doc pm an cdv ct),osl⟩) (c:PySem.W.codeIn K cdv q=true) (k:PySem.W.keepIn K (.ref f)=true)
  (b:∀ (kV doc pm:Value) (an:Option Addr) (cdv ct:Value) (us:List Value),us.length=ps.length→bindArgs (PySem.W.fnOf x q (jbd st) (zu st) (jm st) .none kV doc pm an cdv ct) ⟨us,[]⟩=pure (ps.zip us)):Mth K C x q st ps :=
 ⟨f,_,jo5 (st:=st) l c k,Binds.all (b kV doc pm an cdv ct),a,i⟩
theorem jsJ (X:K.In h) (G:h.Ns mainGlobals mg) (aC:PySem.W.nsIn K mainGlobals x=some (some (.ref C))) (pg:PySem.W.plainGet K C Str.empty=true) (hd:PySem.W.hasDictIn K C=true) (po:PySem.W.plainOver K C=true)
  (sa:PySem.W.findIn K (.ref C) "__setattr__"=some (some (.builtin "object.__setattr__"))) (mk:PySem.W.makesIn K C=true) (kc:PySem.W.keepIn K (.ref C)=true):Kls K mg x C:=⟨⟨pg,hd,po,sa⟩,PySem.W.mg_of X G aC,mk,kc⟩
theorem jsC {i:Int} {z:Tok} (X:K.In h) (G:h.Ns mainGlobals mg) (a:PySem.W.nsIn K mainGlobals x=some (some (.int i z))):∃ z,mg x=some (.int i z):=⟨z,PySem.W.mg_of X G a⟩
theorem jo3 {N:Addr} {v:Value} {es:Array DictEntry} {ep:Nat} (hN:K.lookup N=some ⟨oc,od,.dict es ep,osl⟩) (e:PySem.W.nsIn K N x=some (some v)):nsFind es x=some v:=by
 unfold PySem.W.nsIn at e;rw [hN] at e;dsimp only at e;split at e
 ·rename_i en he;cases e;unfold nsFind findBy;rw [←Array.find?_toList,he]
  rfl
 ·split at e<;>cases e
theorem jbz {N:Addr} {es:Array DictEntry} {ep:Nat} (hN:K.lookup N=some ⟨oc,od,.dict es ep,osl⟩) (e:PySem.W.nsIn K N x=some none):nsFind es x=none:=by
 unfold PySem.W.nsIn at e;rw [hN] at e;dsimp only at e;split at e
 ·cases e
 ·rename_i he;unfold nsFind findBy;rw [←Array.find?_toList,he]
  rfl
set_option tactic.hygienic true in
theorem jsz {fI:Addr} (q:jn1 K C fI=true):je2 K C fI:=by
 unfold jn1 at q;split at q
 ·rename_i dd cd sl ho;split at q
  ·rename_i C' bm k0 k1 k2 k3 n k5 hm hs;simp only [Cn,D8,Jd] at q;obtain ⟨rfl,hdel,hb,hn,hdct,hns,q1,q2,q3,q4,q5,q6⟩:=q;obtain ⟨nm,bs,mro,ns,qn,hd,sn,sub,ab,col,del⟩:=cd;dsimp only at hm hdel hdct hns q1 q2 q3 q4 q5 q6;subst hm hdel hb hn hdct;have hsl:sl=#[k0,k1,k2,k3,some (.builtin "Exception.__new__"),k5]:=by
    obtain ⟨l⟩:=sl;simp only at hs;rw [hs]
   subst hsl;have hns':=hns;unfold PySem.W.nsOkIn at hns';split at hns'
   ·rename_i oc od es ep osl hN;have hNs:∀ h:Heap,K.In h→h.Ns ns (fun x=>nsFind es x):=fun h X=>by
     have:=Heap.Ns.of_isNs (PySem.W.isNs_of_in X hns);obtain ⟨o,es',ep',e1,e2,e3,e4⟩:=this;have:=X _ _ hN;rw [e1] at this;cases this;cases e2;exact ⟨_,es,ep,e1,rfl,e3,fun _=>rfl⟩
    exact ⟨nm,qn,ns,bs,sn,sub,ab,col,dd,k0,k1,k2,k3,k5,fun x=>nsFind es x,fun h X=>⟨X _ _ ho,hNs h X⟩,jo3 hN q1,jbz hN q2,jbz hN q3,jbz hN q4,jbz hN q5,jbz hN q6⟩
   ·cases hns'
  ·cases q
 ·cases q
noncomputable def jer (K:Frag):Addr:=match PySem.W.tabIn K "ways_in_order" with
 | some (_,P)=>P
 | none=>0
noncomputable def jiL (mg:Str→Option Value) (base:Heap):Prop:=∃ bm ob,mg "__builtins__"=some (.ref bm)∧bm≠builtinsNs∧base.get? bm=some ob∧ob.cls=.type "module"∧ob.dict=some builtinsNs∧ob.data=.plain
set_option tactic.hygienic true in
theorem jnl (q:jhS K=true):∃ c,PySem.W.tabIn K "ways_in_order"=some (c,jer K)∧PySem.W.codeHdIn K c (jer K)=true∧K.lookup (jer K)=none:=by
 unfold jhS at q;unfold jer;split at q
 ·rename_i c P e;rw [Cn,Option.isNone_iff_eq_none] at q;rw [e];exact ⟨c,rfl,q.1,q.2⟩
 ·cases q
set_option tactic.hygienic true in
theorem jrF (X:K.In h) (G:h.Ns mainGlobals mg) (q:jhS K=true) {base:Heap} (bm:jiL mg base):jiN K mg base (jer K):=by
 obtain ⟨c,e,hd,_⟩:=jnl q;refine ⟨c,fun f oc od fd osl e1 e2=>?_,hd,bm⟩;unfold PySem.W.tabIn at e;split at e
 ·rename_i f' hf;have:=PySem.W.mg_of X G hf;rw [e1] at this;cases this;split at e
  ·rename_i hfo;rw [e2] at hfo;cases hfo;split at e
   ·rename_i c' hc;split at e
    ·split at e
     ·cases e;exact hc
     ·cases e
    ·cases e
   ·cases e
  ·cases e
 ·cases e
end
theorem jow {P:Program} {w:World} {mg mb:Str→Option Value} {CX:CXT} {fa:Addr} {fd:FuncData} {sp:Sp} {s₁:Shared} {vals:List Value} {ds:List WData} {R:PySem.W.WRecords} {cl:Str→Option Addr} {d0:WData}
  (KX:K.In s₁.heap) (hns:s₁.heap.Ns mainGlobals mg) (hb:s₁.heap.Ns builtinsNs mb) (hbb:∀ x:Str,x≠"__name__"→mb x=bootBuiltins x) (hlim:s₁.heap.NoLimit) (hg:s₁.gens=#[])
  {c0:Addr} (hCd:PySem.W.CodeHd s₁.heap c0 PT) (hPT:s₁.heap.get? PT=some (PySem.W.tabObj #[])) (hKP:K.lookup PT=none) (hbm:jiL mg s₁.heap) (hwl:WellAll w.params s₁.heap vals ds) (hpl:jbK ds=true) (hwt:∀ d∈ds,d.weight≤1048576) (hr:j6 k callerA)
  (F:∀ base:Heap,K.In base→base.Ns mainGlobals mg→jiL mg base→zG P w K mg base CX k fa fd ps sp) (hbind:∀ (s:Shared) (us:List Value),us.length=ps.length→BindsTo s fd ⟨us,[]⟩ (ps.zip us)) (hlen:ds.length=ps.length)
  (hsp:∀ (H0 H:Hp) (xs:List V),jn H0 H→HW PT H→jaS K H0 xs ds→sp xs H (fun v H'=>Dw K H' v d0∧HW PT H') fun _ _ _=>False)
  (hCX:∀ H e s',CX [] H s₁ (fun _ _ _=>False) e s'→False) :
  codeAny (model P w) callerA (.call (.ref fa) ⟨vals,[]⟩) (fun r s'=>∃ u as,r=.ok (.ret u)∧ReadsW R cl s'.heap u d0 as∧PySem.OldK s₁.heap s'.heap∧s'.os=s₁.os∧AllBare s'.gens) s₁:=by
 obtain ⟨A,ho,ar⟩:=jea ds vals hwl hpl hwt;have hO:jrb (zO K s₁.heap A):=joL ar;have hok:HOk P w (zO K s₁.heap A) s₁.heap:=jro ar;have hS:=jhK KX ar ds vals hwl hpl ho;have hV:=jbq ho;have hK:∀ b u,zO K s₁.heap A b=some u→K.lookup b=none:=fun b u q=>(jfW ar q).1;have noA:∀ {b:Addr} {o:Obj},s₁.heap.get? b=some o→(∀ xs n,o.data≠.seq xs n)→zO K s₁.heap A b=none:=fun {b o} e d=>by
  cases q:zO K s₁.heap A b with
  | none=>rfl
  | some u =>
   obtain ⟨_,vs,_,_,⟨e2,_⟩|⟨e2,_⟩⟩:=jfW ar q
   ·rw [e2] at e;cases e;exact absurd rfl (d _ _)
   ·rw [e2] at e;cases e;exact absurd rfl (d _ _)
 generalize zO K s₁.heap A=H0 at hO hok hS hK noA;have h0P:H0 PT=none:=noA hPT fun _ _ z=>nomatch z;have s0:jn H0 (upd H0 PT (tbO PT #[])):=jq h0P;have hokT:HOk P w (upd H0 PT (tbO PT #[])) s₁.heap:=fun b u q=>by
  by_cases e:b=PT
  ·subst e;rw [jc] at q;cases q;exact jpW hPT
  ·rw [ji e] at q;exact (hok b u q).stay (fun _ _ _ z=>z) (fun c z=>s0 _ _ z) fun c xs z=>s0 _ _ z
 have nH:∀ {b:Addr} {o:Obj},s₁.heap.get? b=some o→(∀ xs n,o.data≠.seq xs n)→(∀ xs,o.data≠.fields xs)→upd H0 PT (tbO PT #[]) b=none:=fun {b o} e d d2=>by
  rw [ji (fun z=>by rw [z,hPT] at e;cases e;exact absurd rfl (d2 _))];exact noA e d
 have base_of:∀ {b:Addr} {o:Obj},s₁.heap.get? b=some o→upd H0 PT (tbO PT #[]) b=none→(jdb s₁.heap (upd H0 PT (tbO PT #[]))).get? b=some o:=fun e n=>jqs e n;have nsK:∀ {b:Addr} {m:Str→Option Value},s₁.heap.Ns b m→(jdb s₁.heap (upd H0 PT (tbO PT #[]))).Ns b m:=fun {b m} ⟨o,es,ep,e,d,r⟩=>⟨o,es,ep,base_of e (nH e (fun _ _ z=>by rw [d] at z;cases z) fun _ z=>by rw [d] at z;cases z),d,r⟩;have nK:∀ b o,K.lookup b=some o→upd H0 PT (tbO PT #[]) b=none:=fun b o e=>by
  rw [ji (fun z=>by rw [z,hKP] at e;cases e)];cases q:H0 b with
  | none=>rfl
  | some u =>
   rw [hK b u q] at e;cases e
 have hKb:K.In (jdb s₁.heap (upd H0 PT (tbO PT #[]))):=fun b o e=>base_of (KX b o e) (nK b o e);have hM:Mod K mg (jdb s₁.heap (upd H0 PT (tbO PT #[]))):=⟨hKb,nsK hns,⟨mb,nsK hb,hbb⟩,let ⟨mc,h1,h2⟩:=hlim;⟨mc,nsK h1,h2⟩⟩;have hbmB:jiL mg (jdb s₁.heap (upd H0 PT (tbO PT #[]))):=by
  obtain ⟨bm,ob,b1,b2,b3,b4,b5,b6⟩:=hbm;exact ⟨bm,ob,b1,b2,base_of b3 (nH b3 (fun _ _ z=>by rw [b6] at z;cases z) fun _ z=>by rw [b6] at z;cases z),b4,b5,b6⟩
 have e0:jc5 P w K mg (jdb s₁.heap (upd H0 PT (tbO PT #[]))) callerA [] s₁ (upd H0 PT (tbO PT #[])):=⟨rfl,hM,fun b o e=>jrN e,Nat.le_of_eq (jpd _ _),trivial,fun b hb=>absurd (show b∈([]:List Addr) from hb) (by simp),hokT,.of_eq hg⟩;have hl:vals.length=ps.length:=by rw [jbv hwl];exact hlen
 refine G9 ((F _ hKb (nsK hns) hbmB).run callerA [] s₁ (upd H0 PT (tbO PT #[])) ⟨vals,[]⟩ vals (vals.map toV) _ _ hr e0 (hbind s₁ vals hl) hV (hsp H0 _ _ s0 (.inl jc) hS)) fun r s' x=>?_;cases r with
 | error e=>exact (hCX _ e s' x).elim
 | ok fl =>
  cases fl with
  | next=>exact False.elim x
  | brk=>exact False.elim x
  | cont=>exact False.elim x
  | ret u =>
   obtain ⟨v,H',os,bare,un,hok',r',q,qW⟩:=x;have kept:∀ b o,b≠PT→s₁.heap.get? b=some o→s'.heap.get? b=some o:=fun b o nb e=>by
    cases q2:H0 b with
    | none=>exact un.keep b o e (by rw [ji nb];exact q2) (by intro z;exact absurd (show b∈([]:List Addr) from z) (by simp)) (by simp)
    | some u2 =>
     rcases hO b with z|⟨ob,u3,z⟩
     ·rw [q2] at z;cases z
     ·have z2:=un.frzs b ob _ (s0 _ _ z);obtain ⟨e1,_⟩:=hok b _ z;obtain ⟨e2,_⟩:=hok' b _ z2;rw [e] at e1;cases e1;exact e2
   have grown:∃ ps,s'.heap.get? PT=some (PySem.W.tabObj ps):=by
    rcases qW with z|⟨c,z,_⟩
    ·exact ⟨_,(hok' PT _ z).1⟩
    ·exact ⟨_,(hok' PT _ z).1⟩
   have KX':K.In s'.heap:=fun b o e=>kept b o (fun z=>by rw [z,hKP] at e;cases e) (KX b o e);obtain ⟨as,hrd⟩:=Dw.reads (R:=R) (cl:=cl) hok' KX' d0 v u q r';obtain ⟨pg,hpg⟩:=grown;refine ⟨u,as,rfl,hrd,⟨fun b o e=>?_,fun b o e=>?_⟩,os,bare⟩
   ·by_cases nb:b=PT
    ·subst nb;rw [hPT] at e;cases e;exact .inr (.inl ⟨(hCd.tab hPT).isCodeTable,rfl,#[],pg,rfl,by rw [Array.empty_append];exact hpg⟩)
    ·exact .inl (kept b o nb e)
   ·by_cases nb:b=PT
    ·rw [nb];exact ⟨_,hpg⟩
    ·exact ⟨o,kept b o nb e⟩
theorem jiT {ds:List WData} (h:WData.layableAll ds=true):∀ d∈ds,d.weight≤1048576:=fun d hd =>
 (PySem.W.layableW_iff.mp (Dk.mp h d hd)).2.2
theorem jhL:∀ (cs:List Codec) (a:Codec.denoteAll cs),(Codec.encAll cs a).length=cs.length
 | [],_=>rfl
 | c :: cs,a=>by
  show (Codec.encAll cs a.2).length+1=cs.length+1;rw [jhL cs a.2]
theorem joG {r:OpenSpec} {q:Program} {loose:List Str} {XP:(Str→Option Value)→Heap→Prop} {YP:World→Heap→Prop} {d:DefRec} {CX:CXT} {sp:Frag→Sp} {d1:DefRec}
  (hwell:r.wellSaid=true) (hdf:d.params.defaults=[]) (hlen:r.args.length=ps.length) (hr:j6 k callerA)
  (hrec:(recsOf q).find? (fun e=>e.name == ("ways_in_order":Str))=some d1)
  (F:∀ (w:World) (h:Heap),YP w h→∃ K:Frag,K.In h∧jhS K=true∧∀ (mg:Str→Option Value) (fa:Addr),h.Ns mainGlobals mg→mg d.name=some (.ref fa) →
   ∃ fd:FuncData,(∀ (s:Shared) (us:List Value),us.length=ps.length→BindsTo s fd ⟨us,[]⟩ (ps.zip us)) ∧
    ∀ base:Heap,K.In base→base.Ns mainGlobals mg→jiL mg base→zG r.prog w K mg base CX k fa fd ps (sp K))
  (hsp:∀ (K:Frag) (H0 H:Hp) (xs:List V) (a:Codec.denoteAll r.args),jn H0 H→HW (jer K) H→Codec.withinAll r.args a=true→Codec.app r.args r.asked a=true→jaS K H0 xs (Codec.encAll r.args a) →
   sp K xs H (fun v H'=>Dw K H' v (r.ret.enc (Codec.app r.args r.f a))∧HW (jer K) H') fun _ _ _=>False)
  (hCX:∀ (H:Hp) (s:Shared) (e:Value) (s':Shared),CX [] H s (fun _ _ _=>False) e s'→False) :
  PySem.W.WalkOS q loose XP YP r d [] (fun f vs=>PySem.call f vs):=by
 intro w s_0 s₁ mg mb G Y fa o pm cd doc dV kV ho hd hcd hD hmg hg args vals as hpre hlay hrd hwl hlo;obtain ⟨a,e1,e2⟩:=PySem.W.os_pre_some hpre;obtain ⟨e3,hwi⟩:=Codec.encAll_of_decAll r.args args a e1;subst e3;obtain ⟨K,KX,hL,F⟩:=F w _ Y;obtain ⟨fd,hb,hF⟩:=F mg fa G.T.g hmg;obtain ⟨c0,t1,t2,t3⟩:=jnl hL;obtain ⟨t4,t5⟩:=PySem.W.tab_of G.T KX hrec t1;refine PySem.W.enter_call (G9 (jow (R:=[]) (cl:=classAt s_0.heap) (d0:=r.ret.enc (Codec.app r.args r.f a)) KX G.T.g G.T.b G.T.builtins G.T.nolimit hg t4 t5 t3 G.T.bmain hwl (jjL _ _) (jiT hlay) hr hF hb (by rw [jhL];exact hlen)
  (fun H0 H xs hs hW hS=>hsp K H0 H xs a hs hW hwi e2 hS) fun H e s'=>hCX H s₁ e s') fun r' s' hq=>?_)
 obtain ⟨u,as',rfl,h1,h2,h3,h4⟩:=hq;exact ⟨.inl ⟨u,_,as',rfl,fun _=>rfl,h1,(OpenSpec.post_iff hwell hwi _ _).mpr rfl,fun z=>Bool.noConfusion (show false=true from z)⟩,h2,h3,h4⟩
end
end Rw
namespace Rw
open PySem PySem.Spec PyProof.Rows L2 Rd
open PySem.W (Frag)
theorem jtg {K:Frag} {a:Addr} {xs:List Int} {od:Option Addr} {its:List Value} {n:Nat} {sl:Array (Option Value)} (l:K.lookup a=some ⟨.type "tuple",od,.seq its.toArray n,sl⟩) (v:jx (xs.map V.int) its) (hl:xs.length≤100):jkG K a xs :=
 ⟨_,its.toArray,n,l,rfl,rfl,(by have:=v.length;rw [Cb] at this;rw [Cy,Gb];omega),by simpa using v⟩
theorem jsy {P:Program} {w:World} {K:Frag} {h:Heap} {mg:Str→Option Value} {fa fI cF cJ cW cS cB cT tm tl:Addr} (X:K.In h) (G:h.Ns mainGlobals mg) (hfa:mg "answers"=some (.ref fa))
 (aF:PySem.W.nsIn K mainGlobals "Fault"=some (some (.ref cF))) (aJ:PySem.W.nsIn K mainGlobals "Joins"=some (some (.ref cJ))) (aW:PySem.W.nsIn K mainGlobals "Word"=some (some (.ref cW))) (aS:PySem.W.nsIn K mainGlobals "Settled"=some (some (.ref cS))) (aB:PySem.W.nsIn K mainGlobals "Book"=some (some (.ref cB))) (aT:PySem.W.nsIn K mainGlobals "Tape"=some (some (.ref cT)))
 (aM:PySem.W.nsIn K mainGlobals "FIRST_BYTE_MARKS"=some (some (.ref tm))) (aL:PySem.W.nsIn K mainGlobals "LEAST_NUMBERS"=some (some (.ref tl))) (hfi:PySem.W.findIn K (.ref cF) "__init__"=some (some (.ref fI))) (hfk:PySem.W.keepIn K (.ref cF)=true) (hfl:jn1 K cF fI=true) (hlam:jhS K=true) (T:Txt K mg ⟨cF,cJ,cW,cS,cB,cT,tm,tl⟩) :
 ∃ fd:FuncData,(∀ (s:Shared) (us:List Value),us.length=(["calls"]:List Str).length→BindsTo s fd ⟨us,[]⟩ ((["calls"]:List Str).zip us))∧∀ base:Heap,K.In base→base.Ns mainGlobals mg→jiL mg base→zG P w K mg base CX0 10 fa fd ["calls"] (jev K (jer K)):=by
 have U:jc7 K ⟨cF,cJ,cW,cS,cB,cT,tm,tl⟩:=⟨⟨fI,jsz hfl,hfi⟩,hfk⟩
 obtain ⟨f,fd,F,b,g⟩:=T.xco
 have e:=hfa.symm.trans g
 cases e
 have F':=F
 obtain ⟨oc,od,kV,doc,pm,an,cdv,ct,osl,rfl,lk,hcd⟩:=F.ex
 exact ⟨_,fun s us hu=>match us,hu with|[_],_=>.of_eq rfl,fun base _ _ bm=>jof T U (jrF X G hlam bm) F'⟩
end Rw
namespace Hd
set_option tactic.hygienic true
open PySem PySem.Spec PyProof.Rows L2 Rw
open PySem.W
theorem T0_abs (P:Params) (os:OsState):(T0 P os).abs=⟨boot_heap P,#[],boot_drawn,boot_toks,os⟩:=by kernel_rfl
theorem look {α β:Type} {o:Option α} {f:α→β} {b:β} {t:α} (h:o=some t) (e:o.map f=some b):f t=b:=by subst h;exact Cs e
theorem left_of {p q:Program} {α:Type} {Yf:Shared→α} {y:α} (hp:opening p=plainProg p.main.scope.names) (hf:∀ s,fenceModules? p s=some s) (h1:∀ w os,r1 p q w os=some (true,expectedOf q,bltViewBooted)) (h2:∀ w os,r2 p q w os=some (true,true))
  (h3:∀ w os,r3 p q w os=some (pinGoodD (drecsOf q),plainGoodE q (looseW q []),plainGoodD q [])) (h4:∀ w os,r4 p q w os=some (wideGood q,clsGoodW q [])) (h5:∀ w os,(tRun p w os).map (fun t=>Yf t.abs)=some y) :
  LeftO p q [] (fun s=>xlAt q [] s && recOk [] s) Yf (fun _=>y) 8118:=fun w=>by
 obtain ⟨⟨h,gs,d,k,os⟩,e,e'⟩:=Jl.mp (boot_open (p:=p) (N:=8118) hp rfl hf w)
 obtain ⟨rfl,rfl,rfl,rfl⟩:h=boot_heap w.params∧gs=Array.mk []∧d=boot_drawn∧k=boot_toks:=by simpa using e'
 obtain ⟨t,ht,l1⟩:=Jl.mp (h1 w os)
 have l2:=look ht (h2 w os)
 have l3:=look ht (h3 w os)
 have l4:=look ht (h4 w os)
 have l5:=look ht (h5 w os)
 have r:=topRun_of ht
 rw [T0_abs] at r
 have z1:((boot_heap w.params).isNs mainGlobals && (Array.mk []:Array GenState).size == 0)=true:=by kernel_rfl
 have z2:(boot_heap w.params).objs.size=11:=by kernel_rfl
 have z3:(boot_heap w.params).nsMap mainGlobals "__annotations__"=some (.ref 6):=by kernel_rfl
 have tt:topFrom treeTable p w 8118 ⟨boot_heap w.params,Array.mk [],boot_drawn,boot_toks,os⟩=some t.abs:=by
  unfold topFrom
  dsimp only
  rw [z1,z2,z3,r]
  show (match (g1 p q w t).1 with|true=>some t.abs|false=>none)=_
  rw [l1]
 unfold openEnds
 rw [e]
 show (topFrom treeTable p w 8118 _).map _=_
 rw [tt]
 exact D7 some (Prod.ext (Prod.ext (D7 (·.2.1) l1) (Prod.ext (D7 (·.2.2) l1) (Prod.ext (D7 (·.1) l2) (Prod.ext (D7 (·.2) l2) (Prod.ext (D7 (·.1) l3) (Prod.ext (D7 (·.2.1) l3) (Prod.ext (D7 (·.2.2) l3) (Prod.ext (D7 (·.1) l4) (D7 (·.2) l4))))))))) l5)
noncomputable abbrev qw:=vwP pw
noncomputable abbrev Yf (s:Shared):Bool×List FT×List FT:=(bF (kOf s.heap),pw.main.body.map (fS (kOf s.heap)),mN.map (mF (kOf s.heap)))
theorem three {α β γ δ:Type} {o:Option α} {f:α→β} {g:α→γ} {k:α→δ} {x:β} {y:γ} {z:δ} (a:o.map f=some x) (b:o.map g=some y) (c:o.map k=some z):o.map (fun t=>(f t,g t,k t))=some (x,y,z):=by
 obtain ⟨t,rfl,rfl⟩:=Jl.mp a
 cases b
 cases c
 rfl
theorem left:LeftO pw qw [] (fun s=>xlAt qw [] s && recOk [] s) Yf (fun _=>(true,pw.main.body.map gS,mS.map mG)) 8118 :=
 left_of (by kernel_rfl) (fun s=>by kernel_rfl) E1 E2 E3 E4 fun w os=>three (E5 w os) (E6 w os) (E7 w os)
noncomputable def YP (_:World) (h:Heap):Prop:=∃ K:Frag,K.In h∧bF K=true∧pw.main.body.map (fS K)=pw.main.body.map gS∧mN.map (mF K)=mS.map mG
theorem yp_of (w:World) (s:Shared) (e:Yf s=(true,pw.main.body.map gS,mS.map mG)):YP w s.heap:=⟨kOf s.heap,kOf_in _,D7 (·.1) e,D7 (·.2.1) e,D7 (·.2.2) e⟩
theorem yp_keeps (w:World) (h h':Heap) (x:YP w h) (k:∀ b o,h.get? b=some o→h'.get? b=some o):YP w h':=by
 obtain ⟨K,X,r⟩:=x
 exact ⟨K,X.keeps k,r⟩
theorem mapAt {α β:Type} {l:List α} {f g:α→β} (F:l.map f=l.map g) {i:Nat} {m:α} (h:l[i]?=some m):f m=g m:=by
 have:=D7 (·[i]?) F
 simp only [Dz,h] at this
 exact Cs this
section
variable {K:Frag} {h:Heap} {mg:Str→Option Value} {x q:Str} {st:Stmt} {ps:List Str} {C:Addr}
theorem d_of (X:K.In h) (G:h.Ns mainGlobals mg) (F:pw.main.body.map (fS K)=pw.main.body.map gS) {i:Nat} (hx:dNm (top i)=some x)
  (b:∀ (kV doc pm:Value) (an:Option Addr) (cdv ct:Value) (us:List Value),us.length=ps.length→bindArgs (fnOf x x (jbd (top i)) (zu (top i)) (jm (top i)) .none kV doc pm an cdv ct) ⟨us,[]⟩=pure (ps.zip us)):Def K mg x (top i) ps:=by
 have e:fS K (top i)=gS (top i):=by
  unfold top
  rw [Cq]
  rcases e:pw.main.body[i]? with _|m
  ·rfl
  ·exact mapAt F e
 unfold fS gS at e
 rw [hx] at e
 obtain ⟨f,oc,od,an,osl,kV,doc,pm,cdv,ct,e1,l,c,k,-⟩:=fn_of e
 exact jsq X G e1 l c k b
theorem m_of (F:mN.map (mF K)=mS.map mG) {c:Str} (a:nsIn K mainGlobals c=some (some (.ref C))) (hi:(c,x,q,st)∈mS)
  (b:∀ (kV doc pm:Value) (an:Option Addr) (cdv ct:Value) (us:List Value),us.length=ps.length→bindArgs (fnOf x q (jbd st) (zu st) (jm st) .none kV doc pm an cdv ct) ⟨us,[]⟩=pure (ps.zip us)):Mth K C x q st ps:=by
 have e:=List.map_inj_left.mp (show mS.map (fun m=>mF K (m.1,m.2.1))=_ from F) _ hi
 dsimp only at e
 unfold mF mG at e
 dsimp only at e
 rw [a] at e
 obtain ⟨f,oc,od,an,osl,kV,doc,pm,cdv,ct,e1,l,c,k,i⟩:=fn_of e
 exact jsP e1 i l c k b
theorem c_of (X:K.In h) (G:h.Ns mainGlobals mg) {as:List Str} (e:cF K x as=true):∃ C,nsIn K mainGlobals x=some (some (.ref C))∧Kls K mg x C∧∀ a∈as,vA K C a:=by
 unfold cF at e
 split at e
 ·rename_i C hC
  simp only [Cn,D8,Dk] at e
  obtain ⟨e1,e2,e3,e4,e5,e6,e7⟩:=e
  exact ⟨C,hC,jsJ X G hC e1 e2 e3 e4 e5 e6,e7⟩
 ·cases e
theorem i_of (X:K.In h) (G:h.Ns mainGlobals mg) {i:Int} (e:iF K (x,i)=true):∃ z,mg x=some (.int i z):=by
 unfold iF at e
 dsimp only at e
 split at e
 ·rename_i j z hz
  obtain rfl:=eq_of_beq e
  exact jsC X G hz
 ·cases e
theorem vI_of:∀ {xs:List Int} {its:List Value},vI xs its=true→jx (xs.map V.int) its
 | [],[],_=>.nil
 | i :: r,.int j z :: s,e=>by
  unfold vI at e
  rw [Cn] at e
  obtain rfl:=eq_of_beq e.1
  exact .cons ⟨_,rfl⟩ (vI_of e.2)
theorem t_of {xs:List Int} (e:tF K x xs=true) (hl:xs.length≤100):∃ a,nsIn K mainGlobals x=some (some (.ref a))∧jkG K a xs:=by
 unfold tF at e
 split at e
 ·rename_i a ha
  split at e
  ·rename_i od its n sl l
   exact ⟨a,ha,jtg (its:=its.toList) l (vI_of e) hl⟩
  ·cases e
 ·cases e
end
theorem ln0 {P:List Value→Prop} (b:P []):∀ us:List Value,us.length=0→P us
 | [],_=>b
theorem ln1 {P:List Value→Prop} (b:∀ a0,P [a0]):∀ us:List Value,us.length=1→P us
 | [_],_=>b _
theorem ln2 {P:List Value→Prop} (b:∀ a0 a1,P [a0,a1]):∀ us:List Value,us.length=2→P us
 | [_,_],_=>b _ _
theorem ln3 {P:List Value→Prop} (b:∀ a0 a1 a2,P [a0,a1,a2]):∀ us:List Value,us.length=3→P us
 | [_,_,_],_=>b _ _ _
theorem ln4 {P:List Value→Prop} (b:∀ a0 a1 a2 a3,P [a0,a1,a2,a3]):∀ us:List Value,us.length=4→P us
 | [_,_,_,_],_=>b _ _ _ _
theorem ln5 {P:List Value→Prop} (b:∀ a0 a1 a2 a3 a4,P [a0,a1,a2,a3,a4]):∀ us:List Value,us.length=5→P us
 | [_,_,_,_,_],_=>b _ _ _ _ _
theorem ln6 {P:List Value→Prop} (b:∀ a0 a1 a2 a3 a4 a5,P [a0,a1,a2,a3,a4,a5]):∀ us:List Value,us.length=6→P us
 | [_,_,_,_,_,_],_=>b _ _ _ _ _ _
theorem txt_of {P:Program} {w:World} {h:Heap} (Y:YP w h):∃ K:Frag,K.In h∧jhS K=true∧∀ (mg:Str→Option Value) (fa:Addr),h.Ns mainGlobals mg→mg "answers"=some (.ref fa) →
  ∃ fd:FuncData,(∀ (s:Shared) (us:List Value),us.length=(["calls"]:List Str).length→BindsTo s fd ⟨us,[]⟩ ((["calls"]:List Str).zip us))∧∀ base:Heap,K.In base→base.Ns mainGlobals mg→jiL mg base→zG P w K mg base CX0 10 fa fd ["calls"] (jev K (jer K)):=by
 obtain ⟨K,X,hB,F,M⟩:=Y
 unfold bF at hB
 simp only [Cn] at hB
 obtain ⟨bJ,bW,bS,bB,bT,bE,bL,bI,bN,b1,b2⟩:=hB
 refine ⟨K,X,bL,fun mg fa G hmg=>?_⟩
 obtain ⟨cJ,aJ,kJ,nJ⟩:=c_of X G bJ
 obtain ⟨cW,aW,kW,nW⟩:=c_of X G bW
 obtain ⟨cS,aS,kS,nS⟩:=c_of X G bS
 obtain ⟨cB,aB,kB,nB⟩:=c_of X G bB
 obtain ⟨cT,aT,kT,nT⟩:=c_of X G bT
 obtain ⟨tm,am,vm⟩:=t_of b1 (by decide)
 obtain ⟨tl,al,vl⟩:=t_of b2 (by decide)
 unfold eF at bE
 split at bE
 ·rename_i cF aF
  split at bE
  ·rename_i fI hfi
   rw [Cn] at bE
   refine jsy X G hmg aF aJ aW aS aB aT am al hfi bE.2 bE.1 bL ?_
   rw [Dk] at bI bN
   constructor
   all_goals try dsimp only
   all_goals first
    | assumption
    | exact nJ _ (by decide +kernel)
    | exact nW _ (by decide +kernel)
    | exact nS _ (by decide +kernel)
    | exact nB _ (by decide +kernel)
    | exact nT _ (by decide +kernel)
    | exact PySem.W.mg_of X G (by assumption)
    | exact i_of X G (bI _ (by decide +kernel))
    | exact PySem.W.mg_none_of X G (eq_of_beq (bN _ (by decide +kernel)))
    | exact d_of X G F (by kernel_rfl) fun _ _ _ _ _ _=>by first|exact ln1 (fun _=>by kernel_rfl)|exact ln2 (fun _ _=>by kernel_rfl)|exact ln3 (fun _ _ _=>by kernel_rfl)|exact ln4 (fun _ _ _ _=>by kernel_rfl)|exact ln5 (fun _ _ _ _ _=>by kernel_rfl)|exact ln0 (by kernel_rfl)
    | exact m_of M (by assumption) (by repeat (first|exact Cf|apply Cg)) fun _ _ _ _ _ _=>by first|exact ln1 (fun _=>by kernel_rfl)|exact ln2 (fun _ _=>by kernel_rfl)|exact ln3 (fun _ _ _=>by kernel_rfl)|exact ln6 (fun _ _ _ _ _ _=>by kernel_rfl)
  ·cases bE
 ·cases bE
end Hd
open PySem PySem.W PyProof.Rows
set_option maxRecDepth 100000 in
set_option maxHeartbeats 0 in
theorem PySem.Challenge.cw_readingways_s01_answers_holds : PySem.Challenge.rw_readingways_s01_answers.Holds := by
 refine holds_os (q:=Hd.qw) (loose:=[]) (Xt:=fun s=>xlAt Hd.qw [] s && recOk [] s) (XP:=XL Hd.qw []) (Yf:=Hd.Yf) (YP:=Hd.YP) (N:=8118) Hd.left Hd.yp_of Hd.yp_keeps (fun s e=>xl_of s (Lb.mp e).1) XL.keeps (by rfl) (by rfl) (by rfl) (fun s e=>recFacts_of (Lb.mp e).2) os_shapes (by decide +kernel) (by decide +kernel) ⟨rfl,rfl,rfl,rfl,rfl,by decide +kernel⟩ ⟨[.list []],by decide +kernel,by decide +kernel⟩ ?_
 refine Rw.joG (r:=PySem.Challenge.rw_readingways_s01_answers) (k:=10) (CX:=L2.CX0) (ps:=["calls"]) (sp:=fun K=>Rw.jev K (Rw.jer K)) (by decide +kernel) rfl rfl ⟨rfl,by decide,by decide⟩ (by rfl) (fun w h Y=>Hd.txt_of Y) ?S (fun _ _ _ _ z=>z)
 case S =>
 intro K H0 H xs a hs hW hwi hask hx
 cases hx with
 | cons h1 h2 =>
  cases h2
  cases h1 with
  | lst hsq ha =>
  have e:=L2.jnf a.1 _ ha
  subst e
  have q:((Codec.inLen 0 45500 a.1 && a.1.all (Codec.inInt (-2097152) 2097151)) && true)=true:=hwi
  rw [Cn,Cn] at q
  exact ⟨_,a.1,rfl,Rw.jey hsq (Rw.jn.sm hs),hW,(Codec.inNat_iff.mp q.1.1).2,hask,fun H' p kp hW' hp=>⟨.lst (L2.SqL.of hp) (L2.jm8 _),hW'⟩⟩
