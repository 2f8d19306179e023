import PyProof.Rows.All
import Wide.All
import OpenK.AllK
import Wide.FinOn
import PyProof.EqAt
import PyProof.EqKinds
import PyProof.TupleCall
import KE.BitLaws
import Open.SpecLaws
import KE.OsHead
import KE.OsGo
import Sy27Spec
import PySy27
import PyFlatLaws
import PySem.Challenge.RW0_signclues_s01_answers
import PyProof.P3Eq
import PyProof.SetScanFacts
import PyProof.Rows.SetFrom
import PyProof.CollectIter
import PyProof.Rows.SortShellAny
import KE.KDictList
import PyProof.TupleKey
import PyProof.IsRules
import KE.KSortTupG
import PyProof.NeKinds
import PyProof.WalkInts
import KE.KLam
import KE.KMinKey
import PyProof.Rows.SortG.SortRunsSt
import KE.KSortKeyAny
import KE.KTryMore
import KE.KNestM
import OpenK.KOwn
import PySem.Challenge.RW_signclues_s01_answers
set_option linter.all false
set_option Elab.async false
set_option maxRecDepth 100000
set_option maxHeartbeats 4000000
def aA:=@List.length_map
def aB:=@PySem.wpAny_bind
def aE:=@List.getElem?_map
def aF:=@List.getElem?_eq_getElem
def aG:=@Nat.le_trans
def aH:=@PySem.wpAny_pure
def aM:=@Option.some.inj
def aN:=@PySem.Heap.get?_push_of_some
def aO:=@PySem.Paired.length
def aQ:=@decide_eq_false
def aR:=@List.length_range
def aS:=@Nat.le_refl
def aT:=@PySem.boot_len
def aU:=@PySem.Heap.get?_push_size
def aW:=@Nat.zero_le
def aX:=@List.length_take
def aZ:=@PySem.Heap.lt_size
def a5:=@List.mem_map
def a8:=@Bool.false_ne_true
def a9:=@List.map_map
def bA:=@PySem.F.plainAttrs_list
def bD:=@Nat.lt_of_lt_of_le
def bG:=@List.mem_cons_of_mem
def bH:=@List.map_append
def bJ:=@PySem.sizeLine_eq
def bL:=@PySem.PassesOwn.never
def bM:=@Array.getElem?_toList
def bS:=@Nat.ne_of_lt
def bT:=@List.flatMap_append
def bW:=@List.mem_filter
def b0:=@PySem.F.slot_list_append
def b9:=@PySem.F.type_list_append
def cA:=@List.append_assoc
def cB:=@of_decide_eq_true
def cD:=@Option.map_eq_some_iff
def cI:=@List.mem_cons_self
def cJ:=@List.take_length
def cM:=@PySem.mem_of_lookup
def cP:=@congrArg
def cR:=@Bool.eq_iff_iff
def cX:=@PySem.W.mg_of
def c5:=@List.getElem?_eq_none
def c6:=@List.length_filter_le
def c9:=@PySem.wpAny_holding
def dA:=@PySem.Heap.SameBut.update
def dF:=@Bool.false_and
def dG:=@List.getElem?_range
def dJ:=@PySem.Heap.size_push
def dM:=@List.filter_cons
def dO:=@List.length_drop
def dP:=@List.range_succ
def dQ:=@Int.zero_add
def dX:=@List.mem_append_right
def d4:=@PyProof.Rows.boot_tuple
def d7:=@Nat.lt_irrefl
def eC:=@Nat.mul_le_mul_right
def eE:=@Classical.byContradiction
def eG:=@PySem.wpAny_newObj_type
def eM:=@List.nodup_cons
def eO:=@List.nodup_nil
def eP:=@Bool.true_and
def eQ:=@List.any_eq_true
def eR:=@List.getElem_mem
def eS:=@List.filterMap_cons
def eW:=@PySem.wpAny_call_entry
def e9:=@PySem.wpAny_setState_of
def fC:=@List.drop_eq_nil_of_le
def fD:=@Nat.le_add_right
def fG:=@beq_eq_false_iff_ne
def fH:=@List.nodup_append
def fI:=@List.take_append_of_le_length
def fR:=@List.forIn_cons
def fS:=@PySem.wpAny_mono
def fU:=@PySem.wpAny_truthy_bool
def fX:=@decide_eq_true_iff
def gC:=@List.getElem?_of_mem
def gD:=@List.length_eq_zero_iff
def gE:=@List.prefix_iff_eq_take
def gI:=@PySem.F.slot_dict_keyiterator_next
def gQ:=@PySem.Around.under_plainId
def gR:=@PySem.F.plain_min_loop
def gZ:=@List.Nodup.length_le_of_subset
def hJ:=@PySem.F.slot_list_extend
def h9:=@PySem.F.type_list_extend
def iF:=@List.mem_append_left
def iG:=@List.mem_of_mem_take
def iL:=@PySem.wpAny_Call_Name_kw
def iM:=@List.take_add_one
def iN:=@Nat.lt_succ_of_lt
def iZ:=@List.replicate_succ
def i4:=@Array.getD_eq_getD_getElem?
def i5:=@Array.toList_filterMap
def i6:=@List.drop_of_length_le
def i7:=@Nat.testBit_two_pow_sub_one
def i8:=@PyProof.Rows.callWith_type1
def jA:=@PySem.codeAny_builtin
def jK:=@List.prefix_append
def jL:=@Nat.lt_of_le_of_lt
def jO:=@PySem.SetTable.insertAt_perm
def jW:=@List.getElem?_zip_eq_some
def jX:=@List.pairwise_iff_getElem
def jY:=@PySem.wpAny_askSetting
def jZ:=@Nat.not_lt_zero
def kC:=@Array.toList_push
def kD:=@List.all_map
def kF:=@List.getElem?_set_ne
def kG:=@List.pairwise_map
def kH:=@Nat.le_of_lt
def kI:=@Nat.le_of_lt_succ
def k9:=@List.map_congr_left
def l8:=@List.mem_filterMap
def mB:=@PyProof.Rows.boot_list
def mK:=@List.prefix_append_right_inj
def mL:=@PySem.wpAny_callSpecial?_slot
def mX:=@List.take_append_drop
def nF:=@List.find?_append
def nG:=@List.foldl_append
def nH:=@Nat.lt_trichotomy
def nI:=@PySem.wpAny_typeNameOfWhole_keyiter
def nX:=@Array.mem_toList_iff
def nY:=@List.Perm.refl
def nZ:=@List.mem_of_mem_drop
def n4:=@Nat.eq_of_testBit_eq
def n6:=@PySem.wpAny_passesOwn
def n9:=@PySem.plainId_quiet
def oA:=@PySem.Heap.get?_update_self
def oB:=@List.any_map
def oC:=@List.nodup_range
def oE:=@Nat.ne_of_gt
def pG:=@PySem.wpAny_seqItems
def pN:=@Array.forIn_toList
def pO:=@PySem.wpAny_isInstance
def pY:=@PySem.F.slot_list_count
def rK:=@List.flatten_cons
def rL:=@List.forIn_nil
def rM:=@List.getElem?_set_self
def rN:=@List.take_succ
def rO:=@Nat.lt_or_ge
def rP:=@Nat.succ_pos
def rQ:=@PySem.wpAny_typeNameOf_keyiter
def rT:=@PySem.wpAny_loadPart'
def rV:=@PySem.wpAny_specialOf
def rW:=@PySem.wpAny_updateSeq
def r6:=@PyProof.Rows.slot_tuple_getitem
def r8:=@PySem.call_meets
def tX:=@Nat.lt_succ_self
def tY:=@Nat.min_eq_right
def u0:=@PySem.F.slot_tuple_hash
def u1:=@PySem.Heap.get?_update_other
def u6:=@List.getElem?_append
def u7:=@Nat.le_succ
def u9:=@Nat.pow_le_pow_right
def vA:=@PySem.codeAny_mono
def vB:=@PySem.wpAny_tryCatch
def wC:=@List.mem_zipIdx_iff_getElem?
def wD:=@List.of_mem_zip
def wF:=@Nat.min_eq_left
def wG:=@PyProof.Rows.get?_update_seq
def wV:=@Nat.pow_succ
def wW:=@PySem.Walks.list
def wX:=@PySem.wpAny_forIn_list
def zB:=@List.drop_left
def zC:=@List.filter_append
def zD:=@List.getElem?_append_right
def zE:=@List.perm_ext_iff_of_nodup
def zF:=@Nat.eq_zero_or_pos
def zG:=@Nat.mod_lt
def zH:=@Nat.mul_le_mul
def zI:=@Nat.testBit_or
def zJ:=@PySem.W.callWith_K
def BE:=@List.ext_getElem?
def BF:=@List.take_sublist
def BG:=@Nat.le_of_succ_le
def B6:=@List.all_cons
def B7:=@PyProof.Rows.boot_sorted
def B8:=@PySem.F.args_tuple_add_2
def B9:=@PySem.F.slot_tuple_count
def ET:=@List.getElem_inj
def EU:=@List.length_eraseIdx_le
def EV:=@List.map_snd_zip
def EW:=@PySem.F.entry_tuple_add
def EX:=@PySem.intKind_is
def F4:=@List.pairwise_lt_range
def F5:=@Nat.lt_trans
def F6:=@PySem.F.entry_min_loop
def F7:=@PySem.F.slot_tuple_add
def HP:=@List.count_cons
def HQ:=@List.filter_nil
def HR:=@List.length_set
def HS:=@List.length_zip
def HU:=@PySem.wpAny_pyIter_list
def HV:=@PySem.wpAny_pyIter_slot
def HW:=@PySem.wpAny_storeSet_of
def IY:=@PyProof.Rows.boot_set
def IZ:=@PySem.W.methodCall_KW
def JA:=@PySem.SetTable.toList_insertAt
def JB:=@PySem.filterMap_getElem?_range
def JC:=@PySem.wpAny_attempt
def JD:=@PySem.wpAny_standAt
def N2:=@List.drop_zero
def O1:=@List.zip_eq_zipWith
def O2:=@Nat.mul_le_mul_left
def O3:=@PySem.W.plainGet_of
def O4:=@PySem.wpAny_rule
def RV:=@PySem.F.slot_tuple_eq
def RW:=@List.map_drop
def RX:=@List.map_take
def RY:=@PySem.pushCells_keeps
def RZ:=@PySem.wpAny_execs_nil
def UQ:=@List.getElem_range
def UR:=@List.length_range'
def US:=@PySem.isSubtype_tuple_tuple
def YS:=@Nat.le_of_eq
def YT:=@PySem.wpAny_fieldsOf
def YU:=@PySem.wpAny_letGo
def Y6:=@PyProof.Rows.F.plain_set_update_loop
def Y7:=@List.eraseIdx_eq_take_drop_succ
def Y8:=@List.prefix_of_prefix_length_le
def aBv:=@Array.toList_map
def aBw:=@List.countP_cons
def aBx:=@List.drop_append
def aBy:=@beq_self_eq_true
def aBz:=@PySem.W.cm_get
def aBA:=@PySem.wpAny_setEntries_of
def aCR:=@List.drop_append_of_le_length
def aCS:=@List.eq_nil_of_length_eq_zero
def aCT:=@List.exists_mem_of_length_pos
def aCU:=@Nat.one_mul
def aCV:=@PySem.wpAny_newList
def aEu:=@PyProof.Rows.G.TupsOf.length
def aEv:=@PySem.W.length_le_weightAllW
def aEw:=@PySem.wpAny_eqBool_tuple
def aEx:=@PySem.wpAny_pyHash_tuple
def aEy:=@PySem.wpAny_tupleItemsOf
set_option hygiene false
open Lean in
def mI(i:TSyntax `fieldIdx):Nat:=i.raw.isFieldIdx?.getD 0
open Lean in
def mG(o:Nat)(i:TSyntax `fieldIdx)(l:List (MacroM Term)):MacroM Syntax:=do if mI i<o then Macro.throwUnsupported else return(<-l.getD (mI i-o) Macro.throwUnsupported)
open Lean in
def mO(o:Nat)(i:TSyntax `fieldIdx)(x:Term)(l:List (MacroM Term)):MacroM Syntax:=do if mI i<o||x.raw.isOfKind ``Lean.Parser.Term.tuple then Macro.throwUnsupported else return(<-l.getD (mI i-o) Macro.throwUnsupported)
open Lean in
def mZ(v:Nat)(i:TSyntax `fieldIdx)(x:Term)(l:List (MacroM Term)):MacroM Syntax:=do
 let c:=(x.raw.getId.toString.toList.headD 'z').toNat
 if mI i !=v|| !x.raw.isIdent then Macro.throwUnsupported else return(<-l.getD (if c<97 then c-39 else c-97) Macro.throwUnsupported)
local macro_rules|`($a.$i:fieldIdx)=>mZ 3 i a [`(List Nat),
`(by omega),
`(by simp),
`(List a.3),
`(List V),
`(List Int),
`((H,s).19),
`(List Value),
`(List Addr),
`(Obj.92),
`(Str->v.5),
`(Value.49),
`(aH ?_),
`(Txt K mg A),
`(⟨rfl,rfl,rfl,l.4,rfl,l.4,l.4⟩),
`(.ref a),
`(λf fJ Ar outer s H vs Q E hr h=>?_),
`(by decide),
`(H'.34),
`(hr.mono r.3),
`(List Span),
`(as.map V.ref),
`(List α),
`(List Str),
`(bV rfl),
`(.ref b),
`(List Clue),
`(.inl rfl),
`(List.range n),
`(List M.eY),
`(fld K (pv 0)),
`(aL.refl _),
`(aU _ rfl),
`(M.bR x),
`(λ_ _ _ _ _ _ us hl=>match us,hl with|[_,_],_=>rfl),
`(vD P w),
`(π++[v]),
`(List lZ),
`(Sy27.ways st.script st.clues),
`(λhc=>?_),
`(s.heap.objs.size+1),
`(X.calm.7),
`(π.length.570),
`(Array Value),
`(Array Keyed),
`(row.drop g.2),
`(λ_ z=>nomatch z),
`(oV P w H h),
`(Xs K mg A),
`(List Expr),
`(Addr.57),
`(List d.3)]
local macro_rules|`($a.$i:fieldIdx)=>mZ 4 i a [`(.tup xs),
`(aF b.3),
`(.ext φ),
`(a<S.signs),
`(Array (Int×Value)),
`(s1.trans s2),
`(fB I q c.3),
`(h'.get? b),
`(model X.prog X.w),
`(List Env),
`(by simp;omega),
`(by decide +kernel),
`(by simpa using h),
`(List f.3),
`(λn:Nat=>n.6),
`(UD K mg base t),
`(λ_ _ _ _ _=>cT),
`(V.ref a),
`(E.3.87),
`(by simpa using h1),
`(.head _),
`(List.range i),
`(["self"]),
`(λvs H Q E h=>by obtain⟨_,_,_,_,_,_,rfl,_⟩:=h;rfl),
`(rfl.73),
`(gA S.signs S.values.length w),
`(model prog w),
`(rR outer),
`(by simp at h),
`((xs,x).4),
`(K.3.580),
`(((x==("__debug__":Str))).25),
`(["script","reader"]),
`(y1 n size order π v ps),
`(i9.nx nx),
`(Option Int),
`(ns.map V.int),
`(List WData),
`(Option Addr),
`(Option V),
`(B.get? b),
`(fit S cs),
`(PySem.intKind prog w),
`(wipe σ vs),
`(I.ok.hd hc),
`(I.cZ.fresh (aS _)),
`(ih ‹_›),
`(if_neg h),
`(decide_eq_true b.3),
`(λ_ _=>False),
`(λ_ _ _ _ _ _ us hl=>match us,hl with|[_,_,_],_=>rfl),
`(π.length.662.526)]
local macro_rules|`($a.$i:fieldIdx)=>mZ 5 i a [`(PA X (e::es) t),
`(blank S.signs S.values.length),
`(.type "tuple"),
`(w.params.followText "set-order"),
`((κ,V).31),
`((eA.of F.3).put),
`((H,l).23),
`(e.3.649),
`(V->e.3->n.5),
`(lA (pv 0) rfl),
`((e::es).569=(false,e.58)::es.569),
`(Or.inl rfl),
`(("order",.ref oa)),
`((Hp,VK).16),
`(M.maskOf π),
`(if_pos hc),
`(λb hb=>?_),
`(cs.eraseIdx k),
`(A.handled.9),
`((p2,#[]).56),
`(oG items.size 0 lo),
`(Option Value),
`(λ_=>false),
`(List.range S.signs),
`(Vals.xD r),
`(Sy27.onWays st _),
`(by cases h),
`(List.range cs.length),
`(λ_ _=>trivial),
`(Value.ref a),
`(λ_ _ _ _ _ _ us hl=>match us,hl with|[_],_=>rfl),
`(show false.7 from hs),
`(Bool.noConfusion (show false.7 from p)),
`(Value.41),
`(s<p.length),
`(X.env.qual++"<lambda>"),
`(I.list hs),
`(by simpa using h2),
`(λp hp=>?_),
`(if_pos rfl),
`(if_neg hc),
`(I.list hq),
`(qs.map V.ref),
`({s with toks:=s.toks+1}),
`((List Key,V).31),
`((H',s').19),
`(k _ _ B.3 e),
`(Ord n order),
`(upd H dx (.own x)),
`(Nat->V->Hp.53),
`(nL rfl rfl rfl rfl),
`(Option Nat)]
local macro_rules|`($a.$i:fieldIdx)=>mZ 10 i a [`(Array v.5),
`(by simpa using hc),
`(by simpa using hb),
`((cs.78).length),
`(λy hy=>?_),
`(List.mem_cons.mp hm),
`(i9.same s2),
`(G.map V.int),
`(rR X.stack),
`(K w.params),
`(xs.length.37),
`(NameKind.57),
`(out (Zs t a) H),
`(es.581.677),
`((H1,s1).19),
`(Ok t es.toList),
`(wl.set sg v),
`(Rules S cs rs),
`(upd p.12 p1 (p1,#[]).56),
`(∀vs H Q E,sp vs H Q E->vs.length=ps.length),
`((H4,tx,[nV a]++[nV b]).3),
`(tE w S ep es),
`(by unfold ES;simp),
`(("moves",.ref D5)),
`(bs.map V.ref),
`(J.yld i H x H'),
`(.ref s.heap.objs.size),
`(decide_eq_true h),
`(.type "list"),
`(λb o e=>?_),
`(s.heap.push (jG w)),
`(λ_ _ _ _ _ _ us hl=>match us,hl with|[_,_,_,_],_=>rfl),
`(qs.map Value.ref),
`(∀p∈ps,p.length=n),
`(sc.names.lookup x),
`(ks.map intsOf),
`(Array.getElem?_eq_getElem b.3),
`(∀a∈A,wJ h A a),
`(maskOf es.length),
`(xs.map (·.1)),
`(("list",.seq vs.toArray).44),
`(vs.toArray.688),
`(i9 t a rd H H'),
`(Sy27.step s x),
`(λq'=>hb q'.24),
`(gA n size w),
`(.ext (rH a (#[],e1).75)),
`(M.rising n i),
`((leap mask p.i p.perturb).1),
`(below t.place j),
`(λv s1 ⟨x,H1,I1,r1,q1⟩=>?_),
`(by simpa using hi)]
local macro_rules|`($a.$i:fieldIdx)=>mZ 11 i a [`(List.range size),
`(Value.bool _),
`(text.drop (k+1)),
`(scope.names.lookup y),
`(Option.bind_eq_some_iff.mp h),
`(Clue.signs.24),
`(text.length<=8),
`(r.length<=60),
`((Int,Value).31),
`((X.A.units+64).61),
`(bits h%(mask+1)),
`((aR,pV.29).3),
`((K,.ref f).105),
`(M.cE ps Q.3 v),
`(wipe σ2 vs=R.4),
`(min us.size vs.size),
`(M.blank n syl.length),
`(Sy27.ways s.script s.clues),
`(oG items.size items.size hi),
`(λkv=>(kv.1,k).11),
`((N,ps,st).5),
`(.ext (G.T.rY P w p ds)),
`(SetObj w o es ep t),
`(envOfC qual scope s0.heap.objs.size f cd::outer),
`(λb u e=>aN _ e),
`(λi _=>G5 _ _ i),
`(Array DictEntry),
`(by simpa using hv),
`(by with_unfolding_all rfl),
`(¬300<(cs.78).length),
`(Obj.mapSeq λ_=>(#[]:R.3)),
`(standAt apos.atName),
`(List.mem_cons.mp h),
`(List.mem_cons.mp hb),
`(λH1 Q9 b1=>?_),
`(ws.map λx=>x.getD sg 0),
`(eI.map (·.1)),
`(List.mem_range.mp hj),
`(row.take (i+1)),
`(word.drop g.2),
`(∀u∈vs,OkU A u),
`(by intro _ z;cases z),
`(row.length.62),
`((λr k8=>?_).596),
`(M.rising S.signs i),
`(["self","number"]),
`(("list",.seq bY.toArray n).44),
`(Passes CX X E),
`(v.drop (v.length-(i+1))),
`(HT.oG xs.length 0 lo),
`(vD X.prog X.w),
`((List Key,Addr×Value).31)]
local macro_rules|`($a.$i:fieldIdx)=>mZ 12 i a [`(s.heap.push ("dict",.dict #[]).44),
`(Binds X.K fd ps ds),
`(holding [ov] (getMethod ov m pl)),
`(fZ C H x n size ps),
`(M.fQ row syl sg),
`(X.SI s3 H3 scope ce fp),
`(M.lD n size order π ps),
`(keyOf n size yes no order π),
`(("list",.seq ([]:h.3).toArray).44),
`(gJ X.env.cells scope.names []),
`(b≠X.env.locals),
`(λ_ _ _=>False),
`(by simpa using hk),
`((a.51).length),
`(List.mem_cons.mp hx),
`(lC K s₁.heap A),
`(vV.mono (jI _ _)),
`(λH H' b d s q=>q.42),
`(λh3 H1 eV nx=>?_),
`(v.take (T.3).length),
`(Value.type "list"),
`(∀b∈fp,(H' b).9),
`(bitsOf (letters.map λo=>o==c)),
`(S.values.length<=10),
`((λl uQ=>?_).596),
`(by walk_at "okt"),
`(envOfC qual scope s.heap.objs.size f cd),
`(N8 s₁.heap H),
`(i.559&&&([sg]).526),
`((aY q hn,q).29),
`(hideAll s.heap (rR x.11)),
`((v,S.values.length).35),
`(upd H3 T' S.12),
`((bE ord,none,0+d.6+1).21),
`((∃m,W 0 m (H1,D).23)),
`((s.heap.push i.12).push (0,0).102),
`(.tup [.int x,.int y]),
`(MH mask i perturb),
`((H3,a.ru,v.3++[.ref tu]).3),
`((Nx (H4,D,acc++[y]).3,Nx H3).151),
`((X.mg "__name__").getD .none),
`((∀H',Nx H'->∃m',m'<m/\W (i+1) m' H')),
`(notedBy A.4 A env λe s'=>R (.error e) s'),
`(List.mem_append.mp hp),
`(.tup [.int (j:Nat),.ref cv]),
`(tupleKind (kU P w)),
`(us.toList.zip vs.toList),
`(s1.heap.objs.size+1),
`(nV (2^ps.length-1)),
`(λvs H Q E h=>by obtain⟨a,p,s,b,rfl,_⟩:=h;rfl),
`(λvs H Q E h=>by obtain⟨_,_,_,_,rfl,_⟩:=h;rfl),
`(o.data= .set es ep t)]
local macro_rules|`($a.$i:fieldIdx)=>mZ 13 i a [`(by simp only [List.size_toArray]<;>omega),
`(show b∉([]:i.3) by simp),
`(lC K s₁.heap A b),
`((a.x,((a.sy,r1).58,.gL).76).25),
`((J.stop i H/\Qd H)),
`((s3.heap.objs.size+1,j.12).103),
`(p.set s (s.505&&&mask)),
`(((V.10).take j).flatMap (nS n)),
`(Paired F l₁ l₂),
`(Value->Value->Sem Value),
`((G.3,rfl,rfl).10),
`(List Sy27.Way->Sy27.Ans),
`(min xs.length ys.length),
`(min 3 (row.length-1)),
`(Sy27.scriptOk n syl),
`(List.mem_range.mp (bW.mp hv).1),
`(Loc X.env.scope x),
`((PySem.W.isFn K (.ref f)).7),
`((behindInMarks op b).25),
`(upd H dr (.own rd)),
`(V->J.4->J.4.649),
`((bE text,i.6+1).66),
`((X.fn x).7\/(X.env.scope.names.lookup x).583),
`(e9 ho x.data hf ?_),
`((Sy27.ask st.script M.3).2),
`(WellAll P h vs ds),
`((all.map V.int,some p.550,p.550+t.length.550).21),
`(((R.length.6)::(R.take i).flatMap YL).95),
`(λσ=>(rfl,hz,λl hl=>fin σ _ w.10 jM l hl).10),
`(I1.cZ.fresh (aS _)),
`(("limit",nV limit)),
`(.rng 0 (cs.length:Nat)),
`(∀b u,(h.get? b).67->h.4.67),
`(∀b u,(s.heap.get? b).67->h.4.67),
`(λ_ _ _ _ _ _ us hl=>match us,hl with|[_,_,_,_,_],_=>rfl),
`(Builtin.bitNot (l.map g).632),
`(by unfold Good;decide +kernel),
`(Value->Pos->Shared->Prop),
`([.int n,ys.length.516]),
`(λj=>xs.getD j 0==ys.getD j 0),
`((os.map (·.2)).Pairwise M.jP),
`(List.mem_of_getElem? (bM,hi).3),
`(CO hl.isList λs₂ e2 st iK=>?_),
`(M.mR Sy27.start (xs.map M.bR)),
`(λb z=>absurd z (noA b)),
`(upd H3 a.x (y6 (sy,ru).58 n .gL).579),
`(.ext (lK s.heap.objs.size l 0)),
`(iT (pv 0) (vZ T X B) lL O0),
`(("list_iterator",#[.ref l,.int 0 0]).115),
`((nV π.length,order.94.22).57),
`((h1.42,(h2,s).40).90),
`(sH hw.2.2 hp.618 (hp,hs).3)]
local macro_rules|`($a.$i:fieldIdx)=>mZ 14 i a [`((bE T.3,none,vl.94.22).21),
`(VN X.N X.env.scope scope own),
`(∀iO,iO.79->Q () iO),
`(upd H4 a.x (a,.gL).76),
`(by unfold argsOk;kernel_rfl),
`(cs.all (may S (w++[v]))),
`((PySem.W.hasDictIn K C).7),
`((bE word,some (g.2).22,(g.2).22+(vl.94:Nat)).21),
`(ilt (JY (k.length::k)) (JY (k'.length::k'))),
`(M.kK text word bl syl),
`(pickOrder (w.params.setOrder S ep) es),
`(layClean.free m owner (turns m) (bits h%(m+1)) (bits h)),
`([m.5,x.10,D7.650,("no_ends",.ref D9),E.13]),
`(∀x,foldedSetIterable iter X.env x=pure x),
`(wW (A:=X.A.in1) S.4 _ a iK bY.toArray),
`([m.5,x.10,D7.650,("no_ends",.ref D9),E.13,("way",.ref wa)]),
`([m.5,x.10,D7.650,("no_ends",.ref D9),E.13,("way",.ref wa),("found",.ref fa)]),
`(λw hw=>o7 rx fx r fs w (by simpa using hw)),
`(List.take_of_length_le dO.56),
`((Str.ofString "key",.ref f)),
`(.ext (rH h1.objs.size (0).633)),
`(HT.oG xs.length xs.length hi),
`(decide_eq_true aA.56),
`(List.mem_range.mpr b.3),
`({s with heap:=j9 s.heap}),
`(Str.ofString "__next__"),
`(s.heap.push PySem.W.emptyDict),
`(List.take_of_length_le b.3),
`(M.bitsOf (letters.map λo=>o==c)),
`(I.mod.glob.keeps I.bk),
`(scope.names.lookup y.1),
`(vs.toArray.toList.map toV),
`(Option.bind_eq_some_iff.mp h2),
`((mask.testBit s.44).7),
`(λvs H Q E h=>by obtain⟨x,dx,a,rfl,_⟩:=h;rfl),
`(λvs H Q E h=>by obtain⟨_,a,p,s,rfl,_⟩:=h;rfl),
`(List.size_toArray.56),
`(List.length_append.56),
`(#[.int lo t,.int hi u,.int 1 v]),
`(M.jE n size yes no order π v),
`((by walk_at "fin").697.697),
`(((x==("__classdict__":Str))).25),
`((a.x,(y6 (sy,a.ru).58 n kv).579).25),
`(.tup [nV (bI (M.wanted cl)),.ref sh]),
`(jR (text.getD k 0) row bl syl),
`({cls:= .none,data:= .fields ps}),
`((Array.getElem?_eq_some_iff.mp hi).1),
`((order.filterMap (es[·]?)).toList),
`(List.getElem?_eq_some_iff.mp h),
`((("range",M.14).115).objs.size),
`(X.env.frame=some X.env.locals),
`(by unfold leap;exact kI (zG _ (rP _)))]
local macro_rules|`($a.$i:fieldIdx)=>mZ 15 i a [`(λ_ _ _ _ _ _ us hl=>match us,hl with|[_,_,_,_,_,_],_=>rfl),
`(upd H t1 (.tup (yV π.541).532)),
`(.tup [V.int (1-(bN r.1).22),.ref sh]),
`(by rw[isSubtype_type];kernel_rfl),
`(typeOf (.builtin id)=pure (.type "method_descriptor")),
`(("__setattr__",some (.builtin "object.__setattr__")).77),
`((s.heap.push PySem.W.emptyDict).push s.heap.objs.size.679),
`((N.14,M.oK n size yes no order j K.3,[]).8),
`(aH (λu hu'=>i3 u (bG _ hu')).617),
`((gg v).take (limit-(F++gg.553).length)),
`(["sign","choices","shapes","order"]),
`(∃sl,h.4=some {o with slots:=sl}),
`(K.3.96&&&cH n size ps π.length.662),
`(.ext (_root_.G.T.EB P w la [])),
`(wX _ (λrest r s'=>(r.1).9/\s'=s/\∀v∈rest,(carriedByValue v).7) _ ?_ ?_ _ _ hi.byValue.617),
`(pure (owner.setIfInBounds j (some k),k+1)),
`((as.take kk).571++(as.drop (kk+1)).571),
`(λs=>if s∈ord then none else s.32),
`(λh3 h0 H1 kk eV nx vV hw=>?_),
`(∀b∈ch,(b∈X.ex\/b.634)/\k.12/\((c≠b).635)/\∀p∈X.pn++pins,p.1≠b),
`({s3 with heap:=s3.heap.push ("slice",.fields #[vl,vu,.none]).44}),
`(∀b ys,(.tup ys,.tup ys).82),
`({p with j:=p.j+1,more:=p.more-1}),
`((k=f,(k,v)::r,(k,x)::d8 f v r).14),
`((PE (cl,C).81.678 elt te).710),
`((PTs (cl,C).81.678 ifs tt).710),
`(cS k (A.deeper (envOfC qual (aV st) s.heap.objs.size f fJ))),
`(upd H x (A.Shape,d8 "whole" W.12 []).22),
`(.tup [nV o.5,.ref t1,.ref t2]),
`(eI.length.37/\a.620/\∃vs,KV eI vs/\h.DictOf (kU P w) a vs),
`((backTo pZ (e::es).569).all (λx=> !x.1)&&((pZ,[]).80).all (λx=>x.1.isSome)),
`(s.heap.IsSliceOf sl vl vu .none),
`(Builtin.Tuple.tupleHashOf [(Q.4).hash k.1,(k.2.1).530,(k.2.2).530]),
`(upd H5 x ("moves",D5,[m.5]).16),
`(upd H7 x ("yes_ends",D7,[m.5,x.10]).16),
`(["self","kind","text","parts","wanted"]),
`(["self","turn","used","yes","no"]),
`(attributeBase o name X.env o.58=o.58),
`(SortSt.mk' (tuples' true) arr #[] 7 none),
`(((e::es).length+([]:List Keyword).length+(([]:List Keyword).isEmpty,0,1).14,30).35),
`(upd H2 x (A.Shape,d8 "keep" (.ref D) (d8 "whole" W.12 [])).22),
`(["self","turn","used","yes","no","move"]),
`(PySem.W.envX q sc s.heap.objs.size f (.ref c) cl),
`(upd H9 x (A.Search,d8 "limit" (nV limit) (d8 "no_ends" (.ref D9) [m.5,x.10,D7.650])).22),
`(order.toList.Perm (List.range es.size)),
`((H,{s with heap:=h',toks:=t'}).19),
`((ns.map λn=>n !=0).getD i false),
`(λvs H Q E h=>by obtain⟨_,a,p,rfl,_⟩:=h;rfl),
`(λvs H Q E h=>by obtain⟨_,_,_,_,_,rfl,_⟩:=h;rfl),
`(λvs H Q E h=>by obtain⟨a,p,s,b,_,_,_,_,rfl,_⟩:=h;rfl),
`(λvs H Q E h=>by obtain⟨x,l,n,r,rfl,_⟩:=h;rfl),
`(∀ds:f.3,ds.Nodup->(∀k,k∈ds->k∈ns)->ds.length+1<307)]
local macro_rules|`($a.$i:fieldIdx)=>mZ 16 i a [`((insertAt t.place X.10 j).toList.zip (insertAt es X.10 e).toList),
`((J.stop i H/\D.nx σ H)\/(J.go i H/\∃N:St.53,(∀σ' H',N σ' H'->∃m',m'<m/\W (i+1) m' σ' H')/\∀x H',z.10->g x σ H' λσ2 H2=>tb {D with nx:=N,ct:=N,bk:=D.nx} σ2 H2)),
`({s with heap:=s.heap.update S (Obj.putSet DP t2),toks:=Y2}),
`((eW gI hit.typeIs F.entry_dict_keyiterator_next ?_ (F.args_dict_keyiterator_next_1 _))),
`(⟨λb o e n hb hx=>?_,λb o e n hb hx=>?_,I.base.free,λb o e hx=>?_,I.base.HY,I.base.J0,I.base.N7⟩),
`((λb hb=>⟨(hf b hb).2.2.2.1,(hf b hb).2.1,(hf b hb).2.2.2.2.1,(hf b hb).2.2.2.2.2⟩)),
`(T.qT.ok T.lH.cl EI I.13 (λvs H Q E h=>by obtain⟨_,_,_,_,_,_,_,_,_,_,_,_,_,rfl,_⟩:=h;rfl) q.3),
`(λm' hm=>by obtain⟨o',es',ep',JF,r'⟩:=hm;rw[ho] at JF;cases JF;exact⟨_,es',ep',hL,r'⟩),
`(λh' tk m t' hk h1 h2=>⟨.int _,H,I.kept hk,rfl.20,q m h1 h2⟩),
`({p with j:=W.10,more:=W.10.533-W.10,i:=W.10,perturb:=(leap mask p.i p.perturb).2}),
`((λa (x:Addr×M.eY)=>(.tup [nV (bN x.2.1),.ref x.1]).72/\fZ C H x.1 n size x.2.2,zs).39),
`(upd H2 x (A.Script,d8 "syllables" (.ref sy) (d8 "signs" (.int 0) [])).22),
`(∀H' k,H'.504->Nx t a H H'->LT H'.542 k cs.78->(∀u∈cs.78,u.759)->k.84),
`((((d6 tN (d6 aEZ (pv 2) (pv 7,bC).47) bC).598,dB (oZ (pv 0) aME hrG (aD (pv 1) (aD (pv 2) (pv 3,pv 4,pv 7).7)))).33)),
`(∀v u s2 x y H2,(H2,s2).19->RelV x v->y.46->R x y H2->(f v u,Q,s2).28),
`(compPost i.4 X.A X.xe use Qf (.ref D) s3.heap.objs.size),
`((p.1,p.2).43/\(p.1).21/\p.1≠X.env.locals/\p.1∉X.fs/\∀v,p.2.data≠.cell v),
`((aP ((gM,s.4,pv 6).9,G.T.aCt P w hu E.3 (pv 5) CF rfl).33)),
`(["enumerate","zip","dict_itemiterator","dict_reverseitemiterator","odict_iterator","itertools.zip_longest","itertools.pairwise"].contains n),
`(iA (h pos pins s σ H _ I hq) λus s1 ⟨xs,H1,I1,r,z,q⟩=>(r.length,z).15.71),
`(iA (hr pos pins s1 σ H1 _ I1 q1) λus s2 ⟨xs,H2,I2,r2,q2⟩=>⟨x::xs,H2,I2,.cons r1 r2,q2⟩),
`(λvs H Q E h=>by obtain⟨x,dx,a,_,_,_,_,_,_,rfl,_⟩:=h;rfl),
`(λvs H Q E h=>by obtain⟨_,_,_,_,_,_,_,rfl,_⟩:=h;rfl),
`(Builtin.List.listTooLong (bY.toArray.size+tO.toArray.size)),
`((List.range' (match row.getLast? with|some x=>x+1|none=>0) (n-(match row.getLast? with|some x=>x+1|none=>0))).map λs=>row++[s]),
`(∀L:a.3,(∀k∈L,k<cs.length)->((T L).7↔ways S (pick cs L)=[])),
`(∀whole,isTrue a X.env whole=(do let v<-whole;standAt a.pos;holding [v] (truthy v))),
`(hy.get j (ys.getD j 0) (by rw[b.4];simp[(j<ys.length).36])),
`(hx.get j (xs.getD j 0) (by rw[b.4];simp[(j<xs.length).36])),
`(IZ (pl:=pl) (λu s1 ⟨x,H1,I1,rx,a,dx,fs,ex,ea,l,q⟩=>?_).624 ht),
`([.type "Exception",.type "BaseException",.type "object"]),
`(λ(m:List (List Nat)) (x:List Nat)=>if(m.contains x).7 then m else m++[x]),
`(∀b ps,(.tbl ps).45->∃more,H' b=some (.tbl (ps++more))),
`({s3 with heap:=(s3.heap.push ("dict",.dict #[]).44).732}),
`(wpAny_of_eq (a:=Value.none) (by first|rfl|(simp only [firstArgMember];rfl)) ?_),
`(((k₀==NameKind.free&&sc.kind== .function&&sc.names.lookup n==some .cell)).7),
`(Calls.callWith_builtin (by show(false||(backTo pZ (starEach es X.env)).any (·.1))=false;rw[KO]<;>rfl) (Calls.evalArgs_plain ?_)),
`(⟨.int ys.length,H,I.tok _,⟨s.toks+1,(List.size_toArray,hlen).7⟩,q⟩),
`(λz=>by subst z;rw[b2 _ _ (b1 _ _ eq n) n] at htx;cases htx),
`(fS (h pins s σ H D (I.J5 _) hw) (λ_ _ q=>q.vE) λ_ _ z=>False.elim z),
`((by rw[typeLookup_type,builtinLookup_eq_fast];kernel_rfl)),
`(Builtin.Builtins.bindParams "min" ["key","default"] 0 ⟨[],[t.14]⟩),
`(l.foldl (λ(m:List (List Nat)) (w:Way)=>put w.68 m) m)]
local macro_rules|`($a.$i:fieldIdx)=>mO 6 i a [`(($a :Int)),
`($a=true),
`(some (.ref $a)),
`($a=none)]
local macro_rules|`($a.$i:fieldIdx)=>mO 20 i a [`(⟨_,$a⟩),
`((H $a).9),
`((($a :Nat)).33),
`($a=some o),
`(by simp[$a:term]),
`($a=false),
`(s1 _ _ $a),
`(cS $a _),
`((rfl,$a).27),
`(aG $a r.3),
`(aD $a aJ),
`((aM $a).symm),
`(some (nV $a)),
`(($a :Int)),
`(aL H $a),
`(.inl (bP.of $a)),
`(show $a by omega),
`($a<=sizeLine),
`((λ_ _ _ _ _=> $a)),
`(lX.ok Ks $a),
`(($a,_,_).8),
`($a->Prop),
`(s _ _ $a),
`([.ref $a]),
`(w.getD $a 0),
`((b,$a).5),
`(RelV $a u),
`((aP (bU $a))),
`(.tup (bE $a)),
`(($a,Shared).16),
`(s2 _ _ $a),
`(S.valueOf w $a),
`((h.get? $a).23),
`(($a,Hp).16),
`(s3 _ _ $a),
`(eA $a H H'),
`(by rw[$a:term];omega),
`((Str,$a).31),
`(eval $a X.env),
`((bP.of $a).20),
`(s5 _ _ $a),
`($a<cLine),
`($a<=1000),
`(($a,rfl).27),
`(s4 _ _ $a),
`(wpAny (model prog w) A $a Q E s),
`(as.length= $a),
`($a=some u),
`(S.read $a t),
`(Vals $a us),
`((s.heap.get? $a).23),
`(⟨$a,?_⟩)]
local macro_rules|`($a.$i:fieldIdx)=>mO 72 i a [`((a,$a).5),
`(⟨rfl,$a⟩),
`(some (V.ref $a)),
`(bP K H a $a),
`((H,$a).20),
`(by show $a<1000;decide),
`(Sy27.ways S $a),
`(IS kd Ks $a),
`(⟨$a,rfl⟩),
`((cW $a).1),
`(aL H1 $a),
`(Sy27.step st $a),
`(Q (.ref $a) H'),
`(by rw[$a:term]),
`((_,$a).20),
`(a6 (iY K) (by rfl) T.c0 aT ($a).30),
`(fK (pv 0) $a rfl),
`(by rw[$a:term];simp),
`(by have:= $a;omega),
`((C,$a).22),
`((Addr,$a).31),
`(⟨$a,[]⟩),
`((bE $a).length),
`((($a)).map V.int),
`(cQ order $a ps),
`(hide $a H),
`(PE X $a ta),
`(λ_ _ _ _ _=>($a))]
local macro_rules|`($a.$i:fieldIdx)=>mO 500 i a [`((aA,$a).7),
`(upd H a $a),
`(.inl ⟨rfl,_,bP.of $a⟩),
`(($a,nd).64),
`(iR A t $a a S cs rs),
`(p.getD $a 0),
`($a<s.heap.objs.size),
`(no.map λps=> $a),
`(by rw[$a:term];rfl),
`((H1,$a).20),
`(out [x,p] $a),
`(.cons rfl $a),
`(meets w $a),
`(($a,SortSt).16),
`(by show($a).37;decide),
`(absurd $a c.3),
`(.int ($a).6),
`(($a,xs).41),
`(s6 _ _ $a),
`(eF rfl T.fA ($a).30),
`(Vals $a bY),
`(bP.of ($a).26),
`(V.int (0+($a).6)),
`((aA,$a).3),
`((2,$a).14),
`(CM kd Ks $a Q st),
`(M.cH n size ps $a),
`(⟨$a,b.3⟩),
`((H2,$a).20),
`(hC _ _ F.3 $a),
`(TK prog w $a),
`(λ_ _ _ _ _=>($a).503),
`(yes.map λps=> $a),
`(runEnd mask $a),
`(($a,v.3).26),
`((List.getElem?_eq_some_iff.mp $a).1),
`(($a,[]).12),
`((aE,$a).18),
`(At w $a pl),
`(OH mask $a p),
`(Sy27.possible S ws $a),
`(M.Y n size order $a ps),
`(out (Zs t a) $a),
`(ha pins s σ H $a I h),
`(⟨h1,$a⟩),
`(.tail _ $a),
`($a<=1000000),
`(cC (j:= $a) rfl),
`(Sy27.textOk S.signs.93 $a),
`(ih $a h1 h2),
`((($a :Nat)).33),
`(.Name x $a)]
local macro_rules|`($a.$i:fieldIdx)=>mO 552 i a [`((λi σ H' _ h=> $a)),
`((cs.take i).flatMap $a),
`(cP List.length $a),
`(.cons $a .nil),
`($a=some .free),
`((H2,$a).23),
`(M.eX size ps $a),
`(M.cE ps sg $a),
`((λi σ H'=> $a)),
`(Sy27.ok (- $a)),
`($a=some .cell),
`(((($a)).isSome).7),
`(((($a)).length).33),
`(($a).503.38),
`(a6 cV (by rfl) T.c0 aT ($a).30),
`((eA.of (aL.refl $a)).put),
`(lD n size order $a ps),
`(starEach $a X.env),
`(order.getD $a 0),
`((($a)).map V.ref),
`(Q (.bl $a) H),
`(⟨(1).514,$a⟩),
`(($a,True.intro).3),
`(($a,v.3).41),
`(gX P w H h a $a),
`(StateT SortSt Sem $a),
`(TabOk $a p z pos q),
`(.ins A.Script a.dx $a),
`(M.cQ order $a ps),
`(backTo pos ($a).569),
`(λps=> $a !=0),
`($a=some .local),
`(λH' s2=>bP.of ($a).50),
`((H' r,$a).10),
`(λσ H Q=>t σ H $a),
`($a∉t.place.toList),
`((hbl,$a).3),
`((a.x,$a).5),
`(($a,Addr).31),
`(($a,EP X pins σ Q).53),
`((qG t.mask $a p).j),
`(Agree order w $a),
`(left S l $a),
`(TabOk $a p z tI qSO),
`(⟨aW _,$a⟩),
`(slotAt w t $a),
`((gM,$a,bC).9),
`(syl.map λv=> $a),
`((E.3,$a).46),
`(A7 _ _ $a ?_),
`(.ext (lK It l $a)),
`((V.int $a,0).57)]
local macro_rules|`($a.$i:fieldIdx)=>mO 604 i a [`(holds S $a c),
`(if_neg (λz=> $a)),
`((($a)).map (·.2)),
`((($a)).map (·.1)),
`(Sy27.clueOk S $a),
`(upd H s.heap.objs.size $a),
`(nJ.cells.lookup $a=some c),
`(.tup [.int (i:Nat),$a]),
`((a9,bP.of $a).3),
`(1*2^(($a)).toNat),
`(HZ X pins $a b),
`(Sy27.left S ws $a),
`(X.env.cells.lookup $a=some c),
`(⟨rfl,rfl,$a⟩),
`((hw.1,$a).7),
`(Q (.int $a) H),
`((($a==sysModules)).25),
`(M.iH n size yes no $a),
`($a=Option.none),
`((show $a from r)),
`(iA (he pins s σ H _ I h) $a),
`(∃as:i.3,$a),
`(ps.map λp=> $a),
`(Binds $a fd ps []),
`(Nat-> $a->Hp->Prop),
`(CT kd Ks $a Q),
`(M.oK n size yes no order $a π),
`(eT (EC K) (by rfl) T.oY d4 ($a).30),
`((M.bitsOf $a).33),
`((vs.toArray,$a).75),
`(X.JE.heap.objs.size<= $a),
`(∀x c,x.616-> $a),
`((∀x∈ws,$a)),
`(by simp[$a:term] at h),
`(ord.take ($a+1)),
`((clueOk S $a).7),
`(fW K A.Search $a),
`(RD C $a x l rest),
`((aP (bU $a),?_).27),
`(iT (pv 0) $a lL hr),
`(∀p,p.21->(p,$a).42),
`(⟨[],$a,.nil⟩),
`(kept order $a p),
`(possible S $a a),
`(.ListComp elt [⟨$a,iter,ifs,0⟩] scope pos),
`($a->Hp->VK->Prop),
`(("yes_ends",.ref $a)),
`(∀H',s.3-> $a),
`(.Attribute o $a apos),
`(qG t.mask $a (fY t.mask k.530)),
`(eU (pv 0) (dD T) $a),
`(($a,b.70,h.4).12)]
local macro_rules|`($a.$i:fieldIdx)=>mO 656 i a [`(iA (ha pos pins s σ H _ I h) λus s1 ⟨vs,H1,I1,r1,q1⟩=> $a),
`(hb pins s1 σ H1 $a I1 q1),
`(by simpa using $a:term),
`($a<S.values.length),
`(s.heap.IsList l $a),
`(assignEach $a X.env),
`(order.take ($a+1)),
`(by rw[aA,$a:term];omega),
`(k _ _ $a (AD _)),
`(rI0 λi j=> .int $a),
`((Q (.bl $a) H').651),
`(PE X (p.551,e::es).49 $a),
`(λσ H Q=>ta σ H λx H1=> $a),
`(Heap.SameBut $a s.heap h'),
`(absurd $a (jZ _)),
`(∃o',$a=some o'),
`(callWith pos f first ($a).581 (pos,[]).80),
`(∀H' l,s.3->l.21-> $a->l.84),
`(wpAny (model X.prog X.w) X.A $a Q E s),
`(K.lookup f=some ⟨oc,od,.func $a,UT⟩),
`(UE A t $a a S rs kv),
`(((($a)).any (·.1)).25),
`(X.SI s H scope $a fp),
`(PySem.W.instObj C $a),
`((λb o _ _ hc e _=> $a)),
`(λH' s4=>bP.of ($a).64),
`(List.replicate n $a),
`(Sy27Neutral.out ($a).2),
`(Vis X.env.scope $a),
`(∃σ' H',Inv X pins σ' H' s'/\ $a),
`(aC2 λ_ _ _ _ _ _ _ q=> $a),
`(List.mem_append.mpr (.inl $a)),
`(("tuple",.seq $a).44),
`(by obtain⟨f,fd,F,hm,hb⟩:=D.ex;exact $a),
`(by intro pins s σ H Q I h;exact $a),
`(CM kd Ks $a (λ_ iO=>iO.79) st),
`(by have:= $a;simpa using this),
`((($a)).take (limit-F.length)),
`((m.652,$a).49.58),
`(["text",$a,"blank","syllables"]),
`(⟨b.3,$a,r.3⟩),
`(iQ (λ_=>by walk_at "fin") λ_=> $a),
`(.Subscript o i $a),
`((($a)).filter (good S cs)),
`((PySem.W.codeIn K fJ $a).7),
`((Sy27.onSome st _,$a).89),
`(I.base.there b o e $a),
`(by cases x;exact⟨[],$a,λa m=>m.515⟩),
`((rJ C $a n size,rs).39),
`(Y n size order $a ps),
`(∀H' r,s.3->r.21-> $a->r.84),
`(List.mem_append.mpr (.inr $a))]
local macro_rules|`($a.$i:fieldIdx)=>mO 708 i a [`(owner.getD $a (some 0)),
`(by rw[$a:term] at z;cases z),
`(∀(s:Shared) (H:Hp) (C:Addr) (cl:Y.3) (fp:i.3),$a),
`(eU (pv 0) (nB T) $a),
`((List.size_toArray,$a).65),
`(⟨.int $a,H,I.tok _,rfl.20,q⟩),
`(AB prog w s.heap $a a),
`(ks.length+ $a *cost j),
`(l.flatMap (jD word syl $a)),
`(h pins s σ H $a I hw),
`((hSx.mono $a).mono s5),
`(∀{b o},(iP a H b).23->($a).23),
`(∀{l₁:w.3} {l₂:List β},$a),
`((letters.drop $a).take row.length),
`(A.under (.builtin "type.__call__" ⟨.ref C:: $a,kw⟩)),
`(cellsFrom $a names acc),
`((PySem.W.plainGet K C $a).7),
`(PySem.W.nsIn K mainGlobals x=some $a),
`(I.base.keep b o e n hb $a),
`(∀c,c∈ls↔c∈$a),
`(M.gF $a x y letters bl),
`(V9 n size yes no order $a),
`(oK n size yes no order k $a),
`((s.heap.objs.size,$a).42),
`(pushCells $a scope.names),
`(s1.heap.objs.size+ $a),
`(∀b o,(X.base.get? b).23-> $a),
`(exts S.values.length k $a),
`(by obtain⟨o,e⟩:=hz;exact⟨o,$a⟩),
`(((s0.heap.get? b).23,b∉B.4,$a).15),
`((300<(cs.78).length->($a).805)),
`(∀H' r,s.3->r.21-> $a->r.84),
`((aI,cP (λz=>some (HO.lst z)) $a).3),
`(bY.toArray.any (SD x)= $a),
`((λb o hc e=>⟨o,$a⟩)),
`(Sy27.readings st.script $a tx),
`(λσ H R=>ta σ H λvs H1=> $a),
`(∀(text:a.3) (l:u.3),$a),
`(∀j (h1:j<us.size) (h2:j<vs.size),$a),
`(by unfold CM;rw[$a:term];exact .pure h),
`(by cases op<;>first|rfl|exact absurd rfl $a),
`(g x R.4 H' λσ2 H2=>wipe σ2 vs=R.4/\ $a),
`((List.range $a).all λs=>given.contains s|| !M.lT size p s),
`(⟨.bl _,H,I.kept λb o eo=>hk b o (λkR=>?_) $a,?_,q⟩),
`(aB (m:=Builtin.Tuple.tupleExact _) (eG $a PQ)),
`(λkv=>if kv.1=k then(kv.1,$a) else kv),
`(vT (λσ' H'=> $a) ?tail λZ hZ=>?_),
`(M.mP word syl $a [(bl,0)]),
`(∀c',c'< $a->(c'.653).j∈t.place.toList),
`(I.turned (t':=s.toks) $a f0 f1 f3 f4 f5),
`(wpAny (model X.prog X.w) A $a Q E s),
`(M.gA S.signs S.values.length $a)]
local macro_rules|`($a.$i:fieldIdx)=>mO 760 i a [`(((gM,E.3,eJ rfl $a).9)),
`({s with heap:=s.heap.push $a}),
`(hide_ne (λe=>YY (e,$a).15)),
`(Sy27Neutral.step $a H.3),
`(aHI λ_ _ _ _ _ _ _ q=> $a),
`(∀y∈scope.names,y.2= .free-> $a),
`(ks.foldl (λds k=>if k∈ds then ds else ds++[k]) $a),
`(by rw[List.size_toArray,<-hl];exact $a),
`((List.length_append,$a).3),
`(($a,{s with heap:=h',toks:=t'}).19),
`(($a,λv q=>nomatch q).27),
`(by unfold Script.read;rw[$a:term]),
`(⟨.int $a,H,I.tok _,s.toks.71,q⟩),
`(by cases x;obtain⟨t,rfl⟩:=r;exact($a).20),
`($a=some (.lst ((os.map (·.1)).map V.ref))),
`(by rw[<-Array.length_toList,$a:term,Array.length_toList]),
`((by obtain⟨_,_,_,_,s,_⟩:=h;exact bP.of ($a).42).552),
`(∀{b o},(iP a H3 b).23->EF a b o->($a).23),
`((vL (qD T) tG (by rfl) (aD (pv 1) (pv 2,$a,iI.654).7)).47),
`(#[rawInt pos.line,rawInt pos.col,$a]),
`(∀(i j:Int) (t u:Tok) (s:Shared) (Q:l.3) (E:l.3),$a),
`(λvs H Q=>∃(a:Addr) (ns:f.3),$a),
`(((gM,pv 1,eJ (by rfl) $a).9)),
`(by unfold Sy27.step;dsimp only;rw[$a:term];rfl),
`(⟨.ref s.heap.objs.size,_,$a,rfl,q _ T.4⟩),
`(s₁.heap.get? $a=some (PySem.W.tabObj #[])),
`(.ext (NG h'.objs.size $a J.5 ar body sc cl)),
`((($a).25->(E (.ref A.oQ) none H').651)),
`(X4 e lt (us.size,vs.size).35 $a),
`(by have a1:=below_at ok.raw.rise $a;have a2:=below_at ok.raw.rise e1;omega),
`((($a)).filter λv=>(yes.all v.559.582)&& !(no.any (v.559&&&([sg]).526).582)),
`(Found S.signs S.values.length (sJ rs) (C2 rs) $a R),
`(λx y H Q=>∃i j,x= .int i/\y= .int j/\ $a),
`(∀(h':Heap) (tk:Nat),$a->(b.506.655)->({s with heap:=h',toks:=tk}).731),
`(PE X (.Call name.652 (e::es) [] pZ) $a),
`(("tuple",.seq ((($a)).map λn:Nat=>Value.int n.6 0).toArray 0).44),
`(k _ r (s1.trans iI.509) (none_of s1 iI) $a),
`(I.laid (t':=s.toks) (o:= $a) (λb ob q=>aN _ q) (aS _) ?_),
`(λv H'=>Dw K H' v $a/\(∃qs,H' p1=some (p1,qs).56)/\∃qs,H' p2=some (p2,qs).56),
`(us.length=ps.length->bindArgs $a us.93=pure (ps.zip us)),
`((a.58,λv s₁=>(b.58,λu s₂=> $a,s₁).28).53),
`(M.Found S.signs S.values.length (M.sJ rs) (M.C2 rs) $a R),
`(aE7 lk ZC S len λA outer s H vs Q E hr R7=> $a),
`(aK0 ha hb I h λv u s2 x y H2 I2 rx ry q=> $a),
`(ns.foldl (λds n=>if n∈ds then ds else ds++[n]) $a),
`(∀H',H'.504->Nx t a H H'->E (.ref $a) none H'),
`(λj h=>by obtain⟨t,e⟩:= $a;refine t.71;rw[aF m.4] at e;simpa using e),
`(entryFor_alias (id':= $a) (by kernel_rfl) rfl l.4 (by kernel_rfl)),
`(by intro pins s σ H Q I hw;refine $a;obtain⟨d,rfl,q⟩:=q1;cases r1;exact fU ⟨H1,I1,q⟩),
`(by intro pins s σ H vs us Q I r h;obtain⟨a,ns,rfl,hs,iK,q⟩:=h;obtain⟨bY,rv,hl,_⟩:=K.5;rw[y.5];exact $a),
`(by obtain⟨f,fd,F,hm⟩:=D.ex;exact⟨f,fd,$a,hm,F.kp,F.binds hb⟩),
`((vs=[r.4]/\K.4.75/\0<ns.length/\∀m,m∈ns->(∀y,y∈ns-> $a)->m.619).781)]
local macro_rules|`($a.$i:fieldIdx)=>mO 812 i a [`(I.laid (t':=tk) hk (aS _) ⟨$a,acc.toList,c',hv,by simpa using hD⟩),
`(k _ c (hR7.same sm) (bf.trans (eA.of s6),b7,eA.of sm).11 ⟨dx,tx,pa,aI,sm _ _ (b7 _ _ ht5.518 ntx),$a⟩),
`(wpAny_Call_method_late VI SG VJ rfl (iA (ho pins s σ H _ I h) $a)),
`(λx y H Q=>∃p xs i v,x= .ref p/\y= .int i/\ $a/\atI xs i=some v/\Q v H),
`(∀{binds:Value.57} {m:k.3},(∀v,(x,v)∉binds)-> $a=m x),
`(∀h' tk M t',(∀b o,b.70->h.4.23)->M∈ns->(∀a,a∈ns-> $a)->Q (.int M t') {s with heap:=h',toks:=tk}),
`(by obtain⟨oc,od,kV,doc,pm,an,fJ,ct,UT,rfl,lk,ZC⟩:=F.ex;exact $a),
`((aP (5,nd,(yP T,hrD,(E.3,fM (own:=[("row",9)]) rfl nd (cK (pv 2)) y.3 (9).531 q.4 ($a).99,pv 4).7).6).17)),
`(a6 (G.T.HD P w rfl) (by rfl) T.x9 B7 (eT (G.T.aCp K P w rfl) (by rfl) T.aB5 IY ($a).30).30),
`(hQ _ h' s.toks he.63 ⟨hit,(hs.2 $a iK).trans st.2⟩ λb o hb e=>(hs.2 b λh=>hb h.24).trans e),
`([a.x.8,π.length.32,o.5.32,yl.8,nl.8,st.8,F.length.32,$a]),
`(wpAny_Assign_Subscript (iA (hv pins s σ H _ I h) λr s1 ⟨v,H1,I1,rv,q1⟩=>iA (ho pins s1 σ H1 _ I1 q1) λu s2 ⟨x,H2,I2,rx,q2⟩=>iA (hi pins s2 σ H2 _ I2 q2) $a) hs),
`(by intro pins s σ H x y v u Q I rx ry h;obtain⟨i,j,rfl,rfl,q⟩:=h;obtain⟨t,rfl⟩:=rx;obtain⟨t',rfl⟩:=ry;exact rule i j t t' s _ _ $a),
`(by show(st,if st.script.signs=0 then _ else _)=_;rw[if_neg hs0,$a:term]),
`(by show(st.script.signs<=sg,_,(st,z.5)).14=_;rw[if_neg b.3,$a:term]),
`(by obtain⟨f,fd,F,hm⟩:=D.ex;exact⟨c,f,fd,$a,hm,F.binds hb⟩),
`(λq o eq n=>b5 _ _ (b4 _ _ (b2 _ _ (b1 _ _ eq n) n).54 n) $a),
`(∀(pos:Pos) (pins:j.3) (s:Shared) (σ:St) (H:Hp) (Q:e.3.53),g.3->t σ H Q-> $a),
`(syl.zipIdx.flatMap λx=>if $a then span g.1 sign (2^x.2) (g.2+x.1.length) else []),
`(by rw[seqIndex_neg b.3 $a] at h1;rw[List.size_toArray,<-hl];exact aM h1),
`(((fM (own:=[("turn",8)]) rfl nd (pv 1).519 y.3 (8).531 q.4 (BY T,iI,($a,gY (slL K) E.3 mM (gS (d6 lY (pv 8) bC))).21).6.99).88)),
`(λvs H Q=>∃(a:Addr) (bs:List Bool),vs=[r.4]/\(bs.map V.bl).75/\($a).572),
`(by rw[<-Array.length_toList,$a:term,List.length_append,Array.length_toList];rfl),
`(eT (G.T.XQ rfl) (by rfl) T.FL mB (eT aGp (by rfl) T.fA PyProof.Rows.boot_range ($a).30).30),
`((syl.zipIdx.take j).flatMap λx=>if $a then M.span g.1 sign (2^x.2) (g.2+x.1.length) else []),
`(keep b _ $a (λz=>by rw[z,z1] at e;cases e) (λz=>by rw[z,z2] at e;cases e) e),
`(by refine iA (_).543 Y.10;refine iA (_).657 λu s2 ⟨y,H2,I2,r2,q2⟩=>?_;exact $a),
`(Paired (λm j=>jC ($a).510 m (ord.getD j 0) (ord.getD j 0).621 yes no) ms C.3),
`(λx xs H Q=>∃(a:Addr) (ns:f.3) (m:Int),x=r.4/\xs=[.int m]/\ $a/\((ns.count m:Nat)).619),
`(∀(pins:j.3) (s:Shared) (σ:St) (H:Hp) (D:Ends),g.3->t D σ H->($a,SP X pins D).53)]
local macro_rules|`(($a,$b).$i:fieldIdx)=>mG 3 i [`(by rw[$a:term];exact $b),
`(($a,i,$b).4),
`(H $a=some $b),
`((($a)).length= $b),
`(by rw[$a:term,$b:term]),
`((($a)).length<= $b),
`(Df K mg $a $b),
`(($a,bE $b).12),
`(decide ($a= $b)),
`($a=some (.lst $b)),
`(($a,bE $b).41),
`((($a,nd,$b).17)),
`(by rw[<- $a:term];exact $b),
`($a-> $b->Prop),
`(⟨$a,$b,?_⟩),
`(by rw[$a:term,$b:term];rfl),
`(Inv X pins σ $a $b),
`((aL.refl $a).new $b),
`(aD $a ($b).30),
`(.ins $a dx $b),
`(($a,$b,[]).3),
`(cU $a $b (by intro z;cases z)),
`(upd H1 $a $b),
`(bX (K:=K) (a:= $a) (xs:= $b)),
`(⟨_,$a,$b⟩),
`(($a,$b[i]).4),
`((bF $a,$b).3),
`(h.get? $a=some $b),
`(List ($a×$b)),
`(cU $a $b (λz=>nomatch z)),
`(dY $a (aP $b) cN),
`(⟨$a,$b,rfl⟩),
`(decide ($a< $b)),
`(inClass (top $a) $b),
`(mg $a=some (.ref $b)),
`(Paired.fV $a λ_ _ q=> $b),
`(Paired $a as $b),
`(($a,q.mono $b).38),
`(($a,.lst $b).5),
`(Q (.ref $a) $b),
`(s.heap.get? $a=some $b),
`({cls:= .type $a,data:= $b}),
`(xC X (compareOp $a) $b),
`((DL K,$a,$b).23),
`((UW K,$a,$b).23),
`(aL (out $a H) $b),
`(.Call $a $b [] pos),
`(⟨$a,rfl,$b⟩),
`(.inl ⟨$a,$b⟩),
`(decide ($a<= $b)),
`(wpAny (model X.prog X.w) X.A $a $b X.xe s),
`(j6 X (.builtin $a) $b)]
local macro_rules|`(($a,$b).$i:fieldIdx)=>mG 55 i [`(∃t,mg $a=some (.int $b t)),
`(.ext (jN $a $b)),
`(($a,V.int $b).11),
`(⟨a.x,a.dx,$a,$b⟩),
`(.inr ⟨$a,$b⟩),
`(Ne.symm (aY $a $b)),
`(xC X (binaryOp $a) $b),
`(aL H2 (H2,$a,$b).3),
`(dB (lW bA PySem.F.slot_list_append b9 gT $a ($b).30)),
`(a7 (i:= $a) $b rfl l.5),
`(by rw[$a:term,$b:term];omega),
`(gN $a (some $b) none),
`(.BoolOp $a $b pos),
`(Sy27.letters v $a $b),
`(hY.len $a (List.mem_of_getElem? $b)),
`((hide_ne $a,$b).3),
`(exmOne K (.ref $a) (.ref $b)=some false),
`(kE H1 _ $a w.10 $b I.4 eV),
`(oV X.prog X.w $a $b),
`(⟨_,rfl,$a,rfl,b.3,b.3,$b⟩),
`(seqObj "list" $a $b),
`((y6 $a S.signs $b).579),
`(PySem.W.findIn K (.ref C) $a=some $b),
`(by rw[aA,$a:term];exact $b),
`((($a,lM $b rfl).33)),
`(backToKw $a (keywordEach $b X.env)),
`(compEnvC scope $a $b X.env),
`(($a).45->H' b=some $b),
`(V.int (Builtin.bitAnd $a $b)),
`(M.fO (k:= $a) λx _=> $b),
`(⟨_,_,rfl,$a,$b⟩),
`(M.d9 row syl $a $b),
`(EP X pins σ Q $a $b),
`(jE n size yes no order $a $b),
`(by show(st,$a)=_;rw[$b:term]),
`(by obtain⟨as,h1,h2⟩:=h;exact⟨as,$a,$b⟩),
`((List.range $a).map $b),
`(call (.builtin $a) $b),
`((B.take $a).flatMap $b),
`(hs $a (List.mem_of_getElem? $b)),
`((List.replicate $a $b).flatten),
`(l.flatMap (kZ row $a $b)),
`((nE T,iI,($a,$b).21).6.47),
`(⟨_,$a,rfl,$b,rfl⟩),
`(($a,["script","reader"],$b).5),
`((a7 (i:= $a) $b rfl (Or.inr rfl))),
`(jC $a $b sg cs yes no),
`(uN ($a).597 $b S es.size ep),
`(cellsFrom $a scope.names $b),
`(if $a then some $b else none),
`((PySem.W.keepIn $a $b).7),
`(⟨_,rfl,rfl,_,$a,$b⟩)]
local macro_rules|`(($a,$b).$i:fieldIdx)=>mG 107 i [`(by have:= $a;rw[$b:term] at this;exact this),
`((hs.2 b (bS (bD (aZ e) $a))).trans $b),
`((xB rfl (dH ($a).503 (dH ($b).503 kX)))),
`(ne $a _ $b λ_ z=>by cases z),
`(∀o,(g1.get? $a).23->(g2.get? $b).23),
`(λ_ _ _ _ _=>Z9 K (n:=2) rfl (dH ($a).503 (dH ($b).503 kX))),
`(PyProof.Rows.G.tupKeyC $a w.5 $b),
`(yA (K:=K) (a:= $a) (xs:= $b)),
`(s.heap.push ($a,.fields $b).44),
`(l.flatMap (fQ row $a $b)),
`(by have:= $a;rw[$b:term] at this;omega),
`(exmOne K (.ref $a) (.ref $b)=some true),
`(⟨_,rfl,$a,_,rfl,$b,?_⟩),
`(((x.5).flatMap λk=> $a).find? $b),
`((eA.of $a).put (o:= .lst $b)),
`(⟨f.len $a,aG f.zN $b,λw hw=>?_⟩),
`((bK (i:= $a) nd rfl (Or.inr rfl) $b)),
`(∃t,YV $a $b t/\t {nx:=λ_ H'=>Q .gL H',rt:=Q} (start N vs) H),
`(.cons $a rfl rfl (λev=>(c7 (wI qH bC).30)) $b),
`((["script","reader",$a],["script","reader"],$b).5),
`(by simp[$a:term,List.find?_cons,$b:term]),
`(Reach $a (·∈t.place.toList) $b j),
`(kE H2 _ _ w.10 jM ((i9.rd b1).trans $a) $b),
`(swapsWith $a (some $b) pos.line X.env=pure false),
`(ih $a (λx hx=>hvs x hx.24) $b),
`(fH.mpr ⟨$a,c.3,λa ha b hb=>by rw[List.mem_singleton] at hb;subst hb;exact λe=> $b⟩),
`(by subst z;rw[$a:term] at mu;exact $b),
`(by intro pins s σ H Q I h;refine $a;exact $b),
`(if($a,1).6 then(($b)).headD 0 else S.values.length),
`((shF ps kr tr).lookup ($a :Str)=some $b),
`(by show¬((!$a&& $b)).7;rw[x.plain];simp),
`(l.517/\ $a/\(xs.length+zs.length).37/\ $b),
`((($a)).map λx=>((Value.ref x.1,Value.ref $b):Value×Value)),
`(wpAny (model X.prog X.w) $a $b (EP X pins σ Q) E s),
`({cls:= $a,dict:=none,data:= $b,slots:= #[]}),
`((ho,λu' hu'=>o7 ry $a rv $b u' (by simpa using hu')).17),
`(j6 X c.5 (λxs H Q=>∃p ys,xs=p.43/\(($a/\∀l,l.21->(l,upd H l (.tup ys)).42)\/($b/\Q (.ref p) H)))),
`((aP (dB (lI T,hrB,aD (pv 6) (aD (pv 7) (pv 5,d6 E6 bC $a,$b).7)).6))),
`(by obtain⟨m,⟨o,es,ep,ho,r⟩,_⟩:=id I.loc;obtain⟨sl,hL⟩:= $a;exact $b),
`(⟨r.hd,by have:=r.dp;show $a+3*k+5<_;omega,by have:=r.un;show $b+16*k+200<_;omega⟩),
`(σ=[sl.8,g.8,r.8,$a,$b,v5,v6]/\s.3/\((zY.take i).map λps=>given.526).585),
`(by obtain⟨as,h1,h2⟩:=h;refine $a;obtain⟨ya,na,q1,q2,q3⟩:=q;exact $b),
`(List.foldl (λx1 x2=>x1++x2) #[] (List.replicate $a bY.toArray)=(List.replicate $b bY).flatten.toArray),
`(⟨$a,c.3,λa ha b hb e=>by rw[List.mem_singleton] at hb;subst hb;subst e;exact $b⟩),
`((b,te σ2 H3 λy H4=>∃acc,(H4 D,acc).12/\acc.length<sizeLine/\ $a,$b).8),
`(by obtain⟨as,q1,q2⟩:=h;exact⟨as,s _ _ q1 (cU $a hx λz=>h1 _ z.symm),$b⟩),
`(by intro pins s σ H Q I h;refine iL (zK I hg hm ?_ OA);refine zJ (h₀:=X.base) I.ok.mod.kin $a (iA (ha pos pins s σ H _ I h) λus s1 ⟨vs,H1,I1,r,q⟩=>I1.R1.71) he kY;exact $b),
`((∃xs,$a/\k= !xs.isEmpty)\/(∃xs,$b/\k= !xs.isEmpty)\/∃eI,(p,.dK eI).5/\k= !eI.isEmpty),
`(λ(n,k)=>if($a&&sc.kind== .function&&sc.names.lookup n==some .cell) then $b else(n,k))]
local macro_rules|`(($a,$b,$c).$i:fieldIdx)=>mG 3 i [`(upd $a $b (.lst $c)),
`($a[$b]? =some $c),
`(bB $a $b (aV $c)),
`(bQ $a $b rfl $c),
`(aD $a ($b,$c).21),
`(if($a).7 then $b else $c),
`(bZ $a $b $c (cG _)),
`(⟨_,$a,$b,$c⟩),
`(((($a)).trans $b).trans $c),
`(($a,$b,($c).23).15),
`(by rw[$a:term,$b:term,$c:term];rfl),
`((if $a then $b else $c)),
`(∀b o,$a-> $b-> $c),
`((A.Search,d8 $a (.ref $b) $c).22),
`(bK (i:= $a) $b rfl l.5 $c),
`(by rw[$a:term,$b:term];exact $c),
`(IsTupleKey Q.4 $a $b $c),
`((($a)).get? $b=some $c),
`(gN $a $b (some $c)),
`((sb.2 $a $b).trans $c),
`(dI $a $b $c (λ_ _=>rfl)),
`(Md K A.Script $a $b $c),
`(Shapes C $a $b n size $c),
`((jB $a $b $c (cG _)).38),
`(⟨.bl $a,H,$b,rfl,$c⟩),
`(wpAny i.4 X.A $a $b X.xe $c),
`(⟨$a,rfl,$b,rfl,$c⟩),
`(⟨_,rfl,$a,rfl,($b).59,$c⟩),
`(kQ $a a _ r (Fr.of $b) $c ?_),
`(hC0 _ $a (pU $b,$c).18),
`(⟨$a,_,_,rfl,rfl,$b,$c,?_⟩),
`(upd $a x $b x=some (A.Search,$c).22),
`(dB (lW bA PySem.F.slot_list_extend h9 $a $b ($c).30)),
`(DZ (K:=K) (a:= $a) (b:= $b) $c),
`(PS X (.Assign [$a] $b pos) $c),
`(λb o e=>by obtain⟨e1,n⟩:= $a;rw[$b:term];exact $c),
`(hZ _ _ ⟨l,_,rfl,$a,$b,?_,λps f=> $c⟩),
`((I.cZ b u e).HX (λc v hc q=> $a) $b $c),
`(λxs H Q=>∃p ys,xs=p.43/\($a\/ $b)/\ $c),
`(fM (own:=[("way",$a)]) rfl nd (cK (pv 0)) y.3 ($b).531 q.4 ($c).99),
`(⟨.gL,_,I.aLf (its':= $a) hH e c.3 $b $c,rfl,q⟩),
`(yB rl.534 (oF zs λx=>if $a then(x.1).74 else none) $b (pW,hrl.29).78 ($c).584 z.11 ?_ ?_),
`(by intro pins s σ H Q I hq;refine $a;have hf:(H1 s1.heap.objs.size).9:=D.13;refine⟨.ref s1.heap.objs.size,$b,I1.laid (t':=s1.toks) y.11 (aS _) ?_,rfl,q _ hf⟩;exact $c),
`(by refine aG (ZX (c:=λv=> $a) (λx=>lR _ _ _ _) syl 0) ?_;refine three (X:= $b) (hy.nd.filter _) λv hv=>?_;obtain⟨h1,h2⟩:=bW.mp hv;exact⟨$c,hy.len v h1⟩),
`(by intro pins s σ H Q I h;refine iL (xA I hg hm (u:= $a) (by rfl) ?_);refine PyProof.Rows.callWith_kw (iA (hkw pos pins s1 σ H1 _ I1 q1) $b).656 he kY i3 hkn;subst e1;subst e2;rw[Vals.xD r1,Vals.xD r2,hks];exact $c),
`($a->∃bs:i.3,(as.zip $b).filterMap (λq=>if p q.2 then(q.1).74 else none)=y.10/\ $c)]
set_option hygiene true
namespace L2
open PySem PySem.Spec PyProof.Rows
abbrev Key:=Sum Int Str
def O5:Key->Value->Bool
 | .inl k,v=>Value.isInt k v
 | .inr x,v=>Value.isStrOf x v
def aSO(w:World):Key->Int
 | .inl k=>hashInt k
 | .inr x=>hashStr w x
theorem iU: ∀{k:Key} {v:Value},(O5 k v).7->(∃i t,k=Sum.inl i/\v=Value.int i t)\/(∃x t,k=Sum.inr x/\v=Value.str x t)
 | .inl i,v,h=>by obtain⟨t,e⟩:=Value.isInt_shape (k:=i) (v:=v) h;exact .inl ⟨i,t,rfl,e⟩
 | .inr x,v,h=>by obtain⟨t,e⟩:=Value.isStrOf_shape (x:=x) (v:=v) h;exact .inr ⟨x,t,rfl,e⟩
theorem aCW(i:Int)(t:Tok):(O5 (.inl i) (.int i t)).7:=by simp[O5,Value.isInt]
theorem aCX(x:Str)(t:Tok):(O5 (.inr x) (.str x t)).7:=by simp[O5,Value.isStrOf]
theorem aKJ(a b:Int):((Sum.inl a:Key),Sum.inl b).11=(a==b):=by
 by_cases e:a=b
 . subst e;simp
 . have h:¬(Sum.inl a:Key)=Sum.inl b:=λq=>e (Sum.inl.inj q);rw[aQ h];exact(fG.mpr e).symm
theorem aKK(a b:Str):((Sum.inr a:Key),Sum.inr b).11=(a,b).11:=by
 by_cases e:a=b
 . subst e;simp
 . have h:¬(Sum.inr a:Key)=Sum.inr b:=λq=>e (Sum.inr.inj q);rw[aQ h,aQ e]
theorem aKL(a:Int)(b:Str):((Sum.inl a:Key),Sum.inr b).11.25:=aQ (λq=>nomatch q)
theorem aKM(a:Str)(b:Int):((Sum.inr a:Key),Sum.inl b).11.25:=aQ (λq=>nomatch q)
def kU(prog:Program)(w:World):PySem.KeyKind prog w Key where
 is:=O5
 hash:=aSO w
 inj:=λv a b ha hb=>by
  rcases iU ha with⟨i,t,rfl,rfl⟩|⟨x,t,rfl,rfl⟩
  . rcases iU hb with⟨j,u,rfl,e⟩|⟨y,u,rfl,e⟩
    . injection e with e1 _;rw[e1]
    . exact nomatch e
  . rcases iU hb with⟨j,u,rfl,e⟩|⟨y,u,rfl,e⟩
    . exact nomatch e
    . injection e with e1 _;rw[e1]
 byValue:=λk v h=>by rcases iU h with⟨i,t,rfl,rfl⟩|⟨x,t,rfl,rfl⟩<;>rfl
 pyHash:=λhv h=>by
  rcases iU hv with⟨i,t,rfl,rfl⟩|⟨x,t,rfl,rfl⟩
  . exact wpAny_pyHash_int h
  . exact wpAny_pyHash_str h
 eqBool:=λhu hv h=>by
  rcases iU hu with⟨i,t,rfl,rfl⟩|⟨x,t,rfl,rfl⟩
  . rcases iU hv with⟨j,u,rfl,rfl⟩|⟨y,u,rfl,rfl⟩
    . rw[aKJ] at h;exact wpAny_eqBool_int h
    . rw[aKL] at h;exact SeqAt.EqAt.int_str i t y u _ _ _ _ h
  . rcases iU hv with⟨j,u,rfl,rfl⟩|⟨y,u,rfl,rfl⟩
    . rw[aKM] at h;exact SeqAt.EqAt.str_int x t j u _ _ _ _ h
    . rw[aKK] at h;exact wpAny_eqBool_str h
 «strs»:=λk x t v h=>by
  rcases iU h with⟨i,u,rfl,e⟩|⟨y,u,rfl,e⟩
  . exact nomatch e
  . injection e with e1 _;subst e1;cases v<;>rfl
theorem U4(prog:Program)(w:World)(i:Int)(t:Tok):((kU prog w).is (.inl i) (.int i t)).7:=aCW i t
theorem U8(prog:Program)(w:World)(x:Str)(t:Tok):((kU prog w).is (.inr x) (.str x t)).7:=aCX x t
end L2
namespace L2
open PySem PySem.Spec PyProof.Rows
inductive V where
 |gL|bl (b:Bool)|int (i:Int)|str (x:Str)|O6 (b:Array UInt8)|flt (b:UInt64)|ref (a:Addr)|ty (n:String)
 deriving DecidableEq
def RelV:(V,Value).16
 | .gL,u=>u=Value.none
 | .bl b,u=>u=Value.bool b
 | .int i,u=>∃t,u=Value.int i t
 | .str x,u=>∃t,u=Value.str x t
 | .O6 b,u=>∃t,u=Value.bytes b t
 | .flt b,u=>∃t,u=Value.float b t
 | .ref a,u=>u=D.5
 | .ty n,u=>u=Value.type n
abbrev Vals:(e.3,h.3).16:=Paired RelV
theorem Vals.length{xs:e.3}{us:h.3}(r:xs.69):xs.length=us.length:=aO r
theorem Vals.get: ∀{xs:e.3} {us:h.3} {i:Nat} {x:V},xs.69->D.4->∃u,(us,u).4/\x.46
 |_,_,_,_,.nil,e=>by simp at e
 |_,_,0,_,.cons r _,e=>by simp at e;subst e;exact r.28
 |_,_,i+1,x,.cons _ t,e=>by obtain⟨u,h1,h2⟩:=Vals.get (i:=i) (x:=x) t (by simpa using e);exact⟨u,t.4,h2⟩
theorem Vals.set{x:V}{u:Value}(r:x.46): ∀{xs:e.3} {us:h.3} (i:Nat),xs.69->Vals (xs.set i x) (us.set i u)
 |_,_,_,.nil=> .nil
 |_,_,0,.cons _ t=> .cons r t
 |_,_,i+1,.cons q t=> .cons q (Vals.set r i t)
theorem Vals.append: ∀{xs ys:e.3} {us ws:h.3},xs.69->Vals ys ws->Vals (xs++ys) (us++ws)
 |_,_,_,_,.nil,s=>s
 |_,_,_,_,.cons r t,s=> .cons r (Vals.append t s)
theorem Vals.take: ∀{xs:e.3} {us:h.3} (n:Nat),xs.69->Vals (xs.take n) (us.take n)
 |_,_,0,_=> .nil
 |_,_,_+1,.nil=> .nil
 |_,_,n+1,.cons r t=> .cons r (Vals.take n t)
theorem Vals.drop: ∀{xs:e.3} {us:h.3} (n:Nat),xs.69->Vals (xs.drop n) (us.drop n)
 |_,_,0,r=>r
 |_,_,_+1,.nil=> .nil
 |_,_,n+1,.cons _ t=>Vals.drop n t
def E1:(N.4,v.5).16
 |some v,some u=>v.46
 |none,none=>True
 |_,_=>False
def KV{κ:Type}:(e.5,(κ,Value).31).16:=Paired λ(p:κ×V) (q:κ×Value)=>p.1=q.1/\RelV p.2 q.2
def kV:Key->V
 | .inl i=> .int i
 | .inr x=> .str x
inductive HO where
 |lst (xs:e.3)
 |tup (xs:e.3)
 |dK (eI:(Key,V).31)|dT (eI:S.5)
 |set (S:Int->Bool) (n:Nat)
 |ins (C dx:Addr) (fs:V.57)
 |own (x:Addr)
 |xd (fs:V.57)
 |met (f x:Addr)
 |rng (lo hi:Int)
 |N3 (o:Obj) (u:HO)
 |tbl (ps:R.3)
 |ext (φ:Heap.41)
abbrev Hp:=Addr->Option HO
def upd(H:Hp)(a:Addr)(o:HO):Hp:=λb=>if b=a then some o else H b
theorem aI{H:Hp}{a:Addr}{o:HO}:(upd H a o a).23:=by unfold upd;rw[N.5]
theorem bF{H:Hp}{a b:Addr}{o:HO}(h:b≠a):upd H a o b=H b:=by unfold upd;rw[if_neg h]
theorem oU{H:Hp}{a:Addr}{o u:HO}:upd o.501 a u=u.501:=by funext b;unfold upd;split<;>rfl
theorem cU{H:Hp}{a b:Addr}{o u:HO}(h:o.72)(h':u.45)(d:o≠u):a≠b:=by intro e;subst e;rw[h] at h';exact d (aM h')
theorem aY{H:Hp}{a b:Addr}{o:HO}(h:o.72)(h':b.21):a≠b:=by intro e;subst e;rw[h] at h';cases h'
def aSP(h:Heap)(a:Addr)(items:R.3):Prop:=IsTup h a items/\∃o,a.52/\o.dict=Option.none
section
variable(P:Program)(w:World)
def gX(H:Hp)(h:Heap)(a:Addr):HO.41
 | .lst xs=>k.10/\∃(bY:h.3) (n:Nat),xs.520/\(a,U.11).30
 | .tup xs=>k.10/\∃bY:h.3,xs.520/\aSP h a bY.toArray
 | .dK eI=>D.15
 | .dT eI=>eI.length.37/\a.620/\∃xs:Z.11,
  Paired (λ(p:List Key×V) (q:List Key×Addr×Value)=>p.1=q.1/\(q.2.1,.tup (p.1.map kV)).5/\RelV p.2 q.2.2) eI xs/\
  ∃o es ep,a.52/\o.ExactDict/\o.data= .dict es ep/\es.toList=xs.map (entryOfKey T.12)/\(xs.map (·.1)).Nodup
 | .set S n=>h.SetOf (intKind P w) a S n
 | .ins C dx fs=>(dx,.own a).5/\fs.length.62/\dx≠a/\(a,dx.679).30/\
  ∃mA,h.Ns1 dx mA/\(∀f,E1 (fs.lookup f) (mA f))/\PySem.Within mA (fs.map (·.1))
 | .own _=>∃o,a.52
 | .xd fs=>∃mA,h.Ns1 a mA/\∀f,E1 (fs.lookup f) (mA f)
 | .rng lo hi=>∃t u v,(a,("range",.fields M.14).44).30
 | .N3 o u=>a.52/\gX H h a u
 | .tbl ps=>(a,T.14).30
 | .met f x=>(a,PySem.W.methodObj (.ref f) (.ref x)).30
 | .ext φ=>φ h/\(∃o,a.52)/\∀h1 h2:Heap,φ h1->(∀o,(h1.get? a).23->(h2.get? a).23)->φ h2
def oV(H:Hp)(h:Heap):Prop:=∀a o,o.72->o.576
end
section
variable{P:Program}{w:World}{H H':Hp}{h h':Heap}{a:Addr}{o:HO}
theorem gX.lt(x:o.576):a<h.objs.size:=by
 cases o with
 |lst xs=>obtain⟨_,_,_,_,e⟩:=x;exact aZ e
 |tup xs=>obtain⟨_,_,_,p⟩:=x;exact p.1.lt
 |dK eI=>obtain⟨_,_,_,_,o,_,_,e,_⟩:=x;exact aZ e
 |dT eI=>obtain⟨_,_,_,_,o,_,_,e,_⟩:=x;exact aZ e
 |set S n=>obtain⟨o,_,_,_,e,_⟩:=x;exact aZ e
 |ins C dx fs=>obtain⟨_,_,_,e,_⟩:=x;exact aZ e
 |own y=>obtain⟨_,e⟩:=x;exact aZ e
 |xd fs=>obtain⟨_,⟨_,_,_,e,_⟩,_⟩:=x;exact aZ e
 |rng lo hi=>obtain⟨_,_,_,e⟩:=x;exact aZ e
 |N3 ob u=>obtain⟨e,_⟩:=x;exact aZ e
 |tbl ps=>exact aZ (show(a,_).30 from x)
 |met f y=>exact aZ (show(a,_).30 from x)
 |ext φ=>obtain⟨_,⟨_,e⟩,_⟩:=x;exact aZ e
theorem Paired.fV{α β:Type}{F G:(α,β).16}: (i.13->(∀a b,F a b->G a b)->Paired G l₁ l₂).720
 |_,_,.nil,_=> .nil
 |_,_,.cons r t,f=> .cons (f _ _ r) (Paired.fV t f)
theorem gX.HX(x:o.576)(k: ∀b u,(b=a\/(.own a).45)->(h.get? b).67->h.4.67)
 (ho: ∀b,(.own a,.own a).82) (ht: ∀b xs,(a.4,a.4).82):gX P w H' h' a o:=by
 induction o with
 |lst xs=>obtain⟨z,bY,n,r,e⟩:=x;exact⟨z,bY,n,r,U.5⟩
 |tup xs=>obtain⟨z,bY,r,⟨ob,e,c⟩,o2,e2,c2⟩:=x;exact⟨z,bY,r,⟨ob,U.5,c⟩,o2,k _ _ B.3 e2,c2⟩
 |dK eI=>obtain⟨z,y,vs,r,ob,es,ep,e,c⟩:=x;exact⟨z,y,vs,r,ob,es,ep,U.5,c⟩
 |dT eI=> obtain⟨z,y,xs,r,ob,es,ep,e,c⟩:=x;exact⟨z,y,xs,Paired.fV r λp q z=>⟨z.1,ht _ _ z.2.1,z.2.2⟩,ob,es,ep,U.5,c⟩
 |set S n=>obtain⟨ob,es,ep,t,e,c⟩:=x;exact⟨ob,es,ep,t,U.5,c⟩
 |ins C dx fs=> obtain⟨d,z,ne,e,mA,⟨od,es,ep,e2,c⟩,r⟩:=x;exact⟨ho _ d,z,ne,U.5,mA,⟨od,es,ep,k _ _ (.inr d) e2,c⟩,r⟩
 |own y=>obtain⟨ob,e⟩:=x;exact⟨ob,U.5⟩
 |xd fs=>obtain⟨mA,⟨od,es,ep,e,c⟩,r⟩:=x;exact⟨mA,⟨od,es,ep,U.5,c⟩,r⟩
 |rng lo hi=>obtain⟨t,u,v,e⟩:=x;exact⟨t,u,v,U.5⟩
 |N3 ob u ih=>obtain⟨e,q⟩:=x;exact⟨U.5,ih q⟩
 |tbl ps=> have e:(a,T.14).30:=x;show h'.get? a=some T.14;exact k a _ B.3 e
 |met f y=> have e:(a,PySem.W.methodObj (.ref f) (.ref y)).30:=x;show h'.get? a=some (PySem.W.methodObj (.ref f) (.ref y));exact k a _ B.3 e
 |ext φ=>obtain⟨p,⟨o,e⟩,st⟩:=x;exact⟨st _ _ p λo q=>k _ _ B.3 q,⟨o,U.5⟩,st⟩
theorem oV.lt(x:V.3)(e:o.72):a<h.objs.size:=(x a o e).lt
theorem oV.fresh(x:V.3)(e:h.objs.size<=a):a.21:=by
 cases q:H a with
 |none=>rfl
 |some u=>exact absurd (bD (x.lt q) e) (d7 _)
theorem oV.kept(x:V.3)(k: G.13):oV P w H h':=λa o e=>
 (x a o e).HX (λb u _ q=>k b u q) (λ_ q=>q) λ_ _ q=>q
theorem oV.laid(x:V.3)(k: G.13)(hp:h.objs.size<=a)(new:gX P w o.501 h' a o):oV P w o.501 h':=λb u e=>by
 have hn:=x.fresh hp;by_cases hb:b=a
 . subst hb;rw[aI] at e;cases e;exact new
 . rw[bF hb] at e;exact(x b u e).HX (λc v _ q=>k c v q) (λc q=>D.12) λc xs q=>D.12
end
def Rd(H:Hp)(a:Addr)(u:HO):Prop:=u.72\/∃o,(.N3 o u).72
theorem Rd.ok{P:Program}{w:World}{H:Hp}{h:Heap}{a:Addr}{u:HO}(r:Rd H a u)(x:V.3):u.576:=by
 rcases r with r|⟨o,r⟩
 . exact x a u r
 . obtain⟨_,q⟩:=x a _ r;exact q
def Mut:(Option HO).41
 |some (.lst _)=>True
 |some (.dK _)=>True
 |some (.dT _)=>True
 |some (.set _ _)=>True
 |some (.ins _ _ _)=>True
 |some (.ext _)=>True
 |_=>False
section
variable{P:Program}{w:World}{H:Hp}{h h':Heap}{x e:Addr}{o':HO}
theorem oV.write(ok:V.3)(mu:Mut (H x))(he:e=x\/(e,.own x).5)(k: ∀b u,b≠e->(h.get? b).67->h.4.67)(heo: ∃u,(h'.get? e).67)
 (new:gX P w (upd H x o') h' x o'):oV P w (upd H x o') h':=λb u q=>by
 have aN7:∀c y,(c,.own y).5->c≠x:=λc y r z=>(r,mu).133
 have aSQ:∀c xs,(c,a.4).5->c≠x:=λc xs r z=>(r,mu).133
 by_cases hb:b=x
 . subst hb;rw[aI] at q;cases q;exact new
 . rw[bF hb] at q;by_cases R0:b=e
   . have q':(.own x).45:=by
      rcases he with z|z
      . exact absurd (R0.trans z) hb
      . rw[R0];exact z
     rw[q] at q';cases q';obtain⟨v,hv⟩:=heo;exact⟨v,(R0,hv).3⟩
   . refine(ok b u q).HX (λc v hc r=>k c v ?_ r) (λc r=>(aN7 c b r,r).29) λc xs r=>(aSQ c xs r,r).29
     rcases hc with rfl|hc
     . exact R0
     . rintro rfl;rcases he with z|z
       . exact aN7 c b hc z
       . rw[hc] at z;cases z;exact hb rfl
end
structure Un(fs ex:i.3)(H H':Hp)(h h':Heap):Prop where
 keep: (b.52,b.21,b∉fs->b∉ex->h.4.23).15
 slot: (b.52,b.21,b∈fs->b∉ex->l.15).15
 free: ∀b o,b.52->b.21->b∉ex->(H' b).9
 there: (b.52,b∉ex,h.4.671).15
 HY: ∀b xs,(a.4,a.4).82
 J0: ∀b o u,(.N3 o u,.N3 o u).82
 N7: G.16
section
variable{fs fs' ex ex':i.3}{H H1 H2:Hp}{h h1 h2 h':Heap}{a x e:Addr}{o:HO}
theorem Un.any(u:Un fs ex H H1 h h1){b:Addr}{ob:Obj}(q:(b,ob).30)(n:b.21)(hx:b∉ex): ∃sl,h1.get? b=some {ob with slots:=sl}:=by
 by_cases hb:b∈fs
 . exact u.slot b ob q n hb hx
 . exact⟨ob.slots,u.keep b ob q n hb hx⟩
theorem Un.kept(k: G.13):Un fs ex H H h h':=
 ⟨λb ob q _ _ _=>k b ob q,λb ob q _ _ _=>⟨ob.slots,k b ob q⟩,λ_ _ _ n _=>n,λb ob q _=>⟨ob,k b ob q⟩,λ_ _ q=>q,λ_ _ _ q=>q,λ_ ps q=>⟨#[],q.89⟩⟩
theorem Un.refl:Un fs ex H H h h:=Un.kept λ_ _ q=>q
theorem Un.laid(k: G.13)(hp:h.objs.size<=a)(hn:a.21):Un fs ex H o.501 h h' where
 keep:=λb u q _ _ _=>k b u q
 slot:=λb u q _ _ _=>⟨u.slots,k b u q⟩
 free:=λb u q n _=>(bS (bD (aZ q) hp),n).29
 there:=λb u q _=>⟨u,k b u q⟩
 HY:=λb xs q=>D.12
 J0:=λb u xs q=>D.12
 N7:=λb ps q=>⟨#[],by rw[bF (aY q hn),q];simp⟩
theorem Un.write(mu:Mut (H x))(he:e=x\/(e,.own x).5)(k: ∀b u,b≠e->(h.get? b).67->h.4.67)(heo: ∃u,(h'.get? e).67):Un fs ex H (upd H x o) h h':=by
 have hx:∀b,b.21->b≠x:=λb n z=>(n,mu).133
 have hb: ∀b,b.21->b≠e:=λb n z=>by
  subst z;rcases he with r|r
  . exact hx b n r
  . rw[n] at r;cases r
 have hm:∀b u,u.45->¬Mut (some u)->b≠x:=λb u q nm z=>(q,nm mu).133
 refine⟨λb u q n _ _=>k b u (hb b n) q,λb u q n _ _=>⟨u.slots,k b u (hb b n) q⟩,λb u q n _=>(hx b n,n).29,λb u q _=>?_,
  λb xs q=>(hm b _ q λz=>z,q).29,λb u xs q=>(hm b _ q λz=>z,q).29,λb ps q=>⟨#[],by rw[bF (hm b _ q λz=>z),q];simp⟩⟩
 by_cases R0:b=e
 . subst R0;exact heo
 . exact⟨u,k b u R0 q⟩
end
def trk(h:Heap)(H:Hp):i.3:=(List.range h.objs.size).filter λa=>(H a).isSome
def N8(h:Heap)(H:Hp):Heap:=PySem.W.hideAll h (trk h H)
theorem aCY(h:Heap)(H:Hp):(N8 h H).objs.size=h.objs.size:=PySem.W.hideAll_size _ _
theorem aEQ{h:Heap}{H:Hp}{b:Addr}{o:Obj}(e:b.52)(n:b.21):((N8 h H).get? b).23:=
 PySem.W.hideAll_get _ e λhm=>by have q:(H b).563:=(bW.mp hm).2;rw[n] at q;simp at q
theorem aHE{h:Heap}{H:Hp}{b:Addr}{o:Obj}(e:((N8 h H).get? b).23):b.52/\b.21:=by
 have e':b.52:=PySem.W.of_hideAll (trk h H) e;refine e'.71
 cases q:H b with
 |none=>rfl
 |some x=> have hm:b∈trk h H:=bW.mpr ⟨List.mem_range.mpr (aZ e'),q.24⟩;have z:((N8 h H).get? b).9:=PySem.W.hideAll_none (trk h H) hm;rw[z] at e;cases e
end L2
namespace L2
open PySem PySem.Spec PyProof.Rows
structure Mod(K:PySem.W.Frag)(mg:k.3)(base:Heap):Prop where
 kin:K.In base
 glob:base.Ns mainGlobals mg
 blt: ∃mb,base.Ns builtinsNs mb/\∀x:Str,x≠"__name__"->mb x=bootBuiltins x
 nolimit:base.NoLimit
structure Cx where
 prog:Program
 w:World
 K:PySem.W.Frag
 mg:k.3
 base:Heap
 A:Around
 N:x.3
 JE:Shared
 H_0:Hp
 env:Env
 outer:j.4
 stack:j.4
 ex:i.3
 fn:Str->Bool
 calm:Bool
 pn:j.3
 xe:l.3
def rR(l:j.4):i.3:=l.filterMap (·.frame)
abbrev Cx.fs(X:Cx):i.3:=rR X.outer
def Vis(sc:Scope)(x:Str):Prop:=I.10.583\/I.10.562\/I.10.556
def Loc(sc:Scope)(x:Str):Prop:=I.10.583\/I.10.562
def Look(env:Env)(h:Heap)(m:k.3)(x:Str)(u:Value):Prop:=
 ((env.kindOf x).583/\(m x).67)\/(((env.kindOf x).562\/(env.kindOf x).556)/\∃c,env.cells.lookup x=some c/\h.IsCell c (some u))
structure Cx.Ok(X:Cx):Prop where
 mod:Mod X.K X.mg X.base
 kind:X.env.scope.kind= .function
 glob:X.env.globals=mainGlobals
 blt:X.env.builtins=builtinsNs
 above:X.env.locals.634
 inj: ∀x y c,x.616->y.616->x=y
 has: ∀x,((X.env.kindOf x).562\/(X.env.kindOf x).556)->∃c,x.616
 cab: ∀x c,(X.fn x).7->x.616->c.634
 hd:P.3->X.A.handled.9
 frames:X.A.frames=some X.stack
 stk:X.stack=X.outer\/(X.stack=X.env::X.outer/\Y.14)
 exf: ∀b∈X.ex,k.12/\(c≠b).635
 bs: ((X.JE.heap.get? b).23/\(X.H_0 b).9).734
 Y9:X.base.objs.size<=X.JE.heap.objs.size
 U9: (b∉X.ex).734
 VA: ∀b∈X.ex,b∉X.fs
 w8:X.JE.heap.FunFrames X.base X.outer
 frf: ∀b∈X.fs,(X.H_0 b).9
structure Inv(X:Cx)(pins:j.3)(σ:List N.4)(H:Hp)(s:Shared):Prop where
 ok:X.Ok
 os:s.os=X.JE.os
 bare:AllBare s.gens
 base:Un X.fs X.ex X.H_0 H X.JE.heap s.heap
 loc: ∃m,s.heap.Ns X.env.locals m/\∀(i:Nat) (x:Str) (v:V),(X.N,x).4->(σ,some v).4->x.684->∃u,v.46/\Look X.env s.heap m x u
 cell: (∃v,s.heap.IsCell c v).635
 free:X.env.locals.21
 o4: c.21.635
 pin: ∀p∈X.pn++pins,q.16
 cZ:(H,s.heap).73
 len:σ.length=X.N.length
section
variable{X:Cx}{pins:j.3}{σ:List N.4}{H H':Hp}{s:Shared}{h':Heap}
theorem Cx.Ok.aSR(ok:X.Ok){b:Addr}{o:Obj}(e:(X.base.get? b).23):b∉X.fs:=λhb=>by have:=(ok.w8.mem hb).1;rw[e] at this;cases this
theorem Inv.bs(I:g.3): (b.70/\b.21).734:=λb o e=>
 ⟨I.base.keep b o (I.ok.bs b o e).1 (I.ok.bs b o e).2 (I.ok.aSR e) (I.ok.U9 b o e),I.base.free b o (I.ok.bs b o e).1 (I.ok.bs b o e).2 (I.ok.U9 b o e)⟩
theorem Inv.bk(I:g.3): b.70.734:=λb o e=>(I.bs b o e).1
theorem Inv.mod(I:g.3):Mod X.K X.mg X.base:=I.ok.mod
theorem Inv.R1(I:g.3):X.K.In s.heap:=I.ok.mod.kin.keeps I.bk
theorem Inv.nolimit(I:g.3):s.heap.NoLimit:=I.ok.mod.nolimit.keeps I.bk
theorem Inv.fr(I:g.3): ∃m,Fr X.base X.env.locals s.heap m:=
 let ⟨m,hn,_⟩:=I.loc
 ⟨m,hn,I.bk,aG I.ok.Y9 I.ok.above⟩
theorem Inv.lt(I:g.3):X.env.locals.506:=let ⟨_,hn,_⟩:=I.loc;hn.lt
theorem Inv.sz(I:g.3):s.heap.objs.size.634:=aG I.ok.above (kH I.lt)
theorem Inv.aSS(I:g.3){a:Addr}(h:s.heap.objs.size<=a):a∉X.fs:=λhb=>by obtain⟨_,o,ho,_⟩:=I.ok.w8.mem hb;exact absurd (bD (aZ ho) (aG I.sz h)) (d7 _)
theorem Inv.cne(I:g.3): (c≠X.env.locals).635:=λx c e z=>by obtain⟨v,o,ho,hd⟩:=I.cell x c e;obtain⟨m,⟨o',es,ep,JF,VB,_⟩,_⟩:=I.loc;rw[z,JF] at ho;cases ho;rw[VB] at hd;cases hd
theorem Inv.w8(I:g.3):s.heap.FunFrames X.base X.outer:=by
 have all: ∀(l:j.4),(∀b∈rR l,b∈X.fs)->X.JE.heap.FunFrames X.base l->s.heap.FunFrames X.base l:=by
  intro l
  induction l with
  |nil=>intro _ _;trivial
  |cons env r ih=> intro hs hl;obtain⟨hk,⟨L,o,hf,hn,ho,hd⟩,hr⟩:=hl;have hL:L∈X.fs:=hs L (by unfold rR;rw[eS,hf];exact cI);obtain⟨sl,e⟩:=I.base.slot L o ho (I.ok.frf L hL) hL λz=>I.ok.VA L z hL;exact⟨hk,⟨L,_,hf,hn,e,hd⟩,ih (λb hb=>hs b (by unfold rR;rw[eS,hf];exact bG _ hb)) hr⟩
 exact all X.outer (λ_ hb=>hb) I.ok.w8
theorem Inv.stack(I:g.3):s.heap.FunFrames X.base X.stack:=by
 rcases I.ok.stk with e|⟨e,hf⟩
 . rw[e];exact I.w8
 . rw[e];obtain⟨m,hn,_⟩:=I.loc;refine .cons (by rw[I.ok.kind];decide) hf hn ?_ I.w8;exact Heap.get?_none_of_le (aG I.ok.Y9 I.ok.above)
theorem Inv.ZA(I:g.3): ∀b∈i.10,b∈X.env.locals::X.fs:=λb hb=>by
 rcases I.ok.stk with e|⟨e,hf⟩
 . rw[e] at hb;exact bG _ hb
 . rw[e] at hb;unfold rR at hb;rw[eS,hf] at hb;exact hb
theorem Inv.R3(I:g.3): ∀b∈i.10,b.21:=λb hb=>by
 rcases List.mem_cons.mp (I.ZA b hb) with e|hb
 . rw[e];exact I.free
 . obtain⟨_,o,ho,_⟩:=I.ok.w8.mem hb;exact I.base.free b o ho (I.ok.frf b hb) λz=>I.ok.VA b z hb
theorem Inv.step{g':Array GenState}{t':Nat}{d':Drawn}{ch:i.3}(I:g.3)
 (hch: t.15)
 (keep: (k.12,b∉X.fs,b∉ch->b.70->b.21->h.4.23).15)
 (slot: (k.12,b∈X.fs,b∉ch->b.70->b.21->l.15).15) (free: ∀b o,b∉ch->b.70->b.21->(H' b).9)
 (there: (b∉ch,b.70,h.4.671).15)
 (HY: ∀b xs,(a.4,a.4).82) (J0: ∀b o u,(.N3 o u,.N3 o u).82) (N7: G.16)
 (ns: ∀m,s.heap.Ns X.env.locals m->h'.Ns X.env.locals m) (cZ:(H',h').73) (hg:AllBare g'):
 (H',{s with heap:=h',gens:=g',drawn:=d',toks:=t'}).19:=by
 have neL:∀b o,(X.JE.heap.get? b).23->k.12:=λb o e=>bS (bD (aZ e) I.ok.above);have neC: ((X.JE.heap.get? b).23,b∉X.ex,b∉ch).15:=λb o e hx hb=>by
  rcases (hch b hb).1 with z|z
  . exact hx z
  . exact absurd (bD (aZ e) z) (d7 _)
 have cellK: (∀v,s.heap.IsCell c v->h'.IsCell c v).635:=λx c e v ⟨o,ho,hd⟩=>by
  have nch:c∉ch:=λz=>(hch c z).2.2.1 x c e rfl;by_cases hc:c∈X.fs
  . obtain⟨sl,q⟩:=slot c o (I.cne x c e) hc nch ho (I.o4 x c e);exact⟨_,q,hd⟩
  . exact⟨o,keep c o (I.cne x c e) hc nch ho (I.o4 x c e),hd⟩
 refine⟨I.ok,I.os,hg,⟨λb o e n hb hx=>?_,λb o e n hb hx=>?_,λb o e n hx=>?_,λb o e hx=>?_,λb xs e=>HY b xs (I.base.HY b xs e),λb o xs e=>J0 b o xs (I.base.J0 b o xs e),λb ps e=>?_⟩,?_,λx c e=>?_,?_,λx c e=>?_,M.5,cZ,I.len⟩
 . exact keep b o (neL b o e) hb (neC b o e hx) hx.726 (I.base.free b o e n hx)
 . obtain⟨sl,e1⟩:=I.base.slot b o e n hb hx;obtain⟨sl',e2⟩:=slot b _ (neL b o e) hb (neC b o e hx) e1 (I.base.free b o e n hx);exact⟨sl',e2⟩
 . obtain⟨o',e1⟩:=hx.702;exact free b o' (neC b o e hx) e1 (I.base.free b o e n hx)
 . obtain⟨o',e1⟩:=hx.702;exact there b o' (neC b o e hx) e1
 . obtain⟨m1,e1⟩:=I.base.N7 b ps e;obtain⟨m2,e2⟩:=N7 b _ e1;exact⟨m1++m2,(e2,Array.append_assoc).7⟩
 . obtain⟨m,hn,hl⟩:=I.loc;refine⟨m,ns m hn,λi x v e1 e2 e3=>?_⟩;obtain⟨u,r,l⟩:=hl i x v e1 e2 e3;refine⟨u,r,?_⟩;rcases l with l|⟨k,c,e,z⟩
   . exact .inl l
   . exact .inr ⟨k,c,e,cellK x c e _ z⟩
 . obtain⟨v,z⟩:=I.cell x c e;exact⟨v,cellK x c e v z⟩
 . obtain⟨m,⟨o,_,_,ho,_⟩,_⟩:=I.loc;exact free _ o (λz=>(hch _ z).2.1 rfl) ho I.free
 . obtain⟨v,o,ho,hd⟩:=I.cell x c e;exact free c o (λz=>(hch c z).2.2.1 x c e rfl) ho (I.o4 x c e)
 . obtain⟨e,n,ne,nf,d⟩:=I.pin p hp;have nch:p.1∉ch:=λz=>(hch p.1 z).2.2.2 p hp rfl;exact⟨keep p.1 p.2 ne nf nch e n,free p.1 p.2 nch e n,ne,nf,d⟩
theorem Inv.un{t':Nat}(I:g.3)(u:Un X.fs [] H H' s.heap h')(cZ:(H',h').73):(H',{s with heap:=h',toks:=t'}).19:=(u.any ho I.free c.3,I.step (g':=s.gens) (d':=s.drawn) (ch:=[]) U.3 (λb o _ hb _ e n=>u.keep b o e n hb c.3) (λb o _ hb _ e n=>u.slot b o e n hb c.3) (λb o _ e n=>u.free b o e n c.3) (λb o _ e=>u.there b o e c.3) u.HY u.J0 u.N7 h.16 cZ I.bare).145
theorem Inv.call{g':Array GenState}{t':Nat}{d':Drawn}{ch:i.3}(I:g.3)(u:Un i.10 ch H H' s.heap h')(cZ:(H',h').73)(hg:AllBare g')
 (hch: t.15):
 (H',{s with heap:=h',gens:=g',drawn:=d',toks:=t'}).19:=(u.any ho I.free λz=>(hch _ z).2.1 rfl,I.step (ch:=ch) hch (λb o hL hb hc e n=>u.keep b o e n (λz=>(List.mem_cons.mp (I.ZA b z)).elim hL hb) hc) (λb o _ _ hc e n=>u.any e n hc) (λb o hc e n=>u.free b o e n hc) (λb o hc e=>u.there b o e hc) u.HY u.J0 u.N7 h.16 cZ hg).145
theorem Inv.turned{t':Nat}{it:Addr}(I:g.3)(k: (b≠it).655)(hn:it.21)(hL:it≠X.env.locals)
 (h1:it∈X.ex\/it.634) (h2: (c≠it).635) (h3: ∀p∈X.pn++pins,p.1≠it):T.15:=by
 have nit:∀b u,u.45->b≠it:=λb u e z=>by rw[z,hn] at e;cases e
 refine I.step (g':=s.gens) (d':=s.drawn) (ch:=[it]) (q.5) (k b o (λz=>hc z.24) e).680 (⟨o.slots,k b o (λz=>hc z.24) e⟩).680 (λ_ _ _ _ n=>n)
  (k b o (λz=>hc z.24) e).742 (λ_ _ e=>e) (λ_ _ _ e=>e) (λb ps e=>⟨#[],by rw[e];simp⟩) (λm hm=>?_) (λb u e=>?_) I.bare
 . have e:b=it:=c.10
   subst e;exact⟨h1,hL,h2,h3⟩
 . obtain⟨o,es,ep,ho,r⟩:=hm;exact⟨o,es,ep,k _ o (Ne.symm hL) ho,r⟩
 . refine(k c v ?_ q,λ_ q=>q,λ_ _ q=>q).40;rcases hc with z|z
   . rw[z];exact nit b u e
   . exact nit c _ z
theorem Inv.tok(I:g.3)(t:Nat):(H,{s with toks:=t}).19:=I.un (h':=s.heap) (t':=t) Un.refl I.cZ
theorem Inv.kept{t':Nat}(I:g.3)(k: H.13):T.15:=I.un (Un.kept k) (I.cZ.kept k)
theorem Inv.laid{a:Addr}{o:HO}{t':Nat}(I:g.3)(k: H.13)(hp:s.heap.objs.size<=a)(new:gX X.prog X.w o.501 h' a o):
 o.501.769:=I.un (Un.laid k hp (I.cZ.fresh hp)) (I.cZ.laid k hp new)
theorem Inv.write{x e:Addr}{o:HO}{t':Nat}(I:g.3)(mu:Mut (H x))(he:e=x\/(e,.own x).5)(k: ∀b u,b≠e->(s.heap.get? b).67->h.4.67)(heo: ∃u,(h'.get? e).67)
 (new:gX X.prog X.w (upd H x o) h' x o):(upd H x o).769:=I.un (Un.write mu he k heo) (I.cZ.write mu he k heo new)
theorem Inv.weak{σ':List N.4}(I:g.3)(hl:σ'.length=σ.length)(w: ∀(i:Nat) v,(σ',some v).4->(σ,some v).4):Inv X pins σ' H s:=
 ⟨I.ok,I.os,I.bare,I.base,let ⟨m,hn,hl'⟩:=I.loc;⟨m,hn,λi x v e1 e2 e3=>hl' i x v e1 (w i v e2) e3⟩,I.cell,I.free,I.o4,I.pin,I.cZ,hl.trans I.len⟩
theorem Inv.aBC{aJH:j.3}(I:g.3)(h: ∀p∈aJH,q.16):Inv X aJH σ H s:=
 ⟨I.ok,I.os,I.bare,I.base,I.loc,I.cell,I.free,I.o4,λp hp=>(R.12).elim (λz=>I.pin p (iF _ z)) (h p),I.cZ,I.len⟩
theorem J1{N:x.3}(hN:N.Nodup){i j:Nat}{x:Str}(a:(N,x).4)(b:(N,j,x).4):i=j:=by obtain⟨h1,e1⟩:=List.getElem?_eq_some_iff.mp a;obtain⟨h2,e2⟩:=List.getElem?_eq_some_iff.mp b;exact(ET hN).mp (e1.trans e2.symm)
theorem O7{M:Model}{A:Around}{E:l.3}{i:Nat}{x:Str}{v:V}{u:Value}{Q:Unit.49}(I:g.3)(hN:X.N.Nodup)(hi:(X.N,x).4)(hx:q.13)(r:v.46)
 (h: ∀s',Inv X pins (σ.set i (some v)) H s'->(∃a,Heap.SameBut a s.heap s'.heap/\(a=X.env.locals\/X.env.cells.lookup x=some a))->Q () s') (hf:w.13:=by first|exact B.3|exact .inr rfl|assumption):wpAny M A (storeName X.env x u) Q E s:=by
 obtain⟨m,hn,hl⟩:=id I.loc;have aSU:((X.env.scope.kind== .class||(X.env.scope.kind== .module&&X.env.locals !=X.env.globals))).25:=I.ok.kind.508
 have aN9:i<σ.length:=(I.len,hi.535).3
 have cne:=I.cne;have tracked: ∀{a:Addr} {h':Heap},(∃o,a.70/\a.21)->a.669->(H,h').73:=λ{a h'} ha hs b ob e=>by
  obtain⟨_,_,wH⟩:=ha;refine(I.cZ b ob e).HX (λc w' hc q=>(hs.2 c ?_).trans q) (λ_ q=>q) λ_ _ q=>q;rintro rfl;rcases hc with rfl|hc
  . rw[wH] at e;cases e
  . rw[wH] at hc;cases hc
 rcases hx with hk|hk
 . refine wpAny_storeName_local hk hn (λh' hn' hs=>?_) aSU;obtain⟨oL,_,_,hoL,_⟩:=id hn;refine h _ ⟨I.ok,I.os,I.bare,e.16,(hn',λj y v' e1 e2 e3=>?_).27,λy c e=>?_,I.free,I.o4,M.5,tracked ⟨oL,hoL,I.free⟩ hs,by simpa using I.len⟩ (hs,B.3).27
   . exact(I.ok.above,hx.726).108
   . obtain⟨sl,e1⟩:=I.base.slot b o e n hb hx;exact⟨sl,(I.ok.above,e1).108⟩
   . obtain⟨o',e1⟩:=hx.702;exact⟨o',(I.ok.above,e1).108⟩
   . by_cases hj:j=i
     . subst hj;rw[hi] at e1;cases e1;rw[rM aN9] at e2;cases e2;exact⟨u,r,(hk,c.3).51⟩
     . rw[kF (Ne.symm hj)] at e2;obtain⟨u',r',q⟩:=hl j y v' e1 e2 e3;refine⟨u',r',?_⟩;rcases q with⟨k,e⟩|⟨k,c,e,z⟩
       . refine .inl k.71;have:y≠x:=λe=>hj (J1 hN e1 (e▸hi));simp[this,e]
       . exact .inr ⟨k,c,e,z.sameBut hs (cne y c e)⟩
   . obtain⟨w',z⟩:=I.cell y c e;exact⟨w',z.sameBut hs (cne y c e)⟩
   . obtain⟨e,n,ne,nf,d⟩:=I.pin p hp;exact⟨(hs.2 p.1 ne).trans e,n,ne,nf,d⟩
 . have hfn:(X.fn x).7:=by
    rcases hf with z|z
    . exact z
    . rw[z] at hk;cases hk
   obtain⟨c,hc⟩:=I.ok.has x (.inl hk);obtain⟨w',z⟩:=I.cell x c hc;refine wpAny_storeName_cell I.ok.kind hk hc z (λh' CA hs=>?_);obtain⟨oc,hoc,aSV⟩:=id z;refine h {s with heap:=h'} ⟨I.ok,I.os,I.bare,e.16,⟨m,hn.sameBut hs (Ne.symm (cne x c hc)),λj y v' e1 e2 e3=>?_⟩,λy c' e=>?_,I.free,I.o4,M.5,tracked ⟨oc,hoc,I.o4 x c hc⟩ hs,by simpa using I.len⟩ ⟨c,hs,.inr hc⟩
   . exact(I.ok.cab x c hfn hc,hx.726).108
   . obtain⟨sl,e1⟩:=I.base.slot b o e n hb hx;exact⟨sl,(I.ok.cab x c hfn hc,e1).108⟩
   . obtain⟨o',e1⟩:=hx.702;exact⟨o',(I.ok.cab x c hfn hc,e1).108⟩
   . by_cases hj:j=i
     . subst hj;rw[hi] at e1;cases e1;rw[rM aN9] at e2;cases e2;exact⟨u,r,.inr ⟨.inl hk,c,hc,CA⟩⟩
     . rw[kF (Ne.symm hj)] at e2;obtain⟨u',r',q⟩:=hl j y v' e1 e2 e3;refine⟨u',r',?_⟩;rcases q with q|⟨k,c',e,z'⟩
       . exact .inl q
       . refine .inr ⟨k,c',e,z'.sameBut hs ?_⟩;rintro rfl;exact hj (J1 hN e1 (I.ok.inj _ _ _ e hc▸hi))
   . by_cases hcc:c'=c
     . subst hcc;exact⟨_,CA⟩
     . obtain⟨w2,z2⟩:=I.cell y c' e;exact⟨w2,z2.sameBut hs hcc⟩
   . obtain⟨e,n,ne,nf,d⟩:=I.pin p hp;refine⟨(hs.2 p.1 ?_).trans e,n,ne,nf,d⟩;intro q;rw[q,hoc] at e;have q':oc=p.2:=aM e;exact d w' (q',aSV).15
theorem J2{M:Model}{A:Around}{E:l.3}{i:Nat}{x:Str}{v:V}{u:Value}{Q:Unit.49}(I:g.3)(hN:X.N.Nodup)(hi:(X.N,x).4)(hx:q.13)(r:v.46)
 (h: ∀s',Inv X pins (σ.set i (some v)) H s'->Q () s') (hf:w.13:=by first|exact B.3|exact .inr rfl|assumption):wpAny M A (storeName X.env x u) Q E s:=
 O7 I hN hi hx r (λs' I' _=>h s' I') hf
theorem Inv.aER{s':Shared}{ch:i.3}(I:g.3)(ho:s'.os=s.os)(u:Un i.10 ch H H' s.heap s'.heap)(cZ:(H',s'.heap).73)(hg:AllBare s'.gens)
 (hch: t.15):T.5:=by obtain⟨h',g',d',t',o'⟩:=s';have e:o'=s.os:=ho;subst e;exact I.call (g':=g') (t':=t') (d':=d') u cZ hg hch
end
abbrev XK:=Value->M.4->Hp->Prop
abbrev St:=List N.4
abbrev VK:=V.53
abbrev TE:=St.649
abbrev TT:=St->Hp->(Bool.53)->Prop
abbrev TA:=St->Hp->(e.3.53)->Prop
structure Ends where
 nx:St.53
 rt:VK
 bk:St.53:=X.4
 ct:St.53:=X.4
abbrev TS:=Ends->St->Hp->Prop
def EP(X:Cx)(pins:j.3)(σ:St)(Q:VK)(u:Value)(s':Shared):Prop:=∃v H',T.5/\v.46/\Q v H'
def TP(X:Cx)(pins:j.3)(σ:St)(Q:Bool.53)(b:Bool)(s':Shared):Prop:=∃H',T.5/\Q b H'
def AP(X:Cx)(pins:j.3)(σ:St)(Q:e.3.53)(us:h.3)(s':Shared):Prop:=∃vs H',T.5/\vs.69/\Q vs H'
def SP(X:Cx)(pins:j.3)(D:Ends)(f:Flow)(s':Shared):Prop:=
 match f with
 | .next=>(D.nx σ' H').685
 | .brk=>(D.bk σ' H').685
 | .cont=>(D.ct σ' H').685
 | .ret u=>∃v σ' H',Inv X pins σ' H' s'/\v.46/\D.rt v H'
def PE(X:Cx)(e:Expr)(t:TE):Prop:=
 ∀(pins:j.3) (s:Shared) (σ:St) (H:Hp) (Q:VK),g.3->t σ H Q->e.58.591
def PT(X:Cx)(e:Expr)(t:TT):Prop:=
 ∀(pins:j.3) (s:Shared) (σ:St) (H:Hp) (Q:Bool.53),g.3->t σ H Q->(isTrue e X.env e.58,TP X pins σ Q).53
def PW(X:Cx)(e:Expr)(t:TT):Prop:=
 ∀(whole:Sem Value) (pins:j.3) (s:Shared) (σ:St) (H:Hp) (Q:Bool.53),g.3->t σ H Q->(isTrue e X.env whole,TP X pins σ Q).53
theorem PW.pt{X:Cx}{e:Expr}{t:TT}(h:PW X e t):PT X e t:=h _
def PA(X:Cx)(es:X.3)(t:TA):Prop:=
 (spliced es.581,AP X pins σ Q).53.829
def PS(X:Cx)(st:Stmt)(t:TS):Prop:=
 (exec st X.env).841
def YV(X:Cx)(st:List Stmt)(t:TS):Prop:=
 (execs st X.env).841
theorem iA{α:Type}{t:Sem α}{Q Q':α.49}{M:Model}{A:Around}{E:l.3}{s:Shared}(h:wpAny M A t Q E s)(hQ: ∀a s,Q a s->Q' a s):wpAny M A t Q' E s:=fS h hQ λ_ _ x=>x
end L2
namespace L2
open PySem PySem.Spec PyProof.Rows
section
variable{X:Cx}
theorem bin{a b:Expr}{ta tb:TE}(ha:a.98)(hb:PE X b tb){pins:j.3}{s:Shared}{σ:St}{H:Hp}{R:V->V->Hp->Prop}(I:g.3)(h:ta σ H λx H1=>tb σ H1 λy H2=>R x y H2)
 {α:Type} {Q:α.49} {f:Value->Value->Sem α}
 (hf: o.16):
 (f v u,Q,s₂).28.800:=(hf v u s2 x y H2 I2 r1 r2 q2).838
def aOb(i:Nat):TE:=λσ H Q=>∃v,(σ,some v).4/\Q v H
def tC(v:V):TE:=λ_ H Q=>Q v H
theorem aES{i:Nat}{x:Str}{pos:Pos}(hN:(X.N,x).4)(hv:x.684)(hd:F.4:=by decide)(ZC:P.14:=by decide):PE X pos.551 (aOb i):=by
 intro pins s σ H Q I h;obtain⟨v,e,h⟩:=h;obtain⟨m,hn,hl⟩:=I.loc;obtain⟨u,r,l⟩:=hl i x v hN e hv;have fin:(u,s).87:=⟨v,H,I,r,h⟩;rcases l with⟨hk,hm⟩|⟨hk,c,hc,J3⟩
 . exact wpAny_Name (wpAny_loadName_local I.ok.kind hk hn hm fin) hd
 . rcases hk with hk|hk
   . exact wpAny_Name (wpAny_loadName_cell I.ok.kind hk hc J3 fin) hd
   . exact wpAny_Name (wpAny_loadName_free I.ok.kind hk hc J3 fin ZC) hd
theorem bC{i j pos}:PE X (.Constant (.int i) j pos) (tC (.int i)):=λ_ _ _ H _ I h=>wpAny_Constant_int ⟨.int i,H,I.tok _,rfl.20,h⟩
theorem CF{b j pos}:PE X (.Constant (.bool b) j pos) (tC (.bl b)):=λ_ _ _ H _ I h=>Constant_bool (b,I,h).27
theorem w9{j pos}:PE X (.Constant .none j pos) (tC .gL):=λ_ _ _ H _ I h=>Constant_none ⟨.gL,H,I,rfl,h⟩
def Gl(X:Cx)(x:Str):Prop:=X.env.kindOf x=some .globalImplicit
theorem zK{E:l.3}{pins:j.3}{s:Shared}{σ:St}{H:Hp}{x:Str}{u:Value}{pos:Pos}{Q:l.3}(I:g.3)(hg:Gl X x)(hm:(X.mg x).67)(h:Q u s)
 (hd:F.4:=by decide):pos.551.58.674:=
 Calls.Name_function_global I.ok.kind hg (Calls.loadGlobal_global (I.ok.glob,D.14).3 hm h) hd
theorem xA{E:l.3}{pins:j.3}{s:Shared}{σ:St}{H:Hp}{x:Str}{u:Value}{pos:Pos}{Q:l.3}(I:g.3)(hg:Gl X x)(hm:(X.mg x).9)(hv:(bootBuiltins x).67)(h:Q u s)
 (hn:x≠"__name__":=by decide) (hd:F.4:=by decide):pos.551.58.674:=by obtain⟨mb,h1,h2⟩:=I.mod.blt;exact Calls.Name_function_global I.ok.kind hg (Calls.loadGlobal_builtin (I.ok.glob,D.14).3 hm (I.ok.blt,h1.keeps I.bk).3 ((h2 x hn).trans hv) h) hd
theorem aBE{x:Str}{v:V}{u:Value}{pos:Pos}(hg:Gl X x)(hm:(X.mg x).67)(r:v.46)(hd:F.4:=by decide):PE X pos.551 (tC v):=
 λ_ _ _ H _ I h=>zK I hg hm ⟨v,H,I,r,h⟩ hd
variable{a b:Expr}{ta tb:TE}{pos:Pos}
def PC(X:Cx)(op:CmpOp)(a b:Expr)(t:TE):Prop:=
 ∀(pins:j.3) (s:Shared) (σ:St) (H:Hp) (Q:VK),g.3->t σ H Q->
  (compareOp op v u,EP X pins σ Q,s₂).28.800
theorem aET(b:Expr){op:CmpOp}(h:op≠.In)(h2:op≠.NotIn):s.13:=by
 have e1:((op==CmpOp.In)).25:=h.748
 have e2:((op==CmpOp.NotIn)).25:=h2.748
 cases b<;>simp[behindInMarks,e1,e2]
def aSW(ta:TE):TE:=(Q (.bl (x,.gL).11) H1).668
theorem RelV.aEU{x:V}{v:Value}(r:RelV x v):(v==Value.none)=(x,.gL).11:=by
 cases x with
 |gL=>cases r;rfl
 |bl _=>cases r;rfl
 |int _=>obtain⟨t,rfl⟩:=r;rfl
 |str _=>obtain⟨t,rfl⟩:=r;rfl
 |O6 _=>obtain⟨t,rfl⟩:=r;rfl
 |flt _=>obtain⟨t,rfl⟩:=r;rfl
 |ref _=>cases r;rfl
 |ty _=>cases r;rfl
theorem aKS{j pos'}(ha:a.98):PC X .Is a (.Constant .none j pos') (aSW ta):=(iA (_).543 Y.10,Constant_none (is_none_gen ⟨.bl _,H1,I1,r1.aEU.508,q1⟩)).134
def tB(t:TE):TT:=(λx H1=>∃c,x= .bl c/\Q c H1).586
theorem aKT{op:CmpOp}{t:TE}(h:PC X op a b t)(h1:s.13:=by first|exact aET _ r.3 r.3|rfl):PT X (.Compare a [op] [b] pos) (tB t):=(wpAny_isTrue_Compare1 (iA (_).717 λv s1 h1=>iA h1 λu s2 h2=>iA h2 λc s3 ⟨x,H1,I1,r1,q1⟩=>?_) h1).808
theorem tM{e:Expr}{t:TE}(h:PE X e t)(he: ∀whole,isTrue e X.env whole=(do let v<-whole;standAt e.pos;holding [v] (truthy v)):=by intro _;rfl):PT X e (tB t):=(isTrue_plain (iA (_).717 Y.10) (he _)).808
variable{tA tB':TT}{rest:X.3}
def aSX(t u:TT):TT:=(λc H1=>(c,u σ H1 Q,Q false H1).8).586
def tOr(t u:TT):TT:=(λc H1=>(c,Q true H1,u σ H1 Q).8).586
def aSY(t:TT):TT:=(λc H1=>Q (!c) H1).586
theorem R4(ha:PT X a tA):PW X (.And,[a]).67 tA:=by
 intro wh pins s σ H Q I h;refine isTrue_and (iA Q.543 λc s1 e=>?_)
 cases c with
 |true=>exact isTrue_and_nil e
 |false=>exact e
theorem aKU(ha:PT X a tA):PW X (.Or,[a]).67 tA:=by
 intro wh pins s σ H Q I h;refine isTrue_or (iA Q.543 λc s1 e=>?_)
 cases c with
 |false=>exact isTrue_or_nil e
 |true=>exact e
theorem ZD(ha:PT X a tA)(hb:PW X (.And,b::rest).67 tB'):PW X (.And,a::b::rest).67 (aSX tA tB'):=by
 intro wh pins s σ H Q I h;refine isTrue_and (iA (_).543 λc s1 ⟨H1,I1,q1⟩=>?_)
 cases c with
 |true=>exact hb wh pins s1 σ H1 Q I1 q1
 |false=>exact⟨H1,I1,q1⟩
theorem aEV(ha:PT X a tA)(hb:PW X (.Or,b::rest).67 tB'):PW X (.Or,a::b::rest).67 (tOr tA tB'):=by
 intro wh pins s σ H Q I h;refine isTrue_or (iA (_).543 λc s1 ⟨H1,I1,q1⟩=>?_)
 cases c with
 |true=>exact⟨H1,I1,q1⟩
 |false=>exact hb wh pins s1 σ H1 Q I1 q1
theorem E3(ha:PT X a tA):PT X (.UnaryOp .Not a pos) (aSY tA):=(isTrue_not (λc H1=>Q (!c) H1).543).690
def aOc(ta tb:TE):TE:=(∃c,x= .bl c/\(c,tb σ H1 Q,Q (.bl false) H1).8).668
def aSZ(ta tb:TE):TE:=(∃c,x= .bl c/\(c,Q (.bl true) H1,tb σ H1 Q).8).668
theorem E4{op}{t:TE}(h:PE X a t):PE X (op,[a]).67 t:=λpins s σ H Q I hw=>BoolOp_one Q.717
theorem J4(ha:a.98)(hb:PE X (.And,b::rest).67 tb):PE X (.And,a::b::rest).67 (aOc ta tb):=by
 intro pins s σ H Q I h;refine BoolOp_and (iA (_).543 Y.10);obtain⟨c,rfl,q1⟩:=q1;cases r1;refine fU ?_
 cases c with
 |true=>exact Q.657
 |false=>exact⟨.bl false,H1,I1,rfl,q1⟩
theorem aOd(ha:a.98)(hb:PE X (.Or,b::rest).67 tb):PE X (.Or,a::b::rest).67 (aSZ ta tb):=by
 intro pins s σ H Q I h;refine BoolOp_or (iA (_).543 Y.10);obtain⟨c,rfl,q1⟩:=q1;cases r1;refine fU ?_
 cases c with
 |false=>exact Q.657
 |true=>exact⟨.bl true,H1,I1,rfl,q1⟩
def tIf(t:TT)(ta tb:TE):TE:=(λc H1=>(c,ta σ H1 Q,tb σ H1 Q).8).586
theorem CG{c:Expr}(hc:PT X c tA)(ha:a.98)(hb:PE X b tb):PE X (.IfExp c a b pos) (tIf tA ta tb):=by
 intro pins s σ H Q I h;refine wpAny_IfExp (iA (hc pins s σ H _ I h) λd s1 ⟨H1,I1,q1⟩=>?_)
 cases d with
 |true=>exact ha pins s1 σ H1 Q I1 q1
 |false=>exact Q.657
end
end L2
namespace L2
open PySem PySem.Spec PyProof.Rows
def bP(K:PySem.W.Frag)(H:Hp)(a:Addr)(xs:e.3):Prop:=
 Rd H a (.lst xs)\/
  ∃(o:Obj) (bY:R.3) (n:Nat),(K.lookup a).23/\o.cls=C.10/\o.dict.9/\o.data= .seq bY n/\bY.size.37/\Vals xs bY.toList
def lN(K:PySem.W.Frag)(H:Hp)(a:Addr)(xs:e.3):Prop:=
 Rd H a a.4\/
  ∃(o:Obj) (bY:R.3) (n:Nat),(K.lookup a).23/\o.cls=c.5/\o.data= .seq bY n/\bY.size.37/\Vals xs bY.toList
def aS0:Value->N.4
 | .none=>some .gL
 | .bool b=>some (.bl b)
 | .int i _=>some (.int i)
 | .str x _=>some (.str x)
 | .bytes b _=>some (.O6 b)
 | .float b _=>some (.flt b)
 | .ref a=>a.8
 | .type n=>some (.ty n)
 |_=>none
theorem RelV.abs{x:V}{u:Value}(r:x.46):aS0 u=some x:=by
 cases x with
 |gL=>cases r;rfl
 |bl _=>cases r;rfl
 |int _=>obtain⟨t,rfl⟩:=r;rfl
 |str _=>obtain⟨t,rfl⟩:=r;rfl
 |O6 _=>obtain⟨t,rfl⟩:=r;rfl
 |flt _=>obtain⟨t,rfl⟩:=r;rfl
 |ref _=>cases r;rfl
 |ty _=>cases r;rfl
theorem RelV.inj{x y:V}{u:Value}(r:x.46)(q:y.46):x=y:=aM (r.abs.symm.trans q.abs)
theorem Vals.inj: ∀{xs ys:e.3} {us:h.3},xs.69->ys.69->xs=ys
 |_,_,_,.nil,.nil=>rfl
 |_,_,_,.cons r t,.cons r' t'=>(r.inj r',Vals.inj t t').7
section
variable{X:Cx}{pins:j.3}{σ:St}{H:Hp}{s:Shared}{a:Addr}{xs ys:e.3}
theorem bP.of{K:PySem.W.Frag}(h:a.517):xs.75:= .inl (.inl h)
theorem lN.of{K:PySem.W.Frag}(h:a.4.72):lN K H a xs:= .inl (.inl h)
theorem Inv.list(I:g.3)(h:bP X.K H a xs): ∃bY:h.3,xs.520/\PlainL s.heap a bY.toArray/\k.10:=by
 rcases h with h|⟨o,bY,n,hk,hc,hd,hs,hz,r⟩
 . obtain⟨z,bY,n,r,e⟩:=h.ok I.cZ;exact⟨bY,r,⟨_,n,e,rfl,rfl,rfl⟩,z⟩
 . refine⟨bY.toList,r,⟨o,n,I.R1 a o hk,hc,hd,by simpa using hs⟩,?_⟩;have e:=r.length;simp only [Array.length_toList] at e;omega
theorem Inv.tuple(I:g.3)(h:lN X.K H a xs): ∃bY:h.3,xs.520/\IsTup s.heap a bY.toArray/\k.10:=by
 rcases h with h|⟨o,bY,n,hk,hc,hs,hz,r⟩
 . obtain⟨z,bY,r,p⟩:=h.ok I.cZ;exact⟨bY,r,p.1,z⟩
 . refine⟨bY.toList,r,⟨o,I.R1 a o hk,hc,n,by simpa using hs⟩,?_⟩;have e:=r.length;simp only [Array.length_toList] at e;omega
theorem Inv.CH(I:g.3)(h:bP X.K H a xs)(h':bP X.K H a ys):xs=ys:=by
 obtain⟨bY,r,⟨o,n,e,_,_,d⟩,_⟩:=I.list h;obtain⟨its',r',⟨o',n',e',_,_,d'⟩,_⟩:=I.list h';rw[e] at e';cases e';rw[d] at d';injection d' with d1 _;have:bY=its':=(cP Array.toList d1).658
 subst this;exact r.inj r'
end
abbrev Cx.J5(X:Cx)(E:l.3):Cx:={X with xe:=E}
abbrev Cx.nox(X:Cx):Cx:=X.J5 X.4
theorem Cx.Ok.J5{X:Cx}(ok:X.Ok)(E:l.3):(X.J5 E).Ok:=
 ⟨ok.mod,ok.kind,ok.glob,ok.blt,ok.above,ok.inj,ok.has,ok.cab,ok.hd,ok.frames,ok.stk,ok.exf,ok.bs,ok.Y9,ok.U9,ok.VA,ok.w8,ok.frf⟩
theorem Cx.Ok.vE{X:Cx}{E:l.3}(ok:(X.J5 E).Ok):X.Ok:=
 ⟨ok.mod,ok.kind,ok.glob,ok.blt,ok.above,ok.inj,ok.has,ok.cab,ok.hd,ok.frames,ok.stk,ok.exf,ok.bs,ok.Y9,ok.U9,ok.VA,ok.w8,ok.frf⟩
section
variable{X:Cx}{pins:j.3}{σ:St}{H:Hp}{s:Shared}{E:l.3}
theorem Inv.J5(I:g.3)(E:l.3):Inv (X.J5 E) pins σ H s:=⟨I.ok.J5 E,I.os,I.bare,I.base,I.loc,I.cell,I.free,I.o4,I.pin,I.cZ,I.len⟩
theorem Inv.vE(I:Inv (X.J5 E) pins σ H s):g.3:=⟨I.ok.vE,I.os,I.bare,I.base,I.loc,I.cell,I.free,I.o4,I.pin,I.cZ,I.len⟩
theorem SP.vE{D:Ends}{f:Flow}{s':Shared}(h:SP (X.J5 E) pins D f s'):SP X pins D f s':=by
 cases f with
 |next=>obtain⟨σ',H',I,q⟩:=h;exact⟨σ',H',I.vE,q⟩
 |brk=>obtain⟨σ',H',I,q⟩:=h;exact⟨σ',H',I.vE,q⟩
 |cont=>obtain⟨σ',H',I,q⟩:=h;exact⟨σ',H',I.vE,q⟩
 |ret u=>obtain⟨v,σ',H',I,r,q⟩:=h;exact⟨v,σ',H',I.vE,r,q⟩
theorem YV.nox{st:List Stmt}{t:TS}(h:YV X.nox st t):YV X st t:=λpins s σ H D I hw=>
 N.16
end
section
variable{X:Cx}{st:Stmt}{rest:List Stmt}{t u:TS}{e:Expr}{te:TE}{pos:Pos}
def aOe:TS:=λD σ H=>D.nx σ H
def aHG(t u:TS):TS:=λD σ H=>t {D with nx:=u D} σ H
theorem cN:YV X [] aOe:=λ_ _ σ H _ I h=>RZ ⟨σ,H,I,h⟩
theorem aK(h1:PS X st t)(h2:YV X rest u):YV X (st::rest) (aHG t u):=by
 intro pins s σ H D I h;refine wpAny_execs_cons (iA (h1 pins s σ H {D with nx:=u D} I h) λf s1 q=>?_)
 cases f with
 |next=> obtain⟨σ',H',I',q⟩:=q;exact h2 pins s1 σ' H' D I' q
 |ret v=>exact q
 |brk=>exact q
 |cont=>exact q
theorem aP(h1:PS X st t):YV X [st] t:=by
 intro pins s σ H D I h;refine wpAny_execs_cons (iA (h1 pins s σ H D I h) λf s1 q=>?_)
 cases f with
 |next=>exact RZ q
 |ret v=>exact q
 |brk=>exact q
 |cont=>exact q
theorem Inv.quiet{pins:j.3}{σ:St}{H:Hp}{s:Shared}(I:g.3):(interactive X.env).25:=by simp[interactive,I.ok.kind]
def aOf(te:TE):TS:=λD σ H=>te σ H λ_ H1=>D.nx σ H1
theorem dB(he:PE X e te)(hs:swapsWith e none pos.line X.env=pure false:=by rfl):PS X (.Expr e pos) (aOf te):=by intro pins s σ H D I h;exact wpAny_Expr_any (λv s1 ⟨x,H1,I1,r1,q1⟩=>⟨σ,H1,I1,q1⟩).624 I.quiet hs
def aS1(te:TE):TS:=λD σ H=>te σ H D.rt
theorem bU(he:PE X e te):PS X (.Return (some e) pos) (aS1 te):=by intro pins s σ H D I h;exact wpAny_Return_some (λv s1 ⟨x,H1,I1,r1,q1⟩=>⟨x,σ,H1,I1,r1,q1⟩).624
def aOg:TS:=λD _ H=>D.rt .gL H
theorem r9:PS X (.Return none pos) aOg:=λ_ _ σ H _ I h=>wpAny_Return_none ⟨.gL,σ,H,I,rfl,h⟩
def aS2(c:TT)(t u:TS):TS:=λD σ H=>c σ H λb H1=>(b,t D σ H1,u D σ H1).8
theorem dY{c:Expr}{a b:List Stmt}{tc:TT}(hc:PT X c tc)(ha:YV X a t)(hb:YV X b u):PS X (.If c a b pos) (aS2 tc t u):=by
 intro pins s σ H D I h;refine wpAny_If (iA (hc pins s σ H _ I h) λd s1 ⟨H1,I1,q1⟩=>?_)
 cases d with
 |true=>exact ha pins s1 σ H1 D I1 q1
 |false=>exact D.657
end
abbrev TG:=V->St->(Hp,(St.53)).16
abbrev TGs:=e.3->St->(Hp,(St.53)).16
def PG(X:Cx)(target:Expr)(t:TG):Prop:=
 ∀(pins:j.3) (s:Shared) (σ:St) (H:Hp) (v:V) (u:Value) (Q:St.53),g.3->v.46->t v σ H Q->
  (assign target X.env u,λ_ s'=>(Q σ' H').685).53
def PGs(X:Cx)(ts:X.3)(t:TGs):Prop:=
 ∀(pins:j.3) (s:Shared) (σ:St) (H:Hp) (vs:e.3) (us:h.3) (Q:St.53),g.3->vs.69->t vs σ H Q->
  wpAny i.4 X.A (assignInOrder ((assignEach ts X.env).map (·.2)) us) (λ_ s'=>(Q σ' H').685) X.xe s
abbrev aKV:=V->V->V->Hp->(Hp.41)->Prop
def aOi(X:Cx)(t:aKV):Prop:=
 ∀(pins:j.3) (s:Shared) (σ:St) (H:Hp) (o i v:V) (ov iv u:Value) (Q:Hp.41),g.3->RelV o ov->RelV i iv->v.46->t o i v H Q->
  (setItem ov iv u,λ_ s'=>∃H',T.5/\Q H').53
abbrev TIp:=V->V->n.5
def PIp(X:Cx)(op:Operator)(t:TIp):Prop:=
 ∀(pins:j.3) (s:Shared) (σ:St) (H:Hp) (x y:V) (v u:Value) (Q:VK),g.3->RelV x v->y.46->t x y H Q->
  (inplaceOp op v u).591
section
variable{X:Cx}{pos:Pos}
def J7(i:Nat):TG:=λv σ H Q=>Q (σ.set i (some v)) H
theorem a7{i:Nat}{x:Str}(hN:X.N.Nodup)(hi:(X.N,x).4)(hx:q.13)(hf:w.13:=by first|exact B.3|exact .inr rfl|assumption):PG X pos.551 (J7 i):=by intro pins s σ H v u Q I r h;exact wpAny_assign_Name (J2 I hN hi hx r (λs' I'=>⟨_,H,I',h⟩) hf)
def aS4:TGs:=λvs σ H Q=>vs=[]/\Q σ H
def aOj(t:TG)(u:TGs):TGs:=λvs σ H Q=>∃v r,vs=v::r/\t v σ H λσ' H'=>u r σ' H' Q
theorem kX:PGs X [] aS4:=by intro pins s σ H vs us Q I r h;obtain⟨e,h⟩:=h;subst e;cases r;exact assignInOrder_nil ⟨σ,H,I,h⟩
theorem dH{e:Expr}{es:X.3}{t:TG}{u:TGs}(h1:PG X e t)(h2:PGs X es u)
 (hs:(e::es).661.606=assign e X.env::es.661.606:=by rfl):PGs X (e::es) (aOj t u):=by
 intro pins s σ H vs us Q I r h;obtain⟨v,vr,e1,h⟩:=h;subst e1
 cases r with
 |cons r rr=> rw[hs];refine assignInOrder_cons (iA (h1 pins s σ H _ _ _ I r h) λ_ s1 ⟨σ1,H1,I1,q1⟩=>?_);exact h2 pins s1 σ1 H1 _ _ Q I1 rr q1
def aOk(K:PySem.W.Frag)(n:Nat)(t:TGs):TG:=λv σ H Q=>∃a xs,v=p.3/\lN K H a xs/\xs.length=n/\t xs σ H Q
theorem xB{es:X.3}{k:Nat}{t:TGs}{n:Nat}(hc:P.3)(h:PGs X es t)
 (hn:(es.661,n).6:=by rfl) (jM:((es.661).findIdx? (·.1)).9:=by rfl):PG X (.Tuple es k pos) (aOk X.K n t):=by intro pins s σ H v u Q I r hw;obtain⟨a,xs,e1,hq,hl,hw⟩:=hw;subst e1;cases r;obtain⟨bY,rv,ht,hz⟩:=I.tuple hq;refine assign_Tuple_tuple S.4 ht (by simp[hn,<-hl,rv.length]) jM λh' hx=>?_;have I1:(H,{s with heap:=h'}).19:=I.kept (t':=s.toks) λb o e=>hx b o (bS (aZ e)) e;exact h pins _ σ H xs _ Q I1 (by simpa using rv) hw
def aS5(to ti:TE)(t:aKV):TG:=λv σ H Q=>to σ H λo H1=>ti σ H1 λi H2=>t o i v H2 λH3=>Q σ H3
theorem aKW{o i:Expr}{to ti:TE}{t:aKV}(ho:PE X o to)(hi:PE X i ti)(hs:aOi X t)
 (ha: ∀v,assign pos.698 X.env v=(do
  let ov<-holding [v] o.58
  let iv<-holding [v,ov] i.58
  standAt pos
  holding [v,ov,iv] (setItem ov iv v)
  release [v,ov,iv] []):=by intro _;rfl):PG X pos.698 (aS5 to ti t):=by intro pins s σ H v u Q I r h;rw[ha];refine aB (c9 (iA (ho pins s σ H _ I h) λov s1 ⟨x,H1,I1,r1,q1⟩=>?_));refine aB (c9 (iA (hi pins s1 σ H1 _ I1 q1) λiv s2 ⟨y,H2,I2,r2,q2⟩=>?_));refine aB (JD (aB (c9 (iA (hs pins s2 σ H2 x y v ov iv u _ I2 r1 r2 r q2) λ_ s3 ⟨H3,I3,q3⟩=>?_))));exact wpAny_release ⟨σ,H3,I3,q3⟩
def aKX(te:TE)(g:TG):TS:=λD σ H=>te σ H λx H1=>g x σ H1 D.nx
theorem aKY{tg e:Expr}{te:TE}{g:TG}(he:PE X e te)(hg:PG X tg g)(hs:swapsWithSole [tg] e pos.line X.env=pure false:=by rfl)(hw:swappedStores [tg] e X.env=pure none:=by rfl)
 (h1:([tg]).661.606=[assign tg X.env]:=by rfl):(tg,e,aKX te g).37:=by intro pins s σ H D I h;refine wpAny_Assign_stores Y.10.624 hs hw;rw[h1];exact iA (hg pins s1 σ H1 x v _ I1 r1 q1) λ_ s2 q=>q
theorem bK{i:Nat}{x:Str}{e:Expr}{te:TE}{pos':Pos}(hN:X.N.Nodup)(hi:(X.N,x).4)(hx:q.13)(he:PE X e te)(hs:(e,pos'.551).130:=by rfl)(hf:w.13:=by first|exact B.3|exact .inr rfl|assumption):
 (pos'.551,e,aKX te (J7 i)).37:=by intro pins s σ H D I h;refine wpAny_Assign_Name (λv s1 ⟨y,H1,I1,r1,q1⟩=>?_).624 hs;exact J2 I1 hN hi hx r1 (λs2 I2=>(H1,I2,q1).10) hf
def aS6(i:Nat)(te:TE)(ti:TIp):TS:=λD σ H=>∃x,(σ,some x).4/\te σ H λy H1=>ti x y H1 λz H2=>D.nx (σ.set i (some z)) H2
theorem aEW{i:Nat}{x:Str}{e:Expr}{te:TE}{op:Operator}{ti:TIp}{pos':Pos}(hN:X.N.Nodup)(hi:(X.N,x).4)(hx:q.13)(he:PE X e te)(ho:PIp X op ti)(hf:w.13:=by first|exact B.3|exact .inr rfl|assumption):
 PS X (.AugAssign pos'.551 op e pos) (aS6 i te ti):=by
 intro pins s σ H D I h;obtain⟨v,e1,h⟩:=h;obtain⟨m,hn,hl⟩:=I.loc;have vis:x.684:=by rcases hx with k|k;exact .inl k;exact .inr (.inl k)
 obtain⟨u,r,l⟩:=hl i x v hi e1 vis;refine wpAny_AugAssign_Name ?_;have go:(e.58,λw s₂=>(inplaceOp op u w,λr s₃=>(storeName X.env x r,λ_=>SP X pins D .next,s₃).28,s₂).28).53:=by refine(λw s1 ⟨y,H1,I1,r1,q1⟩=>?_).624;refine iA (ho pins s1 σ H1 v y u w _ I1 r r1 q1) λz s2 ⟨zv,H2,I2,r2,q2⟩=>?_;exact J2 I2 hN hi hx r2 (λs3 I3=>(H2,I3,q2).10) hf
 rcases l with⟨hk,hm⟩|⟨hk,c,hc,J3⟩
 . exact wpAny_loadName_local I.ok.kind hk hn hm go
 . rcases hk with hk|hk
   . exact wpAny_loadName_cell I.ok.kind hk hc J3 go
   . rcases hx with k|k
     . have:(X.env.scope.names.lookup x).556:=hk;rw[k] at this;cases this
     . have:(X.env.scope.names.lookup x).556:=hk;rw[k] at this;cases this
end
section
variable{X:Cx}{pos:Pos}
def aKZ(c:TT)(tb:TS):TS:=λD σ H=>∃W:St.628,(∃m,W m σ H)/\∀m σ H,W m σ H->
 c σ H λb H1=>(b,∃N:St.53,(∀σ' H',N σ' H'->∃m',m'<m/\W m' σ' H')/\tb {D with nx:=N,ct:=N,bk:=D.nx} σ H1,D.nx σ H1).8
theorem aEX{c:Expr}{body:List Stmt}{tc:TT}{tb:TS}(hp:PassesOwn i.4 X.A X.env X.xe)(hc:PT X c tc)(hb:YV X body tb):PS X (.While c body [] pos) (aKZ tc tb):=by
 intro pins s σ H D I h;obtain⟨W,⟨m0,w0⟩,turn⟩:=h;refine wpAny_While (codeAny_whileLoop (λn s'=>(W n σ' H').685) ?_ m0 ⟨σ,H,I,w0⟩);rintro n s1 ⟨σ1,H1,I1,w1⟩;refine n6 hp (iA (hc pins s1 σ1 H1 _ I1 (turn n σ1 H1 w1)) λb s2 ⟨H2,I2,q2⟩=>?_)
 cases b with
 |true=>
  obtain⟨N,hN,q2⟩:=q2;rw[N.5];refine n6 hp (iA (hb pins s2 σ1 H2 _ I2 q2) λf s3 q3=>?_)
  cases f with
  |next=> obtain⟨σ3,H3,I3,n3⟩:=q3;obtain⟨m',hm,w3⟩:=hN σ3 H3 n3;exact⟨m',hm,σ3,H3,I3,w3⟩
  |cont=> obtain⟨σ3,H3,I3,n3⟩:=q3;obtain⟨m',hm,w3⟩:=hN σ3 H3 n3;exact⟨m',hm,σ3,H3,I3,w3⟩
  |brk=>exact q3
  |ret v=>exact q3
 |false=> rw[if_neg a8];exact RZ ⟨σ1,H2,I2,q2⟩
end
structure It where
 go:Nat.53
 yld:Nat->Hp->V.53
 stop:Nat.53
def HZ(X:Cx)(pins:j.3)(H:Hp)(b:Addr):Prop:=
 b.21/\k.12/\b∉X.fs/\(b∈X.ex\/b.634)/\((c≠b).635)/\∀p∈X.pn++pins,p.1≠b
theorem Inv.aEY{X:Cx}{pins:j.3}{σ:St}{H H':Hp}{s:Shared}{b:Addr}(I:g.3)(hb:s.heap.objs.size<=b)(hn:(H' b).9):H'.614:=by
 refine⟨hn,oE (bD I.lt hb),I.aSS hb,.inr (aG I.sz hb),λx c e z=>?_,λp hp z=>?_⟩
 . obtain⟨v,q⟩:=I.cell x c e;exact absurd (bD q.lt (z,hb).3) (d7 _)
 . exact absurd (bD (aZ (I.pin p hp).1) (z,hb).3) (d7 _)
structure Turn(P:Program)(w:World)(K:PySem.W.Frag)(tg:Expr)(J:It)(fp:i.3)(it:Addr)(tn:(Nat,Heap).16):Prop where
 mem:it∈fp
 obj: ∀i h,tn i h->∀b∈fp,∃o,b.52/\∀v,o.data≠.cell v
 keep: ∀i h h',tn i h->(∀b∈fp,∀o,b.52->h.4.23)->tn i h'
 item: ∀(X:Cx),X.prog=P->X.w=w->X.K=K->P.3->∀(i:Nat) (pins:j.3) (s:Shared) (σ:St) (H:Hp) (E:l.3),g.3->(∀b∈fp,H.614)->tn i s.heap->J.go i H->
  wpAny (model P w) X.A (pyNext (.ref it)) (λr s1=>∃u,r.67/\
   wpAny (model P w) X.A (letOwnedTupleGo tg (.ref it) u) (λ_ s2=>∃x H',(H',s2).19/\x.46/\z.10/\tn (i+1) s2.heap/\v.12) E s1) E s
 done: ∀(X:Cx),X.prog=P->X.w=w->X.K=K->P.3->∀(i:Nat) (pins:j.3) (s:Shared) (σ:St) (H:Hp) (E:l.3),g.3->(∀b∈fp,H.614)->tn i s.heap->J.stop i H->
  wpAny (model P w) X.A (pyNext (.ref it)) (λr s1=>r.9/\(H,s1).19) E s
 self: ∀(A:Around) (i:Nat) (s:Shared) (Q:l.3) (E:l.3),tn i s.heap->(it,s).42->wpAny (model P w) A (pyIter (.ref it)) Q E s
abbrev TI:=St->Hp->(It.53)->Prop
def PIE(X:Cx)(pins:j.3)(σ:St)(tg:Expr)(R:It.53)(itv:Value)(s2:Shared):Prop:=
 ∃(it:Addr) (fp:i.3) (tn:(Nat,Heap).16) (J:It) (H':Hp),itv= .ref it/\(H',s2).19/\Turn X.prog X.w X.K tg J fp it tn/\tn 0 s2.heap/\(∀b∈fp,H'.614)/\R J H'
def PI(X:Cx)(tg iter:Expr)(wi:TI):Prop:=
 ∀(pins:j.3) (s:Shared) (σ:St) (H:Hp) (R:It.53),g.3->wi σ H R->
  (iter.58,λv s1=>(pyIter v,PIE X pins σ tg R,s1).28).53
theorem aJK{M:Model}{A:Around}{E:l.3}{s:Shared}{tg:Expr}{it:Addr}{u:Value}{o:Obj}{n:String}{vs:R.3}{Q:Unit.49}(ho:it.70)(hc:o.cls= .type n)(hd:o.data= .fields vs)
 (hn:s.16.25) (hQ:Q () s):wpAny M A (letOwnedTupleGo tg (.ref it) u) Q E s:=by
 unfold letOwnedTupleGo
 cases tg<;>first
  |exact aH hQ
  |(cases u<;>first
   |exact aH hQ
   |(refine aB (wpAny_load ho ?_);rw[hc,hd];show wpAny M A ((s.16&&vs[0]? ==some (rawInt _))).40 Q E s;rw[if_neg (by intro h;rw[hn,dF] at h;cases h)];exact aH hQ))
def Itl(K:PySem.W.Frag)(a:Addr):It:=
 ⟨λi H=>∃xs x,xs.75/\D.4,λi H x H'=>H'=H/\∀xs,xs.75->D.4,λi H=>∃xs,xs.75/\xs.length<=i⟩
def Itr(lo:Int)(n:Nat):It:=⟨λi _=>i<n,λi H x H'=>H'=H/\x= .int (lo+i),λi _=>n<=i⟩
theorem aC0{P:Program}{w:World}{K:PySem.W.Frag}{tg:Expr}(a it:Addr):Turn P w K tg (Itl K a) [it] it (λi h=>h.IsListIter it a i) where
 mem:=c.3
 obj:=λi h st b hb=>by
  have e:b=it:=c.10
  subst e;obtain⟨o,e,c,d⟩:=st;exact⟨o,e,λv z=>d.709⟩
 keep:=λi h h' st k=>st.at λo e=>k it c.3 o e
 item:=by intro X hP hw hK hc i pins s σ H E I hf st hg;subst hP hw hK;obtain⟨xs,x,hq,hx⟩:=hg;obtain⟨bY,rv,p,hz⟩:=P.5;obtain⟨u,hu,ru⟩:=rv.get hx;obtain⟨f0,f1,f2,f3,f4,f5⟩:=hf it c.3;refine wpAny_pyNext_list_item st p.isList (x:=u) (by simpa using hu) λh' iO sb=>?_;have I1:(H,{s with heap:=h'}).19:=(λb o hb e=>(b,hb,e).22).757;obtain⟨o,e,c,d⟩:=id iO;exact(u,aJK (s:={s with heap:=h'}) e c d r.3 ⟨x,H,I1,ru,(λys hy=>(I.CH hy hq,hx).3).73,iO,λb hb=>(hf b hb).1⟩).50
 done:=by intro X hP hw hK hc i pins s σ H E I hf st hg;subst hP hw hK;obtain⟨xs,hq,hx⟩:=hg;obtain⟨bY,rv,p,hz⟩:=P.5;obtain⟨f0,f1,f2,f3,f4,f5⟩:=hf it c.3;have hl:=rv.length;exact wpAny_pyNext_list_end S.4 st p.isList k.4 λh' eb=>(λb o hb e=>eb b o hb e).757.73
 self:=λ_ _ _ _ _ st h=>wpAny_pyIter_listiter st h
theorem ZE{P:Program}{w:World}{K:PySem.W.Frag}{tg:Expr}(it:Addr)(lo:Int)(n:Nat):Turn P w K tg (Itr lo n) [it] it (λi h=>IsRangeIter h it (lo+(i:Nat)*1) (n.6-(i:Nat)) 1) where
 mem:=c.3
 obj:=λi h st b hb=>by
  have e:b=it:=c.10
  subst e;exact⟨_,st,λv z=>by have z':Data.fields _=Data.cell v:=z;cases z'⟩
 keep:=λi h h' st k=>k it c.3 _ st
 item:=by intro X hP hw hK hc i pins s σ H E I hf st hg;subst hP hw hK;obtain⟨f0,f1,f2,f3,f4,f5⟩:=hf it c.3;have W:=Walks.range (prog:=X.prog) (w:=X.w) S.4 it lo 1 n;refine W.item i s _ _ hg st λv h' tk hv iO kk=>?_;obtain⟨t,rfl⟩:=hv;have I1:(H,{s with heap:=h',toks:=tk}).19:=I.turned (λb o hb e=>kk b o c.10 e) f0 f1 f3 f4 f5;refine(aJK (s:={s with heap:=h',toks:=tk}) (n:="range_iterator") iO rfl rfl r.3 ⟨.int (lo+i),H,I1,t.71,y.4,iO,λb hb=>(hf b hb).1⟩).28;rw[Int.mul_one]
 done:=by intro X hP hw hK hc i pins s σ H E I hf st hg;subst hP hw hK;obtain⟨f0,f1,f2,f3,f4,f5⟩:=hf it c.3;exact wpAny_pyNext_range_end S.4 st (by have:n<=i:=hg;omega) λh' eb=>(λb o hb e=>eb b o hb e).757.73
 self:=λ_ _ _ _ _ st h=>wpAny_pyIter_rangeiter st h
end L2
namespace L2
open PySem PySem.Spec PyProof.Rows
section
variable{X:Cx}{tg:Expr}
def aOm(K:PySem.W.Frag)(tl:TE):TI:=λσ H R=>tl σ H λx H1=>∃a,x=p.3/\(∃xs,bP K H1 a xs)/\R (Itl K a) H1
theorem cK{l:Expr}{tl:TE}(hl:PE X l tl):PI X tg l (aOm X.K tl):=by
 intro pins s σ H R I h;refine iA (hl pins s σ H _ I h) Y.10;obtain⟨a,e,⟨xs,hq⟩,q⟩:=q1;subst e;cases r1;obtain⟨bY,rv,p,hz⟩:=I1.list hq;refine HU p.isList ?_;refine⟨s1.heap.objs.size,[s1.heap.objs.size],_,_,H1,rfl,I1.kept (t':=s1.toks) λb o e=>aN _ e,aC0 a _,k.13,q.5,q⟩;have e:b=s1.heap.objs.size:=c.10
 subst e;exact I1.aEY (aS _) D.13
theorem VC{pins:j.3}{σ:St}{H:Hp}{s:Shared}{R:It.53}{E:l.3}{lo hi:Int}{t u v:Tok}{tk:Nat}(I:g.3)(h1: -(2^62)<=lo)(h2:lo<2^62)(h3: -(2^62)<=hi)(h4:hi<2^62)
 (q:R (Itr lo (hi-lo).toNat) H):wpAny i.4 X.A (pyIter A.10) (PIE X pins σ tg R) E {s with heap:=("range",M.14).115,toks:=tk}:=by
 refine wpAny_pyIter_range (IsRange.new ..) (small_one h1 h2 h3 h4) ?_;have I1:(H,{s with heap:=("range",M.14).115,toks:=tk}).19:=I.kept λb o e=>aN _ e;refine⟨X.14,[X.14],_,_,H,rfl,
  I1.kept (t':=tk) λb o e=>aN _ e,ZE _ lo (hi-lo).toNat,?_,q.5,q⟩
 . have e1:lo+(0).22*1=lo:=c.3
   have e2:((hi-lo).toNat).22-(0).22=Builtin.Range.rangeSize lo hi 1:=by rw[rangeSize_one];split<;>omega
   show IsRangeIter _ _ (lo+(0).22*1) (((hi-lo).toNat).22-(0).22) 1;rw[e1,e2];exact G.3
 . have e:b=X.14:=c.10
   subst e;exact I1.aEY (aS _) D.13
def aOn(ta:TA):TI:=(∃j:Int,vs=[.int j]/\ -(2^62)<=j/\j<2^62/\R (Itr 0 j.toNat) H1).744
def aOo(ta:TA):TI:=(∃i j:Int,vs=[.int i,.int j]/\(-(2^62)<=i/\i<2^62/\ -(2^62)<=j/\j<2^62)/\R (Itr i (j-i).toNat) H1).744
theorem eF{a:Expr}{ta:TA}{p pos:Pos}(hg:Gl X "range")(hm:(X.mg "range").9)(ha:PA X [a] ta)(hs:([a]).569=[(false,a.58)]:=by rfl):PI X tg (.Name "range" p,[a]).49 (aOn ta):=by
 intro pins s σ H R I h;refine Call_ (xA I hg hm boot_range (i8 (?_).656 hs rfl));obtain⟨j,e,q1,q2,q⟩:=q1;subst e
 cases r1 with
 |cons r rr=> cases rr;obtain⟨t,rfl⟩:=r;exact call_range_1 (VC I1 b.3 b.3 q1 q2 (by simpa using q))
theorem O8{a b:Expr}{ta:TA}{p pos:Pos}(hg:Gl X "range")(hm:(X.mg "range").9)(ha:PA X [a,b] ta)(hs:([a,b]).569=[(false,a.58),(false,b.58)]:=by rfl)(JG:([b]).569=[(false,b.58)]:=by rfl):
 PI X tg (.Name "range" p,[a,b]).49 (aOo ta):=by
 intro pins s σ H R I h;refine Call_ (xA I hg hm boot_range (i8 (?_).656 (hs,JG).7 JG.508));obtain⟨i,j,e,⟨q1,q2,q3,q4⟩,q⟩:=q1;subst e
 cases r1 with
 |cons r rr=>
  cases rr with
  |cons r' rr=> cases rr;obtain⟨t,rfl⟩:=r;obtain⟨t',rfl⟩:=r';exact call_range_2 (VC I1 q1 q2 q3 q4 q)
def aS9(wi:TI)(g:TG)(tb:TS):TS:=λD σ H=>wi σ H λJ H1=>∃W:Nat->Nat->St.53,(∃m,W 0 m σ H1)/\∀i m σ H,W i m σ H->
 b.16
def J8(fp:i.3)(h:Heap):j.3:=fp.filterMap λb=>(h.get? b).map λo=>(b,o)
theorem BH{fp:i.3}{h:Heap}{b:Addr}{o:Obj}(hb:b∈fp)(e:b.52):(b,o)∈J8 fp h:=l8.mpr ⟨b,hb,by rw[e];rfl⟩
theorem aC1{fp:i.3}{h:Heap}{p:Addr×Obj}(hp:p∈J8 fp h):p.1∈fp/\(p.1,p.2).30:=by
 obtain⟨b,hb,e⟩:=l8.mp hp
 cases q:h.get? b with
 |none=>rw[q] at e;cases e
 |some o=> rw[q] at e;have e':(b,o)=p:=aM e;subst e';exact⟨hb,q⟩
theorem Inv.pinned{pins:j.3}{σ:St}{H:Hp}{s:Shared}{fp:i.3}(I:g.3)(hf: ∀b∈fp,H.614)(ho: ∀b∈fp,∃o,b.70/\∀v,o.data≠.cell v):Inv X (pins++J8 fp s.heap) σ H s:=
 I.aBC λp hp=>(R.12).elim (λz=>I.pin p (dX _ z)) λz=>by obtain⟨hb,e⟩:=aC1 z;obtain⟨f0,f1,f2,_⟩:=hf p.1 hb;obtain⟨o,e',d⟩:=ho p.1 hb;rw[e] at e';cases e';exact⟨e,f0,f1,f2,d⟩
theorem Inv.CI{pins pl:j.3}{σ:St}{H:Hp}{s:Shared}(I:Inv X (pins++pl) σ H s):g.3:=I.aBC λp hp=>I.pin p (dX _ (iF _ hp))
theorem fF{iter:Expr}{body:List Stmt}{wi:TI}{g:TG}{tb:TS}{pos:Pos}(hp:PassesOwn i.4 X.A X.env X.xe)(hc:P.3)(hi:PI X tg iter wi)(hg:PG X tg g)(hb:YV X body tb)
 (hs: n.14:=by intro _;rfl):PS X (.For tg iter body [] pos) (aS9 wi g tb):=by
 intro pins s σ H D I h;refine wpAny_For (iA (hi pins s σ H _ I h) λv s1 h1=>iA h1 λitv s2 h2=>?_) hs;obtain⟨it,fp,tn,J,H2,e,I2,T,st2,f2,W,⟨m0,w0⟩,turn⟩:=h2;subst e;have stat:∀{H':Hp},(v.12)->∀b∈fp,H'.614:=λhn b hb=>⟨hn b hb,(f2 b hb).2⟩;refine codeAny_forLoop_any (λn s'=>∃i σ' H',Inv X pins σ' H' s'/\tn i s'.heap/\(v.12)/\W i n σ' H') ?_ m0 ⟨0,σ,H2,I2,st2,λb hb=>(f2 b hb).1,w0⟩;rintro n s3 ⟨i,σ3,H3,I3,st3,fr3,w3⟩;rcases turn i n σ3 H3 w3 with⟨stop,qn⟩|⟨go,N,hN,step⟩
 . refine n6 hp (iA (T.done X rfl rfl rfl hc i pins s3 σ3 H3 X.xe I3 (stat fr3) st3 stop) λr s4 ⟨hr,I4⟩=>?_);subst hr;exact RZ ⟨σ3,H3,I4,qn⟩
 . refine n6 hp (iA (T.item X rfl rfl rfl hc i pins s3 σ3 H3 X.xe I3 (stat fr3) st3 go) λr s4 ⟨u,hr,h4⟩=>?_);subst hr;refine n6 hp (iA h4 λ_ s5 ⟨x,H5,I5,r5,y5,st5,fr5⟩=>?_);have I5':=I5.pinned (stat fr5) (T.obj _ _ st5);refine n6 hp (iA (hg _ s5 σ3 H5 x u _ I5' r5 (step x H5 y5)) λ_ s6 ⟨σ6,H6,I6,q6⟩=>?_);refine n6 hp (iA (hb _ s6 σ6 H6 _ I6 q6) λf s7 q7=>?_);have again:∀{σ7:St} {H7:Hp},Inv X (pins++J8 fp s5.heap) σ7 H7 s7->N σ7 H7->∃m,m<n/\∃i σ' H',Inv X pins σ' H' s7/\tn i s7.heap/\(v.12)/\W i m σ' H':=λ{σ7 H7} I7 n7=>by obtain⟨m',hm,w7⟩:=hN σ7 H7 n7;refine⟨m',hm,i+1,σ7,H7,I7.CI,T.keep _ _ _ st5 λb hb o e=>(I7.pin (b,o) (dX _ (dX _ (BH hb e)))).1,q.5,w7⟩;obtain⟨o,e,d⟩:=T.obj _ _ st5 b hb;exact(I7.pin (b,o) (dX _ (dX _ (BH hb e)))).2.1
   cases f with
   |next=>obtain⟨σ7,H7,I7,n7⟩:=q7;exact again I7 n7
   |cont=>obtain⟨σ7,H7,I7,n7⟩:=q7;exact again I7 n7
   |brk=>obtain⟨σ7,H7,I7,q7⟩:=q7;exact⟨σ7,H7,I7.CI,q7⟩
   |ret v=>obtain⟨x7,σ7,H7,I7,r7,q7⟩:=q7;exact⟨x7,σ7,H7,I7.CI,r7,q7⟩
end
end L2
namespace L2
open PySem PySem.Spec PyProof.Rows
abbrev R2:=V->V.649
def xC(X:Cx)(f:j.13)(r:R2):Prop:=
 ∀(pins:j.3) (s:Shared) (σ:St) (H:Hp) (x y:V) (v u:Value) (Q:VK),g.3->RelV x v->y.46->r x y H Q->
  (f v u).591
def UnR(X:Cx)(f:Value->Sem Value)(r:V.649):Prop:=
 ∀(pins:j.3) (s:Shared) (σ:St) (H:Hp) (x:V) (v:Value) (Q:VK),g.3->RelV x v->r x H Q->
  (f v).591
def j6(X:Cx)(f:Value)(r:h.5):Prop:=
 ∀(pins:j.3) (s:Shared) (σ:St) (H:Hp) (xs:e.3) (us:h.3) (Q:VK),g.3->xs.69->r xs H Q->
  (call f us).591
def aTa(X:Cx)(r:V->Hp->(Bool.53)->Prop):Prop:=
 ∀(pins:j.3) (s:Shared) (σ:St) (H:Hp) (x:V) (v:Value) (Q:Bool.53),g.3->RelV x v->r x H Q->
  (truthy v,TP X pins σ Q).53
def tOp(r:R2)(ta tb:TE):TE:=(tb σ H1 λy H2=>r x y H2 Q).668
def tUn(r:V.649)(ta:TE):TE:=(r x H1 Q).668
def rI(C:(Int,Int).16)(g:Int->Int->V):R2:=(C i j/\Q (g i j) H).792
def rI0(g:Int->Int->V):R2:=(Q (g i j) H).792
def rU(g:Int->V):V.649:=λx H Q=>∃i,x= .int i/\Q (g i) H
section
variable{X:Cx}{a b c:Expr}{ta tb tc:TE}{pos:Pos}
theorem aK0(ha:a.98)(hb:PE X b tb){pins:j.3}{s:Shared}{σ:St}{H:Hp}{R:V->V->Hp->Prop}(I:g.3)
 (h:ta σ H λx H1=>tb σ H1 λy H2=>R x y H2) {Q:l.3} {f:j.13}
 (hf: o.16):
 (f v u,Q,s₂).28.800:=(hf v u s2 x y H2 I2 r1 r2 q2).838
theorem d6{op:Operator}{r:R2}(ho:(op,r).61)(ha:a.98)(hb:PE X b tb):PE X (.BinOp a op b pos) (tOp r ta tb):=(wpAny_BinOp (ho pins s2 σ H2 x y v u Q I2 rx ry q).803).690
theorem wI{op:UnaryOp}{r:V.649}(ho:UnR X (unaryOp op) r)(ha:a.98):PE X (.UnaryOp op a pos) (tUn r ta):=(UnaryOp_ (iA (_).543 λv s1 ⟨x,H1,I1,r1,q1⟩=>ho pins s1 σ H1 x v Q I1 r1 q1)).690
theorem opI{f:j.13}{C:(Int,Int).16}{g:Int->Int->Int}
 (rule: (C i j->Q (.int (g i j) s.toks) R.5->(f (.int i t) (.int j u)).674).780):
 xC X f (rI C λi j=> .int (g i j)):=by intro pins s σ H x y v u Q I rx ry h;obtain⟨i,j,rfl,rfl,hc,q⟩:=h;obtain⟨t,rfl⟩:=rx;obtain⟨t',rfl⟩:=ry;exact rule i j t t' s _ _ hc (g i j).713
theorem aC2{f:j.13}{g:Int->Int->Int}
 (rule: (Q (.int (g i j) s.toks) R.5->(f (.int i t) (.int j u)).674).780):
 xC X f (g i j).665:=(g i j).713.824
theorem aHI{f:j.13}{g:Int->Int->Bool}
 (rule: (Q (.bool (g i j)) s->(f (.int i t) (.int j u)).674).780):
 xC X f (rI0 λi j=> .bl (g i j)):=(g i j,I,q).27.824
def aTc(i j:Int):Prop:=0<=j/\j<=1000000/\i.natAbs<2^64
def aK1(i j:Int):Prop:=(-(2^64)<i/\i<2^64)\/(-(2^64)<j/\j<2^64)
theorem aK1.ok{i j:Int}(h:aK1 i j):IntMulOk i j:=by
 rcases h with⟨h1,h2⟩|⟨h1,h2⟩
 . exact .of_left (intBits_le_64 h1 h2)
 . exact .of_right (intBits_le_64 h1 h2)
theorem ZF(k:Nat):(0).33<=2^k:=(two_pow_cast,Int.natCast_nonneg _).3
theorem lY:(.Add,(i+j).665).61:=(add_int q).686
theorem E5:(.Sub,(i-j).665).61:=(sub_int q).686
theorem aK2:(.Mult,rI aK1 λi j=> .int (i*j)).61:=opI λ_ _ _ _ _ _ _ hc q=>mul_int q hc.ok
theorem E6:(.LShift,rI aTc λi j=> .int (i*2^j.toNat)).61:=opI λ_ _ _ _ _ _ _ hc q=>lshift_int_small hc.1 hc.2.1 hc.2.2 q
theorem aEZ:(.RShift,rI (λ_ j=>0<=j) λi j=> .int (i/2^j.toNat)).61:=opI λi j _ _ _ _ _ hc q=>
 rshift_int hc (Int.fdiv_eq_ediv_of_nonneg i (ZF _),q).3
theorem tN:(.BitAnd,(Builtin.bitAnd i j).665).61:=(and_int q).686
theorem aOp:(.BitOr,(Builtin.bitOr i j).665).61:=(or_int q).686
theorem aHJ:xC X (inplaceOp .BitAnd) (Builtin.bitAnd i j).665:=(iand_int q).686
theorem aK3:xC X (inplaceOp .BitOr) (Builtin.bitOr i j).665:=(ior_int q).686
theorem unI{f:Value->Sem Value}{g:Int->Int}
 (rule: ∀(i:Int) (t:Tok) (s:Shared) (Q:l.3) (E:l.3),Q (.int (g i) s.toks) R.5->(f (.int i t)).674):
 UnR X f (rU λi=> .int (g i)):=by intro pins s σ H x v Q I rx h;obtain⟨i,rfl,q⟩:=h;obtain⟨t,rfl⟩:=rx;exact rule i t s _ _ (g i).713
theorem qH:UnR X (unaryOp .USub) (rU λi=> .int (-i)):=unI λ_ _ _ _ _ q=>neg_int q
theorem aK4:UnR X (unaryOp .Invert) (rU λi=> .int (Builtin.bitNot i)):=unI λ_ _ _ _ _ q=>invert_int q
end
def aOq:V->V->Bool
 | .gL,.gL=>true| .gL,.int _=>true| .int _,.gL=>true| .gL,.bl _=>true| .bl _,.gL=>true| .gL,.str _=>true| .str _,.gL=>true
 | .int _,.int _=>true| .bl _,.bl _=>true| .str _,.str _=>true| .O6 _,.O6 _=>true
 | .int _,.str _=>true| .str _,.int _=>true| .bl _,.str _=>true| .str _,.bl _=>true
 |_,_=>false
def rEq:R2:=λx y H Q=>(aOq x y).7/\(x,y).11.572
def rNe:R2:=λx y H Q=>(aOq x y).7/\(!(x,y).11).572
theorem aBG{i j:Int}:(V.int i,j).57=(i==j):=cR.89
theorem aE0{i j:Bool}:(V.bl i,V.bl j).11=(i==j):=cR.89
theorem aBH{i j:Str}:(V.str i,V.str j).11=(i==j):=cR.89
theorem aBI{i j:Array UInt8}:(V.O6 i,V.O6 j).11=(i.toList==j.toList):=by rw[cR];cases i;cases j;simp
section
variable{X:Cx}{a b c:Expr}{ta tb tc:TE}{pos:Pos}
theorem fB{pins:j.3}{σ:St}{H:Hp}{s:Shared}{Q:VK}{k k':Bool}(I:g.3)(q:k.572)(e:k=k'):(.bool k',s).87:=by subst e;exact(k,I,q).27
theorem gM:(.Eq,rEq).45:=by
 intro pins s σ H x y v u Q I rx ry h;obtain⟨hs,q⟩:=h
 cases x with
 |gL=>
  cases rx
  cases y with
  |gL=>cases ry;exact PySem.EqNone.eq_none_none g.4
  |bl j=>cases ry;exact PySem.EqNone.eq_none_bool g.4
  |int j=>obtain⟨t',rfl⟩:=ry;exact PySem.EqNone.eq_none_int g.4
  |str j=>obtain⟨t',rfl⟩:=ry;exact PySem.EqNone.eq_none_str g.4
  |_=>exact absurd F.5 a8
 |bl i=>
  cases rx
  cases y with
  |gL=>cases ry;exact PySem.EqNone.eq_bool_none g.4
  |bl j=>cases ry;exact eq_bool (fB I q aE0)
  |str j=>obtain⟨t',rfl⟩:=ry;exact PySem.EqMixed.eq_bool_str g.4
  |_=>exact absurd F.5 a8
 |int i=>
  obtain⟨t,rfl⟩:=rx
  cases y with
  |gL=>cases ry;exact PySem.EqNone.eq_int_none g.4
  |int j=>obtain⟨t',rfl⟩:=ry;exact eq_int (fB I q aBG)
  |str j=>obtain⟨t',rfl⟩:=ry;exact PySem.EqMixed.eq_int_str g.4
  |_=>exact absurd F.5 a8
 |str i=>
  obtain⟨t,rfl⟩:=rx
  cases y with
  |gL=>cases ry;exact PySem.EqNone.eq_str_none g.4
  |bl j=>cases ry;exact PySem.EqMixed.eq_str_bool g.4
  |int j=>obtain⟨t',rfl⟩:=ry;exact PySem.EqMixed.eq_str_int g.4
  |str j=>obtain⟨t',rfl⟩:=ry;exact eq_str (fB I q aBH)
  |_=>exact absurd F.5 a8
 |O6 i=>
  obtain⟨t,rfl⟩:=rx
  cases y with
  |O6 j=>obtain⟨t',rfl⟩:=ry;exact PySem.W.eq_bytes (fB I q aBI)
  |_=>exact absurd F.5 a8
 |_=>cases y<;>exact absurd F.5 a8
theorem aJM:(.NotEq,rNe).45:=by
 intro pins s σ H x y v u Q I rx ry h;obtain⟨hs,q⟩:=h
 cases x with
 |gL=>
  cases rx
  cases y with
  |gL=>cases ry;exact PySem.EqNone.ne_none_none g.4
  |bl j=>cases ry;exact PySem.EqNone.ne_none_bool g.4
  |int j=>obtain⟨t',rfl⟩:=ry;exact PySem.EqNone.ne_none_int g.4
  |str j=>obtain⟨t',rfl⟩:=ry;exact PySem.EqNone.ne_none_str g.4
  |_=>exact absurd F.5 a8
 |bl i=>
  cases rx
  cases y with
  |gL=>cases ry;exact PySem.EqNone.ne_bool_none g.4
  |bl j=>cases ry;exact ne_bool (fB I q (cP not aE0))
  |str j=>obtain⟨t',rfl⟩:=ry;exact PySem.EqMixed.ne_bool_str g.4
  |_=>exact absurd F.5 a8
 |int i=>
  obtain⟨t,rfl⟩:=rx
  cases y with
  |gL=>cases ry;exact PySem.EqNone.ne_int_none g.4
  |int j=>obtain⟨t',rfl⟩:=ry;exact ne_int (fB I q (cP not aBG))
  |str j=>obtain⟨t',rfl⟩:=ry;exact PySem.EqMixed.ne_int_str g.4
  |_=>exact absurd F.5 a8
 |str i=>
  obtain⟨t,rfl⟩:=rx
  cases y with
  |gL=>cases ry;exact PySem.EqNone.ne_str_none g.4
  |bl j=>cases ry;exact PySem.EqMixed.ne_str_bool g.4
  |int j=>obtain⟨t',rfl⟩:=ry;exact PySem.EqMixed.ne_str_int g.4
  |str j=>obtain⟨t',rfl⟩:=ry;exact ne_str (fB I q (cP not aBH))
  |_=>exact absurd F.5 a8
 |O6 i=>
  obtain⟨t,rfl⟩:=rx
  cases y with
  |O6 j=>obtain⟨t',rfl⟩:=ry;exact PySem.W.ne_bytes (fB I q (cP not aBI))
  |_=>exact absurd F.5 a8
 |_=>cases y<;>exact absurd F.5 a8
theorem O9:(.Lt,rI0 λi j=> .bl (decide (i<j))).45:=(lt_int q).764
theorem F8:(.LtE,rI0 λi j=> .bl (i,j).52).45:=(le_int q).764
theorem PB:(.Gt,rI0 λi j=> .bl (decide (j<i))).45:=(gt_int q).764
theorem PD:(.GtE,rI0 λi j=> .bl (decide (j<=i))).45:=(ge_int q).764
theorem aBJ:(.IsNot,λx y H Q=>y= .gL/\(!(x,.gL).11).572).45:=by
 intro pins s σ H x y v u Q I rx ry h;obtain⟨rfl,q⟩:=h;cases ry;refine isnot_none_gen (fB I q ?_)
 cases x<;>first
  |(cases rx;rfl)
  |(obtain⟨t,rfl⟩:=rx;rfl)
theorem cG(b:Expr){op:CmpOp}(h:op≠.In:=by decide)(h2:op≠.NotIn:=by decide):s.13:=by
 have e1:((op==CmpOp.In)).25:=h.748
 have e2:((op==CmpOp.NotIn)).25:=h2.748
 cases b<;>simp[behindInMarks,e1,e2]
theorem jB{op:CmpOp}{r:R2}(ho:(op,r).45)(ha:a.98)(hb:PE X b tb)(hm:s.13):PE X (.Compare a [op] [b] pos) (tOp r ta tb):=(wpAny_Compare1 (ho pins s2 σ H2 x y v u Q I2 rx ry q).803 hm).690
def aOr(t:TE):TT:=(λx H'=>∃k,x= .bl k/\Q k H').586
theorem bZ{op:CmpOp}{r:R2}(ho:(op,r).45)(ha:a.98)(hb:PE X b tb)(hm:s.13):PT X (.Compare a [op] [b] pos) (aOr (tOp r ta tb)):=by
 intro pins s σ H Q I h;refine wpAny_isTrue_Compare1 (iA ((_).543) λv s1 ⟨x,H1,I1,r1,q1⟩=>iA ((_).657) λu s2 ⟨y,H2,I2,r2,q2⟩=>
  iA (ho pins s2 σ H2 x y v u _ I2 r1 r2 q2) λc s3 ⟨z,H3,I3,r3,k,e,q3⟩=>?_) hm
 subst e;cases r3;exact fU ⟨H3,I3,q3⟩
def aK5(r r':R2)(ta tb tc:TE):TE:=λσ H Q=>ta σ H λx H1=>tb σ H1 λy H2=>r x y H2 λz H3=>∃k,z= .bl k/\
 ((k,tc σ H3 λw' H4=>r' y w' H4 Q,Q (.bl false) H3).8)
theorem J9{op op':CmpOp}{r r':R2}(ho:(op,r).45)(JF:(op',r').45)(ha:a.98)(hb:PE X b tb)(hc:PE X c tc)
 (hm:(lastMarks [op,op'] [b,c]).25:=by with_unfolding_all rfl):PE X (.Compare a [op,op'] [b,c] pos) (aK5 r r' ta tb tc):=by
 intro pins s σ H Q I h;refine Compare_chain (iA ((_).543) λv s1 ⟨x,H1,I1,r1,q1⟩=>chain_link (iA ((_).657) λu s2 ⟨y,H2,I2,r2,q2⟩=>
  iA (ho pins s2 σ H2 x y v u _ I2 r1 r2 q2) λd s3 ⟨z,H3,I3,r3,k,e,q3⟩=>?_)) hm
 subst e;cases r3;refine fU ?_
 cases k with
 |false=>exact ite_ff ⟨.bl false,H3,I3,rfl,q3⟩
 |true=>exact ite_tt (chain_last (iA (hc pins s3 σ H3 _ I3 q3) λw' s4 ⟨z',H4,I4,r4,q4⟩=>JF pins s4 σ H4 y z' u w' Q I4 r2 r4 q4))
def aK6(K:PySem.W.Frag)(x:V)(H:Hp)(k:Bool):Prop:=
 match x with
 | .gL=>k.25
 | .bl b=>k=b
 | .int i=>k=(i !=0)
 | .str y=>y.length.37/\k=(y.length.6 !=0)
 | .O6 y=>y.size.37/\k=(y.size.6 !=0)
 | .ref p=>(bP K H p xs,lN K H p xs).154
 |_=>False
theorem ZG{κ:Type}{eI:e.5}{vs:(κ,Value).31}(r:KV eI vs):(!vs.isEmpty)= !eI.isEmpty:=by cases r<;>rfl
theorem KA{xs:e.3}{bY:h.3}(r:xs.520):(!bY.toArray.isEmpty)= !xs.isEmpty:=by cases r<;>simp
theorem KC:(sizeLine:Nat)<2^63:=by rw[bJ];decide
theorem aK7:aTa X (λx H Q=>∃k,aK6 X.K x H k/\Q k H):=by
 intro pins s σ H x v Q I rx h;obtain⟨k,e,q⟩:=h;have hl:=KC;have hs:sizeLine=16777216:=bJ
 cases x with
 |gL=> cases rx;have e':k.25:=e;subst e';exact truthy_none ⟨H,I,q⟩
 |bl b=> cases rx;have e':k=b:=e;subst e';exact fU ⟨H,I,q⟩
 |int i=> obtain⟨t,rfl⟩:=rx;have e':k=(i !=0):=e;subst e';exact PySem.P.truthy_int ⟨H,I,q⟩
 |str y=> obtain⟨t,rfl⟩:=rx;obtain⟨hy,e'⟩:y.length.37/\k=(y.length.6 !=0):=e;subst e';exact PySem.P.truthy_str b.3 ⟨H,I.tok _,q⟩
 |O6 y=> obtain⟨t,rfl⟩:=rx;obtain⟨hy,e'⟩:y.size.37/\k=(y.size.6 !=0):=e;subst e';exact PySem.W.truthy_bytes b.3 ⟨H,I.tok _,q⟩
 |ref p=>
  cases rx;have e':(bP X.K H p xs,lN X.K H p xs).154:=e;rcases e' with⟨xs,hx,e'⟩|⟨xs,hx,e'⟩|⟨eI,hx,e'⟩
  . subst e';obtain⟨bY,r,pl,hz⟩:=I.list hx;have hlen:=r.length;exact wpAny_truthy_list pl.isList (by simp only [List.size_toArray];omega) ⟨H,I.tok _,(KA r,q).3⟩
  . subst e';obtain⟨bY,r,pl,hz⟩:=I.tuple hx;have hlen:=r.length;exact truthy_tuple pl (by simp only [List.size_toArray];omega) ⟨H,I.tok _,(KA r,q).3⟩
  . subst e';obtain⟨hz,hS,vs,r,m⟩:eI.length.37/\p.620/\∃vs,KV eI vs/\s.heap.DictOf (kU X.prog X.w) p vs:=I.cZ p _ hx;have hlen:eI.length=vs.length:=aO r;exact wpAny_truthy_dict hS m b.3 ⟨H,I.tok _,(ZG r,q).3⟩
 |_=>exact(show False from e).elim
theorem KD(ha:a.98)(he: A.16):
 PT X a (λσ H Q=>ta σ H λx H'=>∃k,aK6 X.K x H' k/\Q k H'):=(isTrue_plain (iA (_).543 λv s1 ⟨x,H1,I1,r1,q1⟩=>aK7 pins s1 σ H1 x v Q I1 r1 q1) (he _)).690
theorem vals1{x:V}{us:h.3}(r:([x]).69): ∃u,us=[u]/\x.46:=by
 cases r with
 |cons r1 r2=>cases r2;exact r1.28
theorem vals2{x y:V}{us:h.3}(r:([x,y]).69): ∃u w',us=[u,w']/\x.46/\RelV y w':=by
 cases r with
 |cons r1 r2=>
  cases r2 with
  |cons r3 r4=>cases r4;exact(r1,r3).85
theorem aC3(hc:P.3):("min",λxs H Q=>∃i j,xs=[.int i,.int j]/\(if j<i then j else i).619).54:=by
 intro pins s σ H xs us Q I r h;obtain⟨i,j,rfl,q⟩:=h;obtain⟨u,w',rfl,⟨t,rfl⟩,⟨t',rfl⟩⟩:=vals2 r;refine min_two_ints S.4 λh' tk k=>⟨_,H,I.kept k,?_,q⟩;by_cases hj:j<i
 . rw[if_pos hj,if_pos hj];exact⟨_,rfl⟩
 . rw[if_neg hj,if_neg hj];exact⟨_,rfl⟩
end
end L2
namespace L2
open PySem PySem.Spec PyProof.Rows
structure ZH(h:Heap)(x dx C:Addr)(mA:k.3):Prop where
 obj:(x,dx.679).30
 ns:h.Ns1 dx mA
 ne:dx≠x
theorem aC4{h:Heap}{dx:Addr}{mA:k.3}(n:h.Ns1 dx mA): ∃od,(dx,od).30/\∀name,PySem.W.lookIn name od=some (mA name):=by
 obtain⟨o,es,ep,ho,hd,hk,_,hm⟩:=n;refine⟨o,ho,λname=>?_⟩;have e:=hm name;unfold nsFind findBy at e;rw[<-Array.find?_toList] at e;unfold PySem.W.lookIn;rw[hd];dsimp only;split
 . rename_i y q;rw[q] at e;exact cP some e
 . rename_i q;rw[q] at e;have a:(es.toList.any (·.refKey)).25:=by rw[List.any_eq_false];intro y hy;obtain⟨z,t,IA⟩:=hk y (nX.mp hy);simp[DictEntry.refKey,IA]
   have a':¬(es.toList.any (·.refKey)).7:=(a,a8).3
   rw[if_neg a'];exact cP some e
theorem ZH.look{h:Heap}{x dx C:Addr}{mA:k.3}(I:ZH h x dx C mA): ∃od,PySem.W.InstAt h x dx.679 C (some od)/\∀name,PySem.W.lookIn name od=some (mA name):=
 let ⟨od,ho,hl⟩:=aC4 I.ns
 ⟨od,⟨I.obj,rfl,rfl,ho⟩,hl⟩
section
variable{prog:Program}{w:World}{A:Around}{E:l.3}{s:Shared}{K:PySem.W.Frag}{x dx C f:Addr}{mA:k.3}{name:Str}{v:Value}
theorem get_map{expr:Bool}{Q:l.3}(X:K.In s.heap)(I:ZH s.heap x dx C mA)(hg:name.724)(hh:g.14)
 (ha:(name,none).77) (hv:mA name=some v) (AE:(PySem.W.handedIn v).7) (h:Q v R.5):
 (getAttr (.ref x) name expr).65:=by obtain⟨od,J,hl⟩:=I.look;exact PySem.W.get_value X J (O3 hg).1 (PySem.W.findObj_own hh ha rfl (hl,hv).7) AE h
theorem aE1{pl:Sem Bool}{Q:(Value×h.3).49}(X:K.In s.heap)(I:ZH s.heap x dx C mA)(hg:name.724)
 (hf:(name,f.8).77) (ht:r.13) (hv:(mA name).9) (h:Q (.ref f,x.43) s):
 (getMethod (.ref x) name pl).65:=by obtain⟨od,J,hl⟩:=I.look;exact PySem.W.method_fn X J (O3 hg).1 (O3 hg).2 hf (beq_iff_eq.mp ht) (by show(PySem.W.lookIn name od).map (·.isSome)=some false;rw[hl,hv];rfl) h
theorem aHK{ns:x.3}{Q:Unit.49}(X:K.In s.heap)(I:ZH s.heap x dx C mA)
 (hs:f.15) (hp:(PySem.W.plainOver K C).7) (ht:PySem.W.takerIn K C name=some none) (hh:g.14)
 (hw:PySem.Within mA ns) (hsz:ns.length.37)
 (h: ∀h',ZH h' x dx C (λy=>if y=name then some v else mA y)->dx.669->Q () {s with heap:=h',toks:=s.toks+2}):
 (setAttr (.ref x) name v).65:=by obtain⟨od,J,hl⟩:=I.look;refine PySem.W.set_plain X J hs (PySem.W.osa_open (s:=R.5) (r:=none) X J hp ht λb=>?_);obtain⟨cd,hc,VB⟩:=PySem.W.any_some hh;have hx:(x,⟨.ref C,some dx,.plain,#[]⟩).43:=I.obj;refine aB (aH (aB (aB (wpAny_loadPart hx (aB (PySem.W.Looks.here (s:=R.5) (PySem.W.looks_clsIn X hc) ?_))))));rw[VB];refine aH (a:=some dx) (aB (aH (aB ?_)));refine wpAny_nsSet1 (s:=R.5) I.ns λh' hn2 JG=>?_;obtain⟨oD,esD,epD,hoD,hdD,hcD⟩:=hn2.count (PySem.Within.cons name v hw);refine aB (wpAny_lookBehind hoD (hdD,pastItsLine_dict (aG hcD List.length_cons.56)).3 ?_);exact aH (h _ ⟨(JG.2 _ (Ne.symm I.ne)).trans I.obj,hn2,I.ne⟩ JG)
theorem aE2{R:Result.49}{vs:h.3}{kw:Value.57}(X:K.In s.heap)(hm:(PySem.W.makesIn K C).7)
 (hi:("__init__",f.8).77) (hf:PySem.W.typeIn K (.ref f)=some (.type "function"))
 (h:codeAny (A.4) (vs.722) (.call (.ref f) ⟨.ref O.3::vs,kw⟩) (PySem.W.InitBack O.3 R)
  {s with heap:=g.15}):
 codeAny A.4 A (.call (.ref C) ⟨vs,kw⟩) R s:=by obtain⟨hh,g,d,t,os⟩:=s;exact PySem.W.make_core (PySem.W.makes_of X hm) (PySem.W.looks_findIn X hi) (λself=>PySem.W.bind_fn X self hf) B.3 h
end
def d8(f:Str)(v:V):V.57->V.57
 |[]=>[(f,v)]
 |(g,x)::r=>if g=f then(g,v)::r else(g,x)::d8 f v r
theorem F9(f g:Str)(v:V): ∀fs:V.57,(d8 f v fs).lookup g=if g=f then some v else fs.lookup g
 |[]=>by
  show List.lookup g [(f,v)]=_;by_cases h:g=f
  . have hb:((g==f)).7:=beq_iff_eq.mpr h;simp only [List.lookup,hb,if_pos h]
  . have hb:((g==f)).25:=fG.mpr h;simp only [List.lookup,hb,V.4]
 |(k,x)::r=>by
  have ih:=F9 f g v r;rw[show d8 f v ((k,x)::r)=x.15 from rfl];by_cases hk:k=f
  . rw[if_pos hk];by_cases h:g=k
    . have hb:((g==k)).7:=beq_iff_eq.mpr h;simp only [List.lookup,hb,if_pos (h.trans hk)]
    . have hb:((g==k)).25:=fG.mpr h;simp only [List.lookup,hb,if_neg (λe:g=f=>h (e.trans hk.symm))]
  . rw[if_neg hk];by_cases h:g=k
    . have hb:((g==k)).7:=beq_iff_eq.mpr h;simp only [List.lookup,hb,if_neg (λe:g=f=>hk (h.symm.trans e))]
    . have hb:((g==k)).25:=fG.mpr h;simp only [List.lookup,hb];exact ih
theorem E7(f:Str)(v:V): ∀fs:V.57,f∈(d8 f v fs).607/\∀g,g∈fs.map (·.1)->g∈(d8 f v fs).607
 |[]=>⟨d8.24,λg h=>C.4⟩
 |(k,x)::r=>by
  obtain⟨i1,i2⟩:=E7 f v r;rw[show d8 f v ((k,x)::r)=x.15 from rfl];by_cases hk:k=f
  . rw[if_pos hk];subst hk;exact⟨c.3,λg h=>m.4⟩
  . rw[if_neg hk];refine⟨?_,λg h=>?_⟩
    . rw[List.map_cons];exact bG _ i1
    . rw[List.map_cons] at h⊢;rcases G.11 with e|e
      . exact List.mem_cons.mpr (.inl e)
      . exact bG _ (i2 g e)
theorem GA(f:Str)(v:V): ∀fs:V.57,(d8 f v fs,fs.length+1).8
 |[]=>d8.24
 |(k,x)::r=>by
  have ih:=GA f v r;rw[show d8 f v ((k,x)::r)=x.15 from rfl];by_cases hk:k=f
  . rw[if_pos hk,List.length_cons,List.length_cons];omega
  . rw[if_neg hk,List.length_cons,List.length_cons];omega
theorem E1.some_of{v:V}{o:v.5}(r:E1 (some v) o): ∃u,o.67/\v.46:=by
 cases o with
 |none=>exact(show False from r).elim
 |some u=>exact(u,r).50
theorem E1.none_of{o:v.5}(r:E1 none o):o.9:=by
 cases o with
 |none=>rfl
 |some u=>exact(show False from r).elim
theorem aC5{v:V}{u:Value}(r:v.46):(PySem.W.handedIn u).7:=by
 cases v with
 |gL=>cases (u=Value.none).623;rfl
 |bl b=>cases (u=Value.bool b).623;rfl
 |int i=>obtain⟨t,e⟩:=(∃t,u=Value.int i t).623;cases e;rfl
 |str x=>obtain⟨t,e⟩:=(∃t,u=Value.str x t).623;cases e;rfl
 |O6 b=>obtain⟨t,e⟩:=(∃t,u=Value.bytes b t).623;cases e;rfl
 |flt b=>obtain⟨t,e⟩:=(∃t,u=Value.float b t).623;cases e;rfl
 |ref a=>cases (u=D.5).623;rfl
 |ty n=>cases (u=Value.type n).623;rfl
section
variable{P:Program}{w:World}{H H':Hp}{h h':Heap}{a C dx:Addr}{fs fs':V.57}
theorem R5(cZ:V.3)(e:fs.91.72): ∃mA,ZH h a dx C mA/\(∀f,E1 (fs.lookup f) (mA f))/\PySem.Within mA (fs.map (·.1))/\fs.length.62/\(dx,.own a).5:=by obtain⟨d,z,ne,ob,mA,n,r,q⟩:=(show fs.91.576 from cZ a _ e);exact⟨mA,⟨ob,n,ne⟩,r,q,z,d⟩
end
structure ZI(K:PySem.W.Frag)(C:Addr):Prop where
 pg:Str.empty.724
 hd:g.14
 po:(PySem.W.plainOver K C).7
 sa:f.15
theorem ZI.get{K:PySem.W.Frag}{C:Addr}(c:ZI K C)(f:Str):f.724:=c.pg
def fW(K:PySem.W.Frag)(C:Addr)(f:Str):Prop:=(f,none).77
theorem fW.aOs{K:PySem.W.Frag}{C:Addr}{f:Str}(n:fW K C f):PySem.W.takerIn K C f=some none:=by unfold PySem.W.takerIn;rw[show(f,none).77 from n];rfl
structure Meth(K:PySem.W.Frag)(C:Addr)(m:Str)(f:Addr):Prop where
 at_:(m,f.8).77
 fn:r.13
 kp:m.11
section
variable{X:Cx}{pins:j.3}{σ:St}{H:Hp}{s:Shared}{a C dx:Addr}{fs:V.57}{f:Str}{v:V}{A:Around}{E:l.3}
theorem KG{b:Bool}{Q:l.3}(I:g.3)(e:fs.91.72)(c:ZI X.K C)(n:fW X.K C f)(l:fs.lookup f=some v)
 (h: ∀u s',(H,s').19->v.46->Q u s'):(getAttr p.3 f b).758:=by obtain⟨mA,O,r,_,_,_⟩:=R5 I.cZ e;obtain⟨u,hu,ru⟩:=E1.some_of (v:=v) (o:=mA f) (l,r f).15;exact get_map I.R1 O (c.get f) c.hd n hu (aC5 ru) (h u _ (I.tok _) ru)
theorem BI{m:Str}{g:Addr}{pl:Sem Bool}{Q:(Value×h.3).49}(I:g.3)(e:fs.91.72)(c:ZI X.K C)(k:Meth X.K C m g)(l:(fs.lookup m).9)
 (h:Q (.ref g,[p.3]) s):(getMethod p.3 m pl).758:=by obtain⟨mA,O,r,_,_,_⟩:=R5 I.cZ e;have hn:(mA m).9:=E1.none_of (l,r m).15;exact aE1 I.R1 O (c.get m) k.at_ k.fn hn h
theorem KH{y:V}{u:Value}{Q:Unit.49}(I:g.3)(e:fs.91.72)(c:ZI X.K C)(n:fW X.K C f)(hl:fs.length<1000)(ry:y.46)
 (h: ∀s',((C,d8 f y fs).22.501,s').19->Q () s'):(setAttr p.3 f u).758:=by
 obtain⟨mA,O,r,wi,_,ho⟩:=R5 I.cZ e;have hz:((fs.map (·.1)).length).37:=bJ.663
 refine aHK I.R1 O c.sa c.po n.aOs c.hd wi hz λh' O' sb=>h _ ?_;have hd:∃o,(h'.get? dx).23:=let ⟨o,_,_,e',_⟩:=O'.ns;⟨o,e'⟩
 refine I.write (x:=a) (e:=dx) e.574 (.inr ho) (λb q hb z=>(b,hb,z).22) hd ?_;refine⟨(O.ne,ho).29,?_,O.ne,O'.obj,_,O'.ns,λg=>?_,λg hg=>?_⟩
 . have:=GA f y fs;omega
 . show E1 ((d8 f y fs).lookup g) (if g=f then some u else mA g);rw[F9];by_cases q:g=f
   . rw[if_pos q,if_pos q];exact ry
   . rw[if_neg q,if_neg q];exact r g
 . by_cases q:g=f
   . rw[q];exact(E7 f y fs).1
   . refine(E7 f y fs).2 g (wi g λz=>hg ?_);show(g=f,some u,mA g).14.9;rw[if_neg q];exact z
theorem Inv.made(I:g.3):Inv X pins σ (upd (.own O.3).609 O.3 (.ins C s.heap.objs.size []))
 {s with heap:=g.15}:=by
 have e1:(A.14,s.heap.objs.size,PySem.W.emptyDict).20:=aU s.heap rfl;have e2:(g.15,O.3,s.heap.objs.size.679).20:=by have:=aU A.14 (o:=s.heap.objs.size.679) rfl;rwa [dJ] at this
 have e3:(A.14).Ns s.heap.objs.size (λ_=>none):=⟨PySem.W.emptyDict,#[],_,e1,rfl,λe he=>he.515,λ_=>rfl⟩;have I1:=I.laid (a:=s.heap.objs.size) (o:= .own O.3) (h':=A.14) (t':=s.toks) (λb u q=>aN _ q) (aS _) e1.20;refine I1.laid (a:=O.3) (o:= .ins C s.heap.objs.size []) (t':=s.toks) (λb u q=>aN _ q) (YS (dJ _ _)) ?_;have ne:s.heap.objs.size≠O.3:=bS (tX _);refine⟨(bF ne,aI).7,aW _,ne,e2,λ_=>none,(Heap.Ns1.of_empty e3).at λo q=>aN _ q,λ_=>True.intro,λy hy=>absurd rfl hy⟩
theorem aHL{prog:Program}{w:World}{env:Env}{e:Expr}{f:Str}{pos:Pos}{s:Shared}{Q:l.3}(hb:attributeBase e f env (eval e env)=eval e env)
 (h:wpAny (model prog w) A (eval e env) (λo s₁=>wpAny A.4 A (getAttr o f true) Q E s₁) E s):(eval (.Attribute e f pos) env).65:=
 Attribute_any_ h (arm_eval_Attribute,hb).7
end
def aOt(K:PySem.W.Frag)(ta:TE)(f:Str):TE:=(∃a C dx fs v,x=p.3/\H1 a=some fs.91/\ZI K C/\fW K C f/\fs.lookup f=some v/\Q v H1).668
def aTf(K:PySem.W.Frag)(ta tv:TE)(f:Str):TS:=λD σ H=>tv σ H λy H1=>ta σ H1 λx H2=>∃a C dx fs,x=p.3/\H2 a=some fs.91/\ZI K C/\fW K C f/\fs.length<1000/\
 D.nx σ (upd H2 a (C,d8 f y fs).22)
def aOu(X:Cx)(op:Operator)(rd:V->V->n.5):Prop:=
 ∀(pins:j.3) (s:Shared) (σ:St) (H:Hp) (x y:V) (u v:Value) (Q:VK),g.3->x.46->RelV y v->rd x y H Q->(inplaceOp op u v).591
def aHM(K:PySem.W.Frag)(ta tv:TE)(rd:V->V->n.5)(f:Str):TS:=λD σ H=>ta σ H λx H1=>∃a C dx fs v,x=p.3/\H1 a=some fs.91/\ZI K C/\fW K C f/\fs.lookup f=some v/\
 tv σ H1 λy H2=>rd v y H2 λz H3=>∃dx' fs',H3 a=some (.ins C dx' fs')/\fs'.length<1000/\D.nx σ (upd H3 a (.ins C dx' (d8 f z fs')))
section
variable{X:Cx}{o e value:Expr}{f:Str}{pos pos' N9:Pos}{ta tv:TE}
theorem lA(he:e.98)(hb:attributeBase e f X.env e.58=e.58):PE X (.Attribute e f pos) (aOt X.K ta f):=by intro pins s σ H Q I h;refine aHL hb (λu s1 ⟨x,H1,I1,rx,a,C,dx,fs,v,ex,ea,c,n,l,q⟩=>?_).624;subst ex;obtain rfl:u=D.5:=rx;exact KG I1 ea c n l λu' s2 I2 ru=>⟨v,H1,I2,ru,q⟩
theorem fK(ha:o.98)(hv:PE X value tv)(hs:(value,.Attribute o f pos').130):(.Attribute o f pos',value,aTf X.K ta tv f).37:=by intro pins s σ H D I h;refine plainObj_wpAny_Assign_Attribute (iA (hv pins s σ H _ I h) λu s1 ⟨y,H1,I1,ry,q⟩=>iA (ha pins s1 σ H1 _ I1 q) λov s2 ⟨x,H2,I2,rx,a,C,dx,fs,ex,ea,c,n,l,q2⟩=>?_) hs;subst ex;obtain rfl:ov=D.5:=rx;exact KH I2 ea c n l ry λs3 I3=>⟨σ,_,I3,q2⟩
theorem PF{op:Operator}{rd:V->V->n.5}(ha:o.98)(hv:PE X value tv)(hop:aOu X op rd):PS X (.AugAssign (.Attribute o f N9) op value pos) (aHM X.K ta tv rd f):=by intro pins s σ H D I h;refine wpAny_AugAssign_AttributeAny (iA (_).543 λov s1 ⟨x,H1,I1,rx,a,C,dx,fs,v,ex,ea,c,n,l,q⟩=>?_);subst ex;obtain rfl:ov=D.5:=rx;refine KG I1 ea c n l λu s2 I2 ru=>iA (hv pins s2 σ H1 _ I2 q) λw3 s3 ⟨y,H2,I3,ry,q3⟩=>iA (hop pins s3 σ H2 v y u w3 _ I3 ru ry q3) λw4 s4 ⟨z,H3,I4,rz,dx',fs',ea',l',q4⟩=>?_;exact KH I4 ea' c n l' rz λs5 I5=>⟨σ,_,I5,q4⟩
def aTh:V->V->n.5:=(i+j).619.792
theorem aE3:aOu X .Add aTh:=by rintro pins s σ H x y u v Q I rx ry ⟨i,j,rfl,rfl,q⟩;obtain⟨t,rfl⟩:=(show∃t,u=Value.int i t from rx);obtain⟨t',rfl⟩:=(show∃t',v=Value.int j t' from ry);exact PyProof.Rows.iadd_int (i+j).713
theorem aJO{pl:Sem Bool}{m:Str}{apos:Pos}{args:X.3}{pins:j.3}{s:Shared}{σ:St}{H:Hp}{Q:l.3}{te:TE}(he:PE X e te)(I:g.3)
 (h:te σ H λx H1=>∃a C dx fs g,x=p.3/\H1 a=some fs.91/\ZI X.K C/\Meth X.K C m g/\(fs.lookup m).9/\
  ∀s1,o.10->(callWith pos (.ref g) [p.3] args.581 (pos,[]).80,Q,s1).28)
 (ht:(.Attribute e m apos,args).49.58=(do
  let ov<-e.58
  F.11
  let (f,first)<-c.12
  args.672)):
 ((.Attribute e m apos,args).49.58,Q).53:=by refine IZ (pl:=pl) (λu s1 ⟨x,H1,I1,rx,a,C,dx,fs,g,ex,ea,c,k,l,q⟩=>?_).624 ht;subst ex;obtain rfl:u=D.5:=rx;exact BI I1 ea c k l (q s1 I1)
end
section
variable{X:Cx}{pins:j.3}{σ:St}{H:Hp}{s:Shared}{A:Around}{E:l.3}{Q:l.3}{c:Value}{b:Bool}
end
end L2
namespace L2
open PySem PySem.Spec PyProof.Rows
structure cS(k:Nat)(A:Around):Prop where
 hd:s.5
 dp:A.depth+3*k+5<recursionLimit
 un:(A.units+16*k+200).61
theorem cS.mono{j k:Nat}{A:Around}(r:cS k A)(h:j<=k):cS j A:=⟨r.hd,r.dp.90,r.un.90⟩
theorem cS.deeper{k:Nat}{A:Around}(r:cS (k+1) A)(env:Env):cS k (A.deeper env):=
 (A.depth+1,A.units+3).146
theorem cS.in1{k:Nat}{A:Around}(r:cS (k+1) A):cS k A.in1:=
 (A.depth,A.units+1).146
theorem ZJ{A:Around}{C:Addr}{us:h.3}{kw:Value.57}:(us.722).depth=A.depth+1:=by first|rfl|simp[Around.under,Code.weight,Code.isCreation,Code.isGuard,Code.isCaller,Code.frames,Code.isFrame,guardIds]
theorem ZK{A:Around}{C:Addr}{us:h.3}{kw:Value.57}:(us.722).units=A.units+1:=by first|rfl|simp[Around.under,Code.cUnits,Code.frames,Code.isFrame]
theorem cS.make{k:Nat}{A:Around}(r:cS (k+1) A)(C:Addr)(us:h.3)(kw:Value.57):cS k us.722:=
 ⟨r.hd,by have:=r.dp;rw[ZJ];omega,by have:=r.un;rw[ZK];omega⟩
theorem cS.depth{k:Nat}{A:Around}(r:cS k A):A.depth<recursionLimit:=r.dp.90
theorem cS.units{k:Nat}{A:Around}(r:cS k A):(A.units+64).61:=r.un.90
def ZL:TA:=λ_ H Q=>Q [] H
def aE4(ta:TE)(tr:TA):TA:=(tr σ H1 λxs H2=>Q (x::xs) H2).668
section
variable{X:Cx}{e:Expr}{es:X.3}{te:TE}{t:TA}{pos:Pos}
theorem aJ:PA X [] ZL:=λ_ _ _ _ H Q I h=>Calls.spliced_nil ⟨[],H,I,.nil,h⟩
theorem aD(ha:PE X e te)(hr:PA X es t)(hs:k.5:=by rfl):PA X (e::es) (aE4 te t):=by intro pos pins s σ H Q I h;rw[hs];show wpAny _ _ (spliced ((false,e.58)::es.581)) _ _ s;refine Calls.spliced_cons (iA (_).543 λu s1 ⟨x,H1,I1,r1,q1⟩=>?_);exact u.16
def aTi(t:TA):TE:=(λxs H1=>k.10/\∀p,(H1 p).9->(p,(p,a.4).25).42).586
def aTj(t:TA):TE:=(λxs H1=>k.10/\∀p,(H1 p).9->(p,(H1,p,xs).3).42).586
theorem qI{x1}(h:PA X es t):PE X (.Tuple es x1 pos) (aTi t):=(wpAny_Tuple_spliced t.16,(s1.heap.objs.size,a.4).25,⟨z,us,r,(G.3,_).98,_,G.3,rfl⟩).45
theorem c7(h:PA X es t):PE X (.List es pos) (aTj t):=(wpAny_List_spliced t.16,(H1,s1.heap.objs.size,xs).3,⟨z,us,0,r,G.3⟩).45
end
abbrev Sp:=e.3->Hp->(VK,XK).16
abbrev YW:=j.4->Hp->Shared->XK->l.3
structure VD(P:Program)(w:World)(K:PySem.W.Frag)(mg:k.3)(base:Heap)(A:Around)(outer:j.4)(s:Shared)(H:Hp):Prop where
 frames:A.frames=some outer
 mod:Mod K mg base
 bs: ∀b o,(base.get? b).23->b.70/\b.21
 Y9:base.objs.size<=s.heap.objs.size
 w8:s.heap.FunFrames base outer
 frf: ∀b∈B.4,b.21
 cZ:oV P w H s.heap
 bare:AllBare s.gens
def CE(outer:j.4)(P:Program)(w:World)(H:Hp)(s:Shared)(Q:VK)(u:Value)(s':Shared):Prop:=
 ∃v H',s'.os=s.os/\AllBare s'.gens/\Un B.4 [] H H' s.heap s'.heap/\oV P w H' s'.heap/\v.46/\Q v H'
def CR(CX:YW)(outer:j.4)(P:Program)(w:World)(H:Hp)(s:Shared)(Q:VK)(E:XK)(r:Result)(s':Shared):Prop:=
 match r with
 | .ok (.ret u)=>CE outer P w H s Q u s'
 | .ok _=>False
 | .error e=>CX outer H s E e s'
structure oI(P:Program)(w:World)(K:PySem.W.Frag)(mg:k.3)(base:Heap)(CX:YW)(k:Nat)(f:Addr)(fd:FuncData)(ps:x.3)(sp:Sp):Prop where
 len: t.10
 run: ∀(A:Around) (outer:j.4) (s:Shared) (H:Hp) (args:Args) (us:h.3) (vs:e.3) (Q:VK) (E:XK),cS k A->VD P w K mg base A outer s H->BindsTo s fd args (ps.zip us)->vs.69->sp vs H Q E->
  codeAny (model P w) A (.call (.ref f) args) (CR CX outer P w H s Q E) s
theorem oI.mono{P:Program}{w:World}{K:PySem.W.Frag}{mg:k.3}{base:Heap}{CX:YW}{j k:Nat}{f:Addr}{fd:FuncData}{ps:x.3}{sp:Sp}(F:oI P w K mg base CX j f fd ps sp)(h:j<=k):
 oI P w K mg base CX k f fd ps sp:=⟨F.len,λA outer s H args us vs Q E hr=>F.run A outer s H args us vs Q E (hr.mono h)⟩
theorem VD.make{P:Program}{w:World}{K:PySem.W.Frag}{mg:k.3}{base:Heap}{A:Around}{outer:j.4}{s:Shared}{H:Hp}(e:VD P w K mg base A outer s H)(C:Addr)(us:h.3)(kw:Value.57):
 VD P w K mg base us.722 outer s H:=⟨by first|exact e.frames|(simpa [Around.under,Code.envs,Code.isFrame,pushEnvs] using e.frames),e.mod,e.bs,e.Y9,e.w8,e.frf,e.cZ,e.bare⟩
section
variable{X:Cx}{pins:j.3}{σ:St}{H:Hp}{s s':Shared}
theorem Inv.aK8(I:g.3):VD X.prog X.w X.K X.mg X.base X.A X.stack s H:=
 ⟨I.ok.frames,I.ok.mod,I.bs,aG I.ok.Y9 I.sz,I.stack,I.R3,I.cZ,I.bare⟩
theorem Inv.after{Q:VK}{u:Value}(I:g.3)(h:CE X.stack X.prog X.w H s Q u s'):(u,s').87:=by obtain⟨v,H',os,bare,un,cZ,r,q⟩:=h;obtain⟨hh,g,d,t,os'⟩:=s';obtain rfl:os'=s.os:=os;exact⟨v,H',I.call (h':=hh) (g':=g) (d':=d) (t':=t) (ch:=[]) un cZ bare (λb z=>z.515),r,q⟩
end
def aJP(sp:Sp)(KI:e.3)(E:XK)(t:TA):TE:=(λvs H1=>sp (vs++KI) H1 Q E).586
def PH(C:Addr)(m:Str)(sp:Sp)(KI:e.3)(E:XK)(ta:TE)(t:TA):TE:=λσ H Q=>ta σ H λx H1=>∃a dx fs,x=p.3/\H1 a=some fs.91/\(fs.lookup m).9/\
 t σ H1 λvs H2=>sp (x::(vs++KI)) H2 Q E
def aBK(C:Addr)(sp:Sp)(KI:e.3)(E:XK)(t:TA):TE:=λσ H Q=>t σ H λvs H1=>∀x dx,(H1 x).9->(H1 dx).9->dx≠x->
 sp (.ref x::(vs++KI)) (upd (dx,.own x).25 x ([]).91) (λv H2=>v= .gL/\(x,H2).42) E
def Binds(K:PySem.W.Frag)(fd:FuncData)(ps:x.3)(ds:h.3):Prop:=
 ∀(s:Shared) (us:h.3),K.In s.heap->(us++ds,ps.length).6->BindsTo s fd us.93 (ps.zip (us++ds))
theorem Binds.all{K:PySem.W.Frag}{fd:FuncData}{ps:x.3}(h: ∀us:h.3,fd.799):K.627:=λs us _ hl=>by rw[List.append_nil] at hl⊢;exact .of_eq (h us hl)
def Passes(CX:YW)(X:Cx)(E:XK):Prop:=∀(pins:j.3) (σ:St) (H:Hp) (s:Shared) (e:Value) (s':Shared),g.3->CX X.stack H s E e s'->X.xe e s'
section
variable{X:Cx}{CX:YW}{k:Nat}{f C:Addr}{fd:FuncData}{ps:x.3}{sp:Sp}{KI:e.3}{ds:h.3}{E:XK}{x m:Str}{p pos apos:Pos}{e o:Expr}{es:X.3}{ta:TE}{t:TA}
theorem R6{pins:j.3}{σ:St}{H:Hp}{s:Shared}{Q:VK}{us:h.3}{vs:e.3}(F:oI X.prog X.w X.K X.mg X.base CX k f fd ps sp)(hr:cS k X.A)(hb:b.12)(hd:Vals KI ds)(hx:V.11)
 (I:g.3) (r:vs.69) (h:sp (vs++KI) H Q E):(call (.ref f) us).591:=by
 have r2:Vals (vs++KI) (us++ds):=r.append hd;have hl:(us++ds,ps.length).6:=(r2.length,F.len _ _ _ _ h).15
 refine wpAny_call (vA (F.run X.A X.stack s H us.93 (us++ds) (vs++KI) Q E hr I.aK8 (hb s us I.R1 hl) r2 h) λr s' hq=>?_)
 cases r with
 |error e=>exact hx pins σ H s e s' I hq
 |ok fl=>
  cases fl with
  |ret u=>exact I.after hq
  |next=>exact False.elim hq
  |brk=>exact False.elim hq
  |cont=>exact False.elim hq
theorem aHN(F:oI X.prog X.w X.K X.mg X.base CX k f fd ps sp)(hr:cS k X.A)(hg:Gl X x)(hm:X.mg x=some (.ref f))(hk:(X.K,.ref f).105)(hb:b.12)(hd:Vals KI ds)(hx:V.11)
 (ha:a.5) (OA:F.4:=by decide) (he:k.5:=by rfl) (kY:n.10:=by rfl):
 (aJP sp KI E t).667:=(hk,R6 F hr hb hd hx I1 r q).153
theorem aBL{pl:Sem Bool}(he:o.98)(c:ZI X.K C)(hm:Meth X.K C m f)(F:oI X.prog X.w X.K X.mg X.base CX k f fd ps sp)(hr:cS k X.A)(hb:b.12)(hd:Vals KI ds)(hx:V.11)(ha:a.5)
 (jM:k.5:=by rfl) (kY:n.10:=by rfl)
 (ht:(e::es).694=(do
  let ov<-o.58
  F.11
  let (f,first)<-c.12
  (e::es).672):=by rfl):
 PE X (m.652,e::es).49 (PH C m sp KI E ta t):=by intro pins s σ H Q I h;refine D.16;subst ex;obtain rfl:u=D.5:=rx;refine BI I1 ea c hm l ?_;refine zJ (first:=[p.3]) (h₀:=X.base) I.ok.mod.kin hm.kp (iA (ha pos pins s1 σ H1 _ I1 q) λus s2 ⟨vs,H2,I2,r,q2⟩=>I2.R1.71) jM kY;exact R6 (us:=p.3::us) (vs:=p.3::vs) F hr hb hd hx I2 r.511 q2
theorem VE{pl:Sem Bool}(he:o.98)(c:ZI X.K C)(hm:Meth X.K C m f)(F:oI X.prog X.w X.K X.mg X.base CX k f fd ps sp)(hr:cS k X.A)(hb:b.12)(hd:Vals KI ds)(hx:V.11)
 (ht:([]).694=(do
  let ov<-o.58
  F.11
  let (f,first)<-c.12
  ([]).672):=by rfl):
 PE X (m.652,[]).49 (PH C m sp KI E ta ZL):=by intro pins s σ H Q I h;refine D.16;subst ex;obtain rfl:u=D.5:=rx;refine BI I1 ea c hm l ?_;exact PySem.W.callWith_K0 (first:=[p.3]) I1.R1 hm.kp (R6 (us:=[p.3]) (vs:=[p.3]) F hr hb hd hx I1 (.nil).511 q)
structure Mk(K:PySem.W.Frag)(C f:Addr):Prop where
 makes:(PySem.W.makesIn K C).7
 init:("__init__",f.8).77
 fn:r.13
 kp:(K,.ref C).105
theorem VF{pins:j.3}{σ:St}{H:Hp}{s:Shared}{Q:VK}{us:h.3}{vs:e.3}(M:Mk X.K C f)(F:oI X.prog X.w X.K X.mg X.base CX k f fd ps sp)(hr:cS (k+1) X.A)(hb:b.12)(hd:Vals KI ds)
 (hx:V.11) (I:g.3) (r:vs.69)
 (h: ∀x dx,x.21->dx.21->dx≠x->sp (.ref x::(vs++KI)) (upd W.5 x ([]).91) (λv H2=>v= .gL/\(x,H2).42) E):
 (call (.ref C) us).591:=by
 have hq:=h O.3 s.heap.objs.size (I.cZ.fresh (u7 _)) T.4 (bS (tX _));have I2:=Inv.made (C:=C) I;have r2:Vals (V.ref O.3::(vs++KI)) (Value.ref O.3::(us++ds)):=(r.append hd).511;have hl:(Value.ref O.3::us++ds,ps.length).6:=by have e:=r2.length;rw[F.len _ _ _ _ hq] at e;exact e.symm
 refine wpAny_call (aE2 (f:=f) I.R1 M.makes M.init (beq_iff_eq.mp M.fn) (vA (F.run _ X.stack _ _ (Value.ref O.3::us).93 (Value.ref O.3::(us++ds)) _ _ E (hr.make C us [])
  (I2.aK8.make C us []) (hb _ (Value.ref O.3::us) I2.R1 hl) r2 hq) λr s' hq'=>?_))
 cases r with
 |error e=>exact hx pins σ _ _ e s' I2 hq'
 |ok fl=>
  cases fl with
  |ret u=> obtain⟨v,H',I3,rv,ev,q3⟩:=I2.after hq';subst ev;exact⟨rv,⟨V.ref O.3,H',I3,rfl,q3⟩⟩
  |next=>exact False.elim hq'
  |brk=>exact False.elim hq'
  |cont=>exact False.elim hq'
theorem aHO(M:Mk X.K C f)(F:oI X.prog X.w X.K X.mg X.base CX k f fd ps sp)(hr:cS (k+1) X.A)(hg:Gl X x)(hm:X.mg x=some (.ref C))(hb:b.12)(hd:Vals KI ds)(hx:V.11)
 (ha:a.5) (OA:F.4:=by decide) (he:k.5:=by rfl) (kY:n.10:=by rfl):
 (aBK C sp KI E t).667:=(M.kp,VF M F hr hb hd hx I1 r q).153
theorem aE5(M:Mk X.K C f)(F:oI X.prog X.w X.K X.mg X.base CX k f fd ps sp)(hr:cS (k+1) X.A)(hg:Gl X x)(hm:X.mg x=some (.ref C))(hb:b.12)(hd:Vals KI ds)(hx:V.11)
 (OA:F.4:=by decide):PE X (p.551,[]).49 (aBK C sp KI E ZL):=(iL (zK I hg hm ?_ OA),PySem.W.callWith_K0 I.R1 M.kp (VF (us:=[]) M F hr hb hd hx I .nil h)).134
end
def PK(X:Cx)(VG:List Keyword)(t:TA):Prop:=
 (wpAny i.4 X.A (evalAll ((backToKw pos (keywordEach VG X.env)).map (·.2))) (AP X pins σ Q) X.xe s).829
section
variable{X:Cx}{CX:YW}{k:Nat}{f C:Addr}{fd:FuncData}{ps ks:x.3}{sp:Sp}{E:XK}{x m:Str}{p pos apos aTk:Pos}{e o:Expr}{es:X.3}{VG:List Keyword}{te ta:TE}{t tk:TA}{nm:Option Str}
theorem aE6:PK X [] ZL:=λ_ _ _ _ H Q I h=>wpAny_evalAll_nil ⟨[],H,I,.nil,h⟩
theorem aBN(ha:PE X e te)(hr:PK X VG t):PK X (⟨nm,e,aTk⟩::VG) (aE4 te t):=by intro pos pins s σ H Q I h;show wpAny _ _ (evalAll ((do let v<-eval e X.env;standAt pos;pure v)::(backToKw pos (keywordEach VG X.env)).map (·.2))) _ _ s;refine wpAny_evalAll_cons (aB (iA (_).543 λu s1 ⟨x,H1,I1,r1,q1⟩=>aB (JD m.3)));exact u.16
variable{g:h.3->h.3->h.3}{gV:e.3->e.3->e.3}
end
structure bB(N P:x.3)(sc:Scope):Prop where
 kind:sc.kind= .function
 co:sc.isCoroutine.25
 gen:sc.isGenerator.25
 nd:N.Nodup
 pre:N.take P.length=P
 par: ∀x∈P,I.10.583\/I.10.562
 aK9: ∀y∈sc.names,y.2≠.free
theorem PJ{kindOf:Str->Option NameKind}{x:Str}: (bindL kindOf binds m x).816
 |[],_,_=>rfl
 |(n,v)::r,m,h=>by
  unfold bindL;rw[PJ λw hw=>h w (bG _ hw)];split
  . have:x≠n:=by rintro rfl;exact h v cI
    simp[this]
  . rfl
theorem PL{kindOf:Str->Option NameKind}{x:Str}: (bindC kindOf binds m x).816
 |[],_,_=>rfl
 |(n,v)::r,m,h=>by
  unfold bindC;rw[PL λw hw=>h w (bG _ hw)];split
  . rfl
  . have:x≠n:=by rintro rfl;exact h v cI
    simp[this]
theorem PM{kindOf:Str->Option NameKind}{x:Str}{v:Value}: ∀{P:x.3} {vs:h.3} {i:Nat} {m:k.3},P.Nodup->(P,x).4->(vs,v).4->(kindOf x).583->
 bindL kindOf (P.zip vs) m x=some v
 |[],_,_,_,_,h,_,_=>C.4
 |_::_,[],_,_,_,_,h,_=>C.4
 |p::P,w::vs,0,m,nd,h1,h2,hk=>by simp at h1 h2;subst h1;subst h2;show bindL kindOf ((p,w)::P.zip vs) m p=_;unfold bindL;rw[PJ λv hv=>(eM.mp nd).1 (wD hv).1,if_pos hk];simp
 |p::P,w::vs,i+1,m,nd,h1,h2,hk=>by show bindL kindOf ((p,w)::P.zip vs) m x=_;unfold bindL;exact PM (i:=i) (eM.mp nd).2 t.4 L.5 hk
theorem PN{kindOf:Str->Option NameKind}{x:Str}{v:Value}: ∀{P:x.3} {vs:h.3} {i:Nat} {m:k.3},P.Nodup->(P,x).4->(vs,v).4->kindOf x≠some .local->
 bindC kindOf (P.zip vs) m x=some v
 |[],_,_,_,_,h,_,_=>C.4
 |_::_,[],_,_,_,_,h,_=>C.4
 |p::P,w::vs,0,m,nd,h1,h2,hk=>by simp at h1 h2;subst h1;subst h2;show bindC kindOf ((p,w)::P.zip vs) m p=_;unfold bindC;rw[PL λv hv=>(eM.mp nd).1 (wD hv).1,if_neg hk];simp
 |p::P,w::vs,i+1,m,nd,h1,h2,hk=>by show bindC kindOf ((p,w)::P.zip vs) m x=_;unfold bindC;exact PN (i:=i) (eM.mp nd).2 t.4 L.5 hk
def start(N:x.3)(vs:e.3):St:=vs.map some++List.replicate (N.length-vs.length) none
def IB(CX:YW)(P:Program)(w:World)(K:PySem.W.Frag)(mg:k.3)(base:Heap)(N:x.3)(qual:Str)(scope:Scope)(f:Addr)(cd:Value)(A:Around)(outer:j.4)(s:Shared)(H:Hp)(E:XK):Cx where
 prog:=P
 w:=w
 K:=K
 mg:=mg
 base:=base
 A:=A.deeper A.12
 N:=N
 JE:=s
 H_0:=H
 env:=A.12
 outer:=outer
 stack:=envOfC qual scope s.heap.objs.size f cd::outer
 ex:=[]
 calm:=true
 fn:=λ_=>true
 pn:=[]
 xe:=λe s'=>wpAny (model P w) (A.deeper A.12) (leaving A.12 e) (λ_ s''=>CX outer H s E e s'') (λe' s''=>CX outer H s E e' s'') s'
theorem VH{sc:Scope}{n:Nat}{x:Str}(h:I.10.562): ∃c,(cellsFrom n sc.names []).lookup x=some c:=by have q:=PySem.W.cellsFrom_some sc.names n [] (.inl h);exact Option.isSome_iff_exists.mp q
theorem aC6{CX:YW}{P:Program}{w:World}{K:PySem.W.Frag}{mg:k.3}{base:Heap}{N ps:x.3}{qual:Str}{scope:Scope}{f:Addr}{cd:Value}{A:Around}{outer:j.4}{s s1:Shared}{H:Hp}{E:XK}{us:h.3}{vs:e.3}
 (S:bB N ps scope) (hd:s.5) (e0:VD P w K mg base A outer s H) (hl:vs.length=ps.length) (r:vs.69)
 (x:InCallC s s.heap.objs.size (bindL (A.12).kindOf (ps.zip us) λ_=>none) (O.3,[]).103 (bindC (A.12).kindOf (ps.zip us) λ_=>none) s1):
 Inv (IB CX P w K mg base N qual scope f cd A outer s H E) [] (start N vs) H s1:=by
 have kY:ps.length<=N.length:=(S.pre.554,aX).117
 obtain⟨h1,tk,rfl,hk⟩:=x.done;have noA:∀b:Addr,b∉(IB CX P w K mg base N qual scope f cd A outer s H E).ex:=λb z=>(show b∈([]:i.3) from z).515;refine⟨⟨e0.mod,S.kind,rfl,rfl,aS _,λy z c h1 h2=>?_,e.10,λy c _ h=>?_,λ_=>hd,Around.frames_deeper e0.frames,.inr y.4,S.13,e0.bs,e0.Y9,λb _ _=>noA b,S.13,e0.w8,e0.frf⟩,
  rfl,e0.bare,Un.kept hk,⟨_,x.toInCall.ns,λi y v h1 h2 h3=>?_⟩,λy c h=>⟨_,x.cell y c h⟩,e0.cZ.fresh (aS _),λy c h=>?_,λp hp=>(show p∈([]:j.3) from hp).515,e0.cZ.kept hk,?_⟩
 . exact name_of_addr x.apart (cM h1) (cM h2)
 . have hy:d.11.562\/d.11.556:=hy;rcases hy with hy|hy
   . exact VH hy
   . exact absurd rfl (S.aK9 _ (cM hy))
 . exact kH (x.above y c (cM h))
 . have hi:i<vs.length:=by
    unfold start at h2;by_cases hi:i<vs.length
    . exact hi
    . rw[zD Z.10] at h2;rw[List.getElem?_replicate] at h2;split at h2<;>cases h2
   have ha:(vs,v).4:=by
    unfold start at h2;rw[List.getElem?_append_left Z.10,aE] at h2
    cases e:vs[i]? with
    |none=>rw[e] at h2;cases h2
    |some a=>rw[e] at h2;cases h2;rfl
   obtain⟨u,hu,rv⟩:=r.get ha;have hp:(ps,y).4:=by rw[<-S.pre,List.getElem?_take_of_lt b.3];exact h1
   have ndP:ps.Nodup:=(S.pre,S.nd.sublist (BF _ _)).15
   refine⟨u,rv,?_⟩;rcases S.par y (List.mem_of_getElem? hp) with k|k
   . exact .inl ⟨k,PM ndP hp hu k⟩
   . obtain⟨c,e⟩:=VH (n:=O.3) k;refine .inr ⟨.inl k,c,e,?_⟩;have q:=x.cell y c e;rw[PN ndP hp hu (by show d.11≠_;rw[k];decide)] at q;exact q
 . exact e0.cZ.fresh (kH (x.above y c (cM h)))
 . unfold start;show _=N.length;rw[List.length_append,aA,List.length_replicate];omega
theorem aE7{CX:YW}{P:Program}{w:World}{K:PySem.W.Frag}{mg:k.3}{base:Heap}{k:Nat}{f:Addr}{name qual:Str}{params:Arguments}{body:List Stmt}{scope:Scope}{dV kV doc pm fJ ct oc:Value}{an od:M.4}
 {UT:a.10} {N ps:x.3} {sp:Sp} (lk:(PySem.W.fnOf name qual params body scope dV kV doc pm an fJ ct).675) (ZC:qual.700) (S:bB N ps scope)
 (len: t.10)
 (o5: ∀(A:Around) (outer:j.4) (s:Shared) (H:Hp) (vs:e.3) (Q:VK) (E:XK),cS k (A.deeper (envOfC qual scope s.heap.objs.size f fJ))->sp vs H Q E->
  (IB CX P w K mg base N qual scope f fJ A outer s H E,body).124):
 oI P w K mg base CX (k+1) f (PySem.W.fnOf name qual params body scope dV kV doc pm an fJ ct) ps sp:=by
 refine⟨len,λA outer s H args us vs Q E hr e0 hb r R7=>?_⟩;have hl:=len _ _ _ _ R7;have KX:K.In s.heap:=e0.mod.kin.keeps λb o e=>(e0.bs b o e).1;have lim:s.heap.NoLimit:=e0.mod.nolimit.keeps λb o e=>(e0.bs b o e).1;have aOx: ∀y∈ps.zip us,E.14.583\/(E.14.562/\(((O.3,[]).103).lookup y.1).563):=λ⟨n,v⟩ hy=>by
  rcases S.par n (wD hy).1 with q|q
  . exact .inl q
  . exact .inr ⟨q,PySem.W.cellsFrom_some _ _ _ (.inl q)⟩
 refine codeAny_call_function hr.depth (KX _ _ lk) rfl S.co S.gen rfl (PySem.W.codeRec_of KX ZC) (hb _ _ _ _ ?_);refine wpAny_newFunctionEnv_cells S.kind aOx λenv he s1 x=>?_;subst he;refine⟨lim.keeps x.toInCall.keep,codeAny_func ?_⟩;obtain⟨t,ht,hq⟩:=o5 A outer s H vs Q E (hr.deeper _) R7;have I:Inv (IB CX P w K mg base N qual scope f fJ A outer s H E) [] (start N vs) H s1:=aC6 S hr.hd e0 hl r x;refine fS (ht [] s1 (start N vs) H _ I hq) (λfl s' hs=>?_) λe s' hs=>hs;have fin: ∀{σ':St} {H':Hp} {v:V} {u:Value},Inv (IB CX P w K mg base N qual scope f fJ A outer s H E) [] σ' H' s'->v.46->Q v H'->CE outer P w H s Q u s':=
  λ{σ' H' v u} J rv q=>⟨v,H',J.os,J.bare,J.base,J.cZ,rv,q⟩
 cases fl with
 |ret u=> obtain⟨v,σ',H',J,rv,q⟩:=hs;exact fin J rv q
 |next=> obtain⟨σ',H',J,q⟩:=hs;exact fin (v:=V.gL) (u:=Value.none) J rfl q
 |brk=> obtain⟨_,_,_,q⟩:=hs;exact False.elim q
 |cont=> obtain⟨_,_,_,q⟩:=hs;exact False.elim q
end L2
namespace L2
open PySem PySem.Spec PyProof.Rows
section
variable{X:Cx}{x:Str}{p pos:Pos}{e:Expr}{es:X.3}{t:TA}{id T:String}{r:h.5}
def tCB(r:h.5)(t:TA):TE:=(λvs H1=>r vs H1 Q).586
theorem a6(hc:(id,r).54)(hg:Gl X x)(hm:(X.mg x).9)(hv:bootBuiltins x=some (.builtin id))(ha:a.5)(hn:x≠"__name__":=by decide)(OA:F.4:=by decide)
 (he:k.5:=by rfl) (kY:n.10:=by rfl):(tCB r t).667:=(iL (xA I hg hm hv ?_ hn OA),PyProof.Rows.callWith_builtin1 (hc pins s1 σ H1 vs us Q I1 r1 q1).656 he kY).134
theorem eT(hc:j6 X (.type T) r)(hg:Gl X x)(hm:(X.mg x).9)(hv:bootBuiltins x=some (.type T))(ha:a.5)(hn:x≠"__name__":=by decide)(OA:F.4:=by decide)
 (he:k.5:=by rfl) (kY:n.10:=by rfl):(tCB r t).667:=(iL (xA I hg hm hv ?_ hn OA),i8 (hc pins s1 σ H1 vs us Q I1 r1 q1).656 he kY).134
end
end L2
namespace HT
open PySem PyProof.Rows
section
open PySem.SeqAt
open PySem.AutoSeq1 (wpAny_loadPart')
open PySem.MeetsSeq PySem.MeetsSeq2 PySem.MeetsSeq3
end
section
variable{prog:Program}{w:World}{A:Around}{E:l.3}{s:Shared}
theorem aHP{t b:Addr}{vs ws:h.3}{Q:l.3}(ht:IsTup s.heap t vs.toArray)(hb:IsTup s.heap b ws.toArray)(hv:vs≠[])
 (h1:ws=[]->(t,s).42) (h2:ws≠[]->(s.heap.objs.size,((vs++ws).toArray).688.761).42)
 (hsz:(vs.length+ws.length).37):(binaryOp .Add (.ref t) z.3).65:=by
 obtain⟨⟨cls,dd,data,sl⟩,ho,hc,n,hd⟩:=id ht;obtain⟨⟨aTl,dd2,data2,sl2⟩,ho2,GB,n2,hd2⟩:=id hb;simp only at hc hd GB hd2;subst hc hd GB hd2;have e:vs.toArray++ws.toArray=(vs++ws).toArray:=c.3
 by_cases hw:ws=[]
 . exact concat_meets ho.63 ho2.63 noFill_tuple_add seq_tuple_add F7 EW (B8 _ _)
    (tuple_addW1 t b vs.toArray ws.toArray n n2 dd dd2 sl sl2 B.11 hw.24) ⟨ho,ho2,h1 hw⟩
 . refine concat_meets ho.63 ho2.63 noFill_tuple_add seq_tuple_add F7 EW (B8 _ _)
    (tuple_addW2 t b vs.toArray ws.toArray n n2 dd dd2 sl sl2 B.11 (by simpa using hw) (List.size_toArray,List.size_toArray,hsz).18) ⟨ho,ho2,?_⟩
   rw[e];exact h2 hw
def oG(n d:Nat):J.4->Nat
 |none=>d
 |some v=>if v<0 then(v+n.6).toNat else min v.toNat n
theorem KJ(n d:Nat):oG n d none=d:=rfl
theorem aHQ(n d k:Nat):oG n d (some k.6)=min k n:=by show(k.6<0,(k.6+n.6).toNat,min (k.6).toNat n).14=min k n;rw[if_neg b.3,Int.toNat_natCast]
theorem aLb(n d:Nat)(hd:d<=n)(o:J.4):oG n d o<=n:=by
 cases o with
 |none=>exact hd
 |some v=>
  show(v<0,(v+n.6).toNat,min v.toNat n).14<=n;by_cases hv:v<0
  . rw[if_pos hv];omega
  . rw[if_neg hv];exact Nat.min_le_right _ _
theorem aBO(v:Int)(n d:Nat):(v<0,max (v+n.6) 0,min v n.6).14=(oG n d (some v)).22:=by
 show(v<0,max (v+n.6) 0,min v n.6).14=(v<0,(v+n.6).toNat,min v.toNat n).14.22;by_cases hv:v<0
 . simp only [if_pos hv];omega
 . simp only [if_neg hv];omega
theorem ZM(lo hi:J.4)(n:Nat):Builtin.Slice.sliceAdjust lo hi 1 n.6=((oG n 0 lo).22,(oG n n hi).22):=by
 have h1:¬((1).33<0):=b.3
 unfold Builtin.Slice.sliceAdjust;simp only [h1,if_false];refine Prod.ext ?_ ?_
 . cases lo with
   |none=>rfl
   |some v=>exact aBO v n 0
 . cases hi with
   |none=>rfl
   |some v=>exact aBO v n n
theorem ZN(i j:Nat):Builtin.Slice.slicePlaces i.6 j.6 1=j-i:=by
 unfold Builtin.Slice.slicePlaces;have h1:(1).33>0:=b.3
 simp only [h1,if_true,Int.ediv_one];split<;>omega
theorem KL{v:Value}{o:J.4}{Q:J.4.49}(p:IsPart v o)(h:Q o s):(Builtin.Slice.slicePartIndex v).65:=by
 cases p with
 |none=>exact slicePart_none h
 |int i t=>exact slicePart_int h
theorem E8{sl:Addr}{vl vu:Value}{lo hi:J.4}{n:Nat}{Q:(Int×Int×Nat).49}(hs:F.15)(pl:IsPart vl lo)(pu:IsPart vu hi)
 (h:Q ((oG n 0 lo).22,1,oG n n hi-oG n 0 lo) s):(Builtin.Slice.sliceApplied (.ref sl) (pure n.6)).65:=by obtain⟨os,hos,JH,hds⟩:=id hs;unfold Builtin.Slice.sliceApplied Builtin.Slice.sliceFields;refine aB (aB (wpAny_field hos hds (x:=vl) rfl (aB (wpAny_field hos hds (x:=vu) rfl (aB (wpAny_field hos hds (x:= .none) rfl m.3))))));refine aB (slicePart_none ?_);show wpAny _ _ (((1).33==0)).40 _ _ s;rw[if_neg r.3];refine aB (KL pl (aB (KL pu (aB m.3))));show wpAny _ _ (match Builtin.Slice.sliceAdjust lo hi 1 (n:Int) with|(lo,hi)=>pure (lo,(1:Int),Builtin.Slice.slicePlaces lo hi 1)) _ _ s;rw[ZM lo hi n];show wpAny _ _ (pure ((oG n 0 lo).22,(1).33,Builtin.Slice.slicePlaces (oG n 0 lo).22 (oG n n hi).22 1)) _ _ s;rw[ZN];exact aH h
theorem aE9(xs:R.3)(i k:Nat):((List.range k).filterMap λ(m:Nat)=>xs[(i.6+m.6*1).toNat]?).toArray=((xs.toList.drop i).take k).toArray:=by
 have e:(λ(m:Nat)=>xs[(i.6+m.6*1).toNat]?)=λm=>xs[i+m]? :=by
  funext m;have:(i.6+m.6*1).toNat=i+m:=b.3
  rw[this]
 rw[e];have:=pick_run xs i k;rw[List.filterMap_map] at this;have e2:((λx=>xs[x]?)∘λx=>i+x)=λm=>xs[i+m]? :=rfl;rw[e2] at this;rw[this]
theorem CJ{t sl:Addr}{items:R.3}{vl vu:Value}{lo hi:J.4}{Q:l.3}(ht:IsTup s.heap t items)(hs:F.15)(pl:IsPart vl lo)(pu:IsPart vu hi)
 (hw: ¬(u.5=0/\s.11=items.size))
 (h:(((items.toList.drop u.5).take (s.11-u.5)).toArray).688.761.731)
 (hsz:items.size.37):(getItem (.ref t) (.ref sl)).65:=by
 have PQ:sizeOk (.seq ((items.toList.drop u.5).take (s.11-u.5)).toArray):=by show(((items.toList.drop u.5).take (s.11-u.5)).toArray.size).37;rw[List.size_toArray,aX,dO,Array.length_toList];omega
 have hj:s.11<=items.size:=aLb _ _ (aS _) hi;obtain⟨os,hos,JH,hds⟩:=id hs;have hTs:s.TypeIs (.ref sl) "slice":=⟨os,hos,JH⟩;unfold getItem;try with_reducible refine c9 ?_
 first|refine aB m.3|skip
 refine aB (wpAny_sequenceKey ht.typeIs r.3 ?_);refine aB (mL (name:=Str.ofString "__getitem__") ht.typeIs r6
  (eW r6 ht.typeIs entry_tuple_getitem ?_ (args_tuple_getitem _ _)))
 show wpAny _ _ (Builtin.Tuple.tupleItemsOf (.ref t)>>=_) _ _ s;refine aB (tupleItemsOf_ ht ?_);refine aB (wpAny_typeOf hTs ?_);rw[if_pos r.3];refine aB (E8 hs pl pu ?_);have z6:¬(((u.5.22==0&&(1).33==1&&(s.11-u.5)==items.size)).7):=by intro q;rw[Bool.and_eq_true,Bool.and_eq_true] at q;have q1:u.5.22=0:=eq_of_beq q.1.1;have q2:s.11-u.5=items.size:=eq_of_beq q.2;exact hw b.3.527
 show wpAny _ _ ((u.5.22==0&&(1).33==1&&(s.11-u.5)==items.size)).40 _ _ s;rw[if_neg z6,aE9]
 first
  |exact(aH (aH h).28).752
  |exact(aB (aH (aH (aH h).28))).752
  |exact aB (aH (aH (aH h).28)).752
  |exact aB (aH (aH h).28).752
end
end HT
namespace L2
open PySem PySem.Spec PyProof.Rows
abbrev TO:=St->Hp->(J.4.53)->Prop
def PO(X:Cx)(e:Option Expr)(t:TO):Prop:=
 ∀(pins:j.3) (s:Shared) (σ:St) (H:Hp) (Q:J.4.53),g.3->t σ H Q->
  (evalPart e X.env,λu s'=>∃o H',T.5/\IsPart u o/\Q o H').53
def aHR:TO:=λ_ H Q=>Q none H
def aOz(t:TE):TO:=(λx H1=>∃i,x= .int i/\Q (some i) H1).586
section
variable{X:Cx}{e:Expr}{te:TE}{lo hi:Option Expr}{tl th:TO}{pos p2:Pos}
theorem mM:PO X none aHR:=by intro pins s σ H Q I h;rw[evalPart_none];exact aH ⟨none,H,I,.none,h⟩
theorem gS(h:PE X e te):PO X (some e) (aOz te):=by intro pins s σ H Q I hw;rw[evalPart_some];refine iA (_).717 λu s1 ⟨x,H1,I1,r1,q1⟩=>?_;obtain⟨i,rfl,q⟩:=q1;obtain⟨t,rfl⟩:=r1;exact⟨some i,H1,I1,.int i t,q⟩
def SlR(X:Cx)(r:u.13):Prop:=
 ∀(pins:j.3) (s:Shared) (σ:St) (H:Hp) (x:V) (v vl vu:Value) (lo hi:J.4) (sl:Addr) (Q:VK),g.3->RelV x v->F.15->IsPart vl lo->IsPart vu hi->r x lo hi H Q->
  ∃T id,typeLookup (.type T) "__getitem__"=pure (some (.builtin id))/\s.TypeIs v T/\(getItem v (.ref sl)).591
def tSl(r:u.13)(te:TE)(tl th:TO):TE:=λσ H Q=>te σ H λx H1=>tl σ H1 λl H2=>th σ H2 λu H3=>r x l u H3 Q
theorem gY{r:u.13}(hr:SlR X r)(he:PE X e te)(hl:PO X lo tl)(hu:PO X hi th):PE X (.Subscript e (.Slice lo hi none p2) pos) (tSl r te tl th):=by intro pins s σ H Q I h;refine Subscript_ Y.10.624;refine wpAny_Slice (iA (hl pins s1 σ H1 _ I1 q1) λvl s2 ⟨l,H2,I2,pl,q2⟩=>iA (hu pins s2 σ H2 _ I2 q2) λvu s3 ⟨u,H3,I3,pu,q3⟩=>?_);rw[evalPart_none];refine m.3;have I4:(H3,u.15).19:=I3.kept (t':=s3.toks) λb ob q=>aN _ q;obtain⟨T,id,hT,ht,hg⟩:=hr pins u.15 σ H3 x v vl vu l u s3.heap.objs.size Q I4 r1 (Heap.IsSliceOf.new ..) pl pu q3;show wpAny i.4 X.A (subscriptTail e (.Slice lo hi none p2) v (.ref s3.heap.objs.size)) (EP X pins σ Q) X.xe u.15;exact tail_any (ops:=[.ref s3.heap.objs.size,v]) ht hT hg C.11
def gN(xs:e.3)(lo hi:J.4):e.3:=(xs.drop X.11).take (v.14-X.11)
theorem GC(xs:e.3)(lo hi:J.4):(gN xs lo hi,xs.length).8:=by unfold gN;rw[aX,dO];omega
def aTm(K:PySem.W.Frag):u.13:=λx lo hi H Q=>∃a xs,x=p.3/\lN K H a xs/\
 ¬(X.11=0/\v.14=xs.length)/\(upd H p (.tup (gN xs lo hi))).644
theorem aFa:SlR X (aTm X.K):=by
 intro pins s σ H x v vl vu lo hi sl Q I rx hs pl pu h;obtain⟨a,xs,rfl,hx,hw,q⟩:=h;cases rx;obtain⟨bY,r,ht,hz⟩:=I.tuple hx;have hlen:bY.toArray.size=xs.length:=(List.size_toArray,r.length.symm).3
 refine⟨"tuple",_,r6.lookup,ht.typeIs,?_⟩;refine HT.CJ ht hs pl pu (hlen,hw).3 ?_ (hlen,hz).3;rw[hlen];refine(.tup (gN xs lo hi)).797.784;exact⟨aG (GC xs lo hi) hz,_,(r.drop X.11).take (v.14-X.11),IsTup.new _ _,_,G.3,rfl⟩
def aOA(K:PySem.W.Frag):R2:=λx y H Q=>∃a b xs ys,x=p.3/\y=z.3/\lN K H a xs/\lN K H b ys/\xs≠[]/\(xs.length+ys.length).37/\
 (ys=[]->Q p.3 H)/\(ys≠[]->(upd H p (.tup (xs++ys))).644)
theorem Vals.JI{xs:e.3}{us:h.3}(r:xs.69):us=[]↔xs=[]:=by
 cases r with
 |nil=>simp
 |cons _ _=>simp
theorem aHS:(.Add,aOA X.K).61:=by intro pins s σ H x y v u Q I rx ry h;obtain⟨a,b,xs,ys,rfl,rfl,ha,hb,hx,hz,q1,q2⟩:=h;cases rx;cases ry;obtain⟨bY,r1,p1,_⟩:=I.tuple ha;obtain⟨tO,r2,p2,_⟩:=I.tuple hb;refine HT.aHP p1 p2 (λz=>hx (r1.JI.mp z)) (λz=>⟨p.3,H,I,rfl,q1 (r2.JI.mp z)⟩) (λz=>?_) (by rw[<-r1.length,<-r2.length];exact hz);refine⟨.ref s.heap.objs.size,_,(.tup (xs++ys)).797,rfl,q2 (λw=>z (r2.JI.mpr w)) _ T.4⟩;exact⟨hz.768,_,r1.append r2,IsTup.new _ _,_,G.3,rfl⟩
end
end L2
namespace L2
open PySem PySem.Spec PyProof.Rows
def ixN(n:Nat)(i:Int):Z.5:=if 0<=i then((i<n,i.toNat).104) else(-n.6<=i,(i+n).toNat).104
def atI{α:Type}(xs:w.3)(i:Int):Option α:=(ixN xs.length i).bind λj=>xs[j]?
theorem aBP{n:Nat}{i:Int}{j:Nat}(h:ixN n i=some j):seqIndex? i n=some j/\j<n/\ -n.6<=i/\i<n:=by
 unfold ixN at h;by_cases h0:0<=i
 . rw[if_pos h0] at h;by_cases h1:i<n
   . rw[if_pos h1] at h;have e:i.toNat=j:=aM h;exact⟨(seqIndex_of h0 h1,e).7,b.3,b.3,h1⟩
   . rw[if_neg h1] at h;cases h
 . rw[if_neg h0] at h;by_cases h1: -n.6<=i
   . rw[if_pos h1] at h;have e:(i+n).toNat=j:=aM h;exact⟨(seqIndex_neg b.3 h1,e).7,b.3,h1,b.3⟩
   . rw[if_neg h1] at h;cases h
theorem aBQ{α:Type}{xs:w.3}{i:Int}{v:α}(h:atI xs i=some v): ∃j,seqIndex? i xs.length=some j/\(xs,j,v).4/\j<xs.length/\ -xs.length.6<=i/\i<xs.length:=by
 unfold atI at h
 cases e:ixN xs.length i with
 |none=>rw[e] at h;cases h
 |some j=> rw[e] at h;obtain⟨h1,h2,h3,h4⟩:=aBP e;exact⟨j,h1,h,h2,h3,h4⟩
theorem cC{α:Type}{xs:w.3}{j:Nat}{v:α}(h:(xs,j,v).4):atI xs j.6=some v:=by
 have hj:j<xs.length:=h.535;have e:ixN xs.length j.6=some j:=by unfold ixN;rw[if_pos b.3,if_pos b.3];simp
 unfold atI;rw[e];exact h
theorem aFc{α:Type}(xs:w.3)(v:α):atI (xs++[v]) (-1)=some v:=by
 have hl:(xs++[v],xs.length+1).6:=c.3
 have e:ixN (xs++[v]).length (-1)=some xs.length:=by unfold ixN;rw[hl,if_neg r.3,if_pos b.3];congr 1;omega
 unfold atI;rw[e];show((xs++[v]),xs.length,v).4;simp
def aHT(b:Expr):Prop:=∀o i,subscripted b false o i=operate [o,i] (getItem o i)
def IxR(X:Cx)(r:R2):Prop:=
 ∀(value slice:Expr) (pins:j.3) (s:Shared) (σ:St) (H:Hp) (x y:V) (v u:Value) (Q:VK),g.3->RelV x v->y.46->r x y H Q->
  subscripted slice false v u=operate [v,u] (getItem v u)->(subscriptTail value slice v u).591
def MtR(X:Cx)(id:String)(r:i.5):Prop:=
 ∀(pins:j.3) (s:Shared) (σ:St) (H:Hp) (x:V) (xs:e.3) (v:Value) (us:h.3) (Q:VK),g.3->RelV x v->xs.69->r x xs H Q->
  (id,v::us).92.591
section
variable{X:Cx}{a b:Expr}{ta tb:TE}{pos:Pos}
theorem dI{r:R2}(hr:IxR X r)(ha:a.98)(hb:PE X b tb)(hs:aHT b):PE X (.Subscript a b pos) (tOp r ta tb):=(Subscript_ (hr a b pins s2 σ H2 x y v u Q I2 rx ry q (hs _ _)).803).690
def aOC(K:PySem.W.Frag):R2:=(bP K H p xs).815
def aOD(K:PySem.W.Frag):R2:=(lN K H p xs).815
theorem sA:IxR X (aOC X.K):=by
 intro value slice pins s σ H x y v u Q I rx ry h hs;obtain⟨p,xs,i,z,rfl,rfl,hq,he,q⟩:=h;cases rx;obtain⟨t,rfl⟩:=ry;obtain⟨bY,r,pl,hz⟩:=P.5;obtain⟨j,h1,h2,h3,h4,h5⟩:=aBQ he;obtain⟨w,ew,rw'⟩:=r.get h2;have hl:=r.length;have hn:=KC;have fin:(w,s).87:=⟨z,H,I,rw',q⟩;by_cases h0:0<=i
 . have hj:i.toNat=j:=by rw[seqIndex_of h0 h5] at h1;exact aM h1
   exact item_listR pl.isList h0 b.3 (by rw[hj];simpa using ew) fin hs
 . have hj:(i+bY.toArray.size.6).toNat=j:=h4.831
   exact subscriptTail_builtinR (x:=w) pl.isList.typeIs slot_list_getitem.lookup
    (wpAny_getItem_list_neg (Q:=λr s'=>r=w/\(r,s').87) pl.isList b.3 (by rw[List.size_toArray]<;>omega) b.3 (by rw[hj];simpa using ew) fin.73) hs
theorem R8:IxR X (aOD X.K):=by
 intro value slice pins s σ H x y v u Q I rx ry h hs;obtain⟨p,xs,i,z,rfl,rfl,hq,he,q⟩:=h;cases rx;obtain⟨t,rfl⟩:=ry;obtain⟨bY,r,pl,hz⟩:=I.tuple hq;obtain⟨j,h1,h2,h3,h4,h5⟩:=aBQ he;obtain⟨w,ew,rw'⟩:=r.get h2;have hl:=r.length;have hn:=KC;have fin:(w,s).87:=⟨z,H,I,rw',q⟩;exact subscriptTail_builtinR (x:=w) pl.typeIs slot_tuple_getitem.lookup
  (getItem_tuple (j:=j) (Q:=λr s'=>r=w/\(r,s').87) pl b.3 b.3 h1.767 (by simpa using ew) fin.73) hs
theorem ZO(bY:h.3)(n j:Nat)(u:Value):Obj.mapSeq (·.setIfInBounds j u) U.11=("list",.seq (bY.set j u).toArray n).44:=Obj.mapSeq.24
theorem Inv.lst{pins:j.3}{σ:St}{H:Hp}{s:Shared}{p:Addr}{xs:e.3}(I:g.3)(h:p.517):
 ∃(bY:h.3) (n:Nat),xs.520/\(p,U.11).43/\k.10:=by obtain⟨z,bY,n,r,e⟩:=I.cZ p _ h;exact⟨bY,n,r,e,z⟩
theorem Inv.aLc{pins:j.3}{σ:St}{H:Hp}{s:Shared}{p:Addr}{xs ys:e.3}{bY its':h.3}{n n':Nat}{f:Obj->Obj}(I:g.3)(h:p.517)
 (ho:(p,U.11).43) (hf:f U.11=("list",.seq its'.toArray n').44) (r:Vals ys its') (hz:ys.length.37) (t:Nat):
 ((H,p,ys).3,{s with heap:=s.heap.update p f,toks:=t}).19:=by
 have e:(s.heap.update p f,p,("list",.seq its'.toArray n').44).20:=(oA f ho (by rw[hf]<;>rfl),hf).7
 refine I.write (x:=p) (e:=p) (by rw[h];trivial) B.3 (λb u hb q=>(u1 _ _ (Ne.symm hb)).trans q) e.20 ?_;exact⟨hz,its',n',r,e⟩
def aOE:V->V->V->Hp->(Hp.41)->Prop:=λo i v H Q=>∃p xs k j,o= .ref p/\i= .int k/\p.517/\ixN xs.length k=some j/\Q (H,p,xs.set j v).3
theorem set_list:aOi X aOE:=by
 intro pins s σ H o i v ov iv u Q I ro ri rv h;obtain⟨p,xs,k,j,rfl,rfl,hp,hj,q⟩:=h;cases ro;obtain⟨t,rfl⟩:=ri;obtain⟨bY,n,r,ho,hz⟩:=I.lst hp;obtain⟨h1,h2,h3,h4⟩:=aBP hj;have hl:=r.length;have hn:=KC;have I':((H,p,xs.set j v).3,{s with heap:=s.heap.update p (Obj.mapSeq (·.setIfInBounds j u))}).19:=
  I.aLc hp ho (ZO bY n j u) (r.set rv j) (HR,hz).3 s.toks
 by_cases h0:0<=k
 . have hk:k.toNat=j:=by rw[seqIndex_of h0 h4] at h1;exact aM h1
   exact PySem.W.ki_setAt ho h0 b.3 h4.767 (hk,(I',q).27).3
 . have hk:(k+bY.toArray.size.6).toNat=j:=h3.831
   exact PySem.W.ki_setBack ho b.3 h3.767 b.3 (hk,(I',q).27).3
theorem R9(lo hi:J.4)(n:Nat):(sliceBounds lo hi none n).1=(HT.oG n 0 lo).22/\(sliceBounds lo hi none n).2.1=(HT.oG n n hi).22/\(sliceBounds lo hi none n).2.2=1:=by
 refine(?_,?_).34
 . cases lo with
   |none=>simp[sliceBounds,HT.oG]
   |some i=>
    simp only [sliceBounds,HT.oG,Option.getD_none,show(1).33>0 by decide,if_true];by_cases h:i<0
    . simp only [h,if_true]<;>omega
    . simp only [h,if_false]<;>omega
 . cases hi with
   |none=>simp[sliceBounds,HT.oG]
   |some i=>
    simp only [sliceBounds,HT.oG,Option.getD_none,show(1).33>0 by decide,if_true];by_cases h:i<0
    . simp only [h,if_true]<;>omega
    . simp only [h,if_false]<;>omega
theorem OB(bY:h.3)(lo hi:J.4):slicePick bY.toArray lo hi none=((bY.drop (HT.oG bY.length 0 lo)).take (HT.oG bY.length bY.length hi-HT.oG bY.length 0 lo)).toArray:=by obtain⟨h1,h2,h3⟩:=R9 lo hi bY.toArray.size;unfold slicePick;rw[h1,h2,h3];simp only [sliceRange_one,pick_run,List.size_toArray]<;>rfl
def aOF(K:PySem.W.Frag):u.13:=λx lo hi H Q=>∃a xs,x=p.3/\xs.75/\(H,p,gN xs lo hi).3.644
theorem CK:SlR X (aOF X.K):=by intro pins s σ H x v vl vu lo hi sl Q I rx hs pl pu h;obtain⟨a,xs,rfl,hx,q⟩:=h;cases rx;obtain⟨bY,r,ht,hz⟩:=I.list hx;have hlen:=r.length;refine⟨"list",_,slot_list_getitem.lookup,ht.isList.typeIs,?_⟩;refine wpAny_getItem_list_slice ht.isList hs pl pu .none c.3 ?_ (by rw[List.size_toArray]<;>omega);rw[OB,<-hlen];refine(.lst (gN xs lo hi)).797.784;exact⟨aG (GC xs lo hi) hz,_,0,(r.drop X.11).take (v.14-X.11),G.3⟩
def o6:V->Bool
 | .gL=>true
 | .bl _=>true
 | .int _=>true
 | .str _=>true
 |_=>false
def ZP:V->V->Bool
 | .gL,.gL=>true
 | .bl a,.bl b=>a==b
 | .bl a,.int b=>(if a then 1 else 0)==b
 | .int a,.bl b=>a==(if b then 1 else 0)
 | .int a,.int b=>a==b
 | .str a,.str b=>a==b
 |_,_=>false
theorem aLd{A:Around}{s:Shared}{y x:V}{u v:Value}(ry:y.46)(rx:RelV x v)(fy:(o6 y).7)(fx:(o6 x).7):SeqAt.EqAt A s u v (ZP y x):=by
 cases y with
 |gL=>
  cases ry
  cases x with
  |gL=>cases rx;exact SeqAt.EqAt.same _
  |bl b=>cases rx;exact SeqAt.EqAt.none_bool b
  |int b=>obtain⟨t,rfl⟩:=rx;exact SeqAt.EqAt.none_int b t
  |str b=>obtain⟨t,rfl⟩:=rx;exact SeqAt.EqAt.none_str b t
  |_=>exact absurd (show false.7 from fx) a8
 |bl a=>
  cases ry
  cases x with
  |gL=>cases rx;exact SeqAt.EqAt.bool_none a
  |bl b=>cases rx;exact SeqAt.EqAt.bool_bool a b
  |int b=>obtain⟨t,rfl⟩:=rx;exact SeqAt.EqAt.bool_int a b t
  |str b=>obtain⟨t,rfl⟩:=rx;exact SeqAt.EqAt.bool_str a b t
  |_=>exact absurd (show false.7 from fx) a8
 |int a=>
  obtain⟨t',rfl⟩:=ry
  cases x with
  |gL=>cases rx;exact SeqAt.EqAt.int_none a t'
  |bl b=>cases rx;exact SeqAt.EqAt.int_bool a t' b
  |int b=>obtain⟨t,rfl⟩:=rx;exact SeqAt.EqAt.int_int a t' b t
  |str b=>obtain⟨t,rfl⟩:=rx;exact SeqAt.EqAt.int_str a t' b t
  |_=>exact absurd (show false.7 from fx) a8
 |str a=>
  obtain⟨t',rfl⟩:=ry
  cases x with
  |gL=>cases rx;exact SeqAt.EqAt.str_none a t'
  |bl b=>cases rx;exact SeqAt.EqAt.str_bool a t' b
  |int b=>obtain⟨t,rfl⟩:=rx;exact SeqAt.EqAt.str_int a t' b t
  |str b=>obtain⟨t,rfl⟩:=rx;exact SeqAt.EqAt.str_str a t' b t
  |_=>exact absurd (show false.7 from fx) a8
 |_=>exact absurd (show false.7 from fy) a8
def SD(x:V)(u:Value):Bool:=match u with
 | .none=>ZP .gL x
 | .bool b=>ZP (.bl b) x
 | .int i _=>ZP (.int i) x
 | .str z _=>ZP (.str z) x
 |_=>false
theorem KN{x y:V}{u:Value}(r:y.46)(f:(o6 y).7):SD x u=ZP y x:=by
 cases y with
 |gL=>cases r;rfl
 |bl b=>cases r;rfl
 |int i=>obtain⟨t,rfl⟩:=r;rfl
 |str z=>obtain⟨t,rfl⟩:=r;rfl
 |_=>exact absurd (show false.7 from f) a8
theorem CL{x:V}: ∀{xs:e.3} {us:h.3},xs.69->(xs.all o6).7->us.any (SD x)=xs.any λy=>ZP y x
 |_,_,.nil,_=>rfl
 |y::xs,u::us,.cons r t,f=>by rw[B6,Bool.and_eq_true] at f;rw[List.any_cons,List.any_cons,KN r f.1,CL t f.2]
theorem o7{A:Around}{s:Shared}{x:V}{v:Value}(rx:RelV x v)(fx:(o6 x).7): ∀{xs:e.3} {us:h.3},xs.69->(xs.all o6).7->∀u∈us,SeqAt.EqAt A s u v (SD x u)
 |_,_,.nil,_=>λu hu=>by cases hu
 |y::xs,u::us,.cons r t,f=>λu' hu=>by
  rw[B6,Bool.and_eq_true] at f;rcases List.mem_cons.mp hu with rfl|hu
  . rw[KN r f.1];exact aLd r rx f.1 fx
  . exact o7 rx fx t f.2 u' hu
def inV(x:V)(xs:e.3):Bool:=xs.any λy=>ZP y x
def rIn(K:PySem.W.Frag)(neg:Bool):R2:=λx y H Q=>∃p xs,y= .ref p/\(bP K H p xs\/lN K H p xs)/\(o6 x).7/\(xs.all o6).7/\(if neg then !inV x xs else inV x xs).572
theorem aC7:(.In,rIn X.K false).45:=by
 intro pins s σ H x y v u Q I rx ry h;obtain⟨p,xs,rfl,hq,fx,fs,q⟩:=h;cases ry;rcases hq with hq|hq
 . obtain⟨bY,r,pl,hz⟩:=P.5;refine SeqAt.in_listAt (SD x) pl.isList r.14 (_,I,?_).27;rw[show(bY.any (SD x)).741 by simp,CL r fs];exact q
 . obtain⟨bY,r,pl,hz⟩:=I.tuple hq;refine SeqAt.in_tupleAt (SD x) pl r.14 (_,I,?_).27;rw[show(bY.any (SD x)).741 by simp,CL r fs];exact q
theorem SE:(.NotIn,rIn X.K true).45:=by
 intro pins s σ H x y v u Q I rx ry h;obtain⟨p,xs,rfl,hq,fx,fs,q⟩:=h;cases ry;rcases hq with hq|hq
 . obtain⟨bY,r,pl,hz⟩:=P.5;refine SeqAt.notIn_listAt (SD x) pl.isList r.14 (_,I,?_).27;rw[show(bY.any (SD x)).741 by simp,CL r fs];exact q
 . obtain⟨bY,r,pl,hz⟩:=I.tuple hq;refine SeqAt.notIn_tupleAt (SD x) pl r.14 (_,I,?_).27;rw[show(bY.any (SD x)).741 by simp,CL r fs];exact q
theorem cV:("len",(bP X.K H p ys,lN X.K H p ys,ys.length.619).41).54:=by
 intro pins s σ H xs us Q I r h;obtain⟨p,ys,rfl,hq,q⟩:=h;obtain⟨u,rfl,rx⟩:=vals1 r;cases rx;have hn:=KC;rcases hq with hq|hq
 . obtain⟨bY,r',pl,hz⟩:=P.5;have hlen:=r'.length;exact Calls.call_len_list pl.isList a.13 L.16
 . obtain⟨bY,r',pl,hz⟩:=I.tuple hq;have hlen:=r'.length;exact len_tuple pl a.13 L.16
theorem SF:j6 X C.10 (bP X.K H p ys,lN X.K H p ys,∀l,l.21->(l,(H,l,ys).3).42).41:=by
 intro pins s σ H xs us Q I r h;obtain⟨p,ys,rfl,hq,q⟩:=h;obtain⟨u,rfl,rx⟩:=vals1 r;cases rx;have fin: ∀(bY:h.3),ys.520->ys.length.37->∀(h':Heap) (c':Nat),(∀b o',(b,o').43->h.4=some o')->
  h'.get? s.heap.objs.size=some (C.10,.seq bY.toArray c').141->(A.10,{s with heap:=h'}).87:=λbY r' hz h' c' kp e=>
  (I.laid (t':=s.toks) kp (aS _) (show gX X.prog X.w _ h' _ (.lst ys) from ⟨hz,bY,c',r',e⟩)).784
 rcases hq with hq|hq
 . obtain⟨bY,r',pl,hz⟩:=P.5;have hlen:=r'.length;obtain⟨o,ho,hc,n,hd⟩:=pl.isList;exact call_list_seq p B.3 ho hc hd (λh' c' kp e=>fin bY r' hz h' c' kp e) a.13
 . obtain⟨bY,r',pl,hz⟩:=I.tuple hq;have hlen:=r'.length;obtain⟨o,ho,hc,n,hd⟩:=pl;exact call_list_seq p (.inr rfl) ho hc hd (λh' c' kp e=>fin bY r' hz h' c' kp e) a.13
theorem OC:(bP X.K H p ys,lN X.K H p ys).143:=by
 intro pins s σ H xs us Q I r h;obtain⟨p,ys,rfl,h⟩:=h;obtain⟨u,rfl,rx⟩:=vals1 r;cases rx;rcases h with⟨hq,q⟩|⟨hq,q⟩
 . obtain⟨bY,r',pl,hz⟩:=P.5;have hlen:=r'.length;refine call_tuple_list pl.isList (λh' kp=>?_) a.13;have I1:(H,{s with heap:=h'}).19:=I.kept (t':=s.toks) kp;have I2:(upd H h'.objs.size (.tup ys),{s with heap:=h'.push bY.toArray.688}).19:=
    I1.laid (t':=s.toks) (λb o e=>aN _ e) (aS _) (show gX X.prog X.w _ _ _ (.tup ys) from ⟨hz,bY,r',IsTup.new _ _,_,G.3,rfl⟩)
   exact⟨.ref h'.objs.size,_,I2,rfl,q _ D.13⟩
 . obtain⟨bY,r',pl,hz⟩:=I.tuple hq;exact call_tuple_same pl ⟨.ref p,H,I,rfl,q⟩
def tyV(K:PySem.W.Frag)(T:String)(x:V)(H:Hp):Prop:=match x with
 | .str _=>T="str"
 | .int _=>T="int"
 | .ref p=>(T="list"/\∃xs,bP K H p xs)\/(T="tuple"/\∃o,(K.lookup p).23/\o.cls=c.5/\o.dict.9)\/
  (T="dict"/\((∃eI,(p,.dK eI).5)\/∃eI,(p,.dT eI).5))\/(T="set"/\∃S n,(p,.set S n).5)
 |_=>False
theorem aLe{pins:j.3}{σ:St}{H:Hp}{s:Shared}{T:String}{x:V}{v:Value}(I:g.3)(r:RelV x v)(ty:tyV X.K T x H):
 s.TypeIs v T/\∀a,v=p.3->∃ob,(a,ob).43/\ob.dict.9:=by
 cases x with
 |str z=> obtain⟨t,rfl⟩:=r;cases (show T="str" from ty);exact⟨typeIs_str s z t,λ_ e=>nomatch e⟩
 |int i=> obtain⟨t,rfl⟩:=r;cases (show T="int" from ty);exact⟨typeIs_int s i t,λ_ e=>nomatch e⟩
 |ref p=>
  cases r;rcases ty with⟨rfl,xs,hq⟩|⟨rfl,o,hk,hc,hd⟩|⟨rfl,hk⟩|⟨rfl,S,n,hk⟩
  . obtain⟨bY,_,pl,_⟩:=P.5;refine⟨pl.isList.typeIs,λa e=>?_⟩;cases e;obtain⟨o,n,e,c,hd,_⟩:=pl;exact⟨o,e,hd⟩
  . refine⟨⟨o,I.R1 p o hk,hc⟩,λa e=>?_⟩;cases e;exact⟨o,I.R1 _ o hk,hd⟩
  . have z: ∃o,p.70/\o.ExactDict:=by
     rcases hk with⟨eI,hk⟩|⟨eI,hk⟩
     . obtain⟨_,_,_,_,o,_,_,e,ex,_⟩:=I.cZ p _ hk;exact⟨o,e,ex⟩
     . obtain⟨_,_,_,_,o,_,_,e,ex,_⟩:=I.cZ p _ hk;exact⟨o,e,ex⟩
    obtain⟨o,e,ex⟩:=z;refine⟨⟨o,e,ex.1⟩,λa e2=>?_⟩;cases e2;exact⟨o,e,ex.2.1⟩
  . obtain⟨o,_,_,_,e,ex,_⟩:=I.cZ p _ hk;refine⟨⟨o,e,ex.1⟩,λa e2=>?_⟩;cases e2;exact⟨o,e,ex.2.1⟩
 |_=>exact False.elim ty
def tBM(K:PySem.W.Frag)(T:String)(r:i.5)(to:TE)(t:TA):TE:=λσ H Q=>to σ H λx H1=>tyV K T x H1/\t σ H1 λxs H2=>r x xs H2 Q
variable{o e:Expr}{es:X.3}{to:TE}{t:TA}{name:Str}{apos pZ:Pos}{T id:String}{r:i.5}
theorem lW(pa:PlainAttrs T)(slot:Slot T name id)(hty:e.15)(hm:MtR X id r)(ho:PE X o to)(ha:a.5)
 (VI:L.15:=by rfl)
 (SG:(E.15
  &&N.15)=true:=by rfl)
 (VJ:((apos.endLine==pZ.line)).7:=by rfl) (hs:k.5:=by rfl) (KO:(backTo pZ es.569).677:=by rfl):
 (tBM X.K T r to t).794:=by intro pins s σ H Q I h;refine(λv s1 ⟨x,H1,I1,r1,ty,q1⟩=>?_).814;obtain⟨h1,h2⟩:=aLe I1 r1 ty;refine⟨T,id,pa,slot,hty,h1,h2,?_⟩;have hA:=ha pZ pins s1 σ H1 _ I1 q1;rw[hs] at hA⊢;refine K.16;exact iA hA λus s2 ⟨vs,H2,I2,r2,q2⟩=>hm pins s2 σ H2 x vs v us Q I2 r1 r2 q2
end
end L2
namespace L2
open PySem PySem.Spec PyProof.Rows
def MtM(X:Cx)(id:String)(r:i.5):Prop:=
 ∀(pins:j.3) (s:Shared) (σ:St) (H:Hp) (x:V) (xs:e.3) (v:Value) (us:h.3) (Q:VK),g.3->RelV x v->xs.69->r x xs H Q->
  (id,v::us).92.591
theorem Vals.one: ∀{x:V} {us:h.3},([x]).69->∃u,us=[u]/\x.46
 |_,_,.cons r .nil=>r.28
theorem Vals.rep{xs:e.3}{us:h.3}(h:xs.69): ∀k:Nat,Vals (k,xs).95 (k,us).95
 |0=> .nil
 |k+1=>by rw[iZ,iZ,rK,rK];exact Vals.append h (Vals.rep h k)
theorem foldl_rep(bY:h.3): ∀(k:Nat) (acc:h.3),
 List.foldl (λx1 x2=>x1++x2) acc.toArray (List.replicate k bY.toArray)=(acc++(k,bY).95).toArray
 |0,acc=>c.3
 |k+1,acc=>by
  have e:acc.toArray++bY.toArray=(acc++bY).toArray:=c.3
  have e2:(acc++bY)++(k,bY).95=acc++(k+1,bY).95:=by rw[iZ,rK,cA]
  rw[<-e2,<-foldl_rep bY k (acc++bY),<-e,iZ,List.foldl_cons]
section
variable{X:Cx}{pins:j.3}{σ:St}{H:Hp}{s:Shared}{l b:Addr}{xs ys zs:e.3}
theorem Inv.aLf{bY its':h.3}{n:Nat}{f:R.3->R.3}{t':Nat}(I:g.3)(hH:l.517)
 (e:(l,U.11).43) (hf:f bY.toArray=its'.toArray) (hv:Vals ys its') (hz:ys.length.37):
 ((H,l,ys).3,{s with heap:=s.heap.update l (Obj.mapSeq f),toks:=t'}).19:=by have q:=PySem.IsL.update e f;rw[hf] at q;refine I.write (x:=l) (e:=l) (hH,trivial).3 B.3 (λb' u hb hu=>(u1 s.heap (Obj.mapSeq f) (Ne.symm hb)).trans hu) q.20 ?_;exact⟨hz,its',_,hv,q⟩
theorem Inv.aOG{bY:h.3}{t':Nat}(I:g.3)(hv:ys.520)(hz:ys.length.37):
 ((H,s.heap.objs.size,ys).3,{s with heap:=s.heap.push ("list",.seq bY.toArray).44,toks:=t'}).19:=
 I.laid (λ_ _ q=>aN _ q) (aS _) ⟨hz,bY,0,hv,G.3⟩
theorem Inv.fresh(I:g.3):s.heap.objs.size.21:=T.4
theorem Inv.ZQ(I:g.3)(hH:l.517):k.10/\∃(bY:h.3) (n:Nat),xs.520/\xs.length=bY.length/\(l,U.11).43:=by obtain⟨z,bY,n,r,e⟩:=I.cZ l _ hH;exact⟨z,bY,n,r,r.length,e⟩
theorem KQ{n:Nat}(h:n.37):(Builtin.List.listTooLong n).25:=by unfold Builtin.List.listTooLong;exact aQ b.3
end
section
variable{X:Cx}
def aHU:i.5:=λx vs H Q=>∃l xs y,x= .ref l/\vs=[y]/\l.517/\xs.length<sizeLine/\Q .gL (H,l,xs++[y]).3
theorem gT:MtM X "list.append" aHU:=by intro pins s σ H x vs v us Q I rx rv h;obtain⟨l,xs,y,rfl,rfl,hH,hz,q⟩:=h;cases rx;obtain⟨u,rfl,ru⟩:=rv.one;obtain⟨z,bY,n,r,hl,e⟩:=I.ZQ hH;refine r8 b0 e.63 F.entry_list_append (F.args_list_append_2 _ _) (PySem.list_append l bY.toArray n u K.14) e.71;refine(bY++[u],r.append ru.555,?_).43;rw[List.length_append,List.length_singleton];omega
def aHV:i.5:=λx vs H Q=>∃l b xs zs,x= .ref l/\vs=b.43/\((b,zs).41,Q .gL (H,l,xs++zs).3).138
theorem tZ:MtM X "list.extend" aHV:=by
 intro pins s σ H x vs v us Q I rx rv h;obtain⟨l,b,xs,zs,rfl,rfl,hH,hB,hz,q⟩:=h;cases rx;obtain⟨u,rfl,ru⟩:=rv.one;cases ru;obtain⟨z,bY,n,r,hl,e⟩:=I.ZQ hH;obtain⟨z2,tO,n2,r2,SH,e2⟩:=I.ZQ hB;have hsz:(bY.toArray.size+tO.toArray.size).37:=List.size_toArray.712
 have VL:¬((!bY.toArray.isEmpty&&x.16)).7:=(KQ hsz,Bool.and_false,a8).18
 refine r8 hJ e.63 F.entry_list_extend (F.args_list_extend_2 _ _)
  (AutoSeq1.list_extend_list_list_0 l bY.toArray n b tO.toArray n2 VL K.14 b.3) ⟨e,e2,?_⟩
 refine(bY++tO,r.append r2,?_).43;rw[List.length_append];omega
def aTp:R2:=λx y H Q=>∃l b xs zs,x= .ref l/\y=z.3/\((b,zs).41,(H,p,xs++zs).3.644).138
theorem KR:(.Add,aTp).61:=by
 intro pins s σ H x y v u Q I rx ry h;obtain⟨l,b,xs,zs,rfl,rfl,hH,hB,hz,q⟩:=h;cases rx;cases ry;obtain⟨z,bY,n,r,hl,e⟩:=I.ZQ hH;obtain⟨z2,tO,n2,r2,SH,e2⟩:=I.ZQ hB;refine PySem.P.add_list e e2 ?_ List.size_toArray.712;have ea:bY.toArray++tO.toArray=(bY++tO).toArray:=c.3
 rw[ea];exact⟨.ref _,_,I.aOG (t':=s.toks) (r.append r2) L.14,rfl,q _ I.fresh⟩
def aTq:R2:=λx y H Q=>∃l k xs,x= .ref l/\y= .int k/\l.517/\-(2^63)<=k/\k<2^63/\(xs.length*k.toNat).37/\
 (H,p,(k.toNat,xs).95).3.644
theorem len_rep{α:Type}(xs:w.3)(k:Nat):(List.replicate k xs).flatten.length=k*xs.length:=by
 induction k with
 |zero=>simp
 |succ k ih=>rw[iZ,rK,List.length_append,ih,Nat.succ_mul,Nat.add_comm]
theorem aLg:(.Mult,aTq).61:=by
 intro pins s σ H x y v u Q I rx ry h;obtain⟨l,k,xs,rfl,rfl,hH,h1,h2,hz,q⟩:=h;cases rx;obtain⟨t,rfl⟩:=ry;obtain⟨z,bY,n,r,hl,e⟩:=I.ZQ hH;have hlen:(bY.toArray.size*k.toNat).37:=hz.767
 have aTr: ¬bY.toArray.size*k.toNat>(2^63-1)/8:=by
  have:(sizeLine:Nat)<=(2^63-1)/8:=r.3
  omega
 have aLh:¬((!Builtin.List.listFitsIndex k)).7:=(fitsIndex_both h1 h2,a8).3
 have VL:¬(Builtin.List.listTooLong (bY.toArray.size*k.toNat)).7:=(KQ hlen,a8).3
 have aTs:(if bY.toArray.isEmpty.7 then 0 else k.toNat,k.toNat).149:=by
  have f0:∀m:Nat,(m,m).149:=λm=>(foldl_rep bY m [],List.nil_append).107
  rw[f0]
  cases bY with
  |nil=>simp
  |cons a r'=>rw[if_neg c.3]
 refine wpAny_binaryOp_repeat_ref (T:="list") (U:="int") (r.3) e.63 (λs'=>typeIs_int s' k t) noFill_list_mul F.fills_int_mul F.slot_int_rmul repeat_list F.slot_int_index.lookup
  (r8 F.slot_int_rmul (typeIs_int s k t) F.entry_int_rmul (F.args_int_rmul_2 _ _) (int___rmul___int_list k t l bY.toArray n)
   ⟨e,rfl,e.63,r8 F.slot_list_mul e.63 F.entry_list_mul (F.args_list_mul_2 _ _) (AutoListH.list___mul___list_int_3 l bY.toArray n k t aLh aTr VL) e.71⟩)
 rw[aTs];exact⟨.ref _,_,I.aOG (t':=s.toks) (r.rep k.toNat) (len_rep,Nat.mul_comm,hz).18,rfl,q _ I.fresh⟩
end
section
variable{prog:Program}{w:World}{A:Around}{E:l.3}{s:Shared}
set_option maxRecDepth 100000 in
end
section
variable{X:Cx}
end
end L2
namespace L2
open PySem PySem.Spec PyProof.Rows
theorem Vals.ints: ∀{ns:f.3} {us:h.3},K.4.69->IntsAre us ns
 |[],us,h=>by rw[List.map_nil] at h;cases h;exact IntsAre.nil
 |n::ns,us,h=>by
  rw[List.map_cons] at h
  cases h with
  |cons r t=> obtain⟨k,rfl⟩:=r;exact IntsAre.cons n k (Vals.ints t)
theorem CN: ∀{us:h.3} {ns:f.3},IntsAre us ns->K.4.69
 |_,_,.nil=>(List.map_nil,Paired.nil).3
 |_,_,.cons n t h=>(List.map_cons,Paired.cons (show RelV (V.int n) (Value.int n t) from t.80) (CN h)).3
theorem Vals.bls: ∀{bs:List Bool} {us:h.3},(bs.map V.bl).69->us=bs.map Value.bool
 |[],us,h=>by rw[List.map_nil] at h;cases h;rfl
 |b::bs,us,h=>by
  rw[List.map_cons] at h
  cases h with
  |cons r t=> cases r;rw[Vals.bls t,List.map_cons]
theorem Vals.xD{a:Addr}{us:h.3}(r:([r.4]).69):us=[D.5]:=by
 cases r with
 |cons r t=> cases t;cases r;rfl
section
variable{prog:Program}{w:World}{A:Around}{E:l.3}{s:Shared}{l:Addr}{bY:h.3}{ns:f.3}{Q:l.3}
theorem aHW(hh:s.5)(hl:bY.toArray.660)(hi:IntsAre bY ns)(iK:0<ns.length)
 (h: (a<=M).817):("max",l.43).92.65:=by
 obtain⟨xs,e⟩:=hi.allInts.items;have hn:numsOf (intItems xs).toList=ns:=(e,hi.numsOf).15
 rw[nums_intItems] at hn;subst hn;rw[e] at hl;have hsz:0<xs.size:=by simpa using iK
 refine PySem.max_intList hh hl hsz λv h' tk hv hk=>?_;obtain⟨t,rfl⟩:=intItems_at hv;obtain⟨h1,h2⟩:=argBest_gt (numAt xs) (xs.size-1);refine h h' tk _ t hk ?_ λa ha=>?_
 . rw[numAt_eq];exact PySem.getD_mem Array.length_toList.663
 . obtain⟨j,hj,rfl⟩:=mem_getD ha;rw[aA,Array.length_toList] at hj;rw[<-numAt_eq];exact h2 j b.3
theorem aHX(hh:s.5)(hl:bY.toArray.660)(hi:IntsAre bY ns)(iK:0<ns.length)
 (h: (M<=a).817):("min",l.43).92.65:=by
 obtain⟨xs,e⟩:=hi.allInts.items;have hn:numsOf (intItems xs).toList=ns:=(e,hi.numsOf).15
 rw[nums_intItems] at hn;subst hn;rw[e] at hl;have hsz:0<xs.size:=by simpa using iK
 refine PySem.min_intList hh hl hsz λv h' tk hv hk=>?_;obtain⟨t,rfl⟩:=intItems_at hv;obtain⟨h1,h2⟩:=argBest_lt (numAt xs) (xs.size-1);refine h h' tk _ t hk ?_ λa ha=>?_
 . rw[numAt_eq];exact PySem.getD_mem Array.length_toList.663
 . obtain⟨j,hj,rfl⟩:=mem_getD ha;rw[aA,Array.length_toList] at hj;rw[<-numAt_eq];exact h2 j b.3
end
section
variable{X:Cx}
def aOH(K:PySem.W.Frag):h.5:=(y<=m).811
def aOI(K:PySem.W.Frag):h.5:=(m<=y).811
theorem aLi(hc:P.3):("max",aOH X.K).54:=(aHW S.4 hl.isList rv.ints iK i.16).809
theorem aLj(hc:P.3):("min",aOI X.K).54:=(aHX S.4 hl.isList rv.ints iK i.16).809
end
section
variable{X:Cx}
def aLk(K:PySem.W.Frag):i.5:=λx xs H Q=>∃(a:Addr) (ys:e.3) (y:V) (j:Nat) (z:V),x=r.4/\xs=[y]/\ys.75/\(o6 y).7/\(ys.all o6).7/\(ys,j,z).4/\(ZP z y).7/\
 (∀(m:Nat) (z':V),m<j->(ys,m,z').4->(ZP z' y).25)/\((j:Nat)).619
theorem JJ{ys:e.3}(f:(ys.all o6).7){j:Nat}{z:V}(h:(ys,j,z).4):(o6 z).7:=List.all_eq_true.mp f z (List.mem_of_getElem? h)
theorem aFd:MtR X "list.index" (aLk X.K):=by
 intro pins s σ H x xs v us Q I rx rxs h;obtain⟨a,ys,y,j,z,rfl,rfl,hs,fy,fys,hz,hzj,z6,q⟩:=h;cases rx
 cases rxs with
 |cons ry rt=>
  rename_i uy ut;cases rt;obtain⟨bY,rv,⟨⟨cls,dd,data,sl⟩,n,ho,hc,hdn,hd⟩,hlen⟩:=K.5;simp only at hc hd;subst hc hd;obtain⟨u,hu,ru⟩:=rv.get hz;obtain⟨hjl,hje⟩:=List.getElem?_eq_some_iff.mp hu;have hvl:=rv.length;have hj:j<bY.toArray.size:=by simpa using hjl
  have hsl:=bJ;refine r8 PySem.F.slot_list_index ho.63 PySem.F.entry_list_index (PySem.F.args_list_index_2 _ _)
   (SeqAt.list_indexAt a bY.toArray n dd sl uy (SD y) j hj b.3 ?_ ?_) (fy,fys).142
  . have e1:bY.toArray[j]=u:=by simpa using hje
    rw[e1,KN ru (JJ fys hz)];exact hzj
  . intro m hm hmj;have hml:m<bY.length:=by simpa using hm
    have hmy:m<ys.length:=b.3
    have hy':(ys,m,ys[m]).4:=aF hmy;obtain⟨u2,hu2,ru2⟩:=rv.get hy';obtain⟨_,hme⟩:=List.getElem?_eq_some_iff.mp hu2;have e1:bY.toArray[m]=u2:=by simpa using hme
    rw[e1,KN ru2 (JJ fys hy')];exact z6 m _ hmj hy'
  . exact((j:Nat)).713
end
section
variable{X:Cx}
end
theorem CO{prog:Program}{w:World}{A:Around}{E:l.3}{s:Shared}{l:Addr}{items:R.3}{Q:l.3}(hl:items.660)
 (h: ∀s₂:Shared,s₂={s with heap:=W.13}->
  (s₂.heap.IsListIter s.heap.objs.size l 0/\s₂.heap.IsList l items)->l≠s.heap.objs.size->s₂.731):(pyIter (.ref l)).65:=by
 have lO:l.506:=by obtain⟨_,e,_⟩:=hl;exact aZ e
 exact HU hl (h _ rfl ⟨k.13,hl.push _⟩ (bS lO))
theorem GD{prog:Program}{w:World}{A:Around}{bs:List Bool}{bY:h.3}(e:bY=bs.map Value.bool):
 TruthOf prog w A (λi v=>(bY.toArray,v).4) (λi=>bs.getD i false):=λi v s Q E hv hq=>by
 have AE:(bY,v).4:=B.11
 rw[e,aE] at AE;obtain⟨b,hb,rfl⟩:=cD.mp AE;have hg:bs.getD i false=b:=by rw[List.getD_eq_getElem?_getD,hb]<;>rfl
 have hq':Q (bs.getD i false) s:=hq;rw[hg] at hq';exact fU hq'
theorem any_range: ∀bs:List Bool,(List.range bs.length).any (λi=>bs.getD i false)=bs.any id
 |[]=>rfl
 |b::bs=>by rw[List.length_cons,List.range_succ_eq_map,List.any_cons,oB,List.any_cons,<-any_range bs];all_goals rfl
theorem all_range: ∀bs:List Bool,(List.range bs.length).all (λi=>bs.getD i false)=bs.all id
 |[]=>rfl
 |b::bs=>by rw[List.length_cons,List.range_succ_eq_map,B6,kD,B6,<-all_range bs];all_goals rfl
section
variable{X:Cx}
def aTw(K:PySem.W.Frag):h.5:=(bs.any id).833
def aTx(K:PySem.W.Frag):h.5:=(bs.all id).833
theorem aLo(hc:P.3):("any",aTw X.K).54:=by
 intro pins s σ H vs us Q I r h;obtain⟨a,bs,rfl,hs,q⟩:=h;obtain⟨bY,rv,hl,_⟩:=K.5;rw[y.5];have hb:=rv.bls;refine call_any_walk Q.13;subst e2;refine⟨_,_,_,_,_,_,_,rfl,o.14,st,GD hb,λh' tk hk=>?_⟩;refine(aN _ eo).751
 . rcases List.mem_cons.mp kR with e1|kR
   . exact absurd (e1▸aZ eo) (d7 _)
   . cases kR
 . show b.11=b.11;rw[<-any_range,hb,List.size_toArray,aA]
theorem E9(hc:P.3):("all",aTx X.K).54:=by
 intro pins s σ H vs us Q I r h;obtain⟨a,bs,rfl,hs,q⟩:=h;obtain⟨bY,rv,hl,_⟩:=K.5;rw[y.5];have hb:=rv.bls;refine call_all_walk Q.13;subst e2;refine⟨_,_,_,_,_,_,_,rfl,o.14,st,GD hb,λh' tk hk=>?_⟩;refine(aN _ eo).751
 . rcases List.mem_cons.mp kR with e1|kR
   . exact absurd (e1▸aZ eo) (d7 _)
   . cases kR
 . show b.11=b.11;rw[<-all_range,hb,List.size_toArray,aA]
end
mutual
inductive Dp(K:PySem.W.Frag)(H:Hp):(V,PyData).16
 |gL:Dp K H .gL .none
 |bl (b:Bool):Dp K H (.bl b) (.bool b)
 |int (i:Int):Dp K H (.int i) (.int i)
 |str (x:Str):Dp K H (.str x) (.str x)
 |lst {a:Addr} {xs:e.3} {ds:List PyData}:xs.75->KS K H xs ds->Dp K H p.3 (.list ds)
 |tup {a:Addr} {xs:e.3} {ds:List PyData}:lN K H a xs->KS K H xs ds->Dp K H p.3 (.tuple ds)
inductive KS(K:PySem.W.Frag)(H:Hp):(e.3,List PyData).16
 |nil:KS K H [] []
 |cons {v:V} {vs:e.3} {d:PyData} {ds:List PyData}:Dp K H v d->KS K H vs ds->KS K H (v::vs) (d::ds)
end
section
variable{X:Cx}{pins:j.3}{σ:St}{H:Hp}{s:Shared}
mutual
theorem Dp.reads(I:g.3): ∀(d:PyData) (v:V) (u:Value),Dp X.K H v d->v.46->∃as,Reads s.heap u d as
 | .none,_,_,h,r=>by cases h;cases r;exact⟨_,Reads.none⟩
 | .bool b,_,_,h,r=>by cases h;cases r;exact⟨_,Reads.bool b⟩
 | .int i,_,_,h,r=>by cases h;obtain⟨t,rfl⟩:=r;exact⟨_,Reads.int i t⟩
 | .str x,_,_,h,r=>by cases h;obtain⟨t,rfl⟩:=r;exact⟨_,Reads.str x t⟩
 | .list ds,_,_,h,r=>by
  cases h with
  |lst hs ha=> cases r;obtain⟨bY,rv,⟨o,n,ho,hc,_,hd⟩,_⟩:=K.5;obtain⟨as,hr⟩:=Dp.readsAll I ds _ bY ha rv;exact(Reads.list ho hc hd hr).20
 | .tuple ds,_,_,h,r=>by
  cases h with
  |tup hs ha=> cases r;obtain⟨bY,rv,⟨o,ho,hc,n,hd⟩,_⟩:=I.tuple hs;obtain⟨as,hr⟩:=Dp.readsAll I ds _ bY ha rv;exact⟨_,Reads.tuple ho hc hd hr⟩
 | .dict _,_,_,h,_=>A.5
theorem Dp.readsAll(I:g.3): ∀(ds:List PyData) (vs:e.3) (us:h.3),KS X.K H vs ds->vs.69->∃as,ReadsAll s.heap us ds as
 |[],_,_,h,r=>by cases h;cases r;exact⟨_,ReadsAll.nil⟩
 |d::ds,_,_,h,r=>by
  cases h with
  |cons h1 h2=>
   cases r with
   |cons r1 r2=> obtain⟨as,q1⟩:=Dp.reads I d _ _ h1 r1;obtain⟨bs,q2⟩:=Dp.readsAll I ds _ _ h2 r2;exact⟨_,ReadsAll.cons q1 q2⟩
end
end
section
variable{X:Cx}
def aTy(K:PySem.W.Frag):R2:=λx y H Q=>∃d e,Dp K H x d/\Dp K H y e/\(SeqAt.shaped d).7/\(SeqAt.shaped e).7/\(PyData.eqv d e).572
theorem aLp(hu:j.11):(.Eq,aTy X.K).45:=by intro pins s σ H x y v u Q I rx ry h;obtain⟨d,e,hd,he,sd,se,q⟩:=h;obtain⟨as,r1⟩:=Dp.reads I d x v hd rx;obtain⟨bs,r2⟩:=Dp.reads I e y u he ry;exact SeqAt.compareEq_shaped r1 r2 sd se hu (_,I,q).27
end
end L2
namespace L2
open PySem PySem.Spec PyProof.Rows
abbrev aFe(h:Heap)(c:Addr)(v:v.5):Prop:=h.IsCell c v
def aTz(scope sc:Scope):Scope:=
 {scope with names:=scope.names.map (k== .free,(n,.cell)).155}
def gJ(cells:Y.3):l.10->Y.3->Y.3
 |[],acc=>acc
 |(n,k)::r,acc=>if k== .free then gJ cells r ((n,(cells.lookup n).getD 0)::acc) else gJ cells r acc
theorem CP(env:Env)(f:Str×NameKind->Y.3->Sem (ForInStep Y.3))
 (hf: ∀n k c,f (n,k) c=if k== .free then(do let a<-cellOf env n;pure (.yield ((n,a)::c))) else pure (.yield c)):
 ∀(names:l.10) (acc:Y.3),(∀y∈names,y.2= .free->∃c,env.cells.lookup y.1=some c)->forIn names acc f=pure (gJ env.cells names acc)
 |[],acc,_=>rL.508
 |(n,k)::r,acc,h=>by
  rw[fR,hf];have ih:=λacc=>CP env f hf r acc λy hy=>h y (bG _ hy);unfold gJ;by_cases hk:((k==NameKind.free)).7
  . rw[if_pos hk,if_pos hk];obtain⟨c,hc⟩:=h (n,k) cI m.12;have e:cellOf env n=pure c:=by unfold cellOf;rw[hc]
    rw[e];have e2:(env.cells.lookup n).getD 0=c:=hc.508
    rw[e2];exact ih _
  . rw[if_neg hk,if_neg hk];exact ih _
theorem ZR{scope:Scope}{env:Env}(h: (∃c,env.cells.lookup y.1=some c).765):closureFor scope env=pure (gJ env.cells scope.names []):=by simp only [closureFor];rw[CP env _ (λn k c=>rfl) scope.names [] h];rfl
theorem mem_lookup{α:Type}: ∀{l:α.57} {n:Str} {c:α},(n,c)∈l->∃c',l.lookup n=some c'
 |(k,v)::r,n,c,h=>by
  rw[List.lookup_cons]
  cases hb:n==k with
  |true=>exact⟨_,rfl⟩
  |false=>
   rcases G.11 with e|h
   . cases e;simp at hb
   . exact mem_lookup h
theorem sC{cells:Y.3}: ∀{names:l.10} {acc:Y.3} {n:Str} {c:Addr},(n,c)∈gJ cells names acc->(n,c)∈acc\/((n,.free)∈names/\c=(cells.lookup n).getD 0)
 |[],_,_,_,h=> .inl h
 |(m,k)::r,acc,n,c,h=>by
  unfold gJ at h;split at h
  . rename_i hk;have hk:k= .free:=m.12
    rcases sC h with h|⟨h1,h2⟩
    . rcases G.11 with e|h
      . cases e;exact .inr (hk▸cI).80
      . exact .inl h
    . exact .inr ⟨bG _ h1,h2⟩
  . rcases sC h with h|⟨h1,h2⟩
    . exact .inl h
    . exact .inr ⟨bG _ h1,h2⟩
theorem xE{cells:Y.3}: ∀{names:l.10} {acc:Y.3} {p:Str×Addr},p∈acc->p∈gJ cells names acc
 |[],_,_,h=>h
 |(m,k)::r,acc,p,h=>by
  unfold gJ;split
  . exact xE (bG _ h)
  . exact xE h
theorem xF{cells:Y.3}: ∀{names:l.10} {acc:Y.3} {n:Str},(n,.free)∈names->(n,(cells.lookup n).getD 0)∈gJ cells names acc
 |(m,k)::r,acc,n,h=>by
  unfold gJ;rcases G.11 with e|h
  . cases e;exact xE cI
  . split
    . exact xF h
    . exact xF h
theorem t6: ∀{names:l.10} {h:Heap} {acc:Y.3} {x:Str} {c:Addr},(x,c)∈h.objs.size.723->
 (x,c)∈acc\/((x,.cell)∈names/\h.objs.size<=c/\aFe (pushCells h names) c none)
 |[],_,_,_,_,h=> .inl h
 |(n,k)::r,h,acc,x,c,hm=>by
  unfold cellsFrom at hm;unfold pushCells;split at hm
  . rename_i hk;rw[if_pos hk];have hk:k= .cell:=m.12
    rw[<-dJ h ("cell",.cell none).44] at hm;rcases t6 hm with hm|⟨h1,h2,h3⟩
    . rcases f.10 with e|hm
      . cases e;exact .inr ⟨hk▸cI,aS _,_,RY r _ _ _ G.3,rfl⟩
      . exact .inl hm
    . rw[dJ] at h2;exact .inr ⟨bG _ h1,BG h2,h3⟩
  . rename_i hk;rw[if_neg hk];rcases t6 hm with hm|⟨h1,h2,h3⟩
    . exact .inl hm
    . exact .inr ⟨bG _ h1,h2,h3⟩
theorem zL: ∀{names:l.10} {n:Nat} {acc:Y.3} {p:Str×Addr},p∈acc->p∈n.723
 |[],_,_,_,h=>h
 |(m,k)::r,n,acc,p,h=>by
  unfold cellsFrom;split
  . exact zL (bG _ h)
  . exact zL h
theorem FA: ∀{names:l.10} {n:Nat} {acc:Y.3} {x:Str},(x,.cell)∈names->∃c,(x,c)∈n.723
 |(m,k)::r,n,acc,x,h=>by
  unfold cellsFrom;rcases G.11 with e|h
  . cases e;exact⟨n,zL cI⟩
  . split
    . exact FA h
    . exact FA h
theorem FC: ∀{names:l.10} {h:Heap} {acc:Y.3} {x y:Str} {c:Addr},(∀p∈acc,p.2<h.objs.size)->(∀x y c,(x,c)∈acc->(y,c)∈acc->x=y)->
 (x,c)∈h.objs.size.723->(y,c)∈h.objs.size.723->x=y
 |[],_,_,_,_,_,_,hi,h1,h2=>hi _ _ _ h1 h2
 |(n,k)::r,h,acc,x,y,c,hl,hi,h1,h2=>by
  unfold cellsFrom at h1 h2;split at h1
  . rename_i hk;rw[if_pos hk] at h2;rw[<-dJ h ("cell",.cell none).44] at h1 h2;refine FC (h:=h.push _) M.5 (λx y c a b=>?_) h1 h2
    . rw[dJ];rcases List.mem_cons.mp hp with rfl|hp
      . exact tX _
      . exact iN (hl p hp)
    . rcases List.mem_cons.mp a with e|a<;>rcases List.mem_cons.mp b with e'|b
      . cases e;cases e';rfl
      . cases e;exact absurd (hl _ b) (d7 _)
      . cases e';exact absurd (hl _ a) (d7 _)
      . exact hi _ _ _ a b
  . rename_i hk;rw[if_neg hk] at h2;exact FC hl hi h1 h2
theorem VM{M:Model}{A:Around}{E:l.3}{s:Shared}{scope:Scope}{globals:Addr}{closure:Y.3}{qual:Str}{func:M.4}{code:Value}{around:Env}{builtins:Addr}{Q:Env.49}
 (h:Q (newEnv scope s.heap.objs.size globals (O.3,closure).103 qual func code (some around) builtins)
  {s with heap:=a.12.732}):
 wpAny M A (newFunctionEnv scope globals closure [] qual func code (some around) builtins) Q E s:=by simp only [newFunctionEnv,Option.isSome_some,if_true];refine aB (wpAny_alloc ?_);refine aB (wpAny_layCells _ (λn k c=>rfl) scope.names closure _ _ ?_);rw[show({s with heap:=a.12}:Shared).heap.objs.size=O.3 from dJ ..];rw[rL];exact aB (aH (aH h))
theorem xG{sc:Scope}: ∀{names:l.10} {x:Str} {k:NameKind},
 (names.map (k==NameKind.free,(n,NameKind.cell)).155).lookup x=some k->
 ∃k',names.lookup x=some k'/\(k=k'\/(k'= .free/\k= .cell))
 |[],_,_,h=>C.4
 |(n,k₀)::r,x,k,h=>by
  have ih:= @xG sc r x k;have h':List.lookup x ((((k₀==NameKind.free&&sc.kind== .function&&sc.names.lookup n==some .cell),(n,NameKind.cell),(n,k₀)).8)::(r.map _))=some k:=h
  cases hx:x==n with
  |true=>
   simp only [List.lookup_cons,hx];by_cases hc:J.16
   . rw[p.5] at h';simp only [List.lookup_cons,hx] at h';cases h';simp only [Bool.and_eq_true,beq_iff_eq] at hc;exact(k₀,.inr (hc.1.1).80).50
   . rw[O.5] at h';simp only [List.lookup_cons,hx] at h';cases h';exact B.3.28
  |false=>
   simp only [List.lookup_cons,hx];by_cases hc:J.16
   . rw[p.5] at h';simp only [List.lookup_cons,hx] at h';exact ih h'
   . rw[O.5] at h';simp only [List.lookup_cons,hx] at h';exact ih h'
structure VN(N:x.3)(sc scope:Scope)(own:Nat.57):Prop where
 kind:scope.kind= .function
 uniq: ∀y∈scope.names,E.14=some y.2
 ix: ∀p∈own,(N,p.2,p.1).4
 free: ((sc.names.lookup y.1).562\/(sc.names.lookup y.1).556).765
 own: ∀y∈scope.names,y.2= .local\/y.2= .cell->y.1∈own.map (·.1)\/y.1∉N
def wipe(σ:St):a.3->St
 |[]=>σ
 |v::vs=>(R.4).set v none
theorem xH(σ:St): ∀vs:a.3,(R.4,σ.length).6
 |[]=>rfl
 |v::vs=>by unfold wipe;rw[HR,xH σ vs]
theorem FD{σ:St}{i:Nat}{x:V}: ∀{vs:a.3},((R.4),some x).4->(σ,some x).4/\i∉vs
 |[],h=>⟨h,c.3⟩
 |v::vs,h=>by
  unfold wipe at h;by_cases hi:v=i
  . subst hi;by_cases hv:v<(R.4).length
    . rw[rM hv] at h;cases h
    . rw[c5 B.11] at h;cases h
  . rw[kF hi] at h;obtain⟨h1,h2⟩:=FD h;exact⟨h1,by simp only [List.mem_cons,not_or];exact⟨λe=>hi e.symm,h2⟩⟩
abbrev Cx.SI(X:Cx)(s:Shared)(H:Hp)(scope:Scope)(nJ:Env)(fp:i.3):Cx:={X with JE:=s,H_0:=H,env:=nJ,outer:=X.stack,ex:=fp,fn:=λx=>scope.names.lookup x==some .cell,pn:=[],xe:=X.4}
section
variable{X:Cx}{pins:j.3}{σ:St}{H:Hp}{s:Shared}
theorem VO{scope:Scope}{own:Nat.57}{fp:i.3}(I:g.3)(ok:b.14)(hN:X.N.Nodup)(hfp: ∀b∈fp,H.614/\b.506):
 Inv ((O.3,j.12).103,s.heap.objs.size).81.678 [] (wipe σ (own.map (·.2))) H {s with heap:=a.12.732}:=by
 have wH: (∃c,(y.1).616).765:=λy hy e=>by
  rcases ok.free y hy e with k|k
  . exact I.ok.has _ (.inl k)
  . exact I.ok.has _ (.inr k)
 generalize VP:((O.3,j.12).103,s.heap.objs.size).81=nJ;have kp:∀b o,b.70->((a.12.732).get? b).23:=λb o e=>RY _ _ _ _ (aN _ e);have hL:nJ.locals=s.heap.objs.size:=by rw[<-VP];rfl
 have z7:nJ.cells=(O.3,j.12).103:=by rw[<-VP];rfl
 have hsc:nJ.scope=aTz scope X.env.scope:=by rw[<-VP];rfl
 rw[<-dJ s.heap ("dict",.dict #[]).44] at z7;have cm: ∀{y c},(y,c)∈j.12->y.616/\c.506:=λ{y c} hm=>by
  rcases sC hm with hm|⟨h1,rfl⟩
  . cases hm
  . obtain⟨c,hc⟩:=wH _ h1 rfl;rw[hc];obtain⟨w,z⟩:=I.cell _ _ hc;exact z.lt.73
 have mem: ∀{y c},y.610->(y.616/\c.506)\/(O.3<=c/\aFe a.12.732 c none):=λ{y c} e=>by
  rw[z7] at e;rcases t6 (cM e) with hm|⟨_,h2,h3⟩
  . exact .inl (cm hm)
  . rw[dJ] at h2;exact(h2,h3).59
 have look: ∀{y},d.11.556->∃c,y.610/\y.616:=λ{y} hl=>by
  have hy:(y,NameKind.free)∈scope.names:=cM hl;obtain⟨c',e'⟩:=mem_lookup (zL (names:=scope.names) (n:=(a.12).objs.size) (xF (cells:=X.env.cells) (acc:=[]) hy));rw[<-z7] at e';refine(c',e').17;rw[z7] at e';rcases t6 (cM e') with hm|⟨h1,_,_⟩
  . exact(cm hm).1
  . have:=ok.uniq _ h1;rw[hl] at this;cases this
 have okB:(nJ.678).Ok:=by
  refine⟨I.ok.mod,by show nJ.scope.kind=_;rw[hsc];exact ok.kind,by show nJ.globals=_;rw[<-VP];exact I.ok.glob,by show nJ.builtins=_;rw[<-VP];exact I.ok.blt,by show s.heap.objs.size<=nJ.locals;rw[hL];exact aS _,
   λy z c e1 e2=>?_,e.10,λy c z e=>?_,I.ok.hd,I.ok.frames,B.3,λb hb=>⟨?_,λy c e z=>?_⟩,I.bs,aG I.ok.Y9 I.sz,λb o e hb=>?_,λb hb z=>?_,I.stack,I.R3⟩
  . have e1:y.610:=e1;have e2:z.610:=e2;rw[z7] at e1 e2;refine FC M.5 (λy z c a b=>I.ok.inj y z c (cm a).1 (cm b).1) (cM e1) (cM e2);rw[dJ];exact iN (cm (y:=p.1) (c:=p.2) hp).2
  . show∃c,y.610;have key: ∀k,nJ.kindOf y=some k->(k= .cell\/k= .free)->∃c,y.610:=λk hk rX=>by
     unfold Env.kindOf at hk;rw[hsc] at hk;obtain⟨k',e,r⟩:=xG hk;have:k'= .cell\/k'= .free:=by
      rcases r with rfl|⟨rfl,_⟩
      . exact rX
      . exact .inr rfl
     rcases this with rfl|rfl
     . obtain⟨c,hm⟩:=FA (n:=(a.12).objs.size) (acc:=j.12) (cM e);obtain⟨c',e'⟩:=mem_lookup hm;exact⟨c',(z7,e').3⟩
     . obtain⟨c,h1,_⟩:=look e;exact⟨c,h1⟩
    rcases hy with hy|hy
    . exact key _ hy B.3
    . exact key _ hy (.inr rfl)
  . have z:((d.11==some NameKind.cell)).7:=z;have z:d.11.562:=by simpa using z
    have e:y.610:=e;rw[z7] at e;rcases t6 (cM e) with hm|⟨_,h2,_⟩
    . rcases sC hm with hm|⟨h1,_⟩
      . cases hm
      . have q:=ok.uniq _ h1;rw[z] at q;cases q
    . rw[dJ] at h2;exact BG h2
  . show b≠nJ.locals;rw[hL];exact bS (hfp b hb).2
  . have e:y.610:=e;rcases mem e with⟨h1,_⟩|⟨h1,_⟩
    . exact(hfp b hb).1.2.2.2.2.1 y c h1 z
    . have h2:O.3<=b:=(z,h1).15
      exact absurd (bD (hfp b hb).2 (BG h2)) (d7 _)
  . rcases (hfp b hb).1.2.2.2.1 with z|z
    . exact I.ok.U9 b o e z
    . exact absurd (bD (aZ e) (aG I.ok.Y9 z)) (d7 _)
  . rcases List.mem_cons.mp (I.ZA b z) with z|z
    . exact(hfp b hb).1.2.1 z
    . exact(hfp b hb).1.2.2.1 z
 refine⟨okB,rfl,I.bare,Un.kept kp,⟨λ_=>none,?_,λi y av e1 e2 e3=>?_⟩,λy c e=>?_,?_,λy c e=>?_,M.5,I.cZ.kept kp,(xH,I.len).3⟩
 . show Heap.Ns _ nJ.locals _;rw[hL];exact Heap.Ns.keeps (Heap.Ns.new ..) λb o e=>RY _ _ _ _ e
 . obtain⟨e2,iK⟩:=FD e2;have N4:d.11.556/\((nJ.kindOf y).562\/(nJ.kindOf y).556):=by
    have key: ∀k,nJ.scope.names.lookup y=some k->k= .local\/k= .cell\/k= .free->d.11.556/\((nJ.kindOf y).562\/(nJ.kindOf y).556):=λk hk rX=>by
     have hk0:=hk;rw[hsc] at hk;obtain⟨k',e,r⟩:=xG hk;have no: ¬(k'= .local\/k'= .cell):=λhh=>by
      rcases ok.own _ (cM e) hh with e'|e'
      . obtain⟨p,hp,hpy⟩:=a5.mp e';have e3:=ok.ix p hp;have:p.1=y:=hpy;rw[this] at e3;exact iK (a5.mpr ⟨p,hp,J1 hN e3 e1⟩)
      . exact e' (List.mem_of_getElem? e1)
     rcases r with rfl|⟨rfl,rfl⟩
     . rcases rX with rfl|rfl|rfl
       . exact absurd B.3 no
       . exact absurd (.inr rfl) no
       . exact⟨e,.inr hk0⟩
     . exact⟨e,.inl hk0⟩
    have e3:Vis nJ.scope y:=e3;rcases e3 with e3|e3|e3
    . exact key _ e3 B.3
    . exact key _ e3 (.inr B.3)
    . exact key _ e3 (.inr (.inr rfl))
   obtain⟨m,hn,hl⟩:=I.loc;have aTA:y.684:=(ok.free _ (cM N4.1) rfl).elim (λk=> .inr (.inl k)) (λk=> .inr (.inr k));obtain⟨w,r,q⟩:=hl i y av e1 e2 aTA;refine⟨w,r,.inr (N4.2).71⟩;obtain⟨c,h1,h2⟩:=look N4.1;rcases q with⟨k,_⟩|⟨_,c',e',z⟩
   . have k:(X.env.scope.names.lookup y).583:=k;rcases ok.free _ (cM N4.1) rfl with k'|k'<;>rw[show X.env.scope.names.lookup y=_ from k'] at k<;>cases k
   . rw[h2] at e';cases e';exact⟨c,h1,z.keeps kp⟩
 . have e:y.610:=e;rcases mem e with⟨h1,_⟩|⟨_,z⟩
   . obtain⟨w,z⟩:=I.cell y c h1;exact⟨w,z.keeps kp⟩
   . exact⟨_,z⟩
 . show nJ.locals.21;rw[hL];exact T.4
 . have e:y.610:=e;rcases mem e with⟨h1,_⟩|⟨h1,_⟩
   . exact I.o4 y c h1
   . exact I.cZ.fresh (BG h1)
 . exact absurd (show p∈([]:j.3)++[] from hp) c.3
theorem aLq{E:l.3}{D:Addr}{xs:e.3}{y:V}{v:Value}{Q:l.3}(I:g.3)(hD:D.517)(hz:xs.length<sizeLine)(r:RelV y v)
 (h: ∀s',((H,D,xs++[y]).3,s').19->Q .none s'):("list.append",[.ref D,v]).92.674:=by obtain⟨hz',bY,n,ri,e⟩:=I.cZ D _ hD;have hl:=ri.length;refine append_at (hsz:=K.14) e λh' sb JF=>?_;refine h {s with heap:=h'} (I.write (t':=s.toks) (by rw[hD];trivial) B.3 (λb u hb q=>(b,hb,q).22) JF.20 ⟨hz.768,bY++[v],n+1,ri.append r.555,?_⟩);rw[JF];simp
def PTs(X:Cx)(ifs:X.3)(t:TT):Prop:=
 ∀(pins:j.3) (s:Shared) (σ:St) (H:Hp) (Q:Bool.53),g.3->t σ H Q->
  (forIn ifs true λc r=>(r,do let ok<-isTrue c X.env (eval c X.env);pure (ForInStep.yield ok),pure (ForInStep.yield r)).8,TP X pins σ Q).53
def aHZ:TT:=λ_ H Q=>Q true H
theorem cT:PTs X [] aHZ:=λ_ _ _ H _ I h=>wpAny_tests_nil ⟨H,I,h⟩
theorem sD{c:Expr}{t:TT}(h:PT X c t):PTs X [c] t:=λpins s σ H Q I hw=>wpAny_tests_one Q.717
end
theorem aC8{α:Type}{t:Sem α}{Q Q':α.49}{M:Model}{A:Around}{E:l.3}{s:Shared}(h:wpAny M A t Q X.4 s)(hQ: ∀a s,Q a s->Q' a s):wpAny M A t Q' E s:=fS h hQ λ_ _ z=>False.elim z
theorem SJ{prog:Program}{w:World}{A:Around}{R:Result.49}{s:Shared}{elt target iter:Expr}{ifs:X.3}{scope:Scope}{pos:Pos}{it acc:Value}{env:Env}(I:Nat.49)
 (turn: ∀n s,I n s->wpAny (A.4) A (pyNext it) (λr s₁=>match r with
  |none=>R (.ok .next) s₁
  |some v=>wpAny (A.4) A (letOwnedTupleGo target it v) (λ_ aJV=>wpAny (A.4) A (assign target env v) (λ_ s₂=>
   wpAny (A.4) A (forIn ifs true λc r=>(r,do let ok<-isTrue c env (eval c env);pure (ForInStep.yield ok),pure (ForInStep.yield r)).8) (λok s₃=>
    if ok.7 then wpAny (A.4) A (eval elt env) (λx s₄=>
     wpAny A.4 A ("list.append",[acc,x]).92 (λ_ s₅=>∃m,m<n/\I m s₅) Q.12 s₄) (Q.12) s₃
    else ∃m,m<n/\I m s₃) (Q.12) s₂) (Q.12) aJV) (Q.12) s₁) (Q.12) s)
 (n:Nat) (h:I n s):
 codeAny A.4 A (.compLoop target.648 0 it acc env) R s:=by
 refine codeAny_loop rfl I (λn s hI=>?_) n h;show wpAny _ A ((compTurn target.648 0 it acc env).onRaise (λx=>do noteFrame x env;theTreesLotGoes x)) _ _ s;refine wpAny_noted ?_;rw[compTurn_list];refine aB (JD (aB (fS (turn n s hI) (λr s₁ h₁=>?_) λ_ _ h'=>h')))
 cases r with
 |none=>exact aH h₁
 |some v=>
  refine aB (fS h₁ (λ_ aJV aOM=>?_) λ_ _ h'=>h');refine aB (fS aOM (λ_ s₂ h₂=>aB (fS h₂ (λok s₃ h₃=>?_) λ_ _ h'=>h')) λ_ _ h'=>h')
  cases ok with
  |false=>exact aH h₃.73
  |true=> exact aB (aB (fS h₃ (λx s₄ h₄=>aB (fS h₄ (λ_ s₅ h₅=>aH (aH h₅.73)) λ_ _ h'=>h')) λ_ _ h'=>h'))
section
variable{X:Cx}
def tLc(wi:TI)(g:TG)(tt:TT)(te:TE)(vs:a.3):TE:=λσ H Q=>wi σ H λJ H1=>∀D,(H1 D).9->∃W:Nat.628,I.12/\∀i m H,W i m H->
 (J.stop i H/\Q (.ref D) H)\/(J.go i H/\∃Nx:Hp.41,P.12/\∀x H',z.10->g x (R.4) H' λσ2 H2=>o.11/\tt σ2 H2 λb H3=>
  N.12)
theorem aBS{pins:j.3}{s:Shared}{σ:St}{H:Hp}{Q:VK}{elt tg iter:Expr}{ifs:X.3}{scope:Scope}{own:Nat.57}{pos pos':Pos}{wi:TI}{g:TG}{tt:TT}{te:TE}{use:Option (Value->Sem Unit)}{Qf:l.3}
 (hc:P.3) (hN:X.N.Nodup) (I:g.3) (hi:PI X tg iter wi) (ok:b.14)
 (hg: (PG (cl,C).81.678 tg g).710) (ht: z.15)
 (he: y.15) (hs: n.14)
 (h:tLc wi g tt te (own.map (·.2)) σ H Q)
 (hRR: ∀D C s' m H',T.5->D.84->s'.heap.Ns C m->HZ X pins H' C->compPost i.4 X.A X.xe use Qf (.ref D) C (.ok .next) s'):
 (comprehension tg.648 scope X.env pos' (newList []) false iter.58 use,Qf).53:=by
 have wH: (∃c,(y.1).616).765:=λy hy e=>by
  rcases ok.free y hy e with k|k
  . exact I.ok.has _ (.inl k)
  . exact I.ok.has _ (.inr k)
 refine wpAny_comprehension_free (use:=use) rfl hs (ZR wH) ok.kind (λy hy e=>(ok.uniq y hy,e).7)
  (iA (hi pins s σ H _ I h) λxv s1 hx=>iA hx λitv s2 h2=>?_)
 obtain⟨it,fp,tn,J,H2,e,I2,T,st2,f2,q⟩:=h2;subst e;refine eG (VM ?_) (0).514;generalize hD:s2.heap.objs.size=D;have hDn:(H2 D).9:=I2.cZ.fresh (YS hD);obtain⟨W,⟨m0,w0⟩,turn⟩:=q D hDn;generalize hs3:({s2 with heap:=s2.heap.push i.12}:Shared)=s3;have I3:(D.557,s3).19:=by rw[<-hs3];refine I2.laid (t':=s2.toks) (λb o e=>aN _ e) (YS hD) ⟨aW _,[],0,.nil,?_⟩;rw[<-hD];exact G.3
 have h3:s3.heap=s2.heap.push i.12:=by rw[<-hs3]
 have sz:∀b∈fp,b<s2.heap.objs.size:=λb hb=>by obtain⟨o,e,_⟩:=T.obj _ _ st2 b hb;exact aZ e
 have f3:∀b∈fp,D.557.614/\b<s3.heap.objs.size:=λb hb=>by have lO:=sz b hb;refine⟨⟨?_,(f2 b hb).2⟩,(h3,dJ,iN lO).18⟩;rw[bF (hD,bS lO).15];exact(f2 b hb).1
 have st3:tn 0 s3.heap:=T.keep _ _ _ st2 λb _ o e=>(h3,aN _ e).3
 have I4:=VO I3 ok hN f3;have pg:=hg s3 D.557 s3.heap.objs.size f.13 fp;have pt:=ht s3 D.557 s3.heap.objs.size f.13 fp;have pe:=he s3 D.557 s3.heap.objs.size f.13 fp;show codeAny _ _ (.compStart tg.648 0 (.ref it) (.ref D) (f.13,s3.heap.objs.size).81) p.16 H.16;have nfp:∀b∈fp,((D.557) b).9:=λb hb=>(f3 b hb).1.1;generalize hce:(f.13,s3.heap.objs.size).81=ce at I4 pg pt pe⊢;have cL:ce.locals=s3.heap.objs.size:=by subst hce;rfl
 generalize hH3:D.557=H3 at I3 I4 pg pt pe w0 nfp f3;generalize hs4:(H.16:Shared)=s4 at I4⊢;have st4:tn 0 s4.heap:=T.keep _ _ _ st3 λb _ o e=>(hs4,RY _ _ _ _ (aN _ e)).15
 have stat: ∀{σ':St} {H':Hp} {s':Shared},Inv f.12 [] σ' H' s'->(v.12)->∀b∈fp,HZ f.12 [] H' b:=λ{σ' H' s'} I' hn b hb=>
  ⟨hn b hb,(I'.ok.exf b hb).1,I'.ok.VA b hb,.inl hb,λx c e=>(I'.ok.exf b hb).2 x c e,λp hp=>(show p∈([]:j.3)++[] from hp).515⟩
 have loop:codeAny i.4 X.A (.compLoop tg.648 0 (.ref it) (.ref D) ce) p.16 s4:=by
  refine SJ (λn s'=>∃i H',Inv (X.SI s3 H3 scope ce fp) [] (wipe σ (own.map (·.2))) H' s'/\tn i s'.heap/\(∀b∈fp,H' b=none)/\W i n H') ?_ m0 ⟨0,H3,I4,st4,nfp,w0⟩;rintro n s5 ⟨i,H5,I5,st5,n5,w5⟩;rcases turn i n H5 w5 with⟨stop,qq⟩|⟨go,Nx,hNx,step⟩
  . have td:=T.done f.12 rfl rfl rfl hc i [] s5 _ H5 X.4 I5 (stat I5 n5) st5 stop;refine aC8 td λr s6 ⟨hr,I6⟩=>?_;subst hr;have I7:(H5,s6).19:=I3.aER (ch:=fp) I6.os I6.base I6.cZ I6.bare λb hb=>⟨(f3 b hb).1.2.2.2.1,(f3 b hb).1.2.1,(f3 b hb).1.2.2.2.2.1,(f3 b hb).1.2.2.2.2.2⟩;have nC:(H5 s3.heap.objs.size).9:=by have z:(H5 ce.locals).9:=I6.free;rw[cL] at z;exact z
    obtain⟨m,hn,_⟩:=I6.loc;have hn:s6.heap.Ns ce.locals m:=hn;rw[cL] at hn;exact hRR D s3.heap.objs.size s6 m H5 I7 qq hn (I3.aEY (aS _) nC)
  . have ti:=T.item f.12 rfl rfl rfl hc i [] s5 _ H5 X.4 I5 (stat I5 n5) st5 go;refine aC8 ti λr s6 ⟨u,hr,h6⟩=>?_;subst hr;refine aC8 h6 λ_ s7 ⟨x,H7,I7,r7,y7,st7,n7⟩=>?_;have I7':=I7.pinned (stat I7 n7) (T.obj _ _ st7);refine aC8 (pg _ s7 _ H7 x u _ I7' r7 (step x H7 y7)) λ_ s8 ⟨σ8,H8,I8,hw8,q8⟩=>?_;refine aC8 (pt _ s8 σ8 H8 _ I8 q8) λb s9 ⟨H9,I9,q9⟩=>?_;have fin: ∀{s':Shared} {H':Hp},Inv f.12 ([]++J8 fp s7.heap) σ8 H' s'->Nx H'->∃m,m<n/\∃i H',Inv f.12 [] (wipe σ (own.map (·.2))) H' s'/\tn i s'.heap/\(v.12)/\W i m H':=λ{s' H'} I' nx=>by
     obtain⟨m',hm,w'⟩:=hNx H' nx;have aON: ∀b∈fp,∀o,(s7.heap.get? b).23->(s'.heap.get? b).23/\(H' b).9:=λb hb o e=>
      let z:=I'.pin (b,o) (dX _ (dX _ (BH hb e)))
      ⟨z.1,z.2.1⟩
     have hl:((wipe σ (own.map (·.2))),σ8.length).6:=by rw[<-hw8,xH]
     refine⟨m',hm,i+1,H',(I'.CI (pins:=[])).weak hl (λj v e=>?_),T.keep _ _ _ st7 λb hb o e=>(aON b hb o e).1,q.5,w'⟩
     . rw[<-hw8] at e;exact(FD e).1
     . obtain⟨o,e,_⟩:=T.obj _ _ st7 b hb;exact(aON b hb o e).2
    cases b with
    |false=> simp only [Bool.false_eq_true,if_false] at q9⊢;exact fin I9 q9
    |true=> simp only [if_true] at q9⊢;refine aC8 (pe _ s9 σ8 H9 _ I9 q9) λz s10 ⟨yv,VQ,I10,r10,acc,aTF,KU,nx⟩=>?_;exact aLq (X:=f.12) I10 aTF KU r10 λs11 I11=>fin I11 nx
 exact codeAny_compStart_list loop (T.self X.A 0 _ _ _ st4 loop)
theorem fM{elt tg iter:Expr}{ifs:X.3}{scope:Scope}{own:Nat.57}{pos:Pos}{wi:TI}{g:TG}{tt:TT}{te:TE}(hc:P.3)(hN:X.N.Nodup)(hi:PI X tg iter wi)(ok:b.14)
 (hg: (PG (cl,C).81.678 tg g).710) (ht: z.15)
 (he: y.15) (hs: n.14:=by intro _;rfl):
 PE X tg.648 (tLc wi g tt te (own.map (·.2))):=by intro pins s σ H Q I h;rw[eval_ListComp];refine aBS hc hN I hi ok hg ht he hs h λD C s' m H' I' q hn f=>⟨m,hn,λh'' sb=>?_⟩;obtain⟨f0,f1,f2,f3,f4,f5⟩:=f;exact⟨.ref D,H',I'.turned (t':=s'.toks) (λb o hb e=>(b,hb,e).22) f0 f1 f3 f4 f5,rfl,q⟩
theorem lB{i:Nat}{y:Str}{py:Pos}{elt tg iter:Expr}{ifs:X.3}{scope:Scope}{own:Nat.57}{pos aOO:Pos}{wi:TI}{g:TG}{tt:TT}{te:TE}(hc:P.3)(hN:X.N.Nodup)(hy:(X.N,y).4)(hyl:(X.env.scope.names.lookup y).583)
 (hsw:swapsWith tg.648 (some (.Name y py)) aOO.line X.env=pure true) (hi:PI X tg iter wi) (ok:b.14)
 (hg: (PG (cl,C).81.678 tg g).710) (ht: z.15)
 (he: y.15) (hs: n.14:=by intro _;rfl):
 PS X (.Assign [.Name y py] tg.648 aOO) (aKX (tLc wi g tt te (own.map (·.2))) (J7 i)):=by
 intro pins s σ H D I h;rw[exec_Assign_Name_used _ _ _ _ hsw];refine aB (JD (aB ?_));show wpAny _ X.A (do let _<-comprehension (.ListComp elt [⟨tg,iter,ifs,0⟩] scope pos) scope X.env (firstIterPos [⟨tg,iter,ifs,0⟩] pos) (newList []) false (eval iter X.env) (some (assign (.Name y py) X.env))) _ _ s;have h:tLc wi g tt te (own.map (·.2)) σ H (λx H1=>J7 i x σ H1 D.nx):=h;refine aB (iA (aBS (Qf:=λ_ s'=>SP X pins D .next s') hc hN I hi ok hg ht he hs h λL C s' m H' I' q hn f=>?_) λ_ s' hq=>aH (aH hq));show wpAny _ _ (assign (.Name y py) X.env (.ref L)) _ _ _;refine wpAny_assign_Name (O7 (v:=V.ref L) I' hN hy (.inl hyl) rfl (λs2 I2 ⟨a,sb,ha⟩=>?_) (.inr hyl));obtain⟨f0,f1,f2,f3,f4,f5⟩:=f;have haC:C≠a:=by
  rcases ha with z|z
  . rw[z];exact f1
  . exact λe=>f4 y a z e.symm
 refine⟨m,hn.sameBut sb haC,λh3 sb3=>?_⟩;exact⟨_,H',I2.turned (t':=s2.toks) (λb o hb e=>(sb3.2 b hb).trans e) f0 f1 f3 f4 f5,q⟩
theorem nL{elt:Expr}{gs:List Comprehension}{scope:Scope}{pos py:Pos}{y:Str}{l:Nat}{env:Env}(hk:env.scope.kind= .function)(hy:(env.scope.names.lookup y).583)(hl:((py.line==pos.line)).7)
 (ha:((scope.names.any λ(n,k)=>n==y&&(k== .local||k== .cell))).25):swapsWith (.ListComp elt gs scope pos) (some (.Name y py)) l env=pure true:=by
 have ky:(env.kindOf y).583:=hy;have hb:env.blockKind= .function:=by unfold Env.blockKind;rw[hk];rfl
 unfold swapsWith;simp only [hb,ky,ha,Expr.pos,hl];rfl
end
def aOP(N:x.3)(sc scope:Scope)(own:Nat.57):Bool:=
 (match scope.kind with| .function=>true|_=>false)&&(scope.names.all λy=>decide (E.14=some y.2))&&(own.all λp=>decide (N,p.2,p.1).4)&&
  (scope.names.all λy=>match y.2 with
   | .free=>(match sc.names.lookup y.1 with|some .cell=>true|some .free=>true|_=>false)
   | .local=>decide (y.1∈own.map (·.1))||decide (y.1∉N)
   | .cell=>decide (y.1∈own.map (·.1))||decide (y.1∉N)
   |_=>true)
theorem bV{N:x.3}{sc scope:Scope}{own:Nat.57}(h:(aOP N sc scope own).7):VN N sc scope own:=by
 unfold aOP at h;simp only [Bool.and_eq_true,List.all_eq_true,decide_eq_true_eq] at h;obtain⟨⟨⟨h1,h2⟩,h3⟩,h4⟩:=h;refine⟨?_,h2,h3,λy hy e=>?_,λy hy e=>?_⟩
 . split at h1
   . assumption
   . cases h1
 . have q:=h4 y hy;simp only [e] at q;split at q<;>first|exact .inl (by assumption)|exact .inr (by assumption)|cases q
 . have q:=h4 y hy;rcases e with e|e<;>(simp only [e,Bool.or_eq_true,decide_eq_true_eq] at q;exact q)
end L2
namespace L2
open PySem PySem.Spec PyProof.Rows
section
variable{κ:Type}[DecidableEq κ]
def ZS(eI:e.5)(k:κ):N.4:=(eI.find? t.11).606
def putK(eI:e.5)(k:κ)(v:V):e.5:=
 ((eI.any t.11),eI.map v.753,eI++[(k,v)]).8
theorem VR{p:κ×V}{r:e.5}{k:κ}(e:p.1=k):ZS (p::r) k=some p.2:=(ZS,e).127
theorem VS{p:κ×V}{r:e.5}{k:κ}(e: ¬p.1=k):ZS (p::r) k=ZS r k:=(ZS,e).127
theorem VT(k:κ): ∀eI:e.5,(eI.any t.11)=(ZS eI k).isSome
 |[]=>rfl
 |p::r=>by
  rw[List.any_cons];by_cases e:p.1=k
  . simp only [VR e,decide_eq_true e,Bool.true_or,Option.isSome_some]
  . rw[VS e,aQ e,Bool.false_or];exact VT k r
theorem GF(eI:e.5)(k:κ)(v:V):(putK eI k v,eI.length+1).8:=by
 unfold putK;split
 . rw[aA];omega
 . rw[List.length_append,List.length_cons,List.length_nil];omega
theorem E1.aC9{o:N.4}{u:v.5}(r:E1 o u):o.isSome=u.isSome:=by
 cases o with
 |none=>cases u with
  |none=>rfl
  |some _=>exact(show False from r).elim
 |some _=>cases u with
  |none=>exact(show False from r).elim
  |some _=>rfl
theorem KV.any{eI:e.5}{vs:(κ,Value).31}(r:KV eI vs)(k:κ):(eI.any t.11)=vs.any t.11:=by
 unfold KV at r
 induction r with
 |nil=>rfl
 |cons h t ih=>rw[List.any_cons,List.any_cons,ih,h.1]
theorem KV.aLr{eI:e.5}{vs:(κ,Value).31}(r:KV eI vs)(k:κ){y:V}{u:Value}(ry:y.46):
 KV (eI.map y.753) (vs.map u.753):=by
 unfold KV at r⊢
 induction r with
 |nil=>exact .nil
 | @cons p q ps qs h t ih=>
  rw[List.map_cons,List.map_cons];refine .cons ?_ ih;obtain⟨h1,h2⟩:=h;by_cases e:p.1=k
  . rw[if_pos e,if_pos (h1.symm.trans e)];exact⟨h1,ry⟩
  . rw[if_neg e,(e (h1.trans z)).605];exact⟨h1,h2⟩
theorem KV.put{eI:e.5}{vs:(κ,Value).31}(r:KV eI vs)(k:κ){y:V}{u:Value}(ry:y.46):KV (putK eI k y) (stored vs k u):=by
 unfold putK stored;rw[r.any k];by_cases e:((vs.any t.11)).7
 . rw[if_pos e,if_pos e];exact r.aLr k ry
 . rw[if_neg e,if_neg e];exact Paired.snoc r ry.73
theorem KV.length{eI:e.5}{vs:(κ,Value).31}(r:KV eI vs):eI.length=vs.length:=aO r
end
theorem aJX{P:Program}{w:World}{k:Key}{u:Value}(r:(kV k).46):((kU P w).is k u).7:=by
 cases k with
 |inl i=>obtain⟨t,e⟩:=(∃t,u=Value.int i t).623;subst e;exact U4 P w i t
 |inr x=>obtain⟨t,e⟩:=(∃t,u=Value.str x t).623;subst e;exact U8 P w x t
theorem PR{P:Program}{w:World}: ∀{ks:List Key} {us:h.3},(ks.map kV).69->ItemsAre (kU P w) ks us
 |[],_,r=>by rw[List.map_nil] at r;cases r;exact .nil
 |k::ks,_,r=>by
  rw[List.map_cons] at r
  cases r with
  |cons h t=>exact .cons (aJX h) (PR t)
abbrev KT(H:Hp):(S.5,Z.11).16:=Paired λp q=>p.1=q.1/\(q.2.1,.tup (p.1.map kV)).5/\RelV p.2 q.2.2
theorem KT.val{H:Hp}{eI:S.5}{xs:Z.11}(r:KT H eI xs)(k:List Key):E1 (ZS eI k) ((atKey xs k).map (·.2)):=by
 induction r with
 |nil=>exact True.intro
 | @cons p q ps qs h t ih=>
  obtain⟨h1,_,h2⟩:=h;by_cases e:p.1=k
  . have e':q.1=k:=h1.symm.trans e;have b:atKey (q::qs) k=some q.2:=(atKey,e').127
    rw[VR e,b];exact h2
  . have e':¬q.1=k:=λz=>e (h1.trans z);have b:atKey (q::qs) k=atKey qs k:=(atKey,e').127
    rw[VS e,b];exact ih
theorem KT.aLr{H:Hp}{eI:S.5}{xs:Z.11}(r:KT H eI xs)(k:List Key){y:V}{u:Value}(ry:y.46):
 KT H (eI.map y.753) (xs.map (putAt k u)):=by
 induction r with
 |nil=>exact .nil
 | @cons p q ps qs h t ih=>
  rw[List.map_cons,List.map_cons];refine .cons ?_ ih;obtain⟨h1,h2,h3⟩:=h;unfold putAt;by_cases e:p.1=k
  . rw[if_pos e,if_pos (h1.symm.trans e)];exact⟨h1,h2,ry⟩
  . rw[if_neg e,(e (h1.trans z)).605];exact⟨h1,h2,h3⟩
theorem KT.put{H:Hp}{eI:S.5}{xs:Z.11}(r:KT H eI xs)(k:List Key){b:Addr}{y:V}{u:Value}(hb:(.tup (k.map kV)).45)(ry:y.46):
 KT H (putK eI k y) (storedH xs k b u):=by
 have e:(eI.any t.11)=(atKey xs k).isSome:=by rw[VT,(r.val k).aC9,Option.isSome_map]
 unfold putK storedH;rw[e];by_cases q:(atKey xs k).563
 . rw[if_pos q,if_pos q];exact r.aLr k ry
 . rw[if_neg q,if_neg q];exact Paired.snoc r ⟨rfl,hb,ry⟩
theorem KT.keeps{H H':Hp}{eI:S.5}{xs:Z.11}(r:KT H eI xs)(ht: v.15):KT H' eI xs:=
 Paired.fV r λ_ _ z=>⟨z.1,ht _ _ z.2.1,z.2.2⟩
section
variable{P:Program}{w:World}{H:Hp}{h:Heap}{a:Addr}
theorem aJY{u:HO}(ok:V.3)(e:Rd H a u):u.576:=e.ok ok
theorem aOQ{eI:(Key,V).31}(ok:V.3)(e:Rd H a (.dK eI)):D.15:=
 show(.dK eI).576 from aJY ok e
theorem aOR{eI:(Key,V).31}(ok:V.3)(e:(.dK eI).72):D.15:=aOQ ok (.inl e)
theorem SK{ks:List Key}(ok:V.3)(e:(.tup (ks.map kV)).72):(T.12).is h ks a:=by obtain⟨_,bY,r,⟨o,h1,h2,n,h3⟩,_⟩:=(show(.tup (ks.map kV)).576 from ok a _ e);exact⟨o,bY.toArray,n,h1,h2,h3,(PR r).658⟩
theorem aOS{eI:S.5}(ok:V.3)(e:Rd H a (.dT eI)):eI.length.37/\a.620/\
 ∃xs,KT H eI xs/\h.DictOfH T.12 a xs:=by
 obtain⟨z,y,xs,r,o,es,ep,h1,h2,h3,h4,h5⟩:=(show(.dT eI).576 from aJY ok e);refine⟨z,y,xs,r,o,es,ep,h1,h2,h3,h4,λx hx=>?_,h5⟩;have all: ∀{l:S.5} {m:Z.11},KT H l m->∀x∈m,(T.12).is h x.1 x.2.1:=by
  intro l m q
  induction q with
  |nil=>intro x hx;exact nomatch hx
  | @cons p q ps qs hq t ih=>
   intro x hx;rcases o.12 with e|hx
   . subst e;exact SK ok (hq.1,hq.2.1).15
   . exact ih x hx
 exact all r x hx
theorem aOT{eI:S.5}(ok:V.3)(e:(.dT eI).72):eI.length.37/\a.620/\
 ∃xs,KT H eI xs/\h.DictOfH T.12 a xs:=aOS ok (.inl e)
end
def aDa(H:Hp)(a:Addr)(y v:V)(H':Hp):Prop:=
 (∃eI k,(.dK eI).72/\y=kV k/\eI.length<sizeLine/\H'=(.dK (putK eI k v)).501)\/
 ∃eI k b,(.dT eI).72/\y=z.3/\(.tup (k.map kV)).45/\eI.length<sizeLine/\H'=(.dT (putK eI k v)).501
theorem aDa.t{H:Hp}{a b:Addr}{eI:S.5}{k:List Key}{v:V}(e:(.dT eI).72)(eb:(.tup (k.map kV)).45)(hl:eI.length<sizeLine):
 aDa H a z.3 v (.dT (putK eI k v)).501:= .inr ⟨eI,k,b,e,rfl,eb,hl,rfl⟩
section
variable{X:Cx}{pins:j.3}{σ:St}{H:Hp}{s:Shared}{a:Addr}{y v:V}{u r:Value}{o:N.4}{A:Around}{E:l.3}
theorem Inv.big(I:g.3):sysModules.506:=by have h:mainGlobals.506:=(D.14).lt;exact F5 r.3 h
theorem p6{h':Heap}{t':Nat}{ob:HO}(I:g.3)(mu:Mut (H a))(hs:a.669)(he: ∃q,h'.get? a=some q)(new:gX X.prog X.w ob.501 h' a ob):
 ob.501.769:=
 I.write (x:=a) (e:=a) mu B.3 (λb q hb z=>(hs.2 b hb).trans z) he new
theorem aLs{P:Program}{w:World}{H':Hp}{h':Heap}{eI:(Key,V).31}{vs:(Key,Value).31}(z:eI.length.37)(hd:a.620)(rel:KV eI vs)(dd:h'.DictOf (kU P w) a vs):
 gX P w H' h' a (.dK eI):=⟨z,hd,vs,rel,dd⟩
theorem aDb{H':Hp}{Q:Unit.49}(hu:(A.units+1).61)(I:g.3)(g:aDa H a y v H')(ry:y.46)(rv:RelV v r)(h: ∀s',T.5->Q () s'):
 (setItem p.3 u r).758:=by
 rcases g with⟨eI,k,e,ey,l,eH⟩|⟨eI,k,b,e,ey,eb,l,eH⟩
 . subst ey eH;obtain⟨z,hd,vs,rel,dd⟩:=aOR I.cZ e;have hz:vs.length.37:=(rel.length,z).15
   have hl:((putK eI k v).length).37:=(GF eI k v).90
   refine wpAny_setItem_pairs (hsz:=hz) (aJX ry) dd λh' dd' hs=>h _ ?_;have he:∃q,h'.get? a=some q:=let ⟨q,_,_,hq,_⟩:=dd';⟨q,hq⟩
   exact p6 I e.574 hs he (aLs hl hd (rel.put k rv) dd')
 . subst ey eH;cases (show u=Value.ref b from ry);obtain⟨z,hd,xs,rel,dd⟩:=aOT I.cZ e;have hz:k.10:=(aO rel,z).15
   have hl:((putK eI k v).length).37:=(GF eI k v).90
   refine wpAny_setItem_heap (hsz:=hz) (tupleKind_room_in1 hu) (SK I.cZ eb) dd λh' dd' hs=>h _ ?_;obtain⟨q,es,ep,hq,h2,h3,h4,_,h5⟩:=dd';refine p6 I e.574 hs ⟨q,hq⟩ ⟨hl,hd,_,(rel.put k eb rv).keeps λc ys ec=>?_,q,es,ep,hq,h2,h3,h4,h5⟩;rw[bF (ec,e).32];exact ec
end
section
variable{X:Cx}{pins:j.3}{σ:St}{H:Hp}{s:Shared}{a:Addr}{eI:(Key,V).31}{k:Key}{u:Value}{A:Around}{E:l.3}
end
def aOU(td ty tv:TE):TS:=λD σ H=>tv σ H λv H1=>td σ H1 λx H2=>ty σ H2 λy H3=>∃a H4,x=p.3/\aDa H3 a y v H4/\D.nx σ H4
section
variable{X:Cx}{o i e value:Expr}{pos pos' N9:Pos}{td ty tv:TE}
theorem aBT(hu:(X.A.units+1).61)(ho:PE X o td)(hi:PE X i ty)(hv:PE X value tv)(hs:(value,pos'.698).130):
 (pos'.698,value,aOU td ty tv).37:=by intro pins s σ H D I h;refine(λiv s3 ⟨y,H3,I3,ry,a,H4,ex,g,q3⟩=>?_).823;subst ex;obtain rfl:u=D.5:=rx;exact aDb hu I3 g ry rv λs4 I4=>⟨σ,H4,I4,q3⟩
end
theorem aFf{P:Program}{w:World}{H:Hp}(h:Heap)(hb:sysModules<h.objs.size):gX P w H (h.push ("dict",.dict #[]).44) h.objs.size (.dT []):=
 ⟨aW _,fG.mpr (Ne.symm (bS hb)),[],.nil,_,#[],0,G.3,rfl.617,rfl,rfl,eO⟩
def aLt:TE:=λ_ H Q=>(upd H p (.dT [])).644
section
variable{X:Cx}{pos:Pos}
theorem VU:PE X (.Dict [] [] pos) aLt:=λpins s σ H Q I h=>
 wpAny_Dict_empty ⟨.ref s.heap.objs.size,_,I.laid (a:=s.heap.objs.size) (o:= .dT []) (t':=s.toks) (λ_ _ q=>aN _ q) (aS _) (aFf s.heap I.big),rfl,h _ T.4⟩
end
section
variable{X:Cx}{pins:j.3}{σ:St}{H:Hp}{s:Shared}{a:Addr}{y d:V}{u r:Value}{o:N.4}{A:Around}{E:l.3}
end
section
variable{X:Cx}{o e f:Expr}{apos pZ:Pos}{td ty tx:TE}
end
section
variable{X:Cx}{pins:j.3}{σ:St}{H:Hp}{s:Shared}{a:Addr}{eI:(Key,V).31}{A:Around}{E:l.3}
end
section
variable{X:Cx}{pins:j.3}{σ:St}{H:Hp}{s:Shared}{a:Addr}{y:V}{u:Value}{A:Around}{E:l.3}
end
end L2
namespace L2
open PySem PySem.Spec PyProof.Rows
section
variable{X:Cx}{pins:j.3}{σ:St}{H:Hp}{s:Shared}{h':Heap}
theorem Inv.aH1{t':Nat}{ch:i.3}(I:g.3)(k: (b∉ch).655)(hf: ∀b∈ch,H.614):T.15:=by
 have nit:∀b u,u.45->b∉ch:=λb u e z=>by have q:=(hf b z).1;rw[q] at e;cases e
 refine I.step (g':=s.gens) (d':=s.drawn) (ch:=ch) f.16 (k b o hc e).680 (⟨o.slots,k b o hc e⟩).680
  (λ_ _ _ _ n=>n) (k b o hc e).742 (λ_ _ e=>e) (λ_ _ _ e=>e) (λb ps e=>⟨#[],by rw[e];simp⟩) (λm hm=>?_) (λb u e=>?_) I.bare
 . obtain⟨o,es,ep,ho,r⟩:=hm;exact⟨o,es,ep,k _ o (λz=>(hf _ z).2.1 rfl) ho,r⟩
 . refine(k c v ?_ q,λ_ q=>q,λ_ _ q=>q).40;rcases hc with z|z
   . rw[z];exact nit b u e
   . exact nit c _ z
theorem Inv.PU{t':Nat}{ch:i.3}{T:Addr}{ob:HO}(I:g.3)(k: (b∉ch).655)(hf: ∀b∈ch,H.614)(hT:s.heap.objs.size<=T)
 (new:gX X.prog X.w (upd H T ob) h' T ob):(upd H T ob).769:=by
 have hn:T.21:=I.cZ.fresh hT;have nit:∀b u,u.45->b∉ch:=λb u e z=>by have q:=(hf b z).1;rw[q] at e;cases e
 refine I.step (g':=s.gens) (d':=s.drawn) (ch:=ch) f.16 (k b o hc e).680 (⟨o.slots,k b o hc e⟩).680
  (λb o _ e n=>?_) (k b o hc e).742 (λb xs e=>?_) (λb o u e=>?_) (λb ps e=>⟨#[],?_⟩) (λm hm=>?_) (λb u e=>?_) I.bare
 . rw[bF (bS (bD (aZ e) hT))];exact n
 . rw[bF (aY e hn)];exact e
 . rw[bF (aY e hn)];exact e
 . rw[bF (aY e hn),e];simp
 . obtain⟨o,es,ep,ho,r⟩:=hm;exact⟨o,es,ep,k _ o (λz=>(hf _ z).2.1 rfl) ho,r⟩
 . by_cases hb:b=T
   . subst hb;rw[aI] at e;cases e;exact new
   . rw[bF hb] at e;refine(k c v ?_ q,λc q=>D.12,λc xs q=>D.12).40
     rcases hc with z|z
     . rw[z];exact nit b u e
     . exact nit c _ z
end
section
variable{X:Cx}
end
section
variable{X:Cx}{tg:Expr}
end
section
variable{X:Cx}{tg:Expr}
end
section
variable{prog:Program}{w:World}{A:Around}{E:l.3}{s:Shared}
theorem aDc{d:Addr}{o:Obj}{es:A.11}{ep:Nat}{Q:l.3}(hd:d.620)(ho:d.70)(hc:o.ExactDict)(aOV:o.data= .dict es ep)
 (hQ:({s with heap:=("dict_keyiterator",#[.ref d,.int 0 0,.int es.size 0,.int ep 0]).115}).731):
 (pyIter (.ref d)).65:=by have hT:s.TypeIs (.ref d) "dict":=⟨o,ho,hc.1⟩;refine HV hT F.slot_dict_iter (eW F.slot_dict_iter hT F.entry_dict_iter ?_ (F.args_dict_iter_1 _));unfold Builtin.«dict.__iter__»;refine aB ?_;unfold Builtin.Dict.dictSlotNone;refine aB (wpAny_notOrdered_dict hT ?_);show wpAny _ _ (pure (Value.ref d)) _ _ s;refine m.3;show wpAny _ _ (Builtin.Dict.showsAll d>>=_) _ _ s;unfold Builtin.Dict.showsAll;rw[if_neg (hd,a8).3];refine aB m.3;refine aB (wpAny_dictEntries ho aOV ?_);refine aB (wpAny_dictEpoch ho aOV ?_);refine aB (eG (aH ⟨_,rfl,"dict_keyiterator",_,G.3.63,gI.lookup,?_⟩));simpa [rawInt] using hQ
theorem OD{it d:Addr}{i n ep:Nat}{od:Obj}{es:A.11}{en:DictEntry}{Q:v.5.49}(hit:s.heap.IsKeyIter it d i n ep)(hod:(d,od).43)(hdd:od.data= .dict es ep)
 (hsz:es.size=n) (hx:(es,en).4) (hQ: ∀h',h'.IsKeyIter it d (i+1) n ep->it.669->Q (some en.key) {s with heap:=h'}):(pyNext (.ref it)).65:=by
 obtain⟨o,ho,hc,hd⟩:=id hit;unfold pyNext;refine aB (JC (mL (name:=z.14) hit.typeIs gI
  d.16))
 refine aB m.3;refine aB ?_;refine aB ?_;first|refine aB (nI hit.typeIs m.3)|refine aB (rQ hit.typeIs m.3)
 refine aB (YT ho hd ?_);have aLu:(Builtin.Dict_items.ownsTuple "dict_keyiterator").25:=r.3
 simp only [aLu,Bool.false_eq_true,if_false];show wpAny _ _ ((Value.ref d==Value.none)).40 _ _ s;rw[if_neg (show¬(((Value.ref d==Value.none)).7) from a8)];refine aB m.3;refine aB (wpAny_dictEntries hod hdd ?_);rw[if_neg hsz.89];refine aB m.3;refine aB (wpAny_dictEpoch hod hdd ?_);rw[if_neg c.3];refine m.3;obtain⟨aOY,hen⟩:=Array.getElem?_eq_some_iff.mp hx;simp only [show¬(i.6<0) from b.3,if_false,Int.toNat_natCast,Array.getElem?_eq_getElem aOY];refine aB ?_;first|refine aB (nI hit.typeIs m.3)|refine aB (rQ hit.typeIs m.3)
 refine aB (wpAny_isOneOf_keyiter hit.typeIs ?_);show wpAny _ _ (setField (.ref it) 1 (rawInt (i.6+1))>>=_) _ _ s;refine aB (wpAny_setField ho hd c.3 ?_);have aH2:(s.heap.update it (Obj.mapFields (·.setIfInBounds 1 (rawInt ((i:Int)+1))))).IsKeyIter it d (i+1) n ep:=
  ⟨_,oA _ ho (Obj.isFreed_of_fields (Obj.data_mapFields hd _)),(Obj.cls_mapFields ..).trans hc,by rw[Obj.data_mapFields hd];simp[rawInt]⟩
 refine aB (c9 ?_);refine aB (wpAny_isOneOf_keyiter (s:={s with heap:=s.heap.update it (Obj.mapFields (·.setIfInBounds 1 (rawInt ((i:Int)+1))))}) aH2.typeIs ?_);show wpAny _ _ (pure es[i].key) _ _ _;rw[hen];exact aH (aH (aH (hQ _ aH2 (dA ..))).28)
theorem SM{it d:Addr}{i n ep:Nat}{od:Obj}{es:A.11}{Q:v.5.49}(hh:s.5)(hit:s.heap.IsKeyIter it d i n ep)(hod:(d,od).43)(hdd:od.data= .dict es ep)
 (hsz:es.size=n) (YX:n<=i) (hQ: ∀h',Heap.ExtBut it s.heap h'->Q none {s with heap:=h'}):(pyNext (.ref it)).65:=by
 obtain⟨o,ho,hc,hd⟩:=id hit;unfold pyNext;refine aB (JC (mL (name:=z.14) hit.typeIs gI
  d.16))
 refine aB m.3;refine aB ?_;refine aB ?_;first|refine aB (nI hit.typeIs m.3)|refine aB (rQ hit.typeIs m.3)
 refine aB (YT ho hd ?_);have aLu:(Builtin.Dict_items.ownsTuple "dict_keyiterator").25:=r.3
 simp only [aLu,Bool.false_eq_true,if_false];show wpAny _ _ ((Value.ref d==Value.none)).40 _ _ s;rw[if_neg (show¬(((Value.ref d==Value.none)).7) from a8)];refine aB m.3;refine aB (wpAny_dictEntries hod hdd ?_);rw[if_neg hsz.89];refine aB m.3;refine aB (wpAny_dictEpoch hod hdd ?_);rw[if_neg c.3];refine m.3;have aTG:es.size<=i:=(hsz,YX).3
 simp only [show¬(i.6<0) from b.3,if_false,Int.toNat_natCast,Array.getElem?_eq_none aTG];refine aB ?_;first|refine aB (nI hit.typeIs m.3)|refine aB (rQ hit.typeIs m.3)
 show wpAny _ _ (setField (.ref it) 0 .none>>=_) _ _ s;refine aB (wpAny_setField ho hd c.3 ?_);show wpAny _ _ (newExc (.type "StopIteration") []>>=_) _ _ _;refine aB ?_;simp only [newExc,newTuple];refine aB (eG ?_ (by size_fits));refine aB (m:=firstArgMember _ _) I.16;refine eG ?_ (by size_fits);simp only [raiseNew];refine aB (wpAny_handled ?_);rw[show A.in1.handled.9 from hh];refine aB (aH (wpAny_throw ?_));refine aB (pO (T:="StopIteration") (b:=true) G.3.63 isSubtype_stop ?_);exact aH (hQ _ (((dA ..).extBut.push _).push _))
end
theorem ZT{α β:Type}{G:(α,β).16}{l₁:w.3}{l₂:List β}(h:Paired G l₁ l₂): ∀{i:Nat} {a:α},(l₁,a).4->∃b,(l₂,b).4/\G a b:=by
 induction h with
 |nil=>intro i a e;simp at e
 | @cons a b l₁ l₂ r t ih=>
  intro i a' e
  cases i with
  |zero=> simp only [List.getElem?_cons_zero,Option.some.injEq] at e;subst e;exact(b,r).50
  |succ j=> simp only [List.getElem?_cons_succ] at e⊢;exact ih e
section
variable{X:Cx}{pins:j.3}{σ:St}{H:Hp}{s:Shared}{d:Addr}{o:Obj}
end
section
variable{P:Program}{w:World}{K:PySem.W.Frag}{tg:Expr}{d:Addr}{o:Obj}{es:A.11}{ep:Nat}
end
section
variable{X:Cx}{tg e:Expr}{td:TE}{apos pZ:Pos}
end
def Ite(K:PySem.W.Frag)(a:Addr):It:=
 ⟨λi H=>∃(xs:e.3) (x:V),xs.75/\D.4,λi H v H'=>∃T x,v= .ref T/\T.21/\H'=upd H T x.611/\∀xs,xs.75->D.4,λi H=>∃xs:e.3,xs.75/\xs.length<=i⟩
theorem aDd{P:Program}{w:World}{K:PySem.W.Frag}{elts:X.3}{kk:Nat}{N9:Pos}(a e it:Addr):
 Turn P w K (.Tuple elts kk N9) (Ite K a) [e,it] e (λi h=>(∃old,IsEnum h e it i.550 old)/\h.IsListIter it a i/\e≠it) where
 mem:=c.3
 obj:=λi h st b hb=>by
  obtain⟨⟨old,he⟩,⟨o,ho,hc,hd⟩,_⟩:=st;have e':b=e\/b=it:=c.10
  rcases e' with z|z
  . rw[z];exact he.770
  . rw[z];exact⟨o,ho,λv q=>by rw[hd] at q;cases q⟩
 keep:=λi h h' st k=>let ⟨⟨old,he⟩,hi,iK⟩:=st;⟨⟨old,k e c.3 _ he⟩,hi.at λo q=>k it c.3 o q,iK⟩
 item:=by
  intro X hP hw hK hc i pins s σ H E I hf st hg;subst hP hw hK;obtain⟨⟨old,he⟩,hit,iK⟩:=st;obtain⟨xs,x,hq,hx⟩:=hg;obtain⟨bY,rv,p,hz⟩:=P.5;obtain⟨u,hu,ru⟩:=rv.get hx;have hel:e.506:=aZ he;have hil:it.506:=by obtain⟨_,q,_⟩:=hit;exact aZ q
  refine wpAny_pyNext_enum_item he hit p.isList (x:=u) (by simpa using hu) iK λh' ho aH2 hT hsz hk=>?_;refine(wpAny_letOwnedTupleGo_enum (s:={s with heap:=h',toks:=s.toks+1}) ho λh'' he' sb=>?_).28;have CB:h''.get? s.heap.objs.size=some (#[.int i s.toks,u]).688:=(_,oE hel,hT).22;have new:gX X.prog X.w x.611.609 h'' s.heap.objs.size x.611:=
   ⟨(2).514,[.int i s.toks,u],.cons rfl.20 ru.555,(CB,_).98,_,CB,rfl⟩
  have I1:(x.611.609,{s with heap:=h'',toks:=s.toks+1}).19:=
   I.PU (ch:=[e,it]) (λb ob hb q=>(b,λz=>hb z.24,hk b ob (λz=>hb z.24) (λz=>hb z.24) q).22) hf (aS _) new
  refine⟨A.10,_,I1,rfl,⟨_,x,rfl,T.4,rfl,λys hy=>(I.CH hy hq,hx).3⟩,⟨u.71,aH2.at λo q=>(it,Ne.symm iK,q).22,iK⟩,q.5⟩
  . have e1:(i+1).22=i.6+1:=b.3
    rw[e1];exact he'
  . have ZU:b.506:=by
     have e':b=e\/b=it:=c.10
     rcases e' with z|z
     . rw[z];exact hel
     . rw[z];exact hil
    rw[bF (bS ZU)];exact(hf b hb).1
 done:=by intro X hP hw hK hc i pins s σ H E I hf st hg;subst hP hw hK;obtain⟨⟨old,he⟩,hit,iK⟩:=st;obtain⟨xs,hq,hx⟩:=hg;obtain⟨bY,rv,p,hz⟩:=P.5;obtain⟨f0,f1,f2,f3,f4,f5⟩:=hf it c.3;have hl:=rv.length;exact wpAny_pyNext_enum_end S.4 he hit p.isList k.4 λh' eb=>(λb o hb q=>eb b o hb q).757.73
 self:=λA i s Q E st h=>let ⟨he.20,_⟩:=st;wpAny_pyIter_enum he h
def aO0(K:PySem.W.Frag)(ta:TA):TI:=(∃a xs,vs=[p.3]/\bP K H1 a xs/\R (Ite K a) H1).744
theorem CQ{X:Cx}{e:Expr}{ta:TA}{p pos N9:Pos}{elts:X.3}{kk:Nat}(hg:Gl X "enumerate")(hm:(X.mg "enumerate").9)(ha:PA X [e] ta)(hs:([e]).569=[(false,e.58)]:=by rfl):
 PI X (.Tuple elts kk N9) (.Name "enumerate" p,[e]).49 (aO0 X.K ta):=by
 intro pins s σ H R I h;refine Call_ (xA I hg hm boot_enumerate (i8 (?_).656 hs rfl));obtain⟨a,xs,ex,hq,q⟩:=q1;subst ex
 cases r1 with
 |cons r rr=>
  cases rr;cases r;obtain⟨bY,rv,p',hz⟩:=I1.list hq;refine call_enumerate_list p'.isList λh' he hit hsz hk=>wpAny_pyIter_enum he ?_;have I2:(H1,{s1 with heap:=h'}).19:=I1.kept (t':=s1.toks) hk;refine⟨V.12,[V.12,s1.heap.objs.size],_,_,H1,rfl,I2,aDd a V.12 s1.heap.objs.size,⟨⟨.none,he⟩,hit,Nat.succ_ne_self _⟩,q.5,q⟩;have e':b=V.12\/b=s1.heap.objs.size:=c.10
  have hle:s1.heap.objs.size<=b:=by
   rcases e' with z|z
   . rw[z];exact fD _ _
   . rw[z];exact aS _
  exact I1.aEY hle (I1.cZ.fresh hle)
theorem aDe:bootBuiltins "zip"=some (.type "zip"):=l.4
def Itz(K:PySem.W.Frag)(a b:Addr):It:=
 ⟨λi H=>∃(xs ys:e.3) (x y:V),xs.75/\bP K H b ys/\D.4/\(ys,y).4,
  λi H v H'=>∃T x y,v= .ref T/\T.21/\H'=upd H T (.tup [x,y])/\(∀xs,xs.75->D.4)/\∀ys,bP K H b ys->(ys,y).4,
  λi H=>∃xs ys:e.3,xs.75/\bP K H b ys/\(xs.length<=i\/ys.length<=i)⟩
theorem aFg{P:Program}{w:World}{K:PySem.W.Frag}{elts:X.3}{kk:Nat}{N9:Pos}{a b z TI TO i1 i2:Addr}(D:ZipApart z TI TO i1 i2 a b):
 Turn P w K (.Tuple elts kk N9) (Itz K a b) [z,TI,TO,i1,i2] z (λi h=>IsZip h z TI TO .none/\IsPair h TI (.ref i1) (.ref i2)/\(∃x y,IsPair h TO x y)/\h.IsListIter i1 a i/\h.IsListIter i2 b i) where
 mem:=c.3
 obj:=λi h st c hc=>by
  obtain⟨hz,hTI,⟨x,y,hTO⟩,⟨o1,e1,_,d1⟩,⟨o2,e2,_,d2⟩⟩:=st;have e':c=z\/c=TI\/c=TO\/c=i1\/c=i2:=b.10
  rcases e' with q|q|q|q|q
  . rw[q];exact hz.770
  . rw[q];exact hTI.770
  . rw[q];exact hTO.770
  . rw[q];exact⟨o1,e1,λv q=>by rw[d1] at q;cases q⟩
  . rw[q];exact⟨o2,e2,λv q=>by rw[d2] at q;cases q⟩
 keep:=λi h h' st k=>by obtain⟨hz,hTI,⟨x,y,hTO⟩,h1,h2⟩:=st;exact⟨k z c.3 _ hz,k TI c.3 _ hTI,⟨x,y,k TO c.3 _ hTO⟩,h1.at λo q=>k i1 c.3 o q,h2.at λo q=>k i2 c.3 o q⟩
 item:=by
  intro X hP hw hK hc i pins s σ H E I hf st hg;subst hP hw hK;obtain⟨hz,hTI,⟨x0,y0,hTO⟩,h1,h2⟩:=st;obtain⟨xs,ys,x,y,hqx,hqy,hx,hy⟩:=hg;obtain⟨bY,rv,p,_⟩:=I.list hqx;obtain⟨tO,rv2,p2,_⟩:=I.list hqy;obtain⟨u,hu,ru⟩:=rv.get hx;obtain⟨u2,hu2,ru2⟩:=rv2.get hy;have hzl:z.506:=aZ hz;refine wpAny_pyNext_zip_item D hz hTI hTO h1 h2 p.isList p2.isList (x:=u) (y:=u2) (by simpa using hu) (by simpa using hu2) λh' z' TO' IC OE hT hsz hk=>?_;refine(wpAny_letOwnedTupleGo_zip (s:={s with heap:=h'}) z' λh'' z'' sb=>?_).28;have CB:h''.get? s.heap.objs.size=some (#[u,u2]).688:=(_,oE hzl,hT).22;have new:gX X.prog X.w (.tup [x,y]).609 h'' s.heap.objs.size (.tup [x,y]):=
   ⟨(2).514,[u,u2],.cons ru ru2.555,(CB,_).98,_,CB,rfl⟩
  have I1:((.tup [x,y]).609,{s with heap:=h''}).19:=
   I.PU (t':=s.toks) (ch:=[z,TI,TO,i1,i2]) (λc o hb q=>(c,S.10,hk c o S.10 S.10 S.10 S.10 q).22) hf (aS _) new
  refine⟨A.10,_,I1,rfl,⟨_,x,y,rfl,T.4,rfl,λl hl=>(I.CH hl hqx,hx).3,λl hl=>(I.CH hl hqy,hy).3⟩,⟨z'',?_,(u,u2).17,?_,?_⟩,λc hcm=>?_⟩
  . exact(_,D.TIz,hk _ _ D.TIz D.TITO D.TIi1 D.TIi2 hTI).22
  . exact(_,D.TOz,TO').22
  . exact IC.at λo q=>(_,D.i1z,q).22
  . exact OE.at λo q=>(_,D.i2z,q).22
  . have lO:c.506:=by
     have e':c=z\/c=TI\/c=TO\/c=i1\/c=i2:=by simpa using hcm
     rcases e' with q|q|q|q|q
     . rw[q];exact hzl
     . rw[q];exact aZ hTI
     . rw[q];exact aZ hTO
     . rw[q];obtain⟨_,e1,_⟩:=h1;exact aZ e1
     . rw[q];obtain⟨_,e2,_⟩:=h2;exact aZ e2
    rw[bF (bS lO)];exact(hf c hcm).1
 done:=by
  intro X hP hw hK hc i pins s σ H E I hf st hg;subst hP hw hK;obtain⟨hz,hTI,⟨x0,y0,hTO⟩,h1,h2⟩:=st;obtain⟨xs,ys,hqx,hqy,aTJ⟩:=hg;obtain⟨bY,rv,p,_⟩:=I.list hqx;obtain⟨tO,rv2,p2,_⟩:=I.list hqy;have l1:=rv.length;have l2:=rv2.length;have he:(bY.toArray[i]?).9\/(tO.toArray[i]?).9:=by
   rcases aTJ with q|q
   . exact .inl k.4
   . exact .inr k.4
  exact wpAny_pyNext_zip_end (S.4) D hz hTI hTO h1 h2 p.isList p2.isList he λh' hk=>⟨rfl,I.aH1 (t':=s.toks) (ch:=[z,TI,TO,i1,i2]) (λc o hb q=>
   hk c o S.10 S.10 S.10 S.10 q) hf⟩
 self:=λA i s Q E st h=>wpAny_pyIter_zip st.1 h
def aTK(K:PySem.W.Frag)(ta:TA):TI:=(∃a b xs ys,vs=[p.3,z.3]/\bP K H1 a xs/\bP K H1 b ys/\R (Itz K a b) H1).744
theorem KW{X:Cx}{e e2:Expr}{ta:TA}{p pos N9:Pos}{elts:X.3}{kk:Nat}(hg:Gl X "zip")(hm:(X.mg "zip").9)(ha:PA X [e,e2] ta)
 (hs:([e,e2]).569=(false,e.58)::([e2]).569:=by rfl) (kY:([e2]).581.677:=by rfl):
 PI X (.Tuple elts kk N9) (.Name "zip" p,[e,e2]).49 (aTK X.K ta):=by
 intro pins s σ H R I h;refine Call_ (xA I hg hm aDe (i8 (?_).656 hs kY));obtain⟨a,b,xs,ys,ex,hqx,hqy,q⟩:=q1;subst ex
 cases r1 with
 |cons r rr=>
  cases rr with
  |cons r' rr=>
   cases rr;cases r;cases r';obtain⟨bY,rv,p1,_⟩:=I1.list hqx;obtain⟨tO,rv2,p2,_⟩:=I1.list hqy;have la:a<s1.heap.objs.size:=p1.lt;have lb:b<s1.heap.objs.size:=p2.lt;refine call_zip_2 p1.isList p2.isList λh' hz hTI hTO h1 h2 hsz hk=>wpAny_pyIter_zip hz ?_;have I2:(H1,{s1 with heap:=h'}).19:=I1.kept (t':=s1.toks) hk;refine⟨(4).733,[(4).733,s1.heap.objs.size+2,(3).733,s1.heap.objs.size,V.12],_,_,H1,rfl,I2,aFg (PySem.W.ktu_apart s1.heap.objs.size a b la lb),⟨hz,hTI,(_,hTO).27,h1,h2⟩,λc hcm=>?_,q⟩;have e':c=(4).733\/c=s1.heap.objs.size+2\/c=(3).733\/c=s1.heap.objs.size\/c=s1.heap.objs.size+1:=by simpa using hcm
   have hle:s1.heap.objs.size<=c:=by
    rcases e' with z|z|z|z|z
    . rw[z];exact fD _ _
    . rw[z];exact fD _ _
    . rw[z];exact fD _ _
    . rw[z];exact aS _
    . rw[z];exact fD _ _
   exact I1.aEY hle (I1.cZ.fresh hle)
end L2
section
namespace aO1
open PySem PyProof.Rows
theorem aFi{x y:Int}(hx:0<=x)(hy:0<=y):Builtin.bitOr x y=(x.toNat|||y.toNat).22:=by have e:=nat_or_add_and x.toNat y.toNat;rw[bitOr_and,bitAnd_pp hx hy];omega
end aO1
end
namespace L2
open PySem PySem.Spec PyProof.Rows
def inClass(s:Stmt)(j:Nat):Stmt:=match s with
 | .ClassDef _ _ _ body _ _ _ _ _ _ _=>body.getD j (.Pass ⟨0,0,0,0⟩)
 |_=> .Pass ⟨0,0,0,0⟩
def sE(s:Stmt):Arguments:=match s with
 | .FunctionDef _ a _ _ _ _ _ _ _ _=>a
 |_=>{posonlyargs:=[],args:=[],vararg:=none,kwonlyargs:=[],kw_defaults:=[],kwarg:=none,defaults:=[]}
def mO(s:Stmt):List Stmt:=match s with
 | .FunctionDef _ _ b _ _ _ _ _ _ _=>b
 |_=>[]
def aV(s:Stmt):Scope:=match s with
 | .FunctionDef _ _ _ _ _ _ sc _ _ _=>sc
 |_=>{kind:= .function,names:=[],isGenerator:=false,isCoroutine:=false}
abbrev kJ:YW:=λ_ _ _ _ _ _=>False
abbrev E0:XK:=l.12
theorem VV{X:Cx}:Passes kJ X E0:=λ_ _ _ _ _ _ _ h=>h.elim
structure Fun(K:PySem.W.Frag)(x qual:Str)(st:Stmt)(f:Addr)(fd:FuncData):Prop where
 ex: ∃(oc:Value) (od:M.4) (kV doc pm:Value) (an:M.4) (fJ ct:Value) (UT:a.10),
  fd=PySem.W.fnOf x qual (sE st) (mO st) (aV st) .none kV doc pm an fJ ct/\fd.675/\qual.700
 kp:m.11
section
variable{P:Program}{w:World}{K:PySem.W.Frag}{mg:k.3}{base:Heap}
theorem Fun.ok{x qual:Str}{st:Stmt}{f:Addr}{fd:FuncData}{N ps:x.3}{k:Nat}{sp:Sp}(F:Fun K x qual st f fd)(S:u.11)(len: t.10)
 (o5: ∀(fJ:Value) (A:Around) (outer:j.4) (s:Shared) (H:Hp) (vs:e.3) (Q:VK) (E:XK),A.15->sp vs H Q E->
  ((IB kJ P w K mg base N qual (aV st) f fJ A outer s H E).nox,mO st).124):oI P w K mg base kJ (k+1) f fd ps sp:=by obtain⟨oc,od,kV,doc,pm,an,fJ,ct,UT,rfl,lk,ZC⟩:=F.ex;refine(?_).802;obtain⟨t,h,q⟩:=o5 fJ A outer s H vs Q E hr R7;exact⟨t,h.nox,q⟩
theorem Fun.binds{x qual:Str}{st:Stmt}{f:Addr}{fd:FuncData}{ps:x.3}(F:Fun K x qual st f fd)
 (h: ∀(kV doc pm:Value) (an:M.4) (fJ ct:Value) (us:h.3),(PySem.W.fnOf x qual (sE st) (mO st) (aV st) .none kV doc pm an fJ ct).799):K.627:=(.all (h kV doc pm an fJ ct)).818
theorem ZV{x qual:Str}{st:Stmt}{f:Addr}{oc:Value}{od an:M.4}{UT:a.10}{kV doc pm fJ ct:Value}(l:(PySem.W.fnOf x qual (sE st) (mO st) (aV st) .none kV doc pm an fJ ct).675)
 (c:qual.700) (k:m.11):Fun K x qual st f (PySem.W.fnOf x qual (sE st) (mO st) (aV st) .none kV doc pm an fJ ct):=⟨⟨oc,od,kV,doc,pm,an,fJ,ct,UT,rfl,l,c⟩,k⟩
end
section
variable{X:Cx}
theorem pv(i:Nat){x:Str}{pos:Pos}(hN:(X.N,x).4:=by rfl)(hv:x.684:=by first|exact l.5|exact Or.inr l.5|exact Or.inr (Or.inr rfl))(hd:F.4:=by decide)
 (ZC:P.14:=by decide):PE X pos.551 (aOb i):=aES hN hv hd ZC
end
theorem d5{A B:Prop}(h:B):if false.7 then A else B:=(if_neg a8,h).3
theorem gO{A B:Prop}(h:A):if true.7 then A else B:=(N.5,h).3
theorem p7{c A B:Prop}[Decidable c](h1:c->A)(h2: ¬c->B):if c then A else B:=by
 by_cases h:c
 . rw[if_pos h];exact h1 h
 . rw[V.4];exact h2 h
def aL(H H':Hp):Prop:=∀b o,o.45->(H' b).23
theorem aL.refl(H:Hp):H.34:=λ_ _ h=>h
theorem aL.trans{H H1 H2:Hp}(a:H1.34)(b:H2.82):H2.34:=λc o h=>b c o (a c o h)
theorem aL.free{H H':Hp}(e:s.3){l:Addr}(h:(H' l).622):(H l).622:=by
 cases q:H l with
 |none=>rfl
 |some o=> rw[e l o q] at h;cases h
theorem aL.seq{K:PySem.W.Frag}{H H':Hp}{a:Addr}{xs:e.3}(e:s.3)(h:xs.75):bP K H' a xs:=by
 rcases h with(h|⟨o,h⟩)|h
 . exact .inl (.inl (e _ _ h))
 . exact .inl (.inr ⟨o,e _ _ h⟩)
 . exact .inr h
section
variable{κ:Type}[DecidableEq κ]
end
end L2
section
namespace L2
open PySem PySem.Spec PyProof.Rows
open PySem.W (WData Codec OpenSpec Well WellAll ReadsW ReadsAllW)
mutual
inductive Dw(K:PySem.W.Frag)(H:Hp):(V,WData).16
 |gL:Dw K H .gL .none
 |bl (b:Bool):Dw K H (.bl b) (.bool b)
 |int (i:Int):Dw K H (.int i) (.int i)
 |str (x:Str):Dw K H (.str x) (.str x)
 |O6 (b:Array UInt8):Dw K H (.O6 b) (.bytes b.toList)
 |lst {a:Addr} {xs:e.3} {ds:L.4}:xs.75->pP K H xs ds->Dw K H p.3 (.list ds)
 |tup {a:Addr} {xs:e.3} {ds:L.4}:lN K H a xs->pP K H xs ds->Dw K H p.3 (.tuple ds)
inductive pP(K:PySem.W.Frag)(H:Hp):(e.3,L.4).16
 |nil:pP K H [] []
 |cons {v:V} {vs:e.3} {d:WData} {ds:L.4}:Dw K H v d->pP K H vs ds->pP K H (v::vs) (d::ds)
end
theorem aBV{K:PySem.W.Frag}{H:Hp}: ∀ns:f.3,pP K H K.4 (ns.map WData.int)
 |[]=> .nil
 |n::r=> .cons (.int n) (aBV r)
theorem aBW{K:PySem.W.Frag}{H:Hp}: ∀(ns:f.3) (xs:e.3),pP K H xs (ns.map WData.int)->xs=K.4
 |[],xs,h=>by cases h;rfl
 |n::r,xs,h=>by
  cases h with
  |cons h1 h2=> cases h1;rw[aBW r _ h2]<;>rfl
section
variable{P:Program}{w:World}{K:PySem.W.Frag}{H:Hp}{h:Heap}{R:PySem.W.WRecords}{cl:Str->M.4}
theorem aLw{a:Addr}{xs:e.3}(cZ:V.3)(KX:K.In h)(q:xs.75): ∃(bY:h.3) (o:Obj) (n:Nat),xs.520/\a.52/\o.cls=C.10/\o.data= .seq bY.toArray n:=by
 rcases q with q|⟨o,bY,n,e,hc,_,hd,_,hv⟩
 . obtain⟨_,bY,n,hv,e⟩:=(show(.lst xs).576 from q.ok cZ);exact⟨bY,_,n,hv,e,rfl,rfl⟩
 . exact⟨bY.toList,o,n,hv,KX _ _ e,hc,hd.24⟩
theorem aLx{a:Addr}{xs:e.3}(cZ:V.3)(KX:K.In h)(q:lN K H a xs): ∃(bY:h.3) (o:Obj) (n:Nat),xs.520/\a.52/\o.cls=c.5/\o.data= .seq bY.toArray n:=by
 rcases q with q|⟨o,bY,n,e,hc,hd,_,hv⟩
 . obtain⟨_,bY,hv,⟨o,e,hc,n,hd⟩,_⟩:=(show a.4.576 from q.ok cZ);exact⟨bY,o,n,hv,e,hc,hd⟩
 . exact⟨bY.toList,o,n,hv,KX _ _ e,hc,hd.24⟩
mutual
theorem Dw.reads(cZ:V.3)(KX:K.In h): ∀(d:WData) (v:V) (u:Value),Dw K H v d->v.46->∃as,ReadsW R cl h u d as
 | .none,_,_,x,r=>by cases x;cases r;exact⟨_,ReadsW.none⟩
 | .bool b,_,_,x,r=>by cases x;cases r;exact⟨_,ReadsW.bool b⟩
 | .int i,_,_,x,r=>(ReadsW.int i t).773
 | .str s,_,_,x,r=>(ReadsW.str s t).773
 | .bytes b,_,_,x,r=>(ReadsW.bytes _ t).773
 | .list ds,_,_,x,r=>by
  cases x with
  |lst hs ha=> cases r;obtain⟨bY,o,n,rv,ho,hc,hd⟩:=aLw cZ KX hs;obtain⟨as,hr⟩:=Dw.readsAll cZ KX ds _ bY ha rv;exact⟨_,ReadsW.list ho hc hd hr⟩
 | .tuple ds,_,_,x,r=>by
  cases x with
  |tup hs ha=> cases r;obtain⟨bY,o,n,rv,ho,hc,hd⟩:=aLx cZ KX hs;obtain⟨as,hr⟩:=Dw.readsAll cZ KX ds _ bY ha rv;exact⟨_,ReadsW.tuple ho hc hd hr⟩
 | .float _,_,_,x,_=>by cases x
 | .dict _,_,_,x,_=>by cases x
 | .bytearray _,_,_,x,_=>by cases x
 | .set _,_,_,x,_=>by cases x
 | .frozenset _,_,_,x,_=>by cases x
 | .obj _ _,_,_,x,_=>by cases x
theorem Dw.readsAll(cZ:V.3)(KX:K.In h): ∀(ds:L.4) (vs:e.3) (us:h.3),pP K H vs ds->vs.69->∃as,ReadsAllW R cl h us ds as
 |[],_,_,x,r=>by cases x;cases r;exact⟨_,ReadsAllW.nil⟩
 |d::ds,_,_,x,r=>by
  cases x with
  |cons h1 h2=>
   cases r with
   |cons r1 r2=> obtain⟨as,q1⟩:=Dw.reads cZ KX d _ _ h1 r1;obtain⟨bs,q2⟩:=Dw.readsAll cZ KX ds _ _ h2 r2;exact⟨_,ReadsAllW.cons q1 q2⟩
end
end
mutual
def plW:WData->Bool
 | .none=>true
 | .bool _=>true
 | .int _=>true
 | .str _=>true
 | .bytes _=>true
 | .list xs=>ID xs
 | .tuple xs=>ID xs
 |_=>false
def ID:L.4->Bool
 |[]=>true
 |x::r=>plW x&&ID r
end
theorem VW{α:Type}{f:α->WData}(h: ∀a,(plW (f a)).7): ∀l:w.3,(ID (l.map f)).7
 |[]=>rfl
 |x::r=>by show((plW (f x)&&ID (r.map f))).7;rw[h x,VW h r]<;>rfl
theorem xI: ∀(c:Codec) (a:c.denote),(plW (c.enc a)).7
 | .unit,_=>rfl
 | .bool,_=>rfl
 | .int _ _,_=>rfl
 | .nat _ _,_=>rfl
 | .u8,_=>rfl
 | .bytes _ _,_=>rfl
 | .text _ _ _ _,_=>rfl
 | .list _ _ c,a=>VW (λx=>xI c x) a
 | .pair c d,a=>by show((plW (c.enc a.1)&&(plW (d.enc a.2)&&true))).7;rw[xI c a.1,xI d a.2]<;>rfl
 | .triple c d e,a=>by show((plW (c.enc a.1)&&(plW (d.enc a.2.1)&&(plW (e.enc a.2.2)&&true)))).7;rw[xI c a.1,xI d a.2.1,xI e a.2.2]<;>rfl
 | .option c,none=>rfl
 | .option c,some x=>xI c x
theorem PV: ∀(cs:List Codec) (a:Codec.denoteAll cs),(ID (Codec.encAll cs a)).7
 |[],_=>rfl
 |c::cs,a=>by show((plW (c.enc a.1)&&ID (Codec.encAll cs a.2))).7;rw[xI c a.1,PV cs a.2]<;>rfl
theorem BJ: ∀{xs:L.4} {d:WData},d∈xs->d.weight<=WData.weightAll xs
 |[],d,h=>h.515
 |x::r,d,h=>by
  show d.weight<=x.weight+1+WData.weightAll r;rcases G.11 with e|m
  . rw[e];omega
  . have z:=BJ m;omega
def toV:Value->V
 | .none=> .gL
 | .bool b=> .bl b
 | .int i _=> .int i
 | .str x _=> .str x
 | .bytes b _=> .O6 b
 | .ref a=> p.3
 |_=> .gL
def OkU(A:i.3):H.5
 | .none=>True
 | .bool _=>True
 | .int _ _=>True
 | .str _ _=>True
 | .bytes _ _=>True
 | .ref a=>a∈A
 |_=>False
theorem OkU.mono{A B:i.3}(h: ∀a∈A,a∈B): ∀{u:Value},OkU A u->OkU B u:=λ{u} x=>by
 cases u with
 |ref a=>exact h a x
 |none=>trivial
 |bool b=>trivial
 |int i t=>trivial
 |str s t=>trivial
 |bytes b t=>trivial
 |_=>exact False.elim x
theorem aFj{A:i.3}{u:Value}(x:OkU A u):(toV u).46:=by
 cases u with
 |ref a=>rfl
 |none=>rfl
 |bool b=>rfl
 |int i t=>exact t.80
 |str s t=>exact t.80
 |bytes b t=>exact t.80
 |_=>exact False.elim x
theorem t7{A:i.3}: ∀{vs:h.3},(O.11)->Vals (vs.map toV) vs
 |[],_=> .nil
 |u::r,h=> .cons (aFj (h u (cI ..))) (t7 λx hx=>h x (bG _ hx))
def wJ(h:Heap)(A:i.3)(a:Addr):Prop:=∃vs:h.3,vs.length.37/\(O.11)/\
 ((a,O.10).30\/(a,P.10).30)
theorem wJ.mono{h:Heap}{A B:i.3}{a:Addr}(k: ∀a∈A,a∈B)(x:wJ h A a):wJ h B a:=by obtain⟨vs,h1,h2,h3⟩:=x;exact⟨vs,h1,λu hu=>(h2 u hu).mono k,h3⟩
theorem sF{P:Params}{h:Heap}: ∀{vs:h.3} {ds:L.4},z.13->vs.length=ds.length
 |_,_,.nil=>rfl
 |_,_,.cons _ b=>by show _+1=_+1;rw[sF b]
theorem PX{P:Params}{h:Heap}{v:Value}{ds:L.4}(x:Well P h v (.list ds)): ∃(a:Addr) (vs:h.3),v=p.3/\(a,O.10).30/\z.13:=by
 cases x with
 |list ho i3=>exact(ho,i3).85
theorem KY{P:Params}{h:Heap}{v:Value}{ds:L.4}(x:Well P h v (.tuple ds)): ∃(a:Addr) (vs:h.3),v=p.3/\(a,P.10).30/\z.13:=by
 cases x with
 |tuple ho i3=>exact(ho,i3).85
theorem PY{P:Params}{h:Heap}{us:h.3}{d:WData}{ds:L.4}(x:WellAll P h us (d::ds)): ∃(v:Value) (vs:h.3),us=v::vs/\Well P h v d/\z.13:=by
 cases x with
 |cons a b=>exact(a,b).85
theorem aBY{n:Nat}(h:n<=1048576):n.37:=h.29
section
variable{P:Params}{h:Heap}
mutual
theorem aFk: ∀(d:WData) (v:Value),Well P h v d->(plW d).7->d.weight<=1048576->∃A:i.3,OkU A v/\L.10
 | .none,_,x,_,_=>trivial.703
 | .bool b,_,x,_,_=>trivial.703
 | .int i,_,x,_,_=>trivial.703
 | .str s,_,x,_,_=>trivial.703
 | .bytes b,_,x,_,_=>trivial.703
 | .list ds,_,x,p,z=>by
  obtain⟨a,vs,rfl,ho,i3⟩:=PX x;have z2:WData.weightAll ds<=1048576:=z;obtain⟨A,h1,h2⟩:=CS ds _ i3 p λd hd=>aG (BJ hd) z2;have k:∀b∈A,b∈a::A:=λb hb=>bG _ hb;refine⟨a::A,cI ..,q.5⟩;rcases H.11 with e|m
  . rw[e];exact⟨vs,aBY (sF i3,aG (aEv ds) z2).3,λu hu=>(h1 u hu).mono k,.inl ho⟩
  . exact(h2 b m).mono k
 | .tuple ds,_,x,p,z=>by
  obtain⟨a,vs,rfl,ho,i3⟩:=KY x;have z2:WData.weightAll ds<=1048576:=z;obtain⟨A,h1,h2⟩:=CS ds _ i3 p λd hd=>aG (BJ hd) z2;have k:∀b∈A,b∈a::A:=λb hb=>bG _ hb;refine⟨a::A,cI ..,q.5⟩;rcases H.11 with e|m
  . rw[e];exact⟨vs,aBY (sF i3,aG (aEv ds) z2).3,λu hu=>(h1 u hu).mono k,.inr ho⟩
  . exact(h2 b m).mono k
 | .float _,_,_,p,_=>G.5
 | .dict _,_,_,p,_=>G.5
 | .bytearray _,_,_,p,_=>G.5
 | .set _,_,_,p,_=>G.5
 | .frozenset _,_,_,p,_=>G.5
 | .obj _ _,_,_,p,_=>G.5
theorem CS: ∀(ds:L.4) (vs:h.3),z.13->(ID ds).7->(∀d∈ds,d.weight<=1048576)->∃A:i.3,(O.11)/\L.10
 |[],_,x,_,_=>(λu m=>m.515).703
 |d::ds,_,x,p,z=>by
  obtain⟨v,vs,rfl,x1,x2⟩:=PY x;have q:(plW d).7/\(ID ds).7:=Bool.and_eq_true_iff.mp p;obtain⟨A,a1,a2⟩:=aFk d v x1 q.1 (z d (cI ..));obtain⟨B,b1,b2⟩:=CS ds vs x2 q.2 λe he=>z e (bG _ he);have kA:∀b∈A,b∈A++B:=λb hb=>hb.687;have kB:∀b∈B,b∈A++B:=λb hb=>hb.707;refine⟨A++B,λu hu=>?_,q.5⟩
  . rcases List.mem_cons.mp hu with e|m
    . rw[e];exact a1.mono kA
    . exact(b1 u m).mono kB
  . rcases List.mem_append.mp hb with m|m
    . exact(a2 b m).mono kA
    . exact(b2 b m).mono kB
end
end
def aH3(o:Obj):Option HO:=match o.data with
 | .seq vs _=>((o.cls==u.12),some (.N3 o (.lst (vs.toList.map toV))),some (.N3 o (.tup (vs.toList.map toV)))).8
 |_=>none
def lC(K:PySem.W.Frag)(h:Heap)(A:i.3):Hp:=λb=>if b∈A then(if((K.lookup b).isNone).7 then(h.get? b).bind aH3 else none) else none
def aJ0(H:Hp):Prop:=∀b,b.21\/∃o u,(.N3 o u).45
theorem VX(vs:h.3):aH3 O.10=some (.N3 O.10 (.lst (vs.map toV))):=by show(((u.12==u.12),some (HO.N3 O.10 (.lst F.14)),some (HO.N3 O.10 (.tup F.14))).8)=_;rw[if_pos (aBy _)]
theorem VY(vs:h.3):aH3 P.10=some (.N3 P.10 (.tup (vs.map toV))):=by show(((Value.type "tuple"==u.12),some (HO.N3 P.10 (.lst F.14)),some (HO.N3 P.10 (.tup F.14))).8)=_;rw[if_neg r.3]
section
variable{P:Program}{w:World}{K:PySem.W.Frag}{h:Heap}{A:i.3}
theorem JK{b:Addr}{o:Obj}(hb:b∈A)(hk:(K.lookup b).9)(e:b.52):lC K h A b=aH3 o:=by unfold lC;rw[if_pos hb,hk,if_pos (show((none:Option Obj).isNone).7 from rfl),e]<;>rfl
theorem aH4{b:Addr}{u:HO}(q:(lC K h A b).67):b∈A/\(K.lookup b).9:=by
 unfold lC at q;by_cases hb:b∈A
 . rw[if_pos hb] at q
   cases hk:K.lookup b with
   |none=>exact hb.80
   |some o=> rw[hk,if_neg c.3] at q;cases q
 . rw[if_neg hb] at q;cases q
theorem JL(ar: L.10){b:Addr}{u:HO}(q:(lC K h A b).67):(K.lookup b).9/\∃vs:h.3,vs.length.37/\(O.11)/\
 (((b,O.10).30/\u= .N3 O.10 (.lst (vs.map toV)))\/
  ((b,P.10).30/\u= .N3 P.10 (.tup (vs.map toV)))):=by
 obtain⟨hb,hk⟩:=aH4 q;obtain⟨vs,h1,h2,h3⟩:=ar b hb;refine⟨hk,vs,h1,h2,?_⟩;rcases h3 with e|e
 . rw[JK hb hk e,VX] at q;exact(e,q.31).51
 . rw[JK hb hk e,VY] at q;exact(e,q.31).59
theorem aDh(ar: L.10):aJ0 (lC K h A):=λb=>by
 cases q:lC K h A b with
 |none=>exact B.3
 |some u=>
  obtain⟨_,vs,_,_,⟨_,e⟩|⟨_,e⟩⟩:=JL ar q
  . exact .inr ⟨_,_,by rw[e]⟩
  . exact .inr ⟨_,_,by rw[e]⟩
theorem aH5(ar: L.10):oV P w (lC K h A) h:=λb u q=>by
 obtain⟨_,vs,h1,h2,⟨e,rfl⟩|⟨e,rfl⟩⟩:=JL ar q
 . exact⟨e,h1.523,vs,_,t7 h2,e⟩
 . exact⟨e,h1.523,vs,t7 h2,(e,_).98,_,e,rfl⟩
theorem JM{c c':Value}{vs us:h.3}(e:(some {cls:=c,data:= .seq vs.toArray}:Option Obj)=some {cls:=c',data:= .seq us.toArray}):c=c'/\vs=us:=by have e1:=aM e;have e2:c=c':=cP Obj.cls e1;have e3:Data.seq vs.toArray=Data.seq us.toArray:=cP Obj.data e1;injection e3 with e4;refine e2.71;have e5:=cP Array.toList e4;simpa using e5
theorem aTL(KX:K.In h)(ar: L.10){a:Addr}{vs:h.3}(ha:a∈A)(e:(a,O.10).30):(O.11)/\bP K (lC K h A) a (vs.map toV):=by
 obtain⟨us,h1,h2,h3⟩:=ar a ha;have hu:us=vs:=by
  rcases h3 with q|q
  . rw[e] at q;exact(JM q).2.symm
  . rw[e] at q;exact absurd (Value.type.inj (JM q).1) r.3
 subst hu;refine h2.71
 cases hk:K.lookup a with
 |none=>exact .inl (.inr (JK ha hk e,VX).7.20)
 |some o=> have e2:=KX a o hk;rw[e] at e2;obtain rfl:=aM e2;exact .inr ⟨_,us.toArray,_,hk,rfl,rfl,rfl,(List.size_toArray,h1).3,(t7 h2).658⟩
theorem aTM(KX:K.In h)(ar: L.10){a:Addr}{vs:h.3}(ha:a∈A)(e:(a,P.10).30):(O.11)/\lN K (lC K h A) a (vs.map toV):=by
 obtain⟨us,h1,h2,h3⟩:=ar a ha;have hu:us=vs:=by
  rcases h3 with q|q
  . rw[e] at q;exact absurd (Value.type.inj (JM q).1) r.3
  . rw[e] at q;exact(JM q).2.symm
 subst hu;refine h2.71
 cases hk:K.lookup a with
 |none=>exact .inl (.inr (JK ha hk e,VY).7.20)
 |some o=> have e2:=KX a o hk;rw[e] at e2;obtain rfl:=aM e2;exact .inr ⟨_,us.toArray,_,hk,rfl,rfl,(List.size_toArray,h1).3,(t7 h2).658⟩
mutual
theorem aLy{Pm:Params}(KX:K.In h)(ar: L.10): ∀(d:WData) (v:Value),Well Pm h v d->(plW d).7->OkU A v->Dw K (lC K h A) (toV v) d
 | .none,_,x,_,_=>by cases x;exact .gL
 | .bool b,_,x,_,_=>by cases x;exact .bl b
 | .int i,_,x,_,_=>by cases x;exact .int i
 | .str s,_,x,_,_=>by cases x;exact .str s
 | .bytes b,_,x,_,_=>by cases x;have z:=Dw.O6 (K:=K) (H:=lC K h A) b.toArray;exact z
 | .list ds,_,x,p,hu=>by obtain⟨a,vs,rfl,ho,i3⟩:=PX x;obtain⟨h2,hs⟩:=aTL KX ar hu ho;exact .lst hs (SN KX ar ds _ i3 p h2)
 | .tuple ds,_,x,p,hu=>by obtain⟨a,vs,rfl,ho,i3⟩:=KY x;obtain⟨h2,hs⟩:=aTM KX ar hu ho;exact .tup hs (SN KX ar ds _ i3 p h2)
 | .float _,_,_,p,_=>G.5
 | .dict _,_,_,p,_=>G.5
 | .bytearray _,_,_,p,_=>G.5
 | .set _,_,_,p,_=>G.5
 | .frozenset _,_,_,p,_=>G.5
 | .obj _ _,_,_,p,_=>G.5
theorem SN{Pm:Params}(KX:K.In h)(ar: L.10): ∀(ds:L.4) (vs:h.3),WellAll Pm h vs ds->(ID ds).7->(O.11)->pP K (lC K h A) (vs.map toV) ds
 |[],_,x,_,_=>by cases x;exact .nil
 |d::ds,_,x,p,hu=>by obtain⟨v,vs,rfl,x1,x2⟩:=PY x;have q:(plW d).7/\(ID ds).7:=Bool.and_eq_true_iff.mp p;exact .cons (aLy KX ar d v x1 q.1 (hu _ (cI ..))) (SN KX ar ds vs x2 q.2 λu m=>hu u (bG _ m))
end
end
theorem KZ{ds:L.4}(h:(WData.layableAll ds).7): ∀d∈ds,d.weight<=1048576:=λd hd=>
 (PySem.W.layableW_iff.mp (List.all_eq_true.mp h d hd)).2.2
theorem K0: ∀(cs:List Codec) (a:Codec.denoteAll cs),(Codec.encAll cs a,cs.length).6
 |[],_=>rfl
 |c::cs,a=>by show(Codec.encAll cs a.2).length+1=cs.length+1;rw[K0 cs a.2]
end L2
end
set_option autoImplicit false
namespace M
open Sy27
def exts(size:Nat):Nat->a.3->d.3
 |0,w=>[w]
 |k+1,w=>(a.11).flatMap λv=>(w.contains v,[],exts size k (w++[v])).8
def gA(n size:Nat)(w:a.3):Prop:=w.length=n/\(∀v∈w,v<size)/\w.Nodup
def good(S:Script)(cs:A.3)(u:a.3):Bool:=cs.all (holds S u)
theorem BK{w:a.3}{v:Nat}:(w++[v]).Nodup↔w.Nodup/\v∉w:=by
 rw[fH];constructor
 . rintro⟨h1,_,h3⟩;exact⟨h1,λm=>h3 v m v c.3 rfl⟩
 . rintro⟨h1,h2⟩;refine⟨h1,c.3,λa ha b hb e=>?_⟩;simp at hb;subst hb;subst e;exact h2 ha
theorem t8(size:Nat): ∀(k:Nat) (w u:a.3),u∈exts size k w↔∃r,u=w++r/\r.length=k/\(∀v∈r,v<size)/\(w.Nodup->u.Nodup)/\(∀v∈r,v∉w)/\r.Nodup
 |0,w,u=>by
  simp only [exts,List.mem_singleton];constructor
  . rintro rfl;exact⟨[],c.3,rfl,c.3,c.3,c.3,c.3⟩
  . rintro⟨r,rfl,h,_⟩;have:r=[]:=gD.mp h;simp[this]
 |k+1,w,u=>by
  simp only [exts,List.mem_flatMap,List.mem_range];constructor
  . rintro⟨v,hv,h⟩;by_cases hc:(w.contains v).7
    . rw[p.5] at h;simp at h
    . rw[O.5] at h;have CA:v∉w:=b.10
      obtain⟨r,rfl,h1,h2,h3,h4,h5⟩:=(t8 size k _ _).mp h;refine⟨v::r,c.3,h1.24,?_,?_,?_,?_⟩
      . intro x hx;rcases o.12 with rfl|hx
        . exact hv
        . exact h2 x hx
      . intro hw;exact h3 (BK.mpr ⟨hw,CA⟩)
      . intro x hx;rcases o.12 with rfl|hx
        . exact CA
        . exact λm=>h4 x hx m.687
      . refine eM.mpr ⟨λm=>h4 v m c.3,h5⟩
  . rintro⟨r,rfl,h1,h2,h3,h4,h5⟩;match r,h1,h2,h3,h4,h5 with
    |v::r,h1,h2,h3,h4,h5=>
     have hv:v∉w:=h4 v c.3;refine(v,h2 v c.3).17;rw[if_neg B.11];refine(t8 size k _ _).mpr ⟨r,c.3,t.4,λx hx=>h2 x hx.24,?_,?_,(eM.mp h5).2⟩
     . intro hw;simpa using h3 (BK.mp hw).1
     . intro x hx m;rcases List.mem_append.mp m with m|m
       . exact h4 x hx.24 m
       . simp at m;subst m;exact(eM.mp h5).1 hx
theorem aFl(n size:Nat)(u:a.3):u∈exts size n []↔gA n size u:=by
 rw[t8];constructor
 . rintro⟨r,rfl,h1,h2,h3,_,h5⟩;exact⟨t.4,L.5,h3 eO⟩
 . rintro⟨h1,h2,h3⟩;exact⟨u,c.3,h1,h2,λ_=>h3,c.3,h3⟩
def K1:(a.3,a.3).16
 |[],[]=>False
 |[],_::_=>True
 |_::_,[]=>False
 |x::xs,y::ys=>x<y\/(x=y/\K1 xs ys)
theorem oJ: ∀a:a.3,¬K1 a a
 |[]=>id
 |x::xs=>by
  rintro (h|⟨_,h⟩)
  . omega
  . exact oJ xs h
theorem zM: ∀a b c:a.3,K1 a b->K1 b c->K1 a c
 |[],[],_,h,_=>h.elim
 |[],_::_,[],_,h=>h.elim
 |[],_::_,_::_,_,_=>trivial
 |_::_,[],_,h,_=>h.elim
 |_::_,_::_,[],_,h=>h.elim
 |x::a,y::b,z::c,h1,h2=>by
  rcases h1 with h1|⟨rfl,h1⟩
  . rcases h2 with h2|⟨rfl,h2⟩
    . exact .inl b.3
    . exact .inl h1
  . rcases h2 with h2|⟨rfl,h2⟩
    . exact .inl h2
    . exact .inr (zM a b c h1 h2).73
theorem FE: ∀a b:a.3,K1 a b\/a=b\/K1 b a
 |[],[]=> .inr B.3
 |[],_::_=> .inl trivial
 |_::_,[]=> .inr (.inr trivial)
 |x::a,y::b=>by
  rcases nH x y with h|rfl|h
  . exact .inl (.inl h)
  . rcases FE a b with h|rfl|h
    . exact .inl (.inr h.73)
    . exact .inr B.3
    . exact .inr (.inr (.inr h.73))
  . exact .inr (.inr (.inl h))
theorem aBZ: ∀(w:a.3) {a b:a.3},K1 a b->K1 (w++a) (w++b)
 |[],_,_,h=>h
 |x::w,_,_,h=> .inr (aBZ w h).73
theorem mC{α:Type}{R:(α,α).16}(ir: ∀a,¬R a a)(tr: ∀a b c,R a b->R b c->R a c): ∀{l m:w.3},l.Pairwise R->m.Pairwise R->(∀x,x∈l↔x∈m)->l=m
 |[],[],_,_,_=>rfl
 |[],b::m,_,_,h=>((h b).mpr c.3).515
 |a::l,[],_,_,h=>((h a).mp c.3).515
 |a::l,b::m,hl,hm,h=>by
  obtain⟨l1,l2⟩:=List.pairwise_cons.mp hl;obtain⟨m1,m2⟩:=List.pairwise_cons.mp hm;have e:a=b:=by
   rcases List.mem_cons.mp ((h a).mp c.3) with e|e
   . exact e
   . rcases List.mem_cons.mp ((h b).mpr c.3) with q|q
     . exact q.symm
     . exact absurd (tr _ _ _ (l1 b q) (m1 a e)) (ir a)
  subst e;refine cP _ (mC ir tr l2 m2 λx=>?_);constructor
  . intro hx;rcases List.mem_cons.mp ((h x).mp hx.24) with e|e
    . subst e;exact absurd (l1 _ hx) (ir _)
    . exact e
  . intro hx;rcases List.mem_cons.mp ((h x).mpr hx.24) with e|e
    . subst e;exact absurd (m1 _ hx) (ir _)
    . exact e
theorem GH(size:Nat): ∀(k:Nat) (w:a.3),(exts size k w).Pairwise K1
 |0,w=>exts.24
 |k+1,w=>by
  unfold exts;rw[List.pairwise_flatMap];constructor
  . intro v _;split
    . exact .nil
    . exact GH size k _
  . refine List.Pairwise.imp ?_ F4;intro a b VZ x hx y hy;split at hx
    . simp at hx
    . split at hy
      . simp at hy
      . obtain⟨r,rfl,_⟩:=(t8 size k _ _).mp hx;obtain⟨t,rfl,_⟩:=(t8 size k _ _).mp hy;rw[cA,cA];exact aBZ w (.inl VZ)
theorem qJ{l:d.3}(h:l.Pairwise K1):l.Nodup:=h.imp λVZ e=>by subst e;exact oJ _ VZ
theorem aB0(S:Script){w u:a.3}{t:a.3}(h: ∀a∈t,a.44=u.getD a 0):w.68=u.68:=by
 unfold Script.read
 induction t with
 |nil=>rfl
 |cons a t ih=> rw[List.flatMap_cons,List.flatMap_cons,ih λb hb=>h b hb.24];unfold Script.valueOf;rw[h a c.3]
theorem aFm(S:Script){w u:a.3}{c:Clue}(h: ∀a∈c.signs,a.44=u.getD a 0):w.604=u.604:=by
 cases c with
 |reads t ws y=>simp only [holds];rw[aB0 S (t:=t) h]
 |first a b y=>simp only [holds,Script.valueOf];rw[h a f.11,h b f.11]
 |last a b y=>simp only [holds,Script.valueOf];rw[h a f.11,h b f.11]
 |value a vs=>simp only [holds];rw[h a f.11]
 |within t r y=>simp only [holds];rw[aB0 S (t:=t) h]
theorem iV{α:Type}{l:w.3}{a:Nat}{d:α}(h:a<l.length):l.getD a d=l[a]:=by simp[List.getD,h]
theorem t9{w r:a.3}{a:Nat}(h:a<w.length):(w++r).getD a 0=a.44:=by simp[List.getD,List.getElem?_append_left h]
theorem K2(v l:a.3):(v.isPrefixOf (v++l)).7:=(List.isPrefixOf_iff_prefix,jK _ _).3
theorem fits_of(S:Script){w r:a.3}: ∀{t:a.3},(∀a∈t,((w++r).getD a 0).659)->(fits S w t (w++r).68).7
 |[],_=>rfl
 |a::t,h=>by
  have ih:=fits_of S (w:=w) (r:=r) (t:=t) λb hb=>h b hb.24;unfold fits;rw[eQ];refine(S.valueOf (w++r) a,?_).17
  . split
    . rename_i ha;simp only [List.mem_singleton];unfold Script.valueOf;rw[t9 ha]
    . unfold Script.valueOf;have:=h a c.3;rw[iV this];exact eR _
  . show(((S.valueOf (w++r) a).isPrefixOf (S.read (w++r) (a::t))&&fits S w t ((S.read (w++r) (a::t)).drop (S.valueOf (w++r) a).length))).7;have e:S.read (w++r) (a::t)=S.valueOf (w++r) a++(w++r).68:=List.flatMap_cons.771
    rw[e,K2,zB,ih];rfl
theorem aLz(S:Script){w r:a.3}{c:Clue}(hs: ∀a∈c.signs,((w++r).getD a 0).659)(h:(w++r).604.7):(may S w c).7:=by
 unfold may;by_cases ha:((c.signs.all λ(a:Nat)=>decide (a<w.length))).7
 . rw[if_pos ha,<-h];refine aFm S λa m=>?_;rw[List.all_eq_true] at ha;exact(t9 (cB (ha a m))).symm
 . rw[if_neg ha]
   cases c with
   |reads t ws y=>
    cases y with
    |true=> simp only [holds] at h;simp only [Clue.signs] at hs;rw[eQ];refine⟨(w++r).68,?_,fits_of S hs⟩;simpa using h
    |false=>rfl
   |first a b y=>rfl
   |last a b y=>rfl
   |value a vs=>rfl
   |within t r y=>rfl
theorem aFn(S:Script){w:a.3}{c:Clue}(h: ∀a∈c.signs,a<w.length):may S w c=w.604:=by unfold may;rw[if_pos (List.all_eq_true.mpr λa m=>decide_eq_true (h a m))]
theorem FF{α:Type}{l m:w.3}{n:Nat}(h1:l.length<=n)(h2: ¬l.length<n):(l++m).take n=l:=(fI b.3,List.take_of_length_le h1).7
theorem PZ(S:Script)(cs:A.3)(JH: ∀c∈cs,∀a∈c.signs,d.4): ∀(k:Nat) (w:a.3) (acc:d.3),w.length+k=S.signs->(∀v∈w,v<S.values.length)->(k=0->(good S cs w).7)->acc.length<=301->
 search S cs k w acc=(acc++w.735.699).take 301
 |0,w,acc,hl,hv,hg,ha=>by
  unfold search exts;rw[dM,if_pos (hg rfl),HQ];unfold MANY;split
  . rename_i h;rw[FF ha b.3]
  . rename_i h;rw[List.take_of_length_le k.4]
 |k+1,w,acc,hl,hv,hg,ha=>by
  have key: ∀(vs:a.3) (acc:d.3),(∀v∈vs,v<S.values.length)->acc.length<=301->
   vs.foldl (λ(l:List Way) (v:Nat)=>if MANY<l.length\/(w.contains v).7\/((f.14)).25 then l else search S cs k (w++[v]) l) acc=
    (acc++(vs.flatMap λv=>(w.contains v,[],(w++[v]).735).8).699).take 301:=by
   intro vs
   induction vs with
   |nil=>intro acc _ ha;simp[List.take_of_length_le ha]
   |cons v vs ih=>
    intro acc hvs ha;rw[List.foldl_cons,List.flatMap_cons,zC];have hv1:v<S.values.length:=hvs v c.3;by_cases h1:MANY<acc.length
    . rw[if_pos (.inl h1),(acc,ha).131];unfold MANY at h1;rw[FF ha b.3,FF ha b.3]
    . by_cases h2:(w.contains v).7
      . rw[if_pos (.inr (.inl h2)),(acc,ha).131,if_pos h2];rfl
      . rw[if_neg h2];have AE: ∀x∈w++[v],x<S.values.length:=by
         intro x hx;rcases List.mem_append.mp hx with hx|hx
         . exact hv x hx
         . simp at hx;subst hx;exact hv1
        by_cases h3:((f.14)).25
        . rw[if_pos (.inr (.inr h3)),(acc,ha).131];have e:(w++[v]).735.699=[]:=by
           rw[List.filter_eq_nil_iff];intro u hu hgu;obtain⟨r,rfl,r1,r2,_⟩:=(t8 _ _ _ _).mp hu;have:f.14.7:=by
            rw[List.all_eq_true];intro c hc;refine aLz S (r:=r) (λa ha=>?_) (List.all_eq_true.mp hgu c hc);have lO:=JH c hc a ha;have SH:a<((w++[v])++r).length:=k.4
            rw[iV SH];have hm:((w++[v])++r)[a]∈(w++[v])++r:=eR _;rcases List.mem_append.mp hm with hm|hm
            . exact AE _ hm
            . exact r2 _ hm
           rw[this] at h3;cases h3
          rw[e];rfl
        . rw[if_neg (by rintro (h|h|h)<;>contradiction)];have IH:=PZ S cs JH k (w++[v]) acc (k.4) AE (by
           intro hk;unfold good;rw[List.all_eq_true];intro c hc;have h4:f.14.7:=by simpa using h3
           rw[<-aFn S (λa ha=>?_)]
           . exact List.all_eq_true.mp h4 c hc
           . have:=JH c hc a ha;simp;omega) ha
          rw[IH,(_,aX.56).131];generalize (w++[v]).735.699=A;generalize (vs.flatMap _).699=B;rw[<-cA];by_cases hA:(acc++A,301).8
          . rw[List.take_of_length_le hA]
          . rw[fI aX.56,fI (l₁:=acc++A) b.3,List.take_take];simp
  unfold search exts;exact key _ _ (λv hv=>List.mem_range.mp hv) ha
def fit(S:Script)(cs:A.3):d.3:=(exts S.values.length S.signs []).699
theorem aH6(S:Script)(cs:A.3)(JH: ∀c∈cs,∀a∈c.signs,d.4)(h0:S.signs=0->cs=[]):ways S cs=(P.4).take 301:=by unfold ways fit;rw[PZ S cs JH S.signs [] [] c.3 c.3 (λh=>(h0 h).508) c.3];rfl
theorem sG{S:Script}{cs:A.3}{u:a.3}:u∈P.4↔gA S.signs S.values.length u/\∀c∈cs,u.604.7:=by unfold fit good;rw[bW,aFl,List.all_eq_true]
theorem qK(S:Script)(cs:A.3):(P.4).Pairwise K1:=(GH _ _ _).filter _
end M
namespace M
open Sy27
def bitsOf:List Bool->Nat
 |[]=>0
 |b::r=>((b,1,0).8)+2*bitsOf r
theorem qL: ∀(l:List Bool) (i:Nat),(bitsOf l).testBit i=l.getD i false
 |[],i=>bitsOf.24
 |b::r,0=>by rw[Nat.testBit_zero];unfold bitsOf;cases b<;>simp<;>omega
 |b::r,i+1=>by
  rw[Nat.testBit_succ];have e:bitsOf (b::r)/2=bitsOf r:=by show(((b,1,0).8)+2*bitsOf r)/2=bitsOf r;cases b<;>simp<;>omega
  rw[e,qL r i];simp[List.getD]
theorem P0: ∀l:List Bool,bitsOf l<2^l.length
 |[]=>bitsOf.24
 |b::r=>by have:=P0 r;show((b,1,0).8)+2*bitsOf r<2^(r.length+1);rw[wV];cases b<;>simp<;>omega
theorem V0(l:List Bool)(b:Bool):bitsOf (l++[b])=(b,bitsOf l|||2^l.length,bitsOf l).8:=by
 apply n4;intro i;rw[qL];have hl:=P0 l;by_cases h:i<l.length
 . have:(l++[b]).getD i false=l.getD i false:=by simp[List.getD,List.getElem?_append_left h]
   rw[this];split
   . rw[zI,qL,Nat.testBit_two_pow];simp;intro e;omega
   . rw[qL]
 . by_cases h2:i=l.length
   . subst h2;have:(l++[b]).getD l.length false=b:=List.getD.24
     rw[this];split
     . rw[zI,Nat.testBit_two_pow];simp[*]
     . rw[Nat.testBit_lt_two_pow hl];simpa using ‹¬b.7›
   . have:((l++[b]).getD i false).25:=(List.getD,c5 k.4).18
     rw[this];have hz:((bitsOf l).testBit i).25:=Nat.testBit_lt_two_pow (bD hl (u9 r.3 b.3));split
     . rw[zI,Nat.testBit_two_pow,hz];simp;omega
     . rw[hz]
theorem fN{α:Type}(f:α->Bool)(l:w.3)(i:Nat):(bitsOf (l.map f)).testBit i=match l[i]? with|some x=>f x|none=>false:=by rw[qL,List.getD,aE];cases l[i]? <;>rfl
theorem o8{α:Type}(f:α->Bool)(l:w.3):bitsOf (l.map f)=0↔∀x∈l,(f x).25:=by
 constructor
 . intro h x hx;obtain⟨i,hi,rfl⟩:=List.mem_iff_getElem.mp hx;have:=fN f l i;rw[h,aF hi] at this;simpa using this.symm
 . intro h;apply n4;intro i;rw[fN]
   cases e:l[i]? with
   |none=>simp
   |some x=>simp[h x (List.mem_of_getElem? e)]
theorem vF{α:Type}(f g:α->Bool)(l:w.3):bitsOf (l.map f)&&&bitsOf (l.map g)=bitsOf (l.map λx=>f x&&g x):=by apply n4;intro i;rw[Nat.testBit_and,fN,fN,fN];cases l[i]? <;>rfl
theorem K3{α:Type}(l:w.3):bitsOf (l.map λ_=>true)=2^l.length-1:=by
 apply n4;intro i;rw[fN,i7];by_cases h:i<l.length
 . rw[aF h];simp[h]
 . rw[c5 b.3];simp[h]
abbrev lZ:=a.3
def meets(w p:a.3):Prop:=∀s,I.5->((s.505).testBit s.44).7
def iB(p:lZ)(s mask:Nat):Option lZ:=
 if s.505&&&mask=0 then none
 else if(s.505&&&mask)&&&((s.505&&&mask)-1)=0/\1<(g.13).count (s.505&&&mask) then none
 else some g.13
theorem vG{a:Nat}: ∀{l:a.3},1<l.count a->∃i j:Nat,i<j/\(l,a).4/\(l,j,a).4
 |[],h=>C.4
 |b::l,h=>by
  rw[HP] at h;by_cases e:b=a
  . subst e;simp at h;obtain⟨j,hj,e⟩:=List.mem_iff_getElem.mp h;exact⟨0,j+1,b.3,c.3,by simp[hj,e]⟩
  . rw[if_neg (by simpa using e)] at h;obtain⟨i,j,h1,h2,h3⟩:=vG (l:=l) h;exact⟨i+1,j+1,b.3,L.5,by simpa using h3⟩
theorem aH7{x a b:Nat}(h0:x≠0)(h:x&&&(x-1)=0)(ha:(x.testBit a).7)(hb:(x.testBit b).7):a=b:=by obtain⟨k,rfl⟩:=(Nat.and_sub_one_eq_zero_iff_isPowerOfTwo h0).mp h;rw[Nat.testBit_two_pow] at ha hb;simp at ha hb;omega
theorem JN{w:a.3}(hw:w.Nodup){i j:Nat}(hi:i<w.length)(hj:j<w.length)(e:i.44=j.44):i=j:=by rw[iV hi,iV hj] at e;exact(ET hw).mp e
theorem QA{w p:a.3}{s x:Nat}(hs:I.5):(p.set s x).512↔(x.testBit s.44).7/\∀t,t<p.length->t≠s->((t.505).testBit t.44).7:=by
 unfold meets;constructor
 . intro h;refine⟨?_,λt ht hts=>?_⟩
   . have:=h s (by simpa using hs);simpa [List.getD,hs] using this
   . have:=h t (by simpa using ht);rw[List.getD,kF (Ne.symm hts)] at this;exact this
 . rintro⟨h1,h2⟩ t ht;by_cases e:t=s
   . subst e;simpa [List.getD,hs] using h1
   . rw[List.getD,kF (Ne.symm e)];exact h2 t (by simpa using ht) e
theorem lQ{p g:lZ}{s mask:Nat}(h:iB p s mask=some g):g.length=p.length:=by
 unfold iB at h;split at h
 . cases h
 . split at h
   . cases h
   . cases h;simp
theorem qM{p:lZ}{s mask:Nat}{w:a.3}(hw:w.Nodup)(hl:w.length=p.length)(hs:I.5):
 (∃g,iB p s mask=some g/\g.512)↔p.512/\H.14:=by
 have base:g.13.512↔p.512/\H.14:=by
  rw[QA hs,Nat.testBit_and,Bool.and_eq_true];constructor
  . rintro⟨⟨h1,h2⟩,h3⟩;refine⟨λt ht=>?_,h2⟩;by_cases e:t=s
    . subst e;exact h1
    . exact h3 t ht e
  . rintro⟨h1,h2⟩;exact⟨⟨h1 s hs,h2⟩,λt ht _=>h1 t ht⟩
 unfold iB;split
 . rename_i h0;constructor
   . rintro⟨g,h,_⟩;cases h
   . intro h;have:=(base.mpr h);rw[QA hs,h0] at this;simp at this
 . rename_i h0;split
   . rename_i h1;constructor
     . rintro⟨g,h,_⟩;cases h
     . intro h;have hm:=base.mpr h;obtain⟨i,j,hij,hi,hj⟩:=vG h1.2;have li:i<(g.13).length:=hi.535;have lj:j<(g.13).length:=hj.535;have mi:=hm i li;have mj:=hm j lj;rw[List.getD,hi] at mi;rw[List.getD,hj] at mj;have e:=aH7 h0 h1.1 mi mj;rw[HR] at li lj;have:=JN hw b.3 b.3 e;omega
   . constructor
     . rintro⟨g,h,h2⟩;cases h;exact base.mp h2
     . intro h;exact(base.mpr h).28
abbrev Span:=lZ×Nat
def span(p:lZ)(s mask place:Nat):u.3:=(iB p s mask).toList.map λg=>(g,place)
def At(w:a.3)(l:u.3)(pl:Nat):Prop:=∃p,(p,pl)∈l/\p.512
theorem At.app{w:a.3}{l m:u.3}{pl:Nat}:(l++m).538↔l.538\/m.538:=by
 unfold At;constructor
 . rintro⟨p,h,q⟩;rcases List.mem_append.mp h with h|h
   . exact .inl ⟨p,h,q⟩
   . exact .inr ⟨p,h,q⟩
 . rintro (⟨p,h,q⟩|⟨p,h,q⟩)
   . exact⟨p,List.mem_append.mpr (.inl h),q⟩
   . exact⟨p,List.mem_append.mpr (.inr h),q⟩
theorem At.flat{α:Type}{w:a.3}{l:w.3}{f:α->u.3}{pl:Nat}:(l.flatMap f).538↔∃x∈l,(f x).538:=by
 unfold At;constructor
 . rintro⟨p,h,q⟩;obtain⟨x,hx,h⟩:=List.mem_flatMap.mp h;exact⟨x,hx,p,h,q⟩
 . rintro⟨x,hx,p,h,q⟩;exact⟨p,List.mem_flatMap.mpr ⟨x,hx,h⟩,q⟩
theorem sH{p:lZ}{s mask place pl:Nat}{w:a.3}(hw:w.Nodup)(hl:w.length=p.length)(hs:I.5):
 (span p s mask place).538↔(p.512/\H.14)/\pl=place:=by
 rw[<-qM hw hl hs];unfold At span;constructor
 . rintro⟨g,h,q⟩;obtain⟨g',h1,h2⟩:=a5.mp h;cases h2;exact(⟨g,t.4,q⟩).80
 . rintro⟨⟨g,h,q⟩,rfl⟩;exact⟨g,a5.mpr (g,h.24).34,q⟩
theorem span_len{p:lZ}{s mask place:Nat}{g:Span}(h:g∈span p s mask place):(g.1,p.length).6:=by obtain⟨g',h1,h2⟩:=a5.mp h;cases h2;exact lQ t.4
theorem lR(p:lZ)(s mask place:Nat):(span p s mask place,1).8:=by unfold span;rw[aA];cases iB p s mask<;>simp
def blank(n size:Nat):lZ:=(2^size-1).682
theorem dR(n size:Nat):(blank n size,n).6:=blank.24
theorem o9{n size:Nat}{w:a.3}(h:T.10):(blank n size).512:=by
 intro s hs;have hs':s<n:=by simpa [blank] using hs
 have e:(blank n size).getD s 0=2^size-1:=by simp[blank,List.getD,hs']
 rw[e,i7];have JG:s<w.length:=(h.1).90
 rw[iV JG];exact decide_eq_true (h.2.1 _ (eR _))
theorem xJ{n size:Nat}{w:a.3}(h:T.10){s:Nat}(hs:s<n):s.44<size:=by
 have JG:s<w.length:=(h.1).90
 rw[iV JG];exact h.2.1 _ (eR _)
def Len(n:Nat)(l:u.3):Prop:=∀g∈l,(g.1,n).6
theorem Len.app{n:Nat}{l m:u.3}(h:Len n l)(k:Len n m):Len n (l++m):=λg hg=>by
 rcases List.mem_append.mp hg with hg|hg
 . exact h g hg
 . exact k g hg
theorem Len.flat{α:Type}{n:Nat}{l:w.3}{f:α->u.3}(h: ∀x∈l,Len n (f x)):Len n (l.flatMap f):=λg hg=>by obtain⟨x,hx,hg⟩:=List.mem_flatMap.mp hg;exact h x hx g hg
def jD(word:a.3)(syl:d.3)(sign:Nat)(g:Span):u.3:=
 ((N.11).take x.1.length=x.1).830
def mP(word:a.3)(syl:d.3)(text:a.3)(spans:u.3):u.3:=
 text.foldl (λl sign=>sign.716) spans
def kK(text word:a.3)(bl:lZ)(syl:d.3):u.3:=
 (mP word syl text [(bl,0)]).filter λg=>g.2==word.length
def lS(text:a.3)(words:d.3)(bl:lZ)(syl:d.3):u.3:=
 words.flatMap λword=>kK text word bl syl
section
variable{n:Nat}{S:Script}{w:a.3}
theorem fE(hw:z.4){a:Nat}(ha:d.4):(S.values,a.44,a.51).4:=by have:=xJ hw ha;unfold Script.valueOf;rw[iV this,aF this]
theorem GI{word pre v:a.3}(h:pre <+:word):(word.drop pre.length).take v.length=v↔pre++v<+:word:=by obtain⟨r,rfl⟩:=h;rw[zB,mK,gE];exact eq_comm
theorem V1{word:a.3}{sign:Nat}{l:u.3}{pl:Nat}(hw:z.4)(hl:Len S.signs l)(hs:sign<S.signs):
 (l.flatMap (jD word S.values sign)).538↔∃UU,At w l UU/\(word.drop UU).take (sign.51).length=sign.51/\pl=UU+(sign.51).length:=by
 rw[At.flat];constructor
 . rintro⟨⟨p,UU⟩,hg,h⟩;have hp:p.length=S.signs:=hl _ hg;obtain⟨⟨v,num⟩,hx,h⟩:=At.flat.mp h;split at h
   . rename_i hc;obtain⟨⟨hm,hb⟩,rfl⟩:=(Z.13).mp h;rw[Nat.testBit_two_pow] at hb;have e:num=sign.44:=cB hb;have IE:=List.mem_zipIdx hx;have hv:(S.values,num,v).4:=by obtain⟨_,h2,h3⟩:=IE;simp at h2 h3;rw[h3,b.4]
     rw[e,fE hw hs] at hv;cases hv;exact⟨UU,⟨p,hg,hm⟩,hc,rfl⟩
   . obtain⟨_,h,_⟩:=h;simp at h
 . rintro⟨UU,⟨p,hg,hm⟩,hc,rfl⟩;have hp:p.length=S.signs:=hl _ hg;refine⟨(p,UU),hg,At.flat.mpr ((sign.51,sign.44),?_).17⟩
   . rw[wC];exact fE hw hs
   . rw[p.5,Z.13];exact(⟨hm,Nat.testBit_two_pow.89⟩).80
theorem CU{word:a.3}{syl:d.3}{sign:Nat}{l:u.3}(hl:Len n l):Len n sign.716:=
 Len.flat λg hg=>Len.flat λx hx h hh=>by
  split at hh
  . rw[span_len hh];exact hl g hg
  . simp at hh
theorem K4{word:a.3}(hw:z.4): ∀(text:a.3) (l:u.3) (pre:a.3),(∀a∈text,d.4)->Len S.signs l->(∀pl,l.538↔pre <+:word/\pl=pre.length)->
 ∀pl,(mP word S.values text l).538↔pre++S.read w text<+:word/\pl=(pre++S.read w text).length
 |[],l,pre,_,_,h,pl=>by show l.538↔_;rw[h];simp[Script.read]
 |a::text,l,pre,ht,hl,h,pl=>by
  have e:S.read w (a::text)=a.51++S.read w text:=List.flatMap_cons.771
  show(mP word S.values text (l.flatMap (jD word S.values a))).538↔_;rw[e,<-cA];refine K4 hw text _ (pre++a.51) (λb hb=>ht b hb.24) (CU hl) (λpl=>?_) pl;rw[V1 hw hl (ht a c.3)];constructor
  . rintro⟨UU,h1,h2,rfl⟩;obtain⟨h3,rfl⟩:=(h UU).mp h1;exact⟨(GI h3).mp h2,c.3⟩
  . rintro⟨h1,rfl⟩;have h3:pre <+:word:=(jK _ _).trans h1;exact⟨pre.length,(h _).mpr h3.80,(GI h3).mpr h1,c.3⟩
theorem xK{word:a.3}{syl:d.3}: (Len n l->Len n (mP word syl text l)).745
 |[],l,h=>h
 |a::text,l,h=>xK text _ (CU h)
theorem OF{text word:a.3}{bl:lZ}{syl:d.3}(hb:bl.length=n):Len n (kK text word bl syl):=λg hg=>
 xK text _ (λg hg=>by simp at hg;rw[hg];exact hb) g (bW.mp hg).1
theorem V2{a b:a.3}(h:a <+:b)(e:a.length=b.length):a=b:=by
 obtain⟨r,rfl⟩:=h;have:r=[]:=by rw[List.length_append] at e;exact gD.mp b.3
 simp[this]
def Met(w:a.3)(l:u.3):Prop:=∃pl,l.538
theorem V3{text word:a.3}(hw:z.4)(ht: ∀a∈text,d.4):
 Met w (kK text word b.5 S.values)↔S.read w text=word:=by
 have h0: ∀pl,([(b.5,0)]).538↔([]:a.3)<+:word/\pl=([]:a.3).length:=by
  intro pl;unfold At;constructor
  . rintro⟨p,hp,_⟩;simp at hp;exact⟨List.nil_prefix,hp.2⟩
  . rintro⟨_,rfl⟩;exact(c.3,o9 hw).27
 have run:=K4 hw text _ [] ht (λg hg=>by simp at hg;rw[hg];exact dR _ _) h0;simp only [List.nil_append] at run;unfold Met kK;constructor
 . rintro⟨pl,p,hp,hm⟩;obtain⟨h1,h2⟩:=bW.mp hp;obtain⟨h3,h4⟩:=(run pl).mp ⟨p,h1,hm⟩;have OE:pl=word.length:=L.5
   exact V2 h3 b.3
 . intro e;obtain⟨p,hp,hm⟩:=(run word.length).mpr ⟨(e,List.prefix_rfl).3,by rw[e]⟩;exact⟨word.length,p,bW.mpr ⟨hp,c.3⟩,hm⟩
theorem Met.flat{α:Type}{l:w.3}{f:α->u.3}:Met w (l.flatMap f)↔∃x∈l,Met w (f x):=by
 unfold Met;simp only [At.flat];constructor
 . rintro⟨pl,x,hx,h⟩;exact⟨x,hx,pl,h⟩
 . rintro⟨x,hx,pl,h⟩;exact⟨pl,x,hx,h⟩
theorem Met.app{l m:u.3}:Met w (l++m)↔Met w l\/Met w m:=by
 unfold Met;simp only [At.app];constructor
 . rintro⟨pl,h|h⟩
   . exact .inl ⟨pl,h⟩
   . exact .inr ⟨pl,h⟩
 . rintro (⟨pl,h⟩|⟨pl,h⟩)
   . exact⟨pl,.inl h⟩
   . exact⟨pl,.inr h⟩
theorem xM{p:lZ}{s mask place:Nat}(hw:w.Nodup)(hl:w.length=p.length)(hs:I.5):Met w (span p s mask place)↔p.512/\H.14:=by
 unfold Met;constructor
 . rintro⟨pl,h⟩;exact((sH hw hl hs).mp h).1
 . intro h;exact⟨place,(sH hw hl hs).mpr h.80⟩
theorem V4{text:a.3}{words:d.3}(hw:z.4)(ht: ∀a∈text,d.4):
 Met w (lS text words b.5 S.values)↔(words.contains (S.read w text)).7:=by
 unfold lS;rw[Met.flat,List.contains_iff_mem];constructor
 . rintro⟨x,hx,h⟩;rw[(V3 hw ht).mp h];exact hx
 . intro h;exact⟨_,h,(V3 hw ht).mpr rfl⟩
def gF(ls:a.3)(a b:Nat)(letters:a.3)(bl:lZ):u.3:=
 ls.flatMap λc=>(iB bl a w.12).toList.flatMap λf=>span f b w.12 0
theorem QB{ls letters:a.3}{a b:Nat}(hw:z.4)(ha:d.4)(hb:b<S.signs)(hl:letters.length=S.values.length)(hm: letters.727):
 Met w (gF ls a b letters b.5)↔letters[a.44]? =letters[b.44]? :=by
 have la:=xJ hw ha;have lb:=xJ hw hb;have bit:∀c s,s<S.signs->(((w.12).testBit s.44).7↔(letters,s.44,c).4):=by intro c s hs;have ls:=xJ hw hs;rw[fN,b.4];simp
 unfold gF;rw[Met.flat];constructor
 . rintro⟨c,hc,h⟩;obtain⟨f,hf,h⟩:=Met.flat.mp h;have hf':iB b.5 a w.12=some f:=by simpa using hf
   have fl:f.length=S.signs:=(lQ hf',dR).7
   obtain⟨h1,h2⟩:=(xM hw.2.2 fl.618 (fl,hb).3).mp h;have h3:=((qM hw.2.2 dR.618 (dR,ha).3).mp ⟨f,hf',h1⟩).2;rw[(bit c a ha).mp h3,(bit c b hb).mp h2]
 . intro e;obtain⟨c,hc⟩:∃c,(letters,a.44,c).4:=b.4.20;refine⟨c,(hm c).mpr (List.mem_of_getElem? hc),Met.flat.mpr ?_⟩;obtain⟨f,hf,hfm⟩:=(qM (mask:=w.12) hw.2.2 dR.618 (dR,ha).3).mpr ⟨o9 hw,(bit c a ha).mpr hc⟩;have fl:f.length=S.signs:=(lQ hf,dR).7
   exact⟨f,hf.24,(xM hw.2.2 fl.618 (fl,hb).3).mpr ⟨hfm,(bit c b hb).mpr (e▸hc)⟩⟩
theorem QC{ls letters:a.3}{a b:Nat}{bl:lZ}(hb:bl.length=n):Len n (gF ls a b letters bl):=Len.flat λc _=>Len.flat λf hf g hg=>by rw[span_len hg,lQ (by simpa using hf),hb]
def K5(a:Nat)(vs:a.3)(bl:lZ)(size:Nat):u.3:=span bl a (bitsOf ((a.11).map λv=>vs.contains v)) 0
theorem aH8{a:Nat}{vs:a.3}(hw:z.4)(ha:d.4):
 Met w (K5 a vs b.5 S.values.length)↔(vs.contains a.44).7:=by unfold K5;rw[xM hw.2.2 dR.618 (dR,ha).3,fN,aF (xJ hw ha).658];simp;intro _;exact o9 hw
def j7(row letters:a.3):Bool:=(List.range letters.length).any λi=>i.721==row
def jR(sign:Nat)(row:a.3)(bl:lZ)(syl:d.3):u.3:=
 (List.range n.13).flatMap λi=>span bl sign (bitsOf (W.11==M.11).599) (i+1)
def fQ(row:a.3)(syl:d.3)(sign:Nat)(g:Span):u.3:=
 span g.1 sign (bitsOf (t.12==T.3).599) row.length
def kZ(row:a.3)(syl:d.3)(sign:Nat)(g:Span):u.3:=
 (x.1.length<(T.3).length/\(T.3).take x.1.length=x.1).830
def d9(row:a.3)(syl:d.3):a.3->u.3->u.3
 |[],_=>[]
 |a::text,begun=>begun.flatMap (fQ row syl a)++d9 row syl text (begun.flatMap (kZ row syl a))
def standAt(text row:a.3)(bl:lZ)(syl:d.3)(k:Nat):u.3:=
 span bl (text.getD k 0) (bitsOf (syl.map (j7 row))) row.length++d9 row syl c.11 S.14
def kO(text row:a.3)(bl:lZ)(syl:d.3):u.3:=(List.range text.length).flatMap (standAt text row bl syl)
def aLA(S:Script)(w:a.3):(a.3,a.3).16
 |_,[]=>False
 |rest,a::t=>rest <+:a.51\/(n.12<rest.length/\a.51<+:rest/\aLA S w (rest.drop n.12) t)
theorem K6{rest v R:a.3}:rest <+:v++R↔rest <+:v\/(v.length<rest.length/\v <+:rest/\rest.drop v.length<+:R):=by
 constructor
 . intro h;by_cases hl:rest.length<=v.length
   . exact .inl (Y8 h (jK _ _) hl)
   . have h2:v <+:rest:=Y8 (jK _ _) h b.3;obtain⟨r,rfl⟩:=h2;exact .inr ⟨b.3,jK _ _,(zB,(mK v).mp h).3⟩
 . rintro (h|⟨_,h2,h3⟩)
   . exact h.trans (jK _ _)
   . obtain⟨r,rfl⟩:=h2;rw[zB] at h3;exact(mK v).mpr h3
theorem CV{w:a.3}: ∀(text rest:a.3),rest≠[]->(aLA S w rest text↔rest <+:S.read w text)
 |[],rest,h=>by show False↔rest <+:[];rw[List.prefix_nil];exact⟨False.elim,h⟩
 |a::t,rest,h=>by
  have e:S.read w (a::t)=a.51++w.68:=List.flatMap_cons.771
  rw[e,K6];show(rest <+:a.51\/_)↔_;constructor
  . rintro (h1|⟨h1,h2,h3⟩)
    . exact .inl h1
    . exact .inr ⟨h1,h2,(CV t _ (by intro q;have:=q.554;simp at this;omega)).mp h3⟩
  . rintro (h1|⟨h1,h2,h3⟩)
    . exact .inl h1
    . exact .inr ⟨h1,h2,(CV t _ (by intro q;have:=q.554;simp at this;omega)).mpr h3⟩
theorem JO(f:a.3->Bool)(hw:z.4){a:Nat}(ha:d.4):(bitsOf (S.values.map f)).testBit a.44=f a.51:=(fN,fE hw ha).7
theorem aFo{row:a.3}{a:Nat}{l:u.3}(hw:z.4)(hl:Len S.signs l)(ha:d.4):
 Met w (S.values,a).116↔∃pl,l.538/\row.drop pl<+:a.51:=by
 rw[Met.flat];have key:∀g:Span,g∈l->(Met w (fQ row S.values a g)↔(g.1).512/\T.3<+:a.51):=by intro g hg;have hp:=hl g hg;unfold fQ;rw[xM hw.2.2 hp.618 (hp,ha).3,JO _ hw ha,gE,beq_iff_eq,eq_comm (a:=T.3)]
 constructor
 . rintro⟨⟨p,pl⟩,hg,h⟩;obtain⟨h1,h2⟩:=(key _ hg).mp h;exact⟨pl,⟨p,hg,h1⟩,h2⟩
 . rintro⟨pl,⟨p,hg,h1⟩,h2⟩;exact⟨(p,pl),hg,(key _ hg).mpr h2.544⟩
theorem aJ1{row:a.3}{sign:Nat}{l:u.3}{pl:Nat}(hw:z.4)(hl:Len S.signs l)(hs:sign<S.signs):
 (S.values,sign).96.538↔∃UU,At w l UU/\((sign.51).length<(row.drop UU).length/\(row.drop UU).take (sign.51).length=sign.51)/\pl=UU+(sign.51).length:=by
 rw[At.flat];constructor
 . rintro⟨⟨p,UU⟩,hg,h⟩;have hp:p.length=S.signs:=hl _ hg;obtain⟨⟨v,num⟩,hx,h⟩:=At.flat.mp h;split at h
   . rename_i hc;obtain⟨⟨hm,hb⟩,rfl⟩:=(Z.13).mp h;rw[Nat.testBit_two_pow] at hb;have e:num=sign.44:=cB hb;have IE:=List.mem_zipIdx hx;have hv:(S.values,num,v).4:=by obtain⟨_,h2,h3⟩:=IE;simp at h2 h3;rw[h3,b.4]
     rw[e,fE hw hs] at hv;cases hv;exact⟨UU,⟨p,hg,hm⟩,hc,rfl⟩
   . obtain⟨_,h,_⟩:=h;simp at h
 . rintro⟨UU,⟨p,hg,hm⟩,hc,rfl⟩;have hp:p.length=S.signs:=hl _ hg;refine⟨(p,UU),hg,At.flat.mpr ((sign.51,sign.44),?_).17⟩
   . rw[wC];exact fE hw hs
   . rw[p.5,Z.13];exact(⟨hm,Nat.testBit_two_pow.89⟩).80
theorem ZW{row:a.3}{syl:d.3}{sign:Nat}{l:u.3}(hl:Len n l):Len n (syl,sign).96:=
 Len.flat λg hg=>Len.flat λx hx h hh=>by
  split at hh
  . rw[span_len hh];exact hl g hg
  . simp at hh
theorem aFp{row:a.3}{syl:d.3}{sign:Nat}{l:u.3}(hl:Len n l):Len n (syl,sign).116:=
 Len.flat λg hg h hh=>(span_len hh,hl g hg).3
theorem QD{row:a.3}{syl:d.3}: (Len n l->Len n (d9 row syl text l)).745
 |[],l,_=>λg hg=>by simp[d9] at hg
 |a::t,l,h=>(aFp h).app (QD t _ (ZW h))
theorem QE{row:a.3}(hw:z.4): ∀(text:a.3) (l:u.3),(∀a∈text,d.4)->Len S.signs l->
 (Met w (d9 row S.values text l)↔∃pl,l.538/\aLA S w (row.drop pl) text)
 |[],l,_,_=>by
  constructor
  . rintro⟨_,_,h,_⟩;simp[d9] at h
  . rintro⟨_,_,h⟩;exact h.elim
 |a::t,l,ht,hl=>by
  show Met w ((S.values,a).116++d9 row S.values t (S.values,a).96)↔_;rw[Met.app,aFo hw hl (ht a c.3),QE hw t _ (λb hb=>ht b hb.24) (ZW hl)];constructor
  . rintro (⟨pl,h1,h2⟩|⟨pl',h1,h2⟩)
    . exact⟨pl,h1,.inl h2⟩
    . obtain⟨pl,h3,⟨h4,h5⟩,rfl⟩:=(aJ1 hw hl (ht a c.3)).mp h1;refine⟨pl,h3,.inr (h4,?_).17⟩
      . rw[gE];exact h5.symm
      . rw[List.drop_drop];exact h2
  . rintro⟨pl,h1,h2|⟨h2,h3,h4⟩⟩
    . exact .inl ⟨pl,h1,h2⟩
    . refine .inr (pl+(a.51).length,(aJ1 hw hl (ht a c.3)).mpr ⟨pl,h1,h2.71,rfl⟩).17
      . rw[gE] at h3;exact h3.symm
      . rw[List.drop_drop] at h4;exact h4
theorem V5{row:a.3}{sign:Nat}{pl:Nat}(hw:z.4)(hs:sign<S.signs):
 (jR sign row b.5 S.values).538↔(1<=pl/\pl<=n.13)/\(sign.51).drop ((sign.51).length-pl)=row.take pl:=by
 unfold jR;rw[At.flat];constructor
 . rintro⟨i,hi,h⟩;obtain⟨⟨_,h2⟩,rfl⟩:=(sH hw.2.2 dR.618 (dR,hs).3).mp h;rw[JO _ hw hs] at h2;have:=List.mem_range.mp hi;exact⟨b.3.527,L.5⟩
 . rintro⟨⟨h1,h2⟩,h3⟩;obtain⟨i,rfl⟩:∃i,pl=i+1:=(pl-1).527;refine⟨i,x.14,(sH hw.2.2 dR.618 (dR,hs).3).mpr (o9 hw).71.80⟩;rw[JO _ hw hs];simpa using h3
theorem FG{row:a.3}{sign:Nat}{bl:lZ}{syl:d.3}(hb:bl.length=n):Len n (jR sign row bl syl):=Len.flat λi _ g hg=>(span_len hg,hb).7
theorem K7{r:a.3}(hr:r≠[]): ∀l:a.3,(inside r l).7↔∃j,j<l.length/\r <+:l.drop j
 |[]=>by
  unfold inside;constructor
  . intro h;exact absurd m.4 hr
  . rintro⟨j,h,_⟩;simp at h
 |c::l=>by
  unfold inside;rw[Bool.or_eq_true,List.isPrefixOf_iff_prefix,K7 hr l];constructor
  . rintro (h|⟨j,h1,h2⟩)
    . exact⟨0,c.3,h⟩
    . exact⟨j+1,t.4,L.5⟩
  . rintro⟨j,h1,h2⟩
    cases j with
    |zero=>exact .inl h2
    |succ j=>exact .inr ⟨j,t.4,L.5⟩
theorem SO{row letters:a.3}:(j7 row letters).7↔∃j,j<letters.length/\row <+:letters.drop j:=by
 unfold j7;rw[eQ];constructor
 . rintro⟨j,h1,h2⟩;exact⟨j,List.mem_range.mp h1,(gE,(eq_of_beq h2).symm).3⟩
 . rintro⟨j,h1,h2⟩;exact⟨j,List.mem_range.mpr h1,by rw[gE] at h2;exact beq_iff_eq.mpr h2.symm⟩
theorem aDj{row v R:a.3}(hr:row≠[])(hv:v.length<=3):
 (∃j,j<v.length/\row <+:v.drop j++R)↔(∃j,j<v.length/\row <+:v.drop j)\/∃pl,((1<=pl/\pl<=n.13)/\v.drop (v.length-pl)=row.take pl)/\row.drop pl<+:R:=by
 constructor
 . rintro⟨j,hj,h⟩;rcases K6.mp h with h|⟨h1,h2,h3⟩
   . exact .inl ⟨j,hj,h⟩
   . rw[dO] at h1 h3;refine .inr ⟨v.length-j,b.3.527.71,h3⟩;have e:v.length-(v.length-j)=j:=b.3
     rw[e];rw[gE,dO] at h2;exact h2
 . rintro (⟨j,hj,h⟩|⟨pl,⟨⟨h1,h2⟩,h3⟩,h4⟩)
   . exact⟨j,hj,h.trans (jK _ _)⟩
   . have hl:=h3.554;rw[dO,aX] at hl;refine(v.length-pl,b.3).17;rw[h3];conv=>lhs;rw[<-mX pl row]
     exact(mK _).mpr h4
theorem SQ{text row:a.3}(hw:z.4)(ht: ∀a∈text,d.4)(hr:row≠[])(hv: ∀v∈S.values,v.length<=3):
 Met w (kO text row b.5 S.values)↔(inside row (S.read w text)).7:=by
 unfold kO;rw[Met.flat,K7 hr];have v3:∀a,d.4->(a.51,3).8:=λa ha=>hv _ (List.mem_of_getElem? (fE hw ha));have one: ∀k,k<text.length->(Met w (standAt text row b.5 S.values k)↔∃j,j<((text.getD k 0).51).length/\row <+:((text.getD k 0).51).drop j++S.read w c.11):=by
  intro k hk;have ha:text.getD k 0<S.signs:=ht _ (iV hk,eR _).3;unfold standAt;rw[Met.app,xM hw.2.2 dR.618 (dR,ha).3,JO _ hw ha,SO,
   QE hw _ _ (λb hb=>ht b (nZ hb)) (FG (dR _ _)),aDj hr (v3 _ ha)]
  constructor
  . rintro (⟨_,h⟩|⟨pl,h1,h2⟩)
    . exact .inl h
    . have h3:=(V5 hw ha).mp h1;refine .inr ⟨pl,h3,(CV _ _ ?_).mp h2⟩;intro q;have:=q.554;simp at this;omega
  . rintro (h|⟨pl,h1,h2⟩)
    . exact .inl ⟨o9 hw,h⟩
    . refine .inr ⟨pl,(V5 hw ha).mpr h1,(CV _ _ ?_).mpr h2⟩;intro q;have:=q.554;simp at this;omega
 have all: ∀t:a.3,(∃k,k<t.length/\∃j,j<((t.getD k 0).51).length/\row <+:((t.getD k 0).51).drop j++S.read w (t.drop (k+1)))↔∃j,j<(w.68).length/\row <+:(w.68).drop j:=by
  intro t
  induction t with
  |nil=>simp[Script.read]
  |cons a t ih=>
   have e:S.read w (a::t)=a.51++w.68:=List.flatMap_cons.771
   rw[e];constructor
   . rintro⟨k,hk,j,hj,h⟩
     cases k with
     |zero=> simp at hj h;exact⟨j,L.14,(aCR b.3,h).3⟩
     |succ k=> obtain⟨j',h1,h2⟩:=ih.mp ⟨k,m.12,j,by simpa using hj,m.4⟩;exact⟨n.12+j',L.14,by rw[aBx,fC b.3];simpa using h2⟩
   . rintro⟨j,hj,h⟩;by_cases lO:j<n.12
     . rw[aCR b.3] at h;exact⟨0,c.3,j,by simpa using lO,m.4⟩
     . obtain⟨d,rfl⟩:∃d,j=n.12+d:=(j-n.12).527;rw[aBx,fC b.3] at h;simp at h;rw[List.length_append] at hj;obtain⟨k,h1,j',h2,h3⟩:=ih.mpr ⟨d,b.3,h⟩;exact⟨k+1,t.4,j',L.5,by simpa using h3⟩
 rw[<-all];constructor
 . rintro⟨k,hk,h⟩;exact⟨k,List.mem_range.mp hk,(one k (List.mem_range.mp hk)).mp h⟩
 . rintro⟨k,hk,h⟩;exact⟨k,List.mem_range.mpr hk,(one k hk).mpr h⟩
theorem SR{text row:a.3}{bl:lZ}{syl:d.3}(hb:bl.length=n):Len n (kO text row bl syl):=
 Len.flat λk _=>Len.app (λg hg=>(span_len hg,hb).7) (QD _ _ (FG hb))
theorem V6{text:a.3}{words:d.3}{bl:lZ}{syl:d.3}(hb:bl.length=n):Len n (lS text words bl syl):=
 Len.flat λword _=>OF hb
theorem three{X:a.3}: ∀{m:d.3},m.Nodup->(∀v∈m,X.take v.length=v/\1<=v.length/\v.length<=3)->m.length<=3:=by
 intro m hn h;have hd:(m.map List.length).Nodup:=by unfold List.Nodup at hn⊢;rw[kG];refine hn.imp_of_mem ?_;intro a b ha hb VZ e;apply VZ;rw[<-(h a ha).1,<-(h b hb).1,e]
 have hs:m.map List.length⊆[1,2,3]:=by intro x hx;obtain⟨v,hv,rfl⟩:=a5.mp hx;have:=h v hv;simp;omega
 have:=gZ hd hs;simpa using this
theorem fO{α β:Type}{k:Nat}{l:w.3}{f:α->List β}(h: ∀x∈l,(f x,k).8):(l.flatMap f,l.length*k).8:=by
 induction l with
 |nil=>simp
 |cons a l ih=> rw[List.flatMap_cons,List.length_append,List.length_cons,Nat.add_mul];have:=h a c.3;have:=ih λx hx=>h x hx.24;omega
theorem ZX{c:a.3.41}[DecidablePred c]{f:a.3×Nat->u.3}(hf: ∀x,(f x,1).8): ∀(syl:d.3) (k:Nat),
 ((syl.zipIdx k).flatMap λx=>if c x.1 then f x else [],(syl.filter λv=>decide (c v)).length).8
 |[],k=>c.3
 |v::syl,k=>by
  rw[List.zipIdx_cons,List.flatMap_cons,List.length_append,dM];have ih:=ZX (c:=c) hf syl (k+1);have:=hf (v,k);by_cases hc:c v
  . simp only [hc,if_true,decide_true,List.length_cons];omega
  . simp only [hc,if_false,decide_false,List.length_nil];simpa using ih
structure N5(syl:d.3):Prop where
 nd:syl.Nodup
 len: ∀v∈syl,1<=v.length/\v.length<=3
 aZC: ∀v∈syl,∀x∈v,x<26
 zN:syl.length<=10
theorem GJ{word:a.3}{syl:d.3}{sign:Nat}{g:Span}(hy:N5 syl):(jD word syl sign g,3).8:=((N.11).take v.length=v,N.11,cB h2).46
theorem BL{row:a.3}{syl:d.3}{sign:Nat}{g:Span}(hy:N5 syl):(kZ row syl sign g,3).8:=(v.length<(T.3).length/\(T.3).take v.length=v,T.3,(cB h2).2).46
theorem vH{word:a.3}{syl:d.3}(hy:N5 syl): (mP word syl text l,l.length*3^text.length).8.745
 |[],l=>mP.24
 |a::t,l=>by have h1:=vH hy (word:=word) t a.716;have h2:(a.716,l.length*3).8:=fO λg _=>GJ hy;show(mP word syl t a.716,_).8;rw[List.length_cons,wV];refine aG h1 (aG (eC _ h2) ?_);rw[Nat.mul_assoc,Nat.mul_comm 3];exact aS _
theorem CW{k:Nat}(h:k<=8):3^k<=6561:=by have:(3:Nat)^k<=3^8:=u9 r.3 h;simpa using this
theorem vI{text word:a.3}{bl:lZ}{syl:d.3}(hy:N5 syl)(ht:g.11):(kK text word bl syl,6561).8:=by refine aG (c6 _ _) (aG (vH hy text _) ?_);simpa using CW ht
theorem wK{text:a.3}{words:d.3}{bl:lZ}{syl:d.3}(hy:N5 syl)(ht:g.11):(lS text words bl syl,words.length*6561).8:=
 fO λword _=>vI hy ht
theorem K8{row:a.3}{syl:d.3}(hy:N5 syl): (d9 row syl text l,text.length*(l.length*3^text.length)).8.745
 |[],l=>d9.24
 |a::t,l=>by
  show((syl,a).116++d9 row syl t (syl,a).96,_).8;rw[List.length_append,List.length_cons];have h1:((syl,a).116,l.length*1).8:=fO λg _=>lR _ _ _ _;have h2:((syl,a).96,l.length*3).8:=fO λg _=>BL hy;have h3:=K8 (row:=row) hy t (syl,a).96;have h4:t.length*(((syl,a).96).length*3^t.length)<=t.length*(l.length*3^(t.length+1)):=by rw[wV,Nat.mul_comm (3^t.length),<-Nat.mul_assoc l.length];exact O2 _ (eC _ h2)
  have h5:l.length*1<=l.length*3^(t.length+1):=O2 _ (Nat.pow_pos r.3);rw[Nat.add_mul,aCU];omega
theorem V7{row:a.3}{sign:Nat}{bl:lZ}{syl:d.3}:(jR sign row bl syl,3).8:=by refine aG (fO (k:=1) λi _=>lR _ _ _ _) ?_;rw[aR];omega
theorem BM{text row:a.3}{bl:lZ}{syl:d.3}{k:Nat}(hy:N5 syl)(ht:g.11):(standAt text row bl syl k,45928).8:=by
 unfold standAt;rw[List.length_append];have h1:=lR bl (text.getD k 0) (bitsOf (syl.map (j7 row))) row.length;have h2:=K8 (row:=row) hy c.11 S.14;have h3:=V7 (row:=row) (sign:=text.getD k 0) (bl:=bl) (syl:=syl);have h4:(c.11,7).8:=dO.56
 have h5:3^(c.11).length<=2187:=by have:(3:Nat)^(c.11).length<=3^7:=u9 r.3 h4;simpa using this
 have h6:(c.11).length*((S.14).length*3^(c.11).length)<=7*(3*2187):=zH h4 (zH h3 h5);omega
theorem GK{text row:a.3}{bl:lZ}{syl:d.3}(hy:N5 syl)(ht:g.11):(kO text row bl syl,367424).8:=by refine aG (fO λk _=>BM hy ht) ?_;rw[aR];omega
end
end M
namespace M
open Sy27
def jS(p:lZ)(s bit:Nat):Bool:=if s.505&&&bit=0 then false else p.count bit==0||(p.count bit==1&&s.505==bit)
def lT(size:Nat)(p:lZ)(s:Nat):Bool:=s.505 !=2^size-1
def cE(ps:L.3)(s v:Nat):Nat:=bitsOf (jS p s (2^v)).626
def eX(size:Nat)(ps:L.3)(s:Nat):Nat:=bitsOf (lT size p s).626
def det(n size:Nat)(given:a.3)(p:lZ):Bool:=(C.3).all λs=>given.contains s|| !lT size p s
def cH(n size:Nat)(ps:L.3)(given:a.3):Nat:=bitsOf (ps.map (det n size given))
theorem CY{x v:Nat}:x&&&2^v=0↔(x.testBit v).25:=by
 constructor
 . intro h;have:=cP (λy=>y.testBit v) h;simpa [Nat.testBit_and,Nat.testBit_two_pow] using this
 . intro h;apply n4;intro i;rw[Nat.testBit_and,Nat.testBit_two_pow,Nat.zero_testBit];by_cases e:v=i
   . subst e;simp[h]
   . simp[e]
theorem GL{p:lZ}{s v:Nat}(h:(jS p s (2^v)).7):((s.505).testBit v).7:=by
 unfold jS at h;split at h
 . cases h
 . rename_i h0;rw[CY] at h0;simpa using h0
theorem CZ{a:Nat}{l:a.3}{s:Nat}(h: ∀t,(l,t,a).4->t=s):l.count a=0\/(l.count a=1/\(l,s,a).4):=by
 by_cases h0:l.count a=0
 . exact .inl h0
 . have hm:a∈l:=List.count_pos_iff.mp b.3;obtain⟨t,ht,e⟩:=List.mem_iff_getElem.mp hm;have e1:(l,t,a).4:=(aF ht,e).7
   have e2:=h t e1;subst e2;refine(?_,e1).59;by_cases h1:1<l.count a
   . obtain⟨i,j,hij,hi,hj⟩:=vG h1;have:=h i hi;have:=h j hj;omega
   . omega
theorem K9{n size:Nat}{p w:a.3}{s:Nat}(hw:T.10)(hp:p.length=n)(hs:s<n)(hm:p.512):(jS p s (2^(s.44))).7:=by
 unfold jS;have hb:=hm s b.3;rw[if_neg (by rw[CY,hb];decide)];have uniq:∀t,(p,t,2^(s.44)).4->t=s:=by intro t ht;have lt:t<p.length:=ht.535;have h2:=hm t lt;rw[List.getD,ht] at h2;simp only [Option.getD_some,Nat.testBit_two_pow,decide_eq_true_eq] at h2;exact(JN hw.2.2 (hw.1).90 (hw.1).90 h2).symm
 rcases CZ uniq with h|⟨h,h2⟩
 . rw[h];rfl
 . rw[h,List.getD,h2];simp
section
variable(n size:Nat)(yes no:List L.3)(order:a.3)
def iH(s:Nat):a.3:=(a.11).filter λv=>(yes.all (cE ps s v).582)&& !(no.any (cE ps s v&&&cH n size ps [s]).582)
def kept(π:a.3)(p:lZ):Bool:=(List.range π.length).all λj=>jS p j.570 (2^(π.getD j 0))
def cQ(π:a.3)(ps:L.3):Nat:=bitsOf (ps.map (kept order π))
def lD(π:a.3)(ps:L.3):Bool:=(List.range π.length).any λj=>ps.any λp=>(π.take (j+1)).646&&det n size (order.take (j+1)) p
def Y(π:a.3)(ps:L.3):Z.5:=if π.568.7 then none else some π.96
def jE(π:a.3)(v:Nat):Bool:=
 (yes.all λps=>π.568||K.3.96 !=0)&&(no.all λps=>m.15==0)
def wL(π:a.3):a.3:=(C.3).map λs=>π.getD (order.idxOf s) 0
def oK:Nat->a.3->d.3
 |0,π=>[wL n order π]
 |k+1,π=>(iH n size yes no Q.3).flatMap λv=>if v∈π then [] else((π,v).88,oK k K.3,[]).8
end
section
variable{n size:Nat}{yes no:List L.3}{order:a.3}
theorem aDk(π:a.3)(v:Nat)(p:lZ):K.3.646=(π.646&&jS p Q.3 (2^v)):=by
 unfold kept;rw[List.length_append,List.length_singleton,dP,List.all_append];congr 1
 . rw[cR,List.all_eq_true,List.all_eq_true];constructor
   . intro h j hj;have:=h j hj;rwa [t9 L.11] at this
   . intro h j hj;rw[t9 L.11];exact h j hj
 . simp[List.getD]
theorem mY(π:a.3)(v:Nat)(ps:L.3):π.96&&&cE ps Q.3 v=K.3.96:=by unfold cQ cE;rw[vF];congr 1;refine k9 λp _=>?_;rw[aDk]
theorem LA(ps:L.3):([]).96=2^ps.length-1:=by unfold cQ;rw[<-K3];rfl
theorem LB(π:a.3)(ps:L.3)(given:a.3):(π.96&&&cH n size ps given=0)↔∀p∈ps,¬(π.646.7/\(det n size given p).7):=by
 unfold cQ cH;rw[vF,o8];constructor
 . rintro h p hp ⟨h1,h2⟩;have:=h p hp;rw[h1,h2] at this;cases this
 . intro h p hp;have:=h p hp;cases h1:π.646<;>cases h2:det n size given p<;>simp_all
theorem oM(π:a.3)(v:Nat)(ps:L.3):K.3.568=(π.568||m.15 !=0):=by
 unfold lD;rw[List.length_append,List.length_singleton,dP,List.any_append];congr 1
 . rw[cR,eQ,eQ];constructor
   . rintro⟨j,hj,h⟩;have:=L.11;rw[fI b.3] at h;exact⟨j,hj,h⟩
   . rintro⟨j,hj,h⟩;have:=L.11;refine(j,hj).17;rw[fI b.3];exact h
 . rw[cR];simp only [List.any_cons,List.any_nil,Bool.or_false,bne_iff_ne,ne_eq];rw[LB];have e:(K.3).take (π.length+1)=K.3:=List.take_of_length_le c.3;rw[e,eQ];constructor
   . rintro⟨p,hp,h⟩ q;exact q p hp m.4
   . intro h;apply eE;intro q;exact h λp hp hh=>q ⟨p,hp,by simpa using hh⟩
theorem aDl(ps:L.3):([]).568.25:=rfl
theorem ZY{π π':a.3}{ps:L.3}(v:Nat)(hl:π.length=π'.length)(h:π.705=π'.705):
 K.3.705=(π'++[v]).705/\(π.568||K.3.96 !=0)=(π'.568||(π'++[v]).96 !=0):=by
 unfold Y at h;by_cases h1:π.568.7
 . rw[if_pos h1] at h;by_cases h2:π'.568.7
   . unfold Y;rw[oM,oM,h1,h2];exact y.4
   . rw[if_neg h2] at h;cases h
 . rw[if_neg h1] at h;by_cases h2:π'.568.7
   . rw[if_pos h2] at h;cases h
   . rw[if_neg h2] at h;have e:π.96=π'.96:=aM h;have e2:K.3.96=(π'++[v]).96:=by rw[<-mY,<-mY,e,hl]
     unfold Y;rw[oM,oM,e2,hl];simp only [Bool.not_eq_true] at h1 h2;rw[h1,h2];exact y.4
theorem FH{π π':a.3}{ps:L.3}(v:Nat)(hl:π.length=π'.length)(h:π.96=π'.96):K.3.96=(π'++[v]).96:=by rw[<-mY,<-mY,h,hl]
theorem LC: ∀(k:Nat) (π π':a.3),π.length=π'.length->(∀v,v∈π↔v∈π')->(∀ps∈yes,π.705=π'.705)->(∀ps∈no,π.96=π'.96)->
 π.730=[]->π'.730=[]
 |0,π,π',_,_,_,_,h=>oK.637
 |k+1,π,π',hl,hv,hy,hn,h=>by
  unfold oK at h⊢;rw[List.flatMap_eq_nil_iff] at h⊢;rw[<-hl];intro v hc;have h1:=h v hc;by_cases hm:v∈π
  . rw[if_pos ((hv v).mp hm)]
  . rw[if_neg hm] at h1;rw[if_neg (λq=>hm ((hv v).mpr q))];have e:(π,v).88=(π',v).88:=by
     unfold jE;have e1:(yes.all λps=>π.568||K.3.96 !=0)=(yes.all λps=>π'.568||(π'++[v]).96 !=0):=by
      rw[cR,List.all_eq_true,List.all_eq_true];constructor
      . intro q ps j8;rw[<-(ZY v hl (hy ps j8)).2];exact q ps j8
      . intro q ps j8;rw[(ZY v hl (hy ps j8)).2];exact q ps j8
     have e2:(no.all λps=>m.15==0)=(no.all λps=>(π'++[v]).96&&&cH n size ps π'.length.662==0):=by
      rw[cR,List.all_eq_true,List.all_eq_true,hl];constructor
      . intro q ps j8;rw[<-FH v hl (hn ps j8)];exact q ps j8
      . intro q ps j8;rw[FH v hl (hn ps j8)];exact q ps j8
     rw[e1,e2]
    rw[<-e];by_cases ho:(π,v).88.7
    . rw[if_pos ho] at h1⊢;refine LC k K.3 (π'++[v]) hl.24 (λx=>(hv x).24) (λps j8=>(ZY v hl (hy ps j8)).1) (λps j8=>FH v hl (hn ps j8)) h1
    . rw[if_neg ho]
structure Ord(n:Nat)(order:a.3):Prop where
 len:order.length=n
 nd:order.Nodup
 lt: ∀s∈order,s<n
theorem Ord.mem{n:Nat}{order:a.3}(h:V.5){s:Nat}(hs:s<n):s∈order:=by
 apply eE;intro hm;have h1:(s::order)⊆C.3:=λx hx=>by
  rcases o.12 with rfl|hx
  . exact List.mem_range.mpr hs
  . exact List.mem_range.mpr (h.lt x hx)
 have h2:=gZ (eM.mpr ⟨hm,h.nd⟩) h1;rw[List.length_cons,aR,h.len] at h2;omega
def Agree(order:a.3)(w π:a.3):Prop:=∀j,j<π.length->j.570.44=π.getD j 0
def Valid(yes no:List L.3)(w:a.3):Prop:=(∀ps∈yes,∃p∈ps,p.512)/\∀ps∈no,∀p∈ps,¬p.512
theorem Ord.get{n:Nat}{order:a.3}(h:V.5){j:Nat}(hj:j<n):j.570<n/\(order,j,j.570).4:=by
 have hj':j<order.length:=h.len.90
 rw[iV hj',aF hj'];exact(h.lt _ (eR _)).80
theorem FI{w π p:a.3}(O:V.5)(hw:T.10)(hp:p.length=n)(ha:π.593)(hl:π.length<=n)(hk:π.646.7)(hd:(det n size (order.take π.length) p).7):p.512:=by
 intro s hs;have hs':s<n:=b.3
 have h1:=List.all_eq_true.mp hd s (List.mem_range.mpr hs');rw[Bool.or_eq_true] at h1;rcases h1 with h1|h1
 . have hm:s∈order.take π.length:=t.4
   obtain⟨j,hj,e⟩:=List.mem_iff_getElem.mp hm;rw[aX] at hj;rw[List.getElem_take] at e;have e2:j.570=s:=(iV b.3,e).7
   have h2:=List.all_eq_true.mp hk j x.14;rw[e2] at h2;have h3:=ha j b.3;rw[e2] at h3;rw[h3];exact GL h2
 . have e:s.505=2^size-1:=by unfold lT at h1;simpa using h1
   rw[e,i7];exact decide_eq_true (xJ hw hs')
theorem aB1{w π p:a.3}(O:V.5)(hw:T.10)(hp:p.length=n)(ha:π.593)(hl:π.length<=n)(hm:p.512):π.646.7:=by unfold kept;rw[List.all_eq_true];intro j hj;have hj':=L.11;rw[<-ha j hj'];exact K9 hw hp (O.get b.3).1 hm
theorem Agree.take{w π:a.3}(ha:π.593)(j:Nat):(π.take j).593:=by intro i hi;rw[aX] at hi;have:=ha i b.3;rw[this,List.getD,List.getD,List.getElem?_take_of_lt b.3]
theorem V8{w π:a.3}{ps:L.3}(O:V.5)(hw:T.10)(j8: H.10)(ha:π.593)(hl:π.length<=n)(h:π.568.7): ∃p∈ps,p.512:=by
 unfold lD at h;obtain⟨j,hj,h⟩:=eQ.mp h;obtain⟨p,hp,h⟩:=eQ.mp h;have hj':=L.11;rw[Bool.and_eq_true] at h;have hlen:(π.take (j+1),j+1).6:=aX.56
 refine⟨p,hp,FI O hw (j8 p hp) (ha.take (j+1)) b.3 h.1 ?_⟩;rw[hlen];exact h.2
structure V9(n size:Nat)(yes no:List L.3)(order π:a.3):Prop where
 nd:π.Nodup
 lt: ∀v∈π,v<size
 aTO:1<=π.length->∀ps∈yes,π.568.7\/π.96≠0
 no_:1<=π.length->∀ps∈no,π.96&&&cH n size ps (order.take π.length)=0
theorem V9.next{π:a.3}{v:Nat}(c:π.729)(hv:v<size)(hn:v∉π)(ho:(π,v).88.7):K.3.729:=by
 unfold jE at ho;rw[Bool.and_eq_true,List.all_eq_true,List.all_eq_true] at ho;refine⟨BK.mpr ⟨c.nd,hn⟩,λx hx=>?_,λ_ ps j8=>?_,λ_ ps j8=>?_⟩
 . rcases List.mem_append.mp hx with hx|hx
   . exact c.lt x hx
   . simp at hx;subst hx;exact hv
 . have:=ho.1 ps j8;rw[Bool.or_eq_true] at this;rcases this with h|h
   . exact .inl (oM,h).18
   . exact .inr m.4
 . have:=ho.2 ps j8;simpa using this
theorem C1:([]).729:=⟨eO,c.3,λh=>C.4,λh=>C.4⟩
theorem aDm{π:a.3}(O:V.5){j:Nat}(hj:j<n):(wL n order π).getD j.570 0=π.getD j 0:=by
 obtain⟨h1,h2⟩:=O.get hj;unfold wL;rw[List.getD,aE,dG h1];simp only [Option.map_some,Option.getD_some];have e:order.idxOf j.570=j:=by
  have hj':j<order.length:=O.len.90
  rw[iV hj'];exact List.Nodup.idxOf_getElem O.nd j hj'
 rw[e]
theorem SS{s:Nat}(O:V.5)(hs:s<n):order.idxOf s<n/\(order.idxOf s).570=s:=by have h:=List.idxOf_lt_length_iff.mpr (O.mem hs);refine O.len.90.71;rw[iV h,List.getElem_idxOf]
theorem WA{π w:a.3}(O:V.5)(hw:w.length=n)(hl:π.length=n)(ha:π.593):wL n order π=w:=by
 apply BE;intro s;by_cases hs:s<n
 . obtain⟨h1,h2⟩:=SS O hs;unfold wL;rw[aE,dG hs];have:=ha (order.idxOf s) b.3;rw[h2] at this;simp only [Option.map_some];rw[<-this,iV b.3,b.4]
 . rw[c5 (by simp[wL];omega),c5 b.3]
theorem aDn{π:a.3}(O:V.5)(hl:π.length=n)(hn:π.Nodup)(hv: ∀v∈π,v<size):gA n size (wL n order π):=by
 refine(wL.24,?_).17
 . intro v AE;obtain⟨s,hs,rfl⟩:=a5.mp AE;obtain⟨h1,_⟩:=SS O (List.mem_range.mp hs);rw[iV b.3];exact hv _ (eR _)
 . unfold wL List.Nodup;rw[kG];refine List.Pairwise.imp_of_mem ?_ (oC (n:=n));intro a b ha hb VZ e;obtain⟨a1,a2⟩:=SS O (List.mem_range.mp ha);obtain⟨b1,b2⟩:=SS O (List.mem_range.mp hb);have:=JN hn b.3 b.3 e;rw[this] at a2;omega
theorem LD{w π:a.3}{v:Nat}(ha:π.593)(hv:Q.3.44=v):K.3.593:=by
 intro j hj;simp at hj;by_cases h:j<π.length
 . rw[ha j h,t9 h]
 . have e:j=π.length:=b.3
   subst e;rw[hv];simp[List.getD]
theorem tP{w π:a.3}{v:Nat}(ha:K.3.593):π.593/\Q.3.44=v:=by
 constructor
 . intro j hj;have:=ha j k.4;rw[this,t9 hj]
 . have:=ha π.length c.3;rw[this];simp[List.getD]
theorem xN(O:V.5)(h0:n=0->yes=[]/\no=[])(hy: ∀ps∈yes,H.10)(z6: ∀ps∈no,H.10):
 ∀(k:Nat) (π:a.3),π.length+k=n->π.729->∀w,w∈π.730↔T.10/\Valid yes no w/\π.593
 |0,π,hl,c,w=>by
  have hl':π.length=n:=b.3
  unfold oK;rw[List.mem_singleton];have full:∀p:lZ,(det n size (order.take π.length) p).7:=by intro p;unfold det;rw[List.all_eq_true];intro s hs;rw[List.take_of_length_le O.len.90];have:=O.mem (List.mem_range.mp hs);simp[this]
  constructor
  . rintro rfl;have hw:=aDn O hl' c.nd c.lt;have ha:Agree order (wL n order π) π:=λj hj=>aDm O b.3;refine⟨hw,⟨λps j8=>?_,λps j8 p hp hm=>?_⟩,ha⟩
    . by_cases hn0:n=0
      . rw[(h0 hn0).1] at j8;simp at j8
      . rcases c.aTO b.3 ps j8 with h|h
        . exact V8 O hw (hy ps j8) ha b.3 h
        . have h1:¬∀p∈ps,π.646.25:=λq=>h ((o8 _ _).mpr q);simp only [Classical.not_forall] at h1;obtain⟨p,hp,hk⟩:=h1;exact⟨p,hp,FI O hw (hy ps j8 p hp) ha b.3 m.12 (full p)⟩
    . by_cases hn0:n=0
      . rw[(h0 hn0).2] at j8;simp at j8
      . have:=c.no_ b.3 ps j8;rw[LB] at this;exact this p hp ⟨aB1 O hw (z6 ps j8 p hp) ha b.3 hm,full p⟩
  . rintro⟨hw,_,ha⟩;exact(WA O hw.1 hl' ha).symm
 |k+1,π,hl,c,w=>by
  have ht:π.length<n:=b.3
  obtain⟨hs,_⟩:=O.get ht;unfold oK;rw[List.mem_flatMap];constructor
  . rintro⟨v,hv,h⟩;by_cases hm:v∈π
    . rw[if_pos hm] at h;simp at h
    . rw[if_neg hm] at h;by_cases ho:(π,v).88.7
      . rw[if_pos ho] at h;have AE:v<size:=p.13;obtain⟨h1,h2,h3⟩:=(xN O h0 hy z6 k K.3 k.4 (c.next AE hm ho) w).mp h;exact⟨h1,h2,(tP h3).1⟩
      . rw[if_neg ho] at h;simp at h
  . rintro⟨hw,hV,ha⟩;have ha':(π++[Q.3.44]).593:=LD ha rfl;have hvs:Q.3.44<size:=xJ hw hs;refine(Q.3.44,?_).17
    . refine bW.mpr ⟨List.mem_range.mpr hvs,?_⟩;rw[Bool.and_eq_true,List.all_eq_true,Bool.not_eq_true',List.any_eq_false];refine⟨λps j8=>?_,λps j8=>?_⟩
      . obtain⟨p,hp,hmt⟩:=hV.1 ps j8;rw[bne_iff_ne];intro q;have:=(o8 _ _).mp q p hp;rw[K9 hw (hy ps j8 p hp) hs hmt] at this;cases this
      . have e:cE ps Q.3 Q.3.44&&&cH n size ps [Q.3]=0:=by
         unfold cE cH;rw[vF,o8];intro p hp;by_cases h1:(jS p Q.3 (2^Q.3.44)).7
         . by_cases h2:(det n size [Q.3] p).7
           . refine absurd ?_ (hV.2 ps j8 p hp);intro s hsl;have hs':s<n:=(z6 ps j8 p hp).90
             have h3:=List.all_eq_true.mp h2 s (List.mem_range.mpr hs');rw[Bool.or_eq_true] at h3;rcases h3 with h3|h3
             . have e:s=Q.3:=by simpa using h3
               rw[e];exact GL h1
             . have e:s.505=2^size-1:=by unfold lT at h3;simpa using h3
               rw[e,i7];exact decide_eq_true (xJ hw hs')
           . rw[Bool.not_eq_true] at h2;rw[h2,Bool.and_false]
         . rw[Bool.not_eq_true] at h1;rw[h1,dF]
        rw[e];decide
    . have hnm:Q.3.44∉π:=by intro hm;obtain⟨j,hj,e⟩:=List.mem_iff_getElem.mp hm;have h1:=ha j hj;rw[iV hj,e] at h1;obtain⟨hj1,hj2⟩:=O.get (j<n).36;have h2:=JN hw.2.2 (hw.1,hj1).3 (hw.1,hs).3 h1;rw[iV O.len.90,iV O.len.90] at h2;have:=(ET O.nd).mp h2;omega
      have ho:(π,Q.3.44).88.7:=by
       unfold jE;rw[Bool.and_eq_true,List.all_eq_true,List.all_eq_true];refine⟨λps j8=>?_,λps j8=>?_⟩
       . rw[Bool.or_eq_true];refine .inr ?_;obtain⟨p,hp,hmt⟩:=hV.1 ps j8;rw[bne_iff_ne];intro q;have:=(o8 _ _).mp q p hp;rw[aB1 O hw (hy ps j8 p hp) ha' k.4 hmt] at this;cases this
       . rw[beq_iff_eq,LB];rintro p hp ⟨h1,h2⟩;refine hV.2 ps j8 p hp (FI O hw (z6 ps j8 p hp) ha' k.4 h1 ?_);simpa using h2
      rw[if_neg hnm,if_pos ho];exact(xN O h0 hy z6 k _ k.4 (c.next hvs hnm ho) w).mpr ⟨hw,hV,ha'⟩
theorem LF(O:V.5)(h0:n=0->yes=[]/\no=[])(hy: ∀ps∈yes,H.10)(z6: ∀ps∈no,H.10):
 ∀(k:Nat) (π:a.3),π.length+k=n->π.729->(π.730).Nodup
 |0,π,_,_=>oK.24
 |k+1,π,hl,c=>by
  unfold oK List.Nodup;rw[List.pairwise_flatMap];constructor
  . intro v hv;split
    . exact .nil
    . rename_i hm;split
      . rename_i ho;exact LF O h0 hy z6 k _ k.4 (c.next p.13 hm ho)
      . exact .nil
  . have z8:(iH n size yes no Q.3).Nodup:=(oC (n:=size)).filter _;refine List.Pairwise.imp_of_mem ?_ z8;intro a b ha hb VZ x hx y hy' e;subst e;have get: ∀v,v∈iH n size yes no Q.3->x∈(v∈π,[],((π,v).88,K.3.730,[]).8).14->x.getD Q.3 0=v:=by
     intro v hv hxv;split at hxv
     . simp at hxv
     . rename_i hm;split at hxv
       . rename_i ho;have:=(xN O h0 hy z6 k _ k.4 (c.next p.13 hm ho) x).mp hxv;exact(tP this.2.2).2
       . simp at hxv
    exact VZ ((get a ha hx).symm.trans (get b hb hy'))
def maskOf(π:a.3):Nat:=π.foldl (λm v=>m|||2^v) 0
theorem WB(π:a.3)(v:Nat):maskOf K.3=maskOf π|||2^v:=by unfold maskOf;rw[nG];rfl
theorem BN(π:a.3)(v:Nat):(maskOf π).testBit v=decide (v∈π):=by
 have key: ∀(l:a.3) (m:Nat),(l.foldl (λm v=>m|||2^v) m).testBit v=(m.testBit v||decide (v∈l)):=by
  intro l
  induction l with
  |nil=>intro m;simp
  |cons a l ih=>
   intro m;rw[List.foldl_cons,ih,zI,Nat.testBit_two_pow];by_cases e:a=v
   . subst e;simp
   . simp[e,Ne.symm e,show¬v=a from λq=>e q.symm]
 unfold maskOf;rw[key];simp
theorem aIa{π π':a.3}(h:maskOf π=maskOf π')(hn:π.Nodup)(hn':π'.Nodup):π.length=π'.length/\∀v,v∈π↔v∈π':=by
 have hm:∀v,v∈π↔v∈π':=by intro v;have h1:=BN π v;rw[h,BN π' v] at h1;simpa [eq_comm] using h1
 exact⟨((zE hn hn').mpr hm).length_eq,hm⟩
end
end M
namespace M
open Sy27
def hy(S:Script)(w:a.3):Clue->Bool
 | .reads t ws _=>ws.contains w.68
 | .first a b _=>(a.51).head? ==(b.51).head?
 | .last a b _=>(a.51).getLast? ==(b.51).getLast?
 | .value a vs=>vs.contains a.44
 | .within t r _=>inside r w.68
def wanted:Clue->Bool
 | .reads _ _ y=>y
 | .first _ _ y=>y
 | .last _ _ y=>y
 | .value _ _=>true
 | .within _ _ y=>y
theorem aFq(S:Script)(w:a.3)(c:Clue):w.604=(hy S w c==wanted c):=by cases c<;>simp[holds,hy,wanted]
structure sI(S:Script)(c:Clue)(ps:L.3):Prop where
 len: ∀p∈ps,p.length=S.signs
 zN:ps.length<=367424
 met: ∀w,z.4->((∃p∈ps,p.512)↔(hy S w c).7)
structure LG(ps:L.3)(l:u.3):Prop where
 mem: ∀p,p∈ps↔∃pl,(p,pl)∈l
 zN:ps.length<=l.length
theorem LG.met{ps:L.3}{l:u.3}{w:a.3}(f:LG ps l):(∃p∈ps,p.512)↔Met w l:=by
 constructor
 . rintro⟨p,hp,h⟩;obtain⟨pl,hl⟩:=(f.mem p).mp hp;exact⟨pl,p,hl,h⟩
 . rintro⟨pl,p,hl,h⟩;exact⟨p,(f.mem p).mpr ⟨pl,hl⟩,h⟩
theorem LG.len{ps:L.3}{l:u.3}{n:Nat}(f:LG ps l)(h:Len n l): H.10:=λp hp=>by obtain⟨pl,hl⟩:=(f.mem p).mp hp;exact h _ hl
theorem lE{S:Script}{t:a.3}:(textOk S t).7↔1<=t.length/\t.length<=8/\∀a∈t,d.4:=by unfold textOk TEXT;simp
theorem ZZ{S:Script}{t:a.3}{ws:d.3}{y:Bool}{ps:L.3}(hY:N5 S.values)(h:(.reads t ws y).639)(f:LG ps (lS t ws b.5 S.values)):sI S (.reads t ws y) ps:=by
 have h':(textOk S t).7/\ws.length<=10:=by simp only [clueOk,Bool.and_eq_true,decide_eq_true_eq] at h;exact⟨h.1,h.2.2.1⟩
 obtain⟨h1,h2⟩:=h';obtain⟨t1,t2,t3⟩:=lE.mp h1;refine(V6 (dR _ _),?_).122
 . have:=wK (text:=t) (words:=ws) (bl:=b.5) hY t2;omega
 . rw[f.met,V4 hw t3];rfl
theorem zO{S:Script}{w:a.3}{a:Nat}(hw:z.4)(ha:d.4)(g:a.3->Nat):((S.values.map g),a.44,g a.51).4:=(fE hw ha).537
theorem uA{ls:a.3}{a b:Nat}{letters:a.3}{bl:lZ}:(gF ls a b letters bl,ls.length).8:=by
 refine aG (fO (k:=1) λc _=>?_) b.3
 cases h:iB bl a w.12 with
 |none=>simp
 |some f=>simpa using lR _ _ _ _
theorem Z0{S:Script}{a b:Nat}{y:Bool}{ps:L.3}{ls:a.3}(hY:N5 S.values)(h:(.first a b y).639)(hls: (S.values.map λv=>v.headD 0).727)(hll:ls.length<=10)
 (f:LG ps (gF ls a b (S.values.map λv=>v.headD 0) b.5)):sI S (.first a b y) ps:=by
 simp only [clueOk,Bool.and_eq_true,decide_eq_true_eq] at h;obtain⟨h1,h2⟩:=h;refine(QC (dR _ _),aG uA b.3).122;rw[f.met,QB hw h1 h2 c.3 hls,zO hw h1,zO hw h2];have la:=((_,fE hw h1).69).1;have lb:=((_,fE hw h2).69).1;show _↔(((a.51).head? ==(b.51).head?)).7;generalize a.51=x at la;generalize b.51=z at lb;match x,z,la,lb with
 |x::_,z::_,_,_=>simp
theorem aDo{S:Script}{a b:Nat}{y:Bool}{ps:L.3}{ls:a.3}(hY:N5 S.values)(h:(.last a b y).639)(hls: (S.values.map λv=>v.getLastD 0).727)(hll:ls.length<=10)
 (f:LG ps (gF ls a b (S.values.map λv=>v.getLastD 0) b.5)):sI S (.last a b y) ps:=by
 simp only [clueOk,Bool.and_eq_true,decide_eq_true_eq] at h;obtain⟨h1,h2⟩:=h;refine(QC (dR _ _),aG uA b.3).122;rw[f.met,QB hw h1 h2 c.3 hls,zO hw h1,zO hw h2];have la:=((_,fE hw h1).69).1;have lb:=((_,fE hw h2).69).1;show _↔(((a.51).getLast? ==(b.51).getLast?)).7;generalize a.51=x at la;generalize b.51=z at lb;match x,z,la,lb with
 |x::xs,z::zs,_,_=>simp[List.getLastD_eq_getLast?,List.getLast?_cons]
theorem Z1{S:Script}{a:Nat}{vs:a.3}{ps:L.3}(h:(.value a vs).639)(f:LG ps (K5 a vs b.5 S.values.length)):sI S (.value a vs) ps:=by simp only [clueOk,Bool.and_eq_true,decide_eq_true_eq] at h;refine(λg hg=>(span_len hg,dR).7,aG (lR _ _ _ _) b.3).122;rw[f.met,aH8 hw h.1];rfl
theorem WC{S:Script}{t r:a.3}{y:Bool}{ps:L.3}(hY:N5 S.values)(h:(.within t r y).639)(f:LG ps (kO t r b.5 S.values)):sI S (.within t r y) ps:=by
 have h':(textOk S t).7/\1<=r.length:=by simp only [clueOk,letters,Bool.and_eq_true,decide_eq_true_eq] at h;exact⟨h.1,h.2.1⟩
 obtain⟨h1,h2⟩:=h';obtain⟨t1,t2,t3⟩:=lE.mp h1;refine(SR (dR _ _),GK hY t2).122;rw[f.met,SQ hw t3 (by intro q;rw[q] at h2;simp at h2) (λv hv=>(hY.len v hv).2)];rfl
theorem LH{S:Script}{c:Clue}(h:c.639): ∀a∈c.signs,d.4:=by
 cases c with
 |reads t ws y=> simp only [clueOk,Bool.and_eq_true] at h;exact(lE.mp h.1).2.2
 |first a b y=>
  simp only [clueOk,Bool.and_eq_true,decide_eq_true_eq] at h;intro x hx;simp[Clue.signs] at hx;rcases hx with rfl|rfl
  . exact h.1
  . exact h.2
 |last a b y=>
  simp only [clueOk,Bool.and_eq_true,decide_eq_true_eq] at h;intro x hx;simp[Clue.signs] at hx;rcases hx with rfl|rfl
  . exact h.1
  . exact h.2
 |value a vs=> simp only [clueOk,Bool.and_eq_true,decide_eq_true_eq] at h;intro x hx;simp[Clue.signs] at hx;rw[hx];exact h.1
 |within t r y=> simp only [clueOk,Bool.and_eq_true] at h;exact(lE.mp h.1).2.2
theorem LI{S:Script}{c:Clue}(h:c.639):0<S.signs:=by
 have: ∃a,a∈c.signs:=by
  cases c with
  |reads t ws y=> simp only [clueOk,Bool.and_eq_true] at h;have:=(lE.mp h.1).1;exact aCT (l:=t) b.3
  |first a b y=>exact⟨a,f.11⟩
  |last a b y=>exact⟨a,f.11⟩
  |value a vs=>exact⟨a,f.11⟩
  |within t r y=> simp only [clueOk,Bool.and_eq_true] at h;have:=(lE.mp h.1).1;exact aCT (l:=t) b.3
 obtain⟨a,ha⟩:=this;have:=LH h a ha;omega
abbrev eY:=Bool×L.3
def sat(w:a.3)(r:eY):Prop:=(∃p∈r.2,p.512)↔(r.1).7
def sJ(rs:List eY):List L.3:=(rs.filter λr=>r.1).606
def C2(rs:List eY):List L.3:=(rs.filter λr=> !r.1).606
theorem zP{rs:List eY}{w:a.3}:Valid (sJ rs) (C2 rs) w↔∀r∈rs,sat w r:=by
 unfold Valid sJ C2 sat;constructor
 . rintro⟨h1,h2⟩ ⟨b,ps⟩ hr
   cases b with
   |true=>exact⟨λ_=>rfl,λ_=>h1 ps (a5.mpr ((true,ps),bW.mpr hr.80).34)⟩
   |false=> refine⟨?_,λh=>A.5⟩;rintro⟨p,hp,hm⟩;exact absurd hm (h2 ps (a5.mpr ((false,ps),bW.mpr hr.80).34) p hp)
 . intro h;constructor
   . intro ps j8;obtain⟨r,hr,rfl⟩:=a5.mp j8;obtain⟨h1,h2⟩:=bW.mp hr;exact(h r h1).mpr h2
   . intro ps j8 p hp hm;obtain⟨r,hr,rfl⟩:=a5.mp j8;obtain⟨h1,h2⟩:=bW.mp hr;have:=(h r h1).mp ⟨p,hp,hm⟩;simp[this] at h2
structure Found(n size:Nat)(yes no:List L.3)(limit:Nat)(R:d.3):Prop where
 sorted:R.Pairwise K1
 sub: ∀w∈R,T.10/\Valid yes no w
 all:limit<=R.length\/∀w,T.10->Valid yes no w->w∈R
def JP(S:Script)(c:Clue)(r:eY):Prop:=r.1=wanted c/\sI S c r.2
theorem JP.sat{S:Script}{c:Clue}{r:eY}(h:JP S c r){w:a.3}(hw:z.4):sat w r↔w.604.7:=by unfold M.sat;rw[h.2.met w hw,h.1,aFq,beq_iff_eq];cases hy S w c<;>cases wanted c<;>simp
inductive Rules(S:Script):(A.3,List eY).16
 |nil:Rules S [] []
 |cons {c:Clue} {r:eY} {cs:A.3} {rs:List eY}:JP S c r->r.10->Rules S (c::cs) (r::rs)
theorem Rules.length{S:Script}{cs:A.3}{rs:List eY}(h:r.10):cs.length=rs.length:=by
 induction h with
 |nil=>rfl
 |cons _ _ ih=>simp[ih]
theorem Rules.app{S:Script}{cs ds:A.3}{rs ts:List eY}(h:r.10)(k:Rules S ds ts):Rules S (cs++ds) (rs++ts):=by
 induction h with
 |nil=>exact k
 |cons a _ ih=>exact .cons a ih
theorem Rules.erase{S:Script}{cs:A.3}{rs:List eY}(h:r.10): ∀k,Rules S r.5 (rs.eraseIdx k):=by
 induction h with
 |nil=>intro k;simp;exact .nil
 |cons a t ih=>
  intro k
  cases k with
  |zero=>exact t
  |succ k=>exact .cons a (ih k)
theorem Rules.get{S:Script}{cs:A.3}{rs:List eY}(h:r.10): ∀{k:Nat} {c:Clue},(cs,k,c).4->∃r,(rs,k,r).4/\JP S c r:=by
 induction h with
 |nil=>intro k c e;simp at e
 |cons a t ih=>
  intro k c e
  cases k with
  |zero=>simp at e;subst e;exact a.28
  |succ k=>exact ih (by simpa using e)
theorem Rules.sat{S:Script}{cs:A.3}{rs:List eY}(h:r.10){w:a.3}(hw:z.4):(∀r∈rs,M.sat w r)↔∀c∈cs,w.604.7:=by
 induction h with
 |nil=>simp
 |cons a t ih=>rw[List.forall_mem_cons,List.forall_mem_cons,a.sat hw,ih]
theorem QF{S:Script}{cs:A.3}{rs:List eY}{limit:Nat}{R:d.3}(hr:r.10)(h:limit.791):
 R=P.4\/(limit<=R.length/\limit<=(P.4).length):=by
 have sub:∀w∈R,w∈P.4:=λw hw=>by obtain⟨h1,h2⟩:=h.sub w hw;exact sG.mpr ((hr.sat h1).mp (zP.mp h2)).544
 rcases h.all with h1|h1
 . exact .inr ⟨h1,aG h1 (gZ (qJ h.sorted) sub)⟩
 . refine .inl (mC oJ zM h.sorted (qK S cs) λw=>⟨sub w,λhw=>?_⟩);obtain⟨h2,h3⟩:=sG.mp hw;exact h1 w h2 (zP.mpr ((hr.sat h2).mpr h3))
structure Ctx(S:Script)(cs:A.3):Prop where
 ok: ∀c∈cs,c.639
theorem Ctx.ways{S:Script}{cs:A.3}(h:Ctx S cs):cs.78=(P.4).take 301:=by
 refine aH6 S cs (λc hc=>LH (h.ok c hc)) λh0=>?_
 cases cs with
 |nil=>rfl
 |cons c cs=>have:=LI (h.ok c c.3);omega
theorem Ctx.sub{S:Script}{cs ds:A.3}(h:Ctx S cs)(hs: ∀c∈ds,c∈cs):Ctx S ds:=⟨λc hc=>h.ok c (hs c hc)⟩
theorem Z2{S:Script}{cs:A.3}(h:Ctx S cs)(hl: D.11):cs.78=P.4:=by rw[h.ways] at hl⊢;rw[aX] at hl;exact B.14
theorem aFr{S:Script}{cs:A.3}(h:Ctx S cs):cs.78=[]↔P.4=[]:=by
 rw[h.ways];constructor
 . intro e;have:=e.554;rw[aX,List.length_nil] at this;exact gD.mp b.3
 . intro e;rw[e];rfl
theorem Z3{S:Script}{cs:A.3}{rs:List eY}{R:d.3}(hc:Ctx S cs)(hr:r.10)(h:(301).791):
 (300<R.length↔300<(cs.78).length)/\(¬300<R.length->R=cs.78):=by
 rw[hc.ways,aX];rcases QF hr h with e|⟨h1,h2⟩
 . subst e;exact⟨b.3,λhh=>(B.14).symm⟩
 . exact b.3.527
theorem aDp{S:Script}{cs:A.3}{rs:List eY}{R:d.3}(hc:Ctx S cs)(hr:r.10)(h:(1).791):R.length=0↔cs.78=[]:=by
 rw[aFr hc];rcases QF hr h with e|⟨h1,h2⟩
 . rw[e,gD]
 . constructor
   . omega
   . intro e;rw[e] at h2;simp at h2
theorem oN{α:Type}{l:w.3}{k:Nat}{a:α}(h:(l,k,a).4)(x:α):x∈l↔x=a\/x∈l.eraseIdx k:=by
 have hk:k<l.length:=h.535;have e:l[k]=a:=(W.14).2;rw[Y7];conv=>lhs;rw[<-mX k l,List.drop_eq_getElem_cons hk,e]
 simp only [List.mem_append,List.mem_cons];constructor
 . rintro (h|h|h)
   . exact .inr (.inl h)
   . exact .inl h
   . exact .inr (.inr h)
 . rintro (h|h|h)
   . exact .inr (.inl h)
   . exact .inl h
   . exact .inr (.inr h)
theorem SU{S:Script}{cs:A.3}{rs:List eY}{k:Nat}{r:eY}{R:d.3}(hc:Ctx S cs)(hr:r.10)(hm: D.11)(hk:(rs,k,r).4)
 (h:Found S.signs S.values.length (sJ (rs.eraseIdx k++[(!r.1,r.2)])) (C2 (rs.eraseIdx k++[(!r.1,r.2)])) 1 R):R.length=0↔(((r.5.78).length==d.10)).7:=by
 have hkl:k<cs.length:=by have:=hk.535;have:=hr.length;omega
 obtain⟨c,hcg⟩:∃c,(cs,k,c).4:=⟨cs[k],aF hkl⟩;obtain⟨r',hr',hrf⟩:=hr.get hcg;rw[hk] at hr';cases hr';have hce:Ctx S r.5:=hc.sub λx hx=>(oN hcg x).mpr (.inr hx);have hre:=hr.erase k;have fl:(cs.78)=P.4:=Z2 hc hm;have BO:(P.4,300).8:=by rw[fl] at hm;omega
 have sub:∀w∈P.4,w∈fit S r.5:=λw hw=>by obtain⟨h1,h2⟩:=sG.mp hw;exact sG.mpr (λx hx=>h2 x ((oN hcg x).mpr (.inr hx))).544
 have aFs: ∀w,z.4->(M.sat w (!r.1,r.2)↔w.604.25):=by
  intro w hw;have:=hrf.sat hw;unfold M.sat at this⊢;by_cases q:∃p∈r.2,p.512
  . simp only [q,true_iff] at this⊢;cases h1:r.1<;>cases h2:w.604<;>simp_all
  . simp only [q,false_iff] at this⊢;cases h1:r.1<;>cases h2:w.604<;>simp_all
 have key:R.length=0↔∀w∈fit S r.5,w∈P.4:=by
  constructor
  . intro h0 w hw;have hR:R=[]:=gD.mp h0;obtain⟨h1,h2⟩:=sG.mp hw;refine sG.mpr ⟨h1,λx hx=>?_⟩;rcases (oN hcg x).mp hx with rfl|hx
    . cases hh:holds S w x with
      |true=>rfl
      |false=>
       rcases h.all with q|q
       . rw[hR] at q;simp at q
       . have:=q w h1 (zP.mpr λy hy=>by
          rcases List.mem_append.mp hy with hy|hy
          . exact(hre.sat h1).mpr h2 y hy
          . simp at hy;subst hy;exact(aFs w h1).mpr hh)
         rw[hR] at this;simp at this
    . exact h2 x hx
  . intro i3
    cases R with
    |nil=>rfl
    |cons w R=> obtain⟨h1,h2⟩:=h.sub w c.3;rw[zP] at h2;have h3:w∈fit S r.5:=sG.mpr ((hre.sat h1).mp λy hy=>h2 y hy.687).544;have h4:=(sG.mp (i3 w h3)).2 c (List.mem_of_getElem? hcg);have h5:=(aFs w h1).mp (h2 _ c.3.707);rw[h4] at h5;cases h5
 rw[key,beq_iff_eq,fl,hce.ways,aX];constructor
 . intro i3;have:fit S r.5=P.4:=mC oJ zM (qK _ _) (qK _ _) λw=>⟨i3 w,sub w⟩;rw[this];omega
 . intro e w hw;have e':(fit S r.5,(P.4).length).6:=b.3
   have nd:=qJ (qK S cs);apply eE;intro hn;have h1:(w::P.4)⊆fit S r.5:=λx hx=>by
    rcases o.12 with rfl|hx
    . exact hw
    . exact sub x hx
   have:=gZ (eM.mpr ⟨hn,nd⟩) h1;rw[List.length_cons] at this;omega
end M
namespace M
open Sy27
def iS(T:a.3->Bool)(left:a.3)(k:Nat):a.3:=if(T (left.filter λo=>o !=k)).7 then left.filter λo=>o !=k else left
def pick{α:Type}(l:w.3)(ks:a.3):w.3:=ks.filterMap λk=>l[k]?
theorem BP{S:Script}{cs:A.3}{T:a.3->Bool}(hT: z.16): ∀(rest kept:(Nat,Clue).31),((kept++rest).map (·.1)).Nodup->(∀p∈kept++rest,(cs,p.1,p.2).4)->
 (rest.map (·.1)).foldl (iS T) ((kept++rest).map (·.1))=(core S kept rest).607
 |[],kept,_,_=>core.24
 |(k,c)::r,kept,hn,hg=>by
  have e1:((kept++(k,c)::r).map (·.1)).filter (λo=>o !=k)=(kept++r).607:=by
   rw[bH,List.map_cons,zC,dM];rw[bH,List.map_cons,fH] at hn;obtain⟨h1,h2,h3⟩:=hn;obtain⟨h4,h5⟩:=eM.mp h2;rw[if_neg c.3,bH];congr 1
   . rw[List.filter_eq_self];intro x hx;have:=h3 x hx k c.3;simpa using this
   . rw[List.filter_eq_self];intro x hx;simp only [bne_iff_ne,ne_eq];intro e;subst e;exact h4 hx
  have e2:pick cs ((kept++r).map (·.1))=(kept++r).606:=by
   have: ∀l:(Nat,Clue).31,(∀p∈l,(cs,p.1,p.2).4)->pick cs (l.map (·.1))=l.map (·.2):=by
    intro l
    induction l with
    |nil=>intro _;rfl
    |cons p l ih=> intro h;show List.filterMap _ (p.1::l.map (·.1))=p.2::l.map (·.2);rw[List.filterMap_cons_some (h p c.3)];exact cP _ (ih λq hq=>h q hq.24)
   exact this _ λp hp=>hg p (by
    rcases R.12 with hp|hp
    . exact hp.687
    . exact hp.24.707)
  have lO: ∀x∈(kept++r).607,x<cs.length:=by
   intro x hx;obtain⟨p,hp,rfl⟩:=a5.mp hx;have:=hg p (by
    rcases R.12 with hp|hp
    . exact hp.687
    . exact hp.24.707)
   exact this.535
  have C3:((kept++r).map (·.1)).Nodup:=(e1,hn.filter _).15
  rw[List.map_cons,List.foldl_cons];unfold core;show(r.map (·.1)).foldl (iS T) (iS T ((kept++(k,c)::r).map (·.1)) k)=_;unfold iS;rw[e1];have hTT:=hT _ lO;rw[e2] at hTT;by_cases h:ways S ((kept++r).map (·.2))=[]
  . rw[if_pos (hTT.mpr h),if_pos h];exact BP hT r kept C3 λp hp=>hg p (by
     rcases R.12 with hp|hp
     . exact hp.687
     . exact hp.24.707)
  . rw[if_neg (λq=>h (hTT.mp q)),V.4];have e3:kept++(k,c)::r=(kept++[(k,c)])++r:=c.3
    rw[e3] at hn hg⊢;exact BP hT r (kept++[(k,c)]) hn hg
theorem WD{S:Script}{cs:A.3}{T:a.3->Bool}(hT: z.16):(B.5).foldl (iS T) B.5=clash S cs:=by
 have e:(cs.zipIdx.map λ(x:Clue×Nat)=>(x.2,x.1)).607=B.5:=by rw[a9];show cs.zipIdx.map Prod.snd=_;rw[List.zipIdx_map_snd,List.range_eq_range']
 have:=BP (S:=S) hT (cs.zipIdx.map λ(x:Clue×Nat)=>(x.2,x.1)) [] (List.nil_append,e,oC).18 (by intro p hp;rw[List.nil_append] at hp;obtain⟨x,hx,rfl⟩:=a5.mp hp;exact wC.mp hx);rw[List.nil_append,e] at this;exact this
theorem GN{S:Script}{l:List Way}{a:Nat}{ns:a.3}(hs:ns.Pairwise (· < ·))(hm: ∀v,v∈ns↔∃w∈l,a.44=v)(hb: ∀w∈l,a.44.659):ns=l.647:=by
 refine mC (R:=λa b=>a<b) (λa=>d7 a) (λa b c=>F5) hs (List.Pairwise.filter _ F4) λv=>?_;unfold possible;rw[bW,List.mem_range,eQ,hm];constructor
 . rintro⟨w,hw,rfl⟩;exact⟨hb w hw,w,hw,c.3⟩
 . rintro⟨_,w,hw,h⟩;exact⟨w,hw,m.4⟩
theorem C4{S:Script}{l:List Way}{a v:Nat}(hb: ∀w∈l,a.44.659):v∈l.647↔∃w∈l,a.44=v:=by
 unfold possible;rw[bW,List.mem_range,eQ];constructor
 . rintro⟨_,w,hw,h⟩;exact⟨w,hw,m.4⟩
 . rintro⟨w,hw,rfl⟩;exact⟨hb w hw,w,hw,c.3⟩
theorem Z4{S:Script}{l:List Way}(iK:l≠[])(hb: ∀a,d.4->∀w∈l,a.44.659):
 certain S l=(x.5).map λa=>(l.647,l.647).135:=by
 unfold certain;refine k9 λa ha=>?_;have hba:=hb a (List.mem_range.mp ha);match l,iK with
 |w::r,_=>
  dsimp only;have hw:a.44∈(w::r).647:=(C4 hba).mpr (w,c.3).34;by_cases h:((r.all λ(u:Way)=>u.getD a 0==a.44)).7
  . rw[if_pos h];have e:(w::r).647=[a.44]:=by
     refine(GN c.3 (λv=>?_) hba).symm;rw[List.mem_singleton];constructor
     . rintro rfl;exact⟨w,c.3,rfl⟩
     . rintro⟨u,hu,rfl⟩;rcases List.mem_cons.mp hu with rfl|hu
       . rfl
       . exact eq_of_beq (List.all_eq_true.mp h u hu)
    rw[e];rfl
  . rw[V.4];by_cases h1:((w::r).647,1).6
    . exfalso;obtain⟨x,hx⟩:=List.length_eq_one_iff.mp h1;apply h;rw[List.all_eq_true];intro u hu;have h2:u.getD a 0∈(w::r).647:=(C4 hba).mpr (u,hu.24).34;rw[hx,List.mem_singleton] at h2 hw;rw[h2,hw];simp
    . rw[if_neg h1]
theorem LJ: ∀{a b:a.3},a.length=b.length->((less a b).7↔K1 a b)
 |[],[],_=>by simp[less,K1]
 |x::a,y::b,h=>by unfold less K1;rw[Bool.or_eq_true,Bool.and_eq_true,decide_eq_true_eq,beq_iff_eq,LJ (a:=a) (b:=b) m.4]
def jP(a b:a.3):Prop:=a.length<b.length\/(a.length=b.length/\K1 a b)
theorem QG{a b:a.3}:(ahead a b).7↔jP a b:=by
 unfold ahead jP;rw[Bool.or_eq_true,Bool.and_eq_true,decide_eq_true_eq,beq_iff_eq];constructor
 . rintro (h|⟨h1,h2⟩)
   . exact .inl h
   . exact .inr ⟨h1,(LJ h1).mp h2⟩
 . rintro (h|⟨h1,h2⟩)
   . exact .inl h
   . exact .inr ⟨h1,(LJ h1).mpr h2⟩
theorem jP.irrefl(a:a.3): ¬jP a a:=by
 rintro (h|⟨_,h⟩)
 . omega
 . exact oJ a h
theorem jP.trans(a b c:a.3):jP a b->jP b c->jP a c:=by
 rintro (h|⟨h1,h2⟩) (k|⟨k1,k2⟩)
 . exact .inl b.3
 . exact .inl b.3
 . exact .inl b.3
 . exact .inr ⟨b.3,zM _ _ _ h2 k2⟩
theorem jP.total(a b:a.3):jP a b\/a=b\/jP b a:=by
 rcases nH a.length b.length with h|h|h
 . exact .inl (.inl h)
 . rcases FE a b with k|k|k
   . exact .inl (h,k).59
   . exact .inr (.inl k)
   . exact .inr (.inr (h.symm,k).59)
 . exact .inr (.inr (.inl h))
theorem SV{x y:a.3}: ∀{l:d.3},y∈put x l↔y=x\/y∈l
 |[]=>put.24
 |z::l=>by
  unfold put;split
  . rename_i e;subst e;simp
  . split
    . simp
    . rw[List.mem_cons,SV,List.mem_cons];constructor
      . rintro (h|h|h)
        . exact .inr (.inl h)
        . exact .inl h
        . exact .inr (.inr h)
      . rintro (h|h|h)
        . exact .inr (.inl h)
        . exact .inl h
        . exact .inr (.inr h)
theorem LK{x:a.3}: ∀{l:d.3},l.Pairwise jP->(put x l).Pairwise jP
 |[],_=>put.24
 |z::l,h=>by
  obtain⟨h1,h2⟩:=List.pairwise_cons.mp h;unfold put;split
  . exact h
  . rename_i iK;split
    . rename_i ha;have ha':=QG.mp ha;refine List.pairwise_cons.mpr ⟨e.10,h⟩;rcases List.mem_cons.mp hy with rfl|hy
      . exact ha'
      . exact jP.trans _ _ _ ha' (h1 y hy)
    . rename_i ha;refine List.pairwise_cons.mpr ⟨e.10,LK h2⟩;rcases SV.mp hy with rfl|hy
      . rcases jP.total y z with k|k|k
        . exact absurd (QG.mpr k) ha
        . exact absurd k iK
        . exact k
      . exact h1 y hy
theorem tQ{S:Script}{t:a.3}: ∀(l:List Way) (m:d.3),m.Pairwise jP->(Q.16).Pairwise jP/\∀x,x∈Q.16↔x∈m\/∃w∈l,w.68=x
 |[],m,h=>⟨h,λx=>c.3⟩
 |w::l,m,h=>by
  obtain⟨h1,h2⟩:=tQ l (put w.68 m) (LK h);refine(λx=>?_).544;rw[List.foldl_cons,h2,SV];constructor
  . rintro ((h|h)|⟨u,hu,h⟩)
    . exact .inr ⟨w,c.3,h.symm⟩
    . exact .inl h
    . exact .inr ⟨u,hu.24,h⟩
  . rintro (h|⟨u,hu,h⟩)
    . exact .inl (.inr h)
    . rcases List.mem_cons.mp hu with rfl|hu
      . exact .inl (.inl h.symm)
      . exact .inr ⟨u,hu,h⟩
theorem WE{S:Script}{l:List Way}{t:a.3}{R:d.3}(hs:R.Pairwise jP)(hm: ∀x,x∈R↔∃w∈l,w.68=x):R=readings S l t:=by obtain⟨h1,h2⟩:=tQ (S:=S) (t:=t) l [] .nil;refine mC jP.irrefl jP.trans hs h1 λx=>?_;have h3:x∈readings S l t↔_:=h2 x;rw[hm,h3];simp
def rising(n:Nat):Nat->d.3
 |0=>[[]]
 |k+1=>(rising n k).flatMap λrow=>y.16
def LM(i e:Nat)(row:a.3):d.3:=(List.range' (match row.getLast? with|some x=>x+1|none=>i) (e-(match row.getLast? with|some x=>x+1|none=>i))).map λs=>row++[s]
theorem lF(l:a.3):choose 0 l=[[]]:=by unfold choose;rfl
theorem mZ(k x:Nat)(l:a.3):choose (k+1) (x::l)=((choose k l).map λ(r:List Nat)=>x::r)++choose (k+1) l:=choose.85
theorem qN(k:Nat):choose (k+1) []=[]:=choose.85
theorem BQ: ∀(l:a.3) (k:Nat) (r:a.3),r∈choose k l->r.length=k
 |_,0,r,h=>by rw[lF] at h;simp at h;simp[h]
 |[],k+1,r,h=>by rw[qN] at h;simp at h
 |x::l,k+1,r,h=>by
  rw[mZ] at h;rcases List.mem_append.mp h with h|h
  . obtain⟨q,hq,rfl⟩:=a5.mp h;simp[BQ l k q hq]
  . exact BQ l (k+1) r h
theorem aDq(i e:Nat)(r:a.3):LM i e (i::r)=(LM (i+1) e r).map λq=>i::q:=by
 unfold LM;rw[a9];match r with
 |[]=>rfl
 |x::r=>
  rw[List.getLast?_cons_cons];have:∃z,(x::r).getLast? =some z:=(List.getLast?_cons,rfl.20).3
  obtain⟨z,hz⟩:=this;rw[hz];rfl
theorem aIb(i j e:Nat){r:a.3}(h:r≠[]):LM i e r=LM j e r:=by
 unfold LM;match r,h with
 |x::r,_=>
  have:∃z,(x::r).getLast? =some z:=(List.getLast?_cons,rfl.20).3
  obtain⟨z,hz⟩:=this;rw[hz]
theorem vJ: ∀(m k i:Nat),(choose k (List.range' i m)).flatMap (LM i (i+m))=choose (k+1) (List.range' i m)
 |0,0,i=>by rw[lF,List.range'_zero,qN];simp[LM]
 |0,k+1,i=>(List.range'_zero,qN,qN).13
 |m+1,0,i=>by
  rw[List.range'_succ,mZ,lF,lF,<-vJ m 0 (i+1),lF];simp only [List.flatMap_cons,List.flatMap_nil,List.append_nil,List.map_cons,List.map_nil];unfold LM;have e1:i+(m+1)-i=m+1:=b.3
  have e2:i+1+m-(i+1)=m:=b.3
  simp only [List.getLast?_nil,e1,e2,List.range'_succ,List.map_cons,List.nil_append];rfl
 |m+1,k+1,i=>by
  rw[List.range'_succ,mZ,mZ,bT];have e:i+(m+1)=(i+1)+m:=b.3
  congr 1
  . rw[<-vJ m k (i+1),List.map_flatMap,List.flatMap_map];rw[e];congr 1;funext r;exact aDq i _ r
  . rw[<-vJ m (k+1) (i+1),e];have: ∀L:d.3,(∀r∈L,r≠[])->L.flatMap (LM i (i+1+m))=L.flatMap (LM (i+1) (i+1+m)):=by
     intro L
     induction L with
     |nil=>intro _;rfl
     |cons r L ih=> intro h;rw[List.flatMap_cons,List.flatMap_cons,ih λx hx=>h x hx.24,aIb i (i+1) _ (h r c.3)]
    exact this _ λr hr q=>by have:=BQ _ _ _ hr;rw[q] at this;simp at this
theorem QH(n:Nat): ∀k:Nat,rising n k=choose k C.3
 |0=>lF.508
 |k+1=>by have:=vJ n k 0;rw[Nat.zero_add,<-List.range_eq_range'] at this;rw[<-this,<-QH n k];rfl
theorem LN: ∀(l:a.3),choose l.length l=[l]
 |[]=>(List.length_nil,lF).7
 |x::l=>by
  rw[List.length_cons,mZ,LN l];have:choose (l.length+1) l=[]:=by
   have key: ∀(l:a.3) (k:Nat),l.length<k->choose k l=[]:=by
    intro l
    induction l with
    |nil=>intro k hk;match k,hk with|k+1,_=>exact qN k
    |cons y l ih=>
     intro k hk;match k,hk with
     |k+1,hk=> rw[mZ,ih k m.12,ih (k+1) (by simp at hk;omega)];rfl
   exact key l _ b.3
  rw[this];rfl
theorem QI{n:Nat}{w:a.3}(h:w.length=n):tells w C.3=w:=by
 unfold tells;apply BE;intro i;rw[aE];by_cases hi:i<n
 . rw[dG hi];simp[List.getD,h,hi]
 . rw[c5 k.4,c5 b.3];rfl
theorem QJ{S:Script}{l:List Way}(hl: ∀w∈l,w.length=S.signs):settle S l=((rising S.signs k,settles l).120).getD x.5:=by
 unfold settle;have e0:(λk=>rising S.signs k)=λk=>choose k x.5:=by funext k;exact QH _ k
 rw[e0,dP,bT,nF];have e1:([S.signs].flatMap λ(k:Nat)=>choose k x.5)=[x.5]:=by have:=LN x.5;rw[aR] at this;simp[this]
 have e2:(settles l x.5).7:=by
  unfold settles;rw[List.all_eq_true];intro w hw;rw[List.all_eq_true];intro u hu;rw[QI (hl w hw),QI (hl u hu),Bool.or_eq_true];by_cases h:w=u
  . exact .inr h.24
  . exact .inl h.24
 rw[e1,List.find?_cons_of_pos e2];cases (choose k x.5,settles l).120<;>rfl
theorem C5{α:Type}[DecidableEq α]: ∀{m d:w.3},d.Nodup->(∀x∈d,x∈m)->m.length<=d.length->m.Nodup
 |[],_,_,_,_=>eO
 |a::m,d,hd,hs,hl=>by
  by_cases ha:a∈m
  . exfalso;have:d⊆m:=λx hx=>by
     rcases List.mem_cons.mp (hs x hx) with rfl|h
     . exact ha
     . exact h
    have:=gZ hd this;rw[List.length_cons] at hl;omega
  . refine eM.mpr ⟨ha,C5 (d:=d.erase a) (hd.erase a) (λx hx=>?_) ?_⟩
    . have IE:=List.mem_of_mem_erase hx;rcases List.mem_cons.mp (hs x IE) with rfl|h
      . exact absurd hx hd.mem_erase_iff.89
      . exact h
    . rw[List.length_cons] at hl;have:=List.length_erase (a:=a) (l:=d);split at this<;>omega
theorem WG{l:List Way}{ks:a.3}{d:d.3}(hl:l.Nodup)(hd:d.Nodup)(hm: ∀x,x∈d↔x∈l.map λw=>tells w ks):d.length=l.length↔(settles l ks).7:=by
 unfold settles;rw[List.all_eq_true];constructor
 . intro e w hw;rw[List.all_eq_true];intro u hu;have nd:(l.map λw=>tells w ks).Nodup:=C5 hd (λx hx=>(hm x).mp hx) e.24;rw[Bool.or_eq_true,bne_iff_ne,beq_iff_eq];by_cases h:tells w ks=tells u ks
   . right;obtain⟨i,hi,rfl⟩:=List.mem_iff_getElem.mp hw;obtain⟨j,hj,rfl⟩:=List.mem_iff_getElem.mp hu;have:i=j:=by have q:=ET (i:=i) (j:=j) (h₀:=Z.10) (h₁:=by simpa using hj) nd;simp only [List.getElem_map] at q;exact q.mp h
     subst this;rfl
   . exact .inl h
 . intro h;have nd:(l.map λw=>tells w ks).Nodup:=by
    unfold List.Nodup at hl⊢;rw[kG];refine hl.imp_of_mem ?_;intro a b ha hb VZ e;have:=List.all_eq_true.mp (h a ha) b hb;rw[Bool.or_eq_true,bne_iff_ne,beq_iff_eq] at this;rcases this with q|q
    . exact q e
    . exact VZ q
   have:=((zE hd nd).mpr hm).length_eq;simpa using this
theorem C6: ∀(l:a.3) (b:Nat),b<=l.foldl max b/\∀x∈l,x<=l.foldl max b
 |[],b=>c.3
 |a::l,b=>by
  obtain⟨h1,h2⟩:=C6 l (max b a);rw[List.foldl_cons];refine⟨b.3,λx hx=>?_⟩;rcases o.12 with rfl|hx
  . omega
  . exact h2 x hx
theorem AF: ∀(l:a.3) (b:Nat),l.foldl max b=b\/l.foldl max b∈l
 |[],b=> B.3
 |a::l,b=>by
  rw[List.foldl_cons];rcases AF l (max b a) with h|h
  . rw[h];rcases Nat.le_total b a with k|k
    . rw[Nat.max_eq_right k];exact .inr c.3
    . rw[Nat.max_eq_left k];exact B.3
  . exact .inr h.24
theorem max_eq{l:a.3}{M:Nat}(hm:M∈l)(hg: ∀x∈l,x<=M):M=l.foldl max 0:=by
 have h1:=(C6 l 0).2 M hm;rcases AF l 0 with h|h
 . omega
 . have:=hg _ h;omega
theorem aLC{S:Script}{l:List Way}{i m:Nat}(hi:i<S.signs)(hm:m=i.594)(aLD: ∀a,d.4->m<=a.594)(LO: ∀a,a<i->a.594≠m):ask S l=(i,m):=by
 unfold ask;have key: ∀k,k<=S.signs->∃b:Nat×Nat,(List.range k).foldl (λ(b:Nat×Nat) (a:Nat)=>if a.594<b.2 then(a,a.594) else b) (0,(0).594)=b/\b.2=(b.1).594/\(b.1<k\/b.1=0)/\(∀a,a<k->b.2<=a.594)/\∀a,a<b.1->b.2<a.594:=by
  intro k
  induction k with
  |zero=>intro _;exact⟨_,rfl,rfl,.inr rfl,c.3,c.3⟩
  |succ k ih=>
   intro hk;obtain⟨b,h1,h2,h3,h4,h5⟩:=ih b.3;rw[dP,nG,h1];simp only [List.foldl_cons,List.foldl_nil];by_cases lO:k.594<b.2
   . rw[if_pos lO];refine⟨_,rfl,rfl,.inl c.3,λa ha=>?_,λa ha=>?_⟩
     . by_cases e:a=k
       . subst e;exact aS _
       . have:=h4 a b.3;show k.594<=_;omega
     . have:=h4 a ha;show k.594<_;omega
   . rw[if_neg lO];refine⟨b,rfl,h2,b.3,λa ha=>?_,h5⟩;by_cases e:a=k
     . subst e;omega
     . exact h4 a b.3
 obtain⟨b,h1,h2,h3,h4,h5⟩:=key S.signs (aS _);rw[h1];have hb:b.1<S.signs:=b.3
 have e1:b.2=m:=by have a1:=h4 i hi;have a2:=aLD b.1 hb;omega
 have e2:b.1=i:=by
  rcases nH b.1 i with h|h|h
  . exact absurd (h2.symm.trans e1) (LO b.1 h)
  . exact h
  . have:=h5 i h;omega
 exact Prod.ext e2 e1
end M
namespace M
open Sy27 Sy27Neutral
def uB(t:a.3):f.3:=t.map λ(x:Nat)=>x.6
def gW(t:a.3):f.3:=t.length.6::uB t
def p8(rs:d.3):f.3:=rs.length.6::rs.flatMap gW
def yI(y:Bool):Int:=(y,1,0).8
def nM:Clue->f.3
 | .reads t ws y=>0::(gW t++(p8 ws++[yI y]))
 | .first a b y=>[1,a.6,b.6,yI y]
 | .last a b y=>[2,a.6,b.6,yI y]
 | .value a vs=>3::a.6::gW vs
 | .within t r y=>4::(gW t++(gW r++[yI y]))
def bR:Sy27.Call->f.3
 | .begins n vs=>0::n.6::p8 vs
 | .clue c=>1::nM c
 | .drop k=>[2,k.6]
 | .ways=>[3]
 | .way k=>[4,k.6]
 | .certain=>[5]
 | .possible a=>[6,a.6]
 | .readings t=>7::gW t
 | .settle=>[8]
 | .ask=>[9]
 | .needless=>[10]
 | .clash=>[11]
def oO:Clue.41
 | .reads t ws _=>t.length<=60/\ws.length<=60/\∀r∈ws,h.11
 | .first _ _ _=>True
 | .last _ _ _=>True
 | .value _ vs=>vs.length<=60
 | .within t r _=>t.length<=60/\h.11
def oP:Sy27.Call.41
 | .begins n vs=>n<4294967296/\vs.length<=60/\∀r∈vs,h.11
 | .clue c=>oO c
 | .readings t=>t.length<=60
 |_=>True
theorem kP{l l':f.3}{x:Nat}(h:natIn l=some (x,l')):l=x.6::l'/\x<4294967296:=by
 cases l with
 |nil=>cases h
 |cons n l=>
  have h:(if 0<=n/\n<2^32 then some (n.toNat,l) else none)=some (x,l'):=h;by_cases hn:0<=n/\n<2^32
  . rw[if_pos hn] at h;cases h;exact⟨(Int.toNat_of_nonneg hn.1).85,(hn.2).90⟩
  . rw[if_neg hn] at h;cases h
theorem zQ{l l':f.3}{y:Bool}(h:yesIn l=some (y,l')):l=yI y::l':=by
 unfold yesIn at h;split at h
 . cases h;rfl
 . cases h;rfl
 . cases h
theorem LP{A:Type}{p:f.3->Option (A×f.3)}{enc:A->f.3}{P:A.41}(hp: ∀l x l',p l=some (x,l')->l=enc x++l'/\P x): ∀(k:Nat) (l:f.3) (xs:List A) (l':f.3),many_ p k l=some (xs,l')->l=xs.flatMap enc++l'/\xs.length=k/\∀x∈xs,P x
 |0,l,xs,l',h=>by unfold many_ at h;cases h;exact c.3.617
 |k+1,l,xs,l',h=>by
  unfold many_ at h;obtain⟨⟨x,l1⟩,h1,h2⟩:=e.11;obtain⟨⟨ys,l2⟩,h3,h4⟩:=cD.mp h2;cases h4;obtain⟨e1,p1⟩:=hp _ _ _ h1;obtain⟨e2,p2,p3⟩:=LP hp k _ _ _ h3;refine⟨?_,p2.24,λz hz=>?_⟩
  . dsimp only at e2⊢;rw[e1,e2,List.flatMap_cons,cA]
  . rcases List.mem_cons.mp hz with rfl|hz
    . exact p1
    . exact p3 z hz
theorem WH: ∀t:a.3,t.flatMap (λ(x:Nat)=>[x.6])=uB t
 |[]=>rfl
 |a::t=>(List.flatMap_cons,WH t).18
theorem qF{l l':f.3}{t:a.3}(h:rowIn l=some (t,l')):l=gW t++l'/\t.length<=60:=by
 unfold rowIn listIn at h
 cases l with
 |nil=>cases h
 |cons n l=>
  dsimp only at h;split at h
  . rename_i hn;obtain⟨e,hl,_⟩:=LP (p:=natIn) (enc:=λ(x:Nat)=>[x.6]) (P:=λ_=>True) (λl x l' hx=>⟨(kP hx).1,trivial⟩) _ _ _ _ h;have e2:t.flatMap (λ(x:Nat)=>[x.6])=uB t:=WH t;rw[e2] at e;refine(?_).527;rw[e];show n::(uB t++l')=t.length.6::(uB t++l');congr 1;omega
  . cases h
theorem LQ{l l':f.3}{rs:d.3}(h:rowsIn l=some (rs,l')):l=p8 rs++l'/\rs.length<=60/\∀r∈rs,h.11:=by
 unfold rowsIn listIn at h
 cases l with
 |nil=>cases h
 |cons n l=>
  dsimp only at h;split at h
  . rename_i hn;obtain⟨e,hl,hP⟩:=LP (p:=rowIn) (enc:=gW) (P:=λr=>h.11) (λl x l' hx=>qF hx) _ _ _ _ h;refine⟨?_,b.3,hP⟩;rw[e];show n::(rs.flatMap gW++l')=rs.length.6::(rs.flatMap gW++l');congr 1;omega
  . cases h
theorem Z5{l l':f.3}{c:Clue}(h:clueIn l=some (c,l')):l=nM c++l'/\oO c:=by
 unfold clueIn at h;split at h
 . obtain⟨⟨t,l1⟩,h1,h2⟩:=e.11;obtain⟨⟨ws,l2⟩,h3,h4⟩:=G.14;obtain⟨⟨y,l3⟩,h5,h6⟩:=cD.mp h4;cases h6;obtain⟨e1,p1⟩:=qF h1;obtain⟨e2,p2,p3⟩:=LQ h3;have e3:=zQ h5;refine⟨?_,p1,p2,p3⟩;rw[e1];dsimp only at e2 e3;rw[e2,e3];simp[nM]
 . obtain⟨⟨a,l1⟩,h1,h2⟩:=e.11;obtain⟨⟨b,l2⟩,h3,h4⟩:=G.14;obtain⟨⟨y,l3⟩,h5,h6⟩:=cD.mp h4;cases h6;have e1:=(kP h1).1;have e2:=(kP h3).1;have e3:=zQ h5;dsimp only at e2 e3;exact⟨(e1,e2,e3).13,trivial⟩
 . obtain⟨⟨a,l1⟩,h1,h2⟩:=e.11;obtain⟨⟨b,l2⟩,h3,h4⟩:=G.14;obtain⟨⟨y,l3⟩,h5,h6⟩:=cD.mp h4;cases h6;have e1:=(kP h1).1;have e2:=(kP h3).1;have e3:=zQ h5;dsimp only at e2 e3;exact⟨(e1,e2,e3).13,trivial⟩
 . obtain⟨⟨a,l1⟩,h1,h2⟩:=e.11;obtain⟨⟨vs,l2⟩,h3,h4⟩:=cD.mp h2;cases h4;have e1:=(kP h1).1;obtain⟨e2,p2⟩:=qF h3;dsimp only at e2;exact⟨(e1,e2).18,p2⟩
 . obtain⟨⟨t,l1⟩,h1,h2⟩:=e.11;obtain⟨⟨r,l2⟩,h3,h4⟩:=G.14;obtain⟨⟨y,l3⟩,h5,h6⟩:=cD.mp h4;cases h6;obtain⟨e1,p1⟩:=qF h1;obtain⟨e2,p2⟩:=qF h3;have e3:=zQ h5;refine⟨?_,p1,p2⟩;dsimp only at e2 e3;rw[e1,e2,e3];simp[nM]
 . cases h
theorem zR{A:Type}{o:Option (A×f.3)}{x:A}(h:all_ o=some x):o=some (x,[]):=by
 unfold all_ at h;obtain⟨⟨y,l⟩,h1,h2⟩:=e.11;dsimp only at h2;split at h2
 . rename_i he;cases h2;have:l=[]:=by simpa using he
   rw[h1,this]
 . cases h2
theorem Z6{r:f.3}{x:Sy27.Call}(h:callOf r=some x):r=bR x/\oP x:=by
 unfold callOf at h;split at h
 . have h:=zR h;obtain⟨⟨k,l1⟩,h1,h2⟩:=e.11;obtain⟨⟨v,l2⟩,h3,h4⟩:=cD.mp h2;cases h4;obtain⟨e1,b1⟩:=kP h1;obtain⟨e2,p2,p3⟩:=LQ h3;dsimp only at e2;exact⟨by rw[e1,e2];simp[bR],b1,p2,p3⟩
 . obtain⟨c,h1,h2⟩:=cD.mp h;cases h2;obtain⟨e,p⟩:=Z5 (zR h1);exact⟨by rw[e];simp[bR],p⟩
 . obtain⟨c,h1,h2⟩:=cD.mp h;cases h2;have e:=(kP (zR h1)).1;exact⟨by rw[e];rfl,trivial⟩
 . cases h;exact trivial.73
 . obtain⟨c,h1,h2⟩:=cD.mp h;cases h2;have e:=(kP (zR h1)).1;exact⟨by rw[e];rfl,trivial⟩
 . cases h;exact trivial.73
 . obtain⟨c,h1,h2⟩:=cD.mp h;cases h2;have e:=(kP (zR h1)).1;exact⟨by rw[e];rfl,trivial⟩
 . obtain⟨c,h1,h2⟩:=cD.mp h;cases h2;obtain⟨e,p⟩:=qF (zR h1);exact⟨by rw[e];simp[bR],p⟩
 . cases h;exact trivial.73
 . cases h;exact trivial.73
 . cases h;exact trivial.73
 . cases h;exact trivial.73
 . cases h
def eZ(rs:n.4):f.3:=rs.flatMap λr=>0::r.length.6::r
theorem aDr{l:f.3}{cs:List n.4}(h:PySy27.calls l=some cs): ∃rs:n.4,cs=rs.map (λr=>[r])/\l=eZ rs:=by
 unfold PySy27.calls at h
 cases e:PyFlat.calls PySy27.shape l.length l with
 |none=>rw[e] at h;cases h
 |some ds=>
  rw[e] at h;have h2:ds.map PySy27.whole=cs:=aM h;obtain⟨h3,h4⟩:=PyFlat.put_calls _ _ _ e;subst h3;subst h2;clear e h
  induction ds with
  |nil=>exact([],rfl).34
  |cons d ds ih=>
   obtain⟨rs,e1,e2⟩:=ih λc hc=>h4 c hc.24;obtain⟨p,a,xs,ed,hs⟩:=h4 d c.3;unfold PySy27.shape at hs;split at hs
   . rename_i hp;simp only [Option.some.injEq,Prod.mk.injEq] at hs;have ha:a=[]:=gD.mp hs.1.symm;obtain⟨x,hx⟩:=List.length_eq_one_iff.mp hs.2.symm;subst ha hx hp ed;refine⟨x::rs,?_,?_⟩
     . rw[List.map_cons,e1,List.map_cons];rfl
     . show PyFlat.put1 [[0],x]++PyFlat.put ds=_;rw[e2];unfold eZ;simp[PyFlat.put1,PyFlat.putRows,PyFlat.putRow]
   . cases hs
def mR(s:Sy27.St):n.4->f.3
 |[]=>[]
 |r::rs=>((step s r).2).564::((step s r).2++mR (step s r).1 rs)
theorem Z7{l:f.3}{rs:n.4}(h:PySy27.calls l=some (rs.map λr=>[r])):PySy27.answers l=mR Sy27.start rs:=by
 unfold PySy27.answers;rw[h];show PyFlat.told (PyFlat.played (λs c=>step s (c.headD [])) Sy27Neutral.start (rs.map λr=>[r]))=_;show _=mR Sy27Neutral.start rs;generalize Sy27Neutral.start=s;clear h
 induction rs generalizing s with
 |nil=>rfl
 |cons r rs ih=> show PyFlat.told ((step s r).2::PyFlat.played _ (step s r).1 (rs.map λr=>[r]))=_;unfold PyFlat.told;rw[List.flatMap_cons];show((step s r).2).564::(step s r).2++PyFlat.told _=_;rw[ih];rfl
theorem aDs{l:f.3}(h:(PySy27.answers_asked l).7): ∃xs:List Sy27.Call,l=eZ (xs.map bR)/\PySy27.answers l=mR Sy27.start (xs.map bR)/\(∀x∈xs,oP x/\callOf (bR x)=some x)/\xs.length<=60/\(many Sy27.start (xs.map bR)).546:=by
 unfold PySy27.answers_asked at h
 cases e:PySy27.calls l with
 |none=>rw[e] at h;cases h
 |some cs=>
  rw[e] at h;dsimp only at h;obtain⟨rs,e1,e2⟩:=aDr e;subst e1;rw[Bool.and_eq_true] at h;have h2:=h.2;clear h;have em:(rs.map λr=>[r]).map (λ(c:List (List Int))=>c.headD [])=rs:=(a9,List.map_id'' (λ_=>rfl) rs).3
  rw[em] at h2;unfold asked at h2;simp only [Bool.and_eq_true,decide_eq_true_eq,List.all_eq_true] at h2;obtain⟨h3,h4,h5,h6⟩:=h2;have hx: ∃xs:List Sy27.Call,rs=xs.map bR/\∀x∈xs,oP x/\callOf (bR x)=some x:=by
   clear e e2 em h4 h5 h6
   induction rs with
   |nil=>exact([],c.3).50
   |cons r rs ih=>
    obtain⟨xs,e1,p1⟩:=ih λx hx=>h3 x hx.24;have hr:=h3 r c.3;unfold asked1 at hr;obtain⟨x,hx⟩:=Option.isSome_iff_exists.mp hr;obtain⟨e2,p2⟩:=Z6 hx;subst e2;refine⟨x::xs,e1.508,e.10⟩;rcases List.mem_cons.mp hy with rfl|hy
    . exact⟨p2,hx⟩
    . exact p1 y hy
  obtain⟨xs,rfl,hxs⟩:=hx;exact⟨xs,e2,Z7 e,hxs,by simpa using h5,h6⟩
end M
namespace G
open PySem PySem.Spec PyProof.Rows L2
def top(i:Nat):Stmt:=PySem.Challenge.pw_signclues_s01_answers.main.body.getD i (.Pass ⟨0,0,0,0⟩)
abbrev GO:Stmt:=top 14
abbrev AG:Stmt:=top 15
abbrev xO:Stmt:=top 16
abbrev QK:Stmt:=top 17
abbrev QL:Stmt:=top 18
abbrev uC:Stmt:=top 20
abbrev sM:Stmt:=top 21
abbrev C7:Stmt:=top 22
abbrev qO:Stmt:=top 23
abbrev AH:Stmt:=top 24
abbrev GP:Stmt:=top 25
abbrev QM:Stmt:=top 26
abbrev xP:Stmt:=top 27
abbrev C8:Stmt:=top 28
abbrev AI:Stmt:=top 29
abbrev QN:Stmt:=top 40
abbrev C9:Stmt:=top 41
abbrev LR:Stmt:=top 42
abbrev xQ:Stmt:=top 43
abbrev GQ:Stmt:=top 44
abbrev AJ:Stmt:=top 45
abbrev GR:Stmt:=top 46
abbrev LS:Stmt:=top 49
abbrev QO:Stmt:=top 50
abbrev GS:Stmt:=top 51
abbrev LU:Stmt:=top 52
abbrev xR:Stmt:=top 53
abbrev LV:Stmt:=top 54
abbrev LW:Stmt:=top 55
abbrev LX:Stmt:=top 56
abbrev AK:Stmt:=top 57
abbrev wM:Stmt:=top 58
abbrev DA:Stmt:=top 59
abbrev uD:Stmt:=top 60
abbrev GU:Stmt:=top 61
abbrev AL:Stmt:=top 62
abbrev AM:Stmt:=top 63
abbrev WI:Stmt:=top 69
abbrev WJ:Stmt:=top 70
abbrev aFt:Stmt:=top 71
abbrev aFu:Stmt:=top 72
abbrev aFv:Stmt:=top 73
abbrev aJ4:Stmt:=top 74
abbrev QP:Stmt:=top 75
abbrev LY:Stmt:=top 76
abbrev LZ:Stmt:=top 77
abbrev WK:Stmt:=top 78
abbrev aJ5:Stmt:=top 79
abbrev L0:Stmt:=top 80
abbrev aB2:Stmt:=top 81
abbrev WL:Stmt:=top 83
abbrev FJ:Stmt:=top 84
abbrev GV:Stmt:=(13,0).36
abbrev AN:Stmt:=(31,0).36
abbrev pA:Stmt:=(31,1).36
abbrev sN:Stmt:=(31,2).36
abbrev qP:Stmt:=(31,3).36
abbrev AO:Stmt:=(39,0).36
abbrev xS:Stmt:=(39,1).36
abbrev sO:Stmt:=(39,2).36
abbrev DB:Stmt:=(48,0).36
abbrev AQ:Stmt:=(67,0).36
abbrev xT:Stmt:=(67,1).36
abbrev sP:Stmt:=(67,2).36
abbrev qQ:Stmt:=(67,3).36
abbrev uE:Stmt:=(67,4).36
abbrev uF:Stmt:=(67,5).36
abbrev AR:Stmt:=(67,6).36
abbrev qR:Stmt:=(67,7).36
abbrev pQ:Stmt:=(67,8).36
abbrev pR:Stmt:=(67,9).36
abbrev sQ:Stmt:=(67,10).36
abbrev pB:Stmt:=(67,11).36
abbrev xU:Stmt:=(67,12).36
structure Df(K:PySem.W.Frag)(mg:k.3)(x:Str)(st:Stmt):Prop where
 ex: ∃f fd,Fun K x x st f fd/\mg x=some (.ref f)
structure Md(K:PySem.W.Frag)(C:Addr)(m qual:Str)(st:Stmt):Prop where
 ex: ∃f fd,Fun K m qual st f fd/\Meth K C m f
structure Cd(K:PySem.W.Frag)(mg:k.3)(C:Addr)(name qual:Str)(st:Stmt):Prop where
 cl:ZI K C
 at_:mg name=some (.ref C)
 ex: ∃f fd,Fun K "__init__" qual st f fd/\Mk K C f
structure Ad where
 Clue:Addr
 Reader:Addr
 oQ:Addr
 mD:Addr
 AS:Addr
 k7:Addr
 oW:Addr
 Search:Addr
 Shape:Addr
 Script:Addr
structure Txt(K:PySem.W.Frag)(mg:k.3)(A:Ad):Prop where
 GW:("read_clue",GO).9
 AU:("are_letters",AG).9
 GX:("is_script",xO).9
 QQ:("is_text",QK).9
 QR:("is_clue",QL).9
 uG:("certain_values",uC).9
 sR:("possible_values",sM).9
 DC:("reading_of",C7).9
 xV:("all_readings",qO).9
 AV:("rising_rows",AH).9
 GY:("values_at",GP).9
 QS:("settles",QM).9
 xW:("settling_row",xP).9
 DD:("most_alike",C8).9
 AW:("sign_to_ask",AI).9
 QT:("ends_of",QN).9
 DE:("choices_of",C9).9
 L1:("moves_of",LR).9
 xX:("search_order",xQ).9
 GZ:("order_key",GQ).9
 AX:("touches_any",AJ).9
 G0:("find_ways",GR).9
 L3:("all_bits",LS).9
 QU:("bits_of",QO).9
 G1:("kept_rows",GS).9
 L4:("can_keep",LU).9
 xY:("touched_bits",xR).9
 L5:("narrowed",LV).9
 L6:("add_span",LW).9
 L7:("shape_of",LX).9
 AY:("alike_spans",AK).9
 wN:("reading_spans",wM).9
 DF:("word_spans",DA).9
 uH:("standing_spans",uD).9
 G2:("stands_in",GU).9
 AZ:("begun_spans",AL).9
 A0:("ended_spans",AM).9
 WM:("listed",WI).9
 WN:("begins",WJ).9
 aFw:("clue",aFt).9
 aFx:("drop",aFu).9
 aFy:("ways",aFv).9
 aJ6:("way",aJ4).9
 QV:("certain",QP).9
 L8:("possible",LY).9
 L9:("readings",LZ).9
 WO:("settle",WK).9
 aJ7:("ask",aJ5).9
 MA:("needless",L0).9
 aB3:("clash",aB2).9
 WQ:("answer",WL).9
 QW:("answers",FJ).9
 DG: ("MOST_SIGNS",8).55
 tR: ("MOST_VALUES",10).55
 lG: ("MOST_VALUE_LETTERS",3).55
 A2: ("LAST_LETTER",25).55
 sS: ("MOST_TEXT_SIGNS",8).55
 DH: ("MOST_WORDS",10).55
 mS: ("MOST_ROW_LETTERS",16).55
 vK: ("READS_AS",0).55
 xZ: ("BEGINS_ALIKE",1).55
 DI: ("ENDS_ALIKE",2).55
 DJ: ("ONE_OF",3).55
 x4: ("STANDS_IN",4).55
 DK: ("MOST_CLUES",24).55
 x5: ("MOST_WAYS",300).55
 FK:Cd K mg A.Clue "Clue" "Clue.__init__" GV
 cF:fW K A.Clue "kind"
 jQ:fW K A.Clue "text"
 gK:fW K A.Clue "parts"
 tS:fW K A.Clue "wanted"
 iW:Cd K mg A.Reader "Reader" "Reader.__init__" AN
 pC:Md K A.Reader "take_number" "Reader.take_number" pA
 sV:Md K A.Reader "take_row" "Reader.take_row" sN
 qS:Md K A.Reader "take_rows" "Reader.take_rows" qP
 lU:fW K A.Reader "numbers"
 iC:fW K A.Reader "place"
 lH:Cd K mg A.Search "Search" "Search.__init__" AO
 qT:Md K A.Search "go_on" "Search.go_on" xS
 nN:Md K A.Search "try_move" "Search.try_move" sO
 gP:("order").640
 qU:("moves").640
 nO:("yes_ends").640
 oR:("no_ends").640
 qV:("limit").640
 p9:("way").640
 iD:("found").640
 oX:("lost").640
 jT:Cd K mg A.Shape "Shape" "Shape.__init__" DB
 mE:fW K A.Shape "whole"
 lV:fW K A.Shape "keep"
 mF:fW K A.Shape "touch"
 c8:Cd K mg A.Script "Script" "Script.__init__" AQ
 x6:("begin","Script.begin",xT).24
 sW:("add_clue","Script.add_clue",sP).24
 qW:("drop_clue","Script.drop_clue",qQ).24
 uI:("without","Script.without",uE).24
 uJ:("ways_by","Script.ways_by",uF).24
 A3:("ways","Script.ways",AR).24
 qX:("some_ways","Script.some_ways",qR).24
 pS:("check_sign","Script.check_sign",pQ).24
 pT:("check_text","Script.check_text",pR).24
 sX:("needless","Script.needless",sQ).24
 pD:("is_needless","Script.is_needless",pB).24
 x8:("clash","Script.clash",xU).24
 dZ:fW K A.Script "signs"
 dU:fW K A.Script "syllables"
 cY:fW K A.Script "rules"
 fP:fW K A.Script "known"
 c0:(mg "len").9
 fA:(mg "range").9
 nA:(mg "enumerate").9
 QX:(mg "zip").9
 aB4:(mg "min").9
 aJ8:(mg "max").9
 x9:(mg "sorted").9
 FL:(mg "list").9
 oY:(mg "tuple").9
 aB5:(mg "set").9
 WR:(mg "any").9
 G3:(mg "all").9
end G
namespace G
open PySem PySem.Spec PyProof.Rows L2
abbrev St:=L2.St
section
variable{P:Program}{w:World}{K:PySem.W.Frag}{mg:k.3}{base:Heap}{CX:YW}
structure dC(P:Program)(w:World)(K:PySem.W.Frag)(mg:k.3)(base:Heap)(CX:YW)(k:Nat)(x:Str)(ps:x.3)(sp:Sp):Prop where
 ex: ∃f fd,oI P w K mg base CX k f fd ps sp/\mg x=some (.ref f)/\m.11/\K.627
structure iX(P:Program)(w:World)(K:PySem.W.Frag)(mg:k.3)(base:Heap)(CX:YW)(k:Nat)(C:Addr)(m:Str)(ps:x.3)(sp:Sp):Prop where
 cl:ZI K C
 ex: ∃f fd,oI P w K mg base CX k f fd ps sp/\Meth K C m f/\K.627
structure G4(P:Program)(w:World)(K:PySem.W.Frag)(mg:k.3)(base:Heap)(CX:YW)(k:Nat)(C:Addr)(x:Str)(ps:x.3)(sp:Sp):Prop where
 at_:mg x=some (.ref C)
 ex: ∃f fd,oI P w K mg base CX k f fd ps sp/\Mk K C f/\K.627
theorem iX.mono{j k:Nat}{C:Addr}{x:Str}{ps:x.3}{sp:Sp}(D:iX P w K mg base CX j C x ps sp)(h:j<=k):iX P w K mg base CX k C x ps sp:=by obtain⟨f,fd,F,r⟩:=D.ex;exact⟨D.cl,f,fd,F.mono h,r⟩
abbrev zS(x qual:Str)(st:Stmt)(ps:x.3):Prop:=∀(kV doc pm:Value) (an:M.4) (fJ ct:Value) (us:h.3),(PySem.W.fnOf x qual (sE st) (mO st) (aV st) .none kV doc pm an fJ ct).799
abbrev Body(P:Program)(w:World)(K:PySem.W.Frag)(mg:k.3)(base:Heap)(N:x.3)(qual:Str)(st:Stmt)(k:Nat)(sp:Sp):Prop:=
 ∀(f:Addr) (fJ:Value) (A:Around) (outer:j.4) (s:Shared) (H:Hp) (vs:e.3) (Q:VK) (E:XK),A.15->sp vs H Q E->
  ((IB kJ P w K mg base N qual (aV st) f fJ A outer s H E).nox,mO st).124
theorem Df.ok{x:Str}{st:Stmt}{N ps:x.3}{k:Nat}{sp:Sp}(D:(x,st).9)(S:u.11)(hb:zS x x st ps)(len: t.10)
 (o5:Body P w K mg base N x st k sp):dC P w K mg base kJ (k+1) x ps sp:=(F.ok S len (o5 f)).810
theorem Md.ok{C:Addr}{x qual:Str}{st:Stmt}{N ps:x.3}{k:Nat}{sp:Sp}(D:Md K C x qual st)(c:ZI K C)(S:u.11)(hb:zS x qual st ps)(len: t.10)
 (o5:Body P w K mg base N qual st k sp):iX P w K mg base kJ (k+1) C x ps sp:=(F.ok S len (o5 f)).827
theorem Cd.ok{C:Addr}{x qual:Str}{st:Stmt}{N ps:x.3}{k:Nat}{sp:Sp}(D:Cd K mg C x qual st)(S:u.11)(hb:zS "__init__" qual st ps)(len: t.10)
 (o5:Body P w K mg base N qual st k sp):G4 P w K mg base kJ (k+1) C x ps sp:=by obtain⟨f,fd,F,hm⟩:=D.ex;exact⟨D.at_,f,fd,F.ok S len (o5 f),hm,F.binds hb⟩
end
section
variable{X:Cx}{CX:YW}{k:Nat}{C:Addr}{ps:x.3}{sp:Sp}{E:XK}{x m:Str}{p pos apos:Pos}{e o:Expr}{es:X.3}{ta:TE}{t:TA}
theorem bQ(D:dC X.prog X.w X.K X.mg X.base kJ k x ps sp)(hr:cS k X.A)(hg:Gl X x)(ha:a.5)(OA:F.4:=by decide)
 (he:k.5:=by rfl) (kY:n.10:=by rfl):
 (aJP sp [] E0 t).667:=by obtain⟨f,fd,F,hm,hk,hb⟩:=D.ex;exact aHN F hr hg hm hk hb .nil VV ha OA he kY
theorem oZ{pl:Sem Bool}(he:o.98)(D:iX X.prog X.w X.K X.mg X.base kJ k C m ps sp)(hr:cS k X.A)(ha:a.5)
 (jM:k.5:=by rfl) (kY:n.10:=by rfl)
 (ht:(e::es).694=(do
  let ov<-o.58
  F.11
  let (f,first)<-c.12
  (e::es).672):=by rfl):
 PE X (m.652,e::es).49 (PH C m sp [] E0 ta t):=(aBL he D.cl hm F hr hb .nil VV ha jM kY ht).689
theorem eU{pl:Sem Bool}(he:o.98)(D:iX X.prog X.w X.K X.mg X.base kJ k C m ps sp)(hr:cS k X.A)
 (ht:([]).694=(do
  let ov<-o.58
  F.11
  let (f,first)<-c.12
  ([]).672):=by rfl):
 PE X (m.652,[]).49 (PH C m sp [] E0 ta ZL):=(VE he D.cl hm F hr hb .nil VV ht).689
theorem vL(D:G4 X.prog X.w X.K X.mg X.base kJ k C x ps sp)(hr:cS (k+1) X.A)(hg:Gl X x)(ha:a.5)(OA:F.4:=by decide)
 (he:k.5:=by rfl) (kY:n.10:=by rfl):
 (aBK C sp [] E0 t).667:=(aHO hm F hr hg D.at_ hb .nil VV ha OA he kY).689
theorem aFz(D:G4 X.prog X.w X.K X.mg X.base kJ k C x ps sp)(hr:cS (k+1) X.A)(hg:Gl X x)(OA:F.4:=by decide):
 PE X (p.551,[]).49 (aBK C sp [] E0 ZL):=(aE5 hm F hr hg D.at_ hb .nil VV OA).689
theorem eJ{n:Int}(hg:Gl X x)(hm: ∃t,X.mg x=some (.int n t))(hd:F.4:=by decide):PE X pos.551 (tC (.int n)):=by obtain⟨t,hm⟩:=hm;exact aBE hg hm t.80 hd
end
theorem _root_.L2.aL.new{H H1:Hp}{a:Addr}{o:HO}(s:H1.34)(h:(H1 a).622):(a,o).25.34:=λb u e=>(aY (s b u e) h,s b u e).29
def hide(D:Addr)(H:Hp):Hp:=λb=>if b=D then Option.none else H b
theorem hide_ne{D b:Addr}{H:Hp}(h:b≠D):hide D H b=H b:=by unfold hide;rw[if_neg h]
theorem qZ{D:Addr}{H:Hp}{o:HO}:hide D (upd H D o)=D.97:=by funext b;unfold hide upd;split<;>rfl
theorem jF(D:Addr)(H:Hp):aL D.97 H:=λb o e=>by
 unfold hide at e;split at e
 . cases e
 . exact e
theorem uK{D:Addr}{H H':Hp}(s:s.3):aL D.97 (hide D H'):=λb o e=>by
 unfold hide at e⊢;split at e
 . cases e
 . rename_i h;rw[if_neg h];exact e.42
theorem aB6{D:Addr}{H H1:Hp}(s:H1.34)(h:(H D).622):(hide D H1).34:=λb o e=>(aY e h,e.42).70
structure Seq(J:It)(n:Nat)(Vd:Hp.41)(Y:X.5):Prop where
 go: ∀i H,Vd H->i<n->J.go i H
 yl: ∀i H x H',Vd H->i<n->z.10->Y i x H H'
 st: ∀i H,Vd H->n<=i->J.stop i H
def yL(xs:e.3):X.5:=λi x H H'=>H'=H/\D.4
def yR(lo:Int):X.5:=λi x H H'=>H'=H/\x= .int (lo+i)
def yE(xs:e.3):X.5:=λi x H H'=>∃T v,x= .ref T/\(H T).622/\H'=upd H T v.611/\(xs,v).4
def yZ(xs ys:e.3):X.5:=λi x H H'=>∃T u v,x= .ref T/\(H T).622/\H'=upd H T (.tup [u,v])/\(xs,u).4/\(ys,v).4
theorem bX{K:PySem.W.Frag}{a:Addr}{xs:e.3}:Seq (Itl K a) xs.length (λH=>xs.75) (yL xs) where
 go:=λi H h hi=>⟨xs,xs[i],h,hi.24⟩
 yl:=λi H x H' h hi y=>by obtain⟨e,y⟩:=y;exact⟨e,y xs h⟩
 st:=λi H h hi=>⟨xs,h,hi⟩
theorem dS{lo:Int}{n:Nat}:Seq (Itr lo n) n (λ_=>True) (yR lo) where
 go:=λi H _ hi=>hi
 yl:=λi H x H' _ hi y=>y
 st:=λi H _ hi=>hi
theorem yA{K:PySem.W.Frag}{a:Addr}{xs:e.3}:Seq (Ite K a) xs.length (λH=>xs.75) (yE xs) where
 go:=λi H h hi=>⟨xs,xs[i],h,hi.24⟩
 yl:=λi H x H' h hi y=>by obtain⟨T,v,e,n,e2,y⟩:=y;exact⟨T,v,e,n,e2,y xs h⟩
 st:=λi H h hi=>⟨xs,h,hi⟩
theorem eB{J:It}{n:Nat}{Vd:Hp.41}{Y:X.5}{g:TG}{tb:TS}{D:Ends}{σ:St}{H:Hp}(S:Seq J n Vd Y)(Pv:St.628)(h0:Pv 0 σ H)(hl: ∀i σ H,i<=n->Pv i σ H->Vd H)
 (hs: ∀i x σ H H',i<n->Pv i σ H->Y i x H H'->g x σ H' λσ2 H2=>tb {D with nx:=Pv (i+1),ct:=Pv (i+1),bk:=D.nx} σ2 H2) (hd: ∀σ H,Pv n σ H->D.nx σ H):
 ∃W:Nat->Nat->St.53,(∃m,W 0 m σ H)/\∀i m σ H,W i m σ H->
  b.16:=by
 refine(λi m σ H=>m=n-i/\i<=n/\Pv i σ H,⟨n,c.3,aW _,h0⟩).17;rintro i m σ H ⟨rfl,hi,p⟩;have q:=hl i σ H hi p;by_cases lO:i<n
 . exact .inr ⟨S.go i H q lO,Pv (i+1),λσ' H' p'=>⟨n-(i+1),b.3,rfl,lO,p'⟩,λx H' y=>hs i x σ H H' lO p (S.yl i H x H' q lO y)⟩
 . have e:i=n:=b.3
   subst e;exact(S.st i H q (aS _),hd σ H p).51
theorem Z8{J:It}{n:Nat}{Vd:Hp.41}{Y:X.5}{g:TG}{tt:TT}{te:TE}{vs:a.3}{σ:St}{H1:Hp}{D:Addr}{Qd:Hp.41}(S:Seq J n Vd Y)(Pv:Nat.53)(h0:Pv 0 (H1,D).23)
 (hl: ∀i H,i<=n->Pv i H->Vd H)
 (hs: ∀i x H H',i<n->Pv i H->Y i x H H'->g x (R.4) H' λσ2 H2=>o.11/\tt σ2 H2 λb H3=>
  (Pv (i+1) (H4,D,acc++[y]).3,Pv (i+1) H3).151) (hd: ∀H,Pv n H->Qd H):
 ∃W:Nat.628,I.12/\∀i m H,W i m H->
  e.13\/(J.go i H/\∃Nx:Hp.41,P.12/\∀x H',z.10->g x (R.4) H' λσ2 H2=>o.11/\tt σ2 H2 λb H3=>
   N.12):=by
 refine(λi m H=>m=n-i/\i<=n/\Pv i H,⟨n,c.3,aW _,h0⟩).17;rintro i m H ⟨rfl,hi,p⟩;have q:=hl i H hi p;by_cases lO:i<n
 . exact .inr ⟨S.go i H q lO,Pv (i+1),λH' p'=>⟨n-(i+1),b.3,rfl,lO,p'⟩,λx H' y=>hs i x H H' lO p (S.yl i H x H' q lO y)⟩
 . have e:i=n:=b.3
   subst e;exact(S.st i H q (aS _),hd H p).51
def outs(out:Nat->e.3)(i:Nat):e.3:=(v.4).flatMap out
theorem zT(out:Nat->e.3)(i:Nat):outs out (i+1)=outs out i++out i:=by unfold outs;rw[dP,bT];simp
theorem WS{out:Nat->e.3}{n:Nat}(h: ∀i,i<n->(out i,1).8): ∀i,i<=n->(outs out i,i).8
 |0,_=>aW _
 |i+1,hi=>by rw[zT,List.length_append];have:=WS h i b.3;have:=h i b.3;omega
theorem yB{J:It}{n:Nat}{Vd:Hp.41}{Y:X.5}{g:TG}{tt:TT}{te:TE}{vs:a.3}{σ:St}{H1:Hp}{D:Addr}{Qd:Hp.41}(S:Seq J n Vd Y)(out:Nat->e.3)(hD:(H1 D).622)(hn:n.37)
 (hl: ∀H,H.82->Vd H) (ho: ∀i,i<n->(out i,1).8)
 (hs: ∀i x H H' (C:V.53) (C0:Hp.41),i<n->H.82->Y i x H H'->(∀y H4,H4.34->out i=[y]->C y H4)->(∀H3,H3.34->out i=[]->C0 H3)->g x (R.4) H' λσ2 H2=>o.11/\tt σ2 H2 λb H3=>
  (b,te σ2 H3 C,C0 H3).8) (hd: ∀H,H.82->(D,outs out n).41->Qd H):
 ∃W:Nat.628,I.12/\∀i m H,W i m H->
  e.13\/(J.go i H/\∃Nx:Hp.41,P.12/\∀x H',z.10->g x (R.4) H' λσ2 H2=>o.11/\tt σ2 H2 λb H3=>
   N.12):=by
 refine Z8 S (λi H=>H.82/\(D,outs out i).41) ⟨hD.509,aI⟩ (λi H _ h=>hl H h.1) ?_ λH h=>hd H h.1 h.2;rintro i x H H' hi ⟨s1,hDi⟩ hy;refine hs i x H H' _ _ hi s1 hy (λy H4 s4 e4=>?_) λH3 s3 e3=>?_
 . refine⟨_,hDi.64,?_,D.10,?_⟩
   . have:=WS ho i b.3;omega
   . rw[bF (aY e hD)];exact e.26.64
   . rw[aI,zT,e4]
 . refine(s1.trans s3).71;rw[hDi.54,zT,e3,List.append_nil]
theorem aLE{J:It}{n:Nat}{Vd:Hp.41}{Y:X.5}{g:TG}{te:TE}{vs:a.3}{σ:St}{H1:Hp}{D:Addr}{Qd:Hp.41}(S:Seq J n Vd Y)(R:V.628)(hR: ∀i y H H',s.3->R i y H->R i y H')(hD:(H1 D).622)(hn:n.37)
 (hl: ∀H,H.82->Vd H)
 (hs: ∀i x H H' (C:V.53),i<n->D.97.82->(H D).563->Y i x H H'->(∀y H4,H4.34->R i y (hide D H4)->C y H4)->(te σ2 H2 C).749)
 (hd: ∀H ys,H.82->(D,ys).41->ys.length=n->(∀i y,(ys,y).4->R i y D.97)->Qd H):
 ∃W:Nat.628,I.12/\∀i m H,W i m H->
  e.13\/(J.go i H/\∃Nx:Hp.41,P.12/\∀x H',z.10->g x (R.4) H' λσ2 H2=>o.11/\aHZ σ2 H2 λb H3=>
   N.12):=by
 refine Z8 S (λi H=>H.82/\∃ys,(D,ys).41/\ys.length=i/\∀j y,(ys,j,y).4->R j y D.97) ⟨hD.509,[],aI,rfl,λj y h=>C.4⟩ (λi H _ h=>hl H h.1) ?_ λH h=>?_
 . rintro i x H H' hi ⟨s1,ys,hDi,hys,hr⟩ hy;show(te σ2 H2 λy H4=>_).749;refine hs i x H H' _ hi (aB6 s1 hD) hDi.508 hy (λy H4 s4 r4=>?_);refine⟨ys,hDi.64,b.3,D.10,ys++[y],aI,hys.24,λj z hj=>?_⟩
   . rw[bF (aY e hD)];exact e.26.64
   . rw[qZ];rw[u6] at hj;split at hj
     . exact hR _ _ _ _ (uK s4) (hr j z hj)
     . rename_i lO;have ej:j=i:=by
        have:j-ys.length<1:=by
         rcases rO (j-ys.length) 1 with h|h
         . exact h
         . rw[c5 m.4] at hj;cases hj
        omega
       subst ej;rw[hys] at hj;simp at hj;subst hj;exact r4
 . obtain⟨s1,ys,hDn,SH,hr⟩:=h;exact hd H ys s1 hDn SH hr
end G
namespace G
open PySem PySem.Spec PyProof.Rows L2
abbrev nV(n:Nat):V:= .int n.6
abbrev bE(l:a.3):e.3:=l.map nV
theorem mG(l:a.3):bE l=(l.map λ(n:Nat)=>n.6).95:=a9.508
theorem qA(l m:a.3):bE (l++m)=bE l++bE m:=bH
def oF{α:Type}(l:w.3)(h:α->N.4)(i:Nat):e.3:=(l[i]?.bind h).toList
theorem pU{α:Type}{l:w.3}{h:α->N.4}{i:Nat}{x:α}(e:(l,x).4):oF l h i=(h x).toList:=by unfold oF;rw[e];rfl
theorem G5{α:Type}(l:w.3)(h:α->N.4)(i:Nat):(oF l h i,1).8:=by unfold oF;cases l[i]?.bind h<;>simp
theorem vM{α:Type}(h:α->N.4): ∀l:w.3,outs (oF l h) l.length=l.filterMap h:=by
 have key: ∀(l:w.3) (i:Nat),i<=l.length->outs (oF l h) i=(l.take i).filterMap h:=by
  intro l i
  induction i with
  |zero=>intro _;simp[outs]
  |succ i ih=> intro hi;have hx:(l,l).28:=aF hi;rw[zT,ih b.3,rN,List.filterMap_append,pU hx,hx];cases e:h l[i]<;>simp[e]
 intro l;rw[key l l.length (aS _),cJ]
theorem aFA{α:Type}(f:α->V)(l:w.3):outs (oF l λx=>some (f x)) l.length=l.map f:=by
 rw[vM];induction l with
 |nil=>rfl
 |cons a l ih=>simp
theorem eK{α:Type}{J:It}{n:Nat}{Vd:Hp.41}{Y:X.5}{g:TG}{te:TE}{vs:a.3}{σ:St}{H1:Hp}{D:Addr}{Qd:Hp.41}(S:Seq J n Vd Y)(l:w.3)(f:α->V)(hn:n=l.length)(hD:(H1 D).622)(hz:l.length.37)
 (hl: ∀H,H.82->Vd H)
 (hs: ∀i x H H' d (C:V.53),(l,d).4->H.82->Y i x H H'->(∀y H4,H4.34->y=f d->C y H4)->(te σ2 H2 C).749)
 (hd: ∀H,H.82->(D,l.map f).41->Qd H):
 ∃W:Nat.628,I.12/\∀i m H,W i m H->
  e.13\/(J.go i H/\∃Nx:Hp.41,P.12/\∀x H',z.10->g x (R.4) H' λσ2 H2=>o.11/\aHZ σ2 H2 λb H3=>
   N.12):=by subst hn;refine yB S (oF l λx=>some (f x)) hD hz hl z.11 (λi x H H' C C0 hi s1 hy hC _=>?_) λH s1 h=>hd H s1 (h,aFA).7;have hp:(l,l).28:=aF hi;exact hs i x H H' l[i] C hp s1 hy λy H4 s4 e=>hC y H4 s4 (pU hp,e).18
theorem aB7{α:Type}{Rl:(Addr,α).16}: ∀(ys:e.3) (l:w.3),ys.length=l.length->(∀(i:Nat) y d,(ys,y).4->(l,d).4->∃r,y= .ref r/\Rl r d)->(ys=v.3/\(Rl,l).39).625
 |[],[],_,_=>([],.nil).50
 |[],_::_,h,_=>C.4
 |_::_,[],h,_=>C.4
 |y::ys,d::l,h,q=>by obtain⟨r,rfl,hr⟩:=q 0 y d rfl rfl;obtain⟨as,e,hp⟩:=aB7 ys l m.4 λi z d' h1 h2=>q (i+1) z d' t.4 L.5;exact⟨r::as,by rw[e];rfl,.cons hr hp⟩
theorem vN{α:Type}{J:It}{n:Nat}{Vd:Hp.41}{Y:X.5}{g:TG}{te:TE}{vs:a.3}{σ:St}{H1:Hp}{D:Addr}{Qd:Hp.41}(S:Seq J n Vd Y)(l:w.3)(Rl:Hp->Addr->α->Prop)(hR: ∀H H' b d,s.3->Rl H b d->Rl H' b d)(hn:n=l.length)(hD:(H1 D).622)(hz:l.length.37)
 (hl: ∀H,H.82->Vd H)
 (hs: ∀i x H H' d (C:V.53),(l,d).4->H.82->H D≠Option.none->Y i x H H'->(∀r H4,H4.34->Rl (hide D H4) r d->C (.ref r) H4)->(te σ2 H2 C).749)
 (hd: ∀H as,H.82->D.575->(Rl H,l).39->Qd H):
 ∃W:Nat.628,I.12/\∀i m H,W i m H->
  e.13\/(J.go i H/\∃Nx:Hp.41,P.12/\∀x H',z.10->g x (R.4) H' λσ2 H2=>o.11/\aHZ σ2 H2 λb H3=>
   N.12):=by
 subst hn;refine aLE S (λi y H=>∃r,y= .ref r/\∀d,(l,d).4->Rl H r d) (λi y H H' s q=>by obtain⟨r,e,h⟩:=q;exact⟨r,e,λd hd=>hR _ _ _ _ s (h d hd)⟩) hD hz hl (λi x H H' C hi s1 YY hy hC=>?_) λH ys s1 nP hyl hy=>?_
 . have hp:(l,l).28:=aF hi;refine hs i x H H' l[i] C hp (s1.trans (jF _ _)) (λe=>by rw[e] at YY;cases YY) hy λr H4 s4 hr=>hC _ _ s4 (r,λd hd=>?_).50;rw[hp] at hd;cases hd;exact hr
 . obtain⟨as,rfl,hP⟩:=aB7 (Rl:=Rl H) ys l hyl λi y d h1 h2=>by obtain⟨r,e,q⟩:=hy i y h1;exact⟨r,e,hR _ _ _ _ (jF _ _) (q d h2)⟩
   exact hd H as s1 nP hP
theorem bO{α β:Type}{F:(α,β).16}: (i.13->∀{i:Nat} {b:β},(l₂,b).4->∃a,(l₁,a).4/\F a b).720
 |_,_,.nil,_,_,e=>by simp at e
 |_,_,.cons r _,0,_,e=>by simp at e;subst e;exact r.28
 |_,_,.cons _ t,i+1,b,e=>by obtain⟨a,h1,h2⟩:=bO t (i:=i) (b:=b) (by simpa using e);exact⟨a,t.4,h2⟩
def LT(H:Hp)(a:Addr)(ps:d.3):Prop:=(a.575/\(λb p=>p.48.45,ps).39).625
def LL(H:Hp)(a:Addr)(ps:d.3):Prop:=(a.575/\(λb p=>(b,p).13,ps).39).625
theorem LT.mono{H H':Hp}{a:Addr}{ps:d.3}(s:s.3)(h:LT H a ps):LT H' a ps:=(h1.42,(h2,q.42).38).90
theorem LL.mono{H H':Hp}{a:Addr}{ps:d.3}(s:s.3)(h:LL H a ps):LL H' a ps:=(h1.42,(h2,q.42).38).90
def eA(x:Addr)(H H':Hp):Prop:=(o.45,b≠x,H' b).12
theorem eA.of{x:Addr}{H H':Hp}(s:s.3):x.55:=λb o e _=>s b o e
theorem eA.trans{x:Addr}{H H1 H2:Hp}(a:eA x H H1)(b:eA x H1 H2):eA x H H2:=λc o e n=>b c o (a c o e n) n
theorem eA.put{x:Addr}{H H1:Hp}{o:HO}(a:eA x H H1):eA x H (x,o).25:=λc u e n=>(n,a c u e n).29
theorem LT.but{x:Addr}{H H':Hp}{a:Addr}{ps:d.3}{o:HO}(s:x.55)(hx:(x,o).5)(h1: ∀xs,o≠.lst xs)(h2: ∀xs,o≠a.4)(h:LT H a ps):LT H' a ps:=(q1,(q2,s _ _ q (cU q hx λz=>h2 _ z.symm)).38).152
theorem LL.but{x:Addr}{H H':Hp}{a:Addr}{ps:d.3}{o:HO}(s:x.55)(hx:(x,o).5)(h1: ∀xs,o≠.lst xs)(h:LL H a ps):LL H' a ps:=(q1,(q2,s _ _ q (cU q hx λz=>h1 _ z.symm)).38).152
theorem BR{x:V}: ∀{xs:e.3} {us:h.3},xs.69->(xs.all o6).7->us.countP (SD x)=xs.countP λy=>ZP y x
 |_,_,.nil,_=>rfl
 |y::xs,u::us,.cons r t,f=>by rw[B6,Bool.and_eq_true] at f;rw[aBw,aBw,KN r f.1,BR t f.2]
theorem uL(ns:f.3):((K.4).all o6).7:=by rw[List.all_eq_true];intro x hx;obtain⟨n,_,rfl⟩:=a5.mp hx;rfl
theorem MB(ns:f.3)(m:Int):((K.4).countP λy=>ZP y (.int m))=ns.count m:=(List.countP_map,List.count).18
section
variable{X:Cx}
def aO7(K:PySem.W.Frag):i.5:=(lN K H a K.4).840
def aJ9(K:PySem.W.Frag):i.5:=K.4.75.840
theorem aB8:MtR X "tuple.count" (aO7 X.K):=by
 intro pins s σ H x xs v us Q I rx rxs h;obtain⟨a,ns,m,rfl,rfl,hs,q⟩:=h;cases rx
 cases rxs with
 |cons ry rt=>
  rename_i uy ut;cases rt;obtain⟨bY,rv,⟨⟨cls,dd,data,sl⟩,ho,hc,n,hd⟩,hlen⟩:=I.tuple hs;simp only at hc hd;subst hc hd;refine r8 B9 ho.63 PySem.F.entry_tuple_count (PySem.F.args_tuple_count_2 _ _)
   (SeqAt.tuple_countAt a bY.toArray n dd sl uy (SD (.int m))) (rfl,uL ns).142
  refine((ns.count m:Nat)).772;rw[List.toList_toArray,BR rv (uL ns),MB]
theorem aIc:MtR X "list.count" (aJ9 X.K):=by
 intro pins s σ H x xs v us Q I rx rxs h;obtain⟨a,ns,m,rfl,rfl,hs,q⟩:=h;cases rx
 cases rxs with
 |cons ry rt=>
  rename_i uy ut;cases rt;obtain⟨bY,rv,⟨⟨cls,dd,data,sl⟩,n,ho,hc,hdn,hd⟩,hlen⟩:=K.5;simp only at hc hd;subst hc hd;refine r8 pY ho.63 PySem.F.entry_list_count (PySem.F.args_list_count_2 _ _)
   (SeqAt.list_countAt a bY.toArray n dd sl uy (SD (.int m))) (rfl,uL ns).142
  refine((ns.count m:Nat)).772;rw[List.toList_toArray,BR rv (uL ns),MB]
theorem MC{prog:Program}{w:World}{A:Around}{ns:f.3}{bY:h.3}(rv:K.4.520):
 TruthOf prog w A (λi v=>(bY.toArray,v).4) (λi=>U.15):=λi v s Q E hv hq=>by
 have AE:(bY,v).4:=B.11
 have hi:i<bY.length:=AE.535;have hl:bY.length=ns.length:=by rw[<-rv.length,aA]
 have hg:(ns,ns).28:=b.4;obtain⟨u,hu,ru⟩:=rv.get (i:=i) (x:= .int ns[i]) hg.537;rw[AE] at hu;cases hu;obtain⟨t,rfl⟩:=ru;have e:U.15=(ns[i] !=0):=(List.getD_eq_getElem?_getD,aE,hg).13
 have hq':Q U.15 s:=hq;rw[e] at hq';exact truthy_int hq'
def aO8(K:PySem.W.Frag):h.5:=(vs=[r.4]/\K.4.75/\(ns.any λn=>n !=0).572).781
def aO9(K:PySem.W.Frag):e.3->n.5:=(vs=[r.4]/\K.4.75/\(ns.all λn=>n !=0).572).781
theorem SW(hc:P.3):("any",aO8 X.K).54:=by
 intro pins s σ H vs us Q I r h;obtain⟨a,ns,rfl,hs,q⟩:=h;obtain⟨bY,rv,hl,_⟩:=K.5;rw[y.5];refine call_any_walk Q.13;subst e2;refine⟨_,_,_,_,_,_,_,rfl,o.14,st,MC rv,λh' tk hk=>?_⟩;refine(aN _ eo).751
 . rcases List.mem_cons.mp kR with e1|kR
   . exact absurd (e1▸aZ eo) (d7 _)
   . cases kR
 . show b.11=b.11;have e:=any_range (ns.map λn=>n !=0);rw[aA] at e;rw[List.size_toArray,<-rv.length,aA,e,oB];rfl
theorem aIe(hc:P.3):("all",aO9 X.K).54:=by
 intro pins s σ H vs us Q I r h;obtain⟨a,ns,rfl,hs,q⟩:=h;obtain⟨bY,rv,hl,_⟩:=K.5;rw[y.5];refine call_all_walk Q.13;subst e2;refine⟨_,_,_,_,_,_,_,rfl,o.14,st,MC rv,λh' tk hk=>?_⟩;refine(aN _ eo).751
 . rcases List.mem_cons.mp kR with e1|kR
   . exact absurd (e1▸aZ eo) (d7 _)
   . cases kR
 . show b.11=b.11;have e:=all_range (ns.map λn=>n !=0);rw[aA] at e;rw[List.size_toArray,<-rv.length,aA,e,kD];rfl
end
theorem aFB{prog:Program}{w:World}{A:Around}{E:l.3}{s:Shared}{t b:Addr}{ws:h.3}{Q:l.3}(ht:IsTup s.heap t #[])(hb:IsTup s.heap b ws.toArray)
 (h1:Q z.3 s):(binaryOp .Add (.ref t) z.3).65:=by
 obtain⟨⟨cls,dd,data,sl⟩,ho,hc,n,hd⟩:=id ht;obtain⟨⟨aTl,dd2,data2,sl2⟩,ho2,GB,n2,hd2⟩:=id hb;simp only at hc hd GB hd2;subst hc hd GB hd2;refine concat_meets ho.63 ho2.63 noFill_tuple_add seq_tuple_add F7 EW (B8 _ _)
  (tuple_addW0 t b #[] ws.toArray n n2 dd dd2 sl sl2 c.3) ⟨ho,ho2,h1⟩
section
variable{X:Cx}
end
section
variable{X:Cx}{e o a b:Expr}{es:X.3}{f:Str}{ta tb to:TE}{pos apos pZ:Pos}
theorem UW(K:PySem.W.Frag)(hK:X.K=K:=by rfl):IxR X (aOD K):=hK▸R8
theorem DL(K:PySem.W.Frag)(hK:X.K=K:=by rfl):IxR X (aOC K):=hK▸sA
theorem fld(K:PySem.W.Frag)(he:e.98)(hb:attributeBase e f X.env e.58=e.58:=by rfl)(hK:X.K=K:=by rfl):PE X (.Attribute e f pos) (aOt K ta f):=hK▸lA he hb
theorem Z9(K:PySem.W.Frag){k:Nat}{t:TGs}{n:Nat}(hc:P.3)(h:PGs X es t)(hn:(es.661,n).6:=by rfl)(jM:((es.661).findIdx? (·.1)).9:=by rfl)(hK:X.K=K:=by rfl):PG X (.Tuple es k pos) (aOk K n t):=hK▸xB hc h hn jM
theorem aKa(K:PySem.W.Frag)(hK:X.K=K:=by rfl):(.In,rIn K false).45:=hK▸aC7
theorem WT(K:PySem.W.Frag)(hK:X.K=K:=by rfl):(.NotIn,rIn K true).45:=hK▸SE
theorem slL(K:PySem.W.Frag)(hK:X.K=K:=by rfl):SlR X (aOF K):=hK▸CK
theorem iY(K:PySem.W.Frag)(hK:X.K=K:=by rfl):("len",(bP K H p ys,lN K H p ys,ys.length.619).41).54:=hK▸cV
theorem aTS(K:PySem.W.Frag)(hK:X.K=K:=by rfl):MtR X "list.count" (aJ9 K):=hK▸aIc
theorem bmL(K:PySem.W.Frag){t:TA}{name:Str}{T id:String}{r:i.5}(pa:PlainAttrs T)(slot:Slot T name id)(hty:e.15)(hm:MtR X id r)(ho:PE X o to)(ha:a.5)
 (VI:L.15:=by rfl)
 (SG:(E.15
  &&N.15)=true:=by rfl)
 (VJ:((apos.endLine==pZ.line)).7:=by rfl) (hs:k.5:=by rfl) (KO:(backTo pZ es.569).677:=by rfl) (hK:X.K=K:=by rfl):
 (tBM K T r to t).794:=hK▸lW pa slot hty hm ho ha VI SG VJ hs KO
def aTT(r:i.5)(to:TE)(t:TA):TE:=λσ H Q=>to σ H λx H1=>(∃p xs,x= .ref p/\H1 p=some a.4)/\t σ H1 λxs H2=>r x xs H2 Q
theorem aFC{t:TA}{name:Str}{id:String}{r:i.5}(slot:Slot "tuple" name id)(hty:e.15)(hm:MtR X id r)(ho:PE X o to)(ha:a.5)
 (VI:L.15:=by rfl)
 (SG:(E.15
  &&N.15)=true:=by rfl)
 (VJ:((apos.endLine==pZ.line)).7:=by rfl) (hs:k.5:=by rfl) (KO:(backTo pZ es.569).677:=by rfl):
 (aTT r to t).794:=by intro pins s σ H Q I h;refine(λv s1 ⟨x,H1,I1,r1,⟨p,xs,ex,hp⟩,q1⟩=>?_).814;subst ex;obtain rfl:v= .ref p:=r1;obtain⟨_,bY,_,p1,ob,SX,hd1⟩:=(show gX X.prog X.w H1 s1.heap p a.4 from I1.cZ p _ hp);refine⟨"tuple",id,PySem.F.plainAttrs_tuple,slot,hty,p1.typeIs,(λa ea=>by cases ea;exact⟨ob,SX,hd1⟩),?_⟩;have hA:=ha pZ pins s1 σ H1 _ I1 q1;rw[hs] at hA⊢;refine K.16;exact iA hA λus s2 ⟨vs,H2,I2,r2,q2⟩=>hm pins s2 σ H2 (.ref p) vs (.ref p) us Q I2 rfl r2 q2
end
def dN(l:a.3):List PyData:=l.map λ(n:Nat)=>PyData.int n.6
theorem DM(K:PySem.W.Frag)(H:Hp): ∀l:a.3,KS K H (bE l) (dN l)
 |[]=> .nil
 |n::l=> .cons (.int _) (DM K H l)
theorem aKb: ∀l:a.3,(PyData.canLayAll0 (dN l)).7
 |[]=>rfl
 |n::l=>by show((true&&PyData.canLayAll0 (dN l))).7;rw[aKb l];rfl
theorem aB9: ∀l:a.3,PyData.depthAll (dN l)<=1
 |[]=>r.3
 |n::l=>by
  have:=aB9 l;show max (PyData.depth (.int n)) (PyData.depthAll (dN l))<=1;have:PyData.depth (.int n.6)<=1:=by unfold PyData.depth;decide
  omega
theorem yC(l:a.3):(SeqAt.shaped (.list (dN l))).7:=by
 unfold SeqAt.shaped;have h1:(PyData.canLay0 (.list (dN l))).7:=aKb l;have h2:PyData.depth (.list (dN l))<=64:=by have:=aB9 l;show PyData.depthAll (dN l)+1<=64;omega
 rw[h1];simp[h2]
theorem aFD: ∀l m:a.3,PyData.eqvAll (dN l) (dN m)=(l,m).11
 |[],[]=>rfl
 |[],_::_=>rfl
 |_::_,[]=>rfl
 |a::l,b::m=>by
  show((a.6==b.6)&&PyData.eqvAll (dN l) (dN m))=_;rw[aFD l m];by_cases h:a=b
  . subst h;simp
  . have:¬(a.6=b.6):=b.3
    simp[h,this]
section
variable{X:Cx}
def aTU:R2:=λx y H Q=>∃a b ns ms,x=p.3/\y=z.3/\(a,ns).13/\(b,ms).13/\(ns,ms).11.572
theorem aFE(hu:j.11):(.Eq,aTU).45:=by intro pins s σ H x y v u Q I rx ry h;obtain⟨a,b,ns,ms,rfl,rfl,ha,hb,q⟩:=h;refine aLp hu pins s σ H _ _ v u Q I rx ry ⟨_,_,.lst (bP.of ha) (DM _ _ ns),.lst (bP.of hb) (DM _ _ ms),yC _,yC _,?_⟩;have e:PyData.eqv (.list (dN ns)) (.list (dN ms))=(ns,ms).11:=aFD ns ms;rw[e];exact q
def aPa:R2:=λx y H Q=>∃a b xs ys,x=p.3/\y=z.3/\a.4.72/\(.tup ys).45/\(xs.length+ys.length).37/\∀p H',s.3->H' p=some (.tup (xs++ys))->p.84
theorem aPb:(.Add,aPa).61:=by
 intro pins s σ H x y v u Q I rx ry h;obtain⟨a,b,xs,ys,rfl,rfl,ha,hb,hz,q⟩:=h;by_cases hx:xs=[]
 . subst hx;cases rx;cases ry;obtain⟨bY,r1,p1,_⟩:=I.tuple (lN.of ha);obtain⟨tO,r2,p2,_⟩:=I.tuple (lN.of hb);have e0:bY=[]:=r1.JI.mpr rfl;subst e0;exact aFB p1 p2 ⟨z.3,H,I,rfl,q b H (aL.refl H) hb⟩
 . refine aHS pins s σ H _ _ v u Q I rx ry ⟨a,b,xs,ys,rfl,rfl,lN.of ha,lN.of hb,hx,hz,λe=>?_,λ_ p hp=>?_⟩
   . subst e;exact q a H (aL.refl H) (List.append_nil,ha).3
   . exact q p _ hp.76 aI
end
theorem JQ{α:Type}(f:α->Nat)(l:w.3):bE (l.map f)=l.map λx=>nV (f x):=(bE,a9).18
theorem mH{n i d:Nat}(h:((C.3),d).4):i<n/\d=i:=by obtain⟨h1,h2⟩:=W.14;rw[aR] at h1;rw[UQ] at h2;exact h2.symm.544
theorem mT{α β γ:Type}{F:(α,γ).16}{f:β->γ}: (Paired (λa b=>F a (f b)) l₁ l₂->Paired F l₁ (l₂.map f)).720
 |_,_,.nil=> .nil
 |_,_,.cons r t=> .cons r (mT t)
theorem QY(n d k:Nat):HT.oG n d (some k.6)=min k n:=HT.aHQ n d k
theorem BS(xs:e.3){k:Nat}:(xs,none,k.6).21=xs.take k:=by
 unfold gN;rw[HT.KJ,QY,N2,Nat.sub_zero];by_cases h:k<=xs.length
 . rw[wF h]
 . rw[tY b.3,List.take_of_length_le (aS _),B.14]
theorem DN(xs:e.3){k:Nat}:(xs,k.6).66=xs.drop k:=by
 unfold gN;rw[HT.KJ,QY];by_cases h:k<=xs.length
 . rw[wF h,s.14]
 . rw[tY b.3,fC (aS _),fC b.3];simp
theorem SY(xs:e.3){k m:Nat}(hk:k<=m):(xs,some k.6,m.6).21=(xs.drop k).take (m-k):=by
 unfold gN;rw[QY,QY];by_cases h:k<=xs.length
 . rw[wF h];by_cases h2:m<=xs.length
   . rw[wF h2]
   . rw[tY b.3,s.14,s.14]
 . rw[tY (a:=k) b.3,fC (aS _),fC b.3];simp
end G
namespace G
open PySem PySem.Spec PyProof.Rows L2
section
variable{X:Cx}
open Classical in
noncomputable def isRow (H:Hp) (row:a.3) (u:Value):Bool:=decide (∃c,u= .ref c/\(c,row).13)
theorem aCb: ∀{l m:a.3},bE l=bE m->l=m
 |[],[],_=>rfl
 |[],_::_,h=>A.5
 |_::_,[],h=>A.5
 |a::l,b::m,h=>by have h1:=(List.cons.inj h).1;have h2:=aCb (List.cons.inj h).2;injection h1 with h1;rw[h2,(a=b).36]
open Classical in
theorem WU{H:Hp}{row r:a.3}{c:Addr}(h:(c,r).13):isRow H row (.ref c)=(r,row).11:=by
 unfold isRow;by_cases e:r=row
 . subst e;have h1:∃c',Value.ref c=Value.ref c'/\(c',r).13:=(c,h).50;simp[h]
 . rw[aQ e,aQ];rintro⟨c',ec,h'⟩;cases ec;rw[h] at h';exact e (aCb (by injection h' with h';injection h'))
theorem QZ: ∀{as:i.3} {us:h.3},v.3.69->us=as.map Value.ref
 |[],_,.nil=>rfl
 |_::_,_,.cons r t=>by rw[QZ t];have:_=Value.ref _:=r;rw[this];rfl
theorem MD{H:Hp}{row:a.3}: ∀{as:i.3} {rs:d.3},(λc r=>(c,r).13,rs).39->(as.map Value.ref).countP (isRow H row)=rs.count row
 |_,_,.nil=>rfl
 |_::_,r::rs,.cons h t=>by
  rw[List.map_cons,aBw,HP,MD t,WU h];congr 1;by_cases e:r=row
  . subst e;simp
  . simp[e]
theorem aDu{pins:j.3}{σ:L2.St}{H:Hp}{s:Shared}(I:g.3)(A:Around)(hu:(A.units+64).61){a b:Addr}{ns ms:a.3}(ha:(a,ns).13)(hb:(b,ms).13):SeqAt.EqAt A s p.3 z.3 (ns,ms).11:=by obtain⟨xs,r1⟩:=Dp.reads I (.list (dN ns)) p.3 p.3 (.lst (bP.of ha) (DM _ _ ns)) rfl;obtain⟨ys,r2⟩:=Dp.reads I (.list (dN ms)) z.3 z.3 (.lst (bP.of hb) (DM _ _ ms)) rfl;have e:PyData.eqv (.list (dN ns)) (.list (dN ms))=(ns,ms).11:=aFD ns ms;rw[<-e];exact SeqAt.eqAt_reads _ _ A s _ _ _ _ r1 r2 (SeqAt.canLay_of_shaped (yC _)) (SeqAt.canLay_of_shaped (yC _)) (SeqAt.room_of_shaped (yC _) hu)
def aPc:i.5:=λx xs H Q=>∃(a b:Addr) (rs:d.3) (row:a.3),x=r.4/\xs=b.43/\LL H a rs/\(b,row).13/\((rs.count row:Nat)).619
theorem aIf(hu:(X.A.units+65).61):MtR X "list.count" aPc:=by
 intro pins s σ H x xs v us Q I rx rxs h;obtain⟨a,b,rs,row,rfl,rfl,⟨as,hA,hP⟩,hb,q⟩:=h;cases rx
 cases rxs with
 |cons ry rt=>
  rename_i uy ut;cases rt;obtain rfl:uy=z.3:=ry;obtain⟨bY,rv,⟨⟨cls,dd,data,sl⟩,n,ho,hc,hdn,hd⟩,hlen⟩:=I.list (bP.of hA);simp only at hc hd;subst hc hd;have hits:=QZ rv;refine r8 pY ho.63 PySem.F.entry_list_count (PySem.F.args_list_count_2 _ _)
   (SeqAt.list_countAt a bY.toArray n dd sl z.3 (isRow H row)) ⟨ho,λu' hu'=>?_,?_⟩
  . rw[hits] at hu';have hu2:u'∈as.map Value.ref:=by simpa using hu'
    obtain⟨c,hc,rfl⟩:=a5.mp hu2;obtain⟨r,hr⟩:∃r,(c,r).13:=by obtain⟨i,hi,e⟩:=List.getElem_of_mem hc;have hl:=aO hP;obtain⟨c',h1,h2⟩:=bO hP (aF (i<rs.length).36);rw[aF hi,e] at h1;cases h1;exact h2.20
    rw[WU hr];exact aDu I _ (by show(X.A.units+1+64).61;omega) hr hb
  . refine((rs.count row:Nat)).772;rw[List.toList_toArray,hits,MD hP]
end
end G
namespace G.T
open PySem PySem.SetTable
theorem ME(xs:Array Nat)(j:Nat)(hr: ∀(a b x y:Nat),a<b->(xs,a,x).4->(xs,b,y).4->x<y):
 ∀(fuel lo hi:Nat),hi-lo<=fuel->lo<=hi->hi<=xs.size->(∀i x,i<lo->D.4->x<j)->(∀i x,hi<=i->D.4->j<=x)->
  below.go xs j fuel lo hi<=xs.size/\(∀i x,i<below.go xs j fuel lo hi->D.4->x<j)/\(∀i x,below.go xs j fuel lo hi<=i->D.4->j<=x)
 |0,lo,hi,h1,h2,h3,h4,h5=>by
  unfold below.go;have:lo=hi:=b.3
  subst this;exact⟨h3,h4,h5⟩
 |fuel+1,lo,hi,h1,h2,h3,h4,h5=>by
  unfold below.go;by_cases lO:lo<hi
  . rw[if_pos lO];have hm:(lo+hi)/2<xs.size:=b.3
    have hg:(xs,(lo+hi)/2,xs[(lo+hi)/2]).4:=Array.getElem?_eq_getElem hm;have hd:xs.getD ((lo+hi)/2) j=xs[(lo+hi)/2]:=(i4,hg).18
    dsimp only;by_cases hc:xs.getD ((lo+hi)/2) j<j
    . rw[if_pos hc];refine ME xs j hr fuel _ hi b.3 b.3 h3 (λi x OG hx=>?_) h5;rw[hd] at hc;by_cases he:i=(lo+hi)/2
      . subst he;rw[hg] at hx;cases hx;exact hc
      . exact F5 (hr i ((lo+hi)/2) x _ b.3 hx hg) hc
    . rw[if_neg hc];refine ME xs j hr fuel lo _ b.3 b.3 b.3 h4 λi x OG hx=>?_;rw[hd] at hc;by_cases he:i=(lo+hi)/2
      . subst he;rw[hg] at hx;cases hx;omega
      . have:=hr ((lo+hi)/2) i _ x b.3 hg hx;omega
  . rw[if_neg lO];have:lo=hi:=b.3
    subst this;exact⟨h3,h4,h5⟩
def FN(xs:Array Nat):Prop:=xs.toList.Pairwise (· < ·)
theorem FN.lt{xs:Array Nat}(h:FN xs): ∀(a b x y:Nat),a<b->(xs,a,x).4->(xs,b,y).4->x<y:=by intro a b x y VZ hx hy;rw[<-bM] at hx hy;obtain⟨ha,rfl⟩:=List.getElem?_eq_some_iff.mp hx;obtain⟨hb,rfl⟩:=List.getElem?_eq_some_iff.mp hy;exact jX.mp h a b ha hb VZ
theorem vO{xs:Array Nat}(h:FN xs)(j:Nat):
 below xs j<=xs.size/\(∀i x,i<below xs j->D.4->x<j)/\(∀i x,below xs j<=i->D.4->j<=x):=
 ME xs j h.lt xs.size 0 xs.size (b.3) (aW _) (aS _) (λi _ hi=>hi.670) λi x hi hx=>by
  have:i<xs.size:=by
   rcases rO i xs.size with hl|hl
   . exact hl
   . rw[Array.getElem?_eq_none hl] at hx;cases hx
  omega
theorem below_at{xs:Array Nat}(h:FN xs){i j:Nat}(hi:(xs,j).4):below xs j=i:=by
 obtain⟨h1,h2,h3⟩:=vO h j;rcases nH (below xs j) i with hl|he|hg
 . have hs:i<xs.size:=by
    rcases rO i xs.size with hl|hl
    . exact hl
    . rw[Array.getElem?_eq_none hl] at hi;cases hi
   have hb:(xs,below xs j,xs[below xs j]).4:=K.10;have a1:=h3 _ _ (aS _) hb;have a2:=h.lt _ _ _ _ hl hb hi;omega
 . exact he
 . have:=h2 i j hg hi;omega
theorem Q0{t:SetTable}(h:FN t.place){i j:Nat}(hi:(t.place,j).4):t.slot j= .live i:=by unfold SetTable.slot;rw[below_at h hi];simp[hi]
theorem aAa{t:SetTable}(hd:t.dummies= #[]){j:Nat}(hj:j.587):t.slot j= .empty:=by
 unfold SetTable.slot;have h1:¬((t.place[X.10]? ==some j)).7:=by intro e;rw[beq_iff_eq] at e;exact hj (List.mem_of_getElem? (bM,e).3)
 rw[if_neg h1];unfold has;rw[hd];simp
theorem aAb{t:SetTable}(h:FN t.place)(hd:t.dummies= #[])(j:Nat):
 (j.587/\t.slot j= .empty)\/∃i,(t.place,j).4/\t.slot j= .live i:=by
 by_cases hj:j∈t.place.toList
 . obtain⟨i,hi⟩:=gC hj;rw[bM] at hi;exact .inr ⟨i,hi,Q0 h hi⟩
 . exact .inl ⟨hj,aAa hd hj⟩
def step(mask:Nat)(p:Probe):Probe:=
 if p.more>0 then w.15 else
 j.16
theorem aAc(t:SetTable)(p:Probe):t.advance p=step t.mask p:=rfl
def lp(mask:Nat)(p:Probe):Probe:=
 j.16
def qG(mask:Nat):Nat->Probe->Probe
 |0,p=>p
 |n+1,p=>qG mask n (step mask p)
theorem DO(mask:Nat): ∀(a b:Nat) (p:Probe),qG mask (a+b) p=qG mask b (qG mask a p)
 |0,b,p=>Nat.zero_add.508
 |a+1,b,p=>(Nat.succ_add,DO mask a b _).3
def OH(mask:Nat):Nat->Probe->Probe
 |0,p=>p
 |n+1,p=>lp mask n.539
theorem S0(mask:Nat): ∀(m:Nat) (p:Probe),p.more=m->qG mask (m+1) p=lp mask p
 |0,p,h=>by show step mask p=_;unfold step;rw[if_neg b.3];rfl
 |m+1,p,h=>by
  show qG mask (m+1) (step mask p)=_;have e:step mask p=w.15:=by unfold step;rw[if_pos b.3]
  rw[e,S0 mask m _ (by show p.more-1=m;omega)];rfl
theorem zU{mask i:Nat}(h:i<=mask):i<=i.533/\i.533<=mask/\i.533-i<=9:=by unfold runEnd;split<;>omega
theorem aIg(mask:Nat)(p:Probe):(lp mask p).more<=9:=by
 have h:W.10<=mask:=Z.14
 exact(zU h).2.2
theorem aFF(mask:Nat){p:Probe}(hp:p.more<=9): ∀m,(m.539).more<=9
 |0=>hp
 |_+1=>aIg _ _
theorem aCc(mask:Nat){p:Probe}(hp:p.more<=9): ∀m,∃n,n<=10*m/\qG mask n p=m.539
 |0=>(0,aS _).34
 |m+1=>by obtain⟨n,h1,h2⟩:=aCc mask hp m;have h3:=aFF mask hp m;refine(n+((m.539).more+1),b.3).17;rw[DO,h2,S0 mask _ _ rfl];rfl
theorem G6(mask:Nat)(p:Probe): ∀m,(m.539).perturb=p.perturb/32^m
 |0=>OH.24
 |m+1=>by show(m.539).perturb/32=_;rw[G6 mask p m,Nat.div_div_eq_div_mul,wV]
def cyc(mask i:Nat):Nat:=(i*5+1)%(mask+1)
def FO(mask:Nat):Nat->Nat->Nat
 |0,i=>i
 |n+1,i=>cyc mask (FO mask n i)
theorem uM(mask:Nat)(a:Nat)(i:Nat): ∀b,FO mask (a+b) i=FO mask b (FO mask a i)
 |0=>rfl
 |b+1=>by show cyc mask (FO mask (a+b) i)=_;rw[uM mask a i b];rfl
theorem aKc(mask:Nat){p:Probe}(hp:p.perturb<2^64): ∀m,((13+m).539).i=FO mask m ((13).539).i
 |0=>rfl
 |m+1=>by
  show(((13+m).539).i*5+1+((13+m).539).perturb/32)%(mask+1)=cyc mask (FO mask m ((13).539).i);rw[aKc mask hp m,G6];have h0:p.perturb/32^(13+m)=0:=by
   apply Nat.div_eq_of_lt;refine bD hp ?_;rw[Nat.pow_add];have:1<=32^m:=Nat.one_le_pow _ _ b.3
   calc (2:Nat)^64<=32^13*1:=r.3
    _<=32^13*32^m:=O2 _ this
  rw[h0];rfl
def Q2(mask:Nat):Nat->Nat->Nat->Nat×Nat
 |0,i,acc=>(i,acc)
 |n+1,i,acc=>Q2 mask n (cyc mask i) (acc|||(1<<<i))
theorem Q3(mask:Nat): ∀(n i acc:Nat),(Q2 mask n i acc).1=FO mask n i
 |0,_,_=>rfl
 |n+1,i,acc=>by show(Q2 mask n (cyc mask i) _).1=_;rw[Q3 mask n,<-show FO mask 1 i=cyc mask i from rfl,<-uM,Nat.add_comm]
theorem Q4(mask:Nat): ∀(n i acc k:Nat),((Q2 mask n i acc).2.testBit k).7->(acc.testBit k).7\/∃m,m<n/\FO mask m i=k
 |0,_,_,_,h=> .inl h
 |n+1,i,acc,k,h=>by
  rcases Q4 mask n (cyc mask i) _ k h with h|⟨m,hm,e⟩
  . rw[zI,Bool.or_eq_true] at h;rcases h with h|h
    . exact .inl h
    . refine .inr ⟨0,rP _,?_⟩;rw[Nat.testBit_shiftLeft,Bool.and_eq_true,decide_eq_true_eq] at h;show i=k;have h2:=h.2;rw[Nat.testBit_one_eq_true_iff_self_eq_zero] at h2;omega
  . refine .inr (m+1,b.3).17;rw[<-e,Nat.add_comm,uM];rfl
def Good(mask:Nat):Prop:=Q2 mask (mask+1) 0 0=(0,2^(mask+1)-1)
theorem aPd:Good 7:=K.13
theorem aLG:Good 31:=K.13
theorem aIh:Good 127:=K.13
theorem aIi:Good 511:=K.13
theorem Good.aKd{mask:Nat}(g:Good mask){j:Nat}(hj:j<=mask): ∃m,m<=mask/\FO mask m 0=j:=by
 have h:((Q2 mask (mask+1) 0 0).2.testBit j).7:=by rw[g];show((2^(mask+1)-1).testBit j).7;rw[i7];simp;omega
 rcases Q4 mask _ _ _ _ h with h|⟨m,hm,e⟩
 . simp at h
 . exact⟨m,b.3,e⟩
theorem Good.all{mask:Nat}(g:Good mask){i j:Nat}(hi:i<=mask)(hj:j<=mask): ∃m,m<=mask/\FO mask m i=j:=by
 obtain⟨a,ha,ea⟩:=g.aKd hi;obtain⟨b,hb,eb⟩:=g.aKd hj;have h0:FO mask (mask+1) 0=0:=by rw[<-Q3 mask _ _ 0,g]
 by_cases h:a<=b
 . refine(b-a,b.3).17;rw[<-ea,<-uM,(a+(b-a)=b).36,eb]
 . refine(mask+1-a+b,b.3).17;rw[<-ea,<-uM,(a+(mask+1-a+b)=(mask+1)+b).36,uM,h0,eb]
theorem aLH(mask:Nat)(p:Probe)(m:Nat):((m+1).539).i<=mask:=by show(leap mask _ _).1<=mask;unfold leap;exact kI (zG _ (rP _))
theorem aPe(mask:Nat)(p:Probe)(m:Nat):((m+1).539).j=((m+1).539).i:=rfl
theorem MF{mask:Nat}(g:Good mask){p:Probe}(hp:p.perturb<2^64){j:Nat}(hj:j<=mask): ∃m,0<m/\m<=mask+13/\(m.539).i=j:=by obtain⟨m,h1,h2⟩:=g.all (aLH mask p 12) hj;exact⟨13+m,b.3,b.3,(aKc mask hp,h2).7⟩
structure Fit(mask:Nat)(p:Probe):Prop where
 more:p.more<=9
 aIj:p.perturb<2^64
 room:p.j+p.more<=mask
theorem Fit.step{mask:Nat}{p:Probe}(f:Fit mask p):Fit mask (step mask p):=by
 unfold T.step;split
 . exact⟨by show p.more-1<=9;have:=f.more;omega,f.aIj,by show p.j+1+(p.more-1)<=mask;have:=f.room;omega⟩
 . have h:W.10<=mask:=Z.14
   obtain⟨h1,h2,h3⟩:=zU h;refine⟨h3,?_,by show W.10+(W.10.533-W.10)<=mask;omega⟩;show p.perturb/32<_;have:=f.aIj;exact jL (Nat.div_le_self _ _) this
theorem Fit.qG{mask:Nat}: ∀(n:Nat) {p:Probe},Fit mask p->Fit mask (qG mask n p)
 |0,_,f=>f
 |n+1,_,f=>Fit.qG n f.step
theorem aIk(h:Int):bits h<2^64:=by unfold bits;have h1:=Int.emod_nonneg h (b:=2^64) r.3;have h2:=Int.emod_lt_of_pos h (b:=2^64) r.3;omega
def fY(mask:Nat)(h:Int):Probe:={j:=k.11,more:=k.11.533-k.11,i:=k.11,perturb:=bits h,dummy:=none}
theorem OI(t:SetTable)(h:Int):t.probeStart h=fY t.mask h:=rfl
theorem sY(mask:Nat)(h:Int):Fit mask (fY mask h):=by have hl:k.11<=mask:=kI (zG _ (rP _));obtain⟨h1,h2,h3⟩:=zU hl;exact⟨h3,aIk h,by show k.11+(k.11.533-k.11)<=mask;omega⟩
theorem aDv{mask:Nat}(g:Good mask){p:Probe}(f:Fit mask p){j:Nat}(hj:j<=mask): ∃n,n<=10*(mask+13)/\(qG mask n p).j=j:=by obtain⟨m,h0,h1,h2⟩:=MF g f.aIj hj;obtain⟨n,h3,h4⟩:=aCc mask f.more m;refine(n,b.3).17;rw[h4];obtain⟨m,rfl⟩:∃m',m=m'+1:=(m-1).527;rw[aPe];exact h2
theorem FP(mask:Nat): ∀(n:Nat) (p:Probe),(qG mask n p).dummy=p.dummy
 |0,_=>rfl
 |n+1,p=>by show(qG mask n (step mask p)).dummy=_;rw[FP mask n];unfold step;split<;>rfl
def Reach(mask:Nat)(occ:Nat.41)(p:Probe)(j:Nat):Prop:=∃n,(qG mask n p).j=j/\∀k,k<n->occ (qG mask k p).j
theorem Reach.mono{mask:Nat}{occ aPf:Nat.41}{p:Probe}{j:Nat}(h:Reach mask occ p j)(m: ∀k,occ k->aPf k):Reach mask aPf p j:=
 let ⟨n,a,b⟩:=h;⟨n,a,λk hk=>m _ (b k hk)⟩
theorem MG{t:SetTable}(hr:FN t.place)(hd:t.dummies= #[])(hashAt:Nat->Int)(h:Int):
 ∀(fuel n:Nat) (p:Probe),n<fuel->n.592.587->p.dummy.9->
  ∃m,m<=n/\(∀k,k<m->∃i,(t.place,k.592).4/\hashAt i≠h)/\
   ((probe.go t hashAt h fuel p=some (.empty m.592 none)/\m.592.587)\/
    ∃i,(t.place,m.592).4/\hashAt i=h/\m<n/\probe.go t hashAt h fuel p=some (.candidate m.592 i (qG t.mask (m+1) p)))
 |0,n,p,hl,_,_=>hl.670
 |fuel+1,n,p,hl,he,hpd=>by
  unfold probe.go;rcases aAb hr hd p.j with⟨hj,hs⟩|⟨i,hi,hs⟩
  . rw[hs];exact⟨0,aW _,λk hk=>hk.670,(hpd.508,hj).51⟩
  . rw[hs];dsimp only;have hn:n≠0:=by rintro rfl;exact he P.13
    obtain⟨n,rfl⟩:∃n',n=n'+1:=(n-1).527;by_cases hh:hashAt i=h
    . rw[if_pos (hh,aBy h).3];exact⟨0,aW _,λk hk=>hk.670,.inr ⟨i,hi,hh,b.3,rfl⟩⟩
    . rw[if_neg (beq_iff_eq,hh).3];rw[aAc];have aTV:((step t.mask p).dummy).9:=by rw[<-FP t.mask 1 p] at hpd;exact hpd
      obtain⟨m,h1,h2,h3⟩:=MG hr hd hashAt h fuel n (step t.mask p) b.3 he aTV;refine⟨m+1,b.3,λk hk=>?_,?_⟩
      . cases k with
        |zero=>exact⟨i,hi,hh⟩
        |succ k=>exact h2 k b.3
      . rcases h3 with⟨a,b⟩|⟨i',a,b,c,d⟩
        . exact .inl ⟨a,b⟩
        . exact .inr ⟨i',a,b,b.3,d⟩
def maskOf(n:Nat):Nat:=if n<5 then 7 else if n<19 then 31 else if n<77 then 127 else 511
theorem yD(n:Nat):Good (maskOf n):=by
 unfold maskOf;repeat' split
 . exact aPd
 . exact aLG
 . exact aIh
 . exact aIi
theorem Q5(n:Nat):maskOf n<=511:=by unfold maskOf;split;omega;split;omega;split<;>omega
theorem WV{n:Nat}(h:n<307):n<maskOf n:=by unfold maskOf;split;omega;split;omega;split<;>omega
theorem aAd(n:Nat):maskOf n%2=1:=by unfold maskOf;split;rfl;split;rfl;split<;>rfl
theorem len_sub{α:Type}[DecidableEq α]: ∀{l₁ l₂:w.3},l₁.Nodup->(∀a∈l₁,a∈l₂)->l₁.length<=l₂.length
 |[],_,_,_=>aW _
 |a::t,l₂,hn,hs=>by have ha:a∈l₂:=hs a u.4;obtain⟨h1,h2⟩:=eM.mp hn;have:=len_sub (l₁:=t) (l₂:=l₂.erase a) h2 λb hb=>(List.mem_erase_of_ne (λe:b=a=>h1 (e▸hb))).mpr (hs b hb.545);rw[List.length_erase_of_mem ha] at this;have hp:0<l₂.length:=List.length_pos_of_mem ha;rw[List.length_cons];omega
theorem aCd{l:a.3}{mask:Nat}(hl:l.length<=mask): ∃j,j<=mask/\j∉l:=by refine eE N.3;have i3:∀j,j<=mask->j∈l:=λj hj=>eE λhn=>hc ⟨j,hj,hn⟩;have:=len_sub (l₁:=List.range (mask+1)) (l₂:=l) oC λj hj=>i3 j (kI L.11);rw[aR] at this;omega
structure Raw(m:Nat)(t:SetTable)(es:i.11):Prop where
 mask:t.mask=m
 dum:t.dummies= #[]
 rise:FN t.place
 len:t.place.toList.length=es.length
 top: ∀j∈t.place.toList,j<=m
 zN:es.length<=m
 path: ∀j e,(j,e)∈t.place.toList.zip es->(m,fY m e.1).128
theorem Raw.fits{m:Nat}{t:SetTable}{es:e.4}(o:Raw m t es.toList):(t.fits es.size).7:=by have h1:=o.len;have h2:=o.zN;unfold SetTable.fits SetTable.fill;rw[o.dum,o.mask];simp only [Array.length_toList] at h1 h2⊢;simp[h1];omega
theorem Raw.free{m:Nat}{t:SetTable}{es:i.11}(o:Raw m t es): ∃j,j<=m/\j.587:=
 aCd (o.len,o.zN).3
theorem Raw.meets{m:Nat}{t:SetTable}{es:i.11}(o:Raw m t es)(g:Good m){p:Probe}(f:Fit m p): ∃n,n<=10*(m+13)/\((qG m n p).j).587:=by obtain⟨j,hj,hn⟩:=o.free;obtain⟨n,h1,h2⟩:=aDv g f hj;exact⟨n,h1,(h2,hn).3⟩
theorem WW{xs:Array Nat}(h:FN xs){j:Nat}(hj:j∉xs.toList):FN (insertAt xs (below xs j) j):=by
 obtain⟨h1,h2,h3⟩:=vO h j;unfold FN;rw[JA,List.pairwise_append];refine⟨h.sublist (BF _ _),?_,?_⟩
 . refine List.pairwise_cons.mpr ⟨q.5,h.sublist (List.drop_sublist _ _)⟩;obtain⟨i,hi⟩:=gC hb;rw[List.getElem?_drop,bM] at hi;have:=h3 _ _ (fD _ _) hi;have iK:j≠b:=λe=>hj (e▸nZ hb);omega
 . intro a ha b hb;have lO:a<j:=by
    obtain⟨i,hi⟩:=gC ha;rw[List.getElem?_take] at hi;split at hi
    . rw[bM] at hi;exact h2 _ _ ‹_› hi
    . cases hi
   rcases H.11 with rfl|hb
   . exact lO
   . obtain⟨i,hi⟩:=gC hb;rw[List.getElem?_drop,bM] at hi;have:=h3 _ _ (fD _ _) hi;omega
theorem mem_insert{α:Type}{xs:Array α}{p:Nat}{x y:α}:y∈(insertAt xs p x).toList↔y=x\/y∈xs.toList:=by have:=(jO xs p x).mem_iff (a:=y);rw[this,kC,List.mem_append,List.mem_singleton,or_comm]
theorem Raw.put{m:Nat}{t:SetTable}{es:e.4}(o:Raw m t es.toList){j:Nat}{e:Int×Value}(hj:j.587)(hm:j<=m)
 (hr:(m,fY m e.1).128) (hl:es.size+1<=m):
 Raw m (t.put j).1 (insertAt es (t.put j).2 e).toList/\(t.put j).1.mask=t.mask/\(t.put j).1.led=t.led/\(t.put j).1.plain=t.plain:=by
 refine⟨?_,rfl,rfl,rfl⟩;have kY:(t.put j).1.place=insertAt t.place X.10 j:=rfl;have hz:a.16
  =(t.place.toList.zip es.toList).take X.10++(j,e)::(t.place.toList.zip es.toList).drop X.10:=by rw[JA,JA,List.zip_append (by rw[aX,aX,o.len]),List.zip_cons_cons,O1,O1,O1,List.take_zipWith,List.drop_zipWith]
 have kR:∀k,k∈t.place.toList->k∈(t.put j).1.place.toList:=λk hk=>(kY,mem_insert.mpr (.inr hk)).3
 refine⟨o.mask,?_,?_,?_,?_,?_,?_⟩
 . show(if has t.dummies j then _ else t.dummies)= #[];rw[o.dum];simp[has]
 . rw[kY];exact WW o.rise hj
 . rw[kY];show(insertAt t.place X.10 j).toList.length=(insertAt es X.10 e).toList.length;rw[(jO _ _ _).length_eq,(jO _ _ _).length_eq,kC,kC,List.length_append,List.length_append,o.len];rfl
 . intro k hk;rw[kY] at hk;rcases mem_insert.mp hk with rfl|hk
   . exact hm
   . exact o.top k hk
 . show(insertAt es X.10 e).toList.length<=m;rw[(jO _ _ _).length_eq,kC,List.length_append,Array.length_toList];exact hl
 . intro k f hk;have rX:(k,f)∈a.16:=hk;rw[hz] at rX;rcases List.mem_append.mp rX with rX|rX
   . exact(o.path k f (iG rX)).mono kR
   . rcases List.mem_cons.mp rX with h'|rX
     . cases h';exact hr.mono kR
     . exact(o.path k f (nZ rX)).mono kR
def aAe(m:Nat)(hs:f.3)(owner:Array Z.5)(js:a.3):Prop:=
 owner.size=m+1/\js.length=hs.length/\js.Nodup/\(∀j∈js,j<=m)/\(∀(j i:Nat),(owner,j,some i).4↔(js,j).4)/\
  ∀(i j:Nat) (h:Int),(js,j).4->(hs,h).4->Reach m (·∈js) (fY m h) j
def MH(mask i perturb:Nat):Probe:={j:=i,more:=i.533-i,i,perturb,dummy:=none}
theorem vP(mask:Nat): ∀(k:Nat) (p:Probe),k<=p.more->qG mask k p={p with j:=p.j+k,more:=p.more-k}
 |0,p,_=>rfl
 |k+1,p,h=>by
  show qG mask k (step mask p)=_;have e:step mask p=w.15:=by unfold step;rw[if_pos b.3]
  rw[e,vP mask k _ (by show k<=p.more-1;omega)];show({p with j:=p.j+1+k,more:=p.more-1-k}:Probe)=_;rw[(p.j+1+k=p.j+(k+1)).36,(p.more-1-k=p.more-(k+1)).36]
theorem aAf(mask i perturb:Nat):lp mask L.12=MH mask (leap mask i perturb).1 (leap mask i perturb).2:=rfl
theorem aFH(mask:Nat)(p:Probe): ∀m,(m+1).539=OH mask m (lp mask p)
 |0=>rfl
 |m+1=>by show lp mask (m+1).539=_;rw[aFH mask p m];rfl
theorem MI{mask:Nat}{owner:Array Z.5}(hsz:owner.size=mask+1):
 ∀(fuel i perturb:Nat),i<=mask->(∃m,m<fuel/\(owner,(OH mask m L.12).i,none).4)->
  ∃j,layClean.free mask owner fuel i perturb=some j/\j<=mask/\(owner,j,none).4/\Reach mask (λk=>∃x,(owner,k,some x).4) L.12 j
 |0,_,_,_,h=>(h.choose_spec.1).670
 |fuel+1,i,perturb,hi,⟨m,hm,he⟩=>by
  obtain⟨r1,r2,r3⟩:=zU hi;have aDw:∀k,k<=mask->(owner,k,k.708).4:=λk hk=>(i4,K.10).18
  unfold layClean.free
  cases hf:(List.range (i.533+1-i)).find? (λk=>((i+k).708).isNone) with
  |some k=>
   dsimp only;obtain⟨hk,lO,aIl⟩:=List.find?_range_eq_some.mp hf;have aOY:=List.mem_range.mp lO;refine⟨i+k,rfl,b.3,?_,k,?_,λk' rX=>?_⟩
   . rw[aDw _ b.3]
     cases hx:(i+k).708 with
     |none=>rfl
     |some _=>rw[hx] at hk;cases hk
   . rw[vP mask k _ (by show k<=i.533-i;omega)];rfl
   . rw[vP mask k' _ (by show k'<=i.533-i;omega)];have hb:=aIl k' rX;show∃x,(owner,i+k',some x).4
     cases hx:(i+k').708 with
     |none=>rw[hx] at hb;cases hb
     |some x=>exact⟨x,(aDw _ b.3,hx).7⟩
  |none=>
   dsimp only;have i3: ∀k,k<=i.533-i->∃x,(owner,i+k,some x).4:=λk hk=>by
    have hb:=List.find?_eq_none.mp hf k x.14
    cases hx:(i+k).708 with
    |none=>rw[hx] at hb;exact absurd rfl hb
    |some x=>exact⟨x,(aDw _ b.3,hx).7⟩
   have hm0:m≠0:=by rintro rfl;obtain⟨x,hx⟩:=i3 0 (aW _);have he':(owner,none).4:=he;rw[Nat.add_zero,he'] at hx;cases hx
   obtain⟨m,rfl⟩:∃m',m=m'+1:=(m-1).527;rw[aFH,aAf] at he;have hle:(leap mask i perturb).1<=mask:=Z.14
   obtain⟨j,h1,h2,h3,n,h4,h5⟩:=MI hsz fuel _ _ hle ⟨m,b.3,he⟩;have IF:qG mask (i.533-i+1) L.12=lp mask L.12:=S0 mask _ L.12 rfl;refine⟨j,h1,h2,h3,(i.533-i+1)+n,?_,λk hk=>?_⟩
   . rw[DO,IF,aAf];exact h4
   . by_cases rX:k<=i.533-i
     . rw[vP mask k _ rX];exact i3 k rX
     . obtain⟨c,rfl⟩:∃c,k=(i.533-i+1)+c:=(k-(i.533-i+1)).527;rw[DO,IF,aAf];exact h5 c b.3
theorem getElem?_set'{α:Type}(xs:Array α)(j k:Nat)(v:α)(hj:j<xs.size):(xs.setIfInBounds j v)[k]? =if j=k then some v else xs[k]? :=by
 rw[Array.getElem?_setIfInBounds];split
 . rfl
 . rfl
theorem aAe.snoc{m:Nat}(g:Good m){hs:f.3}{owner:Array Z.5}{js:a.3}(L:aAe m hs owner js)(h:Int)(hl:hs.length<m+1):
 ∃j,l.14=some j/\aAe m (hs++[h]) (owner.setIfInBounds j (some js.length)) (js++[j]):=by
 obtain⟨l1,l2,l3,l4,l5,l6⟩:=L;obtain⟨j0,hj0,hn0⟩:=aCd (l:=js) (mask:=m) b.3;have wH: ∀j,j<=m->j∉js->(owner,j,none).4:=λj hj hn=>by
  cases hx:owner[j]? with
  |none=>rw[Array.getElem?_eq_none_iff] at hx;omega
  |some o=>
   cases o with
   |none=>rfl
   |some i=>exact absurd (List.mem_of_getElem? ((l5 j i).mp hx)) hn
 have aLI:∀k,(∃x,(owner,k,some x).4)->k∈js:=λk ⟨x,hx⟩=>List.mem_of_getElem? ((l5 k x).mp hx);obtain⟨mm,h0,h1,h2⟩:=MF g (p:=fY m h) (sY m h).aIj hj0;obtain⟨j,a1,a2,a3,a4⟩:=MI l1 (turns m) (bits h%(m+1)) (bits h) (kI (zG _ (rP _)))
  ⟨mm,by unfold turns;omega,by show owner[(OH m mm (fY m h)).i]? =_;rw[h2];exact wH _ hj0 hn0⟩
 have hjn:j∉js:=λhm=>by obtain⟨i,hi⟩:=gC hm;rw[(l5 j i).mpr hi] at a3;cases a3
 refine⟨j,a1,(Array.size_setIfInBounds,l1).3,l2.24,?_,?_,?_,?_⟩
 . refine fH.mpr ⟨l3,c.3,λa ha b hb=>?_⟩;rw[List.mem_singleton] at hb;subst hb;exact λe=>hjn (e▸ha)
 . intro k hk;rcases List.mem_append.mp hk with hk|hk
   . exact l4 k hk
   . rw[List.mem_singleton] at hk;subst hk;exact a2
 . intro k i;rw[getElem?_set' _ _ _ _ b.3];by_cases e:j=k
   . subst e;rw[N.5];constructor
     . intro h';cases h';simp
     . intro h';rw[u6] at h';split at h'
       . exact absurd (List.mem_of_getElem? h') hjn
       . rename_i YX;have:i-js.length=0:=by
          rcases zF (i-js.length) with z|z
          . exact z
          . rw[c5 k.4] at h';cases h'
         rw[(i=js.length).36]
   . rw[if_neg e,l5 k i,u6];split
     . exact Iff.rfl
     . rename_i YX;constructor
       . intro h';rw[c5 b.3] at h';cases h'
       . intro h';have hm:=List.mem_of_getElem? h';rw[List.mem_singleton] at hm;exact absurd hm.symm e
 . intro i k h' hk hh;rw[u6] at hk;split at hk
   . rename_i lO;rw[List.getElem?_append_left b.3] at hh;exact(l6 i k h' hk hh).mono λx hx=>iF _ hx
   . rename_i YX;have hi:i=js.length:=by
      rcases zF (i-js.length) with z|z
      . omega
      . rw[c5 k.4] at hk;cases hk
     subst hi;rw[Nat.sub_self] at hk;cases hk;rw[zD b.3,l2,Nat.sub_self] at hh;cases hh;exact a4.mono λx hx=>iF _ (aLI x hx)
theorem OJ{m:Nat}(g:Good m): ∀(hs:f.3),hs.length<=m+1->∃owner js,
 hs.foldl (λacc h=>do
  let (owner,k)<-acc
  let j<-l.14
  p.15) (some (Array.replicate (m+1) none,0))=some (owner,hs.length)/\aAe m hs owner js:=by
 intro hs;suffices H: ∀(r p:f.3) owner js,p.length+r.length<=m+1->aAe m p owner js->∃aFI js',r.foldl (λacc h=>do
  let (owner,k)<-acc
  let j<-l.14
  p.15) (some (owner,p.length))=some (aFI,(p++r).length)/\aAe m (p++r) aFI js' by intro hl;have:=H hs [] (Array.replicate (m+1) none) [] (by simpa using hl) ⟨c.3,rfl,eO,λ_ h=>(A.5),λj i=>⟨λh=>by rw[Array.getElem?_replicate] at h;split at h<;>(cases h),λh=>(C.4)⟩,λi j h a=>by simp at a⟩;simpa using this
 intro r
 induction r with
 |nil=>intro p owner js hl L;exact⟨owner,js,c.3,by simpa using L⟩
 |cons h r ih=> intro p owner js hl L;obtain⟨j,e,L'⟩:=L.snoc g h (by simp at hl;omega);obtain⟨o',j',e',L''⟩:=ih (p++[h]) _ _ (by simp at hl⊢;omega) L';refine⟨o',j',?_,by simpa using L''⟩;rw[List.foldl_cons];simp only [List.length_append,List.length_singleton] at e';have hlen:js.length=p.length:=L.2.1;simp only [Option.bind_eq_bind,Option.bind_some,e];rw[hlen] at e';simpa [Nat.add_assoc,Nat.add_comm 1] using e'
end G.T
namespace G.T
open PySem PySem.SetTable
theorem aFJ{α:Type}(f:Nat->Option α): ∀(l:(Nat,Nat).31),(∀p∈l,∃e,f p.2=some e)->
 ((l.map (·.2)).filterMap f).length=l.length/\∀j e,(j,e)∈(l.map (·.1)).zip ((l.map (·.2)).filterMap f)->∃i,(j,i)∈l/\f i=some e
 |[],_=>(λj e h=>C.4).73
 |p::l,h=>by
  obtain⟨e0,he0⟩:=h p u.4;obtain⟨h1,h2⟩:=aFJ f l λq hq=>h q hq.545;rw[List.map_cons,List.map_cons,List.filterMap_cons_some he0];refine⟨by rw[List.length_cons,List.length_cons,h1],λj e hm=>?_⟩;rw[List.zip_cons_cons] at hm;rcases f.10 with hm|hm
  . cases hm;exact⟨p.2,u.4,he0⟩
  . obtain⟨i,a,b⟩:=h2 j e hm;exact⟨i,a.545,b⟩
theorem WX{m:Nat}(g:Good m)(hs:Array Int)(hl:hs.size<=m+1): ∃owner js,layClean m hs=some owner/\aAe m hs.toList owner js:=by
 obtain⟨owner,js,e,L⟩:=OJ g hs.toList (by simpa using hl);refine⟨owner,js,?_,L⟩;unfold layClean;rw[<-Array.foldl_toList];have:hs.toList.foldl (λacc h=>do
  let (owner,k)<-acc
  let j<-l.14
  p.15) (some (Array.replicate (m+1) none,0))=some (owner,hs.toList.length):=e
 rw[this];rfl
theorem aFK{m:Nat}(g:Good m)(es:e.4)(hl:es.size<=m)(finger moves:Nat)(led plain:Bool):
 ∃t' order,laid m finger moves led plain (es.map (·.1))=some (t',order)/\S.15/\Raw m t' V.14/\t'.led=led/\t'.plain=plain:=by
 obtain⟨owner,js,e,l1,l2,l3,l4,l5,l6⟩:=WX g (es.map (·.1)) k.4;replace l2:js.length=es.size:=by rw[l2,Array.length_toList,Array.size_map]
 unfold laid;rw[e];simp only [Option.bind_eq_bind,Option.bind_some];generalize hlv:(List.range (m+1)).filterMap (λj=>(owner.getD j none).map (j,·))=live;have hgd: ∀j i,owner.getD j none=some i↔(owner,j,some i).4:=λj i=>by
  rw[i4]
  cases owner[j]? with
  |none=>simp
  |some o=>simp
 have kR: ∀j i,(j,i)∈live↔(js,j).4:=λj i=>by
  rw[<-hlv,l8];constructor
  . rintro⟨k,hk,hx⟩;rw[cD] at hx;obtain⟨a,ha,hp⟩:=hx;cases hp;exact(l5 _ _).mp ((hgd _ _).mp ha)
  . intro hj;refine⟨j,List.mem_range.mpr (Nat.lt_succ_of_le (l4 j (List.mem_of_getElem? hj))),?_⟩;rw[(hgd j i).mpr ((l5 j i).mpr hj)];rfl
 have hpw:live.Pairwise (λa b=>a.1<b.1):=by rw[<-hlv];refine List.Pairwise.filterMap _ (λa a' haa b hb b' ZU=>?_) F4;rw[cD] at hb ZU;obtain⟨_,_,rfl⟩:=hb;obtain⟨_,_,rfl⟩:=ZU;exact haa
 have z8:(live.map (·.2)).Nodup:=by show List.Pairwise _ _;rw[kG];refine hpw.imp_of_mem λ{a b} ha hb VZ he=>?_;have h1:=(kR a.1 a.2).mp ha;have h2:=(kR b.1 b.2).mp hb;rw[he,h2] at h1;injection h1 with h1;omega
 have g9:(live.map (·.2)).Perm (List.range es.size):=by
  refine(zE z8 oC).mpr λi=>?_;rw[a5,List.mem_range];constructor
  . rintro⟨p,hp,rfl⟩;have:=(kR p.1 p.2).mp hp;have:=this.535;omega
  . intro hi;have:i<js.length:=b.3
    exact((js[i],i),(kR _ _).mpr (aF this)).34
 have hf:∀p∈live,∃e,(es,p.2,e).4:=λp hp=>by have:=(kR p.1 p.2).mp hp;have:=this.535;exact K.10.20
 obtain⟨z1,z2⟩:=aFJ (λi=>es[i]?) live hf;refine⟨_,_,rfl,g9,⟨rfl,rfl,?_,?_,?_,?_,?_⟩,rfl,rfl⟩
 . show(live.map (·.1)).Pairwise (· < ·);rw[kG];exact hpw
 . rw[i5];show(live.map (·.1)).length=((live.map (·.2)).filterMap _).length;rw[z1,aA]
 . intro j hj;obtain⟨p,hp,rfl⟩:=a5.mp (show j∈live.map (·.1) from hj);exact l4 _ (List.mem_of_getElem? ((kR p.1 p.2).mp hp))
 . rw[i5];show(((live.map (·.2)).filterMap _),m).8;rw[z1];have:=g9.length_eq;rw[aA,aR] at this;omega
 . intro j e hje;rw[i5] at hje;obtain⟨i,a,b⟩:=z2 j e hje;have hj:=(kR j i).mp a;refine(l6 i j e.1 hj ?_).mono λk hk=>?_
   . rw[bM,Array.getElem?_map,b];rfl
   . show k∈live.map (·.1);obtain⟨i',OG⟩:=gC hk;exact a5.mpr ((k,i'),(kR _ _).mpr OG).34
theorem FQ{n:Nat}(h:n+1<307):
 n+1<=maskOf n/\((n+1)*5>=maskOf n*3->sizeAbove (grown (n+1))-1=maskOf (n+1))/\(¬(n+1)*5>=maskOf n*3->maskOf (n+1)=maskOf n):=by
 have key:∀n:Fin 306,(n.val+1<=maskOf n.val)/\((n.val+1)*5>=maskOf n.val*3->sizeAbove (grown (n.val+1))-1=maskOf (n.val+1))/\(¬(n.val+1)*5>=maskOf n.val*3->maskOf (n.val+1)=maskOf n.val):=l.4
 exact key n.527
structure Ok(t:SetTable)(es:i.11):Prop where
 raw:Raw M.10 t es
 zN:es.length<307
theorem Ok.fresh(finger moves:Nat)(led:Bool):Ok (SetTable.fresh finger moves led) []:=
 ⟨⟨rfl,rfl,List.Pairwise.nil,rfl,λj hj=>by simp[SetTable.fresh] at hj,aW _,λj e h=>SetTable.fresh.637⟩,r.3⟩
theorem Ok.fits{t:SetTable}{es:e.4}(o:p.10):(t.fits es.size).7:=o.raw.fits
theorem Raw.aFL{m:Nat}{t:SetTable}{es:i.11}(o:Raw m t es)(b:Bool):Raw m {t with plain:=b} es:=⟨o.mask,o.dum,o.rise,o.len,o.top,o.zN,o.path⟩
theorem Raw.settle{n:Nat}{t:SetTable}{es:e.4}(r:Raw (maskOf n) t es.toList)(hn:es.size=n+1)(h:n+1<307):
 (t.tooFull.25/\p.10)\/(t.tooFull.7/\∃t' order,t.relaid (es.map (·.1)) (grown es.size)=some (t',order)/\S.15/\Ok t' V.14/\
  t'.led=t.led/\t'.plain=t.plain/\sizeAbove (grown es.size)<=512):=by
 obtain⟨g1,g2,g3⟩:=FQ h;have hlen:es.toList.length=n+1:=(Array.length_toList,hn).7
 have aPh:t.fill=n+1:=by unfold SetTable.fill;rw[r.dum];have:=r.len;rw[hlen,Array.length_toList] at this;rw[this];rfl
 have htf:t.tooFull=decide ((n+1)*5>=maskOf n*3):=by unfold SetTable.tooFull;rw[aPh,r.mask]
 by_cases hc:(n+1)*5>=maskOf n*3
 . refine .inr (htf,decide_eq_true hc).3.71;have e:=g2 hc;unfold relaid;rw[hn,e];obtain⟨t',order,h1,h2,h3,h4,h5⟩:=aFK (yD (n+1)) es (hn,kH (WV h)).3 t.finger (t.movedTo (maskOf (n+1))) t.led t.plain;have IG:(order.filterMap (es[·]?)).toList.length=n+1:=by rw[i5];have hp:=h2.filterMap (λi=>es[i]?);rw[JB] at hp;rw[hp.length_eq,hlen]
   refine⟨t',order,h1,by rw[hn] at h2;exact h2,⟨?_,?_⟩,h4,h5,?_⟩
   . rw[IG];exact h3
   . rw[IG];exact h
   . have:=Q5 (n+1);omega
 . refine .inl ((htf,aQ hc).3,?_).17
   . rw[hlen,g3 hc];exact r
   . rw[hlen];exact h
theorem Ok.freeSlot{t:SetTable}{es:i.11}(o:Ok t es)(h:Int):
 ∃j,t.freeSlot h=some (j,false)/\j.587/\j<=M.10/\(M.10,fY M.10 h).128:=by
 have r:=o.raw;have hm:=r.mask;have f:=sY M.10 h;obtain⟨n,h1,h2⟩:=r.meets (yD _) f;unfold SetTable.freeSlot probe;rw[OI,hm];obtain⟨k,a1,a2,a3⟩:=MG r.rise r.dum (λ_=>h+1) h (10*turns M.10) n (fY M.10 h) (by unfold turns;omega) (hm,h2).3 rfl;rw[hm] at a2 a3;rcases a3 with⟨e,b⟩|⟨i,b,c,_⟩
 . rw[e];refine⟨_,rfl,b,?_,k,rfl,λq hq=>?_⟩
   . have:=(f.qG k).room;show(qG M.10 k (fY M.10 h)).j<=_;omega
   . obtain⟨i,hi,_⟩:=a2 q hq;exact P.13
 . exact absurd c (by show h+1≠h;omega)
end G.T
namespace G.T
open PySem PySem.Spec PyProof.Rows
def jG(w:World):Obj:={cls:= .type "set",dict:=none,data:= .set #[] 0 (.fresh 0 0 (!d.5))}
section
variable{prog:Program}{w:World}{A:Around}{E:l.3}{s:Shared}
theorem MJ(a:Value){Q₁:l.3}(h:Q₁ A.10 {s with heap:=E.10}):
 codeAny A.4 A (.call (.builtin "set.__new__") ([.type "set",a]).93) (wants Q₁ E) s:=by refine codeAny_of_tree ?_;show wpAny _ A.in1 (do checkBuiltinCall "set.__new__" ⟨[.type "set",a],[]⟩;again (.builtin "set.__new__" ⟨[.type "set",a],[]⟩)) _ _ s;refine aB (wpAny_of_eq (F.newCall_set_1 a) (aH ⟨n9 F.plain_set_new _,jA F.entry_set_new ?_⟩));rw[gQ F.plain_set_new _];unfold Builtin.«set.__new__» Builtin.Frozenset.newClass;have C3:=sub_set_self;obtain⟨hp,g,d,tk,os⟩:=s;dsimp only;wp_walk;refine jY m.3;dsimp only;simp only [newObj];refine aB (wpAny_alloc m.3);exact aH h
def aIm(prog:Program)(w:World)(U:Nat)(S:Addr)(v:Value)(I I':Heap.41):Prop:=
 ∀(A:Around) (s:Shared) (Q:Bool.49) (E:l.3),A.units<=U->I s.heap->(∀b h' tk,s.toks<=tk->S.669->I' h'->Q b {s with heap:=h',toks:=tk})->
  (setAdd S v).65
theorem z9{R:Result.49}{I:Addr}{fp wr:i.3}{G:(Array GenState,Array GenState).16}{n U:Nat}{P:(Nat,Value).16}{St:Nat.49}
 (W:WalksS prog w A.in1 I fp wr G n P St) (hU:A.units+1<=U) (S:Addr) (hSf:S∉fp) (Inv:(Nat,Heap).16)
 (N4: ∀i h h',Inv i h->((b∉wr,b.52,h.4).12)->Inv i h')
 (aLJ: ∀i v,P i v->aIm prog w U S v (Inv i) (Inv (i+1))):
 ∀(k i:Nat) (s:Shared),n-i=k->i<=n->St i s->Inv i s.heap->
  (∀s',Moved (S::wr) G s s'->Inv n s'.heap->R (.ok (.ret .none)) s')->
  codeAny A.4 A (.builtin "set.update.loop" ([.ref S,.ref I]).93) R s:=by
 have hSw:S∉wr:=λh=>hSf (W.sub _ h);have C3:∀b∈wr,b∈S::wr:=λb hb=>bG _ hb;intro k
 induction k with
 |zero=>
  intro i s hk hi jM hS hR;have JR:i=n:=b.3
  subst JR;refine jA F.entry_set_update_loop ?_;rw[gQ Y6 _];show wpAny _ A.in1 (pyNext (.ref I)>>=_) _ _ s;refine aB (W.done s _ _ jM λs' hm=>?_);show wpAny _ A.in1 (ret Value.none) _ _ s';exact aH (hR s' (hm.mono C3) (N4 _ _ _ hS λb o hb e=>hm.heap b o hb e))
 |succ k ih=>
  intro i s hk hi jM hS hR;have lO:i<n:=b.3
  refine jA F.entry_set_update_loop ?_;rw[gQ Y6 _];show wpAny _ A.in1 (pyNext (.ref I)>>=_) _ _ s;refine aB (W.item i s _ _ lO jM λv s' hP aTW hm=>?_);have hS':=N4 _ _ _ hS λb o hb e=>hm.heap b o hb e;show wpAny _ A.in1 (holding [v] (setAdd S v)>>=_) _ _ s';refine aB (c9 ?_);refine aLJ i v hP _ _ _ _ (by show A.units+1<=U;exact hU) hS' λb h' tk htk hsb Q6=>?_;refine aH ⟨n9 Y6 _,ih (i+1) _ b.3 lO (W.frame _ s' _ _ aTW htk λb hb o e=>?_) Q6 λs'' aTX aTY=>?_⟩
  . rw[hsb.2 b (λh:b=S=>hSf (h,hb).15)];exact e
  . refine hR s'' (Moved.trans W.gtrans ((hm.mono C3).then_heap htk λb o hb e=>?_) aTX) aTY;rw[hsb.2 b (λh:b=S=>hb (h,cI).3)];exact e
set_option maxHeartbeats 3200000 in
theorem G7{l:Addr}{items:R.3}{U:Nat}{Q:l.3}(Inv:(Nat,Heap).16)
 (hh:s.5) (hU:A.units+16<=U) (hl:items.660)
 (h0: ∀h:Heap,((b.506,b.70,b.52).15)->(s.heap.objs.size,jG w).30->Inv 0 h)
 (N4: ∀i h h',Inv i h->((b<=s.heap.objs.size,b.52,h.4).12)->Inv i h')
 (aLJ: ∀i v,(items,v).4->aIm prog w U s.heap.objs.size v (Inv i) (Inv (i+1)))
 (h: (Inv items.size h').793):
 (call (.type "set") l.43).65:=by
 obtain⟨c,tl,aZI⟩:=F.called_set.mro;have aXq:=F.called_set.made;have C3:=F.called_set.sub;refine wpAny_call (codeAny_of_tree ?_);show wpAny _ _ (callAny (.type "set") _) _ _ _;refine aH ⟨Code.quiet_builtin _ l.4,jA F.entry_type_call ?_⟩;rw[Around.under_plain (weight_type_call_type "set" l.43 []) rfl];have h1:=F.called_set.notType;have h2:=F.called_set.canCreate;have hct:=F.typeCall_set_1 (.ref l);repeat (any_goals (first|assumption|wp_step))
 refine vA (MJ (.ref l) (E:=E) (Q₁:=λobj s₁=>obj=A.10/\s₁={s with heap:=E.10}) y.4) λr s₁ hr=>?_
 cases r with
 |error e=>exact hr
 |ok fl=>
  cases fl with
  |ret obj=>
   obtain⟨rfl,rfl⟩:=hr;have hS:(E.10,s.heap.objs.size,jG w).20:=G.3;have hT:Shared.TypeIs {s with heap:=E.10} A.10 "set":=hS.63;have hli:=F.called_set.init.lookup;have hbi:=F.called_set.init.bind A.10;repeat (any_goals (first|assumption|wp_step))
   refine vA (codeAny_call_builtin (R:=wants (λr s₂=>r= .none/\∃h' tk,s₂={s with heap:=h',toks:=tk}/\Inv items.size h'/\
    (b.506.655)) E) F.called_set.init.plain F.entry_set_init (check_set_init_1 hT ?_)) λr₂ s₂ aFM=>?_
   . obtain⟨ol,hol,z7,nl,hdl⟩:=hl;obtain⟨aZJ,aPi,aXt,aLK⟩:=ol;simp only at z7 hdl;subst z7;subst hdl;have aTZ:(E.10,l,{cls:=C.10,dict:=aPi,data:= .seq items nl,slots:=aLK}).20:=aN _ hol;have aZK:=F.sub_list_set;have aZL:=F.sub_list_frozenset;have iK:((u.12==Value.type "dict")).25:=r.3
     have EY:(E.10).IsList l items:=(aTZ,nl).98;unfold Builtin.«set.__init__» noKeywords Builtin.Frozenset.updateFrom;generalize hPI:pyIter=PI;wp_walk;subst hPI;refine HU EY ?_;refine aB (wpAny_runValue ?_);have hlS:l.506:=aZ hol;have hh3:A.in1.in1.in1.handled.9:=hh.24
     have aT0:l≠(E.10).objs.size:=(dJ,bS (iN hlS)).3
     have hSf:s.heap.objs.size∉[(E.10).objs.size,l]:=by rw[dJ];simp only [List.mem_cons,List.not_mem_nil,or_false,not_or];exact⟨bS (tX _),oE hlS⟩
     refine z9 ((wW hh3 _ l aT0 items).toS) (U:=U) ?hu s.heap.objs.size hSf Inv ?N4 aLJ (items.size-0) 0 _ (b.3) (aW _)
      ⟨k.13,EY.push _⟩ ?hS0 ?hR
     case hu=>show A.in1.in1.units+1<=U;show A.units+1+1+1<=U;omega
     case N4=>intro i h h' hi hk;refine N4 i h h' hi λb o hb e=>hk b o ?_ e;exact λhm=>by rw[List.mem_singleton,dJ] at hm;rw[hm] at hb;exact Nat.not_succ_le_self _ hb
     case hS0=>refine h0 _ (λb o hb e=>aN _ (aN _ e)) (aN _ hS)
     case hR=>
      intro s' hm hS';obtain⟨h',g',d',tk',os'⟩:=s';have eg:g'=s.gens:=hm.gens;have ed:d'=s.drawn:=hm.drawn;have eo:os'=s.os:=hm.os;subst eg;subst ed;subst eo;show wpAny _ _ _ _ _ _;refine m.3;show wpAny _ _ (ret Value.none) _ _ _;refine aH ⟨rfl,h',tk',rfl,hS',λb o hb e=>?_⟩;have YZ:b≠s.heap.objs.size:=bS hb;have S1:b≠(E.10).objs.size:=(dJ,bS (iN hb)).3
      exact hm.heap b o (by simp only [List.mem_cons,List.not_mem_nil,or_false,not_or];exact⟨YZ,S1⟩) (aN _ (aN _ e))
   . cases r₂ with
     |error e=>exact aFM
     |ok aPj=>
      cases aPj with
      |ret r=>
       obtain⟨rfl,h',tk,rfl,hS',rX⟩:=aFM;repeat (any_goals (first|assumption|wp_step))
       exact h _ _ hS' rX
      |_=>exact aFM.elim
  |_=>exact hr.elim
end
end G.T
namespace G.T
open PySem PySem.Spec PyProof.Rows
def OK(e:Int×Value):Int:=match e.2 with| .int n _=>n|_=>0
def rY(prog:Program)(w:World)(a:Addr)(ds:f.3)(h:Heap):Prop:=
 ∃o es ep t,a.52/\o.ExactSet/\Z.12/\p.10/\t.plain.7/\t.led=(!d.5)/\
  ElemsOf Q.4 es.toList/\(es.toList.map OK).Perm ds/\ds.Nodup
section
variable{prog:Program}{w:World}{A:Around}{E:l.3}{s:Shared}
theorem aAg{k:Int}{v:Value}(h:((Q.4).is k v).7): ∃t,v= .int k t:=by cases v<;>simp[PySem.intKind,Value.isInt] at h;subst h;exact⟨_,rfl⟩
theorem aCf{e:Int×Value}{l:i.11}(hel:ElemsOf Q.4 l)(he:e∈l)(k:Int):((Q.4).is k e.2).7↔OK e=k:=by
 obtain⟨⟨k',rX,_⟩,_⟩:=hel e he;obtain⟨t,e'⟩:=aAg rX;unfold OK;rw[e'];constructor
 . intro h;obtain⟨t',e2⟩:=aAg h;cases e2;rfl
 . rintro rfl;exact EX _ _ _ _
theorem rY.fresh{a:Addr}{h:Heap}(hg:(a,jG w).30):rY prog w a [] h:=
 ⟨_,#[],0,_,hg,rfl.617,rfl,Ok.fresh _ _ _,rfl,rfl,λe he=>by simp at he,nY _,eO⟩
theorem rY.keep{a:Addr}{ds:f.3}{h h':Heap}(x:rY prog w a ds h)(k: ∀o,a.52->(h'.get? a).23):rY prog w a ds h':=by obtain⟨o,es,ep,t,ho,rest⟩:=x;exact⟨o,es,ep,t,k _ ho,rest⟩
theorem qB{h:Heap}{a:Addr}{o:Obj}{es:e.4}{ep:Nat}{t:SetTable}(ho:a.52)(hd:Z.12)(es':e.4)(t':SetTable):
 (h.update a (Obj.putSet es' t'),a,{o with data:= .set es' (ep+1) t'}).20:=(oA (Obj.putSet es' t') ho (putSet_of es' t' hd).508,putSet_of es' t' hd).107
theorem aDx{t:SetTable}{es:e.4}(o:p.10)(h:Int)(x:Value)(hl:es.size+1<307):
 ∃es' t',layNew t es h x=(es',t',false,false)/\es'.toList.Perm (es.toList++[(h,x)])/\Raw (maskOf es.size) t' es'.toList/\es'.size=es.size+1/\t'.led=t.led/\t'.plain=t.plain:=by
 obtain⟨j,e,h1,h2,h3⟩:=o.freeSlot h;rw[Array.length_toList] at h2 h3;have hr:=o.raw;rw[Array.length_toList] at hr;obtain⟨p1,p2,p3,p4⟩:=hr.put (e:=(h,x)) h1 h2 h3 (FQ hl).1;have hp:=jO es (t.put j).2 (h,x);rw[kC] at hp;have hsz:(SetTable.insertAt es (t.put j).2 (h,x)).size=es.size+1:=hp.length_eq.834
 have hf:=p1.fits;refine⟨SetTable.insertAt es (t.put j).2 (h,x),(t.put j).1,?_,hp,p1,hsz,p3,p4⟩;unfold layNew;rw[e];dsimp only;unfold SetTable.orStandIn;rw[hf];rfl
theorem WY{t t':SetTable}{es:e.4}{order:Array Nat}{wanted:Nat}(e:t.relaid (es.map (·.1)) wanted=some (t',order))(hp:S.15)
 (o:Ok t' V.14):relayAll t es wanted=(order.filterMap (es[·]?),t',false):=by unfold relayAll;rw[e];dsimp only;have h1:(coversAll order es.size).7:=List.isPerm_iff.mpr hp;rw[h1,o.fits];rfl
theorem aFO{S:Addr}{U:Nat}{ds:f.3}{n:Int}{tk0:Tok}(hl:ds.length+1<307):
 aIm prog w U S (.int n tk0) (rY prog w S ds) (rY prog w S (if n∈ds then ds else ds++[n])):=by
 intro A s Q E _ hI h;obtain⟨o,es,ep,t,ho,hex,hd,cZ,kY,aFP,hel,g9,z8⟩:=hI;have hn:es.size=ds.length:=by rw[<-g9.length_eq,aA,Array.length_toList]
 have IA:((Q.4).is n (.int n tk0)).7:=EX _ _ _ _;have hsc:((Value.int n tk0).scannable).7:=rfl;have hb:es.size<scanBound:=by unfold scanBound;omega
 have hf:=cZ.fits;unfold setAdd;refine c9 (aB ((Q.4).pyHash IA ?_));unfold setAddHashed setAddHashedIn;refine c9 (aB (e9 (s:=R.5) ho hd hf ?_));dsimp only;rw[byScan_of hsc hb hel];simp only [↓reduceIte];unfold setAddByScan;refine aB ?_;refine aB (O4 ?_);refine aB (wpAny_setScan_of (s:=R.5) IA ho hd hf hel ?_);have kR:n∈ds↔∃e∈es.toList,((Q.4).is n e.2).7:=by rw[<-g9.mem_iff,a5];exact⟨λ⟨e,he,hk⟩=>⟨e,he,(aCf hel he n).mpr hk⟩,λ⟨e,he,hk⟩=>⟨e,he,(aCf hel he n).mp hk⟩⟩
 cases hr:List.findIdx? (λe=>(Q.4).is n e.2) es.toList with
 |some j=> dsimp only;obtain⟨hj,hpj,_⟩:=List.findIdx?_eq_some_iff_getElem.mp hr;have JR:n∈ds:=kR.mpr ⟨es.toList[j],eR hj,hpj⟩;refine aH m.3;exact h _ s.heap _ (u7 _) (Heap.SameBut.refl S s.heap) (if_pos JR,⟨o,es,ep,t,ho,hex,hd,cZ,kY,aFP,hel,g9,z8⟩).3
 |none=>
  dsimp only;have JR:n∉ds:=λhc=>by obtain⟨e,he,hp⟩:=kR.mp hc;have:=List.findIdx?_eq_none_iff.mp hr e he;rw[hp] at this;exact Bool.noConfusion this
  rw[if_neg JR] at h;obtain⟨DP,t1,eL,hp1,r1,WZ,EY,aLM⟩:=aDx cZ ((Q.4).hash n) (.int n tk0) b.3;rw[eL];dsimp only;refine aB m.3;rw[if_pos (aLM,kY).7];rw[hashByValue_scannable 8 hsc];refine aB m.3;rw[if_pos (show(plainKind (Value.int n tk0)).7 from rfl)];have aPl:ElemsOf Q.4 DP.toList:=(hel.push IA hsc).perm hp1;have aPm:(DP.toList.map OK).Perm (ds++[n]):=by refine(hp1.map OK).trans ?_;rw[bH];exact g9.append (nY _)
  have aFQ:(ds++[n]).Nodup:=(z8,JR (e▸ha)).132;have aFR:DP.size.37:=bJ.56
  refine aB (HW (s:=R.5) ho hd ?_ aFR);have SX:=qB ho hd DP t1;have aAh:=dA s.heap S (Obj.putSet DP t1);rcases r1.settle WZ b.3 with⟨htf,aDy⟩|⟨htf,t2,order,e2,hp2,aIo,SH,aT1,_⟩
  . rw[htf];simp only [Bool.and_false,Bool.false_eq_true,↓reduceIte];refine m.3;dsimp only;refine aH (h _ _ _ (u7 _) aAh ?_);exact⟨_,DP,ep+1,t1,SX,hex,rfl,aDy,(aLM,kY).7,(EY,aFP).7,aPl,aPm,aFQ⟩
  . rw[htf];simp only [Bool.not_false,Bool.and_self,↓reduceIte];rw[WY e2 hp2 aIo];dsimp only;refine aB m.3;have hpe:(order.filterMap (DP[·]?)).toList.Perm DP.toList:=(i5,(hp2.filterMap _).trans JB.85).3
    have aFS:((order.filterMap (DP[·]?)).size).37:=by rw[<-Array.length_toList,hpe.length_eq,Array.length_toList];exact aFR
    refine aB (HW (s:={s with heap:=s.heap.update S (Obj.putSet DP t1),toks:=s.toks+1}) SX rfl ?_ aFS);refine m.3;dsimp only;refine aH (h _ _ _ (u7 _) (aAh.trans (dA _ S _)) ?_);exact⟨_,_,ep+1+1,t2,qB SX rfl _ t2,hex,rfl,aIo,by rw[aT1,aLM,kY],by rw[SH,EY,aFP],aPl.perm hpe,(hpe.map OK).trans aPm,aFQ⟩
def BU(ns:f.3):f.3:=([]).804
theorem aDz(ns:f.3)(n:Int):BU (ns++[n])=if n∈BU ns then BU ns else BU ns++[n]:=by unfold BU;rw[nG];rfl
theorem aCg(k:Int): ∀(ns acc:f.3),k∈acc.804↔k∈acc\/k∈ns
 |[],acc=>c.3
 |n::ns,acc=>by
  rw[List.foldl_cons,aCg k ns,List.mem_cons];split
  . constructor
    . rintro (h|h)
      . exact .inl h
      . exact .inr (.inr h)
    . rintro (h|rfl|h)
      . exact .inl h
      . exact .inl ‹_›
      . exact .inr h
  . rw[List.mem_append,List.mem_singleton];constructor
    . rintro ((h|h)|h)
      . exact .inl h
      . exact .inr (.inl h)
      . exact .inr (.inr h)
    . rintro (h|h|h)
      . exact .inl (.inl h)
      . exact .inl (.inr h)
      . exact .inr h
theorem W0(ns:f.3)(k:Int):k∈BU ns↔k∈ns:=by unfold BU;rw[aCg];simp
theorem aDA{ns:f.3}{i:Nat}{n:Int}(h:(ns,n).4):BU (ns.take (i+1))=if n∈BU (ns.take i) then BU (ns.take i) else BU (ns.take i)++[n]:=(iM,h,aDz _ _).18
theorem Q7: ∀(ns acc:f.3),acc.Nodup->(acc.804).Nodup
 |[],_,h=>h
 |n::ns,acc,h=>by
  rw[List.foldl_cons];refine Q7 ns _ ?_;split
  . exact h
  . exact(h,‹¬_› (e▸ha)).132
theorem MK(ns:f.3):(BU ns).Nodup:=Q7 ns [] eO
theorem OL{l:Addr}{items:R.3}{ns:f.3}{Q:l.3}(hh:s.5)(hl:items.660)(hi:IntsAre items.toList ns)
 (hb: Z.15)
 (h: (rY prog w s.heap.objs.size (BU ns) h').793):
 (call (.type "set") l.43).65:=by
 have hlen:items.size=ns.length:=(Array.length_toList,hi.length).15
 refine G7 (U:=A.units+16) (λi=>rY prog w s.heap.objs.size (BU (ns.take i))) hh (aS _) hl (λh' _ hg=>rY.fresh hg) (λi h1 h2 x k=>x.keep λo e=>k _ o (aS _) e) (λi v hv=>?_) λh' tk hI hk=>h h' tk ?_ hk
 . obtain⟨t,rfl⟩:=IntsAre.int_at hi i v (bM,hv).3;have lO:i<items.size:=by
    rcases rO i items.size with q|q
    . exact q
    . rw[Array.getElem?_eq_none q] at hv;cases hv
   have hn:(ns,ns.getD i 0).4:=(List.getD_eq_getElem?_getD,b.4).18
   rw[aDA hn];exact aFO (hb _ (MK _) λk hk=>iG ((W0 _ k).mp hk))
 . rw[hlen,cJ] at hI;exact hI
end
end G.T
namespace G.T
open PySem PySem.Spec PyProof.Rows
theorem gU:Slot "set_iterator" "__next__" "set_iterator.__next__":=
 .of (owner:="set_iterator") (n:="__next__") O.16 (l.4) (l.4) (l.4)
  (by first|exact .inl l.4|exact .inr l.4) (d.15)
theorem sZ:Slot "set_iterator" "__iter__" "set_iterator.__iter__":=
 .of (owner:="set_iterator") (n:="__iter__") O.16 (l.4) (l.4) (l.4)
  (by first|exact .inl l.4|exact .inr l.4) (d.15)
theorem q0:entryFor table "set_iterator.__next__"=some Builtin.«set_iterator.__next__»:=entryFor_of_fast (by kernel_rfl)
theorem BV:entryFor table "set_iterator.__iter__"=some Builtin.«dict_keyiterator.__iter__»:=
 ("dict_keyiterator.__iter__").807
theorem tD(a:Value):argsOk "set_iterator.__next__" ⟨[a],[]⟩:=e.14
theorem DQ(a:Value):argsOk "set_iterator.__iter__" ⟨[a],[]⟩:=e.14
theorem ML:entryFor table "set.__iter__"=some Builtin.«frozenset.__iter__»:=
 ("frozenset.__iter__").807
theorem MM{α:Type}: ∀{l:w.3} {i:Nat} (h:i<l.length),(l[i]::l.eraseIdx i).Perm l
 |[],_,h=>h.670
 |a::l,0,_=>nY _
 |a::l,i+1,h=>(List.Perm.swap a _ _).trans (List.Perm.cons a (MM (Nat.lt_of_succ_lt_succ h)))
theorem aCh{α:Type}(next:Nat->Nat): ∀(fuel k:Nat) (left:w.3) (out:Array α),left.length=fuel->
 (pickOrder.go next fuel k left out).toList.Perm (out.toList++left)
 |0,_,left,out,h=>by unfold pickOrder.go;rw[gD.mp h,List.append_nil]
 |fuel+1,k,left,out,h=>by unfold pickOrder.go;have lO:next k%left.length<left.length:=zG _ b.3;rw[aF lO];dsimp only;refine(aCh next fuel (k+1) (left.eraseIdx (next k%left.length)) _ (List.length_eraseIdx_of_lt lO).56).trans ?_;rw[kC,cA];refine List.Perm.append_left _ ?_;exact MM lO
theorem Q8{α:Type}(next:Nat->Nat)(xs:Array α):(pickOrder next xs).toList.Perm xs.toList:=by unfold pickOrder;have:=aCh next xs.size 0 xs.toList #[] c.3;simpa using this
def tE(w:World)(S:Addr)(ep:Nat)(es:e.4):e.4:=if d.5 then k.14 else es
theorem MN(w:World)(S:Addr)(ep:Nat)(es:e.4):(v.10).toList.Perm es.toList:=by
 unfold tE;split
 . exact Q8 _ _
 . exact nY _
theorem BW(w:World)(S:Addr)(ep:Nat)(es:e.4):(v.10).size=es.size:=((MN w S ep es).length_eq).775
def slotAt(w:World)(t:SetTable)(i:Nat):Nat:=if d.5 then 0 else match i with
 |0=>0
 |i+1=>t.place.getD i 0+1
theorem aAi{xs:Array Nat}(h:FN xs):SetTable.below xs 0=0:=by
 obtain⟨h1,h2,_⟩:=vO h 0;refine eE N.3;have hp:0<SetTable.below xs 0:=b.3
 have hs:(xs,0,xs[0]).4:=K.10;exact jZ _ (h2 0 _ hp hs)
theorem aAj{xs:Array Nat}(h:FN xs){i j:Nat}(hi:(xs,j).4):SetTable.below xs (j+1)=i+1:=by
 obtain⟨h1,h2,h3⟩:=vO h (j+1);have hs:i<xs.size:=U.14;rcases nH (SetTable.below xs (j+1)) (i+1) with hl|he|hg
 . have:=h3 i j b.3 hi;omega
 . exact he
 . have hb:(xs,i+1,xs[i+1]).4:=K.10;have a1:=h2 _ _ hg hb;have a2:=h.lt i (i+1) _ _ (tX _) hi hb;omega
structure SetObj(w:World)(o:Obj)(es:e.4)(ep:Nat)(t:SetTable):Prop where
 ex:o.ExactSet
 data:Z.12
 ok:p.10
 plain:t.plain.7
 led:t.led=(!d.5)
theorem DR{w:World}{t:SetTable}{es:e.4}(ok:p.10)(hw:d.5.25){i:Nat}(hi:i<=es.size):SetTable.below t.place i.597=i:=by
 have hlen:=ok.raw.len;rw[Array.length_toList,Array.length_toList] at hlen;unfold slotAt;rw[hw]
 cases i with
 |zero=>exact aAi ok.raw.rise
 |succ i=> simp only [Bool.false_eq_true,↓reduceIte];refine aAj ok.raw.rise ?_;rw[i4,K.10];rfl
section
variable{prog:Program}{w:World}{A:Around}{E:l.3}{s:Shared}{S:Addr}{o:Obj}{es:e.4}{ep:Nat}{t:SetTable}
theorem S2{i:Nat}{e:Int×Value}{Q:(Option (Value×Nat)).49}(x:w.11)(ho:S.70)(hi:((v.10),e).4)(h:Q (some (e.2,(i+1).597)) s):
 (setNext S i.597 i ep).65:=by
 have hf:=x.ok.fits;have lO:i<es.size:=(BW w S ep es,U.14).15
 unfold setNext;refine aB x.13;dsimp only;unfold setsByText;refine aB (aB (jY m.3))
 cases hw:d.5 with
 |true=>
  show wpAny _ _ d.5.40 _ _ _;rw[hw,if_pos rfl];rw[if_neg c.3];unfold setWalk;refine aB (aB x.13);dsimp only;unfold setsByText;refine aB (aB (jY m.3));show wpAny _ _ d.5.40 _ _ _;rw[hw,if_pos rfl];refine aB (jY m.3);unfold tE at hi;rw[hw,N.5] at hi;have e1:i.597=(i+1).597:=by unfold slotAt;rw[hw];rfl
  refine m.3;show Q (Option.map _ (k.14)[i]?) s;rw[hi,e1];exact h
 |false=>
  show wpAny _ _ d.5.40 _ _ _;rw[hw,if_neg c.3];rw[if_neg (t.plain,decide (es.size>1)).137];have hl:t.led.7:=(x.led,hw).18
  refine aB (show wpAny _ _ ((!t.led&& !es.isEmpty)).40 _ _ _ from ?_);rw[hl];refine m.3;rw[DR x.ok hw (kH lO)];unfold tE at hi;rw[hw,if_neg c.3] at hi;rw[hi];have hlen:=x.ok.raw.len;rw[Array.length_toList,Array.length_toList] at hlen;have hp:(t.place,t.place.getD i 0).4:=(i4,K.10).18
  rw[hp];have e1:(i+1).597=t.place.getD i 0+1:=by unfold slotAt;rw[hw];rfl
  rw[e1] at h;exact aH h
theorem S3{Q:(Option (Value×Nat)).49}(x:w.11)(ho:S.70)(h:Q none s):
 (setNext S es.size.597 es.size ep).65:=by
 have hf:=x.ok.fits;unfold setNext;refine aB x.13;dsimp only;unfold setsByText;refine aB (aB (jY m.3))
 cases hw:d.5 with
 |true=>
  show wpAny _ _ d.5.40 _ _ _;rw[hw,if_pos rfl];rw[if_neg c.3];unfold setWalk;refine aB (aB x.13);dsimp only;unfold setsByText;refine aB (aB (jY m.3));show wpAny _ _ d.5.40 _ _ _;rw[hw,if_pos rfl];refine aB (jY m.3);refine m.3;show Q (Option.map _ (k.14)[es.size]?) s;have hs:(k.14).size=es.size:=((Q8 _ _).length_eq).775
  rw[Array.getElem?_eq_none b.3];exact h
 |false=>
  show wpAny _ _ d.5.40 _ _ _;rw[hw,if_neg c.3];rw[if_neg (t.plain,decide (es.size>1)).137];have hl:t.led.7:=(x.led,hw).18
  refine aB (show wpAny _ _ ((!t.led&& !es.isEmpty)).40 _ _ _ from ?_);rw[hl];refine m.3;rw[DR x.ok hw (aS _),Array.getElem?_eq_none (aS _)];exact aH h
def uN(slot i S n ep:Nat):Obj:=(.type "set_iterator",.fields #[.int slot 0,.int i 0,.ref S,.int n 0,.int ep 0]).141
theorem W2{I i:Nat}{e:Int×Value}{Q:v.5.49}(x:w.11)(ho:S.70)(hI:(I,(i,i).102).43)
 (hi:((v.10),e).4) (h: ∀h',h'.get? I=some (i+1,i+1).102->I.669->Q (some e.2) {s with heap:=h'}):
 (pyNext (.ref I)).65:=by
 have hT:s.TypeIs (.ref I) "set_iterator":=hI.63;unfold pyNext;refine aB (JC (mL (name:=z.14) hT gU
  (eW gU hT q0 ?_ (tD _))))
 show wpAny _ _ (fieldsOf (.ref I)>>=_) _ _ s;refine aB (YT hI rfl ?_);dsimp only;refine aB (aBA ho x.data x.ok.fits ?_);rw[if_neg c.3];show wpAny _ _ (setNext S (Int.toNat i.597.33) (Int.toNat i.6) (Int.toNat ep.6)>>=_) _ _ s;simp only [Int.toNat_natCast];refine aB (S2 x ho hi ?_);refine aB (wpAny_setField_rec hI c.3 λh1 g1 b1=>?_);refine aB (wpAny_setField_rec (s:={s with heap:=h1}) g1 c.3 λh2 g2 b2=>?_);exact aH (aH (h h2 (by simpa [uN,rawInt] using g2) (b1.trans b2))).28
theorem W3{I:Nat}{Q:v.5.49}(hh:s.5)(x:w.11)(ho:S.70)(hI:(I,(es.size,es.size).102).43)
 (h: ∀h',Heap.ExtBut I s.heap h'->Q none {s with heap:=h'}):(pyNext (.ref I)).65:=by
 have hT:s.TypeIs (.ref I) "set_iterator":=hI.63;unfold pyNext;refine aB (JC (mL (name:=z.14) hT gU
  (eW gU hT q0 ?_ (tD _))))
 show wpAny _ _ (fieldsOf (.ref I)>>=_) _ _ s;refine aB (YT hI rfl ?_);dsimp only;refine aB (aBA ho x.data x.ok.fits ?_);rw[if_neg c.3];show wpAny _ _ (setNext S (Int.toNat es.size.597.33) (Int.toNat es.size.6) (Int.toNat ep.6)>>=_) _ _ s;simp only [Int.toNat_natCast];refine aB (S3 x ho ?_);refine aB (wpAny_setField hI rfl c.3 ?_);show wpAny _ _ (newExc (.type "StopIteration") []>>=_) _ _ _;refine aB ?_;simp only [newExc,newTuple];refine aB (eG ?_ (by size_fits));refine aB (m:=firstArgMember _ _) I.16;refine eG ?_ (by size_fits);simp only [raiseNew];refine aB (wpAny_handled ?_);rw[show A.in1.handled.9 from hh];refine aB (aH (wpAny_throw ?_));refine aB (pO (T:="StopIteration") (b:=true) G.3.63 isSubtype_stop ?_);exact aH (h _ (((dA ..).extBut.push _).push _))
theorem aDB(hh:s.5)(x:w.11)(I:Addr)(iK:S≠I):
 Walks prog w A I [I,S] [I] es.size (λi v=>∃e,((v.10),e).4/\v=e.2) (λi h=>(I,(i,i).102).30/\S.52) where
 sub:=λb hb=>by simp at hb;simp[hb]
 frame:=λ_ _ _ st hk=>⟨hk I c.3 _ st.1,hk S c.3 _ st.2⟩
 item:=λi s Q E hi st hQ=>by
  have lO:i<(v.10).size:=(BW,hi).3
  have he:((v.10),(v.10)).28:=Array.getElem?_eq_getElem lO;refine W2 x st.2 st.1 he λh' hit hs=>?_;exact S.821
 done:=λs Q E st hQ=>by refine W3 hh x st.2 st.1 λh' hs=>hQ h' s.toks λb o hb e=>hs b o (λh=>hb h.24) e
 self:=λi s Q E st hQ=>by have hT:s.TypeIs (.ref I) "set_iterator":=(st.1).63;refine HV hT sZ (eW sZ hT BV ?_ (DQ _));exact aH ⟨_,rfl,"set_iterator",_,hT,gU.lookup,hQ⟩
theorem aAk{Q:l.3}(x:w.11)(ho:S.70)(hQ:(0,0).102.761.731):
 (pyIter (.ref S)).65:=by
 have hT:s.TypeIs (.ref S) "set":=⟨o,ho,x.ex.1⟩;have hf:=x.ok.fits;refine HV hT F.slot_set_iter (eW F.slot_set_iter hT ML ?_ (F.args_set_iter_1 _));unfold Builtin.«frozenset.__iter__» Builtin.Frozenset.slot0 slotArgs;simp only [List.isEmpty_nil,Bool.not_true,Bool.false_eq_true,↓reduceIte,bind_assoc,List.length_nil,bne_self_eq_false];unfold Builtin.Frozenset.addrOf Builtin.Frozenset.sizeOf;refine aB m.3;try dsimp only
 refine aB m.3;refine aB (aB (aBA ho x.data hf m.3));unfold setDrawn setsByText;refine aB (aB x.13);dsimp only;refine aB (aB (jY (aH m.3)));rw[if_neg (_,(!t.plain&&decide (es.size>1))).137];refine aB m.3;refine aB (wpAny_setEpoch_of ho x.data hf ?_);have e0:(0).597=0:=by unfold slotAt;split<;>rfl
 rw[e0] at hQ;exact aB (eG (aH ⟨_,rfl,"set_iterator",_,G.3.63,gU.lookup,hQ⟩))
end
end G.T
namespace G
open PySem PySem.Spec PyProof.Rows L2
theorem qC(a b:Nat):Builtin.bitAnd a.6 b.6=(a&&&b).22:=(bitAnd_pp b.3 b.3).89
theorem aFT(a b:Nat):Builtin.bitOr a.6 b.6=(a|||b).22:=(aO1.aFi b.3 b.3).89
theorem DS(n:Nat):(1).33*2^n=(2^n).22:=(Int.one_mul,(Int.natCast_pow 2 n).symm).3
section
variable{P:Program}{w:World}{K:PySem.W.Frag}{mg:k.3}{base:Heap}{A:Ad}
def aDC:Sp:=λvs H Q _=>∃n:Nat,vs=[nV n]/\n.546/\(((2^n-1:Nat))).33.619
theorem W4:(["size"],["size"],LS).5:=o.3
theorem yF(T:n.3):dC P w K mg base kJ 1 "all_bits" ["size"] aDC:=by
 refine T.L3.ok W4 E.5 (λvs H Q E h=>by obtain⟨n,rfl,_⟩:=h;rfl) q.3;obtain⟨n,rfl,hn,k⟩:=h;refine(d6 E5 (d6 E6 bC (pv 0)) bC).642;refine⟨_,rfl,_,_,rfl,rfl,b.3.696,_,_,rfl,rfl,?_⟩;have e:(n.6.613-1).33=(2^n-1).22:=by rw[Int.toNat_natCast,DS];have:=Nat.two_pow_pos n;omega
 show(n.6.613-1).619;rw[e];exact k
def aFU:Sp:=λvs H Q _=>∃(a:Addr) (bs:List Bool),vs=[p.3]/\(a,bs.map V.bl).41/\bs.length.546/\(Q (nV (M.bitsOf bs)) H').651
theorem rA:(["flags","bits","place","flag"],["flags"],QO).5:=o.3
theorem mU(T:n.3):dC P w K mg base kJ 1 "bits_of" ["flags"] aFU:=by
 refine T.QU.ok rA E.5 (λvs H Q E h=>by obtain⟨a,n,rfl,_⟩:=h;rfl) q.3;obtain⟨a,bs,rfl,hA,hn,k⟩:=h;have hS:(bs.map V.bl).75:=bP.of hA;refine⟨_,aK ((1,rA.nd,bC).17) (aK (fF bL rfl (CQ rfl T.nA (pv 0).30) (xB rfl (dH (2,rA.nd).64 (dH (3,rA.nd).64 kX)))
  (aP (KD (pv 3) (λ_=>rfl),aEW (i:=1) rA.nd rfl l.5 (d6 E6 bC (pv 2)) aK3).33)) (pv 1).47),?_⟩
 refine(a,hS).119;refine eB (a,bs.map V.bl).114 (λi σ H'=>∃v2 v3,σ=[a.8,(M.bitsOf (bs.take i)).32,v2,v3]/\s.3) ⟨none,none,rfl,aL.refl H⟩ (λi σ H' _ h=>by obtain⟨_,_,_,s1⟩:=h;exact s1.seq hS) ?_ ?_
 . rintro i x σ H1 H2 hi ⟨v2,v3,rfl,s1⟩ ⟨T',v,rfl,hT,rfl,hv⟩;rw[aA] at hi;have hb:(bs,bs).28:=aF hi;obtain rfl:v= .bl bs[i]:=by rw[aE,hb] at hv;exact hv.31
   have s2:(T',(.bl bs[i]).611).25.34:=s1.new hT;refine⟨T',_,rfl,lN.of aI,rfl,_,_,rfl,_,_,rfl,rfl,?_⟩;refine(_,bs[i],?_).29;have et:bs.take (i+1)=bs.take i++[bs[i]]:=(rN,hb).18
   have el:(bs.take i,i).6:=aX.56
   have eb:=M.V0 (bs.take i) bs[i];rw[el,<-et] at eb;refine p7 N.3 N.3
   . rw[p.5] at eb;refine⟨_,rfl,_,rfl,_,_,rfl,rfl,b.3.696,_,_,rfl,rfl,i.32,some (.bl bs[i]),?_,s2⟩;have e2:Builtin.bitOr (bs.take i).632 i.6.613=(M.bitsOf (bs.take (i+1))).22:=by rw[Int.toNat_natCast,DS,aFT,eb]
     show [a.74,some (V.int (Builtin.bitOr (bs.take i).632 i.6.613)),_,_]=_;rw[e2]
   . rw[O.5] at eb;refine⟨i.32,some (.bl bs[i]),?_,s2⟩;rw[eb];rfl
 . rintro σ H1 ⟨v2,v3,rfl,s1⟩;rw[aA,cJ];exact(k _ s1).28
end
end G
namespace G
open PySem PySem.Spec PyProof.Rows L2
theorem pI{a b:Nat}:(nV a,nV b).11=(a==b):=by
 by_cases h:a=b
 . subst h;simp
 . have:¬nV a=nV b:=λe=>h (by injection e with e;omega);rw[aQ this];exact(fG.mpr h).symm
theorem S4(p:a.3)(b:Nat):(p.map λ(n:Nat)=>n.6).count b.6=p.count b:=by
 induction p with
 |nil=>rfl
 |cons a p ih=>
  rw[List.map_cons,HP,HP,ih];congr 1;by_cases h:a=b
  . subst h;simp
  . have:¬(a.6=b.6):=b.3
    simp[h,this]
theorem nQ{p:a.3}{s:Nat}(h:I.5):((bE p),s,nV s.505).4:=by rw[aE,aF h];simp[List.getD,h]
section
variable{P:Program}{w:World}{K:PySem.W.Frag}{mg:k.3}{base:Heap}{A:Ad}
def aDD:Sp:=λvs H Q _=>∃(a:Addr) (p:a.3) (s b:Nat),vs=[p.3,nV s,nV b]/\p.48.72/\I.5/\(M.jS p s b).572
theorem G8:(["pattern","sign","bit","needed"],["pattern","sign","bit"],LU).5:=o.3
theorem W5(T:n.3):dC P w K mg base kJ 1 "can_keep" ["pattern","sign","bit"] aDD:=by
 refine T.L4.ok G8 Y.4 X.12 q.3;obtain⟨a,p,sg,b,rfl,hA,hs,k⟩:=h;have hS:lN K H a (bE p):=lN.of hA;refine⟨_,aK (((d6 tN (R8,pv 0,pv 1).23 (pv 2)).598,bU CF).33)
  (aK ((3,G8.nd,aFC B9 PySem.F.type_tuple_count aB8 (pv 0) (pv 2).30).17)
  (aOd (jB gM (pv 3) bC (cG _)) (E4 (J4 (jB gM (pv 3) bC (cG _)) (E4 (jB gM (R8,pv 0,pv 1).23 (pv 2) (cG _)))))).47),?_⟩
 refine⟨_,rfl,_,rfl,a,_,_,_,rfl,rfl,hS,cC (nQ hs),_,rfl,_,_,rfl,rfl,rfl,_,rfl,?_⟩;have e0:((sg.505.22,b.6).83,nV 0).11=((sg.505&&&b)==0):=(qC,pI).3
 show((((sg.505.22,b.6).83,nV 0).11)).40;rw[e0];refine p7 N.3 N.3
 . show false.572;have:(M.jS p sg b).25:=by unfold M.jS;rw[if_pos b.10]
   rw[<-this];exact k
 . refine⟨_,rfl,⟨a,_,rfl,hA⟩,_,rfl,a,_,_,rfl,rfl,(mG,hS).15,?_⟩;rw[S4];refine⟨_,rfl,rfl,_,rfl,?_⟩;have ek:M.jS p sg b=(p.count b==0||(p.count b==1&&sg.505==b)):=by unfold M.jS;rw[if_neg b.10]
   rw[ek] at k;have e1:(nV (p.count b),nV 0).11=(p.count b==0):=pI;have e2:(nV (p.count b),nV 1).11=(p.count b==1):=pI;show(((nV (p.count b),nV 0).11)).40;rw[e1];refine p7 (λh1=>?_) λh1=>?_
   . rw[h1] at k;exact k
   . rw[Bool.not_eq_true] at h1;rw[h1,Bool.false_or] at k;refine⟨_,rfl,rfl,_,rfl,?_⟩;show(((nV (p.count b),nV 1).11)).40;rw[e2];refine p7 (λh2=>?_) λh2=>?_
     . rw[h2,eP] at k;refine⟨_,rfl,_,rfl,a,_,_,_,rfl,rfl,hS,cC (nQ hs),_,rfl,rfl,?_⟩;rw[pI];exact k
     . rw[Bool.not_eq_true] at h2;rw[h2,dF] at k;exact k
def aDE:Sp:=λvs H Q _=>∃(a:Addr) (ps:d.3) (s size:Nat),vs=[p.3,nV s,nV size]/\LT H a ps/\(∀p∈ps,I.5)/\size<=10/\ps.length.546/\(Q (nV s.558) H').651
theorem pJ:(["patterns","sign","size","pattern"],["patterns","sign","size"],xR).5:=o.3
theorem II(T:n.3):dC P w K mg base kJ 3 "touched_bits" ["patterns","sign","size"] aDE:=by
 refine T.xY.ok pJ Y.4 X.12 q.3;obtain⟨a,ps,sg,size,rfl,⟨as,hA,hP⟩,hs,hz,hn,k⟩:=h;have hS:v.3.75:=bP.of hA;have iI:(1).27:=t.3;refine⟨_,aP (bU (bQ (mU T) iI rfl (aD (fM (own:=[("pattern",3)]) rfl pJ.nd (cK (pv 0)) (y.3) (3,pJ.nd).64.38 cT.38
  (aJM,(pv 3,pv 1).47,(yF T,iI,(pv 2).30).6).26) aJ))),?_⟩
 have hl:ps.length.66:=aO hP;refine⟨_,rfl,a,rfl,hS.20,λD hD=>eK a.534 ps (λp=> .bl (M.lT size p sg)) hl.500 hD hn.29 (λH' s1=>s1.seq hS) ?_ ?_⟩
 . rintro i x H1 H2 p C hp s1 ⟨rfl,hx⟩ hC;obtain⟨b,hb,ht⟩:=bO hP hp;obtain rfl:x=z.3:=by rw[aE,hb] at hx;exact hx.31
   have wY:=(_,hp).94;refine⟨rfl,_,rfl,_,rfl,b,_,_,_,rfl,rfl,lN.of ht.26,cC (nQ wY),_,rfl,size,rfl,b.3,rfl,?_⟩;refine(?_).529;show V.bl (!(nV sg.505,nV (2^size-1)).11)=V.bl (M.lT size p sg);rw[pI];rfl
 . intro H1 s1 yG;have nP:(H1 D,((M.lT size p sg).626).map V.bl).12:=(yG,a9).18
   exact⟨D,_,rfl,nP,hn.523,λH2 s2=>k H2 f.4⟩
def aAl:Sp:=λvs H Q _=>∃(a:Addr) (ps:d.3) (s size:Nat),vs=[p.3,nV s,nV size]/\LT H a ps/\(∀p∈ps,I.5)/\size<=10/\ps.length.546/\
 ∀H' r,s.3->((a.11).map (M.cE ps s)).585->r.21->r.84
theorem nR:(["patterns","sign","size","rows","number","pattern"],["patterns","sign","size"],GS).5:=o.3
theorem S5(T:n.3):dC P w K mg base kJ 3 "kept_rows" ["patterns","sign","size"] aAl:=by
 refine T.G1.ok nR Y.4 X.12 q.3;obtain⟨a,ps,sg,size,rfl,⟨as,hA,hP⟩,hs,hz,hn,k⟩:=h;have hS:v.3.75:=bP.of hA;have iI:(1).27:=t.3;have hl:ps.length.66:=aO hP;refine⟨_,aK ((3,nR.nd,c7 aJ).17)
  (aK (fF bL rfl ((pv 2).519) (4,nR.nd).100
   (aP (dB (lW bA PySem.F.slot_list_append b9 gT (pv 3) (aD (bQ (mU T) iI rfl (aD
    (fM (own:=[("pattern",5)]) rfl nR.nd (cK (pv 0)) (y.3) (5,nR.nd).64.38 cT.38
     (W5 T,iI,(pv 5,pv 1,d6 E6 bC (pv 4)).7).6.38) aJ)) aJ)))))
  (pv 3).47),?_⟩
 refine R.11;refine(size,?_).74;refine eB dS (λi σ H'=>∃v4,σ=[a.8,sg.32,size.32,r.8,v4,none]/\s.3/\((v.4).map (M.cE ps sg)).585) ⟨none,rfl,k8.76,aI⟩ (λ_ _ _ _ _=>trivial) ?_ ?_
 . rintro i x σ H1 H2 hi ⟨v4,rfl,s1,IJ⟩ ⟨rfl,rfl⟩;have OG:i<10:=by(have:size=(size.6).toNat:=c.3);omega
   refine(rfl,IJ.502,?_).10;refine⟨_,rfl,a,rfl,(s1.seq hS).20,λD hD=>eK a.534 ps (λp=> .bl (M.jS p sg (2^i))) hl.500 hD hn.29 (λH' s2=>s2.seq (s1.seq hS)) ?_ ?_⟩
   . rintro j x H3 H4 p C hp s3 ⟨rfl,hx⟩ hC;obtain⟨b,hb,ht⟩:=bO hP hp;obtain rfl:x=z.3:=by rw[aE,hb] at hx;exact hx.31
     have wY:=(_,hp).94;refine⟨rfl,_,rfl,_,rfl,_,rfl,_,_,rfl,rfl,b.3.696,b,p,sg,2^i,?_,ht.26.54,wY,?_⟩
     . have:(0+i.6).613.33=(2^i).22:=by rw[dQ,Int.toNat_natCast,DS]
       show [V.ref b,nV sg,V.int (0+i.6).613]=_;rw[this]
     . exact rfl.529
   . intro H3 s3 A4;have G9:(H3 D,((M.jS p sg (2^i)).626).map V.bl).12:=(A4,a9).18
     refine⟨D,_,rfl,G9,hn.523,λH4 s4=>?_⟩;have Y0:=IJ.54.64;refine⟨r,_,_,rfl,rfl,Y0,by rw[aA,aA,aR];exact F5 OG r.3,_,rfl,D.10,?_⟩
     . rw[bF (aY e k8)];exact e.26.54.64
     . rw[aI,dP,bH,qA];rfl
 . rintro σ H1 ⟨v4,rfl,s1,IJ⟩;rw[Int.toNat_natCast] at IJ;exact(k _ _ s1 IJ k8).28
end
end G
namespace G
open PySem PySem.Spec PyProof.Rows L2
def shF(ps:d.3)(kr tr:Addr):V.57:=d8 "touch" (.ref tr) (d8 "keep" (.ref kr) (d8 "whole" W.12 []))
theorem zV(ps:d.3)(kr tr:Addr):("whole",W.12).136:=rfl
theorem DT(ps:d.3)(kr tr:Addr):("keep",.ref kr).136:=rfl
theorem FR(ps:d.3)(kr tr:Addr):("touch",.ref tr).136:=rfl
def zW(n size:Nat)(ps:d.3):d.3:=(C.3).map λs=>(a.11).map (M.cE ps s)
def mI(n size:Nat)(ps:d.3):a.3:=(C.3).map (M.eX size ps)
def fZ(C:Addr)(H:Hp)(x:Addr)(n size:Nat)(ps:d.3):Prop:=
 ∃dx kr tr,(x,(shF ps kr tr).91).5/\LL H kr (zW n size ps)/\(tr,mI n size ps).13
theorem fZ.mono{C:Addr}{H H':Hp}{x:Addr}{n size:Nat}{ps:d.3}(s:s.3)(h:d.12):fZ C H' x n size ps:=by obtain⟨dx,kr,tr,h1,h2,h3⟩:=h;exact⟨dx,kr,tr,h1.42,h2.mono s,h3.42⟩
section
variable{P:Program}{w:World}{K:PySem.W.Frag}{mg:k.3}{base:Heap}{A:Ad}
def aIp(C:Addr):Sp:=λvs H Q _=>∃(x dx a:Addr) (ps:d.3) (n size:Nat),vs=[.ref x,p.3,nV n,nV size]/\(x,([]).91).5/\LT H a ps/\(H.10)/\n<=8/\size<=10/\ps.length.546/\
 ∀H',fZ C H' x n size ps->x.55->Q .gL H'
theorem mJ:(["self","patterns","signs","size","sign"],["self","patterns","signs","size"],DB).5:=o.3
theorem OM(T:n.3):G4 P w K mg base kJ 5 A.Shape "Shape" ["self","patterns","signs","size"] (aIp A.Shape):=by
 refine T.jT.ok mJ F.10 (λvs H Q E h=>by obtain⟨x,dx,a,p,s,b,rfl,_⟩:=h;rfl) q.3;obtain⟨x,dx,a,ps,n,size,rfl,hx,hT,hp,pV,hz,hn,k⟩:=h;have iI:(1).27:=t.3;have wZ:(3).27:=t.3;refine⟨_,aK ((yF T,iI,(pv 1).566.30).6.88)
  (aK (fK (pv 0) (fM (own:=[("sign",4)]) rfl mJ.nd ((pv 2).519) (y.3) (4,mJ.nd).64.38 cT.38
   (S5 T,wZ,(pv 1,pv 4,pv 3).7).6.38) rfl)
  (aP (fK (pv 0) (fM (own:=[("sign",4)]) rfl mJ.nd ((pv 2).519) (y.3) (4,mJ.nd).64.38 cT.38
   (II T,wZ,(pv 1,pv 4,pv 3).7).6.38) rfl))),?_⟩
 obtain⟨as,hA,hP⟩:=id hT;have hl:ps.length.66:=aO hP;refine⟨_,rfl,a,_,rfl,hA.35,ps.length,(aA,hl).18,hn,_,rfl,x,A.Shape,dx,_,rfl,hx,T.jT.cl,T.mE,(0).77,?_⟩;have b1:eA x H B.15:=H.567;have jH:(B.15) x=_:=aI;have MO:=hT.but b1 hx P.11 P.11;show _;refine(n,λD hD=>?_).74;generalize B.15=H1 at b1 jH MO hD;refine vN dS C.3 (λH' b i=>(H' b,(a.11).map (M.cE ps i)).10) r.12 c.3 hD l.11 C.5 ?_ ?_
 . rintro i y H2 H3 d C hd s2 YY ⟨rfl,rfl⟩ hC;obtain⟨hi,rfl⟩:i<n/\d=i:=mH hd;refine⟨rfl,_,rfl,_,rfl,_,rfl,a,ps,d,size,?_,MO.mono s2,λp q=>(hp p q,hi).3,hz,hn,λH4 r s4 Y0 uO=>?_⟩
   . show [r.4,d.522,nV size]=_;rw[dQ]
   . refine hC _ _ s4 ?_;rw[uO.762];exact Y0
 . intro H2 rs s2 nP hP2;refine⟨_,rfl,x,A.Shape,dx,_,rfl,jH.50,T.jT.cl,T.lV,(1).77,?_⟩;have vC:=jH.50;have CB:=MO.mono s2;have hL2:LL H2 D (zW n size ps):=⟨rs,nP,by unfold zW;exact mT hP2⟩;have b3:eA x H2 O.15:=H2.567;have CC:(O.15) x=_:=aI;have UX:=CB.but b3 vC P.11 P.11;have hL3:=hL2.but b3 vC P.11;have b13:eA x H _:=(b1.trans (eA.of s2)).trans b3;refine(n,λD' hD'=>?_).74;generalize O.15=H3 at CC UX hL3 b13 hD';refine eK dS C.3 (λi=>nV i.558) c.3 hD' l.11 C.5 ?_ ?_
   . rintro i y H4 H5 d C hd s4 ⟨rfl,rfl⟩ hC;obtain⟨hi,rfl⟩:i<n/\d=i:=mH hd;refine⟨rfl,_,rfl,_,rfl,_,rfl,a,ps,d,size,?_,UX.mono s4,λp q=>(hp p q,hi).3,hz,hn,λH6 s6=>hC _ _ s6 rfl⟩;show [r.4,d.522,nV size]=_;rw[dQ]
   . intro H4 s4 G9;refine⟨_,rfl,x,A.Shape,dx,_,rfl,CC.64,T.jT.cl,T.mF,(2).77,?_⟩;have b5:eA x H4 (upd H4 x (A.Shape,shF ps D D').22):=H4.567;refine k _ ⟨dx,D,D',aI,(hL3.mono s4).but b5 CC.64 P.11,b5 _ _ ?_ ?_⟩ ((b13.trans (eA.of s4)).trans b5)
     . rw[G9];unfold mI;rw[JQ]
     . exact(G9,CC.64).24
end
end G
namespace G
open PySem PySem.Spec PyProof.Rows L2
abbrev Span:=a.3×Nat
def mV(H:Hp)(b:Addr)(g:Span):Prop:=∃c,(.tup [.ref c,nV g.2]).45/\(c,(g.1).48).5
def fT(H:Hp)(l:Addr)(gs:u.3):Prop:=(l.575/\(mV H,gs).39).625
theorem mV.mono{H H':Hp}{b:Addr}{g:Span}(s:s.3)(h:mV H b g):mV H' b g:=by obtain⟨c,h1,h2⟩:=h;exact⟨c,h1.42,h2.42⟩
theorem mV.but{l b:Addr}{H H':Hp}{g:Span}{xs:e.3}(s:l.55)(hl:l.517)(h:mV H b g):mV H' b g:=by obtain⟨c,h1,h2⟩:=h;exact⟨c,s _ _ h1 (h1,hl).24,s _ _ h2 (h2,hl).24⟩
theorem fT.mono{H H':Hp}{l:Addr}{gs:u.3}(s:s.3)(h:fT H l gs):fT H' l gs:=Y.13
theorem fT.but{l m:Addr}{H H':Hp}{gs:u.3}{xs:e.3}(s:l.55)(hl:l.517)(n:m≠l)(h:fT H m gs):fT H' m gs:=(s _ _ h1 n,(h2,q.but s hl).38).90
theorem fT.len{H:Hp}{l:Addr}{gs:u.3}(h:fT H l gs): ∃xs:e.3,l.517/\xs.length=gs.length:=by obtain⟨as,h1,h2⟩:=h;exact(h1,(aO h2).523).27
theorem iE{α β:Type}{F:(α,β).16}: ∀{l₁ m₁:w.3} {l₂ m₂:List β},i.13->Paired F m₁ m₂->Paired F (l₁++m₁) (l₂++m₂)
 |_,_,_,_,.nil,s=>s
 |_,_,_,_,.cons r t,s=> .cons r (iE t s)
theorem pE(p:a.3)(k:Nat):(bE p).take k=bE (p.take k):=RX.symm
theorem uP(p:a.3)(k:Nat):(bE p).drop k=bE (p.drop k):=RW.symm
theorem aIq{p:a.3}{s x:Nat}(h:I.5):p.take s++[x]++p.drop (s+1)=p.set s x:=(List.set_eq_take_append_cons_drop,if_pos h,cA).13
section
variable{P:Program}{w:World}{K:PySem.W.Frag}{mg:k.3}{base:Heap}{A:Ad}
def aAm:Sp:=λvs H Q _=>∃(a:Addr) (p:a.3) (s mask:Nat),vs=[p.3,nV s,nV mask]/\p.48.72/\I.5/\p.length<=8/\
 (∀H',s.3->(M.iB p s mask).9->Q .gL H')/\(∀H' r g,s.3->M.iB p s mask=some g->H' r=some g.48->r.84)
theorem yH:(["pattern","sign","mask","left","grown"],["pattern","sign","mask"],LV).5:=o.3
theorem HA(T:n.3):dC P w K mg base kJ 1 "narrowed" ["pattern","sign","mask"] aAm:=by
 refine T.L5.ok yH Y.4 X.12 q.3;obtain⟨a,p,sg,mask,rfl,hA,hs,hp8,kn,kg⟩:=h;have hS:lN K H a (bE p):=lN.of hA;refine⟨_,aK ((3,yH.nd,d6 tN (R8,pv 0,pv 1).23 (pv 2)).17)
  (aK (((pv 3).598,bU w9).33)
  (aK ((4,yH.nd,d6 aPb (d6 aPb (gY aFa (pv 0) mM (gS (pv 1))) (qI (pv 3).30)) (gY aFa (pv 0) (gS (d6 lY (pv 1) bC)) mM)).17)
  (aK (((ZD (d6 tN (pv 3) (d6 E5 (pv 3) bC)).598 (R4 (PB,aFC B9 PySem.F.type_tuple_count aB8 (pv 4) (pv 3).30,bC).9)).pt,bU w9).33)
  (pv 4).47))),?_⟩
 refine⟨_,rfl,_,rfl,a,_,_,_,rfl,rfl,hS,cC (nQ hs),_,rfl,_,_,rfl,rfl,?_⟩;show aHG _ _ _ [a.74,sg.32,mask.32,some (sg.505.22,mask.6).83,none] H;rw[qC];have hN:=Eq.refl (M.iB p sg mask);conv at hN=>rhs;unfold M.iB
 generalize hx:(sg.505&&&mask)=x at hN;refine(rfl,?_).106;show(nV x,nV 0).11.40;rw[pI];refine p7 N.3 N.3
 . rw[if_pos b.10] at hN;exact kn H (aL.refl H) hN
 . have JS:¬x=0:=b.10
   rw[if_neg JS] at hN;refine⟨_,rfl,_,rfl,_,rfl,a,_,rfl,hS,?_,λp1 h1=>?_⟩
   . rintro⟨_,h⟩;rw[QY,bE,aA] at h;omega
   rw[BS,pE];refine(rfl,(1).514,λp2 h2=>⟨p1,p2,bE (p.take sg),[nV x],rfl,rfl,?_,aI,?_,λp3 H3 s3 h3=>?_⟩).10
   . exact(h2.86) _ _ aI
   . rw[aA,aX];exact(show _<=9 by simp;omega).29
   have UY:H3.34:=(h1.76,h2.86,s3).11;refine⟨_,rfl,_,rfl,_,_,rfl,rfl,_,rfl,a,_,rfl,lN.of (UY _ _ hA),?_,λp4 h4=>?_⟩
   . rintro⟨h,_⟩;have e1:(sg.6+1)=(sg+1).22:=b.3
     have h':HT.oG p.94 0 (some (sg.6+1))=0:=h;rw[e1,QY,bE,aA] at h';omega
   have e4:(bE p,sg.6+1).66=bE (p.drop (sg+1)):=by
    have e1:(sg.6+1)=(sg+1).22:=b.3
    rw[e1,DN,uP]
   refine⟨p3,p4,bE (p.take sg)++[nV x],bE (p.drop (sg+1)),rfl,rfl,(h4.86) _ _ h3,(aI,cP (λz=>some (HO.tup z)) e4).3,?_,λp5 H5 s5 h5=>?_⟩
   . rw[List.length_append,aA,aA,aX,dO];exact(show _<=9 by simp;omega).29
   have s05:H5.34:=(UY.trans h4.86).trans s5;have h5':H5 p5=some (p.set sg x).48:=by rw[h5,<-aIq hs,qA,qA];rfl
   refine⟨_,rfl,_,rfl,_,_,rfl,rfl,_,_,rfl,rfl,rfl,_,rfl,?_⟩;have e6:(Builtin.bitAnd x.6 (x.6-1)).603=((x&&&(x-1))==0):=by
    have e7:(x.6-1)=(x-1).22:=b.3
    rw[e7,qC];exact pI
   show(Builtin.bitAnd x.6 (x.6-1)).603.40;rw[e6];refine p7 (λh6=>?_) λh6=>?_
   . have h6':x&&&(x-1)=0:=by simpa using h6
     refine⟨_,rfl,⟨p5,_,rfl,h5'⟩,_,rfl,p5,_,_,rfl,rfl,(mG,lN.of h5').15,?_⟩;rw[S4];refine⟨_,_,rfl,rfl,_,rfl,?_⟩;refine p7 (λh7=>?_) λh7=>?_
     . have h7':1<(p.set sg x).count x:=(cB h7).90
       rw[if_pos ⟨h6',h7'⟩] at hN;exact kn _ s05 hN
     . have h7':¬1<(p.set sg x).count x:=λz=>h7 W.4;rw[(h7' z.2).605] at hN;exact(kg _ _ _ s05 hN h5').28
   . have h6':¬x&&&(x-1)=0:=by simpa using h6
     rw[(h6' z.1).605] at hN;exact d5 (kg _ _ _ s05 hN h5').28
def aDF:Sp:=λvs H Q _=>∃(l a:Addr) (gs:u.3) (p:a.3) (s mask place:Nat),vs=[.ref l,p.3,nV s,nV mask,nV place]/\fT H l gs/\gs.length<1000000/\p.48.72/\I.5/\p.length<=8/\
 ∀H',fT H' l (gs++M.span p s mask place)->l.55->Q .gL H'
theorem HB:(["spans","pattern","sign","mask","place","grown"],["spans","pattern","sign","mask","place"],LW).5:=o.3
theorem lI(T:n.3):dC P w K mg base kJ 2 "add_span" ["spans","pattern","sign","mask","place"] aDF:=by
 refine T.L6.ok HB I.13 (λvs H Q E h=>by obtain⟨l,a,gs,p,s,m,b,rfl,_⟩:=h;rfl) q.3;obtain⟨l,a,gs,p,sg,mask,place,rfl,IK,hgs,hA,hs,hp8,k⟩:=h;refine⟨_,aK ((5,HB.nd,(HA T,hr,(pv 1,pv 2,pv 3).7).6).17)
  (aP ((aBJ,pv 5,w9).9,(pv 0,qI (pv 5,pv 4).21).63).33),?_⟩
 refine⟨_,rfl,_,rfl,_,rfl,a,p,sg,mask,rfl,hA,hs,hp8,λH1 s1 hN=>?_,λH1 r g s1 hN iI=>?_⟩
 . refine⟨_,rfl,rfl,_,rfl,d5 ?_⟩;refine k H1 ?_ (eA.of s1);unfold M.span;rw[hN];exact(IK.mono s1).658
 . obtain⟨as,h1,h2⟩:=IK.mono s1;have hl:gs.length.66:=aO h2;refine⟨_,rfl,rfl,_,rfl,gO ?_⟩;refine⟨_,rfl,h1.502,_,rfl,_,rfl,(2).514,λt ht=>?_⟩;have IC:(((t,.tup [.ref r,nV place]).25) l,v.3).12:=(ht.509) _ _ h1;refine(l,IC,(hl,F5 hgs r.3).78).33;have b1:eA l H1 ((t,.tup [.ref r,nV place]).25,l,v.3++[.ref t]).3:=(eA.of ht.509).put;refine k _ (as++[t],(aI,bH).18).17 ((eA.of s1).trans b1);unfold M.span;rw[hN];refine iE (h2,q.but b1 h1).38 (r,?_).17.555
   . rw[bF (aY h1 ht).symm,aI]
   . exact b1 _ _ iI (iI,h1).24
end
end G
namespace G
open PySem PySem.Spec PyProof.Rows L2
theorem eA.same{l:Addr}{H H1 H2:Hp}(b:eA l H1 H2)(s:H1.34)(h:l.21):H2.34:=λc o e=>b c o (s c o e) (aY e h)
theorem aIr(xs:e.3){k:Nat}(hk:0<k):(xs,-k.6).66=xs.drop (xs.length-k):=by
 unfold gN;have e:HT.oG xs.length 0 (some (-k.6))=xs.length-k:=by show(-k.6<0,(-k.6+xs.length.6).toNat,_).14=_;rw[if_pos b.3];omega
 rw[HT.KJ,e,s.14]
theorem S6{l m:a.3}:(l,m).11=(l==m):=by
 by_cases h:l=m
 . simp[h]
 . rw[aQ h];exact(fG.mpr h).symm
section
variable{P:Program}{w:World}{K:PySem.W.Frag}{mg:k.3}{base:Heap}{A:Ad}
def aAn:Sp:=λvs H Q _=>∃(r l:Addr) (row letters:a.3),vs=[.ref r,.ref l]/\(r,row).13/\(l,letters).13/\letters.length.62/\Q.11/\(M.j7 row letters).666
theorem vQ:(["row","letters","start"],["row","letters"],GU).5:=o.3
theorem S7(T:n.3):dC P w K mg base kJ 2 "stands_in" ["row","letters"] aAn:=by
 refine T.G2.ok vQ I.3 X.12 q.3;obtain⟨r,l,row,letters,rfl,hR,hL,hn,hm,k⟩:=h;refine⟨_,aP (bU (a6 (aLo rfl) (by rfl) T.WR boot_any (aD (fM (own:=[("start",2)]) rfl vQ.nd ((pv 1).566.519) (y.3)
  (2,vQ.nd).64.38 cT.38
  (aFE hr.units,gY (slL K) (pv 1) (gS (pv 2)) (gS (d6 lY (pv 2) (pv 0).87)),pv 0).26) aJ))),?_⟩
 refine⟨_,rfl,l,_,rfl,hL.35,letters.length,aA.85,b.3,b.3,λD hD=>?_⟩;refine eK dS (List.range letters.length) (λi=> .bl (i.721,row).11) c.3 hD (aR,hn.29).3 C.5 ?_ ?_
 . rintro i x H1 H2 d C hd s1 ⟨rfl,rfl⟩ hC;obtain⟨hi,rfl⟩:=mH hd;refine⟨rfl,_,rfl,_,rfl,_,rfl,_,rfl,_,rfl,r,_,rfl,hR.26.35,_,_,rfl,rfl,_,rfl,l,_,rfl,hL.521,M.5⟩;have e1:(bE letters,some (0+d.6),0+d.6+(row.94:Nat)).21=bE d.721:=by
    have e2:(0+d.6+(row.94:Nat))=(d+row.length).22:=aA.56
    rw[e2,dQ,SY _ b.3,uP,pE];congr 2;omega
   refine⟨_,rfl,p,r,_,row,rfl,rfl,e1.740,(hp.86) _ _ hR.26,?_⟩;exact hC _ _ hp.86 rfl
 . intro H1 s1 yG;refine⟨D,(letters.length,λi=>(i.721,row).11).91,rfl,?_,?_⟩
   . rw[a9];exact bP.of yG
   . have e:((letters.length,λi=>(i.721,row).11).91).any id=M.j7 row letters:=by rw[oB];unfold M.j7;congr 1;funext i;exact S6
     rw[e];exact k _ s1
def aIs:Sp:=λvs H Q _=>∃(r b sy:Addr) (sign:Nat) (row bl:a.3) (syl:d.3),vs=[nV sign,.ref r,z.3,.ref sy]/\(r,row).13/\bl.48.45/\LL H sy syl/\sign<bl.length/\bl.length<=8/\1<=row.length/\Q.11/\syl.length<=10/\
 (fT H' l (M.jR sign row bl syl)).673
theorem lJ:(["sign","row","blank","syllables","spans","size","letters"],["sign","row","blank","syllables"],AL).5:=o.3
theorem MP(T:n.3):dC P w K mg base kJ 4 "begun_spans" ["sign","row","blank","syllables"] aIs:=by
 refine T.AZ.ok lJ F.10 (λvs H Q E h=>by obtain⟨a,p,s,b,_,_,_,rfl,_⟩:=h;rfl) q.3;obtain⟨r,b,sy,sign,row,bl,syl,rfl,hR,hB,⟨as,IL,hP⟩,hs,hb8,iI,uO,IM,k⟩:=h;have ON:(1).27:=t.3;have hrB:(2).27:=t.3;have hl:syl.length.66:=aO hP;refine⟨_,aK ((4,lJ.nd,c7 aJ).17)
  (aK (fF bL rfl (O8 rfl T.fA (bC,d6 lY (a6 (aC3 rfl) (by rfl) T.aB4 boot_min (eJ rfl T.lG,d6 E5 (pv 1).566 bC).21) bC).21) (5,lJ.nd).100
   (aP (dB (bQ (lI T) hrB rfl (aD (pv 4) (aD (pv 2) (aD (pv 0) (aD (bQ (mU T) ON rfl (aD
    (fM (own:=[("letters",6)]) rfl lJ.nd (cK (pv 3)) (y.3) (6,lJ.nd).64.38 cT.38
     (aFE hr.units,gY (slL K) (pv 6) (gS (wI qH (pv 5))) mM,gY (slL K) (pv 1) mM (gS (pv 5))).26) aJ)) ((pv 5).30)))))))))
  (pv 4).47),?_⟩
 refine y.12;have Q9:bP K g.5 r (bE row):=bP.of ((uQ.76) _ _ hR);have em:((row.length.6-1)<3,(row.length.6-1),3).14+1=(n.13+1).22:=by
  by_cases h:(row.length.6-1)<3
  . rw[if_pos h,tY b.3];omega
  . rw[if_neg h,wF b.3];rfl
 refine⟨_,rfl,r,_,rfl,.inl Q9,_,_,rfl,rfl,3,row.length.6-1,aA.85,_,_,rfl,rfl,1,_,rfl,?_,?_⟩
 . rw[em];omega
 have eN:(((row.length.6-1)<3,(row.length.6-1),3).14+1-1).toNat=n.13:=em.56
 show∃W:Nat->Nat->St.53,_;rw[eN];refine eB dS (λi σ H'=>∃v5,σ=[sign.32,r.8,b.8,sy.8,l.8,v5,none]/\s.3/\
  fT H' l ((v.4).flatMap λi=>M.span bl sign (M.bitsOf (W.11==M.11).599) (i+1))) ⟨none,rfl,uQ.76,[],aI,.nil⟩ trivial.38 ?_ ?_
 . rintro i x σ H1 H2 hi ⟨v5,rfl,s1,IK⟩ ⟨rfl,rfl⟩;have hi3:i<3:=b.3
   refine⟨_,rfl,_,rfl,_,rfl,_,rfl,sy,rfl,IL.26.59,λD hD=>eK sy.534 syl (λv=> .bl (W.11==M.11)) hl.500 hD IM.29 IL.26.584 ?_ ?_⟩
   . rintro j x H3 H4 v C hv s3 ⟨rfl,hx⟩ hC;obtain⟨c,hc,OO⟩:=bO hP hv;obtain rfl:x= .ref c:=by rw[aE,hc] at hx;exact hx.31
     refine⟨rfl,_,rfl,_,rfl,_,rfl,_,rfl,c,_,rfl,bP.of OO.26.54,λp1 h1=>?_⟩;have e1:(bE v,-((1).33+(i:Nat))).66=bE W.11:=by
      have e2:(1).33+(i:Nat)=(i+1).22:=b.3
      rw[e2,aIr _ b.3,uP,aA]
     refine⟨_,rfl,_,rfl,_,rfl,r,_,rfl,bP.of ((h1.86) _ _ hR.26.54),λp2 h2=>?_⟩;have e3:(bE row,none,(1).33+(i:Nat)).21=bE M.11:=by
      have e2:(1).33+(i:Nat)=(i+1).22:=b.3
      rw[e2,BS,pE]
     refine⟨p1,p2,W.11,M.11,rfl,rfl,(h2.86) _ _ e1.740,e3.740,?_⟩;refine hC _ _ ((h1.86).trans h2.86) ?_;congr 1;exact S6
   . intro H3 s3 A4;refine⟨D,(W.11==M.11).599,rfl,(a9,A4).3,IM.29.523,λH4 s4=>?_⟩;have UZ:=s3.trans s4;refine⟨_,rfl,l,b,_,bl,sign,M.bitsOf (W.11==M.11).599,i+1,?_,IK.mono UZ,?_,UZ _ _ hB.26,hs,hb8,λH5 aT4 b5=>?_⟩
     . have e2:(1).33+(i:Nat)=(i+1).22:=b.3
       show [V.ref l,V.ref b,nV sign,_,V.int ((1).33+(i:Nat))]=_;rw[e2]
     . refine jL (1,M.lR _ _ _ _).84 ?_;rw[aR];omega
     . refine⟨_,rfl,b5.same (s1.trans UZ) uQ,?_⟩;rw[dP,bT];simpa using aT4
 . rintro σ H1 ⟨v5,rfl,s1,IK⟩;exact(k _ _ s1 uQ IK).28
end
end G
namespace G
open PySem PySem.Spec PyProof.Rows L2
theorem W6{syl:d.3}{j:Nat}{v:a.3}(h:(syl,j,v).4):syl.zipIdx.take (j+1)=syl.zipIdx.take j++[(v,j)]:=by rw[rN,List.getElem?_zipIdx,h];simp
theorem aCj(syl:d.3):syl.zipIdx.take syl.length=syl.zipIdx:=List.take_of_length_le.89
theorem jU{α:Type}{l:w.3}{i:Nat}{x:α}(h:(l,x).4):l.take (i+1)=l.take i++[x]:=(rN,h).18
theorem FT(i:Nat):i.550.613.33=(2^i).22:=(Int.toNat_natCast,DS).7
def W7(word:a.3)(syl:d.3)(sign:Nat)(g:Span)(j:Nat):u.3:=((N.11).take x.1.length=x.1).836
theorem aIt(word:a.3)(syl:d.3)(sign:Nat)(g:Span)(j:Nat):(W7 word syl sign g j,j).8:=by
 refine aG (1,?_).84 aX.56;split
 . exact M.lR _ _ _ _
 . exact aW _
theorem MQ{H:Hp}{p:Span->Bool}: ∀{as:i.3} {gs:u.3},((mV H,gs).39,gs,Paired (mV H) bs (gs.filter p)).48
 |_,_,.nil=>([],.nil).50
 |a::as,g::gs,.cons r t=>by
  obtain⟨bs,e,q⟩:=MQ (p:=p) t;by_cases h:(p g).7
  . exact⟨a::bs,by simp[h,e],by rw[dM,if_pos h];exact .cons r q⟩
  . exact⟨bs,by simp[h,e],(dM,V.4,q).18⟩
theorem aDG{H:Hp}{p:Span->Bool}{as:i.3}{gs:u.3}{D:Addr}(hp:(mV H,gs).39)(h:(D,(as.zip gs).filterMap λq=>if p q.2 then(q.1).74 else none).41):fT H D (gs.filter p):=by obtain⟨bs,e,q⟩:=MQ (p:=p) hp;exact⟨bs,(h,e).7,q⟩
section
variable{P:Program}{w:World}{K:PySem.W.Frag}{mg:k.3}{base:Heap}{A:Ad}
def W8:Sp:=λvs H Q _=>∃(ta wd b sy:Addr) (text word bl:a.3) (syl:d.3),vs=[.ref ta,.ref wd,z.3,.ref sy]/\(ta,text).13/\(wd,word).13/\bl.48.45/\LL H sy syl/\
 (∀s∈text,s<bl.length)/\bl.length<=8/\g.11/\M.N5 syl/\(fT H' l j.14).673
theorem A5:(["text","word","blank","syllables","spans","sign","longer","pattern","place","number","letters","end","span"],("word").695,DA).5:=o.3
theorem OP(T:n.3):dC P w K mg base kJ 4 "word_spans" ("word").695 W8:=by
 refine T.DF.ok A5 F.10 X.15 q.3;obtain⟨ta,wd,b,sy,text,word,bl,syl,rfl,hTa,hW,hB,⟨as,IL,hP⟩,hs,hb8,Y1,hY,k⟩:=h;have hrB:(2).27:=t.3;have hl:syl.length.66:=aO hP;have nd:=A5.nd;refine⟨_,aK (4,c7 (qI (pv 2,bC).21).30).14
  (aK (fF bL rfl (cK (pv 0)) ((5).503)
   (aK (6,c7 aJ).14
   (aK (fF bL rfl (cK (pv 4)) (7,8).109
    (aP (fF bL rfl (CQ rfl T.nA (pv 3).30) (9,10).109
     (aK (11,d6 lY (pv 8) (pv 10).566).14
     (aP (dY ((aFE hr.units,gY (slL K) (pv 1) (gS (pv 8)) (gS (pv 11)),pv 10).9)
      (pv 9,pv 11).144 cN))))))
   (aP (4,nd,pv 6).17))))
  (aP (bU (fM (own:=[("span",12)]) rfl nd (cK (pv 4)) (y.3) (12).565
   (sD (gM,(pv 12,bC).47,(pv 1).87).9).38 (pv 12).38)))),?_⟩
 refine(rfl,(2).514,λt0 ht0=>(λl0 uQ=>?_).573).10;have s0:(upd H t0 (.tup [z.3,.int 0]),l0,t0.43).3.34:=(ht0.76).new uQ;have aT5:fT (upd H t0 (.tup [z.3,.int 0]),l0,t0.43).3 l0 [(bl,0)]:=⟨[t0],aI,(⟨b,(uQ.86) _ _ aI,s0 _ _ hB⟩).555⟩;refine⟨_,rfl,ta,rfl,(s0 _ _ hTa).59,eB ((ta,bE text).26) (∃sp v5 v6 v7 v8 v9 v10 v11,σ=[ta.8,wd.8,b.8,sy.8,sp.8,v5,v6,v7,v8,v9,v10,v11,none]/\s.3/\sp.21/\fT H' sp (text.take i).755).560
  ⟨l0,none,none,none,none,none,none,none,rfl,s0,(ht0.76).free uQ,aT5⟩ (by obtain⟨_,_,_,_,_,_,_,_,_,s1,_⟩:=h;exact hTa.521).552 ?_ ?_⟩
 . rintro i x σ H1 W9 hi ⟨sp,v5,v6,v7,v8,v9,v10,v11,rfl,s1,aT6,asp,R7,hPs⟩ ⟨rfl,hx⟩;have U0:(text,text[i]'(Z.10)).4:=aF _;generalize aZP:(text[i]'(Z.10))=sg at U0;obtain rfl:x=nV sg:=by rw[aE,U0] at hx;exact hx.31
   have wY:=(sg,U0).94;generalize hgs:(text.take i).755=gs at hPs;have hgl:gs.length<=6561:=by rw[<-hgs];refine aG (M.vH hY _ _) ?_;have:3^(text.take i).length<=6561:=M.CW aX.56;rw[List.length_singleton,aCU];exact this
   have aT7:∀g∈gs,(g.1,bl.length).6:=(hgs,M.xK (n:=bl.length) _ _ λg hg=>by simp at hg;rw[hg]).15
   have pW:asp.length=gs.length:=aO hPs;refine(λlo IG=>?_).596;have s2:(W9,lo).23.34:=s1.new IG;have nsl:sp≠lo:=aY R7 IG;refine⟨_,rfl,sp,rfl,(((W9,IG).20) _ _ R7).59,eB ((sp,asp.map V.ref).26) (λm σ H'=>∃v7 v8 v9 v10 v11,σ=[ta.8,wd.8,b.8,sy.8,sp.8,sg.32,lo.8,v7,v8,v9,v10,v11,none]/\s.3/\
    (H' sp,asp.map V.ref).12/\Paired (mV H') asp gs/\fT H' lo ((gs.take m).flatMap (M.jD word syl sg)))
    ⟨v7,v8,v9,v10,v11,rfl,s2,((W9,IG).20) _ _ R7,(hPs,(W9,IG).20).40,[],aI,.nil⟩ (by obtain⟨_,_,_,_,_,_,_,h,_⟩:=h;exact bP.of h).552 ?_ ?_⟩
   . rintro m x σ H2 H2' hm ⟨v7,v8,v9,v10,v11,rfl,s3,aPn,aLQ,OQ⟩ ⟨rfl,hx⟩;rw[aA] at hm;have hg:(gs,m,gs[m]).4:=b.4;generalize gs[m]=g at hg;obtain⟨bg,hbg,c,wU,GB⟩:=bO aLQ hg;obtain rfl:x= .ref bg:=by rw[aE,hbg] at hx;exact hx.31
     have hg8:=aT7 g (List.mem_of_getElem? hg);refine⟨bg,_,rfl,lN.of wU,rfl,_,_,rfl,_,_,rfl,rfl,?_⟩;refine⟨_,rfl,sy,_,rfl,bP.of IL.54,eB ((sy,v.3).114) (λj σ H'=>∃v9 v10 v11,σ=[ta.8,wd.8,b.8,sy.8,sp.8,sg.32,lo.8,c.8,(g.2).32,v9,v10,v11,none]/\s.3/\
      (H' sp,asp.map V.ref).12/\Paired (mV H') asp gs/\H' c=some (g.1).48/\fT H' lo ((gs.take m).flatMap (M.jD word syl sg)++W7 word syl sg g j))
      ⟨v9,v10,v11,rfl,s3,aPn,aLQ,GB,by simpa [W7] using OQ⟩ IL.776 ?_ ?_⟩
     . rintro j x σ H3 H3' hj ⟨v9,v10,v11,rfl,s4,aIv,aIw,hc4,aDI⟩ ⟨T',v,rfl,hT,rfl,hv⟩;rw[aA] at hj;have hvj:(syl,j,syl[j]).4:=b.4;generalize hvx:syl[j]=vl at hvj;obtain⟨cv,OO,tT⟩:=bO hP hvj;obtain rfl:v= .ref cv:=by rw[aE,OO] at hv;exact hv.31
       have sT:aL H3 G.12:=(H3,hT).20;have s5:G.12.34:=s4.trans sT;refine⟨T',_,rfl,lN.of aI,rfl,_,_,rfl,_,_,rfl,rfl,?_⟩;refine⟨_,rfl,_,rfl,cv,_,rfl,tT.60.35,_,_,rfl,rfl,?_⟩;refine⟨_,rfl,_,rfl,_,rfl,_,rfl,_,rfl,wd,_,rfl,bP.of hW.60,M.5⟩;have ee:(g.2).22+(vl.94:Nat)=(g.2+vl.length).22:=aA.56
       have ec:h.14=bE ((N.11).take vl.length):=by rw[ee,SY _ b.3,uP,pE];congr 2;omega
       have sp6:aL G.12 (G.12,p,h.14).3:=hp.86;have hp6:(((G.12,p,h.14).3) p,(N.11).take vl.length).10:=(aI,ec).7
       generalize (G.12,p,h.14).3=H6 at sp6 hp6;have s36:aL H3 H6:=sT.trans sp6;have s06:H6.34:=s4.trans s36;refine⟨_,rfl,p,cv,_,vl,rfl,rfl,hp6,s06 _ _ tT,_,rfl,?_⟩;have ew:W7 word syl sg g (j+1)=W7 word syl sg g j++((N.11).take vl.length=vl,M.span g.1 sg (2^j) (g.2+vl.length),[]).14:=by unfold W7;rw[W6 hvj,bT];simp
       refine p7 N.3 N.3
       . have CA:=cB hc;rw[if_pos CA] at ew;refine⟨_,rfl,_,rfl,_,rfl,_,rfl,_,_,rfl,rfl,hY.zN.90.696,_,rfl,lo,c,_,g.1,sg,2^j,g.2+vl.length,?_,aDI.mono s36,?_,s36 _ _ hc4,(hg8,wY).3,(hg8,hb8).3,λH7 aLT b7=>?_⟩
         . show [V.ref lo,V.ref c,nV sg,V.int j.550.613,V.int ((g.2).22+(vl.94:Nat))]=_;rw[FT,ee]
         . rw[List.length_append];have h1:=M.fO (k:=3) (l:=gs.take m) (f:=M.jD word syl sg) λx _=>M.GJ hY;have h2:=aIt word syl sg g j;have h3:=hY.zN;rw[aX] at h1;have:min m gs.length<=6561:=b.3
           omega
         . obtain⟨xl,hxl,_⟩:=(aDI.mono s36).len;refine⟨_,_,_,rfl,b7.same s06 (s1.free IG),b7 _ _ (s36 _ _ aIv) nsl,(aIw,(q.mono s36).but b7 hxl).38,b7 _ _ (s36 _ _ hc4) (s36 _ _ hc4,hxl).24,?_⟩;rw[ew,<-cA];exact aLT
       . have CA:¬_:=λz=>hc (decide_eq_true z);rw[if_neg CA,List.append_nil] at ew;refine⟨_,_,_,rfl,s06,s36 _ _ aIv,(aIw,s36).40,s36 _ _ hc4,?_⟩;rw[ew];exact aDI.mono s36
     . rintro σ H3 ⟨v9,v10,v11,rfl,s4,aIv,aIw,hc4,aDI⟩;refine⟨_,_,_,_,_,rfl,s4,aIv,aIw,?_⟩;rw[jU hg,bT];have e:W7 word syl sg g (v.3).length=M.jD word syl sg g:=by rw[aA,hl];unfold W7;rw[aCj];rfl
       rw[e] at aDI;simpa using aDI
   . rintro σ H2 ⟨v7,v8,v9,v10,v11,rfl,s3,aPn,aLQ,OQ⟩;refine⟨_,rfl,lo,_,_,_,_,_,_,_,rfl,s3,s1.free IG,?_⟩;rw[aA,pW,cJ] at OQ;have e:(text.take (i+1)).755=gs.flatMap (M.jD word syl sg):=by rw[jU U0,<-hgs];unfold M.mP;rw[nG];rfl
     rw[e];exact OQ
 . rintro σ H1 ⟨sp,v5,v6,v7,v8,v9,v10,v11,rfl,s1,aT6,asp,R7,hPs⟩;rw[aA,cJ] at hPs;generalize hgs:text.755=gs at hPs;have hgl:gs.length<=6561:=by rw[<-hgs];refine aG (M.vH hY _ _) ?_;rw[List.length_singleton,aCU];exact M.CW Y1
   have pW:asp.length=gs.length:=aO hPs;refine(sp,R7,λD hD=>yB (sp,asp.map V.ref).26 (oF (asp.zip gs) λp=>if p.2.2==word.length then(p.1).8 else none) hD (pW,hgl.29).78 R7.584 z.11 ?_ ?_).30
   . rintro i x H2 H3 C C0 hi s2 ⟨rfl,hx⟩ hC hC0;rw[aA] at hi;have hg:(gs,gs).28:=b.4;generalize gs[i]=g at hg;obtain⟨bg,hbg,c,wU,GB⟩:=bO hPs hg;obtain rfl:x= .ref bg:=by rw[aE,hbg] at hx;exact hx.31
     have hz:((asp.zip gs),(bg,g)).4:=(jW,⟨hbg,hg⟩).3
     refine⟨rfl,_,rfl,bg,_,_,_,rfl,rfl,lN.of wU.50,(1).547,_,rfl,wd,_,rfl,hW.26.50.35,rfl,_,rfl,?_⟩;have ed:(nV g.2,(word.94:Nat)).57=(g.2==word.length):=pI.523
     show(nV g.2,(word.94:Nat)).57.40;rw[ed];refine p7 N.3 N.3
     . exact(pU hz,p.5).18.529.28
     . exact(F.3,hz,O.5).32
   . intro H2 s2 nP;have hzl:(asp.map V.ref,(asp.zip gs).length).6:=by rw[aA,HS,pW,Nat.min_self]
     rw[hzl,vM] at nP;refine k H2 D f.4 (s1.free hD) ?_;unfold M.kK;rw[hgs];refine aDG ?_ nP;exact(hPs,s2).40
end
end G
namespace G
open PySem PySem.Spec PyProof.Rows L2
theorem fT.ext{H:Hp}{l b:Addr}{gs hs:u.3}(h1:fT H l gs)(h2:fT H b hs): ∃xs zs,l.517/\(b,zs).41/\xs.length=gs.length/\zs.length=hs.length/\fT (H,l,xs++zs).3 l (gs++hs):=by obtain⟨as,a1,a2⟩:=h1;obtain⟨bs,b1,b2⟩:=h2;have hb:eA l H (H,l,v.3++y.10).3:=H.567;refine⟨_,_,a1,b1,(aO a2).523,(aO b2).523,as++bs,(aI,bH).7,?_⟩;exact iE (a2,q.but hb a1).38 (b2,q.but hb a1).38
def XA(row:a.3)(syl:d.3)(sign:Nat)(g:Span)(j:Nat):u.3:=(x.1.length<(T.3).length/\(T.3).take x.1.length=x.1).836
theorem aIx(row:a.3)(syl:d.3)(sign:Nat)(g:Span)(j:Nat):(XA row syl sign g j,j).8:=by
 refine aG (1,?_).84 aX.56;split
 . exact M.lR _ _ _ _
 . exact aW _
theorem aAq{row:a.3}{syl:d.3}{text:a.3}{i sg:Nat}(h:(text,sg).4)(B:u.3):(text.drop i,B).86=B.flatMap e.12++(text.drop (i+1),B.flatMap (M.kZ row syl sg)).86:=by obtain⟨hi,e⟩:=W.14;rw[List.drop_eq_getElem_cons hi,e];rfl
section
variable{P:Program}{w:World}{K:PySem.W.Frag}{mg:k.3}{base:Heap}{A:Ad}
def aDK:Sp:=λvs H Q _=>∃(ta ws b sy:Addr) (text bl:a.3) (words syl:d.3),vs=[.ref ta,.ref ws,z.3,.ref sy]/\(ta,text).13/\LL H ws words/\bl.48.45/\LL H sy syl/\
 (∀s∈text,s<bl.length)/\bl.length<=8/\g.11/\words.length<=10/\M.N5 syl/\(fT H' l (M.lS text words bl syl)).673
theorem uR:(["text","words","blank","syllables","spans","word"],("words").695,wM).5:=o.3
theorem FU(T:n.3):dC P w K mg base kJ 5 "reading_spans" ("words").695 aDK:=by
 refine T.wN.ok uR F.10 X.15 q.3;obtain⟨ta,ws,b,sy,text,bl,words,syl,rfl,hTa,⟨aw,hWs,hPw⟩,hB,IL,hs,hb8,Y1,aZS,hY,k⟩:=h;have hl:aw.length=words.length:=aO hPw;have nd:=uR.nd;refine⟨_,aK (4,c7 aJ).14
  (aK (fF bL rfl (cK (pv 1)) ((5).503)
   (aP (tZ,pv 4,(OP T,hr,aD (pv 0) (pv 5,pv 2,pv 3).7).6).35))
  (pv 4).47),?_⟩
 refine y.12;have s0:g.5.34:=uQ.76;refine⟨_,rfl,ws,rfl,(s0 _ _ hWs).59,eB ((ws,aw.map V.ref).26) (∃v5,σ=[ta.8,ws.8,b.8,sy.8,l.8,v5]/\s.3/\fT H' l ((words.take i).flatMap λword=>j.14)).560
  ⟨none,rfl,s0,[],aI,.nil⟩ (by obtain⟨_,_,s1,_⟩:=h;exact hWs.521).552 ?_ ?_⟩
 . rintro i x σ H1 W9 hi ⟨v5,rfl,s1,IK⟩ ⟨rfl,hx⟩;rw[aA] at hi;have hwi:(words,words).28:=b.4;generalize words[i]=word at hwi;obtain⟨wd,hwd,hW⟩:=bO hPw hwi;obtain rfl:x= .ref wd:=by rw[aE,hwd] at hx;exact hx.31
   obtain⟨xl,hxl,_⟩:=IK.len;refine⟨_,rfl,hxl.502,_,rfl,_,rfl,_,rfl,_,rfl,ta,wd,b,sy,text,word,bl,syl,rfl,hTa.26,hW.26,hB.26,IL.mono s1,hs,hb8,Y1,hY,λH2 m s2 hm hSm=>?_⟩;obtain⟨xs,zs,e1,e2,e3,e4,RA⟩:=(IK.mono s2).ext hSm;have hle:((words.take i).flatMap λword=>j.14,10*6561).8:=by refine aG (6561,M.vI hY Y1).84 (eC _ ?_);rw[aX];omega
   have aFS:(j.14,6561).8:=M.vI hY Y1;refine⟨l,m,xs,zs,rfl,rfl,e1,e2,(e3,e4,(Nat.add_le_add hle aFS).29).18,_,rfl,?_,?_⟩
   . exact((aL.refl H2,xs++zs).121).same f.4 uQ
   . rw[jU hwi,bT];simpa using RA
 . rintro σ H1 ⟨v5,rfl,s1,IK⟩;rw[aA,hl,cJ] at IK;exact(k _ _ s1 uQ IK).28
def aIy:Sp:=λvs H Q _=>∃(ta r bg sy:Addr) (text row:a.3) (gs:u.3) (syl:d.3) (n:Nat),vs=[.ref ta,.ref r,.ref bg,.ref sy]/\(ta,text).13/\(r,row).13/\fT H bg gs/\LL H sy syl/\
 gs.length<=3/\(∀g∈gs,(g.1,n).6)/\n<=8/\(∀s∈text,s<n)/\g.11/\Q.11/\M.N5 syl/\(fT H' l (text,gs).86).673
theorem yJ:(["text","row","begun","syllables","ended","sign","longer","pattern","place","rest","last","number","letters"],["text","row","begun","syllables"],AM).5:=o.3
theorem MR(T:n.3):dC P w K mg base kJ 4 "ended_spans" ["text","row","begun","syllables"] aIy:=by
 refine T.A0.ok yJ F.10 (λvs H Q E h=>by obtain⟨a,p,s,b,_,_,_,_,_,rfl,_⟩:=h;rfl) q.3;obtain⟨ta,r,bg,sy,text,row,gs0,syl,n,rfl,hTa,hR,hBg,⟨as,IL,hP⟩,hg3,hgn,pV,hs,Y1,aLV,hY,k⟩:=h;have ON:(1).27:=t.3;have hrB:(2).27:=t.3;have hl:syl.length.66:=aO hP;have nd:=yJ.nd;refine⟨_,aK (4,c7 aJ).14
  (aK (fF bL rfl (cK (pv 0)) ((5).503)
   (aK (6,c7 aJ).14
   (aK (fF bL rfl (cK (pv 2)) (7,8).109
    (aK (9,gY CK (pv 1) (gS (pv 8)) mM).123
    (aK (bK (i:=10) nd rfl (l.5) (bQ (mU T) ON rfl (aD (fM (own:=[("letters",12)]) rfl nd (cK (pv 3)) (y.3) (12).565 cT.38
     (aFE hr.units,gY (slL K) (pv 12) mM (gS (pv 9).87),pv 9).26) aJ)))
    (aK (dB (lI T,hrB,aD (pv 4) (aD (pv 7) (pv 5,pv 10,(pv 1).566).7)).6)
    (aP (fF bL rfl (CQ rfl T.nA (pv 3).30) (11,12).109
     (aP (dY (ZD (bZ O9 (a6 cV (by rfl) T.c0 aT (aD (pv 12) aJ)) (a6 cV (by rfl) T.c0 aT (aD (pv 9) aJ)) (cG _))
      (R4 (bZ (aFE hr.units) (gY CK (pv 9) mM (gS (a6 cV (by rfl) T.c0 aT (aD (pv 12) aJ)))) (pv 12) (cG _)))).pt
      (pv 11,d6 lY (pv 8) (pv 12).566).144 cN))))))))
   (aP (2,nd,pv 6).17))))
  (pv 4).47),?_⟩
 refine(λen hen=>?_).596;have s0:(H,en).23.34:=hen.76;refine⟨_,rfl,ta,rfl,(s0 _ _ hTa).59,eB ((ta,bE text).26) (λi σ H'=>∃be v5 v6 v7 v8 v9 v10 v11 v12,σ=[ta.8,r.8,be.8,sy.8,en.8,v5,v6,v7,v8,v9,v10,v11,v12]/\s.3/\be≠en/\
  ∃Ed B:u.3,fT H' be B/\fT H' en Ed/\(text,gs0).86=Ed++(text.drop i,B).86/\B.length<=3*3^i/\∀g∈B,(g.1,n).6)
  ⟨bg,none,none,none,none,none,none,none,none,rfl,s0,(by obtain⟨x,h1,_⟩:=hBg.len;exact aY h1 hen),[],gs0,hBg.mono s0,aI.645,rfl,by simpa using hg3,hgn⟩ (by obtain⟨_,_,_,_,_,_,_,_,_,_,s1,_⟩:=h;exact hTa.521).552 ?_ ?_⟩
 . rintro i x σ H1 W9 hi ⟨be,v5,v6,v7,v8,v9,v10,v11,v12,rfl,s1,nbe,Ed,B,⟨ab,R0,hPb⟩,hEd,aAr,hBl,hBn⟩ ⟨rfl,hx⟩;rw[aA] at hi;have U0:(text,text).28:=aF hi;generalize text[i]=sg at U0;obtain rfl:x=nV sg:=by rw[aE,U0] at hx;exact hx.31
   have wY:=(sg,U0).94;rw[aAq U0] at aAr;have aZW:((text,gs0).86,8*(3*6561)).8:=by refine aG (M.K8 hY _ _) (zH Y1 (zH hg3 (M.CW Y1)))
   have hB':B.length<=19683:=by have:3^i<=6561:=M.CW b.3;omega
   have pW:ab.length=B.length:=aO hPb;refine(λlo IG=>?_).596;have sl:aL W9 (W9,lo).23:=(W9,IG).20;have s2:=s1.trans sl;have nbl:be≠lo:=aY R0 IG;have nel:en≠lo:=by obtain⟨x,h1,_⟩:=hEd.len;exact aY h1 IG
   refine⟨_,rfl,be,rfl,(sl _ _ R0).59,eB ((be,ab.map V.ref).26) (λm σ H'=>∃v7 v8 v9 v10 v11 v12,σ=[ta.8,r.8,be.8,sy.8,en.8,sg.32,lo.8,v7,v8,v9,v10,v11,v12]/\s.3/\
    (H' be,ab.map V.ref).12/\Paired (mV H') ab B/\fT H' en (Ed++(m,e.12).93)/\fT H' lo (m,M.kZ row syl sg).93)
    ⟨v7,v8,v9,v10,v11,v12,rfl,s2,sl _ _ R0,(hPb,sl).40,(hEd.mono sl).658,[],aI,.nil⟩ (by obtain⟨_,_,_,_,_,_,_,_,h,_⟩:=h;exact bP.of h).552 ?_ ?_⟩
   . rintro m x σ H2 H2' hm ⟨v7,v8,v9,v10,v11,v12,rfl,s3,aPp,aLW,aDL,OQ⟩ ⟨rfl,hx⟩;rw[aA] at hm;have hg:(B,m,B[m]).4:=b.4;generalize B[m]=g at hg;obtain⟨bx,hbx,c,wU,GB⟩:=bO aLW hg;obtain rfl:x= .ref bx:=by rw[aE,hbx] at hx;exact hx.31
     have hg8:=hBn g (List.mem_of_getElem? hg);have hlen:(Ed++(m,e.12).93).length<1000000:=by
      have h1:=aAr.554;have h2:((m,e.12).93,(B.flatMap e.12).length).8:=by
       conv=>rhs;rw[<-mX m B,bT,List.length_append]
       omega
      rw[List.length_append,List.length_append] at h1;rw[List.length_append];omega
     refine⟨bx,_,rfl,lN.of wU,rfl,_,_,rfl,_,_,rfl,rfl,?_⟩;refine⟨_,rfl,_,rfl,_,rfl,r,_,rfl,bP.of hR.54,λre hre=>?_⟩;have sre:aL H2' (H2',re,(bE row,(g.2).22).66).3:=hre.86;have aIA:(((H2',re,(bE row,(g.2).22).66).3) re,T.3).10:=by rw[aI,DN,uP]
     have nre:en≠re/\lo≠re:=by obtain⟨_,h1,_⟩:=aDL.len;obtain⟨_,h2,_⟩:=OQ.len;exact⟨aY h1 hre,aY h2 hre⟩
     generalize (H2',re,(bE row,(g.2).22).66).3=H3 at sre aIA;have s4:=s3.trans sre;refine(sy,IL.64,λD hD=>eK sy.534 syl (λv=> .bl (t.12==T.3)) hl.500 hD hY.zN.29 IL.64.584 ?_ ?_).30
     . rintro j x H5 H6 v C hv s5 ⟨rfl,hx⟩ hC;obtain⟨cv,OO,tT⟩:=bO hP hv;obtain rfl:x= .ref cv:=by rw[aE,OO] at hx;exact hx.31
       refine⟨rfl,_,rfl,_,rfl,re,_,rfl,aIA.60.35,_,rfl,cv,_,rfl,bP.of tT.64.60,M.5⟩;have e1:(bE v,none,T.3.94.22).21=bE t.12:=by rw[BS,pE,aA]
       refine⟨_,rfl,p,re,t.12,T.3,rfl,rfl,e1.740,(hp.86) _ _ aIA.60,?_⟩;exact hC _ _ hp.86 (cP V.bl S6)
     . intro H5 s5 zX;refine⟨D,(t.12==T.3).599,rfl,(a9,zX).3,hY.zN.29.523,λH6 s6=>?_⟩;have s26:aL H2' H6:=(sre.trans s5).trans s6;have s06:=s3.trans s26;refine⟨_,rfl,_,rfl,_,rfl,_,rfl,_,rfl,r,_,rfl,(s06 _ _ hR).35,en,c,_,g.1,sg,M.bitsOf (t.12==T.3).599,row.length,?_,aDL.mono s26,hlen,s26 _ _ GB,(hg8,wY).3,(hg8,pV).3,λH7 aUc b7=>?_⟩
       . show [V.ref en,V.ref c,nV sg,_,V.int (row.94:Nat)]=_;rw[aA]
       obtain⟨xe,hxe,_⟩:=(aDL.mono s26).len;have s07:H7.34:=b7.same s06 hen;have aUd:(H7 re,T.3).10:=b7 _ _ aIA.60.518 nre.1.symm;have hc7:H7 c=some (g.1).48:=b7 _ _ (s26 _ _ GB) (s26 _ _ GB,hxe).24;have aUe:=b7 _ _ (s26 _ _ aPp) nbe;have aUf:Paired (mV H7) ab B:=(aLW,(q.mono s26).but b7 hxe).38;have aLT:=(OQ.mono s26).but b7 hxe nel.symm;have aPr:fT H7 en (Ed++(m+1,e.12).93):=by rw[jU hg,bT,<-cA];simpa [M.fQ] using aUc
       refine⟨_,rfl,sy,_,rfl,bP.of (s07 _ _ IL),eB ((sy,v.3).114) (λj σ H'=>∃v10 v11 v12,σ=[ta.8,r.8,be.8,sy.8,en.8,sg.32,lo.8,c.8,(g.2).32,re.8,v10,v11,v12]/\s.3/\
        (H' be,ab.map V.ref).12/\Paired (mV H') ab B/\fT H' en (Ed++(m+1,e.12).93)/\(H' re,T.3).10/\H' c=some (g.1).48/\fT H' lo ((m,M.kZ row syl sg).93++XA row syl sg g j))
        ⟨_,_,_,rfl,s07,aUe,aUf,aPr,aUd,hc7,by simpa [XA] using aLT⟩ IL.776 ?_ ?_⟩
       . rintro j x σ H8 H8' hj ⟨v10,v11,v12,rfl,s8,aFW,aFX,aFY,aDM,hc8,aAs⟩ ⟨T',v,rfl,hT,rfl,hv⟩;rw[aA] at hj;have hvj:(syl,j,syl[j]).4:=b.4;generalize syl[j]=vl at hvj;obtain⟨cv,OO,tT⟩:=bO hP hvj;obtain rfl:v= .ref cv:=by rw[aE,OO] at hv;exact hv.31
         have sT:aL H8 (upd H8 T' S.12):=(H8,hT).20;have hTt:(upd H8 T' S.12) T'=some S.12:=aI;generalize upd H8 T' S.12=H9 at sT hTt;have s9:H9.34:=s8.trans sT;have ew:XA row syl sg g (j+1)=XA row syl sg g j++(vl.length<(T.3).length/\(T.3).take vl.length=vl,M.span g.1 sg (2^j) (g.2+vl.length),[]).14:=by unfold XA;rw[W6 hvj,bT];simp
         refine⟨T',_,rfl,lN.of hTt,rfl,_,_,rfl,_,_,rfl,rfl,?_⟩;refine⟨_,rfl,cv,_,rfl,(s9 _ _ tT).35,_,rfl,re,_,rfl,(sT _ _ aDM).35,_,_,rfl,rfl,_,rfl,?_⟩;refine p7 (λh1=>?_) λh1=>?_
         . have IC:vl.length<(T.3).length:=by have:=cB h1;rw[aA,aA] at this;omega
           refine⟨_,rfl,_,rfl,cv,_,rfl,(s9 _ _ tT).35,_,rfl,re,_,rfl,bP.of (sT _ _ aDM),M.5⟩;have e1:a.14=bE ((T.3).take vl.length):=by rw[BS,pE,aA]
           have sp:aL H9 (H9,p,a.14).3:=hp.86;have hpp:(((H9,p,a.14).3) p,(T.3).take vl.length).10:=(aI,e1).7
           generalize (H9,p,a.14).3=VQ at sp hpp;have AA:=sT.trans sp;have aIC:=s8.trans AA;refine⟨_,rfl,p,cv,_,vl,rfl,rfl,hpp,aIC _ _ tT,_,rfl,?_⟩;refine p7 (λh2=>?_) λh2=>?_
           . have OE:=cB h2;rw[if_pos ⟨IC,OE⟩] at ew;refine⟨_,rfl,_,rfl,_,rfl,_,rfl,_,_,rfl,rfl,hY.zN.90.696,_,rfl,_,rfl,cv,_,rfl,(aIC _ _ tT).35,_,_,rfl,rfl,lo,c,_,g.1,sg,2^j,g.2+vl.length,?_,aAs.mono AA,?_,AA _ _ hc8,(hg8,wY).3,(hg8,pV).3,λH11 aPt b11=>?_⟩
             . show [V.ref lo,V.ref c,nV sg,V.int j.550.613,V.int ((g.2).22+(vl.94:Nat))]=_;rw[FT,aA];rfl
             . rw[List.length_append];have h1:=M.fO (k:=3) (l:=B.take m) (f:=M.kZ row syl sg) λx _=>M.BL hY;have h2:=aIx row syl sg g j;have h3:=hY.zN;rw[aX] at h1;have:min m B.length<=19683:=b.3
               omega
             . obtain⟨xl,hxl,_⟩:=(aAs.mono AA).len;refine⟨_,_,_,rfl,b11.same aIC (s1.free IG),b11 _ _ (AA _ _ aFW) nbl,(aFX,(q.mono AA).but b11 hxl).38,(aFY.mono AA).but b11 hxl nel,b11 _ _ (AA _ _ aDM) nre.2.symm,b11 _ _ (AA _ _ hc8) (AA _ _ hc8,hxl).24,?_⟩;rw[ew,<-cA];exact aPt
           . have OE:¬_:=λz=>h2 (decide_eq_true z);rw[(OE z.2).605,List.append_nil] at ew;refine⟨_,_,_,rfl,aIC,AA _ _ aFW,(aFX,AA).40,aFY.mono AA,AA _ _ aDM,AA _ _ hc8,?_⟩;rw[ew];exact aAs.mono AA
         . have IC:¬vl.length<(T.3).length:=λz=>h1 (decide_eq_true aA.663);rw[(IC z.1).605,List.append_nil] at ew;refine d5 ⟨_,_,_,rfl,s9,sT _ _ aFW,(aFX,sT).40,aFY.mono sT,sT _ _ aDM,sT _ _ hc8,?_⟩;rw[ew];exact aAs.mono sT
       . rintro σ H8 ⟨v10,v11,v12,rfl,s8,aFW,aFX,aFY,aDM,hc8,aAs⟩;refine⟨_,_,_,_,_,_,rfl,s8,aFW,aFX,aFY,?_⟩;rw[jU hg,bT];have e:XA row syl sg g (v.3).length=M.kZ row syl sg g:=by rw[aA,hl];unfold XA;rw[aCj];rfl
         rw[e] at aAs;simpa using aAs
   . rintro σ H2 ⟨v7,v8,v9,v10,v11,v12,rfl,s3,aPp,aLW,aDL,OQ⟩;rw[aA,pW,cJ] at aDL OQ;refine⟨_,rfl,lo,_,_,_,_,_,_,_,_,rfl,s3,nel.symm,_,_,OQ,aDL,?_,?_,?_⟩
     . rw[aAr,cA]
     . refine aG (3,M.BL hY).84 ?_;rw[wV];omega
     . exact M.ZW (n:=n) hBn
 . rintro σ H1 ⟨be,v5,v6,v7,v8,v9,v10,v11,v12,rfl,s1,nbe,Ed,B,R0,hEd,aAr,hBl,hBn⟩;rw[aA,List.drop_length] at aAr;have:([],B).86=[]:=rfl;rw[this,List.append_nil] at aAr;exact(k _ _ s1 hen (aAr,hEd).3).28
end
end G
namespace G
open PySem PySem.Spec PyProof.Rows L2
section
variable{P:Program}{w:World}{K:PySem.W.Frag}{mg:k.3}{base:Heap}{A:Ad}
def aAt:Sp:=λvs H Q _=>∃(ta r b sy:Addr) (text row bl:a.3) (syl:d.3),vs=[.ref ta,.ref r,z.3,.ref sy]/\(ta,text).13/\(r,row).13/\bl.48.45/\LL H sy syl/\
 (∀s∈text,s<bl.length)/\bl.length<=8/\g.11/\1<=row.length/\Q.11/\M.N5 syl/\(fT H' l (M.kO text row bl syl)).673
theorem tF:(["text","row","blank","syllables","spans","inside","start","sign","begun","letters"],("row").695,uD).5:=o.3
theorem DU(T:n.3):dC P w K mg base kJ 6 "standing_spans" ("row").695 aAt:=by
 refine T.uH.ok tF F.10 X.15 q.3;obtain⟨ta,r,b,sy,text,row,bl,syl,rfl,hTa,hR,hB,S8,hs,hb8,Y1,iI,uO,hY,k⟩:=h;obtain⟨as,IL,hP⟩:=id S8;have ON:(1).27:=t.3;have hrB:(2).27:=t.3;have hrD:(4).27:=t.3;have hl:syl.length.66:=aO hP;have nd:=tF.nd;refine⟨_,aK (4,c7 aJ).14
  (aK (bK (i:=5) nd rfl (l.5) (bQ (mU T) ON rfl (aD (fM (own:=[("letters",9)]) rfl nd (cK (pv 3)) (y.3) (9).565 cT.38
   (S7 T,hrB,(pv 1,pv 9).21).6.38) aJ)))
  (aK (fF bL rfl (CQ rfl T.nA (pv 0).30) (6,7).109
   (aK (dB (lI T,hrB,aD (pv 4) (aD (pv 2) (pv 7,pv 5,(pv 1).566).7)).6)
   (aK (8,(MP T,hrD,aD (pv 7) (pv 1,pv 2,pv 3).7).6).14
   (aP (tZ,pv 4,(MR T,hrD,aD (gY CK (pv 0) (gS (d6 lY (pv 6) bC)) mM) (pv 1,pv 8,pv 3).7).6).35))))
  (pv 4).47)),?_⟩
 refine y.12;have s0:g.5.34:=uQ.76;have EY:((g.5) l).536:=aI;generalize g.5=H0 at s0 EY;refine(sy,s0 _ _ IL,λD hD=>eK sy.534 syl (λv=> .bl (M.j7 row v)) hl.500 hD hY.zN.29 (s0 _ _ IL).584 ?_ ?_).30
 . rintro j x H5 H6 v C hv s5 ⟨rfl,hx⟩ hC;obtain⟨cv,OO,tT⟩:=bO hP hv;obtain rfl:x= .ref cv:=by rw[aE,OO] at hx;exact hx.31
   have:=((v,hv).69).2;exact⟨rfl,_,rfl,_,rfl,r,cv,row,v,rfl,(s0 _ _ hR).60,(s0 _ _ tT).60,b.3,uO,λH7 s7=>hC _ _ s7 rfl⟩
 . intro H5 s5 zX;refine⟨D,syl.map (M.j7 row),rfl,(a9,zX).3,hY.zN.29.523,λH6 s6=>?_⟩;have s06:=(s0.trans s5).trans s6;refine⟨_,rfl,ta,_,rfl,bP.of (s06 _ _ hTa),eB ((ta,bE text).114) (∃v6 v7 v8,σ=[ta.8,r.8,b.8,sy.8,l.8,(M.bitsOf (syl.map (M.j7 row))).32,v6,v7,v8,none]/\s.3/\fT H' l ((v.4).flatMap (M.standAt text row bl syl))).560
    ⟨_,_,_,rfl,s06,[],EY.60.518,.nil⟩ hTa.776 ?_ ?_⟩
   . rintro i x σ H1 W9 hi ⟨v6,v7,v8,rfl,s1,IK⟩ ⟨T',v,rfl,hT,rfl,hv⟩;rw[aA] at hi;have U0:(text,text).28:=aF hi;have hgd:text.getD i 0=text[i]:=by simp[List.getD,hi]
     generalize text[i]=sg at U0 hgd;obtain rfl:v=nV sg:=by rw[aE,U0] at hv;exact hv.31
     have wY:=(sg,U0).94;have sT:(T',(nV sg).611).25.82:=hT.509;have hTt:((T',(nV sg).611).25) T'=some (nV sg).611:=aI;generalize (T',(nV sg).611).25=H2 at sT hTt;have s2:=s1.trans sT;have hle:((v.4).flatMap (M.standAt text row bl syl),8*45928).8:=by refine aG (45928,M.BM hY Y1).84 (eC _ ?_);rw[aR];omega
     refine⟨T',_,rfl,lN.of hTt,rfl,_,_,rfl,_,_,rfl,rfl,?_⟩;refine⟨_,rfl,_,rfl,_,rfl,_,rfl,_,rfl,r,_,rfl,hR.50.35,l,b,_,bl,sg,M.bitsOf (syl.map (M.j7 row)),row.length,?_,IK.mono sT,b.3,hB.50,wY,hb8,λH3 aPu b3=>?_⟩
     . show [V.ref l,V.ref b,nV sg,_,V.int (row.94:Nat)]=_;rw[aA]
     have s3:H3.34:=b3.same s2 uQ;refine⟨_,rfl,_,rfl,_,rfl,_,rfl,r,b,sy,sg,row,bl,syl,rfl,hR.54,hB.54,S8.mono s3,wY,hb8,iI,uO,hY.zN,λH4 bg s4 hbg hSb=>?_⟩;have s04:=s3.trans s4;obtain⟨xl,hxl,_⟩:=(aPu.mono s4).len;refine⟨_,rfl,hxl.502,_,rfl,_,rfl,_,_,rfl,rfl,_,rfl,ta,_,rfl,bP.of (s04 _ _ hTa),λtx htx=>?_⟩;have e1:v.13=bE (text.drop (i+1)):=by
      have e2:(i.6+1)=(i+1).22:=b.3
      rw[e2,DN,uP]
     have stx:aL H4 (H4,tx,v.13).3:=htx.86;have htt:(((H4,tx,v.13).3) tx,text.drop (i+1)).10:=(aI,e1).7
     show aE4 _ _ _ (H4,tx,v.13).3 _;generalize (H4,tx,v.13).3=H5' at stx htt;have s05:=s04.trans stx;refine⟨_,rfl,_,rfl,_,rfl,tx,r,bg,sy,text.drop (i+1),row,_,syl,bl.length,rfl,htt,s05 _ _ hR,hSb.mono stx,S8.mono s05,M.V7,M.FG rfl,hb8,λq hq=>hs q (nZ hq),dO.56,uO,hY,λH6' en s6' hen hSe=>?_⟩;obtain⟨xs,zs,e1,e2,e3,e4,RA⟩:=((aPu.mono s4).mono (stx.trans s6')).ext hSe;have est:M.span bl sg (M.bitsOf (syl.map (M.j7 row))) row.length++(text.drop (i+1),M.jR sg row bl syl).86=M.standAt text row bl syl i:=by unfold M.standAt;rw[hgd]
     rw[cA,est] at RA;have aUg:xs.length<=8*45928+1:=(e3,List.length_append,Nat.add_le_add hle (M.lR _ _ _ _)).18
     have aUh:zs.length<=45928:=by rw[e4];have:=M.BM (text:=text) (row:=row) (bl:=bl) (k:=i) hY Y1;rw[<-est,List.length_append] at this;omega
     refine⟨l,en,xs,zs,rfl,rfl,e1,e2,(Nat.add_le_add aUg aUh).29,_,_,_,rfl,?_,?_⟩
     . exact((aL.refl H6',xs++zs).121).same (s05.trans s6') uQ
     . rw[dP,bT];simpa using RA
   . rintro σ H1 ⟨v6,v7,v8,rfl,s1,IK⟩;rw[aA] at IK;exact(k _ _ s1 uQ IK).28
end
end G
namespace G
open PySem PySem.Spec PyProof.Rows L2
def rdF(l:Addr)(p:Nat):V.57:=[("numbers",.ref l),("place",nV p)]
def RD(C:Addr)(H:Hp)(x l:Addr)(rest:f.3):Prop:=∃(dx:Addr) (all:f.3) (p:Nat),(x,(rdF l p).91).5/\(l,all.map V.int).41/\all.drop p=rest/\p<=all.length/\all.length<=100000
theorem RD.but{C x l y:Addr}{H H':Hp}{rest:f.3}(b:y.55)(h1:x≠y)(h2:l≠y)(h:H.641):H'.641:=by obtain⟨dx,all,p,q1,q2,q3⟩:=h;exact⟨dx,all,p,b _ _ q1 h1,b _ _ q2 h2,q3⟩
theorem RD.at_{C x l:Addr}{H:Hp}{rest:f.3}(h:H.641):(∃dx fs,(x,fs.91).5)/\∃xs,l.517:=by obtain⟨dx,all,p,q1,q2,q3⟩:=h;exact⟨⟨_,_,q1⟩,_,q2⟩
theorem RD.same{C x l:Addr}{H H':Hp}{rest:f.3}(s:s.3)(h:H.641):H'.641:=by obtain⟨dx,all,p,q1,q2,q3⟩:=h;exact⟨dx,all,p,q1.42,q2.42,q3⟩
theorem aFZ{all:f.3}{p:Nat}{n:Int}{rest:f.3}(h:all.drop p=n::rest):(all,p,n).4/\all.drop (p+1)=rest/\p+1<=all.length:=by
 have hp:p<all.length:=by
  rcases rO p all.length with q|q
  . exact q
  . rw[fC q] at h;cases h
 rw[List.drop_eq_getElem_cons hp] at h;obtain⟨h1,h2⟩:=List.cons.inj h;exact⟨(aF hp,h1).7,h2,hp⟩
theorem aF0{all:f.3}{p:Nat}{t:a.3}{rest:f.3}(h:all.drop p=M.uB t++rest)(hp:p<=all.length):(all.drop p).take t.length=M.uB t/\all.drop (p+t.length)=rest/\p+t.length<=all.length:=by
 have hl:(M.uB t,t.length).6:=by unfold M.uB;rw[aA]
 refine⟨by rw[h,<-hl,List.take_left],?_,?_⟩
 . rw[<-List.drop_drop,h,<-hl,zB]
 . have:=h.554;rw[dO,List.length_append,hl] at this;omega
theorem MS(t:a.3):(M.uB t).95=bE t:=by unfold M.uB;rw[a9];rfl
section
variable{P:Program}{w:World}{K:PySem.W.Frag}{mg:k.3}{base:Heap}{A:Ad}
def aF1(C:Addr):Sp:=λvs H Q _=>∃(x dx l:Addr) (all:f.3),vs=[.ref x,.ref l]/\(x,([]).91).5/\(l,all.map V.int).41/\all.length<=100000/\∀H',RD C H' x l all->x.55->Q .gL H'
theorem MT:(["self","numbers"],["self","numbers"],AN).5:=o.3
theorem MU(T:n.3):G4 P w K mg base kJ 1 A.Reader "Reader" ["self","numbers"] (aF1 A.Reader):=by refine T.iW.ok MT I.3 (λvs H Q E h=>by obtain⟨x,dx,a,p,rfl,_⟩:=h;rfl) q.3;obtain⟨x,dx,l,all,rfl,hx,hl,hn,k⟩:=h;refine(aK (pv 1).88 (aP bC.88),?_).27;refine⟨_,rfl,_,rfl,x,A.Reader,dx,_,rfl,hx,T.iW.cl,T.lU,(0).77,?_⟩;refine⟨_,rfl,x,A.Reader,dx,_,rfl,aI,T.iW.cl,T.iC,(1).77,?_⟩;rw[oU];refine k _ ⟨dx,all,0,aI,?_,rfl,aW _,hn⟩ H.567;rw[bF (hl,hx).24];exact hl
def S9(C:Addr):Sp:=λvs H Q _=>∃(x l:Addr) (n:Int) (rest:f.3),vs=x.43/\RD C H x l (n::rest)/\∀H',H'.641->x.55->Q (.int n) H'
theorem oH:(T.11,w.4,pA).5:=o.3
theorem dD(T:n.3):iX P w K mg base kJ 1 A.Reader "take_number" w.4 (S9 A.Reader):=by
 refine T.pC.ok T.iW.cl oH E.5 Y.15 q.3;obtain⟨x,l,n,rest,rfl,⟨dx,all,p,hx,hl,hd,hp,hn⟩,k⟩:=h;obtain⟨hg,VB,hp'⟩:=aFZ hd;refine⟨_,aK ((1,oH.nd,(sA,j.5,j.5).23).17)
  (aK (PF (pv 0) bC aE3) (aP (bU (pv 1)))),?_⟩
 refine⟨_,rfl,x,A.Reader,dx,_,_,rfl,hx,T.iW.cl,T.lU,rfl,_,rfl,x,A.Reader,dx,_,_,rfl,hx,T.iW.cl,T.iC,rfl,l,_,_,_,rfl,rfl,bP.of hl,cC hg.537,?_⟩;refine⟨_,rfl,x,A.Reader,dx,_,_,rfl,hx,T.iW.cl,T.iC,rfl,_,_,rfl,rfl,dx,_,hx,(2).77,?_⟩;refine(k _ ⟨dx,all,p+1,?_,?_,VB,hp',hn⟩ H.567).28
 . rw[aI];have e:d8 "place" (V.int (p.6+1)) (rdF l p)=rdF l (p+1):=by unfold rdF;show [(("numbers":Str),V.ref l),(("place":Str),V.int (p.6+1))]=_;rw[((p.6+1)=(p+1).22).36]
   exact cP (λz=>some (HO.ins A.Reader dx z)) e
 . rw[bF (hl,hx).24];exact hl
def aDN(C:Addr):Sp:=λvs H Q _=>∃(x l:Addr) (t:a.3) (rest:f.3),vs=x.43/\RD C H x l (M.gW t++rest)/\∀H' r,H'.641->x.55->r.21->t.585->r.84
theorem rB:(["self","size","row"],w.4,sN).5:=o.3
theorem nB(T:n.3):iX P w K mg base kJ 2 A.Reader "take_row" w.4 (aDN A.Reader):=by
 refine T.sV.ok T.iW.cl rB E.5 Y.15 q.3;obtain⟨x,l,t,rest,rfl,pL,k⟩:=h;have nd:=rB.nd;refine⟨_,aK (1,hr.654).14
  (aK (gY CK j.5 (gS j.5) (gS (d6 lY j.5 (pv 1)))).524
  (aK (PF (pv 0) (pv 1) aE3) (aP (bU (pv 2))))),?_⟩
 obtain⟨dx0,aDO,p0,JS,uQ,_⟩:=id pL;refine⟨_,rfl,x,dx0,_,rfl,JS,rfl,x,l,_,M.uB t++rest,rfl,pL,I.11⟩;obtain⟨dx,all,p,hx,hl,hd,hp,hn⟩:=Q9;obtain⟨e1,e2,e3⟩:=aF0 hd hp;refine⟨_,rfl,x,A.Reader,dx,_,_,rfl,hx,T.iW.cl,T.lU,rfl,_,rfl,x,A.Reader,dx,_,_,rfl,hx,T.iW.cl,T.iC,rfl,_,rfl,_,rfl,x,A.Reader,dx,_,_,rfl,hx,T.iW.cl,T.iC,rfl,_,rfl,_,_,rfl,rfl,_,rfl,l,_,rfl,bP.of hl,λr k8=>?_⟩;have ec:A.13=bE t:=by rw[(p.550+t.length.550=(p+t.length).22).36,SY _ b.3,<-RW,<-RX,(p+t.length-p=t.length).36,e1,MS]
 have sr:aL H1 (H1,r,A.13).3:=k8.509;have hrr:(((H1,r,A.13).3) r,t).10:=(aI,ec).7
 show aHG _ _ _ _ (H1,r,A.13).3;generalize (H1,r,A.13).3=H2 at sr hrr;have vC:=sr _ _ hx;refine⟨_,rfl,x,A.Reader,dx,_,_,rfl,vC,T.iW.cl,T.iC,rfl,_,rfl,_,_,rfl,rfl,dx,_,vC,(2).77,?_⟩;have nrx:r≠x:=(hrr,vC).24;have uO:r.21:=by
  cases q:H r with
  |none=>rfl
  |some o=>rw[b1 _ _ q nrx] at k8;cases k8
 refine(k _ r ⟨dx,all,p+t.length,?_,?_,e2,e3,hn⟩ (b1.trans (eA.of sr).put) uO ?_).28
 . rw[aI];rfl
 . rw[bF (hl,hx).24];exact sr _ _ hl
 . rw[bF nrx];exact hrr
def aAv(C:Addr):Sp:=λvs H Q _=>∃(x l:Addr) (rs:d.3) (rest:f.3),vs=x.43/\RD C H x l (M.p8 rs++rest)/\rs.length<=60/\∀H' r,H'.641->x.55->r.21->LL H' r rs->r.84
theorem pX:(["self","rows","turn"],w.4,qP).5:=o.3
theorem DV(T:n.3):iX P w K mg base kJ 3 A.Reader "take_rows" w.4 (aAv A.Reader):=by
 refine T.qS.ok T.iW.cl pX E.5 Y.15 q.3;obtain⟨x,l,rs,rest,rfl,pL,h60,k⟩:=h;have nd:=pX.nd;have iI:(1).27:=t.3;refine⟨_,aK (1,c7 aJ).14
  (aK (fF bL rfl (iI.654.519) ((2).503)
   (aP (pv 1,hr.711).63))
  (pv 1).47),?_⟩
 refine R.11;have s0:(H,r).23.34:=k8.76;have hrr:(((H,r).23) r).536:=aI;generalize (H,r).23=H0 at s0 hrr;obtain⟨dx0,aDO,p0,JS,uQ,_⟩:=id pL;have nrx:r≠x:=(aY JS k8).symm;refine⟨_,rfl,x,dx0,_,rfl,s0 _ _ JS,rfl,x,l,_,rs.flatMap M.gW++rest,rfl,pL.same s0,I.11⟩;refine⟨rs.length,rfl,b.3,b.3,?_⟩;refine eB dS (λi σ H'=>∃v2,σ=[x.8,r.8,v2]/\RD A.Reader H' x l ((rs.drop i).flatMap M.gW++rest)/\x.55/\((H' r,v.3).12/\(λb p=>(H' b,p).10/\b≠r,rs.take i).39).625) ⟨none,rfl,Q9,(eA.of s0).trans b1,[],b1 _ _ hrr nrx,.nil⟩ (λ_ _ _ _ _=>trivial) ?_ ?_
 . rintro i y σ H2 H2' hi ⟨v2,rfl,JT,b2,as,ha,hP⟩ ⟨rfl,rfl⟩;rw[Int.toNat_natCast] at hi;have hri:(rs,rs).28:=aF hi;rw[List.drop_eq_getElem_cons hi,List.flatMap_cons,cA] at JT;generalize rs[i]=t at hri JT;have pW:i.66:=(aO hP,aX).65
   obtain⟨dx2,all2,p2,vC,_⟩:=id JT;refine⟨_,rfl,ha.502,_,rfl,x,dx2,_,rfl,vC,rfl,x,l,t,_,rfl,JT,λH3 r3 XB b3 hn3 h3=>?_⟩;have ha3:=b3 _ _ ha nrx;refine(r,ha3,(pW,bD hi h60.29).78).33;have b4:eA r H3 (H3,r,v.3++[.ref r3]).3:=H3.567;have nr3:r3≠r:=λe=>by rw[e] at hn3;rw[ha] at hn3;cases hn3
   refine⟨_,rfl,?_,λb o e n=>?_,as++[r3],(aI,bH).18,?_⟩
   . exact XB.but b4 nrx.symm (aY uQ k8)
   . rw[bF (aY e k8)];exact b3 _ _ (b2 _ _ e n) n
   . rw[jU hri];exact iE (Paired.fV hP λb t q=>⟨b4 _ _ (b3 _ _ q.1 (q.1,vC).24) q.2,q.2⟩) (⟨b4 _ _ h3 nr3,nr3⟩).555
 . rintro σ H2 ⟨v2,rfl,JT,b2,as,ha,hP⟩;rw[Int.toNat_natCast,List.drop_length] at JT;rw[Int.toNat_natCast,cJ] at hP;exact(k _ r JT b2 k8 ⟨as,ha,(hP,q.1).38⟩).28
end
end G
namespace G
open PySem PySem.Spec PyProof.Rows L2
open Sy27 (Clue)
def aPz:Clue->Nat
 | .reads _ _ _=>0| .first _ _ _=>1| .last _ _ _=>2| .value _ _=>3| .within _ _ _=>4
def cText:Clue->a.3
 | .reads t _ _=>t| .first a b _=>[a,b]| .last a b _=>[a,b]| .value a _=>[a]| .within t _ _=>t
def aL1:Clue->d.3
 | .reads _ ws _=>ws| .first _ _ _=>[]| .last _ _ _=>[]| .value _ vs=>[vs]| .within _ r _=>[r]
def bI(y:Bool):Nat:=(y,1,0).8
def clF(kind:Nat)(tx pa:Addr)(y:Bool):V.57:=[("kind",nV kind),("text",.ref tx),("parts",.ref pa),("wanted",nV (bI y))]
def MV(C:Addr)(H:Hp)(c:Addr)(cl:Clue):Prop:=∃dx tx pa,(c,(clF (aPz cl) tx pa (M.wanted cl)).91).5/\(tx,cText cl).13/\LL H pa (aL1 cl)
theorem aCn(y:Bool):M.yI y=(bI y).22:=by cases y<;>rfl
section
variable{P:Program}{w:World}{K:PySem.W.Frag}{mg:k.3}{base:Heap}{A:Ad}
def aAw(C:Addr):Sp:=λvs H Q _=>∃(c dx tx pa:Addr) (kind:Nat) (y:Bool),vs=[.ref c,nV kind,.ref tx,.ref pa,nV (bI y)]/\(c,([]).91).5/\Q .gL (upd H c (clF kind tx pa y).91)
theorem TB:(J.15,J.15,GV).5:=o.3
theorem qD(T:n.3):G4 P w K mg base kJ 1 A.Clue "Clue" J.15 (aAw A.Clue):=by refine T.FK.ok TB I.13 (λvs H Q E h=>by obtain⟨x,dx,a,p,_,_,rfl,_⟩:=h;rfl) q.3;obtain⟨c,dx,tx,pa,kind,y,rfl,hx,k⟩:=h;have cl:=T.FK.cl;refine(aK (pv 1).88 (aK (pv 2).88 (aK (pv 3).88 (aP (pv 4).88))),?_).27;refine⟨_,rfl,_,rfl,c,A.Clue,dx,_,rfl,hx,cl,T.cF,(0).77,?_⟩;refine⟨_,rfl,_,rfl,c,A.Clue,dx,_,rfl,aI,cl,T.jQ,(1).77,?_⟩;refine⟨_,rfl,_,rfl,c,A.Clue,dx,_,rfl,aI,cl,T.gK,(2).77,?_⟩;refine⟨_,rfl,_,rfl,c,A.Clue,dx,_,rfl,aI,cl,T.tS,(3).77,?_⟩;rw[oU,oU,oU];exact k
def TC:Sp:=λvs H Q _=>∃(r:Addr) (row:a.3) (least most:Nat),vs=[.ref r,nV least,nV most]/\(r,row).13/\Q.11/\(Sy27.letters row least most).666
theorem rC:(["row","least","most","letter"],["row","least","most"],AG).5:=o.3
theorem rD(T:n.3):dC P w K mg base kJ 1 "are_letters" ["row","least","most"] TC:=by
 refine T.AU.ok rC Y.4 (λvs H Q E h=>by obtain⟨x,dx,a,p,rfl,_⟩:=h;rfl) q.3;obtain⟨r,row,least,most,rfl,hR,hn,k⟩:=h;refine⟨_,aP (bU (J4 (J9 F8 F8 (pv 1) (pv 0).566 (pv 2)) (E4 (a6 (E9 rfl) (by rfl) T.G3 boot_all (aD
  (fM (own:=[("letter",3)]) rfl rC.nd (cK (pv 0)) (y.3) (3,rC.nd).64.38 cT.38
   (F8,pv 3,eJ rfl T.A2).26) aJ))))),?_⟩
 unfold Sy27.letters at k;refine⟨_,rfl,_,rfl,r,_,rfl,hR.35,_,_,rfl,rfl,_,rfl,?_⟩;refine p7 (λh1=>?_) λh1=>?_
 . have IC:least<=row.length:=(cB h1,aA).117
   rw[decide_eq_true IC,eP] at k;refine⟨_,rfl,_,_,rfl,rfl,_,rfl,?_⟩;refine p7 (λh2=>?_) λh2=>?_
   . have OE:row.length<=most:=(cB h2,aA).117
     rw[decide_eq_true OE,eP] at k;refine(r,hR,λD hD=>eK (r,bE row).26 row (λx=> .bl (x,26).35) aA.85 hD hn.29 (λH' s1=>hR.521) ?_ ?_).30
     . rintro i x H1 H2 d C hd s1 ⟨rfl,hx⟩ hC;obtain rfl:x=nV d:=by rw[aE,hd] at hx;exact hx.31
       refine⟨rfl,_,rfl,_,_,rfl,rfl,(?_).529⟩;show V.bl (d.6,25).52=_;congr 1;by_cases h:d<26
       . rw[B.10,W.4]
       . rw[aQ h,aQ b.3]
     . intro H1 s1 yG;refine⟨D,row.map λx=>(x,26).35,rfl,yG.612,?_⟩;rw[kD];exact k _ s1
   . have OE:¬row.length<=most:=λz=>h2 w.14;rw[aQ OE,dF] at k;exact k _ F.3
 . have IC:¬least<=row.length:=λz=>h1 w.14;rw[aQ IC,dF] at k;exact(false,d5 (k _ F.3)).50
def aF3:Sp:=λvs H Q _=>∃(r:Addr) (t:a.3) (n:Nat),vs=[.ref r,nV n]/\(r,t).13/\t.length.62/\(Sy27.textOk n.93 t).666
theorem BX:(["text","signs","sign"],["text","signs"],QK).5:=o.3
theorem MW(T:n.3):dC P w K mg base kJ 1 "is_text" ["text","signs"] aF3:=by
 refine T.QQ.ok BX I.3 I.14 q.3;obtain⟨r,t,n,rfl,hR,hn,k⟩:=h;refine⟨_,aP (bU (J4 (J9 F8 F8 bC (pv 0).566 (eJ rfl T.sS)) (E4 (a6 (E9 rfl) (by rfl) T.G3 boot_all (aD
  (fM (own:=[("sign",2)]) rfl BX.nd (cK (pv 0)) (y.3) (2,BX.nd).64.38 cT.38
   (O9,pv 2,pv 1).26) aJ))))),?_⟩
 unfold Sy27.textOk Sy27.TEXT at k;refine⟨_,rfl,r,_,rfl,hR.35,_,_,rfl,rfl,_,rfl,?_⟩;refine p7 (λh1=>?_) λh1=>?_
 . have IC:1<=t.length:=(cB h1,aA).117
   rw[decide_eq_true IC,eP] at k;refine⟨_,_,rfl,rfl,_,rfl,?_⟩;refine p7 (λh2=>?_) λh2=>?_
   . have OE:t.length<=8:=(cB h2,aA).117
     rw[decide_eq_true OE,eP] at k;refine(r,hR,λD hD=>eK (r,bE t).26 t (λx=> .bl (decide (x<n))) aA.85 hD hn.29 (λH' s1=>hR.521) ?_ ?_).30
     . rintro i x H1 H2 d C hd s1 ⟨rfl,hx⟩ hC;obtain rfl:x=nV d:=by rw[aE,hd] at hx;exact hx.31
       refine⟨rfl,_,rfl,_,rfl,_,_,rfl,rfl,(?_).529⟩;show V.bl (d.6,n.6).35=_;congr 1;by_cases h:d<n
       . rw[B.10,W.4]
       . rw[aQ h,aQ b.3]
     . intro H1 s1 yG;refine⟨D,t.map λx=>decide (x<n),rfl,yG.612,?_⟩;rw[kD];exact k _ s1
   . have OE:¬t.length<=8:=λz=>h2 w.14;rw[aQ OE,dF] at k;exact k _ F.3
 . have IC:¬1<=t.length:=λz=>h1 w.14;rw[aQ IC,dF] at k;exact(false,d5 (k _ F.3)).50
end
end G
namespace G
open PySem PySem.Spec PyProof.Rows L2
open Sy27 (Clue)
theorem tU: ∀(l m:d.3),m.Nodup->(l.foldl F.16 m,m.length+l.length).8/\
 ((l.foldl F.16 m,m.length+l.length).6↔l.Nodup/\∀x∈l,x∉m)
 |[],m,hm=>c.3
 |x::l,m,hm=>by
  rw[List.foldl_cons];by_cases hx:x∈m
  . rw[if_pos (by simpa using hx)];have ih:=(tU l m hm).1;refine List.length_cons.56.71;constructor
    . intro h;rw[List.length_cons] at h;omega
    . rintro⟨_,h⟩;exact absurd hx (h x c.3)
  . rw[if_neg (by simpa using hx)];have XC:(m++[x]).Nodup:=(fH,⟨hm,c.3,λa ha b hb e=>by simp at hb;subst hb;subst e;exact hx ha⟩).3
    obtain⟨i1,i2⟩:=tU l (m++[x]) XC;rw[List.length_append] at i1 i2;refine(by rw[List.length_cons];rw[List.length_singleton] at i1;omega).71;have e:m.length+(x::l).length=m.length+[x].length+l.length:=k.4
    rw[e,i2,eM];constructor
    . rintro⟨h1,h2⟩;refine⟨⟨λhh=>by have:=h2 x hh;simp at this,h1⟩,e.10⟩;rcases List.mem_cons.mp hy with rfl|hy
      . exact hx
      . have:=h2 y hy;simp at this;exact this.1
    . rintro⟨⟨h1,h2⟩,h3⟩;refine⟨h2,e.10⟩;simp only [List.mem_append,List.mem_singleton,not_or];exact⟨h3 y hy.24,λe=>h1 (e▸hy)⟩
theorem DW(l:d.3):(((Sy27.distinct l).length==l.length)).7↔l.Nodup:=by have:=(tU l [] eO).2;unfold Sy27.distinct;rw[beq_iff_eq];simpa using this
theorem XD{l:d.3}:l.Nodup↔∀x∈l,l.count x=1:=by
 constructor
 . intro h x hx;have h1:=List.nodup_iff_count.mp h x;have h2:=List.count_pos_iff.mpr hx;omega
 . intro h;rw[List.nodup_iff_count];intro x;by_cases hx:x∈l
   . rw[h x hx];exact aS _
   . rw[List.count_eq_zero_of_not_mem hx];exact aW _
section
variable{P:Program}{w:World}{K:PySem.W.Frag}{mg:k.3}{base:Heap}{A:Ad}
def aAx:Sp:=λvs H Q _=>∃(sy:Addr) (n:Nat) (syl:d.3),vs=[nV n,.ref sy]/\LL H sy syl/\syl.length<=60/\(∀r∈syl,h.11)/\o.13.666
theorem DX:(["signs","syllables","row"],["signs","syllables"],xO).5:=o.3
theorem TF(T:n.3):dC P w K mg base kJ 2 "is_script" ["signs","syllables"] aAx:=by
 refine T.GX.ok DX I.3 I.14 q.3;obtain⟨sy,n,syl,rfl,S8,h60,aDP,k⟩:=h;obtain⟨as,IL,hP⟩:=id S8;have hl:syl.length.66:=aO hP;have nd:=DX.nd;have hu:((Ar.deeper (envOfC (Str.ofString "is_script") (aV xO) s.heap.objs.size f fJ)).units+65).61:=hr.un.90
 refine⟨_,aK (dY (aEV (bZ O9 (pv 0) bC (cG _)) (aEV (bZ PB (pv 0) (eJ (by rfl) T.DG) (cG _)) (aEV (bZ O9 (a6 cV (by rfl) T.c0 aT (aD (pv 1) aJ)) bC (cG _))
  (aKU (bZ PB (a6 cV (by rfl) T.c0 aT (aD (pv 1) aJ)) (eJ (by rfl) T.tR) (cG _)))))).pt CF.47 cN)
  (aK (dY (E3 (tM (a6 (E9 rfl) (by rfl) T.G3 boot_all (aD
   (fM (own:=[("row",2)]) rfl nd (cK (pv 1)) (y.3) (2).565 cT.38
    (rD T,hr,(pv 2,bC,eJ (by rfl) T.lG).7).6.38) aJ)))) CF.47 cN)
  (aP (bU (a6 (E9 rfl) (by rfl) T.G3 boot_all (aD
   (fM (own:=[("row",2)]) rfl nd (cK (pv 1)) (y.3) (2).565 cT.38
    (gM,bmL K bA pY PySem.F.type_list_count (aIf hu) (pv 1) (pv 2).30,bC).26) aJ))))),?_⟩
 have hS0:bP K H sy v.3:=bP.of IL;have el:((v.3).length).22=syl.length.6:=hl.500
 unfold Sy27.scriptOk Sy27.SIGNS Sy27.VALUES at k;refine⟨_,rfl,_,_,rfl,rfl,_,rfl,?_⟩;by_cases h1:1<=n;case neg=>rw[aQ h1,dF] at k;rw[decide_eq_true ((n.6<1)).36];exact gO (k _ F.3)
 rw[aQ (¬(n.6<1)).36];rw[decide_eq_true h1,eP] at k;refine d5 ⟨_,rfl,_,_,rfl,rfl,_,rfl,?_⟩;by_cases h2:n<=8;case neg=>rw[aQ h2,dF] at k;rw[decide_eq_true ((8).33<n.6).36];exact gO (k _ F.3)
 rw[aQ (¬((8).33<n.6)).36];rw[decide_eq_true h2,eP] at k;refine d5 ⟨_,rfl,sy,_,rfl,.inl hS0,_,_,rfl,rfl,_,rfl,?_⟩;rw[el];by_cases h3:1<=syl.length;case neg=>rw[aQ h3,dF] at k;rw[decide_eq_true (syl.length.6<1).36];exact gO (k _ F.3)
 rw[aQ (¬(syl.length.6<1)).36];rw[decide_eq_true h3,eP] at k;refine d5 ⟨_,rfl,sy,_,rfl,.inl hS0,_,_,rfl,rfl,_,rfl,?_⟩;rw[el];by_cases h4:syl.length<=10;case neg=>rw[aQ h4,dF] at k;rw[decide_eq_true ((10).33<syl.length.6).36];exact gO (k _ F.3)
 rw[aQ (¬((10).33<syl.length.6)).36];rw[decide_eq_true h4,eP] at k;refine d5 ?_;refine⟨_,rfl,sy,rfl,hS0.20,λD hD=>eK sy.534 syl (λv=> .bl (1,3).68) hl.500 hD h4.29 IL.584 ?_ ?_⟩
 . rintro j x H5 H6 v C hv s5 ⟨rfl,hx⟩ hC;obtain⟨cv,OO,tT⟩:=bO hP hv;obtain rfl:x= .ref cv:=by rw[aE,OO] at hx;exact hx.31
   have:=aDP v (List.mem_of_getElem? hv);exact⟨rfl,_,rfl,cv,v,1,3,rfl,tT.60,b.3,λH7 s7=>hC _ _ s7 rfl⟩
 . intro H1 s1 yG;refine⟨D,(1,3).68.599,rfl,yG.612,_,rfl,?_⟩;have ea:((1,3).68.599).all id=syl.all λv=>(1,3).68:=kD.508
   rw[ea]
   cases h5:syl.all λv=>(1,3).68 with
   |false=> rw[h5,dF] at k;exact gO (k _ s1)
   |true=>
    rw[h5,eP] at k;refine d5 ?_;refine⟨_,rfl,sy,rfl,IL.26.59,λD2 nP=>eK sy.534 syl (λv=> .bl (syl.count v==1)) hl.500 nP h4.29 IL.26.584 ?_ ?_⟩
    . rintro j x H5 H6 v C hv s5 ⟨rfl,hx⟩ hC;obtain⟨cv,OO,tT⟩:=bO hP hv;obtain rfl:x= .ref cv:=by rw[aE,OO] at hx;exact hx.31
      refine⟨rfl,_,rfl,IL.26.60.502,_,rfl,sy,cv,syl,v,rfl,rfl,(S8.mono s1).mono s5,tT.26.60,rfl,(?_).529⟩;show V.bl (nV (syl.count v),nV 1).11=_;rw[pI]
    . intro H2 s2 A4;refine⟨D2,(syl.count v==1).599,rfl,A4.612,?_⟩;have eb:((syl.count v==1).599).all id=((Sy27.distinct syl).length==syl.length):=by
       rw[kD,cR,DW,XD,List.all_eq_true];constructor
       . intro h x hx;simpa using h x hx
       . intro h x hx;simpa using h x hx
      rw[eb];exact k _ f.4
end
end G
namespace G
open PySem PySem.Spec PyProof.Rows L2
open Sy27 (Clue)
theorem uS{H1:Hp}{c dx:Addr}(hc:(H1 c).9)(hd:(H1 dx).9)(o o' u:HO):(upd (upd (dx,o).25 c o') c u).82:=λb v e=>by rw[bF (aY e hc),bF (aY e hc),bF (aY e hd)];exact e
theorem LL.one{H:Hp}{a b:Addr}{r:a.3}(ha:(a,b.43).41)(hb:(b,r).13):LL H a [r]:=⟨[b],ha,hb.555⟩
theorem LL.nil{H:Hp}{a:Addr}(ha:(a,[]).41):LL H a []:=ha.645
section
variable{P:Program}{w:World}{K:PySem.W.Frag}{mg:k.3}{base:Heap}{A:Ad}
def aAy(C D:Addr):Sp:=λvs H Q _=>∃(x l:Addr) (cl:Clue),vs=x.43/\RD C H x l (M.nM cl)/\M.oO cl/\∀H' c,RD C H' x l []->x.55->MV D H' c cl->c.84
theorem DY:(["reader","kind","text","parts"],["reader"],GO).5:=o.3
theorem TH(T:n.3):dC P w K mg base kJ 4 "read_clue" ["reader"] (aAy A.Reader A.Clue):=by
 refine T.GW.ok DY E.5 I.14 q.3;obtain⟨x,l,cl,rfl,pL,BO,k⟩:=h;have nd:=DY.nd;have iI:(1).27:=t.3;have tG:(2).27:=t.3;refine⟨_,aK (1,iI.654).14
  (aK (dY T.vK.782
   (aK tG.711.524
   (aK (3,eU (pv 0) (DV T) hr).14
   (pv 3).778)) cN)
  (aK (dY T.x4.782
   (aK tG.711.524
   (aK (3,c7 tG.711.30).14
   (pv 3).778)) cN)
  (aK (dY T.DJ.782
   (aK (c7 iI.654.30).524
   (vL (qD T) tG (by rfl) (aD (pv 1) (pv 2,c7 tG.711.30,bC).7)).47) cN)
  (aK (c7 iI.654.30).524
  (aK ((pv 2,iI.654).63)
  (c7 aJ).778))))),?_⟩
 obtain⟨⟨dx0,fs0,JS⟩,la0,uQ⟩:=pL.at_
 cases cl with
 |reads t ws y=>
  obtain⟨_,JG,_⟩:=BO;have e:M.nM (.reads t ws y)=0::(M.gW t++(M.p8 ws++[M.yI y])):=rfl;rw[e] at pL;obtain⟨dx0,aDO,p0,JS,uQ,_⟩:=id pL;refine⟨_,rfl,x,dx0,_,rfl,JS,rfl,x,l,_,_,rfl,pL,I.11⟩;obtain⟨dx1,all1,p1,jH,_⟩:=id Q9;refine⟨_,rfl,rfl,_,rfl,gO ?_⟩;refine⟨_,rfl,x,dx1,_,rfl,jH,rfl,x,l,t,_,rfl,Q9,λH2 tx JT b2 hn2 U1=>?_⟩;obtain⟨dx2,all2,p2,vC,_⟩:=id JT;have ntx:tx≠x:=(U1,vC).24;refine⟨_,rfl,x,dx2,_,rfl,vC,rfl,x,l,ws,_,rfl,JT,JG,λH3 pa XB b3 hn3 hp3=>?_⟩;obtain⟨dx3,aL4,p3,CC,_⟩:=id XB;refine⟨_,rfl,_,rfl,_,rfl,_,rfl,x,dx3,_,rfl,CC,rfl,x,l,_,_,rfl,XB,λH4 hR4 b4=>?_⟩;intro c dx hc hd _;obtain⟨⟨dx4,fs4,TJ⟩,_⟩:=hR4.at_;refine⟨c,dx,tx,pa,0,y,?_,aI,rfl,?_⟩
  . show [V.ref c,V.int 0,V.ref tx,V.ref pa,V.int (M.yI y)]=_;rw[aCn];rfl
  have sm:=uS hc hd (.own c) (A.Clue,[]).22 (A.Clue,clF 0 tx pa y).22;refine k _ c (hR4.same sm) (((b1.trans b2,b3,b4).11).trans (eA.of sm)) ⟨dx,tx,pa,aI,sm _ _ (b4 _ _ (b3 _ _ U1 ntx) ntx),(hp3.but b4 CC P.11).mono sm⟩
 |first a b y=>
  have e:M.nM (.first a b y)=[1,a.6,b.6,M.yI y]:=rfl;rw[e] at pL;obtain⟨dx0,aDO,p0,JS,uQ,_⟩:=id pL;refine⟨_,rfl,x,dx0,_,rfl,JS,rfl,x,l,_,_,rfl,pL,I.11⟩;obtain⟨dx1,all1,p1,jH,_⟩:=id Q9;refine(rfl,d5 ?_).106;refine⟨_,rfl,rfl,_,rfl,d5 ?_⟩;refine⟨_,rfl,rfl,_,rfl,d5 ?_⟩;refine⟨_,rfl,x,dx1,_,rfl,jH,rfl,x,l,_,_,rfl,Q9,λH2 JT b2=>(λtx htx=>?_).573⟩;have s3:(tx,[a.516]).62:=htx.528;have ht3:(((H2,tx,[a.516]).3) tx,[nV a]).12:=aI;generalize (H2,tx,[a.516]).3=H3 at s3 ht3;have XB:=JT.same s3;obtain⟨dx3,aL4,p3,CC,hl3,_⟩:=id XB;have ntx:tx≠x:=(ht3,CC).24;have nlt:l≠tx:=by obtain⟨_,_,h⟩:=JT.at_;exact aY h htx
  refine⟨_,rfl,ht3.502,_,rfl,x,dx3,_,rfl,CC,rfl,x,l,_,_,rfl,XB,λH4 hR4 b4=>?_⟩;refine(tx,b4 _ _ ht3 ntx,by show 1<sizeLine;decide).33;have b5:eA tx H4 u.10:=H4.567;have ht5:((u.10) tx,[a,b]).10:=aI;have hR5:=hR4.but b5 ntx.symm nlt;obtain⟨dx5,aUl,p5,hx5,_⟩:=id hR5;refine⟨_,rfl,_,rfl,aW _,λpa TM=>?_⟩;have s6:=(aL.refl u.10).new (o:= .lst []) TM;have hp6:(((u.10,pa).23) pa).536:=aI;refine⟨_,rfl,x,dx5,_,rfl,hx5.518,rfl,x,l,_,_,rfl,hR5.same s6,λH7 hR7 b7=>?_⟩;intro c dx hc hd _;refine⟨c,dx,tx,pa,1,y,?_,aI,rfl,?_⟩
  . show [V.ref c,V.int 1,V.ref tx,V.ref pa,V.int (M.yI y)]=_;rw[aCn];rfl
  have sm:=uS hc hd (.own c) (A.Clue,[]).22 (A.Clue,clF 1 tx pa y).22;have bf:eA x H u.10:=M.16.828;exact(LL.nil (sm _ _ (b7 _ _ hp6 (hp6,hx5.518).24))).813
 |last a b y=>
  have e:M.nM (.last a b y)=[2,a.6,b.6,M.yI y]:=rfl;rw[e] at pL;obtain⟨dx0,aDO,p0,JS,uQ,_⟩:=id pL;refine⟨_,rfl,x,dx0,_,rfl,JS,rfl,x,l,_,_,rfl,pL,I.11⟩;obtain⟨dx1,all1,p1,jH,_⟩:=id Q9;refine⟨_,rfl,rfl,_,rfl,d5 ?_⟩;refine⟨_,rfl,rfl,_,rfl,d5 ?_⟩;refine(rfl,d5 ?_).106;refine⟨_,rfl,x,dx1,_,rfl,jH,rfl,x,l,_,_,rfl,Q9,λH2 JT b2=>(λtx htx=>?_).573⟩;have s3:(tx,[a.516]).62:=htx.528;have ht3:(((H2,tx,[a.516]).3) tx,[nV a]).12:=aI;generalize (H2,tx,[a.516]).3=H3 at s3 ht3;have XB:=JT.same s3;obtain⟨dx3,aL4,p3,CC,hl3,_⟩:=id XB;have ntx:tx≠x:=(ht3,CC).24;have nlt:l≠tx:=by obtain⟨_,_,h⟩:=JT.at_;exact aY h htx
  refine⟨_,rfl,ht3.502,_,rfl,x,dx3,_,rfl,CC,rfl,x,l,_,_,rfl,XB,λH4 hR4 b4=>?_⟩;refine(tx,b4 _ _ ht3 ntx,by show 1<sizeLine;decide).33;have b5:eA tx H4 u.10:=H4.567;have ht5:((u.10) tx,[a,b]).10:=aI;have hR5:=hR4.but b5 ntx.symm nlt;obtain⟨dx5,aUl,p5,hx5,_⟩:=id hR5;refine⟨_,rfl,_,rfl,aW _,λpa TM=>?_⟩;have s6:=(aL.refl u.10).new (o:= .lst []) TM;have hp6:(((u.10,pa).23) pa).536:=aI;refine⟨_,rfl,x,dx5,_,rfl,hx5.518,rfl,x,l,_,_,rfl,hR5.same s6,λH7 hR7 b7=>?_⟩;intro c dx hc hd _;refine⟨c,dx,tx,pa,2,y,?_,aI,rfl,?_⟩
  . show [V.ref c,V.int 2,V.ref tx,V.ref pa,V.int (M.yI y)]=_;rw[aCn];rfl
  have sm:=uS hc hd (.own c) (A.Clue,[]).22 (A.Clue,clF 2 tx pa y).22;have bf:eA x H u.10:=M.16.828;exact(LL.nil (sm _ _ (b7 _ _ hp6 (hp6,hx5.518).24))).813
 |value a vs=>
  have e:M.nM (.value a vs)=3::a.6::(M.gW vs++[]):=List.append_nil.508
  rw[e] at pL;obtain⟨dx0,aDO,p0,JS,uQ,_⟩:=id pL;refine⟨_,rfl,x,dx0,_,rfl,JS,rfl,x,l,_,_,rfl,pL,I.11⟩;obtain⟨dx1,all1,p1,jH,_⟩:=id Q9;refine⟨_,rfl,rfl,_,rfl,d5 ?_⟩;refine(rfl,d5 ?_).106;refine⟨_,rfl,rfl,_,rfl,gO ?_⟩;refine⟨_,rfl,x,dx1,_,rfl,jH,rfl,x,l,_,_,rfl,Q9,λH2 JT b2=>(λtx htx=>?_).573⟩;have s3:(tx,[a.516]).62:=htx.528;have ht3:(((H2,tx,[a.516]).3) tx,[a]).10:=aI;have XB:=JT.same s3;obtain⟨dx3,aL4,p3,CC,hl3,_⟩:=id XB;have ntx:tx≠x:=(ht3,CC).24;refine⟨_,rfl,_,rfl,_,rfl,x,dx3,_,rfl,CC,rfl,x,l,vs,[],rfl,XB,λH4 r hR4 b4 uO Y0=>(λpa TM=>?_).573⟩;have s5:aL H4 (H4,pa,r.43).3:=(H4,TM).20;have hp5:(((H4,pa,r.43).3) pa,r.43).12:=aI;intro c dx hc hd _;refine⟨c,dx,tx,pa,3,true,rfl,aI,rfl,?_⟩;have sm:=uS hc hd (.own c) (A.Clue,[]).22 (A.Clue,clF 3 tx pa true).22;exact k _ c ((hR4.same s5).same sm) ((b1.trans b2,eA.of s3,b4).11,eA.of s5,eA.of sm).11 ⟨dx,tx,pa,aI,sm _ _ (b4 _ _ ht3 ntx).60,LL.one (sm _ _ hp5) (sm _ _ Y0.60)⟩
 |within t r y=>
  have e:M.nM (.within t r y)=4::(M.gW t++(M.gW r++[M.yI y])):=rfl;rw[e] at pL;obtain⟨dx0,aDO,p0,JS,uQ,_⟩:=id pL;refine⟨_,rfl,x,dx0,_,rfl,JS,rfl,x,l,_,_,rfl,pL,I.11⟩;obtain⟨dx1,all1,p1,jH,_⟩:=id Q9;refine(rfl,d5 ?_).106;refine⟨_,rfl,rfl,_,rfl,gO ?_⟩;refine⟨_,rfl,x,dx1,_,rfl,jH,rfl,x,l,t,_,rfl,Q9,λH2 tx JT b2 hn2 U1=>?_⟩;obtain⟨dx2,all2,p2,vC,_⟩:=id JT;have ntx:tx≠x:=(U1,vC).24;refine⟨_,rfl,x,dx2,_,rfl,vC,rfl,x,l,r,_,rfl,JT,λH3 rr XB b3 hn3 wZ=>(λpa TM=>?_).573⟩;have s4:aL H3 (H3,pa,rr.43).3:=(H3,TM).20;have hp4:(((H3,pa,rr.43).3) pa,rr.43).12:=aI;have hR4:=XB.same s4;obtain⟨dx4,aZ1,p4,TJ,_⟩:=id hR4;refine⟨_,rfl,_,rfl,_,rfl,_,rfl,x,dx4,_,rfl,TJ,rfl,x,l,_,_,rfl,hR4,λH5 hR5 b5=>?_⟩;intro c dx hc hd _;refine⟨c,dx,tx,pa,4,y,?_,aI,rfl,?_⟩
  . show [V.ref c,V.int 4,V.ref tx,V.ref pa,V.int (M.yI y)]=_;rw[aCn];rfl
  have sm:=uS hc hd (.own c) (A.Clue,[]).22 (A.Clue,clF 4 tx pa y).22;refine k _ c (hR5.same sm) ((b1.trans b2,b3,eA.of s4).11,b5,eA.of sm).11 ⟨dx,tx,pa,aI,sm _ _ (b5 _ _ (b3 _ _ U1 ntx).64 ntx),LL.one (sm _ _ (b5 _ _ hp4 ?_)) (sm _ _ (b5 _ _ wZ.64 ?_))⟩
  . exact(hp4,TJ).24
  . exact(wZ.64,TJ).24
def aF5(C:Addr):Sp:=λvs H Q _=>∃(c:Addr) (cl:Clue) (S:Sy27.Script),vs=[.ref c,nV S.signs,nV S.values.length]/\MV C H c cl/\M.oO cl/\cl.608.666
theorem MX:(["clue","signs","size","fit","word","number"],["clue","signs","size"],QL).5:=o.3
theorem dec_lt{a b:Nat}:(a.6,b.6).35=decide (a<b):=by
 by_cases h:a<b
 . rw[B.10,W.4]
 . rw[aQ h,aQ b.3]
theorem aAB{a b:Nat}:(a.6,b.6).52=(a,b).52:=by
 by_cases h:a<=b
 . rw[B.10,W.4]
 . rw[aQ h,aQ b.3]
theorem aAC(T:n.3):dC P w K mg base kJ 2 "is_clue" ["clue","signs","size"] (aF5 A.Clue):=by
 refine T.QR.ok MX Y.4 I.14 q.3;obtain⟨c,cl,S,rfl,⟨dx,tx,pa,hc,ht,hp⟩,BO,k⟩:=h;have nd:=MX.nd;refine⟨_,aK ((E3 (tM (bQ (MW T) hr (by rfl) (j.5,pv 1).21)),bU CF).33)
  (aK (dY ((gM,j.5,eJ (by rfl) T.vK).9)
   (aK (bK (i:=3) nd rfl (l.5) (a6 (E9 rfl) (by rfl) T.G3 boot_all (aD (fM (own:=[("word",4)]) rfl nd (cK j.5) (y.3) (4).565 cT.38
    (rD T,hr,(pv 4,bC,eJ rfl T.mS).7).6.38) aJ)))
   (J4 (pv 3) (E4 (J9 F8 F8 bC j.5.566 (eJ (by rfl) T.DH)))).47) cN)
  (aK (dY ((gM,j.5,eJ (by rfl) T.x4).9)
   (rD T,hr,((sA,j.5,bC).23,bC,eJ (by rfl) T.mS).7).6.47 cN)
  (aK (dY ((gM,j.5,eJ (by rfl) T.DJ).9)
   (aK (bK (i:=3) nd rfl (l.5) (a6 (E9 rfl) (by rfl) T.G3 boot_all (aD (fM (own:=[("number",5)]) rfl nd (cK (sA,j.5,bC).23) (y.3) (5).565 cT.38
    (O9,pv 5,pv 2).26) aJ)))
   (J4 (pv 3) (E4 (jB F8 (sA,j.5,bC).23.566 (eJ (by rfl) T.tR) (cG _)))).47) cN)
  CF.47))),?_⟩
 have C:=T.FK.cl;have htl:(cText cl,1000).8:=by cases cl<;>simp[cText,M.oO] at BO⊢<;>omega
 refine⟨_,rfl,c,A.Clue,dx,_,_,rfl,hc,C,T.jQ,rfl,_,rfl,tx,cText cl,S.signs,rfl,ht,htl,λH1 s1=>(?_).28⟩;have wU:=hc.26;have XE:=ht.26;have hp1:=hp.mono s1
 cases cl with
 |reads t ws y=>
  have e0:(.reads t ws y).608=(t.548&&(decide (1<=ws.length)&&(decide (ws.length<=10)&&ws.all λ(w:List Nat)=>Sy27.letters w 0 16))):=rfl;rw[e0] at k;show((!t.548)).40
  cases hT:t.548 with
  |false=>rw[hT,dF] at k;exact gO (k _ s1)
  |true=>
   rw[hT,eP] at k;refine d5 ⟨_,rfl,c,A.Clue,dx,_,_,rfl,wU,C,T.cF,rfl,rfl,_,rfl,gO ?_⟩;obtain⟨as,hA,hP⟩:=id hp1;have hl:ws.length.66:=aO hP;obtain⟨_,aUo,aDP⟩:=BO;refine⟨_,rfl,c,A.Clue,dx,_,_,rfl,wU,C,T.gK,rfl,pa,rfl,hA.59,λD hD=>eK pa.534 ws (λv=> .bl (0,16).68) hl.500 hD aUo.29 hA.584 ?_ ?_⟩
   . rintro j x H5 H6 v C' hv s5 ⟨rfl,hx⟩ hC;obtain⟨cv,OO,tT⟩:=bO hP hv;obtain rfl:x= .ref cv:=by rw[aE,OO] at hx;exact hx.31
     have:=aDP v (List.mem_of_getElem? hv);exact⟨rfl,_,rfl,cv,v,0,16,rfl,tT.60,b.3,λH7 s7=>hC _ _ s7 rfl⟩
   . intro H2 s2 nP;refine⟨D,ws.map λv=>(0,16).68,rfl,nP.612,_,rfl,_,rfl,?_⟩;have ea:(ws.map λv=>(0,16).68).all id=ws.all λv=>(0,16).68:=kD.508
     rw[ea];have CD:=f.4
     cases hL:ws.all λv=>(0,16).68 with
     |false=> rw[hL,Bool.and_false,Bool.and_false] at k;exact d5 (k _ CD)
     |true=>
      rw[hL,Bool.and_true] at k;refine gO ⟨_,rfl,c,A.Clue,dx,_,_,rfl,wU.50,C,T.gK,rfl,pa,_,rfl,hA.50.35,_,_,rfl,rfl,_,rfl,?_⟩;rw[show((1).33,((v.3).length).22).52=decide (1<=ws.length) by rw[aA,hl];exact aAB (a:=1)]
      cases h1:decide (1<=ws.length) with
      |false=>rw[h1,dF] at k;exact d5 (k _ CD)
      |true=> rw[h1,eP] at k;refine gO ⟨_,_,rfl,rfl,?_⟩;show Q (V.bl (((v.3).length).22,(10).33).52) H2;rw[show(((v.3).length).22,(10).33).52=decide (ws.length<=10) by rw[aA,hl];exact aAB (b:=10)];exact k _ CD
 |first a b y=>
  have e0:(.first a b y).608=([a,b]).548:=by simp[Sy27.clueOk,Sy27.textOk,Sy27.TEXT]
  rw[e0] at k;show((!([a,b]).548)).40
  cases hT:([a,b]).548 with
  |false=>rw[hT] at k;exact gO (k _ s1)
  |true=> rw[hT] at k;refine d5 ⟨_,rfl,c,A.Clue,dx,_,_,rfl,wU,C,T.cF,rfl,rfl,_,rfl,d5 ?_⟩;refine⟨_,rfl,c,A.Clue,dx,_,_,rfl,wU,C,T.cF,rfl,rfl,_,rfl,d5 ?_⟩;refine⟨_,rfl,c,A.Clue,dx,_,_,rfl,wU,C,T.cF,rfl,rfl,_,rfl,d5 (k _ s1)⟩
 |last a b y=>
  have e0:(.last a b y).608=([a,b]).548:=by simp[Sy27.clueOk,Sy27.textOk,Sy27.TEXT]
  rw[e0] at k;show((!([a,b]).548)).40
  cases hT:([a,b]).548 with
  |false=>rw[hT] at k;exact gO (k _ s1)
  |true=> rw[hT] at k;refine d5 ⟨_,rfl,c,A.Clue,dx,_,_,rfl,wU,C,T.cF,rfl,rfl,_,rfl,d5 ?_⟩;refine⟨_,rfl,c,A.Clue,dx,_,_,rfl,wU,C,T.cF,rfl,rfl,_,rfl,d5 ?_⟩;refine⟨_,rfl,c,A.Clue,dx,_,_,rfl,wU,C,T.cF,rfl,rfl,_,rfl,d5 (k _ s1)⟩
 |value a vs=>
  have e0:(.value a vs).608=(([a]).548&&(decide (vs.length<=10)&&vs.all λv=>F.12)):=by rw[show([a]).548=decide d.4 by simp[Sy27.textOk,Sy27.TEXT]];rfl
  rw[e0] at k;show((!([a]).548)).40
  cases hT:([a]).548 with
  |false=>rw[hT,dF] at k;exact gO (k _ s1)
  |true=>
   rw[hT,eP] at k;refine d5 ⟨_,rfl,c,A.Clue,dx,_,_,rfl,wU,C,T.cF,rfl,rfl,_,rfl,d5 ?_⟩;refine⟨_,rfl,c,A.Clue,dx,_,_,rfl,wU,C,T.cF,rfl,rfl,_,rfl,d5 ?_⟩;refine⟨_,rfl,c,A.Clue,dx,_,_,rfl,wU,C,T.cF,rfl,rfl,_,rfl,gO ?_⟩;obtain⟨as,hA,hP⟩:=id hp1
   cases hP with
   |cons k8 hn=>
    rename_i r as';cases hn;have aUq:vs.length<=60:=BO;refine⟨_,rfl,c,A.Clue,dx,_,_,rfl,wU,C,T.gK,rfl,pa,_,_,_,rfl,rfl,bP.of hA,(0).547,r,rfl,k8.59,λD hD=>eK (r,bE vs).26 vs (λv=> .bl F.12) aA.85 hD aUq.29 k8.584 ?_ ?_⟩
    . rintro j x H5 H6 v C' hv s5 ⟨rfl,hx⟩ hC;obtain rfl:x=nV v:=by rw[aE,hv] at hx;exact hx.31
      exact⟨rfl,_,rfl,_,rfl,_,_,rfl,rfl,(cP V.bl dec_lt).529⟩
    . intro H2 s2 nP;refine⟨D,vs.map λv=>F.12,rfl,nP.612,_,rfl,_,rfl,?_⟩;have ea:(vs.map λv=>F.12).all id=vs.all λv=>F.12:=kD.508
      rw[ea];have CD:=f.4
      cases hL:vs.all λv=>F.12 with
      |false=>rw[hL,Bool.and_false] at k;exact d5 (k _ CD)
      |true=> rw[hL,Bool.and_true] at k;refine gO ⟨_,rfl,c,A.Clue,dx,_,_,rfl,wU.50,C,T.gK,rfl,pa,_,_,_,rfl,rfl,bP.of hA.50,(0).547,r,_,rfl,k8.50.35,_,_,rfl,rfl,?_⟩;show Q (V.bl (vs.94.22,(10).33).52) H2;rw[show(vs.94.22,(10).33).52=decide (vs.length<=10) by rw[aA];exact aAB (b:=10)];exact k _ CD
 |within t r0 y=>
  have e0:(.within t r0 y).608=(t.548&&Sy27.letters r0 1 16):=rfl;rw[e0] at k;show((!t.548)).40
  cases hT:t.548 with
  |false=>rw[hT,dF] at k;exact gO (k _ s1)
  |true=>
   rw[hT,eP] at k;refine d5 ⟨_,rfl,c,A.Clue,dx,_,_,rfl,wU,C,T.cF,rfl,rfl,_,rfl,d5 ?_⟩;refine⟨_,rfl,c,A.Clue,dx,_,_,rfl,wU,C,T.cF,rfl,rfl,_,rfl,gO ?_⟩;obtain⟨as,hA,hP⟩:=id hp1
   cases hP with
   |cons k8 hn=> rename_i r as';cases hn;have aDP:r0.length<=60:=BO.2;exact⟨_,rfl,c,A.Clue,dx,_,_,rfl,wU,C,T.gK,rfl,pa,_,_,_,rfl,rfl,bP.of hA,(0).547,r,r0,1,16,rfl,k8,b.3,λH7 s7=>k _ (s1.trans s7)⟩
end
end G
namespace G
open PySem PySem.Spec PyProof.Rows L2
theorem DZ{K:PySem.W.Frag}{a b:Addr}{xs ys:e.3}(h:xs.length=ys.length):Seq (Itz K a b) xs.length (λH=>xs.75/\bP K H b ys) (yZ xs ys) where
 go:=λi H q hi=>⟨xs,ys,xs[i],ys[i],q.1,q.2,hi.24,(h▸hi).24⟩
 yl:=λi H x H' q hi y=>by obtain⟨T,u,v,e,n,e2,y1,y2⟩:=y;exact⟨T,u,v,e,n,e2,y1 xs q.1,y2 ys q.2⟩
 st:=λi H q hi=>⟨xs,ys,q.1,q.2,.inl hi⟩
theorem MY{α:Type}(f g:α->Bool): ∀l:w.3,M.bitsOf (l.map f)=M.bitsOf (l.map λx=>f x&&g x)+M.bitsOf (l.map λx=>f x&& !g x)
 |[]=>rfl
 |a::l=>by have ih:=MY f g l;simp only [List.map_cons,M.bitsOf];cases f a<;>cases g a<;>simp<;>omega
theorem XF{α:Type}(f g:α->Bool)(l:w.3):Builtin.bitAnd (l.map f).632 J.13=(M.bitsOf (l.map λx=>f x&& !g x)).22:=by
 have h0:(0).33<=(l.map f).632:=b.3
 have h1:¬(0).33<=J.13:=by unfold Builtin.bitNot;omega
 have e1:(Builtin.bitNot J.13).toNat=M.bitsOf (l.map g):=by unfold Builtin.bitNot;omega
 unfold Builtin.bitAnd;rw[decide_eq_true h0,aQ h1];show(l.map f).632-(((l.map f).632).toNat&&&(Builtin.bitNot J.13).toNat).22=_;rw[e1,Int.toNat_natCast,M.vF];have:=MY f g l;omega
theorem ne0(z:Nat):(z.6 !=0)=(z !=0):=by rw[cR,bne_iff_ne,bne_iff_ne];omega
def Shapes(C:Addr)(H:Hp)(l:Addr)(n size:Nat)(zY:Z.3):Prop:=(l.575/\(λx ps=>d.12,zY).39).625
theorem Shapes.mono{C:Addr}{H H':Hp}{l:Addr}{n size:Nat}{zY:Z.3}(s:s.3)(h:(H,l,zY).25):(H',l,zY).25:=Y.13
theorem fZ.JU{C:Addr}{H:Hp}{x:Addr}{n size s v:Nat}{ps:d.3}(h:d.12)(hs:s<n)(hv:v<size):
 ∃(dx kr tr:Addr) (as:i.3) (r:Addr) (row:a.3),(x,(shF ps kr tr).91).5/\kr.575/\((v.3),s,.ref r).4/\(r,row).13/\((bE row),v,nV (M.cE ps s v)).4:=by
 obtain⟨dx,kr,tr,h1,⟨as,h2,h3⟩,h4⟩:=h;have hr:((zW n size ps),s,(a.11).map (M.cE ps s)).4:=by unfold zW;rw[aE,dG hs];rfl
 obtain⟨r,q1,q2⟩:=bO h3 hr;exact⟨dx,kr,tr,as,r,_,h1,h2,q1.537,q2,(aE,aE,dG hv).13⟩
theorem fZ.XG{C:Addr}{H:Hp}{x:Addr}{n size s:Nat}{ps:d.3}(h:d.12)(hs:s<n):
 ∃dx kr tr,(x,(shF ps kr tr).91).5/\(tr,mI n size ps).13/\((bE (mI n size ps)),s,nV s.558).4:=by obtain⟨dx,kr,tr,h1,h2,h4⟩:=h;exact⟨dx,kr,tr,h1,h4,by unfold mI;rw[aE,aE,dG hs];rfl⟩
theorem XH{α:Type}{R:(Addr,α).16}{p:α->Bool}: ∀{as:i.3} {l:w.3},((R,l).39,l,Paired R bs (l.filter p)).48
 |_,_,.nil=>([],.nil).50
 |a::as,g::gs,.cons r t=>by
  obtain⟨bs,e,q⟩:=XH (p:=p) t;by_cases h:(p g).7
  . exact⟨a::bs,by simp[h,e],by rw[dM,if_pos h];exact .cons r q⟩
  . exact⟨bs,by simp[h,e],(dM,V.4,q).18⟩
theorem TN(s:Nat)(l:a.3):inV (nV s) (bE l)=l.contains s:=by
 unfold inV;rw[oB,cR,eQ,List.contains_iff_mem];constructor
 . rintro⟨x,hx,e⟩;have:x.6=s.6:=by simpa [ZP] using e
   rw[(s=x).36];exact hx
 . intro h;exact⟨s,h,ZP.24⟩
theorem D0(l:a.3):((bE l).all o6).7:=(mG,uL _).3
section
variable{P:Program}{w:World}{K:PySem.W.Frag}{mg:k.3}{base:Heap}{A:Ad}
def aF6(C:Addr):Sp:=λvs H Q _=>∃(sl g:Addr) (zY:Z.3) (given:a.3) (n size:Nat),vs=[.ref sl,.ref g]/\(H,sl,zY).25/\(g,given).13/\zY.length.62/\given.length.62/\n<=8/\
 (zY.map λps=>given.526).585.739
theorem MZ:(["shapes","given","ends","shape","bits","sign","touched"],["shapes","given"],QN).5:=o.3
theorem BY(T:n.3):dC P w K mg base kJ 1 "ends_of" ["shapes","given"] (aF6 A.Shape):=by
 refine T.QT.ok MZ I.3 (λvs H Q E h=>by obtain⟨x,dx,a,_,_,_,rfl,_⟩:=h;rfl) q.3;obtain⟨sl,g,zY,given,n,size,rfl,⟨as,hA,hP⟩,hG,kY,hgl,pV,k⟩:=h;have nd:=MZ.nd;have hl:zY.length.66:=aO hP;refine⟨_,aK (c7 aJ).524
  (aK (fF bL rfl (cK (pv 0)) ((3).503)
   (aK (4,lA (pv 3) rfl).14
   (aK (fF bL rfl (CQ rfl T.nA (lA (pv 3) rfl).30) (5,6).109
    (aP (bZ (WT K) (pv 5) (pv 1) C.11,aEW (i:=4) nd rfl l.5 (wI aK4 (pv 6)) aHJ).33))
   (aP (pv 2,pv 4).63))))
  (pv 2).47),?_⟩
 refine R.11;have s0:(H,r).23.34:=k8.76;refine⟨_,rfl,sl,rfl,(s0 _ _ hA).59,eB (sl.534) (∃v3 v4 v5 v6,(v3,v4).147).560
  ⟨none,none,none,none,rfl,s0,aI⟩ (by obtain⟨_,_,_,_,_,s1,_⟩:=h;exact hA.521).552 ?_ ?_⟩
 . rintro i x σ H1 W9 hi ⟨v3,v4,v5,v6,rfl,s1,iI⟩ ⟨rfl,hx⟩;rw[aA] at hi;have hpi:(zY,zY).28:=b.4;generalize zY[i]=ps at hpi;obtain⟨sx,hsx,hSx⟩:=bO hP hpi;obtain rfl:x= .ref sx:=by rw[aE,hsx] at hx;exact hx.31
   obtain⟨dx,kr,tr,h1,h2,h4⟩:=id hSx;refine⟨_,rfl,sx,A.Shape,dx,_,_,rfl,h1.26,T.jT.cl,T.mE,zV _ _ _,?_⟩;refine⟨_,rfl,sx,A.Shape,dx,_,_,rfl,h1.26,T.jT.cl,T.mF,FR _ _ _,tr,_,rfl,h4.521,eB ((tr,bE (mI n size ps)).114)
    (λj σ H'=>∃v5 v6,(sx.8,(M.bitsOf j.750.626).32).147)
    ⟨v5,v6,?_,s1,iI⟩ (by obtain⟨_,_,_,s1,_⟩:=h;exact h4.521).552 ?_ ?_⟩
   . show [sl.74,g.74,r.74,sx.74,(2^ps.length-1).32,v5,v6]=_;rw[<-M.K3 ps];rfl
   . rintro j x σ H2 H2' hj ⟨v5,v6,rfl,s2,tG⟩ ⟨T',v,rfl,hT,rfl,hv⟩;have hjn:j<n:=by rw[aA] at hj;unfold mI at hj;rw[aA,aR] at hj;exact hj
     obtain rfl:v=nV j.558:=by unfold mI at hv;rw[aE,aE,dG hjn] at hv;exact hv.31
     have sT:aL H2 (upd H2 T' (.tup [.int (j:Nat),nV j.558])):=hT.528;refine⟨T',_,rfl,lN.of aI,rfl,_,_,rfl,_,_,rfl,rfl,?_⟩;refine⟨_,rfl,_,rfl,g,_,rfl,(sT _ _ hG.50).35,rfl,D0 _,_,rfl,?_⟩;show((!inV (nV j) (bE given))).40;rw[TN];have eb:((j+1).750.626)=((j.750)&&(given.contains j|| !M.lT size p j)).626:=by refine k9 λp _=>?_;rw[dP,List.all_append];simp
     cases hc:given.contains j with
     |true=> refine d5 ⟨j.32,j.558.32,?_,s2.trans sT,sT _ _ tG⟩;rw[eb,hc];simp only [Bool.true_or,Bool.and_true];rfl
     |false=> refine gO ⟨_,rfl,_,rfl,_,rfl,_,_,rfl,rfl,j.32,j.558.32,?_,s2.trans sT,sT _ _ tG⟩;rw[eb,hc];simp only [Bool.false_or];show [sl.74,g.74,r.74,sx.74,some (j.750.626.632,Builtin.bitNot (M.lT size p j).626.632).83,j.32,j.558.32]=_;rw[XF]
   . rintro σ H2 ⟨v5,v6,rfl,s2,tG⟩;refine⟨_,rfl,tG.502,_,rfl,r,_,_,rfl,rfl,tG,by rw[aA,aA,aX];exact jL (Nat.min_le_left _ _) (bD (i<1001).36 r.3),?_⟩;refine⟨_,_,_,_,rfl,?_,?_⟩
     . intro b o e;rw[bF (aY e k8)];exact e.50
     . rw[aI,jU hpi,bH,qA];congr 3;show [nV _]=[nV _];unfold M.cH M.det mI;rw[aA,aA,aR]
 . rintro σ H1 ⟨v3,v4,v5,v6,rfl,s1,iI⟩;rw[aA,hl,cJ] at iI;exact(k _ _ s1 k8 iI).28
def aDS(C:Addr):Sp:=λvs H Q _=>∃(yl nl:Addr) (yes no:Z.3) (n size sg:Nat),vs=[nV sg,nV size,.ref yl,.ref nl]/\(H,yl,yes).25/\(H,nl,no).25/\yes.length.62/\no.length.62/\n<=8/\sg<n/\size<=10/\
 sg.621.585.739
theorem A6:(["sign","size","yes","no","ends","choices","number","fits","shape","end"],["sign","size","yes","no"],C9).5:=o.3
theorem OR(T:n.3):dC P w K mg base kJ 2 "choices_of" ["sign","size","yes","no"] (aDS A.Shape):=by
 refine T.DE.ok A6 F.10 (λvs H Q E h=>by obtain⟨x,dx,a,_,_,_,_,rfl,_⟩:=h;rfl) q.3;obtain⟨yl,nl,yes,no,n,size,sg,rfl,hYl,hNl,hy1,U2,pV,wY,hz,k⟩:=h;obtain⟨ya,hY,hPy⟩:=id hYl;obtain⟨na,hN,hPn⟩:=id hNl;have hly:ya.length=yes.length:=aO hPy;have hln:na.length=no.length:=aO hPn;have nd:=A6.nd;refine⟨_,aK (4,(BY T,hr,(pv 3,c7 (pv 0).30).21).6).14
  (aK (5,c7 aJ).14
  (aK (fF bL rfl ((pv 1).519) (6,nd).100
   (aK (bK (i:=7) nd rfl (l.5) (a6 (aIe rfl) (by rfl) T.G3 boot_all (aD (fM (own:=[("shape",8)]) rfl nd (cK (pv 2)) (y.3) (8).565 cT.38
    ((fld K (pv 8),pv 0).46,pv 6).46.38) aJ)))
   (aP (dY (ZD (KD (pv 7) (λ_=>rfl)) (R4 (E3 (tM (a6 (SW rfl) (by rfl) T.WR boot_any (aD (fM (own:=[("shape",8),("end",9)]) rfl nd (KW (by rfl) T.QX (aD (pv 3) (aD (pv 4) aJ))) (bV rfl)
    (λ_ _ _ _ _=>Z9 K (n:=2) rfl (dH (a7 (i:=8) nd rfl (Or.inl rfl)) (dH (a7 (i:=9) nd rfl (Or.inl rfl)) kX))) (λ_ _ _ _ _=>cT)
    (λ_ _ _ _ _=>d6 tN (dI (DL K) (dI (DL K) (fld K (pv 8)) (pv 0) (λ_ _=>rfl)) (pv 6) (λ_ _=>rfl)) (pv 9))) aJ)))))).pt
    (aP (pv 5,pv 6).63) cN))))
  (pv 5).47)),?_⟩
 refine⟨_,rfl,_,rfl,(1).514,λg hg=>?_⟩;have sg0:(H,g,[nV sg]).3.34:=hg.76;refine⟨nl,g,no,[sg],n,size,rfl,hNl.mono sg0,aI,U2,c.3,pV,λH1 en s1 hen hE=>?_⟩;have s01:=sg0.trans s1;refine R.11;have s2:(H1,r).23.82:=k8.509;have M0:=s01.trans s2;have hrH:r.21:=s01.free k8;refine(size,?_).74;refine eB dS (∃v6 v7,σ=[sg.32,size.32,yl.8,nl.8,en.8,r.8,v6,v7,none,none]/\s.3/\(H' en,([sg]).526.507).10/\v.4.790.585).560
  ⟨none,none,rfl,M0,hE.50,aI⟩ trivial.38 ?_ ?_
 . rintro i x σ H3 H3' hi ⟨v6,v7,rfl,s3,hE3,wZ⟩ ⟨rfl,rfl⟩;rw[Int.toNat_natCast] at hi;have ner:en≠r:=aY hE k8;refine⟨_,rfl,yl,rfl,hY.54.59,λD hD=>eK (yl,ya.map V.ref).26 yes (λps=>nV i.559) hly.500 hD hy1.29 hY.54.681 ?_ ?_⟩
   . rintro j x H5 H6 ps C j8 s5 ⟨rfl,hx⟩ hC;obtain⟨cx,hcx,hSx⟩:=bO hPy j8;obtain rfl:x= .ref cx:=by rw[aE,hcx] at hx;exact hx.31
     obtain⟨dx,kr,tr,as,rr,row,q1,q2,q3,q4,q5⟩:=(s3.718).JU wY hi;refine⟨rfl,_,rfl,cx,A.Shape,dx,_,_,rfl,q1,T.jT.cl,T.lV,DT _ _ _,_,rfl,kr,_,_,_,rfl,rfl,bP.of q2,cC q3,_,rfl,rr,_,_,_,rfl,rfl,bP.of q4,?_,rfl.529⟩;rw[dQ];exact cC q5
   . intro H4 s4 G9;refine⟨D,i.559.33.532,rfl,G9.612,?_⟩;have ea:(i.559.33.532).all (λn=>n !=0)=yes.all i.559.582:=by rw[kD];congr 1;funext ps;exact ne0 _
     rw[ea];refine(_,_,?_).29;have s34:=s3.trans s4;have aAE:((List.range (i+1)).790)=(v.4.790)++((((yes.all i.559.582)&& !(no.any C.12.582)),[i],[]).8):=by rw[dP,zC,dM,HQ]
     cases hc:yes.all i.559.582 with
     |false=> rw[hc,dF,if_neg r.3,List.append_nil] at aAE;refine d5 (d5 ⟨i.32,some (.bl false),?_,s34,hE3.64,(aAE,wZ.64).3⟩);show [sg.32,size.32,yl.74,nl.74,en.74,r.74,some i.522,_,none,none]=_;rw[dQ]
     |true=>
      rw[hc,eP] at aAE;refine gO ?_;have hez:(na.map V.ref,([sg]).526.507.94).6:=by rw[aA,aA,aA,hln]
      refine⟨_,rfl,_,rfl,nl,en,_,_,rfl,bP.of (s34 _ _ hN),bP.of hE3.64,λD2 nP=>eK (nl,en,hez).36 no (λps=>nV C.12) hln.500 nP U2.29 (λH' s5=>⟨bP.of (s34 _ _ hN).60,bP.of hE3.64.60⟩) ?_ ?_⟩
      . rintro j x H5 H6 ps C j8 s5 ⟨T',u,v,rfl,hT,rfl,hu,hv⟩ hC;obtain⟨cx,hcx,hSx⟩:=bO hPn j8;obtain rfl:u= .ref cx:=by rw[aE,hcx] at hu;exact hu.31
        obtain rfl:v=nV ([sg]).526:=by rw[aE,aE,j8] at hv;exact hv.31
        have sT:aL H5 (upd H5 T' (.tup [.ref cx,nV ([sg]).526])):=(H5,hT).20;obtain⟨dx,kr,tr,as,rr,row,q1,q2,q3,q4,q5⟩:=((s34.718).mono sT).JU wY hi;refine⟨T',_,rfl,lN.of aI,rfl,_,_,rfl,_,_,rfl,rfl,rfl,_,rfl,cx,A.Shape,dx,_,_,rfl,q1,T.jT.cl,T.lV,DT _ _ _,_,rfl,kr,_,_,_,rfl,rfl,bP.of q2,cC q3,_,rfl,rr,_,_,nV i.559,rfl,rfl,bP.of q4,?_,_,rfl,_,_,rfl,rfl,hC _ _ sT ?_⟩
        . rw[dQ];exact cC q5
        . show(i.559.33,([sg]).526.33).83=_;rw[qC]
      . intro H5 s5 zX;refine⟨D2,C.12.22.507,rfl,zX.612,_,rfl,?_⟩;have eb:(C.12.22.507).any (λn=>n !=0)=no.any C.12.582:=by rw[oB];congr 1;funext ps;exact ne0 _
        rw[eb];have s35:=s34.trans s5
        cases hd:no.any C.12.582 with
        |true=> rw[hd,if_neg r.3,List.append_nil] at aAE;refine d5 ⟨i.32,some (.bl true),?_,s35,hE3.64.60,(aAE,wZ.64.60).3⟩;show [sg.32,size.32,yl.74,nl.74,en.74,r.74,some i.522,_,none,none]=_;rw[dQ]
        |false=>
         rw[hd,if_pos r.3] at aAE;have hr5:=wZ.64.60;refine gO ⟨_,rfl,hr5.502,_,rfl,r,_,_,rfl,rfl,hr5,?_,i.32,some (.bl true),?_,?_,?_,?_⟩
         . rw[aA];refine jL (c6 _ _) ?_;rw[aR];exact bD (i<11).36 r.3
         . show [sg.32,size.32,yl.74,nl.74,en.74,r.74,some i.522,_,none,none]=_;rw[dQ]
         . exact(H5.567).same s35 hrH
         . rw[bF ner];exact hE3.64.60
         . rw[aI,aAE,qA];show some (HO.lst (_++[i.522]))=_;rw[dQ];rfl
 . rintro σ H3 ⟨v6,v7,rfl,s3,hE3,wZ⟩;rw[Int.toNat_natCast] at wZ;exact(k _ _ s3 hrH wZ).28
end
end G
namespace G
open PySem PySem.Spec PyProof.Rows L2
def aUu(K:PySem.W.Frag)(ta:TE):TT:=λσ H Q=>ta σ H λx H'=>∃k,aK6 K x H' k/\Q k H'
theorem ptT{X:Cx}{a:Expr}{ta:TE}(K:PySem.W.Frag)(ha:a.98)(he: A.16)(hK:X.K=K:=by rfl):PT X a (aUu K ta):=hK▸KD ha he
def FV(H:Hp)(m:Addr)(v:Nat)(yk nk:a.3):Prop:=∃ya na,(m,.tup [nV v,.ref ya,.ref na]).5/\(ya,yk).13/\(na,nk).13
theorem FV.mono{H H':Hp}{m:Addr}{v:Nat}{yk nk:a.3}(s:s.3)(h:FV H m v yk nk):FV H' m v yk nk:=by obtain⟨ya,na,h1,h2,h3⟩:=h;exact⟨ya,na,h1.42,h2.42,h3.42⟩
def keeps(zY:Z.3)(sg v:Nat):a.3:=zY.map λps=>v.559
def jC(H:Hp)(l:Addr)(sg:Nat)(cs:a.3)(yes no:Z.3):Prop:=(l.575/\(λm v=>FV H m v (keeps yes sg v) (keeps no sg v),cs).39).625
theorem jC.mono{H H':Hp}{l:Addr}{sg:Nat}{cs:a.3}{yes no:Z.3}(s:s.3)(h:(H,l).101):(H',l).101:=Y.13
section
variable{P:Program}{w:World}{K:PySem.W.Frag}{mg:k.3}{base:Heap}{A:Ad}
def nw(H H':Hp):Hp:=λb=>if(H b).563 then none else H' b
theorem M1{H H':Hp}{b:Addr}(h:b.21):nw H H' b=H' b:=by unfold nw;rw[h];rfl
theorem aF8{H H':Hp}{b:Addr}{o:HO}(h:(nw H H' b).23):b.21/\(H' b).23:=by
 unfold nw at h;split at h
 . cases h
 . rename_i n;exact⟨by simpa using n,h⟩
theorem aCo{H H1 H2:Hp}(s:H2.82):aL (nw H H1) (nw H H2):=λb o e=>by obtain⟨h1,h2⟩:=aF8 e;rw[M1 h1];exact h2.42
theorem aIF{H H1:Hp}{D:Addr}(h:H D≠none):aL (nw H H1) (hide D H1):=λb o e=>by obtain⟨h1,h2⟩:=aF8 e;rw[hide_ne (λz=>h (z,h1).15)];exact h2
def aIG(C:Addr):Sp:=λvs H Q _=>∃(ch yl nl:Addr) (cs:a.3) (yes no:Z.3) (n size sg:Nat),vs=[nV sg,.ref ch,.ref yl,.ref nl]/\(ch,cs).13/\(∀v∈cs,v<size)/\cs.length<=10/\(H,yl,yes).25/\(H,nl,no).25/\yes.length.62/\no.length.62/\sg<n/\
 (nw H H',r).101.706
theorem HC:(["sign","choices","yes","no","moves","number","yes_keep","shape"],["sign","choices","yes","no"],LR).5:=o.3
theorem XI(T:n.3):dC P w K mg base kJ 1 "moves_of" ["sign","choices","yes","no"] (aIG A.Shape):=by
 refine T.L1.ok HC F.10 v.16 q.3;obtain⟨ch,yl,nl,cs,yes,no,n,size,sg,rfl,hCh,JH,aZ3,⟨ya,hY,hPy⟩,⟨na,hN,hPn⟩,hy1,U2,wY,k⟩:=h;have hly:ya.length=yes.length:=aO hPy;have hln:na.length=no.length:=aO hPn;have nd:=HC.nd;refine⟨_,aK (4,c7 aJ).14
  (aK (fF bL rfl (cK (pv 1)) (5,nd).100
   (aK (lB (i:=6) (own:=[("shape",7)]) rfl nd rfl rfl (Y.5) (cK (pv 2)) (y.3) (7).565 cT.38
    ((fld K (pv 7),pv 0).46,pv 5).46.38)
   (aP (dB (lW bA PySem.F.slot_list_append b9 gT (pv 4) (aD (qI (aD (pv 5) (aD (pv 6) (aD
    (fM (own:=[("shape",7)]) rfl nd (cK (pv 3)) (y.3) (7).565 cT.38
    ((fld K (pv 7),pv 0).46,pv 5).46.38) aJ)))) aJ))))))
  (pv 4).47),?_⟩
 refine R.11;have s0:(H,r).23.34:=k8.76;refine⟨_,rfl,ch,rfl,(s0 _ _ hCh).59,eB ((ch,bE cs).26) (λi σ H'=>∃v5 v6,σ=[sg.32,ch.8,yl.8,nl.8,r.8,v5,v6,none]/\s.3/\
  ((H' r,v.3).12/\(λm v=>FV (nw H (hide r H')) m v (keeps yes sg v) (keeps no sg v),cs.take i).39).625)
  ⟨none,none,rfl,s0,[],aI,.nil⟩ (by obtain⟨_,_,_,s1,_⟩:=h;exact hCh.521).552 ?_ ?_⟩
 . rintro i x σ H1 W9 hi ⟨v5,v6,rfl,s1,as,iI,hPm⟩ ⟨rfl,hx⟩;rw[aA] at hi;have hci:(cs,cs).28:=aF hi;generalize cs[i]=v at hci;obtain rfl:x=nV v:=by rw[aE,hci] at hx;exact hx.31
   have hv:=JH v (List.mem_of_getElem? hci);have pW:i.66:=(aO hPm,aX).65
   refine⟨_,rfl,yl,rfl,hY.26.59,λD hD=>eK (yl,ya.map V.ref).26 yes (λps=>nV v.559) hly.500 hD hy1.29 hY.26.681 ?_ ?_⟩
   . rintro j x H5 H6 ps C j8 s5 ⟨rfl,hx⟩ hC;obtain⟨cx,hcx,hSx⟩:=bO hPy j8;obtain rfl:x= .ref cx:=by rw[aE,hcx] at hx;exact hx.31
     obtain⟨dx,kr,tr,as,rr,row,q1,q2,q3,q4,q5⟩:=(s1.718).JU wY hv;exact⟨rfl,_,rfl,cx,A.Shape,dx,_,_,rfl,q1,T.jT.cl,T.lV,DT _ _ _,_,rfl,kr,_,_,_,rfl,rfl,bP.of q2,cC q3,_,rfl,rr,_,_,_,rfl,rfl,bP.of q4,cC q5,rfl.529⟩
   . intro H2 s2 nP;have hrD:r≠D:=aY iI hD;have CD:=f.4;refine⟨_,rfl,iI.50.502,_,rfl,_,rfl,_,rfl,nl,rfl,(CD _ _ hN).59,λD2 aAF=>eK (nl,na.map V.ref).26 no (λps=>nV v.559) hln.500 aAF U2.29 (CD _ _ hN).681 ?_ ?_⟩
     . rintro j x H5 H6 ps C j8 s5 ⟨rfl,hx⟩ hC;obtain⟨cx,hcx,hSx⟩:=bO hPn j8;obtain rfl:x= .ref cx:=by rw[aE,hcx] at hx;exact hx.31
       obtain⟨dx,kr,tr,as,rr,row,q1,q2,q3,q4,q5⟩:=(CD.718).JU wY hv;exact⟨rfl,_,rfl,cx,A.Shape,dx,_,_,rfl,q1,T.jT.cl,T.lV,DT _ _ _,_,rfl,kr,_,_,_,rfl,rfl,bP.of q2,cC q3,_,rfl,rr,_,_,_,rfl,rfl,bP.of q4,cC q5,rfl.529⟩
     . intro H3 s3 A4;have aUw:r≠D2:=aY iI.50 aAF;refine⟨(3).514,λt ht=>?_⟩;have st:aL H3 (upd H3 t (.tup [nV v,.ref D,.ref D2])):=(H3,ht).20;have EZ:aL W9 H3:=s2.trans s3;have hrt:r≠t:=aY (EZ _ _ iI) ht;have UZ:=EZ.trans st;refine⟨r,_,_,rfl,rfl,UZ _ _ iI,(pW,bD (i<11).36 r.3).78,v.32,D.8,rfl,?_,as++[t],(aI,bH).18,?_⟩
       . exact(f.5).same (s1.trans UZ) k8
       . rw[jU hci,qZ];refine iE (hPm,aCo (uK UZ)).40 (⟨D,D2,?_,?_,?_⟩).555
         . rw[M1 ((s1.trans EZ).free ht),hide_ne hrt.symm,aI]
         . rw[M1 (s1.free hD),hide_ne hrD.symm];refine st _ _ (?_).54;rw[nP];unfold keeps;rw[JQ]
         . rw[M1 (CD.free aAF),hide_ne aUw.symm];refine st _ _ ?_;rw[A4];unfold keeps;rw[JQ]
 . rintro σ H1 ⟨v5,v6,rfl,s1,as,iI,hPm⟩;rw[aA,cJ] at hPm;exact(k _ _ s1 k8 ⟨as,(M1 k8,iI).3,(hPm,aCo (jF _ _)).40⟩).28
def TQ(C:Addr):Sp:=λvs H Q _=>∃(x o:Addr) (ps:d.3) (order:a.3) (n size:Nat),vs=[.ref x,.ref o]/\d.12/\(o,order).13/\(∀s∈order,s<n)/\order.length.62/\(order.any λs=>s.558 !=0).666
theorem yK:(["shape","order","sign"],["shape","order"],AJ).5:=o.3
theorem M3(T:n.3):dC P w K mg base kJ 1 "touches_any" ["shape","order"] (TQ A.Shape):=by
 refine T.AX.ok yK I.3 (λvs H Q E h=>by obtain⟨x,dx,a,_,_,_,rfl,_⟩:=h;rfl) q.3;obtain⟨x,o,ps,order,n,size,rfl,hS,hO,ho,hol,k⟩:=h;have nd:=yK.nd;refine⟨_,aP (bU (a6 (SW rfl) (by rfl) T.WR boot_any (aD (fM (own:=[("sign",2)]) rfl nd (cK (pv 1)) (y.3) (2).565 cT.38
  (pv 2).600.38) aJ))),?_⟩
 refine⟨_,rfl,o,rfl,hO.59,λD hD=>eK (o,bE order).26 order (λs=>nV s.558) aA.85 hD hol.29 hO.681 ?_ ?_⟩
 . rintro j y H5 H6 sg C wY s5 ⟨rfl,hx⟩ hC;obtain rfl:y=nV sg:=by rw[aE,wY] at hx;exact hx.31
   obtain⟨dx,kr,tr,q1,q2,q3⟩:=(hS.mono s5).XG (ho sg (List.mem_of_getElem? wY));exact⟨rfl,_,rfl,x,A.Shape,dx,_,_,rfl,q1,T.jT.cl,T.mF,FR _ _ _,_,rfl,tr,_,_,_,rfl,rfl,bP.of q2,cC q3,rfl.529⟩
 . intro H4 s4 G9;refine⟨D,order.map λs=>s.558.33,rfl,G9.612,?_⟩;have ea:(order.map λs=>s.558.33).any (λn=>n !=0)=order.any λs=>s.558 !=0:=by rw[oB];congr 1;funext s;exact ne0 _
   rw[ea];exact k _ s4
def aAG(C:Addr):Sp:=λvs H Q _=>∃(sg:Nat) (ch sh o:Addr) (css:d.3) (zY:Z.3) (order:a.3) (n size:Nat),vs=[nV sg,.ref ch,.ref sh,.ref o]/\LL H ch css/\(H,sh,zY).25/\(o,order).13/\sg<css.length/\sg<n/\(∀s∈order,s<n)/\order.length.62/\zY.length.62/\
 ∀H' r i j,s.3->r.21->H' r=some (.tup [.int i,.int j])->r.84
theorem D8:(["sign","choices","shapes","order","touching","linked","shape"],k.15,GQ).5:=o.3
theorem TR(T:n.3):dC P w K mg base kJ 2 "order_key" k.15 (aAG A.Shape):=by
 refine T.GZ.ok D8 F.10 v.16 q.3;obtain⟨sg,ch,sh,o,css,zY,order,n,size,rfl,hCh,⟨as,hSh,hP⟩,hO,hsc,wY,ho,hol,kY,k⟩:=h;have nd:=D8.nd;have hl:zY.length.66:=aO hP;refine⟨_,aK (lB (i:=4) (own:=[("shape",6)]) rfl nd rfl rfl (Y.5) (cK (pv 2)) (y.3) (6).565 (sD (ptT K (fld K (pv 6),pv 0).46 (λ_=>rfl))).38
  (pv 6).38)
  (aK (lB (i:=5) (own:=[("shape",6)]) rfl nd rfl rfl (Y.5) (cK (pv 4)) (y.3) (6).565 (sD (tM (M3 T,hr,(pv 6,pv 3).21).6)).38
   (pv 6).38)
  (aP (bU (qI (aD (d6 E5 (sA,pv 1,pv 0).23.566 (d6 aK2 bC (pv 5).566))
   ((wI qH (pv 4).566).30)))))),?_⟩
 refine⟨_,rfl,sh,rfl,hSh.59,λD hD=>yB sh.534 (oF (as.zip zY) λp=>if M.eX size p.2 sg !=0 then(p.1).8 else none) hD (hl,kY.29).78 hSh.584 z.11 ?_ ?_⟩
 . rintro i x H2 H3 C C0 hi s2 ⟨rfl,hx⟩ hC hC0;rw[aA] at hi;have hg:(zY,zY).28:=b.4;generalize zY[i]=ps at hg;obtain⟨bg,hbg,hS⟩:=bO hP hg;obtain rfl:x= .ref bg:=by rw[aE,hbg] at hx;exact hx.31
   have hz:((as.zip zY),(bg,ps)).4:=(jW,⟨hbg,hg⟩).3
   obtain⟨dx,kr,tr,q1,q2,q3⟩:=(hS.mono s2).XG wY;refine⟨rfl,_,rfl,bg,A.Shape,dx,_,_,rfl,q1,T.jT.cl,T.mF,FR _ _ _,_,rfl,tr,_,_,_,rfl,rfl,bP.of q2,cC q3,_,rfl,?_⟩;rw[ne0];refine p7 N.3 N.3
   . exact(pU hz,p.5).18.529.28
   . exact(F.3,hz,O.5).32
 . intro H1 s1 yG;have hzl:(v.3,(as.zip zY).length).6:=by rw[aA,HS,hl,Nat.min_self]
   rw[hzl,vM] at yG;obtain⟨bs,eb,hPb⟩:=XH (p:=sg.558.582) hP;rw[eb] at yG;generalize hp1:(zY.filter sg.558.582)=aAH at hPb;have EY:aAH.length.62:=(hp1,aG (c6 _ _) kY).15
   have hlb:bs.length=aAH.length:=aO hPb;refine(D,yG,λD2 nP=>yB (D,y.10).26 (oF (bs.zip aAH) λp=>if order.any (λs=>M.eX size p.2 s !=0) then(p.1).8 else none) nP (hlb,EY.29).78 yG.584 z.11 ?_ ?_).30
   . rintro i x H2 H3 C C0 hi s2 ⟨rfl,hx⟩ hC hC0;rw[aA] at hi;have hg:(aAH,aAH).28:=b.4;generalize aAH[i]=ps at hg;obtain⟨bg,hbg,hS⟩:=bO hPb hg;obtain rfl:x= .ref bg:=by rw[aE,hbg] at hx;exact hx.31
     have hz:((bs.zip aAH),(bg,ps)).4:=(jW,⟨hbg,hg⟩).3
     refine⟨rfl,_,rfl,_,rfl,bg,o,ps,order,n,size,rfl,(hS.mono s1).mono s2,hO.26.50,ho,hol,λH4 s4=>(?_).28⟩;refine p7 N.3 N.3
     . exact(hC _ _ s4 (pU hz,p.5).18).28
     . exact(s4,hz,O.5).32
   . intro H2 s2 hDd;obtain⟨ca,hCa,hPc⟩:=(hCh.mono s1).mono s2;have JH:(css,sg,css[sg]).4:=aF hsc;obtain⟨cr,hcr,aL7⟩:=bO hPc JH;refine⟨_,rfl,_,rfl,ch,_,_,_,rfl,rfl,bP.of hCa,cC hcr.537,cr,_,rfl,aL7.35,_,rfl,D2,_,rfl,hDd.35,_,_,rfl,rfl,(r.3,r.3).51,_,_,rfl,rfl,_,rfl,D,_,rfl,yG.50.35,_,rfl,(2).514,λt ht=>?_⟩;exact k _ t _ _ ((f.4).new ht) ((f.4).free ht) aI
end
end G
namespace G.T
open PySem PySem.Spec PyProof.Rows L2
section
variable{prog:Program}{w:World}{A:Around}{E:l.3}{s:Shared}{S:Addr}{o:Obj}{es:e.4}{ep:Nat}{t:SetTable}
set_option maxHeartbeats 2000000 in
theorem XJ{Q:h.3.49}(hh:s.5)(x:w.11)(ho:S.70)
 (hQ: ∀h' tk,(H.13)->s.heap.objs.size<h'.objs.size->Q ((tE w S ep es).toList.map (·.2)) {s with heap:=h',toks:=tk}):
 (collect (.ref S)).65:=by
 have hS:S.506:=aZ ho;unfold collect;refine aB (wpAny_runValue (jA F.entry_proto_collect ?_));rw[gQ F.plain_proto_collect _];show wpAny _ A.in1 (newList []>>=λl=>again (.builtin "list.__iadd__" ([l,.ref S]).93)) _ _ s;refine aB (eG ?_);refine aH ⟨n9 F.plain_list_iadd _,jA F.entry_list_iadd ?_⟩;rw[gQ F.plain_list_iadd _];generalize hL:s.heap.objs.size=L;have SX:((s.heap.push i.12).get? S).23:=aN _ ho;have hT:(i.12.761:Shared).TypeIs (.ref S) "set":=⟨o,SX,x.ex.1⟩;show wpAny _ A.in1 (Builtin.List.listExtendWith (.ref L) (.ref S) (.ref L)) _ _ _;unfold Builtin.List.listExtendWith;refine aB (wpAny_typeOf hT ?_);have h1:(Builtin.List.listSameRef (.ref L) (.ref S)).25:=by
  have:L≠S:=(hL,oE hS).15
  simp[Builtin.List.listSameRef,this]
 have h2:((Value.type "set"==u.12)).25:=r.3
 have h3:((Value.type "set"==Value.type "tuple")).25:=r.3
 simp only [h1,h2,h3,Bool.or_false,Bool.false_eq_true,if_false];refine aB (aAk x SX ?_);have hIs:(s.heap.push i.12).objs.size=L+1:=(dJ,hL).7
 have ho2:((J.12).get? S).23:=aN _ SX;have CB:({s with heap:=J.12}:Shared).TypeIs (.ref S) "set":=⟨o,ho2,x.ex.1⟩;refine aB (c9 ?_);unfold Builtin.List.listLengthHint;refine aB (rV CB F.slot_set_len.lookup ?_);(generalize hid:("set.__len__":String)=id0;(fail_if_success (clear hid id0));wp_delta;rw[show splitId id0=some ("set","__len__") from by subst hid;decide +kernel];subst hid);refine aB (pO (b:=true) CB d.15 ?_);refine aB (wpAny_typeOf CB ?_);refine m.3;show wpAny _ A.in1 (rule "list.extend.makes-room" >>= λ_=>Builtin.List.listTouch (.ref L) >>= λ_=>
  again (.builtin "list.extend.loop" ⟨[.ref L,.ref _,.ref L],[]⟩)) _ _ _
 refine aB (O4 ?_);rw[hIs];have hg1:(J.12,L,i.12).20:=
  aN _ (hL,G.3).15
 have hg2:(J.12,L+1,(0,0).102).20:=(hIs,G.3).15
 have M4: ∀b u,(s.heap.get? b).67->((J.12).get? b).67:=
  λb u e=>aN _ (aN _ e)
 generalize (J.12)=OE at hg1 hg2 M4 ho2⊢;refine aB ?_;show wpAny _ A.in1 (updateSeq L (·.push .none) >>= λ_=>updateSeq L (·.pop)) _ _ _;refine aB (rW (s:={s with heap:=OE}) hg1 rfl ?_);have aKl:=oA (Obj.mapSeq (·.push Value.none)) hg1 rfl;refine rW (s:={s with heap:=OE.update L (Obj.mapSeq (·.push Value.none))}) aKl rfl ?_;have aPH:=oA (Obj.mapSeq (·.pop)) aKl rfl;have oth: ∀b u,b≠L->(OE.get? b).67->(((OE.update L (Obj.mapSeq (·.push Value.none))).update L (Obj.mapSeq (·.pop))).get? b).67:=
  λb u hb e=>(u1 _ _ (Ne.symm hb)).trans ((u1 _ _ (Ne.symm hb)).trans e)
 have hSL:S≠L:=(hL,bS hS).15
 have hSI:S≠L+1:=(hL,bS (iN hS)).15
 have W:=(aDB (prog:=prog) (A:=A.in1) (w:=w) (S:=S) (o:=o) (es:=es) (ep:=ep) (t:=t) hh.24 x (L+1) hSI).toS;have hn:es.size.37:=by have:=x.ok.zN;rw[Array.length_toList] at this;rw[bJ];omega
 refine aH ⟨n9 F.plain_extend_loop _,codeAny_extend_loopS W hn L ((Ne.symm hSL).24) _ es.size 0 _ _ _ rfl (aW _)
  ⟨oth _ _ b.3 hg2,oth _ _ hSL ho2⟩ aPH (ItemsOf.nil _) λs' aII c' hm hS' TU=>?_⟩
 obtain⟨h',g',d',tk',os'⟩:=s';have eg:g'=s.gens:=hm.gens;have ed:d'=s.drawn:=hm.drawn;have eo:os'=s.os:=hm.os;subst eg;subst ed;subst eo;show wpAny _ A (load L>>=_) _ _ _;refine aB (wpAny_load hS' ?_);have aPI:aII.toList=(v.10).toList.map (·.2):=by
  refine BE λi=>?_;rw[aE,bM,bM];by_cases hi:i<es.size
  . obtain⟨a1,a2⟩:=TU;have hb:(aII,aII).28:=K.10;obtain⟨e,he,hv⟩:=a2 i _ hb;rw[hb,he,hv];rfl
  . rw[Array.getElem?_eq_none (TU.1).56,Array.getElem?_eq_none BW.56];rfl
 refine m.3;show Q aII.toList _;rw[aPI];refine hQ h' tk' (λb u e=>?_) ?_
 . have hb:b<L:=(hL,aZ e).15
   have YZ:b≠L:=bS hb;have S1:b≠L+1:=bS (iN hb);exact hm.heap b u (by simp[YZ,S1]) (oth b u YZ (M4 b u e))
 . rw[hL];exact aZ hS'
theorem XM{ds:f.3}{Q:l.3}(hh:s.5)(hI:rY prog w S ds s.heap)
 (h: ∀(h':Heap) (tk:Nat) (a e:Nat) (out:R.3) (ns:f.3),(H.13)->s.heap.objs.size<=a->h'.get? a=some (out,e).75->
  IntsAre out.toList ns->ns.Perm ds->ns.Pairwise (·<=·)->Q p.3 {s with heap:=h',toks:=tk}):
 ("sorted",S.43).92.65:=by
 obtain⟨o,es,ep,t,ho,hex,hd,cZ,kY,aFP,hel,g9,z8⟩:=hI;have x:w.11:=⟨hex,hd,cZ,kY,aFP⟩;refine Calls.call_function_entry kind_sorted plain_sorted entry_sorted (args_sorted1 _) ?_;unfold Builtin.«sorted»;refine aB (m:=checkCount "sorted" 1 1 _) m.3;refine aB (XJ hh.24 x ho λh1 Y2 N6 aUy=>?_);have hp:=MN w S ep es;have hints: ∀l:i.11,(∀e∈l,e∈es.toList)->IntsAre (l.map (·.2)) (l.map OK):=by
  intro l
  induction l with
  |nil=>intro _;exact .nil
  |cons e l ih=>
   intro hl;obtain⟨⟨k',rX,_⟩,_⟩:=hel e (hl e u.4);obtain⟨tt,e'⟩:=aAg rX;have:OK e=k':=by unfold OK;rw[e']
   rw[List.map_cons,List.map_cons,this,e'];exact .cons _ _ (ih λq hq=>hl q hq.545)
 have hI:=hints _ λe he=>hp.mem_iff.mp he;generalize hvs:(v.10).toList.map (·.2)=vs at hI;have hlen:vs.length.37:=by have:=x.ok.zN;rw[<-hvs,aA,hp.length_eq,bJ];omega
 refine aB (aCV (hsz:=hlen) ?_);have hoL:(h1.push (0).633,h1.objs.size,(0).633).20:=G.3;refine aB (c9 (eW slot_list_sort hoL.63 entry_list_sort (list_sort_treeAny (s:={s with heap:=h1.push (0).633,toks:=Y2}) hoL hI hlen λout ns' a1 a2 a3=>(?_).28) (args_list_sort _)));obtain⟨e,he⟩:=sortedHeap_at (out:=out) hoL;refine aH (h _ Y2 h1.objs.size e out ns' (λb u q=>?_) (kH aUy) he a1 (a2.trans ((hp.map OK).trans g9)) a3).28;have q1:=N6 b u q;have hb:=aZ q1;rw[sortedHeap_old (bS hb) (size_push',iN hb).3,Heap.get?_push_ne _ _ _ (bS hb)];exact q1
end
section
variable{X:Cx}
def aPJ(K:PySem.W.Frag)(P:Program)(w:World):h.5:=λvs H Q=>∃(a:Addr) (ns:f.3),vs=[r.4]/\K.4.75/\(Z.15)/\
 ∀(ds:f.3) (p:Addr),ds.Nodup->(∀k,k∈ds↔k∈ns)->p.21->(p,upd H p (.ext (rY P w p ds))).42
theorem aCp(K:PySem.W.Frag)(P:Program)(w:World)(hc:P.3)(hK:X.K=K:=by rfl)(hP:X.prog=P:=by rfl)(hw:X.w=w:=by rfl):j6 X (.type "set") (aPJ K P w):=by
 subst hK;subst hP;subst hw;intro pins s σ H vs us Q I r h;obtain⟨a,ns,rfl,hs,hb,q⟩:=h;obtain⟨bY,rv,hl,_⟩:=K.5;rw[y.5];refine OL S.4 hl.isList (by simpa using rv.ints) hb λh' tk hI hk=>?_;exact⟨.ref _,(.ext (rY X.prog X.w s.heap.objs.size (BU ns))).609,I.laid (t':=tk) (λb u e=>hk b u (aZ e) e) (aS _)
  ⟨hI,(by obtain⟨o,_,_,_,e,_⟩:=hI;exact⟨o,e⟩),λh1 h2 x k=>x.keep k⟩,rfl,q _ _ (MK _) (W0 _) T.4⟩
def aDU(P:Program)(w:World):h.5:=λvs H Q=>∃(a:Addr) (ds:f.3),vs=[r.4]/\(.ext (rY P w a ds)).72/\
 ∀(ns:f.3) (p:Addr),ns.Perm ds->ns.Pairwise (·<=·)->p.21->(p,(H,p,K.4).3).42
theorem HD(P:Program)(w:World)(hc:P.3)(hP:X.prog=P:=by rfl)(hw:X.w=w:=by rfl):("sorted",aDU P w).54:=by
 subst hP;subst hw;intro pins s σ H vs us Q I r h;obtain⟨a,ds,rfl,hs,q⟩:=h;rw[y.5];have hI:=(I.cZ a _ hs).1;refine XM S.4 hI λh' tk p e out ns hk hp he h1 h2 h3=>?_;have hlen:((K.4).length).37:=by obtain⟨_,es,_,t,_,_,_,cZ,_,_,_,g9,_⟩:=hI;have:=cZ.zN;rw[aA,h2.length_eq,<-g9.length_eq,aA,bJ];omega
 exact⟨.ref _,(H,p,K.4).3,I.laid (t':=tk) hk hp ⟨hlen,out.toList,e,CN h1,he⟩,rfl,q ns _ h2 h3 (I.cZ.fresh hp)⟩
end
end G.T
namespace G.T
open PySem PySem.Spec PyProof.Rows L2
section
variable{prog:Program}{w:World}{d:Addr}{o:Obj}{es:A.11}{ep:Nat}
theorem aAI{A:Around}(hh:s.5)(hdt:o.data= .dict es ep)(I:Addr)(iK:d≠I):
 Walks prog w A I [I,d] [I] es.size (λi v=>∃en,(es,en).4/\v=en.key) (λi h=>h.IsKeyIter I d i es.size ep/\d.52) where
 sub:=λb hb=>by simp at hb;simp[hb]
 frame:=λ_ _ _ st hk=>⟨st.1.at λo e=>hk I c.3 o e,hk d c.3 _ st.2⟩
 item:=λi s Q E hi st hQ=>by have he:(es,es).28:=Array.getElem?_eq_getElem hi;refine OD st.1 st.2 hdt rfl he λh' hit hs=>?_;exact d.821
 done:=λs Q E st hQ=>SM hh st.1 st.2 hdt rfl (aS _) λh' hs=>hQ h' s.toks λb o hb e=>hs b o (λh=>hb h.24) e
 self:=λi s Q E st h=>by have st:=st.1;refine HV st.typeIs F.slot_dict_keyiterator_iter (eW F.slot_dict_keyiterator_iter st.typeIs F.entry_dict_keyiterator_iter ?_ (F.args_dict_keyiterator_iter_1 _));show wpAny _ _ (ret (.ref I)) _ _ s;exact aH ⟨_,rfl,"dict_keyiterator",_,st.typeIs,gI.lookup,h⟩
theorem aF9(lo:d.620)(hx:o.ExactDict)(hdt:o.data= .dict es ep):PySem.W.KdlSrc prog w "dict" d d es.size (λi v=>∃en,(es,en).4/\v=en.key) (λh=>d.52) where
 type:=λs ho=>⟨o,ho,hx.1⟩
 there:=λ_ ho=>⟨aZ ho,aZ ho⟩
 keep:=λ_ _ ho hk=>hk d B.3 o ho
 notList:=r.3
 notTuple:=r.3
 hint:=λ_ _ _ _ ho hq=>PySem.W.kdl_hint_dict ⟨o,ho,hx.1⟩ hq
 iter:=λA s hh ho=>⟨_,_,λ_ _ hq=>aDc lo ho hx hdt hq,aAI hh hdt _ (bS (aZ ho)),⟨k.13,aN _ ho⟩⟩
end
section
variable{X:Cx}
def aMb:h.5:=λvs H Q=>∃(a:Addr) (eI:S.5),vs=[r.4]/\(.dT eI).72/\
 ∀(p:Addr) (qs:i.3),p.21->Paired (λ(q:Addr) (k:List Key)=>(q,.tup (k.map kV)).5) qs (eI.map (·.1))->(p,(H,p,Q.5).3).42
theorem FW{α β:Type}{F:(α,β).16}: (l₁.length=l₂.length->(∀(i:Nat) (a:α) (b:β),(l₁,a).4->(l₂,b).4->F a b)->i.13).720
 |[],[],_,_=> .nil
 |[],_::_,h,_=>C.4
 |_::_,[],h,_=>C.4
 |a::l₁,b::l₂,h,f=> .cons (f 0 a b rfl rfl) (FW m.4 λi x y hx hy=>f (i+1) x y (by simpa using hx) (by simpa using hy))
theorem XN(hc:P.3):j6 X C.10 aMb:=by
 intro pins s σ H vs us Q I r h;obtain⟨a,eI,rfl,ha,q⟩:=h;rw[y.5];obtain⟨z,lo,xs,pr,o,es,ep,ho,hx,hdt,he,hn⟩:=I.cZ a _ ha;have l1:es.size=xs.length:=size_of_entries he;have l2:eI.length=xs.length:=aO pr;refine PySem.W.kdl_call (aF9 lo hx hdt) S.4 ho b.3 λh' tk acc c' hk hD TU=>?_;have XO: ∀(i:Nat) (v:Value),(acc,v).4->∃x,D.4/\v= .ref x.2.1:=λi v hv=>by
  obtain⟨en,hen,rfl⟩:=TU.2 i v hv;have q:=entry_at he i;rw[hen] at q
  cases hxi:xs[i]? with
  |none=>rw[hxi] at q;cases q
  |some x=>rw[hxi] at q;cases q;exact(x,rfl).34
 have aUz:acc.toList=(xs.map (·.2.1)).map Value.ref:=by
  refine BE λi=>?_;rw[a9,aE,bM];by_cases hi:i<es.size
  . have OG:i<acc.size:=(TU.1,hi).3
    have hb:(acc,acc).28:=Array.getElem?_eq_getElem OG;obtain⟨x,jH,vC⟩:=XO i _ hb;rw[hb,jH,vC];rfl
  . rw[Array.getElem?_eq_none (TU.1).56,c5 b.3];rfl
 have hv:Vals ((xs.map (·.2.1)).map V.ref) acc.toList:=by
  rw[aUz];generalize xs.map (·.2.1)=ys
  induction ys with
  |nil=>exact .nil
  |cons y ys ih=>exact ih.511
 refine⟨.ref _,upd H s.heap.objs.size (.lst ((xs.map (·.2.1)).map V.ref)),aA.663.812,rfl,q _ _ T.4 ?_⟩;refine FW l2.24 λi x k hx hk=>?_;rw[aE] at hx hk
 cases hki:eI[i]? with
 |none=>rw[hki] at hk;cases hk
 |some p=> rw[hki] at hk;obtain⟨b,hb,e1,e2,_⟩:=ZT pr hki;rw[hb] at hx;cases hx;cases hk;exact e2
def aMc:h.5:=λvs H Q=>∃(a:Addr) (n:Nat),vs=[r.4]/\(.rng 0 n).72/\n.546/\∀p:Addr,p.21->(p,(H,p,bE C.3).3).42
theorem XQ(hc:P.3):j6 X C.10 aMc:=by
 intro pins s σ H vs us Q I r h;obtain⟨a,n,rfl,ha,hn,q⟩:=h;rw[y.5];obtain⟨t,u,v,ho⟩:=I.cZ a _ ha;have hs:(Builtin.Range.small 0 n.6 1).7:=PySem.small_one r.3 r.3 (by(have:(0).33<=2^62:=r.3);omega) (Int.lt_of_le_of_lt n.6.546.36 r.3);have hz:Builtin.Range.rangeSize 0 n.6 1=n:=PyProof.Rows.rangeSize_nat.89
 refine call_list_range (n:=n) S.4 ho hs hz hn.29 λh' tk acc c' hk hD TU=>?_;have hv:Vals (bE C.3) acc.toList:=by
  refine FW (by rw[bE,aA,aR,Array.length_toList,TU.1]) λi a b ha hb=>?_;rw[bE,aE] at ha
  cases hi:(C.3)[i]? with
  |none=>rw[hi] at ha;cases ha
  |some k=>
   rw[hi] at ha;have hk:k=i:=by have:=List.getElem?_eq_some_iff.mp hi;obtain⟨h1,h2⟩:=this;rw[UQ] at h2;exact h2.symm
   subst hk;rw[bM] at hb;obtain⟨t,e⟩:=TU.2 _ b hb;cases ha;have N6:(0).33+k.6*1=k:=b.3
   rw[N6] at e;exact⟨t,e⟩
 exact⟨.ref _,(H,s.heap.objs.size,bE C.3).3,(by rw[bE,aA,aR,bJ];omega).812,rfl,q _ T.4⟩
end
end G.T
namespace G.T
open PySem PySem.Spec PyProof.Rows PySem.SetTable
abbrev TK(prog:Program)(w:World):=tupleKeyHash Q.4
def M5(prog:Program)(w:World)(x:f.3×Addr):Int×Value:=((x.1).530,.ref x.2)
def SetT(prog:Program)(w:World)(B:Nat)(a:Addr)(ds:n.4)(h:Heap):Prop:=
 ∃(o:Obj) (es:e.4) (ep:Nat) (t:SetTable) (xs:f.3.590),a.52/\o.ExactSet/\Z.12/\p.10/\es.toList=xs.map (M5 prog w)/\
  (xs.map (·.1)).Perm ds/\ds.Nodup/\(∀x∈xs,x.2<B)/\∀x∈xs,(h,x.1,x.2).19
section
variable{prog:Program}{w:World}{A:Around}{E:l.3}{s:Shared}
theorem yM{k:f.3}{q:Addr}{Q:Bool.49}(hk:(s.heap,k,q).19)(h:Q false s):
 (ofAClassStatement 8 (.ref q)).65:=by
 have hT:=hk.typeIs;obtain⟨o,items,n,ho,_,hd,hi⟩:=hk;unfold ofAClassStatement;refine aB (wpAny_typeOf hT ?_);dsimp only;refine aB m.3;simp only [Bool.not_true,Bool.false_eq_true,if_false];refine aB (pG ho hd ?_);dsimp only;refine aB ?_;rw[<-pN];refine o.15
 . rintro v rest r s' ⟨hr,rfl,i3⟩;have hv:ofAClassStatement 7 v=pure false:=by have:=i3 v cI;cases v<;>first|rfl|simp[carriedByValue] at this|(unfold ofAClassStatement;rfl)
   rw[hv];refine aB m.3;simp only [Bool.false_eq_true,if_false];exact i.15
 . rintro⟨r1,r2⟩ s' ⟨hr,rfl,_⟩;simp only at hr;subst hr;exact aH h
theorem XR{k:f.3}{q:Addr}{l:h.3}{Q:Bool.49}(hk:(s.heap,k,q).19)
 (hl: ∀v∈l,∃k' q',v= .ref q'/\(s.heap,k',q').19) (h:Q false s):
 (searchCouldBeSeen (.ref q) l).65:=by
 unfold searchCouldBeSeen;refine aB ?_;refine wX _ (λrest r s'=>(r.1).9/\s'=s/\∀v∈rest,v∈l) _ ?_ ?_ _ _ (λv hv=>hv).617
 . rintro v rest r s' ⟨hr,rfl,i3⟩;obtain⟨k',q',rfl,rX⟩:=hl v (i3 v cI);have aKm:=λu (hu:u∈rest)=>i3 u (bG _ hu);dsimp only;split
   . exact aH aKm.617
   . refine aB (wpAny_eqIsQuiet_tuple hk ?_);simp only [Bool.not_true,Bool.false_eq_true,if_false];refine aB (wpAny_eqIsQuiet_tuple rX ?_);simp only [Bool.not_true,Bool.false_eq_true,if_false];refine aB (yM hk ?_);simp only [Bool.false_eq_true,if_false];refine aB (yM rX ?_);simp only [Bool.false_eq_true,if_false];exact aH aKm.617
 . rintro⟨r1,r2⟩ s' ⟨hr,rfl,_⟩;simp only at hr;subst hr;exact aH h
theorem EA{k:f.3}{q:Addr}{Q:Bool.49}(hk:(s.heap,k,q).19)(h: ∀b,Q b s):
 (hashByValue 8 (.ref q)).65:=by
 have hT:=hk.typeIs;obtain⟨o,items,n,ho,_,hd,hi⟩:=hk;unfold hashByValue;refine aB (rV hT u0.lookup ?_);dsimp only;refine aB (pG ho hd ?_);refine aB ?_;dsimp only [Option.getD];rw[<-pN];refine o.15
 . rintro v rest r s' ⟨hr,rfl,i3⟩;have hv:∃b,hashByValue 7 v=pure b:=by have:=i3 v cI;cases v<;>first|exact rfl.20|simp[carriedByValue] at this|(unfold hashByValue;exact rfl.20)
   obtain⟨b,hv⟩:=hv;rw[hv];refine aB m.3;cases b
   . simp only [Bool.not_false,if_true];exact aH (aH (h _))
   . simp only [Bool.not_true,Bool.false_eq_true,if_false];exact i.15
 . rintro⟨r1,r2⟩ s' ⟨hr,rfl,_⟩;simp only at hr;subst hr;exact aH (h _)
theorem HE{t:SetTable}{es:e.4}(ok:p.10){f:Nat->Int}{h:Int}{p:Probe}{r:Option Met}{n:Nat}(hpr:t.probe f h p=r)(hn:n<=10*(t.mask+13))(he:n.592.587)(hp:p.dummy.9):
 ∃m,m<=n/\(∀k,k<m->∃i,(t.place,k.592).4/\f i≠h)/\
  ((r=some (.empty m.592 none)/\m.592.587)\/
   ∃i,(t.place,m.592).4/\f i=h/\m<n/\r=some (.candidate m.592 i (qG t.mask (m+1) p))):=by subst hpr;exact MG ok.raw.rise ok.raw.dum f h (10*turns t.mask) n p (by unfold turns;omega) he hp
theorem qE{α β:Type}{f:α->β}: ∀{l:List β} {m:w.3},l.Perm (m.map f)->∃m':w.3,l=m'.map f/\m'.Perm m:=by
 intro l m h;generalize hl:m.map f=l2 at h
 induction h generalizing m with
 |nil=>exact([],(List.map_eq_nil_iff.mp hl).85).50
 |cons x _ ih=> obtain⟨a,m2,rfl,rfl,h2⟩:=List.map_eq_cons_iff.mp hl;obtain⟨m',e,p⟩:=ih h2;exact⟨a::m',(List.map_cons,e).7,p.cons a⟩
 |swap x y _=> obtain⟨a,m2,rfl,rfl,h2⟩:=List.map_eq_cons_iff.mp hl;obtain⟨b,m3,rfl,rfl,h3⟩:=List.map_eq_cons_iff.mp h2;subst h3;exact(b::a::m3,List.Perm.swap _ _ _).50
 |trans _ _ FX ih2=> obtain⟨m1,e1,p1⟩:=ih2 hl;obtain⟨m2,e2,p2⟩:=FX e1.symm;exact⟨m2,e2,p2.trans p1⟩
theorem aAJ{S q:Addr}{k:f.3}{o:Obj}{es:e.4}{ep:Nat}{t:SetTable}{xs:f.3.590}{Q:SetFound.49}
 (hu:A.units.61) (ho:S.70) (hd:Z.12) (ok:p.10) (Y3:es.toList=xs.map (M5 prog w)) (hxs: ∀x∈xs,(s.heap,x.1,x.2).19)
 (hk:(s.heap,k,q).19)
 (aMd:k∈N.10->Q (.there none) s)
 (wH:k∉N.10->∀j,j.587->j<=t.mask->(t.mask,fY t.mask k.530).128->Q (.free j false) s):
 ∀(n c fuel:Nat) (st:Option Probe),n<fuel->st.getD (t.probeStart k.530)=c.653->(((c+n).653).j).587->
  (c.756)->n<=10*(t.mask+13)->
  (k∈N.10->∃(j0 i0 n0:Nat),(t.place,i0,j0).4/\(∃x:f.3×Addr,(xs,i0,x).4/\x.1=k)/\c<=n0/\(n0.653).j=j0/\n0.756)->
  (setSearchFrom S (.ref q) k.530 true fuel st).65:=by
 intro n
 induction n using Nat.strongRecOn with
 |ind n ih=>
  intro c fuel st hf jM aMe aLI aPL JR;obtain⟨fuel,rfl⟩:∃f,fuel=f+1:=(fuel-1).527;unfold setSearchFrom;refine aB (e9 ho hd ok.fits ?_);dsimp only;have aCq:=ok.raw.mask;rw[if_neg (by show¬((t.mask%2==0)).7;rw[aCq,aAd];decide)];rw[jM];generalize hp:c.653=p;have hpd:p.dummy.9:=by rw[<-hp,FP];rfl
  have TM:∀m,qG t.mask m p=(c+m).653:=λm=>(DO,hp).7
  have aLh:Fit t.mask (fY t.mask k.530):=sY _ _;split
  . rename_i met hpr;obtain⟨m,h1,h2,h3⟩:=HE ok hpr aPL (TM,aMe).3 hpd;have aGc: (c+m).756:=λc' CA=>by
     by_cases lO:c'<c
     . exact aLI c' lO
     . obtain⟨d,rfl⟩:∃d,c'=c+d:=(c'-c).527;obtain⟨i,hi,_⟩:=h2 d b.3;rw[TM] at hi;exact P.13
    have hashAt:∀i x,D.4->(es,M5 prog w x).4:=λi x hx=>by rw[<-bM,Y3,aE,hx];rfl
    rcases h3 with⟨aMf,iK⟩|⟨i,hi,hh,hmn,aMf⟩
    . cases aMf;dsimp only;have aUA:k∉N.10:=λrX=>by
       obtain⟨j0,i0,n0,e1,⟨x0,ex0,ek⟩,e2,e3,e4⟩:=JR rX;rw[TM] at iK;rcases nH n0 (c+m) with hl|he|hg
       . obtain⟨d,rfl⟩:∃d,n0=c+d:=(n0-c).527;obtain⟨i1,hi1,hh1⟩:=h2 d b.3;rw[TM,e3] at hi1;have:i1=i0:=hi1.789
         subst this;apply hh1;have:=hashAt _ _ ex0;show((es[i1]?).map (·.1)).getD 0=_;rw[this];show(x0.1).530=_;rw[ek]
       . rw[<-he,e3] at iK;exact iK (List.mem_of_getElem? (bM,e1).3)
       . exact iK (e4 _ hg)
      refine aH (wH aUA _ iK ?_ ⟨c+m,TM.85,aGc⟩);have:=(aLh.qG (c+m)).room;rw[TM];omega
    . cases aMf;dsimp only;have aZ9:i<es.size:=by have h1:=U.14;have h2:=ok.raw.len;rw[Array.length_toList,Array.length_toList] at h2;omega
      have hxl:xs.length=es.size:=by have:=Y3.554;rw[aA,Array.length_toList] at this;exact this.symm
      obtain⟨x,hx⟩:∃x,D.4:=b.4.20;have hei:=hashAt i x hx;have hxm:x∈xs:=List.mem_of_getElem? hx;have aUC: ∀(m1:Sem SetFound),m1.65->wpAny (A.4) A (if((!t.led)).7 then(do
       let b<-searchCouldBeSeen (Value.ref q) (List.map (λx=>x.snd) (Array.filter (λx=>x.fst==k.530) es).toList)
       if b.7 then do
        unsupported "set:the-search-would-show-the-table"
        m1
        else m1) else m1) Q E s:=λm1 h1=>by
       split
       . refine aB (XR hk (λv hv=>?_) ?_)
         . obtain⟨e,he,rfl⟩:=a5.mp hv;have he2:e∈es.toList:=by have:=nX.mp he;exact nX.mpr (Array.mem_filter.mp this).1
           rw[Y3] at he2;obtain⟨y,hy,rfl⟩:=a5.mp he2;exact⟨y.1,y.2,rfl,hxs y hy⟩
         . rw[if_neg c.3];exact h1
       . exact h1
      refine aUC _ ?_;rw[hei];dsimp only [M5];refine aB (c9 (aEw hu (hxs x hxm) hk ?_));refine aB (e9 ho hd ok.fits ?_);dsimp only;by_cases hxk:x.1=k
      . rw[if_pos hxk.24];exact aH (aMd (a5.mpr ⟨x,hxm,hxk⟩))
      . rw[if_neg hxk.24];rw[show t.sameMemory t.moves t.mask=some true by unfold sameMemory;simp];dsimp only;rw[N.5,Q0 ok.raw.rise hi];dsimp only;rw[hei];dsimp only [M5];refine aB (wpAny_isSame_ref_self (aB m.3));rw[if_pos rfl];dsimp only;rw[if_neg hxk.24];refine ih (n-(m+1)) b.3 (c+(m+1)) fuel _ b.3 (by show qG t.mask (m+1) p=_;rw[TM]) ((c+(m+1)+(n-(m+1))=c+n).36,aMe).3 (λc' CA=>?_) b.3 λrX=>?_
        . by_cases hl:c'<c+m
          . exact aGc c' hl
          . have:c'=c+m:=b.3
            subst this;rw[TM] at hi;exact P.13
        . obtain⟨j0,i0,n0,e1,⟨x0,ex0,ek⟩,e2,e3,e4⟩:=JR rX;refine⟨j0,i0,n0,e1,⟨x0,ex0,ek⟩,?_,e3,e4⟩;refine eE λlO=>?_;rcases Nat.lt_or_eq_of_le (n0<=c+m).36 with hl|he
          . obtain⟨d,rfl⟩:∃d,n0=c+d:=(n0-c).527;obtain⟨i1,hi1,hh1⟩:=h2 d b.3;rw[TM,e3] at hi1;have:i1=i0:=hi1.789
            subst this;apply hh1;have:=hashAt _ _ ex0;show((es[i1]?).map (·.1)).getD 0=_;rw[this];show(x0.1).530=_;rw[ek]
          . rw[TM,<-he,e3] at hi;have:i=i0:=hi.789
            subst this;rw[hx] at ex0;cases ex0;exact hxk ek
  . rename_i M6;obtain⟨m,h1,h2,h3⟩:=HE ok (r:=t.probe _ _ _) rfl aPL (TM,aMe).3 hpd;rcases h3 with⟨e,_⟩|⟨i,_,_,_,e⟩
    . exact absurd e (M6 _)
    . exact absurd e (M6 _)
theorem SetT.fresh{B:Nat}{a:Addr}{h:Heap}(hg:(a,jG w).30):SetT prog w B a [] h:=
 ⟨_,#[],0,_,[],hg,rfl.617,rfl,Ok.fresh _ _ _,rfl,nY _,eO,λe he=>by simp at he,λe he=>by simp at he⟩
theorem IsTupleKey.at'{h h':Heap}{k:f.3}{q:Addr}(x:(h,k,q).19)(e: ∀o,q.52->(h'.get? q).23):(h',k,q).19:=by obtain⟨o,items,n,ho,r⟩:=x;exact⟨o,items,n,e _ ho,r⟩
theorem SetT.path{a:Addr}{t:SetTable}{es:e.4}{xs:f.3.590}(ok:p.10)(Y3:es.toList=xs.map (M5 prog w)){k:f.3}(hk:k∈N.10):
 ∃(j0 i0 n0:Nat),(t.place,i0,j0).4/\(∃x:f.3×Addr,(xs,i0,x).4/\x.1=k)/\0<=n0/\(n0.653).j=j0/\n0.756:=by
 obtain⟨x,hx,rfl⟩:=a5.mp hk;obtain⟨i,hi⟩:=gC hx;have hlen:=ok.raw.len;rw[Array.length_toList] at hlen;have hxl:es.toList.length=xs.length:=(Y3,aA).7
 have hil:=hi.535;have kY:(t.place,t.place).28:=K.10;have he:(es.toList,M5 prog w x).4:=(Y3,aE,hi).13
 have hz:(t.place[i],M5 prog w x)∈t.place.toList.zip es.toList:=by refine List.mem_of_getElem? (i:=i) ?_;rw[jW];exact⟨(bM,kY).3,he⟩
 have hr:=ok.raw.path _ _ hz;rw[<-ok.raw.mask] at hr;obtain⟨n0,h1,h2⟩:=hr;exact⟨_,i,n0,kY,(x,hi).34,aW _,h1,h2⟩
theorem aGd{S q:Addr}{U B:Nat}{ds:n.4}{k:f.3}{I:Heap.41}(hU:U.61)(hl:ds.length+1<307)(hqB:q<B)
 (hI: ∀h,I h->(h,k,q).19/\q≠S) (hI': ∀h h',I h->Heap.SameBut S h h'->I h'):
 aIm prog w U S (.ref q) (λh=>SetT prog w B S ds h/\I h) (λh=>SetT prog w B S (if k∈ds then ds else ds++[k]) h/\I h):=by
 intro A s Q E hA hh h;obtain⟨⟨o,es,ep,t,xs,ho,hex,hd,cZ,Y3,g9,z8,hxB,hxs⟩,hi⟩:=hh;obtain⟨hk,hqS⟩:=hI _ hi;have hu:A.units.61:=jL hA hU;have hn:es.size=ds.length:=by rw[<-g9.length_eq,aA,<-Array.length_toList,Y3,aA]
 have hf:=cZ.fits;have kR:k∈ds↔k∈N.10:=g9.mem_iff.symm;have aUD:∀x∈xs,x.2≠S:=λx hx e=>by obtain⟨o',items,n,JF,_,VB,_⟩:=hxs x hx;rw[e,ho] at JF;cases JF;rw[hd] at VB;cases VB
 unfold setAdd;refine c9 (aB (aEx hu hk ?_));generalize hgk:s.toks+(k.length+1)=Y2;have htk:s.toks<=Y2:=b.3
 unfold setAddHashed setAddHashedIn;refine c9 (aB (e9 (s:={s with toks:=Y2}) ho hd hf ?_));dsimp only;rw[if_neg (show¬((byScan (.ref q) es)).7 from a8)];obtain⟨n,U2,hn2⟩:=cZ.raw.meets (yD _) (sY (maskOf es.toList.length) k.530);have aCq:=cZ.raw.mask;rw[<-aCq] at U2 hn2;have aXU:t.mask<=511:=(aCq,Q5 _).3
 unfold setSearch;refine aB (aAJ (s:={s with toks:=Y2}) hu ho hd cZ Y3 hxs hk (λJR=>?_) (λaIJ j hj hjm aGe=>?_) n 0 100000 none b.3 rfl (Nat.zero_add,hn2).3 (λc' CA=>CA.670) U2 λJR=>SetT.path (a:=S) cZ Y3 JR)
 . dsimp only;refine aH (h false s.heap Y2 htk (Heap.SameBut.refl S s.heap) ⟨?_,hi⟩);rw[if_pos (kR.mpr JR)];exact⟨o,es,ep,t,xs,ho,hex,hd,cZ,Y3,g9,z8,hxB,hxs⟩
 . dsimp only;rw[(aIJ (kR.mp z)).605] at h;refine aB (e9 (s:={s with toks:=Y2}) ho hd hf ?_);dsimp only;have hr:=cZ.raw;rw[Array.length_toList] at hr;have aUF:j<=maskOf es.size:=(hr.mask,hjm).15
   rw[hr.mask] at aGe;obtain⟨r1,e1,e2,e3⟩:=hr.put (e:=(k.530,Value.ref q)) hj aUF aGe (FQ b.3).1;generalize a0c:t.put j=tp at r1 e1 e2 e3;obtain⟨t1,p1⟩:=tp;dsimp only at r1 e1 e2 e3;dsimp only;have hb: ∀(X:Bool->Sem Bool),(∀b,wpAny A.4 A (X b) Q E {s with toks:=Y2})->
    wpAny A.4 A (t1.plain,(hashByValue 8 (Value.ref q)>>=X),(pure true>>=X)).8 Q E {s with toks:=Y2}:=λX hX=>by
    split
    . exact aB (EA (s:={s with toks:=Y2}) hk hX)
    . exact aB (aH (hX _))
   refine hb _ λb=>?_;have hpI:=jO es p1 (k.530,Value.ref q);rw[kC] at hpI;generalize hte:(if b.7 then t1 else {t1 with plain:=false})=t2;have r2:Raw (maskOf es.size) t2 (SetTable.insertAt es p1 (k.530,Value.ref q)).toList:=by
    rw[<-hte];split
    . exact r1
    . exact r1.aFL false
   generalize a0e:SetTable.insertAt es p1 (k.530,Value.ref q)=DP at hpI r2;have WZ:DP.size=es.size+1:=hpI.length_eq.834
   obtain⟨xs1,jH,vC⟩:∃xs1:f.3.590,DP.toList=xs1.map (M5 prog w)/\xs1.Perm (xs++[(k,q)]):=by rw[Y3,show [(k.530,Value.ref q)]=[(k,q)].map (M5 prog w) from rfl,<-bH] at hpI;exact qE hpI
   have aGf:(xs1.map (·.1)).Perm (ds++[k]):=by refine(vC.map (·.1)).trans ?_;rw[bH];exact g9.append (nY _)
   have aFQ:(ds++[k]).Nodup:=(z8,(λz=>aIJ (kR.mp z)) (e▸ha)).132;have aPP: ∀h',S.669->∀x∈xs1,(h',x.1,x.2).19:=λh' hsb x hx=>by
    have IE:=vC.mem_iff.mp hx;rcases List.mem_append.mp IE with IE|IE
    . exact IsTupleKey.at' (hxs x IE) λo e=>(hsb.2 _ (aUD x IE),e).3
    . rw[List.mem_singleton] at IE;subst IE;exact IsTupleKey.at' hk λo e=>(hsb.2 _ hqS,e).3
   have aPQ: ∀x∈xs1,x.2<B:=λx hx=>by
    rcases List.mem_append.mp (vC.mem_iff.mp hx) with IE|IE
    . exact hxB x IE
    . rw[List.mem_singleton] at IE;subst IE;exact hqB
   have aFR:DP.size.37:=bJ.56
   refine aB (HW (s:={s with toks:=Y2}) ho hd ?_ aFR);have SX:=qB ho hd DP t2;have aAh:=dA s.heap S (Obj.putSet DP t2);rcases r2.settle WZ b.3 with⟨htf,aDy⟩|⟨htf,t3,order,eL,hp2,aIo,_,_,hsz⟩
   . rw[htf];simp only [Bool.and_false,Bool.false_eq_true,↓reduceIte];exact aH (h true _ Y2 htk aAh ⟨⟨_,DP,ep+1,t2,xs1,SX,hex,rfl,aDy,jH,aGf,aFQ,aPQ,aPP _ aAh⟩,hI' _ _ hi aAh⟩)
   . rw[htf];simp only [Bool.not_false,Bool.and_self,↓reduceIte];unfold setRelay;refine aB (aB (e9 (s:=c.16) SX rfl r2.fits ?_));dsimp only;rw[WZ] at eL hsz;rw[if_neg bJ.56,eL];have hpe:(order.filterMap (DP[·]?)).toList.Perm DP.toList:=(i5,(hp2.filterMap _).trans JB.85).3
     have aPR:(order.filterMap (DP[·]?)).size=DP.size:=hpe.length_eq.775
     refine aB (show wpAny (model prog w) A (if((order.filterMap (DP[·]?)).size !=DP.size)=true then _ else pure (order.filterMap (DP[·]?),t3)) _ _ _ from ?_);rw[if_neg aPR.89];refine m.3;dsimp only;have aFS:((order.filterMap (DP[·]?)).size).37:=(aPR,aFR).3
     refine HW (s:=c.16) SX rfl ?_ aFS;have aMh:=aAh.trans (dA _ S (Obj.putSet (order.filterMap (DP[·]?)) t3));obtain⟨xs2,hy1,hy2⟩:∃xs2:f.3.590,(order.filterMap (DP[·]?)).toList=xs2.map (M5 prog w)/\xs2.Perm xs1:=by rw[jH] at hpe;exact qE hpe
     refine aH (h true _ Y2 htk aMh ⟨⟨_,_,ep+1+1,t3,xs2,qB SX rfl _ t3,hex,rfl,aIo,hy1,(hy2.map _).trans aGf,aFQ,λx hx=>aPQ x (hy2.mem_iff.mp hx),λx hx=>aPP _ aMh x (hy2.mem_iff.mp hx)⟩,hI' _ _ hi aMh⟩)
def uT(ks:n.4):n.4:=([]).766
theorem aDW(ks:n.4)(k:f.3):uT (ks++[k])=if k∈uT ks then uT ks else uT ks++[k]:=by unfold uT;rw[nG];rfl
theorem RB(k:f.3): ∀(ks acc:n.4),k∈acc.766↔k∈acc\/k∈ks
 |[],acc=>c.3
 |n::ns,acc=>by
  rw[List.foldl_cons,RB k ns,List.mem_cons];split
  . constructor
    . rintro (h|h)
      . exact .inl h
      . exact .inr (.inr h)
    . rintro (h|rfl|h)
      . exact .inl h
      . exact .inl ‹_›
      . exact .inr h
  . rw[List.mem_append,List.mem_singleton];constructor
    . rintro ((h|h)|h)
      . exact .inl h
      . exact .inr (.inl h)
      . exact .inr (.inr h)
    . rintro (h|h|h)
      . exact .inl (.inl h)
      . exact .inl (.inr h)
      . exact .inr h
theorem XS(ks:n.4)(k:f.3):k∈uT ks↔k∈ks:=by unfold uT;rw[RB];simp
theorem HF: ∀(ks acc:n.4),acc.Nodup->(acc.766).Nodup
 |[],_,h=>h
 |n::ns,acc,h=>by
  rw[List.foldl_cons];refine HF ns _ ?_;split
  . exact h
  . exact(h,‹¬_› (e▸ha)).132
theorem aAK(ks:n.4):(uT ks).Nodup:=HF ks [] eO
theorem M7: ∀(ks acc:n.4),(acc.766,acc.length+ks.length).8
 |[],acc=>c.3
 |n::ns,acc=>by
  rw[List.foldl_cons];rw[List.length_cons];by_cases hm:n∈acc
  . rw[if_pos hm];have:=M7 ns acc;omega
  . rw[if_neg hm];have:=M7 ns (acc++[n]);rw[List.length_append,List.length_singleton] at this;omega
theorem aIK(ks:n.4):(uT ks,ks.length).8:=by have:=M7 ks [];simpa [uT] using this
theorem IP{l:Addr}{qs:i.3}{ks:n.4}{Q:l.3}(hh:s.5)(hu:(A.units+16).61)(hl:((G.10).toArray).660)
 (hlen:qs.length=ks.length) (hk: ∀(i:Nat) (q:Addr) (k:f.3),(qs,q).4->(ks,k).4->(s.heap,k,q).19) (hb:ks.length<306)
 (h: (SetT prog w s.heap.objs.size s.heap.objs.size (uT ks) h').793):
 (call (.type "set") l.43).65:=by
 have hsz:(G.10).toArray.size=ks.length:=hlen.24
 refine G7 (U:=A.units+16) (λi h'=>SetT prog w s.heap.objs.size s.heap.objs.size (uT (ks.take i)) h'/\b.506.655) hh (aS _) hl
  (λh' rX hg=>⟨SetT.fresh hg,rX⟩) (λi h1 h2 x k=>⟨?_,λb o hb e=>k b o (kH hb) (x.2 b o hb e)⟩) (λi v hv=>?_) λh' tk hI rX=>h h' tk ?_ rX
 . obtain⟨⟨o,es,ep,t,xs,ho,hex,hd,cZ,Y3,g9,z8,hxB,hxs⟩,hold⟩:=x;exact⟨o,es,ep,t,xs,k _ _ (aS _) ho,hex,hd,cZ,Y3,g9,z8,hxB,λy hy=>IsTupleKey.at' (hxs y hy) λo' e=>k _ o' (kH (hxB y hy)) e⟩
 . have AE:((G.10),v).4:=B.11
   rw[aE] at AE
   cases hqi:qs[i]? with
   |none=>rw[hqi] at AE;cases AE
   |some q=>
    rw[hqi] at AE;cases AE;have hil:=hqi.535;have hki:(ks,ks).28:=b.4;generalize ks[i]=k at hki;have hqk:=hk i q k hqi hki;have hqs:q.506:=by obtain⟨o,_,_,ho,_⟩:=hqk;exact aZ ho
    have he:uT (ks.take (i+1))=if k∈uT (ks.take i) then uT (ks.take i) else uT (ks.take i)++[k]:=(iM,hki,aDW _ _).18
    rw[he];refine aGd (I:=λh'=>b.506.655) hu ?_ hqs (λh' hI=>⟨IsTupleKey.at' hqk λo e=>hI q o hqs e,bS hqs⟩) (λh1 h2 hI hsb b o hb e=>(hsb.2 b (bS hb),hI b o hb e).3);have:=aIK (ks.take i);rw[aX] at this;omega
 . rw[hsz,cJ] at hI;exact hI.1
end
end G.T
namespace G.T
open PySem PySem.Spec PyProof.Rows L2
def aGg(a:Addr)(n:Nat)(h:Heap):Prop:=∃(o:Obj) (es:e.4) (ep:Nat) (t:SetTable),a.52/\o.ExactSet/\o.data= .set es ep t/\(t.fits es.size).7/\es.size=n/\n<307
section
variable{X:Cx}
def intsOf(k:a.3):f.3:=k.map o.4
theorem BZ: ∀{a b:a.3},intsOf a=intsOf b->a=b
 |[],[],_=>rfl
 |[],_::_,h=>intsOf.637
 |_::_,[],h=>intsOf.637
 |a::p,b::q,h=>by
  unfold intsOf at h;rw[List.map_cons,List.map_cons] at h;injection h with h1 h2;have:a=b:=b.3
  rw[this,BZ h2]
def aPS(K:PySem.W.Frag):h.5:=λvs H Q=>∃(a:Addr) (qs:i.3) (ks:d.3),vs=[r.4]/\Q.5.75/\Paired (λb k=>k.48.45) qs ks/\ks.length<306/\
 ∀(ds:d.3) (p:Addr),ds.Nodup->(∀k,k∈ds↔k∈ks)->p.21->(p,upd H p (.ext (aGg p ds.length))).42
theorem SK{P:Program}{w:World}{H:Hp}{h:Heap}{q:Addr}{k:a.3}(ok:V.3)(hq:(q,k.48).5):IsTupleKey (PySem.intKind P w) h (intsOf k) q:=by
 obtain⟨hzz,bY,rv,⟨o,ho,hc,n,hd⟩,_⟩:=ok q _ hq;refine⟨o,bY.toArray,n,ho,hc,hd,?_⟩;simp only [List.toList_toArray];clear ho hd hzz hq
 induction k generalizing bY with
 |nil=>cases rv;exact .nil
 |cons a k ih=>
  cases rv with
  |cons r t=> obtain⟨tk,rfl⟩:=r;exact .cons (EX _ _ _ _) (ih _ t)
theorem aIL(K:PySem.W.Frag)(hc:P.3)(hu:j.11)(hK:X.K=K:=by rfl):j6 X (.type "set") (aPS K):=by
 subst hK;intro pins s σ H vs us Q I r h;obtain⟨a,qs,ks,rfl,hs,hp,hb,q⟩:=h;obtain⟨bY,rv,hl,hzz⟩:=K.5;rw[y.5];have hits:bY=G.10:=by
  clear hs hp hl hzz
  induction qs generalizing bY with
  |nil=>cases rv;rfl
  |cons y ys ih=>
   cases rv with
   |cons r t=>cases r;rw[ih _ t];rfl
 subst hits;have hlen:qs.length=(J.10).length:=(aO hp).523
 refine IP (ks:=J.10) S.4 b.3 hl.isList hlen (λi b k hb hk=>?_) hb.523 λh' tk hI hk=>?_
 . rw[aE] at hk
   cases hki:ks[i]? with
   |none=>rw[hki] at hk;cases hk
   |some k0=> rw[hki] at hk;cases hk;obtain⟨b',ZU,S1⟩:=bO hp hki;rw[hb] at ZU;cases ZU;exact SK I.cZ S1
 . obtain⟨o,es,ep,t,xs,ho,hex,hd,cZ,Y3,g9,z8,_⟩:=hI;have hsz:es.size=(uT J.10).length:=by rw[<-g9.length_eq,aA,<-Array.length_toList,Y3,aA]
   obtain⟨ds,hds⟩: ∃ds:d.3,uT J.10=ds.map intsOf:=by
    have hm:∀x∈uT J.10,x∈J.10:=λx hx=>(XS _ x).mp hx;generalize uT J.10=l at hm;clear q z8 g9 hsz
    induction l with
    |nil=>exact([]).80
    |cons x l ih=> obtain⟨ds,e⟩:=ih λy hy=>hm y hy.545;obtain⟨k,_,hk⟩:=a5.mp (hm x u.4);exact⟨k::ds,by rw[List.map_cons,hk,e]⟩
   have hdn:ds.Nodup:=by have:=aAK J.10;rw[hds] at this;unfold List.Nodup at *;rw[kG] at this;exact this.imp λh e=>h (by rw[e])
   have hdm: ∀k,k∈ds↔k∈ks:=λk=>by
    have:=XS J.10 (intsOf k);rw[hds,a5,a5] at this;constructor
    . intro hk;obtain⟨k',h1,h2⟩:=this.mp (k,hk).34;rw[<-BZ h2];exact h1
    . intro hk;obtain⟨k',h1,h2⟩:=this.mpr (k,hk).34;rw[<-BZ h2];exact h1
   rw[hds,aA] at hsz;have SG:=cZ.zN;rw[Array.length_toList] at SG;have hN:aGg s.heap.objs.size ds.length h':=⟨o,es,ep,t,ho,hex,hd,cZ.fits,hsz,b.3⟩;exact⟨.ref _,(.ext (aGg s.heap.objs.size ds.length)).609,I.laid (t':=tk) (λb u e=>hk b u (aZ e) e) (aS _)
    ⟨hN,⟨o,ho⟩,λh1 h2 ⟨o,es,ep,t,x,rest⟩ k=>⟨o,es,ep,t,k _ x,rest⟩⟩,rfl,q _ _ hdn hdm T.4⟩
theorem aIM:("len",λxs H Q=>∃(a:Addr) (n:Nat),xs=[p.3]/\(.ext (aGg a n)).72/\Q (nV n) H).54:=by intro pins s σ H vs us Q I r h;obtain⟨a,n,rfl,ha,q⟩:=h;rw[y.5];obtain⟨o,es,ep,t,ho,hex,hd,hf,hs,hn⟩:=(I.cZ a _ ha).1;have hz:es.size.6<2^63:=Int.lt_of_lt_of_le (es.size.6<307).36 r.3;refine call_len_set ho hex hd hf hz ?_;refine⟨nV n,H,?_,hs.85.20,q⟩;exact(I.tok _).tok _
end
end G.T
namespace G.T
open PySem PySem.Spec PyProof.Rows L2
def vR(k:a.3):List (Int⊕a.3):=k.map λn:Nat=>Sum.inl n.6
theorem TV: ∀{a b:a.3},M.K1 a b->(lexLt itemOrd (vR a) (vR b)).7
 |[],[],h=>absurd h (M.oJ [])
 |[],_::_,_=>rfl
 |x::a,[],h=>by unfold M.K1 at h;exact h.elim
 |x::a,y::b,h=>by
  have h':x<y\/(x=y/\M.K1 a b):=h;show(lexLt itemOrd (Sum.inl x.6::vR a) (Sum.inl y.6::vR b)).7;rw[lex_true];rcases h' with h1|⟨rfl,h1⟩
  . exact .inl (decide_eq_true (x.6<y.6).36)
  . exact .inr ⟨aQ (¬x.6<x.6).36,TV h1⟩
theorem yN: ∀{k:a.3} {bY:h.3} (i:Nat),(bE k).520->tupItems w.5 i bY=some (vR k)
 |[],_,_,.nil=>rfl
 |n::k,_,i,.cons r t=>by obtain⟨tk,rfl⟩:=r;show(if((w.5) i).7 then none else _)=_;rw[if_neg c.3,yN (i+1) t];rfl
theorem M8{h:Heap}{shape:Nat->Bool}{a:Addr}{o:Obj}{xs:R.3}{n:Nat}{l:List (Int⊕a.3)}(ho:a.52)(hc:o.cls=c.5)(hd:o.data= .seq xs n)
 (hi:tupItems shape 0 xs.toList=some l):PyProof.Rows.G.tupKeyC h shape p.3=some l:=by
 unfold PyProof.Rows.G.tupKeyC;have e1:(PyProof.Rows.G.isTupObj h p.3).7:=by simp[PyProof.Rows.G.isTupObj,ho,hc]
 rw[if_pos e1];simp only [tupKey,ho,hd];exact hi
section
variable{X:Cx}
def aMj(K:PySem.W.Frag):h.5:=λvs H Q=>∃(a:Addr) (qs:i.3) (ws:d.3) (n:Nat),vs=[r.4]/\Q.5.75/\Paired (λb k=>k.48.45) qs ws/\ws.Nodup/\(x.length=n).636/\(2<=ws.length->1<=n)/\ws.length.546/\
 ∀(ws':d.3) (qs':i.3) (p:Addr),ws'.Perm ws->ws'.Pairwise M.K1->Paired (λb k=>k.48.45) qs' ws'->p.21->(p,(H,p,qs'.map V.ref).3).42
theorem rE{α β:Type}{F:(α,β).16}: ∀{l:w.3} {m:List β},Paired F l m->∀x∈l.zip m,F x.1 x.2
 |_,_,.nil,x,h=>C.4
 |_,_,.cons r t,x,h=>by
  rw[List.zip_cons_cons] at h;rcases G.11 with rfl|h
  . exact r
  . exact rE t x h
theorem vS{α β:Type}{F:(α,β).16}: ∀{xs:(α,β).31},(∀x∈xs,F x.1 x.2)->Paired F (xs.map (·.1)) (xs.map (·.2))
 |[],_=> .nil
 |x::xs,h=> .cons (h x u.4) (vS λy hy=>h y hy.545)
theorem aGh(K:PySem.W.Frag)(hK:X.K=K:=by rfl):("sorted",aMj K).54:=by
 subst hK;intro pins s σ H vs us Q I r h;obtain⟨a,qs,ws,n,rfl,hs,hp,z8,hlen,h2,hb,q⟩:=h;obtain⟨bY,rv,hl,hzz⟩:=K.5;rw[y.5];have hits:bY=G.10:=by
  clear hs hp hl hzz
  induction qs generalizing bY with
  |nil=>cases rv;rfl
  |cons y ys ih=>
   cases rv with
   |cons r t=>cases r;rw[ih _ t];rfl
 subst hits;have hqw:qs.length=ws.length:=aO hp;have hz:∀x∈qs.zip ws,(x.1,(x.2).48).5:=rE hp;have IA:∀x∈qs.zip ws,(s.heap,.ref x.1).113=some (vR x.2):=λx hx=>by obtain⟨_,bY,rv,⟨o,ho,hc,m,hd⟩,_⟩:=I.cZ _ _ (hz x hx);exact M8 ho hc hd (yN 0 (by simpa using rv))
 have hmq:∀b∈qs,∃k,(b,k)∈qs.zip ws:=λb hb=>by obtain⟨i,hi⟩:=gC hb;have hil:=hi.535;refine⟨ws[i]'(b.3),List.mem_of_getElem? (i:=i) ?_⟩;rw[jW];exact⟨hi,b.4⟩
 have hk:∀v,v∈G.10->∃l,(s.heap,v).113=some l:=λv hv=>by obtain⟨b,hb,rfl⟩:=a5.mp hv;obtain⟨k,hk⟩:=hmq b hb;exact(IA _ hk).20
 have hL:((G.10).length).37:=bJ.663
 refine PyProof.Rows.G.sortedG (κ:=PyProof.Rows.G.tupKindC s.heap w.5) (kd:=tuples' true) hl.isList (PyProof.Rows.G.tupKeys hk) (λs₂ k=>PyProof.Rows.G.tupC_ltAt (s:=s₂) true k) (λaKp A E s₂ Q k hq=>?_) hL λiO g9 aCr _=>?_
 . rw[aA,hqw] at aKp;have hn:=h2 aKp;have ht: ∃fs,TupsOf s.heap w.5 G.10 fs:=by
    have: ∀(l:i.3),(∀b∈l,b∈qs)->∃fs,TupsOf s.heap w.5 (l.map Value.ref) fs:=by
     intro l
     induction l with
     |nil=>intro _;exact⟨[],.nil⟩
     |cons b l ih=>
      intro hl';obtain⟨fs,hfs⟩:=ih λc hc=>hl' c hc.545;obtain⟨k,hk⟩:=hmq b (hl' b u.4);obtain⟨_,bY,rv,⟨o,ho,hc,m,hd⟩,_⟩:=I.cZ _ _ (hz _ hk);have hkl:k.length=n:=hlen k (wD hk).2
      cases k with
      |nil=>simp at hkl;omega
      |cons y k=>
       cases rv with
       |cons r t=> obtain⟨tk,rfl⟩:=r;exact⟨_::fs,.cons ⟨b,o,_,m,rfl,ho,hc,hd,rfl,λ_=>(_).63,λh=>A.5⟩ hfs⟩
    exact this qs λb hb=>hb
   obtain⟨fs,ht⟩:=ht;exact tup_kind (s:=s₂) (aEu ht,aA).65 (PyProof.Rows.G.TupsOf.keep k ht) hq
 . have kY:(arrOf iO).toList.Perm (qs.zip ws,x.1).139:=by
    have e:=Array.perm_iff_toList_perm.mp g9;rw[pairsOf_toList] at e;refine e.trans (List.Perm.of_eq ?_);have e1:qs=(qs.zip ws).607:=(List.map_fst_zip b.3).85
    conv=>lhs;rw[e1]
    generalize qs.zip ws=zs
    induction zs with
    |nil=>rfl
    |cons z zs ih=>simp only [List.map_cons,List.zip_cons_cons];rw[ih]
   obtain⟨xs,jH,vC⟩:=qE kY;have hxz:∀x∈xs,x∈qs.zip ws:=λx hx=>vC.mem_iff.mp hx;have hwp:(xs.map (·.2)).Perm ws:=(vC.map (·.2),EV b.3).107
   have aIJ:((arrOf iO).map (·.2)).toList=(xs.map (·.1)).map Value.ref:=by rw[aBv,jH,a9,a9];rfl
   have hsz:xs.length=ws.length:=by have:=hwp.length_eq;rwa [aA] at this
   have hpw:(xs.map (·.2)).Pairwise M.K1:=by
    have aMl:(xs.map (·.2)).Nodup:=hwp.nodup_iff.mpr z8;rw[jX];intro i j hi hj hij;rw[aA] at hi hj;have iK:(xs.map (·.2))[i]'(hi.523)≠(xs.map (·.2))[j]'(hj.523):=jX.mp aMl i j _ _ hij;have hs:=aCr i j b.3 (pairsOf_size,aA).65;have hKK: ∀m (hm:m<xs.length),KK (PyProof.Rows.G.tupKindC s.heap w.5) (arrOf iO) m=vR xs[m].2:=λm hm=>by
     unfold KK;have:((arrOf iO),m,(Value.ref xs[m].1,Value.ref xs[m].1)).4:=by rw[<-bM,jH,aE,aF hm];rfl
     rw[this];show((s.heap,.ref xs[m].1).113).getD []=_;rw[IA _ (hxz _ (eR hm))];rfl
    rw[hKK i hi,hKK j hj] at hs;have hs':(lexLt itemOrd (vR xs[j].2) (vR xs[i].2)).25:=hs;simp only [List.getElem_map] at iK⊢;rcases M.FE xs[i].2 xs[j].2 with h|h|h
    . exact h
    . exact absurd h iK
    . rw[TV h] at hs';cases hs'
   obtain⟨ep,he'⟩:=PyProof.Rows.sortedAll_at s.heap G.10 ((arrOf iO).map (·.2));have hv:Vals ((xs.map (·.1)).map V.ref) ((arrOf iO).map (·.2)).toList:=by
    rw[aIJ];generalize N.10=ys
    induction ys with
    |nil=>exact .nil
    |cons y ys ih=>exact ih.511
   refine⟨.ref _,upd H O.3 (.lst ((xs.map (·.1)).map V.ref)),I.laid (t':=s.toks) (λ_ _=>PyProof.Rows.sortedAll_old) (u7 _) ⟨by rw[aA,aA,bJ];omega,_,ep,hv,he'⟩,rfl,?_⟩;exact q _ _ _ hwp hpw (vS λx hx=>hz x (hxz x hx)) (I.cZ.fresh (u7 _))
end
end G.T
namespace G.T
open PySem PySem.Spec PyProof.Rows
open Sem (wp)
abbrev NK:=Int×f.3×f.3
section
variable{prog:Program}{w:World}
def AB(prog:Program)(w:World)(h:Heap)(k:NK)(a:Addr):Prop:=∃(o:Obj) (items:R.3) (n:Nat) (tk:Tok) (b c:Addr),a.52/\o.cls=c.5/\o.data= .seq items n/\items.toList=[.int k.1 tk,z.3,.ref c]/\
 (h,k.2.1,b).19/\(h,k.2.2,c).19
theorem AB.typeIs{s:Shared}{k:NK}{a:Addr}(x:k.714):s.TypeIs p.3 "tuple":=let ⟨o,_,_,_,_,_,ho,hc,_⟩:=x;⟨o,ho,hc⟩
theorem AB.inj{h:Heap}{a:Addr}{x y:NK}(hx:AB prog w h x a)(hy:AB prog w h y a):x=y:=by obtain⟨o,items,n,tk,b,c,ho,_,hd,hi,hb,hc⟩:=hx;obtain⟨o',aUJ,n',tk',b',c',JF,_,VB,OG,ZU,CA⟩:=hy;rw[ho] at JF;cases JF;rw[hd] at VB;cases VB;rw[hi] at OG;injection OG with e1 e2;injection e2 with e2 e3;injection e3 with e3 _;injection e1 with e1 _;cases e2;cases e3;obtain⟨x1,x2,x3⟩:=x;obtain⟨y1,y2,y3⟩:=y;dsimp only at *;rw[e1,hb.inj ZU,hc.inj CA]
theorem AB.keeps{h h':Heap}{k:NK}{a d:Addr}{o:Obj}{es:A.11}{ep:Nat}(x:AB prog w h k a)(ho:d.52)(hd:o.data= .dict es ep)(hs:Heap.SameBut d h h'):AB prog w h' k a:=by
 obtain⟨o',items,n,tk,b,c,JF,z7,VB,hi,hb,hc⟩:=x;have iK:a≠d:=by rintro rfl;rw[ho] at JF;cases JF;rw[hd] at VB;cases VB
 exact⟨o',items,n,tk,b,c,(hs.2 a iK).trans JF,z7,VB,hi,hb.keeps ho hd hs,hc.keeps ho hd hs⟩
def aAL(prog:Program)(w:World)(k:NK):Int:=reduceHash G.15
variable{A:Around}{E:l.3}{s:Shared}
theorem aDX{k:NK}{a:Addr}{Q:Int.49}(hu:(A.units+1).61)(hk:k.714)(h:Q (aAL prog w k) {s with toks:=s.toks+(k.2.1.length+k.2.2.length+4)}):
 (pyHash p.3).65:=by
 have hT:=hk.typeIs;obtain⟨o,items,n,tk,b,c,ho,_,hd,hi,hb,hc⟩:=hk;unfold pyHash;first|unfold pyHashByItsType|skip
 first|refine aB (wpAny_cRoomFor_or (.inr b.3) ?_)|skip
 refine aB (rV hT u0.lookup ?_);show wpAny _ _ ((some (Value.builtin "tuple.__hash__")==some Value.none)).40 Q E s;rw[if_neg (beq_builtin_none,a8).3];refine aB (rV hT u0.lookup ?_);show wpAny _ _ (callSpecialIfBoundUnlessNone? p.3 "__hash__" _>>=_) Q E s;refine aB (wpAny_callSpecialIfBoundUnlessNone?_slot hT u0 (eW u0 hT F.entry_tuple_hash ?_ (F.args_tuple_hash_1 _)));show wpAny _ _ (Builtin.Tuple.tupleItemsOf p.3>>=_) _ _ s;refine aB (aEy ho hd ?_);refine aB ?_;rw[<-pN,hi];have hu1:A.in1.units.61:=hu;rw[fR];refine aB (aB ((Q.4).pyHash (k:=k.1) (EX _ _ _ _) ?_));refine m.3;dsimp only;rw[fR];refine aB (aB (aEx (s:=R.5) hu1 hb ?_));refine m.3;dsimp only;rw[fR];refine aB (aB (aEx (s:={s with toks:=s.toks+1+(k.2.1.length+1)}) hu1 hc ?_));refine m.3;dsimp only;rw[rL];refine m.3;show wpAny _ _ (retInt G.15) _ _ _;refine wpAny_ret_mkInt ?_;have e:s.toks+1+(k.2.1.length+1)+(k.2.2.length+1)+1=s.toks+(k.2.1.length+k.2.2.length+4):=b.3
 unfold aAL reduceHash at h;generalize G.15=th at h;show wpAny _ _ (((-(2).33^63,th).52&&(th,2^63).35)).40 Q E _;by_cases hr:(((-(2).33^63,th).52&&(th,2^63).35)).7
 . rw[if_pos hr];rw[if_pos hr] at h;refine m.3;dsimp only;rw[e];exact h
 . rw[if_neg hr];rw[if_neg hr] at h;refine aB (O4 m.3);dsimp only;rw[e];exact h
theorem aAM{x y:NK}{a b:Addr}{Pp:Fin.49}(hu:A.units.61)(hx:x.714)(hy:AB prog w s.heap y b)(h:Pp (.done (.ret (.bool (x,y).11))) s):
 wpAny (model prog w) A (Builtin.«tuple.__eq__» ([p.3,z.3]).93) Pp E s:=by
 have hTb:=hy.typeIs;obtain⟨oa,xs,na,ta,a1,a2,hoa,_,hda,hia,ha1,ha2⟩:=hx;obtain⟨ob,ys,nb,tb,b1,b2,hob,_,OA,hib,YZ,S1⟩:=hy;show wpAny _ _ (isInstance z.3 c.5>>=_) _ _ s;refine aB (pO hTb US ?_);simp only [Bool.not_true,Bool.false_eq_true,if_false];refine aB (aEy hoa hda ?_);refine aB (aEy hob OA ?_);refine aB ?_;rw[hia,hib];obtain⟨x1,x2,x3⟩:=x;obtain⟨y1,y2,y3⟩:=y;dsimp only at *;simp only [List.zip_cons_cons,List.zip_nil_right];have hsz:((xs.size==ys.size)).7:=by have e1:=hia.554;have e2:=hib.554;rw[Array.length_toList] at e1 e2;rw[e1,e2];rfl
 rw[fR];refine aB (aB ((Q.4).eqBool (a:=x1) (b:=y1) (EX _ _ _ _) (EX _ _ _ _) ?_));by_cases h1:x1=y1;case neg=>rw[aQ h1];have hf:((x1,x2,x3),(y1,y2,y3)).11.25:=aQ λe=>h1 (by injection e);rw[hf] at h;simp only [Bool.not_false,if_true];exact aH (aH (aH h))
 rw[decide_eq_true h1];simp only [Bool.not_true,Bool.false_eq_true,if_false];refine m.3;dsimp only;rw[fR];refine aB (aB (aEw hu ha1 YZ ?_));by_cases h2:x2=y2;case neg=>rw[aQ h2];have hf:((x1,x2,x3),(y1,y2,y3)).11.25:=aQ λe=>h2 (by injection e with _ e;injection e);rw[hf] at h;simp only [Bool.not_false,if_true];exact aH (aH (aH h))
 rw[decide_eq_true h2];simp only [Bool.not_true,Bool.false_eq_true,if_false];refine m.3;dsimp only;rw[fR];refine aB (aB (aEw hu ha2 S1 ?_));by_cases h3:x3=y3;case neg=>rw[aQ h3];have hf:((x1,x2,x3),(y1,y2,y3)).11.25:=aQ λe=>h3 (by injection e with _ e;injection e);rw[hf] at h;simp only [Bool.not_false,if_true];exact aH (aH (aH h))
 rw[decide_eq_true h3];simp only [Bool.not_true,Bool.false_eq_true,if_false];refine m.3;dsimp only;rw[rL];refine m.3;dsimp only;refine m.3;have ht:((x1,x2,x3),(y1,y2,y3)).11.7:=decide_eq_true (by rw[h1,h2,h3]);rw[ht] at h;show Pp (.done (.ret (.bool (xs.size==ys.size)))) s;rw[hsz];exact h
theorem aDY{x y:NK}{a b:Addr}{Q:Bool.49}(hu:(A.units+1).61)(hx:x.714)(hy:AB prog w s.heap y b)(h:Q (x,y).11 s):
 (eqBool p.3 z.3).65:=by
 unfold eqBool;try with_reducible refine c9 ?_
 show wpAny _ _ ((D.5==Value.ref b)).40 Q E s;by_cases VZ:((D.5==Value.ref b)).7
 . rw[if_pos VZ];have e:a=b:=by have:=eq_of_beq VZ;injection this
   subst e;obtain rfl:=hx.inj hy;exact aB (O4 (aH m.4))
 . rw[if_neg VZ];exact aB (wpAny_richCompare_same_room (op:= .Eq) hx.typeIs hy.typeIs RV
    (eW RV hx.typeIs F.entry_tuple_eq (aAM hu hx hy ⟨_,rfl,(λe=>nomatch e),fU h⟩) (F.args_tuple_eq_2 _ _)) (b.3))
theorem aCs{ks:f.3}{a:Addr}{m:Nat}{Q:Bool.49}(hk:(s.heap,ks,a).19)(h:Q true s):(eqIsQuiet (m+1) p.3).65:=by
 have hT:=hk.typeIs;obtain⟨o,items,n,ho,_,hd,hi⟩:=hk;unfold eqIsQuiet;refine aB (rV hT RV.lookup ?_);show wpAny _ _ (isInstance p.3 c.5>>=_) _ _ s;refine aB (pO hT US ?_);simp only [Bool.not_true,Bool.false_eq_true,if_false];refine aB (pG ho hd ?_);refine aB ?_;show wpAny _ _ (forIn items _ _) _ _ s;rw[<-pN];refine o.15
 . rintro v rest r s' ⟨hr,rfl,i3⟩;rw[eqIsQuiet_byValue _ (i3 v cI)];refine aB m.3;simp only [Bool.not_true,Bool.false_eq_true,if_false];exact i.15
 . rintro⟨r1,r2⟩ s' ⟨hr,rfl,_⟩;simp only at hr;subst hr;exact aH h
theorem aGi{k:NK}{a:Addr}{Q:Bool.49}(hk:k.714)(h:Q true s):(eqIsQuiet 8 p.3).65:=by have hT:=hk.typeIs;obtain⟨o,items,n,tk,b,c,ho,_,hd,hi,hb,hc⟩:=hk;unfold eqIsQuiet;refine aB (rV hT RV.lookup ?_);show wpAny _ _ (isInstance p.3 c.5>>=_) _ _ s;refine aB (pO hT US ?_);simp only [Bool.not_true,Bool.false_eq_true,if_false];refine aB (pG ho hd ?_);refine aB ?_;show wpAny _ _ (forIn items _ _) _ _ s;rw[<-pN,hi,fR];rw[eqIsQuiet_byValue _ (show(carriedByValue (Value.int k.1 tk)).7 from rfl)];refine aB (aB m.3);simp only [Bool.not_true,Bool.false_eq_true,if_false];refine m.3;dsimp only;rw[fR];refine aB (aB (aCs hb ?_));simp only [Bool.not_true,Bool.false_eq_true,if_false];refine m.3;dsimp only;rw[fR];refine aB (aB (aCs hc ?_));simp only [Bool.not_true,Bool.false_eq_true,if_false];refine m.3;dsimp only;rw[rL];exact aH (aH h)
end
def M9(prog:Program)(w:World):HeapKind prog w NK where
 is:=AB prog w
 hash:=aAL prog w
 draws:=λk=>k.2.1.length+k.2.2.length+4
 room:=λA=>(A.units+1).61
 inj:=λhx hy=>hx.inj hy
 keeps:=λx ho hd hs=>x.keeps ho hd hs
 pyHash:=λhu hk h=>aDX hu hk h
 eqBool:=λhu hx hy h=>aDY hu hx hy h
 quiet:=λhk h=>aGi hk h
end G.T
namespace G.T
open PySem PySem.Spec PyProof.Rows L2
def aDZ(x:NK×Addr):NK×Addr×Value:=(x.1,x.2,.bool true)
def EB(P:Program)(w:World)(a:Addr)(xs:NK.590)(h:Heap):Prop:=a.620/\∃(o:Obj) (es:A.11) (ep:Nat),a.52/\o.ExactDict/\o.data= .dict es ep/\
 es.toList=(xs.map aDZ).map (entryOfKey (M9 P w))/\(xs.map (·.1)).Nodup/\k.10
def FY(H:Hp)(k:NK)(q:Addr):Prop:=∃b c,(q,.tup [.int k.1,z.3,.ref c]).5/\(.tup (k.2.1).95).45/\(c,.tup (k.2.2).95).5
def IQ(P:Program)(w:World)(H:Hp)(a:Addr)(ks:List NK):Prop:=∃xs:NK.590,(.ext (EB P w a xs)).72/\N.10=ks/\∀x∈xs,FY H x.1 x.2
theorem FY.same{H H':Hp}{k:NK}{q:Addr}(ht: v.15)(x:FY H k q):FY H' k q:=by obtain⟨b,c,h1,h2,h3⟩:=x;exact⟨b,c,ht _ _ h1,ht _ _ h2,ht _ _ h3⟩
theorem IQ.same{P:Program}{w:World}{H H':Hp}{a:Addr}{ks:List NK}(ha: ∀o,o.72->(H' a).23)(ht: v.15)(x:IQ P w H a ks):IQ P w H' a ks:=by obtain⟨xs,h1,h2,h3⟩:=x;exact⟨xs,ha _ h1,h2,λy hy=>(h3 y hy).same ht⟩
section
variable{X:Cx}{pins:j.3}{σ:L2.St}{H:Hp}{s:Shared}{P:Program}{w:World}
theorem XT{H:Hp}{h:Heap}{q:Addr}{k:f.3}(ok:V.3)(hq:(q,.tup (k.map V.int)).5):IsTupleKey (PySem.intKind P w) h k q:=by
 obtain⟨hzz,bY,rv,⟨o,ho,hc,n,hd⟩,_⟩:=ok q _ hq;refine⟨o,bY.toArray,n,ho,hc,hd,?_⟩;simp only [List.toList_toArray];clear ho hd hzz hq
 induction k generalizing bY with
 |nil=>cases rv;exact .nil
 |cons a k ih=>
  cases rv with
  |cons r t=> obtain⟨tk,rfl⟩:=r;exact .cons (EX _ _ _ _) (ih _ t)
theorem FY.is{H:Hp}{h:Heap}{k:NK}{q:Addr}(ok:V.3)(x:FY H k q):AB P w h k q:=by
 obtain⟨b,c,h1,h2,h3⟩:=x;obtain⟨_,bY,rv,⟨o,ho,hc,n,hd⟩,_⟩:=ok q _ h1;match bY,rv with
 |_,.cons r1 (.cons r2 (.cons r3 .nil))=> obtain⟨tk,rfl⟩:=r1;cases r2;cases r3;exact⟨o,_,n,tk,b,c,ho,hc,hd,rfl,XT ok h2,XT ok h3⟩
theorem IQ.dict{H:Hp}{h:Heap}{a:Addr}{xs:NK.590}(ok:V.3)(h1:(.ext (EB P w a xs)).72)(h3: ∀x∈xs,FY H x.1 x.2):h.DictOfH (M9 P w) a (xs.map aDZ):=by obtain⟨⟨_,o,es,ep,ho,hx,hd,he,hn,_⟩,_⟩:=ok a _ h1;refine⟨o,es,ep,ho,hx,hd,he,λx IE=>?_,(a9,hn).3⟩;obtain⟨y,hy,rfl⟩:=a5.mp IE;exact(h3 y hy).is ok
theorem RC{xs:NK.590}{k:NK}:(atKey (xs.map aDZ) k).isSome=decide (k∈xs.map (·.1)):=by
 unfold atKey;rw[Option.isSome_map,cR,List.find?_isSome,decide_eq_true_eq,a5];constructor
 . rintro⟨x,hx,h⟩;obtain⟨y,hy,rfl⟩:=a5.mp hx;exact⟨y,hy,cB h⟩
 . rintro⟨y,hy,h⟩;exact(a5.mpr (y,hy).34,B.10).27
def aUL(P:Program)(w:World):R2:=λx y H Q=>∃(a q:Addr) (ks:List NK) (k:NK),x= .ref q/\y=p.3/\IQ P w H a ks/\FY H k q/\(decide (k∈ks)).572
theorem aKr(P:Program)(w:World)(hu:j.11)(hP:X.prog=P:=by rfl)(hw:X.w=w:=by rfl):(.In,aUL P w).45:=by subst hP;subst hw;intro pins s σ H x y v u Q I rx ry h;obtain⟨a,q,ks,k,rfl,rfl,⟨xs,h1,h2,h3⟩,hk,hq⟩:=h;cases rx;cases ry;have IG:=(I.cZ a _ h1).1.1;refine wpAny_in_heap (knd:=M9 X.prog X.w) (show(X.A.in1.units+1).61 by show(X.A.units+1+1).61;omega) (hk.is I.cZ) IG (IQ.dict I.cZ h1 h3) ?_;rw[RC,h2];exact(_,I.tok _,hq).27
theorem RE{a:Addr}{xs:NK.590}{h1 h2:Heap}(x:EB P w a xs h1)(k: ∀o,(h1.get? a).23->(h2.get? a).23):EB P w a xs h2:=by obtain⟨lo,o,es,ep,ho,r⟩:=x;exact⟨lo,o,es,ep,k _ ho,r⟩
def aPV(P:Program)(w:World):TE:=λ_ H Q=>(upd H p (.ext (EB P w p []))).644
theorem aIN(P:Program)(w:World){pos:Pos}(hP:X.prog=P:=by rfl)(hw:X.w=w:=by rfl):PE X (.Dict [] [] pos) (aPV P w):=by
 subst hP;subst hw;intro pins s σ H Q I h;have IG:((s.heap.objs.size:Addr)).620:=fG.mpr (Ne.symm (bS I.big));exact wpAny_Dict_empty ⟨A.10,_,I.laid (a:=s.heap.objs.size) (o:= .ext (EB X.prog X.w s.heap.objs.size [])) (t':=s.toks) (λ_ _ q=>aN _ q) (aS _)
  ⟨⟨IG,_,#[],0,G.3,rfl.617,rfl,rfl,eO,aW _⟩,G.3.20,λh1 h2 x k=>RE x k⟩,rfl,h _ T.4⟩
def aPW(P:Program)(w:World)(td ty tv:TE):TS:=λD σ H=>tv σ H λv H1=>td σ H1 λx H2=>ty σ H2 λy H3=>∃(a q:Addr) (ks:List NK) (k:NK),v= .bl true/\x=p.3/\y= .ref q/\IQ P w H3 a ks/\FY H3 k q/\ks.length<sizeLine/\
 ∀xs:NK.590,IQ P w (upd H3 a (.ext (EB P w a xs))) a (if k∈ks then ks else ks++[k])->D.nx σ (upd H3 a (.ext (EB P w a xs)))
theorem aAN{xs:NK.590}{k:NK}{q:Addr}:storedH (xs.map aDZ) k q (.bool true)=(if k∈xs.map (·.1) then xs else xs++[(k,q)]).map aDZ:=by
 unfold storedH;rw[RC];by_cases h:k∈N.10
 . rw[if_pos B.10,if_pos h];clear h
   induction xs with
   |nil=>rfl
   |cons x xs ih=> rw[List.map_cons,List.map_cons,ih];congr 1;unfold putAt aDZ;dsimp only;split<;>rfl
 . rw[if_neg (aQ h).89,V.4,bH];rfl
theorem aCt(P:Program)(w:World){o i value:Expr}{pos pos':Pos}{td ty tv:TE}(hu:j.11)(ho:PE X o td)(hi:PE X i ty)(hv:PE X value tv)(hs:(value,pos'.698).130)(hP:X.prog=P:=by rfl)(hw:X.w=w:=by rfl):
 (pos'.698,value,aPW P w td ty tv).37:=by
 subst hP;subst hw;intro pins s σ H D I h;refine(λiv s3 ⟨y,H3,I3,ry,a,q,ks,k,ev,ex,ey,hL,hk,hl,q3⟩=>?_).823;subst ev;subst ex;subst ey;cases rx;cases ry;cases rv;obtain⟨xs,h1,h2,h3⟩:=hL;have cZ:=I3.cZ a _ h1;obtain⟨⟨lo,ob,es,ep,hob,hx,hd,he,hn,hz⟩,_⟩:=cZ;have hxl:xs.length=ks.length:=by rw[<-h2,aA]
 refine wpAny_setItem_heap (knd:=M9 X.prog X.w) (hsz:=hz.523) (show(X.A.in1.units+1).61 by show(X.A.units+1+1).61;omega) (hk.is I3.cZ) (IQ.dict I3.cZ h1 h3) λh' dd' hsb=>?_;rw[aAN] at dd';generalize aMm:(if k∈xs.map (·.1) then xs else xs++[(k,q)])=xs' at dd';have hks:xs'.map (·.1)=if k∈ks then ks else ks++[k]:=by
  rw[<-aMm,<-h2];split
  . rfl
  . rw[bH];rfl
 have hl':xs'.length.37:=by
  rw[<-aMm];split
  . exact hz
  . rw[List.length_append,List.length_singleton];omega
 obtain⟨o2,es2,ep2,g1,g2,g3,g4,_,g5⟩:=dd';rw[a9] at g5;have iK:∀b ys,H3 b=some (.tup ys)->(upd H3 a (.ext (EB X.prog X.w a xs'))) b=some (.tup ys):=λb ys e=>((e,h1).32,e).29
 have I4:L2.Inv X pins σ (upd H3 a (.ext (EB X.prog X.w a xs'))) {s3 with heap:=h',toks:=s3.toks+(M9 X.prog X.w).draws k}:=
  p6 I3 h1.574 hsb ⟨o2,g1⟩ ⟨⟨lo,o2,es2,ep2,g1,g2,g3,g4,g5,hl'⟩,⟨o2,g1⟩,λh1 h2 x k=>RE x k⟩
 refine⟨σ,_,I4,q3 xs' ⟨xs',aI,hks,λx hx=>?_⟩⟩;rw[<-aMm] at hx;have:FY H3 x.1 x.2:=by
  split at hx
  . exact h3 x hx
  . rcases List.mem_append.mp hx with hx|hx
    . exact h3 x hx
    . rw[List.mem_singleton] at hx;subst hx;exact hk
 exact this.same iK
end
end G.T
namespace G
open PySem PySem.Spec PyProof.Rows L2
theorem B0{ns:a.3}: ∀{ms:f.3},(∀k∈ms,k∈ns.map o.4)->∃ls:a.3,ms=ls.map o.4
 |[],_=>([]).80
 |m::ms,h=>by obtain⟨n,_,e⟩:=a5.mp (h m u.4);obtain⟨ls,el⟩:=B0 (ms:=ms) λk hk=>h k hk.545;exact⟨n::ls,by rw[List.map_cons,<-e,<-el]⟩
theorem cast_inj{n:Nat}{l:a.3}:n.6∈l.map o.4↔n∈l:=by
 rw[a5];constructor
 . rintro⟨a,h,e⟩;have:a=n:=b.3
   exact this▸h
 . intro h;exact⟨n,h,rfl⟩
theorem sub_len{ns:a.3}{ds:f.3}(h1:ds.Nodup)(h2: ∀k,k∈ds->k∈ns.map o.4):ds.length<=ns.length:=(T.len_sub h1 h2,aA).107
section
variable{P:Program}{w:World}{K:PySem.W.Frag}{mg:k.3}{base:Heap}{A:Ad}
def aIO:Sp:=λvs H Q _=>∃(pa le b:Addr) (x y:Nat) (letters bl:a.3),vs=[.ref pa,.ref le,z.3]/\(pa,[x,y]).13/\(le,letters).13/\bl.48.45/\
 x<bl.length/\y<bl.length/\bl.length<=8/\letters.length<=10/\∀H' l ls,s.3->l.21->(letters.727)->ls.length<=letters.length->fT H' l ls.728->l.84
theorem yO:(["pair","letters","blank","spans","letter","mask","first","other"],["pair","letters","blank"],AK).5:=o.3
theorem uA(ls letters:a.3)(x y:Nat)(bl:a.3):(ls.728,ls.length).8:=by
 unfold M.gF;refine aG (M.fO (k:=1) λc _=>?_) b.3
 cases M.iB bl x C.14 with
 |none=>simp
 |some f=>simpa using M.lR _ _ _ _
theorem yP(T:n.3):dC P w K mg base kJ 4 "alike_spans" ["pair","letters","blank"] aIO:=by
 refine T.AY.ok yO Y.4 (λvs H Q E h=>by obtain⟨a,p,s,_,_,_,_,rfl,_⟩:=h;rfl) q.3;obtain⟨pa,le,b,x,y,letters,bl,rfl,hPa,hLe,hB,hx,hy,hb8,aPY,k⟩:=h;have ON:(1).27:=t.3;have hrB:(2).27:=t.3;have nd:=yO.nd;refine⟨_,aK (3,c7 aJ).14
  (aK (fF bL rfl (cK (pv 1).820) (4,nd).100
   (aK (bK (i:=5) nd rfl (l.5) (bQ (mU T) ON rfl (aD (fM (own:=[("other",7)]) rfl nd (cK (pv 1)) (y.3) (7).565 cT.38
    (gM,pv 7,pv 4).26) aJ)))
   (aK (6,(HA T,ON,(pv 2,(sA,pv 0,bC).23,pv 5).7).6).14
   (aP ((aBJ,pv 6,w9).9,dB (lI T,hrB,aD (pv 3) (aD (pv 6) ((sA,pv 0,bC).23,pv 5,bC).7)).6).33))))
  (pv 3).47),?_⟩
 refine y.12;have s0:g.5.34:=uQ.76;have EY:((g.5) l).536:=aI;generalize g.5=H0 at s0 EY;refine⟨_,rfl,le,letters.map o.4,rfl,?_,?_,λds p hdn hdm hp=>?_⟩
 . rw[<-mG];exact bP.of (s0 _ _ hLe)
 . intro ds h1 h2;have:=sub_len h1 h2;omega
 have sp:aL H0 (upd H0 p v.11):=(H0,hp).20;refine⟨p,ds,rfl,aI,λns q U2 hn2 hq=>?_⟩;obtain⟨ls,rfl⟩:∃ls:a.3,ns=ls.map o.4:=B0 (ns:=letters) λk hk=>(hdm k).mp (U2.mem_iff.mp hk);have kR:letters.727:=λc=>by rw[<-cast_inj,U2.mem_iff,hdm,cast_inj]
 have hlen:ls.length<=letters.length:=by have h1:=sub_len hdn λk hk=>(hdm k).mp hk;have h2:=U2.length_eq;rw[aA] at h2;omega
 rw[show(ls.map o.4).95=bE ls from(mG ls).symm] at *;have sq:aL (upd H0 p v.11) (upd H0 p v.11,q,bE ls).3:=hq.86;have hQ:(((upd H0 p v.11,q,bE ls).3) q,ls).10:=aI;generalize (upd H0 p v.11,q,bE ls).3=H2 at sq hQ;have M0:aL H0 H2:=sp.trans sq;have s2:H2.34:=s0.trans M0;have hql:q≠l:=λe=>by subst e;rw[sp _ _ EY] at hq;cases hq
 refine⟨q,rfl,hQ.59,eB ((q,bE ls).26) (∃v4 v5 v6,σ=[pa.8,le.8,b.8,l.8,v4,v5,v6,none]/\s.3/\(H' q,ls).10/\fT H' l (ls.take i).728).560
  ⟨_,_,_,rfl,s2,hQ,[],M0 _ _ EY,.nil⟩ (by obtain⟨_,_,_,_,_,h,_⟩:=h;exact bP.of h).552 ?_ ?_⟩
 . rintro i v σ H1 W9 hi ⟨v4,v5,v6,rfl,s1,hQ1,IK⟩ ⟨rfl,hv⟩;rw[aA] at hi;have hci:(ls,ls).28:=aF hi;generalize ls[i]=c at hci;obtain rfl:v=nV c:=by rw[aE,hci] at hv;exact hv.31
   refine⟨_,rfl,le,rfl,hLe.26.59,λD hD=>eK (le,bE letters).26 letters (λo=> .bl (o==c)) aA.85 hD aPY.29 hLe.26.584 ?_ ?_⟩
   . rintro j x' H5 H6 v C hv s5 ⟨rfl,IE⟩ hC;obtain rfl:x'=nV v:=by rw[aE,hv] at IE;exact IE.31
     refine⟨rfl,_,rfl,_,rfl,rfl,(?_).529⟩;show V.bl (nV v,nV c).11=V.bl (v==c);rw[pI]
   . intro H5 s5 zX;refine⟨D,letters.map (λo=>o==c),rfl,(zX,a9).18,aPY.29.523,λH6 s6=>?_⟩;have s16:=s5.trans s6;have s06:=s1.trans s16;have hex:ls.take (i+1)=ls.take i++[c]:=(iM,hci).18
     have pW:(ls.take (i+1)).728=(ls.take i).728++((M.iB bl x C.14).toList.flatMap λf=>M.span f y C.14 0):=by unfold M.gF;rw[hex,bT,List.flatMap_singleton]
     generalize C.14=mask at pW;refine⟨_,rfl,_,rfl,pa,_,_,_,rfl,rfl,bP.of (s06 _ _ hPa),cC (nQ (p:=[x,y]) (s:=0) (by show 0<2;omega)),_,rfl,b,bl,x,mask,rfl,s06 _ _ hB,hx,hb8,λH7 s7 hN=>?_,λH7 r g s7 hN hr7=>?_⟩
     . refine⟨_,rfl,rfl,_,rfl,d5 ?_⟩;refine⟨_,_,_,rfl,s06.trans s7,(s16.trans s7) _ _ hQ1,?_⟩;rw[pW,hN];simpa using (IK.mono s16).mono s7
     . have s07:=s06.trans s7;refine(rfl,gO ?_).106;refine⟨_,rfl,_,rfl,_,rfl,pa,_,_,_,rfl,rfl,bP.of (s07 _ _ hPa),cC (nQ (p:=[x,y]) (s:=1) (by show 1<2;omega)),_,rfl,l,r,_,g,y,mask,0,rfl,(IK.mono s16).mono s7,?_,hr7,?_,?_,λH8 aUM b8=>?_⟩
       . have:=uA (ls.take i) letters x y bl;rw[aX] at this;omega
       . rw[M.lQ hN];exact hy
       . rw[M.lQ hN];exact hb8
       . refine⟨_,_,_,rfl,b8.same s07 uQ,?_,?_⟩
         . exact b8 _ _ ((s16.trans s7) _ _ hQ1) hql
         . rw[pW,hN];simpa using aUM
 . rintro σ H1 ⟨v4,v5,v6,rfl,s1,hQ1,IK⟩;rw[aA,cJ] at IK;exact(k _ _ _ s1 uQ kR hlen IK).28
end
end G
namespace G
open PySem PySem.Spec PyProof.Rows L2
open Sy27 (Clue)
theorem vT{D:_}{t1 rest:TS}{σ:L2.St}{H:Hp}(C:L2.St.53)(h1: ∀σ' H',C σ' H'->rest D σ' H')(h2: ∀Z:L2.St.53,(∀σ' H',C σ' H'->Z σ' H')->t1 {D with nx:=Z} σ H):aHG t1 rest D σ H:=h2 _ h1
theorem EC{X:Cx}(K:PySem.W.Frag)(hK:X.K=K:=by rfl):(bP K H p ys,lN K H p ys).143:=hK▸OC
def pK(p:a.3):List Key:=p.map λ(n:Nat)=>Sum.inl n.6
theorem XU(p:a.3):(pK p).map kV=bE p:=by unfold pK bE;rw[a9];rfl
theorem aAO: ∀{p q:a.3},pK p=pK q->p=q
 |[],[],_=>rfl
 |[],_::_,h=>pK.637
 |_::_,[],h=>pK.637
 |a::p,b::q,h=>by
  unfold pK at h;rw[List.map_cons,List.map_cons] at h;injection h with h1 h2;injection h1 with h1;have:a=b:=b.3
  rw[this,aAO h2]
theorem RF{κ:Type}[DecidableEq κ]{eI:e.5}{k:κ}{v:V}:(putK eI k v).607=if k∈K.11 then K.11 else K.11++[k]:=by
 unfold putK;have e:((eI.any t.11)).7↔k∈K.11:=by
  rw[eQ,a5];constructor
  . rintro⟨x,hx,h⟩;exact⟨x,hx,cB h⟩
  . rintro⟨x,hx,h⟩;exact⟨x,hx,B.10⟩
 by_cases h:k∈K.11
 . rw[if_pos (e.mpr h),if_pos h,a9];refine k9 λx hx=>?_;show(if x.1=k then(x.1,v) else x).1=x.1;split<;>rfl
 . rw[(h (e.mp z)).605,V.4,bH];rfl
theorem none_of{H H':Hp}{a:Addr}(s:s.3)(h:(H' a).9):a.21:=by
 cases hx:H a with
 |none=>rfl
 |some o=>rw[hx.42] at h;cases h
theorem aGk{H1:Hp}{c dx:Addr}(hc:(H1 c).9)(hd:(H1 dx).9)(o o':HO):(upd (dx,o).25 c o').82:=λb v e=>(bF (aY e hc),bF (aY e hd),e).18
theorem RG{v:a.3}(h:1<=v.length):atI (bE v) (-1)=some (nV (v.getLastD 0)):=by
 have iK:v≠[]:=by intro e;rw[e] at h;simp at h
 have e:v=v.dropLast++[v.getLast iK]:=(List.dropLast_concat_getLast iK).symm;have e2:v.getLastD 0=v.getLast iK:=(List.getLastD_eq_getLast?,List.getLast?_eq_getLast iK).18
 rw[e2];conv=>lhs;rw[e]
 rw[qA];exact aFc _ _
theorem vU{α β γ:Type}{F:(α,γ).16}{f:β->γ}: ∀{l:w.3} {m:List β},Paired F l (m.map f)->Paired (λa b=>F a (f b)) l m
 |[],[],_=> .nil
 |_::_,[],h=>A.5
 |[],_::_,h=>A.5
 |_::_,_::_,.cons r t=> .cons r (vU t)
section
variable{P:Program}{w:World}{K:PySem.W.Frag}{mg:k.3}{base:Heap}{A:Ad}
def aD0(C S:Addr):Sp:=λvs H Q _=>∃(c sy:Addr) (cl:Clue) (n:Nat) (syl:d.3),vs=[.ref c,nV n,.ref sy]/\MV C H c cl/\LL H sy syl/\M.N5 syl/\n<=8/\(Sy27.clueOk ⟨n,syl⟩ cl).7/\
 ∀H' x ps,s.3->x.21->fZ S H' x n syl.length ps->M.sI ⟨n,syl⟩ cl ps->x.84
theorem HG:(["clue","signs","syllables","size","blank","spans","patterns","span","sign","row","number"],["clue","signs","syllables"],LX).5:=o.3
theorem XW(T:n.3):dC P w K mg base kJ 8 "shape_of" ["clue","signs","syllables"] (aD0 A.Clue A.Shape):=by
 refine T.L7.ok HG Y.4 (λvs H Q E h=>by obtain⟨a,p,s,_,_,rfl,_⟩:=h;rfl) q.3;obtain⟨c,sy,cl,n,syl,rfl,⟨dc,tx,pa,hC,hTx,hPa⟩,S8,hY,pV,hOk,k⟩:=h;have ON:(1).27:=t.3;have hrB:(2).27:=t.3;have hrD:(4).27:=t.3;have hrE:(5).27:=t.3;have hrF:(6).27:=t.3;have hu:=hr.units;have nd:=HG.nd;refine⟨_,(aK (3,(pv 2).87).123
  (aK (4,(fM (own:=[("sign",8)]) rfl nd (pv 1).519 y.3 (8).531 q.4 (yF T,ON,(pv 3).30).6.99).631).14
  (aK (dY T.vK.760 (aP (5,nd,(FU T,hrE,aD E.3 (E.3,pv 4,pv 2).7).6).17) (aP (dY T.xZ.760 (pv 9,bC).46.819 (aP (dY T.DI.760 (pv 9,wI qH bC).46.819 (aP (dY T.DJ.760 (aK (5,c7 aJ).14
  (aP (dB (lI T,hrB,aD (pv 5) (aD (pv 4) (bC.600,(mU T,ON,(fM (own:=[("number",10)]) rfl nd (pv 3).519 y.3 (10).531 q.4 (jB (aKa K) (pv 10) bC.600 C.11).99).30).6,bC).7)).6))) (aP (5,nd,(DU T,hrF,aD E.3 (bC.600,pv 4,pv 2).7).6).17))))))))
  (aK (6,VU).14
  (aK (fF bL rfl (cK (pv 5)) (7).503 (aP (aBT (jL (Nat.add_le_add_left r.3 _) hu) (pv 6) (pv 7,bC).47 CF rfl)))
  (vL (OM T) hrF rfl (eT (G.T.XN rfl) (by rfl) T.FL mB (pv 6).30,pv 1,pv 3).7).47))))),?_⟩
 have C:=T.FK.cl;obtain⟨as,IL,hP⟩:=id S8;have hl:syl.length.66:=aO hP;have KU:=hY.zN;refine(sy,IL.35).119;rw[show(v.3,syl.length).6 by rw[aA,hl]];refine(n,λD hD=>eK dS C.3 (λ_=>nV (2^syl.length-1)) c.3 hD l.11 C.5 ?_ ?_).74
 . rintro i y H2 H3 d C' hd s2 ⟨rfl,rfl⟩ A7;exact⟨rfl,_,rfl,syl.length,rfl,b.3,A7 _ _ F.3 rfl⟩
 intro H1 s1 yG;refine⟨D,_,rfl,(bP.of yG,q.5).51⟩;have eb:(C.3).map (λ_=>nV (2^syl.length-1))=bE q.11:=by unfold M.blank bE;rw[List.map_replicate,List.map_const',aR]
 rw[eb];have s2:(b,q.11.48).25.82:=hb.509;have hB:((b,q.11.48).25) b=some q.11.48:=aI;generalize (b,q.11.48).25=H2 at s2 hB;have M0:=f.4;have hbl:=M.dR n syl.length;generalize R0:q.11=bl at hB hbl;dsimp only [J7];refine(∃sp gs,σ'=[c.8,n.32,sy.8,syl.length.32,b.8,sp.8,none,none,none,none,none]/\s.3/\fT H' sp gs/\gs.length<=367424/\∀ps,M.LG ps gs->M.sI ⟨n,syl⟩ cl ps).754;case tail=>
  rintro _ H3 ⟨sp,gs,rfl,UY,IK,hgl,hgp⟩;refine λd hd=>?_;have s34:aL H3 (upd H3 d (.dT [])):=(H3,hd).20;have hd4:(upd H3 d (.dT [])) d=some (.dT []):=aI;generalize upd H3 d (.dT [])=H4 at s34 hd4;have hdH:d.21:=by
   cases hx:H d with
   |none=>rfl
   |some o=>rw[UY _ _ hx] at hd;cases hd
  obtain⟨ag,hSg,hPg⟩:=id IK;have hlg:ag.length=gs.length:=aO hPg;refine⟨_,rfl,sp,rfl,(s34 _ _ hSg).59,eB ((sp,ag.map V.ref).26) (λi σ H'=>∃v7 eI ps,σ=[c.8,n.32,sy.8,syl.length.32,b.8,sp.8,d.8,v7,none,none,none]/\s.3/\aL H3 H'/\H' d=some (.dT eI)/\K.11=ps.map pK/\ps.length<=i/\∀p,p∈ps↔∃pl,(p,pl)∈gs.take i)
   ⟨_,[],[],rfl,UY.trans s34,s34,hd4,rfl,aW _,λp=>c.3⟩ (by obtain⟨_,_,_,_,_,h,_⟩:=h;exact bP.of (h _ _ hSg)).552 ?_ ?_⟩
  . rintro i x σ H50 H5 hi ⟨v7,eI,ps,rfl,s5,s35,hd5,N6,hk2,hk3⟩ ⟨rfl,hx⟩;rw[aA,hlg] at hi;have hgi:(gs,gs).28:=aF hi;generalize gs[i]=g at hgi;obtain⟨ba,hba,q1,hq1,hq2⟩:=bO hPg hgi;obtain rfl:x= .ref ba:=by rw[aE,hba] at hx;exact hx.31
    have hlen:eI.length<sizeLine:=by have:=N6.554;rw[aA,aA] at this;rw[bJ];omega
    refine⟨_,rfl,_,rfl,ba,_,_,_,rfl,rfl,lN.of (s35 _ _ hq1),cC rfl,d,_,rfl,aDa.t (k:=pK g.1) hd5 (XU,s35 _ _ hq2).3 hlen,?_⟩;have aIP:eA d H5 (upd H5 d (.dT (putK eI (pK g.1) (.bl true)))):=H5.567;refine⟨_,putK eI (pK g.1) (.bl true),if g.1∈ps then ps else ps++[g.1],rfl,aIP.same s5 hdH,aIP.same s35 hd,aI,?_,?_,?_⟩
    . rw[RF,N6];have e:pK g.1∈ps.map pK↔g.1∈ps:=(a5,⟨λ⟨x,hx,he⟩=>aAO he▸hx,λh=>h.63⟩).3
      by_cases h:g.1∈ps
      . rw[if_pos h,if_pos (e.mpr h)]
      . rw[V.4,(h (e.mp z)).605,bH];rfl
    . split
      . omega
      . rw[List.length_append,List.length_singleton];omega
    . intro p;rw[iM,hgi];have hm:(∃pl,(p,pl)∈gs.take i++[g])↔p∈ps\/p=g.1:=by
       rw[hk3];constructor
       . rintro⟨pl,h⟩;rcases List.mem_append.mp h with h|h
         . exact .inl ⟨pl,h⟩
         . rw[List.mem_singleton] at h;exact .inr (by rw[<-h])
       . rintro (⟨pl,h⟩|h)
         . exact⟨pl,iF _ h⟩
         . exact⟨g.2,dX _ h.89⟩
      show _↔∃pl,(p,pl)∈gs.take i++[g];rw[hm];split
      . exact⟨.inl,λh=>h.elim id λe=>by rw[e];assumption⟩
      . rw[List.mem_append,List.mem_singleton]
  . rintro σ H5 ⟨v7,eI,ps,rfl,s5,s35,hd5,N6,hk2,hk3⟩;rw[aA,hlg] at hk2;rw[aA,hlg,cJ] at hk3;have hF:M.LG ps gs:=⟨hk3,hk2⟩;have hPF:=hgp ps hF;refine⟨_,rfl,d,eI,rfl,hd5,λl qs hl5 hpq=>?_⟩;have sl:aL H5 (H5,l,Q.5).3:=(H5,hl5).20;have hll:(((H5,l,Q.5).3) l,Q.5).12:=aI;generalize (H5,l,Q.5).3=H6 at sl hll;refine(_,_,?_).29;refine λx dx hx hdx _=>?_;have vV:LT H6 l ps:=⟨qs,hll,by rw[N6] at hpq;refine Paired.fV (vU hpq) λq p e=>?_;rw[XU] at e;exact sl _ _ e⟩;have hxn:x.21:=none_of (s5.trans sl) hx;have sm:aL H6 (upd (upd H6 dx (.own x)) x (A.Shape,[]).22):=aGk hx hdx _ _;refine⟨x,dx,l,ps,n,syl.length,rfl,aI,vV.mono sm,hPF.len,pV,KU,hPF.zN.29,λH7 hS7 b7=>(?_).73⟩;exact k _ _ _ (b7.same ((s5.trans sl).trans sm) hxn) hxn hS7 hPF
 have OS:=M0 _ _ hC;have aGl:=M0 _ _ hTx;have aMq:=hPa.mono M0;have aIQ:=S8.mono M0;subst R0
 cases cl with
 |reads t ws y=>
  have h':(Sy27.textOk ⟨n,syl⟩ t).7/\ws.length<=10:=by have h:=hOk;simp only [Sy27.clueOk,Bool.and_eq_true,decide_eq_true_eq] at h;exact⟨h.1,h.2.2.1⟩
  obtain⟨h1,h2⟩:=h';obtain⟨t1,t2,t3⟩:=M.lE.mp h1;refine⟨_,rfl,c,A.Clue,dc,_,_,rfl,OS,C,T.cF,rfl,rfl,_,rfl,gO ?_⟩;refine⟨_,rfl,c,A.Clue,dc,_,_,rfl,OS,C,T.jQ,rfl,_,rfl,c,A.Clue,dc,_,_,rfl,OS,C,T.gK,rfl,_,rfl,_,rfl,tx,pa,b,sy,t,_,ws,syl,rfl,aGl,aMq,hB,aIQ,t3.588,pV.588,t2,h2,hY,λH3 l s3 hl3 RA=>?_⟩;refine(M0.trans s3,RA,M.ZZ hY hOk f).39;have:=M.wK (text:=t) (words:=ws) (bl:=q.11) hY t2;omega
 |first a b' y=>
  have h:=hOk;simp only [Sy27.clueOk,Bool.and_eq_true,decide_eq_true_eq] at h;obtain⟨as2,hA2,hP2⟩:=id aIQ;have SH:as2.length=syl.length:=aO hP2;refine⟨_,rfl,c,A.Clue,dc,_,_,rfl,OS,C,T.cF,rfl,rfl,_,rfl,d5 ?_⟩;refine⟨_,rfl,c,A.Clue,dc,_,_,rfl,OS,C,T.cF,rfl,rfl,_,rfl,gO ?_⟩;refine⟨_,rfl,c,A.Clue,dc,_,_,rfl,OS,C,T.jQ,rfl,_,rfl,sy,rfl,hA2.59,λD2 nP=>eK (sy,as2.map V.ref).26 syl (λv=>nV (v.headD 0)) SH.500 nP KU.29 (λH' s3=>bP.of hA2.54) ?_ ?_⟩
  . rintro j x H5 H6 v C' hv s5 ⟨rfl,hx⟩ A7;obtain⟨cv,OO,tT⟩:=bO hP2 hv;obtain rfl:x= .ref cv:=by rw[aE,OO] at hx;exact hx.31
    have hv1:=((v,hv).69).1;refine⟨rfl,_,rfl,cv,_,_,_,rfl,rfl,bP.of tT.60,cC (j:=0) (nQ hv1),F.3.601⟩;cases v<;>rfl
  . intro H3 s3 A4;refine⟨_,rfl,tx,D2,b,a,b',syl.map (λv=>v.headD 0),_,rfl,aGl.54,(A4,bE,a9).13,hB.54,(h.1).588,(h.2).588,pV.588,KU.523,λH4 l ls s4 hl4 hm hll hS4=>?_⟩;rw[aA] at hll;refine((M0.trans s3).trans s4,hS4,M.Z0 hY hOk hm (aG hll KU) f).39;exact aG (uA _ _ _ _ _) b.3
 |last a b' y=>
  have h:=hOk;simp only [Sy27.clueOk,Bool.and_eq_true,decide_eq_true_eq] at h;obtain⟨as2,hA2,hP2⟩:=id aIQ;have SH:as2.length=syl.length:=aO hP2;refine⟨_,rfl,c,A.Clue,dc,_,_,rfl,OS,C,T.cF,rfl,rfl,_,rfl,d5 ?_⟩;refine⟨_,rfl,c,A.Clue,dc,_,_,rfl,OS,C,T.cF,rfl,rfl,_,rfl,d5 ?_⟩;refine⟨_,rfl,c,A.Clue,dc,_,_,rfl,OS,C,T.cF,rfl,rfl,_,rfl,gO ?_⟩;refine⟨_,rfl,c,A.Clue,dc,_,_,rfl,OS,C,T.jQ,rfl,_,rfl,sy,rfl,hA2.59,λD2 nP=>eK (sy,as2.map V.ref).26 syl (λv=>nV (v.getLastD 0)) SH.500 nP KU.29 (λH' s3=>bP.of hA2.54) ?_ ?_⟩
  . rintro j x H5 H6 v C' hv s5 ⟨rfl,hx⟩ A7;obtain⟨cv,OO,tT⟩:=bO hP2 hv;obtain rfl:x= .ref cv:=by rw[aE,OO] at hx;exact hx.31
    have hv1:=((v,hv).69).1;refine⟨rfl,_,rfl,_,rfl,cv,_,_,_,rfl,rfl,bP.of tT.60,?_,A7 _ _ F.3 rfl⟩;exact RG hv1
  . intro H3 s3 A4;refine⟨_,rfl,tx,D2,b,a,b',syl.map (λv=>v.getLastD 0),_,rfl,aGl.54,(A4,bE,a9).13,hB.54,(h.1).588,(h.2).588,pV.588,KU.523,λH4 l ls s4 hl4 hm hll hS4=>?_⟩;rw[aA] at hll;refine((M0.trans s3).trans s4,hS4,M.aDo hY hOk hm (aG hll KU) f).39;exact aG (uA _ _ _ _ _) b.3
 |value a vs=>
  have h:=hOk;simp only [Sy27.clueOk,Bool.and_eq_true,decide_eq_true_eq] at h;obtain⟨ra,hA2,hP2⟩:=id aMq;obtain⟨rr,rfl,hrr⟩: ∃rr,ra=[rr]/\(H2 rr,vs).10:=by
   cases hP2 with
   |cons q t=>cases t;exact q.28
  refine⟨_,rfl,c,A.Clue,dc,_,_,rfl,OS,C,T.cF,rfl,rfl,_,rfl,d5 ?_⟩;refine⟨_,rfl,c,A.Clue,dc,_,_,rfl,OS,C,T.cF,rfl,rfl,_,rfl,d5 ?_⟩;refine⟨_,rfl,c,A.Clue,dc,_,_,rfl,OS,C,T.cF,rfl,rfl,_,rfl,d5 ?_⟩;refine⟨_,rfl,c,A.Clue,dc,_,_,rfl,OS,C,T.cF,rfl,rfl,_,rfl,gO ?_⟩;refine(λl SH=>?_).596;have s3:aL H2 l.557:=SH.528;have hl3:((l.557) l).536:=aI;generalize l.557=H3 at s3 hl3;have hC3:=OS.54;refine⟨_,rfl,_,rfl,_,rfl,c,A.Clue,dc,_,_,rfl,hC3,C,T.jQ,rfl,tx,_,_,_,rfl,rfl,bP.of aGl.54,(0).547,_,rfl,syl.length,rfl,b.3,b.3,λD2 nP=>eK dS (List.range syl.length) (λv=> .bl (vs.contains v)) c.3 nP (aR,KU.29).3 C.5 ?_ ?_⟩
  . rintro i x H5 H6 d C' hd s5 ⟨rfl,rfl⟩ A7;obtain⟨hi,rfl⟩:i<syl.length/\d=i:=mH hd;have hC4:=hC3.60;refine⟨rfl,_,rfl,_,rfl,c,A.Clue,dc,_,_,rfl,hC4,C,T.gK,rfl,pa,_,_,_,rfl,rfl,bP.of hA2.54.60,(0).547,rr,_,rfl,hrr.54.60.35,rfl,D0 _,F.3.601⟩;show V.bl (inV d.522 (bE vs))=_;rw[dQ];exact cP V.bl (TN _ _)
  . intro H4 s4 G9;refine⟨D2,(List.range syl.length).map (λv=>vs.contains v),rfl,(G9,a9).18,(aR,KU.29).78,λH5 s5=>?_⟩;have s35:=s4.trans s5;have s25:=s3.trans s35;refine⟨l,b,[],q.11,a,M.bitsOf (syl.length,λv=>vs.contains v).91,0,rfl,(s35 _ _ hl3).645,r.3,s25 _ _ hB,(h.1).588,pV.588,λH6 hS6 b6=>?_⟩;refine(b6.same (M0.trans s25) (none_of M0 SH),hS6,M.Z1 hOk f).39;exact(M.lR _ _ _ _).29
 |within t r y=>
  have h':(Sy27.textOk ⟨n,syl⟩ t).7/\1<=r.length/\r.length<=16:=by have h:=hOk;simp only [Sy27.clueOk,Sy27.letters,Sy27.WORD,Bool.and_eq_true,decide_eq_true_eq] at h;exact⟨h.1,h.2.1,cB h.2.2.1⟩
  obtain⟨h1,h2,h3⟩:=h';obtain⟨t1,t2,t3⟩:=M.lE.mp h1;obtain⟨ra,hA2,hP2⟩:=id aMq;obtain⟨rr,rfl,hrr⟩: ∃rr,ra=[rr]/\(H2 rr,r).10:=by
   cases hP2 with
   |cons q t=>cases t;exact q.28
  refine⟨_,rfl,c,A.Clue,dc,_,_,rfl,OS,C,T.cF,rfl,rfl,_,rfl,d5 ?_⟩;refine⟨_,rfl,c,A.Clue,dc,_,_,rfl,OS,C,T.cF,rfl,rfl,_,rfl,d5 ?_⟩;refine⟨_,rfl,c,A.Clue,dc,_,_,rfl,OS,C,T.cF,rfl,rfl,_,rfl,d5 ?_⟩;refine⟨_,rfl,c,A.Clue,dc,_,_,rfl,OS,C,T.cF,rfl,rfl,_,rfl,d5 ?_⟩;refine⟨_,rfl,c,A.Clue,dc,_,_,rfl,OS,C,T.jQ,rfl,_,rfl,c,A.Clue,dc,_,_,rfl,OS,C,T.gK,rfl,pa,_,_,_,rfl,rfl,bP.of hA2,(0).547,_,rfl,_,rfl,tx,rr,b,sy,t,r,_,syl,rfl,aGl,hrr,hB,aIQ,t3.588,pV.588,t2,h2,b.3,hY,λH3 l s3 hl3 RA=>?_⟩;exact hZ _ _ ⟨l,_,rfl,M0.trans s3,RA,M.GK hY t2,λps f=>M.WC hY hOk f⟩
end
end G
namespace G
open PySem PySem.Spec PyProof.Rows L2
theorem NA{ls:a.3}(h:(ls.map o.4).Pairwise (·<=·))(hn:(ls.map o.4).Nodup):ls.Pairwise (· < ·):=by unfold List.Nodup at hn;rw[kG] at h hn;refine List.Pairwise.imp₂ (λa b h1 h2=>?_) h hn;omega
theorem aGm{ns:a.3}{m:Nat}(hb: ∀n∈ns,n<m){ds:f.3}(h1:ds.Nodup)(h2: ∀k,k∈ds->k∈ns.map o.4):ds.length<=m:=by
 have:=T.len_sub h1 (l₂:=(m,o.4).91) λk hk=>by obtain⟨n,hn,rfl⟩:=a5.mp (h2 k hk);exact a5.mpr (n,List.mem_range.mpr (hb n hn)).34
 rw[aA,aR] at this;exact this
section
variable{P:Program}{w:World}{K:PySem.W.Frag}{mg:k.3}{base:Heap}{A:Ad}
def aAP:Sp:=λvs H Q _=>∃(S:Sy27.Script) (a:Addr) (ws:d.3) (sg:Nat),vs=[p.3,nV sg]/\LT H a ws/\(sg<x.length).636/\(x.getD sg 0).659.636/\x.12/\ws.length.62/\
 (H' l,sg.540).10.673
theorem rF:(["ways","sign","way"],["ways","sign"],sM).5:=o.3
theorem rG(T:n.3):dC P w K mg base kJ 1 "possible_values" ["ways","sign"] aAP:=by
 refine T.sR.ok rF I.3 J.14 q.3;obtain⟨S,a,ws,sg,rfl,⟨as,hA,hP⟩,hs,hb,hz,hn,k⟩:=h;have nd:=rF.nd;have hl:ws.length.66:=aO hP;refine(2,2,(pv 2,pv 1).47).42.820.642;refine⟨_,rfl,a,rfl,hA.59,λD hD=>eK a.534 ws (λx=>nV (x.getD sg 0)) hl.500 hD hn.29 (λH' s1=>hA.521) ?_ ?_⟩
 . rintro i x H1 H2 p C hp s1 ⟨rfl,hx⟩ hC;obtain⟨b,hb,ht⟩:=bO hP hp;obtain rfl:x=z.3:=by rw[aE,hb] at hx;exact hx.31
   exact⟨rfl,_,rfl,_,rfl,b,_,_,_,rfl,rfl,lN.of ht.26,cC (nQ (_,hp).94),rfl.529⟩
 . intro H1 s1 yG;have nP:(H1 D,J.11).10:=(yG,bE,a9).13
   generalize hns:ws.map (λx=>x.getD sg 0)=ns0 at nP;have hb0:∀n∈ns0,n<S.values.length:=λn hn=>by rw[<-hns] at hn;obtain⟨x,hx,rfl⟩:=a5.mp hn;exact hb x hx
   refine⟨D,ns0.map o.4,rfl,(mG,bP.of nP).15,λds h1 h2=>?_,λds p hdn hdm hp=>?_⟩
   . have:=aGm hb0 h1 h2;omega
   have sp:(p,v.11).25.82:=hp.509;refine⟨p,ds,rfl,aI,λms q hm1 hm2 hq=>?_⟩;obtain⟨ls,rfl⟩:∃ls:a.3,ms=ls.map o.4:=B0 (ns:=ns0) λk hk=>(hdm k).mp (hm1.mem_iff.mp hk);rw[show(ls.map o.4).95=bE ls from(mG ls).symm] at *;have sq:aL (p,v.11).25 ((p,v.11).25,q,bE ls).3:=hq.86;obtain rfl:ls=sg.540:=M.GN (NA hm2 (hm1.nodup_iff.mpr hdn)) (λv=>by rw[<-cast_inj,hm1.mem_iff,hdm,cast_inj,<-hns,a5]) hb;exact k _ q ((s1.trans sp).trans sq) (none_of (s1.trans sp) hq) aI
def aD3:Sp:=λvs H Q _=>∃(S:Sy27.Script) (a:Addr) (ws:d.3),vs=[p.3,nV S.signs,nV S.values.length]/\LT H a ws/\ws≠[]/\(x.length=S.signs).636/\(∀s,s<S.signs->∀x∈ws,(x.getD s 0).659)/\S.signs<=8/\x.12/\ws.length.62/\
 (H' l,Sy27.certain S ws).10.673
theorem tH:(["ways","signs","size","found","sign","numbers"],["ways","signs","size"],uC).5:=o.3
theorem ED(T:n.3):dC P w K mg base kJ 2 "certain_values" ["ways","signs","size"] aD3:=by
 refine T.uG.ok tH Y.4 V.15 q.3;obtain⟨S,a,ws,rfl,vV,iK,hlen,hb,pV,hz,hw,k⟩:=h;have nd:=tH.nd;rw[M.Z4 iK hb] at k;have ON:(1).27:=t.3;refine⟨_,(aK (3,c7 aJ).14
  (aK (fF bL rfl ((pv 1).519) ((4).503) (aK (5,(rG T,ON,(pv 0,pv 4).21).6).14
  (aP (pv 3,CG (pv 5).87.598 (pv 5,bC).46 (pv 2)).63)))
  (pv 3).47)),?_⟩
 refine y.12;have s0:g.5.34:=uQ.76;have EY:((g.5) l).536:=aI;generalize g.5=H0 at s0 EY;generalize hg:(λa=>(a.540,a.540).135)=g at k;refine⟨_,rfl,S.signs,rfl,b.3,b.3,eB dS (∃v4 v5,σ=[a.8,S.signs.32,S.values.length.32,l.8,v4,v5]/\s.3/\(H' l,(v.4).map g).10).560
  (s0,EY).85 trivial.38 ?_ ?_⟩
 . rintro i x σ H1 W9 hi ⟨v4,v5,rfl,s1,hL⟩ ⟨rfl,rfl⟩;have OG:i<S.signs:=Z.10
   refine⟨_,rfl,_,rfl,S,a,ws,i,?_,vV.mono s1,λx hx=>(hlen x hx,OG).3,hb i OG,hz,hw,λH2 r s2 tG JT=>?_⟩
   . show [r.4,i.522]=_;rw[dQ]
   have kY:(i.540,10).8:=by refine aG ?_ hz;unfold Sy27.possible;refine aG (c6 _ _) ?_;rw[aR];exact aS _
   have hL2:=hL.50;have hgi:g i=(i.540,i.540).135:=by rw[<-hg]
   have fin: ∀v,v=nV (g i)->(H2 l,(v.4).map g).10->∃v4 v5,[a.74,S.signs.32,S.values.length.32,l.74,some i.522,r.74]=[a.74,S.signs.32,S.values.length.32,l.74,v4,v5]/\
    (H2,l,bE ((v.4).map g)++[v]).3.34/\(((H2,l,bE ((v.4).map g)++[v]).3) l,(List.range (i+1)).map g).10:=λv hv _=>by refine(((aL.refl H2,bE ((v.4).map g)++[v]).121).same f.4 uQ,?_).85;rw[aI,dP,bH,qA,hv];rfl
   refine⟨_,rfl,hL2.502,_,rfl,r,_,rfl,JT.35,?_⟩;refine⟨rfl,_,rfl,?_⟩;show(V.int i.540.94.22,nV 1).11.40;rw[show(bE i.540,(i.540).length).6 from aA _,show V.int ((i.540).length).22=nV (i.540).length from rfl,pI];have lO:((v.4).map g).94<sizeLine:=by rw[bE,aA,aA,aR,bJ];omega
   refine p7 (λh1=>?_) λh1=>?_
   . have IC:(i.540,1).6:=t.4
     rw[if_pos IC] at hgi;have hp0:((i.540),0,(i.540).headD 0).4:=by
      cases hp:i.540 with
      |nil=>rw[hp] at IC;simp at IC
      |cons y ys=>rfl
     refine⟨_,rfl,r,_,_,_,rfl,rfl,bP.of JT,cC (j:=0) (bE,aE,hp0).13,l,_,_,rfl,rfl,hL2,lO,?_⟩;exact fin _ hgi.85 hL2
   . have IC:¬(i.540,1).6:=t.4
     rw[if_neg IC] at hgi;refine⟨_,rfl,l,_,_,rfl,rfl,hL2,lO,?_⟩;exact fin _ hgi.85 hL2
 . rintro σ H1 ⟨v4,v5,rfl,s1,hL⟩;exact(k _ _ s1 uQ (by simpa using hL)).28
end
end G
namespace G
open PySem PySem.Spec PyProof.Rows L2
section
variable{P:Program}{w:World}{K:PySem.W.Frag}{mg:k.3}{base:Heap}{A:Ad}
def XX:Sp:=λvs H Q _=>∃(S:Sy27.Script) (wa ta sy:Addr) (x t:a.3),vs=[.ref wa,.ref ta,.ref sy]/\(wa,x.48).5/\(ta,t).13/\LL H sy S.values/\x.759/\(∀a∈t,d.4)/\t.length<=8/\M.N5 S.values/\
 (H' r=some x.68.48).706
theorem A8:(["way","text","syllables","letters","sign"],["way","text","syllables"],C7).5:=o.3
theorem XY{S:Sy27.Script}{x:a.3}(hw:x.759)(hY:M.N5 S.values): ∀t:a.3,(∀a∈t,d.4)->(x.68,3*t.length).8
 |[],_=>Sy27.Script.read.24
 |a::t,h=>by
  have h1:=XY hw hY t λb hb=>h b hb.545;have h2:=((_,M.fE hw (h a u.4)).69).2;have e:S.read x (a::t)=S.valueOf x a++x.68:=Sy27.Script.read.24
  rw[e,List.length_append,List.length_cons];omega
theorem OT(T:n.3):dC P w K mg base kJ 1 "reading_of" ["way","text","syllables"] XX:=by
 refine T.DC.ok A8 Y.4 (λvs H Q E h=>by obtain⟨_,a,p,s,_,_,rfl,_⟩:=h;rfl) q.3;obtain⟨S,wa,ta,sy,x,t,rfl,hW,hTa,⟨as,IL,hP⟩,aAQ,ht,Y1,hY,k⟩:=h;have nd:=A8.nd;refine⟨_,(aK (3,c7 aJ).14
  (aK (fF bL rfl (cK (pv 1)) (4).503 (aP (tZ,pv 3,(pv 2,(pv 0,pv 4).47).46).35))
  (pv 3).631.47)),?_⟩
 refine y.12;have s0:g.5.34:=uQ.76;have EY:((g.5) l).536:=aI;generalize g.5=H0 at s0 EY;refine⟨_,rfl,ta,rfl,(s0 _ _ hTa).59,eB ((ta,bE t).26) (∃v4,σ=[wa.8,ta.8,sy.8,l.8,v4]/\s.3/\(H' l,S.read x (t.take i)).10).560
  ⟨_,rfl,s0,EY⟩ (by obtain⟨_,_,s,_⟩:=h;exact bP.of hTa.42).552 ?_ ?_⟩
 . rintro i v σ H1 W9 hi ⟨v4,rfl,s1,hL⟩ ⟨rfl,hv⟩;rw[aA] at hi;have U0:(t,t).28:=aF hi;generalize t[i]=c at U0;obtain rfl:v=nV c:=by rw[aE,U0] at hv;exact hv.31
   have hc:=ht c (List.mem_of_getElem? U0);have hxl:c<x.length:=(aAQ.1,hc).3
   have XO:=M.fE aAQ hc;obtain⟨b,hb,S1⟩:=bO hP XO;have hgb:((v.3),x.getD c 0,z.3).4:=hb.537
   have e:S.read x (t.take (i+1))=S.read x (t.take i)++S.valueOf x c:=by rw[iM,U0];simp[Sy27.Script.read]
   have hl3:=XY aAQ hY (t.take i) λa ha=>ht a (iG ha);have hl4:=((_,XO).69).2;rw[aX] at hl3;refine⟨_,rfl,hL.502,_,rfl,_,rfl,_,rfl,wa,_,_,_,rfl,rfl,lN.of hW.26,cC (nQ hxl),sy,_,_,_,rfl,rfl,IL.521,cC hgb,l,b,_,_,rfl,rfl,hL,S1.26,?_,_,rfl,?_,?_⟩
   . rw[bE,aA,bE,aA,bJ];omega
   . exact((F.3,bE (S.read x (t.take i))++bE (S.valueOf x c)).121).same s1 uQ
   . rw[aI,e,qA]
 . rintro σ H1 ⟨v4,rfl,s1,hL⟩;rw[aA,cJ] at hL;refine⟨_,rfl,l,_,rfl,(bP.of hL,λr iI=>?_).51⟩;exact aI.796
def aAR:Sp:=λvs H Q _=>∃(wa ra:Addr) (x row:a.3),vs=[.ref wa,.ref ra]/\(wa,x.48).5/\(ra,row).13/\(∀a∈row,a<x.length)/\Q.11/\
 (H' r=some (Sy27.tells x row).48).706
theorem EE:(["way","row","sign"],["way","row"],GP).5:=o.3
theorem TX(T:n.3):dC P w K mg base kJ 1 "values_at" ["way","row"] aAR:=by
 refine T.GY.ok EE I.3 J.14 q.3;obtain⟨wa,ra,x,row,rfl,hW,hR,lO,hrl,k⟩:=h;have nd:=EE.nd;refine(fM (own:=[("sign",2)]) rfl nd (cK (pv 1)) y.3 (2).531 q.4 (pv 0,pv 2).47.99).631.642;refine⟨_,rfl,ra,rfl,hR.59,λD hD=>eK (ra,bE row).26 row (λa=>nV (x.getD a 0)) aA.85 hD hrl.29 (λH' s1=>hR.521) ?_ ?_⟩
 . rintro i y H1 H2 p C hp s1 ⟨rfl,hy⟩ hC;obtain rfl:y=nV p:=by rw[aE,hp] at hy;exact hy.31
   exact⟨rfl,_,rfl,_,rfl,wa,_,_,_,rfl,rfl,lN.of hW.26,cC (nQ (lO _ (List.mem_of_getElem? hp))),rfl.529⟩
 . intro H1 s1 yG;refine⟨D,_,rfl,(bP.of yG,λr iI=>?_).51⟩;refine(?_).796;rw[aI];unfold Sy27.tells bE;rw[a9];rfl
def aD4:Sp:=λvs H Q _=>∃(a ra:Addr) (ws:d.3) (row:a.3),vs=[p.3,.ref ra]/\LT H a ws/\ws.Nodup/\ws.length<=300/\(ra,row).13/\(∀a∈row,a<x.length).636/\Q.11/\
 (Sy27.settles ws row).666
theorem NB:(["ways","row","way"],["ways","row"],QM).5:=o.3
theorem aAS(T:n.3):dC P w K mg base kJ 2 "settles" ["ways","row"] aD4:=by
 refine T.QS.ok NB I.3 J.14 q.3;obtain⟨a,ra,ws,row,rfl,⟨as,hA,hP⟩,z8,hn,hR,lO,hrl,k⟩:=h;have nd:=NB.nd;have hl:ws.length.66:=aO hP;have ON:(1).27:=t.3;have hu:=hr.units;refine(jB gM (a6 G.T.aIM (by rfl) T.c0 aT (eT (G.T.aIL K rfl hu) (by rfl) T.aB5 IY (2,2,(TX T,ON,(pv 2,pv 1).21).6).42.30).30) (pv 0).87 (cG _)).642;refine⟨_,rfl,a,rfl,hA.59,λD hD=>?_⟩;refine vN a.534 ws (λH' b x=>H' b=some (Sy27.tells x row).48) r.12 hl.500 hD hn.29 (λH' s1=>hA.521) ?_ ?_
 . rintro i y H1 H2 x C hx s1 YY ⟨rfl,hy⟩ hC;obtain⟨b,hb,ht⟩:=bO hP hx;obtain rfl:y=z.3:=by rw[aE,hb] at hy;exact hy.31
   refine⟨rfl,_,rfl,_,rfl,b,ra,x,row,rfl,ht.26,hR.26,lO x (List.mem_of_getElem? hx),hrl,λH3 r s3 wZ XB=>?_⟩;refine hC _ _ s3 ?_;rw[(none_of F.3 wZ).762];exact XB
 . intro H1 rs s1 yG hP1;refine⟨D,rs,ws.map λx=>Sy27.tells x row,rfl,bP.of yG,mT hP1,aA.56,λds p hdn hdm hp=>?_⟩;refine⟨p,ds.length,rfl,aI,?_⟩;have s2:=s1.trans ((aL.refl H1).new (o:= .ext (G.T.aGg p ds.length)) hp);refine⟨_,rfl,a,_,rfl,hA.50.35,rfl,?_⟩;have e:(nV ds.length,((v.3).length).22).57=Sy27.settles ws row:=by rw[aA,hl];show(nV ds.length,nV ws.length).11=_;rw[pI,cR,beq_iff_eq];exact M.WG z8 hdn hdm
   rw[e];exact k _ s2
end
end G
namespace G
open PySem PySem.Spec PyProof.Rows L2
theorem aUU{X:Cx}(K:PySem.W.Frag)(hc:P.3)(hK:X.K=K:=by rfl):("max",aOH K).54:=hK▸aLi hc
theorem aUV{X:Cx}(K:PySem.W.Frag)(hc:P.3)(hK:X.K=K:=by rfl):("min",aOI K).54:=hK▸aLj hc
theorem aIS{ws:d.3}{sg v:Nat}:(J.11).count v=(ws.filter λ(x:List Nat)=>x.getD sg 0==v).length:=(List.count_eq_countP,List.countP_map,List.countP_eq_length_filter).13
section
variable{P:Program}{w:World}{K:PySem.W.Frag}{mg:k.3}{base:Heap}{A:Ad}
def XZ:Sp:=λvs H Q _=>∃(S:Sy27.Script) (a:Addr) (ws:d.3) (sg:Nat),vs=[p.3,nV sg,nV S.values.length]/\LT H a ws/\(sg<x.length).636/\1<=S.values.length/\x.12/\ws.length.62/\
 (Q (nV sg.615) H').651
theorem A9:(["ways","sign","size","numbers","way","number"],["ways","sign","size"],C8).5:=o.3
theorem OU(T:n.3):dC P w K mg base kJ 1 "most_alike" ["ways","sign","size"] XZ:=by
 refine T.DD.ok A9 Y.4 J.14 q.3;obtain⟨S,a,ws,sg,rfl,⟨as,hA,hP⟩,hs,hz1,hz,hn,k⟩:=h;have nd:=A9.nd;have hl:ws.length.66:=aO hP;refine⟨_,(aK (3,(4,4,(pv 4,pv 1).47).42).123
  (a6 (aUU K rfl) (by rfl) T.aJ8 PyProof.Rows.boot_max (fM (own:=[("number",5)]) rfl nd (pv 2).519 y.3 (5).531 q.4 (bmL K bA pY PySem.F.type_list_count (aTS K) (pv 3) (pv 5).30).99).30).47),?_⟩
 refine⟨_,rfl,a,rfl,hA.59,λD hD=>eK a.534 ws (λx=>nV (x.getD sg 0)) hl.500 hD hn.29 (λH' s1=>hA.521) ?_ ?_⟩
 . rintro i x H1 H2 p C hp s1 ⟨rfl,hx⟩ hC;obtain⟨b,hb,ht⟩:=bO hP hp;obtain rfl:x=z.3:=by rw[aE,hb] at hx;exact hx.31
   exact⟨rfl,_,rfl,_,rfl,b,_,_,_,rfl,rfl,lN.of ht.26,cC (nQ (_,hp).94),rfl.529⟩
 . intro H1 s1 yG;have nP:(H1 D,J.11).10:=(yG,bE,a9).13
   refine(S.values.length,λD2 aAF=>eK dS (List.range S.values.length) (λv=>nV ((J.11).count v)) c.3 aAF (aR,hz.29).3 C.5 ?_ ?_).74
   . rintro i x H2 H3 p C hp s2 ⟨rfl,rfl⟩ hC;obtain⟨hi,rfl⟩:i<S.values.length/\p=i:=mH hp;refine⟨rfl,_,rfl,nP.50.502,_,rfl,D,(J.11).map o.4,p.6,rfl,?_,(mG,bP.of nP.50).15,(?_).529⟩
     . show [p.522]=_;rw[dQ]
     . rw[S4]
   . intro H2 s2 A4;have G9:(H2 D2,(S.values.length,λv=>(J.11).count v).91).10:=(A4,bE,a9).13
     generalize JH:(List.range S.values.length).map (λv=>(J.11).count v)=cs at G9;refine⟨D2,cs.map o.4,rfl,(mG,bP.of G9).15,?_,λm hm aUW=>?_⟩
     . rw[aA,<-JH,aA,aR];exact hz1
     . obtain⟨m,XC,rfl⟩:=a5.mp hm;have:m=sg.615:=by
        unfold Sy27.left;have e:((S.values.length,λ(v:Nat)=>(ws.filter λ(w:Sy27.Way)=>sg.44==v).length).91)=cs:=(JH,k9 λv _=>aIS.symm).15
        rw[e];refine M.max_eq XC e.10;have:=aUW y.6 (a5.mpr (y,hy).34);omega
       rw[this];exact k _ f.4
def aP5:Sp:=λvs H Q _=>∃(S:Sy27.Script) (a:Addr) (ws:d.3),vs=[p.3,nV S.signs,nV S.values.length]/\LT H a ws/\(x.length=S.signs).636/\1<=S.signs/\S.signs<=8/\1<=S.values.length/\x.12/\ws.length.62/\
 (H' r=some (.tup [nV (Sy27.ask S ws).1,nV (Sy27.ask S ws).2])).739
theorem yQ:(["ways","signs","size","counts","least","sign"],["ways","signs","size"],AI).5:=o.3
theorem aD5{f:Nat->Nat}{n m:Nat}(h: ∃i,i<n/\f i=m): ∃i,i<n/\f i=m/\∀j,j<i->f j≠m:=by
 obtain⟨i,hi,hm⟩:=h
 induction i using Nat.strongRecOn with
 |ind i ih=>
  by_cases hc:∃j,j<i/\f j=m
  . obtain⟨j,hj,hjm⟩:=hc;exact ih j hj b.3 hjm
  . exact⟨i,hi,hm,λj hj e=>hc ⟨j,hj,e⟩⟩
theorem NC(T:n.3):dC P w K mg base kJ 2 "sign_to_ask" ["ways","signs","size"] aP5:=by
 refine T.AW.ok yQ Y.4 V.15 q.3;obtain⟨S,a,ws,rfl,vV,hlen,U2,pV,hz1,hz,hw,k⟩:=h;have nd:=yQ.nd;have ON:(1).27:=t.3;refine⟨_,(aK (lB (i:=3) (own:=[("sign",5)]) rfl nd rfl rfl Y.5 (pv 1).519 y.3 (5).531 q.4 (OU T,ON,(pv 0,pv 5,pv 2).7).6.99)
  (aK (4,a6 (aUV K rfl) (by rfl) T.aB4 PyProof.Rows.boot_min (pv 3).30).14
  (qI (lW bA PySem.F.slot_list_index PySem.F.type_list_index aFd (pv 3) (pv 4).30,pv 4).21).47)),?_⟩
 refine(S.signs,λD hD=>eK dS x.5 (λi=>nV i.615) c.3 hD l.11 C.5 ?_ ?_).74
 . rintro i x H2 H3 p C hp s2 ⟨rfl,rfl⟩ hC;obtain⟨hi,rfl⟩:i<S.signs/\p=i:=mH hp;refine⟨rfl,_,rfl,_,rfl,_,rfl,S,a,ws,p,?_,vV.mono s2,λx hx=>(hlen x hx,hi).3,hz1,hz,hw,λH4 s4=>hC _ _ s4 rfl⟩;show [r.4,p.522,nV S.values.length]=_;rw[dQ]
 . intro H1 s1 yG;have nP:(H1 D,(x.5).map λi=>i.615).10:=(yG,bE,a9).13
   generalize JH:(x.5).map (λi=>i.615)=cs at nP;refine⟨_,rfl,D,cs.map o.4,rfl,(mG,bP.of nP).15,?_,λm hm aLD=>?_⟩
   . rw[aA,<-JH,aA,aR];exact U2
   . obtain⟨m,XC,rfl⟩:=a5.mp hm;have hmi:∃i,i<S.signs/\i.615=m:=by rw[<-JH] at XC;obtain⟨i,hi,e⟩:=a5.mp XC;exact⟨i,List.mem_range.mp hi,e⟩
     obtain⟨i,hi,him,LO⟩:=aD5 hmi;have i3:∀b,b<S.signs->m<=b.615:=λb hb=>(aLD b.615.22 (a5.mpr (JH,a5.mpr (b,List.mem_range.mpr hb).34).15.63)).90
     have aGn:=M.aLC (S:=S) (l:=ws) hi him.symm i3 λb hb=>LO b hb;have aDw:∀j,j<S.signs->(cs,j,j.615).4:=λj hj=>by rw[<-JH,aE,dG hj];rfl
     refine⟨_,rfl,nP.502,_,rfl,D,bE cs,_,i,nV m,rfl,rfl,bP.of nP,rfl,D0 _,?_,?_,?_,_,rfl,?_⟩
     . rw[bE,aE,aDw i hi,him];rfl
     . show((m.6==m.6)).7;exact aBy _
     . intro j z hj hz';rw[bE,aE,aDw j b.3] at hz';cases hz';have:=LO j hj;show(j.615.22==m.6)=false;rw[fG];omega
     . refine⟨(2).514,λr iI=>?_⟩;refine(?_).796;rw[aI,aGn]
end
end G
namespace G
open PySem PySem.Spec PyProof.Rows L2
def nS(n:Nat)(row:a.3):d.3:=y.16
theorem yS(n k:Nat):M.rising n (k+1)=(M.rising n k).flatMap (nS n):=rfl
theorem FZ(n:Nat)(row:a.3):(nS n row,n).8:=by unfold nS;rw[aA,UR];omega
theorem RH(n:Nat): ∀k,(M.rising n k,n^k).8
 |0=>M.rising.24
 |k+1=>(yS,wV,aG (n,FZ n x).84 (eC _ (RH n k))).18
theorem zZ{n:Nat}: ∀k row,row∈M.rising n k->row.length=k/\∀s∈row,s<n
 |0,row,h=>by
  have:row=[]:=by simpa [M.rising] using h
  subst this;exact(λs hs=>by cases hs).73
 |k+1,row,h=>by
  rw[yS] at h;obtain⟨r,hr,h⟩:=List.mem_flatMap.mp h;obtain⟨s,hs,rfl⟩:=a5.mp h;obtain⟨h1,h2⟩:=zZ k r hr;rw[List.mem_range'_1] at hs;refine⟨(List.length_append,h1).18,λa ha=>?_⟩;rcases List.mem_append.mp ha with ha|ha
  . exact h2 a ha
  . rw[List.mem_singleton] at ha;subst ha;omega
theorem aAT{H:Hp}{L b:Addr}{as:i.3}{p:a.3}(hL:L.575)(hb:(b,p).13)(hp:p≠[]):b≠L:=by
 refine cU hb hL ?_;intro z
 cases p with
 |nil=>exact hp rfl
 |cons x p=>
  cases as with
  |nil=>cases z
  |cons y as=>cases z
theorem LL.ext{H:Hp}{L:Addr}{as bs:i.3}{xs ys:d.3}(hL:L.575)(hP:(λb p=>(b,p).13,xs).39)(hx: ∀p∈xs,p≠[])
 (hQ:Paired (λb p=>(b,p).13) bs ys) (hy: ∀p∈ys,p≠[]):LL (H,L,v.3++y.10).3 L (xs++ys):=by
 have keep: ∀{cs:i.3} {zs:d.3},Paired (λb p=>(b,p).13) cs zs->(∀p∈zs,p≠[])->Paired (λb p=>(((H,L,v.3++y.10).3) b,p).10) cs zs:=by
  intro cs zs h
  induction h with
  |nil=>intro _;exact .nil
  |cons r t ih=>intro hz;exact .cons (aAT hL r (hz _ u.4),r).29 (ih λp hp=>hz p hp.545)
 exact⟨as++bs,(aI,bH).7,iE (keep hP hx) (keep hQ hy)⟩
theorem aD6{p:a.3}{x:Nat}(h:p.getLast?=some x):atI (bE p) (-1)=some (nV x):=by
 have hl:1<=p.length:=by cases p with
  |nil=>simp at h
  |cons _ _=>simp
 rw[RG hl,List.getLastD_eq_getLast?,h];rfl
section
variable{P:Program}{w:World}{K:PySem.W.Frag}{mg:k.3}{base:Heap}{A:Ad}
def aGo:Sp:=λvs H Q _=>∃n k:Nat,vs=[nV n,nV k]/\n<=8/\k<n/\(LL H' r (M.rising n k)).706
theorem yT:(["signs","size","rows","turn","longer","row","first","sign"],["signs","size"],AH).5:=o.3
theorem ND(T:n.3):dC P w K mg base kJ 1 "rising_rows" ["signs","size"] aGo:=by
 refine T.AV.ok yT I.3 (λvs H Q E h=>by obtain⟨_,a,rfl,_⟩:=h;rfl) q.3;obtain⟨n,m,rfl,pV,hm,k⟩:=h;have nd:=yT.nd;refine⟨_,(aK (c7 (c7 aJ).30).524
  (aK (fF bL rfl ((pv 1).519) ((3).503) (aK (4,c7 aJ).14
  (aK (fF bL rfl (cK (pv 2)) (5,nd).100 (aK (6,CG (ptT K (pv 5) (λ_=>rfl)) (d6 lY (pv 5,wI qH bC).46 bC) bC).14
  (aP (tZ,pv 4,fM (own:=[("sign",7)]) rfl nd (O8 rfl T.fA (pv 6,pv 0).21) y.3 (7).531 q.4 (d6 KR (pv 5) (c7 (pv 7).30)).99).35)))
  (aP (2,nd,pv 4).17))))
  (pv 2).47)),?_⟩
 refine(λe0 he0=>(λr0 k8=>?_).573).596;have se:(H,e0).23.34:=he0.76;have sr:aL (H,e0).23 ((H,e0).23,r0,e0.43).3:=k8.86;have hE0:((((H,e0).23,r0,e0.43).3) e0,[]).10:=sr _ _ aI;have hR0:((((H,e0).23,r0,e0.43).3) r0,([e0]).571).12:=aI;have hn0:=none_of se k8;have s0:=se.trans sr;generalize ((H,e0).23,r0,e0.43).3=H0 at s0 hE0 hR0;have a0s:8^6*8=2097152:=r.3
 refine⟨_,rfl,m,rfl,b.3,b.3,eB dS (∃r v3 v4 v5 v6,σ=[n.32,m.32,r.8,v3,v4,v5,v6,none]/\s.3/\r.21/\LL H' r V.10).560
  ⟨r0,_,_,_,_,rfl,s0,hn0,[e0],hR0,hE0.555⟩ trivial.38 ?_ ?_⟩
 . rintro i x σ H1x H1_ hi ⟨r,v3,v4,v5,v6,rfl,s1,uO,⟨as,hR,hP⟩⟩ ⟨rfl,rfl⟩;have OG:i<m:=Z.10
   have hl:((V.10).length).66:=aO hP;refine(λL hL0=>?_).596;have sL:aL H1_ (H1_,L).23:=(H1_,hL0).20;have hL1:(((H1_,L).23) L).536:=aI;have hLn:=none_of s1 hL0;generalize (H1_,L).23=H2 at sL hL1;refine⟨_,rfl,r,rfl,(sL _ _ hR).59,eB (r.534) (λj σ H'=>∃v5 v6,σ=[n.32,m.32,r.8,some i.522,L.8,v5,v6,none]/\aL H1_ H'/\LL H' L h.13)
    ⟨_,_,rfl,sL,[],hL1,.nil⟩ (λj σ H' _ h=>by obtain⟨_,_,_,s,_⟩:=h;exact bP.of hR.42) ?_ ?_⟩
   . rintro j y σ H3x H3 hj ⟨v5,v6,rfl,s3,⟨bs,hLb,hPb⟩⟩ ⟨rfl,hy⟩;rw[aA,hl] at hj;have hgj:((V.10),j,(V.10)[j]).4:=aF hj;generalize (V.10)[j]=p at hgj;obtain⟨b,hb,hbp⟩:=bO hP hgj;obtain rfl:y=z.3:=by rw[aE,hb] at hy;exact hy.31
     have hb3:=hbp.54;obtain⟨kY,hpn⟩:=zZ i p (List.mem_of_getElem? hgj);have hex:(V.10).take (j+1)=(V.10).take j++[p]:=(iM,hgj).18
     have hfl:h.13++nS n p=((V.10).take (j+1)).flatMap (nS n):=by rw[hex,bT];simp
     have hle:(h.13,8^6*8).8:=by refine aG (n,FZ n x).84 ?_;have h1:=RH n i;have h2:n^i<=8^6:=aG (Nat.pow_le_pow_left pV i) (u9 r.3 b.3);rw[aX];exact zH b.3 pV
     have aUX:∀q∈h.13,q≠[]:=λq hq=>by obtain⟨r',_,hq⟩:=List.mem_flatMap.mp hq;obtain⟨s',_,rfl⟩:=a5.mp hq;simp
     have aUY:∀q∈nS n p,q≠[]:=λq hq=>by obtain⟨s',_,rfl⟩:=a5.mp hq;simp
     have hbs:bs.length=(h.13).length:=aO hPb;generalize LO:(match p.getLast? with|some x=>x+1|none=>0)=fst at *;have hRE:nS n p=(List.range' fst (n-fst)).map λs=>p++[s]:=by unfold nS;rw[LO]
     have hf9:fst<=n:=by
      rw[<-LO]
      cases hg:p.getLast? with
      |none=>exact aW _
      |some z=>exact hpn z (List.mem_of_getLast? hg)
     dsimp only [J7];refine(σ'=[n.32,m.32,r.8,some i.522,L.8,b.8,fst.32,none]/\H'=H3).754;case tail=>
      rintro _ _ ⟨rfl,rfl⟩;have aP7:(n.6-fst.6).toNat=n-fst:=b.3
      have IG:∀q:Nat,q<=8-> -(2^62)<=q.6/\q.6<2^62:=λq hq=>⟨Int.le_trans r.3 (Int.natCast_nonneg q),Int.lt_of_le_of_lt (q.6<=8).36 r.3⟩;refine⟨_,rfl,hLb.502,_,rfl,_,rfl,fst.6,n.6,rfl,⟨(IG fst b.3).1,(IG fst b.3).2,(IG n pV).1,(IG n pV).2⟩,λD hD=>?_⟩;refine vN dS (List.range' fst (n-fst)) (λH' c d=>(H' c,p++[d]).10) r.12 (aP7,UR).7 hD (UR,(n-fst<=8).36.29).3 C.5 ?_ ?_
      . rintro q z H4x H4 d C hd s4 YY ⟨rfl,rfl⟩ hC;have hdq:d=fst+q:=by obtain⟨h1,h2⟩:=List.getElem?_eq_some_iff.mp hd;rw[List.getElem_range'] at h2;omega
        subst hdq;have TY:=hb3.64;refine⟨rfl,_,rfl,_,rfl,(1).514,λu hu4=>?_⟩;have su:aL H4 (H4,u,[V.int (fst.6+q.6)]).3:=(H4,hu4).20;refine⟨b,u,_,_,rfl,rfl,su _ _ TY,aI,?_,λc hc=>?_⟩
        . rw[bE,aA,bJ];show p.length+1<=_;omega
        refine hC c _ (su.trans hc.86) ?_;have hcD:c≠D:=λe=>by rw[e] at hc;exact YY (none_of su hc)
        rw[hide_ne hcD,aI,qA];congr 3
      . intro H4 cs s4 G9 hP4;have hP5:Paired (λb p=>(H4 b,p).10) cs (nS n p):=(hRE,mT hP4).3
        have hL4:=hLb.64;have aUZ:=Paired.fV hPb λb p h=>h.64;have z7:cs.length<=8:=(aO hP5,aG (FZ n p) pV).3
        refine⟨L,D,_,_,rfl,rfl,hL4,G9,?_,_,_,rfl,?_,?_⟩
        . rw[aA,aA,hbs,bJ];omega
        . exact((aL.refl H4,y.10++cs.map V.ref).121).same (s3.trans s4) hL0
        . rw[<-hfl];exact LL.ext hL4 aUZ aUX hP5 aUY
     cases hg:p.getLast? with
     |none=>
      have hp0:p=[]:=by simpa using hg
      subst hp0;rw[hg] at LO;subst LO;exact⟨_,rfl,false,.inl (bP.of hb3).63,d5 (hZ _ _ y.4)⟩
     |some z=>
      rw[hg] at LO;have iK:((bE p).isEmpty).25:=by
       cases p with
       |nil=>simp at hg
       |cons _ _=>rfl
      refine⟨_,rfl,true,.inl (bP.of hb3,iK.508).27,gO ⟨_,rfl,_,rfl,b,_,_,_,rfl,rfl,bP.of hb3,aD6 hg,_,_,rfl,rfl,hZ _ _ (?_).80⟩⟩;rw[<-LO];rfl
   . rintro σ H3 ⟨v5,v6,rfl,s3,hLL⟩;rw[aA,hl,cJ] at hLL;exact⟨_,rfl,L,_,_,_,_,rfl,s1.trans s3,hLn,(yS,hLL).3⟩
 . rintro σ H1 ⟨r,v3,v4,v5,v6,rfl,s1,uO,hLL⟩;exact(k _ r s1 uO (by simpa using hLL)).28
theorem aGp{X:Cx}:j6 X (.type "range") (λxs H Q=>∃n:Nat,xs=[nV n]/\(upd H p (.rng 0 n)).644):=by
 intro pins s σ H vs us Q I r h;obtain⟨n,rfl,q⟩:=h
 cases r with
 |cons r rr=> cases rr;obtain⟨t,rfl⟩:=r;refine call_range_1 ?_;exact⟨.ref _,(.rng 0 n).609,I.laid (t':=s.toks+1+1) y.11 (aS _) (_,_,G.3).10,rfl,q _ T.4⟩
theorem aD7{f:Nat->d.3}{Pr:a.3->Bool}{n i j:Nat}{p:a.3}(hi:i<n)(h1:(((v.4).flatMap f).find? Pr).9)(h2:(((f i).take j).find? Pr).9)(h3:((f i),j,p).4)(h4:(Pr p).7):
 ((C.3).flatMap f).find? Pr=some p:=by
 obtain⟨d,rfl⟩:∃d,n=(i+1)+d:=(n-(i+1)).527;rw[List.range_add,bT,nF,dP,bT,nF,h1];have e:f i=(f i).take j++p::(f i).drop (j+1):=by have hj:=(List.getElem?_eq_some_iff.mp h3);obtain⟨hj1,hj2⟩:=hj;rw[<-hj2,List.getElem_cons_drop,mX]
 have e2:(f i).find? Pr=some p:=by rw[e,nF,h2,List.find?_cons,h4];rfl
 rw[List.flatMap_singleton,e2];rfl
def OV:Sp:=λvs H Q _=>∃(S:Sy27.Script) (a:Addr) (ws:d.3),vs=[p.3,nV S.signs]/\LT H a ws/\(x.length=S.signs).636/\ws.Nodup/\ws.length<=300/\S.signs<=8/\
 ∀H' r,s.3->(Sy27.settle S ws).585->r.84
theorem wO:(["ways","signs","size","row"],["ways","signs"],xP).5:=o.3
theorem IT(T:n.3):dC P w K mg base kJ 3 "settling_row" ["ways","signs"] OV:=by
 refine T.xW.ok wO I.3 V.15 q.3;obtain⟨S,a,ws,rfl,vV,hlen,z8,hw,pV,k⟩:=h;have nd:=wO.nd;have ON:(1).27:=t.3;have hrB:(2).27:=t.3;rw[M.QJ hlen] at k;refine⟨_,(aK (fF bL rfl (pv 1).519 (2).503 (aP (fF bL rfl (cK (ND T,ON,(pv 1,pv 2).21).6) (3).503 (aP (tM (aAS T,hrB,(pv 0,pv 3).21).6,bU (pv 3)).33))))
  (pv 1).835.47),?_⟩
 refine⟨_,rfl,S.signs,rfl,b.3,b.3,eB dS (∃v2 v3,σ=[a.8,S.signs.32,v2,v3]/\s.3/\((((v.4).flatMap λk=>M.rising S.signs k).find? (Sy27.settles ws))).9).560
  (aL.refl H,rfl).85 trivial.38 ?_ ?_⟩
 . rintro i x σ H1x H1 hi ⟨v2,v3,rfl,s1,M6⟩ ⟨rfl,rfl⟩;have OG:i<S.signs:=Z.10
   refine⟨_,rfl,_,rfl,S.signs,i,?_,pV,OG,λH2 r s2 tG ⟨as,hR,hP⟩=>?_⟩
   . show [nV S.signs,i.522]=_;rw[dQ]
   have hl:((S.11).length).66:=aO hP;refine⟨r,rfl,hR.59,eB (r.534) (λj σ H'=>∃v3,σ=[a.8,S.signs.32,some i.522,v3]/\aL H2 H'/\((((S.11).take j).find? (Sy27.settles ws))).9)
    ⟨_,rfl,aL.refl H2,rfl⟩ (λj σ H' _ h=>by obtain⟨_,_,s,_⟩:=h;exact bP.of hR.42) ?_ ?_⟩
   . rintro j y σ H3x H3 hj ⟨v3,rfl,s3,z6⟩ ⟨rfl,hy⟩;rw[aA,hl] at hj;have hgj:((S.11),j,(S.11)[j]).4:=aF hj;generalize (S.11)[j]=p at hgj;obtain⟨b,hb,hbp⟩:=bO hP hgj;obtain rfl:y=z.3:=by rw[aE,hb] at hy;exact hy.31
     obtain⟨kY,hpn⟩:=zZ i p (List.mem_of_getElem? hgj);have hex:(S.11).take (j+1)=(S.11).take j++[p]:=(iM,hgj).18
     have UY:=(f.4).trans s3;refine⟨_,rfl,_,rfl,a,b,ws,p,rfl,vV.mono UY,z8,hw,hbp.54,λx hx c hc=>(hlen x hx,hpn c hc).3,b.3,λH4 s4=>(?_).28⟩
     cases jM:Sy27.settles ws p with
     |true=>
      refine gO (?_).28;have aP8:((M.rising S.signs k,Sy27.settles ws).120)=some p:=by exact aD7 OG M6 z6 hgj jM
      rw[aP8] at k;exact k _ b (UY.trans s4) hbp.54.64
     |false=> refine d5 ⟨_,rfl,s3.trans s4,?_⟩;rw[hex,nF,z6];simp[List.find?_cons,jM]
   . rintro σ H3 ⟨v3,rfl,s3,z6⟩;rw[aA,hl,cJ] at z6;refine((f.4).trans s3,?_).85;rw[dP,bT,nF,M6];simpa using z6
 . rintro σ H1 ⟨v2,v3,rfl,s1,M6⟩;have aMu:(((M.rising S.signs k,Sy27.settles ws).120)).9:=by simpa using M6
   rw[aMu] at k;refine(_,S.signs,λp hp=>⟨p,S.signs,rfl,aI,b.3,λq hq=>?_⟩).29;have s2:=s1.trans ((aL.refl H1).new (o:= .rng 0 S.signs) hp);exact k _ q (s2.trans hq.86) aI
end
end G
namespace G
open PySem PySem.Spec PyProof.Rows L2
structure SA where
 x:Addr
 dx:Addr
 oa:Addr
 ma:Addr
 ya:Addr
 na:Addr
 wa:Addr
 fa:Addr
 la:Addr
def srF(a:SA)(limit:Nat):V.57:=[("order",.ref a.oa),("moves",.ref a.ma),a.ya.650,("no_ends",.ref a.na),E.13,("way",.ref a.wa),("found",.ref a.fa),("lost",.ref a.la)]
def iP(a:SA)(H:Hp):Hp:=λb=>if b=a.wa\/b=a.fa then none else H b
theorem gG{a:SA}{H:Hp}{b:Addr}{o:HO}(h:(iP a H b).23):o.45/\b≠a.wa/\b≠a.fa:=by
 unfold iP at h;split at h
 . cases h
 . rename_i hn;exact⟨h,λe=>hn (.inl e),λe=>hn (.inr e)⟩
theorem o3{a:SA}{H:Hp}{b:Addr}(h1:b≠a.wa)(h2:b≠a.fa):iP a H b=H b:=by unfold iP;rw[if_neg (λh=>h.elim h1 h2)]
def EF(a:SA)(b:Addr)(o:HO):Prop:=(∀φ,o≠c.4)\/b≠a.la
def oT(a:SA)(H H':Hp):Prop:=((iP a H b).23,EF a b o,iP a H' b).12
theorem oT.refl(a:SA)(H:Hp):oT a H H:=λ_ _ h _=>h
theorem oT.trans{a:SA}{H H1 H2:Hp}(h:oT a H H1)(k:oT a H1 H2):oT a H H2:=λb o q n=>k b o (h b o q n) n
theorem oT.of{a:SA}{H H':Hp}(s:s.3):oT a H H':=λb o q _=>by obtain⟨h1,h2,h3⟩:=gG q;rw[o3 h2 h3];exact h1.42
theorem aGq{a:SA}{H:Hp}{o:HO}:iP a (upd H a.wa o)=iP a H:=by
 funext b;unfold iP;split
 . rfl
 . rename_i h;rw[bF (λe=>h (.inl e))]
theorem aGr{a:SA}{H:Hp}{o:HO}:iP a (upd H a.fa o)=iP a H:=by
 funext b;unfold iP;split
 . rfl
 . rename_i h;rw[bF (λe=>h (.inr e))]
def F0(C:Addr)(a:SA)(H:Hp)(n size limit:Nat)(yes no:Z.3)(order:a.3):Prop:=
 (.ins C a.dx (srF a limit)).589/\(a.oa,order).13/\
 (∃ms:i.3,(a.ma,ms.map V.ref).41/\Paired (λm j=>jC H m j.570 j.570.621 yes no) ms C.3)/\
 LL H a.ya ((C.3).map λt=>t.662.526.532)/\LL H a.na ((C.3).map λt=>t.662.526.507)
theorem AD{a:SA}{b:Addr}(xs:e.3):EF a b (.lst xs):= .inl λ_ h=>A.5
theorem X0{a:SA}{b:Addr}(xs:e.3):EF a b a.4:= .inl λ_ h=>A.5
theorem aAU{a:SA}{b:Addr}(C dx:Addr)(fs:V.57):EF a b fs.91:= .inl λ_ h=>A.5
theorem jC.keep{a:SA}{H H':Hp}{l sg:Addr}{cs:a.3}{yes no:Z.3}(k:oT a H H')(h:(iP a H,l).101):(iP a H',l).101:=(⟨as,h1.664,Paired.fV h2 λm v q=>?_⟩,⟨ya,na,k _ _ q1 (X0 _),q2.664,q3.664⟩).148
theorem LL.keep{a:SA}{H H':Hp}{l:Addr}{ps:d.3}(k:oT a H H')(h:LL (iP a H) l ps):LL (iP a H') l ps:=(h1.664,Paired.fV h2 λb p q=>q.664).90
theorem F0.keep{C:Addr}{a:SA}{H H':Hp}{n size limit:Nat}{yes no:Z.3}{order:a.3}(k:oT a H H')(h:F0 C a (iP a H) n size limit yes no order):F0 C a (iP a H') n size limit yes no order:=by obtain⟨h1,h2,⟨ms,h3,h4⟩,h5,h6⟩:=h;exact⟨k _ _ h1 (aAU _ _ _),h2.664,⟨ms,h3.664,Paired.fV h4 λm j q=>jC.keep k q⟩,LL.keep k h5,LL.keep k h6⟩
def yV:Z.5->V
 |none=> .int (-1)
 |some b=>nV b
def yI:Z.5->Int
 |none=> -1
 |some b=>b.6
theorem aAV(o:Z.5):yV o= .int (yI o):=by cases o<;>rfl
def keyOf(n size:Nat)(yes no:Z.3)(order π:a.3):T.NK:=((o.5:Nat),yes.map (λps=>yI π.541),π.580.22.507)
def aGs(n size:Nat)(yes no:Z.3)(order:a.3)(ks:List T.NK):Prop:=∀k∈ks,∃π:a.3,π.Nodup/\π.length<=n/\k=h.12/\(n-π.length).630=[]
def cost:Nat->Nat
 |0=>0
 |k+1=>1+10*cost k
structure yU(P:Program)(w:World)(a:SA)(H:Hp)(n size:Nat)(yes no:Z.3)(order π wl:a.3)(F:d.3)(ks:List T.NK):Prop where
 way:(a.wa,wl).13
 X1:wl.length=n
 agree:M.Agree order wl π
 fnd:LT H a.fa F
 wf:a.wa≠a.fa
 TZ:T.IQ P w H a.la ks
 ok:aGs n size yes no order ks
theorem aD8{P:Program}{w:World}{H H':Hp}{a:Addr}{ks:List T.NK}(s:s.3)(h:T.IQ P w H a ks):T.IQ P w H' a ks:=h.same (λo e=>e.42) λb ys e=>e.42
theorem yU.same{P:Program}{w:World}{a:SA}{H H':Hp}{n size:Nat}{yes no:Z.3}{order π wl:a.3}{F:d.3}{ks:List T.NK}(s:s.3)(d:yU P w a H n size yes no order π wl F ks):yU P w a H' n size yes no order π wl F ks:=
 ⟨d.way.42,d.X1,d.agree,d.fnd.mono s,d.wf,aD8 s d.TZ,d.ok⟩
def y1(n size:Nat)(order π:a.3)(v:Nat)(ps:d.3):Z.5:=if g.12.7 then none else some E.4
theorem aIT{n size:Nat}{order π:a.3}{v:Nat}{ps:d.3}:Option.map (λb=>b&&&n.11) π.541=H.4:=by
 unfold M.Y y1;split
 . rfl
 . show some (π.580&&&n.11)=some _;rw[M.mY]
theorem aIU{n size:Nat}{order π:a.3}{v:Nat}{ps:d.3}:K.3.541=match H.4 with
 |none=>none
 |some b=>(b&&&Z.4=0,b).104:=by
 unfold M.Y y1;rw[M.oM];by_cases h:g.12.7
 . rw[h];rfl
 . have h':g.12.25:=m.4
   rw[h'];simp only [Bool.false_or,Bool.false_eq_true,if_false];by_cases h2:E.4&&&Z.4=0
   . rw[if_pos h2,if_neg h2.24]
   . rw[if_neg h2,if_pos h2.24]
section
variable{P:Program}{w:World}{K:PySem.W.Frag}{mg:k.3}{base:Heap}{A:Ad}
def aP9(C:Addr)(P:Program)(w:World)(j:Nat):Sp:=λvs H Q _=>∃(a:SA) (yl nl:Addr) (n size limit:Nat) (yes no:Z.3) (order π wl:a.3) (F:d.3) (ks:List T.NK),
 vs=[.ref a.x,nV π.length,nV o.5,.ref yl,.ref nl]/\F0 C a (iP a H) n size limit yes no order/\yU P w a H n size yes no order π wl F ks/\
 (iP a H yl,(yV π.541).532).12/\(iP a H nl,π.580.507).10/\
 M.Ord n order/\M.V9 n size yes no order π/\π.length+j=n/\n<=8/\size<=10/\yes.length.62/\no.length.62/\F.length<limit/\limit.62/\ks.length+cost j<=16777215/\
 ∀H' wl' Y4,oT a H H'->yU P w a H' n size yes no order π wl' (F++j.630.693) Y4->Y4.length<=ks.length+cost j->Q .gL H'
def aQa(C:Addr)(P:Program)(w:World)(j:Nat):Sp:=λvs H Q _=>∃(a:SA) (yl nl mo:Addr) (n size limit:Nat) (yes no:Z.3) (order π wl:a.3) (F:d.3) (ks:List T.NK) (v:Nat),
 vs=[.ref a.x,nV π.length,nV o.5,.ref yl,.ref nl,.ref mo]/\F0 C a (iP a H) n size limit yes no order/\yU P w a H n size yes no order π wl F ks/\
 (iP a H yl,(yV π.541).532).12/\(iP a H nl,π.580.507).10/\FV (iP a H) mo v (keeps yes Q.3 v) (keeps no Q.3 v)/\
 M.Ord n order/\M.V9 n size yes no order π/\π.length+(j+1)=n/\v<size/\v∉π/\n<=8/\size<=10/\yes.length.62/\no.length.62/\F.length<limit/\limit.62/\ks.length+cost j<=16777215/\
 ∀H' wl' Y4,oT a H H'->yU P w a H' n size yes no order π wl' (F++h.15.693) Y4->Y4.length<=ks.length+cost j->Q .gL H'
theorem yW:(["self","turn","used","yes","no","move","yes_left","no_left","bits","keep","end"],P.15,sO).5:=o.3
theorem X2(T:n.3)(j:Nat)(hgo:iX P w K mg base kJ (2*j+2) A.Search "go_on" K.15 (aP9 A.Search P w j)):
 iX P w K mg base kJ (2*j+3) A.Search "try_move" P.15 (aQa A.Search P w j):=by
 refine T.nN.ok T.lH.cl yW a.15 (λvs H Q E h=>by obtain⟨_,_,_,_,_,_,_,_,_,_,_,_,_,_,_,rfl,_⟩:=h;rfl) q.3;obtain⟨a,yl,nl,mo,n,size,limit,yes,no,order,π,wl,F,ks,v,rfl,hS,hD,hYl,hNl,hMo,hO,hCm,hj,hv,hvn,pV,hz,hy,z6,hFl,aD9,aCw,k⟩:=h;have nd:=yW.nd;have hrG:(2*j+2).27:=hr;refine⟨_,(aK (lB (i:=6) (own:=[("bits",8),("keep",9)]) rfl nd rfl rfl Y.5 (KW (by rfl) T.QX (pv 3,(pv 5,bC).47).21) y.3 (8,9).112 q.4 (CG (gM,pv 8,wI qH bC).9 (pv 8) (d6 tN (pv 8) (pv 9))).99)
  (aK ((bZ (aKa K) bC (pv 6) C.11,r9).33)
  (aK (lB (i:=7) (own:=[("bits",8),("keep",9)]) rfl nd rfl rfl Y.5 (KW (by rfl) T.QX (pv 4,(pv 5,bC).47).21) y.3 (8,9).112 q.4 (d6 tN (pv 8) (pv 9)).99)
  (aK ((tM (a6 (SW rfl) (by rfl) T.WR boot_any (fM (own:=[("bits",8),("end",10)]) rfl nd (KW (by rfl) T.QX (pv 7,(pv 1).600).21) y.3 (8,10).112 q.4 (d6 tN (pv 8) (pv 10)).99).30),r9).33)
  (aK (lB (i:=6) (own:=[("bits",8),("end",10)]) rfl nd rfl rfl Y.5 (KW (by rfl) T.QX (pv 6,(pv 1).600).21) y.3 (8,10).112 q.4 (CG (ptT K (d6 tN (pv 8) (pv 10)) (λ_=>rfl)) (wI qH bC) (pv 8)).99)
  (aK (aKY (pv 5,bC).47 (aKW E.3 (pv 1).600 set_list))
  (aP (dB (oZ (pv 0) hgo hrG (aD (d6 lY (pv 1) bC) (d6 aOp (pv 2) (d6 E6 bC (pv 5,bC).47),pv 6,pv 7).7)))))))))),?_⟩
 obtain⟨RI,Q6,⟨ms,RA,hS4⟩,⟨yr,hS5,hS6⟩,⟨nr,hS7,hS8⟩⟩:=id hS;obtain⟨mya,mna,hM1,hM2,hM3⟩:=hMo;have hC:=T.lH.cl;have gH:∀{b o},(iP a H b).23->o.45:=λh=>(gG h).1;have hez:((yV π.541).532,(keeps yes Q.3 v).94).6:=by rw[bE,aA,aA,keeps,aA]
 have aU1:(bE π.580.507,(keeps no Q.3 v).94).6:=by rw[bE,aA,aA,bE,aA,keeps,aA]
 refine⟨_,rfl,_,rfl,mo,_,_,_,rfl,rfl,lN.of (gH hM1),(1).547,yl,mya,_,_,rfl,bP.of (gH hYl),bP.of (gH hM2),λD1 yG=>eK (yl,mya,hez).36 yes (λps=>yV H.4) aA.85 yG hy.29 (λH' s1=>⟨(gH hYl).521,(gH hM2).521⟩) ?_ ?_⟩
 . rintro i x H5 H6 ps C j8 s5 ⟨T',u,v',rfl,hT,rfl,hu,AE⟩ A7;obtain rfl:u=yV π.541:=by rw[aE,j8] at hu;exact hu.31
   obtain rfl:v'=nV n.11:=by rw[bE,keeps,aE,aE,j8] at AE;exact AE.31
   have sT:aL H5 (upd H5 T' (.tup [yV π.541,nV n.11])):=(H5,hT).20;refine⟨T',_,rfl,lN.of aI,rfl,_,_,rfl,_,_,rfl,rfl,rfl,?_⟩;have EG:=aIT (n:=n) (size:=size) (order:=order) (π:=π) (v:=v) (ps:=ps)
   cases hY:π.541 with
   |none=> rw[hY] at EG sT;refine⟨_,rfl,_,rfl,rfl,_,rfl,gO sT.601.28⟩;rw[<-EG];rfl
   |some b=> rw[hY] at EG sT;refine⟨_,rfl,_,rfl,rfl,_,rfl,d5 ⟨_,rfl,_,rfl,_,_,rfl,rfl,sT.601⟩⟩;rw[<-EG];show(b.6,n.11.33).83=_;rw[qC];rfl
 intro H1 s1 aQc;have gH1:(H1 b).719:=λh=>(gH h).26;have JR:inV (nV 0) (yV H.4).532=yes.any λps=>decide (H.4=some 0):=by
  unfold inV;rw[oB];congr 1;funext ps;show ZP (yV H.4) (nV 0)=decide (H.4=some 0);generalize H.4=o
  cases o with
  |none=>rfl
  |some b=>
   show(b.6==(0).22)=_;rw[cR,beq_iff_eq,decide_eq_true_eq];constructor
   . intro h;congr 1;omega
   . intro h;injection h with h;omega
 have hfl:(((yV H.4).532).all o6).7:=by rw[kD,List.all_eq_true];intro ps _;show(o6 (yV _)).7;rw[aAV];rfl
 refine⟨_,rfl,D1,_,rfl,aQc.35,rfl,hfl,_,rfl,?_⟩;show(inV (nV 0) (yV H.4).532).40;rw[JR];have aMv:(yes.any λps=>decide (H.4=some 0))= !(yes.all λps=>g.12||E.4 !=0):=by
  rw[List.not_all_eq_any_not];congr 1;funext ps;unfold y1;generalize E.4=t;by_cases h:g.12.7
  . rw[if_pos h,h];rfl
  . have h':g.12.25:=m.4
    rw[V.4,h',Bool.false_or];by_cases ht:t=0
    . subst ht;rfl
    . rw[aQ (λe=>ht (by injection e))];simp[ht]
 rw[aMv]
 cases pW:(yes.all λps=>g.12||E.4 !=0) with
 |false=>
  have aMw:N.14.25:=by unfold M.jE;rw[pW];rfl
  rw[aMw] at k;refine gO (k _ wl ks (oT.of s1) ?_ (fD _ _));simpa using hD.same s1
 |true=>
  refine d5 ?_;refine⟨_,rfl,_,rfl,mo,_,_,_,rfl,rfl,lN.of (gH1 hM1),(2).547,nl,mna,_,_,rfl,bP.of (gH1 hNl),bP.of (gH1 hM3),λD2 nP=>eK (nl,mna,aU1).36 no (λps=>nV E.4) (by rw[bE,aA,aA]) nP z6.29 (λH' s2=>⟨bP.of (gH1 hNl).50,bP.of (gH1 hM3).50⟩) ?_ ?_⟩
  . rintro i x H5 H6 ps C j8 s5 ⟨T',u,v',rfl,hT,rfl,hu,AE⟩ A7;obtain rfl:u=nV π.580:=by rw[bE,aE,aE,j8] at hu;exact hu.31
    obtain rfl:v'=nV n.11:=by rw[bE,keeps,aE,aE,j8] at AE;exact AE.31
    have sT:aL H5 (upd H5 T' (.tup [nV π.580,nV n.11])):=(H5,hT).20;refine⟨T',_,rfl,lN.of aI,rfl,_,_,rfl,_,_,rfl,rfl,rfl,_,rfl,_,rfl,_,_,rfl,rfl,sT.601⟩;show(π.580.33,n.11.33).83=_;rw[qC,M.mY]
  intro H2 s2 aAF;have CD:=f.4;have gH2:(H2 b).719:=λh=>CD _ _ (gH h);have aMx:(H2 D2,E.4.507).10:=(aAF,bE,a9).13
  have hpn:π.length<n:=b.3
  have aLV:∀(f:Nat->a.3),(((C.3).map f),π.length,f π.length).4:=λf=>(dG hpn).537
  obtain⟨en,hen,aQe⟩:=bO hS8 (aLV λt=>t.662.526.507);have aU2:((nr.map V.ref),π.length,.ref en).4:=hen.537
  have aU3:(bE E.4.507,Z.4.507.94).6:=by rw[bE,bE,aA,aA,aA,aA]
  refine⟨_,rfl,_,rfl,a.x,A.Search,a.dx,_,_,rfl,gH2 RI,hC,T.oR,rfl,_,rfl,a.na,_,_,_,rfl,rfl,bP.of (gH2 hS7),cC aU2,D2,en,_,_,rfl,bP.of aMx,bP.of (gH2 aQe),λD3 A4=>eK (D2,en,aU3).36 no (λps=>nV (E.4&&&Z.4)) (by rw[bE,aA,aA]) A4 z6.29 (λH' s3=>⟨bP.of aMx.54,bP.of (gH2 aQe).54⟩) ?_ ?_⟩
  . rintro i x H5 H6 ps C j8 s5 ⟨T',u,v',rfl,hT,rfl,hu,AE⟩ A7;obtain rfl:u=nV E.4:=by rw[bE,aE,aE,j8] at hu;exact hu.31
    obtain rfl:v'=nV Z.4:=by rw[bE,aE,aE,j8] at AE;exact AE.31
    have sT:aL H5 (upd H5 T' (.tup [nV E.4,nV Z.4])):=(H5,hT).20;refine⟨T',_,rfl,lN.of aI,rfl,_,_,rfl,_,_,rfl,rfl,rfl,_,rfl,_,rfl,_,_,rfl,rfl,sT.601⟩;show(E.4.33,Z.4.33).83=_;rw[qC]
  intro H3 s3 aMy;have EZ:=CD.trans s3;have gH3:(H3 b).719:=λh=>EZ _ _ (gH h);refine⟨D3,(E.4&&&Z.4).22.507,rfl,aMy.612,_,rfl,?_⟩;have eb:((E.4&&&Z.4).22.507).any (λn=>n !=0)= !(no.all λps=>E.4&&&Z.4==0):=by rw[oB,List.not_all_eq_any_not];congr 1;funext ps;exact ne0 _
  rw[eb]
  cases aQf:(no.all λps=>E.4&&&Z.4==0) with
  |false=>
   have aMw:N.14.25:=by unfold M.jE;rw[pW,aQf];rfl
   rw[aMw] at k;refine gO (k _ wl ks (oT.of EZ) ?_ (fD _ _));simpa using hD.same EZ
  |true=>
   have aDy:N.14.7:=by unfold M.jE;rw[pW,aQf];rfl
   rw[aDy,N.5] at k;refine d5 ?_;obtain⟨ey,hey,aQg⟩:=bO hS6 (aLV λt=>t.662.526.532);have aU4:((yr.map V.ref),π.length,.ref ey).4:=hey.537
   have aQh:(H3 D1,(yV H.4).532).12:=aQc.50.54;have aU5:((yV H.4).532,Z.4.532.94).6:=by rw[bE,aA,aA,aA]
   refine⟨_,rfl,_,rfl,a.x,A.Search,a.dx,_,_,rfl,gH3 RI,hC,T.nO,rfl,_,rfl,a.ya,_,_,_,rfl,rfl,bP.of (gH3 hS5),cC aU4,D1,ey,_,_,rfl,bP.of aQh,bP.of (gH3 aQg),λD4 G9=>eK (D1,ey,aU5).36 yes (λps=>yV K.3.541) aA.85 G9 hy.29 (λH' s4=>⟨bP.of aQh.64,bP.of (gH3 aQg).64⟩) ?_ ?_⟩
   . rintro i x H5 H6 ps C j8 s5 ⟨T',u,v',rfl,hT,rfl,hu,AE⟩ A7;obtain rfl:u=yV H.4:=by rw[aE,j8] at hu;exact hu.31
     obtain rfl:v'=nV Z.4:=by rw[bE,aE,aE,j8] at AE;exact AE.31
     have sT:aL H5 (upd H5 T' (.tup [yV H.4,nV Z.4])):=(H5,hT).20;have hnx:=aIU (n:=n) (size:=size) (order:=order) (π:=π) (v:=v) (ps:=ps);generalize Z.4=e at hnx sT;refine⟨T',_,rfl,lN.of aI,rfl,_,_,rfl,_,_,rfl,rfl,rfl,?_⟩;refine⟨_,rfl,_,rfl,yI H.4,e.6,aAV _,rfl,_,rfl,?_⟩
     cases hy1:H.4 with
     |none=>
      rw[hy1] at hnx sT;have hN:K.3.541.9:=hnx;have aQj:∀x,x=V.int (-1)->x=yV K.3.541:=λx hx=>(hN,hx).18
      split
      . exact(A7 _ _ sT (aQj _ rfl)).28
      . exact(A7 _ _ sT (aQj _ rfl)).28
     |some b=>
      rw[hy1] at hnx sT;have hN:K.3.541=(b&&&e=0,b).104:=hnx;have hba:Builtin.bitAnd (yI (some b)) e.6=(b&&&e).22:=qC b e;rw[hba];by_cases R0:b&&&e=0
      . rw[if_neg R0.24];refine sT.601.28;rw[hN,if_pos R0]
      . rw[if_pos R0.24];refine sT.601.28;rw[hN,if_neg R0];rfl
   intro H4 s4 aMz;have UZ:=EZ.trans s4;have gH4:(H4 b).719:=λh=>UZ _ _ (gH h);have hDy:=hD.same UZ;obtain⟨wY,hog⟩:=hO.get hpn;generalize aU7:Q.3=sg at wY hog;have aU8:((bE order),π.length,nV sg).4:=(bE,aE,hog).13
   have aU9:ixN wl.94 sg.6=some sg:=by
    have hl:(bE wl,n).6:=by rw[bE,aA,hD.X1]
    rw[hl];unfold ixN;rw[if_pos b.3,if_pos b.3];simp
   refine⟨_,rfl,mo,_,_,_,rfl,rfl,lN.of (gH4 hM1),(0).547,_,rfl,a.x,A.Search,a.dx,_,_,rfl,gH4 RI,hC,T.p9,rfl,_,rfl,a.x,A.Search,a.dx,_,_,rfl,gH4 RI,hC,T.gP,rfl,_,rfl,a.oa,_,_,_,rfl,rfl,bP.of (gH4 Q6),cC aU8,a.wa,bE wl,sg.6,sg,rfl,rfl,hDy.way,aU9,?_⟩;rw[show(bE wl).set sg (nV v)=bE q.10 from by unfold bE;rw[List.map_set]];have k5:oT a H4 (H4,a.wa,bE q.10).3:=λb o q _=>(aGq,q).3
   have hw5:(((H4,a.wa,bE q.10).3) a.wa,q.10).10:=aI;have hold:((H4 b).23,b≠a.wa,((H4,a.wa,bE q.10).3) b).12:=λb o e ne=>(ne,e).29
   generalize (H4,a.wa,bE q.10).3=H5 at k5 hw5 hold;have kk:oT a H H5:=(oT.of UZ).trans k5;have gH5:∀{b o},(iP a H b).23->EF a b o->(H5 b).23:=λh ne=>(gG (kk _ _ h ne)).1;have aQk:(q.10,n).6:=(HR,hD.X1).3
   have hag:M.Agree order q.10 K.3:=by
    refine M.LD (λq hq=>?_) ?_
    . obtain⟨_,hq2⟩:=hO.get (q<n).36;have iK:sg≠q.570:=λe=>by rw[<-e] at hq2;have:=(List.getElem?_inj hO.len.56 hO.nd).mp (hq2.trans hog.symm);omega
      rw[<-hD.agree q hq];generalize q.570=t at iK;rw[List.getD_eq_getElem?_getD,List.getD_eq_getElem?_getD,kF iK]
    . rw[aU7];simp only [List.getD_eq_getElem?_getD];rw[rM (hD.X1,wY).3];rfl
   have zX:yU P w a H5 n size yes no order K.3 q.10 F ks:=by
    refine⟨hw5,aQk,hag,?_,hD.wf,hDy.TZ.same (λo e=>?_) (λb ys e=>hold _ _ e (e,hDy.way).24),hD.ok⟩
    . obtain⟨as,q1,q2⟩:=hDy.fnd;exact⟨as,hold _ _ q1 hD.wf.symm,Paired.fV q2 λb p q=>hold _ _ q (q,hDy.way).24⟩
    . obtain⟨xs,q1,_⟩:=hDy.TZ;exact hold _ _ e (q1,hDy.way).24
   have aMB:(H5 D4,(yV K.3.541).532).12/\D4≠a.wa/\D4≠a.fa:=by have d3:=hD.same EZ;have n1:D4≠a.wa:=(aY d3.way G9).symm;obtain⟨_,q1,_⟩:=d3.fnd;exact⟨hold _ _ aMz n1,n1,(aY q1 G9).symm⟩
   have aMC:(H5 D2,E.4.507).10/\D2≠a.wa/\D2≠a.fa:=by have d1:=hD.same s1;have n1:D2≠a.wa:=(aY d1.way nP).symm;obtain⟨_,q1,_⟩:=d1.fnd;exact⟨hold _ _ aMx.54.64 n1,n1,(aY q1 nP).symm⟩
   refine⟨_,rfl,a.x,a.dx,_,rfl,gH5 RI (aAU _ _ _),rfl,_,rfl,_,_,rfl,rfl,_,rfl,_,rfl,mo,_,_,_,rfl,rfl,lN.of (gH5 hM1 (X0 _)),(0).547,_,_,rfl,rfl,b.3.696,_,_,rfl,rfl,_,rfl,_,rfl,?_⟩;refine⟨a,D4,D2,n,size,limit,yes,no,order,K.3,q.10,F,ks,?_,hS.keep kk,zX,?_,?_,hO,?_,?_,pV,hz,hy,z6,hFl,aD9,aCw,λH6 wl6 ks6 k6 hD6 hk6=>?_⟩
   . show [V.ref a.x,V.int (π.length.6+1),V.int (Builtin.bitOr o.5.33 v.550.613),V.ref D4,V.ref D2]=_;rw[FT,aFT,M.WB,List.length_append];rfl
   . rw[o3 aMB.2.1 aMB.2.2];exact aMB.1
   . rw[o3 aMC.2.1 aMC.2.2];exact aMC.1
   . exact hCm.next hv hvn aDy
   . rw[List.length_append,List.length_singleton];omega
   . exact k _ wl6 ks6 (kk.trans k6) ⟨hD6.way,hD6.X1,(M.tP hD6.agree).1,hD6.fnd,hD6.wf,hD6.TZ,hD6.ok⟩ hk6
end
end G
namespace G
open PySem PySem.Spec PyProof.Rows L2
section
variable{P:Program}{w:World}{K:PySem.W.Frag}{mg:k.3}{base:Heap}{A:Ad}
theorem EI:(["self","turn","used","yes","no","state","before","move"],K.15,xS).5:=o.3
theorem aMD{x y:Z.5}(h:yI x=yI y):x=y:=by cases x<;>cases y<;>simp[yI] at h⊢<;>omega
theorem aGu{n size:Nat}{yes no:Z.3}{order π:a.3}{ks:List _root_.G.T.NK}(h:aGs n size yes no order ks)(JR:h.12∈ks)(nd:π.Nodup)(j:Nat)(hj:π.length+j=n):j.630=[]:=by
 obtain⟨π0,nd0,_,e,h0⟩:=h _ JR;unfold keyOf at e;have e1:=cP Prod.fst e;have e2:=cP (λx=>x.2.1) e;have e3:=cP (λx=>x.2.2) e;dsimp only at e1 e2 e3;obtain⟨hl,hm⟩:=M.aIa (M.maskOf π0=o.5).36 nd0 nd;rw[(n-π0.length=j).36] at h0;refine M.LC j π0 π hl hm (λps hp=>?_) (λps hp=>?_) h0
 . exact(aMD (List.map_inj_left.mp e2 ps hp)).symm
 . have:=List.map_inj_left.mp e3 ps hp;omega
theorem aGv(π:a.3)(v:Nat):(Builtin.bitAnd (o.5.33/2^(v.6).toNat) 1).603=decide (v∉π):=by
 have e:(o.5.33/2^(v.6).toNat)=(o.5/2^v).22:=(Int.toNat_natCast,Int.natCast_ediv,Int.natCast_pow).13
 rw[e,show(1).33=(1).22 from rfl,qC,Nat.and_one_is_mod];have hb:=M.BN π v;rw[Nat.testBit_eq_decide_div_mod_eq] at hb;have ZU:(o.5/2^v%2=1)↔v∈π:=⟨λh=>cB (hb▸B.10),λh=>cB (hb.symm▸B.10)⟩;rw[cR,fX,fX,<-ZU];constructor
 . intro h;injection h with h;omega
 . intro h;have:o.5/2^v%2=0:=b.3
   rw[this];rfl
theorem NF{α:Type}{A B:w.3}{limit:Nat}(h: ¬limit<=(A++B.take (limit-A.length)).length):B.take (limit-A.length)=B:=by refine List.take_of_length_le ?_;rw[List.length_append,aX] at h;omega
theorem aGw{α β:Type}{cs:w.3}{g:α->List β}{F:List β}{i limit:Nat}{v:α}(hv:(cs,v).4)(h1:(F++g.553).length<limit)(h2:limit<=(F++g.553++(g v).take (limit-(F++g.553).length)).length):
 F++(cs.flatMap g).693=F++g.553++(g v).take (limit-(F++g.553).length):=by
 have e:cs.flatMap g=g.553++(g v++(cs.drop (i+1)).flatMap g):=by
  conv=>lhs;rw[<-mX i cs]
  rw[bT];congr 1;obtain⟨hi,rfl⟩:=List.getElem?_eq_some_iff.mp hv;rw[List.drop_eq_getElem_cons hi,List.flatMap_cons]
 rw[e,cA];congr 1;rw[List.length_append] at h1 h2;rw[List.length_append,aX] at h2;rw[List.length_append];generalize g.553=A at *;generalize g v=B at *;generalize (cs.drop (i+1)).flatMap g=R;rw[List.take_append,List.take_of_length_le (A.length<=limit-F.length).36];congr 1;rw[(limit-F.length-A.length=limit-(F.length+A.length)).36];rw[fI b.3]
theorem X3(T:n.3): ∀j:Nat,iX P w K mg base kJ (2*j+2) A.Search "go_on" K.15 (aP9 A.Search P w j)
 |0=>by
  have aME:iX P w K mg base kJ 1 A.Search "try_move" P.15 (λ_ _ _ _=>False):=
   T.nN.ok T.lH.cl yW a.15 (λvs H Q E h=>h.elim) λf fJ Ar outer s H vs Q E hr h=>h.elim
  refine g.16;obtain⟨a,yl,nl,n,size,limit,yes,no,order,π,wl,F,ks,rfl,hS,hD,hYl,hNl,hO,hCm,hj,pV,hz,hy,z6,hFl,aD9,aCw,k⟩:=h;have nd:=EI.nd;have hrG:(1).27:=hr;have hu:=hr.units;refine⟨_,(aK (dY ((gM,pv 1,s.4).9) (aK ((E.3,E.3.631).63)
  (aP r9)) cN)
  (aK (5,qI (pv 2,(pv 3).631,(pv 4).631).7).14
  (aK ((bZ (G.T.aKr P w hu) (pv 5) E.3 C.11,r9).33)
  (aK (6,s.4).14
  (aK (fF bL rfl (cK (pv 1).600) ((7).503) (aK n.16
  (aP ((PD,s.4,E.3).9,r9).33)))
  r.16))))),?_⟩
  have hC:=T.lH.cl;obtain⟨RI,Q6,_⟩:=id hS;have gH:∀{b o},(iP a H b).23->o.45:=λh=>(gG h).1;refine⟨_,rfl,_,rfl,a.x,A.Search,a.dx,_,_,rfl,gH RI,hC,T.gP,rfl,a.oa,_,rfl,(gH Q6).35,rfl,_,rfl,?_⟩;have hpn:π.length=n:=b.3
  have hd:X.13.7:=(show(bE order,π.length).6 by rw[bE,aA,hO.len,hpn],decide_eq_true rfl).3
  show X.13.40;rw[hd];obtain⟨as,hF1,hF2⟩:=id hD.fnd;have pW:F.length.66:=aO hF2;refine gO ⟨_,rfl,a.x,A.Search,a.dx,_,_,rfl,gH RI,hC,T.iD,rfl,hF1.502,_,rfl,a.x,A.Search,a.dx,_,_,rfl,gH RI,hC,T.p9,rfl,a.wa,_,rfl,(bP.of hD.way,λt ht=>?_).51⟩;have s1:(upd H t wl.48).34:=ht.76;have XE:(upd H t wl.48) t=some wl.48:=aI;generalize upd H t wl.48=H1 at s1 XE;have yG:=hD.same s1;refine(a.fa,hF1.26,by rw[aA,pW,bJ];omega).33;have aAQ:M.wL n order π=wl:=M.WA hO hD.X1 hpn hD.agree;have aIX:(0).630.693=[wl]:=by show([M.wL n order π]).693=[wl];rw[aAQ];obtain⟨d,hd⟩:∃d,limit-F.length=d+1:=(limit-F.length-1).527;rw[hd];simp
  rw[aIX] at k;have hb:eA a.fa H1 (H1,a.fa,v.3++[.ref t]).3:=H1.567;refine k _ wl ks (λb o q ne=>?_) ⟨hb _ _ yG.way hD.wf,hD.X1,hD.agree,⟨as++[t],(aI,bH).18,iE (Paired.fV hF2 λb p q=>hb _ _ q.26 (q.26,hF1.26).24) (hb _ _ XE (XE,hF1.26).24).555⟩,hD.wf,yG.TZ.same (λo e=>?_) (λb ys e=>hb _ _ e (e,hF1.26).24),hD.ok⟩ (fD _ _)
  . rw[aGr];exact oT.of s1 _ _ q ne
  . obtain⟨xs,q1,_⟩:=yG.TZ;exact hb _ _ e (q1,hF1.26).24
 |j+1=>by
  have aME:=X2 (P:=P) (w:=w) (base:=base) T j (X3 T j);refine g.16;obtain⟨a,yl,nl,n,size,limit,yes,no,order,π,wl,F,ks,rfl,hS,hD,hYl,hNl,hO,hCm,hj,pV,hz,hy,z6,hFl,aD9,aCw,k⟩:=h;have nd:=EI.nd;have hrG:(2*j+3).27:=hr;have hu:=hr.units;refine⟨_,(aK (dY ((gM,pv 1,s.4).9) (aK ((E.3,E.3.631).63)
  (aP r9)) cN)
  (aK (5,qI (pv 2,(pv 3).631,(pv 4).631).7).14
  (aK ((bZ (G.T.aKr P w hu) (pv 5) E.3 C.11,r9).33)
  (aK (6,s.4).14
  (aK (fF bL rfl (cK (pv 1).600) ((7).503) (aK n.16
  (aP ((PD,s.4,E.3).9,r9).33)))
  r.16))))),?_⟩
  have hC:=T.lH.cl;obtain⟨RI,Q6,⟨ms,RA,hS4⟩,_⟩:=id hS;have gH:∀{b o},(iP a H b).23->o.45:=λh=>(gG h).1;refine⟨_,rfl,_,rfl,a.x,A.Search,a.dx,_,_,rfl,gH RI,hC,T.gP,rfl,a.oa,_,rfl,(gH Q6).35,rfl,_,rfl,?_⟩;have hpn:π.length<n:=b.3
  have hd:X.13.25:=(show(bE order,n).6 by rw[bE,aA,hO.len],aQ (λe=>by injection e with e;omega)).3
  show X.13.40;rw[hd];refine d5 ?_;refine⟨_,rfl,_,rfl,yl,_,rfl,(bP.of (gH hYl),λt1 XE=>?_).51⟩;have s1:b.15.34:=XE.76;have e1:(b.15) t1=_:=aI;generalize b.15=H1 at s1 e1;refine⟨_,rfl,nl,_,rfl,((gH hNl).521,λt2 U1=>?_).51⟩;have s2:(t2,π.580.507.48).25.82:=U1.509;have e2:((t2,π.580.507.48).25) t2=_:=aI;generalize (t2,π.580.507.48).25=H2 at s2 e2;refine⟨by rw[bJ];show 3<=_;decide,λst jM=>?_⟩;have s3:aL H2 (upd H2 st C.15):=jM.528;have e3:(upd H2 st C.15) st=_:=aI;generalize upd H2 st C.15=H3 at s3 e3;have EZ:=(f.4).trans s3;have gH3:(H3 b).719:=λh=>EZ _ _ (gH h);have A4:=hD.same EZ;have IA:_root_.G.T.FY H3 h.12 st:=by
   refine⟨t1,t2,e3,?_,?_⟩
   . rw[e1.50.54];congr 2;unfold keyOf;rw[a9];exact k9 λps _=>aAV _
   . rw[e2.54];congr 2;unfold keyOf bE;rw[a9,a9];rfl
  refine⟨_,rfl,_,rfl,a.x,A.Search,a.dx,_,_,rfl,gH3 RI,hC,T.oX,rfl,a.la,st,ks,_,rfl,rfl,A4.TZ,IA,_,rfl,?_⟩;show(decide (h.12∈ks)).40;by_cases JR:h.12∈ks
  . rw[decide_eq_true JR];have aVa:=aGu hD.ok JR hCm.nd (j+1) hj;rw[aVa,List.take_nil,List.append_nil] at k;exact gO (k H3 wl ks (oT.of EZ) A4 (fD _ _))
  rw[aQ JR];refine d5 ?_;obtain⟨as,hF1,hF2⟩:=id A4.fnd;have pW:F.length.66:=aO hF2;refine⟨_,rfl,a.x,A.Search,a.dx,_,_,rfl,gH3 RI,hC,T.iD,rfl,a.fa,_,rfl,hF1.35,?_⟩;rw[show(v.3,F.length).6 by rw[aA,pW]];obtain⟨mv,hmv,hmm⟩:=bO hS4 (dG hpn);have hmg:((ms.map V.ref),π.length,.ref mv).4:=hmv.537
  have hkH:oT a H H3:=oT.of EZ;have aMG:=jC.keep hkH hmm;have aIY:=hS.keep hkH;have hk3:_root_.G.T.FY (iP a H3) h.12 st:=by
   obtain⟨b,c,q1,q2,q3⟩:=IA;have ne:∀{x ys},H3 x=some (.tup ys)->iP a H3 x=some (.tup ys):=λ{x ys} e=>(o3 (e,A4.way).24 (e,hF1).24,e).3
   exact⟨b,c,ne q1,ne q2,ne q3⟩
  have aVb:=hkH _ _ hYl (AD _);have aVc:=hkH _ _ hNl (AD _);clear e1 e2 e3 s1 s2 s3 XE U1 jM IA;generalize wY:Q.3=sg at aMG;generalize JH:sg.621=cs at aMG;obtain⟨ams,hm1,hm2⟩:=aMG;have z7:cs.length<=10:=by rw[<-JH];unfold M.iH;exact aG (c6 _ _) (aR,hz).3
  have OO:∀v∈cs,v<size:=λv hv=>by rw[<-JH] at hv;unfold M.iH at hv;exact p.13
  have aQm:ams.length=cs.length:=aO hm2;let gg:Nat->d.3:=λv=>if v∈π then [] else h.15;have aIX:(j+1).630=cs.flatMap gg:=by rw[<-JH,<-wY];rfl
  have h3:∀{b o},(iP a H3 b).23->(H3 b).23:=λh=>(gG h).1;refine⟨_,rfl,a.x,A.Search,a.dx,_,_,rfl,gH3 RI,hC,T.qU,rfl,_,rfl,a.ma,_,_,_,rfl,rfl,bP.of (gH3 RA),cC hmg,mv,rfl,(h3 hm1).59,
   eB ((mv,ams.map V.ref).26) (∃v7 wl' Y4,σ=v7.822/\oT a H3 H'/\yU P w a H' n size yes no order π wl' (F++gg.553) Y4/\(F++gg.553).length<limit/\Y4.length<=i.715).560
    ⟨none,wl,ks,rfl,oT.refl a H3,by simpa using A4,by simpa using hFl,b.3⟩ (?vd).552 ?step ?done⟩
  case vd=>obtain⟨_,_,_,_,kp,_⟩:=h;exact bP.of (gG (kp _ _ hm1 (AD _))).1
  case step=>
   rintro i x σ H5 H6 hi ⟨v7,wl',Y4,rfl,kp,zX,hl5,hk5⟩ ⟨rfl,hx⟩;rw[aA,aQm] at hi;have hv:(cs,cs).28:=aF hi;generalize cs[i]=v at hv;obtain⟨mo,hmo,hmq⟩:=bO hm2 hv;obtain rfl:x= .ref mo:=by rw[aE,hmo] at hx;exact hx.31
   have hvm:v∈cs:=List.mem_of_getElem? hv;have htk:(cs.take (i+1)).flatMap gg=gg.553++gg v:=by rw[rN,hv,bT];simp
   obtain⟨mya,mna,q1,q2,q3⟩:=hmq;have g6:(H6 b).777:=λh ne=>(gG (kp _ _ h ne)).1;dsimp only [J7];refine(∃wl7 ks7,σ'=mo.8.822/\oT a H3 H'/\yU P w a H' n size yes no order π wl7 (F++gg.553++j.15) ks7/\ks7.length<=((i+1)).715).754;case tail=>
    rintro _ H7 ⟨wl7,ks7,rfl,kp7,hD7,hk7⟩;obtain⟨as7,aGx,aGy⟩:=id hD7.fnd;have aMH:=aO aGy;have g7:(H7 b).777:=λh ne=>(gG (kp7 _ _ h ne)).1;have hx7:=g7 aIY.1 (aAU _ _ _);refine⟨_,rfl,a.x,A.Search,a.dx,_,_,rfl,hx7,hC,T.iD,rfl,a.fa,_,rfl,aGx.35,_,rfl,a.x,A.Search,a.dx,_,_,rfl,hx7,hC,T.qV,rfl,_,_,rfl,rfl,_,rfl,?_⟩;rw[show(as7.map V.ref,as7.length).6 from aA _,aMH];show(limit.6,(F++gg.553++j.15).564).52.40;by_cases YX:limit<=(F++gg.553++j.15).length
    . rw[W.4];refine gO (k H7 wl7 ks7 (hkH.trans kp7) ?_ ?_)
      . rw[aIX,aGw hv hl5 YX];exact hD7
      . have:(i+1)*cost j<=10*cost j:=eC _ b.3;show _<=_+(1+10*cost j);omega
    . rw[aQ b.3];refine d5 ⟨mo.8,wl7,ks7,rfl,kp7,?_,?_,hk7⟩
      . rw[htk,<-cA];rw[NF YX] at hD7;exact hD7
      . rw[htk,<-cA];rw[NF YX] at YX;omega
   refine⟨_,rfl,_,rfl,mo,_,_,_,rfl,rfl,lN.of (g6 q1 (X0 _)),(0).547,_,_,rfl,rfl,b.3,_,_,rfl,rfl,rfl,_,rfl,?_⟩;show(Builtin.bitAnd (o.5.33/2^(v.6).toNat) 1).603.40;rw[aGv π v];have hkc:i.715+cost j=((i+1)).715:=Nat.add_mul.56
   by_cases hvp:v∈π
   . rw[aQ (not_not_intro hvp)];refine d5 (hZ _ _ ⟨wl',Y4,rfl,kp,?_,b.3⟩);have:gg v=[]:=if_pos hvp;rw[this];simpa using zX
   . rw[decide_eq_true hvp];have hgv:gg v=h.15:=if_neg hvp;refine gO ⟨_,rfl,a.x,a.dx,_,rfl,g6 aIY.1 (aAU _ _ _),rfl,_,rfl,_,rfl,_,rfl,_,rfl,_,rfl,a,yl,nl,mo,n,size,limit,yes,no,order,π,wl',F++gg.553,Y4,v,rfl,aIY.keep kp,zX,kp _ _ aVb (AD _),kp _ _ aVc (AD _),?_,hO,hCm,b.3,OO v hvm,hvp,pV,hz,hy,z6,hl5,aD9,?_,?_⟩
     . rw[wY];exact⟨mya,mna,kp _ _ q1 (X0 _),kp _ _ q2 (AD _),kp _ _ q3 (AD _)⟩
     . have h10:(i+1)*cost j<=10*cost j:=eC _ b.3;have wU:cost (j+1)=1+10*cost j:=rfl;omega
     . intro H' wl8 ks8 kp8 hD8 hk8;rw[<-hgv] at hD8;exact hZ _ _ ⟨wl8,ks8,rfl,kp.trans kp8,hD8,b.3⟩
  case done=>
   rintro σ H5 ⟨v7,wl',Y4,rfl,kp,zX,hl5,hk5⟩;rw[aA,aQm] at zX hl5 hk5;rw[cJ,<-aIX] at zX hl5;have hkk:Y4.length<=(10).715:=by have:cs.length*cost j<=10*cost j:=eC _ z7;omega
   have wU:cost (j+1)=1+10*cost j:=rfl;obtain⟨as7,aGx,aGy⟩:=id zX.fnd;have aMH:=aO aGy;have g7:(H5 b).777:=λh ne=>(gG (kp _ _ h ne)).1;have hx7:=g7 aIY.1 (aAU _ _ _);refine⟨_,rfl,a.x,A.Search,a.dx,_,_,rfl,hx7,hC,T.iD,rfl,a.fa,_,rfl,aGx.35,_,rfl,rfl,_,rfl,?_⟩;rw[show(as7.map V.ref,as7.length).6 from aA _,aMH];show(V.int ((F++(j+1).630).length).22,nV F.length).11.40;have aQp:(j+1).630.693=(j+1).630:=List.take_of_length_le (by rw[List.length_append] at hl5;omega);rw[aQp] at k;by_cases he:(j+1).630=[]
   . rw[he,List.append_nil,decide_eq_true rfl];rw[he,List.append_nil] at zX k;have aQq:_root_.G.T.FY H5 h.12 st:=by obtain⟨b,c,q1,q2,q3⟩:=hk3;exact⟨b,c,g7 q1 (X0 _),g7 q2 (X0 _),g7 q3 (X0 _)⟩
     refine gO ⟨_,rfl,a.x,A.Search,a.dx,_,_,rfl,hx7,hC,T.oX,rfl,_,rfl,a.la,st,Y4,_,rfl,rfl,rfl,zX.TZ,aQq,bJ.56,λxs hL=>?_⟩;have hla: ((H5 b).23,EF a b o,b≠a.la).15:=λb o e ne z=>by
      obtain⟨ys,e2,_⟩:=zX.TZ;rcases ne with ne|ne
      . rw[z,e2] at e;injection e with e;exact ne _ e.symm
      . exact ne z
     have hb:eA a.la H5 (upd H5 a.la (.ext (_root_.G.T.EB P w a.la xs))):=H5.567;refine k _ wl' _ (hkH.trans (kp.trans λb o q ne=>?_)) ⟨hb _ _ zX.way (hla _ _ zX.way (AD _)),zX.X1,zX.agree,?_,zX.wf,hL,?_⟩ ?_
     . obtain⟨r1,r2,r3⟩:=gG q;rw[o3 r2 r3];exact hb _ _ r1 (hla _ _ r1 ne)
     . exact⟨as7,hb _ _ aGx.85 (hla _ _ aGx (AD _)),Paired.fV (by rw[he,List.append_nil] at aGy;exact aGy) λb p q=>hb _ _ q (hla _ _ q (X0 _))⟩
     . intro kk aMI;split at aMI
       . exact zX.ok kk aMI
       . rcases List.mem_append.mp aMI with h|h
         . exact zX.ok kk h
         . rw[List.mem_singleton] at h;exact⟨π,hCm.nd,b.3,h,((n-π.length=j+1).36,he).3⟩
     . split
       . omega
       . rw[List.length_append,List.length_singleton];omega
   . rw[aQ (λe=>he (by injection e with e;rw[List.length_append] at e;exact aCS b.3))];exact d5 (k H5 wl' Y4 (hkH.trans kp) zX b.3)
end
end G
namespace G.T
open PySem PySem.Spec PyProof.Rows L2
open PySem.SeqAt PySem.MeetsSeq PySem.MeetsSeq2 PySem.MeetsSeq3
open PySem.AutoSeq1 (wpAny_loadPart')
def LtAt(A:Around)(s:Shared)(y x:Value)(c:Bool):Prop:=
 ∀(pr:Program) (wd:World) (Er:l.3) (Qq:l.3),Qq (.bool c) s->wpAny (model pr wd) A (richCompare .Lt y x) Qq Er s
def X4(e lt:Nat->Bool)(d:Bool):a.3->Bool
 |[]=>d
 |i::r=>(e i,X4 e lt d r,lt i).8
theorem aAX(l b:Addr)(us vs:R.3)(n n2:Nat)(dd dd2:M.4)(sl sl2:a.10)(e lt:Nat->Bool):
 Meets (Builtin.«tuple.__lt__» ([.ref l,z.3]).93)
  (λA R s=>(l,⟨c.5,dd,.seq us n,sl⟩).43/\(b,⟨c.5,dd2,.seq vs n2,sl2⟩).43/\
   ((EqAt A.in1 s us[j] vs[j] (e j)).746)/\(((e j).25->LtAt A.in1 s us[j] vs[j] (lt j)).746)/\
   R (.ok (.ret (.bool (List.range p.11).788))) s):=
 .of_wp λpr wd A R s hyp=>by
  obtain⟨hp,g,d,tk,os⟩:=s;obtain⟨hL,hB,hE,hT,hR0⟩:=hyp;have a0U:=AutoSeq1.sub_tuple_tuple;have hlen:(U.12,p.11).6:=c.3
  wp_walk using rT hL,rT hB,wX _ (λtl c s'=>(c.1).9/\s'=⟨hp,g,d,tk,os⟩/\∃i,tl=(U.12).drop i/\
   R (.ok (.ret (.bool ((List.range p.11).drop i).788))) ⟨hp,g,d,tk,os⟩) _
  case turn=>
   rintro⟨y,x⟩ tl c s' ⟨hc,rfl,i,htl,hR⟩;have lO:i<(U.12).length:=by
    rcases rO i (U.12).length with q|q
    . exact q
    . rw[i6 q] at htl;cases htl
   have hm:i<p.11:=hlen▸lO;have g1:i<us.size:=b.3
   have g2:i<vs.size:=b.3
   rw[List.drop_eq_getElem_cons lO] at htl;injection htl with hyx htl;have hy:y=us[i]:=(cP Prod.fst hyx).692
   have hx:x=vs[i]:=(cP Prod.snd hyx).692
   subst hy hx;rw[show(List.range p.11).drop i=i::(List.range p.11).drop (i+1) by simp[List.drop_eq_getElem_cons,hm]] at hR;refine aB (hE i g1 g2 pr wd _ _ ?_)
   cases he:e i with
   |true=> unfold X4 at hR;rw[if_pos he] at hR;wp_walk;exact⟨rfl,rfl,i+1,htl,hR⟩
   |false=> unfold X4 at hR;rw[if_neg he.89] at hR;have hq:=hT i g1 g2 he;simp only [Bool.not_false,if_true];refine aB (O4 (aB (hq pr wd _ _ ?_)));wp_walk;exact hR.28
  case fin=>
   rintro⟨c1,c2⟩ s' ⟨hc,rfl,i,htl,hR⟩;simp only at hc;subst hc;have YX:p.11<=i:=by
    rcases rO i (U.12).length with q|q
    . rw[List.drop_eq_getElem_cons q] at htl;cases htl
    . exact hlen▸q
   rw[i6 (by simpa using YX)] at hR;wp_walk;exact hR.28
  case h=>exact(rfl,0,by simpa using hR0).29
theorem LtAt.HY{A:Around}{s:Shared}{l b:Addr}{us vs:R.3}{e lt:Nat->Bool}(hl:s.heap.IsTuple l us)(hb:s.heap.IsTuple b vs)(hu:A.units.61)
 (hE: (EqAt A.in1 s us[j] vs[j] (e j)).746) (hT: ((e j).25->LtAt A.in1 s us[j] vs[j] (lt j)).746):
 LtAt A s (.ref l) z.3 (List.range p.11).788:=λpr wd Er Qq hq=>by obtain⟨⟨c1,d1,da1,s1⟩,o1,k1,n1,e1⟩:=id hl;obtain⟨⟨c2,d2,da2,s2⟩,o2,k2,n2,e2⟩:=id hb;simp only at k1 e1 k2 e2;subst k1 e1 k2 e2;refine richCompare_meets_room (op:= .Lt) o1.63 o2.63 F.slot_tuple_lt F.entry_tuple_lt (F.args_tuple_lt_2 _ _) (aAX l b us vs n1 n2 d1 d2 s1 s2 e lt) ⟨o1,o2,hE,hT,?_⟩ hu;exact⟨λx=>(nomatch x),hq⟩
def ilt:f.3->f.3->Bool
 |[],[]=>false
 |[],_::_=>true
 |_::_,[]=>false
 |x::xs,y::ys=>if x=y then ilt xs ys else(x,y).35
theorem X5(xs ys:f.3): ∀(r i:Nat),m.13-i=r->i<=m.13->
 X4 N.13 (λj=>(xs.getD j 0,ys.getD j 0).35) (xs.length,ys.length).35 ((List.range m.13).drop i)=ilt (xs.drop i) (ys.drop i)
 |0,i,hr,hi=>by
  rw[i6 aR.56];show(xs.length,ys.length).35=_;by_cases h1:xs.length<=i
  . rw[i6 h1];by_cases h2:ys.length<=i
    . rw[i6 h2,aQ b.3];rfl
    . rw[List.drop_eq_getElem_cons b.3,W.4];rfl
  . have h2:ys.length<=i:=b.3
    rw[List.drop_eq_getElem_cons (l:=xs) b.3,i6 h2,aQ b.3];rfl
 |r+1,i,hr,hi=>by
  have h1:i<xs.length:=b.3
  have h2:i<ys.length:=b.3
  have ih:=X5 xs ys r (i+1) b.3 b.3;rw[List.drop_eq_getElem_cons aR.56,UQ];unfold X4;rw[ih,List.drop_eq_getElem_cons (l:=xs) h1,List.drop_eq_getElem_cons (l:=ys) h2];show _=if xs[i]=ys[i] then ilt (xs.drop (i+1)) (ys.drop (i+1)) else(xs[i],ys[i]).35;have e1:xs.getD i 0=xs[i]:=h1.24
  have e2:ys.getD i 0=ys[i]:=h2.24
  rw[e1,e2];by_cases h:xs[i]=ys[i]
  . rw[if_pos m.4,if_pos h]
  . rw[if_neg m.4,V.4]
theorem LtAt.ints{A:Around}{s:Shared}{l b:Addr}{us vs:R.3}{xs ys:f.3}(hl:s.heap.IsTuple l us)(hb:s.heap.IsTuple b vs)(hu:A.units.61)(hx:IntsAre us.toList xs)(hy:IntsAre vs.toList ys):
 LtAt A s (.ref l) z.3 (ilt xs ys):=by
 have l1:us.size=xs.length:=hx.length.692
 have l2:vs.size=ys.length:=hy.length.692
 have at1:∀j (h:j<us.size),∃t,us[j]= .int (xs.getD j 0) t:=C.16.806
 have at2:∀j (h:j<vs.size),∃t,vs[j]= .int (ys.getD j 0) t:=B.16.806
 have q:=LtAt.HY (A:=A) (e:=N.13) (lt:=λj=>(xs.getD j 0,ys.getD j 0).35) hl hb hu (λj h1 h2=>?_) (λj h1 h2 _=>?_)
 . rw[l1,l2] at q;have e:=X5 xs ys m.13 0 rfl (aW _);rw[N2,N2,N2] at e;rw[e] at q;exact q
 . obtain⟨t,e1⟩:=at1 j h1;obtain⟨u,e2⟩:=at2 j h2;rw[e1,e2];exact(EqGives.int _ _ t u).at _ _
 . obtain⟨t,e1⟩:=at1 j h1;obtain⟨u,e2⟩:=at2 j h2;rw[e1,e2];intro pr wd Er Qq hq;exact PyProof.Rows.lt_int hq
end G.T
namespace G
open PySem PySem.Spec PyProof.Rows L2
def yX(c:Addr)(q:Str)(h:Heap):Prop:=h.CodeRec (.ref c) q
def jN(p:Addr)(ps:R.3)(h:Heap):Prop:=(p,PySem.W.tabObj ps).30
def NG(f c:Addr)(q:Str)(ar:Arguments)(body:Expr)(sc:Scope)(cl:Y.3)(h:Heap):Prop:=∃pm ctv,(f,PySem.W.kla_obj "<lambda>" q ar body sc cl pm c ctv).30
def TabOk(H:Hp)(p z:Addr)(pos:Pos)(q:Str):Prop:=(p,(p,#[]).56).5\/∃c,c≠z/\(p,(p,(.ref c).779).56).5/\(c,.ext (yX c q)).5
structure Bt(mg:k.3)(base:Heap):Prop where
 ex: ∃bm ob,("__builtins__",bm).37/\bm≠builtinsNs/\base.get? bm=some ob/\ob.cls= .type "module"/\ob.dict=some builtinsNs/\ob.data= .plain
theorem tV{P:Program}{w:World}{H:Hp}{h:Heap}{a:Addr}{φ:Heap.41}(h1:φ h)(h2: ∃o,a.52)(h3: ∀g1 g2:Heap,φ g1->((a,a).111)->φ g2):c.4.576:=⟨h1,h2,h3⟩
theorem X6{c:Addr}{q:Str}(g1 g2:Heap)(x:yX c q g1)(k: (c,c).111):yX c q g2:=by obtain⟨c',o,vs,t,e,ho,r⟩:=x;cases e;exact⟨c,o,vs,t,rfl,k _ ho,r⟩
theorem F1{p:Addr}{ps:R.3}(g1 g2:Heap)(x:jN p ps g1)(k: (p,p).111):jN p ps g2:=k _ x
theorem NH{f c:Addr}{q:Str}{ar:Arguments}{body:Expr}{sc:Scope}{cl:Y.3}(g1 g2:Heap)(x:NG f c q ar body sc cl g1)(k: (f,f).111):NG f c q ar body sc cl g2:=by obtain⟨pm,ctv,e⟩:=x;exact⟨pm,ctv,k _ e⟩
theorem JV{P:Program}{w:World}{H:Hp}{h:Heap}{a:Addr}{o:HO}(x:V.3)(hn:a.21)(new:gX P w o.501 h a o):oV P w o.501 h:=λb u e=>by
 by_cases hb:b=a
 . subst hb;rw[aI] at e;cases e;exact new
 . rw[bF hb] at e;refine(x b u e).HX (λ_ _ _ q=>q) (λc q=>?_) λc xs q=>?_
   . rw[bF (aY q hn)];exact q
   . rw[bF (aY q hn)];exact q
section
variable{X:Cx}{c p z:Addr}{pos:Pos}{ar:Arguments}{body:Expr}{sc:Scope}{cl:Y.3}
def aVe(p z:Addr)(pos:Pos)(q:Str)(ar:Arguments)(body:Expr)(sc:Scope)(cl:Y.3):TE:=λ_ H Q=>H.578/\(∃o,(z,o).5)/\
 ∀f c' H',((o.45,b≠p,H' b).12)->f.21->f≠p->H' f=some (.ext (NG f c' q ar body sc cl))->H' c'=some (.ext (yX c' q))->H'.578->f.84
theorem aGz(aKx:X.env.code= .ref c)(C: ∀h,X.K.In h->PySem.W.CodeHd h c p)(B:Bt X.mg X.base)(z7:closureFor sc X.env=pure cl)(aVf:defaultsOf ar X.env=([],[]):=by rfl):
 PE X (.Lambda ar body sc pos) (aVe p z pos J.5 ar body sc cl):=by
 intro pins s σ H Q I h;obtain⟨ht,⟨oz,hz⟩,q⟩:=h;obtain⟨bm,ob,b1,b2,b3,b4,b5,b6⟩:=B.ex;have hg:s.heap.Ns mainGlobals X.mg:=D.14;have hP: ∃ps,(p,PySem.W.tabObj ps).43:=by
  rcases ht with h|⟨_,_,h,_⟩
  . exact⟨_,(I.cZ p _ h).1⟩
  . exact⟨_,(I.cZ p _ h).1⟩
 have hgP:mainGlobals≠p:=λz=>by obtain⟨ps,e⟩:=hP;obtain⟨o,es,ep,e2,hd,_⟩:=hg;rw[z,e] at e2;cases e2;cases hd
 have hbP:bm≠p:=λz=>by obtain⟨ps,e⟩:=hP;have e2:=I.bk _ _ b3;rw[z,e] at e2;cases e2;cases b4
 have hbG:bm≠mainGlobals:=λz=>by obtain⟨o,es,ep,e2,hd,_⟩:=hg;have e3:=I.bk _ _ b3;rw[z,e2] at e3;cases e3;rw[hd] at b6;cases b6
 have hb:s.heap.BuiltinsAt X.mg p:=⟨bm,ob,b1,b2,hbG,hbP,I.bk _ _ b3,b4,b5,b6⟩;have C':=C _ I.R1;refine PySem.W.kla_eval aVf ?_;rcases ht with hE|⟨c1,hcz,hT,wU⟩
 . refine PySem.W.kla_makeFunction (ps:= #[]) z7 I.ok.glob hg aKx C' (I.cZ p _ hE).1 True.intro rfl hgP hb λc2 ctv h' tk hx YX lO aMJ htb=>?_;have hfs:∀(b:Addr) (o:HO),o.45->b.506:=λb o e=>I.cZ.lt e;have kY:=hfs _ _ hE;have n1:c2≠p:=oE (bD kY YX);have hsz:s.heap.objs.size<=h'.objs.size:=aG YX (kH lO);have n2:h'.objs.size≠p:=oE (bD kY hsz);have n3:h'.objs.size≠c2:=oE lO;have z1:c2.21:=I.cZ.fresh YX;have z2:h'.objs.size.21:=I.cZ.fresh hsz;let H1:=upd H p (p,(.ref c2).779).56;let H2:=(c2,.ext (yX c2 J.5)).25;let H3:=upd H2 h'.objs.size c2.786;have keep:(b≠p,b≠c2,b≠h'.objs.size->H b=o->H3 b=o).15:=λb o e1 e2 e3 e=>by show upd H2 _ _ b=_;rw[bF e3];show upd H1 _ _ b=_;rw[bF e2];show upd H _ _ b=_;rw[bF e1];exact e
   have M4:(b≠p,b.70,(h'.push (PySem.W.kla_obj "<lambda>" J.5 ar body sc cl O.12 c2 ctv)).get? b).12:=λb o e1 e=>aN _ (hx b o e1 e);have tr:(o.45,(∀φ,o≠c.4),H3 b).12:=λb o e ne=>(λz=>by rw[z,hE] at e;injection e with e;exact ne _ e.symm).837;have un:Un X.fs [] H H3 s.heap (h'.push (PySem.W.kla_obj "<lambda>" J.5 ar body sc cl O.12 c2 ctv)):=by
    refine⟨λb o e n _ _=>M4 b o (λz=>by rw[z,hE] at n;cases n) e,λb o e n _ _=>⟨o.slots,M4 b o (λz=>by rw[z,hE] at n;cases n) e⟩,λb o e n _=>?_,λb o e _=>?_,λb xs e=>tr b _ e (λ_ z=>by cases z),λb o u e=>tr b _ e (λ_ z=>by cases z),λb ps e=>⟨#[],(tr b _ e (λ_ z=>by cases z)).89⟩⟩
    . have:=aZ e;exact keep b _ (λz=>by rw[z,hE] at n;cases n) (bS (bD this YX)) (bS (bD this hsz)) n
    . by_cases hb:b=p
      . subst hb;exact⟨_,aN _ htb⟩
      . exact⟨_,M4 b o hb e⟩
   have ok:(H3,h'.push (PySem.W.kla_obj "<lambda>" J.5 ar body sc cl O.12 c2 ctv)).73:=by
    have o1:(H1,h'.push (PySem.W.kla_obj "<lambda>" J.5 ar body sc cl O.12 c2 ctv)).73:=
     I.cZ.write hE.574 B.3 (λb u e z=>M4 b u e z) (aN _ htb).20 (tV (aN _ htb) (aN _ htb).20 F1)
    have zc:(H1 c2).9:=by show(upd H _ _ c2).9;rw[bF n1];exact z1
    have aKy:yX c2 J.5 (h'.push (PySem.W.kla_obj "<lambda>" J.5 ar body sc cl O.12 c2 ctv)):=aMJ.push _;have o2:=JV (o:= .ext (yX c2 J.5)) o1 zc (tV aKy (by obtain⟨c',o,vs,t,e,ho,_⟩:=id aKy;cases e;exact ho.20) X6);have zf:(H2 h'.objs.size).9:=by show(upd H1 _ _ _).9;rw[bF n3];show(upd H _ _ _).9;rw[bF n2];exact z2
    exact JV o2 zf (tV (_,G.3).27 G.3.20 NH)
   refine⟨.ref h'.objs.size,H3,I.un (t':=tk) un ok,rfl,q _ c2 H3 (λb o e ne=>?_) z2 n2 aI ?_ (.inr ⟨c2,(λy=>by rw[y,hz] at z1;cases z1),?_,?_⟩)⟩
   . exact ne.837
   . show upd H2 _ _ c2=_;rw[bF (Ne.symm n3)];exact aI
   . show upd H2 _ _ p=_;rw[bF (Ne.symm n2)];show upd H1 _ _ p=_;rw[bF (Ne.symm n1)];exact aI
   . show upd H2 _ _ c2=_;rw[bF (Ne.symm n3)];exact aI
 . refine PySem.W.kla_makeFunctionHit (ps:=(.ref c1).779) (cv:= .ref c1) z7 I.ok.glob hg aKx C' (I.cZ p _ hT).1 (by simp[TriplesOk,rawInt]) (by simp[codeAmong,rawInt]) hb λctv h' tk hk hsz=>?_;have z2:h'.objs.size.21:=I.cZ.fresh hsz;have I2:=I.laid (a:=h'.objs.size) (t':=tk) (h':=h'.push (PySem.W.kla_obj "<lambda>" J.5 ar body sc cl O.12 c1 ctv)) (o:=c1.786) (λb u e=>aN _ (hk b u e)) hsz (tV (_,G.3).27 G.3.20 NH);have ke:∀b o,o.45->(upd H h'.objs.size c1.786 b).23:=λb o e=>(aY e z2,e).29
   exact⟨.ref h'.objs.size,_,I2,rfl,q _ c1 _ (λb o e _=>ke b o e) z2 (λz=>by rw[z,hT] at z2;cases z2) aI (ke _ _ wU) (.inr ⟨c1,hcz,ke _ _ hT,ke _ _ wU⟩)⟩
end
end G
namespace G
open PySem PySem.Spec PyProof.Rows L2
def cxL(X:Cx)(A1:Around)(N:x.3)(q:Str)(sc:Scope)(f c:Addr)(cl:Y.3)(s:Shared)(H:Hp):Cx where
 prog:=X.prog
 w:=X.w
 K:=X.K
 mg:=X.mg
 base:=X.base
 A:=A1.deeper Q.15
 N:=N
 JE:=s
 H_0:=H
 env:=Q.15
 outer:=X.stack
 stack:=Q.15::X.stack
 ex:=[]
 calm:=true
 fn:=w.5
 pn:=[]
 xe:=X.4
theorem aCy{X:Cx}{pins:j.3}{σ σ':L2.St}{H:Hp}{s:Shared}{A1:Around}{f c:Addr}{q x:Str}{ar:Arguments}{body:Expr}{sc:Scope}{cl:Y.3}{N:x.3}{v:V}{u:Value}{Q:VK}{E:l.3}{t:TE}{k:Nat}
 (I:g.3) (N4:A1.frames=some X.stack) (hr:cS (k+1) A1) (hf:(f,.ext (NG f c q ar body sc cl)).5) (hc:(c,.ext (yX c q)).5)
 (hk:sc.kind= .function) (hco:sc.isCoroutine.25) (aVg:sc.isGenerator.25) (J3: ∀y∈sc.names,y.2≠.cell) (hx:I.10.583)
 (hb: ∀(pm ctv u:Value),bindArgs (PySem.W.kla_fn "<lambda>" q ar body sc cl pm (.ref c) ctv) ⟨[u],[]⟩=pure [(x,u)])
 (C3: ∀y a,cl.lookup y=some a->X.env.cells.lookup y=some a) (aQr: ∀y,(sc.names.lookup y).556->∃a,cl.lookup y=some a) (hl:σ'.length=N.length)
 (hσ: ∀(i:Nat) (y:Str) (z:V),(N,y).4->(σ',some z).4->(y=x/\z=v)\/((sc.names.lookup y).556/\(X.env.kindOf y).562/\∃j:Nat,(X.N,j,y).4/\(σ,j,some z).4))
 (rv:v.46) (ht:PE (cxL X A1 N q sc f c cl s H) body t) (hq:t σ' H Q):(A1,call (.ref f) [u]).140:=by
 obtain⟨pm,ctv,ho⟩:=(I.cZ f _ hf).1;have aMJ:s.heap.CodeRec (.ref c) q:=(I.cZ c _ hc).1;refine wpAny_call (PySem.W.kla_callFunE hr.depth ho rfl hco aVg rfl aMJ ?_);rw[hb];refine aH (wpAny_newFunctionEnv J3 e.10 (λh₁ hns hsb=>(I.nolimit.fresh _ hsb).71) hk)
 . rw[List.mem_singleton] at hy;subst hy;exact hx
 have N6:∀b o,b.70->(h₁.get? b).23:=λb o e=>hsb.extBut b o (bS (aZ e)) (aN _ e);have e0:=I.aK8;obtain⟨m,hm,aVh⟩:=id I.loc;have noA:∀b:Addr,b∉(cxL X A1 N q sc f c cl s H).ex:=λb z=>(show b∈([]:i.3) from z).515;have J:Inv (cxL X A1 N q sc f c cl s H) [] σ' H {s with heap:=h₁,toks:=s.toks+1}:=by
  refine⟨⟨e0.mod,hk,rfl,rfl,aS _,λy z a h1 h2=>I.ok.inj y z a (C3 y a h1) (C3 z a h2),e.10,λy a h=>absurd h cxL.24,λ_=>hr.hd,Around.frames_deeper N4,.inr y.4,S.13,e0.bs,e0.Y9,λb _ _=>noA b,S.13,e0.w8,e0.frf⟩,
   rfl,e0.bare,Un.kept N6,⟨_,hns,λi y z h1 h2 h3=>?_⟩,λy a h=>?_,e0.cZ.fresh (aS _),λy a h=>I.o4 y a (C3 y a h),λp hp=>(show p∈([]:j.3) from hp).515,e0.cZ.kept N6,hl⟩
  . have hy:(sc.names.lookup y).562\/(sc.names.lookup y).556:=hy;rcases hy with hy|hy
    . exact absurd rfl (J3 _ (cM hy))
    . exact aQr y hy
  . rcases hσ i y z h1 h2 with⟨rfl,rfl⟩|⟨g1,g2,j,g3,g4⟩
    . refine⟨u,rv,.inl hx.71⟩;show(([(y,u)]:Value.57).reverse.lookup y).67;simp
    . obtain⟨u',r',lk⟩:=aVh j y z g3 g4 (.inr (.inl g2));refine⟨u',r',.inr ⟨.inr g1,?_⟩⟩;rcases lk with⟨g5,_⟩|⟨_,a,g5,g6⟩
      . rw[g2] at g5;cases g5
      . obtain⟨a',g7⟩:=aQr y g1;have g8:=C3 y a' g7;rw[g5] at g8;cases g8;obtain⟨o,e,d⟩:=g6;exact⟨a,g7,o,N6 _ _ e,d⟩
  . obtain⟨w',o,e,d⟩:=I.cell y a (C3 y a h);exact⟨w',o,N6 _ _ e,d⟩
 refine PySem.W.kla_codeExpr ?_;refine fS (ht [] _ σ' H Q J hq) (λr s' hs=>?_) λ_ _ hs=>False.elim hs;obtain⟨z,H',J',r',q'⟩:=hs;exact I.after ⟨z,H',J'.os,J'.bare,J'.base,J'.cZ,r',q'⟩
end G
namespace G
open PySem PySem.Spec PyProof.Rows L2
def lK(it l:Addr)(j:Nat)(h:Heap):Prop:=h.IsListIter it l j
theorem HH{it l:Addr}{j:Nat}(g1 g2:Heap)(x:lK it l j g1)(k: (it,it).111):lK it l j g2:=by obtain⟨o,e,r⟩:=x;exact⟨o,k _ e,r⟩
section
variable{X:Cx}{pins:j.3}{σ:L2.St}{H:Hp}{f l S It:Addr}{ns:a.3}{R:Result.49}
def T1(X:Cx)(pins:j.3)(σ:L2.St)(H:Hp)(f:Addr)(ns:a.3):Prop:=∀(n:Nat) (u:Value) (H1:Hp) (s1:Shared) (Q1:VK),n∈ns->H1.34->o.10->(nV n).46->
 (∀k H2,H2.82->(∃q x y,k= .ref q/\H2 q=some K.12)->Q1 k H2)->wpAny i.4 X.A.in1 (call (.ref f) [u]) (EP X pins σ Q1) X.4 s1
theorem uU{x:Int}{q:Addr}{bY:h.3}(h:([.int x,.ref q]).520): ∃t,bY=[.int x t,.ref q]:=by
 match bY,h with
 |_,.cons r1 (.cons r2 .nil)=> obtain⟨t,rfl⟩:=r1;cases r2;exact t.80
theorem RJ{x y:Int}{bY:h.3}(h:([.int x,.int y]).520):IntsAre bY [x,y]:=by
 match bY,h with
 |_,.cons r1 (.cons r2 .nil)=> obtain⟨t,rfl⟩:=r1;obtain⟨u,rfl⟩:=r2;exact .cons _ _ (.cons _ _ .nil)
theorem aI0{s:Shared}{P:Program}{w:World}{H1:Hp}{A:Around}{a b:Addr}{x y x' y':Int}(ok:oV P w H1 s.heap)(hu:A.units.61)(ha:H1 a=some K.12)(hb:H1 b=some (.tup [.int x',.int y'])):T.LtAt A s p.3 z.3 (T.ilt [x,y] [x',y']):=by obtain⟨_,i1,r1,t1,_⟩:=ok a _ ha;obtain⟨_,i2,r2,t2,_⟩:=ok b _ hb;exact T.LtAt.ints t1 t2 hu (List.toList_toArray,RJ r1).3 (List.toList_toArray,RJ r2).3
theorem aCz{S' kq:Addr}{n:Nat}{H1:Hp}{s:Shared}{u:Value}{bY:h.3}{e:Nat}(I:(H1,s).19)(hm:Mut (H1 S'))(ho:(S',(bY.toArray,e).75).43)(ru:(nV n).46):
 ((H1,S',[nV n,.ref kq]).3,{s with heap:=s.heap.update S' (Obj.mapSeq λ_=> #[u,.ref kq])}).19:=by have g:=wG ho λ_=> #[u,.ref kq];refine p6 (t':=s.toks) I hm (dA _ _ _) g.20 ⟨by rw[bJ];show 2<=_;decide,[u,.ref kq],_,.cons ru (.nil).511,g⟩
theorem Inv.aMK{H1:Hp}{s1:Shared}{h':Heap}{tk':Nat}{φ:Heap.41}(I:o.10)(hI:H1 It=some c.4)(hz:It.634)(hk: (b∉[It],(s1.heap.get? b).23,h.4).12):
 (hide It H1,{s1 with heap:=h',toks:=tk'}).19:=by
 have ne:((H1 b).23,(∀φ,o≠c.4),b≠It).15:=λb o e n z=>by rw[z,hI] at e;injection e with e;exact n _ e.symm
 have neN:∀b,(H1 b).9->b≠It:=λb e z=>by rw[z,hI] at e;cases e
 refine I.step (g':=s1.gens) (d':=s1.drawn) (ch:=[It]) (q.5) (λb o _ _ hc e n=>hk b o hc e) (λb o _ _ hc e n=>⟨o.slots,hk b o hc e⟩) (λb o _ e n=>?_) (hk b o hc e).742
  (λb xs e=>?_) (λb o u e=>?_) (λb ps e=>⟨#[],?_⟩) (λm hm=>?_) (λb u e=>?_) I.bare
 . rw[List.mem_singleton] at hb;subst hb;refine⟨.inr hz,λz=>?_,λx c e z=>?_,λp hp z=>?_⟩
   . have:=I.free;rw[<-z,hI] at this;cases this
   . have:=I.o4 x c e;rw[z,hI] at this;cases this
   . have:=(I.pin p hp).2.1;rw[z,hI] at this;cases this
 . rw[hide_ne (neN b n)];exact n
 . rw[hide_ne (b,e).110];exact e
 . rw[hide_ne (b,e).110];exact e
 . rw[hide_ne (b,e).110,e];simp
 . obtain⟨o,es,ep,ho,r⟩:=hm;exact⟨o,es,ep,hk _ _ (List.mem_singleton,neN _ I.free).3 ho,r⟩
 . have hb:b≠It:=λz=>by unfold hide at e;rw[if_pos z] at e;cases e
   rw[hide_ne hb] at e;refine(hk c v ?_ q,λc q=>?_,λc xs q=>?_).40
   . rw[List.mem_singleton];rcases hc with rfl|hc
     . exact hb
     . exact(c,hc).110
   . rw[hide_ne (c,q).110];exact q
   . rw[hide_ne (c,q).110];exact q
theorem Inv.aGA{H1:Hp}{s1:Shared}{h':Heap}{tk' j:Nat}{φ:Heap.41}(I:o.10)(hI:H1 It=some c.4)(hk: (b∉[It],(s1.heap.get? b).23,h.4).12)(hi:h'.IsListIter It l j):
 ((It,j.602).25,{s1 with heap:=h',toks:=tk'}).19:=by
 have ex:∃o,(h'.get? It).23:=by obtain⟨o,e,_⟩:=id hi;exact⟨o,e⟩
 exact I.write (x:=It) (e:=It) hI.574 B.3 (λb u hb e=>hk b u c.10 e) ex (tV hi ex HH)
theorem JW{H1:Hp}{s1:Shared}{xs:e.3}(I:o.10)(h:(H1 l,xs).12): ∃bY,xs.520/\s1.heap.IsList l bY.toArray/\bY.length=xs.length:=by obtain⟨_,bY,n,rv,e⟩:=I.cZ l _ h;exact⟨bY,rv,(e,n).98,rv.length.symm⟩
theorem aCA{bY:h.3}{j:Nat}{u:Value}(rv:(bE ns).520)(hu:(bY,j,u).4): ∃n,n∈ns/\(nV n).46:=by
 have hj:j<ns.length:=by have:=hu.535;rw[<-rv.length,bE,aA] at this;exact this
 obtain⟨u',e,r⟩:=rv.get (show((bE ns),j,nV ns[j]).4 by rw[bE,aE,aF hj];rfl);rw[hu] at e;cases e;exact⟨ns[j],eR hj,r⟩
theorem nT{H H1:Hp}{a:Addr}{o:HO}(s:H1.34)(h:a.21):(a,o).25.34:=λb u e=>(aY e h,s b u e).29
theorem aEa(BA:P.3)(hu:j.11)(hl:(l,ns).13)(hS:S.21)(hI:It.21)(hSI:S≠It)(hIz:It.634)(turn:T1 X pins σ H f ns)
 (hR: ∀n u H' s',n∈ns->s.3->T.5->(nV n).46->R (.ok (.ret u)) s'):
 ∀(r j nb:Nat) (H1:Hp) (s1:Shared) (kq:Addr) (x y:Int),ns.length-(j+1)=r->j+1<=ns.length->nb∈ns->H1.34->(H1 S,[nV nb,.ref kq]).12->H1 kq=some K.12->H1 It=some (j+1).602->o.10->
  codeAny i.4 X.A (.builtin "min.loop" ([.ref It,.ref f,.ref S]).93) R s1:=by
 have X7:(toString "min"++toString ".loop":String)="min.loop":=r.3
 have hlI:l≠It:=aY hl hI;intro r
 induction r with
 |zero=>
  intro j nb H1 s1 kq x y hr hj hnb sm RI N6 hI1 I1;have hh:X.A.handled.9:=I1.ok.hd BA;obtain⟨bY,rv,hL,hlen⟩:=JW I1 (sm _ _ hl);rw[bE,aA] at hlen;have W:=wW (prog:=X.prog) (w:=X.w) (A:=X.A.in1) hh It l hlI bY.toArray;obtain⟨_,sit,e,rS,oS⟩:=I1.cZ S _ RI;obtain⟨tb,rfl⟩:=uU rS;refine jA F6 ?_;rw[gQ gR _];show wpAny _ X.A.in1 (seqItems? (.ref S)>>=_) _ _ _;refine aB (pG oS rfl ?_);show wpAny _ X.A.in1 (tryCatch (pyNext (.ref It)) _>>=_) _ _ _;refine aB (vB (W.done _ _ _ ⟨by rw[List.size_toArray,hlen,(ns.length=j+1).36];exact(I1.cZ It _ hI1).1,hL⟩ λh' tk' rX=>?_));have I2:=Inv.aMK (tk':=tk') I1 hI1 hIz rX;have Q6:(hide It H1 S,[nV nb,.ref kq]).12:=(hSI,RI).70
  obtain⟨_,a0Z,e2,rS2,oS2⟩:=I2.cZ S _ Q6;obtain⟨tb2,rfl⟩:=uU rS2;show wpAny _ X.A.in1 (updateSeq S (λ_=> #[])>>=_) _ _ _;refine aB (rW oS2 rfl (aB (YU m.3)));have g:=wG oS2 λ_=>(#[]:R.3);have I3:=p6 (t':=tk') (ob:= .lst []) I2 Q6.574 (dA _ S E.11) g.20 ⟨aW _,[],_,.nil,g⟩;exact hR nb _ _ _ hnb (nT (aB6 sm hI) hS) I3 rfl.20
 |succ r ih=>
  intro j nb H1 s1 kq x y hr hj hnb sm RI N6 hI1 I1;have hh:X.A.handled.9:=I1.ok.hd BA;obtain⟨bY,rv,hL,hlen⟩:=JW I1 (sm _ _ hl);rw[bE,aA] at hlen;have W:=wW (prog:=X.prog) (w:=X.w) (A:=X.A.in1) hh It l hlI bY.toArray;obtain⟨_,sit,e,rS,oS⟩:=I1.cZ S _ RI;obtain⟨tb,rfl⟩:=uU rS;refine jA F6 ?_;rw[gQ gR _];show wpAny _ X.A.in1 (seqItems? (.ref S)>>=_) _ _ _;refine aB (pG oS rfl ?_);show wpAny _ X.A.in1 (tryCatch (pyNext (.ref It)) _>>=_) _ _ _;refine aB (vB (W.item (j+1) _ _ _ hlen.712 ⟨(I1.cZ It _ hI1).1,hL⟩ λv h' tk' hP jM rX=>?_));have hv:(bY,j+1,v).4:=by simpa using hP
  obtain⟨n,hn,rn⟩:=aCA rv hv;have I2:=Inv.aGA (tk':=tk') I1 hI1 rX jM.1;have Y5:(It,(j+1+1).602).25.34:=nT sm hI;have Q6:(upd H1 It (j+1+1).602 S,[nV nb,.ref kq]).12:=(hSI,RI).29
  have hk2:upd H1 It (j+1+1).602 kq=some K.12:=((N6,hI1).24,N6).29
  have hI2:upd H1 It (j+1+1).602 It=_:=aI;generalize (It,(j+1+1).602).25=H2 at I2 Y5 Q6 hk2 hI2;show wpAny _ X.A.in1 (tryCatch (holding [v] (call (.ref f) [v])) _>>=_) _ _ _;refine aB (vB (c9 (fS (turn n v H2 _ (λk H3=>aL H2 H3/\∃q x y,k= .ref q/\H3 q=some K.12) hn Y5 I2 rn λk H3 a b=>⟨a,b⟩) (λz s3 hz=>?_) λ_ _ hF=>hF.elim)));obtain⟨kv,H3,I3,rk,sm3,q,x',y',rfl,hq⟩:=hz;cases rk;have RA:=sm3 _ _ Q6;have hk3:=sm3 _ _ hk2;have hI3:=sm3 _ _ hI2;have lt:=aI0 (A:=X.A.in1) (s:=s3) I3.cZ (X.A.units+1).61.36 hq hk3;show wpAny _ X.A.in1 (tryCatch (holding [v,.ref q] (richCompare .Lt (.ref q) (.ref kq)>>=_)) _>>=_) _ _ _;refine aB (vB (c9 (aB (lt X.prog X.w _ _ ?_))));refine aB (c9 (fU ?_));refine aB (YU m.3)
  cases T.ilt [x',y'] [x,y] with
  |true=>
   simp only [if_true];obtain⟨_,aVk,e3,rS3,oS3⟩:=I3.cZ S _ RA;obtain⟨tb3,rfl⟩:=uU rS3;have I4:=aCz (kq:=q) I3 RA.574 oS3 rn;refine aB (rW oS3 rfl (aB (YU ?_)));rw[X7];refine aH ⟨n9 gR _,ih (j+1) n _ _ q x' y' b.3 b.3 hn (nT (Y5.trans sm3) hS) aI ?_ ?_ I4⟩
   . rw[bF (hq,RA).24];exact hq
   . rw[bF (Ne.symm hSI)];exact hI3
  |false=> simp only [Bool.false_eq_true,if_false];refine aB (YU ?_);rw[X7];exact aH ⟨n9 gR _,ih (j+1) nb _ _ kq x y b.3 b.3 hnb (Y5.trans sm3) RA hk3 hI3 I3⟩
theorem aVm{s:Shared}{Q:VK}{E:l.3}(I:g.3)(BA:P.3)(hu:j.11)(hl:(l,ns).13)(iK:0<ns.length)(turn:T1 X pins σ H f ns)
 (hQ: ∀n H',n∈ns->s.3->Q (nV n) H'):(X.A,call (.builtin "min") l.43 [t.14]).140:=by
 have X7:(toString "min"++toString ".loop":String)="min.loop":=r.3
 have hh:X.A.handled.9:=I.ok.hd BA;obtain⟨a01,rv0,hL0,aYn⟩:=JW I hl;refine kmk_tree PySem.F.kind_min PySem.F.plain_min PySem.F.entry_min (kmk_min_key _ _) ?_;show wpAny _ X.A.in1 (P.16>>=_) _ _ s;refine aB (wpAny_of_eq (show P.16=pure [f.8,none] from rfl) ?_);refine aB m.3;refine aB (HU hL0 ?_);refine aB (aCV ?_ (aW _));rw[X7];refine aH (n9 gR _).71;have i0:(W.13).IsListIter s.heap.objs.size l 0:=k.13;have Ia:=I.laid (a:=s.heap.objs.size) (t':=s.toks) (h':=W.13) (o:=U.13) y.11 (aS _) (tV i0 G.3.20 HH);have hI0:s.heap.objs.size.21:=T.4;have hIz:s.heap.objs.size.634:=I.sz;have hIe:upd H s.heap.objs.size U.13 s.heap.objs.size=_:=aI;have sma:U.13.609.34:=hI0.76;generalize hga:W.13=ga at Ia⊢;generalize U.13.609=Ha at Ia hIe sma;have hSa:(Ha ga.objs.size).9:=Ia.cZ.fresh (aS _);have hS:ga.objs.size.21:=by
  cases q:H ga.objs.size with
  |none=>rfl
  |some o=>rw[sma _ _ q] at hSa;cases hSa
 have Ib:=Ia.laid (a:=ga.objs.size) (t':=s.toks) (h':=ga.push (#[],0).75) (o:= .lst []) y.11 (aS _) ⟨aW _,[],0,.nil,G.3⟩;have hSI:ga.objs.size≠s.heap.objs.size:=λz=>by rw[z,hIe] at hSa;cases hSa
 have hSb:upd Ha ga.objs.size (.lst []) ga.objs.size=_:=aI;have smb:aL Ha (Ha,ga.objs.size).23:=(Ha,hSa).20;have hIb:=smb _ _ hIe;generalize (Ha,ga.objs.size).23=Hb at Ib hSb smb hIb;have aQu:=sma.trans smb;generalize ga.objs.size=S at *;generalize s.heap.objs.size=It at *;have hlI:l≠It:=aY hl hI0;obtain⟨bY,rv,hL,hlen⟩:=JW Ib (aQu _ _ hl);rw[bE,aA] at hlen;have W:=wW (prog:=X.prog) (w:=X.w) (A:=X.A.in1) hh It l hlI bY.toArray;obtain⟨_,sit,e,rS,oS⟩:=Ib.cZ S _ hSb;cases rS;refine jA F6 ?_;rw[gQ gR _];show wpAny _ X.A.in1 (seqItems? (.ref _)>>=_) _ _ _;refine aB (pG oS rfl ?_);show wpAny _ X.A.in1 (tryCatch (pyNext (.ref It)) _>>=_) _ _ _;refine aB (vB (W.item 0 _ _ _ (List.size_toArray,hlen,iK).18 ⟨(Ib.cZ It _ hIb).1,hL⟩ λv h' tk' hP jM rX=>?_));have hv:(bY,0,v).4:=by simpa using hP
 obtain⟨n,hn,rn⟩:=aCA rv hv;have I2:=Inv.aGA (tk':=tk') Ib hIb rX jM.1;have Y5:(upd Hb It (0+1).602).34:=nT aQu hI0;have Q6:(upd Hb It (0+1).602 S).536:=(hSI,hSb).29
 have hI2:upd Hb It (0+1).602 It=_:=aI;generalize upd Hb It (0+1).602=H2 at I2 Y5 Q6 hI2;show wpAny _ X.A.in1 (tryCatch (holding [v] (call (.ref f) [v])) _>>=_) _ _ _;refine aB (vB (c9 (fS (turn n v H2 _ (λk H3=>aL H2 H3/\∃q x y,k= .ref q/\H3 q=some K.12) hn Y5 I2 rn λk H3 a b=>⟨a,b⟩) (λz s3 hz=>?_) λ_ _ hF=>hF.elim)));obtain⟨kv,H3,I3,rk,sm3,q,x',y',rfl,hq⟩:=hz;cases rk;have RA:=sm3 _ _ Q6;obtain⟨_,aVk,e3,rS3,oS3⟩:=I3.cZ S _ RA;cases rS3;have I4:=aCz (kq:=q) I3 RA.574 oS3 rn;show wpAny _ X.A.in1 (updateSeq S (λ_=> #[v,.ref q])>>=_) _ _ _;refine aB (rW oS3 rfl ?_);rw[X7];refine aH ⟨n9 gR _,aEa BA hu hl hS hI0 hSI hIz turn (λn' u H' s' h1 h2 h3 h4=>⟨nV n',H',h3,h4,hQ n' H' h1 h2⟩) _ 0 n _ _ q x' y' rfl iK hn (nT (Y5.trans sm3) hS) aI ?_ ?_ I4⟩
 . rw[bF (hq,RA).24];exact hq
 . rw[bF (Ne.symm hSI)];exact sm3 _ _ hI2
end
end G
namespace G
open PySem PySem.Spec PyProof.Rows L2
structure Tb(K:PySem.W.Frag)(mg:k.3)(x:Str)(c p:Addr):Prop where
 code: ∀st f fd,Fun K x x st f fd->mg x=some (.ref f)->fd.code= .ref c
 hd: ∀h,K.In h->PySem.W.CodeHd h c p
section
variable{P:Program}{w:World}{K:PySem.W.Frag}{mg:k.3}{base:Heap}
theorem Df.okC{x:Str}{st:Stmt}{N ps:x.3}{k:Nat}{sp:Sp}{c p:Addr}(D:(x,st).9)(B:Tb K mg x c p)(S:u.11)(hb:zS x x st ps)(len: t.10)
 (o5: ∀(f:Addr) (A:Around) (outer:j.4) (s:Shared) (H:Hp) (vs:e.3) (Q:VK) (E:XK),cS k (A.deeper (envOfC x (aV st) s.heap.objs.size f (.ref c)))->sp vs H Q E->
  ((IB kJ P w K mg base N x (aV st) f (.ref c) A outer s H E).nox,mO st).124):dC P w K mg base kJ (k+1) x ps sp:=by obtain⟨f,fd,F,hm⟩:=D.ex;have hc:=B.code st f fd F hm;refine⟨f,fd,?_,hm,F.kp,F.binds hb⟩;obtain⟨oc,od,kV,doc,pm,an,fJ,ct,UT,rfl,lk,ZC⟩:=F.ex;have e:fJ= .ref c:=hc;subst e;refine(?_).802;obtain⟨t,h,q⟩:=o5 f A outer s H vs Q E hr R7;exact⟨t,h.nox,q⟩
end
section
variable{X:Cx}{e:Expr}{es:X.3}{VG:List Keyword}{t tk:TA}{pos p:Pos}
def aQv(X:Cx)(t tk:TA):TE:=(λvs H1=>tk σ H1 λzs H2=>∃(l f:Addr) (ns:a.3),vs=l.43/\zs=f.43/\(H2 l,ns).10/\0<ns.length/\(∀pins,T1 X pins σ H2 f ns)/\∀n H',n∈ns->aL H2 H'->Q (nV n) H').586
theorem aI1(BA:P.3)(hu:j.11)(hg:Gl X "min")(hm:(X.mg "min").9)(ha:a.5)(hkw:PK X VG tk)
 (hks:((pos,VG).80).filterMap (·.1)=[Str.ofString "key"]:=by rfl)
 (he:(e::es).581=(false,e.58)::es.581:=by rfl) (kY:(e::es).581.677:=by rfl)
 (i3:(((pos,VG).80).all (·.1.isSome)).7:=by rfl) (hkn:(((pos,VG).80).any (·.1.isNone)).25:=by rfl):
 PE X (.Call (.Name "min" p) (e::es) VG pos) (aQv X t tk):=(.builtin "min",λws s2 ⟨zs,H2,I2,r2,l,f,ns,e1,e2,hl,iK,turn,hq⟩=>?_,aVm I2 BA hu hl iK (turn pins) hq).47
end
end G
namespace G
open PySem PySem.Spec PyProof.Rows L2
theorem EJ{D b:Addr}{H:Hp}{o:HO}(h:(hide D H b).23):o.45/\b≠D:=by
 unfold hide at h;split at h
 . cases h
 . rename_i n;exact⟨h,n⟩
theorem eA.hide{p:Addr}{H H':Hp}(h:p.55):aL p.97 (hide p H'):=(EJ e,hide_ne n,h b o e1 n).38
theorem eA.then{p:Addr}{H H' H2:Hp}(h:p.55)(s:aL H' H2):eA p H H2:=λb o e n=>(h b o e n).42
theorem TabOk.same{H H':Hp}{p z:Addr}{pos:Pos}{q:Str}(s:s.3)(h:H.578):H'.578:=by
 rcases h with h|⟨c,n,h1,h2⟩
 . exact .inl h.42
 . exact .inr ⟨c,n,h1.42,h2.42⟩
theorem TabOk.but{H H':Hp}{p z:Addr}{pos:Pos}{q:Str}(s:z.55)(n:p≠z)(h:H.578):H'.578:=by
 rcases h with h|⟨c,nc,h1,h2⟩
 . exact .inl (s _ _ h n)
 . exact .inr ⟨c,nc,s _ _ h1 n,s _ _ h2 nc⟩
theorem TabOk.put{H:Hp}{p z a:Addr}{pos:Pos}{q:Str}{o:HO}{xs:e.3}(e:a.517)(h:H.578):o.501.578:=by
 have ne:∀{b φ},c.4.45->upd H a o b=some c.4:=λ{b φ} h=>((h,e).24,h).29
 rcases h with h|⟨c,n,h1,h2⟩
 . exact .inl (ne h)
 . exact .inr ⟨c,n,ne h1,ne h2⟩
theorem TabOk.there{H:Hp}{p z:Addr}{pos:Pos}{q:Str}(h:H.578): ∃φ,(p,c.4).5:=by
 rcases h with h|⟨_,_,h,_⟩
 . exact⟨_,h⟩
 . exact⟨_,h⟩
abbrev qSO:Str:=(("search_order":Str)++".<locals>.")++"<lambda>"
abbrev tI:Pos:=⟨205,35,205,87⟩
section
variable{P:Program}{w:World}{K:PySem.W.Frag}{mg:k.3}{base:Heap}{A:Ad}
def OW(C p z:Addr):Sp:=λvs H Q _=>∃(ch sh:Addr) (css:d.3) (zY:Z.3) (n size:Nat),vs=[.ref ch,.ref sh]/\LL p.97 ch css/\(p.97,sh,zY).25/\css.length=n/\n<=8/\zY.length.62/\H.595/\(∃o,(z,o).5)/\p≠z/\
 ∀H' r ord,p.55->H'.595->r.21->ord.585->M.Ord n ord->r.84
theorem wQ:(["choices","shapes","order","turn","free","sign"],["choices","shapes"],xQ).5:=o.3
theorem IU(T:n.3){c p:Addr}(z:Addr)(B:Tb K mg "search_order" c p)(hBt:Bt mg base):dC P w K mg base kJ 5 "search_order" ["choices","shapes"] (OW A.Shape p z):=by
 refine T.xX.okC B wQ I.3 x.4 λf Ar outer s H vs Q E hr h=>?_;obtain⟨ch,sh,css,zY,n,size,rfl,hCh,hSh,hcn,pV,kY,hT,hz,hpz,k⟩:=h;have nd:=wQ.nd;have hu:=hr.units;refine⟨_,(aK (2,c7 aJ).123
  (aK (fF bL rfl ((pv 0).87.519) ((3).503) (aK (lB (i:=4) (own:=[("sign",5)]) rfl nd rfl rfl Y.5 (pv 0).87.519 y.3 (5).531 (λ_ _ _ _ _=>sD (bZ (WT K) (pv 5) (pv 2) C.11)) (pv 5).99)
  (aP (pv 2,aI1 rfl hu rfl T.aB4 (pv 4).30 (aBN (aGz (z:=z) rfl B.hd hBt rfl) aE6)).63)))
  (pv 2).47)),?_⟩
 refine R.11;obtain⟨φp,hP⟩:=hT.there;have hrp:r≠p:=λe=>by rw[e,hP] at k8;cases k8
 have s0:(H,r).23.34:=k8.76;have e0:(upd H r (.lst []) r,[]).10:=aI;generalize (H,r).23=H0 at s0 e0;have hrefl:eA p H H0:=eA.of s0;have aQw:∀{H'},p.55->∃cas:i.3,(H' ch,cas.map V.ref).12/\cas.length=n:=λ{H'} b=>by obtain⟨cas,q1,q2⟩:=(hCh.mono b.hide).mono (jF p H');exact⟨cas,q1,(aO q2,hcn).7⟩
 obtain⟨ca0,hc0,aVs⟩:=aQw hrefl;refine(ch,hc0.35).119;rw[show(ca0.map V.ref,n).6 by rw[aA,aVs]];refine⟨n.6,rfl,b.3,b.3,eB dS (∃v3 v4 ord,σ=[ch.8,sh.8,r.8,v3,v4,none]/\p.55/\H'.595/\ord.585/\ord.length=i/\ord.Nodup/\∀s∈ord,s<n).560
  ⟨none,none,[],rfl,hrefl,hT.same s0,e0,rfl,eO,c.3⟩ trivial.38 ?_ ?_⟩
 . rintro i x σ H1 W9 hi ⟨v3,v4,ord,rfl,YZ,MO,iI,hol,z8,lO⟩ ⟨rfl,rfl⟩;have OG:i<n:=hi;obtain⟨ca1,wU,aVt⟩:=aQw YZ;refine(ch,wU.35).119;rw[show(ca1.map V.ref,n).6 by rw[aA,aVt]];refine⟨n.6,rfl,b.3,b.3,λD hD=>yB (n:=n) dS (oF C.3 r.15) hD pV.29 C.5 z.11 ?_ ?_⟩
   . rintro j x H2 H3 C C0 hj s2 ⟨rfl,rfl⟩ hC hC0;have hz':((C.3),j,j).4:=dG hj;refine⟨rfl,_,rfl,_,rfl,r,_,rfl,iI.50.35,rfl,D0 ord,_,rfl,?_⟩;show((!inV (.int (0+j.6)) (bE ord))).40;rw[show(j.522)=nV j by show V.int _=V.int _;congr 1;omega,TN];refine p7 N.3 N.3
     . have hm:j∉ord:=b.10
       exact(pU hz',if_neg hm).18.529.28
     . have hm:j∈ord:=b.10
       exact(F.3,hz',if_pos hm).32
   . intro H2 s2 nP;have hfl:outs (oF C.3 r.15) n=bE ((C.3).filter λs=>decide (s∉ord)):=by have:=vM r.15 C.3;rw[aR] at this;rw[this,bE,<-List.filterMap_eq_map,List.filterMap_filter];congr 1;funext s;by_cases h:s∈ord<;>simp[h]
     rw[hfl] at nP;generalize N4:((C.3).filter λs=>decide (s∉ord))=fr at nP;have hfm:∀s∈fr,s<n/\s∉ord:=λs hs=>by rw[<-N4,bW,List.mem_range] at hs;exact⟨hs.1,cB hs.2⟩
     have aVu:0<fr.length:=by
      rcases zF fr.length with h|h
      . exfalso;have i3: ∀s,s<n->s∈ord:=λs hs=>by
         apply eE;intro hn';have:s∈fr:=by rw[<-N4,bW,List.mem_range];exact⟨hs,decide_eq_true hn'⟩
         rw[aCS h] at this;simp at this
        have:=oC.length_le_of_subset (l₁:=C.3) (l₂:=ord) (λs hs=>i3 s (List.mem_range.mp hs));rw[aR] at this;omega
      . exact h
     have CB:=MO.same s2;have tG:=iI.50;have S1:=YZ.then s2;have hz2:∃o,(H2 z).23:=(S1 _ _ e (Ne.symm hpz)).736
     refine⟨_,rfl,tG.502,_,rfl,CB,hz2,λfL cL H4 TY hf0 hfp hL hC4 IV=>⟨D,fL,fr,rfl,rfl,?_,aVu,?_,λm H5 hm s5=>(r,(TY _ _ tG hrp).60,?_).33⟩⟩
     . exact TY _ _ nP (λe=>by obtain⟨φ,hφ⟩:=CB.there;rw[e,hφ] at nP;cases nP)
     . intro pins m u H5 s5 Q1 hm sm5 I5 ru hQ1;obtain⟨hm1,hm2⟩:=hfm m hm;have hb5:eA p H H5:=(λb o e ne=>sm5 _ _ (TY _ _ (S1 _ _ e ne) ne));refine aCy (k:=2) (x:="sign") (N:=k.15) (σ':=[m.32,ch.8,sh.8,r.8]) (v:=nV m) I5 I5.ok.frames hr.in1 (sm5 _ _ hL) (sm5 _ _ hC4) rfl rfl rfl l.4 rfl (λ_ _ _=>rfl) ?_ ?_ rfl ?_ ru (TR T,hr.in1.deeper _,aD (pv 0) (pv 1,pv 2,pv 3).7).6 ?_
       . intro y a h;rw[List.lookup_cons] at h;split at h
         . rename_i hb;rw[eq_of_beq hb];exact h
         rw[List.lookup_cons] at h;split at h
         . rename_i hb;rw[eq_of_beq hb];exact h
         rw[List.lookup_cons] at h;split at h
         . rename_i hb;rw[eq_of_beq hb];exact h
         cases h
       . intro y h;rw[List.lookup_cons] at h;split at h
         . cases h
         rw[List.lookup_cons] at h;split at h
         . rename_i hb;rw[eq_of_beq hb];exact⟨_,rfl⟩
         rw[List.lookup_cons] at h;split at h
         . rename_i hb;rw[eq_of_beq hb];exact⟨_,rfl⟩
         rw[List.lookup_cons] at h;split at h
         . rename_i hb;rw[eq_of_beq hb];exact⟨_,rfl⟩
         rw[List.lookup_cons] at h;split at h
         . cases h
         cases h
       . intro i' y x' h1 h2;match i',h1,h2 with
         |0,h1,h2=>cases h1;cases h2;exact .inl y.4
         |1,h1,h2=>cases h1;cases h2;exact .inr (rfl,0,rfl).29
         |2,h1,h2=>cases h1;cases h2;exact .inr (rfl,1,rfl).29
         |3,h1,h2=>cases h1;cases h2;exact .inr (rfl,2,rfl).29
         |i'+4,h1,h2=>cases h1
       . exact⟨_,rfl,_,rfl,_,rfl,_,rfl,m,ch,sh,r,css,zY,ord,n,size,rfl,(hCh.mono hb5.hide).mono (jF p H5),(hSh.mono hb5.hide).mono (jF p H5),sm5 _ _ (TY _ _ tG hrp),b.3,hm1,lO,b.3,kY,λH' q i j s6 _ hq=>hQ1 _ _ s6 ⟨q,i,j,rfl,hq⟩⟩
     . rw[bE,aA,hol,bJ];omega
     . obtain⟨hm1,hm2⟩:=hfm m hm;have hb5:eA p H H5:=(λb o e ne=>(TY _ _ (S1 _ _ e ne) ne).60);have hr5:=(TY _ _ tG hrp).60;refine⟨_,_,ord++[m],rfl,λb o e ne=>?_,(IV.same s5).put hr5,?_,?_,?_,?_⟩
       . rw[bF (aY e k8)];exact hb5 _ _ e ne
       . rw[aI,bE,bE,bH];rfl
       . rw[List.length_append,hol];rfl
       . rw[fH];exact(z8,hm2 ha).150
       . intro s hs;rcases List.mem_append.mp hs with h|h
         . exact lO s h
         . rw[List.mem_singleton] at h;subst h;exact hm1
 . rintro σ H1 ⟨v3,v4,ord,rfl,YZ,MO,iI,hol,z8,lO⟩;exact(k H1 r ord YZ MO k8 iI ⟨hol,z8,lO⟩).28
end
end G
namespace G
open PySem PySem.Spec PyProof.Rows L2
def out(S:i.3)(H:Hp):Hp:=λb=>if b∈S then none else H b
theorem mW{S:i.3}{b:Addr}{H:Hp}(h:b∉S):out S H b=H b:=by unfold out;rw[if_neg h]
theorem cW{S:i.3}{b:Addr}{H:Hp}{o:HO}(h:(out S H b).23):o.45/\b∉S:=by
 unfold out at h;split at h
 . cases h
 . rename_i n;exact⟨h,n⟩
theorem jI(S:i.3)(H:Hp):(S,H).48:=λb o e=>e.81
theorem dE{S:i.3}{H H':Hp}(s:s.3):(S,out S H').48:=(cW e,mW n,e1.42).38
theorem EK{S:i.3}{H:Hp}{a:Addr}{o:HO}(h:a∈S):out S o.501=out S H:=by
 funext b;unfold out;split
 . rfl
 . rename_i n;rw[bF (λz=>n (z,h).3)]
theorem JX{S:i.3}{H H':Hp}{p:Addr}(h:p∈S)(s:p.55):(S,out S H').48:=(cW e,mW n,s _ _ e1 (λz=>n (z,h).3)).38
theorem NI{S:i.3}{H:Hp}{p:Addr}(h:p∈S):(S,p.97).48:=(cW e,hide_ne (λz=>n (z,h).3),e1).38
def nD(S:i.3)(H:Hp):Prop:=∀b,b∈S->∃o,o.45/\(∀xs,o≠.lst xs)/\(∀xs,o≠a.4)
theorem nD.lst{S:i.3}{H:Hp}(l:nD S H){b:Addr}{xs:e.3}(h:b.517):(out S H b,xs).12:=(mW (λz=>by obtain⟨o,e,n,_⟩:=l b z;rw[h] at e;injection e with e;exact n _ e.symm),h).3
theorem nD.tup{S:i.3}{H:Hp}(l:nD S H){b:Addr}{xs:e.3}(h:a.4.45):out S H b=some a.4:=(mW (λz=>by obtain⟨o,e,_,n⟩:=l b z;rw[h] at e;injection e with e;exact n _ e.symm),h).3
theorem LL.lift{S:i.3}{H:Hp}{a:Addr}{ps:d.3}(l:nD S H)(h:LL H a ps):LL (out S H) a ps:=(l.lst h1,(h2,l.lst q).38).90
theorem LT.lift{S:i.3}{H:Hp}{a:Addr}{ps:d.3}(l:nD S H)(h:LT H a ps):LT (out S H) a ps:=(l.lst h1,(h2,l.tup q).38).90
theorem jC.lift{S:i.3}{H:Hp}{m sg:Addr}{cs:a.3}{yes no:Z.3}(l:nD S H)(h:(H,m).101):(out S H,m).101:=(⟨as,l.lst h1,(h2,?_).38⟩,⟨ya,na,l.tup q1,l.lst q2,l.lst q3⟩).148
theorem aGB(n:Nat):((n.6).toNat,[V.int 0]).95=bE (0).682:=by
 rw[Int.toNat_natCast]
 induction n with
 |zero=>rfl
 |succ m ih=>rw[iZ,rK,iZ];rw[ih];rfl
theorem oU{H:Hp}{a:Addr}{o o':HO}:upd o.501 a o'=o'.501:=by funext b;unfold upd;split<;>rfl
theorem TabOk.aEc{H:Hp}{p z a:Addr}{pos:Pos}{q:Str}{o o0:HO}(e:o0.72)(n0: ∀φ,o0≠c.4)(h:H.578):o.501.578:=by
 have ne:∀{b φ},c.4.45->upd H a o b=some c.4:=λ{b φ} h=>(cU h e (λz=>n0 _ z.symm),h).29
 rcases h with h|⟨c,n,h1,h2⟩
 . exact .inl (ne h)
 . exact .inr ⟨c,n,ne h1,ne h2⟩
section
variable{P:Program}{w:World}{K:PySem.W.Frag}{mg:k.3}{base:Heap}{A:Ad}
def T2(C D p z:Addr)(P:Program)(w:World):Sp:=λvs H Q _=>∃(x dx yl nl:Addr) (n size limit:Nat) (yes no:Z.3),vs=[.ref x,nV n,nV size,.ref yl,.ref nl,nV limit]/\(x,([]).91).5/\
 Shapes D (out [x,p] H) yl n size yes/\Shapes D (out [x,p] H) nl n size no/\(yes.length+no.length).62/\n<=8/\size<=10/\H.595/\(∃o,(z,o).5)/\p≠z/\
 ∀H' (a:SA) ord wl,a.x=x->a.dx=dx->([x,p],H'.510).48->(out [a.la] H').595->M.Ord n ord->F0 C a (iP a H') n size limit yes no ord->yU P w a H' n size yes no ord [] wl [] []->a.wa.21->a.fa.21->a.la.21->Q .gL H'
theorem yY:(["self","signs","size","yes","no","limit","choices","sign","turn"],["self","signs","size","yes","no","limit"],AO).5:=o.3
theorem NJ(T:n.3){c p:Addr}(z:Addr)(B:Tb K mg "search_order" c p)(hBt:Bt mg base):G4 P w K mg base kJ 6 A.Search "Search" ["self","signs","size","yes","no","limit"] (T2 A.Search A.Shape p z P w):=by
 refine T.lH.ok yY a.15 (λvs H Q E h=>by obtain⟨_,_,_,_,_,_,_,_,_,rfl,_⟩:=h;rfl) q.3;obtain⟨x,dx,yl,nl,n,size,limit,yes,no,rfl,hx,hY,hN,hyn,pV,hsz,hT,hz,hpz,k⟩:=h;have nd:=yY.nd;have hC:=T.lH.cl;have iI:(1).27:=t.3;have tG:(2).27:=t.3;have hr5:(5).27:=hr;refine⟨_,(aK (6,fM (own:=[("sign",7)]) rfl nd (pv 1).519 y.3 (7).531 q.4 (OR T,tG,aD (pv 7) (pv 2,pv 3,pv 4).7).6.99).123
  (aK ((IU T z B hBt,hr5,(pv 6,d6 KR (pv 3) (pv 4)).21).6.88)
  (aK ((fM (own:=[("sign",7)]) rfl nd (cK E.3) y.3 (7).531 q.4 (XI T,iI,aD (pv 7) ((pv 6,pv 7).46,pv 3,pv 4).7).6.99).88)
  (aK (pv 3).832
  (aK (pv 4).832
  (aK ((pv 5).88)
  (aK ((d6 aLg (c7 bC.30) (pv 1)).88)
  (aK ((c7 aJ).88)
  (aP (G.T.aIN P w).88))))))))),?_⟩
 refine(n,λD hD=>?_).74;have hsh:∀{H'},([x,p],H'.510).48->Shapes A.Shape H' yl n size yes/\Shapes A.Shape H' nl n size no:=λ{H'} s=>⟨(hY.mono s).mono (jI _ _),(hN.mono s).mono (jI _ _)⟩;obtain⟨φp,hP⟩:=hT.there;have lft: ∀{H'},(∃fs,H' x=some (A.Search,fs).22)->(∃φ,H' p=some c.4)->nD [x,p] H':=λ{H'} ⟨fs,e1⟩ ⟨φ,e2⟩ b hb=>by
  rcases H.11 with rfl|hb
  . exact(e1,U.3,U.3).10
  . rw[List.mem_singleton] at hb;subst hb;exact(e2,U.3,U.3).10
 refine vN dS C.3 (λH' b i=>(H' b,i.621).10) r.12 c.3 hD l.11 C.5 ?_ ?_
 . rintro i y H2 H3 d C hd s2 YY ⟨rfl,rfl⟩ A7;obtain⟨hi,rfl⟩:i<n/\d=i:=mH hd;obtain⟨h1,h2⟩:=hsh (dE s2);refine⟨rfl,_,rfl,_,rfl,_,rfl,_,rfl,yl,nl,yes,no,n,size,d,?_,h1,h2,b.3,b.3,pV,hi,hsz,λH4 r s4 uO Y0=>s4.601⟩
   . show [d.522,_,_,_]=_;rw[dQ]
   . rw[hide_ne (λe=>YY (e,uO).15)];exact Y0
 intro H1 cas s1 yG aVv;have aQx:LL H1 D ((C.3).map λi=>i.621):=⟨cas,yG,mT aVv⟩;obtain⟨hY1,hN1⟩:Shapes A.Shape H1.510 yl n size yes/\Shapes A.Shape H1.510 nl n size no:=⟨hY.mono (dE s1),hN.mono (dE s1)⟩;obtain⟨yas,hy1,hyP⟩:=id hY1;obtain⟨nas,U2,hnP⟩:=id hN1;have hyl:yas.length=yes.length:=aO hyP;have hnl:nas.length=no.length:=aO hnP;have jH:=hx.26;have hP1:=hP.26;have MO:=hT.same s1;refine⟨_,rfl,_,rfl,_,rfl,yl,nl,_,_,rfl,rfl,hy1.81,U2.81,by rw[aA,aA,hyl,hnl];exact hyn.29,λt ht=>?_⟩;have s2:aL H1 (H1,t,yas.map V.ref++nas.map V.ref).3:=ht.509;have U1:(upd H1 t (.lst (yas.map V.ref++nas.map V.ref)) t,(yas++nas).571).12:=(aI,bH).7
 generalize (H1,t,yas.map V.ref++nas.map V.ref).3=H2 at s2 U1;have htp:t≠p:=(hP1,ht).60;have so2:aL H1.510 (hide p H2):=(NI c.3).trans (uK s2);have l1:=lft jH.20 hP1.20;refine⟨D,t,_,yes++no,n,size,rfl,(aQx.lift l1).mono so2,⟨yas++nas,(htp,U1).70,iE (hyP,so2).40 (hnP,so2).40⟩,aR.500,pV,hyn.768,MO.same s2,e.26.50.736,hpz,λH3 oa ord hb3 UX aI5 hoa hO=>?_⟩;have hxp:x≠p:=(hx,hP).32;have CC:=hb3 _ _ jH.50 hxp;have so3:([x,p],H3.510).48:=(dE f.4).trans (JX c.3 hb3);have A4:LL H3.510 D ((C.3).map λi=>i.621):=(aQx.lift l1).mono ((dE s2).trans (JX c.3 hb3));have aVw:oa∉[x,p]:=by
  intro hm;rcases f.10 with rfl|hm
  . rw[jH.50] at aI5;cases aI5
  . rw[List.mem_singleton] at hm;subst hm;rw[hP1.50] at aI5;cases aI5
 refine⟨_,rfl,x,A.Search,dx,_,rfl,CC,hC,T.gP,(0).77,?_⟩;have so4:aL H3.510 (upd H3 x ("order",oa,[]).16).510:=(EK c.3,F.3).3
 have TJ:(H3,("order",oa,[]).16,[m.5]).34:=aI;have IV:(upd H3 x ("order",oa,[]).16).595:=UX.aEc CC U.3;generalize upd H3 x ("order",oa,[]).16=H4 at so4 TJ IV;have aQy:=so3.trans so4;have aMO:(out [x,p] H4 oa,ord).10:=so4 _ _ (mW aVw,hoa).3;have G9:=A4.mono so4;refine⟨_,rfl,x,A.Search,dx,_,_,rfl,TJ,hC,T.gP,rfl,oa,rfl,aMO.81.59,λD5 zX=>vN (oa,bE ord).26 C.3 (λH' b j=>jC H' b (ord.getD j 0) (ord.getD j 0).621 yes no) (λH H' b d s q=>q.mono s) (by rw[bE,aA,hO.len,aR]) zX l.11 (λH' s5=>bP.of aMO.81.60) ?_ ?_⟩
 . rintro i y H5 H6 d C hd s5 YY ⟨rfl,hy⟩ A7;obtain⟨hi,rfl⟩:i<n/\d=i:=mH hd;obtain⟨hsl,wY⟩:=hO.get hi;generalize ord.getD d 0=sg at hsl wY A7;obtain rfl:y=nV sg:=by rw[bE,aE,wY] at hy;exact hy.31
   obtain⟨h1,h2⟩:=hsh (aQy.trans (dE s5));obtain⟨a1a,wU,GB⟩:=(G9.mono (dE s5)).mono (jI _ _);obtain⟨cr,hcr,aL7⟩:=bO GB (show(((C.3).map λi=>i.621),sg,sg.621).4 by rw[aE,dG hsl];rfl);refine⟨rfl,_,rfl,_,rfl,_,rfl,D,_,_,_,rfl,rfl,bP.of wU,cC hcr.537,_,rfl,_,rfl,cr,yl,nl,_,yes,no,n,size,sg,rfl,aL7,λv hv=>?_,?_,h1,h2,b.3,b.3,hsl,λH7 r s7 uO hr7=>A7 _ _ s7 (hr7.mono (aIF YY))⟩
   . unfold M.iH at hv;exact p.13
   . unfold M.iH;exact aG (c6 _ _) (aR,hsz).3
 intro H5 ms s5 aVx hms;have hx5:=TJ.60;have hT5:=IV.same s5;have l5:=lft hx5.20 hT5.there;have so5:=aQy.trans (dE s5);have aVz:=dE s5 _ _ aMO;have aVA:H5.839:=(hms,q.lift l5).38;have aA1:=l5.lst aVx;refine⟨_,rfl,x,A.Search,dx,_,rfl,hx5,hC,T.qU,(1).77,?_⟩;have so6:aL H5.510 H.15.510:=(EK c.3,F.3).3
 have hx6:(H5,("moves",D5,[m.5]).16,[m.5,x.10]).34:=aI;have hT6:H.15.595:=hT5.aEc hx5 U.3;generalize H.15=H6 at so6 hx6 hT6;have aQA:=so5.trans so6;have aQB:=so6 _ _ aVz;have aVC:H6.839:=(aVA,so6).40;have aVD:=so6 _ _ aA1;refine(n,λD7 hD7=>vN dS C.3 (λH' b t=>(H' b,t.638.526.532).10) r.12 c.3 hD7 l.11 C.5 ?_ ?_).74
 . rintro i y H7 H8 d C hd s7 YY ⟨rfl,rfl⟩ A7;obtain⟨hi,rfl⟩:i<n/\d=i:=mH hd;refine⟨rfl,_,rfl,_,rfl,x,A.Search,dx,_,_,rfl,s7 _ _ hx6,hC,T.gP,rfl,_,rfl,_,_,rfl,rfl,_,rfl,oa,_,rfl,bP.of (s7 _ _ aQB.81),λg hg=>?_⟩;have sg':aL H8 (H8,g,H.12).3:=(H8,hg).20;have eg:(upd H8 g (.lst H.12) g,d.638).10:=by rw[aI,((0+d.6+1)=(d+1).22).36,BS,pE]
   generalize (H8,g,H.12).3=H9 at sg' eg;obtain⟨h1,h2⟩:=hsh (aQA.trans (dE (s7.trans sg')));refine⟨yl,g,yes,d.638,n,size,rfl,h1,eg,b.3,(aX,hO.len).65,pV,λVQ r s10 uO aVE=>(sg'.trans s10).601⟩;rw[(sg'.free uO).762];exact aVE
 intro H7 yr s7 aVF hyr;have hx7:=s7 _ _ hx6;have hT7:=hT6.same s7;have l7:=lft hx7.20 hT7.there;have so7:=aQA.trans (dE s7);have aVG:LL H7.510 D7 ((C.3).map λt=>t.638.526.532):=LL.lift l7 ⟨yr,aVF,mT hyr⟩;refine⟨_,rfl,x,A.Search,dx,_,rfl,hx7,hC,T.nO,(2).77,?_⟩;have so8:aL H7.510 I.15.510:=(EK c.3,F.3).3
 have hx8:(H7,("yes_ends",D7,[m.5,x.10]).16,[m.5,x.10,D7.650]).34:=aI;have hT8:I.15.595:=hT7.aEc hx7 U.3;generalize I.15=H8 at so8 hx8 hT8;have aMP:=(dE s7).trans so8;have aQD:=so7.trans so8;have aQE:=aMP _ _ aQB;refine(n,λD9 hD9=>vN dS C.3 (λH' b t=>(H' b,t.638.526.507).10) r.12 c.3 hD9 l.11 C.5 ?_ ?_).74
 . rintro i y H9 VQ d C hd s9 YY ⟨rfl,rfl⟩ A7;obtain⟨hi,rfl⟩:i<n/\d=i:=mH hd;refine⟨rfl,_,rfl,_,rfl,x,A.Search,dx,_,_,rfl,s9 _ _ hx8,hC,T.gP,rfl,_,rfl,_,_,rfl,rfl,_,rfl,oa,_,rfl,bP.of (s9 _ _ aQE.81),λg hg=>?_⟩;have sg':aL VQ (VQ,g,H.12).3:=(VQ,hg).20;have eg:(upd VQ g (.lst H.12) g,d.638).10:=by rw[aI,((0+d.6+1)=(d+1).22).36,BS,pE]
   generalize (VQ,g,H.12).3=H11 at sg' eg;obtain⟨h1,h2⟩:=hsh (aQD.trans (dE (s9.trans sg')));refine⟨nl,g,no,d.638,n,size,rfl,h2,eg,b.3,(aX,hO.len).65,pV,λH12 r CD uO aVI=>(sg'.trans CD).601⟩;rw[(sg'.free uO).762];exact aVI
 intro H9 nr s9 aVJ hnr;have hx9:=s9 _ _ hx8;have hT9:=hT8.same s9;have l9:=lft hx9.20 hT9.there;have so9:=aQD.trans (dE s9);have aVL:LL H9.510 D9 ((C.3).map λt=>t.638.526.507):=LL.lift l9 ⟨nr,aVJ,mT hnr⟩;refine⟨_,rfl,x,A.Search,dx,_,rfl,hx9,hC,T.oR,(3).77,?_⟩;refine⟨_,rfl,_,rfl,x,A.Search,dx,_,rfl,aI,hC,T.qV,(4).77,?_⟩;rw[oU];have aA2:aL H9.510 R.15.510:=(EK c.3,F.3).3
 have aGD:(H9,(A.Search,d8 "limit" (nV limit) (d8 "no_ends" (.ref D9) [m.5,x.10,D7.650])).22,m.14).34:=aI;have aMQ:R.15.595:=hT9.aEc hx9 U.3;show _;refine(λt1 XE=>⟨_,rfl,t1,n.6,_,rfl,rfl,aI,b.3,b.3,?_,λwa hwa=>?_⟩).573
 . show(1*(n.6).toNat).37;rw[Int.toNat_natCast,aCU];exact pV.29
 have aVM:=aGB n;rw[aVM];generalize R.15=VQ at aA2 aGD aMQ XE hwa⊢;have aKD:=so9.trans aA2;have s11:aL VQ (VQ,t1,[V.int 0]).3:=(VQ,XE).20;generalize (VQ,t1,[V.int 0]).3=H11 at s11 hwa⊢;have N4: ∀{b:Addr} {H':Hp},aL VQ H'->(H' b).9->b.21:=λ{b H'} s e=>by
  cases q:H b with
  |none=>rfl
  |some o=>
   exfalso;by_cases hb:b∈[x,p]
   . rcases H.11 with rfl|hb
     . rw[aGD.42] at e;cases e
     . rw[List.mem_singleton] at hb;subst hb;obtain⟨φ,hφ⟩:=aMQ.there;rw[hφ.42] at e;cases e
   . have:=aKD b o (mW hb,q).3;rw[this.81.42] at e;cases e
 have aVN:=N4 s11 hwa;have CD:aL H11 (H11,wa,bE (0).682).3:=(H11,hwa).20;have aMR:upd H11 wa (.lst (bE (0).682)) wa=_:=aI;generalize (H11,wa,bE (0).682).3=H12 at CD aMR⊢;have aEd:=s11.trans CD;have aVO:=aEd _ _ aGD;have hwx:wa≠x:=(s11 _ _ aGD,hwa).60;refine⟨_,rfl,x,A.Search,dx,_,rfl,aVO,hC,T.p9,(5).77,?_⟩;have b13:eA x H12 (upd H12 x ("way",wa,m.14).16):=f.5;have aMS:(H12,("way",wa,m.14).16,p.14).34:=aI;refine(λfa hfa=>?_).596;generalize upd H12 x ("way",wa,m.14).16=H13 at b13 aMS hfa⊢;have hfx:fa≠x:=(aMS,hfa).60;have aMT:(H12 fa).9:=by
  cases q:H12 fa with
  |none=>rfl
  |some o=>rw[b13 _ _ q hfx] at hfa;cases hfa
 have aVQ:=N4 aEd aMT;have hfw:wa≠fa:=aY aMR aMT;have UZ:aL H13 (H13,fa).23:=(H13,hfa).20;have aQH:upd H13 fa (.lst []) fa=_:=aI;generalize (H13,fa).23=H14 at UZ aQH⊢;refine⟨_,rfl,x,A.Search,dx,_,rfl,UZ _ _ aMS,hC,T.iD,(6).77,?_⟩;have b15:eA x H14 (upd H14 x ("found",fa,p.14).16):=f.5;have aMU:(H14,("found",fa,p.14).16,q.14).34:=aI;show _;intro la hla;generalize upd H14 x ("found",fa,p.14).16=H15 at b15 aMU hla⊢;have aGE:eA x H12 H15:=(b13.then UZ).trans b15;have hlx:la≠x:=(aMU,hla).60;have aQI:(H12 la).9:=by
  cases q:H12 la with
  |none=>rfl
  |some o=>rw[aGE _ _ q hlx] at hla;cases hla
 have aVS:=N4 aEd aQI;have aVT:=b15 _ _ aQH hfx;have aVU:=aGE _ _ aMR hwx;have s16:aL H15 (upd H15 la n.15):=(H15,hla).20;have aQJ:upd H15 la n.15 la=_:=aI;generalize upd H15 la n.15=H16 at s16 aQJ⊢;refine⟨_,rfl,x,A.Search,dx,_,rfl,s16 _ _ aMU,hC,T.oX,(7).77,?_⟩;have b17:eA x H16 (upd H16 x ("lost",la,q.14).16):=f.5;have aQL:(H16,("lost",la,q.14).16,[m.5,x.10,D7.650,("no_ends",.ref D9),E.13,("way",.ref wa),("found",.ref fa),("lost",.ref la)]).34:=aI;show Q .gL _;generalize upd H16 x ("lost",la,q.14).16=H17 at b17 aQL⊢;have aQN:eA x H12 H17:=(aGE.then s16).trans b17;have aGF:eA x VQ H17:=λb o e ne=>aQN _ _ (aEd _ _ e) ne;have sK:aL VQ.510 (iP ⟨x,dx,oa,D5,D7,D9,wa,fa,la⟩ H17):=λb o e=>by obtain⟨e1,n1⟩:=cW e;have nx:b≠x:=λz=>n1 z.89;have e12:=aEd _ _ e1;rw[o3 (λz=>by have z':b=wa:=z;rw[z'] at e1;rw[s11 _ _ e1] at hwa;cases hwa) (aY e12 aMT)];exact aGF _ _ e1 nx
 refine k H17 ⟨x,dx,oa,D5,D7,D9,wa,fa,la⟩ ord (0).682 rfl rfl (aKD.trans D.10) ?_ hO ⟨?_,?_,(ms,?_).17,?_,?_⟩ ⟨b17 _ _ (s16 _ _ aVU) hwx,List.length_replicate,λj hj=>hj.515,(b17 _ _ (s16 _ _ aVT) hfx).645,hfw,⟨[],b17 _ _ aQJ hlx,rfl,c.3⟩,λkk hk=>hk.515⟩ aVN aVQ aVS
 . obtain⟨e1,n1⟩:=cW e;rw[mW n1];exact aGF _ _ e1 (λz=>n1 z.89)
 . have hE:∀b φ,VQ b=some c.4->out [la] H17 b=some c.4:=λb φ e=>(mW (List.mem_singleton,aY (aEd _ _ e) aQI).3,aGF _ _ e (e,aGD).32).3
   rcases aMQ with h|⟨c',n',h1,h2⟩
   . exact .inl (hE _ _ h)
   . exact .inr ⟨c',n',hE _ _ h1,hE _ _ h2⟩
 . rw[o3 (Ne.symm hwx) (Ne.symm hfx)];exact aQL
 . exact sK _ _ (aA2 _ _ (dE s9 _ _ aQE))
 . exact sK _ _ (aA2 _ _ (dE s9 _ _ (aMP _ _ aVD)))
 . exact(aVC,(aMP.trans (dE s9),aA2,sK).11).40
 . exact aVG.mono (so8.trans (dE s9),aA2,sK).11
 . exact aVL.mono (aA2.trans sK)
end
end G
namespace G
open PySem PySem.Spec PyProof.Rows L2
theorem aI8{n:Nat}(h:n<=8):cost n<=11111111:=by
 match n,h with
 |0,_=>decide
 |1,_=>decide
 |2,_=>decide
 |3,_=>decide
 |4,_=>decide
 |5,_=>decide
 |6,_=>decide
 |7,_=>decide
 |8,_=>decide
 |n+9,h=>omega
theorem aMV{n size:Nat}{u:a.3}(h:M.gA n size u):n<=size:=by obtain⟨h1,h2,h3⟩:=h;have:=h3.length_le_of_subset (l₂:=a.11) (λv hv=>List.mem_range.mpr (h2 v hv));rw[aR] at this;omega
theorem aQO{n size:Nat}{order:a.3}(ps:d.3):yV ([]).541=W.12:=by unfold M.Y;rw[M.aDl,if_neg c.3,M.LA];rfl
theorem aA3{n size limit:Nat}{yes no:Z.3}{ord:a.3}(hO:M.Ord n ord)(h0:n=0->yes=[]/\no=[])(hy: ∀ps∈yes,H.10)(z6: ∀ps∈no,H.10)
 {R:d.3} (hp:R.Perm ((M.oK n size yes no ord n []).take limit)) (hs:R.Pairwise M.K1):M.Found n size yes no limit R:=by
 have hm:=M.xN (size:=size) hO h0 hy z6 n [] c.3 M.C1;refine(hs,λu hu=>?_).17
 . have:=iG (hp.mem_iff.mp hu);obtain⟨a,b,_⟩:=(hm u).mp this;exact⟨a,b⟩
 . by_cases hl:limit<=(M.oK n size yes no ord n []).length
   . left;rw[hp.length_eq,aX];omega
   . right;intro u h1 h2;rw[hp.mem_iff,B.14];exact(hm u).mpr ⟨h1,h2,λj hj=>hj.515⟩
section
variable{P:Program}{w:World}{K:PySem.W.Frag}{mg:k.3}{base:Heap}{A:Ad}
def aA4(C p z:Addr):Sp:=λvs H Q _=>∃(yl nl:Addr) (n size limit:Nat) (yes no:Z.3),vs=[nV n,nV size,.ref yl,.ref nl,nV limit]/\
 (p.97,yl,yes).25/\(p.97,nl,no).25/\(yes.length+no.length).62/\n<=8/\size<=10/\0<limit/\limit.62/\H.595/\(∃o,(z,o).5)/\p≠z/\
 (n=0->yes=[]/\no=[])/\(∀ps∈yes,∀q∈ps,q.length=n)/\(∀ps∈no,∀q∈ps,q.length=n)/\
 ∀H' r R,p.55->H'.595->r.21->LT H' r R->R.length<=limit->M.Found n size yes no limit R->r.84
theorem EL:(["signs","size","yes","no","limit","search","shape"],["signs","size","yes","no","limit"],GR).5:=o.3
theorem T3(T:n.3){c p:Addr}(z:Addr)(B:Tb K mg "search_order" c p)(hBt:Bt mg base):dC P w K mg base kJ 19 "find_ways" ["signs","size","yes","no","limit"] (aA4 A.Shape p z):=by
 refine T.G0.ok EL I.13 w.16 q.3;obtain⟨yl,nl,n,size,limit,yes,no,rfl,hY,hN,hyn,pV,hsz,uQ,EY,hT,hz,hpz,h0,hyp,hnp,k⟩:=h;have nd:=EL.nd;have hC:=T.lH.cl;have hr7:(7).27:=t.3;have aVV:(18).27:=hr;have hgo:=iX.mono (X3 (P:=P) (w:=w) (base:=base) T n) (2*n+2<=18).36;refine⟨_,(aK (((PB,pv 0,pv 1).9,bU (c7 aJ)).33)
  (aK (5,vL (NJ T z B hBt) hr7 rfl (aD (pv 0) (aD (pv 1) (pv 2,pv 3,pv 4).7))).14
  (aK (dB (oZ (pv 5) hgo aVV (aD bC (bC,fM (own:=[("shape",6)]) rfl nd (cK (pv 2)) y.3 (6).531 q.4 (fld K (pv 6)).99,fM (own:=[("shape",6)]) rfl nd (cK (pv 3)) y.3 (6).531 q.4 (fld K (pv 6)).99).7)))
  (a6 (G.T.aGh K) (by rfl) T.x9 B7 (fld K (pv 5)).30).47))),?_⟩
 obtain⟨φp,hP⟩:=hT.there;refine⟨_,rfl,_,rfl,_,_,rfl,rfl,_,rfl,?_⟩;show(size.6,n.6).35.40;by_cases hns:size<n
 . rw[W.4];refine gO R.11;exact k _ r [] (eA.of k8.76) (hT.same k8.76) k8 aI.645 (aW _) ⟨List.Pairwise.nil,c.3,.inr λu h1 _=>absurd (aMV h1) b.3⟩
 rw[aQ b.3];refine d5 ?_;refine⟨_,rfl,_,rfl,_,rfl,_,rfl,_,rfl,λx dx JS aMX hdx=>?_⟩;have sa:W.5.34:=aMX.76;have sb:aL W.5 (upd W.5 x (A.Search,[]).22):=(Ne.symm hdx,JS).29.86;have s1:=sa.trans sb;have jH:upd W.5 x (A.Search,[]).22 x=_:=aI;generalize upd W.5 x (A.Search,[]).22=H1 at s1 jH⊢;clear sa sb;have sh1:aL p.97 H1.510:=λb o e=>by
  obtain⟨e1,n1⟩:=EJ e;have e2:=e1.26;rw[mW (by
   intro hm;rcases f.10 with z|hm
   . rw[z,JS] at e1;cases e1
   . rw[List.mem_singleton] at hm;exact n1 hm)]
  exact e2
 refine⟨x,dx,yl,nl,n,size,limit,yes,no,rfl,jH,hY.mono sh1,hN.mono sh1,hyn,pV,hsz,hT.same s1,e.26.736,hpz,λH2 a ord wl hax aMY so2 CB hO Q6 nP aVX aVY aVZ=>(?_).73⟩;subst hax aMY;have hxS:=(gG Q6.1);obtain⟨yas,hy1,hyP⟩:=((hY.mono sh1).mono so2).mono (jI _ _);obtain⟨nas,U2,hnP⟩:=((hN.mono sh1).mono so2).mono (jI _ _);have hyl:yas.length=yes.length:=aO hyP;have hnl:nas.length=no.length:=aO hnP;refine⟨_,rfl,a.x,a.dx,_,rfl,hxS.1,rfl,_,rfl,yl,rfl,hy1.59,λD3 A4=>eK (yl,yas.map V.ref).26 yes (λps=>yV (M.Y n size ord [] ps)) hyl.500 A4 ((b.3:yes.length.62)).29 hy1.681 ?_ ?_⟩
 . rintro i x H5 H6 ps C j8 s5 ⟨rfl,hx⟩ A7;obtain⟨cx,hcx,hSx⟩:=bO hyP j8;obtain rfl:x= .ref cx:=by rw[aE,hcx] at hx;exact hx.31
   obtain⟨dx,kr,tr,q1,_⟩:=hSx.mono s5;exact⟨rfl,_,rfl,cx,A.Shape,dx,_,_,rfl,q1,T.jT.cl,T.mE,zV _ _ _,A7 _ _ F.3 (aQO ps).symm⟩
 intro H3 s3 aMy;refine(nl,U2.54,λD4 G9=>eK (nl,nas.map V.ref).26 no (λps=>nV (M.cQ ord [] ps)) hnl.500 G9 ((b.3:no.length.62)).29 U2.54.681 ?_ ?_).30
 . rintro i x H5 H6 ps C j8 s5 ⟨rfl,hx⟩ A7;obtain⟨cx,hcx,hSx⟩:=bO hnP j8;obtain rfl:x= .ref cx:=by rw[aE,hcx] at hx;exact hx.31
   obtain⟨dx,kr,tr,q1,_⟩:=s3.718;exact⟨rfl,_,rfl,cx,A.Shape,dx,_,_,rfl,q1,T.jT.cl,T.mE,zV _ _ _,A7 _ _ F.3 M.LA.85⟩
 intro H4 s4 aMz;have s24:=s3.trans s4;obtain⟨fas,hf1,hf2⟩:=id nP.fnd;have h4D:∀{b o},(H2 b).9->(H4 b).23->(iP a H4 b).23:=λ{b o} e1 e2=>(o3 (nP.way,e1).60 (hf1,e1).60,e2).3
 have aCw:=aI8 pV;refine⟨a,D3,D4,n,size,limit,yes,no,ord,[],wl,[],[],rfl,Q6.keep (oT.of s24),nP.same s24,h4D A4 aMy.64,h4D (s3.free G9) (aMz,JQ).7,hO,M.C1,c.3,pV,hsz,b.3,b.3,uQ,EY,by simp only [List.length_nil];omega,λH5 wl' Y4 kp zX _=>?_⟩;have kx5:=kp _ _ ((oT.of s24) _ _ Q6.1 (aAU _ _ _)) (aAU _ _ _);rw[List.nil_append,List.length_nil,Nat.sub_zero] at zX;obtain⟨qs,hq1,hq2⟩:=id zX.fnd;have aV0:=M.LF (size:=size) hO h0 hyp hnp n [] c.3 M.C1;have hms:=M.xN (size:=size) hO h0 hyp hnp n [] c.3 M.C1;refine⟨_,rfl,a.x,A.Search,a.dx,_,_,rfl,(gG kx5).1,hC,T.iD,rfl,a.fa,qs,_,n,rfl,bP.of hq1,hq2,aV0.sublist (BF _ _),λu hu=>((hms u).mp (iG hu)).1.1,λh2=>?_,?_,λR rs r g9 hpw hrs k8=>?_⟩
 . rcases zF n with h|h
   . exfalso;subst h;rw[aX] at h2;have:(M.oK 0 size yes no ord 0 [],1).6:=rfl;omega
   . exact h
 . rw[aX];omega
 have hb:eA p H H5:=λb o e ne=>by
  have e1:=e.26;have hbx:b∉[a.x,p]:=λhm=>by
   rcases f.10 with z|hm
   . rw[z,JS] at e;cases e
   . rw[List.mem_singleton] at hm;exact ne hm
  have e2:=(so2 b o (mW hbx,e1).3).81;have e4:=s24 _ _ e2;have e4':(iP a H4 b).23:=(o3 (aY e1 aVX) (aY e1 aVY),e4).3
  exact(gG (kp _ _ e4' (.inr (aY e1 aVZ)))).1
 have hE: ∀b φ,out [a.la] H2 b=some c.4->H5 b=some c.4:=λb φ e=>by
  obtain⟨e2,n2⟩:=cW e;have e4:=s24 _ _ e2;have e4':iP a H4 b=some c.4:=(o3 (e2,nP.way).32 (e2,hf1).32,e4).3
  exact(gG (kp _ _ e4' (.inr (λz=>n2 z.89)))).1
 have hT5:H5.595:=by
  rcases CB with h|⟨c',n',h1,h2⟩
  . exact .inl (hE _ _ h)
  . exact .inr ⟨c',n',hE _ _ h1,hE _ _ h2⟩
 have s6:aL H5 (H5,r,rs.map V.ref).3:=(H5,k8).20;have hrp:r≠p:=λz=>by obtain⟨φ,hφ⟩:=hT5.there;rw[z,hφ] at k8;cases k8
 refine k _ r R (hb.then s6) (hT5.same s6) ?_ ⟨rs,aI,(hrs,q.518).38⟩ ?_ (aA3 hO h0 hyp hnp g9 hpw)
 . cases q:H r with
   |none=>rfl
   |some o=>rw[hb _ _ q hrp] at k8;cases k8
 . rw[g9.length_eq,aX];omega
end
end G
namespace G.T
open PySem
theorem NL{M:Model}{Γ:Ctx}{p:Pos}{t:Sem PySem.Fin}{fs:List Frame}{s:Shared}{e:End}{s':Shared}(h:Runs M Γ p t fs s e s'): ∀{e2:End} {s2:Shared},Runs M Γ p t fs s e2 s2->e=e2/\s'=s2:=by
 induction h with
 |done=>intro e2 s2 h2;cases h2;exact y.4
 |raise=>intro e2 s2 h2;cases h2;exact y.4
 |again _ _ ih=>intro e2 s2 h2;cases h2;exact U.4
 |rule _ ih=>intro e2 s2 h2;cases h2;exact U.4
 |«at» _ ih=>intro e2 s2 h2;cases h2;exact U.4
 |load h1 _ ih=>intro e2 s2 h2;cases h2;rename_i o2 g1 g2;rw[h1] at g1;cases g1;exact ih g2
 |update _ _ ih=>intro e2 s2 h2;cases h2;exact U.4
 |loadIfAlive _ ih=>intro e2 s2 h2;cases h2;exact U.4
 |point _ ih=>intro e2 s2 h2;cases h2;exact U.4
 |alloc _ ih=>intro e2 s2 h2;cases h2;exact U.4
 |fresh _ ih=>intro e2 s2 h2;cases h2;exact U.4
 |ask _ ih=>intro e2 s2 h2;cases h2;exact U.4
 |choose _ _ ih=>intro e2 s2 h2;cases h2;exact U.4
 |os _ ih=>intro e2 s2 h2;cases h2;exact U.4
 |handled _ ih=>intro e2 s2 h2;cases h2;exact U.4
 |genState h1 _ ih=>intro e2 s2 h2;cases h2;rename_i o2 g1 g2;rw[h1] at g1;cases g1;exact ih g2
 |stack _ ih=>intro e2 s2 h2;cases h2;exact U.4
 |thread _ ih=>intro e2 s2 h2;cases h2;exact U.4
 |newGen _ ih=>intro e2 s2 h2;cases h2;exact U.4
 |call _ _ FX ih2=>
  intro e2 s2 h2
  cases h2 with
  |call g1 g2=>obtain⟨a,b⟩:=FX g1;cases a;cases b;exact ih2 g2
  |callSusp g1=>obtain⟨a,b⟩:=FX g1;cases a
 |callSusp _ FX=>
  intro e2 s2 h2
  cases h2 with
  |call g1 g2=>obtain⟨a,b⟩:=FX g1;cases a
  |callSusp g1=>obtain⟨a,b⟩:=FX g1;cases a;cases b;exact y.4
 |yield=>intro e2 s2 h2;cases h2;exact y.4
 |resumeFresh h0 _ _ _ FX ih2=>
  intro e2 s2 h2
  cases h2 with
  |resumeFresh g0 g1 g2 g3=>rw[h0] at g0;cases g0;obtain⟨a,b⟩:=FX g1;cases a;cases b;exact ih2 g3
  |resumeSuspended g0=>rw[h0] at g0;cases g0
  |resumeJustStarted g0 g1=>exact absurd rfl g1
  |resumeRunning g0=>rw[h0] at g0;cases g0
  |resumeFinished g0=>rw[h0] at g0;cases g0
 |resumeSuspended h0 _ _ _ FX ih2=>
  intro e2 s2 h2
  cases h2 with
  |resumeFresh g0=>rw[h0] at g0;cases g0
  |resumeSuspended g0 g1 g2 g3=>rw[h0] at g0;cases g0;obtain⟨a,b⟩:=FX g1;cases a;cases b;exact ih2 g3
  |resumeJustStarted g0 g1=>rw[h0] at g0;cases g0
  |resumeThrowFresh g0=>rw[h0] at g0;cases g0
  |resumeRunning g0=>rw[h0] at g0;cases g0
  |resumeFinished g0=>rw[h0] at g0;cases g0
 |resumeJustStarted h0 h1 _ ih=>
  intro e2 s2 h2
  cases h2 with
  |resumeFresh g0=>exact absurd rfl h1
  |resumeSuspended g0=>rw[h0] at g0;cases g0
  |resumeJustStarted g0 g1 g2=>exact ih g2
  |resumeRunning g0=>rw[h0] at g0;cases g0
  |resumeFinished g0=>rw[h0] at g0;cases g0
 |resumeThrowFresh h0 _ ih=>
  intro e2 s2 h2
  cases h2 with
  |resumeSuspended g0=>rw[h0] at g0;cases g0
  |resumeThrowFresh g0 g1=>exact ih g1
  |resumeRunning g0=>rw[h0] at g0;cases g0
  |resumeFinished g0=>rw[h0] at g0;cases g0
 |resumeRunning h0 _ ih=>
  intro e2 s2 h2
  cases h2 with
  |resumeFresh g0=>rw[h0] at g0;cases g0
  |resumeSuspended g0=>rw[h0] at g0;cases g0
  |resumeJustStarted g0 g1=>rw[h0] at g0;cases g0
  |resumeThrowFresh g0=>rw[h0] at g0;cases g0
  |resumeRunning g0 g1=>exact ih g1
  |resumeFinished g0=>rw[h0] at g0;cases g0
 |resumeFinished h0 _ ih=>
  intro e2 s2 h2
  cases h2 with
  |resumeFresh g0=>rw[h0] at g0;cases g0
  |resumeSuspended g0=>rw[h0] at g0;cases g0
  |resumeJustStarted g0 g1=>rw[h0] at g0;cases g0
  |resumeThrowFresh g0=>rw[h0] at g0;cases g0
  |resumeRunning g0=>rw[h0] at g0;cases g0
  |resumeFinished g0 g1=>exact ih g1
 |segRet _ _ FX ih2=>
  intro e2 s2 h2
  cases h2 with
  |segRet g1 g2=>obtain⟨a,b⟩:=FX g1;cases a;cases b;exact ih2 g2
  |segSuspOut g0 g1=>obtain⟨a,b⟩:=FX g1;cases a
  |segSuspGen g0 g1=>obtain⟨a,b⟩:=FX g1;cases a
 |segGen _ _ FX ih2=>
  intro e2 s2 h2
  cases h2 with
  |segGen g1 g2=>obtain⟨a,b⟩:=FX g1;cases a;cases b;exact ih2 g2
  |segSuspOut g0 g1=>obtain⟨a,b⟩:=FX g1;cases a
  |segSuspGen g0 g1=>obtain⟨a,b⟩:=FX g1;cases a
 |segSuspOut h0 _ FX=>
  intro e2 s2 h2
  cases h2 with
  |segRet g1 g2=>obtain⟨a,b⟩:=FX g1;cases a
  |segGen g1 g2=>obtain⟨a,b⟩:=FX g1;cases a
  |segSuspOut g0 g1=>obtain⟨a,b⟩:=FX g1;cases a;cases b;exact y.4
  |segSuspGen g0 g1=>rw[h0] at g0;cases g0
 |segSuspGen h0 _ _ _ FX ih2=>
  intro e2 s2 h2
  cases h2 with
  |segRet g1 g2=>obtain⟨a,b⟩:=FX g1;cases a
  |segGen g1 g2=>obtain⟨a,b⟩:=FX g1;cases a
  |segSuspOut g0 g1=>rw[h0] at g0;cases g0
  |segSuspGen g0 g1 g2 g3=>rw[h0] at g0;cases g0;obtain⟨a,b⟩:=FX g1;cases a;cases b;exact ih2 g3
end G.T
namespace G.T
open PySem PySem.Sem PyProof.Rows
theorem aEe{M:Model}{Γ:Ctx}{p:Pos}{g:Nat}{r:Resume}{s:Shared}{r1 r2:GenResult}{s1 s2:Shared}(h1:Wakes M Γ p g r s r1 s1)(h2:Wakes M Γ p g r s r2 s2):r1=r2/\s1=s2:=by
 unfold Wakes at h1 h2;split at h1
 . exact h1.elim
 . rename_i c hc;rw[hc] at h2;dsimp only at h2;split at h1
   . dsimp only at h2;obtain⟨e1,t1,a1,_,rfl,rfl⟩:=h1;obtain⟨e2,t2,a2,_,rfl,rfl⟩:=h2;obtain⟨rfl,rfl⟩:=NL a1 a2;exact y.4
   . rename_i hv;split at h2
     . rename_i n;cases n;exact(hv rfl).elim
     . exact⟨h1.1.trans h2.1.symm,h1.2.trans h2.2.symm⟩
     . rename_i q;cases q
   . dsimp only at h2;exact⟨h1.1.trans h2.1.symm,h1.2.trans h2.2.symm⟩
 . rename_i hc;rw[hc] at h2;dsimp only at h2;obtain⟨e1,t1,a1,_,rfl,rfl⟩:=h1;obtain⟨e2,t2,a2,_,rfl,rfl⟩:=h2;obtain⟨rfl,rfl⟩:=NL a1 a2;exact y.4
 . rename_i hc;rw[hc] at h2;exact⟨h1.1.trans h2.1.symm,h1.2.trans h2.2.symm⟩
 . rename_i hc;rw[hc] at h2;exact⟨h1.1.trans h2.1.symm,h1.2.trans h2.2.symm⟩
theorem aI9{α:Type}{M:Model}{Γ:Ctx}(t:Sem α): ∀{Q Q':α->Pos->Shared->Prop} {E E':L.13} {p:Pos} {s:Shared},wp M Γ t Q E p s->wp M Γ t Q' E' p s->wp M Γ t (λa p s=>Q a p s/\Q' a p s) (λa p s=>E a p s/\E' a p s) p s:=by
 induction t with
 |pure a=>intro Q Q' E E' p s h1 h2;exact⟨h1,h2⟩
 |raise e=>intro Q Q' E E' p s h1 h2;exact⟨h1,h2⟩
 |unsupported w=>intro Q Q' E E' p s h1 h2;exact h1
 |finish e=>intro Q Q' E E' p s h1 h2;exact h1
 |rule tag k ih=>intro Q Q' E E' p s h1 h2;exact((())).549
 |«at» pos k ih=>intro Q Q' E E' p s h1 h2;exact((())).549
 |load a part k ih=> intro Q Q' E E' p s h1 h2;obtain⟨o,e,h1⟩:=h1;obtain⟨o2,e2,h2⟩:=h2;rw[e] at e2;cases e2;exact⟨o,e,o.549⟩
 |update a part f k ih=>intro Q Q' E E' p s h1 h2;exact⟨h1.1,ih () h1.2 h2.2⟩
 |alloc o k ih=>intro Q Q' E E' p s h1 h2;exact(_).549
 |loadIfAlive a k ih=>intro Q Q' E E' p s h1 h2;exact(_).549
 |point l k ih=>intro Q Q' E E' p s h1 h2;exact((())).549
 |register a k ih=>intro Q Q' E E' p s h1 h2;exact h1
 |fresh k ih=>intro Q Q' E E' p s h1 h2;exact(_).549
 |ask k ih=>intro Q Q' E E' p s h1 h2;exact(_).549
 |choose src n k ih=>intro Q Q' E E' p s h1 h2;exact⟨h1.1,ih _ h1.2 h2.2⟩
 |os q l k ih=>intro Q Q' E E' p s h1 h2;exact(_).549
 |call c h g l k ih=> intro Q Q' E E' p s h1 h2;obtain⟨r,s1,a1,h1⟩:=h1;obtain⟨r2,s2,a2,h2⟩:=h2;obtain⟨e,rfl⟩:=NL a1 a2;cases e;exact⟨r,s1,a1,r.549⟩
 |handled own k ih=>intro Q Q' E E' p s h1 h2;exact(_).549
 |genState g k ih=> intro Q Q' E E' p s h1 h2;obtain⟨o,e,h1⟩:=h1;obtain⟨o2,e2,h2⟩:=h2;rw[e] at e2;cases e2;exact⟨o,e,(_).549⟩
 |newGen c k ih=>intro Q Q' E E' p s h1 h2;exact(_).549
 |resume g r l k ih=> intro Q Q' E E' p s h1 h2;obtain⟨r1,s1,a1,h1⟩:=h1;obtain⟨r2,s2,a2,h2⟩:=h2;obtain⟨rfl,rfl⟩:=aEe a1 a2;exact⟨r1,s1,a1,(_).549⟩
 |stack k ih=>intro Q Q' E E' p s h1 h2;exact(_).549
 |thread k ih=>intro Q Q' E E' p s h1 h2;exact(_).549
 |_=>intro Q Q' E E' p s h1 h2;exact h1
theorem aJa{α:Type}{M:Model}{Γ:Ctx}(t:Sem α): ∀{Q:α->Pos.49} {E:L.13} {p:Pos} {s:Shared},wp M Γ t Q E p s->(∃a p' s',Q a p' s')\/∃e p' s',E e p' s':=by
 induction t with
 |pure a=>intro Q E p s h;exact .inl ⟨_,_,_,h⟩
 |raise e=>intro Q E p s h;exact .inr ⟨_,_,_,h⟩
 |rule tag k ih=>intro Q E p s h;exact ih () h
 |«at» pos k ih=>intro Q E p s h;exact ih () h
 |load a part k ih=>intro Q E p s h;obtain⟨o,e,h⟩:=h;exact ih o h
 |update a part f k ih=>intro Q E p s h;exact ih () h.2
 |alloc o k ih=>intro Q E p s h;exact ih _ h
 |loadIfAlive a k ih=>intro Q E p s h;exact ih _ h
 |point l k ih=>intro Q E p s h;exact ih () h
 |fresh k ih=>intro Q E p s h;exact ih _ h
 |ask k ih=>intro Q E p s h;exact ih _ h
 |choose src n k ih=>intro Q E p s h;exact ih _ h.2
 |os q l k ih=>intro Q E p s h;exact ih _ h
 |call c hh g l k ih=>intro Q E p s h;obtain⟨r,s1,_,h⟩:=h;exact ih r h
 |handled own k ih=>intro Q E p s h;exact ih _ h
 |genState g k ih=>intro Q E p s h;obtain⟨o,e,h⟩:=h;exact ih _ h
 |newGen c k ih=>intro Q E p s h;exact ih _ h
 |resume g r l k ih=>intro Q E p s h;obtain⟨r1,s1,_,h⟩:=h;exact ih _ h
 |stack k ih=>intro Q E p s h;exact ih _ h
 |thread k ih=>intro Q E p s h;exact ih _ h
 |_=>intro Q E p s h;exact False.elim h
inductive CT(kd:SortKind)(Ks:H.5){α:Type}:(Sem α,(α.41)).16
 |pure {a:α} {Q:α.41}:Q a->(.pure a).629
 |rule {tag:String} {k:Unit->Sem α} {Q:α.41}:(k ()).629->(.rule tag k).629
 |RL {w:String} {Q:α.41}:(.unsupported w).629
 |cmp {x y:Value} {k:Except Value Bool->Sem α} {Q:α.41}:Ks x->Ks y->(∀b,(k (.ok b)).629)->((keyLt' kd x y).attempt>>=k).629
theorem CT.mono{kd:SortKind}{Ks:H.5}{α:Type}{t:Sem α}{Q R:α.41}(h:t.629)(hq: ∀a,Q a->R a):CT kd Ks t R:=by
 induction h with
 |pure a=>exact .pure (hq _ a)
 |rule _ ih=>exact .rule (ih hq)
 |RL=>exact .RL
 |cmp a b _ ih=>exact .cmp a b λc=>ih c hq
theorem CT.bind{kd:SortKind}{Ks:H.5}{α β:Type}{t:Sem α}{f:α->Sem β}{Q:α.41}{R:β.41}(h:t.629)(hf: ∀a,Q a->CT kd Ks (f a) R):CT kd Ks (t>>=f) R:=by
 induction h with
 |pure a=>exact hf _ a
 |rule _ ih=>exact .rule (ih hf)
 |RL=>exact .RL
 |cmp a b _ ih=>rw[LawfulMonad.bind_assoc];exact .cmp a b λc=>ih c hf
theorem CT.move{kd:SortKind}{Ks:H.5}{α:Type}{t:Sem α}{Q:α.41}{M:Model}{Γ:Ctx}{s s':Shared}{E2:L.13}(h:t.629)
 (hc: ∀x y,Ks x->Ks y->∃b,(∀p,wp M Γ (keyLt' kd x y) (λc _ s1=>c=b/\s1=s') l.12 p s')/\(∀p,wp M Γ (keyLt' kd x y) (λc _ s1=>c=b/\s1=s) l.12 p s)):
 ∀{R:α.41} {E:L.13} {p':Pos},wp M Γ t (λa _ s1=>s1=s'/\R a) E p' s'->∀p,wp M Γ t (λa _ s1=>s1=s/\R a) E2 p s:=by
 induction h with
 |pure a=>intro R E p' h p;exact(h.2).73
 |rule _ ih=>intro R E p' h p;exact ih h p
 |RL=>intro R E p' h p;exact h
 | @cmp x y k Q a b _ ih=>
  intro R E p' h p;obtain⟨c,h1,h2⟩:=hc x y a b;rw[wp_bind',wp_attempt] at h⊢;have h3:=aI9 _ (h1 p') h;rcases aJa _ h3 with⟨c',p1,s1,⟨rfl,rfl⟩,q⟩|⟨_,_,_,q,_⟩
  . refine wp_mono M Γ _ (λc2 p2 s2 z=>?_) (λ_ _ _ z=>z.elim) p s (h2 p);obtain⟨rfl,rfl⟩:=z;exact ih c2 q p2
  . exact q.elim
end G.T
namespace G.T
open PySem PyProof.Rows
class lX (Ks:H.5) (α:Type) where
 ok:α.41
section
variable{Ks:H.5}
instance:lX Ks Nat:=⟨λ_=>True⟩
instance:lX Ks Bool:=⟨λ_=>True⟩
instance:lX Ks Unit:=⟨λ_=>True⟩
instance (priority:=900) {α β:Type} [lX Ks α] [lX Ks β]:lX Ks (α×β):=⟨λx=>(x.1).39/\(x.2).39⟩
instance:lX Ks Keyed:=⟨λx=>Ks x.1⟩
instance {α:Type} [lX Ks α]:lX Ks (Option α):=⟨λx=>∀a,x=some a->a.39⟩
instance {α:Type} [lX Ks α]:lX Ks (Array α):=⟨λx=>∀a,a∈x->a.39⟩
end
def IS(kd:SortKind)(Ks:H.5)(st:SortSt):Prop:=kindOf st=kd/\∀e:Keyed,e∈arrOf st->Ks e.1
def CM(kd:SortKind)(Ks:H.5){α:Type}(m:α.577)(Q:α.513)(st:SortSt):Prop:=CT kd Ks (m.run st) λr=>Q r.1 r.2
section
variable{kd:SortKind}{Ks:H.5}{α β:Type}{st:SortSt}
theorem mQ{m:α.577}{Q R:α.513}(h:m.525)(hq: ∀a s,Q a s->R a s):CM kd Ks m R st:=h.mono λr=>hq r.1 r.2
theorem jV{a:α}{Q:α.513}(h:Q a st):((pure a:α.577)).525:=StateT.run_pure.747
theorem cO{m:α.577}{f:α->β.577}{Q:β.513}(h:CM kd Ks m (λa s=>CM kd Ks (f a) Q s) st):(m>>=f).525:=by unfold CM at h⊢;rw[StateT.run_bind];exact h.bind λr hr=>hr
theorem iQ{c:Prop}[Decidable c]{m n:α.577}{Q:α.513}(h1:c->m.525)(h2: ¬c->n.525):(if c then m else n).525:=by
 split
 . exact h1 ‹_›
 . exact h2 ‹_›
theorem aBz{Q:SortSt.513}(h:Q st st):((get:SortSt.577)).525:=StateT.run_get.747
theorem uV{f:SortSt->SortSt}{Q:PUnit.513}(h:Q ⟨⟩ (f st)):((modify f:PUnit.577)).525:=StateT.run_modify.747
theorem aMZ{iO:SortSt}{Q:PUnit.513}(h:Q ⟨⟩ iO):((set iO:PUnit.577)).525:=StateT.run_set.747
theorem vW{tag:String}{Q:Unit.513}(h:Q () st):((liftM (rule tag:Sem Unit):Unit.577)).525:= .rule (.pure h)
theorem uW{w:String}{Q:α.513}:((liftM (unsupported w:Sem α):α.577)).525:= .RL
theorem RM{x y:Keyed}{Q:(Option Bool).513}(hx:Ks x.1)(hy:Ks y.1)(hk:kindOf st=kd)(h: ∀b,Q (some b) st):(lt' x y).525:=by rw[lt'_eq];refine cO (aBz ?_);rw[hk];refine cO ?_;show CT kd Ks ((do let a<-(keyLt' kd x.1 y.1).attempt;pure (a,st)):Sem _) _;exact .cmp hx hy λb=> .pure (jV (h b))
theorem iJ{arr:S.3}{i:Nat}{Q:Keyed.513}(ha:arr.39)(h: ∀e:Keyed,Ks e.1->Q e st):(elem' arr i).525:=by
 rw[elem'_eq]
 cases e:arr[i]? with
 |none=>exact uW
 |some p=>exact jV (h p (ha p (Array.mem_of_getElem? e)))
theorem aJb{i j:Nat}{Q:(Option Bool).513}(hI:st.79)(h: ∀b,Q (some b) st):(ltAt' i j).525:=(ltAt'_eq,cO (aBz (cO (iJ hI.2 λe he=>cO (iJ hI.2 λe2 he2=>RM he he2 hI.1 h))))).3
theorem nU{a b:Nat}{f:Nat->β->(ForInStep β).577}(I:β.513){Q:β.513}{c:β}(h:I c st)
 (hs: ∀i c st,I c st->CM kd Ks (f i c) (λr iO=>match r with| .done c'=>I c' iO| .yield c'=>I c' iO) st) (hq: ∀c st,I c st->Q c st):(forIn [a:b] c f).525:=by
 rw[Std.Legacy.Range.forIn_eq_forIn_range'];generalize List.range' _ _ _=l
 induction l generalizing c st with
 |nil=>rw[rL];exact jV (hq _ _ h)
 |cons x r ih=>
  rw[fR];refine cO (mQ (hs x c st h) λq iO hq'=>?_)
  cases q with
  |done c'=>exact jV (hq _ _ hq')
  |yield c'=>exact ih hq'
theorem aM0{xs:S.3}(h:st.79)(hx: ∀e:Keyed,e∈xs->Ks e.1):(setArr st xs).79:=⟨h.1,hx⟩
theorem aCC{xs:S.3}(h:st.79)(hx:xs.Perm (arrOf st)):(setArr st xs).79:=⟨h.1,λe he=>h.2 e (hx.mem_iff.mp he)⟩
theorem aM1{i j:Nat}{Q:Unit.513}(hI:st.79)(h: c.14):(reverseSlice' i j).525:=(reverseSlice'_eq,uV (h _ (aCC hI (mirror_perm _ _ _ _)))).3
theorem aJc{i j:Nat}{Q:Unit.513}(hI:st.79)(h: c.14):(moveDown' i j).525:=(moveDown'_eq,uV (h _ (aCC hI (bubble_perm _ _ _)))).3
theorem aEf{left:Bool}{key:Keyed}{arr:S.3}{base i:Nat}(hI:st.79)(hk:Ks key.1)(ha:arr.39):(beyond' left key arr base i).691:=by
 unfold beyond';refine cO (iJ ha λe he=>?_);split
 . exact RM he hk hI.1 λ_=>hI
 . exact cO (RM hk he hI.1 λ_=>jV hI)
local macro_rules| `(tactic|walk_at "cm_auto")=> `(tactic|repeat' (first
 |(with_reducible assumption)
 |(with_reducible refine nU (λ_ iO=>IS _ _ iO) (by assumption) (λ_ _ _ _=>?_) (λ_ _ _=>?_))
 |(with_reducible refine cO ?_)
 |(with_reducible refine jV ?_)
 |(with_reducible refine aBz ?_)
 |(with_reducible refine aJb (by assumption) λ_=>?_)
 |(with_reducible refine aM1 (by assumption) λ_ _=>?_)
 |(with_reducible refine aJc (by assumption) λ_ _=>?_)
 |(with_reducible refine mQ (aEf (by assumption) (by assumption) (by assumption)) λ_ _ _=>?_)
 |(with_reducible refine vW ?_)
 |(with_reducible exact uW)
 |(with_reducible refine iQ (λ_=>?_) (λ_=>?_))
 |(dsimp only)
 |split))
theorem aEg{lo n ok:Nat}(hI:st.79):(binarySort' lo n ok).691:=by rw[binarySort'_eq];walk_at "cm_auto"
theorem aGG{lo n:Nat}(hI:st.79):(countRun' lo n).691:=by rw[countRun'_eq];walk_at "cm_auto"
theorem uX{left:Bool}{key:Keyed}{arr:S.3}{base n hint:Nat}(hI:st.79)(hk:Ks key.1)(ha:arr.39):(gallop' left key arr base n hint).691:=by rw[gallop'_eq];walk_at "cm_auto"
theorem T4[lX Ks α][lX Ks β]{a:α}{b:β}(h1:a.39)(h2:b.39):(((a,b))).39:=h2.544
theorem T8[lX Ks α]:((none:Option α)).39:=λ_ h=>nomatch h
theorem T9[lX Ks α]{a:α}(h:a.39):(some a).39:=λ_ e=>by cases e;exact h
theorem aA5{n:Nat}:n.39:=trivial
theorem UA{a:S.3}{e:Keyed}(h:a.39)(he:Ks e.1):(a.push e).39:=λx hx=>by
 rcases Array.mem_push.mp hx with hx|rfl
 . exact h x hx
 . exact he
theorem aA6{a b:S.3}(h:a.39)(hb:b.39):(a++b).39:=λx hx=>by
 rcases Array.mem_append.mp hx with hx|hx
 . exact h x hx
 . exact hb x hx
theorem B3{a:S.3}{i j:Nat}(h:a.39):(a.extract i j).39:=λx hx=>h x (by rw[<-nX] at hx⊢;rw[Array.toList_extract] at hx;exact nZ (iG hx))
theorem aA7{a:S.3}(h:a.39):a.reverse.39:=λx hx=>h x (by simpa using hx)
theorem aA8{e:Keyed}(h:Ks e.1):((#[e]:S.3)).39:=λx hx=>by
 have:x=e:=by simpa using hx
 rw[this];exact h
theorem UB{g:Nat}{Q:Unit.513}(hI:st.79)(h: c.14):(setMinGallop' g).525:=(setMinGallop'_eq,uV (h _ hI)).3
local macro_rules| `(tactic|walk_at "ok_go")=> `(tactic|repeat' (first
 |(with_reducible assumption)
 |(with_reducible exact aA5)
 |(with_reducible exact aSA)
 |(with_reducible exact aSB)
 |(with_reducible exact T8)
 |(with_reducible refine T4 ?_ ?_)
 |(with_reducible refine T9 ?_)
 |(with_reducible refine UA ?_ ?_)
 |(with_reducible refine aA6 ?_ ?_)
 |(with_reducible refine B3 ?_)
 |(with_reducible refine aA7 ?_)
 |(with_reducible refine aA8 ?_)
 |(with_reducible refine aV2 ?_)
 |(with_reducible refine aV3 ?_)
 |(with_reducible refine aV4 (by assumption) ?_)))
local macro_rules| `(tactic|walk_at "cm_autoK")=> `(tactic|repeat' (first
 |(with_reducible assumption)
 |(with_reducible refine⟨by assumption,(by walk_at "ok_go")⟩)
 |(with_reducible refine nU (λc iO=>IS _ _ iO/\lX.ok _ c) ⟨by assumption,(by walk_at "ok_go")⟩ (λ_ _ _ hc=>And.elim (λ_ _=>?_) hc) (λ_ _ hc=>And.elim (λ_ _=>?_) hc))
 |(with_reducible refine cO ?_)
 |(with_reducible refine jV ?_)
 |(with_reducible refine aBz ?_)
 |(with_reducible refine iJ (by assumption) λ_ _=>?_)
 |(with_reducible refine RM (by assumption) (by assumption) (And.left (by assumption)) λ_=>?_)
 |(with_reducible refine UB (by assumption) λ_ _=>?_)
 |(with_reducible refine mQ (uX (by assumption) (by assumption) (by assumption)) λ_ _ _=>?_)
 |(with_reducible refine vW ?_)
 |(with_reducible exact uW)
 |(with_reducible refine iQ (λ_=>?_) (λ_=>?_))
 |(dsimp only)
 |split))
end
end G.T
namespace G.T
open PySem PyProof.Rows
section
variable{kd:SortKind}{Ks:H.5}{α β:Type}{st:SortSt}
local macro_rules| `(tactic|walk_at "okt")=> `(tactic|repeat' (first
 |(with_reducible assumption)
 |(with_reducible exact aA5)
 |(with_reducible exact T8)
 |(with_reducible refine T4 ?_ ?_)
 |(with_reducible refine T9 ?_)
 |(with_reducible refine UA ?_ ?_)
 |(with_reducible refine aA6 ?_ ?_)
 |(with_reducible refine B3 ?_)
 |(with_reducible refine aA7 ?_)
 |(with_reducible refine aA8 ?_)))
local macro_rules| `(tactic|walk_at "fin")=> `(tactic|(with_reducible refine jV ?_;refine⟨by assumption,?_⟩;walk_at "okt"))
local macro_rules| `(tactic|walk_at "gal")=> `(tactic|repeat' (first
 |(with_reducible refine cO ?_)
 |(walk_at "fin";done)
 |(with_reducible refine iJ (by assumption) λ_ _=>?_)
 |(with_reducible refine UB (by assumption) λ_ _=>?_)
 |(with_reducible refine iQ (λ_=>?_) (λ_=>?_))
 |(with_reducible refine mQ (uX (by assumption) (by assumption) (by assumption)) λr _ _=>?_;cases r)
 |(dsimp only)))
abbrev T6:=Option S.3×S.3×Nat×Nat×Nat×Nat
abbrev T7:=Option S.3×S.3×Nat×Nat×Nat×Nat×Nat
abbrev T5:=Option S.3×S.3×Nat×Nat×Nat
theorem aA9{a b:S.3}(hI:st.79)(ha:a.39)(hb:b.39):CM kd Ks (mergeLo' a b) (λr iO=>iO.79/\r.39) st:=by
 rw[mergeLo'_eq];refine cO (vW ?_);dsimp only;refine cO (iJ hb λe he=>?_);refine(?_).697;refine(?_).697;refine cO (aBz ?_);with_reducible refine cO ?_
 have z0:(((none,#[e],0,1,gallopOf st):T5)).39:=z.12
 with_reducible refine nU (λ(c:T5) iO=>iO.79/\c.39) ⟨hI,z0⟩ (λi c iO hc=>?_) (λc iO hc=>?_)
 . obtain⟨hI',CA⟩:=hc;obtain⟨cr,co,ca,cb,cg⟩:=c;obtain⟨k1,k2,k3,k4,k5⟩:=CA;dsimp only at k1 k2⊢;with_reducible refine cO ?_
   have z:(((none,co,ca,cb,0,0):T6)).39:=z.12
   with_reducible refine nU (λ(c:T6) iO=>iO.79/\c.39) ⟨hI',z⟩ (λi c2 st2 GB=>?_) (λc2 st2 GB=>?_)
   . obtain⟨hI2,aBa⟩:=GB;obtain⟨cr2,co2,ca2,cb2,cx2,cy2⟩:=c2;obtain⟨j1,j2,j3⟩:=aBa;clear k1 k2 z z0;dsimp only at j1 j2⊢;refine cO (iJ hb λe1 he1=>cO (iJ ha λe2 he2=>cO (RM he1 he2 hI2.1 λb2=>?_)));dsimp only;refine iQ (λ_=>?_) λ_=>?_
     . refine cO (iJ hb λe3 he3=>?_);refine O.14
     . refine cO (iJ ha λe3 he3=>?_);refine O.14
   . obtain⟨hI2,aBa⟩:=GB;obtain⟨cr2,co2,ca2,cb2,cx2,cy2⟩:=c2;obtain⟨j1,j2,j3⟩:=aBa;clear k1 k2 z z0;dsimp only at j1 j2⊢
     cases cr2 with
     |some r=> have j1':r.39:=j1 r rfl;walk_at "fin"
     |none=>
      dsimp only;refine cO (vW ?_);with_reducible refine cO ?_
      have z:(((none,co2,ca2,cb2,cg+1,cx2,cy2):T7)).39:=z.12
      with_reducible refine nU (λ(c:T7) iO=>iO.79/\c.39) ⟨hI2,z⟩ (λi c3 st3 hc3=>?_) (λc3 st3 hc3=>?_)
      . obtain⟨hI3,aBb⟩:=hc3;obtain⟨cr3,co3,ca3,cb3,cg3,cx3,cy3⟩:=c3;obtain⟨l1,l2,l3⟩:=aBb;clear j1 j2 z;dsimp only at l1 l2⊢;walk_at "gal"
      . obtain⟨hI3,aBb⟩:=hc3;obtain⟨cr3,co3,ca3,cb3,cg3,cx3,cy3⟩:=c3;obtain⟨l1,l2,l3⟩:=aBb;clear j1 j2 z;dsimp only at l1 l2⊢
        cases cr3 with
        |some r=> have j1':r.39:=l1 r rfl;walk_at "fin"
        |none=>walk_at "gal"
 . obtain⟨hI',CA⟩:=hc;obtain⟨cr,co,ca,cb,cg⟩:=c;obtain⟨k1,k2,k3,k4,k5⟩:=CA;dsimp only at k1 k2⊢
   cases cr with
   |some r=> have j1':r.39:=k1 r rfl;walk_at "fin"
   |none=>exact uW
end
end G.T
namespace G.T
open PySem PyProof.Rows
section
variable{kd:SortKind}{Ks:H.5}{α β:Type}{st:SortSt}
local macro_rules| `(tactic|walk_at "okt")=> `(tactic|repeat' (first
 |(with_reducible assumption)
 |(with_reducible exact aA5)
 |(with_reducible exact T8)
 |(with_reducible refine T4 ?_ ?_)
 |(with_reducible refine T9 ?_)
 |(with_reducible refine UA ?_ ?_)
 |(with_reducible refine aA6 ?_ ?_)
 |(with_reducible refine B3 ?_)
 |(with_reducible refine aA7 ?_)
 |(with_reducible refine aA8 ?_)))
local macro_rules| `(tactic|walk_at "fin")=> `(tactic|(with_reducible refine jV ?_;refine⟨by assumption,?_⟩;walk_at "okt"))
local macro_rules| `(tactic|walk_at "gal")=> `(tactic|repeat' (first
 |(with_reducible refine cO ?_)
 |(walk_at "fin";done)
 |(with_reducible refine iJ (by assumption) λ_ _=>?_)
 |(with_reducible refine UB (by assumption) λ_ _=>?_)
 |(with_reducible refine iQ (λ_=>?_) (λ_=>?_))
 |(with_reducible refine mQ (uX (by assumption) (by assumption) (by assumption)) λr _ _=>?_;cases r)
 |(dsimp only)))
abbrev U6:=Option S.3×Nat×Nat×S.3×Nat×Nat
abbrev U7:=Option S.3×Nat×Nat×S.3×Nat×Nat×Nat
abbrev U5:=Option S.3×Nat×Nat×S.3×Nat
theorem aBc{a b:S.3}(hI:st.79)(ha:a.39)(hb:b.39):CM kd Ks (mergeHi' a b) (λr iO=>iO.79/\r.39) st:=by
 rw[mergeHi'_eq];refine cO (vW ?_);dsimp only;refine cO (iJ ha λe he=>?_);refine(?_).697;refine(?_).697;refine cO (aBz ?_);with_reducible refine cO ?_
 have z0:(((none,a.size-1,b.size,#[e],gallopOf st):U5)).39:=z.12
 with_reducible refine nU (λ(c:U5) iO=>iO.79/\c.39) ⟨hI,z0⟩ (λi c iO hc=>?_) (λc iO hc=>?_)
 . obtain⟨hI',CA⟩:=hc;obtain⟨cr,ca,cb,co,cg⟩:=c;obtain⟨k1,k3,k4,k2,k5⟩:=CA;dsimp only at k1 k2⊢;with_reducible refine cO ?_
   have z:(((none,ca,cb,co,0,0):U6)).39:=z.12
   with_reducible refine nU (λ(c:U6) iO=>iO.79/\c.39) ⟨hI',z⟩ (λi c2 st2 GB=>?_) (λc2 st2 GB=>?_)
   . obtain⟨hI2,aBa⟩:=GB;obtain⟨cr2,ca2,cb2,co2,cx2,cy2⟩:=c2;obtain⟨j1,j3,j4,j2,j5⟩:=aBa;clear k1 k2 z z0;dsimp only at j1 j2⊢;refine cO (iJ hb λe1 he1=>cO (iJ ha λe2 he2=>cO (RM he1 he2 hI2.1 λb2=>?_)));dsimp only;refine iQ (λ_=>?_) λ_=>?_
     . refine cO (iJ ha λe3 he3=>?_);refine O.14
     . refine cO (iJ hb λe3 he3=>?_);refine O.14
   . obtain⟨hI2,aBa⟩:=GB;obtain⟨cr2,ca2,cb2,co2,cx2,cy2⟩:=c2;obtain⟨j1,j3,j4,j2,j5⟩:=aBa;clear k1 k2 z z0;dsimp only at j1 j2⊢
     cases cr2 with
     |some r=> have j1':r.39:=j1 r rfl;walk_at "fin"
     |none=>
      dsimp only;refine cO (vW ?_);with_reducible refine cO ?_
      have z:(((none,ca2,cb2,co2,cg+1,cx2,cy2):U7)).39:=z.12
      with_reducible refine nU (λ(c:U7) iO=>iO.79/\c.39) ⟨hI2,z⟩ (λi c3 st3 hc3=>?_) (λc3 st3 hc3=>?_)
      . obtain⟨hI3,aBb⟩:=hc3;obtain⟨cr3,ca3,cb3,co3,cg3,cx3,cy3⟩:=c3;obtain⟨l1,l3,l4,l2,l5⟩:=aBb;clear j1 j2 z;dsimp only at l1 l2⊢;walk_at "gal"
      . obtain⟨hI3,aBb⟩:=hc3;obtain⟨cr3,ca3,cb3,co3,cg3,cx3,cy3⟩:=c3;obtain⟨l1,l3,l4,l2,l5⟩:=aBb;clear j1 j2 z;dsimp only at l1 l2⊢
        cases cr3 with
        |some r=> have j1':r.39:=l1 r rfl;walk_at "fin"
        |none=>walk_at "gal"
 . obtain⟨hI',CA⟩:=hc;obtain⟨cr,ca,cb,co,cg⟩:=c;obtain⟨k1,k3,k4,k2,k5⟩:=CA;dsimp only at k1 k2⊢
   cases cr with
   |some r=> have j1':r.39:=k1 r rfl;walk_at "fin"
   |none=>exact uW
theorem aCD{sa:Nat}: ∀(l:(Keyed,Nat).31) (xs:S.3),(∀p∈l,Ks p.1.1)->xs.39->(l.foldl (λa (p:Keyed×Nat)=>a.setIfInBounds (sa+p.2) p.1) xs).39
 |[],xs,_,h=>h
 |p::l,xs,hl,h=>aCD l _ (λq hq=>hl q hq.545) λe he=>by
  rcases Array.mem_or_eq_of_mem_setIfInBounds he with he|rfl
  . exact h e he
  . exact hl p u.4
theorem aBd{i:Nat}(hI:st.79):(mergeAt' i).691:=by
 rw[mergeAt'_eq];refine cO (aBz ?_);have hA:(arrOf st).39:=hI.2;split
 . refine cO (aMZ ?_);have hI2:∀p,(setPending st p).79:=λ_=>hI;refine cO (iJ hA λe he=>?_);refine cO (mQ (uX (hI2 _) he hA) λr st3 hI3=>?_)
   cases r with
   |none=>exact jV hI3
   |some k=>
    dsimp only;refine iQ (λ_=>jV hI3) λ_=>?_;refine cO (iJ hA λe2 he2=>?_);refine cO (mQ (uX hI3 he2 hA) λr st4 hI4=>?_)
    cases r with
    |none=>exact jV hI4
    |some k2=>
     dsimp only;refine iQ (λ_=>jV hI4) λ_=>?_;have aQX:∀(x:S.3) (st5:SortSt) (sa:Nat),st5.79/\x.39->CM kd Ks (do modify λs=>setArr s (x.toList.zipIdx.foldl (λa (p,j)=>a.setIfInBounds (sa+j) p) (arrOf s));return (failedOf (<-get)).isNone) (λ_ iO=>iO.79) st5:=λx st5 sa h5=>by refine cO (uV (cO (aBz (jV ?_))));refine aM0 h5.1 (aCD _ _ M.5 h5.1.2);have:=List.fst_mem_of_mem_zipIdx (show(p.1,p.2)∈_ from hp);exact h5.2 p.1 (by simpa using this)
     refine iQ (λ_=>?_) λ_=>?_
     . exact cO (mQ (aA9 hI4 (B3 hA) (B3 hA)) λx st5 h5=>aQX x st5 _ h5)
     . exact cO (mQ (aBc hI4 (B3 hA) (B3 hA)) λx st5 h5=>aQX x st5 _ h5)
 . exact uW
theorem aJe{f:SortSt->Array (Nat×Nat×Nat)}{Q:Unit.513}(hI:st.79)(h: c.14):((modify λs=>setPending s (f s):Unit.577)).525:=uV (h _ hI)
local macro_rules| `(tactic|walk_at "cms")=> `(tactic|repeat' (first
 |(with_reducible assumption)
 |(with_reducible refine nU (λ_ iO=>IS _ _ iO) (by assumption) (λ_ _ _ _=>?_) (λ_ _ _=>?_))
 |(with_reducible refine cO ?_)
 |(with_reducible refine jV ?_)
 |(with_reducible refine aBz ?_)
 |(with_reducible refine aJe (by assumption) λ_ _=>?_)
 |(with_reducible refine mQ (aBd (by assumption)) λ_ _ _=>?_)
 |(with_reducible refine mQ (aEg (by assumption)) λ_ _ _=>?_)
 |(with_reducible refine mQ (aGG (by assumption)) λ_ _ _=>?_)
 |(with_reducible refine vW ?_)
 |(with_reducible refine iQ (λ_=>?_) (λ_=>?_))
 |(dsimp only)
 |split))
theorem X8(hI:st.79):sortRuns'.691:=by rw[sortRuns'_eq];walk_at "cms"
end
end G.T
namespace G.T
open PySem PySem.Spec PyProof.Rows PySem.W
open PySem.SeqAt PySem.MeetsSeq
def JY(k:a.3):f.3:=k.map o.4
def RK(h:Heap)(v:Value)(k:a.3):Prop:=∃q b xs ys t,v= .ref q/\h.IsTuple q xs/\xs.toList=[.int k.length.6 t,z.3]/\h.IsTuple b ys/\IntsAre ys.toList (JY k)
theorem aCE: ∀{a b:a.3},JY a=JY b->a=b
 |[],[],_=>rfl
 |[],_::_,h=>JY.637
 |_::_,[],h=>JY.637
 |x::a,y::b,h=>by have h':x.6::JY a=y.6::JY b:=h;injection h' with h1 h2;rw[aCE h2,(x=y).36]
theorem B4{h:Heap}{a:Addr}{xs ys:R.3}(h1:h.IsTuple a xs)(h2:h.IsTuple a ys):xs=ys:=by obtain⟨o,e,_,n,d⟩:=h1;obtain⟨o2,e2,_,n2,d2⟩:=h2;rw[e] at e2;cases e2;rw[d] at d2;cases d2;rfl
theorem vX: ∀{vs:h.3} {a b:f.3},IntsAre vs a->IntsAre vs b->a=b
 |_,_,_,.nil,.nil=>rfl
 |_,_,_,.cons n t h1,h2=>by
  cases h2 with
  |cons _ _ h2=>rw[vX h1 h2]
theorem RK.uniq{h:Heap}{v:Value}{k k':a.3}(h1:RK h v k)(h2:RK h v k'):k=k':=by obtain⟨q,b,xs,ys,t,rfl,a1,a2,a3,a4⟩:=h1;obtain⟨q',b',xs',ys',t',e,c1,c2,c3,c4⟩:=h2;cases e;obtain rfl:=B4 a1 c1;rw[a2] at c2;injection c2 with _ c2;injection c2 with c2 _;cases c2;obtain rfl:=B4 a3 c3;exact aCE (vX a4 c4)
theorem NM: ∀a:f.3,(ilt a a).25
 |[]=>rfl
 |x::a=>by show(x=x,_,_).14=_;rw[N.5];exact NM a
theorem aQY: ∀a b:a.3,lexLt itemOrd (vR a) (vR b)=ilt (JY a) (JY b)
 |[],[]=>rfl
 |[],_::_=>rfl
 |_::_,[]=>rfl
 |x::a,y::b=>by
  show lexLt itemOrd (Sum.inl x.6::vR a) (Sum.inl y.6::vR b)=(x.6=y.6,ilt (JY a) (JY b),(x.6,y.6).35).14;rw[lex_cons,aQY a b];show((x.6,y.6).35||(!(y.6,x.6).35&&ilt (JY a) (JY b)))=_;by_cases h:x.6=y.6
  . rw[if_pos h,aQ b.3,aQ b.3];simp
  . rw[V.4];by_cases h2:x.6<y.6
    . rw[decide_eq_true h2];simp
    . rw[aQ h2,decide_eq_true (y.6<x.6).36];simp
theorem all_eq{xs ys:f.3}:((List.range m.13).all N.13&&xs.length==ys.length)=(xs,ys).11:=by
 rw[cR,Bool.and_eq_true,List.all_eq_true,fX,beq_iff_eq];constructor
 . rintro⟨h1,h2⟩;apply List.ext_getElem h2;intro i hi1 hi2;have:=h1 i x.14;simpa [hi1,hi2] using this
 . rintro rfl;exact(λj _=>c.3).80
section
variable{prog:Program}{w:World}{A:Around}{s:Shared}
theorem aGH{l b:Addr}{us vs:R.3}{xs ys:f.3}(hl:s.heap.IsTuple l us)(hb:s.heap.IsTuple b vs)(hu:A.units.61)(hx:IntsAre us.toList xs)(hy:IntsAre vs.toList ys):EqAt A s (.ref l) z.3 (xs,ys).11:=by
 by_cases e:l=b
 . subst e;obtain rfl:=B4 hl hb;obtain rfl:=vX hx hy;rw[decide_eq_true rfl];exact EqAt.same _
 . have l1:us.size=xs.length:=hx.length.692
   have l2:vs.size=ys.length:=hy.length.692
   have q:=RcAt.tuples (A:=A) (e:=N.13) hl hb hu (λj h1 h2=>?_)
   . rw[l1,l2,all_eq] at q;exact EqAt.of_refs e q
   . obtain⟨t,e1⟩:=C.16;obtain⟨u,e2⟩:=B.16;rw[aF t.4] at e1;rw[aF L.5] at e2;have e1':us[j]= .int (xs.getD j 0) t:=by simpa using e1
     have e2':vs[j]= .int (ys.getD j 0) u:=by simpa using e2
     rw[e1',e2'];exact(EqGives.int _ _ t u).at _ _
theorem aJf{x y:Value}{k k':a.3}(hx:RK s.heap x k)(hy:RK s.heap y k')(hu:(A.units+64).61):
 wpAny (model prog w) A (keyLt' (tuples' true) x y) (λc s1=>c=i.14/\s1=s) X.4 s:=by
 obtain⟨q,b,xs,us,t,rfl,⟨o,ho,_,n,hd⟩,a2,a3,a4⟩:=hx;obtain⟨q',b',ys,vs,t',rfl,⟨o',JF,_,n',VB⟩,c2,c3,c4⟩:=hy;have hsz:xs.size=ys.size:=by
  have e1:xs.toList.length=2:=a2.508
  have e2:ys.toList.length=2:=c2.508
  rw[Array.length_toList] at e1 e2;omega
 refine kat_lt ho hd JF VB ?_;rw[a2,c2];show KatLex prog w A true _ _ [(.int k.length.6 t,.int k'.length.6 t'),(z.3,.ref b')] 0 s;have v:i.14=if k.length.6=k'.length.6 then ilt (JY k) (JY k') else(k.length.6,k'.length.6).35:=rfl;refine kat_cons ((EqGives.int _ _ t t').at A s prog w _ _ (kat_go (λh1=>kat_yes (kat_cons ?_)) λh1=>kat_no ?_))
 . have IC:k.length.6=k'.length.6:=t.4
   rw[if_pos IC] at v;refine aGH a3 c3 b.3 a4 c4 prog w _ _ (kat_go (λh2=>kat_yes (kat_nil (?_).80)) λh2=>kat_no ?_)
   . have OE:=cB h2;rw[v,OE,NM,aQ b.3]
   . show wpAny _ _ (oneLt' (true&&(0+1==0)) _ _) _ _ _;exact kat_one _ _ (LtAt.ints a3 c3 A.units.61.36 a4 c4 prog w _ _ v.symm.80)
 . have IC:¬k.length.6=k'.length.6:=t.4
   rw[if_neg IC] at v;exact kat_lt_int (E:=X.4) v.symm.80
end
noncomputable def JZ (h:Heap) (i:Nat):Obj:=open Classical in if hk:∃k,RK h (.ref i) k then(hk.choose.length::hk.choose).795 else {cls:= .none,data:= .plain}
noncomputable def j9 (h:Heap):Heap:={objs:=Array.ofFn (n:=h.objs.size) λi=>JZ h i}
theorem JJ{h:Heap}{q:Addr}{k:a.3}(r:RK h (.ref q) k):(j9 h,q,(k.length::k).795).20:=by
 have hq:q<h.objs.size:=by obtain⟨q',_,_,_,_,e,⟨o,ho,_⟩,_⟩:=id r;cases e;exact aZ ho
 have hex:∃k,RK h (.ref q) k:=⟨k,r⟩;have hf:JZ h q=(k.length::k).795:=by unfold JZ;rw[dif_pos hex,hex.choose_spec.uniq r]
 refine(Heap.get?_eq_some _ _ _).mpr (?_).80;show(Array.ofFn (n:=h.objs.size) λi=>JZ h i)[q]? =_;rw[Array.getElem?_ofFn,dif_pos hq];exact cP some hf
theorem EM{h:Heap}{v:Value}{k:a.3}(r:RK h v k):(j9 h,v).113=some (vR (k.length::k)):=by
 obtain⟨q,_,_,_,_,rfl,_⟩:=id r;refine M8 (JJ r) rfl rfl ?_;rw[List.toList_toArray];exact yN 0 (by
  generalize (k.length::k)=l
  induction l with
  |nil=>exact .nil
  |cons n l ih=>exact .cons (0).80 ih)
section
variable{prog:Program}{w:World}{A:Around}{E:l.3}{s:Shared}
theorem aJg{arr:S.3}{Q:Unit.513}(hu:(A.units+64).61)(hk: ∀p:Keyed,p∈arr->∃k,RK s.heap p.1 k)(h2:2<=arr.size)
 (h: ∀iO,(arrOf iO).Perm arr->(failedOf iO).9->SortedToK (PyProof.Rows.G.tupKindC (j9 s.heap) w.5) (arrOf iO) arr.size->Q () iO):
 wpS A.4 A E s sortRuns' Q M.15:=by
 have hct:=X8 (kd:=tuples' true) (Ks:=λv=>∃k,RK s.heap v k) (st:=M.15) (λe he=>hk e he).73;have lO:∀s₂:Shared,s₂.heap=j9 s.heap->PyProof.Rows.G.LtAt prog w s₂ (PyProof.Rows.G.tupKindC (j9 s.heap) w.5) (tuples' true):=λs₂ e=>PyProof.Rows.G.tupC_ltAt true (e,PyProof.Rows.G.KeepsTups.refl _).3;have hw:=PyProof.Rows.G.wpS_sortRunsSt (A:=A) (E:=X.4) (s:=y.14) (a₀:=arr) (st:=M.15) (Q:=λa iO=>Q a iO) (lO _ rfl)
  (λp hp=>by obtain⟨k,r⟩:=hk p (by simpa using hp);exact⟨_,EM r⟩) (Array.Perm.refl _,rfl).34 rfl (Stable.refl _) h2 λiO a1 a2 a3 _=>h iO a1 a2 a3
 intro Γ p hΓ;refine Sem.wp_mono _ _ _ (λr _ s1 hr=>hr) (λ_ _ _ hr=>hr) p s (CT.move (s':=y.14) (R:=λr=>Q r.1 r.2) (E:=l.12) (p':=p) hct (λx y hx hy=>?_) (hw Γ p hΓ) p);obtain⟨k,rx⟩:=hx;obtain⟨k',ry⟩:=hy;refine⟨i.14,λp=>?_,λp=>aJf rx ry hu Γ p hΓ⟩;exact lO y.14 rfl A X.4 x y _ _ (Q:=λc s1=>c=i.14/\s1=y.14) (EM rx) (EM ry) (aQY _ _).80 Γ p hΓ
end
end G.T
namespace G
open PySem PySem.Spec PyProof.Rows L2 PySem.W
def rH(a:Addr)(o:Obj)(h:Heap):Prop:=a.52
theorem NN{a:Addr}{o:Obj}(g1 g2:Heap)(x:rH a o g1)(k: (a,a).111):rH a o g2:=k _ x
theorem X9: ∀{k:a.3} {bY:h.3},(bE k).520->IntsAre bY (T.JY k)
 |[],_,.nil=> .nil
 |n::k,_,.cons r t=>by obtain⟨tk,rfl⟩:=r;exact .cons _ _ (X9 t)
theorem aQZ{P:Program}{w:World}{H:Hp}{h:Heap}{kq q:Addr}{k:a.3}(ok:V.3)(h1:(kq,.tup [nV k.length,.ref q]).5)(h2:(q,k.48).5):T.RK h (.ref kq) k:=by obtain⟨_,bY,rv,t1,_⟩:=ok kq _ h1;obtain⟨t,rfl⟩:=uU rv;obtain⟨_,tO,rv2,t2,_⟩:=ok q _ h2;exact⟨kq,q,_,_,t,rfl,t1,rfl,t2,(List.toList_toArray,X9 rv2).3⟩
theorem aEh{a b:a.3}(h:M.jP a b):(lexLt itemOrd (T.vR (a.length::a)) (T.vR (b.length::b))).7:=by
 refine T.TV ?_;rcases h with h|⟨h1,h2⟩
 . exact .inl h
 . exact .inr h2.544
section
variable{X:Cx}{pins:j.3}{σ:L2.St}{H:Hp}{f l:Addr}
def NO(X:Cx)(pins:j.3)(σ:L2.St)(H:Hp)(f:Addr):Prop:=∀(q:Addr) (k:a.3) (H1:Hp) (s1:Shared) (Q1:VK),(q,k.48).5->H1.34->o.10->
 (∀kv H2,H2.82->(∃kq,kv= .ref kq/\H2 kq=some (.tup [nV k.length,.ref q]))->Q1 kv H2)->wpAny i.4 X.A.in1.in1 (call (.ref f) q.43) (EP X pins σ Q1) X.4 s1
abbrev KP(H:Hp)(kq:Addr)(x:Addr×a.3):Prop:=(kq,.tup [nV x.2.length,.ref x.1]).5
theorem aCF{zs:a.3.92}{w6:i.3}{a kS:Addr}{e1:Nat}{H1:Hp}{s1:Shared}{Pf:PySem.Fin.49}{E:l.3}{A:Around}{st:SortSt}{keys:R.3}
 (I:o.10) (ha:H1 a=some U.10) (hk:(H1 kS,w6.map V.ref).12) (hf:(failedOf st).9) {outs:a.3.92}
 (ho:((arrOf st).map (·.2)).toList=(outs.map (·.1)).map Value.ref) (hz:outs.length.546) (hkl:w6.length.546) (hka:kS≠a)
 (h: ∀s',Inv X pins σ (upd (upd H1 kS (.lst [])) a (.lst ((outs.map (·.1)).map V.ref))) s'->Pf (.done (.ret .none)) s'):wpAny i.4 A (ksk_tail a false e1 (.ref kS) st) Pf E s1:=by
 have oa:s1.heap.get? a=some (#[],e1).75:=(I.cZ a _ ha).1;obtain⟨_,aM2,ke,krv,ok⟩:=I.cZ kS _ hk;have aQ1:aM2.length=w6.length:=by rw[<-krv.length,aA]
 unfold ksk_tail;refine aB (listUpdate_at ok rfl ?_ (by rw[List.size_toArray,aQ1,bJ];omega) (aW _));refine aB (YU ?_);have g1:=wG ok λ_=>(#[]:R.3);have I2:=p6 (t':=s1.toks) (ob:= .lst []) I hk.574 (dA _ kS E.11) g1.20 ⟨aW _,[],_,.nil,g1⟩;have ha2:upd H1 kS (.lst []) a=some U.10:=(Ne.symm hka,ha).29
 have oa2:(s1.heap.update kS E.11,a,(#[],e1).75).20:=(I2.cZ a _ ha2).1;refine aB (seqEpoch_at oa2 rfl ?_);have hsz:((arrOf st).map (·.2)).size=outs.length:=by have:=ho.554;rw[Array.length_toList,aA,aA] at this;exact this
 refine aB (listUpdate_at oa2 rfl ?_ (aW _) (by simp only [Bool.false_eq_true,if_false];rw[hsz,bJ];omega));rw[hf];simp only [bne_self_eq_false,Bool.false_eq_true,if_false];have g2:=wG oa2 λ_=>(arrOf st).606;have I3:=p6 (t':=s1.toks) (ob:= .lst ((outs.map (·.1)).map V.ref)) I2 (ha2.574) (dA _ a (Obj.mapSeq λ_=>(arrOf st).map (·.2))) g2.20
  ⟨by rw[aA,aA,bJ];omega,((arrOf st).map (·.2)).toList,_,?_,(Array.toArray_toList,g2).3⟩
 . exact aH (h _ I3)
 . rw[ho];generalize outs.map (·.1)=l
   induction l with
   |nil=>exact .nil
   |cons x l ih=>exact ih.511
end
end G
namespace G
open PySem PySem.Spec PyProof.Rows L2 PySem.W
section
variable{X:Cx}{pins:j.3}{σ:L2.St}{H:Hp}{f l:Addr}
theorem aGI: ∀(w6:i.3) (zs:a.3.92),w6.length=zs.length->((w6.map Value.ref).toArray.zip ((zs.map (·.1)).map Value.ref).toArray).toList=(w6.zip zs,x.2.1).139
 |w6,zs,h=>by
  rw[Array.toList_zip,List.toList_toArray,List.toList_toArray];clear h
  induction w6 generalizing zs with
  |nil=>rfl
  |cons k w6 ih=>
   cases zs with
   |nil=>rfl
   |cons z zs=>simp only [List.map_cons,List.zip_cons_cons];rw[ih]
theorem aM3{zs:a.3.92}{w6:i.3}{a kS:Addr}{e1:Nat}{H1:Hp}{s1:Shared}{Pf:PySem.Fin.49}{E:l.3}{A:Around}
 (I:o.10) (hu:(A.units+64).61) (ha:H1 a=some U.10) (hk:(H1 kS,w6.map V.ref).12) (hka:kS≠a) (hp:Paired (KP H1) w6 zs) (hzs: ∀x∈zs,H1 x.1=some (x.2).48) (z8:(zs.map (·.2)).Nodup) (hz:zs.length.546)
 (h: ∀(os:a.3.92) s',os.Perm zs->O.13->Inv X pins σ (upd (upd H1 kS (.lst [])) a (.lst ((os.map (·.1)).map V.ref))) s'->Pf (.done (.ret .none)) s'):
 wpAny i.4 A (ksk_end a false ((zs.map (·.1)).map Value.ref).toArray e1 (.ref kS) (w6.map Value.ref).toArray) Pf E s1:=by
 have hl:w6.length=zs.length:=aO hp;have aGJ:=aGI w6 zs hl;have hm:∀x∈w6.zip zs,T.RK s1.heap (.ref x.1) x.2.2:=λx hx=>aQZ I.cZ (T.rE hp x hx) (hzs _ (wD hx).2);unfold ksk_end;simp only [Bool.false_eq_true,if_false];by_cases h2:((zs.map (·.1)).map Value.ref).toArray.size<2
 . rw[if_pos h2,if_pos h2];refine aB m.3;rw[StateT.run_pure];refine aB m.3;rw[List.size_toArray,aA,aA] at h2;refine aCF (zs:=zs) (outs:=zs) (keys:= #[]) I ha hk rfl ?_ hz b.3 hka λs' I'=>h zs s' (nY _) ?_ I'
   . show(((w6.map Value.ref).toArray.zip ((zs.map (·.1)).map Value.ref).toArray).map (·.2)).toList=_;rw[aBv,aGJ,a9,a9];have:zs=(w6.zip zs).606:=(EV b.3).85
     conv=>rhs;rw[this]
     rw[a9];rfl
   . match zs,h2 with
     |[],_=>exact .nil
     |[x],_=>exact List.pairwise_singleton _ _
     |_::_::_,h=>simp at h;omega
 . rw[if_neg h2,if_neg h2];rw[List.size_toArray,aA,aA] at h2;have ht: ∃fs,TupsOf s1.heap w.5 (w6.map Value.ref) fs:=by
    clear aGJ hk hz z8 h2 hzs h hm hl
    induction hp with
    |nil=>exact⟨[],.nil⟩
    | @cons kq z w6 zs r t ih=> obtain⟨fs,hfs⟩:=ih;obtain⟨_,bY,rv,⟨o,ho,hc,m,hd⟩,_⟩:=I.cZ kq _ r;obtain⟨t',rfl⟩:=uU rv;exact⟨_::fs,.cons ⟨kq,o,_,m,rfl,ho,hc,hd,rfl,λ_=>(_).63,λh=>A.5⟩ hfs⟩
   obtain⟨fs,ht⟩:=ht;refine aB (tup_kind (aEu ht,aA).65 ht ?_);have hsz:((w6.map Value.ref).toArray.zip ((zs.map (·.1)).map Value.ref).toArray).size=zs.length:=by rw[<-Array.length_toList,aGJ,aA,HS];omega
   refine aB (fS (T.aJg (E:=E) (Q:=λ_ iO=>(arrOf iO).Perm ((w6.map Value.ref).toArray.zip ((zs.map (·.1)).map Value.ref).toArray)/\failedOf iO=none/\SortedToK (PyProof.Rows.G.tupKindC (T.j9 s1.heap) λ_=>false) (arrOf iO) ((w6.map Value.ref).toArray.zip ((zs.map (·.1)).map Value.ref).toArray).size) hu (λp hp'=>?_) (by rw[hsz];omega) λiO a1 a2 a3=>⟨a1,a2,a3⟩) ?_ λ_ _ e=>e)
   . rw[<-nX,aGJ] at hp';obtain⟨x,hx,rfl⟩:=a5.mp hp';exact⟨_,hm x hx⟩
   rintro⟨⟨⟩,iO⟩ s' ⟨rfl,g9,hf,aCr⟩;dsimp only at g9 hf aCr⊢;have kY:(arrOf iO).toList.Perm (w6.zip zs,x.2.1).139:=by have e:=Array.perm_iff_toList_perm.mp g9;rw[aGJ] at e;exact e
   obtain⟨ys,jH,vC⟩:=T.qE kY;have hyz:∀y∈ys,y∈w6.zip zs:=λy hy=>vC.mem_iff.mp hy;have hwp:(ys.map (·.2)).Perm zs:=(vC.map (·.2),EV b.3).107
   have hyl:ys.length=zs.length:=by have:=hwp.length_eq;rwa [aA] at this
   refine aCF (zs:=zs) (outs:=ys.map (·.2)) (keys:= #[]) I ha hk hf ?_ aA.56 b.3 hka λs2 I'=>h _ s2 hwp ?_ I'
   . rw[aBv,jH,a9,a9,a9];rfl
   . have aMl:((ys.map (·.2)).map (·.2)).Nodup:=(hwp.map (·.2)).nodup_iff.mpr z8;rw[jX];intro i j hi hj hij;rw[aA,aA] at hi hj;have iK:((ys.map (·.2)).map (·.2))[i]'((aA,hi).78)≠((ys.map (·.2)).map (·.2))[j]'((aA,hj).78):=jX.mp aMl i j _ _ hij;have hs:=aCr i j b.3 hsz.56;have hKK: ∀m (XC:m<ys.length),KK (PyProof.Rows.G.tupKindC (T.j9 s'.heap) w.5) (arrOf iO) m=T.vR (ys[m].2.2.length::ys[m].2.2):=λm XC=>by
      unfold KK;have:((arrOf iO),m,(Value.ref ys[m].1,Value.ref ys[m].2.1)).4:=by rw[<-bM,jH,aE,aF XC];rfl
      rw[this];show((T.j9 s'.heap,.ref ys[m].1).113).getD []=_;rw[T.EM (hm _ (hyz _ (eR XC)))];rfl
     rw[hKK i hi,hKK j hj] at hs;have hs':(lexLt itemOrd (T.vR (ys[j].2.2.length::ys[j].2.2)) (T.vR (ys[i].2.2.length::ys[i].2.2))).25:=hs;simp only [List.getElem_map] at iK⊢;rcases M.jP.total ys[i].2.2 ys[j].2.2 with h|h|h
     . exact h
     . exact absurd h iK
     . rw[aEh h] at hs';cases hs'
end
end G
namespace G
open PySem PySem.Spec PyProof.Rows L2 PySem.W
section
variable{X:Cx}{pins:j.3}{σ:L2.St}{H:Hp}{f l:Addr}
theorem z3: ∀{l:i.3} {bY:h.3},(l.map V.ref).520->bY=l.map Value.ref
 |[],_,.nil=>rfl
 |_::l,_,.cons r t=>by cases r;rw[z3 t];rfl
theorem aCG: ∀(l:i.3),Vals (l.map V.ref) (l.map Value.ref)
 |[]=> .nil
 |_::l=> (aCG l).511
theorem aJh{zs:a.3.92}{a kS:Addr}{e1:Nat}{H1:Hp}{s1:Shared}{Pf:PySem.Fin.49}{E:l.3}
 (I:o.10) (hu:(X.A.units+100).61) (sm:H1.34) (haN:a.21) (hkN:kS.21) (ha:H1 a=some U.10) (hk:(H1 kS).536) (hka:kS≠a) (hzs: ∀x∈zs,(x.1,(x.2).48).5) (z8:(zs.map (·.2)).Nodup) (hz:zs.length.546) (turn:NO X pins σ H f)
 (h: ∀(os:a.3.92) H' s',os.Perm zs->O.13->s.3->(H' a).774->T.5->Pf (.done (.ret .none)) s'):
 wpAny i.4 X.A.in1.in1 (ksk_rest a (.ref f) false ((zs.map (·.1)).map Value.ref).toArray e1 (.ref kS)) Pf E s1:=by
 have hu2:(X.A.in1.in1.units+64).61:=by show X.A.units+1+1+64<_;omega
 unfold ksk_rest;refine aB (O4 ?_);rw[List.forIn_toArray];refine aB (ksk_fold (λi s'=>∃H' w6,T.5/\s.3/\H' a=some U.10/\(H' kS,w6.map V.ref).12/\Paired (KP H') w6 (zs.take i)) _ 0 s1 ⟨H1,[],I,sm,ha,hk,(List.take_zero,.nil).3⟩ ?step ?done);case step=>
  rintro j x s' hx ⟨H',w6,I',sm',ha',rX,hp'⟩;simp only [Nat.zero_add] at hp'⊢;rw[aE,aE] at hx
  cases hzj:zs[j]? with
  |none=>rw[hzj] at hx;cases hx
  |some z=>
   rw[hzj] at hx;cases hx;have hjl:j<zs.length:=hzj.535;have hql:=hzs z (List.mem_of_getElem? hzj);refine aB (JC (fS (turn z.1 z.2 H' s' (λkv H2=>aL H' H2/\∃kq,kv= .ref kq/\H2 kq=some (.tup [nV z.2.length,.ref z.1])) hql sm' I' λkv H2 a b=>⟨a,b⟩) (λv s2 hv=>?_) λ_ _ hF=>hF.elim));obtain⟨kv,H2,I2,rk,Y5,kq,rfl,hq⟩:=hv;cases rk;have hk2:=Y5 _ _ rX;obtain⟨_,aM2,ke,krv,okS⟩:=I2.cZ kS _ hk2;obtain rfl:=z3 krv;have hkl:w6.length=j:=(aO hp',aX).65
   have g:=wG okS λxs=>xs.push (.ref kq);have I3:=p6 (t':=s2.toks) (ob:= .lst (w6++[kq]).571) I2 (hk2.574) (dA _ kS (Obj.mapSeq λxs=>xs.push (.ref kq))) g.20
    ⟨by rw[aA,List.length_append,hkl,bJ];simp only [List.length_singleton];omega,(w6++[kq]).map Value.ref,_,aCG _,by rw[g];congr 2;simp⟩
   refine aB (listUpdate_at okS rfl ?_ (by rw[List.size_toArray,aA,hkl,bJ];omega) (by rw[Array.size_push,List.size_toArray,aA,hkl,bJ];omega));refine aH ⟨rfl,_,w6++[kq],I3,nT (sm'.trans Y5) hkN,?_,aI,?_⟩
   . rw[bF (Ne.symm hka)];exact Y5 _ _ ha'
   . have up:∀{b xs},H2 b=some a.4->upd H2 kS (.lst (w6++[kq]).571) b=some a.4:=λ{b xs} e=>((e,hk2).32,e).29
     rw[rN,hzj];exact iE (hp',up (Y5 _ _ q)).38 (up hq).555
 case done=>rintro s' ⟨H',w6,I',sm',ha',rX,hp'⟩;rw[aA,aA,Nat.zero_add,cJ] at hp';obtain⟨_,aM2,ke,krv,okS⟩:=I'.cZ kS _ rX;obtain rfl:=z3 krv;refine aB (listItems_at okS rfl ?_);refine aM3 I' hu2 ha' rX hka hp' (λx hx=>sm' _ _ (hzs x hx)) z8 hz λos s2 h1 h2 I2=>h os _ s2 h1 h2 ?_ aI I2;exact nT (nT sm' hkN) haN
theorem aGK{s:Shared}{Q:VK}{E:l.3}{zs:a.3.92}(I:g.3)(hu:(X.A.units+100).61)(hl:H l=some (.lst ((zs.map (·.1)).map V.ref)))(hzs: ∀x∈zs,(x.1,(x.2).48).5)(z8:(zs.map (·.2)).Nodup)(hz:zs.length.546)(turn:NO X pins σ H f)
 (hQ: ∀(os:a.3.92) H' r,os.Perm zs->O.13->s.3->r.21->(H' r).774->r.84):
 (X.A,call (.builtin "sorted") l.43 [t.14]).140:=by
 obtain⟨_,bY,n0,rv,ol⟩:=I.cZ l _ hl;obtain rfl:=z3 rv;have hL:(((zs.map (·.1)).map Value.ref).toArray).660:=(ol,n0).98;have hlen:(((zs.map (·.1)).map Value.ref),zs.length).6:=aA.500
 generalize hvs:(zs.map (·.1)).map Value.ref=vs at hL hlen;refine call_function_entry_kw kind_sorted plain_sorted entry_sorted e.14 ?_;unfold Builtin.«sorted»;refine aB (m:=checkCount "sorted" 1 1 _) m.3;refine aB (collect_list hL ?_ bJ.56);refine aB (aCV ?_ bJ.56);have hsz:((s.heap.push (seqObj "list" #[] 0)).update s.heap.objs.size (Obj.mapSeq (· ++vs.toArray))).objs.size=O.3:=(Heap.size_update,size_push').7
 have aQ3:∀b o,b.70->(((s.heap.push (seqObj "list" #[] 0)).update s.heap.objs.size (Obj.mapSeq (· ++vs.toArray))).get? b).23:=λb o e=>(Heap.get?_update_ne _ _ _ _ (bS (aZ e)),aN _ e).3
 have I1:=I.kept (t':=s.toks) aQ3;generalize (s.heap.push (#[],0).75).update s.heap.objs.size (Obj.mapSeq (· ++vs.toArray))=h1 at I1 hsz⊢;show wpAny _ _ _ _ _ {s with heap:=h1.push (0).633};have hoL:(h1.push (0).633,h1.objs.size,(0).633).20:=G.3;have haN:h1.objs.size.21:=D.13;have I2:=I1.laid (a:=h1.objs.size) (t':=s.toks) (h':=h1.push (0).633) (o:=u.14) y.11 (aS _) (tV hoL hoL.20 NN);have Y5:(upd H h1.objs.size u.14).34:=haN.76;have ha2:upd H h1.objs.size u.14 h1.objs.size=_:=aI;generalize upd H h1.objs.size u.14=H2 at I2 Y5 ha2;generalize h1.push (0).633=h2 at I2 hoL⊢;generalize h1.objs.size=a at haN ha2 hoL⊢;refine aB (c9 (wpAny_call_entry_kw slot_list_sort hoL.63 entry_list_sort ?body e.14));show wpAny i.4 X.A.in1.in1 (Builtin.«list.sort» ⟨[p.3],[t.14]⟩) _ _ _;rw[ksk_t1];unfold ksk_tree;refine aB (listItems_at hoL rfl ?_);refine aB (listUpdate_at hoL rfl ?_ bJ.712 (aW _));obtain⟨e1,SX⟩:∃e1,(h2.update a E.11,a,(#[],e1).75).20:=(wG hoL λ_=> #[]).20;have I3:=p6 (t':=s.toks) (ob:=U.10) I2 ha2.574 (dA h2 a E.11) SX.20 (tV SX SX.20 NN);have sm3:(upd H2 a U.10).34:=nT Y5 haN;have ha3:upd H2 a U.10 a=_:=aI;generalize upd H2 a U.10=H3 at I3 sm3 ha3;refine aB (seqEpoch_at SX rfl ?_);refine aB (wpAny_newTuple ?_ (by show vs.length<=_;rw[bJ];omega));refine aB (aCV ?_ (aW _));refine c9 ?_;have I4:=I3.kept (t':=s.toks) (h':=(h2.update a E.11).push (seqObj "tuple" vs.toArray 0)) y.11;generalize (h2.update a E.11).push (seqObj "tuple" vs.toArray 0)=h4 at I4⊢;have aJi:(H3 h4.objs.size).9:=I4.cZ.fresh (aS _);have hkN:h4.objs.size.21:=sm3.free aJi;have hka:h4.objs.size≠a:=λz=>by rw[z,ha3] at aJi;cases aJi
 have I5:=I4.laid (a:=h4.objs.size) (t':=s.toks) (h':=h4.push (#[],0).75) (o:= .lst []) y.11 (aS _) ⟨aW _,[],0,.nil,G.3⟩;rw[<-hvs];refine aJh I5 hu (sm3.new aJi) haN hkN (Ne.symm hka,ha3).29 aI hka hzs z8 hz turn λos H' s' h1 h2 sm ha' I'=>(?_).28;exact aH ⟨_,rfl,p.3,H',I',rfl,hQ os H' a h1 h2 sm haN ha'⟩
end
end G
namespace G
open PySem PySem.Spec PyProof.Rows L2
section
variable{X:Cx}{e:Expr}{es:X.3}{VG:List Keyword}{t tk:TA}{pos p:Pos}
def aJj(X:Cx)(t tk:TA):TE:=λσ H Q=>t σ H λvs H1=>tk σ H1 λzs H2=>∃(l f:Addr) (xs:a.3.92),vs=l.43/\zs=f.43/\H2 l=some (.lst ((xs.map (·.1)).map V.ref))/\(∀x∈xs,H2 x.1=some (x.2).48)/\(xs.map (·.2)).Nodup/\xs.length.546/\(∀pins,NO X pins σ H2 f)/\
 ∀(os:a.3.92) H' r,os.Perm xs->O.13->aL H2 H'->(H2 r).9->(H' r).774->r.84
theorem aEi(hu:(X.A.units+100).61)(hg:Gl X "sorted")(hm:(X.mg "sorted").9)(ha:a.5)(hkw:PK X VG tk)
 (hks:((pos,VG).80).filterMap (·.1)=[Str.ofString "key"]:=by rfl)
 (he:(e::es).581=(false,e.58)::es.581:=by rfl) (kY:(e::es).581.677:=by rfl)
 (i3:(((pos,VG).80).all (·.1.isSome)).7:=by rfl) (hkn:(((pos,VG).80).any (·.1.isNone)).25:=by rfl):
 PE X (.Call (.Name "sorted" p) (e::es) VG pos) (aJj X t tk):=(.builtin "sorted",λws s2 ⟨zs,H2,I2,r2,l,f,xs,e1,e2,hl,hx,z8,hz,turn,hq⟩=>?_,aGK I2 hu hl hx z8 hz (turn pins) hq).47
end
abbrev qAR:Str:=(("all_readings":Str)++".<locals>.")++"<lambda>"
abbrev aCH:Pos:=⟨77,34,77,73⟩
section
variable{P:Program}{w:World}{K:PySem.W.Frag}{mg:k.3}{base:Heap}{A:Ad}
def OX(p z:Addr):Sp:=λvs H Q _=>∃(S:Sy27.Script) (wl ta sy:Addr) (R:d.3) (t:a.3),vs=[.ref wl,.ref ta,.ref sy]/\LT p.97 wl R/\(hide p H ta,t).10/\LL p.97 sy S.values/\(∀x∈R,x.759)/\(∀a∈t,d.4)/\t.length<=8/\M.N5 S.values/\R.length.62/\
 TabOk H p z aCH qAR/\(∃o,(z,o).5)/\p≠z/\
 ∀H' r,p.55->TabOk H' p z aCH qAR->r.21->LT H' r (Sy27.readings S R t)->r.84
theorem wR:(["ways","text","syllables","seen","way"],["ways","text","syllables"],qO).5:=o.3
theorem IW(T:n.3){c p:Addr}(z:Addr)(B:Tb K mg "all_readings" c p)(hBt:Bt mg base):dC P w K mg base kJ 5 "all_readings" ["ways","text","syllables"] (OX p z):=by
 refine T.xV.okC B wR Y.4 x.4 λf Ar outer s H vs Q E hr h=>?_;obtain⟨S,wl,ta,sy,R,t,rfl,hR,hta,IM,aAQ,htl,Y1,aWe,hRl,hT,hz,hpz,k⟩:=h;have nd:=wR.nd;have hu:=hr.units;have aQ4:((Ar.deeper (envOfC "all_readings" (aV qO) s.heap.objs.size f (.ref c))).units+100).61:=hr.un.90
 have ON:(1).27:=t.3;refine⟨_,(aK (3,VU).14
  (aK (fF bL rfl (cK (pv 0)) (4).503 (aP (aBT (jL (Nat.add_le_add_left r.3 _) hu) (pv 3) (OT T,ON,(pv 4,pv 1,pv 2).7).6 CF rfl)))
  (aEi aQ4 rfl T.x9 (eT (G.T.XN rfl) (by rfl) T.FL mB (pv 3).30).30 (aBN (aGz (z:=z) rfl B.hd hBt rfl) aE6)).47)),?_⟩
 refine λd hd=>?_;obtain⟨φp,hP⟩:=hT.there;have s1:(upd H d (.dT [])).34:=hd.76;have hd1:upd H d (.dT []) d=some (.dT []):=aI;generalize upd H d (.dT [])=H1 at s1 hd1;obtain⟨was,hw0,hwP⟩:=hR.mono (jF p H);have hwl:was.length=R.length:=aO hwP;refine⟨_,rfl,wl,rfl,hw0.26.59,eB ((wl,was.map V.ref).26) (λi σ H'=>∃v4 eI ps,σ=[wl.8,ta.8,sy.8,d.8,v4]/\s.3/\H' d=some (.dT eI)/\K.11=ps.map pK/\ps.length<=i/\ps.Nodup/\∀x,x∈ps↔∃u∈R.take i,u.68=x)
  ⟨none,[],[],rfl,s1,hd1,rfl,aW _,eO,λx=>c.3⟩ (by obtain⟨_,_,_,_,h,_⟩:=h;exact bP.of (h _ _ hw0)).552 ?_ ?_⟩
 . rintro i x σ H2 H2' hi ⟨v4,eI,ps,rfl,s2,hd2,N6,hk2,hk4,hk3⟩ ⟨rfl,hx⟩;rw[aA,hwl] at hi;have hRi:(R,R).28:=aF hi;generalize R[i]=u at hRi;obtain⟨wa,hwa,hq⟩:=bO hwP hRi;obtain rfl:x= .ref wa:=by rw[aE,hwa] at hx;exact hx.31
   have hlen:eI.length<sizeLine:=by have:=N6.554;rw[aA,aA] at this;rw[bJ];omega
   refine⟨_,rfl,_,rfl,_,rfl,_,rfl,S,wa,ta,sy,u,t,rfl,hq.50,(jF p H _ _ hta).50,(IM.mono (jF p H)).mono s2,aAQ u (List.mem_of_getElem? hRi),htl,Y1,aWe,λH6 r s6 k8 hr6=>⟨d,_,rfl,aDa.t (k:=pK u.68) hd2.518 (XU,hr6).3 hlen,?_⟩⟩;have aIP:eA d H6 (upd H6 d (.dT (putK eI (pK u.68) (.bl true)))):=H6.567;have PQ: ∀x,(∃u'∈R.take (i+1),u'.68=x)↔x∈ps\/x=u.68:=λx=>by
    rw[iM,hRi,hk3];constructor
    . rintro⟨u',h,rfl⟩;rcases List.mem_append.mp h with h|h
      . exact .inl (u',h).34
      . have:u'=u:=m.4
        rw[this];exact .inr rfl
    . rintro (⟨u',h,rfl⟩|rfl)
      . exact(u',iF _ h).34
      . exact(u,dX _ c.3).34
   refine⟨_,putK eI (pK u.68) (.bl true),if u.68∈ps then ps else ps++[u.68],rfl,aIP.same (s2.trans s6) hd,aI,?_,?_,?_,?_⟩
   . rw[RF,N6];have e:pK u.68∈ps.map pK↔u.68∈ps:=(a5,⟨λ⟨x,hx,he⟩=>aAO he▸hx,λh=>h.63⟩).3
     by_cases h:u.68∈ps
     . rw[if_pos h,if_pos (e.mpr h)]
     . rw[V.4,(h (e.mp z)).605,bH];rfl
   . split
     . omega
     . rw[List.length_append,List.length_singleton];omega
   . split
     . exact hk4
     . rename_i hn;rw[fH];exact(hk4,hn ha).150
   . intro x;rw[PQ];split
     . exact⟨.inl,λh=>h.elim id λe=>by rw[e];assumption⟩
     . rw[List.mem_append,List.mem_singleton]
 . rintro σ H2 ⟨v4,eI,ps,rfl,s2,hd2,N6,hk2,hk4,hk3⟩;rw[aA,hwl] at hk2;rw[aA,hwl,cJ] at hk3;refine⟨_,rfl,d,eI,rfl,hd2,λl qs hl5 hpq=>?_⟩;rw[N6] at hpq;have aM6:=vU hpq;have hql:qs.length=ps.length:=aO aM6;have s3:(l,Q.5).62:=hl5.528;have hl3:(upd H2 l (.lst Q.5) l,Q.5).12:=aI;generalize (H2,l,Q.5).3=H3 at s3 hl3;have UY:=s2.trans s3;have hP3:=UY _ _ hP;have hz3:∃o,(H3 z).23:=(UY _ _ e).736
   refine⟨hT.same UY,hz3,λfL cL H4 TY hf0 hfp hL hC4 IV=>?_⟩;have hz1:(qs.zip ps).607=qs:=List.map_fst_zip b.3;have hz2:(qs.zip ps).606=ps:=EV b.3;have aQ7:eA p H H4:=λb o e ne=>TY _ _ (UY _ _ e) ne;have hnp:∀{b o},(H3 b).23->(∀φ,o≠c.4)->b≠p:=λ{b o} e ne zz=>by rw[zz,hP3] at e;injection e with e;exact ne _ e.symm
   refine⟨l,fL,qs.zip ps,rfl,rfl,(hz1,TY _ _ hl3 (hnp hl3 U.3)).3,λx hx=>?_,(hz2,hk4).3,HS.56,λpins=>?_,λos H5 r g9 hpw s5 k8 hr5=>?_⟩
   . have q:=_root_.G.T.rE aM6 x hx;rw[XU] at q;have q3:=q.54;exact TY _ _ q3 (hnp q3 U.3)
   . intro q kk H5 s5 Q1 hq s45 I5 hQ1;refine aCy (k:=0) (x:="reading") (N:=["reading"]) (σ':=[q.8]) (v:= .ref q) I5 I5.ok.frames (hr.in1.in1.mono r.3) (s45 _ _ hL) (s45 _ _ hC4) rfl rfl rfl l.4 rfl (λ_ _ _=>rfl) ?_ ?_ rfl ?_ rfl (qI ((pv 0).87,pv 0).21) ?_
     . intro y a h;cases h
     . intro y h;rw[List.lookup_cons] at h;split at h
       . cases h
       rw[List.lookup_cons] at h;split at h
       . cases h
       cases h
     . intro i' y x' h1 h2;match i',h1,h2 with
       |0,h1,h2=>cases h1;cases h2;exact .inl y.4
       |i'+1,h1,h2=>cases h1
     . refine⟨_,rfl,q,_,rfl,.inr (lN.of (s45 _ _ hq)),_,rfl,(2).514,λkq hkq=>hQ1 _ _ (H5,hkq).20 (kq,rfl).17⟩;rw[aI,bE,aA]
   . have hp5:eA p H H5:=aQ7.then s5;have hT5:=IV.same s5;have hrp:r≠p:=λzz=>by obtain⟨φ,hφ⟩:=IV.there;rw[zz,hφ] at k8;cases k8
     have hrH:r.21:=by
      cases q:H r with
      |none=>rfl
      |some o=>rw[aQ7 _ _ q hrp] at k8;cases k8
     have aM7:(os.map (·.2)).Perm ps:=(g9.map (·.2),hz2).107
     have heq:os.map (·.2)=Sy27.readings S R t:=M.WE hpw λx=>(aM7.mem_iff,hk3).7
     refine k H5 r hp5 hT5 hrH (os.map (·.1),hr5).17;rw[<-heq];refine _root_.G.T.vS λx hx=>?_;have IE:=g9.mem_iff.mp hx;have q:=_root_.G.T.rE aM6 x IE;rw[XU] at q;have q3:=q.54;exact(TY _ _ q3 (hnp q3 U.3)).60
end
end G
namespace G
open PySem PySem.Spec PyProof.Rows L2 PySem.W
def Fly(outer:j.4)(H:Hp)(h:Heap)(H':Hp)(h':Heap)(ea:Addr)(cls:Value):Prop:=
 ∃(B:Heap) (a0:Value),Heap.FlyingW B outer ea cls a0 h'/\((h.4.23,(H' b).563,O.4).12)/\
  ((b.52,b∉B.4,O.4.671).15)/\(∀b o,b.52->b.21->b∉B.4->O.4.23)
def vD(P:Program)(w:World):YW:=λouter H s E e s'=>∃(ea:Addr) (cls:Value) (H':Hp),e= .ref ea/\s'.os=s.os/\AllBare s'.gens/\Un B.4 [] H H' s.heap s'.heap/\oV P w H' s'.heap/\Fly outer H s.heap H' s'.heap ea cls/\E cls none H'
theorem gX.there{P:Program}{w:World}{H:Hp}{h:Heap}{a:Addr}{o:HO}(x:o.576): ∃u,(h.get? a).67:=by
 cases o with
 |lst xs=>obtain⟨_,_,_,_,e⟩:=x;exact⟨_,e⟩
 |tup xs=>obtain⟨_,_,_,⟨_,e,_⟩,_⟩:=x;exact⟨_,e⟩
 |dK eI=>obtain⟨_,_,_,_,o,_,_,e,_⟩:=x;exact⟨_,e⟩
 |dT eI=>obtain⟨_,_,_,_,o,_,_,e,_⟩:=x;exact⟨_,e⟩
 |set S n=>obtain⟨o,_,_,_,e,_⟩:=x;exact⟨_,e⟩
 |ins C dx fs=>obtain⟨_,_,_,e,_⟩:=x;exact⟨_,e⟩
 |own y=>exact x
 |xd fs=>obtain⟨_,⟨_,_,_,e,_⟩,_⟩:=x;exact⟨_,e⟩
 |rng lo hi=>obtain⟨_,_,_,e⟩:=x;exact⟨_,e⟩
 |N3 ob u=>obtain⟨e,_⟩:=x;exact⟨_,e⟩
 |tbl ps=>exact⟨_,x⟩
 |met f y=>exact⟨_,x⟩
 |ext φ=>exact x.2.1
theorem UC{P:Program}{w:World}{H:Hp}{h h' B:Heap}(ok:V.3)(c1: (b.52,(H b).563,O.4).12)(st:B.StaysIn h'):oV P w H h':=λa o e=>by
 refine(ok a o e).HX (λb u hb q=>st _ _ (c1 b u q ?_)) (λ_ q=>q) λ_ _ q=>q;rcases hb with rfl|hb
 . rw[e];rfl
 . rw[hb];rfl
theorem aGM{P:Program}{w:World}{H:Hp}{h h' B:Heap}(ok:V.3)(c1: (b.52,(H b).563,O.4).12)(st:B.StaysIn h'): (h.4.23,(H b).563,O.4).12:=λb o e hb=>by obtain⟨u,hu⟩:=Option.isSome_iff_exists.mp hb;obtain⟨v,hv⟩:=gX.there (ok b u hu);have q:=c1 b v hv hb;have:=st _ _ q;rw[e] at this;cases this;exact q
theorem aBe{outer:j.4}{H H':Hp}{h h1 h' B:Heap}(u:Un B.4 [] H H' h h1)(st:B.StaysIn h')(ff:h1.FunFrames B outer)(up:h1.UpToSlots h')(c2: (b.52,b∉B.4,O.4.671).15)(c3: ∀b o,b.52->b.21->b∉B.4->O.4.23):Un B.4 [] H H' h h':=by
 have fr:∀b∈B.4,∀o,(h1.get? b).23->l.15:=λb hb o e=>by obtain⟨_,o',e',nf⟩:=ff.mem hb;rw[e] at e';cases e';exact up b o e nf
 refine⟨λb o e n hb _=>st _ _ (c3 b o e n hb),λb o e n hb _=>?_,u.free,λb o e _=>?_,u.HY,u.J0,u.N7⟩
 . obtain⟨sl,e1⟩:=u.slot b o e n hb c.3;obtain⟨sl2,e2⟩:=fr b hb _ e1;exact⟨sl2,e2⟩
 . by_cases hb:b∈B.4
   . obtain⟨o1,e1⟩:=u.there b o e c.3;obtain⟨sl,e2⟩:=fr b hb o1 e1;exact e2.20
   . obtain⟨o',q⟩:=c2 b o e hb;exact⟨_,st _ _ q⟩
section
variable{P:Program}{w:World}{K:PySem.W.Frag}{mg:k.3}{base:Heap}{N:x.3}{qual:Str}{scope:Scope}{f:Addr}{cd:Value}{A:Around}{outer:j.4}{s0:Shared}{H0:Hp}{E:XK}
theorem lL:Passes J.3 (IB J.3 P w K mg base N qual scope f cd A outer s0 H0 E) E:=by
 intro pins σ H s e s' I c;obtain⟨ea,cls,H',rfl,os,bare,un,cZ,⟨B,a0,fl,c1,c2,c3⟩,q⟩:=c;have I':=I.aER os un cZ bare (λb z=>z.515);show wpAny _ _ (leaving _ _) _ _ _;refine wpAny_leaves_onW I.ok.frames rfl fl λh' fl' up=>?_;have iK: (b∉rR x.11).737:=λb o e hb hm=>by
  rcases List.mem_cons.mp (show b∈s0.heap.objs.size::B.4 from hm) with z|z
  . have:=aZ e;rw[z] at this;exact absurd this (d7 _)
  . exact hb z
 have d2:O.4.671.737:=λb o e hb=>by obtain⟨o1,e1⟩:=b.13.702;exact c2 b o1 e1 (iK b o e hb)
 have d3: ∀b o,(s0.heap.get? b).23->(H0 b).9->b∉B.4->O.4.23:=λb o e n hb=>
  c3 b o b.13.726 (I.base.free b o e n b.13) (iK b o e hb)
 have ff:s'.heap.FunFrames B outer:=fl.2.2.1.2.2;exact⟨ea,cls,H',rfl,I'.os,bare,aBe I'.base fl'.1 ff up d2 d3,UC cZ c1 fl'.1,⟨B,a0,fl',aGM cZ c1 fl'.1,d2,d3⟩,q⟩
structure Xd(K:PySem.W.Frag)(mg:k.3)(x:Str)(C:Addr):Prop where
 own: ∀h,Mod K mg h->OwnCls x C E.16 "Exception.__new__" mg h
def aM8(E:XK)(C:Addr):TS:=λ_ _ H=>E (.ref C) none H
theorem lM{x:Str}{C:Addr}{np pZ pos:Pos}(D:Xd K mg x C)(hg:Gl (IB J.3 P w K mg base N qual scope f cd A outer s0 H0 E) x)(hd:F.4:=by decide):
 PS (IB J.3 P w K mg base N qual scope f cd A outer s0 H0 E) (.Raise (some (.Call np.551 [] [] pZ)) none pos) (aM8 E C):=by
 intro pins s σ H De I h;have O:=D.own base I.mod;obtain⟨tl,N',nm,q,bs,hdct,sn,sub,ab,col,dd,k0,k1,k2,k3,k5,mN,hC,hN,hni,TL⟩:=O.obj;refine wpAny_Raise_call_subT (C:=C) (nm:=nm) (q:=q) (N:=N') (bs:=bs) (bm:=tl) (hdct:=hdct) (sn:=sn) (sub:=sub) (ab:=ab) (col:=col) (dd:=dd) (k0:=k0) (k1:=k1) (k2:=k2) (k3:=k3) (k5:=k5) PySem.F.excBase_Exception (mN:=mN) (TL.hasType PySem.F.excBase_Exception.hasBase) (I.ok.hd rfl) rfl hni (zK I hg O.bound (?_).73 hd);refine evalArgs_empty ⟨rfl,aW _,I.bk _ _ hC,hN.keeps I.bk,TL.keeps I.bk,λh' ea mk=>?_⟩;show wpAny _ _ (leaving _ _) _ _ _;have aQ8:s.heap.FunFrames base x.11:=I.stack;have JR:∀env∈(x.11),∀b,env.frame=some b->b∈rR x.11:=λenv he b hb=>l8.mpr ⟨env,he,hb⟩;have C3:(E.12).StaysIn s.heap:=λb o e=>of_hideAll _ e;refine wpAny_leaves_madeW (base:=E.12) (h:=s.heap) I.ok.frames rfl C3 (funFrames_hide aQ8 JR) mk λh2 t fl a1u htn up=>?_;have wH:∀b∈rR x.11,b.21:=I.R3;have gB:∀{b o},b.70->b∉rR x.11->((E.12).get? b).23:=λe n=>hideAll_get _ e n;have c1:(b.70,(H b).563,(E.12).get? b).12:=λb o e hb=>gB e λhm=>by rw[wH b hm] at hb;cases hb
 have iK: (b∉rR x.11).737:=λb o e hb hm=>by
  rcases List.mem_cons.mp (show b∈s0.heap.objs.size::B.4 from hm) with z|z
  . have:=aZ e;rw[z] at this;exact absurd this (d7 _)
  . exact hb z
 have d2:(∃o',(E.12,b,o').20).737:=λb o e hb=>by obtain⟨o1,e1⟩:=b.13.702;exact⟨o1,gB e1 (iK b o e hb)⟩
 have d3:∀b o,(s0.heap.get? b).23->(H0 b).9->b∉B.4->((E.12).get? b).23:=λb o e n hb=>gB b.13.726 (iK b o e hb);have up':s.heap.UpToSlots h2:=(Heap.UpToSlots.of_keeps mk.keeps).trans up;exact⟨ea,.ref C,H,rfl,I.os,I.bare,aBe I.base fl.1 (funFrames_hide aQ8 JR).2.2 up' d2 d3,UC I.cZ c1 fl.1,⟨_,_,fl,aGM I.cZ c1 fl.1,d2,d3⟩,h⟩
end
end G
namespace G
open PySem PySem.Spec PyProof.Rows L2 PySem.W
abbrev markX(X:Cx)(e:Value):Cx:={X with A:=X.A.mark (some e),calm:=false,xe:=X.4}
abbrev aJk(X:Cx)(pins:j.3)(EH:XK):Cx:={X with pn:=X.pn++pins,xe:=λe s1=>∃σ H s,g.3/\vD X.prog X.w X.stack H s EH e s1}
section
variable{X:Cx}{pins aKF:j.3}{σ:L2.St}{H:Hp}{s:Shared}{e:Value}{EH:XK}
theorem YA(I:g.3)(e:Value):Inv (markX X e) pins σ H s:=
 ⟨⟨I.ok.mod,I.ok.kind,I.ok.glob,I.ok.blt,I.ok.above,I.ok.inj,I.ok.has,I.ok.cab,(λh=>nomatch h),I.ok.frames,I.ok.stk,I.ok.exf,I.ok.bs,I.ok.Y9,I.ok.U9,I.ok.VA,I.ok.w8,I.ok.frf⟩,I.os,I.bare,I.base,I.loc,I.cell,I.free,I.o4,I.pin,I.cZ,I.len⟩
theorem vY(I:Inv (markX X e) pins σ H s)(ok:X.Ok):g.3:=
 ⟨ok,I.os,I.bare,I.base,I.loc,I.cell,I.free,I.o4,I.pin,I.cZ,I.len⟩
theorem aJl(I:g.3):Inv (aJk X pins EH) [] σ H s:=
 ⟨⟨I.ok.mod,I.ok.kind,I.ok.glob,I.ok.blt,I.ok.above,I.ok.inj,I.ok.has,I.ok.cab,I.ok.hd,I.ok.frames,I.ok.stk,I.ok.exf,I.ok.bs,I.ok.Y9,I.ok.U9,I.ok.VA,I.ok.w8,I.ok.frf⟩,I.os,I.bare,I.base,I.loc,I.cell,I.free,I.o4,λp hp=>I.pin p (by simpa using hp),I.cZ,I.len⟩
theorem uY(I:Inv (aJk X pins EH) aKF σ H s):g.3:=
 ⟨⟨I.ok.mod,I.ok.kind,I.ok.glob,I.ok.blt,I.ok.above,I.ok.inj,I.ok.has,I.ok.cab,I.ok.hd,I.ok.frames,I.ok.stk,I.ok.exf,I.ok.bs,I.ok.Y9,I.ok.U9,I.ok.VA,I.ok.w8,I.ok.frf⟩,I.os,I.bare,I.base,I.loc,I.cell,I.free,I.o4,λp hp=>I.pin p (iF _ hp),I.cZ,I.len⟩
theorem aQ9:Passes Y.11 (aJk X pins EH) EH:=λaKF σ H s e s' I c=>⟨σ,H,s,uY I,c⟩
end
def Sel(K:PySem.W.Frag)(C:Addr)(H:Hp)(Q:VK):((n.5)).92.41
 |[]=>False
 |(C',tc)::r=>(exmOne K (.ref C) (.ref C')=some true/\tc H Q)\/(exmOne K (.ref C) (.ref C')=some false/\Sel K C H Q r)
inductive Hs(X:Cx):(List ExceptHandler,((n.5)).92).16
 |nil:Hs X [] []
 |cons {x:Str} {C:Addr} {e:Expr} {pos np aJm:Pos} {hs:List ExceptHandler} {tab:((n.5)).92} {te:TE}:X.mg x=some (.ref C)->Gl X x->F.4->(∀ev,PE (markX X ev) e te)->Hs X hs tab->
  Hs X (.ExceptHandler (some np.551) none [.Return (some e) aJm] pos::hs) ((C,λH Q=>∀σ,te σ H Q)::tab)
section
variable{X:Cx}{pins:j.3}{σ:L2.St}{H H':Hp}{s s1:Shared}{ea:Addr}{D:Ends}{E:l.3}
theorem aGN{B:Heap}{a0 cls:Value}{h:Heap}(I:g.3)(os:s1.os=s.os)(bare:AllBare s1.gens)(un:Un i.10 [] H H' s.heap s1.heap)(cZ:(H',s1.heap).73)(ff:s1.heap.FunFrames B X.stack)
 (c1: ((s1.heap.get? b).23,(H' b).563,O.4).12) (c2: (b.70,b∉i.10,O.4.671).15) (c3: ∀b o,b.70->b.21->b∉i.10->O.4.23)
 (fl:Heap.FlyingW B X.stack ea cls a0 h) (up:s1.heap.UpToSlots h):(H',{s1 with heap:=h}).19:=
 I.aER (s':={s1 with heap:=h}) os (aBe un fl.1 ff up c2 c3) (UC cZ c1 fl.1) bare (λb z=>z.515)
theorem aBf{B:Heap}{a0:Value}{C:Addr}{hs:List ExceptHandler}{tab:((n.5)).92}(hh:Hs X hs tab)(hf:Y.14)(jM:X.stack=X.env::X.outer)(BA:P.3)
 (I:g.3) (os:s1.os=s.os) (bare:AllBare s1.gens) (un:Un i.10 [] H H' s.heap s1.heap) (cZ:(H',s1.heap).73) (ff:s1.heap.FunFrames B X.stack)
 (c1: ((s1.heap.get? b).23,(H' b).563,O.4).12) (c2: (b.70,b∉i.10,O.4.671).15) (c3: ∀b o,b.70->b.21->b∉i.10->O.4.23):
 ∀{h:Heap},Heap.FlyingW B X.stack ea (.ref C) a0 h->s1.heap.UpToSlots h->Sel X.K C H' D.rt tab->wpAny i.4 X.A (handleBy (.ref ea) X.env hs) (SP X pins D) E {s1 with heap:=h}:=by
 induction hh with
 |nil=>intro h _ _ aGO;exact aGO.elim
 | @cons x C' e pos np aJm hs tab te hm hg OA he _ ih=>
  intro h fl up aGO;have J:=aGN I os bare un cZ ff c1 c2 c3 fl up;obtain⟨ob,hob,aWg⟩:=fl.there;have hty:Looks i.4 h (typeOf (.ref ea)) (.ref C):=(aWg,(Looks.ld hob).andThen .now).15
  refine wpAny_handleBy_cons (codeAny_handlers_test (zK (YA J (.ref ea)) hg hm ?_ OA)) (by intro q;cases q);rcases aGO with⟨e1,q⟩|⟨e1,q⟩
  . refine(exm_one (M:=i.4) (K:=X.K) J.R1 hty e1).here ?_;refine codeAny_handlers_suite ?_;refine lands_againW fl λh6 fl6 up6=>?_;have J6:=aGN I os bare un cZ ff c1 c2 c3 fl6 (up.trans up6);refine fS ((aP (bU (he (.ref ea)))) pins _ σ H' D (YA J6 (.ref ea)) (q σ)) (λf s2 JG=>?_) λ_ _ z=>False.elim z
    cases f with
    |next=>obtain⟨σ',H2,I2,q2⟩:=JG;exact⟨σ',H2,vY I2 J6.ok,q2⟩
    |brk=>obtain⟨σ',H2,I2,q2⟩:=JG;exact⟨σ',H2,vY I2 J6.ok,q2⟩
    |cont=>obtain⟨σ',H2,I2,q2⟩:=JG;exact⟨σ',H2,vY I2 J6.ok,q2⟩
    |ret u=>obtain⟨v,σ',H2,I2,r,q2⟩:=JG;exact⟨v,σ',H2,vY I2 J6.ok,r,q2⟩
  . exact(exm_one (M:=i.4) (K:=X.K) J.R1 hty e1).here (ih fl up q)
def aWh(K:PySem.W.Frag)(te:XK->TE)(tab:((n.5)).92):TS:=λD σ H=>te (λcls _ H'=>∃C,cls= .ref C/\Sel K C H' D.rt tab) σ H D.rt
theorem aM9{e:Expr}{te:XK->TE}{h0:ExceptHandler}{hs:List ExceptHandler}{tab:((n.5)).92}{aJm pos:Pos}(BA:P.3)(hf:Y.14)(jM:X.stack=X.env::X.outer)
 (hb: ∀pins EH,PE (aJk X pins EH) e (te EH)) (hh:Hs X (h0::hs) tab):PS X (.Try [.Return (some e) aJm] (h0::hs) [] [] pos) (aWh X.K te tab):=by
 intro pins s σ H D I h;rw[arm_exec_Try];refine aB (JD (wpAny_tryStmt_except ?_));refine fS ((aP (bU (hb pins _))) [] s σ H D (aJl I) h) (λf s1 WZ=>?_) λev s1 hx=>?_
 . cases f with
   |next=>obtain⟨σ',H2,I2,q2⟩:=WZ;exact aH ⟨σ',H2,uY I2,q2⟩
   |brk=>obtain⟨σ',H2,I2,q2⟩:=WZ;exact⟨σ',H2,uY I2,q2⟩
   |cont=>obtain⟨σ',H2,I2,q2⟩:=WZ;exact⟨σ',H2,uY I2,q2⟩
   |ret u=>obtain⟨v,σ',H2,I2,r,q2⟩:=WZ;exact⟨v,σ',H2,uY I2,r,q2⟩
 . obtain⟨σ1,H1,s0,I0,ea,cls,H',rfl,os,bare,un,cZ,⟨B,a0,fl,c1,c2,c3⟩,C,rfl,aGO⟩:=hx;have N4:X.A.frames=some (X.env::X.outer):=(jM,I.ok.frames).15
   rw[jM] at fl;have ff:s1.heap.FunFrames B X.stack:=(jM,fl.2.2.1).3
   refine wpAny_looks_onW N4 hf fl λh4 hd4 up4=>?_;refine wpAny_landsW hd4 λh5 fl5 up5=>?_;rw[<-jM] at fl5;exact aBf hh hf jM BA I0 os bare un cZ ff c1 c2 c3 fl5 (up4.trans up5) aGO
end
end G
namespace G
open PySem PySem.Spec PyProof.Rows L2
section
variable{P:Program}{w:World}{K:PySem.W.Frag}{mg:k.3}{base:Heap}
abbrev aGP(P:Program)(w:World)(K:PySem.W.Frag)(mg:k.3)(base:Heap)(N:x.3)(qual:Str)(st:Stmt)(k:Nat)(sp:Sp):Prop:=
 ∀(f:Addr) (fJ:Value) (A:Around) (outer:j.4) (s:Shared) (H:Hp) (vs:e.3) (Q:VK) (E:XK),A.15->sp vs H Q E->
  (IB J.3 P w K mg base N qual (aV st) f fJ A outer s H E,mO st).124
theorem Fun.IX{x qual:Str}{st:Stmt}{f:Addr}{fd:FuncData}{N ps:x.3}{k:Nat}{sp:Sp}(F:Fun K x qual st f fd)(S:u.11)(len: t.10)
 (o5:aGP P w K mg base N qual st k sp):oI P w K mg base J.3 (k+1) f fd ps sp:=(o5 f fJ A outer s H vs Q E hr R7).802.818
theorem Df.IX{x:Str}{st:Stmt}{N ps:x.3}{k:Nat}{sp:Sp}(D:(x,st).9)(S:u.11)(hb:zS x x st ps)(len: t.10)
 (o5:aGP P w K mg base N x st k sp):dC P w K mg base J.3 (k+1) x ps sp:=(Fun.IX F S len o5).810
theorem Md.IX{C:Addr}{x qual:Str}{st:Stmt}{N ps:x.3}{k:Nat}{sp:Sp}(D:Md K C x qual st)(c:ZI K C)(S:u.11)(hb:zS x qual st ps)(len: t.10)
 (o5:aGP P w K mg base N qual st k sp):iX P w K mg base J.3 (k+1) C x ps sp:=(Fun.IX F S len o5).827
end
section
variable{X:Cx}{k:Nat}{C:Addr}{ps:x.3}{sp:Sp}{E:XK}{x m:Str}{p pos apos:Pos}{e o:Expr}{es:X.3}{ta:TE}{t:TA}
theorem y4{pl:Sem Bool}(he:o.98)(D:iX X.prog X.w X.K X.mg X.base Y.11 k C m ps sp)(hx:Passes Y.11 X E)(hr:cS k X.A)(ha:a.5)
 (jM:k.5:=by rfl) (kY:n.10:=by rfl)
 (ht:(e::es).694=(do
  let ov<-o.58
  F.11
  let (f,first)<-c.12
  (e::es).672):=by rfl):
 PE X (m.652,e::es).49 (PH C m sp [] E ta t):=(aBL he D.cl hm F hr hb .nil hx ha jM kY ht).689
theorem iT{pl:Sem Bool}(he:o.98)(D:iX X.prog X.w X.K X.mg X.base Y.11 k C m ps sp)(hx:Passes Y.11 X E)(hr:cS k X.A)
 (ht:([]).694=(do
  let ov<-o.58
  F.11
  let (f,first)<-c.12
  ([]).672):=by rfl):
 PE X (m.652,[]).49 (PH C m sp [] E ta ZL):=(VE he D.cl hm F hr hb .nil hx ht).689
def aNa(i:Nat)(tab:Sp.92)(E:XK)(t:TA):TE:=λσ H Q=>∃f sp,(σ,f.8).4/\(f,sp)∈tab/\t σ H λvs H1=>sp vs H1 Q E
theorem aGQ{i:Nat}{tab:Sp.92}(hT: ∀y∈tab,∃fd,oI X.prog X.w X.K X.mg X.base Y.11 k y.1 fd ps y.2/\(X.K,.ref y.1).105/\X.K.627)(hx:Passes Y.11 X E)(hr:cS k X.A)
 (hN:(X.N,x).4) (hv:x.684) (ha:a.5) (OA:F.4:=by decide) (ZC:P.14:=by decide)
 (he:k.5:=by rfl) (kY:n.10:=by rfl):
 (aNa i tab E t).667:=by intro pins s σ H Q I h;obtain⟨f,sp,hf,hm,h⟩:=h;obtain⟨fd,F,hk,hb⟩:=hT _ hm;refine iL (iA (aES hN hv OA ZC pins s σ H (λv H'=>v= .ref f/\H'=H) I (hf,rfl,rfl).10) λu s1 ⟨v,H1,I1,r,e1,e2⟩=>?_);subst e1;subst e2;cases r;refine zJ (h₀:=X.base) I1.ok.mod.kin hk (iA (ha pos pins s1 σ H1 _ I1 h) λus s2 ⟨vs,H2,I2,r,q⟩=>I2.R1.71) he kY;exact R6 F hr hb .nil hx I2 r (List.append_nil,q).3
end
end G
namespace G
open PySem PySem.Spec PyProof.Rows L2
open Sy27 (Clue)
structure SC where
 x:Addr
 dx:Addr
 sy:Addr
 ru:Addr
def y6(a:SC)(n:Nat)(kv:V):V.57:=[("signs",nV n),("syllables",.ref a.sy),("rules",.ref a.ru),("known",kv)]
def bN(b:Bool):Nat:=(b,1,0).8
def rJ(C:Addr)(H:Hp)(n size:Nat)(r:Addr)(u:M.eY):Prop:=∃sh,(r,.tup [nV (bN u.1),.ref sh]).5/\fZ C H sh n size u.2
def tJ(C:Addr)(H:Hp)(l:Addr)(n size:Nat)(rs:D.3):Prop:=(l.575/\H.704).625
theorem rJ.mono{C:Addr}{H H':Hp}{n size:Nat}{r:Addr}{u:M.eY}(s:s.3)(h:rJ C H n size r u):rJ C H' n size r u:=by obtain⟨sh,h1,h2⟩:=h;exact⟨sh,h1.42,h2.mono s⟩
theorem tJ.mono{C:Addr}{H H':Hp}{l:Addr}{n size:Nat}{rs:D.3}(s:s.3)(h:tJ C H l n size rs):tJ C H' l n size rs:=Y.13
structure lP where
 p1:Addr
 p2:Addr
structure jJ(t:lP)(H:Hp):Prop where
 t1:TabOk H t.p1 t.p2 tI qSO
 t2:TabOk H t.p2 t.p1 aCH qAR
 ne:t.p1≠t.p2
theorem jJ.same{t:lP}{H H':Hp}(s:s.3)(h:jJ t H):jJ t H':=⟨h.t1.same s,h.t2.same s,h.ne⟩
theorem jJ.put{t:lP}{H:Hp}{a:Addr}{o o0:HO}(e:o0.72)(n0: ∀φ,o0≠c.4)(h:jJ t H):jJ t o.501:=⟨h.t1.aEc e n0,h.t2.aEc e n0,h.ne⟩
theorem jJ.z1{t:lP}{H:Hp}(h:jJ t H): ∃o,(t.p2,o).5:=by obtain⟨φ,e⟩:=h.t2.there;exact⟨_,e⟩
theorem jJ.z2{t:lP}{H:Hp}(h:jJ t H): ∃o,(t.p1,o).5:=by obtain⟨φ,e⟩:=h.t1.there;exact⟨_,e⟩
theorem jJ.aRa{t:lP}{H H':Hp}(h:jJ t H)(b:t.p1.55)(h1:TabOk H' t.p1 t.p2 tI qSO):jJ t H':=⟨h1,h.t2.but b (Ne.symm h.ne),h.ne⟩
theorem jJ.aRb{t:lP}{H H':Hp}(h:jJ t H)(b:t.p2.55)(h1:TabOk H' t.p2 t.p1 aCH qAR):jJ t H':=⟨h.t1.but b h.ne,h1,h.ne⟩
abbrev Zs(t:lP)(a:SC):i.3:=[a.x,t.p1,t.p2]
structure UD(K:PySem.W.Frag)(mg:k.3)(base:Heap)(t:lP):Prop where
 b1: ∃c,Tb K mg "search_order" c t.p1
 b2: ∃c,Tb K mg "all_readings" c t.p2
 bt:Bt mg base
theorem aNb{rs:D.3}:rs.filterMap (λr:M.eY=>((r.1).7,r.2).104)=M.sJ rs:=by
 unfold M.sJ
 induction rs with
 |nil=>rfl
 |cons r rs ih=> rw[eS,dM];cases r.1<;>simp[ih]
theorem aRc{rs:D.3}:rs.filterMap (λr:M.eY=>((r.1).25,r.2).104)=M.C2 rs:=by
 unfold M.C2
 induction rs with
 |nil=>rfl
 |cons r rs ih=> rw[eS,dM];cases r.1<;>simp[ih]
theorem aBg(rs:D.3):(M.sJ rs).length+(M.C2 rs).length=rs.length:=by
 unfold M.sJ M.C2;rw[aA,aA]
 induction rs with
 |nil=>rfl
 |cons r rs ih=> rw[dM,dM];cases r.1<;>simp<;>omega
theorem HI{C:Addr}{H:Hp}{n size:Nat}: ∀{as:i.3} {rs:D.3},H.704->∃zs:M.eY.92,zs.map (·.2)=rs/\k.16
 |[],[],.nil=>([],.nil).50
 |a::as,r::rs,.cons q t=>by obtain⟨zs,e,h⟩:=HI t;obtain⟨sh,h1,h2⟩:=q;exact⟨(sh,r)::zs,(List.map_cons,e).7,.cons h2.544 h⟩
theorem F2{C:Addr}{H:Hp}{n size:Nat}(sel:Bool): ∀{as:i.3} {zs:M.eY.92},k.16->
 ∃bs:i.3,zs.filterMap (λx=>if x.2.1=sel then(x.1).74 else none)=y.10/\Paired (λx ps=>d.12) bs ((zs.map (·.2)).filterMap λr:M.eY=>if r.1=sel then some r.2 else none)
 |[],[],.nil=>([],.nil).50
 |a::as,z::zs,.cons q t=>by
  obtain⟨bs,e,h⟩:=F2 sel t;rw[eS,List.map_cons,eS];by_cases hs:z.2.1=sel
  . rw[if_pos hs,if_pos hs];exact⟨z.1::bs,by rw[e];rfl,.cons q.2 h⟩
  . rw[if_neg hs,if_neg hs];exact⟨bs,e,h⟩
section
variable{P:Program}{w:World}{K:PySem.W.Frag}{mg:k.3}{base:Heap}{A:Ad}
def aGR(A:Ad)(t:lP):Sp:=λvs H Q _=>∃(a:SC) (rl:Addr) (S:Sy27.Script) (limit:Nat) (rs:D.3) (kv:V),vs=[.ref a.x,.ref rl,nV limit]/\(a,kv).76.589/\LL m.10 a.sy S.values/\
 tJ A.Shape m.10 rl S.signs S.values.length rs/\rs.length.62/\S.signs<=8/\x.12/\0<limit/\limit.62/\jJ t H/\(S.signs=0->rs=[])/\(∀r∈rs,∀q∈r.2,q.length=S.signs)/\
 ∀H' r R,t.p1.55->jJ t H'->r.21->LT H' r R->R.length<=limit->limit.801->r.84
theorem NP:(["self","rules","limit","yes","no","wanted","shape"],["self","rules","limit"],uF).5:=o.3
theorem B5(T:n.3){t:lP}(B:p.4):iX P w K mg base kJ 20 A.Script "ways_by" ["self","rules","limit"] (aGR A t):=by
 refine T.uJ.ok T.c8.cl NP Y.4 x.4 q.3;obtain⟨a,rl,S,limit,rs,kv,rfl,hx,IM,y8,hrl,pV,hz,uQ,EY,hT,hn0,kY,k⟩:=h;obtain⟨c1,B1⟩:=B.b1;have nd:=NP.nd;have hC:=T.c8.cl;refine⟨_,(aK (lB (i:=3) (own:=[("wanted",5),("shape",6)]) rfl nd rfl rfl Y.5 (cK (pv 1)) y.3 (5,6).112 (λ_ _ _ _ _=>sD (pv 5).598) (pv 6).99)
  (aK (lB (i:=4) (own:=[("wanted",5),("shape",6)]) rfl nd rfl rfl Y.5 (cK (pv 1)) y.3 (5,6).112 (λ_ _ _ _ _=>sD (pv 5).598) (pv 6).99)
  (T3 T t.p2 B1 B.bt,hr,aD E.3 (aD s.4 (pv 3,pv 4,pv 2).7)).6.47)),?_⟩
 obtain⟨as,iI,U3⟩:=id y8;have pW:rs.length.66:=aO U3;have k8:=iI.81;have so:(Zs t a,H).48:=jI _ _;obtain⟨zs,ez,hzP⟩:=HI U3;have hzl:zs.length=rs.length:=by rw[<-ez,aA]
 obtain⟨ys,ey,hyP⟩:=F2 true hzP;obtain⟨nss,en,hnP⟩:=F2 false hzP;rw[ez,aNb] at hyP;rw[ez,aRc] at hnP;have aJn:zs.length.66:=aO hzP;have hbN:∀b:Bool,((V.int (bN b).22),1).57=b:=λb=>by cases b<;>rfl
 have aWi:∀b:Bool,((V.int (bN b).22),0).57= !b:=λb=>by cases b<;>rfl
 refine⟨_,rfl,rl,rfl,k8.59,λD3 A4=>((x.2.1).7,A4,k8).44⟩
 . rintro i x H2 H3 C C0 hi s2 ⟨rfl,hxi⟩ hC1 hC0;rw[aA,aJn] at hi;have hg:(zs,zs).28:=aF hi;generalize zs[i]=z at hg;obtain⟨ra,hra,hq,_⟩:=bO hzP hg;obtain rfl:x= .ref ra:=by rw[aE,hra] at hxi;exact hxi.31
   refine⟨ra,_,rfl,lN.of (so _ _ hq).50,rfl,_,_,rfl,_,_,rfl,rfl,rfl,_,rfl,rfl,_,rfl,?_⟩;show((V.int (bN z.2.1).22),1).57.40;rw[hbN];refine p7 N.3 N.3
   . exact(hC1 _ _ F.3 (pU hg,p.5).18).28
   . exact(F.3,hg,O.5).32
 intro H1 s1 aRe;rw[show(v.3,zs.length).6 by rw[aA,aJn],vM,ey] at aRe;refine(rl,k8.26,λD4 G9=>((x.2.1).25,G9,k8.26).44).30
 . rintro i x H2 H3 C C0 hi s2 ⟨rfl,hxi⟩ hC1 hC0;rw[aA,aJn] at hi;have hg:(zs,zs).28:=aF hi;generalize zs[i]=z at hg;obtain⟨ra,hra,hq,_⟩:=bO hzP hg;obtain rfl:x= .ref ra:=by rw[aE,hra] at hxi;exact hxi.31
   refine⟨ra,_,rfl,lN.of (so _ _ hq).26.50,rfl,_,_,rfl,_,_,rfl,rfl,rfl,_,rfl,rfl,_,rfl,?_⟩;show((V.int (bN z.2.1).22),0).57.40;rw[aWi];refine p7 N.3 N.3
   . exact(hC1 _ _ F.3 (pU hg,if_pos b.10).18).28
   . exact(F.3,hg,if_neg b.10).32
 intro H2 s2 aNe;rw[show(v.3,zs.length).6 by rw[aA,aJn],vM,en] at aNe;have CD:=f.4;obtain⟨sas,WZ,JG⟩:=(IM.mono so).mono CD;obtain⟨φ1,hP1⟩:=hT.t1.there;have hP2:=CD _ _ hP1;have sh:(Zs t a,hide t.p1 H2).48:=(NI c.3).trans (uK CD);refine⟨_,rfl,a.x,A.Script,a.dx,_,_,rfl,CD _ _ hx,hC,T.dZ,rfl,_,rfl,a.x,A.Script,a.dx,_,_,rfl,CD _ _ hx,hC,T.dU,rfl,a.sy,_,rfl,WZ.35,_,rfl,_,rfl,_,rfl,D3,D4,S.signs,S.values.length,limit,M.sJ rs,M.C2 rs,?_,⟨ys,?_,(hyP,sh).40⟩,⟨nss,?_,(hnP,sh).40⟩,(aBg,hrl).3,pV,hz,uQ,EY,hT.t1.same CD,(hT.same CD).z1,hT.ne,λh0=>?_,?_,?_,λH3 r R hb3 UX uO vV hRl hF=>?_⟩
 . rw[aA,aO JG];rfl
 . have e:=aRe.50;rw[hide_ne (e,hP2).32];exact e
 . rw[hide_ne (aNe,hP2).32];exact aNe
 . rw[hn0 h0];exact y.4
 . intro ps j8 q hq;obtain⟨r,hr',rfl⟩:=a5.mp j8;exact kY r (bW.mp hr').1 q hq
 . intro ps j8 q hq;obtain⟨r,hr',rfl⟩:=a5.mp j8;exact kY r (bW.mp hr').1 q hq
 . exact k H3 r R (λb o e ne=>hb3 _ _ (CD _ _ e) ne) ((hT.same CD).aRa hb3 UX) (CD.free uO) vV hRl hF
end
end G
namespace G
open PySem PySem.Spec PyProof.Rows L2
open Sy27 (Clue)
structure Good(S:Sy27.Script)(cs:A.3)(rs:D.3):Prop where
 n8:S.signs<=8
 z10:x.12
 syl:M.N5 S.values
 rules:M.Rules S cs rs
 ctx:M.Ctx S cs
 zN:cs.length<=24
 pos:0<S.signs->1<=S.values.length
theorem z4{S:Sy27.Script}{cs:A.3}{rs:D.3}(h:M.Rules S cs rs): ∀r∈rs,∀q∈r.2,q.length=S.signs:=by
 induction h with
 |nil=>simp
 |cons h1 _ ih=>
  intro r hr q hq;rcases List.mem_cons.mp hr with rfl|hr
  . exact h1.2.len q hq
  . exact ih r hr q hq
theorem Good.none{S:Sy27.Script}{cs:A.3}{rs:D.3}(g:Good S cs rs)(h:S.signs=0):rs=[]:=by
 cases cs with
 |nil=>cases g.rules;rfl
 |cons c cs=>exact absurd (M.LI (g.ctx.ok c u.4)) b.3
theorem Good.len{S:Sy27.Script}{cs:A.3}{rs:D.3}(g:Good S cs rs):rs.length<=24:=(g.rules.length,g.zN).15
def aJp(H:Hp)(kv:V)(S:Sy27.Script)(rs:D.3):Prop:=kv= .gL\/∃k R,kv= .ref k/\LT H k R/\R.length<=301/\(301).801
theorem aJp.mono{H H':Hp}{kv:V}{S:Sy27.Script}{rs:D.3}(s:s.3)(h:aJp H kv S rs):aJp H' kv S rs:=by
 rcases h with h|⟨k,R,e,h1,h2⟩
 . exact .inl h
 . exact .inr ⟨k,R,e,h1.mono s,h2⟩
def iR(A:Ad)(t:lP)(H:Hp)(a:SC)(S:Sy27.Script)(cs:A.3)(rs:D.3):Prop:=∃kv,Good S cs rs/\(a,kv).76.589/\jJ t H/\LL m.10 a.sy S.values/\tJ A.Shape m.10 a.ru S.signs S.values.length rs/\aJp m.10 kv S rs
def Nx(t:lP)(a:SC)(H H':Hp):Prop:=(Zs t a,H'.542).48
theorem Nx.refl(t:lP)(a:SC)(H:Hp):Nx t a H H:=F.3
theorem Nx.trans{t:lP}{a:SC}{H H1 H2:Hp}(h:Nx t a H H1)(k:Nx t a H1 H2):Nx t a H H2:=aL.trans h k
theorem Nx.NQ{t:lP}{a:SC}{H H':Hp}(s:t.p1.55):Nx t a H H':=JX c.3 s
theorem Nx.aJq{t:lP}{a:SC}{H H':Hp}(s:t.p2.55):Nx t a H H':=JX c.3 s
theorem Nx.put{t:lP}{a:SC}{H:Hp}{o:HO}:Nx t a H (upd H a.x o):=by unfold Nx;rw[EK c.3];exact F.3
theorem iR.same{A:Ad}{t:lP}{H H':Hp}{a:SC}{S:Sy27.Script}{cs:A.3}{rs:D.3}(s:s.3)(h:H.504):H'.504:=by obtain⟨kv,g,h1,h2,h3,h4,h5⟩:=h;exact⟨kv,g,h1.42,h2.same s,h3.mono (dE s),h4.mono (dE s),h5.mono (dE s)⟩
theorem iR.NQ{A:Ad}{t:lP}{H H':Hp}{a:SC}{S:Sy27.Script}{cs:A.3}{rs:D.3}(s:t.p1.55)(ht:jJ t H')(h:H.504):H'.504:=by obtain⟨kv,g,h1,h2,h3,h4,h5⟩:=h;have e:(Zs t a,H'.542).48:=Nx.NQ s;obtain⟨φ,hφ⟩:=h2.t1.there;exact⟨kv,g,s _ _ h1 (h1,hφ).32,ht,h3.mono e,h4.mono e,h5.mono e⟩
theorem nD.zs{A:Ad}{t:lP}{a:SC}{H:Hp}{fs:V.57}(h1:fs.579.589)(h2:jJ t H):nD (Zs t a) H:=λb hb=>by
 rcases H.11 with rfl|hb
 . exact(h1,U.3,U.3).10
 rcases H.11 with rfl|hb
 . obtain⟨φ,e⟩:=h2.t1.there;exact(e,U.3,U.3).10
 . rw[List.mem_singleton] at hb;subst hb;obtain⟨φ,e⟩:=h2.t2.there;exact(e,U.3,U.3).10
theorem jJ.x{A:Ad}{t:lP}{a:SC}{H:Hp}{fs:V.57}(h1:fs.579.589)(h2:jJ t H):a.x≠t.p1/\a.x≠t.p2:=by obtain⟨φ,e⟩:=h2.t1.there;obtain⟨ψ,e2⟩:=h2.t2.there;exact⟨(h1,e).32,(h1,e2).32⟩
section
variable{P:Program}{w:World}{K:PySem.W.Frag}{mg:k.3}{base:Heap}{A:Ad}
structure Xs(K:PySem.W.Frag)(mg:k.3)(A:Ad):Prop where
 one:Xd K mg "NotOne" A.oQ
 there:Xd K mg "NotThere" A.mD
 RN:Xd K mg "NoWay" A.AS
 many:Xd K mg "TooMany" A.k7
 left:Xd K mg "WayLeft" A.oW
def aGS(A:Ad):Sp:=λvs H Q _=>∃(x dx:Addr),vs=x.43/\(x,(A.Script,[]).22).5/\∀H' (a:SC),a.x=x->a.dx=dx->x.55->H' x=some (A.Script,y6 a 0 .gL).22->(H' a.sy).536->(H' a.ru).536->a.sy.21->a.ru.21->Q .gL H'
theorem y9:(w.4,w.4,AQ).5:=o.3
theorem NR(T:n.3):G4 P w K mg base kJ 1 A.Script "Script" w.4 (aGS A):=by
 refine T.c8.ok y9 E.5 (λvs H Q E h=>by obtain⟨_,_,rfl,_⟩:=h;rfl) q.3;obtain⟨x,dx,rfl,hx,k⟩:=h;have nd:=y9.nd;have hC:=T.c8.cl;refine⟨_,(aK (bC.88)
  (aK ((c7 aJ).88)
  (aK ((c7 aJ).88)
  (aP w9.88)))),?_⟩
 refine⟨_,rfl,x,A.Script,dx,_,rfl,hx,hC,T.dZ,(0).77,aW _,λsy IM=>?_⟩;have b1:eA x H (upd H x (A.Script,d8 "signs" (.int 0) []).22):=f.5;have jH:upd H x (A.Script,d8 "signs" (.int 0) []).22 x=_:=aI;generalize upd H x (A.Script,d8 "signs" (.int 0) []).22=H1 at b1 jH IM⊢;have hsx:sy≠x:=(jH,IM).60;have s2:(H1,sy).23.82:=IM.509;have e2:(upd H1 sy (.lst []) sy).536:=aI;generalize (H1,sy).23=H2 at s2 e2⊢;refine⟨_,rfl,x,A.Script,dx,_,rfl,jH.50,hC,T.dU,(1).77,aW _,λru y8=>?_⟩;have b3:eA x H2 l.16:=f.5;have CC:upd H2 x (A.Script,d8 "syllables" (.ref sy) (d8 "signs" (.int 0) [])).22 x=_:=aI;generalize l.16=H3 at b3 CC y8⊢;have hrx:ru≠x:=(CC,y8).60;have s4:aL H3 (H3,ru).23:=(H3,y8).20;have e4:(upd H3 ru (.lst []) ru).536:=aI;generalize (H3,ru).23=H4 at s4 e4⊢;refine⟨_,rfl,x,A.Script,dx,_,rfl,CC.64,hC,T.cY,(2).77,_,rfl,x,A.Script,dx,_,rfl,aI,hC,T.fP,(3).77,?_⟩;rw[oU];have b5:eA x H4 (upd H4 x (A.Script,d8 "known" .gL (d8 "rules" (.ref ru) (d8 "syllables" (.ref sy) (d8 "signs" (.int 0) [])))).22):=f.5;have b05:=(b1.then s2,b3.then s4,b5).11;refine k _ ⟨x,dx,sy,ru⟩ rfl rfl b05 aI (b5 _ _ (b3 _ _ e2 hsx).64 hsx) (b5 _ _ e4 hrx) ?_ ?_
 . cases q:H sy with
   |none=>rfl
   |some o=>rw[b1 _ _ q hsx] at IM;cases IM
 . cases q:H ru with
   |none=>rfl
   |some o=>rw[((b1.then s2).trans b3) _ _ q hrx] at y8;cases y8
theorem EN{α β:Type}{F:(α,β).16}: (i.13->∀k,Paired F (l₁.eraseIdx k) (l₂.eraseIdx k)).720
 |_,_,.nil,_=> .nil
 |_,_,.cons _ t,0=>t
 |_,_,.cons r t,k+1=> .cons r (EN t k)
def aEj(A:Ad)(t:lP):Sp:=λvs H Q _=>∃(a:SC) (k n size:Nat) (rs:D.3) (kv:V) (m:Nat),vs=[.ref a.x,nV k]/\(y6 a m kv).579.589/\jJ t H/\tJ A.Shape m.10 a.ru n size rs/\rs.length.62/\
 (tJ A.Shape H'.542 r n size (rs.eraseIdx k)).706
theorem NS:(T.11,["self","number"],uE).5:=o.3
theorem NT(T:n.3)(t:lP):iX P w K mg base kJ 1 A.Script "without" T.11 (aEj A t):=by
 refine T.uI.ok T.c8.cl NS I.3 w.16 q.3;obtain⟨a,kk,n,size,rs,kv,m,rfl,hx,hT,y8,hrl,k⟩:=h;have nd:=NS.nd;have hC:=T.c8.cl;refine(d6 KR (gY (slL K) E.3 mM (gS (pv 1))) (gY (slL K) E.3 (gS (d6 lY (pv 1) bC)) mM)).642;obtain⟨as,iI,U3⟩:=id y8;have k8:=iI.81;have pW:rs.length.66:=aO U3;refine⟨_,rfl,a.x,A.Script,a.dx,_,_,rfl,hx,hC,T.cY,rfl,_,rfl,_,rfl,a.ru,_,rfl,bP.of k8,λg1 hg1=>?_⟩;have s1:(H,g1,(v.3,none,kk.6).21).3.34:=hg1.76;have e1:(upd H g1 (.lst (v.3,none,kk.6).21) g1,(as.take kk).571).12:=by rw[aI,BS,RX]
 generalize (H,g1,(v.3,none,kk.6).21).3=H1 at s1 e1⊢;refine⟨_,rfl,a.x,A.Script,a.dx,_,_,rfl,hx.26,hC,T.cY,rfl,_,rfl,_,_,rfl,rfl,_,rfl,a.ru,_,rfl,k8.521,λg2 hg2=>?_⟩;have s2:aL H1 (H1,g2,(v.3,kk.6+1).66).3:=hg2.509;have e2:(upd H1 g2 (.lst (v.3,kk.6+1).66) g2,(as.drop (kk+1)).571).12:=by rw[aI,((kk.6+1)=(kk+1).22).36,DN,RW]
 generalize (H1,g2,(v.3,kk.6+1).66).3=H2 at s2 e2⊢;refine⟨g1,g2,_,_,rfl,rfl,e1.50,e2,by rw[aA,aA,aX,dO,bJ];omega,λr wZ=>?_⟩;have s3:(r,q.15).62:=wZ.528;have e3:(upd H2 r (.lst q.15) r,(as.eraseIdx kk).571).12:=by rw[aI,<-bH,Y7]
 generalize (H2,r,q.15).3=H3 at s3 e3⊢;have UY:=(f.4).trans s3;exact k H3 r UY ((f.4).free wZ) ((nD.zs (UY _ _ hx) (hT.same UY)).lst e3,EN (U3,dE UY).40 kk).27
def aNf(A:Ad)(t:lP):Sp:=λvs H Q E=>∃(a:SC) (S:Sy27.Script) (cs:A.3) (rs:D.3),vs=a.x.43/\H.504/\
 (D.11->m.16)/\
 A.k7.738
theorem aCI:(w.4,w.4,AR).5:=o.3
theorem vZ(T:n.3)(X:W.3){t:lP}(B:p.4):iX P w K mg base J.3 21 A.Script "ways" w.4 (aNf A t):=by
 refine T.A3.IX T.c8.cl aCI E.5 Y.12 q.3;obtain⟨a,S,cs,rs,rfl,⟨kv,g,hx,hT,IM,y8,hkn⟩,kQ,kE⟩:=h;have nd:=aCI.nd;have hC:=T.c8.cl;refine⟨_,(aK ((aKT (aKS E.3),(oZ (pv 0) (B5 T B) hr (E.3,d6 lY (eJ rfl T.x5) bC).21).88).33)
  (aK ((PB,s.4,eJ rfl T.x5).9,X.many).79
  E.3.47)),?_⟩
 refine(∃k R,σ'=[a.x.8]/\Nx t a H H'/\H' a.x=some (a,.ref k).76/\jJ t H'/\LT H'.542 k R/\R.length<=301/\(301).801).754;case tail=>
  rintro _ H1 ⟨kk,R,rfl,nx,jH,MO,vV,hRl,hF⟩;obtain⟨as,q1,q2⟩:=id vV;have pW:R.length.66:=aO q2;obtain⟨k1,k2⟩:=M.Z3 g.ctx g.rules hF;have pH:H1.504:=⟨.ref kk,g,jH,MO,IM.mono nx,y8.mono nx,.inr ⟨kk,R,rfl,vV,hRl,hF⟩⟩;refine⟨_,rfl,a.x,A.Script,a.dx,_,_,rfl,jH,hC,T.fP,rfl,kk,_,rfl,q1.81.35,_,_,rfl,rfl,_,rfl,?_⟩;rw[show(v.3,R.length).6 by rw[aA,pW]];show((300).33,R.length.6).35.40;by_cases h3:300<R.length
  . rw[W.4];exact gO (kE (k1.mp h3) H1 pH nx)
  . rw[aQ b.3];have e:=k2 h3;refine d5 ⟨_,rfl,a.x,A.Script,a.dx,_,_,rfl,jH,hC,T.fP,rfl,?_⟩;exact kQ (λz=>h3 (k1.mpr z)) H1 kk pH nx (e,vV).15 (e,λu hu=>(hF.sub u hu).1).15
 refine⟨_,rfl,a.x,A.Script,a.dx,_,_,rfl,hx,hC,T.fP,rfl,_,rfl,?_⟩;rcases hkn with rfl|⟨kk,R,rfl,vV,hRl,hF⟩
 . refine gO ?_;refine⟨_,rfl,a.x,a.dx,_,rfl,hx,rfl,_,rfl,a.x,A.Script,a.dx,_,_,rfl,hx,hC,T.cY,rfl,_,_,rfl,rfl,a,a.ru,S,301,rs,.gL,rfl,hx,IM,y8,g.len.29,g.n8,g.z10,r.3,r.3,hT,g.none,z4 g.rules,λH1 r R YZ MO uO vV hRl hF=>?_⟩;obtain⟨x1,x2⟩:=hT.x hx;have jH:=YZ _ _ hx x1;refine⟨_,rfl,a.x,A.Script,a.dx,_,rfl,jH,hC,T.fP,(4).77,hZ _ _ ⟨r,R,rfl,(Nx.NQ YZ).trans Nx.put,aI,MO.put jH U.3,?_,hRl,hF⟩⟩;exact(vV.lift (nD.zs jH MO)).mono Nx.put
 . exact d5 (hZ _ _ ⟨kk,R,rfl,Nx.refl _ _ _,hx,hT,vV,hRl,hF⟩)
def aNg(A:Ad)(t:lP):Sp:=λvs H Q E=>∃(a:SC) (S:Sy27.Script) (cs:A.3) (rs:D.3),vs=a.x.43/\H.504/\
 (D.11->cs.78≠[]->m.16)/\
 A.k7.738/\
 (cs.78=[]->A.AS.805)
theorem EO:(["self","ways"],w.4,qR).5:=o.3
theorem wA(T:n.3)(X:W.3){t:lP}(B:p.4):iX P w K mg base J.3 22 A.Script "some_ways" w.4 (aNg A t):=by
 refine T.qX.IX T.c8.cl EO E.5 Y.12 q.3;obtain⟨a,S,cs,rs,rfl,pH,kQ,kE,kN⟩:=h;have nd:=EO.nd;have hC:=T.c8.cl;refine⟨_,(aK (1,(vZ T X B).643).14
  (aK ((pv 1).87.598,X.RN).79
  (pv 1).47)),?_⟩
 obtain⟨kv,g,hx,_⟩:=id pH;refine⟨_,rfl,a.x,a.dx,_,rfl,hx,rfl,a,S,cs,rs,rfl,pH,λh3 H1 k eV nx vV hw=>?_,kE⟩;obtain⟨as,q1,q2⟩:=id vV;have pW:d.10.66:=aO q2;refine⟨_,rfl,k,_,rfl,q1.81.35,rfl,_,rfl,?_⟩;rw[show(v.3,d.10).6 by rw[aA,pW]];show d.10.22.603.40;by_cases h0:cs.78=[]
 . rw[h0];exact gO (kN h0 H1 eV nx)
 . have hp:0<(cs.78).length:=List.length_pos_iff.mpr h0;rw[aQ (λz=>by injection z with z;omega)];exact d5 (kQ h3 h0 H1 k eV nx vV hw).28
def YB(A:Ad):Sp:=λvs H Q E=>∃(a:SC) (n:Nat) (kv:V) (sg:Nat),vs=[.ref a.x,nV sg]/\(y6 a n kv).579.589/\(sg<n->Q .gL H)/\(n<=sg->E (.ref A.oQ) none H)
theorem BB:(["self","sign"],["self","sign"],pQ).5:=o.3
theorem OY(T:n.3)(X:W.3):iX P w K mg base J.3 1 A.Script "check_sign" ["self","sign"] (YB A):=by
 refine T.pS.IX T.c8.cl BB I.3 Y.12 q.3;obtain⟨a,n,kv,sg,rfl,hx,kQ,kE⟩:=h;have nd:=BB.nd;have hC:=T.c8.cl;refine(aP ((PD,pv 1,E.3).9,lM X.one rfl).33,?_).27;refine⟨_,rfl,_,rfl,a.x,A.Script,a.dx,_,_,rfl,hx,hC,T.dZ,rfl,_,_,rfl,rfl,_,rfl,?_⟩;show(n.6,sg.6).52.40;by_cases h:n<=sg
 . rw[W.4];exact gO (kE h)
 . rw[aQ b.3];exact d5 (kQ b.3)
def YC(A:Ad):Sp:=λvs H Q E=>∃(a:SC) (n:Nat) (kv:V) (tx:Addr) (t:a.3),vs=[.ref a.x,.ref tx]/\(y6 a n kv).579.589/\(tx,t).13/\t.length.62/\((Sy27.textOk n.93 t).7->(Q .gL H').651)/\(Sy27.textOk n.93 t).787
theorem BC:(["self","text"],["self","text"],pR).5:=o.3
theorem OZ(T:n.3)(X:W.3):iX P w K mg base J.3 2 A.Script "check_text" ["self","text"] (YC A):=by
 refine T.pT.IX T.c8.cl BC I.3 W.15 q.3;obtain⟨a,n,kv,tx,tt,rfl,hx,htx,htl,kQ,kE⟩:=h;have nd:=BC.nd;have hC:=T.c8.cl;refine(aP (E3 (tM (MW T,hr,(pv 1,E.3).21).6),lM X.one rfl).33,?_).27;refine⟨_,rfl,_,rfl,a.x,A.Script,a.dx,_,_,rfl,hx,hC,T.dZ,rfl,tx,tt,n,rfl,htx,htl,λH1 s1=>(?_).28⟩
 cases h:Sy27.textOk n.93 tt with
 |true=>exact d5 (kQ h H1 s1)
 |false=>exact gO (kE h H1 s1)
end
end G
namespace G
open PySem PySem.Spec PyProof.Rows L2
open Sy27 (Clue)
def UE(A:Ad)(t:lP)(H:Hp)(a:SC)(S:Sy27.Script)(rs:D.3)(kv:V):Prop:=(a,kv).76.589/\jJ t H/\LL m.10 a.sy S.values/\tJ A.Shape m.10 a.ru S.signs S.values.length rs
theorem UE.same{A:Ad}{t:lP}{H H':Hp}{a:SC}{S:Sy27.Script}{rs:D.3}{kv:V}(s:s.3)(h:H.676):H'.676:=⟨(h.1).42,h.2.1.same s,h.2.2.1.mono (dE s),h.2.2.2.mono (dE s)⟩
theorem UE.NQ{A:Ad}{t:lP}{H H':Hp}{a:SC}{S:Sy27.Script}{rs:D.3}{kv:V}(s:t.p1.55)(ht:jJ t H')(h:H.676):H'.676:=by have e:(Zs t a,H'.542).48:=Nx.NQ s;exact⟨s _ _ h.1 (h.2.1.x h.1).1,ht,h.2.2.1.mono e,h.2.2.2.mono e⟩
theorem HJ{β:Type}{F:(Addr,β).16}{as:i.3}{rs:List β}(h:(F,rs).39): ∀L:a.3,(∀k∈L,k<rs.length)->Paired F (L.map λk=>as.getD k 0) (M.pick rs L)
 |[],_=> .nil
 |k::L,hL=>by
  have hk:=hL k u.4;have e:(rs,k,rs[k]).4:=aF hk;unfold M.pick;rw[eS,e];obtain⟨a,ha,q⟩:=bO h e;have:as.getD k 0=a:=ha.24
  refine .cons (by show F (as.getD k 0) rs[k];rw[this];exact q) (HJ h L λj hj=>hL j hj.545)
theorem NU{S:Sy27.Script}{cs:A.3}{rs:D.3}(h:M.Rules S cs rs): ∀L:a.3,(∀k∈L,k<cs.length)->M.Rules S (M.pick cs L) (M.pick rs L)
 |[],_=> .nil
 |k::L,hL=>by have hk:=hL k u.4;have e:(cs,k,cs[k]).4:=aF hk;obtain⟨r,hr,hf⟩:=h.get e;unfold M.pick;rw[eS,eS,e,hr];exact .cons hf (NU h L λj hj=>hL j hj.545)
section
variable{P:Program}{w:World}{K:PySem.W.Frag}{mg:k.3}{base:Heap}{A:Ad}
theorem aGT{X:Cx}{st:Stmt}{t:TS}(h:PS X.nox st t):PS X st t:=λpins s σ H D I hw=>
 N.16
def UG(A:Ad)(t:lP):Sp:=λvs H Q _=>∃(a:SC) (k:Nat) (S:Sy27.Script) (cs:A.3) (rs:D.3) (kv:V),vs=[.ref a.x,nV k]/\H.676/\Good S cs rs/\k<rs.length/\D.11/\
 ∀H',t.p1.55->jJ t H'->Q (.bl ((r.5.78).length==d.10)) H'
theorem zA:(["self","number","rule"],["self","number"],pB).5:=o.3
theorem NV(T:n.3){t:lP}(B:p.4):iX P w K mg base kJ 21 A.Script "is_needless" T.11 (UG A t):=by
 refine T.pD.ok T.c8.cl zA I.3 x.4 q.3;obtain⟨a,kk,S,cs,rs,kv,rfl,hAt,g,hk,hm,k⟩:=h;obtain⟨hx,hT,IM,y8⟩:=id hAt;have nd:=zA.nd;have hC:=T.c8.cl;have iI:(1).27:=t.3;refine⟨_,(aK (pv 1).600.524
  (jB gM (oZ (pv 0) (B5 T B) hr (d6 KR (oZ (pv 0) (NT T t) iI (pv 1).30) (c7 (qI (d6 E5 bC (pv 2,bC).47,(pv 2,bC).47).21).30),bC).21).87 bC (cG _)).47),?_⟩
 obtain⟨as,IJ,U3⟩:=id y8;have k8:=IJ.81;have hrk:(rs,kk,rs[kk]).4:=aF hk;generalize rs[kk]=r at hrk;obtain⟨ra,hra,sh,hq1,hq2⟩:=bO U3 hrk;have hq0:=hq1.81;refine⟨_,rfl,a.x,A.Script,a.dx,_,_,rfl,hx,hC,T.cY,rfl,_,rfl,a.ru,_,_,_,rfl,rfl,bP.of k8,cC hra.537,?_⟩;refine⟨_,rfl,a.x,a.dx,_,rfl,hx,rfl,_,rfl,a.x,a.dx,_,rfl,hx,rfl,_,rfl,a,kk,S.signs,S.values.length,rs,kv,S.signs,rfl,hx,hT,y8,g.len.29,λH1 r1 s1 aRg aNh=>?_⟩;refine⟨_,rfl,ra,_,_,_,rfl,rfl,lN.of hq0.26,(0).547,_,_,rfl,rfl,_,rfl,ra,_,_,_,rfl,rfl,lN.of hq0.26,(1).547,(2).514,λtu htu=>?_⟩;have htv:(V.int (1-(bN r.1).22))=nV (bN (!r.1)):=by cases r.1<;>rfl
 have s2:(tu,c.15).25.82:=htu.509;have e2:upd H1 tu c.15 tu=some (.tup [nV (bN (!r.1)),.ref sh]):=(aI,htv).7
 dsimp only;generalize (tu,c.15).25=H2 at s2 e2⊢;refine(λl2 SH=>?_).573;have s3:(l2,tu.43).62:=SH.528;have e3:upd H2 l2 (.lst tu.43) l2=_:=aI;generalize (H2,l2,tu.43).3=H3 at s3 e3⊢;obtain⟨bs,YZ,hbP⟩:=id aNh;have EZ:=s2.trans s3;refine⟨r1,l2,_,_,rfl,rfl,EZ _ _ YZ.81,e3,?_,λl4 hl4=>?_⟩
 . have:bs.length=(rs.eraseIdx kk).length:=aO hbP;rw[aA,this,bJ];have:=g.len;have:=EU rs kk;show _+1<=_;omega
 have s4:aL H3 (H3,l4,y.10++[.ref tu]).3:=(H3,hl4).20;have e4:(upd H3 l4 (.lst (y.10++[.ref tu])) l4,(bs++[tu]).571).12:=(aI,bH).18
 generalize (H3,l4,y.10++[.ref tu]).3=H4 at s4 e4⊢;have UZ:=EZ.trans s4;have s04:=s1.trans UZ;have YD:=hAt.same s04;have lf:=nD.zs YD.1 YD.2.1;have hel:=EU rs kk;refine⟨a,l4,S,1,rs.eraseIdx kk++[(!r.1,r.2)],kv,rfl,YD.1,YD.2.2.1,⟨bs++[tu],lf.lst e4,iE (hbP,dE UZ).40 (⟨sh,lf.tup e2.54.64,hq2.mono (dE s04)⟩).555⟩,?_,g.n8,g.z10,r.3,r.3,YD.2.1,λh0=>?_,?_,λH5 rr R hb5 hT5 _ vV hRl hF=>?_⟩
 . rw[List.length_append];have:=g.len;show _+1<=_;omega
 . have:=g.none h0;rw[this] at hk;simp at hk
 . intro r' hr' q hq;rcases List.mem_append.mp hr' with h|h
   . exact z4 g.rules r' (List.mem_of_mem_eraseIdx h) q hq
   . rw[List.mem_singleton] at h;subst h;exact z4 g.rules r (List.mem_of_getElem? hrk) q hq
 . obtain⟨ws,hw1,hw2⟩:=id vV;refine⟨rr,_,rfl,hw1.35,rfl,?_⟩;rw[show(ws.map V.ref,R.length).6 by rw[aA,aO hw2]];have aNi:=M.SU g.ctx g.rules hm hrk hF;have hb:R.length.550.603=(((cs.eraseIdx kk).78).length==d.10):=by
    rw[cR,fX,<-aNi];constructor
    . intro h;injection h with h;omega
    . intro h;rw[h];rfl
   show Q (V.bl R.length.550.603) H5;rw[hb];exact k H5 (λb o e ne=>hb5 _ _ (s04 _ _ e) ne) hT5
def aBh(A:Ad)(t:lP):Sp:=λvs H Q E=>∃(a:SC) (S:Sy27.Script) (cs:A.3) (rs:D.3),vs=a.x.43/\H.504/\
 (D.11->∀H' r,H'.504->Nx t a H H'->(Sy27.needless S cs).585->r.84)/\
 A.k7.738
theorem HK:(T.11,w.4,sQ).5:=o.3
theorem YE(T:n.3)(X:W.3){t:lP}(B:p.4):iX P w K mg base J.3 22 A.Script "needless" w.4 (aBh A t):=by
 refine T.sX.IX T.c8.cl HK E.5 Y.12 q.3;obtain⟨a,S,cs,rs,rfl,pH,kQ,kE⟩:=h;have nd:=HK.nd;have hC:=T.c8.cl;have O0:(21).27:=hr;refine⟨_,(aK (dB (vZ T X B).643)
  (fM (own:=[("number",1)]) rfl nd s.4.519 y.3 (1).531 (λ_ _ _ _ _=>sD (tM (oZ (pv 0) (NV T B) O0 (pv 1).30))) (pv 1).99).47),?_⟩
 obtain⟨_,_,hx,_⟩:=id pH;refine⟨_,rfl,a.x,a.dx,_,rfl,hx,rfl,a,S,cs,rs,rfl,pH,λh3 H1 kk eV nx vV hw=>?_,kE⟩;obtain⟨kv,g,jH,MO,aEk,aBi,aRh⟩:=id eV;have aNj:H1.676:=⟨jH,MO,aEk,aBi⟩;obtain⟨as,IJ,U3⟩:=id aBi;have pW:rs.length.66:=aO U3;have hrc:rs.length=cs.length:=g.rules.length.symm;refine⟨_,rfl,a.x,A.Script,a.dx,_,_,rfl,jH,hC,T.cY,rfl,a.ru,_,rfl,IJ.81.35,?_⟩;rw[show(v.3,cs.length).6 by rw[aA,pW,hrc]];have SG:=g.zN;refine⟨cs.length.6,rfl,b.3,b.3,λD hD=>Z8 (n:=cs.length) dS (λi H'=>eA t.p1 H1 H'/\jJ t H'/\(H' D,(v.4).filter λk=>(r.5.78).length==d.10).10) ⟨eA.of hD.509,MO.same hD.509,aI⟩ (λ_ _ _ _=>trivial) ?_ ?_⟩
 . rintro i x H2 H2' hi ⟨S1,CB,nP⟩ ⟨rfl,rfl⟩;have aRi:=aNj.NQ S1 CB;refine⟨rfl,_,rfl,a.x,a.dx,_,rfl,aRi.1,rfl,_,rfl,a,i,S,cs,rs,kv,?_,aRi,g,b.3,h3,λH3 hb3 UX=>(?_).28⟩
   . show [V.ref a.x,i.522]=_;rw[dQ]
   . have hDp:D≠t.p1:=λz=>by obtain⟨φ,e⟩:=MO.t1.there;rw[z,e] at hD;cases hD
     have A4:=hb3 _ _ nP hDp;have aRj:eA t.p1 H1 H3:=S1.trans hb3;rw[dP,zC];refine p7 N.3 N.3
     . refine⟨_,rfl,_,A4,?_,?_,?_,?_⟩
       . rw[bE,aA,bJ];have:=c6 (λk=>(r.5.78).length==d.10) v.4;rw[aR] at this;omega
       . intro b o e ne;rw[bF (aY e hD)];exact aRj _ _ e ne
       . exact UX.put A4 U.3
       . rw[dM,p.5,HQ,aI,bE,bE,bH];show some (HO.lst (_++[i.522]))=some (HO.lst (_++[nV i]));rw[dQ]
     . refine(aRj,UX).17;rw[dM,O.5,HQ,List.append_nil];exact A4
 . rintro H2 ⟨S1,CB,nP⟩;exact kQ h3 H2 D (eV.NQ S1 CB) (nx.trans (Nx.NQ S1)) nP
def aJr(A:Ad)(t:lP):Sp:=λvs H Q E=>∃(a:SC) (S:Sy27.Script) (cs:A.3) (rs:D.3),vs=a.x.43/\H.504/\
 (cs.78=[]->∀H' r,H'.504->Nx t a H H'->(Sy27.clash S cs).585->r.84)/\
 A.k7.738/\
 (D.11->cs.78≠[]->A.oW.805)
theorem YF:(["self","left","number","fewer","other"],w.4,xU).5:=o.3
theorem aGU(T:n.3)(X:W.3){t:lP}(B:p.4):iX P w K mg base J.3 22 A.Script "clash" w.4 (aJr A t):=by
 refine T.x8.IX T.c8.cl YF E.5 Y.12 q.3;obtain⟨a,S,cs,rs,rfl,pH,kQ,kE,kW⟩:=h;have nd:=YF.nd;have hC:=T.c8.cl;have O0:(21).27:=hr;have aWn:(20).27:=t.3;refine⟨_,(aK ((PB,(vZ T X B).643.87,bC).9,X.left).79
  (aK (1,s.4.835).14
  (aK (aGT (fF bL rfl (s.4.519) (2,nd).100 (aK (lB (i:=3) (own:=[("other",4)]) rfl nd rfl rfl Y.5 (cK (pv 1)) y.3 (4).531 (λ_ _ _ _ _=>sD (aJM,pv 4,pv 2).9) (pv 4).99)
  (aP ((oZ (pv 0) (B5 T B) aWn (fM (own:=[("other",4)]) rfl nd (cK (pv 3)) y.3 (4).531 q.4 (pv 4).600.99,bC).21).87.598,(1,nd,pv 3).17).33))))
  (pv 1).47))),?_⟩
 obtain⟨_,_,hx,_⟩:=id pH;refine⟨_,rfl,a.x,a.dx,_,rfl,hx,rfl,a,S,cs,rs,rfl,pH,λh3 H1 kk eV nx vV hw=>?_,kE⟩;obtain⟨was,q1,q2⟩:=id vV;have hwl:was.length=d.10:=aO q2;refine⟨kk,_,rfl,q1.81.35,_,_,rfl,rfl,_,rfl,?_⟩;rw[show(was.map V.ref,d.10).6 by rw[aA,hwl]];show((0).33,cs.78.564).35.40;by_cases h0:cs.78=[];case neg=>have hp:0<(cs.78).length:=List.length_pos_iff.mpr h0;rw[W.4];exact gO (kW h3 h0 H1 eV nx)
 rw[aQ h0.89];refine d5 ?_;obtain⟨kv,g,jH,MO,aEk,aBi,aRh⟩:=id eV;have aNj:H1.676:=⟨jH,MO,aEk,aBi⟩;obtain⟨as,IJ,U3⟩:=id aBi;have pW:rs.length.66:=aO U3;have hrc:rs.length=cs.length:=g.rules.length.symm;have SG:=g.zN;have z7:(v.3,cs.length).6:=by rw[aA,pW,hrc]
 refine⟨_,rfl,a.x,A.Script,a.dx,_,_,rfl,jH,hC,T.cY,rfl,a.ru,_,rfl,IJ.81.35,cs.length,z7.85,λpr hpr=>?_⟩;have s2:(pr,F.13).25.82:=hpr.509;have e2:upd H1 pr F.13 pr=some F.13:=aI;generalize (pr,F.13).25=H2 at s2 e2⊢;refine⟨pr,cs.length,rfl,e2,b.3,λlf hlf=>?_⟩;have s3:(lf,bE B.5).62:=hlf.528;have e3:(upd H2 lf (.lst (bE B.5)) lf,B.5).10:=aI;generalize (H2,lf,bE B.5).3=H3 at s3 e3⊢;have EZ:=s2.trans s3;let TT:a.3->Bool:=λL=>((M.pick cs L).78,[]).11;refine⟨_,rfl,a.x,A.Script,a.dx,_,_,rfl,EZ _ _ jH,hC,T.cY,rfl,a.ru,_,rfl,(EZ _ _ IJ.81).35,?_⟩;rw[z7];refine⟨cs.length.6,rfl,b.3,b.3,eB dS (∃lf v2 v3 L,σ=[a.x.8,lf.8,v2,v3,none]/\eA t.p1 H1 H'/\jJ t H'/\(H' lf,L).10/\L=(v.4).foldl (M.iS TT) B.5/\(∀k∈L,k<cs.length)/\L.length<=cs.length).560
  ⟨lf,none,none,B.5,rfl,eA.of EZ,MO.same EZ,e3,rfl,λk hk=>List.mem_range.mp hk,(aR,aS _).3⟩ trivial.38 ?_ ?_⟩
 . rintro i x σ H4 H4' hi ⟨lf,v2,v3,L,rfl,TY,IV,hL4,hLe,hLm,hLl⟩ ⟨rfl,rfl⟩;have YD:=aNj.NQ TY IV;obtain⟨as4,Y0,aWq⟩:=id YD.2.2.2;have a1I:as4.length=rs.length:=aO aWq;refine⟨_,rfl,lf,rfl,hL4.59,λD5 zX=>yB (lf,bE L).26 (oF L λk=>if((k !=i)).7 then k.32 else none) zX (by rw[bE,aA,bJ];omega) (λH' s5=>bP.of hL4.60) z.11 ?_ ?_⟩
   . rintro j x H5 H6 C C0 hj s5 ⟨rfl,hxj⟩ hC1 hC0;rw[bE,aA] at hj;have hg:(L,j,L[j]).4:=aF hj;generalize L[j]=m at hg;obtain rfl:x=nV m:=by rw[bE,aE,hg] at hxj;exact hxj.31
     refine⟨rfl,_,rfl,_,rfl,rfl,_,rfl,?_⟩;have iK:(!(nV m,0+i.6).57)=(m !=i):=by rw[dQ];show(!(V.int m.6,i.6).57)= !(m==i);congr 1;rw[cR,fX,beq_iff_eq];exact⟨λh=>by injection h with h;omega,λh=>h.85⟩
     show((!(nV m,0+i.6).57)).40;rw[iK];refine p7 N.3 N.3
     . exact(hC1 _ _ F.3 (pU hg,p.5).18).28
     . exact(F.3,hg,O.5).32
   intro H5 s5 aA1;have hfl:L.filterMap (λk=>if((k !=i)).7 then k.32 else none)=bE (L.filter λk=>k !=i):=by rw[bE,<-List.filterMap_eq_map,List.filterMap_filter];rfl
   rw[show(bE L,L.length).6 by rw[bE,aA],vM,hfl] at aA1;generalize hLf:(L.filter λk=>k !=i)=L' at aA1;have aJs:∀k∈L',k<cs.length:=λk hk=>by rw[<-hLf] at hk;exact hLm k (bW.mp hk).1
   have aWs:L'.length<=cs.length:=(hLf,aG (c6 _ _) hLl).15
   have aGV:=YD.same s5;have hb5:eA t.p1 H1 H5:=TY.then s5;have aRl:=(aGV.2.2.2.choose_spec.1).81;obtain⟨as5,hr5,aRm⟩:=id aGV.2.2.2;have aWt:=hr5.81;refine⟨_,rfl,a.x,a.dx,_,rfl,aGV.1,rfl,_,rfl,D5,rfl,aA1.59,λD6 hD6=>eK (D5,bE L').26 L' (λk=>V.ref (as5.getD k 0)) (bE,aA).7 hD6 bJ.56 (λH' s6=>bP.of aA1.518) ?_ ?_⟩
   . rintro j x H6 H7 m C hm s6 ⟨rfl,hxj⟩ hC1;obtain rfl:x=nV m:=by rw[bE,aE,hm] at hxj;exact hxj.31
     have hml:=aJs m (List.mem_of_getElem? hm);have ham:(as5,m,as5.getD m 0).4:=by have:as5.length=rs.length:=aO aRm;rw[b.4];simp[(m<as5.length).36]
     exact⟨rfl,_,rfl,a.x,A.Script,a.dx,_,_,rfl,(aGV.1).518,hC,T.cY,rfl,_,rfl,a.ru,_,_,_,rfl,rfl,bP.of aWt.518,cC ham.537,hC1 _ _ F.3 rfl⟩
   intro H6 s6 aWu;have aBj:=aGV.same s6;have lf6:=nD.zs aBj.1 aBj.2.1;have aKG:Paired (rJ A.Shape H6.542 S.signs S.values.length) (L'.map λk=>as5.getD k 0) (M.pick rs L'):=HJ (aRm,dE s6).40 L' (λk hk=>(hrc,aJs k hk).3);have aYB:(M.pick rs L',24).8:=by rw[<-aO aKG,aA];omega
   refine⟨a,D6,S,1,M.pick rs L',kv,rfl,aBj.1,aBj.2.2.1,⟨L'.map λk=>as5.getD k 0,(a9,lf6.lst aWu).3,aKG⟩,b.3,g.n8,g.z10,r.3,r.3,aBj.2.1,λhz=>?_,?_,λH7 rr R hb7 hT7 _ aWw hRl hF=>?_⟩
   . rw[g.none hz];unfold M.pick;exact List.filterMap_eq_nil_iff.mpr λk _=>c.3
   . intro r hr q hq;obtain⟨k,_,hk⟩:=l8.mp hr;exact z4 g.rules r (List.mem_of_getElem? hk) q hq
   . obtain⟨ws,hw1,hw2⟩:=id aWw;refine⟨rr,_,rfl,hw1.35,rfl,_,rfl,?_⟩;rw[show(ws.map V.ref,R.length).6 by rw[aA,aO hw2]];have aNi:=M.aDp (g.ctx.sub (λc hc=>by obtain⟨k,_,hk⟩:=l8.mp hc;exact List.mem_of_getElem? hk)) (NU g.rules L' aJs) hF;have ZU:R.length.550.603=TT L':=by show _=((M.pick cs L').78,[]).11;rw[cR,fX,fX,<-aNi];exact⟨λh=>by injection h with h;omega,λh=>h.508⟩
     show R.length.550.603.40;rw[ZU];have hbx:eA t.p1 H1 H7:=λb o e ne=>hb7 _ _ (hb5 _ _ e ne).518 ne;have hpe:∀{D:Addr} {xs:e.3} {Hx:Hp},(Hx D,xs).12->jJ t Hx->D≠t.p1:=λ{D xs Hx} e ht z=>by obtain⟨φ,e'⟩:=ht.t1.there;rw[z,e'] at e;cases e
     have EG:(List.range (i+1)).foldl (M.iS TT) B.5=if(TT L').7 then L' else L:=by rw[dP,nG,<-hLe];show M.iS TT L i=_;unfold M.iS;rw[hLf]
     refine p7 N.3 N.3
     . have aRn:=aA1.518;exact⟨_,rfl,D5,_,_,L',rfl,hbx,hT7,hb7 _ _ aRn (hpe aRn aBj.2.1),(EG,p.5).7,aJs,aWs⟩
     . have hL7:=hL4.60.518;exact⟨lf,_,_,L,rfl,hbx,hT7,hb7 _ _ hL7 (hpe hL7 aBj.2.1),(EG,O.5).7,hLm,hLl⟩
 . rintro σ H4 ⟨lf,v2,v3,L,rfl,TY,IV,hL4,hLe,hLm,hLl⟩;have e:=M.WD (S:=S) (cs:=cs) (T:=TT) λL hL=>by show(decide _).7↔_;rw[fX]
   have aWx:L=(B.5).foldl (M.iS TT) B.5:=hLe;rw[<-aWx] at e;refine(kQ h0 H4 lf (eV.NQ TY IV) (nx.trans (Nx.NQ TY)) (e,hL4).15).28
end
end G
namespace G
open PySem PySem.Spec PyProof.Rows L2
open Sy27 (Clue)
theorem NW{F F':(Addr,a.3).16}: ∀{as:i.3} {ps:d.3},(F,ps).39->(∀a p,p∈ps->F a p->F' a p)->(F',ps).39
 |_,_,.nil,_=> .nil
 |_,_,.cons r t,h=> .cons (h _ _ u.4 r) (NW t λa p hp=>h a p hp.545)
theorem LL.off{C:Addr}{H:Hp}{ru:Addr}{as:i.3}{n size:Nat}{rs:D.3}(y8:ru.575)(hP:H.704){l:Addr}{ps:d.3}(h:LL H l ps)(h0:ps≠[])(h1: ∀p∈ps,p≠[]):LL ru.97 l ps:=by
 obtain⟨bs,hb,hB⟩:=h;have hl:l≠ru:=by
  rintro rfl;rw[y8] at hb;injection hb with hb;injection hb with hb
  cases hB with
  |nil=>exact h0 rfl
  |cons r t=>
   cases hP with
   |nil=>cases hb
   |cons q t'=> injection hb with e1 e2;injection e1 with e1;subst e1;obtain⟨_,q,_⟩:=q;rw[q] at r;cases r
 exact⟨bs,(hl,hb).70,NW hB λa p hp q=>(aAT y8 q (h1 p hp),q).70⟩
theorem F3{α:Type}{l:w.3}{n:Nat}(h:l.length=n)(h1:1<=n):l≠[]:=λz=>by subst z;simp at h;omega
theorem fZ.off{C D:Addr}{H:Hp}{ru:Addr}{as:i.3}{n size:Nat}{rs:D.3}(y8:ru.575)(hP:H.704){x:Addr}{n' aGW:Nat}{ps:d.3}(hn:1<=n')(hs:1<=aGW)(h:fZ D H x n' aGW ps):fZ D ru.97 x n' aGW ps:=by
 obtain⟨dx,kr,tr,h1,h2,h3⟩:=h;refine⟨dx,kr,tr,?_,h2.off y8 hP (F3 (by unfold zW;rw[aA,aR]) hn) ?_,?_⟩
 . rw[hide_ne (h1,y8).32];exact h1
 . intro p hp;obtain⟨s,_,rfl⟩:=a5.mp hp;exact F3 aR.500 hs
 . rw[hide_ne (aAT y8 h3 (F3 (by unfold mI;rw[aA,aR]) hn))];exact h3
theorem Paired.off{C:Addr}{H:Hp}{ru:Addr}{as:i.3}{n size:Nat}{rs:D.3}(y8:ru.575)(hP:H.704)(hn:1<=n)(hs:1<=size):ru.97.704:=
 Paired.fV hP λa r q=>by obtain⟨sh,q1,q2⟩:=q;exact⟨sh,((q1,y8).32,q1).70,q2.off y8 hP hn hs⟩
theorem fZ.lift{C:Addr}{A:Ad}{t:lP}{a:SC}{H:Hp}{x:Addr}{n size:Nat}{ps:d.3}{fs:V.57}(hx:fs.579.589)(hT:jJ t H)(iK:x≠a.x)(h:d.12):fZ C m.10 x n size ps:=by
 obtain⟨dx,kr,tr,h1,h2,h3⟩:=h;have lf:=nD.zs hx hT;obtain⟨φ,e1⟩:=hT.t1.there;obtain⟨ψ,e2⟩:=hT.t2.there;refine⟨dx,kr,tr,?_,h2.lift lf,lf.lst h3⟩;rw[mW ?_]
 . exact h1
 . intro hm;rcases f.10 with z|hm
   . exact iK z
   rcases f.10 with z|hm
   . exact cU h1 e1 (λz=>nomatch z) z
   . exact cU h1 e2 (λz=>nomatch z) (List.mem_singleton.mp hm)
theorem aJt{S:i.3}{H:Hp}{a:Addr}{o:HO}(h:a∉S):out S o.501=upd (out S H) a o:=by
 funext b;unfold out upd;by_cases e:b=a
 . subst e;rw[V.4,N.5,N.5]
 . rw[if_neg e,if_neg e]
theorem YG{H:Hp}{a:Addr}{o:HO}:aL a.97 o.501:=λb u e=>by obtain⟨h1,h2⟩:=EJ e;rw[bF h2];exact h1
theorem aEm{n:Nat}{syl:d.3}(h:o.13.7):Good ⟨n,syl⟩ [] []:=by
 unfold Sy27.scriptOk at h;simp only [Bool.and_eq_true,decide_eq_true_eq] at h;obtain⟨h1,h2,h3,h4,h5,h6⟩:=h;rw[List.all_eq_true] at h5;have h7:∀v∈syl,(1<=v.length/\v.length<=3)/\∀x∈v,x<26:=λv hv=>by have:=h5 v hv;unfold Sy27.letters at this;simp only [Bool.and_eq_true,decide_eq_true_eq,List.all_eq_true] at this;exact⟨⟨this.1,this.2.1⟩,this.2.2⟩
 exact⟨h2,h4,⟨(DW syl).mp h6,λv hv=>(h7 v hv).1,λv hv=>(h7 v hv).2,h4⟩,.nil,⟨λc hc=>by cases hc⟩,aW _,λ_=>h3⟩
section
variable{P:Program}{w:World}{K:PySem.W.Frag}{mg:k.3}{base:Heap}{A:Ad}
def aJu(A:Ad)(t:lP):Sp:=λvs H Q E=>∃(a:SC) (n sy:Nat) (syl:d.3) (m:Nat) (kv:V),vs=[.ref a.x,nV n,.ref sy]/\(y6 a m kv).579.589/\jJ t H/\LL H sy syl/\syl.length<=60/\(∀r∈syl,h.11)/\
 (o.13.7->∀H' ru,a.x.55->ru.21->iR A t H' (sy,ru).58 ⟨n,syl⟩ [] []->Q .gL H')/\
 o.13.787
theorem YH:(["self","signs","syllables"],["self","signs","syllables"],xT).5:=o.3
theorem aGX(T:n.3)(X:W.3)(t:lP):iX P w K mg base J.3 3 A.Script "begin" ["self","signs","syllables"] (aJu A t):=by
 refine T.x6.IX T.c8.cl YH Y.4 x.4 q.3;obtain⟨a,n,sy,syl,m,kv,rfl,hx,hT,IM,h60,aDP,kQ,kE⟩:=h;have nd:=YH.nd;have hC:=T.c8.cl;refine⟨_,(aK (E3 (tM (TF T,hr,(pv 1,pv 2).21).6),X.one).79
  (aK ((pv 1).88)
  (aK ((pv 2).88)
  (aK ((c7 aJ).88)
  (aP w9.88))))),?_⟩
 refine⟨_,rfl,_,rfl,sy,n,syl,rfl,IM,h60,aDP,λH1 s1=>(?_).28⟩
 cases h:o.13 with
 |false=>exact gO (kE h H1 s1)
 |true=>
  refine d5 ?_;have jH:=hx.26;refine⟨_,rfl,_,rfl,a.x,A.Script,a.dx,_,rfl,jH,hC,T.dZ,(4).77,_,rfl,_,rfl,a.x,A.Script,a.dx,_,rfl,aI,hC,T.dU,(4).77,?_⟩;rw[oU];have b2:eA a.x H1 Q.14:=f.5;have vC:upd H1 a.x (y6 (sy,a.ru).58 n kv).579 a.x=_:=aI;have CB:jJ t Q.14:=(hT.same s1).put jH U.3;rw[show d8 ("syllables":Str) (V.ref sy) (d8 ("signs":Str) (nV n) (y6 a m kv))=y6 (sy,a.ru).58 n kv from rfl];refine(λru y8=>?_).596;generalize Q.14=H2 at b2 vC CB y8⊢;have s3:aL H2 ru.557:=y8.528;have e3:(upd H2 ru (.lst []) ru).536:=aI;generalize ru.557=H3 at s3 e3⊢;have hrx:ru≠a.x:=(vC,y8).60;refine⟨_,rfl,a.x,A.Script,a.dx,_,rfl,vC.54,hC,T.cY,(4).77,_,rfl,a.x,A.Script,a.dx,_,rfl,aI,hC,T.fP,(4).77,?_⟩;rw[oU];have b4:eA a.x H3 T.13:=f.5;have TJ:upd H3 a.x (y6 (sy,ru).58 n .gL).579 a.x=_:=aI;have IV:jJ t T.13:=(CB.same s3).put vC.54 U.3;show Q .gL T.13;generalize T.13=H4 at b4 TJ IV⊢;have b04:eA a.x H H4:=(eA.of s1,b2.then s3,b4).11;have lf:nD (Zs t (sy,ru).58) H4:=nD.zs (a:=(sy,ru).58) TJ IV;refine kQ h H4 ru b04 ?_ ⟨.gL,aEm h,TJ,IV,(IM.but b04 hx U.3).lift lf,(lf.lst (b4 _ _ e3 hrx)).645,B.3⟩
  cases q:H ru with
  |none=>rfl
  |some o=>rw[b2 _ _ q.26 hrx] at y8;cases y8
def aNl(A:Ad)(t:lP):Sp:=λvs H Q E=>∃(a:SC) (k:Nat) (S:Sy27.Script) (cs:A.3) (rs:D.3),vs=[.ref a.x,nV k]/\H.504/\
 (k<cs.length->∀H' ru,a.x.55->ru.21->iR A t H' (a.sy,ru).58 S r.5 (rs.eraseIdx k)->Q .gL H')/\
 (¬k<cs.length->E (.ref A.mD) none H)
theorem ER:(T.11,["self","number"],qQ).5:=o.3
theorem UH(T:n.3)(X:W.3)(t:lP):iX P w K mg base J.3 2 A.Script "drop_clue" T.11 (aNl A t):=by
 refine T.qW.IX T.c8.cl ER I.3 W.15 q.3;obtain⟨a,kk,S,cs,rs,rfl,⟨kv,g,hx,hT,IM,y8,hkn⟩,kQ,kE⟩:=h;have nd:=ER.nd;have hC:=T.c8.cl;refine⟨_,(aK ((PD,pv 1,s.4).9,X.there).79
  (aK ((oZ (pv 0) (NT T t) hr (pv 1).30).88)
  (aP w9.88))),?_⟩
 obtain⟨as,iI,U3⟩:=id y8;have k8:=iI.81;have pW:cs.length.66:=(aO U3,g.rules.length).7
 refine⟨_,rfl,_,rfl,a.x,A.Script,a.dx,_,_,rfl,hx,hC,T.cY,rfl,a.ru,_,rfl,k8.35,_,_,rfl,rfl,_,rfl,?_⟩;rw[show(v.3,cs.length).6 by rw[aA,pW]];show(cs.length.6,kk.6).52.40;by_cases h:kk<cs.length;case neg=>rw[W.4];exact gO (kE h)
 rw[aQ b.3];refine d5 ?_;refine⟨_,rfl,a.x,a.dx,_,rfl,hx,rfl,_,rfl,a,kk,S.signs,S.values.length,rs,kv,S.signs,rfl,hx,hT,y8,g.len.29,λH1 r1 s1 aRg aNh=>?_⟩;have jH:=hx.26;refine⟨_,rfl,a.x,A.Script,a.dx,_,rfl,jH,hC,T.cY,(4).77,_,rfl,a.x,A.Script,a.dx,_,rfl,aI,hC,T.fP,(4).77,?_⟩;rw[oU];have b4:eA a.x H1 d.13:=f.5;have nx:Nx t a H1 d.13:=Nx.put;have TJ:upd H1 a.x ((a.sy,r1).58,.gL).76 a.x=_:=aI;have IV:jJ t d.13:=(hT.same s1).put jH U.3;show Q .gL d.13;generalize d.13=H4 at b4 nx TJ IV⊢;exact kQ h H4 r1 ((eA.of s1).trans b4) aRg ⟨.gL,⟨g.n8,g.z10,g.syl,g.rules.erase kk,g.ctx.sub λc hc=>List.mem_of_mem_eraseIdx hc,aG (EU _ _) g.zN,g.pos⟩,TJ,IV,IM.mono ((dE s1).trans nx),aNh.mono nx,B.3⟩
abbrev Ys(t:lP)(a:SC):i.3:=[a.x,a.ru,t.p1,t.p2]
def aRo(A:Ad)(t:lP):Sp:=λvs H Q E=>∃(a:SC) (c:Addr) (cl:Clue) (S:Sy27.Script) (cs:A.3) (rs:D.3),vs=[.ref a.x,.ref c]/\H.504/\MV A.Clue H c cl/\M.oO cl/\
 (cl.608.7->cs.length<24->∀H' r,(Ys t a,H').48->iR A t H' a S (cs++[cl]) (rs++[r])->Q (nV cs.length) H')/\
 cl.608.787/\
 (cl.608.7->¬cs.length<24->(E (.ref A.k7) none H').651)
theorem HL:(["self","clue"],["self","clue"],sP).5:=o.3
theorem YI(T:n.3)(X:W.3)(t:lP):iX P w K mg base J.3 9 A.Script "add_clue" ["self","clue"] (aRo A t):=by
 refine T.sW.IX T.c8.cl HL I.3 x.4 q.3;obtain⟨a,c,cl,S,cs,rs,rfl,pH,z7,BO,kQ,kE,kM⟩:=h;have nd:=HL.nd;have hC:=T.c8.cl;have tG:(2).27:=t.3;refine⟨_,(aK (E3 (tM (aAC T,tG,(pv 1,E.3,s.4).7).6),X.one).79
  (aK ((PD,s.4,eJ rfl T.DK).9,X.many).79
  (aK ((E.3,qI (fld K (pv 1),(XW T,hr,(pv 1,E.3,E.3).7).6).21).63)
  (aK (w9.88)
  (d6 E5 s.4 bC).47)))),?_⟩
 obtain⟨kv,g,hx,hT,IM,y8,hkn⟩:=id pH;obtain⟨sas,WZ,JG⟩:=id IM;refine⟨_,rfl,_,rfl,a.x,A.Script,a.dx,_,_,rfl,hx,hC,T.dZ,rfl,_,rfl,a.x,A.Script,a.dx,_,_,rfl,hx,hC,T.dU,rfl,a.sy,_,rfl,WZ.81.35,c,cl,S,?_,z7,BO,λH1 s1=>(?_).28⟩
 . rw[aA,aO JG];rfl
 cases h:cl.608 with
 |false=>exact gO (kE h H1 s1)
 |true=>
  refine d5 ?_;obtain⟨kv1,g1,jH,MO,aEk,aBi,aRh⟩:=pH.same s1;obtain⟨as,iI,U3⟩:=id aBi;have k8:=iI.81;have pW:cs.length.66:=(aO U3,g.rules.length).7
  refine⟨_,rfl,a.x,A.Script,a.dx,_,_,rfl,jH,hC,T.cY,rfl,a.ru,_,rfl,k8.35,_,_,rfl,rfl,_,rfl,?_⟩;rw[show(v.3,cs.length).6 by rw[aA,pW]];show((24).33,cs.length.6).52.40;by_cases h24:cs.length<24;case neg=>rw[W.4];exact gO (kM h h24 H1 s1)
  rw[aQ b.3];refine d5 ?_;obtain⟨dc,tx,pa,wU,GB,hc3⟩:=id z7;have aWy:MV A.Clue H1 c cl:=⟨dc,tx,pa,wU.26,GB.26,hc3.mono s1⟩;have aNm:0<S.signs:=M.LI h;have XO:=g.pos aNm;refine⟨_,rfl,a.x,A.Script,a.dx,_,_,rfl,jH,hC,T.cY,rfl,k8.502,_,rfl,c,A.Clue,dc,_,_,rfl,wU.26,T.FK.cl,T.tS,rfl,_,rfl,_,rfl,a.x,A.Script,a.dx,_,_,rfl,jH,hC,T.dZ,rfl,_,rfl,a.x,A.Script,a.dx,_,_,rfl,jH,hC,T.dU,rfl,c,a.sy,cl,S.signs,S.values,rfl,aWy,aEk.mono (jI _ _),g.syl,g.n8,h,λH2 sh ps s2 aWz aNn aRq=>⟨(2).514,λtu htu=>?_⟩⟩;have s3:aL H2 (upd H2 tu R.14):=htu.528;have e3:upd H2 tu R.14 tu=some (.tup [nV (bN (M.wanted cl)),.ref sh]):=aI;dsimp only;generalize upd H2 tu R.14=H3 at s3 e3⊢;have EZ:=s2.trans s3;have wZ:=EZ _ _ k8;refine(a.ru,wZ,by rw[aA,pW,bJ];omega).33;have CC:=EZ _ _ jH;have UX:=MO.same EZ;have lf3:=nD.zs CC UX;have hnZ:a.ru∉Zs t a:=(cW iI).2;have hG:=dE (S:=Zs t a) EZ;have hP3:(rJ A.Shape H3.542 S.signs S.values.length,rs).39:=(U3,hG).40;have aNo:=hG _ _ iI;have hPo:=Paired.off aNo hP3 aNm XO;have aWA:fZ A.Shape H3.542 sh S.signs S.values.length ps:=(aNn.mono s3).lift CC UX (jH,aWz).60;have aWB:=aWA.off aNo hP3 aNm XO;have hLo:=(aEk.mono hG).off aNo hP3 (List.length_pos_iff.mp XO) λp hp=>List.length_pos_iff.mp (g.syl.len p hp).1;have eu:M.12.542=(H3.542,a.ru,v.3++[.ref tu]).3:=aJt hnZ;have sU:aL (hide a.ru H3.542) M.12.542:=(eu,YG).3
  have e4:(out (Zs t a) M.12 a.ru,(as++[tu]).571).12:=(eu,aI,bH).13
  have b4:eA a.ru H3 M.12:=f.5;have IV:jJ t M.12:=UX.put wZ U.3;have htr:tu≠a.ru:=(e3,wZ).32;have TJ:=b4 _ _ CC (CC,wZ).32;generalize M.12=H4 at sU e4 b4 IV TJ⊢;refine⟨_,rfl,a.x,A.Script,a.dx,_,rfl,TJ,hC,T.fP,(4).77,?_⟩;have b5:eA a.x H4 d.14:=f.5;have nx:Nx t a H4 d.14:=Nx.put;have hx5:upd H4 a.x (a,.gL).76 a.x=some (a,.gL).76:=aI;have hT5:jJ t d.14:=IV.put TJ U.3;rw[show d8 ("known":Str) V.gL (y6 a S.signs kv1)=y6 a S.signs .gL from rfl];generalize d.14=H5 at b5 nx hx5 hT5⊢;have aRl:=(nx _ _ e4).81;refine⟨_,rfl,a.x,A.Script,a.dx,_,_,rfl,hx5,hC,T.cY,rfl,a.ru,_,rfl,aRl.35,_,_,rfl,rfl,?_⟩;rw[show((as++[tu]).571,cs.length+1).6 by rw[aA,List.length_append,pW];rfl];show Q (V.int ((cs.length+1).22-1)) H5;rw[((cs.length+1).22-1=cs.length.6).36];have sU5:=sU.trans nx;refine kQ h h24 H5 (M.wanted cl,ps) D.10 ⟨.gL,⟨g.n8,g.z10,g.syl,g.rules.app aRq.73.555,⟨λc' CA=>?_⟩,h24.768,g.pos⟩,hx5,hT5,hLo.mono sU5,⟨as++[tu],nx _ _ e4,iE (hPo,sU5).40 (⟨sh,sU5 _ _ ?_,aWB.mono sU5⟩).555⟩,B.3⟩
  . obtain⟨e1,e2⟩:=cW e;refine b5 _ _ (b4 _ _ (EZ _ _ e1.26) λz=>e2 z.89) λz=>e2 z.89
  . rcases List.mem_append.mp CA with CA|CA
    . exact g.ctx.ok c' CA
    . rw[List.mem_singleton] at CA;subst CA;exact h
  . rw[hide_ne htr];exact lf3.tup e3
end
end G
namespace G
open PySem PySem.Spec PyProof.Rows L2
open Sy27 (Clue)
theorem listOf{X:Cx}(K:PySem.W.Frag)(hK:X.K=K:=by rfl):j6 X C.10 (bP K H p ys,lN K H p ys,∀l,l.21->(l,(H,l,ys).3).42).41:=hK▸SF
theorem aNp{H:Hp}{a b C D dx dy:Addr}{fs gs:V.57}{x:Str}{v:V}(ha:fs.91.72)(hb:(.ins D dy gs).45)(h1:fs.lookup x=some v)(h2:(gs.lookup x).9):a≠b:=by rintro rfl;rw[ha] at hb;injection hb with hb;injection hb with _ _ e;rw[e,h2] at h1;cases h1
theorem RO{l:Addr}{p:Nat}:((rdF l p).lookup ("signs":Str)).9/\((rdF l p).lookup ("whole":Str)).9:=y.4
theorem TabOk.aRr{H H':Hp}{p z y C d:Addr}{pos:Pos}{q:Str}{fs:V.57}(hy:(y,.ins C d fs).5)(s:y.55)(h:H.578):H'.578:=by
 have k:∀{b φ},(c.4,c.4).82:=λ{b φ} e=>s _ _ e (e,hy).32;rcases h with h|⟨c,nc,h1,h2⟩
 . exact .inl (k h)
 . exact .inr ⟨c,nc,k h1,k h2⟩
section
variable{A:Ad}{t:lP}{H H':Hp}{a:SC}{S:Sy27.Script}{cs:A.3}{rs:D.3}
theorem iR.aWC{R rd dr l:Addr}{p:Nat}(hrd:(rd,.ins R dr (rdF l p)).5)(b:rd.55)(h:H.504):H'.504:=by
 obtain⟨kv,g,hx,hT,IM,⟨as,iI,U3⟩,hkn⟩:=h;obtain⟨φ,e1⟩:=hT.t1.there;obtain⟨ψ,e2⟩:=hT.t2.there;have hxr:a.x≠rd:=aNp (x:="signs") hx hrd rfl RO.1;have ne1:t.p1≠rd:=(e1,hrd).32;have ne2:t.p2≠rd:=(e2,hrd).32;have keep:∀{c o},(out (Zs t a) H c).23->(∀C d fs,o= .ins C d fs->∃v,fs.lookup ("whole":Str)=some v)->(out (Zs t a) H' c).23:=λ{c o} e n=>by obtain⟨e3,e4⟩:=cW e;rw[mW e4];refine b _ _ e3 ?_;rintro rfl;rw[hrd] at e3;obtain⟨v,hv⟩:=n _ _ _ e3.31;rw[RO.2] at hv;cases hv
 have kL:∀{c xs},(out (Zs t a) H c,xs).12->(out (Zs t a) H' c,xs).12:=λe=>keep e (λ_ _ _ z=>nomatch z);have kT:∀{c xs},out (Zs t a) H c=some a.4->out (Zs t a) H' c=some a.4:=λe=>keep e (λ_ _ _ z=>nomatch z);have kLL:∀{c ps},LL m.10 c ps->LL H'.542 c ps:=λ⟨as,q1,q2⟩=>⟨as,kL q1,(q2,kL q).38⟩;refine⟨kv,g,b _ _ hx hxr,⟨hT.t1.aRr hrd b,hT.t2.aRr hrd b,hT.ne⟩,kLL IM,⟨as,kL iI,Paired.fV U3 λ_ _ ⟨sh,q1,dx,kr,tr,q2,q3,q4⟩=>⟨sh,kT q1,dx,kr,tr,keep q2 (λ_ _ _ z=>by injection z with _ _ z;exact(z,zV _ _ _).15.20),kLL q3,kL q4⟩⟩,?_⟩;rcases hkn with h|⟨k,R,e,⟨ws,q1,q2⟩,q3⟩
 . exact .inl h
 . exact .inr ⟨k,R,e,⟨ws,kL q1,(q2,kT q).38⟩,q3⟩
theorem iR.rd{R rd l:Addr}{rest:f.3}(hrd:RD R H rd l rest)(b:rd.55)(h:H.504):H'.504:=by obtain⟨dr,all,p,e,_⟩:=hrd;exact h.aWC e b
theorem iR.at_(h:H.504): ∃kv,(a,kv).76.589:=by obtain⟨kv,_,h,_⟩:=h;exact⟨kv,h⟩
def i9(t:lP)(a:SC)(rd:Addr)(H H':Hp):Prop:=(o.45,b∉rd::Ys t a,H' b).12
theorem i9.trans{rd:Addr}{H2:Hp}(h:Q.10)(k:i9 t a rd H' H2):i9 t a rd H H2:=λb o e n=>k b o (h b o e n) n
theorem i9.same{rd:Addr}(s:s.3):Q.10:=λb o e _=>s b o e
theorem i9.rd{rd:Addr}(s:rd.55):Q.10:=λb o e n=>s b o e λz=>n (z,u.4).3
theorem i9.bx{rd:Addr}(s:a.x.55):Q.10:=λb o e n=>s b o e λz=>n z.89
theorem i9.nx{rd:Addr}(s:Nx t a H H'):Q.10:=λb o e n=>by have:b∉Zs t a:=λz=>n (by simp at z⊢;rcases z with z|z|z<;>simp[z]);exact(s b o (mW this,e).3).81
theorem i9.ys{rd:Addr}(s:(Ys t a,H').48):Q.10:=λb o e n=>s b o (mW λz=>n z.545,e).3
def Fr(t:lP)(a a':SC)(rd:Addr)(H H':Hp):Prop:=a'.x=a.x/\a'.dx=a.dx/\Q.10/\(a'.ru=a.ru\/a'.ru.21)
theorem Fr.of{rd:Addr}(h:Q.10):Fr t a a rd H H':=⟨rfl,rfl,h,B.3⟩
end
def idx:Sy27.Call->Nat
 | .begins _ _=>0| .clue _=>1| .drop _=>2| .ways=>3| .way _=>4| .certain=>5| .possible _=>6| .readings _=>7| .settle=>8| .ask=>9| .needless=>10| .clash=>11
def args(x:Sy27.Call):f.3:=(H.3).tail
def ES(A:Ad):Int.92:=[(A.oQ,-1),(A.mD,-2),(A.AS,-3),(A.k7,-5),(A.oW,-6)]
def nW(A:Ad)(t:lP)(i:Nat):Sp:=λvs H Q E=>∃(a:SC) (rd l:Addr) (s:Sy27.St) (rs:D.3) (x:Sy27.Call),vs=[.ref a.x,.ref rd]/\idx x=i/\iR A t H a s.script s.clues rs/\RD A.Reader H rd l (args x)/\M.oP x/\
 (∀H' a' rs' r,Fr t a a' rd H H'->iR A t H' a' (R.10).1.script (R.10).1.clues rs'->(H' r,R.10.683.95).12->r.84)/\
 (∀H' C v,(C,v)∈ES A->R.10=(s,Sy27.ok v)->Q.10->iR A t H' a s.script s.clues rs->E (.ref C) none H')
section
variable{P:Program}{w:World}{K:PySem.W.Frag}{mg:k.3}{base:Heap}{A:Ad}
def aGZ:Sp:=λvs H Q _=>∃(n:Int) (b:Addr) (ys:a.3),vs=[.int n,z.3]/\((b,ys).13\/ys.48.45)/\ys.length<=100000/\
 (H' r,(n::ys.length.6::M.uB ys).95).12.739
theorem RP:(["number","row"],["number","row"],WI).5:=o.3
theorem nE(T:n.3):dC P w K mg base kJ 1 "listed" ["number","row"] aGZ:=by
 refine T.WM.ok RP I.3 (λvs H Q E h=>by obtain⟨_,_,_,rfl,_⟩:=h;rfl) q.3;obtain⟨n,b,ys,rfl,hb,hl,k⟩:=h;have nd:=RP.nd;refine(d6 KR (c7 (pv 0,(pv 1).87).21) (eT (listOf K) (by rfl) T.FL mB (pv 1).30)).642;have hS:(bP K H' b (bE ys)\/lN K H' b (bE ys)).651:=λH' s=>hb.imp (λe=>bP.of e.42) λe=>lN.of e.42;refine⟨_,rfl,_,rfl,b,_,rfl,hS H (aL.refl H),(2).514,λl1 EY=>?_⟩;rw[show(bE ys,ys.length).6 by rw[bE,aA]];dsimp only;have s1:(H,l1,M.13).3.34:=EY.76;have e1:upd H l1 (.lst M.13) l1=_:=aI;generalize (H,l1,M.13).3=H1 at s1 e1⊢;refine⟨_,rfl,b,_,rfl,hS H1 s1,λl2 SH=>?_⟩;have s2:aL H1 (H1,l2,bE ys).3:=SH.509;have e2:upd H1 l2 (.lst (bE ys)) l2=_:=aI;generalize (H1,l2,bE ys).3=H2 at s2 e2⊢;refine⟨l1,l2,_,_,rfl,rfl,e1.50,e2,?_,λr wZ=>?_⟩
 . rw[bE,aA,bJ];show 2+_<=_;omega
 have s3:(r,M.13++bE ys).62:=wZ.528;refine k _ r ((f.4).trans s3) ((f.4).free wZ) ?_;rw[aI,List.map_cons,List.map_cons,MS];rfl
theorem RQ:("signs",WJ).126:=o.3
theorem aBk(T:n.3)(X:W.3)(t:lP):dC P w K mg base J.3 23 "begins" G.4 (nW A t 0):=by
 refine T.WN.IX RQ I.3 x.4 q.3;obtain⟨a,rd,l,st,rs,x,rfl,hi,pH,pL,BO,kQ,kE⟩:=h
 cases x with
 |begins n syl=>
  have nd:=RQ.nd;have iI:(1).27:=t.3;have wZ:(3).27:=t.3;refine⟨_,(aK (eU (pv 1) (dD T) iI).524
  (aK (dB (y4 (pv 0) (aGX T X t) lL wZ (pv 2,eU (pv 1) (DV T) wZ).21))
  (c7 bC.30).47)),?_⟩
  obtain⟨dr,_,_,er,_⟩:=id pL;refine⟨_,rfl,rd,dr,_,rfl,er,rfl,rd,l,n.6,M.p8 syl++[],rfl,(List.append_nil,pL).3,λH1 UI b1=>?_⟩;have eV:=pH.rd pL b1;obtain⟨kv,jH⟩:=eV.at_;obtain⟨dr1,_,_,er1,_⟩:=id UI;refine⟨_,rfl,a.x,a.dx,_,rfl,jH,rfl,_,rfl,_,rfl,rd,dr1,_,rfl,er1,rfl,rd,l,syl,[],rfl,UI,BO.2.1,λH2 sy aEn b2 aWD hLL=>?_⟩;have rZ:=eV.rd UI b2;obtain⟨kv2,hg,vC,CB,_⟩:=id rZ;refine⟨a,n,sy,syl,_,_,rfl,vC,CB,hLL,BO.2.1,BO.2.2,λcZ H3 ru b3 IF YJ=>?_,λz6 H3 s3=>?_⟩
  . refine(λr uO=>?_).573;have s4:aL H3 (H3,r,[.int 0]).3:=(H3,uO).20;have jM:(.begins n syl).83=((⟨n,syl⟩).93,Sy27.ok 0):=cZ.783
    rw[jM] at kQ;refine kQ _ (sy,ru).58 [] r ⟨rfl,rfl,((i9.rd b1,i9.rd b2,i9.bx b3).11).trans (i9.same s4),.inr ?_⟩ (YJ.same s4) aI
    cases q:H ru with
    |none=>rfl
    |some o=>
     have iK:ru≠rd:=by rintro rfl;obtain⟨_,_,_,er2,_⟩:=id aEn;rw[IF] at er2;cases er2
     rw[b2 _ _ (b1 _ _ q iK) iK] at IF;cases IF
  . have jM:(.begins n syl).83=(st,(1).561):=z6.783
    exact kE H3 _ _ w.10 jM (i9.rd b1,i9.rd b2,i9.same s3).11 (rZ.same s3)
 |_=>cases hi
theorem aCJ:(G.4,aFt).99:=o.3
theorem aG0(T:n.3)(X:W.3)(t:lP):dC P w K mg base J.3 23 "clue" G.4 (nW A t 1):=by
 refine T.aFw.IX aCJ I.3 x.4 q.3;obtain⟨a,rd,l,st,rs,x,rfl,hi,pH,pL,BO,kQ,kE⟩:=h
 cases x with
 |clue c=>
  have nd:=aCJ.nd;have Y0:(4).27:=t.3;have hr9:(9).27:=t.3;refine(c7 (y4 (pv 0) (YI T X t) lL hr9 (TH T,Y0,(pv 1).30).6.30).30).642;obtain⟨kv,hx⟩:=pH.at_;refine⟨_,rfl,a.x,a.dx,_,rfl,hx,rfl,_,rfl,rd,l,c,rfl,pL,BO,λH1 ca UI b1 z7=>?_⟩;have eV:=pH.rd pL b1;refine⟨a,ca,c,st.script,st.clues,rs,rfl,eV,z7,BO,λcZ h24 H2 r s2 rZ=>?_,λz6 H2 s2=>?_,λcZ h24 H2 s2=>?_⟩
  . refine(λr uO=>?_).573;have s4:(r,[nV st.clues.length]).62:=uO.528;have jM:(.clue c).83=(⟨st.script,st.clues++[c]⟩,Sy27.ok (st.clues.length:Nat)):=by unfold Sy27.step;dsimp only;rw[cZ,if_neg r.3,if_neg (by unfold Sy27.CLUES;omega)]
    rw[jM] at kQ;exact kQ _ a _ r (Fr.of (i9.rd b1,i9.ys s2,i9.same s4).11) (rZ.same s4) aI
  . have jM:(.clue c).83=(st,(1).561):=z6.783
    exact(g.10,eV.same s2).129
  . have jM:(.clue c).83=(st,(5).561):=by unfold Sy27.step;dsimp only;rw[cZ,if_neg r.3,if_pos (by unfold Sy27.CLUES;omega)]
    exact(g.10,eV.same s2).129
 |_=>cases hi
theorem aCK:(G.4,aFu).99:=o.3
theorem aG1(T:n.3)(X:W.3)(t:lP):dC P w K mg base J.3 23 "drop" G.4 (nW A t 2):=by
 refine T.aFx.IX aCK I.3 x.4 q.3;obtain⟨a,rd,l,st,rs,x,rfl,hi,pH,pL,BO,kQ,kE⟩:=h
 cases x with
 |drop kk=>
  have nd:=aCK.nd;have iI:(1).27:=t.3;have tG:(2).27:=t.3;refine⟨_,(aK (dB (y4 (pv 0) (UH T X t) lL tG (eU (pv 1) (dD T) iI).30))
  (c7 bC.30).47),?_⟩
  obtain⟨kv,hx⟩:=pH.at_;obtain⟨dr,_,_,er,_⟩:=id pL;refine⟨_,rfl,a.x,a.dx,_,rfl,hx,rfl,_,rfl,rd,dr,_,rfl,er,rfl,rd,l,kk.6,[],rfl,pL,λH1 UI b1=>?_⟩;have eV:=pH.rd pL b1;refine⟨a,kk,st.script,st.clues,rs,rfl,eV,λhk H2 ru b2 IF rZ=>?_,λhk=>?_⟩
  . refine(λr uO=>?_).573;have s4:(r,[.int 0]).62:=uO.528;have jM:(.drop kk).83=(⟨st.script,st.clues.eraseIdx kk⟩,Sy27.ok 0):=by unfold Sy27.step;dsimp only;rw[if_neg b.3]
    rw[jM] at kQ;refine kQ _ (a.sy,ru).58 _ r ⟨rfl,rfl,(i9.rd b1,i9.bx b2,i9.same s4).11,.inr ?_⟩ (rZ.same s4) aI
    cases q:H ru with
    |none=>rfl
    |some o=>
     have iK:ru≠rd:=by rintro rfl;obtain⟨_,_,_,er2,_⟩:=id UI;rw[IF] at er2;cases er2
     rw[b1 _ _ q iK] at IF;cases IF
  . have jM:(.drop kk).83=(st,(2).561):=by unfold Sy27.step;dsimp only;rw[if_pos b.3]
    exact kE H1 _ _ w.10 jM (i9.rd b1) eV
 |_=>cases hi
end
end G
namespace G
open PySem PySem.Spec PyProof.Rows L2 PySem.AutoSeq1
theorem aJw(l b:Addr)(xs ys:R.3)(n m:Nat)(sl:a.10)(h0: ¬((!xs.isEmpty&&Builtin.List.listTooLong (xs.size+ys.size))).7)(h1:xs.size.37)(h2:xs.size+ys.size<=sizeLine+1):
 Meets (Builtin.«list.extend» ([.ref l,z.3]).93) (λ_ R s=>(l,(C.10,.seq xs n).141).43/\(b,{cls:=c.5,dict:=none,data:= .seq ys m,slots:=sl}).43/\
  R (.ok (.ret Value.none)) {s with heap:=s.heap.update l (Obj.mapSeq λx=>x++ys),toks:=s.toks}):=
 .of_wp λprog w A R s h=>by
  obtain⟨hp,g,d,tk,os⟩:=s;obtain⟨hl,hb,h⟩:=h;have f1:=AutoSeq1.sub_list_list;have f2:=AutoSeq1.sub_list_tuple;have f3:=AutoSeq1.sub_tuple_tuple;have f4:=AutoSeq1.sub_tuple_list;have hz:(xs++ys).size<=sizeLine+1:=(Array.size_append,h2).3
  wp_walk using (rW hl rfl (hz:=h1) (_hz':=hz)),rT hl,rT hb;exact h.28
def aG2:i.5:=λx vs H Q=>∃l b xs zs,x= .ref l/\vs=b.43/\((.tup zs).45,Q .gL (H,l,xs++zs).3).138
theorem aBl{X:Cx}:MtM X "list.extend" aG2:=by
 intro pins s σ H x vs v us Q I rx rv h;obtain⟨l,b,xs,zs,rfl,rfl,hH,hB,hz,q⟩:=h;cases rx;obtain⟨u,rfl,ru⟩:=rv.one;cases ru;obtain⟨z,bY,n,r,hl,e⟩:=I.ZQ hH;obtain⟨z2,tO,r2,⟨o,e2,hc,m,hd⟩,o',e3,hdn⟩:=I.cZ b _ hB;rw[e2] at e3;cases e3;have SH:zs.length=tO.length:=r2.length;have e4:(b,{cls:=c.5,dict:=none,data:= .seq tO.toArray m,slots:=o.slots}).43:=by rw[e2,<-hc,<-hd,<-hdn]
 have hsz:(bY.toArray.size+tO.toArray.size).37:=List.size_toArray.712
 have VL:¬((!bY.toArray.isEmpty&&x.16)).7:=(KQ hsz,Bool.and_false,a8).18
 refine r8 hJ e.63 F.entry_list_extend (F.args_list_extend_2 _ _) (aJw l b bY.toArray tO.toArray n m o.slots VL K.14 b.3) (e,e4).17;exact(bY++tO,r.append r2,L.14).43
end G
namespace G
open PySem PySem.Spec PyProof.Rows L2
open Sy27 (Clue)
theorem tK(v:Int)(r:a.3):Sy27Neutral.out ⟨v,[r]⟩=v::r.length.6::M.uB r:=by show v::((r.length.6::M.uB r)++[])=_;rw[List.append_nil]
theorem aBm{S:Sy27.Script}{cs:A.3}(h:M.Ctx S cs):(cs.78).Nodup:=(h.ways,M.qJ ((M.qK S cs).sublist (BF _ _))).3
theorem aEo{S:Sy27.Script}{cs:A.3}(h:M.Ctx S cs)(h0:S.signs=0):(cs.78,1).8:=by rw[h.ways,aX];refine aG (Nat.min_le_right _ _) ?_;unfold M.fit;rw[h0];refine aG (c6 _ _) ?_;simp[M.exts]
theorem aG3{n size:Nat}{u:a.3}(h:M.gA n size u){s:Nat}(hs:s<n):u.getD s 0<size:=by
 have hl:s<u.length:=(h.1,hs).3
 rw[List.getD_eq_getElem?_getD,aF hl];exact h.2.1 _ (eR hl)
theorem RR(T:a.3->Bool): ∀(l L:a.3) (n:Nat),L.length<=n->(l.foldl (M.iS T) L,n).8
 |[],L,n,h=>h
 |k::l,L,n,h=>by
  rw[List.foldl_cons];refine RR T l _ n ?_;unfold M.iS;split
  . exact aG (c6 _ _) h
  . exact h
theorem tW{s:Sy27.St}{f:l.13}(h: ¬300<(r.11).length):Sy27.onWays s f=f r.11:=by unfold Sy27.onWays Sy27.MANY;exact V.4
theorem wB{s:Sy27.St}{f:l.13}(h:300<(r.11).length):Sy27.onWays s f=(5).561:=by unfold Sy27.onWays Sy27.MANY;exact if_pos h
section
variable{P:Program}{w:World}{K:PySem.W.Frag}{mg:k.3}{base:Heap}{A:Ad}
theorem RS:("found",aFv).126:=o.3
theorem aG4(T:n.3)(X:W.3){t:lP}(B:p.4):dC P w K mg base J.3 23 "ways" G.4 (nW A t 3):=by
 refine T.aFy.IX RS I.3 x.4 q.3;obtain⟨a,rd,l,st,rs,x,rfl,hi,pH,pL,BO,kQ,kE⟩:=h
 cases x with
 |ways=>
  have nd:=RS.nd;have iI:(1).27:=t.3;have O0:(21).27:=t.3;refine⟨_,(aK V.13.524
  (aK (((pv 2).87.598,bU (c7 bC.30)).33)
  ((pv 2).87,(pv 2,bC).46).97)),?_⟩
  obtain⟨kv,hx⟩:=pH.at_;refine⟨_,rfl,a.x,a.dx,_,rfl,hx,rfl,a,st.script,st.clues,rs,rfl,pH,λh3 H1 kk eV nx vV hw=>?_,s.12⟩
  . obtain⟨as,q1,q2⟩:=q.12;have pW:((M.3).length).66:=aO q2;have jM:(.ways).83=(st,⟨((M.3).length:Nat),(M.3).take 1⟩):=(z.5,tW h3).89
    rw[jM] at kQ;refine⟨_,rfl,kk,_,rfl,q1.35,rfl,_,rfl,?_⟩;rw[show(v.3,(M.3).length).6 by rw[aA,pW]];show((M.3).length).22.603.40
    cases hW:M.3 with
    |nil=> rw[hW] at kQ;refine gO (λr uO=>?_).573;have s4:aL H1 (H1,r,[.int 0]).3:=uO.509;exact kQ _ a _ r (Fr.of ((I.4).trans (i9.same s4))) (eV.same s4) aI
    |cons u W=>
     rw[aQ (λz=>by injection z with z;rw[List.length_cons] at z;omega)];rw[hW] at kQ q2 pW hw;obtain⟨ua,hua,hu⟩:=bO q2 (i:=0) (b:=u) rfl;refine d5 ⟨_,rfl,kk,_,rfl,q1.35,_,rfl,kk,_,_,_,rfl,rfl,bP.of q1,cC (j:=0) hua.537,_,ua,u,rfl,.inr hu,?_,λH2 r s2 uO tG=>?_⟩
     . rw[(hw u u.4).1];obtain⟨_,g,_⟩:=pH;exact g.n8.29
     . refine(H2,(I.4).trans g.10,eV.same s2).31;rw[tG,aA,pW];show _=some (HO.lst (Sy27Neutral.out ([u]).20).95);rw[tK]
  . have jM:(.ways).83=(st,(5).561):=(z.5,wB h3).89
    exact(_,jM).72
 |_=>cases hi
theorem aG5:(["script","reader","number","found"],aJ4).99:=o.3
theorem aJx(T:n.3)(X:W.3){t:lP}(B:p.4):dC P w K mg base J.3 23 "way" G.4 (nW A t 4):=by
 refine T.aJ6.IX aG5 I.3 x.4 q.3;obtain⟨a,rd,l,st,rs,x,rfl,hi,pH,pL,BO,kQ,kE⟩:=h
 cases x with
 |way n=>
  have nd:=aG5.nd;have iI:(1).27:=t.3;have O0:(21).27:=t.3;refine⟨_,(aK (eU (pv 1) (dD T) iI).524
  (aK (3,V.13).14
  (aK ((PD,pv 2,(pv 3).87).9,X.there).79
  (bC,(pv 3,pv 2).46).97))),?_⟩
  obtain⟨dr,_,_,er,_⟩:=id pL;refine⟨_,rfl,rd,dr,_,rfl,er,rfl,rd,l,n.6,[],rfl,pL,λH1 UI b1=>?_⟩;have eV:=pH.rd pL b1;obtain⟨kv,jH⟩:=eV.at_;refine⟨_,rfl,a.x,a.dx,_,rfl,jH,rfl,a,st.script,st.clues,rs,rfl,eV,λh3 H2 kk rZ nx vV hw=>?_,λh3 H2 rZ nx=>?_⟩
  . obtain⟨as,q1,q2⟩:=q.12;have pW:((M.3).length).66:=aO q2;refine⟨_,rfl,_,rfl,kk,_,rfl,q1.35,_,_,rfl,rfl,_,rfl,?_⟩;rw[show(v.3,(M.3).length).6 by rw[aA,pW]];show(M.3.564,n.6).52.40
    cases hW:(M.3)[n]? with
    |none=>
     have hn:(M.3,n).8:=List.getElem?_eq_none_iff.mp hW;have jM:(.way n).83=(st,(2).561):=by show(st,z.5)=_;rw[tW h3,hW]
     rw[W.4];exact gO (I.4,rZ).129
    |some u=>
     have jM:(.way n).83=(st,⟨0,[u]⟩):=by show(st,z.5)=_;rw[tW h3,hW]
     rw[jM] at kQ;have hn:n<(M.3).length:=hW.535;rw[aQ b.3];obtain⟨ua,hua,hu⟩:=bO q2 hW;refine d5 ⟨_,rfl,_,rfl,kk,_,_,_,rfl,rfl,bP.of q1,cC hua.537,_,ua,u,rfl,.inr hu,?_,λH3 r s3 uO wZ=>?_⟩
     . rw[(hw u (List.mem_of_getElem? hW)).1];obtain⟨_,g,_⟩:=pH;exact g.n8.29
     . refine(H3,(i9.rd b1,I.4,i9.same s3).11,rZ.same s3).31;rw[wZ,tK]
  . have jM:(.way n).83=(st,(5).561):=(z.5,wB h3).89
    exact(I.4,rZ).129
 |_=>cases hi
theorem BD:("numbers",L0).126:=o.3
theorem UJ(T:n.3)(X:W.3){t:lP}(B:p.4):dC P w K mg base J.3 23 "needless" G.4 (nW A t 10):=by
 refine T.MA.IX BD I.3 x.4 q.3;obtain⟨a,rd,l,st,rs,x,rfl,hi,pH,pL,BO,kQ,kE⟩:=h
 cases x with
 |needless=>
  have nd:=BD.nd;have iI:(1).27:=t.3;refine⟨_,(aK (YE T X B).643.524
  ((pv 2).87,pv 2).97),?_⟩
  obtain⟨kv,hx⟩:=pH.at_;refine⟨_,rfl,a.x,a.dx,_,rfl,hx,rfl,a,st.script,st.clues,rs,rfl,pH,λh3 H1 kk eV nx hL=>?_,s.12⟩
  . have jM:(.needless).83=(st,⟨((Sy27.needless st.script st.clues).length:Nat),[Sy27.needless st.script st.clues]⟩):=(z.5,tW h3).89
    rw[jM] at kQ;refine⟨_,rfl,kk,_,rfl,hL.35,_,rfl,_,kk,_,rfl,.inl hL,?_,λH2 r s2 uO tG=>?_⟩
    . obtain⟨_,g,_⟩:=pH;unfold Sy27.needless;refine aG (c6 _ _) ?_;rw[aR];exact g.zN.29
    . refine(H2,(I.4).trans g.10,eV.same s2).31;rw[tG,bE,aA,tK]
  . have jM:(.needless).83=(st,(5).561):=(z.5,wB h3).89
    exact(_,jM).72
 |_=>cases hi
theorem NX:("numbers",aB2).126:=o.3
theorem aEp(T:n.3)(X:W.3){t:lP}(B:p.4):dC P w K mg base J.3 23 "clash" G.4 (nW A t 11):=by
 refine T.aB3.IX NX I.3 x.4 q.3;obtain⟨a,rd,l,st,rs,x,rfl,hi,pH,pL,BO,kQ,kE⟩:=h
 cases x with
 |clash=>
  have nd:=NX.nd;have iI:(1).27:=t.3;refine⟨_,(aK (aGU T X B).643.524
  ((pv 2).87,pv 2).97),?_⟩
  obtain⟨kv,hx⟩:=pH.at_;refine⟨_,rfl,a.x,a.dx,_,rfl,hx,rfl,a,st.script,st.clues,rs,rfl,pH,λh0 H1 kk eV nx hL=>?_,s.12,λh3 h0 H1 eV nx=>?_⟩
  . have h3:¬300<(M.3).length:=by rw[h0];decide
    have jM:(.clash).83=(st,⟨((Sy27.clash st.script st.clues).length:Nat),[Sy27.clash st.script st.clues]⟩):=by show(st,z.5)=_;rw[tW h3,if_pos h0]
    rw[jM] at kQ;refine⟨_,rfl,kk,_,rfl,hL.35,_,rfl,_,kk,_,rfl,.inl hL,?_,λH2 r s2 uO tG=>?_⟩
    . obtain⟨_,g,_⟩:=pH;have:=M.WD (S:=st.script) (cs:=st.clues) (T:=λL=>(Sy27.ways st.script (M.pick st.clues L),[]).11) λL hL=>fX.85
      refine aG (m:=st.clues.length) ?_ g.zN.29;rw[<-this];exact RR _ _ _ _ (aR,aS _).3
    . refine(H2,(I.4).trans g.10,eV.same s2).31;rw[tG,bE,aA,tK]
  . have jM:(.clash).83=(st,(5).561):=(z.5,wB h3).89
    exact(_,jM).72
  . have jM:(.clash).83=(st,(6).561):=by show(st,z.5)=_;rw[tW h3,if_neg h0]
    exact(_,jM).72
 |_=>cases hi
end
end G
namespace G
open PySem PySem.Spec PyProof.Rows L2
open Sy27 (Clue)
theorem UK{s:Sy27.St}{f:l.13}(h: ¬300<(r.11).length)(h0:r.11≠[]):Sy27.onSome s f=f r.11:=by unfold Sy27.onSome;rw[tW h,if_neg h0]
theorem NY{s:Sy27.St}{f:l.13}(h0:r.11=[]):Sy27.onSome s f=(3).561:=by unfold Sy27.onSome;rw[tW (by rw[h0];decide),if_pos h0]
theorem NZ{s:Sy27.St}{f:l.13}(h:300<(r.11).length):Sy27.onSome s f=(5).561:=wB h
section
variable{P:Program}{w:World}{K:PySem.W.Frag}{mg:k.3}{base:Heap}{A:Ad}
theorem N0:(G.4,QP).99:=o.3
theorem YK(T:n.3)(X:W.3){t:lP}(B:p.4):dC P w K mg base J.3 23 "certain" G.4 (nW A t 5):=by
 refine T.QV.IX N0 I.3 x.4 q.3;obtain⟨a,rd,l,st,rs,x,rfl,hi,pH,pL,BO,kQ,kE⟩:=h
 cases x with
 |certain=>
  have nd:=N0.nd;have hC:=T.c8.cl;have iI:(1).27:=t.3;have tG:(2).27:=t.3;refine(nE T,iI,(bC,(ED T,tG,((wA T X B).643,E.3,s.4).7).6).21).6.642;obtain⟨kv,g,hx,_⟩:=id pH;refine⟨_,rfl,a.x,a.dx,_,rfl,hx,rfl,a,st.script,st.clues,rs,rfl,pH,s.15,s.12,λh0 H1 eV nx=>?_⟩
  . obtain⟨kv1,_,jH,_,⟨sas,WZ,JG⟩,_⟩:=id eV;have jM:(.certain).83=(st,⟨0,[Sy27.certain st.script M.3]⟩):=(UK h3 h0).701
    rw[jM] at kQ;refine⟨_,rfl,a.x,A.Script,a.dx,_,_,rfl,jH,hC,T.dZ,rfl,_,rfl,a.x,A.Script,a.dx,_,_,rfl,jH,hC,T.dU,rfl,a.sy,_,rfl,WZ.81.35,st.script,kk,M.3,?_,q.12,h0,λu hu=>(hw u hu).1,λs hs u hu=>aG3 (hw u hu) hs,g.n8,g.z10,b.3,λH2 cl s2 hcn z7=>?_⟩
    . rw[aA,aO JG];rfl
    refine⟨_,cl,_,rfl,.inl z7,?_,λH3 r s3 uO wZ=>?_⟩
    . unfold Sy27.certain;rw[aA,aR];exact g.n8.29
    . refine(H3,(I.4,g.10,i9.same s3).11,(eV.same s2).same s3).31;rw[wZ,tK]
  . exact(-5,(NZ h3).701).72
  . exact(-3,(NY h0).701).72
 |_=>cases hi
theorem RT:("row",WK).126:=o.3
theorem aBn{S:Sy27.Script}{l:List Sy27.Way}(h: ∀u∈l,u.length=S.signs):(Sy27.settle S l,S.signs).8:=by
 rw[M.QJ h]
 cases e:(M.rising S.signs k,Sy27.settles l).120 with
 |none=>rw[Option.getD_none,aR];exact aS _
 |some r=> rw[Option.getD_some];obtain⟨k,hk,hr⟩:=List.mem_flatMap.mp (List.mem_of_find?_eq_some e);rw[(zZ k r hr).1];exact kH (List.mem_range.mp hk)
theorem aBo(T:n.3)(X:W.3){t:lP}(B:p.4):dC P w K mg base J.3 23 "settle" G.4 (nW A t 8):=by
 refine T.WO.IX RT I.3 x.4 q.3;obtain⟨a,rd,l,st,rs,x,rfl,hi,pH,pL,BO,kQ,kE⟩:=h
 cases x with
 |settle=>
  have nd:=RT.nd;have hC:=T.c8.cl;have iI:(1).27:=t.3;have wZ:(3).27:=t.3;refine⟨_,(aK (IT T,wZ,((wA T X B).643,E.3).21).6.524
  ((pv 2).87,pv 2).97),?_⟩
  obtain⟨kv,g,hx,_⟩:=id pH;refine⟨_,rfl,a.x,a.dx,_,rfl,hx,rfl,a,st.script,st.clues,rs,rfl,pH,s.15,s.12,λh0 H1 eV nx=>?_⟩
  . obtain⟨kv1,jH⟩:=eV.at_;have jM:(.settle).83=(st,⟨((Sy27.settle st.script M.3).length:Nat),[Sy27.settle st.script M.3]⟩):=(UK h3 h0).701
    rw[jM] at kQ;refine⟨_,rfl,a.x,A.Script,a.dx,_,_,rfl,jH,hC,T.dZ,rfl,st.script,kk,M.3,rfl,q.12,λu hu=>(hw u hu).1,aBm g.ctx,b.3,g.n8,λH2 cl s2 z7=>?_⟩;refine⟨_,rfl,cl,_,rfl,z7.35,_,rfl,_,cl,_,rfl,.inl z7,aG (aBn λu hu=>(hw u hu).1) g.n8.29,λH3 r s3 uO wZ=>?_⟩;refine(H3,(I.4,g.10,i9.same s3).11,(eV.same s2).same s3).31;rw[wZ,bE,aA,tK]
  . exact(-5,(NZ h3).701).72
  . exact(-3,(NY h0).701).72
 |_=>cases hi
theorem aG6:(["script","reader","found","best"],aJ5).99:=o.3
theorem aJy(T:n.3)(X:W.3){t:lP}(B:p.4):dC P w K mg base J.3 23 "ask" G.4 (nW A t 9):=by
 refine T.aJ7.IX aG6 I.3 x.4 q.3;obtain⟨a,rd,l,st,rs,x,rfl,hi,pH,pL,BO,kQ,kE⟩:=h
 cases x with
 |ask=>
  have nd:=aG6.nd;have hC:=T.c8.cl;have iI:(1).27:=t.3;have tG:(2).27:=t.3;refine⟨_,(aK (wA T X B).643.524
  (aK (E.3.598,X.RN).79
  (aK (3,(NC T,tG,(pv 2,E.3,s.4).7).6).14
  ((pv 3,bC).47,c7 (pv 3,bC).47.30).97))),?_⟩
  obtain⟨kv,g,hx,_⟩:=id pH;refine⟨_,rfl,a.x,a.dx,_,rfl,hx,rfl,a,st.script,st.clues,rs,rfl,pH,s.15,s.12,λh0 H1 eV nx=>?_⟩
  . obtain⟨kv1,_,jH,_,⟨sas,WZ,JG⟩,_⟩:=id eV;refine⟨_,rfl,a.x,A.Script,a.dx,_,_,rfl,jH,hC,T.dZ,rfl,rfl,_,rfl,?_⟩;show st.script.signs.550.603.40;by_cases hs0:st.script.signs=0
    . rw[hs0];exact gO (-3,(if st.script.signs=0 then _ else _,if_pos hs0).89).72
    rw[aQ (λz=>by injection z with z;omega)];have jM:(.ask).83=(st,⟨((Sy27.ask st.script M.3).1:Nat),[[y.13]]⟩):=(UK h3 h0).825
    rw[jM] at kQ;have hv:=g.pos b.3;refine d5 ⟨_,rfl,_,rfl,a.x,A.Script,a.dx,_,_,rfl,jH,hC,T.dZ,rfl,_,rfl,a.x,A.Script,a.dx,_,_,rfl,jH,hC,T.dU,rfl,a.sy,_,rfl,WZ.81.35,st.script,kk,M.3,?_,q.12,λu hu=>(hw u hu).1,b.3,g.n8,hv,g.z10,b.3,λH2 tp s2 htn htp=>?_⟩
    . rw[aA,aO JG];rfl
    refine⟨_,rfl,tp,_,_,_,rfl,rfl,lN.of htp,(0).547,_,rfl,tp,_,_,_,rfl,rfl,lN.of htp,(1).547,(1).514,λl1 EY=>?_⟩;dsimp only;have s3:(l1,[nV y.13]).62:=EY.528;have e3:(upd H2 l1 (.lst [nV y.13]) l1,[y.13]).10:=aI;generalize (H2,l1,[nV y.13]).3=H3 at s3 e3⊢;refine⟨_,l1,_,rfl,.inl e3,by show 1<=100000;decide,λH4 r s4 uO Y0=>?_⟩;have s24:=(s2.trans s3).trans s4;refine(H4,(I.4).trans (i9.same s24),eV.same s24).31;rw[Y0,tK]
  . have hs0:st.script.signs≠0:=λz=>(aEo g.ctx z).90
    exact(-5,(NZ h3).825).72
  . exact kE H1 _ (-3) (w.10) (by
     show(st,if st.script.signs=0 then _ else _)=_;by_cases hs0:st.script.signs=0
     . rw[if_pos hs0]
     . rw[if_neg hs0,NY h0]) (I.4) eV
 |_=>cases hi
end
end G
namespace G
open PySem PySem.Spec PyProof.Rows L2
open Sy27 (Clue)
theorem aCL(x:a.3): ∀l:d.3,(Sy27.put x l,l.length+1).8
 |[]=>aS _
 |y::l=>by
  unfold Sy27.put;split
  . exact u7 _
  . split
    . exact aS _
    . have:=aCL x l;rw[List.length_cons,List.length_cons];omega
theorem UL{S:Sy27.Script}{t:a.3}(l:List Sy27.Way):(Sy27.readings S l t,l.length).8:=by
 have: ∀(l:List Sy27.Way) (m:d.3),(l.foldl (λ(m:List (List Nat)) (w:Sy27.Way)=>Sy27.put w.68 m) m,m.length+l.length).8:=by
  intro l
  induction l with
  |nil=>intro m;exact aS _
  |cons w l ih=> intro m;rw[List.foldl_cons];have h1:=ih (Sy27.put w.68 m);have h2:=aCL w.68 m;rw[List.length_cons];omega
 have h:=this l [];rw[List.length_nil,Nat.zero_add] at h;exact h
theorem fO{α β:Type}{f:α->List β}{n:Nat}: ∀{l:w.3},(∀x∈l,(f x,n).8)->(l.flatMap f,l.length*n).8
 |[],_=>aW _
 |x::l,h=>by rw[List.flatMap_cons,List.length_append,List.length_cons,Nat.succ_mul];have h1:=h x u.4;have h2:=fO (l:=l) λy hy=>h y hy.545;omega
theorem aEq{S:Sy27.Script}(hY:M.N5 S.values)(w:Sy27.Way)(t:a.3):(w.68,t.length*3).8:=by
 unfold Sy27.Script.read;refine fO λa _=>?_;unfold Sy27.Script.valueOf;rw[List.getD_eq_getElem?_getD]
 cases e:S.values[a.44]? with
 |none=>exact aW _
 |some r=>exact((r,e).69).2
abbrev YL(r:a.3):f.3:=r.length.6::M.uB r
theorem aJz(v:Int)(R:d.3):Sy27Neutral.out ⟨v,R⟩=v::R.flatMap YL:=rfl
theorem iR.aJq{A:Ad}{t:lP}{H H':Hp}{a:SC}{S:Sy27.Script}{cs:A.3}{rs:D.3}(s:t.p2.55)(ht:jJ t H')(h:H.504):H'.504:=by obtain⟨kv,g,h1,h2,h3,h4,h5⟩:=h;have e:(Zs t a,H'.542).48:=Nx.aJq s;obtain⟨φ,hφ⟩:=h2.t2.there;exact⟨kv,g,s _ _ h1 (h1,hφ).32,ht,h3.mono e,h4.mono e,h5.mono e⟩
theorem aJA{S:Sy27.Script}{t:a.3}(h:(Sy27.textOk S t).7):t.length<=8/\∀a∈t,d.4:=by unfold Sy27.textOk at h;simp only [Bool.and_eq_true,decide_eq_true_eq,List.all_eq_true] at h;exact⟨h.2.1,h.2.2⟩
section
variable{P:Program}{w:World}{K:PySem.W.Frag}{mg:k.3}{base:Heap}{A:Ad}
theorem HM:(["script","reader","sign","numbers"],LY).99:=o.3
theorem UM(T:n.3)(X:W.3){t:lP}(B:p.4):dC P w K mg base J.3 23 "possible" G.4 (nW A t 6):=by
 refine T.L8.IX HM I.3 x.4 q.3;obtain⟨a,rd,l,st,rs,x,rfl,hi,pH,pL,BO,kQ,kE⟩:=h
 cases x with
 |possible sg=>
  have nd:=HM.nd;have iI:(1).27:=t.3;have O0:(21).27:=t.3;refine⟨_,(aK (eU (pv 1) (dD T) iI).524
  (aK (dB (y4 (pv 0) (OY T X) lL iI (pv 2).30))
  (aK (3,(rG T,iI,(V.13,pv 2).21).6).14
  ((pv 3).87,pv 3).97))),?_⟩
  obtain⟨dr,_,_,er,_⟩:=id pL;refine⟨_,rfl,rd,dr,_,rfl,er,rfl,rd,l,sg.6,[],rfl,pL,λH1 UI b1=>?_⟩;have eV:=pH.rd pL b1;obtain⟨kv,g,jH,_⟩:=id eV;refine⟨_,rfl,a.x,a.dx,_,rfl,jH,rfl,_,rfl,a,st.script.signs,kv,sg,rfl,jH,λwY=>?_,λwY=>?_⟩
  . refine⟨_,rfl,a.x,a.dx,_,rfl,jH,rfl,a,st.script,st.clues,rs,rfl,eV,λh3 H2 kk rZ nx vV hw=>?_,λh3 H2 rZ nx=>?_⟩
    . have jM:(.possible sg).83=(st,⟨((Sy27.possible st.script M.3 sg).length:Nat),[Sy27.possible st.script M.3 sg]⟩):=(tW h3).826
      rw[jM] at kQ;refine⟨_,rfl,st.script,kk,M.3,sg,rfl,q.12,λu hu=>((hw u hu).1,wY).3,λu hu=>aG3 (hw u hu) wY,g.z10,b.3,λH3 pl s3 hpn kY=>?_⟩;refine⟨_,rfl,pl,_,rfl,kY.35,_,rfl,_,pl,_,rfl,.inl kY,?_,λH4 r s4 uO Y0=>?_⟩
      . unfold Sy27.possible;refine aG (c6 _ _) ?_;rw[aR];exact g.z10.29
      . refine(H4,((i9.rd b1).trans I.4,i9.same s3,i9.same s4).11,(rZ.same s3).same s4).31;rw[Y0,bE,aA,tK]
    . exact kE H2 _ (-5) w.10 (wB h3).826 ((i9.rd b1).trans I.4) rZ
  . exact kE H1 _ (-1) w.10 (by show(st.script.signs<=sg,_,(st,z.5)).14=_;rw[if_pos wY]) (i9.rd b1) eV
 |_=>cases hi
theorem HN:(["script","reader","text","found","answered","reading"],LZ).99:=o.3
theorem UN(T:n.3)(X:W.3){t:lP}(B:p.4):dC P w K mg base J.3 23 "readings" G.4 (nW A t 7):=by
 refine T.L9.IX HN I.3 x.4 q.3;obtain⟨a,rd,l,st,rs,x,rfl,hi,pH,pL,BO,kQ,kE⟩:=h;obtain⟨c2,B2⟩:=B.b2
 cases x with
 |readings tx=>
  have nd:=HN.nd;have hC:=T.c8.cl;have tG:(2).27:=t.3;have hr5:(5).27:=t.3;have O0:(21).27:=t.3;refine⟨_,(aK (eU (pv 1) (nB T) tG).524
  (aK (dB (y4 (pv 0) (OZ T X) lL tG (pv 2).30))
  (aK (3,(IW T t.p1 B2 B.bt,hr5,(V.13,pv 2,E.3).7).6).14
  (aK (4,c7 (pv 3).87.30).14
  (aK (aGT (fF bL rfl (cK (pv 3)) ((5).503) (aK ((pv 4,(pv 5).87).63)
  (aP (aBl,pv 4,pv 5).35))))
  (pv 4).47))))),?_⟩
  obtain⟨dr,_,_,er,_⟩:=id pL;refine⟨_,rfl,rd,dr,_,rfl,er,rfl,rd,l,tx,[],rfl,(List.append_nil,pL).3,λH1 ta UI b1 a1V hta=>?_⟩;have eV:=pH.rd pL b1;obtain⟨kv,g,jH,_⟩:=id eV;have aG7:(.readings tx).83=if(Sy27.textOk st.script tx).25 then(st,(1).561) else(st,Sy27.onWays st λl=>⟨((l.743).length:Nat),l.743⟩):=rfl;refine⟨_,rfl,a.x,a.dx,_,rfl,jH,rfl,_,rfl,a,st.script.signs,kv,ta,tx,rfl,jH,hta,BO.29,λcZ H2 s2=>?_,λz6 H2 s2=>?_⟩
  . have aBp:(Sy27.textOk st.script tx).7:=cZ;rw[aBp,if_neg r.3] at aG7;have rZ:=eV.same s2;obtain⟨kv2,_,vC,CB,_⟩:=id rZ;refine⟨_,rfl,a.x,a.dx,_,rfl,vC,rfl,a,st.script,st.clues,rs,rfl,rZ,λh3 H3 kk YJ nx vV hw=>?_,λh3 H3 YJ nx=>?_⟩
    . rw[tW h3] at aG7;rw[aG7] at kQ;obtain⟨kv3,_,CC,UX,aWF,_⟩:=id YJ;obtain⟨Y1,hts⟩:=aJA aBp;have aWG:(out (Zs t a) H3 ta,tx).10:=nx _ _ ((nD.zs vC CB).lst hta.50);have oh:aL H3.542 (hide t.p2 H3):=NI c.3;refine⟨_,rfl,_,rfl,a.x,A.Script,a.dx,_,_,rfl,CC,hC,T.dU,rfl,st.script,kk,ta,a.sy,M.3,tx,rfl,vV.mono oh,oh _ _ aWG,aWF.mono oh,hw,hts,Y1,g.syl,b.3,UX.t2,UX.z2,Ne.symm UX.ne,λH4 fd b4 IV hfn hF=>?_⟩;have aWH:=UX.aRb b4 IV;have YM:=YJ.aJq b4 aWH;obtain⟨as,q1,q2⟩:=id hF;have hRl:=UL (S:=st.script) (t:=tx) M.3;have hRr: ∀r∈M.3.743,r.length<=24:=λr hr'=>by
       obtain⟨h1,h2⟩:=M.tQ (S:=st.script) (t:=tx) M.3 [] .nil;rcases (h2 r).mp hr' with z|⟨u,_,e⟩
       . cases z
       . rw[<-e];exact aG (aEq g.syl u tx) b.3
      generalize M.3.743=R at kQ q2 hRl hRr;have pW:R.length.66:=aO q2;refine⟨_,rfl,fd,_,rfl,q1.35,(1).514,λD hD=>?_⟩;rw[show(v.3,R.length).6 by rw[aA,pW]];have s5:aL H4 (H4,D,[R.length.516]).3:=(H4,hD).20;have e5:upd H4 D (.lst [R.length.516]) D=_:=aI;dsimp only;generalize (H4,D,[R.length.516]).3=H5 at s5 e5⊢;refine⟨_,rfl,fd,rfl,q1.60.59,eB (fd.534) (∃v5,σ=[a.x.8,rd.8,ta.8,fd.8,D.8,v5]/\aL H4 H'/\(H' D,B.13).12).560
       ⟨none,rfl,s5,e5⟩ (by obtain⟨_,_,s6,_⟩:=h;exact bP.of q1.518).552 ?_ ?_⟩
      . rintro i x σ H6 H6' OG ⟨v5,rfl,s6,hD6⟩ ⟨rfl,hxi⟩;rw[aA,pW] at OG;have hg:(R,R).28:=aF OG;generalize R[i]=r at hg;obtain⟨ra,hra,hrt⟩:=bO q2 hg;obtain rfl:x= .ref ra:=by rw[aE,hra] at hxi;exact hxi.31
        have hlen:(B.13,8000).8:=by
         rw[aA,List.length_cons];have:=fO (f:=YL) (n:=25) (l:=R.take i) λr hr'=>by show(M.uB r).length+1<=25;unfold M.uB;rw[aA];have:=hRr r (iG hr');omega
         rw[aX] at this;have:min i R.length*25<=300*25:=eC _ b.3;omega
        have a1W:=hRr r (List.mem_of_getElem? hg);have uO:(bE r,r.length).6:=(bE,aA).7
        have aWJ:D≠ra:=(hrt,hD).60;refine⟨_,rfl,hD6.502,_,rfl,ra,_,rfl,.inr (lN.of hrt.518),D,_,_,rfl,rfl,hD6,bJ.56,?_⟩;rw[uO];have b7:eA D H6' (H6',D,B.13++[r.length.516]).3:=f.5;have e7:upd H6' D (.lst (B.13++[r.length.516])) D=_:=aI;generalize (H6',D,B.13++[r.length.516]).3=H7 at b7 e7⊢;refine⟨_,rfl,e7.502,_,rfl,D,ra,_,_,rfl,rfl,e7,b7 _ _ hrt.518 aWJ.symm,by rw[uO,List.length_append,bJ];show _+1+_<=_;omega,_,rfl,?_,?_⟩
        . exact(b7.trans f.5).same s6 hD
        . rw[aI,jU hg,bT];congr 2;rw[List.map_cons,List.map_cons,bH];show(_::_++[_])++bE r=_::(_++((YL r++[]).95));rw[List.append_nil];show(_::_++[_])++bE r=_::(_++(V.int _::(M.uB r).95));rw[MS];simp
      . rintro σ H6 ⟨v5,rfl,s6,hD6⟩;rw[aA,pW,cJ] at hD6;exact(kQ H6 a _ D (Fr.of ((i9.rd b1,g.10,I.4).11,i9.nx (Nx.aJq b4),i9.same s6).11) (YM.same s6) (hD6,aJz).7).28
    . exact kE H3 _ (-5) w.10 (aG7,wB h3).7 (i9.rd b1,g.10,I.4).11 YJ
  . have aWK:(Sy27.textOk st.script tx).25:=z6;exact kE H2 _ (-1) w.10 (aG7,aWK).18 ((i9.rd b1).trans g.10) (eV.same s2)
 |_=>cases hi
end
end G
namespace G
open PySem PySem.Spec PyProof.Rows L2 PySem.W
open Sy27 (Clue)
structure aG8(K:PySem.W.Frag)(mg:k.3)(A:Ad)(ct:Addr)(fs:i.3):Prop where
 glob:("CALLS",ct).37
 tup: ∀H:Hp,lN K H ct (fs.map V.ref)
 is: ∃f0 f1 f2 f3 f4 f5 f6 f7 f8 f9 f10 f11:Addr,fs=[f0,f1,f2,f3,f4,f5,f6,f7,f8,f9,f10,f11]/\("begins",f0).37/\("clue",f1).37/\("drop",f2).37/\("ways",f3).37/\("way",f4).37/\("certain",f5).37/\
  ("possible",f6).37/\("readings",f7).37/\("settle",f8).37/\("ask",f9).37/\("needless",f10).37/\("clash",f11).37
 one:("NotOne",A.oQ).37
 there:("NotThere",A.mD).37
 RN:("NoWay",A.AS).37
 many:("TooMany",A.k7).37
 left:("WayLeft",A.oW).37
 t1:(A.oQ,A.oQ).118
 t2:(A.mD,A.mD).118
 t3:(A.AS,A.AS).118
 t4:(A.k7,A.k7).118
 t5:(A.oW,A.oW).118
 e21:(A.mD,A.oQ).71
 e31:(A.AS,A.oQ).71
 e32:(A.AS,A.mD).71
 e41:(A.k7,A.oQ).71
 e42:(A.k7,A.mD).71
 e43:(A.k7,A.AS).71
 e51:(A.oW,A.oQ).71
 e52:(A.oW,A.mD).71
 e53:(A.oW,A.AS).71
 e54:(A.oW,A.k7).71
section
variable{P:Program}{w:World}{K:PySem.W.Frag}{mg:k.3}{base:Heap}{A:Ad}
def tabOf(A:Ad)(t:lP)(fs:i.3):Sp.92:=(12,λi=>(fs.getD i 0,nW A t i)).91
theorem aJB{A:Ad}{t:lP}{fs:i.3}{i:Nat}(h:i<12):(fs.getD i 0,nW A t i)∈tabOf A t fs:=a5.mpr (i,List.mem_range.mpr h).34
theorem pM{x:Str}{k:Nat}{ps:x.3}{sp:Sp}{f:Addr}(D:dC P w K mg base J.3 k x ps sp)(h:mg x=some (.ref f)): ∃fd,oI P w K mg base J.3 k f fd ps sp/\m.11/\K.627:=by obtain⟨f',fd,F,hm,hk,hb⟩:=D.ex;rw[h] at hm;injection hm with hm;injection hm with hm;subst hm;exact⟨fd,F,hk,hb⟩
theorem aNr(T:n.3)(X:W.3){t:lP}(B:p.4){ct:Addr}{fs:i.3}(C:aG8 K mg A ct fs): ∀y∈tabOf A t fs,∃fd,oI P w K mg base J.3 23 y.1 fd G.4 y.2/\(K,.ref y.1).105/\Binds K fd G.4 []:=by
 obtain⟨f0,f1,f2,f3,f4,f5,f6,f7,f8,f9,f10,f11,rfl,m0,m1,m2,m3,m4,m5,m6,m7,m8,m9,m10,m11⟩:=C.is;intro y hy;obtain⟨i,hi,rfl⟩:=a5.mp hy;have hi:=List.mem_range.mp hi;match i,hi with
 |0,_=>exact pM (aBk T X t) m0
 |1,_=>exact pM (aG0 T X t) m1
 |2,_=>exact pM (aG1 T X t) m2
 |3,_=>exact pM (aG4 T X B) m3
 |4,_=>exact pM (aJx T X B) m4
 |5,_=>exact pM (YK T X B) m5
 |6,_=>exact pM (UM T X B) m6
 |7,_=>exact pM (UN T X B) m7
 |8,_=>exact pM (aBo T X B) m8
 |9,_=>exact pM (aJy T X B) m9
 |10,_=>exact pM (UJ T X B) m10
 |11,_=>exact pM (aEp T X B) m11
theorem aG9(x:Sy27.Call):idx x<12:=by cases x<;>simp[idx]
theorem aJC(x:Sy27.Call):H.3=(idx x).33::args x:=by cases x<;>rfl
def aHa(A:Ad)(t:lP):Sp:=λvs H Q _=>∃(a:SC) (nl:Addr) (s:Sy27.St) (rs:D.3) (x:Sy27.Call),vs=[.ref a.x,.ref nl]/\iR A t H a s.script s.clues rs/\(nl,H.3.95).41/\(H.3,100000).8/\M.oP x/\
 ∀H' a' rs' r,a'.x=a.x->a'.dx=a.dx->(Ys t a,H').48->(a'.ru=a.ru\/a'.ru.21)->iR A t H' a' (R.10).1.script (R.10).1.clues rs'->(H' r,R.10.683.95).12->r.84
theorem RU:(["script","numbers","reader","call"],["script","numbers"],WL).5:=o.3
theorem aEr(T:n.3)(X:W.3){t:lP}(B:p.4){ct:Addr}{fs:i.3}(C:aG8 K mg A ct fs):dC P w K mg base kJ 24 "answer" ["script","numbers"] (aHa A t):=by
 refine T.WQ.ok RU I.3 W.15 q.3;obtain⟨a,nl,st,rs,x,rfl,pH,hnl,hlen,BO,kQ⟩:=h;have nd:=RU.nd;have iI:(1).27:=t.3;have tG:(2).27:=t.3;refine⟨_,(aK (vL (MU T) tG rfl (pv 1).30).524
  (aK (3,(aBE (v:=V.ref ct) rfl C.glob rfl,eU (pv 2) (dD T) iI).47).14
  (aP (aM9 rfl rfl rfl (λpins EH=>aGQ (i:=3) (aNr T X B C) aQ9 hr rfl l.5 (pv 0,pv 2).21) (C.one,(C.there,(C.RN,(C.many,(C.left,.nil).125).125).125).125).125)))),?_⟩
 refine(λrd dr aEs aWL hdr=>?_).28;have sa:t.13.34:=aWL.76;have sb:aL t.13 (upd t.13 rd (.ins A.Reader dr [])):=(Ne.symm hdr,aEs).29.86;have s1:=sa.trans sb;have e1:upd t.13 rd (.ins A.Reader dr []) rd=_:=aI;generalize upd t.13 rd (.ins A.Reader dr [])=H1 at s1 e1⊢;clear sa sb;refine⟨rd,dr,nl,H.3,rfl,e1,hnl.26,hlen,λH2 aEn b2=>(?_).73⟩;have M0:H2.34:=b2.same s1 aEs;have rZ:=pH.same M0;rw[aJC] at aEn;obtain⟨dr2,_,_,er2,_⟩:=id aEn;refine⟨_,rfl,rd,dr2,_,rfl,er2,rfl,rd,nl,(idx x).33,args x,rfl,aEn,λH3 aWN b3=>?_⟩;have YJ:=rZ.rd aEn b3;have hfl:fs.length=12:=by obtain⟨_,_,_,_,_,_,_,_,_,_,_,_,rfl,_⟩:=C.is;rfl
 have hfi:(fs,idx x,fs.getD (idx x) 0).4:=by have:=aG9 x;rw[List.getD_eq_getElem?_getD,b.4];rfl
 refine⟨ct,_,_,_,rfl,rfl,C.tup H3,cC hfi.537,?_⟩;have f03:(Ys t a,H3).48:=λb o e=>by obtain⟨e',_⟩:=cW e;exact b3 _ _ (M0 _ _ e') (λz=>by rw[z,aEs] at e';cases e')
 refine⟨_,_,rfl,aJB (aG9 x),_,rfl,_,rfl,a,rd,nl,st,rs,x,rfl,rfl,YJ,aWN,BO,λH4 a' rs' r fr YM Y0=>?_,λH4 Cx v hm jM fr YM=>⟨Cx,rfl,?_⟩⟩
 . obtain⟨h1,h2,h3,h4⟩:=fr;refine kQ H4 a' rs' r h1 h2 D.10 (h4.imp id λz=>?_) YM Y0
   . obtain⟨e',n'⟩:=cW e;refine h3 b o (f03 b o e) λz=>?_;rcases List.mem_cons.mp z with z|z
     . rw[z,aEs] at e';cases e'
     . exact n' z
   . cases q:H a'.ru with
     |none=>rfl
     |some o=>
      have iK:a'.ru≠rd:=λz'=>by rw[z',aEs] at q;cases q
      rw[b3 _ _ (M0 _ _ q) iK] at z;cases z
 . have fin: ∀(σ:L2.St) (v:Int),(Cx,v)∈ES A->x.83=(st,Sy27.ok v)->∀l,(H4 l).9->(l,(H4,l,[.int v]).3).42:=λσ v hm jM l hl=>by
    have s5:aL H4 (H4,l,[.int v]).3:=(H4,hl).20;rw[jM] at kQ;refine kQ _ a rs l rfl rfl D.10 B.3 (YM.same s5) aI;obtain⟨e',n'⟩:=cW e;refine(fr b o (f03 b o e) λz=>?_).60;rcases List.mem_cons.mp z with z|z
    . rw[z,aEs] at e';cases e'
    . exact n' z
   have hz:(1).37:=r.3
   unfold ES at hm;simp only [List.mem_cons,Prod.mk.injEq,List.not_mem_nil,or_false] at hm;rcases hm with⟨rfl,rfl⟩|⟨rfl,rfl⟩|⟨rfl,rfl⟩|⟨rfl,rfl⟩|⟨rfl,rfl⟩
   . exact .inl ⟨C.t1,C.13⟩
   . exact .inr ⟨C.e21,(C.t2,C.13).51⟩
   . exact .inr ⟨C.e31,(C.e32,(C.t3,C.13).51).59⟩
   . exact .inr ⟨C.e41,(C.e42,(C.e43,(C.t4,C.13).51).59).59⟩
   . exact .inr ⟨C.e51,(C.e52,(C.e53,(C.e54,(C.t5,C.13).51).59).59).59⟩
end
end G
namespace G
open PySem PySem.Spec PyProof.Rows L2
def spF(sp:Sp):Sp:=λvs H Q E=>∃(D:Addr) (xs:e.3),D.517/\sp vs D.97 (λv H2=>(H2 D).9->Q v (H2,D,xs).3) E
theorem aHb{P:Program}{w:World}{H:Hp}{h:Heap}{D:Addr}{xs:e.3}(hD:D.517)(ok:V.3):oV P w D.97 h:=λa o e=>by
 obtain⟨e1,_⟩:=EJ e;refine(ok a o e1).HX (λ_ _ _ q=>q) (λb q=>?_) λb ys q=>?_
 . rw[hide_ne (q,hD).32];exact q
 . rw[hide_ne (q,hD).32];exact q
theorem oI.frame{P:Program}{w:World}{K:PySem.W.Frag}{mg:k.3}{base:Heap}{k:Nat}{f:Addr}{fd:FuncData}{ps:x.3}{sp:Sp}(F:oI P w K mg base kJ k f fd ps sp):oI P w K mg base kJ k f fd ps (spF sp) where
 len:=λvs H Q E h=>by obtain⟨D,xs,_,h⟩:=h;exact F.len _ _ _ _ h
 run:=λA outer s H args us vs Q E hr e hb hv h=>by
  obtain⟨D,xs,hD,h⟩:=h;obtain⟨z,bY,n,rv,eD⟩:=e.cZ D _ hD;have hn:(hide D H D).9:=by unfold hide;rw[N.5]
  have e':VD P w K mg base A outer s D.97:=⟨e.frames,e.mod,λb o q=>⟨(e.bs b o q).1,by
   have:=(e.bs b o q).2;unfold hide;split
   . rfl
   . exact this⟩,e.Y9,e.w8,λb ZU=>by
     have:=e.frf b ZU;unfold hide;split
     . rfl
     . exact this,aHb hD e.cZ,e.bare⟩
  refine vA (F.run A outer s D.97 args us vs _ E hr e' hb hv h) λr s' q=>?_
  cases r with
  |error _=>exact q.elim
  |ok fl=>
   cases fl with
   |next=>exact q.elim
   |brk=>exact q.elim
   |cont=>exact q.elim
   |ret u=>
    obtain⟨v,H2,os,bare,un,cZ,rr,q⟩:=q;have hf:D∉B.4:=λhm=>by rw[e.frf D hm] at hD;cases hD
    have nP:(H2 D).9:=un.free D _ eD hn c.3;have eD2:=un.keep D _ eD hn hf c.3;have hid: ∀{b},b.21->(hide D H b).9:=λ{b} q=>by
     unfold hide;split
     . rfl
     . exact q
    have same:(D,xs).62:=nP.528;refine⟨v,(H2,D,xs).3,os,bare,⟨λb o e1 e2=>un.keep b o e1 (hid e2),λb o e1 e2=>un.slot b o e1 (hid e2),λb o e1 e2 e3=>?_,un.there,λb ys e1=>?_,λb o u e1=>?_,λb qs e1=>?_⟩,λa o ea=>?_,rr,q nP⟩
    . rw[bF (λz=>by rw[z,hD] at e2;cases e2)];exact un.free b o e1 (hid e2) e3
    . exact same _ _ (un.HY b ys ((e1,hD).32,e1).70)
    . exact same _ _ (un.J0 b o u ((e1,hD).32,e1).70)
    . obtain⟨more,e2⟩:=un.N7 b qs ((e1,hD).32,e1).70;exact⟨more,same _ _ e2⟩
    . by_cases ha:a=D
      . subst ha;rw[aI] at ea;cases ea;exact⟨z,bY,n,rv,eD2⟩
      . rw[bF ha] at ea;exact(cZ a o ea).HX (λ_ _ _ q=>q) (λb q=>same _ _ q) λb ys q=>same _ _ q
theorem dC.frame{P:Program}{w:World}{K:PySem.W.Frag}{mg:k.3}{base:Heap}{k:Nat}{x:Str}{ps:x.3}{sp:Sp}(D:dC P w K mg base kJ k x ps sp):dC P w K mg base kJ k x ps (spF sp):=by obtain⟨f,fd,F,h⟩:=D.ex;exact⟨f,fd,oI.frame F,h⟩
end G
namespace G
open PySem PySem.Spec PyProof.Rows L2
open Sy27 (Clue)
theorem aHc{s:Sy27.St}{x:Sy27.Call}(h:Sy27Neutral.callOf H.3=some x):s.763=((R.10).1,R.10.683):=by unfold Sy27Neutral.step;rw[h]
theorem aCM: ∀(rs:n.4) (s:Sy27.St),(M.mR s rs,rs.length+Sy27Neutral.many s rs).6
 |[],_=>rfl
 |r::rs,s=>by unfold M.mR Sy27Neutral.many;rw[List.length_cons,List.length_append,aCM rs,List.length_cons];omega
theorem aCN(rs ts:n.4):M.eZ (rs++ts)=M.eZ rs++M.eZ ts:=by unfold M.eZ;rw[bT]
theorem z5(t:a.3):(M.gW t,t.length+1).6:=by unfold M.gW M.uB;rw[List.length_cons,aA]
theorem YN{rs:d.3}(h:rs.length<=60)(h2: ∀r∈rs,h.11):(M.p8 rs,3661).8:=by
 unfold M.p8;rw[List.length_cons];have:=fO (f:=M.gW) (n:=61) (l:=rs) λr hr=>by rw[z5];have:=h2 r hr;omega
 have:rs.length*61<=60*61:=eC _ h;omega
theorem aHd{x:Sy27.Call}(h:M.oP x):(H.3,100000).8:=by
 cases x with
 |begins n vs=>have:=YN h.2.1 h.2.2;show _+1+1<=_;omega
 |clue c=>
  have h:M.oO c:=h;show(M.nM c).length+1<=_
  cases c with
  |reads t ws y=> have h1:=YN h.2.1 h.2.2;have h2:=z5 t;have h3:=h.1;show(M.gW t++(M.p8 ws++[M.yI y])).length+1+1<=_;rw[List.length_append,List.length_append,List.length_singleton];omega
  |first a b y=>show 4+1<=_;omega
  |last a b y=>show 4+1<=_;omega
  |value a vs=> have h2:=z5 vs;have h:vs.length<=60:=h;show(M.gW vs).length+1+1+1<=_;omega
  |within t r y=> have h2:=z5 t;have h3:=z5 r;have h4:=h.1;have h5:=h.2;show(M.gW t++(M.gW r++[M.yI y])).length+1+1<=_;rw[List.length_append,List.length_append,List.length_singleton];omega
 |readings t=> have h2:=z5 t;have h:t.length<=60:=h;show(M.gW t).length+1<=_;omega
 |drop k=>show 2<=_;omega
 |way k=>show 2<=_;omega
 |possible k=>show 2<=_;omega
 |ways=>show 1<=_;omega
 |certain=>show 1<=_;omega
 |settle=>show 1<=_;omega
 |ask=>show 1<=_;omega
 |needless=>show 1<=_;omega
 |clash=>show 1<=_;omega
theorem aBq:Good ⟨0,[]⟩ [] []:=⟨aW _,aW _,⟨eO,λv hv=>(by cases hv),λv hv=>(by cases hv),aW _⟩,.nil,⟨λc hc=>(by cases hc)⟩,aW _,λh=>absurd h r.3⟩
theorem aCO{H:Hp}{D:Addr}(h:D.21):D.97=H:=by
 funext b;unfold hide;split
 . rename_i e;rw[e,h]
 . rfl
def aEt(K:PySem.W.Frag)(cl:Addr)(L:e.3)(H:Hp)(z:Addr):Prop:=(∃o,(cl,o).5/\(o= .lst L\/∃ob,o= .N3 ob (.lst L))/\cl≠z)\/∀H',bP K H' cl L
theorem aEt.sq{K:PySem.W.Frag}{cl z:Addr}{L:e.3}{H H':Hp}(s:s.3)(h:aEt K cl L H z):bP K H' cl L:=by
 rcases h with⟨o,e,rfl|⟨ob,rfl⟩,_⟩|h
 . exact bP.of e.42
 . exact .inl (ob,e.42).59
 . exact h H'
section
variable{P:Program}{w:World}{K:PySem.W.Frag}{mg:k.3}{base:Heap}{A:Ad}
def uZ(K:PySem.W.Frag)(t:lP):Sp:=λvs H Q _=>∃(cl:Addr) (xs:List Sy27.Call),vs=cl.43/\bP K H cl (M.eZ (xs.map M.bR)).95/\jJ t H/\(∀x∈xs,M.oP x/\Sy27Neutral.callOf H.3=some x)/\xs.length<=60/\(Sy27Neutral.many Sy27.start (xs.map M.bR)).546/\
 ∀H' r,jJ t H'->(H' r,R.13.95).12->r.84
theorem N1:(["calls","script","given","place","start","answered"],["calls"],FJ).5:=o.3
theorem UO(T:n.3)(X:W.3){t:lP}(B:p.4){ct:Addr}{fs:i.3}(C:aG8 K mg A ct fs):Body P w K mg base ["calls","script","given","place","start","answered"] "answers" FJ 24 (uZ K t):=by
 intro f fJ Ar outer s H vs Q E hr h;obtain⟨cl,xs,rfl,z7,hT,hxs,a12,aYR,kQ⟩:=h;have nd:=N1.nd;have tG:(2).27:=t.3;refine⟨_,(aK (1,aFz (NR T) tG rfl).14
  (aK (c7 aJ).524
  (aK (3,bC).14
  (aK (aEX bL ((O9,pv 3,(pv 0).87).9) (aK (4,d6 lY (pv 3) bC).14
  (aK (3,d6 lY (pv 4) (pv 0,d6 lY (pv 3) bC).46).14
  (aK (5,(dC.frame (aEr T X B C),hr,(pv 1,gY (slL K) (pv 0) (gS (pv 4)) (gS (pv 3))).21).6).14
  (aK ((pv 2,(pv 5).87).63)
  (aP (tZ,pv 2,pv 5).35))))))
  (pv 2).47)))),?_⟩
 refine λx dx JS aMX hdx=>?_;have sa:W.5.34:=aMX.76;have sb:aL W.5 (upd W.5 x (A.Script,[]).22):=(Ne.symm hdx,JS).29.86;have s1:=sa.trans sb;have e1:upd W.5 x (A.Script,[]).22 x=_:=aI;generalize upd W.5 x (A.Script,[]).22=H1 at s1 e1⊢;clear sa sb;refine⟨x,dx,rfl,e1,λH2 a hax aMY b2 vC aWO aWP aWD IF=>(?_).73⟩;subst hax aMY;have M0:H2.34:=b2.same s1 JS;have CB:=hT.same M0;have lf:=nD.zs vC CB;have rZ:iR A t H2 a Sy27.start.script Sy27.start.clues []:=⟨.gL,aBq,vC,CB,(lf.lst aWO).645,(lf.lst aWP).645,B.3⟩;refine(λgv hgv=>?_).596;have s3:aL H2 gv.557:=hgv.528;have e3:(upd H2 gv (.lst []) gv).536:=aI;have h3:hide gv gv.557=H2:=(qZ,aCO hgv).7
 generalize gv.557=H3 at s3 e3 h3⊢;have hcr:aEt K cl (M.eZ (xs.map M.bR)).95 H2 a.ru:=by
  have go:∀{o},(cl,o).5->cl≠a.ru:=λ{o} e z=>by have e:=e.26;rw[z,IF] at e;cases e
  rcases z7 with(e|⟨ob,e⟩)|q
  . exact .inl (M0 _ _ e,B.3,go e).10
  . exact .inl (M0 _ _ e,.inr ob.80,go e).10
  . exact .inr λH'=> .inr q
 have aRs:(R.13,1000060).8:=(aCM,aA).65
 refine⟨λm σ H'=>∃(pre suf:List Sy27.Call) (a:SC) (rs:D.3) (st:Sy27.St) (v4 v5:N.4) (G:f.3),xs=pre++suf/\suf.length=m/\σ=[cl.8,a.x.8,gv.8,((M.eZ (pre.map M.bR)).length).32,v4,v5]/\
  aEt K cl (M.eZ (xs.map M.bR)).95 (hide gv H') a.ru/\iR A t (hide gv H') a st.script st.clues rs/\(H' gv,h.10).12/\R.13=G++M.mR st (suf.map M.bR),
  ⟨_,[],xs,a,[],Sy27.start,none,none,[],rfl,rfl,rfl,(h3,hcr).3,(h3,rZ).3,e3,rfl⟩,?_⟩
 rintro m σ H4 ⟨pre,suf,a,rs,st,v4,v5,G,hxe,BO,rfl,aNs,YM,aNt,YO⟩;have aCQ:=aNs.sq (jF gv H4);have kY:M.eZ (xs.map M.bR)=M.eZ (pre.map M.bR)++M.eZ (suf.map M.bR):=by rw[hxe,bH,aCN]
 generalize hp:(M.eZ (pre.map M.bR)).length=p;refine⟨_,rfl,_,rfl,cl,_,rfl,.inl aCQ,_,_,rfl,rfl,_,rfl,?_⟩;rw[aA]
 cases suf with
 |nil=> rw[List.map_nil,show M.eZ []=[] from rfl,List.append_nil] at kY;rw[aQ (kY,hp).65];refine d5 (kQ H4 gv (by obtain⟨_,_,_,IV,_⟩:=YM;exact IV.same (jF gv H4)) ?_).28;rw[aNt,YO];show _=some (HO.lst (G++[]).95);rw[List.append_nil]
 |cons x suf=>
  have hpx:M.eZ ((x::suf).map M.bR)=0::H.3.564::(H.3++M.eZ (suf.map M.bR)):=rfl;rw[hpx] at kY;generalize i3:M.eZ (xs.map M.bR)=all at aNs aCQ kY;have lO:p<all.length:=by rw[kY,List.length_append,hp,List.length_cons];omega
  have hg1:(all,p+1,H.3.564).4:=by rw[kY,zD b.3,hp,(p+1-p=1).36];rfl
  have hdr:(all.drop (p+2)).take (H.3).length=H.3:=by rw[kY,<-hp,aBx,fC b.3,List.nil_append,show∀n:Nat,n+2-n=2 by intro n;omega];show(H.3++_).take _=_;rw[List.take_left]
  have hxm:=hxs x hxe.89;rw[W.4];refine gO ⟨λσ' H'=>∃(aJD aHe:List Sy27.Call) (a:SC) (rs:D.3) (st:Sy27.St) (v4 v5:N.4) (G:f.3),xs=aJD++aHe/\aHe.length=suf.length/\σ'=[cl.8,a.x.8,gv.8,((M.eZ (aJD.map M.bR)).length).32,v4,v5]/\
   aEt K cl (all.map V.int) (hide gv H') a.ru/\iR A t (hide gv H') a st.script st.clues rs/\(H' gv,h.10).12/\R.13=G++M.mR st (aHe.map M.bR),?_,?_⟩
  . rintro σ' H' ⟨aJD,aHe,a',rs',iO,u4,u5,G',k1,k2,k3,k4,k5⟩;exact⟨suf.length,by rw[<-BO,List.length_cons];omega,aJD,aHe,a',rs',iO,u4,u5,G',k1,k2,k3,k4,k5⟩
  refine(_,rfl).119;refine⟨_,rfl,_,rfl,_,rfl,_,_,rfl,rfl,cl,_,_,_,rfl,rfl,aCQ,cC (j:=p+1) hg1.537,_,_,rfl,rfl,?_⟩;refine⟨_,rfl,_,rfl,_,rfl,_,rfl,_,rfl,_,rfl,cl,_,rfl,aCQ,λnl hnl=>?_⟩;have aWQ:(all.map V.int,some (p.6+2),p.6+2+H.3.564).21=H.3.95:=by rw[(p.6+2+H.3.564=(p+2+(H.3).length).22).36,(p.6+2=(p+2).22).36,SY _ b.3,<-RW,<-RX,(p+2+(H.3).length-(p+2)=(H.3).length).36,hdr]
  rw[aWQ];have s5:aL H4 (H4,nl,H.3.95).3:=(H4,hnl).20;have e5:(upd H4 nl (.lst H.3.95) nl,H.3.95).12:=aI;generalize (H4,nl,H.3.95).3=H5 at s5 e5⊢;have hng:nl≠gv:=(aNt,hnl).60;have hm5:=uK (D:=gv) s5;have aRt:=YM.same hm5;refine⟨gv,_,aNt.60,a,nl,st,rs,x,rfl,aRt,(hng,e5).70,aHd hxm.1,hxm.1,λH6 a' rs' r aWR aYT s6 aWS aWT hr6 hgn=>?_⟩;have hrg:r≠gv:=λz=>by rw[z,hgn] at hr6;cases hr6
  have aWU:aEt K cl (all.map V.int) H6 a'.ru:=by
   rcases aNs with⟨o,e,ho,iK⟩|q;case inr=>exact .inr q
   have aHf:=hm5 _ _ e;obtain⟨kv,_,hx5,hT5,_⟩:=id aRt;obtain⟨φ,t1⟩:=hT5.t1.there;obtain⟨ψ,t2⟩:=hT5.t2.there;have n1: ∀C d fs,o≠.ins C d fs:=λC d fs z=>by
    rcases ho with ho|⟨ob,ho⟩
    . rw[ho] at z;cases z
    . rw[ho] at z;cases z
   have n2: ∀φ,o≠c.4:=λφ z=>by
    rcases ho with ho|⟨ob,ho⟩
    . rw[ho] at z;cases z
    . rw[ho] at z;cases z
   refine .inl ⟨o,(?_).518,ho,?_⟩
   . rw[mW ?_]
     . exact aHf
     . intro hm;rcases f.10 with z|hm
       . exact cU aHf hx5 (n1 _ _ _) z
       rcases f.10 with z|hm
       . exact iK z
       rcases f.10 with z|hm
       . exact cU aHf t1 (n2 _) z
       . exact cU aHf t2 (n2 _) (List.mem_singleton.mp hm)
   . rcases aWS with z|z
     . rw[z];exact iK
     . exact λe=>by rw[<-e,aHf] at z;cases z
  have h7:hide gv (H6,gv,h.10).3=H6:=(qZ,aCO hgn).7
  have e7:upd H6 gv (.lst h.10) gv=_:=aI;have hr7:upd H6 gv (.lst h.10) r=_:=(bF hrg).trans hr6;generalize (H6,gv,h.10).3=H7 at h7 e7 hr7⊢;have EG:=aHc (s:=st) hxm.2;have aRu:M.mR st ((x::suf).map M.bR)=x.83.683.564::(x.83.683++M.mR (x.83).1 (suf.map M.bR)):=by show((st.763).2).564::((st.763).2++M.mR (st.763).1 _)=_;rw[EG]
  rw[aRu] at YO;rw[YO,List.length_append,List.length_cons,List.length_append] at aRs;generalize x.83.683=O at hr6 hr7 YO aRs;refine⟨_,rfl,e7.502,_,rfl,r,_,rfl,hr7.35,gv,_,_,rfl,rfl,e7,bJ.663,?_⟩;rw[show(O.map V.int,O.length).6 by rw[aA]];have h8:hide gv (H7,gv,h.10++[O.length.516]).3=H6:=(qZ,h7).7
  have e8:upd H7 gv (.lst (h.10++[O.length.516])) gv=_:=aI;have hr8:upd H7 gv (.lst (h.10++[O.length.516])) r=_:=(bF hrg).trans hr7;generalize (H7,gv,h.10++[O.length.516]).3=H8 at h8 e8 hr8⊢;refine⟨_,rfl,e8.502,_,rfl,gv,r,_,_,rfl,rfl,e8,hr8,by rw[List.length_append,aA,aA,bJ];show _+1+_<=_;omega,?_⟩;refine⟨pre++[x],suf,a',rs',(x.83).1,some (.int (p.6+2)),r.8,G++(O.length.6::O),?_,rfl,?_,?_,?_,?_,?_⟩
  . rw[hxe,cA];rfl
  . rw[aWR,bH,aCN,List.length_append,hp];have e:(M.eZ ([x].map M.bR),2+(H.3).length).6:=by show(0::H.3.564::(H.3++[])).length=_;rw[List.append_nil,List.length_cons,List.length_cons];omega
    rw[e];show [_,_,_,some (V.int (p.6+2+H.3.564)),_,_]=[_,_,_,some (V.int (p+(2+(H.3).length)).22),_,_];rw[(p.6+2+H.3.564=(p+(2+(H.3).length)).22).36]
  . rw[qZ,h8];exact aWU
  . rw[qZ,h8];exact aWT
  . rw[aI,bH,List.map_cons,cA];rfl
  . rw[YO,cA];rfl
theorem aBr(T:n.3)(X:W.3){t:lP}{ct:Addr}{fs:i.3}(C:aG8 K mg A ct fs){fa:Addr}(hm:("answers",fa).37): ∃fd,Binds K fd ["calls"] []/\∀base,p.4->oI P w K mg base kJ 25 fa fd ["calls"] (uZ K t):=by obtain⟨f,fd,F,XC⟩:=T.QW.ex;rw[hm] at XC;injection XC with XC;injection XC with XC;subst XC;exact⟨fd,F.binds E.5,λbase B=>F.ok N1 (λvs H Q E h=>by obtain⟨_,_,rfl,_⟩:=h;rfl) (UO T X B C fa)⟩
end
end G
namespace G
open PySem PySem.Spec PyProof.Rows L2
open PySem.W (WData WellAll ReadsW ReadsAllW)
theorem aBs{K:PySem.W.Frag}{H H':Hp}(s:s.3){xs:e.3}{ds:L.4}(h:pP K H xs ds):pP K H' xs ds:=by
 have kL: ∀{a ys},ys.75->bP K H' a ys:=λ{a ys} q=>by
  rcases q with(q|⟨o,q⟩)|q
  . exact .inl (.inl q.42)
  . exact .inl (.inr ⟨o,q.42⟩)
  . exact .inr q
 have kT: ∀{a ys},lN K H a ys->lN K H' a ys:=λ{a ys} q=>by
  rcases q with(q|⟨o,q⟩)|q
  . exact .inl (.inl q.42)
  . exact .inl (.inr ⟨o,q.42⟩)
  . exact .inr q
 exact pP.rec (motive_1:=λv d _=>Dw K H' v d) (motive_2:=λvs ds _=>pP K H' vs ds) .gL (λb=> .bl b) (λi=> .int i) (λx=> .str x) (λb=> .O6 b) (λq _ ih=> .lst (kL q) ih) (λq _ ih=> .tup (kT q) ih) .nil (λ_ _ i1 i2=> .cons i1 i2) h
theorem aBt{P:Program}{w:World}{K:PySem.W.Frag}{mg mb:k.3}{k:Nat}{fa:Addr}{fd:FuncData}{ps:x.3}{sp:Sp}{s₁:Shared}{vals:h.3}{ds:L.4}{R:PySem.W.WRecords}{cl:Str->M.4}{d0:WData}{p1 p2:Addr}
 (KX:K.In s₁.heap) (hns:s₁.heap.Ns mainGlobals mg) (hb:s₁.heap.Ns builtinsNs mb) (hbb: ∀x:Str,x≠"__name__"->mb x=bootBuiltins x) (aD9:s₁.heap.NoLimit) (hg:s₁.gens= #[])
 (hbm:Bt mg s₁.heap) (hnt:(PySem.W.noTabs K).7) (XE:p1.785) (U1:p2.785) (wU:isCodeTable s₁.heap p1) (GB:isCodeTable s₁.heap p2) (iK:p1≠p2)
 (hwl:WellAll w.params s₁.heap vals ds) (kY:(ID ds).7) (hwt: ∀d∈ds,d.weight<=1048576) (hr:cS k callerA)
 (F: ∀base:Heap,Mod K mg base->Bt mg base->oI P w K mg base kJ k fa fd ps sp) (aRv:K.627) (hlen:ds.length=ps.length)
 (R7: ∀(H:Hp) (xs:e.3),(p1,(p1,#[]).56).5->(p2,t.5).5->pP K H xs ds->sp xs H d0.798 l.12):
 codeAny (model P w) callerA (.call (.ref fa) vals.93) (λr s'=>∃u as,r= .ok (.ret u)/\ReadsW R cl s'.heap u d0 as/\OldK s₁.heap s'.heap/\s'.os=s₁.os/\AllBare s'.gens) s₁:=by
 obtain⟨A,ho,ar⟩:=CS ds vals hwl kY hwt;have noS: ∀{b:Addr} {o:Obj},(s₁.heap.get? b).23->(∀vs n,o.data≠.seq vs n)->c.13.9:=λ{b o} e d=>by
  cases q:c.13 with
  |none=>rfl
  |some u=>
   obtain⟨_,vs,_,_,⟨e2,_⟩|⟨e2,_⟩⟩:=JL ar q
   . rw[e2] at e;cases e;exact absurd rfl (d _ _)
   . rw[e2] at e;cases e;exact absurd rfl (d _ _)
 have z1:(lC K s₁.heap A p1).9:=noS XE (λ_ _ z=>nomatch z);have z2:(lC K s₁.heap A p2).9:=noS U1 (λ_ _ z=>nomatch z);have hO:aJ0 p.12:=aDh ar;have aMv:oV P w p.12 s₁.heap:=aH5 ar;have hS0:=SN KX ar ds vals hwl kY ho;have hV:=t7 ho;have hK0:∀b u,c.13.67->(K.lookup b).9:=λb u q=>(JL ar q).1;have e1:aL p.12 (upd p.12 p1 (p1,#[]).56):=z1.86;have z2':(upd p.12 p1 (p1,#[]).56 p2).9:=(iK.symm,z2).29
 have e2:aL s.10 (upd s.10 p2 t.5):=z2'.86;have cZ:oV P w (upd s.10 p2 t.5) s₁.heap:=JV (JV aMv z1 (tV XE XE.20 F1)) z2' (tV U1 U1.20 F1);have hS:=aBs (e1.trans e2) hS0;have hH: ∀b u,(upd s.10 p2 t.5 b).67->b=p1\/b=p2\/c.13.67:=λb u e=>by
  by_cases h2:b=p2
  . exact .inr (.inl h2)
  . rw[bF h2] at e;by_cases h1:b=p1
    . exact .inl h1
    . rw[bF h1] at e;exact .inr (.inr e)
 have g1:upd s.10 p2 t.5 p1=some (p1,#[]).56:=e2 _ _ aI;have g2:upd s.10 p2 t.5 p2=some t.5:=aI;have free:∀{b:Addr} {o:Obj},(s₁.heap.get? b).23->(∀vs n,o.data≠.seq vs n)->(∀vs,o.data≠.fields vs)->(upd s.10 p2 t.5 b).9:=λ{b o} e d f=>(bF (λz=>by rw[z,U1] at e;cases e;exact f _ rfl),bF (λz=>by rw[z,XE] at e;cases e;exact f _ rfl),noS e d).18
 have hfz: ∀b u,(upd s.10 p2 t.5 b).67->b=p1\/b=p2\/∃o v,u= .N3 o v:=λb u e=>by
  rcases hH b u e with h|h|h
  . exact .inl h
  . exact .inr (.inl h)
  . rcases hO b with z|⟨o,v,z⟩
    . rw[h] at z;cases z
    . rw[h] at z;cases z;exact .inr (.inr (_).63)
 have nK: ∀b o,(K.lookup b).23->(upd s.10 p2 t.5 b).9:=λb o e=>by
  have nt:∀p,p.785->b≠p:=λp hp z=>by subst z;have:=KX b o e;rw[hp] at this;cases this;have h2:=List.all_eq_true.mp hnt _ (PySem.W.mem_of_lookupK e);exact absurd (show false.7 from h2) a8
  rw[bF (nt _ U1),bF (nt _ XE)]
  cases q:c.13 with
  |none=>rfl
  |some u=>rw[hK0 b u q] at e;cases e
 generalize upd s.10 p2 t.5=H at cZ hS g1 g2 free hfz nK;have UP:∀{b:Addr} {o:Obj},(s₁.heap.get? b).23->b.21->((B.12).get? b).23:=λe n=>aEQ e n;have nsK:∀{b:Addr} {m:k.3},s₁.heap.Ns b m->(B.12).Ns b m:=λ{b m} ⟨o,es,ep,e,d,r⟩=>⟨o,es,ep,UP e (free e (λ_ _ z=>d.709) (λ_ z=>d.709)),d,r⟩;have hKb:K.In B.12:=λb o e=>UP (KX b o e) (nK b o e);have hM:Mod K mg B.12:=⟨hKb,nsK hns,⟨mb,nsK hb,hbb⟩,let ⟨mc,h1,h2⟩:=aD9;⟨mc,nsK h1,h2⟩⟩;have hB:Bt mg B.12:=by obtain⟨bm,ob,b1,b2,b3,b4,b5,b6⟩:=hbm.ex;exact⟨bm,ob,b1,b2,UP b3 (free b3 (λ_ _ z=>b6.709) (λ_ z=>b6.709)),b4,b5,b6⟩
 have e0:VD P w K mg B.12 callerA [] s₁ H:=⟨rfl,hM,λb o e=>aHE e,YS (aCY _ _),trivial,λb hb=>(show b∈([]:i.3) from hb).515,cZ,.of_eq hg⟩;have hl:vals.length=ps.length:=(sF hwl,hlen).3
 have hbd:=aRv s₁ vals KX (List.append_nil,hl).3;rw[List.append_nil] at hbd;refine vA ((F _ hM hB).run callerA [] s₁ H vals.93 vals (vals.map toV) _ _ hr e0 hbd hV (R7 H _ g1 g2 hS)) λr s' x=>?_
 cases r with
 |error e=>exact x.elim
 |ok fl=>
  cases fl with
  |next=>exact False.elim x
  |brk=>exact False.elim x
  |cont=>exact False.elim x
  |ret u=>
   obtain⟨v,H',os,bare,un,aBp,r',q,⟨q1s,q1⟩,q2s,q2⟩:=x;have t1:s'.heap.get? p1=some (PySem.W.tabObj q1s):=(aBp p1 _ q1).1;have t2:s'.heap.get? p2=some (PySem.W.tabObj q2s):=(aBp p2 _ q2).1;have kept: ∀b o,(s₁.heap.get? b).23->b≠p1->b≠p2->(s'.heap.get? b).23:=λb o e n1 n2=>by
    cases q3:H b with
    |none=>exact un.keep b o e q3 (by intro z;exact(show b∈([]:i.3) from z).515) c.3
    |some u2=>
     rcases hfz b u2 q3 with z|z|⟨ob,u3,rfl⟩
     . exact absurd z n1
     . exact absurd z n2
     . have z2:=un.J0 b ob _ q3;obtain⟨k1,_⟩:=cZ b _ q3;obtain⟨k2,_⟩:=aBp b _ z2;rw[e] at k1;cases k1;exact k2
   have KX':K.In s'.heap:=λb o e=>kept b o (KX b o e) (λz=>by have:=nK b o e;rw[z,g1] at this;cases this) (λz=>by have:=nK b o e;rw[z,g2] at this;cases this);obtain⟨as,hrd⟩:=Dw.reads (R:=R) (cl:=cl) aBp KX' d0 v u q r';refine⟨u,as,rfl,hrd,⟨D.10,D.10⟩,os,bare⟩
   . by_cases n1:b=p1
     . subst n1;rw[XE] at e;cases e;exact .inr (.inl ⟨wU,rfl,#[],q1s,rfl,(Array.empty_append,t1).3⟩)
     by_cases n2:b=p2
     . subst n2;rw[U1] at e;cases e;exact .inr (.inl ⟨GB,rfl,#[],q2s,rfl,(Array.empty_append,t2).3⟩)
     exact .inl (kept b o e n1 n2)
   . by_cases n1:b=p1
     . subst n1;exact⟨_,t1⟩
     by_cases n2:b=p2
     . subst n2;exact⟨_,t2⟩
     exact⟨o,kept b o e n1 n2⟩
theorem aBu{r:PySem.W.OpenSpec}{k:Nat}{q:Program}{loose:x.3}{XP:((k.3),Heap).16}{YP:(World,Heap).16}{d:DefRec}{K:Params->PySem.W.Frag}{ps:x.3}{sp:PySem.W.Frag->Sp}{x1 x2:Str}{c1 p1 c2 p2:Addr}
 (aRw:r.wellSaid.7) (hdf:d.params.defaults=[]) (hlen:r.args.length=ps.length) (hr:cS k callerA)
 (hY: ∀(w:World) (h:Heap),YP w h->(j.10).In h) (iK:p1≠p2)
 (f1:((recsOf q).find? (λe=>e.name==x1)).563) (f2:((recsOf q).find? (λe=>e.name==x2)).563)
 (KF: ∀w:World,PySem.W.tabIn j.10 x1=some (c1,p1)/\PySem.W.tabIn j.10 x2=some (c2,p2)/\(PySem.W.noTabs j.10).7)
 (F: ∀(w:World) (mg mb:k.3) (aRx:ExcName->v.5) (lw:x.3) (fa:Addr) (h:Heap),(j.10).In h->Top q lw aRx mg mb h->(d.name,fa).37->
  ∃fd:FuncData,j.10.627/\
   ∀base:Heap,Mod j.10 mg base->Bt mg base->oI r.prog w j.10 mg base kJ k fa fd ps (sp j.10))
 (R7: ∀(K:PySem.W.Frag) (H:Hp) (xs:e.3) (a:PySem.W.Codec.denoteAll r.args),(p1,(p1,#[]).56).5->(p2,t.5).5->(PySem.W.Codec.withinAll r.args a).7->(PySem.W.Codec.app r.args r.asked a).7->pP K H xs (PySem.W.Codec.encAll r.args a)->
  sp K xs H (r.ret.enc (PySem.W.Codec.app r.args r.f a)).798 l.12):
 PySem.W.WalkOS q loose XP YP r d [] (λf vs=>PySem.call f vs):=by
 intro w JE s₁ mg mb G Y fa o pm cd doc dV kV ho hd ZC hD hmg hg args vals as aWY aWZ hrd hwl IG;obtain⟨a,e1,e2⟩:=PySem.W.os_pre_some aWY;obtain⟨e3,hwi⟩:=PySem.W.Codec.encAll_of_decAll r.args args a e1;subst e3;have KX:=hY w _ Y;obtain⟨k1,k2,k3⟩:=KF w;obtain⟨d1,f1⟩:=Option.isSome_iff_exists.mp f1;obtain⟨d2,f2⟩:=Option.isSome_iff_exists.mp f2;obtain⟨t1,t1'⟩:=PySem.W.tab_of G.T KX f1 k1;obtain⟨t2,t2'⟩:=PySem.W.tab_of G.T KX f2 k2;obtain⟨fd,hb,hF⟩:=F w mg mb _ _ fa _ KX G.T hmg;refine PySem.W.enter_call (vA (aBt (R:=[]) (cl:=classAt JE.heap) (d0:=r.ret.enc (PySem.W.Codec.app r.args r.f a)) KX G.T.g G.T.b G.T.builtins G.T.nolimit hg ⟨G.T.bmain⟩ k3 t1' t2' (t1.tab t1').isCodeTable (t2.tab t2').isCodeTable iK hwl (PV _ _) (KZ aWZ) hr hF hb ((K0,hlen).3)
  (λH xs g1 g2 hS=>R7 j.10 H xs a g1 g2 hwi e2 hS)) λr' s' hq=>?_)
 obtain⟨u,as',rfl,h1,h2,h3,h4⟩:=hq;exact⟨.inl ⟨u,_,as',rfl,λ_=>rfl,h1,(PySem.W.OpenSpec.post_iff aRw hwi _ _).mpr rfl,λz=>Bool.noConfusion (show false.7 from z)⟩,h2,h3,h4⟩
end G
namespace G
open PySem PySem.Spec PyProof.Rows L2
open PySem.W (WData)
section
variable{K:PySem.W.Frag}{h:Heap}{mg:k.3}
theorem dW{x:Str}{st:Stmt}{f:Addr}{oc:Value}{od an:M.4}{UT:a.10}{kV doc pm fJ ct:Value}(X:K.In h)(G:h.Ns mainGlobals mg)(a:f.8.725)
 (l:(PySem.W.fnOf x x (sE st) (mO st) (aV st) .none kV doc pm an fJ ct).675) (c:x.700) (k:m.11):(x,st).9:=⟨f,_,ZV l c k,cX X G a⟩
theorem pF{C:Addr}{x qual:Str}{st:Stmt}{f:Addr}{oc:Value}{od an:M.4}{UT:a.10}{kV doc pm fJ ct:Value}(a:(x,f.8).77)(i:r.13)
 (l:(PySem.W.fnOf x qual (sE st) (mO st) (aV st) .none kV doc pm an fJ ct).675) (c:qual.700) (k:m.11):Md K C x qual st:=⟨f,_,ZV l c k,a,i,k⟩
theorem YQ{C:Addr}{x qual:Str}{st:Stmt}{f:Addr}{oc:Value}{od an:M.4}{UT:a.10}{kV doc pm fJ ct:Value}(X:K.In h)(G:h.Ns mainGlobals mg)(aC:C.8.725)
 (a:("__init__",f.8).77) (i:r.13) (l:(PySem.W.fnOf "__init__" qual (sE st) (mO st) (aV st) .none kV doc pm an fJ ct).675) (c:qual.700) (k:m.11)
 (pg:Str.empty.724) (hd:g.14) (po:(PySem.W.plainOver K C).7) (sa:f.15) (mk:(PySem.W.makesIn K C).7) (kc:(K,.ref C).105):Cd K mg C x qual st:=
 ⟨⟨pg,hd,po,sa⟩,cX X G aC,f,_,ZV l c k,mk,a,i,kc⟩
theorem tL{x:Str}{n:Int}{t:Tok}(X:K.In h)(G:h.Ns mainGlobals mg)(a:(some (.int n t)).725): (x,n).55:=⟨t,cX X G a⟩
theorem YR{q:Program}{lw:x.3}{x:Str}{C:Addr}(hf: ∀x,x∉startupNames->x∉lw->x∉(recsOf q).map (·.name)->x∉(litsOf q).607->x∉(clssOf q lw).map (·.name)->(mg x).9)
 (a:C.8.725) (e:(PySem.W.excIn K C E.16 "Exception.__new__").7):Xd K mg x C:=
 ⟨λh M=>by obtain⟨mb,hb,hbb⟩:=M.blt;exact PySem.W.own_of_in (p:=q) (loose:=lw) (mb:=mb) M.kin ⟨M.glob,hb,M.nolimit,hbb,hf⟩ a e⟩
theorem aKI{x:Str}{c p f:Addr}{oc:Value}{od:M.4}{UT:a.10}{fd0:FuncData}(X:K.In h)(G:h.Ns mainGlobals mg)(a:f.8.725)(l:fd0.675)(t:PySem.W.tabIn K x=some (c,p))(e:(PySem.W.codeHdIn K c p).7):Tb K mg x c p:=
 ⟨λst f' fd F hm=>by obtain⟨oc',od',kV,doc,pm,an,fJ,ct,a2c,e1,e2,e3⟩:=F.ex;exact PySem.W.law_code X G t hm (X _ _ e2) rfl,λh X=>PySem.W.codeHd_of_K X e⟩
end
theorem aNu{K:PySem.W.Frag}{ct f0 f1 f2 f3 f4 f5 f6 f7 f8 f9 f10 f11:Addr}{od:M.4}{n:Nat}{sl:a.10}
 (l:K.lookup ct=some ⟨c.5,od,.seq (Array.mk [.ref f0,.ref f1,.ref f2,.ref f3,.ref f4,.ref f5,.ref f6,.ref f7,.ref f8,.ref f9,.ref f10,.ref f11]) n,sl⟩): ∀H:Hp,lN K H ct (([f0,f1,f2,f3,f4,f5,f6,f7,f8,f9,f10,f11]:i.3)).571:=λH=>
 .inr ⟨_,_,n,l,rfl,rfl,(12).514,(.nil).511.511.511.511.511.511.511.511.511.511.511.511⟩
theorem aNv{P:Program}{w:World}{K:PySem.W.Frag}{mg:k.3}{A:Ad}{ct p1 p2 fa:Addr}{fs:i.3}(hm:("answers",fa).37)(t:n.3)(x:W.3)(c:aG8 K mg A ct fs)(b1: ∃c,Tb K mg "search_order" c p1)(b2: ∃c,Tb K mg "all_readings" c p2):
 ∃fd:FuncData,Binds K fd ["calls"] []/\∀base:Heap,Mod K mg base->Bt mg base->oI P w K mg base kJ 25 fa fd ["calls"] (uZ K ⟨p1,p2⟩):=by obtain⟨fd,h1,h2⟩:=aBr (P:=P) (w:=w) (t:=⟨p1,p2⟩) t x c hm;exact⟨fd,h1,λbase _ hB=>h2 base ⟨b1,b2,hB⟩⟩
theorem spS{K:PySem.W.Frag}{H:Hp}{xs:e.3}{p1 p2:Addr}(l:f.3)(iK:p1≠p2)(g1:(p1,(p1,#[]).56).5)(g2:(p2,t.5).5)(aGn:(PySy27.answers_asked l).7)(hx:pP K H xs [.list (l.map WData.int)]){E:XK}:
 uZ K ⟨p1,p2⟩ xs H (.list ((PySy27.answers l).map WData.int)).798 E:=by
 cases hx with
 |cons h1 h2=>
  cases h2
  cases h1 with
  |lst hs ha=>
   have e:=aBW l _ ha;subst e;obtain⟨ys,e1,e2,e3,e4,e5⟩:=M.aDs aGn;refine⟨_,ys,rfl,(e1,hs).15,⟨.inl g1,.inl g2,iK⟩,e3,e4,e5,λH' r hT hr=>(?_,?_).17⟩
   . rw[e2];exact .lst (bP.of hr) (aBV _)
   . rcases hT.t1 with z|⟨_,_,z,_⟩<;>exact⟨_,z⟩
   . rcases hT.t2 with z|⟨_,_,z,_⟩<;>exact⟨_,z⟩
end G
open PySem PySem.W PyProof.Rows
set_option maxRecDepth 100000 in
set_option maxHeartbeats 0 in
theorem PySem.Challenge.cw_signclues_s01_answers_holds : PySem.Challenge.rw_signclues_s01_answers.Holds := by
  w_on; k_headS; (case hw => exact ⟨[.list [.int 0, .int 1, .int 3]], by decide +kernel, by decide +kernel⟩);k_fillS;refine G.aBu (r := PySem.Challenge.rw_signclues_s01_answers) (k := 25) (ps := ["calls"]) (sp := fun K => G.uZ K ⟨277, 83⟩) (x1 := "search_order") (x2 := "all_readings") (c1 := 279) (p1 := 277) (c2 := 87) (p2 := 83) (by decide +kernel) rfl rfl ⟨rfl, by decide, by decide⟩ (fun w h Y => PySem.W.kIn_of Y) (by decide) (by kernel_rfl) (by kernel_rfl) (fun w => ⟨by kernel_rfl, by kernel_rfl, by kernel_rfl⟩) ?F (fun K H xs a g1 g2 hwi aGn hx => G.spS a.1 (by decide) g1 g2 aGn hx);case F =>
    intro w mg mb aRx lw fa h KX T hmg;have GG := T.g;refine' G.aNv (A := ⟨31, 158, 172, 185, 198, 211, 224, 254, 310, 496⟩) (ct := 592) (fs := [514, 521, 528, 535, 542, 549, 556, 563, 570, 577, 584, 591]) hmg ?txt ?xs ?cl ?b1 ?b2;case txt =>
      constructor;case GW => refine' G.dW KX GG ?a ?l ?c ?k; (case a => k_is); (case l => k_is); (case c => k_is); (case k => k_is)
      case AU => refine' G.dW KX GG ?a ?l ?c ?k; (case a => k_is); (case l => k_is); (case c => k_is); (case k => k_is)
      case GX => refine' G.dW KX GG ?a ?l ?c ?k; (case a => k_is); (case l => k_is); (case c => k_is); (case k => k_is)
      case QQ => refine' G.dW KX GG ?a ?l ?c ?k; (case a => k_is); (case l => k_is); (case c => k_is); (case k => k_is)
      case QR => refine' G.dW KX GG ?a ?l ?c ?k; (case a => k_is); (case l => k_is); (case c => k_is); (case k => k_is)
      case uG => refine' G.dW KX GG ?a ?l ?c ?k; (case a => k_is); (case l => k_is); (case c => k_is); (case k => k_is)
      case sR => refine' G.dW KX GG ?a ?l ?c ?k; (case a => k_is); (case l => k_is); (case c => k_is); (case k => k_is)
      case DC => refine' G.dW KX GG ?a ?l ?c ?k; (case a => k_is); (case l => k_is); (case c => k_is); (case k => k_is)
      case xV => refine' G.dW KX GG ?a ?l ?c ?k; (case a => k_is); (case l => k_is); (case c => k_is); (case k => k_is)
      case AV => refine' G.dW KX GG ?a ?l ?c ?k; (case a => k_is); (case l => k_is); (case c => k_is); (case k => k_is)
      case GY => refine' G.dW KX GG ?a ?l ?c ?k; (case a => k_is); (case l => k_is); (case c => k_is); (case k => k_is)
      case QS => refine' G.dW KX GG ?a ?l ?c ?k; (case a => k_is); (case l => k_is); (case c => k_is); (case k => k_is)
      case xW => refine' G.dW KX GG ?a ?l ?c ?k; (case a => k_is); (case l => k_is); (case c => k_is); (case k => k_is)
      case DD => refine' G.dW KX GG ?a ?l ?c ?k; (case a => k_is); (case l => k_is); (case c => k_is); (case k => k_is)
      case AW => refine' G.dW KX GG ?a ?l ?c ?k; (case a => k_is); (case l => k_is); (case c => k_is); (case k => k_is)
      case QT => refine' G.dW KX GG ?a ?l ?c ?k; (case a => k_is); (case l => k_is); (case c => k_is); (case k => k_is)
      case DE => refine' G.dW KX GG ?a ?l ?c ?k; (case a => k_is); (case l => k_is); (case c => k_is); (case k => k_is)
      case L1 => refine' G.dW KX GG ?a ?l ?c ?k; (case a => k_is); (case l => k_is); (case c => k_is); (case k => k_is)
      case xX => refine' G.dW KX GG ?a ?l ?c ?k; (case a => k_is); (case l => k_is); (case c => k_is); (case k => k_is)
      case GZ => refine' G.dW KX GG ?a ?l ?c ?k; (case a => k_is); (case l => k_is); (case c => k_is); (case k => k_is)
      case AX => refine' G.dW KX GG ?a ?l ?c ?k; (case a => k_is); (case l => k_is); (case c => k_is); (case k => k_is)
      case G0 => refine' G.dW KX GG ?a ?l ?c ?k; (case a => k_is); (case l => k_is); (case c => k_is); (case k => k_is)
      case L3 => refine' G.dW KX GG ?a ?l ?c ?k; (case a => k_is); (case l => k_is); (case c => k_is); (case k => k_is)
      case QU => refine' G.dW KX GG ?a ?l ?c ?k; (case a => k_is); (case l => k_is); (case c => k_is); (case k => k_is)
      case G1 => refine' G.dW KX GG ?a ?l ?c ?k; (case a => k_is); (case l => k_is); (case c => k_is); (case k => k_is)
      case L4 => refine' G.dW KX GG ?a ?l ?c ?k; (case a => k_is); (case l => k_is); (case c => k_is); (case k => k_is)
      case xY => refine' G.dW KX GG ?a ?l ?c ?k; (case a => k_is); (case l => k_is); (case c => k_is); (case k => k_is)
      case L5 => refine' G.dW KX GG ?a ?l ?c ?k; (case a => k_is); (case l => k_is); (case c => k_is); (case k => k_is)
      case L6 => refine' G.dW KX GG ?a ?l ?c ?k; (case a => k_is); (case l => k_is); (case c => k_is); (case k => k_is)
      case L7 => refine' G.dW KX GG ?a ?l ?c ?k; (case a => k_is); (case l => k_is); (case c => k_is); (case k => k_is)
      case AY => refine' G.dW KX GG ?a ?l ?c ?k; (case a => k_is); (case l => k_is); (case c => k_is); (case k => k_is)
      case wN => refine' G.dW KX GG ?a ?l ?c ?k; (case a => k_is); (case l => k_is); (case c => k_is); (case k => k_is)
      case DF => refine' G.dW KX GG ?a ?l ?c ?k; (case a => k_is); (case l => k_is); (case c => k_is); (case k => k_is)
      case uH => refine' G.dW KX GG ?a ?l ?c ?k; (case a => k_is); (case l => k_is); (case c => k_is); (case k => k_is)
      case G2 => refine' G.dW KX GG ?a ?l ?c ?k; (case a => k_is); (case l => k_is); (case c => k_is); (case k => k_is)
      case AZ => refine' G.dW KX GG ?a ?l ?c ?k; (case a => k_is); (case l => k_is); (case c => k_is); (case k => k_is)
      case A0 => refine' G.dW KX GG ?a ?l ?c ?k; (case a => k_is); (case l => k_is); (case c => k_is); (case k => k_is)
      case WM => refine' G.dW KX GG ?a ?l ?c ?k; (case a => k_is); (case l => k_is); (case c => k_is); (case k => k_is)
      case WN => refine' G.dW KX GG ?a ?l ?c ?k; (case a => k_is); (case l => k_is); (case c => k_is); (case k => k_is)
      case aFw => refine' G.dW KX GG ?a ?l ?c ?k; (case a => k_is); (case l => k_is); (case c => k_is); (case k => k_is)
      case aFx => refine' G.dW KX GG ?a ?l ?c ?k; (case a => k_is); (case l => k_is); (case c => k_is); (case k => k_is)
      case aFy => refine' G.dW KX GG ?a ?l ?c ?k; (case a => k_is); (case l => k_is); (case c => k_is); (case k => k_is)
      case aJ6 => refine' G.dW KX GG ?a ?l ?c ?k; (case a => k_is); (case l => k_is); (case c => k_is); (case k => k_is)
      case QV => refine' G.dW KX GG ?a ?l ?c ?k; (case a => k_is); (case l => k_is); (case c => k_is); (case k => k_is)
      case L8 => refine' G.dW KX GG ?a ?l ?c ?k; (case a => k_is); (case l => k_is); (case c => k_is); (case k => k_is)
      case L9 => refine' G.dW KX GG ?a ?l ?c ?k; (case a => k_is); (case l => k_is); (case c => k_is); (case k => k_is)
      case WO => refine' G.dW KX GG ?a ?l ?c ?k; (case a => k_is); (case l => k_is); (case c => k_is); (case k => k_is)
      case aJ7 => refine' G.dW KX GG ?a ?l ?c ?k; (case a => k_is); (case l => k_is); (case c => k_is); (case k => k_is)
      case MA => refine' G.dW KX GG ?a ?l ?c ?k; (case a => k_is); (case l => k_is); (case c => k_is); (case k => k_is)
      case aB3 => refine' G.dW KX GG ?a ?l ?c ?k; (case a => k_is); (case l => k_is); (case c => k_is); (case k => k_is)
      case WQ => refine' G.dW KX GG ?a ?l ?c ?k; (case a => k_is); (case l => k_is); (case c => k_is); (case k => k_is)
      case QW => refine' G.dW KX GG ?a ?l ?c ?k; (case a => k_is); (case l => k_is); (case c => k_is); (case k => k_is)
      case DG => refine' G.tL KX GG ?a; (case a => k_is)
      case tR => refine' G.tL KX GG ?a; (case a => k_is)
      case lG => refine' G.tL KX GG ?a; (case a => k_is)
      case A2 => refine' G.tL KX GG ?a; (case a => k_is)
      case sS => refine' G.tL KX GG ?a; (case a => k_is)
      case DH => refine' G.tL KX GG ?a; (case a => k_is)
      case mS => refine' G.tL KX GG ?a; (case a => k_is)
      case vK => refine' G.tL KX GG ?a; (case a => k_is)
      case xZ => refine' G.tL KX GG ?a; (case a => k_is)
      case DI => refine' G.tL KX GG ?a; (case a => k_is)
      case DJ => refine' G.tL KX GG ?a; (case a => k_is)
      case x4 => refine' G.tL KX GG ?a; (case a => k_is)
      case DK => refine' G.tL KX GG ?a; (case a => k_is)
      case x5 => refine' G.tL KX GG ?a; (case a => k_is)
      case FK => refine' G.YQ (C := 31) KX GG ?aC ?a ?i ?l ?c ?k ?pg ?hd ?po ?sa ?mk ?kc; (case aC => k_is); (case a => k_is); (case i => k_is); (case l => k_is); (case c => k_is); (case k => k_is); (case pg => k_is); (case hd => k_is); (case po => k_is); (case sa => k_is); (case mk => k_is); (case kc => k_is)
      case cF => show PySem.W.findIn _ (.ref 31) "kind" = some none; k_is
      case jQ => show PySem.W.findIn _ (.ref 31) "text" = some none; k_is
      case gK => show PySem.W.findIn _ (.ref 31) "parts" = some none; k_is
      case tS => show PySem.W.findIn _ (.ref 31) "wanted" = some none; k_is
      case iW => refine' G.YQ (C := 158) KX GG ?aC ?a ?i ?l ?c ?k ?pg ?hd ?po ?sa ?mk ?kc; (case aC => k_is); (case a => k_is); (case i => k_is); (case l => k_is); (case c => k_is); (case k => k_is); (case pg => k_is); (case hd => k_is); (case po => k_is); (case sa => k_is); (case mk => k_is); (case kc => k_is)
      case pC => refine' G.pF (C := 158) ?a ?i ?l ?c ?k; (case a => k_is); (case i => k_is); (case l => k_is); (case c => k_is); (case k => k_is)
      case sV => refine' G.pF (C := 158) ?a ?i ?l ?c ?k; (case a => k_is); (case i => k_is); (case l => k_is); (case c => k_is); (case k => k_is)
      case qS => refine' G.pF (C := 158) ?a ?i ?l ?c ?k; (case a => k_is); (case i => k_is); (case l => k_is); (case c => k_is); (case k => k_is)
      case lU => show PySem.W.findIn _ (.ref 158) "numbers" = some none; k_is
      case iC => show PySem.W.findIn _ (.ref 158) "place" = some none; k_is
      case lH => refine' G.YQ (C := 254) KX GG ?aC ?a ?i ?l ?c ?k ?pg ?hd ?po ?sa ?mk ?kc; (case aC => k_is); (case a => k_is); (case i => k_is); (case l => k_is); (case c => k_is); (case k => k_is); (case pg => k_is); (case hd => k_is); (case po => k_is); (case sa => k_is); (case mk => k_is); (case kc => k_is)
      case qT => refine' G.pF (C := 254) ?a ?i ?l ?c ?k; (case a => k_is); (case i => k_is); (case l => k_is); (case c => k_is); (case k => k_is)
      case nN => refine' G.pF (C := 254) ?a ?i ?l ?c ?k; (case a => k_is); (case i => k_is); (case l => k_is); (case c => k_is); (case k => k_is)
      case gP => show PySem.W.findIn _ (.ref 254) "order" = some none; k_is
      case qU => show PySem.W.findIn _ (.ref 254) "moves" = some none; k_is
      case nO => show PySem.W.findIn _ (.ref 254) "yes_ends" = some none; k_is
      case oR => show PySem.W.findIn _ (.ref 254) "no_ends" = some none; k_is
      case qV => show PySem.W.findIn _ (.ref 254) "limit" = some none; k_is
      case p9 => show PySem.W.findIn _ (.ref 254) "way" = some none; k_is
      case iD => show PySem.W.findIn _ (.ref 254) "found" = some none; k_is
      case oX => show PySem.W.findIn _ (.ref 254) "lost" = some none; k_is
      case jT => refine' G.YQ (C := 310) KX GG ?aC ?a ?i ?l ?c ?k ?pg ?hd ?po ?sa ?mk ?kc; (case aC => k_is); (case a => k_is); (case i => k_is); (case l => k_is); (case c => k_is); (case k => k_is); (case pg => k_is); (case hd => k_is); (case po => k_is); (case sa => k_is); (case mk => k_is); (case kc => k_is)
      case mE => show PySem.W.findIn _ (.ref 310) "whole" = some none; k_is
      case lV => show PySem.W.findIn _ (.ref 310) "keep" = some none; k_is
      case mF => show PySem.W.findIn _ (.ref 310) "touch" = some none; k_is
      case c8 => refine' G.YQ (C := 496) KX GG ?aC ?a ?i ?l ?c ?k ?pg ?hd ?po ?sa ?mk ?kc; (case aC => k_is); (case a => k_is); (case i => k_is); (case l => k_is); (case c => k_is); (case k => k_is); (case pg => k_is); (case hd => k_is); (case po => k_is); (case sa => k_is); (case mk => k_is); (case kc => k_is)
      case x6 => refine' G.pF (C := 496) ?a ?i ?l ?c ?k; (case a => k_is); (case i => k_is); (case l => k_is); (case c => k_is); (case k => k_is)
      case sW => refine' G.pF (C := 496) ?a ?i ?l ?c ?k; (case a => k_is); (case i => k_is); (case l => k_is); (case c => k_is); (case k => k_is)
      case qW => refine' G.pF (C := 496) ?a ?i ?l ?c ?k; (case a => k_is); (case i => k_is); (case l => k_is); (case c => k_is); (case k => k_is)
      case uI => refine' G.pF (C := 496) ?a ?i ?l ?c ?k; (case a => k_is); (case i => k_is); (case l => k_is); (case c => k_is); (case k => k_is)
      case uJ => refine' G.pF (C := 496) ?a ?i ?l ?c ?k; (case a => k_is); (case i => k_is); (case l => k_is); (case c => k_is); (case k => k_is)
      case A3 => refine' G.pF (C := 496) ?a ?i ?l ?c ?k; (case a => k_is); (case i => k_is); (case l => k_is); (case c => k_is); (case k => k_is)
      case qX => refine' G.pF (C := 496) ?a ?i ?l ?c ?k; (case a => k_is); (case i => k_is); (case l => k_is); (case c => k_is); (case k => k_is)
      case pS => refine' G.pF (C := 496) ?a ?i ?l ?c ?k; (case a => k_is); (case i => k_is); (case l => k_is); (case c => k_is); (case k => k_is)
      case pT => refine' G.pF (C := 496) ?a ?i ?l ?c ?k; (case a => k_is); (case i => k_is); (case l => k_is); (case c => k_is); (case k => k_is)
      case sX => refine' G.pF (C := 496) ?a ?i ?l ?c ?k; (case a => k_is); (case i => k_is); (case l => k_is); (case c => k_is); (case k => k_is)
      case pD => refine' G.pF (C := 496) ?a ?i ?l ?c ?k; (case a => k_is); (case i => k_is); (case l => k_is); (case c => k_is); (case k => k_is)
      case x8 => refine' G.pF (C := 496) ?a ?i ?l ?c ?k; (case a => k_is); (case i => k_is); (case l => k_is); (case c => k_is); (case k => k_is)
      case dZ => show PySem.W.findIn _ (.ref 496) "signs" = some none; k_is
      case dU => show PySem.W.findIn _ (.ref 496) "syllables" = some none; k_is
      case cY => show PySem.W.findIn _ (.ref 496) "rules" = some none; k_is
      case fP => show PySem.W.findIn _ (.ref 496) "known" = some none; k_is
      case c0 => refine' PySem.W.mg_none_of KX GG ?a; (case a => k_is)
      case fA => refine' PySem.W.mg_none_of KX GG ?a; (case a => k_is)
      case nA => refine' PySem.W.mg_none_of KX GG ?a; (case a => k_is)
      case QX => refine' PySem.W.mg_none_of KX GG ?a; (case a => k_is)
      case aB4 => refine' PySem.W.mg_none_of KX GG ?a; (case a => k_is)
      case aJ8 => refine' PySem.W.mg_none_of KX GG ?a; (case a => k_is)
      case x9 => refine' PySem.W.mg_none_of KX GG ?a; (case a => k_is)
      case FL => refine' PySem.W.mg_none_of KX GG ?a; (case a => k_is)
      case oY => refine' PySem.W.mg_none_of KX GG ?a; (case a => k_is)
      case aB5 => refine' PySem.W.mg_none_of KX GG ?a; (case a => k_is)
      case WR => refine' PySem.W.mg_none_of KX GG ?a; (case a => k_is)
      case G3 => refine' PySem.W.mg_none_of KX GG ?a; (case a => k_is)
    case xs =>
      constructor;case one => refine' G.YR (C := 172) T.free ?a ?e; (case a => k_is); (case e => kernel_rfl)
      case there => refine' G.YR (C := 185) T.free ?a ?e; (case a => k_is); (case e => kernel_rfl)
      case RN => refine' G.YR (C := 198) T.free ?a ?e; (case a => k_is); (case e => kernel_rfl)
      case many => refine' G.YR (C := 211) T.free ?a ?e; (case a => k_is); (case e => kernel_rfl)
      case left => refine' G.YR (C := 224) T.free ?a ?e; (case a => k_is); (case e => kernel_rfl)
    case cl =>
      constructor;case glob => refine' cX KX GG ?a; (case a => k_is)
      case tup => refine' G.aNu ?l; (case l => k_is)
      case is => refine' ⟨514, 521, 528, 535, 542, 549, 556, 563, 570, 577, 584, 591, rfl, cX KX GG ?zq0, cX KX GG ?zq1, cX KX GG ?zq2, cX KX GG ?zq3, cX KX GG ?zq4, cX KX GG ?zq5, cX KX GG ?zq6, cX KX GG ?zq7, cX KX GG ?zq8, cX KX GG ?zq9, cX KX GG ?aW0, cX KX GG ?aW1⟩; (case zq0 => k_is); (case zq1 => k_is); (case zq2 => k_is); (case zq3 => k_is); (case zq4 => k_is); (case zq5 => k_is); (case zq6 => k_is); (case zq7 => k_is); (case zq8 => k_is); (case zq9 => k_is); (case aW0 => k_is); (case aW1 => k_is)
      case one => refine' cX (v := .ref 172) KX GG ?a; (case a => k_is)
      case there => refine' cX (v := .ref 185) KX GG ?a; (case a => k_is)
      case RN => refine' cX (v := .ref 198) KX GG ?a; (case a => k_is)
      case many => refine' cX (v := .ref 211) KX GG ?a; (case a => k_is)
      case left => refine' cX (v := .ref 224) KX GG ?a; (case a => k_is)
      case t1 => kernel_rfl
      case t2 => kernel_rfl
      case t3 => kernel_rfl
      case t4 => kernel_rfl
      case t5 => kernel_rfl
      case e21 => kernel_rfl
      case e31 => kernel_rfl
      case e32 => kernel_rfl
      case e41 => kernel_rfl
      case e42 => kernel_rfl
      case e43 => kernel_rfl
      case e51 => kernel_rfl
      case e52 => kernel_rfl
      case e53 => kernel_rfl
      case e54 => kernel_rfl
    case b1 => refine' ⟨279, G.aKI KX GG ?a ?l ?t ?e⟩; (case a => k_is); (case l => k_is); (case t => kernel_rfl); (case e => kernel_rfl)
    case b2 => refine' ⟨87, G.aKI KX GG ?a ?l ?t ?e⟩; (case a => k_is); (case l => k_is); (case t => kernel_rfl); (case e => kernel_rfl)
