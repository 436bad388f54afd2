import PyProof.Rows.All
import Wide.All
import OpenK.AllK
import Wide.FinOn
import Lean
import PyProof.EqAt
import PyProof.EqKinds
import PyProof.TupleCall
import PyProof.Draws
import PyProof.ZipIter
import PyProof.EnumMake
import PyProof.IsiPairs
import PyProof.IsiHeapPairs
import PyProof.IsiNone
import PyProof.ReprRoads
import PyProof.ConsumeWalk
import PyProof.NeKinds
import PyProof.Rows.SeqMore
import PyProof.Rows.SortWalk
import PyProof.Rows.StrJoinMade
import PyProof.P3Eq
import PyProof.ListRange
import PyProof.CollectIter
import KE.KTryDeep
import PyProof.ExcBaseAll.ValueError
import PyProof.ExcArgsOwn
import PyProof.ExcAttrAll.ValueError
import KE.KLam
import PyProof.DictItemsLoops
import PyProof.DictCompW
import KE.KRevIter
import PyProof.MinMaxWalk
import PyProof.Rows.RowHeap
import KE.KTupTruth
import KE.KSortTup
import PyProof.Rows.SetFrom
import PyProof.TupleOfGen
import PyProof.Rows.SetListFold
import KE.KEqDict
import KE.KDictList
import PySem.Challenge.RW_mainfires_k57_boilers_alone_and_needed
set_option bootstrap.genMatcherCode false
set_option compiler.extract_closed false
abbrev yZ:=List (List Int)
abbrev yY:=PySem.Value -> PySem.Shared -> Prop
abbrev yX:=List PySem.Value
abbrev yW:=Option PySem.Value
abbrev yV:=List Int
abbrev yU:=PySem.Value
abbrev yS:=PySem.Shared
abbrev yR:=PySem.Addr
abbrev yQ:=PySem.PyData
abbrev yP:=PySem.Program
abbrev yO:=PySem.Around
abbrev yN:=PySem.World
abbrev yL:=PySem.Expr
open PySem PySem.Spec PyProof.Rows
abbrev Fgx := PySem.W.Frag
abbrev PNs := List (yR × Obj)
abbrev VSP := yU → yS → Prop
open List (mem_filter mem_range filterMap_cons mem_cons_self mem_cons_of_mem mem_cons mem_append mem_append_left getElem?_set_self getElem?_set_ne set_comm mem_filterMap mem_append_right length_cons length_nil append_nil nodup_cons of_mem_zip length_take getElem?_append_right getElem?_append_left getElem?_map mem_of_getElem? length_append length_map length_replicate size_toArray length_drop map_nil map_cons length_set all_cons any_cons replicate_succ flatten_cons append_assoc foldl_cons length_singleton forIn_cons lookup_cons all_eq_true any_eq_true nil_append mem_singleton zipIdx_cons zipIdx_nil forIn_nil not_mem_nil getD_eq_getElem?_getD getElem?_eq_getElem mem_iff_getElem getElem_mem take_length take_of_length_le getElem?_zipIdx getElem?_range all_map filter_append filter_cons_of_pos map_append filter_cons_of_neg mem_map sum_cons map_drop drop_nil take_nil range_succ getElem?_drop take_zero sum_nil sum_append length_range map_map any_map cons_append getElem?_eq_none getElem?_of_mem filter_eq_nil_iff find?_cons map_congr_left pairwise_cons eq_nil_or_concat concat_eq_append pairwise_append ext_getElem length_filter_le mem_of_mem_take map_replicate length_zip)
set_option Elab.async false
set_option linter.all false
set_option maxRecDepth 100000
set_option maxHeartbeats 4000000
def Y0:=@wpAny_bind
def Y1:=@Heap.get?_push_of_some
def Y2:=@length_map
def Y3:=@getD_eq_getElem?_getD
def Y4:=@wpAny_pure
def Y5:=@Nat.le_refl
def Y6:=@getElem?_eq_getElem
def Y7:=@Heap.lt_size
def Y8:=@if_neg
def Y9:=@List.getElem?_eq_some_iff
def YM:=@Heap.get?_push_size
def YN:=@if_pos
def YO:=@Nat.lt_of_lt_of_le
def YQ:=@mem_cons_of_mem
def YR:=@mem_cons_self
def YS:=@map_append
def YT:=@Nat.ne_of_lt
def YU:=@getElem?_map
def YV:=@Nat.le_trans
def YW:=@mem_of_getElem?
def YX:=@Nat.lt_irrefl
def YY:=@mem_cons
def YZ:=@Bool.false_ne_true
def Z0:=@of_decide_eq_true
def Z1:=@Nat.zero_le
def Z2:=@mem_append_right
def Z3:=@mem_singleton
def Z4:=@size_toArray
def Z5:=@Bool.and_eq_true
def Z6:=@take_of_length_le
def Z7:=@Option.some.inj
def Z8:=@PassesOwn.never
def Z9:=@decide_eq_true
def Za:=@Int.le_refl
def Zb:=@length_append
def Zc:=@PyProof.Rows.callWith_type1
def Ze:=@Array.length_toList
def Zf:=@decide_eq_true_eq
def Zg:=@Bool.and_eq_true_iff
def Zh:=@decide_eq_false
def Zi:=@wpAny_mono
def Zj:=@mem_map
def Zk:=@length_take
def Zl:=@Heap.get?_update_self
def Zm:=@Heap.size_push
def Zn:=@wpAny_newObj_type
def Zo:=@wpAny_callSpecial?_slot
def Zp:=@wpAny_holding
def Zq:=@wpAny_call_entry
def Zr:=@mem_range
def Zs:=@Nat.not_lt_zero
def Zt:=@not_mem_nil
def Zu:=@wpAny_loadPart'
def Zv:=@Ne.symm
def Zw:=@length_cons
def Zx:=@Nat.le_succ
def Zy:=@getElem?_append_right
def Zz:=@congrArg
def ZA:=@map_cons
def ZB:=@getElem?_append_left
def ZC:=@wpAny_field
def ZD:=@of_decide_eq_false
def ZE:=@Heap.SameBut.update
def ZF:=@all_eq_true
def ZG:=@mem_filterMap
def ZH:=@Nat.le_of_lt
def zE:=@PySem.F.plainAttrs_list
def zF:=@PySem.F.slot_list_append
def zG:=@PySem.F.type_list_append
def zH:=@PySem.boot_len
def ZI:=@F.slot_zip_next
def ZJ:=@Around.under_plainId
def ZK:=@getElem?_of_mem
def ZL:=@getElem_mem
def ZM:=@Nat.lt_succ_of_lt
def ZN:=@wpAny_seqItems
def ZO:=@Int.zero_add
def ZP:=@lookup_cons
def ZQ:=@codeAny_builtin
def ZR:=@wpAny_pyIter_tuple
def ZS:=@mem_append
def ZT:=@getElem?_eq_none
def ZU:=@length_filter_le
def ZV:=@Nat.ne_of_gt
def ZW:=@PyProof.Rows.slot_tuple_getitem
def ZX:=@Bool.false_and
def ZY:=@Heap.get?_update_other
def ZZ:=@wpAny_truthy_bool
def aa:=@beq_eq_false_iff_ne
def ac:=@wpAny_updateSeq
def ae:=@map_map
def af:=@List.eq_nil_of_length_eq_zero
def ag:=@Bool.false_eq_true
def ah:=@wpAny_setField_rec
def ai:=@or_false
def aj:=@AutoSeq1.wpAny_loadPart'
def ak:=@Heap.get?_none_of_le
def am:=@Bool.eq_iff_iff
def ao:=@codeAny_mono
def ap:=@plainId_quiet
def aq:=@Calls.spliced_cons
def au:=@Nat.lt_of_le_of_lt
def av:=@Int.mul_nonneg
def aw:=@Option.isSome_iff_exists
def ax:=@pushCells_keeps
def ay:=@Int.le_trans
def aA:=@boot_isinstance
def aC:=@wpAny_pyIter_list
def aD:=@wpAny_setState_of
def aE:=@wpAny_rule
def aF:=@call_meets
def aG:=@assignInOrder_cons
def aH:=@wpAny_Call_Name_kw
def aI:=@mem_append_left
def aJ:=@getElem?_set_ne
def aK:=@mem_iff_getElem
def aN:=@wpAny_standAt
def aO:=@any_cons
def aP:=@F.slot_tuple_iterator_next
def aQ:=@wpAny_attempt
def aR:=@getElem?_set_self
def aS:=@Calls.spliced_nil
def aU:=@F.args_zip_next_1
def aV:=@beq_iff_eq
def aW:=@codeAny_call_builtin
def aX:=@Array.getElem?_eq_getElem
def aY:=@if_true
def aZ:=@replicate_succ
def ba:=@Bool.and_false
def be:=@Nat.lt_succ_self
def bf:=@F.entry_zip_next
def bg:=@Nat.lt_trans
def bh:=@wpAny_askSetting
def bi:=@F.plain_max_loop
def bj:=@Int.mul_zero
def bo:=@F.plain_extend_loop
def bp:=@filter_append
def bq:=@pairwise_cons
def bv:=@append_nil
def bw:=@of_mem_zip
def bz:=@filter_cons_of_pos
def bA:=@range_succ
def bB:=@if_false
def bC:=@wpAny_of_eq
def bE:=@wpAny_letGo
def bF:=@sum_cons
def bG:=@Int.mul_le_mul_of_nonneg_left
def bH:=@getElem?_range
def bI:=@F.slot_range_reversed
def bJ:=@builtinLookup_eq_fast
def bK:=@wpAny_eqBool_int
def bL:=@forIn_cons
def bM:=@wpAny_isInstance
def bN:=@wpAny_pyIter_zip
def bO:=@Nat.le_add_right
def bP:=@find?_cons
def bQ:=@Bool.true_and
def bR:=@length_drop
def bS:=@Int.mul_sub
def bT:=@wpAny_passesOwn
def bU:=@Heap.DictOf.new
def bV:=@List.drop_eq_getElem_cons
def bW:=@Bool.or_eq_true
def bX:=@wpAny_Constant_int
def bY:=@wpAny_typeOf
def bZ:=@AutoSeq1.sub_tuple_tuple
def c9:=@filter_cons_of_neg
def cb:=@length_range
def cf:=@Nat.add_sub_cancel
def cg:=@mem_filter
def ci:=@filterMap_cons
def cq:=@wpAny_bindName
def cu:=@wpAny_setField
def cA:=@sum_append
def cC:=@isSubtype_type
def cD:=@List.length_eq_zero_iff
def cE:=@F.plain_set_update_loop
def cF:=@Int.toNat_natCast
def cG:=@filter_eq_nil_iff
def cH:=@wpAny_pyIter_rangeiter
def cI:=@take_length
def cJ:=@List.range_succ_eq_map
def cK:=@Option.map_eq_some_iff
def cL:=@wpAny_onRaise
def cM:=@strLen_append
def cN:=@length_replicate
def cO:=@length_singleton
def cQ:=@F.slot_tuple_mul
def cR:=@eq_nil_or_concat
def cS:=@concat_eq_append
def cU:=@Heap.size_update
def cV:=@boot_sum
def cW:=@forIn_nil
def cX:=@Nat.lt_of_sub_eq_succ
def cY:=@Call_
def cZ:=@Around.frames_deeper
def da:=@PyProof.Rows.callWith_builtin1
def db:=@Calls.evalArgs_plain
def de:=@flatten_cons
def df:=@append_assoc
def dg:=@F.slot_int_rmul
def dh:=@Bool.or_eq_false_iff
def di:=@getElem?_zipIdx
def dj:=@wpAny_specialOf
def dm:=@Int.mul_eq_zero
def dq:=@Option.map_some
def du:=@pairwise_append
def dw:=@typeLookup_type
def dy:=@mem_of_mem_take
def dz:=@Int.mul_le_mul_of_nonneg_right
def dA:=@F.slot_dict_itemiterator_iter
def dB:=@pairTrees_cons_walk
def dC:=@Array.toList_append
def dD:=@List.flatMap_append
def dE:=@F.args_tuple_iterator_next_1
def dF:=@isSubtype_stop
def dG:=@all_map
def dH:=@map_congr_left
def dI:=@boot_all
def dJ:=@any_eq_true
def dL:=@Int.sub_mul
def dM:=@F.entry_tuple_iterator_next
def dN:=@Array.forIn_toList
def dO:=@pairTrees_nil_walk
def dP:=@Nat.sub_add_cancel
def dQ:=@Int.emod_lt_of_pos
def dR:=@Calls.Name_function_global
def dS:=@Int.fdiv_eq_ediv_of_nonneg
def dU:=@Int.fmod_eq_emod_of_nonneg
def dW:=@wpAny_newFunctionEnv_cells
def dX:=@Array.getElem?_eq_some_iff
def dY:=@List.fst_mem_of_mem_zipIdx
def dZ:=@getElem?_drop
def et:=@wpAny_assign_Name
def eB:=@assignInOrder_nil
def eC:=@Nat.le_of_succ_le
def eE:=@wpAny_pyIter_enum
def eF:=@wpAny_pyIter_slot
def eG:=@length_nil
def eI:=@wpAny_call
def eJ:=@nodup_cons
def eK:=@typeIs_int
def eL:=@wpAny_letOwnedTupleGo_zip
def eM:=@wpAny_binaryOp_repeat_ref
def eN:=@Int.not_lt
def eO:=@Calls.call_function_entry
def eQ:=@List.pairwise_iff_getElem
def eR:=@List.getElem?_zip_eq_some
def eS:=@map_nil
def eV:=@wpAny_execs_cons
def eW:=@beq_self_eq_true
def eX:=@wpAny_comprehension_free
def eY:=@Nat.succ_ne_self
def eZ:=@noFill_tuple_add
def f7:=@Int.sub_self
def f8:=@Nat.succ.inj
def f9:=@Nat.succ_lt_succ
def fc:=@Nat.sub_self
def fg:=@List.eq_of_mem_replicate
def fh:=@wpAny_Call_method0_late
def fi:=@Classical.axiomOfChoice
def fj:=@decide_eq_false_iff_not
def fk:=@F.entry_set_update_loop
def fm:=@wpAny_execs_nil
def ft:=@wpAny_Dict_walk
def fz:=@Int.ediv_nonneg
def fA:=@codeAny_of_tree
def fB:=@Nat.min_eq_left
def fC:=@Int.emod_nonneg
def fD:=@Sum.inl.inj
def fE:=@wpAny_pyNext_range_end
def fF:=@PyProof.noPylong_small
def fG:=@sizeLine_eq
def fH:=@subscriptTail_builtinR
def fI:=@Calls.callWith_builtin
def fJ:=@cons_append
def fK:=@Nat.lt_of_succ_lt_succ
def fL:=@Int.mul_add
def fM:=@ext_getElem
def fN:=@List.pairwise_lt_range
def fO:=@Array.getElem?_eq_none
def fP:=@codeAny_call_function
def fQ:=@exec_Assign_Name_used
def fR:=@wpAny_newTuple
def fS:=@Nat.le_of_ble_eq_true
def fT:=@Nat.mul_le_mul
def fU:=@entryFor_alias
def fV:=@wpAny_tryCatch
def fW:=@List.countP_mono_left
def fX:=@List.take_append_drop
def fY:=@Array.getElem?_toList
def fZ:=@boot_range
def gc:=@length_set
def gg:=@foldl_cons
def gh:=@nil_append
def gi:=@Nat.not_lt
def gj:=@boot_min
def gk:=@tupleItemsOf_
def gn:=@seq_tuple_add
def gq:=@Bool.false_or
def gu:=@nums_intItems
def gv:=@wpAny_newList
def gy:=@map_replicate
def gA:=@Bool.and_true
def gC:=@IsTup.new
def gE:=@eq_of_beq
def gF:=@seqIndex_neg
def gG:=@concat_meets
def gH:=@Int.mul_comm
def gJ:=@Int.zero_mul
def gK:=@Nat.succ_pos
def gL:=@boot_repr
theorem L2.Au(K:True:=by rfl)(O:True:=by decide)(y:True:=by intro _;rfl)(D:True:=by first | exact .inl rfl | exact .inr rfl | assumption)(B:True:=by intro _ _;rfl)(G:True:=by intros;rfl)(Z:True:=by with_unfolding_all rfl)(J:True:=by first | exact Or.inl rfl | exact Or.inr (Or.inl rfl) | exact Or.inr (Or.inr rfl)):True:=trivial
def L3:Lean.Syntax:=L2.Au._auto_1
def W0:Lean.Syntax:=L2.Au._auto_2
def B':Lean.Syntax:=L2.Au._auto_3
def F':Lean.Syntax:=L2.Au._auto_4
def K':Lean.Syntax:=L2.Au._auto_5
def L':Lean.Syntax:=L2.Au._auto_6
def M':Lean.Syntax:=L2.Au._auto_7
def O':Lean.Syntax:=L2.Au._auto_8
namespace L2
abbrev As:=Sum Int Str
def DP:As->yU->Bool
 | .inl k,v=>Value.isInt k v
 | .inr x,v=>Value.isStrOf x v
def PV(w:yN):As->Int
 | .inl k=>hashInt k
 | .inr x=>hashStr w x
theorem CT:∀ {k:As}{v:yU},DP k v=true->(∃i t,k=Sum.inl i/\v=Value.int i t)\/(∃x t,k=Sum.inr x/\v=Value.str x t)
 | .inl i,v,h=>by
  obtain⟨t,e⟩:=Value.isInt_shape (k:=i) (v:=v) h;exact .inl ⟨i,t,rfl,e⟩
 | .inr x,v,h=>by
  obtain⟨t,e⟩:=Value.isStrOf_shape (x:=x) (v:=v) h;exact .inr ⟨x,t,rfl,e⟩
theorem PX(i:Int)(t:Tok):DP (.inl i) (.int i t)=true:=by simp[DP,Value.isInt]
theorem PY(x:Str)(t:Tok):DP (.inr x) (.str x t)=true:=by simp[DP,Value.isStrOf]
theorem PZ(a b:Int):decide ((Sum.inl a:As)=Sum.inl b)=(a==b):=by
 by_cases e:a=b
 .subst e;simp
 .have h:¬(Sum.inl a:As)=Sum.inl b:=λq=>e (fD q)
  rw[Zh h];exact(aa.mpr e).symm
theorem P0(a b:Str):decide ((Sum.inr a:As)=Sum.inr b)=decide (a=b):=by
 by_cases e:a=b
 .subst e;simp
 .have h:¬(Sum.inr a:As)=Sum.inr b:=λq=>e (Sum.inr.inj q)
  rw[Zh h,Zh e]
theorem P3(a:Int)(b:Str):decide ((Sum.inl a:As)=Sum.inr b)=false:=Zh (λq=>nomatch q)
theorem P4(a:Str)(b:Int):decide ((Sum.inr a:As)=Sum.inl b)=false:=Zh (λq=>nomatch q)
noncomputable def AX(prog:yP)(w:yN):PySem.KeyKind prog w As where
 is:=DP
 hash:=PV w
 inj:=λv a b J G=>by
  rcases CT J with⟨i,t,rfl,rfl⟩ | ⟨x,t,rfl,rfl⟩
  .rcases CT G with⟨j,u,rfl,e⟩ | ⟨y,u,rfl,e⟩
   .injection e with B _;rw[B]
   .exact nomatch e
  .rcases CT G with⟨j,u,rfl,e⟩ | ⟨y,u,rfl,e⟩
   .exact nomatch e
   .injection e with B _;rw[B]
 byValue:=λk v h=>by
  rcases CT h with⟨i,t,rfl,rfl⟩ | ⟨x,t,rfl,rfl⟩<;>rfl
 pyHash:=λD h=>by
  rcases CT D with⟨i,t,rfl,rfl⟩ | ⟨x,t,rfl,rfl⟩
  .exact wpAny_pyHash_int h
  .exact wpAny_pyHash_str h
 eqBool:=λK D h=>by
  rcases CT K with⟨i,t,rfl,rfl⟩ | ⟨x,t,rfl,rfl⟩
  .rcases CT D with⟨j,u,rfl,rfl⟩ | ⟨y,u,rfl,rfl⟩
   .rw[PZ]at h;exact bK h
   .rw[P3]at h;exact SeqAt.EqAt.int_str i t y u _ _ _ _ h
  .rcases CT D with⟨j,u,rfl,rfl⟩ | ⟨y,u,rfl,rfl⟩
   .rw[P4]at h;exact SeqAt.EqAt.str_int x t j u _ _ _ _ h
   .rw[P0]at h;exact wpAny_eqBool_str h
 «strs»:=λk x t v h=>by
  rcases CT h with⟨i,u,rfl,e⟩ | ⟨y,u,rfl,e⟩
  .exact nomatch e
  .injection e with B _
   subst B;cases v<;>rfl
theorem P5(prog:yP)(w:yN)(k:As)(v:yU):(AX prog w).is k v=DP k v:=rfl
theorem Ib(prog:yP)(w:yN)(i:Int)(t:Tok):(AX prog w).is (.inl i) (.int i t)=true:=PX i t
theorem KI(prog:yP)(w:yN)(x:Str)(t:Tok):(AX prog w).is (.inr x) (.str x t)=true:=PY x t
inductive V where
 | non | bl (b:Bool) | int (i:Int) | str (x:Str) | byt (b:Array UInt8) | flt (b:UInt64) | ref (a:yR) | ty (n:String)
 deriving DecidableEq
abbrev zA:=List V
def Aw:V->yU->Prop
 | .non,u=>u=Value.none
 | .bl b,u=>u=Value.bool b
 | .int i,u=>∃t,u=Value.int i t
 | .str x,u=>∃t,u=Value.str x t
 | .byt b,u=>∃t,u=Value.bytes b t
 | .flt b,u=>∃t,u=Value.float b t
 | .ref a,u=>u=Value.ref a
 | .ty n,u=>u=Value.type n
abbrev Av:zA->yX->Prop:=Paired Aw
theorem Av.length{xs:zA}{us:yX}(r:Av xs us):xs.length=us.length:=Paired.length r
theorem Av.get:∀ {xs:zA}{us:yX}{i:Nat}{x:V},Av xs us->xs[i]? =some x->∃u,us[i]? =some u/\Aw x u
 | _,_,_,_,.nil,e=>by simp at e
 | _,_,0,_,.cons r _,e=>by simp at e;subst e;exact⟨_,rfl,r⟩
 | _,_,i+1,x,.cons _ t,e=>by
  obtain⟨u,B,y⟩:=Av.get (i:=i) (x:=x) t (by simpa using e);exact⟨u,by simpa using B,y⟩
theorem Av.set{x:V}{u:yU}(r:Aw x u):∀ {xs:zA}{us:yX} (i:Nat),Av xs us->Av (xs.set i x) (us.set i u)
 | _,_,_,.nil=> .nil
 | _,_,0,.cons _ t=> .cons r t
 | _,_,i+1,.cons q t=> .cons q (Av.set r i t)
theorem Av.append{xs ys:zA}{us ws:yX}(h:Av xs us)(s:Av ys ws):Av (xs++ys) (us++ws):=by
 induction h with
 | nil=>exact s
 | cons r t ih=>exact .cons r ih
theorem Av.take:∀ {xs:zA}{us:yX} (n:Nat),Av xs us->Av (xs.take n) (us.take n)
 | _,_,0,_=> .nil
 | _,_,_+1,.nil=> .nil
 | _,_,n+1,.cons r t=> .cons r (Av.take n t)
theorem Av.drop:∀ {xs:zA}{us:yX} (n:Nat),Av xs us->Av (xs.drop n) (us.drop n)
 | _,_,0,r=>r
 | _,_,_+1,.nil=> .nil
 | _,_,n+1,.cons _ t=>Av.drop n t
def RelO:Option V->yW->Prop
 | some v,some u=>Aw v u
 | none,none=>True
 | _,_=>False
def KV{y:Type}:List (y×V)->List (y×yU)->Prop:=Paired fun(p:y×V) (q:y×yU)=>p.1=q.1/\Aw p.2 q.2
def kV:As->V
 | .inl i=> .int i
 | .inr x=> .str x
inductive HO where
  | lst (xs:zA)
  | tup (xs:zA)
  | dK (kvs:List (As×V)) | dT (kvs:List (List As×V))
  | set (S:Int->Bool) (n:Nat)
  | ins (C dx:yR) (fs:List (Str×V))
  | own (x:yR)
  | xd (fs:List (Str×V))
  | met (f x:yR)
  | rng (lo hi:Int)
  | frz (o:Obj) (u:HO)
  | tbl (ps:Array yU)
  | ext (φ:Heap->Prop)
abbrev Hp:=yR->Option HO
def upd(H:Hp)(a:yR)(o:HO):Hp:=λb=>if b=a then some o else H b
theorem Af{H:Hp}{a:yR}{o:HO}:upd H a o a=some o:=by unfold upd;rw[YN rfl]
theorem Ao{H:Hp}{a b:yR}{o:HO}(h:b≠a):upd H a o b=H b:=by unfold upd;rw[Y8 h]
theorem KJ{H:Hp}{a b:yR}{o u:HO}(h:H a=some o)(h':H b=some u)(d:o≠u):a≠b:=by
 intro e;subst e;rw[h]at h';exact d (Z7 h')
theorem Bg{H:Hp}{a b:yR}{o:HO}(h:H a=some o)(h':H b=none):a≠b:=by
 intro e;subst e;rw[h]at h';cases h'
section
variable(P:yP)(w:yN)
def ObjOk(H:Hp)(h:Heap)(a:yR):HO->Prop
 | .lst xs=>xs.length<=sizeLine/\∃(its:yX) (n:Nat),Av xs its/\h.get? a=some { cls:= .type "list",data:= .seq its.toArray n}
 | .tup xs=>xs.length<=sizeLine/\∃its:yX,Av xs its/\IsTup h a its.toArray
 | .dK kvs=>kvs.length<=sizeLine/\(a==sysModules)=false/\∃vs,KV kvs vs/\h.DictOf (AX P w) a vs
 | .dT kvs => kvs.length <= sizeLine /\ (a == sysModules) = false /\ ∃ xs : List (List As × yR × yU),
   Paired (fun(p:List As×V) (q:List As×yR×yU)=>p.1=q.1/\H q.2.1=some (.tup (p.1.map kV))/\Aw p.2 q.2.2) kvs xs/\
   ∃o es ep,h.get? a=some o/\o.ExactDict/\o.data= .dict es ep/\es.toList=xs.map (entryOfKey (tupleKind (AX P w)))/\(xs.map (·.1)).Nodup
 | .set S n=>h.SetOf (intKind P w) a S n
 | .ins C dx fs => H dx = some (.own a) /\ fs.length <= 1000 /\ dx ≠ a /\ h.get? a = some (PySem.W.instObj C dx) /\
   ∃mA,h.Ns1 dx mA/\(∀f,RelO (fs.lookup f) (mA f))/\PySem.Within mA (fs.map (·.1))
 | .own _=>∃o,h.get? a=some o
 | .xd fs=>∃mA,h.Ns1 a mA/\∀f,RelO (fs.lookup f) (mA f)
 | .rng lo hi=>∃t u v,h.get? a=some { cls:= .type "range",data:= .fields #[.int lo t,.int hi u,.int 1 v]}
 | .frz o u=>h.get? a=some o/\ObjOk H h a u
 | .tbl ps=>h.get? a=some { cls:= .none,data:= .fields ps}
 | .met f x=>h.get? a=some (PySem.W.methodObj (.ref f) (.ref x))
 | .ext φ=>φ h/\(∃o,h.get? a=some o)/\∀h1 h2:Heap,φ h1->(∀o,h1.get? a=some o->h2.get? a=some o)->φ h2
def HOk(H:Hp)(h:Heap):Prop:=∀a o,H a=some o->ObjOk P w H h a o
end
section
variable{P:yP}{w:yN}{H H':Hp}{h h':Heap}{a:yR}{o:HO}
theorem ObjOk.lt(x:ObjOk P w H h a o):a<h.objs.size:=by
 cases o with
 | lst xs=>obtain⟨_,_,_,_,e⟩:=x;exact Y7 e
 | tup xs=>obtain⟨_,_,_,p⟩:=x;exact p.lt
 | dK kvs=>obtain⟨_,_,_,_,o,_,_,e,_⟩:=x;exact Y7 e
 | dT kvs=>obtain⟨_,_,_,_,o,_,_,e,_⟩:=x;exact Y7 e
 | set S n=>obtain⟨o,_,_,_,e,_⟩:=x;exact Y7 e
 | ins C dx fs=>obtain⟨_,_,_,e,_⟩:=x;exact Y7 e
 | own y=>obtain⟨_,e⟩:=x;exact Y7 e
 | xd fs=>obtain⟨_,⟨_,_,_,e,_⟩,_⟩:=x;exact Y7 e
 | rng lo hi=>obtain⟨_,_,_,e⟩:=x;exact Y7 e
 | frz ob u=>obtain⟨e,_⟩:=x;exact Y7 e
 | tbl ps=>exact Y7 (show h.get? a=some _ from x)
 | met f y=>exact Y7 (show h.get? a=some _ from x)
 | ext φ=>obtain⟨_,⟨_,e⟩,_⟩:=x;exact Y7 e
theorem Paired.mapP{B y:Type}{F G:B->y->Prop}{l₁:List B}{l₂:List y}(h:Paired F l₁ l₂)(f:∀a b,F a b->G a b):Paired G l₁ l₂:=by
 induction h with
 | nil=>exact .nil
 | cons r t ih=>exact .cons (f _ _ r) ih
theorem ObjOk.stay(x:ObjOk P w H h a o)(k:∀b u,(b=a\/H b=some (.own a))->h.get? b=some u->h'.get? b=some u)
  (Z:∀b,H b=some (.own a)->H' b=some (.own a)) (O:∀b xs,H b=some (.tup xs)->H' b=some (.tup xs)):ObjOk P w H' h' a o:=by
 induction o with
 | lst xs=>obtain⟨z,D,n,r,e⟩:=x;exact⟨z,D,n,r,k _ _ (.inl rfl) e⟩
 | tup xs=>obtain⟨z,D,r,ob,e,c⟩:=x;exact⟨z,D,r,ob,k _ _ (.inl rfl) e,c⟩
 | dK kvs=>obtain⟨z,y,K,r,ob,es,B,e,c⟩:=x;exact⟨z,y,K,r,ob,es,B,k _ _ (.inl rfl) e,c⟩
 | dT kvs=>
  obtain⟨z,y,xs,r,ob,es,B,e,c⟩:=x;exact⟨z,y,xs,Paired.mapP r λp q z=>⟨z.1,O _ _ z.2.1,z.2.2⟩,ob,es,B,k _ _ (.inl rfl) e,c⟩
 | set S n=>obtain⟨ob,es,B,t,e,c⟩:=x;exact⟨ob,es,B,t,k _ _ (.inl rfl) e,c⟩
 | ins C dx fs=>
  obtain⟨d,z,ne,e,G,⟨J,es,B,e2,c⟩,r⟩:=x;exact⟨Z _ d,z,ne,k _ _ (.inl rfl) e,G,⟨J,es,B,k _ _ (.inr d) e2,c⟩,r⟩
 | own y=>obtain⟨ob,e⟩:=x;exact⟨ob,k _ _ (.inl rfl) e⟩
 | xd fs=>obtain⟨G,⟨J,es,B,e,c⟩,r⟩:=x;exact⟨G,⟨J,es,B,k _ _ (.inl rfl) e,c⟩,r⟩
 | rng lo hi=>obtain⟨t,u,v,e⟩:=x;exact⟨t,u,v,k _ _ (.inl rfl) e⟩
 | frz ob u ih=>obtain⟨e,q⟩:=x;exact⟨k _ _ (.inl rfl) e,ih q⟩
 | tbl ps=>
  have e:h.get? a=some { cls:= .none,data:= .fields ps}:=x;show h'.get? a=some { cls:= .none,data:= .fields ps};exact k a _ (.inl rfl) e
 | met f y=>
  have e:h.get? a=some (PySem.W.methodObj (.ref f) (.ref y)):=x;show h'.get? a=some (PySem.W.methodObj (.ref f) (.ref y));exact k a _ (.inl rfl) e
 | ext φ=>obtain⟨p,⟨o,e⟩,st⟩:=x;exact⟨st _ _ p λo q=>k _ _ (.inl rfl) q,⟨o,k _ _ (.inl rfl) e⟩,st⟩
theorem HOk.lt(x:HOk P w H h)(e:H a=some o):a<h.objs.size:=(x a o e).lt
theorem HOk.fresh(x:HOk P w H h)(e:h.objs.size<=a):H a=none:=by
 cases q:H a with
 | none=>rfl
 | some u=>exact absurd (YO (x.lt q) e) (YX _)
theorem HOk.kept(x:HOk P w H h)(k:∀b u,h.get? b=some u->h'.get? b=some u):HOk P w H h':=λa o e=>
 (x a o e).stay (λb u _ q=>k b u q) (λ_ q=>q) λ_ _ q=>q
theorem HOk.laid(x:HOk P w H h)(k:∀b u,h.get? b=some u->h'.get? b=some u)(D:h.objs.size<=a)(new:ObjOk P w (upd H a o) h' a o):HOk P w (upd H a o) h':=λb u e=>by
 have B:=x.fresh D
 by_cases y:b=a
 .subst y;rw[Af]at e;cases e;exact new
 .rw[Ao y]at e;exact(x b u e).stay (λc v _ q=>k c v q) (λc q=>by rw[Ao (Bg q B)];exact q) λc G q=>by rw[Ao (Bg q B)];exact q
end
def Rd(H:Hp)(a:yR)(u:HO):Prop:=H a=some u\/ ∃o,H a=some (.frz o u)
theorem Rd.ok{P:yP}{w:yN}{H:Hp}{h:Heap}{a:yR}{u:HO}(r:Rd H a u)(x:HOk P w H h):ObjOk P w H h a u:=by
 rcases r with r | ⟨o,r⟩
 .exact x a u r
 .obtain⟨_,q⟩:=x a _ r;exact q
def FA:Option HO->Prop
 | some (.lst _)=>True
 | some (.dK _)=>True
 | some (.dT _)=>True
 | some (.set _ _)=>True
 | some (.ins _ _ _)=>True
 | some (.ext _)=>True
 | _=>False
section
variable{P:yP}{w:yN}{H:Hp}{h h':Heap}{x e:yR}{o':HO}
theorem HOk.write(ok:HOk P w H h)(Z:FA (H x))(he:e=x\/H e=some (.own x))(k:∀b u,b≠e->h.get? b=some u->h'.get? b=some u)(i0:∃u,h'.get? e=some u)
  (new:ObjOk P w (upd H x o') h' x o'):HOk P w (upd H x o') h':=λb u q=>by
 have D:∀c y,H c=some (.own y)->c≠x:=λc y r z=>by subst z;rw[r]at Z;exact Z
 have G:∀c J,H c=some (.tup J)->c≠x:=λc J r z=>by subst z;rw[r]at Z;exact Z
 by_cases O:b=x
 .subst O;rw[Af]at q;cases q;exact new
 .rw[Ao O]at q
  by_cases B:b=e
  .have q':H b=some (.own x):=by
    rcases he with z | z
    .exact absurd (B.trans z) O
    .rw[B];exact z
   rw[q]at q';cases q';obtain⟨v,hv⟩:=i0;exact⟨v,by rw[B];exact hv⟩
  .refine(ok b u q).stay (λc v K r=>k c v ?_ r) (λc r=>by rw [Ao (D c b r)];exact r) λc J r=>by rw [Ao (G c J r)];exact r
   rcases K with rfl | K
   .exact B
   .rintro rfl;rcases he with z | z
    .exact D c b K z
    .rw[K]at z;cases z;exact O rfl
end
structure Un(fs ex:List yR)(H H':Hp)(h h':Heap):Prop where
 keep:∀b o,h.get? b=some o->H b=none->b ∉ fs->b ∉ ex->h'.get? b=some o
 slot:∀b o,h.get? b=some o->H b=none->b∈fs->b ∉ ex->∃sl,h'.get? b=some { o with slots:=sl}
 free:∀b o,h.get? b=some o->H b=none->b ∉ ex->H' b=none
 there:∀b o,h.get? b=some o->b ∉ ex->∃o',h'.get? b=some o'
 tups:∀b xs,H b=some (.tup xs)->H' b=some (.tup xs)
 frzs:∀b o u,H b=some (.frz o u)->H' b=some (.frz o u)
 tbls:∀b ps,H b=some (.tbl ps)->∃more,H' b=some (.tbl (ps++more))
section
variable{fs fs' ex ex':List yR}{H H1 H2:Hp}{h h1 h2 h':Heap}{a x e:yR}{o:HO}
theorem Un.any(u:Un fs ex H H1 h h1){b:yR}{ob:Obj}(q:h.get? b=some ob)(n:H b=none)(y:b ∉ ex):∃D,h1.get? b=some { ob with slots:=D}:=by
 by_cases B:b∈fs
 .exact u.slot b ob q n B y
 .exact⟨ob.slots,u.keep b ob q n B y⟩
theorem Un.kept(k:∀b u,h.get? b=some u->h'.get? b=some u):Un fs ex H H h h':=
 ⟨λb ob q _ _ _=>k b ob q,λb ob q _ _ _=>⟨ob.slots,k b ob q⟩,λ_ _ _ n _=>n,λb ob q _=>⟨ob,k b ob q⟩,λ_ _ q=>q,λ_ _ _ q=>q,λ_ y q=>⟨#[],by rw[q];simp⟩⟩
theorem Un.refl:Un fs ex H H h h:=Un.kept λ_ _ q=>q
theorem Un.laid(k:∀b u,h.get? b=some u->h'.get? b=some u)(D:h.objs.size<=a)(y:H a=none):Un fs ex H (upd H a o) h h' where
 keep:=λb u q _ _ _=>k b u q
 slot:=λb u q _ _ _=>⟨u.slots,k b u q⟩
 free:=λb u q n _=>by rw[Ao (YT (YO (Y7 q) D))];exact n
 there:=λb u q _=>⟨u,k b u q⟩
 tups:=λb B q=>by rw[Ao (Bg q y)];exact q
 frzs:=λb u B q=>by rw[Ao (Bg q y)];exact q
 tbls:=λb G q=>⟨#[],by rw[Ao (Bg q y),q];simp⟩
theorem Un.write(B:FA (H x))(Z:e=x\/H e=some (.own x))(k:∀b u,b≠e->h.get? b=some u->h'.get? b=some u)(D:∃u,h'.get? e=some u):Un fs ex H (upd H x o) h h':=by
 have J:∀b,H b=none->b≠x:=λb n z=>by subst z;rw[n]at B;exact B
 have K:∀b,H b=none->b≠e:=λb n z=>by
  subst z;rcases Z with r | r
  .exact J b n r
  .rw[n]at r;cases r
 have G:∀b u,H b=some u->¬FA (some u)->b≠x:=λb u q nm z=>by subst z;rw[q]at B;exact nm B
 refine⟨λb u q n _ _=>k b u (K b n) q,λb u q n _ _=>⟨u.slots,k b u (K b n) q⟩,λb u q n _=>by rw[Ao (J b n)];exact n,λb u q _=>?_,
  λb O q=>by rw[Ao (G b _ q λz=>z)];exact q,λb u O q=>by rw[Ao (G b _ q λz=>z)];exact q,λb ps q=>⟨#[],by rw[Ao (G b _ q λz=>z),q];simp⟩⟩
 by_cases y:b=e
 .subst y;exact D
 .exact⟨u,k b u y q⟩
end
def Gk(h:Heap)(H:Hp):List yR:=(List.range h.objs.size).filter λa=>(H a).isSome
def CU(h:Heap)(H:Hp):Heap:=PySem.W.hideAll h (Gk h H)
theorem P6(h:Heap)(H:Hp):(CU h H).objs.size=h.objs.size:=PySem.W.hideAll_size _ _
theorem P7{h:Heap}{H:Hp}{b:yR}{o:Obj}(e:h.get? b=some o)(n:H b=none):(CU h H).get? b=some o:=
 PySem.W.hideAll_get _ e λy=>by
  have q:(H b).isSome=true:=(cg.mp y).2;rw[n]at q;simp at q
theorem P8{h:Heap}{H:Hp}{b:yR}{o:Obj}(e:(CU h H).get? b=some o):h.get? b=some o/\H b=none:=by
 have y:h.get? b=some o:=PySem.W.of_hideAll (Gk h H) e;refine⟨y,?_⟩;cases q:H b with
 | none=>rfl
 | some x=>
  have B:b∈Gk h H:=cg.mpr ⟨Zr.mpr (Y7 y),by simp[q]⟩;have z:(CU h H).get? b=none:=PySem.W.hideAll_none (Gk h H) B;rw[z]at e;cases e
variable{g':Array GenState}{t' i:Nat}{d':Drawn}{ch:List yR}{M:Model}{E:yY}{v:V}{u:yU}{Q:Unit -> yS -> Prop}
structure Mod(K:Fgx)(mg:Str->yW)(base:Heap):Prop where
 kin:K.In base
 glob:base.Ns mainGlobals mg
 blt:∃mb,base.Ns builtinsNs mb/\∀x:Str,x≠ "__name__" ->mb x=bootBuiltins x
 nolimit:base.NoLimit
structure Cx where
 prog:yP
 w:yN
 K:Fgx
 mg:Str->yW
 base:Heap
 A:yO
 N:List Str
 s₀:yS
 H₀:Hp
 env:Env
 outer:List Env
 stack:List Env
 ex:List yR
 fn:Str->Bool
 calm:Bool
 pn:PNs
 xe:VSP
def AF(l:List Env):List yR:=l.filterMap (·.frame)
abbrev Cx.fs(X:Cx):List yR:=AF X.outer
def FB(y:Scope)(x:Str):Prop:=y.names.lookup x=some .local \/y.names.lookup x=some .cell\/y.names.lookup x=some .free
def En(y:Scope)(x:Str):Prop:=y.names.lookup x=some .local \/y.names.lookup x=some .cell
def P9(env:Env)(h:Heap)(m:Str->yW)(x:Str)(u:yU):Prop:=
 (env.kindOf x=some .local /\m x=some u)\/((env.kindOf x=some .cell\/env.kindOf x=some .free)/\∃c,env.cells.lookup x=some c/\h.IsCell c (some u))
structure Cx.Ok(X:Cx):Prop where
 mod:Mod X.K X.mg X.base
 kind:X.env.scope.kind= .function
 glob:X.env.globals=mainGlobals
 blt:X.env.builtins=builtinsNs
 above:X.s₀.heap.objs.size<=X.env.locals
 inj:∀x y c,X.env.cells.lookup x=some c->X.env.cells.lookup y=some c->x=y
 has:∀x,(X.env.kindOf x=some .cell\/X.env.kindOf x=some .free)->∃c,X.env.cells.lookup x=some c
 cab:∀x c,X.fn x=true->X.env.cells.lookup x=some c->X.s₀.heap.objs.size<=c
 hd:X.calm=true->X.A.handled=none
 frames:X.A.frames=some X.stack
 stk:X.stack=X.outer\/(X.stack=X.env::X.outer/\X.env.frame=some X.env.locals)
 exf:∀b∈X.ex,b≠X.env.locals/\∀x c,X.env.cells.lookup x=some c->c≠b
 bs:∀b o,X.base.get? b=some o->X.s₀.heap.get? b=some o/\X.H₀ b=none
 bsz:X.base.objs.size<=X.s₀.heap.objs.size
 noex:∀b o,X.base.get? b=some o->b ∉ X.ex
 exfs:∀b∈X.ex,b ∉ X.fs
 funs:X.s₀.heap.FunFrames X.base X.outer
 frf:∀b∈X.fs,X.H₀ b=none
structure Ac(X:Cx)(ad:PNs)(σ:List (Option V))(H:Hp)(s:yS):Prop where
 ok:X.Ok
 os:s.os=X.s₀.os
 bare:AllBare s.gens
 base:Un X.fs X.ex X.H₀ H X.s₀.heap s.heap
 loc:∃m,s.heap.Ns X.env.locals m/\∀(i:Nat) (x:Str) (v:V),X.N[i]? =some x->σ[i]? =some (some v)->FB X.env.scope x->∃u,Aw v u/\P9 X.env s.heap m x u
 cell:∀x c,X.env.cells.lookup x=some c->∃v,s.heap.IsCell c v
 free:H X.env.locals=none
 freeC:∀x c,X.env.cells.lookup x=some c->H c=none
 pin:∀p∈X.pn++ad,s.heap.get? p.1=some p.2/\H p.1=none/\p.1≠X.env.locals/\p.1 ∉ X.fs/\∀v,p.2.data≠ .cell v
 hok:HOk X.prog X.w H s.heap
 len:σ.length=X.N.length
section
variable{X:Cx}{ad:List (yR × Obj)}{σ:List (Option V)}{H H':Hp}{s:yS}{h':Heap}
theorem Cx.Ok.nofr(ok:X.Ok){b:yR}{o:Obj}(e:X.base.get? b=some o):b ∉ X.fs:=λy=>by
 have:=(ok.funs.mem y).1;rw[e]at this;cases this
theorem Ac.bs(I:Ac X ad σ H s):∀b o,X.base.get? b=some o->s.heap.get? b=some o/\H b=none:=λb o e=>
 ⟨I.base.keep b o (I.ok.bs b o e).1 (I.ok.bs b o e).2 (I.ok.nofr e) (I.ok.noex b o e),I.base.free b o (I.ok.bs b o e).1 (I.ok.bs b o e).2 (I.ok.noex b o e)⟩
theorem Ac.bk(I:Ac X ad σ H s):∀b o,X.base.get? b=some o->s.heap.get? b=some o:=λb o e=>(I.bs b o e).1
theorem Ac.mod(I:Ac X ad σ H s):Mod X.K X.mg X.base:=I.ok.mod
theorem Ac.kIn(I:Ac X ad σ H s):X.K.In s.heap:=I.ok.mod.kin.keeps I.bk
theorem Ac.lt(I:Ac X ad σ H s):X.env.locals<s.heap.objs.size:=let ⟨_,hn,_⟩:=I.loc;hn.lt
theorem Ac.sz(I:Ac X ad σ H s):X.s₀.heap.objs.size<=s.heap.objs.size:=YV I.ok.above (ZH I.lt)
theorem Ac.nofs(I:Ac X ad σ H s){a:yR}(h:s.heap.objs.size<=a):a ∉ X.fs:=λB=>by
 obtain⟨_,o,y,_⟩:=I.ok.funs.mem B;exact absurd (YO (Y7 y) (YV I.sz h)) (YX _)
theorem Ac.cne(I:Ac X ad σ H s):∀x c,X.env.cells.lookup x=some c->c≠X.env.locals:=λx c e z=>by
 obtain⟨v,o,D,hd⟩:=I.cell x c e;obtain⟨m,⟨G,es,J,y,B,_⟩,_⟩:=I.loc;rw[z,y]at D;cases D;rw[B]at hd;cases hd
theorem Ac.funs(I:Ac X ad σ H s):s.heap.FunFrames X.base X.outer:=by
 have all:∀(l:List Env),(∀b∈AF l,b∈X.fs)->X.s₀.heap.FunFrames X.base l->s.heap.FunFrames X.base l:=by
  intro l
  induction l with
  | nil=>intro _ _;trivial
  | cons env r ih=>
   intro G hl;obtain⟨K,⟨L,o,y,O,Z,hd⟩,J⟩:=hl;have B:L∈X.fs:=G L (by unfold AF;rw[ci,y];exact YR);obtain⟨sl,e⟩:=I.base.slot L o Z (I.ok.frf L B) B λz=>I.ok.exfs L z B
   exact⟨K,⟨L,_,y,O,e,hd⟩,ih (λb D=>G b (by unfold AF;rw[ci,y];exact YQ _ D)) J⟩
 exact all X.outer (λ_ D=>D) I.ok.funs
theorem Ac.stack(I:Ac X ad σ H s):s.heap.FunFrames X.base X.stack:=by
 rcases I.ok.stk with e | ⟨e,y⟩
 .rw[e];exact I.funs
 .rw[e];obtain⟨m,B,_⟩:=I.loc;refine .cons (by rw[I.ok.kind];decide) y B ?_ I.funs;exact ak (YV I.ok.bsz I.ok.above)
theorem Ac.stkSub(I:Ac X ad σ H s):∀b∈AF X.stack,b∈X.env.locals::X.fs:=λb y=>by
 rcases I.ok.stk with e | ⟨e,B⟩
 .rw[e]at y;exact YQ _ y
 .rw[e]at y;unfold AF at y;rw[ci,B]at y;exact y
theorem Ac.stkFree(I:Ac X ad σ H s):∀b∈AF X.stack,H b=none:=λb y=>by
 rcases YY.mp (I.stkSub b y) with e | y
 .rw[e];exact I.free
 .obtain⟨_,o,B,_⟩:=I.ok.funs.mem y;exact I.base.free b o B (I.ok.frf b y) λz=>I.ok.exfs b z y
theorem Ac.step(I:Ac X ad σ H s)
  (G:∀b∈ch,(b∈X.ex\/X.s₀.heap.objs.size<=b)/\b≠X.env.locals/\(∀x c,X.env.cells.lookup x=some c->c≠b)/\∀p∈X.pn++ad,p.1≠b)
  (keep:∀b o,b≠X.env.locals->b ∉ X.fs->b ∉ ch->s.heap.get? b=some o->H b=none->h'.get? b=some o)
  (slot:∀b o,b≠X.env.locals->b∈X.fs->b ∉ ch->s.heap.get? b=some o->H b=none->∃sl,h'.get? b=some { o with slots:=sl}) (free:∀b o,b ∉ ch->s.heap.get? b=some o->H b=none->H' b=none)
  (there:∀b o,b ∉ ch->s.heap.get? b=some o->∃o',h'.get? b=some o')
  (tups:∀b xs,H b=some (.tup xs)->H' b=some (.tup xs)) (frzs:∀b o u,H b=some (.frz o u)->H' b=some (.frz o u)) (tbls:∀b ps,H b=some (.tbl ps)->∃more,H' b=some (.tbl (ps++more)))
  (ns:∀m,s.heap.Ns X.env.locals m->h'.Ns X.env.locals m) (hok:HOk X.prog X.w H' h') (hg:AllBare g'):
  Ac X ad σ H' { s with heap:=h',gens:=g',drawn:=d',toks:=t'}:=by
 have i0:∀b o,X.s₀.heap.get? b=some o->b≠X.env.locals:=λb o e=>YT (YO (Y7 e) I.ok.above)
 have J:∀b o,X.s₀.heap.get? b=some o->b ∉ X.ex->b ∉ ch:=λb o e y O=>by
  rcases(G b O).1 with z | z
  .exact y z
  .exact absurd (YO (Y7 e) z) (YX _)
 have B:∀x c,X.env.cells.lookup x=some c->∀v,s.heap.IsCell c v->h'.IsCell c v:=λx c e v zq=>by
  obtain⟨o,Z,hd⟩:=zq;have D:c ∉ ch:=λz=>(G c z).2.2.1 x c e rfl
  by_cases hc:c∈X.fs
  .obtain⟨sl,q⟩:=slot c o (I.cne x c e) hc D Z (I.freeC x c e);exact⟨_,q,hd⟩
  .exact⟨o,keep c o (I.cne x c e) hc D Z (I.freeC x c e),hd⟩
 refine⟨I.ok,I.os,hg,⟨λb o e n O y=>?_,λb o e n O y=>?_,λb o e n y=>?_,λb o e y=>?_,λb xs e=>tups b xs (I.base.tups b xs e),λb o xs e=>frzs b o xs (I.base.frzs b o xs e),λb ps e=>?_⟩,?_,λx c e=>?_,?_,λx c e=>?_,λp hp=>?_,hok,I.len⟩
 .exact keep b o (i0 b o e) O (J b o e y) (I.base.keep b o e n O y) (I.base.free b o e n y)
 .obtain⟨sl,K⟩:=I.base.slot b o e n O y;obtain⟨i4,e2⟩:=slot b _ (i0 b o e) O (J b o e y) K (I.base.free b o e n y);exact⟨i4,e2⟩
 .obtain⟨o',K⟩:=I.base.there b o e y;exact free b o' (J b o e y) K (I.base.free b o e n y)
 .obtain⟨o',K⟩:=I.base.there b o e y;exact there b o' (J b o e y) K
 .obtain⟨m1,K⟩:=I.base.tbls b ps e;obtain⟨m2,e2⟩:=tbls b _ K;exact⟨m1++m2,by rw[e2,Array.append_assoc]⟩
 .obtain⟨m,hn,hl⟩:=I.loc;refine⟨m,ns m hn,λi x v K e2 e3=>?_⟩;obtain⟨u,r,l⟩:=hl i x v K e2 e3;refine⟨u,r,?_⟩;rcases l with l | ⟨k,c,e,z⟩
  .exact .inl l
  .exact .inr ⟨k,c,e,B x c e _ z⟩
 .obtain⟨v,z⟩:=I.cell x c e;exact⟨v,B x c e v z⟩
 .obtain⟨m,⟨o,_,_,Z,_⟩,_⟩:=I.loc;exact free _ o (λz=>(G _ z).2.1 rfl) Z I.free
 .obtain⟨v,o,Z,hd⟩:=I.cell x c e;exact free c o (λz=>(G c z).2.2.1 x c e rfl) Z (I.freeC x c e)
 .obtain⟨e,n,ne,nf,d⟩:=I.pin p hp;have D:p.1 ∉ ch:=λz=>(G p.1 z).2.2.2 p hp rfl
  exact⟨keep p.1 p.2 ne nf D e n,free p.1 p.2 D e n,ne,nf,d⟩
theorem Ac.un(I:Ac X ad σ H s)(u:Un X.fs [] H H' s.heap h')(hok:HOk X.prog X.w H' h'):Ac X ad σ H' { s with heap:=h',toks:=t'}:=by
 obtain⟨m,⟨o,es,ep,J,r⟩,_⟩:=id I.loc;obtain⟨sl,O⟩:=u.any J I.free (by simp);exact I.step (g':=s.gens) (d':=s.drawn) (ch:=[]) (λ_ z=>nomatch z) (λb o _ G _ e n=>u.keep b o e n G (by simp)) (λb o _ G _ e n=>u.slot b o e n G (by simp)) (λb o _ e n=>u.free b o e n (by simp)) (λb o _ e=>u.there b o e (by simp)) u.tups u.frzs u.tbls (λm' K=>by
  obtain⟨o',D,B,y,Z⟩:=K;rw[J]at y;cases y;exact⟨_,D,B,O,Z⟩) hok I.bare
theorem Ac.call(I:Ac X ad σ H s)(u:Un (AF X.stack) ch H H' s.heap h')(hok:HOk X.prog X.w H' h')(Z:AllBare g')
  (D:∀b∈ch,(b∈X.ex\/X.s₀.heap.objs.size<=b)/\b≠X.env.locals/\(∀x c,X.env.cells.lookup x=some c->c≠b)/\∀p∈X.pn++ad,p.1≠b):
  Ac X ad σ H' { s with heap:=h',gens:=g',drawn:=d',toks:=t'}:=by
 obtain⟨m,⟨o,es,ep,O,r⟩,_⟩:=id I.loc;obtain⟨sl,J⟩:=u.any O I.free λz=>(D _ z).2.1 rfl
 exact I.step (ch:=ch) D (λb o J hb y e n=>u.keep b o e n (λz=>(YY.mp (I.stkSub b z)).elim J hb) y) (λb o _ _ y e n=>u.any e n y) (λb o y e n=>u.free b o e n y) (λb o y e=>u.there b o e y) u.tups u.frzs u.tbls (λm' hm=>by
  obtain⟨o',K,G,B,r'⟩:=hm;rw[O]at B;cases B;exact⟨_,K,G,J,r'⟩) hok Z
theorem Ac.turned{it:yR}(I:Ac X ad σ H s)(k:∀b o,b≠it->s.heap.get? b=some o->h'.get? b=some o)(J:H it=none)(D:it≠X.env.locals)
  (h1:it∈X.ex\/X.s₀.heap.objs.size<=it) (h2:∀x c,X.env.cells.lookup x=some c->c≠it) (h3:∀p∈X.pn++ad,p.1≠it):Ac X ad σ H { s with heap:=h',toks:=t'}:=by
 have B:∀b u,H b=some u->b≠it:=λb u e z=>by rw[z,J]at e;cases e
 refine I.step (g':=s.gens) (d':=s.drawn) (ch:=[it]) (λb Z=>?_) (λb o _ _ y e _=>k b o (λz=>y (by simp[z])) e) (λb o _ _ y e _=>⟨o.slots,k b o (λz=>y (by simp[z])) e⟩) (λ_ _ _ _ n=>n)
  (λb o y e=>⟨o,k b o (λz=>y (by simp[z])) e⟩) (λ_ _ e=>e) (λ_ _ _ e=>e) (λb ps e=>⟨#[],by rw[e];simp⟩) (λm O=>?_) (λb u e=>?_) I.bare
 .have e:b=it:=by simpa using Z
  subst e;exact⟨h1,D,h2,h3⟩
 .obtain⟨o,es,G,K,r⟩:=O;exact⟨o,es,G,k _ o (Zv D) K,r⟩
 .refine(I.hok b u e).stay (λc v y q=>k c v ?_ q) (λ_ q=>q) λ_ _ q=>q
  rcases y with z | z
  .rw[z];exact B b u e
  .exact B c _ z
theorem Ac.tok(I:Ac X ad σ H s)(t:Nat):Ac X ad σ H { s with toks:=t}:=I.un (h':=s.heap) (t':=t) Un.refl I.hok
theorem Ac.kept(I:Ac X ad σ H s)(k:∀b u,s.heap.get? b=some u->h'.get? b=some u):Ac X ad σ H { s with heap:=h',toks:=t'}:=I.un (Un.kept k) (I.hok.kept k)
theorem Ac.laid{a:yR}{o:HO}(I:Ac X ad σ H s)(k:∀b u,s.heap.get? b=some u->h'.get? b=some u)(y:s.heap.objs.size<=a)(new:ObjOk X.prog X.w (upd H a o) h' a o):
  Ac X ad σ (upd H a o) { s with heap:=h',toks:=t'}:=I.un (Un.laid k y (I.hok.fresh y)) (I.hok.laid k y new)
theorem Ac.write{x e:yR}{o:HO}(I:Ac X ad σ H s)(D:FA (H x))(B:e=x\/H e=some (.own x))(k:∀b u,b≠e->s.heap.get? b=some u->h'.get? b=some u)(y:∃u,h'.get? e=some u)
  (new:ObjOk X.prog X.w (upd H x o) h' x o):Ac X ad σ (upd H x o) { s with heap:=h',toks:=t'}:=I.un (Un.write D B k y) (I.hok.write D B k y new)
theorem Ac.weak{y:List (Option V)}(I:Ac X ad σ H s)(B:y.length=σ.length)(w:∀(i:Nat) v,y[i]? =some (some v)->σ[i]? =some (some v)):Ac X ad y H s:=
 ⟨I.ok,I.os,I.bare,I.base,let ⟨m,hn,hl'⟩:=I.loc;⟨m,hn,λi x v D G J=>hl' i x v D (w i v G) J⟩,I.cell,I.free,I.freeC,I.pin,I.hok,B.trans I.len⟩
theorem Ac.pins_of{y:PNs}(I:Ac X ad σ H s)(h:∀p∈y,s.heap.get? p.1=some p.2/\H p.1=none/\p.1≠X.env.locals/\p.1 ∉ X.fs/\∀v,p.2.data≠ .cell v):Ac X y σ H s:=
 ⟨I.ok,I.os,I.bare,I.base,I.loc,I.cell,I.free,I.freeC,λp B=>(ZS.mp B).elim (λz=>I.pin p (aI _ z)) (h p),I.hok,I.len⟩
theorem Id{N:List Str}(y:N.Nodup){i j:Nat}{x:Str}(a:N[i]? =some x)(b:N[j]? =some x):i=j:=by
 obtain⟨J,B⟩:=Y9.mp a;obtain⟨G,D⟩:=Y9.mp b;exact(List.getElem_inj y).mp (B.trans D.symm)
theorem Ie{A:yO}{x:Str}(I:Ac X ad σ H s)(hN:X.N.Nodup)(hi:X.N[i]? =some x)(K:En X.env.scope x)(r:Aw v u)
  (h:∀s',Ac X ad (σ.set i (some v)) H s'->(∃a,Heap.SameBut a s.heap s'.heap/\(a=X.env.locals\/X.env.cells.lookup x=some a))->Q () s') (hf:autoParam (X.fn x=true\/X.env.scope.names.lookup x=some .local) F'):wpAny M A (storeName X.env x u) Q E s:=by
 obtain⟨m,hn,hl⟩:=id I.loc;have i6:(X.env.scope.kind== .class || (X.env.scope.kind== .module && X.env.locals !=X.env.globals))=false:=by rw[I.ok.kind];rfl
 have i0:i<σ.length:=by rw[I.len];exact(Y9.mp hi).1
 have cne:=I.cne;have D:∀ {a:yR}{h':Heap},(∃o,s.heap.get? a=some o/\H a=none)->Heap.SameBut a s.heap h'->HOk X.prog X.w H h':=λ{a h'} ha B b ob e=>by
  obtain⟨_,_,O⟩:=ha;refine(I.hok b ob e).stay (λc w' J q=>(B.2 c ?_).trans q) (λ_ q=>q) λ_ _ q=>q
  rintro rfl;rcases J with rfl | J
  .rw[O]at e;cases e
  .rw[O]at J;cases J
 rcases K with hk | hk
 .refine wpAny_storeName_local hk hn (λh' j3 B=>?_) i6;obtain⟨oL,_,_,j0,_⟩:=id hn;refine h _ ⟨I.ok,I.os,I.bare,⟨λb o e n hb K=>?_,λb o e n hb K=>?_,I.base.free,λb o e K=>?_,I.base.tups,I.base.frzs,I.base.tbls⟩,⟨_,j3,λj y v' G Z e3=>?_⟩,λy c e=>?_,I.free,I.freeC,λp hp=>?_,D ⟨oL,j0,I.free⟩ B,by simpa using I.len⟩ ⟨_,B,.inl rfl⟩
  .exact(B.2 b (YT (YO (Y7 e) I.ok.above))).trans (I.base.keep b o e n hb K)
  .obtain⟨sl,G⟩:=I.base.slot b o e n hb K;exact⟨sl,(B.2 b (YT (YO (Y7 e) I.ok.above))).trans G⟩
  .obtain⟨o',G⟩:=I.base.there b o e K;exact⟨o',(B.2 b (YT (YO (Y7 e) I.ok.above))).trans G⟩
  .by_cases hj:j=i
   .subst hj;rw[hi]at G;cases G;rw[aR i0]at Z;cases Z;exact⟨u,r,.inl ⟨hk,by simp⟩⟩
   .rw [aJ (Zv hj)] at Z;obtain⟨u',r',q⟩:=hl j y v' G Z e3;refine⟨u',r',?_⟩;rcases q with⟨k,e⟩ | ⟨k,c,e,z⟩
    .refine .inl ⟨k,?_⟩;have:y≠x:=λe=>hj (Id hN G (e ▸ hi))
     simp[this,e]
    .exact .inr ⟨k,c,e,z.sameBut B (cne y c e)⟩
  .obtain⟨w',z⟩:=I.cell y c e;exact⟨w',z.sameBut B (cne y c e)⟩
  .obtain⟨e,n,ne,nf,d⟩:=I.pin p hp;exact⟨(B.2 p.1 ne).trans e,n,ne,nf,d⟩
 .have i4:X.fn x=true:=by
   rcases hf with z | z
   .exact z
   .rw[z]at hk;cases hk
  obtain⟨c,J⟩:=I.ok.has x (.inl hk);obtain⟨w',z⟩:=I.cell x c J;refine wpAny_storeName_cell I.ok.kind hk J z (λh' i5 B=>?_);obtain⟨oc,i7,i8⟩:=id z;refine h { s with heap:=h'} ⟨I.ok,I.os,I.bare,⟨λb o e n hb K=>?_,λb o e n hb K=>?_,I.base.free,λb o e K=>?_,I.base.tups,I.base.frzs,I.base.tbls⟩,⟨m,hn.sameBut B (Zv (cne x c J)),λj y v' G Z e3=>?_⟩,λy c' e=>?_,I.free,I.freeC,λp hp=>?_,D ⟨oc,i7,I.freeC x c J⟩ B,by simpa using I.len⟩ ⟨c,B,.inr J⟩
  .exact(B.2 b (YT (YO (Y7 e) (I.ok.cab x c i4 J)))).trans (I.base.keep b o e n hb K)
  .obtain⟨sl,G⟩:=I.base.slot b o e n hb K;exact⟨sl,(B.2 b (YT (YO (Y7 e) (I.ok.cab x c i4 J)))).trans G⟩
  .obtain⟨o',G⟩:=I.base.there b o e K;exact⟨o',(B.2 b (YT (YO (Y7 e) (I.ok.cab x c i4 J)))).trans G⟩
  .by_cases hj:j=i
   .subst hj;rw[hi]at G;cases G;rw[aR i0]at Z;cases Z;exact⟨u,r,.inr ⟨.inl hk,c,J,i5⟩⟩
   .rw [aJ (Zv hj)] at Z;obtain⟨u',r',q⟩:=hl j y v' G Z e3;refine⟨u',r',?_⟩;rcases q with q | ⟨k,c',e,z'⟩
    .exact .inl q
    .refine .inr ⟨k,c',e,z'.sameBut B ?_⟩;rintro rfl;exact hj (Id hN G (I.ok.inj _ _ _ e J ▸ hi))
  .by_cases i9:c'=c
   .subst i9;exact⟨_,i5⟩
   .obtain⟨w2,z2⟩:=I.cell y c' e;exact⟨w2,z2.sameBut B i9⟩
  .obtain⟨e,n,ne,nf,d⟩:=I.pin p hp;refine⟨(B.2 p.1 ?_).trans e,n,ne,nf,d⟩;intro q;rw[q,i7]at e;have q':oc=p.2:=Z7 e;exact d w' (by rw[<-q'];exact i8)
theorem DQ{A:yO}{x:Str}(I:Ac X ad σ H s)(y:X.N.Nodup)(hi:X.N[i]? =some x)(G:En X.env.scope x)(r:Aw v u)
  (h:∀s',Ac X ad (σ.set i (some v)) H s'->Q () s') (B:autoParam (X.fn x=true\/X.env.scope.names.lookup x=some .local) F'):wpAny M A (storeName X.env x u) Q E s:=
 Ie I y hi G r (λs' D _=>h s' D) B
theorem Ac.call'{s':yS}(I:Ac X ad σ H s)(B:s'.os=s.os)(u:Un (AF X.stack) ch H H' s.heap s'.heap)(hok:HOk X.prog X.w H' s'.heap)(D:AllBare s'.gens)
  (y:∀b∈ch,(b∈X.ex\/X.s₀.heap.objs.size<=b)/\b≠X.env.locals/\(∀x c,X.env.cells.lookup x=some c->c≠b)/\∀p∈X.pn++ad,p.1≠b):Ac X ad σ H' s':=by
 obtain⟨J,g',d',t',G⟩:=s';have e:G=s.os:=B;subst e;exact I.call (g':=g') (t':=t') (d':=d') u hok D y
end
abbrev XK:=yU->Option yR->Hp->Prop
abbrev St:=List (Option V)
abbrev VK:=V->Hp->Prop
abbrev TE:=St->Hp->VK->Prop
abbrev TT:=St->Hp->(Bool->Hp->Prop)->Prop
abbrev TA:=St->Hp->(zA->Hp->Prop)->Prop
structure Da where
 nx:St->Hp->Prop
 rt:VK
 bk:St->Hp->Prop:=λ_ _=>False
 ct:St->Hp->Prop:=λ_ _=>False
abbrev TS:=Da->St->Hp->Prop
def EP(X:Cx)(ad:PNs)(σ:St)(Q:VK)(u:yU)(s':yS):Prop:=∃v y,Ac X ad σ y s'/\Aw v u/\Q v y
def TP(X:Cx)(ad:PNs)(σ:St)(Q:Bool->Hp->Prop)(b:Bool)(s':yS):Prop:=∃y,Ac X ad σ y s'/\Q b y
def AP(X:Cx)(ad:PNs)(σ:St)(Q:zA->Hp->Prop)(us:yX)(s':yS):Prop:=∃B y,Ac X ad σ y s'/\Av B us/\Q B y
def SP(X:Cx)(ad:PNs)(D:Da)(f:Flow)(s':yS):Prop:=
 match f with
 | .next=>∃σ' H',Ac X ad σ' H' s'/\D.nx σ' H'
 | .brk=>∃σ' H',Ac X ad σ' H' s'/\D.bk σ' H'
 | .cont=>∃σ' H',Ac X ad σ' H' s'/\D.ct σ' H'
 | .ret u=>∃v σ' H',Ac X ad σ' H' s'/\Aw v u/\D.rt v H'
def PE(X:Cx)(e:yL)(t:TE):Prop:=
 ∀(ad:PNs) (s:yS) (y:St) (H:Hp) (Q:VK),Ac X ad y H s->t y H Q->wpAny (model X.prog X.w) X.A (eval e X.env) (EP X ad y Q) X.xe s
def PT(X:Cx)(e:yL)(t:TT):Prop:=
 ∀(ad:PNs) (s:yS) (y:St) (H:Hp) (Q:Bool->Hp->Prop),Ac X ad y H s->t y H Q->wpAny (model X.prog X.w) X.A (isTrue e X.env (eval e X.env)) (TP X ad y Q) X.xe s
def PW(X:Cx)(e:yL)(t:TT):Prop:=
 ∀(y:Sem yU) (ad:PNs) (s:yS) (B:St) (H:Hp) (Q:Bool->Hp->Prop),Ac X ad B H s->t B H Q->wpAny (model X.prog X.w) X.A (isTrue e X.env y) (TP X ad B Q) X.xe s
theorem PW.pt{X:Cx}{e:yL}{t:TT}(h:PW X e t):PT X e t:=h _
def PA(X:Cx)(es:List yL)(t:TA):Prop:=
 ∀(pos:Pos) (ad:PNs) (s:yS) (y:St) (H:Hp) (Q:zA->Hp->Prop),Ac X ad y H s->t y H Q->wpAny (model X.prog X.w) X.A (spliced (backTo pos (starEach es X.env))) (AP X ad y Q) X.xe s
def PS(X:Cx)(st:Stmt)(t:TS):Prop:=
 ∀(ad:PNs) (s:yS) (y:St) (H:Hp) (D:Da),Ac X ad y H s->t D y H->wpAny (model X.prog X.w) X.A (exec st X.env) (SP X ad D) X.xe s
def PSs(X:Cx)(st:List Stmt)(t:TS):Prop:=
 ∀(ad:PNs) (s:yS) (y:St) (H:Hp) (D:Da),Ac X ad y H s->t D y H->wpAny (model X.prog X.w) X.A (execs st X.env) (SP X ad D) X.xe s
theorem Ap{y:Type}{t:Sem y}{Q Q':y->yS->Prop}{A:yO}{s:yS}(h:wpAny M A t Q E s)(B:∀a s,Q a s->Q' a s):wpAny M A t Q' E s:=Zi h B λ_ _ x=>x
end L2
namespace L2
variable{E Q:yY}{ad:List (yR × Obj)}{s:yS}{σ:St}{H:Hp}{u:yU}
variable{X:Cx}
def Qa(i:Nat):TE:=fun y H Q=>∃v,y[i]? =some (some v)/\Q v H
def tC(v:V):TE:=λ_ H Q=>Q v H
theorem Ig{i:Nat}{x:Str}{pos:Pos}(O:X.N[i]? =some x)(K:FB X.env.scope x)(hd:autoParam ((x==("__debug__" :Str))=false) W0)(B:autoParam ((x==("__classdict__" :Str))=false) W0):PE X (.Name x pos) (Qa i):=by
 intro ad s D H Q I h;obtain⟨v,e,h⟩:=h;obtain⟨m,G,J⟩:=I.loc;obtain⟨u,r,l⟩:=J i x v O e K;have fin:EP X ad D Q u s:=⟨v,H,I,r,h⟩;rcases l with⟨y,hm⟩ | ⟨y,c,hc,hcell⟩
 .exact wpAny_Name (wpAny_loadName_local I.ok.kind y G hm fin) hd
 .rcases y with y | y
  .exact wpAny_Name (wpAny_loadName_cell I.ok.kind y hc hcell fin) hd
  .exact wpAny_Name (wpAny_loadName_free I.ok.kind y hc hcell fin B) hd
theorem R'{i j pos}:PE X (.Constant (.int i) j pos) (tC (.int i)):=λ_ _ _ H _ I h=>bX ⟨.int i,H,I.tok _,⟨_,rfl⟩,h⟩
theorem W'{b j pos}:PE X (.Constant (.bool b) j pos) (tC (.bl b)):=λ_ _ _ H _ I h=>Constant_bool ⟨.bl b,H,I,rfl,h⟩
theorem V'{j pos}:PE X (.Constant .none j pos) (tC .non):=λ_ _ _ H _ I h=>Constant_none ⟨.non,H,I,rfl,h⟩
theorem U'{x j pos}:PE X (.Constant (.str x) j pos) (tC (.str x)):=λ_ _ _ H _ I h=>Calls.Constant_str ⟨.str x,H,I.tok _,⟨_,rfl⟩,h⟩
def Gl(X:Cx)(x:Str):Prop:=X.env.kindOf x=some .globalImplicit
theorem ES{x:Str}{pos:Pos}(I:Ac X ad σ H s)(y:Gl X x)(B:X.mg x=some u)(h:Q u s)
  (hd:autoParam ((x==("__debug__" :Str))=false) W0):wpAny (model X.prog X.w) X.A (eval (.Name x pos) X.env) Q E s:=
 dR I.ok.kind y (Calls.loadGlobal_global (by rw[I.ok.glob];exact I.mod.glob.keeps I.bk) B h) hd
theorem B8{x:Str}{pos:Pos}(I:Ac X ad σ H s)(B:Gl X x)(G:X.mg x=none)(J:bootBuiltins x=some u)(h:Q u s)
  (K:autoParam (x≠ "__name__") W0) (hd:autoParam ((x==("__debug__" :Str))=false) W0):wpAny (model X.prog X.w) X.A (eval (.Name x pos) X.env) Q E s:=by
 obtain⟨O,D,y⟩:=I.mod.blt;exact dR I.ok.kind B (Calls.loadGlobal_builtin (by rw[I.ok.glob];exact I.mod.glob.keeps I.bk) G (by rw[I.ok.blt];exact D.keeps I.bk) ((y x K).trans J) h) hd
theorem CK{x:Str}{v:V}{u:yU}{pos:Pos}(y:Gl X x)(B:X.mg x=some u)(r:Aw v u)(hd:autoParam ((x==("__debug__" :Str))=false) W0):PE X (.Name x pos) (tC v):=
 λ_ _ _ H _ I h=>ES I y B ⟨v,H,I,r,h⟩ hd
theorem Eo{x:Str}{v:V}{u:yU}{pos:Pos}(y:Gl X x)(B:X.mg x=none)(D:bootBuiltins x=some u)(r:Aw v u)(G:autoParam (x≠ "__name__") W0)(hd:autoParam ((x==("__debug__" :Str))=false) W0):PE X (.Name x pos) (tC v):=
 λ_ _ _ H _ I h=>B8 I y B D ⟨v,H,I,r,h⟩ G hd
variable{a b:yL}{K J:TE}{pos:Pos}
theorem Qb(b:yL){op:CmpOp}(h:op≠ .In)(y:op≠ .NotIn):behindInMarks op b=false:=by
 have B:(op==CmpOp.In)=false:=by cases op<;>first | rfl | exact absurd rfl h
 have D:(op==CmpOp.NotIn)=false:=by cases op<;>first | rfl | exact absurd rfl y
 cases b<;>simp[behindInMarks,B,D]
def tB(t:TE):TT:=fun D H Q=>t D H λx B=>∃c,x= .bl c/\Q c B
variable{J G:TT}{y:List yL}
def Qc(t:TT):TT:=fun B H Q=>t B H λc y=>Q (!c) y
theorem Ih(B:PT X a tA):PW X (.BoolOp .And [a] pos) tA:=by
 intro D ad s y H Q I h;refine isTrue_and (Ap (B ad s y H Q I h) λc s1 e=>?_);cases c with
 | true=>exact isTrue_and_nil e
 | false=>exact e
theorem FC(B:PT X a tA):PW X (.BoolOp .Or [a] pos) tA:=by
 intro D ad s y H Q I h;refine isTrue_or (Ap (B ad s y H Q I h) λc s1 e=>?_);cases c with
 | false=>exact isTrue_or_nil e
 | true=>exact e
theorem B9(D:PT X a tA):PT X (.UnaryOp .Not a pos) (Qc tA):=by
 intro ad s y H Q I h;exact isTrue_not (D ad s y H (λc B=>Q (!c) B) I h)
theorem Cu{op}{t:TE}(h:PE X a t):PE X (.BoolOp op [a] pos) t:=λad s y H Q I B=>BoolOp_one (h ad s y H Q I B)
end L2
namespace L2
variable{i:Nat}{tg:yL}{P:yP}
def Al(K:Fgx)(H:Hp)(a:yR)(xs:zA):Prop:=
 Rd H a (.lst xs)\/
  ∃(o:Obj) (y:Array yU) (n:Nat),K.lookup a=some o/\o.cls= .type "list" /\o.dict=none/\o.data= .seq y n/\y.size<=sizeLine/\Av xs y.toList
def Ae(K:Fgx)(H:Hp)(a:yR)(xs:zA):Prop:=
 Rd H a (.tup xs)\/
  ∃(o:Obj) (y:Array yU) (n:Nat),K.lookup a=some o/\o.cls= .type "tuple" /\o.data= .seq y n/\y.size<=sizeLine/\Av xs y.toList
noncomputable def Qd:yU->Option V
 | .none=>some .non
 | .bool b=>some (.bl b)
 | .int i _=>some (.int i)
 | .str x _=>some (.str x)
 | .bytes b _=>some (.byt b)
 | .float b _=>some (.flt b)
 | .ref a=>some (.ref a)
 | .type n=>some (.ty n)
 | _=>none
theorem Aw.abs{x:V}{u:yU}(r:Aw x u):Qd u=some x:=by
 cases x with
 | non=>cases r;rfl
 | bl _=>cases r;rfl
 | int _=>obtain⟨t,rfl⟩:=r;rfl
 | str _=>obtain⟨t,rfl⟩:=r;rfl
 | byt _=>obtain⟨t,rfl⟩:=r;rfl
 | flt _=>obtain⟨t,rfl⟩:=r;rfl
 | ref _=>cases r;rfl
 | ty _=>cases r;rfl
theorem Aw.inj{x y:V}{u:yU}(r:Aw x u)(q:Aw y u):x=y:=Z7 (r.abs.symm.trans q.abs)
theorem Av.inj{xs ys:zA}{us:yX}(h:Av xs us)(k:Av ys us):xs=ys:=by
 induction h generalizing ys with
 | nil=>cases k;rfl
 | cons r t ih=>
  cases k with
  | cons r' t'=>rw[r.inj r',ih t']
section
variable{X:Cx}{ad:List (yR × Obj)}{σ:St}{H:Hp}{s:yS}{a:yR}{xs ys:zA}
theorem Al.of{K:Fgx}(h:H a=some (.lst xs)):Al K H a xs:= .inl (.inl h)
theorem Ae.of{K:Fgx}(h:H a=some (.tup xs)):Ae K H a xs:= .inl (.inl h)
theorem Ac.list(I:Ac X ad σ H s)(h:Al X.K H a xs):∃y:yX,Av xs y/\PlainL s.heap a y.toArray/\xs.length<=sizeLine:=by
 rcases h with h | ⟨o,y,n,G,B,hd,D,J,r⟩
 .obtain⟨z,y,n,r,e⟩:=h.ok I.hok;exact⟨y,r,⟨_,n,e,rfl,rfl,rfl⟩,z⟩
 .refine⟨y.toList,r,⟨o,n,I.kIn a o G,B,hd,by simpa using D⟩,?_⟩;have e:=r.length;simp only[Ze]at e;omega
theorem Ac.tuple(I:Ac X ad σ H s)(h:Ae X.K H a xs):∃y:yX,Av xs y/\IsTup s.heap a y.toArray/\xs.length<=sizeLine:=by
 rcases h with h | ⟨o,y,n,G,B,D,J,r⟩
 .obtain⟨z,y,r,p⟩:=h.ok I.hok;exact⟨y,r,p,z⟩
 .refine⟨y.toList,r,⟨o,I.kIn a o G,B,n,by simpa using D⟩,?_⟩;have e:=r.length;simp only[Ze]at e;omega
theorem Ac.list_inj(I:Ac X ad σ H s)(h:Al X.K H a xs)(h':Al X.K H a ys):xs=ys:=by
 obtain⟨B,r,⟨o,n,e,_,_,d⟩,_⟩:=I.list h;obtain⟨y,O,⟨o',Z,D,_,_,G⟩,_⟩:=I.list h';rw[e]at D;cases D;rw[d]at G;injection G with J _
 have:B=y:=by simpa using Zz Array.toList J
 subst this;exact r.inj O
theorem Ac.tuple_inj(I:Ac X ad σ H s)(h:Ae X.K H a xs)(h':Ae X.K H a ys):xs=ys:=by
 obtain⟨B,r,⟨o,e,_,n,d⟩,_⟩:=I.tuple h;obtain⟨y,O,⟨o',D,_,Z,G⟩,_⟩:=I.tuple h';rw[e]at D;cases D;rw[d]at G;injection G with J _
 have:B=y:=by simpa using Zz Array.toList J
 subst this;exact r.inj O
end
abbrev Cx.wish(X:Cx)(E:VSP):Cx:= { X with xe:=E}
abbrev Cx.nox(X:Cx):Cx:=X.wish λ_ _=>False
theorem Cx.Ok.wish{X:Cx}(ok:X.Ok)(E:VSP):(X.wish E).Ok:=
 ⟨ok.mod,ok.kind,ok.glob,ok.blt,ok.above,ok.inj,ok.has,ok.cab,ok.hd,ok.frames,ok.stk,ok.exf,ok.bs,ok.bsz,ok.noex,ok.exfs,ok.funs,ok.frf⟩
theorem Cx.Ok.unwish{X:Cx}{E:VSP}(ok:(X.wish E).Ok):X.Ok:=
 ⟨ok.mod,ok.kind,ok.glob,ok.blt,ok.above,ok.inj,ok.has,ok.cab,ok.hd,ok.frames,ok.stk,ok.exf,ok.bs,ok.bsz,ok.noex,ok.exfs,ok.funs,ok.frf⟩
section
variable{X:Cx}{ad:List (yR × Obj)}{σ:St}{H:Hp}{s:yS}{E:yY}
theorem Ac.wish(I:Ac X ad σ H s)(E:VSP):Ac (X.wish E) ad σ H s:=⟨I.ok.wish E,I.os,I.bare,I.base,I.loc,I.cell,I.free,I.freeC,I.pin,I.hok,I.len⟩
theorem Ac.unwish(I:Ac (X.wish E) ad σ H s):Ac X ad σ H s:=⟨I.ok.unwish,I.os,I.bare,I.base,I.loc,I.cell,I.free,I.freeC,I.pin,I.hok,I.len⟩
theorem SP.unwish{D:Da}{f:Flow}{s':yS}(h:SP (X.wish E) ad D f s'):SP X ad D f s':=by
 cases f with
 | next=>obtain⟨y,B,I,q⟩:=h;exact⟨y,B,I.unwish,q⟩
 | brk=>obtain⟨y,B,I,q⟩:=h;exact⟨y,B,I.unwish,q⟩
 | cont=>obtain⟨y,B,I,q⟩:=h;exact⟨y,B,I.unwish,q⟩
 | ret u=>obtain⟨v,y,B,I,r,q⟩:=h;exact⟨v,y,B,I.unwish,r,q⟩
theorem PSs.nox{st:List Stmt}{t:TS}(h:PSs X.nox st t):PSs X st t:=λad s y H D I B=>
 Zi (h ad s y H D (I.wish _) B) (λ_ _ q=>q.unwish) λ_ _ z=>False.elim z
end
section
variable{X:Cx}{st:Stmt}{rest:List Stmt}{t u:TS}{e:yL}{te:TE}{pos:Pos}
def Qe:TS:=λD y H=>D.nx y H
def KK(t u:TS):TS:=λD y H=>t { D with nx:=u D} y H
theorem Bh:PSs X [] Qe:=λ_ _ y H _ I h=>fm ⟨y,H,I,h⟩
theorem Ak(K:PS X st t)(B:PSs X rest u):PSs X (st::rest) (KK t u):=by
 intro ad s O H D I h;refine eV (Ap (K ad s O H { D with nx:=u D} I h) λf s1 q=>?_);cases f with
 | next=>
  obtain⟨y,G,J,q⟩:=q;exact B ad s1 y G D J q
 | ret v=>exact q
 | brk=>exact q
 | cont=>exact q
theorem An(y:PS X st t):PSs X [st] t:=by
 intro ad s B H D I h;refine eV (Ap (y ad s B H D I h) λf s1 q=>?_);cases f with
 | next=>exact fm q
 | ret v=>exact q
 | brk=>exact q
 | cont=>exact q
theorem Ac.quiet{ad:PNs}{σ:St}{H:Hp}{s:yS}(I:Ac X ad σ H s):interactive X.env=false:=by simp[interactive,I.ok.kind]
def Qf(G:TE):TS:=λD y H=>G y H λ_ B=>D.nx y B
theorem Cv(B:PE X e te)(G:autoParam (swapsWith e none pos.line X.env=pure false) L3):PS X (.Expr e pos) (Qf te):=by
 intro ad s y H D I h;exact wpAny_Expr_any (Ap (B ad s y H _ I h) λv s1 ⟨x,J,O,Z,K⟩=>⟨y,J,O,K⟩) I.quiet G
def KM(B:TE):TS:=λD y H=>B y H D.rt
theorem Ay(B:PE X e te):PS X (.Return (some e) pos) (KM te):=by
 intro ad s y H D I h;exact wpAny_Return_some (Ap (B ad s y H _ I h) λv s1 ⟨x,J,O,G,K⟩=>⟨x,y,J,O,G,K⟩)
def Qg:TS:=λ_ _ _=>False
theorem KN:PS X st Qg:=λ_ _ _ _ _ _ h=>h.elim
end
abbrev TG:=V->St->Hp->(St->Hp->Prop)->Prop
abbrev DR:=zA->St->Hp->(St->Hp->Prop)->Prop
def PG(X:Cx)(y:yL)(t:TG):Prop:=
 ∀(ad:PNs) (s:yS) (D:St) (H:Hp) (v:V) (u:yU) (Q:St->Hp->Prop),Ac X ad D H s->Aw v u->t v D H Q->
  wpAny (model X.prog X.w) X.A (assign y X.env u) (λ_ J=>∃B G,Ac X ad B G J/\Q B G) X.xe s
def FE(X:Cx)(K:List yL)(t:DR):Prop:=
 ∀(ad:PNs) (s:yS) (D:St) (H:Hp) (B:zA) (J:yX) (Q:St->Hp->Prop),Ac X ad D H s->Av B J->t B D H Q->
  wpAny (model X.prog X.w) X.A (assignInOrder ((assignEach K X.env).map (·.2)) J) (λ_ O=>∃y G,Ac X ad y G O/\Q y G) X.xe s
abbrev Ii:=V->V->V->Hp->(Hp->Prop)->Prop
def KO(X:Cx)(t:Ii):Prop:=
 ∀(ad:PNs) (s:yS) (D:St) (H:Hp) (o i v:V) (y B u:yU) (Q:Hp->Prop),Ac X ad D H s->Aw o y->Aw i B->Aw v u->t o i v H Q->
  wpAny (model X.prog X.w) X.A (setItem y B u) (λ_ J=>∃G,Ac X ad D G J/\Q G) X.xe s
section
variable{X:Cx}{pos:Pos}
def Ep(i:Nat):TG:=λv y H Q=>Q (y.set i (some v)) H
theorem Qh{x:Str}(y:X.N.Nodup)(hi:X.N[i]? =some x)(G:En X.env.scope x)(B:autoParam (X.fn x=true\/X.env.scope.names.lookup x=some .local) F'):PG X (.Name x pos) (Ep i):=by
 intro ad s K H v u Q I r h;exact et (DQ I y hi G r (λJ D=>⟨_,H,D,h⟩) B)
def Qi:DR:=λB y H Q=>B=[]/\Q y H
def Qj(t:TG)(u:DR):DR:=λG B H Q=>∃v r,G=v::r/\t v B H fun y D=>u r y D Q
theorem AJ:FE X [] Qi:=by
 intro ad s y H B D Q I r h;obtain⟨e,h⟩:=h;subst e;cases r;exact eB ⟨y,H,I,h⟩
theorem Aj{e:yL}{es:List yL}{t:TG}{u:DR}(h1:PG X e t)(O:FE X es u)
  (G:autoParam ((assignEach (e::es) X.env).map (·.2)=assign e X.env::(assignEach es X.env).map (·.2)) L3):FE X (e::es) (Qj t u):=by
 intro ad s B H vs us Q I r h;obtain⟨v,vr,Z,h⟩:=h;subst Z;cases r with
 | cons r rr=>
  rw[G];refine aG (Ap (h1 ad s B H _ _ _ I r h) λ_ s1 zq=>?_);obtain⟨y,J,D,K⟩:=zq;exact O ad s1 y J _ _ Q D rr K
def KP(K:Fgx)(n:Nat)(t:DR):TG:=λv B H Q=>∃a y,v= .ref a/\Ae K H a y/\y.length=n/\t y B H Q
theorem Qk{es:List yL}{k:Nat}{t:DR}{n:Nat}(hc:X.calm=true)(h:FE X es t)
  (hn:autoParam ((assignEach es X.env).length=n) L3) (y:autoParam ((assignEach es X.env).findIdx? (·.1)=none) L3):PG X (.Tuple es k pos) (KP X.K n t):=by
 intro ad s D H v u Q I r B;obtain⟨a,O,e1,hq,hl,B⟩:=B;subst e1;cases r;obtain⟨J,G,ht,hz⟩:=I.tuple hq;refine assign_Tuple_tuple (I.ok.hd hc) ht (by simp[hn,<-hl,G.length]) y λZ hx=>?_
 have I1:Ac X ad D H { s with heap:=Z}:=I.kept (t':=s.toks) λb o e=>hx b o (YT (Y7 e)) e
 exact h ad _ D H O _ Q I1 (by simpa using G) B
def Ql(to ti:TE)(t:Ii):TG:=λv y H Q=>to y H λo B=>ti y B λi G=>t o i v G λD=>Q y D
theorem KQ{o i:yL}{to ti:TE}{t:Ii}(ho:PE X o to)(hi:PE X i ti)(hs:KO X t)
  (ha : autoParam (∀ v, assign (.Subscript o i pos) X.env v = (do
   let B<-holding [v] (eval o X.env)
   let G<-holding [v,B] (eval i X.env)
   standAt pos
   holding [v,B,G] (setItem B G v)
   release [v,B,G] [])) B'):PG X (.Subscript o i pos) (Ql to ti t):=by
 intro ad s J H v u Q I r h;rw[ha];refine Y0 (Zp (Ap (ho ad s J H _ I h) λB s1 D=>?_));obtain⟨x,H1,I1,Z,q1⟩:=D;refine Y0 (Zp (Ap (hi ad s1 J H1 _ I1 q1) λG s2 D=>?_));obtain⟨y,H2,O,r2,K⟩:=D;refine Y0 (aN (Y0 (Zp (Ap (hs ad s2 J H2 x y v B G u _ O Z r2 r K) λ_ s3 D=>?_))));obtain⟨H3,I3,q3⟩:=D;exact wpAny_release ⟨J,H3,I3,q3⟩
def Ij(G:TE)(g:TG):TS:=λD y H=>G y H λx B=>g x y B D.nx
theorem Bz{e:yL}{B:TE}{g:TG}(Z:PE X e B)(G:PG X tg g)(hs:autoParam (swapsWithSole [tg] e pos.line X.env=pure false) L3)(K:autoParam (swappedStores [tg] e X.env=pure none) L3)
  (h1:autoParam ((assignEach [tg] X.env).map (·.2)=[assign tg X.env]) L3):PS X (.Assign [tg] e pos) (Ij B g):=by
 intro ad s y H D I h;refine wpAny_Assign_stores (Ap (Z ad s y H _ I h) λv s1 zq=>?_) hs K;obtain⟨x,H1,O,J,q1⟩:=zq;rw[h1];exact Ap (G ad s1 y H1 x v _ O J q1) λ_ s2 q=>q
theorem AB{i:Nat}{x:Str}{e:yL}{G:TE}{B:Pos}(hN:X.N.Nodup)(hi:X.N[i]? =some x)(hx:En X.env.scope x)(he:PE X e G)(hs:autoParam (swapsWith e (some (.Name x B)) pos.line X.env=pure false) L3)(hf:autoParam (X.fn x=true\/X.env.scope.names.lookup x=some .local) F'):
  PS X (.Assign [.Name x B] e pos) (Ij G (Ep i)):=by
 intro ad s O H D I h;refine wpAny_Assign_Name (Ap (he ad s O H _ I h) λv s1 zq=>?_) hs;obtain⟨y,H1,Z,K,q1⟩:=zq;exact DQ Z hN hi hx K (λs2 J=>⟨_,H1,J,q1⟩) hf
def Qm(i j:Nat)(G:TA):TS:=λD y H=>G y H λJ B=>∃v w,J=[v,w]/\D.nx ((y.set i (some v)).set j (some w)) B
theorem KR{j:Nat}{x y:Str}{a b:yL}{ta:TA}{J K pt:Pos}{kt k2 pt2}(hc:X.calm=true)(hN:X.N.Nodup)(hi:X.N[i]? =some x)(hj:X.N[j]? =some y)(i0:i≠j)
  (hx:X.env.scope.names.lookup x=some .local) (hy:X.env.scope.names.lookup y=some .local) (ha:PA X [a,b] ta)
  (hw:swappedStores [.Tuple [.Name x J,.Name y K] kt pt] (.Tuple [a,b] k2 pt2) X.env=pure (some [x,y]))
  (hs:autoParam (swapsWithSole [.Tuple [.Name x J,.Name y K] kt pt] (.Tuple [a,b] k2 pt2) pos.line X.env=pure false) L3):
  PS X (.Assign [.Tuple [.Name x J,.Name y K] kt pt] (.Tuple [a,b] k2 pt2) pos) (Qm i j ta):=by
 intro ad s σ H D I h;rw[exec_Assign_arm];refine Y0 (aN ?_);rw[hs];refine Y0 (Y4 ?_);rw[Y8 (by decide)];refine Y0 (Tuple_ (Ap (ha _ ad s σ H _ I h) λus s1 zq=>?_));obtain⟨vs,H1,I1,r1,Z⟩:=zq;obtain⟨v,w,e1,Z⟩:=Z;subst e1;obtain⟨G,B,rfl,rv,O⟩:∃G B,us=[G,B]/\Aw v G/\Aw w B:=by
  cases r1 with
  | cons p q=>
   cases q with
   | cons p' q'=>
    cases q';exact⟨_,_,rfl,p,p'⟩
 refine Zn ?_ (by show 2<=sizeLine;decide);have I2:Ac X ad σ H1 { s1 with heap:=s1.heap.push { cls:= .type "tuple",data:= .seq [G,B].toArray}}:=I1.kept (t':=s1.toks) λb o e=>Y1 _ e
 rw[hw];refine Y0 (Y4 ?_);show wpAny (model X.prog X.w) X.A (do rule "assign.swapped-stores";let items<-unpackItems (.ref s1.heap.objs.size) 2 none;assignInOrder [λv=>bindName X.env y v,λv=>bindName X.env x v] items.reverse;pure Flow.next) _ _ _;refine Y0 (aE (Y0 (unpackItems_tuple (items:= #[G,B]) (I.ok.hd hc) (gC s1.heap _) λh' i4=>?_)));have I3:=I2.kept (h':=h') (t':=s1.toks) λb o e=>i4 b o (YT (Y7 e)) e
 show wpAny _ _ (assignInOrder [λv=>bindName X.env y v,λv=>bindName X.env x v] [B,G] >>=λ_=>pure Flow.next) _ _ _;refine Y0 (aG (cq (DQ I3 hN hj (.inl hy) O (λs2 I4=>?_) (.inr hy))));refine aG (cq (DQ I4 hN hi (.inl hx) rv (λs3 I5=>eB (Y4 ?_)) (.inr hx)));rw[set_comm _ _ (Zv i0)]at I5;exact⟨_,H1,I5,Z⟩
end
structure It where
 go:Nat->Hp->Prop
 yld:Nat->Hp->V->Hp->Prop
 stop:Nat->Hp->Prop
def Br(X:Cx)(ad:PNs)(H:Hp)(b:yR):Prop:=
 H b=none/\b≠X.env.locals/\b ∉ X.fs/\(b∈X.ex\/X.s₀.heap.objs.size<=b)/\(∀x c,X.env.cells.lookup x=some c->c≠b)/\∀p∈X.pn++ad,p.1≠b
theorem Ac.fpOk{X:Cx}{ad:PNs}{σ:St}{H H':Hp}{s:yS}{b:yR}(I:Ac X ad σ H s)(y:s.heap.objs.size<=b)(D:H' b=none):Br X ad H' b:=by
 refine⟨D,ZV (YO I.lt y),I.nofs y,.inr (YV I.sz y),λx c e z=>?_,λp B z=>?_⟩
 .obtain⟨v,q⟩:=I.cell x c e;exact absurd (YO q.lt (by rw[z];exact y)) (YX _)
 .exact absurd (YO (Y7 (I.pin p B).1) (by rw[z];exact y)) (YX _)
structure CV(P:yP)(w:yN)(K:Fgx)(tg:yL)(J:It)(fp:List yR)(it:yR)(tn:Nat->Heap->Prop):Prop where
 mem:it∈fp
 obj:∀i h,tn i h->∀b∈fp,∃o,h.get? b=some o/\∀v,o.data≠ .cell v
 keep:∀i h h',tn i h->(∀b∈fp,∀o,h.get? b=some o->h'.get? b=some o)->tn i h'
 item:∀(X:Cx),X.prog=P->X.w=w->X.K=K->X.calm=true->∀(i:Nat) (ad:PNs) (s:yS) (σ:St) (H:Hp) (E:VSP),Ac X ad σ H s->(∀b∈fp,Br X ad H b)->tn i s.heap->J.go i H->
  wpAny (model P w) X.A (pyNext (.ref it)) (λr s1=>∃u,r=some u/\
   wpAny (model P w) X.A (letOwnedTupleGo tg (.ref it) u) (λ_ s2=>∃x H',Ac X ad σ H' s2/\Aw x u/\J.yld i H x H'/\tn (i+1) s2.heap/\∀b∈fp,H' b=none) E s1) E s
 done:∀(X:Cx),X.prog=P->X.w=w->X.K=K->X.calm=true->∀(i:Nat) (ad:PNs) (s:yS) (σ:St) (H:Hp) (E:VSP),Ac X ad σ H s->(∀b∈fp,Br X ad H b)->tn i s.heap->J.stop i H->
  wpAny (model P w) X.A (pyNext (.ref it)) (λr s1=>r=none/\Ac X ad σ H s1) E s
 self:∀(A:yO) (i:Nat) (s:yS) (Q:VSP) (E:VSP),tn i s.heap->Q (.ref it) s->wpAny (model P w) A (pyIter (.ref it)) Q E s
abbrev TI:=St->Hp->(It->Hp->Prop)->Prop
def KS(X:Cx)(ad:PNs)(σ:St)(G:yL)(R:It->Hp->Prop)(D:yU)(s2:yS):Prop:=
 ∃(it:yR) (fp:List yR) (B:Nat->Heap->Prop) (J:It) (y:Hp),D= .ref it/\Ac X ad σ y s2/\CV X.prog X.w X.K G J fp it B/\B 0 s2.heap/\(∀b∈fp,Br X ad y b)/\R J y
def PI(X:Cx)(G y:yL)(D:TI):Prop:=
 ∀(ad:PNs) (s:yS) (B:St) (H:Hp) (R:It->Hp->Prop),Ac X ad B H s->D B H R->
  wpAny (model X.prog X.w) X.A (eval y X.env) (λv s1=>wpAny (model X.prog X.w) X.A (pyIter v) (KS X ad B G R) X.xe s1) X.xe s
theorem Gm{M:Model}{A:yO}{E:VSP}{s:yS}{B:yL}{it:yR}{u:yU}{o:Obj}{n:String}{vs:Array yU}{Q:Unit->yS->Prop}(D:s.heap.get? it=some o)(G:o.cls= .type n)(hd:o.data= .fields vs)
    (J:["enumerate","zip","dict_itemiterator","dict_reverseitemiterator","odict_iterator","itertools.zip_longest","itertools.pairwise"].contains n=false) (y:Q () s):wpAny M A (letOwnedTupleGo B (.ref it) u) Q E s:=by
  unfold letOwnedTupleGo;cases B<;>first
    | exact Y4 y
    | (cases u<;>first
        | exact Y4 y
        | (refine Y0 (wpAny_load D ?_)
           rw[G,hd];show wpAny M A (if (["enumerate","zip","dict_itemiterator","dict_reverseitemiterator","odict_iterator","itertools.zip_longest","itertools.pairwise"].contains n && vs[0]? ==some (rawInt _))=true then _ else _) Q E s;rw[Y8 (by intro h;rw[J,ZX]at h;cases h)];exact Y4 y))
def ET(K:Fgx)(a:yR):It:=
 ⟨λi H=>∃y x,Al K H a y/\y[i]? =some x,λi H x B=>B=H/\∀y,Al K H a y->y[i]? =some x,λi H=>∃y,Al K H a y/\y.length<=i⟩
def Er(K:Fgx)(a:yR):It:=
 ⟨λi H=>∃y x,Ae K H a y/\y[i]? =some x,λi H x B=>B=H/\∀y,Ae K H a y->y[i]? =some x,λi H=>∃y,Ae K H a y/\y.length<=i⟩
def Db(lo:Int)(n:Nat):It:=⟨λi _=>i<n,λi H x y=>y=H/\x= .int (lo+i),λi _=>n<=i⟩
theorem Qn{w:yN}{K:Fgx}(a it:yR):CV P w K tg (ET K a) [it] it (λi h=>h.IsListIter it a i) where
 mem:=by simp
 obj:=λi h st b y=>by
  have e:b=it:=by simpa using y
  subst e;obtain⟨o,e,c,d⟩:=st;exact⟨o,e,λv z=>by rw[d]at z;cases z⟩
 keep:=λi h D st k=>st.at λo e=>k it (by simp) o e
 item:=by
  intro X Z hw hK hc i ad s σ H E I G st hg;subst Z hw hK;obtain⟨xs,x,J,hx⟩:=hg;obtain⟨O,rv,p,hz⟩:=I.list J;obtain⟨u,hu,ru⟩:=rv.get hx;obtain⟨f0,f1,f2,f3,f4,f5⟩:=G it (by simp);refine wpAny_pyNext_list_item st p.isList (x:=u) (by simpa using hu) λD B sb=>?_
  have I1:Ac X ad σ H { s with heap:=D}:=I.turned (t':=s.toks) (λb o y e=>(sb.2 b y).trans e) f0 f1 f3 f4 f5;obtain⟨o,e,c,d⟩:=id B;exact⟨u,rfl,Gm (s:= { s with heap:=D}) e c d (by decide) ⟨x,H,I1,ru,⟨rfl,λys hy=>by rw[I.list_inj hy J];exact hx⟩,B,λb y=>(G b y).1⟩⟩
 done:=by
  intro X Z hw hK hc i ad s σ H E I G st hg;subst Z hw hK;obtain⟨xs,J,hx⟩:=hg;obtain⟨O,rv,p,hz⟩:=I.list J;obtain⟨f0,f1,f2,f3,f4,f5⟩:=G it (by simp);have hl:=rv.length;exact wpAny_pyNext_list_end (I.ok.hd hc) st p.isList (by simp;omega) λD eb=>⟨rfl,I.turned (t':=s.toks) (λb o y e=>eb b o y e) f0 f1 f3 f4 f5⟩
 self:=λ_ _ _ _ _ st h=>wpAny_pyIter_listiter st h
theorem Qo{w:yN}{K:Fgx}(a it:yR):CV P w K tg (Er K a) [it] it (λi h=>h.IsTupleIter it a i) where
 mem:=by simp
 obj:=λi h st b B=>by
  have e:b=it:=by simpa using B
  subst e;obtain⟨o,e,c,d⟩:=st;exact⟨o,e,λv z=>by rw[d]at z;cases z⟩
 keep:=λi h G st k=>st.at λo e=>k it (by simp) o e
 item:=by
  intro X Z hw hK hc i ad s σ H E I J st hg;subst Z hw hK;obtain⟨xs,x,O,hx⟩:=hg;obtain⟨y,rv,p,hz⟩:=I.tuple O;obtain⟨u,hu,ru⟩:=rv.get hx;obtain⟨f0,f1,f2,f3,f4,f5⟩:=J it (by simp);refine wpAny_pyNext_tuple_item st (show s.heap.IsTuple a y.toArray from p) (x:=u) (by simpa using hu) λG D sb=>?_
  have I1:Ac X ad σ H { s with heap:=G}:=I.turned (t':=s.toks) (λb o B e=>(sb.2 b B).trans e) f0 f1 f3 f4 f5;obtain⟨o,e,c,d⟩:=id D;exact⟨u,rfl,Gm (s:= { s with heap:=G}) e c d (by decide) ⟨x,H,I1,ru,⟨rfl,λys hy=>by rw[I.tuple_inj hy O];exact hx⟩,D,λb B=>(J b B).1⟩⟩
 done:=by
  intro X Z hw hK hc i ad s σ H E I J st hg;subst Z hw hK;obtain⟨xs,O,hx⟩:=hg;obtain⟨y,rv,p,hz⟩:=I.tuple O;obtain⟨f0,f1,f2,f3,f4,f5⟩:=J it (by simp);have hl:=rv.length;exact wpAny_pyNext_tuple_end (I.ok.hd hc) st (show s.heap.IsTuple a y.toArray from p) (by simp;omega) λG eb=>⟨rfl,I.turned (t':=s.toks) (λb o B e=>eb b o B e) f0 f1 f3 f4 f5⟩
 self:=λ_ _ _ _ _ st h=>wpAny_pyIter_tupleiter st h
theorem Qp{w:yN}{K:Fgx}(it:yR)(lo:Int)(n:Nat):CV P w K tg (Db lo n) [it] it (λi h=>IsRangeIter h it (lo+(i:Nat) * 1) ((n:Int)-(i:Nat)) 1) where
 mem:=by simp
 obj:=λi h st b y=>by
  have e:b=it:=by simpa using y
  subst e;exact⟨_,st,λv z=>by
   have z':Data.fields _=Data.cell v:=z;cases z'⟩
 keep:=λi h D st k=>k it (by simp) _ st
 item:=by
  intro X J hw Z hc i ad s σ H E I G st hg;subst J hw Z;obtain⟨f0,O,f2,f3,f4,f5⟩:=G it (by simp);have W:=Walks.range (prog:=X.prog) (w:=X.w) (I.ok.hd hc) it lo 1 n;refine W.item i s _ _ hg st λv D tk hv B kk=>?_
  obtain⟨t,rfl⟩:=hv;have I1:Ac X ad σ H { s with heap:=D,toks:=tk}:=I.turned (λb o y e=>kk b o (by simpa using y) e) f0 O f3 f4 f5;refine⟨_,rfl,Gm (s:= { s with heap:=D,toks:=tk}) (n:="range_iterator") B rfl rfl (by decide) ⟨.int (lo+i),H,I1,⟨t,?_⟩,⟨rfl,rfl⟩,B,λb y=>(G b y).1⟩⟩;rw[Int.mul_one]
 done:=by
  intro X J hw Z hc i ad s σ H E I G st hg;subst J hw Z;obtain⟨f0,O,f2,f3,f4,f5⟩:=G it (by simp);exact fE (I.ok.hd hc) st (by have:n<=i:=hg;omega) λD eb=>⟨rfl,I.turned (t':=s.toks) (λb o y e=>eb b o y e) f0 O f3 f4 f5⟩
 self:=λ_ _ _ _ _ st h=>cH st h
end L2
namespace L2
variable{tl:TE}{ad:List (yR × Obj)}{σ:St}{H:Hp}{s:yS}{a:yL}{ta:TA}{p:Pos}{h:Heap}{tb:TS}{xs:zA}{D:Da}
section
variable{X:Cx}{tg:yL}
def KU(K:Fgx)(D:TE):TI:=fun B H R=>D B H λx y=>∃a,x= .ref a/\(∃G,Al K y a G)/\R (ET K a) y
def KW(K:Fgx)(D:TE):TI:=fun B H R=>D B H λx y=>∃a,x= .ref a/\(∃G,Ae K y a G)/\R (Er K a) y
theorem Qq{l:yL}(J:PE X l tl):PI X tg l (KU X.K tl):=by
 intro ad s G H R I h;refine Ap (J ad s G H _ I h) λv s1 zq=>?_
 obtain⟨x,Z,y,D,q1⟩:=zq;obtain⟨a,e,⟨xs,O⟩,q⟩:=q1;subst e;cases D;obtain⟨B,rv,p,hz⟩:=y.list O;refine aC p.isList ?_;refine⟨s1.heap.objs.size,[s1.heap.objs.size],_,_,Z,rfl,y.kept (t':=s1.toks) λb o e=>Y1 _ e,Qn a _,⟨_,YM _ rfl,rfl,rfl⟩,λb hb=>?_,q⟩;have e:b=s1.heap.objs.size:=by simpa using hb
 subst e;exact y.fpOk (Y5 _) (y.hok.fresh (Y5 _))
theorem Qr{l:yL}(J:PE X l tl):PI X tg l (KW X.K tl):=by
 intro ad s G H R I h;refine Ap (J ad s G H _ I h) λv s1 zq=>?_
 obtain⟨x,Z,y,D,q1⟩:=zq;obtain⟨a,e,⟨xs,O⟩,q⟩:=q1;subst e;cases D;obtain⟨B,rv,p,hz⟩:=y.tuple O;refine ZR (show s1.heap.IsTuple a B.toArray from p) ?_;refine⟨s1.heap.objs.size,[s1.heap.objs.size],_,_,Z,rfl,y.kept (t':=s1.toks) λb o e=>Y1 _ e,Qo a _,⟨_,YM _ rfl,rfl,rfl⟩,λb hb=>?_,q⟩;have e:b=s1.heap.objs.size:=by simpa using hb
 subst e;exact y.fpOk (Y5 _) (y.hok.fresh (Y5 _))
theorem KY{R:It->Hp->Prop}{E:VSP}{lo hi:Int}{t u v:Tok}{tk:Nat}(I:Ac X ad σ H s)(K: -(2 ^ 62)<=lo)(D:lo<2 ^ 62)(G: -(2 ^ 62)<=hi)(h4:hi<2 ^ 62)
  (q:R (Db lo (hi-lo).toNat) H):wpAny (model X.prog X.w) X.A (pyIter (.ref s.heap.objs.size)) (KS X ad σ tg R) E { s with heap:=s.heap.push { cls:= .type "range",data:= .fields #[.int lo t,.int hi u,.int 1 v]},toks:=tk}:=by
 refine wpAny_pyIter_range (IsRange.new ..) (small_one K D G h4) ?_;have y:Ac X ad σ H { s with heap:=s.heap.push { cls:= .type "range",data:= .fields #[.int lo t,.int hi u,.int 1 v]},toks:=tk}:=I.kept λb o e=>Y1 _ e
 refine⟨(s.heap.push { cls:= .type "range",data:= .fields #[.int lo t,.int hi u,.int 1 v]}).objs.size,[(s.heap.push { cls:= .type "range",data:= .fields #[.int lo t,.int hi u,.int 1 v]}).objs.size],_,_,H,rfl,
  y.kept (t':=tk) λb o e=>Y1 _ e,Qp _ lo (hi-lo).toNat,?_,λb B=>?_,q⟩
 .have J:lo+((0:Nat):Int) * 1=lo:=by simp
  have O:(((hi-lo).toNat:Nat):Int)-((0:Nat):Int)=Builtin.Range.rangeSize lo hi 1:=by rw[rangeSize_one];split<;>omega
  show IsRangeIter _ _ (lo+((0:Nat):Int) * 1) ((((hi-lo).toNat:Nat):Int)-((0:Nat):Int)) 1;rw[J,O];exact YM _ rfl
 .have e:b=(s.heap.push { cls:= .type "range",data:= .fields #[.int lo t,.int hi u,.int 1 v]}).objs.size:=by simpa using B
  subst e;exact y.fpOk (Y5 _) (y.hok.fresh (Y5 _))
def Qs(B:TA):TI:=fun D H R=>B D H λG y=>∃j:Int,G=[.int j]/\ -(2 ^ 62)<=j/\j<2 ^ 62/\R (Db 0 j.toNat) y
def KZ(B:TA):TI:=fun D H R=>B D H λG y=>∃i j:Int,G=[.int i,.int j]/\(-(2 ^ 62)<=i/\i<2 ^ 62/\ -(2 ^ 62)<=j/\j<2 ^ 62)/\R (Db i (j-i).toNat) y
theorem B0{pos:Pos}(D:Gl X "range")(Z:X.mg "range"=none)(ha:PA X [a] ta)(O:autoParam (starEach [a] X.env=[(false,eval a X.env)]) L3):PI X tg (.Call (.Name "range" p) [a] [] pos) (Qs ta):=by
 intro ad s J H R I h;refine cY (B8 I D Z fZ (Zc (Ap (ha pos ad s J H _ I h) λus s1 zq=>?_) O rfl));obtain⟨vs,H1,K,G,y⟩:=zq;obtain⟨j,e,y,B,q⟩:=y;subst e;cases G with
 | cons r rr=>
  cases rr;obtain⟨t,rfl⟩:=r;exact call_range_1 (KY K (by omega) (by omega) y B (by simpa using q))
theorem Ik{b:yL}{pos:Pos}(G:Gl X "range")(hm:X.mg "range"=none)(ha:PA X [a,b] ta)(hs:autoParam (starEach [a,b] X.env=[(false,eval a X.env),(false,eval b X.env)]) L3)(y:autoParam (starEach [b] X.env=[(false,eval b X.env)]) L3):
  PI X tg (.Call (.Name "range" p) [a,b] [] pos) (KZ ta):=by
 intro ad s K H R I h;refine cY (B8 I G hm fZ (Zc (Ap (ha pos ad s K H _ I h) λus s1 zq=>?_) (by rw[hs,y]) (by rw[y];rfl)));obtain⟨vs,H1,O,J,B⟩:=zq;obtain⟨i,j,e,⟨B,D,q3,Z⟩,q⟩:=B;subst e;cases J with
 | cons r rr=>
  cases rr with
  | cons r' rr=>
   cases rr;obtain⟨t,rfl⟩:=r;obtain⟨t',rfl⟩:=r';exact call_range_2 (KY O B D q3 Z q)
def K0(wi:TI)(g:TG)(Z:TS):TS:=λD y H=>wi y H λJ H1=>∃W:Nat->Nat->St->Hp->Prop,(∃m,W 0 m y H1)/\∀i m y H,W i m y H->
 (J.stop i H/\D.nx y H)\/(J.go i H/\∃N:St->Hp->Prop,(∀G B,N G B->∃O,O<m/\W (i+1) O G B)/\∀x B,J.yld i H x B->g x y B fun K H2=>Z { D with nx:=N,ct:=N,bk:=D.nx} K H2)
def CW(fp:List yR)(h:Heap):PNs:=fp.filterMap λb=>(h.get? b).map λo=>(b,o)
theorem EU{fp:List yR}{b:yR}{o:Obj}(y:b∈fp)(e:h.get? b=some o):(b,o)∈CW fp h:=ZG.mpr ⟨b,y,by rw[e];rfl⟩
theorem Il{fp:List yR}{p:yR×Obj}(B:p∈CW fp h):p.1∈fp/\h.get? p.1=some p.2:=by
 obtain⟨b,D,e⟩:=ZG.mp B;cases q:h.get? b with
 | none=>rw[q]at e;cases e
 | some o=>
  rw[q]at e;have y:(b,o)=p:=Z7 e;subst y;exact⟨D,q⟩
theorem Ac.pinned{fp:List yR}(I:Ac X ad σ H s)(D:∀b∈fp,Br X ad H b)(K:∀b∈fp,∃o,s.heap.get? b=some o/\∀v,o.data≠ .cell v):Ac X (ad++CW fp s.heap) σ H s:=
 I.pins_of λp O=>(ZS.mp O).elim (λz=>I.pin p (Z2 _ z)) λz=>by
  obtain⟨B,e⟩:=Il z;obtain⟨f0,G,J,_⟩:=D p.1 B;obtain⟨o,y,d⟩:=K p.1 B;rw[e]at y;cases y;exact⟨e,f0,G,J,d⟩
theorem Ac.unpinned{pl:PNs}(I:Ac X (ad++pl) σ H s):Ac X ad σ H s:=I.pins_of λp y=>I.pin p (Z2 _ (aI _ y))
theorem Bl{i0:yL}{body:List Stmt}{wi:TI}{g:TG}{pos:Pos}(hp:PassesOwn (model X.prog X.w) X.A X.env X.xe)(hc:X.calm=true)(hi:PI X tg i0 wi)(hg:PG X tg g)(O:PSs X body tb)
  (hs:autoParam (∀x,foldedSetIterable i0 X.env x=pure x) B'):PS X (.For tg i0 body [] pos) (K0 wi g tb):=by
 intro ad s σ H D I h;refine wpAny_For (Ap (hi ad s σ H _ I h) λv s1 h1=>Ap h1 λie s2 h2=>?_) hs;obtain⟨it,fp,tn,J,H2,e,I2,T,i6,f2,W,⟨m0,w0⟩,turn⟩:=h2;subst e;have Z:∀ {H':Hp},(∀b∈fp,H' b=none)->∀b∈fp,Br X ad H' b:=λhn b O=>⟨hn b O,(f2 b O).2⟩
 refine codeAny_forLoop_any (λn s'=>∃i G H',Ac X ad G H' s'/\tn i s'.heap/\(∀b∈fp,H' b=none)/\W i n G H') ?_ m0 ⟨0,σ,H2,I2,i6,λb O=>(f2 b O).1,w0⟩;rintro n s3 ⟨i,σ3,H3,I3,st3,fr3,w3⟩;rcases turn i n σ3 H3 w3 with⟨stop,qn⟩ | ⟨go,N,hN,step⟩
 .refine bT hp (Ap (T.done X rfl rfl rfl hc i ad s3 σ3 H3 X.xe I3 (Z fr3) st3 stop) λr s4 zq=>?_);obtain⟨hr,I4⟩:=zq;subst hr;exact fm ⟨σ3,H3,I4,qn⟩
 .refine bT hp (Ap (T.item X rfl rfl rfl hc i ad s3 σ3 H3 X.xe I3 (Z fr3) st3 go) λr s4 zq=>?_);obtain⟨u,hr,h4⟩:=zq;subst hr;refine bT hp (Ap h4 λ_ s5 zq=>?_);obtain⟨x,H5,I5,r5,y5,i4,i5⟩:=zq;have i7:=I5.pinned (Z i5) (T.obj _ _ i4);refine bT hp (Ap (hg _ s5 σ3 H5 x u _ i7 r5 (step x H5 y5)) λ_ s6 zq=>?_);obtain⟨σ6,H6,I6,q6⟩:=zq;refine bT hp (Ap (O _ s6 σ6 H6 _ I6 q6) λf s7 q7=>?_);have again:∀ {y:St}{K:Hp},Ac X (ad++CW fp s5.heap) y K s7->N y K->∃m,m<n/\∃i G H',Ac X ad G H' s7/\tn i s7.heap/\(∀b∈fp,H' b=none)/\W i m G H':=λ{y K} B n7=>by
   obtain⟨m',hm,w7⟩:=hN y K n7;refine⟨m',hm,i+1,y,K,B.unpinned,T.keep _ _ _ i4 λb O o e=>(B.pin (b,o) (Z2 _ (Z2 _ (EU O e)))).1,λb O=>?_,w7⟩;obtain⟨o,e,d⟩:=T.obj _ _ i4 b O;exact(B.pin (b,o) (Z2 _ (Z2 _ (EU O e)))).2.1
  cases f with
  | next=>obtain⟨y,K,B,n7⟩:=q7;exact again B n7
  | cont=>obtain⟨y,K,B,n7⟩:=q7;exact again B n7
  | brk=>obtain⟨y,K,B,q7⟩:=q7;exact⟨y,K,B.unpinned,q7⟩
  | ret v=>obtain⟨x7,y,K,B,r7,q7⟩:=q7;exact⟨x7,y,K,B.unpinned,r7,q7⟩
end
theorem EV{K:Fgx}{a:yR}{g:TG}(B:Nat->St->Hp->Prop)(h0:B 0 σ H)(hl:∀i σ H,i<=xs.length->B i σ H->Al K H a xs)
  (hs:∀i x σ H,xs[i]? =some x->B i σ H->g x σ H fun G Z=>tb { D with nx:=B (i+1),ct:=B (i+1),bk:=D.nx} G Z) (hd:∀σ H,B xs.length σ H->D.nx σ H):
  ∃W:Nat->Nat->St->Hp->Prop,(∃m,W 0 m σ H)/\∀i m σ H,W i m σ H->
   ((ET K a).stop i H/\D.nx σ H)\/((ET K a).go i H/\∃N:St->Hp->Prop,(∀J H',N J H'->∃m',m'<m/\W (i+1) m' J H')/\∀x H',(ET K a).yld i H x H'->g x σ H' fun G Z=>tb { D with nx:=N,ct:=N,bk:=D.nx} G Z):=by
 refine⟨λi m σ H=>m=xs.length-i/\i<=xs.length/\B i σ H,⟨xs.length,by simp,Z1 _,h0⟩,?_⟩;rintro i m σ H ⟨rfl,hi,p⟩;have q:=hl i σ H hi p
 by_cases O:i<xs.length
 .refine .inr ⟨⟨xs,xs[i],q,by simp[O]⟩,B (i+1),fun J H' p'=>⟨xs.length-(i+1),by omega,rfl,O,p'⟩,λx H' y=>?_⟩;obtain⟨e,y⟩:=y;subst e;exact hs i x σ _ (y xs q) p
 .have e:i=xs.length:=by omega
  subst e;exact .inl ⟨⟨xs,q,Y5 _⟩,hd σ H p⟩
theorem Qt{K:Fgx}{a:yR}{g:TG}(B:Nat->St->Hp->Prop)(h0:B 0 σ H)(hl:∀i σ H,i<=xs.length->B i σ H->Ae K H a xs)
  (hs:∀i x σ H,xs[i]? =some x->B i σ H->g x σ H fun G Z=>tb { D with nx:=B (i+1),ct:=B (i+1),bk:=D.nx} G Z) (hd:∀σ H,B xs.length σ H->D.nx σ H):
  ∃W:Nat->Nat->St->Hp->Prop,(∃m,W 0 m σ H)/\∀i m σ H,W i m σ H->
   ((Er K a).stop i H/\D.nx σ H)\/((Er K a).go i H/\∃N:St->Hp->Prop,(∀J H',N J H'->∃m',m'<m/\W (i+1) m' J H')/\∀x H',(Er K a).yld i H x H'->g x σ H' fun G Z=>tb { D with nx:=N,ct:=N,bk:=D.nx} G Z):=by
 refine⟨λi m σ H=>m=xs.length-i/\i<=xs.length/\B i σ H,⟨xs.length,by simp,Z1 _,h0⟩,?_⟩;rintro i m σ H ⟨rfl,hi,p⟩;have q:=hl i σ H hi p
 by_cases O:i<xs.length
 .refine .inr ⟨⟨xs,xs[i],q,by simp[O]⟩,B (i+1),fun J H' p'=>⟨xs.length-(i+1),by omega,rfl,O,p'⟩,λx H' y=>?_⟩;obtain⟨e,y⟩:=y;subst e;exact hs i x σ _ (y xs q) p
 .have e:i=xs.length:=by omega
  subst e;exact .inl ⟨⟨xs,q,Y5 _⟩,hd σ H p⟩
theorem CY{lo:Int}{n:Nat}{g:TG}(J:Nat->St->Hp->Prop)(h0:J 0 σ H)
  (hs:∀i σ H,i<n->J i σ H->g (.int (lo+i)) σ H fun B O=>tb { D with nx:=J (i+1),ct:=J (i+1),bk:=D.nx} B O) (hd:∀σ H,J n σ H->D.nx σ H):
  ∃W:Nat->Nat->St->Hp->Prop,(∃m,W 0 m σ H)/\∀i m σ H,W i m σ H->
   ((Db lo n).stop i H/\D.nx σ H)\/((Db lo n).go i H/\∃N:St->Hp->Prop,(∀K H',N K H'->∃Z,Z<m/\W (i+1) Z K H')/\∀x H',(Db lo n).yld i H x H'->g x σ H' fun B O=>tb { D with nx:=N,ct:=N,bk:=D.nx} B O):=by
 refine⟨λi m σ H=>m=n-i/\i<=n/\J i σ H,⟨n,by simp,Z1 _,h0⟩,?_⟩;rintro i m σ H ⟨rfl,hi,p⟩
 by_cases G:i<n
 .refine .inr ⟨G,J (i+1),fun K H' p'=>⟨n-(i+1),by omega,rfl,G,p'⟩,λx H' y=>?_⟩;obtain⟨e,y⟩:=y;subst e y;exact hs i σ _ G p
 .have e:i=n:=by omega
  subst e;exact .inl ⟨Y5 _,hd σ H p⟩
end L2
namespace L2
variable{i j:Int}{us:yX}
abbrev R2:=V->V->Hp->VK->Prop
def OpR(X:Cx)(f:yU->yU->Sem yU)(r:R2):Prop:=
 ∀(ad:PNs) (s:yS) (B:St) (H:Hp) (x y:V) (v u:yU) (Q:VK),Ac X ad B H s->Aw x v->Aw y u->r x y H Q->
  wpAny (model X.prog X.w) X.A (f v u) (EP X ad B Q) X.xe s
def Im(X:Cx)(f:yU->Sem yU)(r:V->Hp->VK->Prop):Prop:=
 ∀(ad:PNs) (s:yS) (y:St) (H:Hp) (x:V) (v:yU) (Q:VK),Ac X ad y H s->Aw x v->r x H Q->
  wpAny (model X.prog X.w) X.A (f v) (EP X ad y Q) X.xe s
def Bo(X:Cx)(f:yU)(r:zA->Hp->VK->Prop):Prop:=
 ∀(ad:PNs) (s:yS) (y:St) (H:Hp) (B:zA) (D:yX) (Q:VK),Ac X ad y H s->Av B D->r B H Q->
  wpAny (model X.prog X.w) X.A (call f D) (EP X ad y Q) X.xe s
def CL(r:R2)(J D:TE):TE:=fun B H Q=>J B H λx G=>D B G λy K=>r x y K Q
def Qu(r:V->Hp->VK->Prop)(B:TE):TE:=fun D H Q=>B D H λx y=>r x y Q
def rI(C:Int->Int->Prop)(g:Int->Int->V):R2:=λx y H Q=>∃i j,x= .int i/\y= .int j/\C i j/\Q (g i j) H
def Dc(g:Int->Int->V):R2:=λx y H Q=>∃i j,x= .int i/\y= .int j/\Q (g i j) H
def rU(g:Int->V):V->Hp->VK->Prop:=λx H Q=>∃i,x= .int i/\Q (g i) H
section
variable{X:Cx}{a b c:yL}{ta tb tc:TE}{pos:Pos}
theorem Io(ha:PE X a ta)(hb:PE X b tb){ad:PNs}{s:yS}{σ:St}{H:Hp}{R:V->V->Hp->Prop}(I:Ac X ad σ H s)
  (h:ta σ H λx J=>tb σ J λy B=>R x y B) {Q:VSP}{f:yU->yU->Sem yU}
  (hf:∀v u s2 x y B,Ac X ad σ B s2->Aw x v->Aw y u->R x y B->wpAny (model X.prog X.w) X.A (f v u) Q X.xe s2):
  wpAny (model X.prog X.w) X.A (eval a X.env) (λv D=>wpAny (model X.prog X.w) X.A (eval b X.env) (λu G=>wpAny (model X.prog X.w) X.A (f v u) Q X.xe G) X.xe D) X.xe s:=by
 refine Ap (ha ad s σ H _ I h) λv s1 K=>?_
 obtain⟨x,J,I1,r1,q1⟩:=K;refine Ap (hb ad s1 σ J _ I1 q1) λu s2 K=>?_
 obtain⟨y,B,Z,r2,O⟩:=K;exact hf v u s2 x y B Z r1 r2 O
theorem Ax{op:Operator}{r:R2}(J:OpR X (binaryOp op) r)(O:PE X a ta)(Z:PE X b tb):PE X (.BinOp a op b pos) (CL r ta tb):=by
 intro ad s G H Q I h;exact wpAny_BinOp (Io O Z I h λv u s2 x y H2 D B K q=>J ad s2 G H2 x y v u Q D B K q)
theorem Ip{op:UnaryOp}{r:V->Hp->VK->Prop}(B:Im X (unaryOp op) r)(O:PE X a ta):PE X (.UnaryOp op a pos) (Qu r ta):=by
 intro ad s y H Q I h;exact UnaryOp_ (Ap (O ad s y H _ I h) λv s1 ⟨x,G,K,D,J⟩=>B ad s1 y G x v Q K D J)
theorem Gn{f:yU->yU->Sem yU}{C:Int->Int->Prop}{g:Int->Int->Int}
  (rule:∀(i j:Int) (t u:Tok) (s:yS) (Q:VSP) (E:VSP),C i j->Q (.int (g i j) s.toks) { s with toks:=s.toks+1}->wpAny (model X.prog X.w) X.A (f (.int i t) (.int j u)) Q E s):
  OpR X f (rI C λi j=> .int (g i j)):=by
 intro ad s K H x y v u Q I B J h;obtain⟨i,j,rfl,rfl,G,q⟩:=h;obtain⟨t,rfl⟩:=B;obtain⟨D,rfl⟩:=J;exact rule i j t D s _ _ G ⟨.int (g i j),H,I.tok _,⟨_,rfl⟩,q⟩
theorem K1{f:yU->yU->Sem yU}{g:Int->Int->Int}
  (rule:∀(i j:Int) (t u:Tok) (s:yS) (Q:VSP) (E:VSP),Q (.int (g i j) s.toks) { s with toks:=s.toks+1}->wpAny (model X.prog X.w) X.A (f (.int i t) (.int j u)) Q E s):
  OpR X f (Dc λi j=> .int (g i j)):=by
 intro ad s J H x y v u Q I B G h;obtain⟨i,j,rfl,rfl,q⟩:=h;obtain⟨t,rfl⟩:=B;obtain⟨D,rfl⟩:=G;exact rule i j t D s _ _ ⟨.int (g i j),H,I.tok _,⟨_,rfl⟩,q⟩
theorem Go{f:yU->yU->Sem yU}{g:Int->Int->Bool}
  (rule:∀(i j:Int) (t u:Tok) (s:yS) (Q:VSP) (E:VSP),Q (.bool (g i j)) s->wpAny (model X.prog X.w) X.A (f (.int i t) (.int j u)) Q E s):
  OpR X f (Dc λi j=> .bl (g i j)):=by
 intro ad s J H x y v u Q I B G h;obtain⟨i,j,rfl,rfl,q⟩:=h;obtain⟨t,rfl⟩:=B;obtain⟨D,rfl⟩:=G;exact rule i j t D s _ _ ⟨.bl (g i j),H,I,rfl,q⟩
def Iq(i j:Int):Prop:=0<j/\j<1073741824
def K2(i j:Int):Prop:=0<=j/\j<=1000000/\i.natAbs<2 ^ 64
def CMul(i j:Int):Prop:=(-(2 ^ 64)<i/\i<2 ^ 64)\/(-(2 ^ 64)<j/\j<2 ^ 64)
theorem CMul.ok(h:CMul i j):IntMulOk i j:=by
 rcases h with⟨h1,h2⟩ | ⟨h1,h2⟩
 .exact .of_left (intBits_le_64 h1 h2)
 .exact .of_right (intBits_le_64 h1 h2)
theorem op_add:OpR X (binaryOp .Add) (Dc λi j=> .int (i+j)):=K1 λ_ _ _ _ _ _ _ q=>add_int q
theorem op_sub:OpR X (binaryOp .Sub) (Dc λi j=> .int (i-j)):=K1 λ_ _ _ _ _ _ _ q=>sub_int q
theorem op_mul:OpR X (binaryOp .Mult) (rI CMul λi j=> .int (i * j)):=Gn λ_ _ _ _ _ _ _ y q=>mul_int q y.ok
theorem op_fdiv:OpR X (binaryOp .FloorDiv) (rI Iq λi j=> .int (i / j)):=Gn λi j _ _ _ _ _ y q=>by
 have D:(0:Int)<j:=y.1;have B:j<1073741824:=y.2;exact floordiv_int (by omega) (by rw[dS i (by omega)];exact q) (.inl (fF (by omega)))
theorem op_mod:OpR X (binaryOp .Mod) (rI (λ_ j=>0<j) λi j=> .int (i % j)):=Gn λi j _ _ _ _ _ y q=>by
 have B:(0:Int)<j:=y;exact mod_int' (by omega) (by rw[dU i (by omega)];exact q)
theorem op_pow:OpR X (binaryOp .Pow) (rI K2 λi j=> .int (i ^ j.toNat)):=Gn λ_ _ _ _ _ _ _ y q=>pow_int_small y.1 y.2.1 y.2.2 q
theorem Qv{f:yU->Sem yU}{g:Int->Int}
  (rule:∀(i:Int) (t:Tok) (s:yS) (Q:VSP) (E:VSP),Q (.int (g i) s.toks) { s with toks:=s.toks+1}->wpAny (model X.prog X.w) X.A (f (.int i t)) Q E s):
  Im X f (rU λi=> .int (g i)):=by
 intro ad s B H x v Q I y h;obtain⟨i,rfl,q⟩:=h;obtain⟨t,rfl⟩:=y;exact rule i t s _ _ ⟨.int (g i),H,I.tok _,⟨_,rfl⟩,q⟩
theorem Ir:Im X (unaryOp .USub) (rU λi=> .int (-i)):=Qv λ_ _ _ _ _ q=>neg_int q
end
noncomputable def K3:V->V->Bool
 | .non,.non=>true | .non,.int _=>true | .int _,.non=>true | .non,.bl _=>true | .bl _,.non=>true | .non,.str _=>true | .str _,.non=>true
 | .int _,.int _=>true | .bl _,.bl _=>true | .str _,.str _=>true | .byt _,.byt _=>true
 | .int _,.str _=>true | .str _,.int _=>true | .bl _,.str _=>true | .str _,.bl _=>true
 | _,_=>false
def Qw:R2:=λx y H Q=>K3 x y=true/\Q (.bl (decide (x=y))) H
def Qx:R2:=λx y H Q=>K3 x y=true/\Q (.bl (!decide (x=y))) H
theorem DS:decide (V.int i=V.int j)=(i==j):=by
 rw[am];simp
theorem K4{i j:Bool}:decide (V.bl i=V.bl j)=(i==j):=by
 rw[am];simp
theorem K9{i j:Str}:decide (V.str i=V.str j)=(i==j):=by
 rw[am];simp
theorem La{i j:Array UInt8}:decide (V.byt i=V.byt j)=(i.toList==j.toList):=by
 rw[am];cases i;cases j;simp
variable{X:Cx}{a b c:yL}{ta tb tc:TE}{pos:Pos}
theorem AT{ad:PNs}{σ:St}{H:Hp}{s:yS}{Q:VK}{k y:Bool}(I:Ac X ad σ H s)(q:Q (.bl k) H)(e:k=y):EP X ad σ Q (.bool y) s:=by
 subst e;exact⟨.bl k,H,I,rfl,q⟩
theorem Dq:OpR X (compareOp .Eq) Qw:=by
 intro ad s K H x y v u Q I J B h;obtain⟨G,q⟩:=h;cases x with
 | non=>
  cases J;cases y with
  | non=>cases B;exact PySem.EqNone.eq_none_none (AT I q (by simp))
  | bl j=>cases B;exact PySem.EqNone.eq_none_bool (AT I q (by simp))
  | int j=>obtain⟨D,rfl⟩:=B;exact PySem.EqNone.eq_none_int (AT I q (by simp))
  | str j=>obtain⟨D,rfl⟩:=B;exact PySem.EqNone.eq_none_str (AT I q (by simp))
  | _=>exact absurd (show false=true from G) YZ
 | bl i=>
  cases J;cases y with
  | non=>cases B;exact PySem.EqNone.eq_bool_none (AT I q (by simp))
  | bl j=>cases B;exact eq_bool (AT I q K4)
  | str j=>obtain⟨D,rfl⟩:=B;exact PySem.EqMixed.eq_bool_str (AT I q (by simp))
  | _=>exact absurd (show false=true from G) YZ
 | int i=>
  obtain⟨t,rfl⟩:=J;cases y with
  | non=>cases B;exact PySem.EqNone.eq_int_none (AT I q (by simp))
  | int j=>obtain⟨D,rfl⟩:=B;exact eq_int (AT I q DS)
  | str j=>obtain⟨D,rfl⟩:=B;exact PySem.EqMixed.eq_int_str (AT I q (by simp))
  | _=>exact absurd (show false=true from G) YZ
 | str i=>
  obtain⟨t,rfl⟩:=J;cases y with
  | non=>cases B;exact PySem.EqNone.eq_str_none (AT I q (by simp))
  | bl j=>cases B;exact PySem.EqMixed.eq_str_bool (AT I q (by simp))
  | int j=>obtain⟨D,rfl⟩:=B;exact PySem.EqMixed.eq_str_int (AT I q (by simp))
  | str j=>obtain⟨D,rfl⟩:=B;exact eq_str (AT I q K9)
  | _=>exact absurd (show false=true from G) YZ
 | byt i=>
  obtain⟨t,rfl⟩:=J;cases y with
  | byt j=>obtain⟨D,rfl⟩:=B;exact PySem.W.eq_bytes (AT I q La)
  | _=>exact absurd (show false=true from G) YZ
 | _=>cases y<;>exact absurd (show false=true from G) YZ
theorem FF:OpR X (compareOp .NotEq) Qx:=by
 intro ad s K H x y v u Q I J B h;obtain⟨G,q⟩:=h;cases x with
 | non=>
  cases J;cases y with
  | non=>cases B;exact PySem.EqNone.ne_none_none (AT I q (by simp))
  | bl j=>cases B;exact PySem.EqNone.ne_none_bool (AT I q (by simp))
  | int j=>obtain⟨D,rfl⟩:=B;exact PySem.EqNone.ne_none_int (AT I q (by simp))
  | str j=>obtain⟨D,rfl⟩:=B;exact PySem.EqNone.ne_none_str (AT I q (by simp))
  | _=>exact absurd (show false=true from G) YZ
 | bl i=>
  cases J;cases y with
  | non=>cases B;exact PySem.EqNone.ne_bool_none (AT I q (by simp))
  | bl j=>cases B;exact ne_bool (AT I q (Zz not K4))
  | str j=>obtain⟨D,rfl⟩:=B;exact PySem.EqMixed.ne_bool_str (AT I q (by simp))
  | _=>exact absurd (show false=true from G) YZ
 | int i=>
  obtain⟨t,rfl⟩:=J;cases y with
  | non=>cases B;exact PySem.EqNone.ne_int_none (AT I q (by simp))
  | int j=>obtain⟨D,rfl⟩:=B;exact ne_int (AT I q (Zz not DS))
  | str j=>obtain⟨D,rfl⟩:=B;exact PySem.EqMixed.ne_int_str (AT I q (by simp))
  | _=>exact absurd (show false=true from G) YZ
 | str i=>
  obtain⟨t,rfl⟩:=J;cases y with
  | non=>cases B;exact PySem.EqNone.ne_str_none (AT I q (by simp))
  | bl j=>cases B;exact PySem.EqMixed.ne_str_bool (AT I q (by simp))
  | int j=>obtain⟨D,rfl⟩:=B;exact PySem.EqMixed.ne_str_int (AT I q (by simp))
  | str j=>obtain⟨D,rfl⟩:=B;exact ne_str (AT I q (Zz not K9))
  | _=>exact absurd (show false=true from G) YZ
 | byt i=>
  obtain⟨t,rfl⟩:=J;cases y with
  | byt j=>obtain⟨D,rfl⟩:=B;exact PySem.W.ne_bytes (AT I q (Zz not La))
  | _=>exact absurd (show false=true from G) YZ
 | _=>cases y<;>exact absurd (show false=true from G) YZ
theorem op_lt:OpR X (compareOp .Lt) (Dc λi j=> .bl (decide (i<j))):=Go λ_ _ _ _ _ _ _ q=>lt_int q
theorem op_le:OpR X (compareOp .LtE) (Dc λi j=> .bl (decide (i<=j))):=Go λ_ _ _ _ _ _ _ q=>le_int q
theorem op_gt:OpR X (compareOp .Gt) (Dc λi j=> .bl (decide (j<i))):=Go λ_ _ _ _ _ _ _ q=>gt_int q
theorem op_ge:OpR X (compareOp .GtE) (Dc λi j=> .bl (decide (j<=i))):=Go λ_ _ _ _ _ _ _ q=>ge_int q
theorem Lb:OpR X (compareOp .Is) (λx y H Q=>y= .non/\Q (.bl (decide (x= .non))) H):=by
  intro ad s G H x y v u Q I B D h;obtain⟨rfl,q⟩:=h;cases D;refine is_none_gen (AT I q ?_);cases x<;>first
    | (cases B;rfl)
    | (obtain⟨t,rfl⟩:=B;rfl)
theorem Qy:OpR X (compareOp .IsNot) (λx y H Q=>y= .non/\Q (.bl (!decide (x= .non))) H):=by
  intro ad s G H x y v u Q I B D h;obtain⟨rfl,q⟩:=h;cases D;refine isnot_none_gen (AT I q ?_);cases x<;>first
    | (cases B;rfl)
    | (obtain⟨t,rfl⟩:=B;rfl)
theorem AV(b:yL){op:CmpOp}(h:autoParam (op≠ .In) W0)(y:autoParam (op≠ .NotIn) W0):behindInMarks op b=false:=by
 have B:(op==CmpOp.In)=false:=by cases op<;>first | rfl | exact absurd rfl h
 have D:(op==CmpOp.NotIn)=false:=by cases op<;>first | rfl | exact absurd rfl y
 cases b<;>simp[behindInMarks,B,D]
theorem Cw{op:CmpOp}{r:R2}(J:OpR X (compareOp op) r)(Z:PE X a ta)(hb:PE X b tb)(K:behindInMarks op b=false):PE X (.Compare a [op] [b] pos) (CL r ta tb):=by
 intro ad s G H Q I h;exact wpAny_Compare1 (Io Z hb I h λv u s2 x y H2 D B O q=>J ad s2 G H2 x y v u Q D B O q) K
theorem Qz{xs:zA}{y:yX}(r:Av xs y):(!y.toArray.isEmpty)= !xs.isEmpty:=by
 cases r<;>simp
theorem Gp:(sizeLine:Nat)<2 ^ 63:=by rw[fG];decide
theorem FG{x:V}(r:Av [x] us):∃u,us=[u]/\Aw x u:=by
 cases r with
 | cons r1 r2=>cases r2;exact⟨_,rfl,r1⟩
theorem Iu{x y:V}(r:Av [x,y] us):∃u B,us=[u,B]/\Aw x u/\Aw y B:=by
 cases r with
 | cons r1 r2=>
  cases r2 with
  | cons r3 r4=>cases r4;exact⟨_,_,rfl,r1,r3⟩
theorem QA(B:X.calm=true):Bo X (.builtin "max") (λxs H Q=>∃i j,xs=[.int i,.int j]/\Q (.int (if j>i then j else i)) H):=by
 intro ad s D H xs O Q I r h;obtain⟨i,j,rfl,q⟩:=h;obtain⟨u,K,rfl,⟨t,rfl⟩,⟨G,rfl⟩⟩:=Iu r;refine max_two_ints (I.ok.hd B) λJ tk k=>⟨_,H,I.kept k,?_,q⟩
 by_cases y:j>i
 .rw[YN y,YN y];exact⟨_,rfl⟩
 .rw[Y8 y,Y8 y];exact⟨_,rfl⟩
theorem Gq(B:X.calm=true):Bo X (.builtin "min") (λxs H Q=>∃i j,xs=[.int i,.int j]/\Q (.int (if j<i then j else i)) H):=by
 intro ad s D H xs O Q I r h;obtain⟨i,j,rfl,q⟩:=h;obtain⟨u,K,rfl,⟨t,rfl⟩,⟨G,rfl⟩⟩:=Iu r;refine min_two_ints (I.ok.hd B) λJ tk k=>⟨_,H,I.kept k,?_,q⟩
 by_cases y:j<i
 .rw[YN y,YN y];exact⟨_,rfl⟩
 .rw[Y8 y,Y8 y];exact⟨_,rfl⟩
theorem Iv:Bo X (.type "int") (λxs H Q=>(∃i,xs=[.int i]/\Q (.int i) H)\/ ∃k,xs=[.bl k]/\Q (.int (if k then 1 else 0)) H):=by
 intro ad s D H xs B Q I r h;rcases h with⟨i,rfl,q⟩ | ⟨k,rfl,q⟩
 .obtain⟨u,rfl,t,rfl⟩:=FG r;exact call_int_int ⟨.int i,H,I,⟨_,rfl⟩,q⟩
 .obtain⟨u,rfl,y⟩:=FG r;cases y;exact call_int_bool ⟨.int (if k then 1 else 0),H,I.tok _,⟨_,rfl⟩,q⟩
theorem QB:Bo X (.builtin "divmod") (λxs H Q=>∃i j,xs=[.int i,.int j]/\Iq i j/\∀p,H p=none->Q (.ref p) (upd H p (.tup [.int (i / j),.int (i % j)]))):=by
 intro ad s B H xs K Q I r h;obtain⟨i,j,rfl,⟨O,J⟩,q⟩:=h;obtain⟨u,G,rfl,⟨t,rfl⟩,⟨D,rfl⟩⟩:=Iu r;refine divmod_int (by omega) ?_ (.inl (fF (by omega)));rw[dS i (by omega),dU i (by omega)];have y:H s.heap.objs.size=none:=I.hok.fresh (Y5 _);refine⟨.ref s.heap.objs.size,_,?_,rfl,q _ y⟩;refine I.laid (λb o e=>Y1 _ e) (Y5 _) ⟨by simp only[Zw,eG];rw[fG];decide,[.int (i / j) s.toks,.int (i % j) (s.toks+1)],.cons ⟨_,rfl⟩ (.cons ⟨_,rfl⟩ .nil),?_⟩;exact⟨_,YM s.heap rfl,rfl,0,rfl⟩
end L2
namespace L2
structure ObjM(h:Heap)(x dx C:yR)(mA:Str->yW):Prop where
 obj:h.get? x=some (PySem.W.instObj C dx)
 ns:h.Ns1 dx mA
 ne:dx≠x
structure QC(K:Fgx)(C:yR):Prop where
 pg:PySem.W.plainGet K C Str.empty=true
 hd:PySem.W.hasDictIn K C=true
 po:PySem.W.plainOver K C=true
 sa:PySem.W.findIn K (.ref C) "__setattr__"=some (some (.builtin "object.__setattr__"))
structure Con(K:Fgx)(C:yR)(f:Str)(v:V)(u:yU):Prop where
 at_:PySem.W.findIn K (.ref C) f=some (some u)
 rel:Aw v u
 get:PySem.W.specialIn K u "__get__"=some none
 cp:PySem.W.copiedNames.contains f=false
structure Meth(K:Fgx)(C:yR)(m:Str)(f:yR):Prop where
 at_:PySem.W.findIn K (.ref C) m=some (some (.ref f))
 fn:PySem.W.isFn K (.ref f)=true
 kp:PySem.W.keepIn K (.ref f)=true
variable{X:Cx}{ad:List (yR × Obj)}{σ:St}{H:Hp}{s:yS}{A:yO}{E:yY}{Q:yY}{c:yU}{b:Bool}
inductive CZ(K:Fgx)(H:Hp):V->yU->Prop where
 | non:CZ K H .non (.type "NoneType")
 | bl (x:Bool):CZ K H (.bl x) (.type "bool")
 | int (i:Int):CZ K H (.int i) (.type "int")
 | str (x:Str):CZ K H (.str x) (.type "str")
 | flt (x:UInt64):CZ K H (.flt x) (.type "float")
 | lst {a:yR}{xs:zA} (e:H a=some (.lst xs)):CZ K H (.ref a) (.type "list")
 | frz {a:yR}{o:Obj}{xs:zA} (e:H a=some (.frz o (.lst xs))):CZ K H (.ref a) (.type "list")
 | tup {a:yR}{xs:zA} (e:H a=some (.tup xs)):CZ K H (.ref a) (.type "tuple")
 | dK {a:yR}{kvs:List (As×V)} (e:H a=some (.dK kvs)):CZ K H (.ref a) (.type "dict")
 | dT {a:yR}{kvs:List (List As×V)} (e:H a=some (.dT kvs)):CZ K H (.ref a) (.type "dict")
 | ins {a C dx : yR} {fs : List (Str × V)} (e : H a = some (.ins C dx fs)) (cl : QC K C) (ha : PySem.W.findIn K (.ref C) "__class__" = some (some (.builtin "object.__class__")))
   (hn:PySem.W.specialIn K (.builtin "object.__class__") "__get__"=some (some (.builtin "getset_descriptor.__get__"))) (htk:PySem.W.takesIn K (.builtin "object.__class__")=some true)
   (hm:PySem.W.mroIn K C (.type "object")=some true):CZ K H (.ref a) (.ref C)
end L2
namespace L2
variable{Q:VK}{us:yX}{vs:zA}{P:yP}{kindOf:Str -> Option NameKind}{qual:Str}{scope:Scope}
structure AU(k:Nat)(A:yO):Prop where
 hd:A.handled=none
 dp:A.depth+3 * k+5<recursionLimit
 un:A.units+16 * k+200<cLine
 gd:A.guards=some []
theorem AU.mono{j k:Nat}{A:yO}(r:AU k A)(h:j<=k):AU j A:=⟨r.hd,by have:=r.dp;omega,by have:=r.un;omega,r.gd⟩
theorem AU.deeper{k:Nat}{A:yO}(r:AU (k+1) A)(env:Env):AU k (A.deeper env):=
 ⟨r.hd,by have:=r.dp;show A.depth+1+3 * k+5<_;omega,by have:=r.un;show A.units+3+16 * k+200<_;omega,r.gd⟩
theorem AU.depth{k:Nat}{A:yO}(r:AU k A):A.depth<recursionLimit:=by have:=r.dp;omega
theorem AU.units0{k:Nat}{A:yO}(r:AU k A):A.units<cLine:=by have:=r.un;omega
def CM:TA:=λ_ H Q=>Q [] H
def Bi(D:TE)(G:TA):TA:=fun y H Q=>D y H λx B=>G y B λJ K=>Q (x::J) K
section
variable{X:Cx}{e:yL}{es:List yL}{te:TE}{t:TA}{pos:Pos}
theorem pa_nil:PA X [] CM:=λ_ _ _ _ H Q I h=>aS ⟨[],H,I,.nil,h⟩
theorem Bf(ha:PE X e te)(B:PA X es t)(hs:autoParam (starEach (e::es) X.env=(false,eval e X.env)::starEach es X.env) L3):PA X (e::es) (Bi te t):=by
 intro pos ad s y H Q I h;rw[hs];show wpAny _ _ (spliced ((false,eval e X.env)::backTo pos (starEach es X.env))) _ _ s;refine aq (Ap (ha ad s y H _ I h) λu s1 zq=>?_);obtain⟨x,H1,O,K,q1⟩:=zq;exact Ap (B pos ad s1 y H1 _ O q1) λus s2 ⟨G,H2,J,Z,D⟩=>⟨x::G,H2,J,.cons K Z,D⟩
end
abbrev Sp:=zA->Hp->VK->XK->Prop
abbrev CN:=List Env->Hp->yS->XK->VSP
structure C1(P:yP)(w:yN)(K:Fgx)(mg:Str->yW)(base:Heap)(A:yO)(outer:List Env)(s:yS)(H:Hp):Prop where
 frames:A.frames=some outer
 mod:Mod K mg base
 bs:∀b o,base.get? b=some o->s.heap.get? b=some o/\H b=none
 bsz:base.objs.size<=s.heap.objs.size
 funs:s.heap.FunFrames base outer
 frf:∀b∈AF outer,H b=none
 hok:HOk P w H s.heap
 bare:AllBare s.gens
def CE(outer:List Env)(P:yP)(w:yN)(H:Hp)(s:yS)(Q:VK)(u:yU)(s':yS):Prop:=
 ∃v y,s'.os=s.os/\AllBare s'.gens/\Un (AF outer) [] H y s.heap s'.heap/\HOk P w y s'.heap/\Aw v u/\Q v y
def CR(CX:CN)(outer:List Env)(P:yP)(w:yN)(H:Hp)(s:yS)(Q:VK)(E:XK)(r:Result)(s':yS):Prop:=
 match r with
 | .ok (.ret u)=>CE outer P w H s Q u s'
 | .ok _=>False
 | .error e=>CX outer H s E e s'
structure C2(P:yP)(w:yN)(K:Fgx)(mg:Str->yW)(base:Heap)(CX:CN)(k:Nat)(f:yR)(fd:FuncData)(ps:List Str)(sp:Sp):Prop where
 len:∀vs H Q E,sp vs H Q E->vs.length=ps.length
 run:∀(A:yO) (outer:List Env) (s:yS) (H:Hp) (args:Args) (us:yX) (vs:zA) (Q:VK) (E:XK),AU k A->C1 P w K mg base A outer s H->BindsTo s fd args (ps.zip us)->Av vs us->sp vs H Q E->
  codeAny (model P w) A (.call (.ref f) args) (CR CX outer P w H s Q E) s
section
variable{X:Cx}{ad:List (yR × Obj)}{σ:St}{H:Hp}{s s':yS}
theorem Ac.env0(I:Ac X ad σ H s):C1 X.prog X.w X.K X.mg X.base X.A X.stack s H:=
 ⟨I.ok.frames,I.ok.mod,I.bs,YV I.ok.bsz I.sz,I.stack,I.stkFree,I.hok,I.bare⟩
theorem Ac.after{u:yU}(I:Ac X ad σ H s)(h:CE X.stack X.prog X.w H s Q u s'):EP X ad σ Q u s':=by
 obtain⟨v,B,os,bare,un,hok,r,q⟩:=h;obtain⟨D,g,d,t,y⟩:=s';obtain rfl:y=s.os:=os;exact⟨v,B,I.call (h':=D) (g':=g) (d':=d) (t':=t) (ch:=[]) un hok bare (λb z=>absurd z (by simp)),r,q⟩
end
def QD(sp:Sp)(dvs:zA)(E:XK)(t:TA):TE:=fun B H Q=>t B H λD y=>sp (D++dvs) y Q E
def Binds(K:Fgx)(D:FuncData)(B:List Str)(ds:yX):Prop:=
 ∀(s:yS) (y:yX),K.In s.heap->(y++ds).length=B.length->BindsTo s D ⟨y,[]⟩ (B.zip (y++ds))
theorem Binds.all{K:Fgx}{D:FuncData}{y:List Str}(h:∀us:yX,us.length=y.length->bindArgs D ⟨us,[]⟩=pure (y.zip us)):Binds K D y []:=λs us _ B=>by
 rw[bv]at B ⊢;exact .of_eq (h us B)
def Gs(CX:CN)(X:Cx)(E:XK):Prop:=∀(ad:PNs) (B:St) (H:Hp) (s:yS) (e:yU) (y:yS),Ac X ad B H s->CX X.stack H s E e y->X.xe e y
section
variable{X:Cx}{CX:CN}{k:Nat}{f C:yR}{fd:FuncData}{ps:List Str}{sp:Sp}{dvs:zA}{ds:yX}{E:XK}{x m:Str}{p pos apos:Pos}{e o:yL}{es:List yL}{ta:TE}{t:TA}
theorem QE{ad:PNs}{σ:St}{H:Hp}{s:yS}(F:C2 X.prog X.w X.K X.mg X.base CX k f fd ps sp)(D:AU k X.A)(Z:Binds X.K fd ps ds)(hd:Av dvs ds)(G:Gs CX X E)
  (I:Ac X ad σ H s) (r:Av vs us) (h:sp (vs++dvs) H Q E):wpAny (model X.prog X.w) X.A (call (.ref f) us) (EP X ad σ Q) X.xe s:=by
 have B:Av (vs++dvs) (us++ds):=r.append hd;have O:(us++ds).length=ps.length:=by rw[<-B.length];exact F.len _ _ _ _ h
 refine eI (ao (F.run X.A X.stack s H ⟨us,[]⟩ (us++ds) (vs++dvs) Q E D I.env0 (Z s us I.kIn O) B h) λr J y=>?_);cases r with
 | error e=>exact G ad σ H s e J I y
 | ok fl=>
  cases fl with
  | ret u=>exact I.after y
  | next=>exact False.elim y
  | brk=>exact False.elim y
  | cont=>exact False.elim y
theorem Ld(F:C2 X.prog X.w X.K X.mg X.base CX k f fd ps sp)(D:AU k X.A)(G:Gl X x)(hm:X.mg x=some (.ref f))(J:PySem.W.keepIn X.K (.ref f)=true)(hb:Binds X.K fd ps ds)(hd:Av dvs ds)(hx:Gs CX X E)
  (ha:PA X (e::es) t) (hdb:autoParam ((x==("__debug__" :Str))=false) W0) (Z:autoParam (starEach (e::es) X.env=(false,eval e X.env)::starEach es X.env) L3) (y:autoParam ((backTo pos (starEach es X.env)).any (·.1)=false) L3):
  PE X (.Call (.Name x p) (e::es) [] pos) (QD sp dvs E t):=by
 intro ad s O H Q I h;refine aH (ES I G hm ?_ hdb);refine PySem.W.callWith_K (h₀:=X.base) I.ok.mod.kin J (Ap (ha pos ad s O H _ I h) λus s1 ⟨vs,H1,B,r,q⟩=>⟨B.kIn,?_⟩) Z y;exact QE F D hb hd hx B r q
structure Mk(K:Fgx)(C f:yR):Prop where
 makes:PySem.W.makesIn K C=true
 init:PySem.W.findIn K (.ref C) "__init__"=some (some (.ref f))
 fn:PySem.W.isFn K (.ref f)=true
 kp:PySem.W.keepIn K (.ref C)=true
end
section
variable{X:Cx}{CX:CN}{k:Nat}{f C:yR}{fd:FuncData}{ps ks:List Str}{sp:Sp}{E:XK}{x m:Str}{p pos apos kpos:Pos}{e o:yL}{es:List yL}{kws:List Keyword}{te ta:TE}{t tk:TA}{nm:Option Str}
structure KBinds(K:Fgx)(fd:FuncData)(ps ks:List Str)(g:yX->yX->yX)(gV:zA->zA->zA):Prop where
 to:∀(s:yS) (us ws:yX),K.In s.heap->(g us ws).length=ps.length->BindsTo s fd ⟨us,ks.zip ws⟩ (ps.zip (g us ws))
 rel:∀ {vs:zA}{us:yX}{zs:zA}{ws:yX},Av vs us->Av zs ws->Av (gV vs zs) (g us ws)
variable{g:yX -> yX -> yX}{gV:zA -> zA -> zA}
end
structure Az(N P:List Str)(sc:Scope):Prop where
 kind:sc.kind= .function
 co:sc.isCoroutine=false
 gen:sc.isGenerator=false
 nd:N.Nodup
 pre:N.take P.length=P
 par:∀x∈P,sc.names.lookup x=some .local \/sc.names.lookup x=some .cell
 nofree:∀y∈sc.names,y.2≠ .free
theorem AC{N P:List Str}{B:Scope}(a:B.kind= .function:=by rfl)(b:B.isCoroutine=false:=by rfl)(c:B.isGenerator=false:=by rfl)(d:N.Nodup:=by decide+kernel)(e:N.take P.length=P:=by rfl)(f:∀x∈P,B.names.lookup x=some .local \/B.names.lookup x=some .cell:=by decide+kernel)(g:∀y∈B.names,y.2≠ .free:=by decide+kernel):Az N P B:=⟨a,b,c,d,e,f,g⟩
theorem Le{x:Str}:∀ {binds:List (Str×yU)}{m:Str->yW},(∀v,(x,v) ∉ binds)->bindL kindOf binds m x=m x
  | [],_,_=>rfl
  | (n, v) :: r, m, h => by
    unfold bindL;rw[Le λw y=>h w (YQ _ y)];split
    . have:x≠n:=by rintro rfl;exact h v YR
      simp[this]
    . rfl
theorem Lf{x:Str}:∀ {binds:List (Str×yU)}{m:Str->yW},(∀v,(x,v) ∉ binds)->bindC kindOf binds m x=m x
  | [],_,_=>rfl
  | (n, v) :: r, m, h => by
    unfold bindC;rw[Lf λw y=>h w (YQ _ y)];split
    . rfl
    . have:x≠n:=by rintro rfl;exact h v YR
      simp[this]
theorem Lg{kindOf:Str->Option NameKind}{x:Str}{v:yU}:∀ {P:List Str}{vs:yX}{i:Nat}{m:Str->yW},P.Nodup->P[i]? =some x->vs[i]? =some v->kindOf x=some .local ->
  bindL kindOf (P.zip vs) m x=some v
 | [],_,_,_,_,h,_,_=>by simp at h
 | _::_,[],_,_,_,_,h,_=>by simp at h
 | p::P,w::vs,0,m,nd,h1,h2,hk=>by
  simp at h1 h2;subst h1;subst h2;show bindL kindOf ((p,w)::P.zip vs) m p=_;unfold bindL;rw[Le λv y=>(eJ.mp nd).1 (bw y).1,YN hk];simp
 | p::P,w::vs,i+1,m,nd,h1,h2,hk=>by
  show bindL kindOf ((p,w)::P.zip vs) m x=_;unfold bindL;exact Lg (i:=i) (eJ.mp nd).2 (by simpa using h1) (by simpa using h2) hk
theorem Lh{kindOf:Str->Option NameKind}{x:Str}{v:yU}:∀ {P:List Str}{vs:yX}{i:Nat}{m:Str->yW},P.Nodup->P[i]? =some x->vs[i]? =some v->kindOf x≠some .local ->
  bindC kindOf (P.zip vs) m x=some v
 | [],_,_,_,_,h,_,_=>by simp at h
 | _::_,[],_,_,_,_,h,_=>by simp at h
 | p::P,w::vs,0,m,nd,h1,h2,hk=>by
  simp at h1 h2;subst h1;subst h2;show bindC kindOf ((p,w)::P.zip vs) m p=_;unfold bindC;rw[Lf λv y=>(eJ.mp nd).1 (bw y).1,Y8 hk];simp
 | p::P,w::vs,i+1,m,nd,h1,h2,hk=>by
  show bindC kindOf ((p,w)::P.zip vs) m x=_;unfold bindC;exact Lh (i:=i) (eJ.mp nd).2 (by simpa using h1) (by simpa using h2) hk
noncomputable def start(N:List Str)(vs:zA):St:=vs.map some++List.replicate (N.length-vs.length) none
noncomputable def Ca(CX:CN)(P:yP)(w:yN)(K:Fgx)(mg:Str->yW)(base:Heap)(N:List Str)(qual:Str)(scope:Scope)(f:yR)(cd:yU)(A:yO)(outer:List Env)(s:yS)(H:Hp)(E:XK):Cx where
 prog:=P
 w:=w
 K:=K
 mg:=mg
 base:=base
 A:=A.deeper (envOfC qual scope s.heap.objs.size f cd)
 N:=N
 s₀:=s
 H₀:=H
 env:=envOfC qual scope s.heap.objs.size f cd
 outer:=outer
 stack:=envOfC qual scope s.heap.objs.size f cd::outer
 ex:=[]
 calm:=true
 fn:=λ_=>true
 pn:=[]
 xe:=λe B=>wpAny (model P w) (A.deeper (envOfC qual scope s.heap.objs.size f cd)) (leaving (envOfC qual scope s.heap.objs.size f cd) e) (λ_ y=>CX outer H s E e y) (λD y=>CX outer H s E D y) B
theorem Li{y:Scope}{n:Nat}{x:Str}(h:y.names.lookup x=some .cell):∃c,(cellsFrom n y.names []).lookup x=some c:=by
 have q:=PySem.W.cellsFrom_some y.names n [] (.inl h);exact aw.mp q
theorem Lj{CX:CN}{w:yN}{K:Fgx}{mg:Str->yW}{base:Heap}{N O:List Str}{f:yR}{cd:yU}{A:yO}{outer:List Env}{s s1:yS}{H:Hp}{E:XK}
  (S:Az N O scope) (hd:A.handled=none) (D:C1 P w K mg base A outer s H) (hl:vs.length=O.length) (r:Av vs us)
  (x:InCallC s s.heap.objs.size (bindL (envOfC qual scope s.heap.objs.size f cd).kindOf (O.zip us) λ_=>none) (cellsFrom (s.heap.objs.size+1) scope.names []) (bindC (envOfC qual scope s.heap.objs.size f cd).kindOf (O.zip us) λ_=>none) s1):
  Ac (Ca CX P w K mg base N qual scope f cd A outer s H E) [] (start N vs) H s1:=by
 have i0:O.length<=N.length:=by have:=Zz List.length S.pre;rw[Zk]at this;omega
 obtain⟨h1,tk,rfl,hk⟩:=x.done;have G:∀b:yR,b ∉(Ca CX P w K mg base N qual scope f cd A outer s H E).ex:=λb z=>absurd (show b∈([]:List yR) from z) (by simp)
 refine⟨⟨D.mod,S.kind,rfl,rfl,Y5 _,λy z c h1 B=>?_,λy J=>?_,λy c _ h=>?_,λ_=>hd,cZ D.frames,.inr ⟨rfl,rfl⟩,λb z=>absurd z (G b),D.bs,D.bsz,λb _ _=>G b,λb z=>absurd z (G b),D.funs,D.frf⟩,
  rfl,D.bare,Un.kept hk,⟨_,x.toInCall.ns,λi y v h1 B h3=>?_⟩,λy c h=>⟨_,x.cell y c h⟩,D.hok.fresh (Y5 _),λy c h=>?_,λp hp=>absurd (show p∈([]:PNs) from hp) (by simp),D.hok.kept hk,?_⟩
 .exact name_of_addr x.apart (PySem.mem_of_lookup h1) (PySem.mem_of_lookup B)
 .have J:scope.names.lookup y=some .cell\/scope.names.lookup y=some .free:=J;rcases J with J | J
  .exact Li J
  .exact absurd rfl (S.nofree _ (PySem.mem_of_lookup J))
 .exact ZH (x.above y c (PySem.mem_of_lookup h))
 .have hi:i<vs.length:=by
   unfold start at B
   by_cases hi:i<vs.length
   .exact hi
   .rw[Zy (by simpa using hi)]at B;rw[List.getElem?_replicate]at B;split at B<;>cases B
  have ha:vs[i]? =some v:=by
   unfold start at B;rw[ZB (by simpa using hi),YU]at B;cases e:vs[i]? with
   | none=>rw[e]at B;cases B
   | some a=>rw[e]at B;cases B;rfl
  obtain⟨u,hu,rv⟩:=r.get ha;have hp:O[i]? =some y:=by
   rw[<-S.pre,List.getElem?_take_of_lt (by omega)];exact h1
  have Z:O.Nodup:=by rw[<-S.pre];exact S.nd.sublist (List.take_sublist _ _)
  refine⟨u,rv,?_⟩;rcases S.par y (YW hp) with k | k
  .exact .inl ⟨k,Lg Z hp hu k⟩
  .obtain⟨c,e⟩:=Li (n:=s.heap.objs.size+1) k;refine .inr ⟨.inl k,c,e,?_⟩;have q:=x.cell y c e;rw[Lh Z hp hu (by show scope.names.lookup y≠_;rw[k];decide)]at q;exact q
 .exact D.hok.fresh (ZH (x.above y c (PySem.mem_of_lookup h)))
 .unfold start;show _=N.length;rw[Zb,Y2,cN];omega
theorem Iw{CX:CN}{w:yN}{K:Fgx}{mg:Str->yW}{base:Heap}{k:Nat}{f:yR}{name:Str}{B:Arguments}{body:List Stmt}{dV kV i4 pm dl ct oc:yU}{an od:Option yR}
  {i6:Array (yW)}{N ps:List Str}{sp:Sp} (lk:K.lookup f=some ⟨oc,od,.func (PySem.W.fnOf name qual B body scope dV kV i4 pm an dl ct),i6⟩) (i5:PySem.W.codeIn K dl qual=true) (S:Az N ps scope)
  (len:∀vs H Q E,sp vs H Q E->vs.length=ps.length)
  (G : ∀ (A : yO) (outer : List Env) (s : yS) (H : Hp) (vs : zA) (Q : VK) (E : XK), AU k (A.deeper (envOfC qual scope s.heap.objs.size f dl)) -> sp vs H Q E ->
   ∃t,PSs (Ca CX P w K mg base N qual scope f dl A outer s H E) body t/\t { nx:=λ_ H'=>Q .non H',rt:=Q} (start N vs) H):
  C2 P w K mg base CX (k+1) f (PySem.W.fnOf name qual B body scope dV kV i4 pm an dl ct) ps sp:=by
 refine⟨len,λA outer s H args us vs Q E hr e0 hb r i0=>?_⟩;have hl:=len _ _ _ _ i0;have KX:K.In s.heap:=e0.mod.kin.keeps λb o e=>(e0.bs b o e).1
 have i7:s.heap.NoLimit:=e0.mod.nolimit.keeps λb o e=>(e0.bs b o e).1
 have O:∀y∈ps.zip us,scope.names.lookup y.1=some .local \/(scope.names.lookup y.1=some .cell/\((cellsFrom (s.heap.objs.size+1) scope.names []).lookup y.1).isSome=true):=fun⟨n,v⟩ hy=>by
  rcases S.par n (bw hy).1 with q | q
  .exact .inl q
  .exact .inr ⟨q,PySem.W.cellsFrom_some _ _ _ (.inl q)⟩
 refine fP hr.depth (KX _ _ lk) rfl S.co S.gen rfl (PySem.W.codeRec_of KX i5) (hb _ _ _ _ ?_);refine dW S.kind O λenv he s1 x=>?_
 subst he;refine⟨i7.keeps x.toInCall.keep,codeAny_func ?_⟩;obtain⟨t,ht,hq⟩:=G A outer s H vs Q E (hr.deeper _) i0;have I:Ac (Ca CX P w K mg base N qual scope f dl A outer s H E) [] (start N vs) H s1:=Lj S hr.hd e0 hl r x;refine Zi (ht [] s1 (start N vs) H _ I hq) (λfl s' Z=>?_) λe s' Z=>Z
 have fin:∀ {D:St}{H':Hp}{v:V}{u:yU},Ac (Ca CX P w K mg base N qual scope f dl A outer s H E) [] D H' s'->Aw v u->Q v H'->CE outer P w H s Q u s':=
  λ{D H' v u} J rv q=>⟨v,H',J.os,J.bare,J.base,J.hok,rv,q⟩
 cases fl with
 | ret u=>
  obtain⟨v,D,H',J,rv,q⟩:=Z;exact fin J rv q
 | next=>
  obtain⟨D,H',J,q⟩:=Z;exact fin (v:=V.non) (u:=Value.none) J rfl q
 | brk=>
  obtain⟨_,_,_,q⟩:=Z;exact False.elim q
 | cont=>
  obtain⟨_,_,_,q⟩:=Z;exact False.elim q
end L2
namespace L2
variable{X:Cx}{x:Str}{p pos:Pos}{e:yL}{es:List yL}{t:TA}{id T:String}{r:zA -> Hp -> VK -> Prop}
def Gu(r:zA->Hp->VK->Prop)(t:TA):TE:=fun B H Q=>t B H λD y=>r D y Q
theorem AD(Z:Bo X (.builtin id) r)(G:Gl X x)(hm:X.mg x=none)(hv:bootBuiltins x=some (.builtin id))(ha:PA X (e::es) t)(O:autoParam (x≠ "__name__") W0)(hdb:autoParam ((x==("__debug__" :Str))=false) W0)
  (he:autoParam (starEach (e::es) X.env=(false,eval e X.env)::starEach es X.env) L3) (y:autoParam ((backTo pos (starEach es X.env)).any (·.1)=false) L3):PE X (.Call (.Name x p) (e::es) [] pos) (Gu r t):=by
 intro ad s B H Q I h;refine aH (B8 I G hm hv ?_ O hdb);exact da (Ap (ha pos ad s B H _ I h) λus s1 ⟨D,H1,K,J,q1⟩=>Z ad s1 B H1 D us Q K J q1) he y
theorem BA(Z:Bo X (.type T) r)(G:Gl X x)(hm:X.mg x=none)(hv:bootBuiltins x=some (.type T))(ha:PA X (e::es) t)(O:autoParam (x≠ "__name__") W0)(hdb:autoParam ((x==("__debug__" :Str))=false) W0)
  (he:autoParam (starEach (e::es) X.env=(false,eval e X.env)::starEach es X.env) L3) (y:autoParam ((backTo pos (starEach es X.env)).any (·.1)=false) L3):PE X (.Call (.Name x p) (e::es) [] pos) (Gu r t):=by
 intro ad s B H Q I h;refine aH (B8 I G hm hv ?_ O hdb);exact Zc (Ap (ha pos ad s B H _ I h) λus s1 ⟨D,H1,K,J,q1⟩=>Z ad s1 B H1 D us Q K J q1) he y
end L2
namespace HT
open PySem PyProof.Rows
variable{sl:yR}{vl vu:yU}
variable{prog:yP}{w:yN}{A:yO}{E:yY}{s:yS}
noncomputable def sIx(n d:Nat):Option Int->Nat
 | none=>d
 | some v=>if v<0 then(v+(n:Int)).toNat else min v.toNat n
theorem sIx_nat(n d k:Nat):sIx n d (some (k:Int))=min k n:=by
 show(if (k:Int)<0 then((k:Int)+(n:Int)).toNat else min (k:Int).toNat n)=min k n;rw[Y8 (by omega),cF]
theorem QF(n d:Nat)(hd:d<=n)(o:Option Int):sIx n d o<=n:=by
 cases o with
 | none=>exact hd
 | some v=>
  show(if v<0 then(v+(n:Int)).toNat else min v.toNat n)<=n
  by_cases y:v<0
  .rw[YN y];omega
  .rw[Y8 y];exact Nat.min_le_right _ _
theorem Lk(v:Int)(n d:Nat):(if v<0 then max (v+(n:Int)) 0 else min v (n:Int))=((sIx n d (some v):Nat):Int):=by
 show(if v<0 then max (v+(n:Int)) 0 else min v (n:Int))=(((if v<0 then(v+(n:Int)).toNat else min v.toNat n):Nat):Int)
 by_cases y:v<0
 .simp only[YN y];omega
 .simp only[Y8 y];omega
theorem QG(lo hi:Option Int)(n:Nat):Builtin.Slice.sliceAdjust lo hi 1 (n:Int)=(((sIx n 0 lo:Nat):Int),((sIx n n hi:Nat):Int)):=by
 have y:¬((1:Int)<0):=by omega
 unfold Builtin.Slice.sliceAdjust;simp only[y,bB];refine Prod.ext ?_ ?_
 .cases lo with
  | none=>rfl
  | some v=>exact Lk v n 0
 .cases hi with
  | none=>rfl
  | some v=>exact Lk v n n
theorem QH(i j:Nat):Builtin.Slice.slicePlaces (i:Int) (j:Int) 1=j-i:=by
 unfold Builtin.Slice.slicePlaces;have y:(1:Int) >0:=by omega
 simp only[y,aY,Int.ediv_one];split<;>omega
theorem Ll{v:yU}{o:Option Int}{Q:Option Int->yS->Prop}(p:IsPart v o)(h:Q o s):wpAny (model prog w) A (Builtin.Slice.slicePartIndex v) Q E s:=by
 cases p with
 | none=>exact slicePart_none h
 | int i t=>exact slicePart_int h
theorem sliceApplied_gen{lo hi:Option Int}{n:Nat}{Q:Int×Int×Nat->yS->Prop}(J:s.heap.IsSliceOf sl vl vu .none)(pl:IsPart vl lo)(G:IsPart vu hi)
  (h:Q (((sIx n 0 lo:Nat):Int),1,sIx n n hi-sIx n 0 lo) s):wpAny (model prog w) A (Builtin.Slice.sliceApplied (.ref sl) (pure (n:Int))) Q E s:=by
 obtain⟨os,y,D,B⟩:=id J;unfold Builtin.Slice.sliceApplied Builtin.Slice.sliceFields;refine Y0 (Y0 (ZC y B (x:=vl) rfl (Y0 (ZC y B (x:=vu) rfl (Y0 (ZC y B (x:= .none) rfl (Y4 ?_)))))));refine Y0 (slicePart_none ?_);show wpAny _ _ (if ((1:Int)==0)=true then _ else _) _ _ s;rw[Y8 (by decide)];refine Y0 (Ll pl (Y0 (Ll G (Y0 (Y4 ?_)))));show wpAny _ _ (match Builtin.Slice.sliceAdjust lo hi 1 (n:Int) with | (lo,hi)=>pure (lo,(1:Int),Builtin.Slice.slicePlaces lo hi 1)) _ _ s;rw[QG lo hi n];show wpAny _ _ (pure (((sIx n 0 lo:Nat):Int),(1:Int),Builtin.Slice.slicePlaces ((sIx n 0 lo:Nat):Int) ((sIx n n hi:Nat):Int) 1)) _ _ s;rw[QH];exact Y4 h
theorem QI(xs:Array yU)(i k:Nat):((List.range k).filterMap fun(m:Nat)=>xs[((i:Int)+(m:Int) * 1).toNat]?).toArray=((xs.toList.drop i).take k).toArray:=by
 have e:(fun(m:Nat)=>xs[((i:Int)+(m:Int) * 1).toNat]?)=λm=>xs[i+m]? :=by
  funext m
  have:((i:Int)+(m:Int) * 1).toNat=i+m:=by omega
  rw[this]
 rw[e];have:=pick_run xs i k;rw[List.filterMap_map]at this;have y:((λx=>xs[x]?) ∘λx=>i+x)=λm=>xs[i+m]? :=rfl
 rw[y]at this;rw[this]
theorem getItem_tuple_cut{t:yR}{items:Array yU}{lo hi:Option Int}{Q:VSP}(B:IsTup s.heap t items)(O:s.heap.IsSliceOf sl vl vu .none)(pl:IsPart vl lo)(pu:IsPart vu hi)
  (Z:¬(sIx items.size 0 lo=0/\sIx items.size items.size hi=items.size))
  (h:Q (.ref s.heap.objs.size) { s with heap:=s.heap.push { cls:= .type "tuple",data:= .seq ((items.toList.drop (sIx items.size 0 lo)).take (sIx items.size items.size hi-sIx items.size 0 lo)).toArray}})
  (hsz:items.size<=sizeLine):wpAny (model prog w) A (getItem (.ref t) (.ref sl)) Q E s:=by
 have y:sizeOk (.seq ((items.toList.drop (sIx items.size 0 lo)).take (sIx items.size items.size hi-sIx items.size 0 lo)).toArray):=by
  show((items.toList.drop (sIx items.size 0 lo)).take (sIx items.size items.size hi-sIx items.size 0 lo)).toArray.size<=sizeLine;rw[Z4,Zk,bR,Ze];omega
 have hj:sIx items.size items.size hi<=items.size:=QF _ _ (Y5 _) hi;obtain⟨os,G,J,i0⟩:=id O;have D:s.TypeIs (.ref sl) "slice" :=⟨os,G,J⟩;unfold getItem
 try with_reducible refine Zp ?_
 first | refine Y0 (Y4 ?_) | skip
 refine Y0 (wpAny_sequenceKey B.typeIs (by decide) ?_);refine Y0 (Zo (name:=Str.ofString "__getitem__") B.typeIs ZW
  (Zq ZW B.typeIs entry_tuple_getitem ?_ (args_tuple_getitem _ _)))
 show wpAny _ _ (Builtin.Tuple.tupleItemsOf (.ref t) >>=_) _ _ s;refine Y0 (gk B ?_);refine Y0 (bY D ?_);rw[YN (by decide)];refine Y0 (sliceApplied_gen O pl pu ?_);have K:¬((((sIx items.size 0 lo:Nat):Int)==0 &&(1:Int)==1 &&(sIx items.size items.size hi-sIx items.size 0 lo)==items.size)=true):=by
  intro q;rw[Z5,Z5]at q;have q1:((sIx items.size 0 lo:Nat):Int)=0:=gE q.1.1;have q2:sIx items.size items.size hi-sIx items.size 0 lo=items.size:=gE q.2;exact Z ⟨by omega,by omega⟩
 show wpAny _ _ (if (((sIx items.size 0 lo:Nat):Int)==0 &&(1:Int)==1 &&(sIx items.size items.size hi-sIx items.size 0 lo)==items.size)=true then _ else _) _ _ s;rw[Y8 K,QI]
 first
  | exact Y0 (m:=Builtin.Tuple.tupleExact _) (Zn (Y4 ⟨_,rfl,Y4 h⟩) y)
  | exact Y0 (m:=Builtin.Tuple.tupleExact _) (Zn (Y0 (Y4 (Y4 ⟨_,rfl,Y4 h⟩))) y)
  | exact Y0 (Y0 (m:=Builtin.Tuple.tupleExact _) (Zn (Y4 (Y4 ⟨_,rfl,Y4 h⟩)) y))
  | exact Y0 (Y0 (m:=Builtin.Tuple.tupleExact _) (Zn (Y4 ⟨_,rfl,Y4 h⟩) y))
end HT
namespace L2
abbrev TO:=St->Hp->(Option Int->Hp->Prop)->Prop
def PO(X:Cx)(e:Option yL)(t:TO):Prop:=
 ∀(ad:PNs) (s:yS) (y:St) (H:Hp) (Q:Option Int->Hp->Prop),Ac X ad y H s->t y H Q->
  wpAny (model X.prog X.w) X.A (evalPart e X.env) (λu D=>∃o B,Ac X ad y B D/\IsPart u o/\Q o B) X.xe s
def QJ:TO:=λ_ H Q=>Q none H
def QK(t:TE):TO:=fun B H Q=>t B H λx y=>∃i,x= .int i/\Q (some i) y
theorem Ix{ns:yV}:∀ {us:yX},Av (ns.map V.int) us->IntsAre us ns:=by
 induction ns with
 | nil=>intro us r;rw[eS]at r;cases r;exact .nil
 | cons n ns ih=>
  intro us r;rw[ZA]at r;cases r with
  | cons r1 r2=>
   obtain⟨t,e⟩:=r1;subst e;exact .cons n t (ih r2)
variable{X:Cx}{e:yL}{te:TE}{lo hi:Option yL}{tl th:TO}{pos p2:Pos}
theorem Iy:PO X none QJ:=by
 intro ad s y H Q I h;rw[evalPart_none];exact Y4 ⟨none,H,I,.none,h⟩
theorem Ds(h:PE X e te):PO X (some e) (QK te):=by
 intro ad s B H Q I D;rw[evalPart_some];refine Ap (h ad s B H _ I D) λu s1 O=>?_
 obtain⟨x,J,G,y,K⟩:=O;obtain⟨i,rfl,q⟩:=K;obtain⟨t,rfl⟩:=y;exact⟨some i,J,G,.int i t,q⟩
def Gv(X:Cx)(r:V->Option Int->Option Int->Hp->VK->Prop):Prop:=
 ∀(ad:PNs) (s:yS) (B:St) (H:Hp) (x:V) (v D y:yU) (lo hi:Option Int) (G:yR) (Q:VK),Ac X ad B H s->Aw x v->s.heap.IsSliceOf G D y .none->IsPart D lo->IsPart y hi->r x lo hi H Q->
  ∃T id,typeLookup (.type T) "__getitem__"=pure (some (.builtin id))/\s.TypeIs v T/\wpAny (model X.prog X.w) X.A (getItem v (.ref G)) (EP X ad B Q) X.xe s
def QL(r:V->Option Int->Option Int->Hp->VK->Prop)(K:TE)(G O:TO):TE:=fun y H Q=>K y H λx B=>G y B λl J=>O y J λu D=>r x l u D Q
theorem EW{r:V->Option Int->Option Int->Hp->VK->Prop}(O:Gv X r)(he:PE X e te)(hl:PO X lo tl)(hu:PO X hi th):PE X (.Subscript e (.Slice lo hi none p2) pos) (QL r te tl th):=by
 intro ad s B H Q I h;refine Subscript_ (Ap (he ad s B H _ I h) λv s1 J=>?_);obtain⟨x,H1,I1,r1,q1⟩:=J;refine wpAny_Slice (Ap (hl ad s1 B H1 _ I1 q1) λG s2 ⟨l,H2,I2,pl,Z⟩=>Ap (hu ad s2 B H2 _ I2 Z) λD y J=>?_);obtain⟨u,K,I3,pu,q3⟩:=J;rw[evalPart_none];refine Y4 ?_;have I4:Ac X ad B K { y with heap:=y.heap.push { cls:= .type "slice",data:= .fields #[G,D,.none]}}:=I3.kept (t':=y.toks) λb ob q=>Y1 _ q
 obtain⟨T,id,hT,ht,hg⟩:=O ad { y with heap:=y.heap.push { cls:= .type "slice",data:= .fields #[G,D,.none]}} B K x v G D l u y.heap.objs.size Q I4 r1 (Heap.IsSliceOf.new ..) pl pu q3;show wpAny (model X.prog X.w) X.A (subscriptTail e (.Slice lo hi none p2) v (.ref y.heap.objs.size)) (EP X ad B Q) X.xe { y with heap:=y.heap.push { cls:= .type "slice",data:= .fields #[G,D,.none]}};exact tail_any (ops:=[.ref y.heap.objs.size,v]) ht hT hg (by with_unfolding_all rfl)
noncomputable def Cb(xs:zA)(lo hi:Option Int):zA:=(xs.drop (HT.sIx xs.length 0 lo)).take (HT.sIx xs.length xs.length hi-HT.sIx xs.length 0 lo)
theorem Iz(xs:zA)(lo hi:Option Int):(Cb xs lo hi).length<=xs.length:=by
 unfold Cb;rw[Zk,bR];omega
end L2
namespace L2
variable{i:Int}{j:Nat}{α:Type}{xs:List α}{v u:yU}{ad:List (yR × Obj)}{σ:St}{H:Hp}{s:yS}{p:yR}{y:V}
noncomputable def Dd(n:Nat)(i:Int):Option Nat:=if 0<=i then(if i<n then some i.toNat else none) else if -(n:Int)<=i then some (i+n).toNat else none
noncomputable def BD{y:Type}(xs:List y)(i:Int):Option y:=(Dd xs.length i).bind λj=>xs[j]?
theorem Lm{n:Nat}(h:Dd n i=some j):seqIndex? i n=some j/\j<n/\ -(n:Int)<=i/\i<n:=by
 unfold Dd at h
 by_cases h0:0<=i
 .rw[YN h0]at h
  by_cases y:i<n
  .rw[YN y]at h;have e:i.toNat=j:=Z7 h;exact⟨by rw[seqIndex_of h0 y,e],by omega,by omega,y⟩
  .rw[Y8 y]at h;cases h
 .rw[Y8 h0]at h
  by_cases y: -(n:Int)<=i
  .rw[YN y]at h;have e:(i+n).toNat=j:=Z7 h;exact⟨by rw[gF (by omega) y,e],by omega,y,by omega⟩
  .rw[Y8 y]at h;cases h
theorem Lo{v:α}(h:BD xs i=some v):∃j,seqIndex? i xs.length=some j/\xs[j]? =some v/\j<xs.length/\ -(xs.length:Int)<=i/\i<xs.length:=by
 unfold BD at h;cases e:Dd xs.length i with
 | none=>rw[e]at h;cases h
 | some j=>
  rw[e]at h;obtain⟨D,y,B,h4⟩:=Lm e;exact⟨j,D,h,y,B,h4⟩
theorem Dt{v:α}(h:xs[j]? =some v):BD xs (j:Int)=some v:=by
 have y:j<xs.length:=(Y9.mp h).1;have e:Dd xs.length (j:Int)=some j:=by
  unfold Dd;rw[YN (by omega),YN (by omega)];simp
 unfold BD;rw[e];exact h
theorem QM(xs:List α)(v:α):BD (xs++[v]) (-1)=some v:=by
 have y:(xs++[v]).length=xs.length+1:=by simp
 have e:Dd (xs++[v]).length (-1)=some xs.length:=by
  unfold Dd;rw[y,Y8 (by decide),YN (by omega)]
  congr 1
  omega
 unfold BD;rw[e];show(xs++[v])[xs.length]? =some v;simp
def QN(b:yL):Prop:=∀o i,subscripted b false o i=operate [o,i] (getItem o i)
def FH(X:Cx)(r:R2):Prop:=
 ∀(D B:yL) (ad:PNs) (s:yS) (G:St) (H:Hp) (x y:V) (v u:yU) (Q:VK),Ac X ad G H s->Aw x v->Aw y u->r x y H Q->
  subscripted B false v u=operate [v,u] (getItem v u)->wpAny (model X.prog X.w) X.A (subscriptTail D B v u) (EP X ad G Q) X.xe s
def Gw(X:Cx)(id:String)(r:V->zA->Hp->VK->Prop):Prop:=
 ∀(ad:PNs) (s:yS) (y:St) (H:Hp) (x:V) (B:zA) (v:yU) (D:yX) (Q:VK),Ac X ad y H s->Aw x v->Av B D->r x B H Q->
  wpAny (model X.prog X.w) X.A (call (.builtin id) (v::D)) (EP X ad y Q) X.xe s
variable{X:Cx}{a b:yL}{ta tb:TE}{pos:Pos}
theorem AH{r:R2}(B:FH X r)(Z:PE X a ta)(hb:PE X b tb)(K:QN b):PE X (.Subscript a b pos) (CL r ta tb):=by
 intro ad s J H Q I h;exact Subscript_ (Io Z hb I h λv u s2 x y H2 G D O q=>B a b ad s2 J H2 x y v u Q G D O q (K _ _))
def IA(K:Fgx):R2:=λx y H Q=>∃p B i v,x= .ref p/\y= .int i/\Al K H p B/\BD B i=some v/\Q v H
def FI(K:Fgx):R2:=λx y H Q=>∃p B i v,x= .ref p/\y= .int i/\Ae K H p B/\BD B i=some v/\Q v H
theorem QO:FH X (IA X.K):=by
 intro J Z ad s σ H x y v u Q I rx ry h hs;obtain⟨p,xs,i,z,rfl,rfl,hq,he,q⟩:=h;cases rx;obtain⟨t,rfl⟩:=ry;obtain⟨D,r,pl,hz⟩:=I.list hq;obtain⟨j,B,h2,h3,h4,h5⟩:=Lo he;obtain⟨w,ew,O⟩:=r.get h2;have hl:=r.length;have hn:=Gp;have fin:EP X ad σ Q w s:=⟨z,H,I,O,q⟩
 by_cases h0:0<=i
 .have G:i.toNat=j:=by
   rw[seqIndex_of h0 h5]at B;exact Z7 B
  exact item_listR pl.isList h0 (by omega) (by rw[G];simpa using ew) fin hs
 .have G:(i+(D.toArray.size:Int)).toNat=j:=by
   rw[gF (by omega) h4]at B;rw[Z4,<-hl];exact Z7 B
  exact fH (x:=w) pl.isList.typeIs slot_list_getitem.lookup
   (wpAny_getItem_list_neg (Q:=λr s'=>r=w/\EP X ad σ Q r s') pl.isList (by omega) (by rw[Z4]<;>omega) (by omega) (by rw[G];simpa using ew) ⟨rfl,fin⟩) hs
theorem QP:FH X (FI X.K):=by
 intro B G ad s J H x y v u Q I Z ry h hs;obtain⟨p,xs,i,z,rfl,rfl,hq,he,q⟩:=h;cases Z;obtain⟨t,rfl⟩:=ry;obtain⟨O,r,pl,hz⟩:=I.tuple hq;obtain⟨j,h1,h2,h3,h4,h5⟩:=Lo he;obtain⟨w,ew,D⟩:=r.get h2;have hl:=r.length;have hn:=Gp;have fin:EP X ad J Q w s:=⟨z,H,I,D,q⟩;exact fH (x:=w) pl.typeIs slot_tuple_getitem.lookup
  (getItem_tuple (j:=j) (Q:=λr s'=>r=w/\EP X ad J Q r s') pl (by omega) (by omega) (by rw[Z4,<-hl];exact h1) (by simpa using ew) ⟨rfl,fin⟩) hs
theorem QQ(y:yX)(n j:Nat)(u:yU):Obj.mapSeq (·.setIfInBounds j u) { cls:= .type "list",data:= .seq y.toArray n}= { cls:= .type "list",data:= .seq (y.set j u).toArray n}:=by
 simp[Obj.mapSeq]
theorem Ac.lst{xs:zA}(I:Ac X ad σ H s)(h:H p=some (.lst xs)):
  ∃(y:yX) (n:Nat),Av xs y/\s.heap.get? p=some { cls:= .type "list",data:= .seq y.toArray n}/\xs.length<=sizeLine:=by
 obtain⟨z,y,n,r,e⟩:=I.hok p _ h;exact⟨y,n,r,e,z⟩
theorem Ac.lstUpd{xs ys:zA}{y its':yX}{n B:Nat}{f:Obj->Obj}(I:Ac X ad σ H s)(h:H p=some (.lst xs))
  (G:s.heap.get? p=some { cls:= .type "list",data:= .seq y.toArray n}) (D:f { cls:= .type "list",data:= .seq y.toArray n}= { cls:= .type "list",data:= .seq its'.toArray B}) (r:Av ys its') (hz:ys.length<=sizeLine) (t:Nat):
  Ac X ad σ (upd H p (.lst ys)) { s with heap:=s.heap.update p f,toks:=t}:=by
 have e:(s.heap.update p f).get? p=some { cls:= .type "list",data:= .seq its'.toArray B}:=by
  rw[Zl f G (by rw[D]<;>rfl),D]
 refine I.write (x:=p) (e:=p) (by rw[h];trivial) (.inl rfl) (λb u J q=>(ZY _ _ (Zv J)).trans q) ⟨_,e⟩ ?_;exact⟨hz,its',B,r,e⟩
def QR:V->V->V->Hp->(Hp->Prop)->Prop:=λo i v H Q=>∃p y k j,o= .ref p/\i= .int k/\H p=some (.lst y)/\Dd y.length k=some j/\Q (upd H p (.lst (y.set j v)))
theorem Lp:KO X QR:=by
 intro ad s σ H o i v ov iv u Q I ro ri rv h;obtain⟨p,xs,k,j,rfl,rfl,O,hj,q⟩:=h;cases ro;obtain⟨t,rfl⟩:=ri;obtain⟨y,n,r,G,hz⟩:=I.lst O;obtain⟨B,h2,Z,h4⟩:=Lm hj;have J:=r.length;have hn:=Gp;have K:Ac X ad σ (upd H p (.lst (xs.set j v))) { s with heap:=s.heap.update p (Obj.mapSeq (·.setIfInBounds j u))}:=
  I.lstUpd O G (QQ y n j u) (r.set rv j) (by rw[gc];exact hz) s.toks
 by_cases h0:0<=k
 .have D:k.toNat=j:=by
   rw[seqIndex_of h0 h4]at B;exact Z7 B
  exact PySem.W.ki_setAt G h0 (by omega) (by rw[Z4,<-J];exact h4) (by rw[D];exact⟨_,K,q⟩)
 .have D:(k+(y.toArray.size:Int)).toNat=j:=by
   rw[gF (by omega) Z]at B;rw[Z4,<-J];exact Z7 B
  exact PySem.W.ki_setBack G (by omega) (by rw[Z4,<-J];exact Z) (by omega) (by rw[D];exact⟨_,K,q⟩)
theorem QS(lo hi:Option Int)(n:Nat):(sliceBounds lo hi none n).1=((HT.sIx n 0 lo:Nat):Int)/\(sliceBounds lo hi none n).2.1=((HT.sIx n n hi:Nat):Int)/\(sliceBounds lo hi none n).2.2=1:=by
 refine⟨?_,?_,rfl⟩
 .cases lo with
  | none=>simp[sliceBounds,HT.sIx]
  | some i=>
   simp only[sliceBounds,HT.sIx,Option.getD_none,show(1:Int) >0 by decide,aY]
   by_cases h:i<0
   .simp only[h,aY]<;>omega
   .simp only[h,bB]<;>omega
 .cases hi with
  | none=>simp[sliceBounds,HT.sIx]
  | some i=>
   simp only[sliceBounds,HT.sIx,Option.getD_none,show(1:Int) >0 by decide,aY]
   by_cases h:i<0
   .simp only[h,aY]<;>omega
   .simp only[h,bB]<;>omega
theorem QT(y:yX)(lo hi:Option Int):slicePick y.toArray lo hi none=((y.drop (HT.sIx y.length 0 lo)).take (HT.sIx y.length y.length hi-HT.sIx y.length 0 lo)).toArray:=by
 obtain⟨G,B,D⟩:=QS lo hi y.toArray.size;unfold slicePick;rw[G,B,D];simp only[sliceRange_one,pick_run,Z4]<;>rfl
def Lr(K:Fgx):V->Option Int->Option Int->Hp->VK->Prop:=λx lo hi H Q=>∃a y,x= .ref a/\Al K H a y/\∀p,H p=none->Q (.ref p) (upd H p (.lst (Cb y lo hi)))
theorem QU:Gv X (Lr X.K):=by
 intro ad s σ H x v vl vu lo hi sl Q I J Z pl O h;obtain⟨a,y,rfl,hx,q⟩:=h;cases J;obtain⟨G,r,D,hz⟩:=I.list hx;have B:=r.length;refine⟨"list",_,slot_list_getitem.lookup,D.isList.typeIs,?_⟩;refine wpAny_getItem_list_slice D.isList Z pl O .none (by simp) ?_ (by rw[Z4]<;>omega);rw[QT,<-B];refine⟨.ref s.heap.objs.size,_,I.laid (t':=s.toks) (o:= .lst (Cb y lo hi)) (λb ob q=>Y1 _ q) (Y5 _) ?_,rfl,q _ (I.hok.fresh (Y5 _))⟩;exact⟨YV (Iz y lo hi) hz,_,0,(r.drop (HT.sIx y.length 0 lo)).take (HT.sIx y.length y.length hi-HT.sIx y.length 0 lo),YM _ rfl⟩
def C3:V->Bool
 | .non=>true
 | .bl _=>true
 | .int _=>true
 | .str _=>true
 | _=>false
noncomputable def De:V->V->Bool
 | .non,.non=>true
 | .bl a,.bl b=>a==b
 | .bl a,.int b=>(if a then 1 else 0)==b
 | .int a,.bl b=>a==(if b then 1 else 0)
 | .int a,.int b=>a==b
 | .str a,.str b=>a==b
 | _,_=>false
theorem QV{A:yO}{x:V}(J:Aw y u)(B:Aw x v)(K:C3 y=true)(G:C3 x=true):SeqAt.EqAt A s u v (De y x):=by
 cases y with
 | non=>
  cases J;cases x with
  | non=>cases B;exact SeqAt.EqAt.same _
  | bl b=>cases B;exact SeqAt.EqAt.none_bool b
  | int b=>obtain⟨t,rfl⟩:=B;exact SeqAt.EqAt.none_int b t
  | str b=>obtain⟨t,rfl⟩:=B;exact SeqAt.EqAt.none_str b t
  | _=>exact absurd (show false=true from G) YZ
 | bl a=>
  cases J;cases x with
  | non=>cases B;exact SeqAt.EqAt.bool_none a
  | bl b=>cases B;exact SeqAt.EqAt.bool_bool a b
  | int b=>obtain⟨t,rfl⟩:=B;exact SeqAt.EqAt.bool_int a b t
  | str b=>obtain⟨t,rfl⟩:=B;exact SeqAt.EqAt.bool_str a b t
  | _=>exact absurd (show false=true from G) YZ
 | int a=>
  obtain⟨D,rfl⟩:=J;cases x with
  | non=>cases B;exact SeqAt.EqAt.int_none a D
  | bl b=>cases B;exact SeqAt.EqAt.int_bool a D b
  | int b=>obtain⟨t,rfl⟩:=B;exact SeqAt.EqAt.int_int a D b t
  | str b=>obtain⟨t,rfl⟩:=B;exact SeqAt.EqAt.int_str a D b t
  | _=>exact absurd (show false=true from G) YZ
 | str a=>
  obtain⟨D,rfl⟩:=J;cases x with
  | non=>cases B;exact SeqAt.EqAt.str_none a D
  | bl b=>cases B;exact SeqAt.EqAt.str_bool a D b
  | int b=>obtain⟨t,rfl⟩:=B;exact SeqAt.EqAt.str_int a D b t
  | str b=>obtain⟨t,rfl⟩:=B;exact SeqAt.EqAt.str_str a D b t
  | _=>exact absurd (show false=true from G) YZ
 | _=>exact absurd (show false=true from K) YZ
noncomputable def Du(x:V)(u:yU):Bool:=match u with
 | .none=>De .non x
 | .bool b=>De (.bl b) x
 | .int i _=>De (.int i) x
 | .str z _=>De (.str z) x
 | _=>false
theorem Ls{x:V}(r:Aw y u)(f:C3 y=true):Du x u=De y x:=by
 cases y with
 | non=>cases r;rfl
 | bl b=>cases r;rfl
 | int i=>obtain⟨t,rfl⟩:=r;rfl
 | str z=>obtain⟨t,rfl⟩:=r;rfl
 | _=>exact absurd (show false=true from f) YZ
theorem IB{x:V}:∀ {xs:zA}{us:yX},Av xs us->xs.all C3=true->us.any (Du x)=xs.any λy=>De y x
 | _,_,.nil,_=>rfl
 | y::xs,u::us,.cons r t,f=>by
  rw[all_cons,Z5]at f;rw[aO,aO,Ls r f.1,IB t f.2]
theorem IC{A:yO}{x:V}(D:Aw x v)(G:C3 x=true):∀ {xs:zA}{us:yX},Av xs us->xs.all C3=true->∀u∈us,SeqAt.EqAt A s u v (Du x u)
 | _,_,.nil,_=>λu B=>by cases B
 | y::xs,u::us,.cons r t,f=>λJ B=>by
  rw[all_cons,Z5]at f;rcases YY.mp B with rfl | B
  .rw[Ls r f.1];exact QV r D f.1 G
  .exact IC D G t f.2 J B
noncomputable def BL(x:V)(xs:zA):Bool:=xs.any λy=>De y x
def Lu(K:Fgx)(D:Bool):R2:=λx y H Q=>∃p B,y= .ref p/\(Al K H p B\/Ae K H p B)/\C3 x=true/\B.all C3=true/\Q (.bl (if D then !BL x B else BL x B)) H
theorem QW:OpR X (compareOp .In) (Lu X.K false):=by
 intro ad s σ H x y v u Q I J Z h;obtain⟨p,xs,rfl,D,O,fs,q⟩:=h;cases Z;rcases D with D | D
 .obtain⟨B,r,pl,hz⟩:=I.list D;refine SeqAt.in_listAt (Du x) pl.isList (λw G=>IC J O r fs w (by simpa using G)) ⟨.bl _,H,I,rfl,?_⟩;rw[show B.toArray.any (Du x)=B.any (Du x) by simp,IB r fs];exact q
 .obtain⟨B,r,pl,hz⟩:=I.tuple D;refine SeqAt.in_tupleAt (Du x) pl (λw G=>IC J O r fs w (by simpa using G)) ⟨.bl _,H,I,rfl,?_⟩;rw[show B.toArray.any (Du x)=B.any (Du x) by simp,IB r fs];exact q
theorem QX:Bo X (.builtin "len") (λxs H Q=>∃p ys,xs=[.ref p]/\(Al X.K H p ys\/Ae X.K H p ys)/\Q (.int ys.length) H):=by
 intro ad s Z H xs us Q I r h;obtain⟨p,ys,rfl,B,q⟩:=h;obtain⟨u,rfl,J⟩:=FG r;cases J;have hn:=Gp;rcases B with B | B
 .obtain⟨D,G,pl,O⟩:=I.list B;have y:=G.length;exact Calls.call_len_list pl.isList (by simp only[Z4]<;>omega) ⟨.int ys.length,H,I.tok _,⟨s.toks+1,by rw[Z4,y]⟩,q⟩
 .obtain⟨D,G,pl,O⟩:=I.tuple B;have y:=G.length;exact len_tuple pl (by simp only[Z4]<;>omega) ⟨.int ys.length,H,I.tok _,⟨s.toks+1,by rw[Z4,y]⟩,q⟩
theorem QY:Bo X (.type "list") (λxs H Q=>∃p ys,xs=[.ref p]/\(Al X.K H p ys\/Ae X.K H p ys)/\∀l,H l=none->Q (.ref l) (upd H l (.lst ys))):=by
 intro ad s σ H xs us Q I r h;obtain⟨p,ys,rfl,J,q⟩:=h;obtain⟨u,rfl,rx⟩:=FG r;cases rx;have fin:∀(y:yX),Av ys y->ys.length<=sizeLine->∀(B:Heap) (D:Nat),(∀b o',s.heap.get? b=some o'->B.get? b=some o')->
   B.get? s.heap.objs.size=some { cls:= .type "list",dict:=none,data:= .seq y.toArray D,slots:= #[]}->EP X ad σ Q (.ref s.heap.objs.size) { s with heap:=B}:=λy G Z B D kp e=>
  ⟨.ref s.heap.objs.size,_,I.laid (t':=s.toks) kp (Y5 _) (show ObjOk X.prog X.w _ B _ (.lst ys) from⟨Z,y,D,G,e⟩),rfl,q _ (I.hok.fresh (Y5 _))⟩
 rcases J with J | J
 .obtain⟨y,G,pl,Z⟩:=I.list J;have O:=G.length;obtain⟨o,ho,hc,n,hd⟩:=pl.isList;exact call_list_seq p (.inl rfl) ho hc hd (λB D kp e=>fin y G Z B D kp e) (by simp only[Z4]<;>omega)
 .obtain⟨y,G,pl,Z⟩:=I.tuple J;have O:=G.length;obtain⟨o,ho,hc,n,hd⟩:=pl;exact call_list_seq p (.inr rfl) ho hc hd (λB D kp e=>fin y G Z B D kp e) (by simp only[Z4]<;>omega)
theorem QZ:Bo X (.type "tuple") (λxs H Q=>∃p ys,xs=[.ref p]/\((Al X.K H p ys/\∀l,H l=none->Q (.ref l) (upd H l (.tup ys)))\/(Ae X.K H p ys/\Q (.ref p) H))):=by
 intro ad s G H xs us Q I r h;obtain⟨p,ys,rfl,h⟩:=h;obtain⟨u,rfl,rx⟩:=FG r;cases rx;rcases h with⟨hq,q⟩ | ⟨hq,q⟩
 .obtain⟨y,D,pl,Z⟩:=I.list hq;have O:=D.length;refine call_tuple_list pl.isList (λB kp=>?_) (by simp only[Z4]<;>omega);have J:Ac X ad G H { s with heap:=B}:=I.kept (t':=s.toks) kp;have I2:Ac X ad G (upd H B.objs.size (.tup ys)) { s with heap:=B.push { cls:= .type "tuple",data:= .seq y.toArray}}:=
   J.laid (t':=s.toks) (λb o e=>Y1 _ e) (Y5 _) (show ObjOk X.prog X.w _ _ _ (.tup ys) from⟨Z,y,D,gC _ _⟩)
  exact⟨.ref B.objs.size,_,I2,rfl,q _ (J.hok.fresh (Y5 _))⟩
 .obtain⟨y,D,pl,Z⟩:=I.tuple hq;exact call_tuple_same pl ⟨.ref p,H,I,rfl,q⟩
def Lv(K:Fgx)(T:String)(x:V)(H:Hp):Prop:=match x with
 | .str _=>T="str"
 | .int _=>T="int"
 | .ref p => (T = "list" /\ ∃ xs, Al K H p xs) \/ (T = "tuple" /\ ∃ o, K.lookup p = some o /\ o.cls = .type "tuple" /\ o.dict = none) \/
   (T="dict" /\((∃kvs,H p=some (.dK kvs))\/ ∃kvs,H p=some (.dT kvs)))\/(T="set" /\∃S n,H p=some (.set S n))
 | _=>False
theorem Q0{T:String}{x:V}(I:Ac X ad σ H s)(r:Aw x v)(ty:Lv X.K T x H):
  s.TypeIs v T/\∀a,v= .ref a->∃ob,s.heap.get? a=some ob/\ob.dict=none:=by
 cases x with
 | str z=>
  obtain⟨t,rfl⟩:=r;cases(show T="str" from ty);exact⟨typeIs_str s z t,λ_ e=>nomatch e⟩
 | int i=>
  obtain⟨t,rfl⟩:=r;cases(show T="int" from ty);exact⟨eK s i t,λ_ e=>nomatch e⟩
 | ref p=>
  cases r;rcases ty with⟨rfl,xs,hq⟩ | ⟨rfl,o,hk,hc,hd⟩ | ⟨rfl,hk⟩ | ⟨rfl,S,n,hk⟩
  .obtain⟨B,_,pl,_⟩:=I.list hq;refine⟨pl.isList.typeIs,λa e=>?_⟩;cases e;obtain⟨o,n,e,c,hd,_⟩:=pl;exact⟨o,e,hd⟩
  .refine⟨⟨o,I.kIn p o hk,hc⟩,λa e=>?_⟩;cases e;exact⟨o,I.kIn _ o hk,hd⟩
  .have z:∃o,s.heap.get? p=some o/\o.ExactDict:=by
    rcases hk with⟨kvs,hk⟩ | ⟨kvs,hk⟩
    .obtain⟨_,_,_,_,o,_,_,e,ex,_⟩:=I.hok p _ hk;exact⟨o,e,ex⟩
    .obtain⟨_,_,_,_,o,_,_,e,ex,_⟩:=I.hok p _ hk;exact⟨o,e,ex⟩
   obtain⟨o,e,ex⟩:=z;refine⟨⟨o,e,ex.1⟩,λa y=>?_⟩;cases y;exact⟨o,e,ex.2.1⟩
  .obtain⟨o,_,_,_,e,ex,_⟩:=I.hok p _ hk;refine⟨⟨o,e,ex.1⟩,λa y=>?_⟩;cases y;exact⟨o,e,ex.2.1⟩
 | _=>exact False.elim ty
def Lw(K:Fgx)(T:String)(r:V->zA->Hp->VK->Prop)(to:TE)(t:TA):TE:=fun D H Q=>to D H λx G=>Lv K T x G/\t D G λO Z=>r x O Z Q
variable{o e:yL}{es:List yL}{to:TE}{t:TA}{y:Str}{B J:Pos}{T id:String}{r:V -> zA -> Hp -> VK -> Prop}
theorem C4(pa:PlainAttrs T)(slot:Slot T name id)(O:typeOf (.builtin id)=pure (.type "method_descriptor"))(hm:Gw X id r)(ho:PE X o to)(ha:PA X (e::es) t)
  (B:autoParam (attributeBase o name X.env (eval o X.env)=eval o X.env) L3)
  (G : autoParam (((backTo cpos (starEach (e :: es) X.env)).all (λx => !x.1) && (backToKw cpos (keywordEach [] X.env)).all (λx => x.1.isSome)
   && decide ((e::es).length+([]:List Keyword).length+(if ([]:List Keyword).isEmpty then 0 else 1)<30))=true) L3)
  (D:autoParam ((apos.endLine==cpos.line)=true) L3) (hs:autoParam (starEach (e::es) X.env=(false,eval e X.env)::starEach es X.env) L3) (y:autoParam ((backTo cpos (starEach es X.env)).any (·.1)=false) L3):
  PE X (.Call (.Attribute o name apos) (e::es) [] cpos) (Lw X.K T r to t):=by
 intro ad s J H Q I h;refine wpAny_Call_method_late B G D rfl (Ap (ho ad s J H _ I h) λv s1 zq=>?_);obtain⟨x,H1,I1,r1,ty,q1⟩:=zq;obtain⟨h1,h2⟩:=Q0 I1 r1 ty;refine⟨T,id,pa,slot,O,h1,h2,?_⟩;have Z:=ha cpos ad s1 J H1 _ I1 q1;rw[hs]at Z ⊢;refine fI (by show(false || (backTo cpos (starEach es X.env)).any (·.1))=false;rw[y]<;>rfl) (db ?_);exact Ap Z λus s2 ⟨vs,H2,I2,r2,q2⟩=>hm ad s2 J H2 x vs v us Q I2 r1 r2 q2
end L2
namespace L2
variable{us its:yX}{t':Nat}
def Lx(X:Cx)(id:String)(r:V->zA->Hp->VK->Prop):Prop:=
 ∀(ad:PNs) (s:yS) (y:St) (H:Hp) (x:V) (B:zA) (v:yU) (D:yX) (Q:VK),Ac X ad y H s->Aw x v->Av B D->r x B H Q->
  wpAny (model X.prog X.w) X.A (call (.builtin id) (v::D)) (EP X ad y Q) X.xe s
theorem Av.zero(h:Av [] us):us=[]:=by cases h;rfl
theorem Av.one{x:V}(h:Av [x] us):∃u,us=[u]/\Aw x u:=by
 cases h with
 | cons r t=>exact⟨_,by rw[Av.zero t],r⟩
theorem Av.two{x y:V}(h:Av [x,y] us):∃u v,us=[u,v]/\Aw x u/\Aw y v:=by
 cases h with
 | cons r t=>
  obtain⟨v,e,q⟩:=Av.one t;exact⟨_,v,by rw[e],r,q⟩
theorem Av.rep{xs:zA}(h:Av xs us):∀k:Nat,Av (List.replicate k xs).flatten (List.replicate k us).flatten
 | 0=> .nil
 | k+1=>by
  rw[aZ,aZ,de,de];exact Av.append h (Av.rep h k)
theorem Ly(y:yX):∀(k:Nat) (B:yX),
  List.foldl (λx1 x2=>x1++x2) B.toArray (List.replicate k y.toArray)=(B++(List.replicate k y).flatten).toArray
 | 0,B=>by simp
 | k+1,B=>by
  have e:B.toArray++y.toArray=(B++y).toArray:=by simp
  have D:(B++y)++(List.replicate k y).flatten=B++(List.replicate (k+1) y).flatten:=by
   rw[aZ,de,df]
  rw[<-D,<-Ly y k (B++y),<-e,aZ,gg]
section
variable{X:Cx}{ad:List (yR × Obj)}{σ:St}{H:Hp}{s:yS}{l b:yR}{xs ys zs:zA}
theorem Ac.lset{its':yX}{n:Nat}{f:Array yU->Array yU}(I:Ac X ad σ H s)(D:H l=some (.lst xs))
  (e:s.heap.get? l=some { cls:= .type "list",data:= .seq its.toArray n}) (y:f its.toArray=its'.toArray) (G:Av ys its') (hz:ys.length<=sizeLine):
  Ac X ad σ (upd H l (.lst ys)) { s with heap:=s.heap.update l (Obj.mapSeq f),toks:=t'}:=by
 have q:=PySem.IsL.update e f;rw[y]at q;refine I.write (x:=l) (e:=l) (by rw[D];exact trivial) (.inl rfl) (λK u J B=>(ZY s.heap (Obj.mapSeq f) (Zv J)).trans B) ⟨_,q⟩ ?_;exact⟨hz,its',_,G,q⟩
theorem Ac.lnew(I:Ac X ad σ H s)(y:Av ys its)(hz:ys.length<=sizeLine):
  Ac X ad σ (upd H s.heap.objs.size (.lst ys)) { s with heap:=s.heap.push { cls:= .type "list",data:= .seq its.toArray},toks:=t'}:=
 I.laid (λ_ _ q=>Y1 _ q) (Y5 _) ⟨hz,its,0,y,YM _ rfl⟩
theorem Ac.fresh(I:Ac X ad σ H s):H s.heap.objs.size=none:=I.hok.fresh (Y5 _)
theorem Ac.lstM(I:Ac X ad σ H s)(B:H l=some (.lst xs)):xs.length<=sizeLine/\∃(y:yX) (n:Nat),Av xs y/\xs.length=y.length/\s.heap.get? l=some { cls:= .type "list",data:= .seq y.toArray n}:=by
 obtain⟨z,y,n,r,e⟩:=I.hok l _ B;exact⟨z,y,n,r,r.length,e⟩
theorem Q1{n:Nat}(h:n<=sizeLine):Builtin.List.listTooLong n=false:=by
 unfold Builtin.List.listTooLong;exact Zh (by omega)
end
variable{X:Cx}
def Q2:V->zA->Hp->VK->Prop:=λx D H Q=>∃l B y,x= .ref l/\D=[y]/\H l=some (.lst B)/\B.length<sizeLine/\Q .non (upd H l (.lst (B++[y])))
theorem Dv:Lx X "list.append" Q2:=by
 intro ad s Z H x O v us Q I G J h;obtain⟨l,K,y,rfl,rfl,D,hz,q⟩:=h;cases G;obtain⟨u,rfl,ru⟩:=J.one;obtain⟨z,B,n,r,hl,e⟩:=I.lstM D;refine aF F.slot_list_append ⟨_,e,rfl⟩ F.entry_list_append (F.args_list_append_2 _ _) (PySem.list_append l B.toArray n u (by rw[Z4];omega)) ⟨e,?_⟩;refine⟨.non,_,I.lset (its':=B++[u]) D e (by simp) (r.append (.cons ru .nil)) ?_,rfl,q⟩;rw[Zb,cO];omega
def Q3:V->zA->Hp->VK->Prop:=λx D H Q=>∃l b B y,x= .ref l/\D=[.ref b]/\H l=some (.lst B)/\H b=some (.lst y)/\B.length+y.length<=sizeLine/\Q .non (upd H l (.lst (B++y)))
theorem Q4:Lx X "list.extend" Q3:=by
 intro ad s σ H x vs v us Q I K Z h;obtain⟨l,b,xs,zs,rfl,rfl,J,hB,hz,q⟩:=h;cases K;obtain⟨u,rfl,ru⟩:=Z.one;cases ru;obtain⟨z,B,n,r,hl,e⟩:=I.lstM J;obtain⟨z2,y,n2,O,i0,e2⟩:=I.lstM hB;have G:B.toArray.size+y.toArray.size<=sizeLine:=by rw[Z4,Z4];omega
 have D:¬(!B.toArray.isEmpty && Builtin.List.listTooLong (B.toArray.size+y.toArray.size))=true:=by
  rw[Q1 G,ba];exact YZ
 refine aF F.slot_list_extend ⟨_,e,rfl⟩ F.entry_list_extend (F.args_list_extend_2 _ _)
  (AutoSeq1.list_extend_list_list_0 l B.toArray n b y.toArray n2 D (by rw[Z4];omega) (by omega)) ⟨e,e2,?_⟩
 refine⟨.non,_,I.lset (its':=B++y) J e (by simp) (r.append O) ?_,rfl,q⟩;rw[Zb];omega
def Q5:R2:=λx y H Q=>∃l b D B,x= .ref l/\y= .ref b/\H l=some (.lst D)/\H b=some (.lst B)/\D.length+B.length<=sizeLine/\∀p,H p=none->Q (.ref p) (upd H p (.lst (D++B)))
theorem Lz:OpR X (binaryOp .Add) Q5:=by
 intro ad s σ H x y v u Q I G O h;obtain⟨l,b,xs,zs,rfl,rfl,K,Z,hz,q⟩:=h;cases G;cases O;obtain⟨z,D,n,r,hl,e⟩:=I.lstM K;obtain⟨z2,B,n2,J,i0,e2⟩:=I.lstM Z;refine PySem.P.add_list e e2 ?_ (by rw[Z4,Z4];omega);have ea:D.toArray++B.toArray=(D++B).toArray:=by simp
 rw[ea];exact⟨.ref _,_,I.lnew (t':=s.toks) (r.append J) (by rw[Zb];omega),rfl,q _ I.fresh⟩
theorem LA{y:Type}(xs:List y)(k:Nat):(List.replicate k xs).flatten.length=k * xs.length:=by
 induction k with
 | zero=>simp
 | succ k ih=>rw[aZ,de,Zb,ih,Nat.succ_mul,Nat.add_comm]
end L2
namespace Att
open PySem PySem.W PySem.Calls PyProof.Rows
theorem Q6{P:Params}{h:Heap}:∀(ns:yV) (vs:yX),WellAll P h vs (ns.map WData.int)->IntsAre vs ns:=by
 intro ns
 induction ns with
 | nil=>
  intro vs w;rw[eS]at w;cases w;exact .nil
 | cons n ns ih=>
  intro vs w;rw[ZA]at w;cases w with
  | cons a b=>
   cases a;exact .cons _ _ (ih _ b)
theorem Q7{l:OpenLaw}{n:Nat}(Z:l.most=some n){P:Params}{h:Heap}{args:List WData}{B:yX}
    (y:l.row.toRowW.claim.pre args=true) (J:WellAll P h B args):
    ∃a vs ns,B=[Value.ref a]/\args=[WData.list (ns.map WData.int)]/\h.get? a=some { cls:= .type "list",data:= .seq vs.toArray}/\IntsAre vs ns/\ns.length<=n:=by
  have K:WShape.hasAll [] args [.list .int]=true:=(pre_splitW y).1;have O:l.pre.holds [] { args:=args}=true:=(pre_splitW y).2;obtain⟨d,r,rfl,h1,h2⟩:=hasAllW_cons K;obtain rfl:=hasAllW_nil h2;obtain⟨xs,rfl,h3⟩:=hasW_list h1;obtain⟨ns,rfl⟩:=items_int h3;have D:ns.length<=n:=by
    unfold OpenLaw.pre at O;have h4:(WTm.not (.lt (.lit (.int (n:Int))) (.len (.arg 0)))).holds [] { args:=[.list (ns.map .int)]}=true:=by
      have h4:=(holds_andW O).1;rw[Z]at h4;exact h4
    have G:=condW_of h4 (w_not (w_lt w_lit (w_len_list (w_arg rfl))));rw[Y2]at G;refine Nat.le_of_not_lt λq=>?_
    have q':(n:Int)<((ns.length:Nat):Int):=by omega
    first
      | (rw[Z9 q']at G;exact absurd G (by decide))
      | (simp at G;omega)
  cases J with
  | cons w1 w2 =>
    cases w2;cases w1 with
    | list ho hall=>exact⟨_,_,ns,rfl,rfl,ho,Q6 ns _ hall,D⟩
theorem Q8(l:OpenLaw)(args:List WData):l.row.toRowW.claim.post args (.bool true) args=true:=
 postW_of (r:=l.row.toRowW) (X:=(true==true))
  (show WShape.has [] (.bool true) .bool=true by first | rfl | decide | simp[WShape.has,WShape.arms,WShape.armsAll])
  (show(WTm.eq .res (.lit (.bool true))).value [] { args:=args,res:=some (.bool true),after:=args}=some (.bool (true==true)) from w_eq_bool (w_res rfl) w_lit) rfl
theorem attach_call{l:OpenLaw}{n:Nat}{q:yP}{B:List Str}{XP:(Str->yW)->Heap->Prop}{YP:yN->Heap->Prop}{d:DefRec}
  (hn:l.most=some n) (i6:d.params.defaults=[])
  (call : ∀ (w : yN) (s₀ y : yS) (mg mb : Str -> yW) (O : yR) (o : Obj) (pm cd J : yU) (a : yR) (vs : yX) (ns : yV),
   Ground q B [] XP w s₀ mg mb y.heap->YP w y.heap->
   y.heap.get? O=some o->o.data= .func (docDef d.name d.params d.body d.scope pm cd J)->y.heap.CodeRec cd d.name->mg d.name=some (.ref O)->
   y.heap.get? a=some { cls:= .type "list",data:= .seq vs.toArray}->IntsAre vs ns->ns.length<=n->y.gens= #[]->
   codeAny (model l.prog w) callerA (.call (.ref O) ⟨[.ref a],[]⟩) (λr s'=>r= .ok (.ret (.bool true))/\OldK y.heap s'.heap/\s'.os=y.os/\AllBare s'.gens) y):
  WalkO q B XP YP l.row.toRowW d [] (λf vs=>PySem.call f vs):=by
 intro w s₀ y mg mb G Y O o pm cd J dV kV ho hd i5 hD i7 hg args i9 as i0 i8 j0 i4 j3;obtain rfl:dV= .none:=Dflts.none hD i6;obtain rfl:kV= .none:=Dflts.noKw hD;obtain⟨a,vs,ns,rfl,rfl,K,D,Z⟩:=Q7 hn i0 i4;refine enter_call (ao (call w s₀ y mg mb O o pm cd J a vs ns G Y ho (fd_plain hd) i5 i7 K D Z hg) λr s' hq=>?_);obtain⟨rfl,h2,h3,h4⟩:=hq;exact⟨.inl ⟨.bool true,.bool true,[],rfl,λ_=>rfl,.bool true,Q8 l _,λ_=>⟨List.Pairwise.nil,λ_ hm=>(nomatch hm)⟩⟩,h2,h3,h4⟩
end Att
namespace L2
theorem ID:∀ {vs:yX}{ns:yV},IntsAre vs ns->Av (ns.map V.int) vs
 | _,_,.nil=> .nil
 | _,_,.cons n t h=> .cons ⟨t,rfl⟩ (ID h)
variable{qual:Str}{fd:FuncData}{ps:List Str}{H H':Hp}
def Cc(s:Stmt):Arguments:=match s with
 | .FunctionDef _ a _ _ _ _ _ _ _ _=>a
 | _=> { posonlyargs:=[],args:=[],vararg:=none,kwonlyargs:=[],kw_defaults:=[],kwarg:=none,defaults:=[]}
def BB(s:Stmt):List Stmt:=match s with
 | .FunctionDef _ _ b _ _ _ _ _ _ _=>b
 | _=>[]
def Ar(s:Stmt):Scope:=match s with
 | .FunctionDef _ _ _ _ _ _ sc _ _ _=>sc
 | _=> { kind:= .function,names:=[],isGenerator:=false,isCoroutine:=false}
abbrev CX0:CN:=λ_ _ _ _ _ _=>False
abbrev E0:XK:=λ_ _ _=>False
theorem Q9{X:Cx}:Gs CX0 X E0:=λ_ _ _ _ _ _ _ h=>h.elim
structure EX(K:Fgx)(x qual:Str)(st:Stmt)(f:yR)(fd:FuncData):Prop where
 ex:∃(oc:yU) (od:Option yR) (kV doc pm:yU) (an:Option yR) (dl ct:yU) (osl:Array (yW)),
  fd=PySem.W.fnOf x qual (Cc st) (BB st) (Ar st) .none kV doc pm an dl ct/\K.lookup f=some ⟨oc,od,.func fd,osl⟩/\PySem.W.codeIn K dl qual=true
 kp:PySem.W.keepIn K (.ref f)=true
section
variable{P:yP}{w:yN}{K:Fgx}{mg:Str -> yW}{base:Heap}
theorem EX.ok{x:Str}{st:Stmt}{f:yR}{N:List Str}{k:Nat}{sp:Sp}(F:EX K x qual st f fd)(S:Az N ps (Ar st))(len:∀vs H Q E,sp vs H Q E->vs.length=ps.length)
  (y : ∀ (dl : yU) (A : yO) (outer : List Env) (s : yS) (H : Hp) (vs : zA) (Q : VK) (E : XK), AU k (A.deeper (envOfC qual (Ar st) s.heap.objs.size f dl)) -> sp vs H Q E ->
   ∃t,PSs (Ca CX0 P w K mg base N qual (Ar st) f dl A outer s H E).nox (BB st) t/\t { nx:=λ_ H'=>Q .non H',rt:=Q} (start N vs) H):C2 P w K mg base CX0 (k+1) f fd ps sp:=by
 obtain⟨oc,od,kV,Z,pm,an,dl,ct,O,rfl,J,B⟩:=F.ex;refine Iw J B S len λA outer s H vs Q E G D=>?_
 obtain⟨t,h,q⟩:=y dl A outer s H vs Q E G D;exact⟨t,h.nox,q⟩
theorem EX.binds{x:Str}{st:Stmt}{f:yR}(F:EX K x qual st f fd)
  (h:∀(kV y D:yU) (B:Option yR) (dl ct:yU) (us:yX),us.length=ps.length->bindArgs (PySem.W.fnOf x qual (Cc st) (BB st) (Ar st) .none kV y D B dl ct) ⟨us,[]⟩=pure (ps.zip us)):Binds K fd ps []:=by
 obtain⟨O,od,kV,y,D,B,dl,ct,G,rfl,Z,J⟩:=F.ex;exact .all (h kV y D B dl ct)
theorem LB{x:Str}{st:Stmt}{f:yR}{J:yU}{O D:Option yR}{B:Array (yW)}{kV y G dl ct:yU}(l:K.lookup f=some ⟨J,O,.func (PySem.W.fnOf x qual (Cc st) (BB st) (Ar st) .none kV y G D dl ct),B⟩)
  (c:PySem.W.codeIn K dl qual=true) (k:PySem.W.keepIn K (.ref f)=true):EX K x qual st f (PySem.W.fnOf x qual (Cc st) (BB st) (Ar st) .none kV y G D dl ct):=⟨⟨J,O,kV,y,G,D,dl,ct,B,rfl,l,c⟩,k⟩
end
theorem Ra{n:Nat}(h:n<=1000):n<sizeLine:=au h (by decide)
def Ab(H H':Hp):Prop:=∀b o,H b=some o->H' b=some o
theorem Ab.refl(H:Hp):Ab H H:=λ_ _ h=>h
theorem Ab.trans{B y:Hp}(a:Ab H B)(b:Ab B y):Ab H y:=λc o h=>b c o (a c o h)
theorem Ab.free(e:Ab H H'){l:yR}(h:H' l=Option.none):H l=Option.none:=by
 cases q:H l with
 | none=>rfl
 | some o=>
  rw[e l o q]at h;cases h
theorem Ab.seq{K:Fgx}{a:yR}{xs:zA}(e:Ab H H')(h:Al K H a xs):Al K H' a xs:=by
 rcases h with(h | ⟨o,h⟩) | h
 .exact .inl (.inl (e _ _ h))
 .exact .inl (.inr ⟨o,e _ _ h⟩)
 .exact .inr h
end L2
namespace L2
section
noncomputable def AS(cs:List (Str×yR)):List (Str×NameKind)->List (Str×yR)->List (Str×yR)
  | [],ig=>ig
  | (n,k)::r,ig=>if k== .free then(match cs.lookup n with | some a=>AS cs r ((n,a)::ig) | none=>AS cs r ig) else AS cs r ig
theorem IE{env:Env}:∀(names:List (Str×NameKind)) (B:List (Str×yR)),(∀y∈names,y.2= .free->∃c,env.cells.lookup y.1=some c)->
    (forIn names B (fun(p:Str×NameKind) (cs:List (Str×yR))=>do
      if (p.2==NameKind.free)=true then do
        let a<-cellOf env p.1
        pure (ForInStep.yield ((p.1,a)::cs))
      else pure (ForInStep.yield cs)):Sem (List (Str×yR)))=pure (AS env.cells names B)
  | [],B,_=>rfl
  | (n, k) :: r, B, h => by
    rw[bL]
    by_cases G:(k==NameKind.free)=true
    . obtain⟨c,O⟩:=h (n,k) YR (by simpa using G);have D:env.cells.lookup n=some c:=O;simp only[G,aY,cellOf,D,AS];exact IE r _ λy K=>h y (YQ _ K)
    . have J:(k==NameKind.free)=false:=by simpa using G
      simp only[J,ag,bB,AS];exact IE r _ λy K=>h y (YQ _ K)
theorem IF{env:Env}{scope:Scope}(h:∀y∈scope.names,y.2= .free->∃c,env.cells.lookup y.1=some c):closureFor scope env=pure (AS env.cells scope.names []):=by
 have q:=IE (env:=env) scope.names [] h;unfold closureFor;simp only[];have e:(forIn scope.names ([]:List (Str×yR)) (fun(p:Str×NameKind) (cs:List (Str×yR))=>do
   if (p.2==NameKind.free)=true then do
    let a<-cellOf env p.1
    pure (ForInStep.yield ((p.1,a)::cs))
   else pure (ForInStep.yield cs)):Sem (List (Str×yR))) >>=(λcs=>pure cs)=pure (AS env.cells scope.names []):=by rw[q];rfl
 exact e
theorem DT{cs:List (Str×yR)}{x:Str}{c:yR}:∀(names:List (Str×NameKind)) (y:List (Str×yR)),(AS cs names y).lookup x=some c->cs.lookup x=some c\/y.lookup x=some c
  | [],_,h=> .inr h
  | (n, k) :: r, y, h => by
    unfold AS at h;split at h
    . cases B:cs.lookup n with
      | none=>rw[B]at h;exact DT r y h
      | some a =>
        rw[B]at h;rcases DT r _ h with q | q
        . exact .inl q
        . rw [ZP] at q;cases D:x==n with
          | true=>rw[D]at q;rw[aV.mp D,B];exact .inl q
          | false=>rw[D]at q;exact .inr q
    . exact DT r y h
theorem Gx{cs:List (Str×yR)}{x:Str}{c:yR}(y:cs.lookup x=some c):∀(names:List (Str×NameKind)) (B:List (Str×yR)),B.lookup x=some c->(AS cs names B).lookup x=some c
  | [],_,h=>h
  | (n, k) :: r, B, h => by
    unfold AS;split
    . cases G:cs.lookup n with
      | none=>exact Gx y r B h
      | some a =>
        refine Gx y r _ ?_;rw[ZP];cases D:x==n with
        | true=>rw[aV.mp D,G]at y;exact y
        | false=>exact h
    . exact Gx y r B h
theorem Es{cs:List (Str×yR)}{x:Str}{c:yR}(y:cs.lookup x=some c):∀(names:List (Str×NameKind)) (B:List (Str×yR)),(x,NameKind.free)∈names->(AS cs names B).lookup x=some c
  | [],_,h=>nomatch h
  | (n, k) :: r, B, h => by
    unfold AS;rcases YY.mp h with e | h
    . cases e;simp only[eW,aY,y];exact Gx y r _ (by simp[ZP])
    . split
      . cases D:cs.lookup n with
        | none=>exact Es y r B h
        | some a=>exact Es y r _ h
      . exact Es y r B h
theorem EY{x:Str}{c:yR}:∀(names:List (Str×NameKind)) (n:Nat) (B:List (Str×yR)),(cellsFrom n names B).lookup x=some c->n<=c\/B.lookup x=some c
  | [],_,_,h=> .inr h
  | (y, k) :: r, n, B, h => by
    unfold cellsFrom at h;split at h
    . rcases EY r (n+1) _ h with q | q
      . exact .inl (by omega)
      . rw [ZP] at q;cases D:x==y with
        | true=>rw[D]at q;cases q;exact .inl (Y5 _)
        | false=>rw[D]at q;exact .inr q
    . exact EY r n B h
theorem IG{x:Str}{c:yR}{lo:Nat}:∀(names:List (Str×NameKind)) (n:Nat) (D:List (Str×yR)),lo<=n->((x,NameKind.cell)∈names\/ ∀c,D.lookup x=some c->lo<=c)->(cellsFrom n names D).lookup x=some c->lo<=c
  | [],_,_,_,B,h=>B.elim (λz=>nomatch z) λz=>z c h
  | (y, k) :: r, n, D, hl, B, h => by
    unfold cellsFrom at h;split at h
    . rename_i K;refine IG r (n+1) _ (by omega) ?_ h
      by_cases G:x=y
      . refine .inr λJ q=>?_
        rw[ZP,G,eW]at q;cases q;exact hl
      . rcases B with B | B
        . rcases YY.mp B with e | B
          . cases e;exact absurd rfl G
          . exact .inl B
        . refine .inr λJ q=>B J ?_
          rw[ZP,aa.mpr G]at q;exact q
    . rename_i K;refine IG r n D hl ?_ h;rcases B with B | B
      . rcases YY.mp B with e | B
        . cases e;exact absurd rfl K
        . exact .inl B
      . exact .inr B
theorem IH{x:Str}{c:yR}:∀(names:List (Str×NameKind)) (n:Nat) (D:List (Str×yR)),(x,NameKind.cell) ∉ names->D.lookup x=some c->(cellsFrom n names D).lookup x=some c
  | [],_,_,_,h=>h
  | (y, k) :: r, n, D, hm, h => by
    have B:(x,NameKind.cell) ∉ r:=λz=>hm (YQ _ z)
    unfold cellsFrom;split
    . rename_i K;refine IH r (n+1) _ B ?_;rw [ZP];cases G:x==y with
      | true =>
        have J:k=NameKind.cell:=by simpa using K
        exact absurd (by rw[aV.mp G,J];exact YR) hm
      | false=>exact h
    . exact IH r n D B h
theorem II{x:Str}:∀(names:List (Str×NameKind)) (n:Nat) (D:List (Str×yR)),((x,NameKind.cell)∈names\/ ∃c,D.lookup x=some c)->∃c,(cellsFrom n names D).lookup x=some c
  | [],_,_,B=>B.elim (λz=>nomatch z) λz=>z
  | (y, k) :: r, n, D, B => by
    unfold cellsFrom;split
    . rename_i J;refine II r (n+1) _ ?_
      by_cases G:x=y
      . exact .inr ⟨n,by rw[G,ZP,eW]⟩
      . rcases B with B | ⟨c,B⟩
        . rcases YY.mp B with e | B
          . cases e;exact absurd rfl G
          . exact .inl B
        . exact .inr ⟨c,by rw[ZP,aa.mpr G];exact B⟩
    . rename_i J;refine II r n D ?_;rcases B with B | B
      . rcases YY.mp B with e | B
        . cases e;exact absurd rfl J
        . exact .inl B
      . exact .inr B
theorem IJ:∀(names:List (Str×NameKind)) (n:Nat) (D:List (Str×yR)),(∀x c,D.lookup x=some c->c<n)->(∀x y c,D.lookup x=some c->D.lookup y=some c->x=y)->
    ∀x y c,(cellsFrom n names D).lookup x=some c->(cellsFrom n names D).lookup y=some c->x=y
  | [],_,_,_,hi=>hi
  | (z, k) :: r, n, D, hb, hi => by
    unfold cellsFrom;split
    . refine IJ r (n+1) _ (λx c q=>?_) λx y c q B=>?_
      . rw [ZP] at q;cases G:x==z with
        | true=>rw[G]at q;cases q;exact be _
        | false=>rw[G]at q;exact ZM (hb x c q)
      . rw [ZP] at q B;cases G:x==z with
        | true =>
          rw[G]at q;cases q;cases J:y==z with
          | true=>rw[aV.mp G,aV.mp J]
          | false=>rw[J]at B;exact absurd (hb y _ B) (YX _)
        | false =>
          rw[G]at q;cases J:y==z with
          | true=>rw[J]at B;cases B;exact absurd (hb x _ q) (YX _)
          | false=>rw[J]at B;exact hi x y c q B
    . exact IJ r n D hb hi
theorem IK:∀(names:List (Str×NameKind)) (h:Heap) (y:List (Str×yR)) {x:Str}{c:yR},(cellsFrom h.objs.size names y).lookup x=some c->(pushCells h names).IsCell c none\/y.lookup x=some c
  | [],_,_,_,_,q=> .inr q
  | (z, k) :: r, h, y, x, c, q => by
    unfold cellsFrom at q;unfold pushCells;split at q
    . rename_i B;rw [YN B];have e:(h.push { cls:= .type "cell",data:= .cell none}).objs.size=h.objs.size+1:=Zm ..;rw [<-e] at q;rcases IK r _ _ q with q | q
      . exact .inl q
      . rw [ZP] at q;cases D:x==z with
        | true =>
          rw[D]at q;cases q;refine .inl ?_;have w:(h.push { cls:= .type "cell",data:= .cell none}).IsCell h.objs.size none:=⟨_,YM _ rfl,rfl⟩;exact w.keeps (ax r _)
        | false=>rw[D]at q;exact .inr q
    . rename_i B;rw[Y8 B];exact IK r h y q
noncomputable def IL(scope:Scope)(env:Env)(C:yR):Env:=
  { scope:=relabel scope env,locals:=C,globals:=env.globals,cells:=cellsFrom (C+1) scope.names (AS env.cells scope.names []),qual:=env.qual,func:=none,code:=env.code,frame:=env.frame,builtins:=env.builtins}
theorem LC{M:Model}{A:yO}{E:VSP}{s:yS}{scope:Scope}{env:Env}{cl:List (Str×yR)}{Q:Env->yS->Prop}
    (h:Q { scope:=scope,locals:=s.heap.objs.size,globals:=env.globals,cells:=cellsFrom (s.heap.objs.size+1) scope.names cl,qual:=env.qual,func:=none,code:=env.code,frame:=env.frame,builtins:=env.builtins}
      { s with heap:=pushCells (s.heap.push { cls:= .type "dict",data:= .dict #[]}) scope.names}):
    wpAny M A (newFunctionEnv scope env.globals cl [] env.qual none .none (some env)) Q E s:=by
  have top:({ s with heap:=s.heap.push { cls:= .type "dict",data:= .dict #[]}}:yS).heap.objs.size=s.heap.objs.size+1:=Zm ..;rw[<-top]at h;unfold newFunctionEnv;simp only[Option.isSome_some,aY];exact Y0 (wpAny_alloc (Y0 (wpAny_layCells _ (λn k cs=>by by_cases c:(k==NameKind.cell)=true<;>simp[c]) _ _ _ _ (Y0 (Y4 (Y4 h))))))
structure AI(sc:Scope)(N:List Str)(scope:Scope)(N':List Str)(cap:List (Option Nat)):Prop where
 kind:scope.kind= .function
 free:∀y∈scope.names,y.2= .free->sc.names.lookup y.1=some .cell\/sc.names.lookup y.1=some .free
 len:cap.length=N'.length
 capt:∀(i j:Nat),cap[i]? =some (some j)->∃x:Str,N'[i]? =some x/\N[j]? =some x/\(x,NameKind.free)∈scope.names/\(x,NameKind.cell) ∉ scope.names
 names:∀y∈scope.names,y.2= .local ->scope.names.lookup y.1=some .local
 own:∀y∈scope.names,scope.names.lookup y.1=some y.2
noncomputable def LD(B:Scope)(N:List Str)(scope:Scope)(N':List Str)(cap:List (Option Nat)):Bool:=
  scope.kind== .function &&(scope.names.all λy=>y.2 != .free || B.names.lookup y.1==some .cell || B.names.lookup y.1==some .free) && cap.length==N'.length &&
    ((List.range cap.length).all λi => match cap[i]? with
      | some (some j) => (match N'[i]?, N[j]? with
        | some x,some y=>x==y && scope.names.any (λz=>z.1==x && z.2== .free) && scope.names.all (λz=> !(z.1==x && z.2== .cell))
        | _,_=>false)
      | _=>true) && scope.names.all λy=>scope.names.lookup y.1==some y.2
theorem AI.of{G:Scope}{N:List Str}{scope:Scope}{N':List Str}{cap:List (Option Nat)}(h:LD G N scope N' cap=true):AI G N scope N' cap:=by
 unfold LD at h;simp only[Z5]at h;obtain⟨⟨⟨⟨h1,h2⟩,h3⟩,h4⟩,h5⟩:=h;have own:∀y∈scope.names,scope.names.lookup y.1=some y.2:=λy B=>by
  have:=ZF.mp h5 y B
  simpa using this
 refine⟨by simpa using h1,λy B K=>?_,by simpa using h3,λi j e=>?_,λy B O=>by rw[own y B,O],own⟩
 .have:=ZF.mp h2 y B;rw[K]at this
  simpa using this
 .have hi:i<cap.length:=(Y9.mp e).1;have:=ZF.mp h4 i (Zr.mpr hi);rw[e]at this;dsimp only at this;cases D:N'[i]? with
  | none=>rw[D]at this;simp at this
  | some x=>
   cases B:N[j]? with
   | none=>rw[D,B]at this;simp at this
   | some y=>
    rw[D,B]at this;simp only[Z5]at this;obtain⟨⟨t1,t2⟩,t3⟩:=this;have e1:x=y:=by simpa using t1
    subst e1;obtain⟨z,hz,t⟩:=dJ.mp t2;simp only[Z5]at t;have J:z.1=x:=by simpa using t.1
    have z2:z.2= .free:=by simpa using t.2
    have ez:z=(x,NameKind.free):=by rw[<-J,<-z2]
    refine⟨x,rfl,rfl,ez ▸ hz,λZ=>?_⟩;have:=ZF.mp t3 _ Z;simp at this
def AK(cap:List (Option Nat))(σ:St):St:=cap.map λo=>match o with | some j=>(match σ[j]? with | some v=>v | none=>none) | none=>none
def Ce(X:Cx)(cs:List yL)(t:TT):Prop:=
 ∀(ad:PNs) (s:yS) (y:St) (H:Hp) (Q:Bool->Hp->Prop),Ac X ad y H s->t y H Q->
  wpAny (model X.prog X.w) X.A (forIn cs true λc r=>if r=true then do let ok<-isTrue c X.env (eval c X.env);pure (ForInStep.yield ok) else pure (ForInStep.yield r)) (TP X ad y Q) X.xe s
def Rb:TT:=λ_ H Q=>Q true H
theorem Bm{X:Cx}:Ce X [] Rb:=λ_ _ y H Q I h=>wpAny_tests_nil ⟨H,I,h⟩
theorem DU{X:Cx}{c:yL}{t:TT}(h:PT X c t):Ce X [c] t:=λad s y H Q I q=>wpAny_tests_one (h ad s y H Q I q)
noncomputable def AO(X:Cx)(N':List Str)(scope:Scope)(s:yS)(H:Hp)(ex:List yR)(C:yR):Cx:=
  { X with N:=N',s₀:=s,H₀:=H,env:=IL scope X.env C,outer:=X.stack,ex:=ex,fn:=λx=>scope.names.any λz=>z.1==x && z.2== .cell,pn:=[],xe:=λ_ _=>False}
theorem Gy{env:Env}{x:Str}:∀(names:List (Str×NameKind)),(names.map fun(n,k)=>if (k==NameKind.free && env.scope.kind== .function && env.kindOf n==some .cell) then(n,NameKind.cell) else(n,k)).lookup x=
    (names.lookup x).map λk=>if (k==NameKind.free && env.scope.kind== .function && env.kindOf x==some .cell) then NameKind.cell else k
  | []=>rfl
  | (n, k) :: r => by
    have B:=Gy (env:=env) (x:=x) r;show List.lookup x ((if (k==NameKind.free && env.scope.kind== .function && env.kindOf n==some .cell)=true then(n,NameKind.cell) else(n,k))::_)=_;cases y:x==n with
    | true =>
      have e:x=n:=aV.mp y;subst e;split<;>simp_all[ZP]
    | false =>
      have e:(List.lookup x ((n,k)::r))=r.lookup x:=by rw[ZP,y]
      rw[e,<-B];split<;>simp[ZP,y]
variable{X:Cx}{ad:List (yR × Obj)}{σ:St}{H:Hp}{s:yS}{scope:Scope}{N':List Str}{cap:List (Option Nat)}{fp:List yR}
theorem Rc(I:Ac X ad σ H s)(B:AI X.env.scope X.N scope N' cap)(hf:∀b∈fp,Br X ad H b)(K:∀b∈fp,b<s.heap.objs.size){C:yR}(O:s.heap.objs.size<=C):
  (AO X N' scope s H fp C).Ok:=by
 have i0:∀x c,X.env.cells.lookup x=some c->c<s.heap.objs.size:=λx c e=>let ⟨_,q⟩:=I.cell x c e;q.lt
 have Z:∀x c,(AS X.env.cells scope.names []).lookup x=some c->X.env.cells.lookup x=some c:=λx c e=>(DT _ _ e).elim id λz=>nomatch z
 refine⟨I.ok.mod,B.kind,I.ok.glob,I.ok.blt,O,λx y c h1 h2=>?_,λx hx=>?_,λx c hx h=>?_,I.ok.hd,I.ok.frames,.inl rfl,λb G=>⟨?_,λx c h e=>?_⟩,I.bs,YV I.ok.bsz I.sz,λb o e G=>?_,λb G z=>?_,I.stack,I.stkFree⟩
 .exact IJ scope.names (C+1) _ (λx c e=>ZM (YO (i0 x c (Z x c e)) O)) (λx y c e e'=>I.ok.inj x y c (Z x c e) (Z y c e')) x y c h1 h2
 .have D:(relabel scope X.env).names.lookup x=some .cell\/(relabel scope X.env).names.lookup x=some .free:=hx;have hl:(scope.names.lookup x).isSome=true:=by
   unfold relabel at D;rw[Gy]at D;cases q:scope.names.lookup x with
   | none=>rw[q]at D;rcases D with z | z<;>cases z
   | some k=>rfl
  obtain⟨k,hk⟩:=aw.mp hl;have hm:=PySem.mem_of_lookup hk;refine II scope.names (C+1) _ ?_;cases k with
  | cell=>exact .inl hm
  | free=>
   refine .inr ?_;obtain⟨c,hc⟩:=I.ok.has x (B.free _ hm rfl);exact⟨c,Es hc _ _ hm⟩
  | _=>
   unfold relabel at D;rw[Gy,hk]at D;rcases D with z | z<;>simp at z
 .have D:(scope.names.any λz=>z.1==x && z.2== .cell)=true:=hx;obtain⟨z,hz,t⟩:=dJ.mp D;simp only[Z5]at t;have z1:z.1=x:=by simpa using t.1
  have z2:z.2= .cell:=by simpa using t.2
  have ez:z=(x,NameKind.cell):=by rw[<-z1,<-z2]
  have:=IG (lo:=C+1) scope.names (C+1) _ (Y5 _) (.inl (ez ▸ hz)) h;exact YV O (eC this)
 .exact YT (YO (K b G) O)
 .rcases EY scope.names (C+1) _ h with q | q
  .have:=K b G;rw[<-e]at this;exact absurd (YO this (YV O (eC q))) (YX _)
  .exact(hf b G).2.2.2.2.1 x c (Z x c q) e
 .obtain⟨_,_,_,J,_⟩:=hf b G;rcases J with J | J
  .exact I.ok.noex b o e J
  .exact absurd (YO (Y7 e) (YV I.ok.bsz J)) (YX _)
 .obtain⟨_,f1,f2,_⟩:=hf b G;rcases YY.mp (I.stkSub b z) with q | q
  .exact f1 q
  .exact f2 q
theorem LE(I:Ac X ad σ H s)(B:AI X.env.scope X.N scope N' cap)(hf:∀b∈fp,Br X ad H b)(i5:∀b∈fp,b<s.heap.objs.size){G:Heap}(hk:∀b o,s.heap.get? b=some o->G.get? b=some o)(hsz:s.heap.objs.size<=G.objs.size):
  Ac (AO X N' scope s H fp G.objs.size) [] (AK cap σ) H { s with heap:=pushCells (G.push { cls:= .type "dict",data:= .dict #[]}) scope.names}:=by
 have ig:∀x c,(AS X.env.cells scope.names []).lookup x=some c->X.env.cells.lookup x=some c:=λx c e=>(DT _ _ e).elim id λz=>nomatch z
 have i0:∀b o,G.get? b=some o->(pushCells (G.push { cls:= .type "dict",data:= .dict #[]}) scope.names).get? b=some o:=λb o e=>ax _ _ b o (Y1 _ e)
 have J:∀b o,s.heap.get? b=some o->(pushCells (G.push { cls:= .type "dict",data:= .dict #[]}) scope.names).get? b=some o:=λb o e=>i0 b o (hk b o e)
 refine⟨Rc I B hf i5 hsz,rfl,I.bare,Un.kept J,⟨λ_=>none,(Heap.Ns.new G (.type "dict")).keeps (ax _ _),λi x v h1 h2 h4=>?_⟩,λx c h=>?_,?_,λx c h=>?_,λp hp=>absurd (show p∈([]:PNs) from hp) (by simp),I.hok.kept J,?_⟩
 .have y:(AK cap σ)[i]? =some (some v):=h2;unfold AK at y;rw[YU]at y;cases q:cap[i]? with
  | none=>rw[q]at y;cases y
  | some o=>
   rw[q]at y;cases o with
   | none=>exact nomatch Z7 y
   | some j=>
    have D:(match σ[j]? with | some v=>v | none=>none)=some v:=Z7 y;cases qs:σ[j]? with
    | none=>rw[qs]at D;cases D
    | some v'=>
     rw[qs]at D;have hs:σ[j]? =some (some v):=by rw[qs];exact Zz some D
     obtain⟨x',e1,e2,e3,e4⟩:=B.capt i j q;have i4:N'[i]? =some x:=h1;rw[i4]at e1;cases e1;have O:=B.free _ e3 rfl;obtain⟨m,hn,hl⟩:=I.loc;obtain⟨u,ru,lk⟩:=hl j x v e2 hs (O.elim (λz=> .inr (.inl z)) λz=> .inr (.inr z));refine⟨u,ru,?_⟩;rcases lk with⟨lk,_⟩ | ⟨_,c,hc,ic⟩
     .have Z:X.env.scope.names.lookup x=some .local :=lk;have K:X.env.scope.names.lookup x=some .cell\/X.env.scope.names.lookup x=some .free:=O;rw[Z]at K;rcases K with z | z<;>cases z
     .refine .inr ⟨?_,c,IH _ _ _ e4 (Es hc _ _ e3),ic.keeps J⟩;have:(relabel scope X.env).names.lookup x=some .cell\/(relabel scope X.env).names.lookup x=some .free:=by
       unfold relabel;rw[Gy,B.own _ e3];dsimp only[Option.map];split
       .exact .inl rfl
       .exact .inr rfl
      exact this
 .have h':(cellsFrom (G.objs.size+1) scope.names (AS X.env.cells scope.names [])).lookup x=some c:=h;have e:(G.push { cls:= .type "dict",data:= .dict #[]}).objs.size=G.objs.size+1:=Zm ..;rw[<-e]at h';rcases IK _ _ _ h' with q | q
  .exact⟨_,q⟩
  .obtain⟨v,z⟩:=I.cell x c (ig x c q);exact⟨v,z.keeps J⟩
 .exact I.hok.fresh hsz
 .rcases EY scope.names (G.objs.size+1) _ h with q | q
  .exact I.hok.fresh (YV hsz (eC q))
  .exact I.freeC x c (ig x c q)
 .show(AK cap σ).length=N'.length;unfold AK;rw[Y2];exact B.len
end
section
variable{a:yR}{i:Nat}{E iter:yL}{Y X:Cx}{PB:List (yR × Obj)}{σ:St}{zs xs:zA}{H:Hp}{its:yX}{te:TE}{wi:TI}{tt:TT}{scope:Scope}{cap:List (Option Nat)}{Q:zA -> Hp -> Prop}
def Keep:St->St->Prop
 | [],[]=>True
 | none::r,_::r'=>Keep r r'
 | some v::r,o::r'=>o=some v/\Keep r r'
 | _,_=>False
theorem Keep.len{a b:St}(h:Keep a b):a.length=b.length:=by
 induction a generalizing b with
 | nil=>cases b<;>first | rfl | exact False.elim h
 | cons o r ih=>
  rcases b with _ | ⟨D,y⟩
  .cases o<;>exact False.elim h
  .have B:Keep r y:=by
    cases o with
    | none=>exact h
    | some v=>exact h.2
   rw[Zw,Zw,ih B]
theorem Keep.get{a b:St}{v:V}(h:Keep a b)(e:a[i]? =some (some v)):b[i]? =some (some v):=by
 induction a generalizing b i with
 | nil=>cases e
 | cons o r ih=>
  rcases b with _ | ⟨D,y⟩
  .cases o<;>exact False.elim h
  .cases i with
   | zero=>
    cases o with
    | none=>cases e
    | some v'=>rw[h.1];exact e
   | succ i=>
    have B:Keep r y:=by
     cases o with
     | none=>exact h
     | some v=>exact h.2
    exact ih (i:=i) B e
def br(c:Bool)(A B:Prop):Prop:=(c=true->A)/\(c=false->B)
def IM(wi:TI)(cap:List (Option Nat))(g:TG)(tt:TT)(te:TE):St->Hp->(zA->Hp->Prop)->Prop:=fun O H Q=>wi O H λJ H1=>
 ∃W:Nat->Nat->zA->Hp->Prop,(∃m,W 0 m [] H1)/\∀i m G H,W i m G H->
  (J.stop i H/\Q G H)\/
  (J.go i H /\ G.length < sizeLine /\ ∃ N : zA -> Hp -> Prop, (∀ D K, N D K -> ∃ m', m' < m /\ W (i + 1) m' D K) /\ ∀ x K, J.yld i H x K -> g x (AK cap O) K fun B H2 => Keep (AK cap O) B /\ tt B H2 λb Z =>
   br b (te B Z λy H4=>N (G++[y]) H4) (N G Z))
structure Gz(X:Cx)(ad:PNs)(C:yR)(H:Hp)(s:yS):Prop where
 ns:∃m,s.heap.Ns C m
 free:H C=none
 loc:C≠X.env.locals
 sz:X.s₀.heap.objs.size<=C
 cell:∀x c,X.env.cells.lookup x=some c->c≠C
 pin:∀p∈X.pn++ad,p.1≠C
abbrev TB:=St->zA->Hp->(zA->Hp->Prop)->Prop
noncomputable def FJ(E:yL)(d:Nat)(D it:yL)(B:List yL)(body:Sem PySem.Fin)(y G:yU)(env:Env):Sem PySem.Fin:=do
  standAt it.pos
  let r<-pyNext y
  match r with
   | none=>pure (Fin.done Flow.next)
   | some v=>do
    letOwnedTupleGo D y v
    assign D env v
    let ok<-forIn B true λc r=>if r=true then do let ok<-PySem.isTrue c env (eval c env);pure (ForInStep.yield ok) else pure (ForInStep.yield r)
    if ok=true then body else again (Code.compLoop E d y G env)
noncomputable def GB(E:yL)(d:Nat)(D:yL)(B y:yU)(env:Env):Sem PySem.Fin:=do
  let _<-(do
   let x<-eval D env
   let _<-call (Value.builtin "list.append") [y,x]
   pure ())
  again (Code.compLoop E d B y env)
noncomputable def IN(E:yL)(d:Nat)(y:yL)(D B:yU)(env:Env):Sem PySem.Fin:=do
  let x<-eval y env
  standAt y.pos
  let x<-foldedSetIterable y env x
  let j<-holding [x] (pyIter x)
  let _<-runOwn (Code.compStart E (d+1) j B env) env
  again (Code.compLoop E d D B env)
abbrev GC(M:Model)(A:yO)(E:yL)(d:Nat)(y B:yU)(env:Env)(body:Sem PySem.Fin)(P:yS->Prop)(s:yS):Prop:=wpAny M A body (λfin D=>fin= .again (.compLoop E d y B env)/\P D) (λ_ _=>False) s
section
variable{prog:yP}{w:yN}{A:yO}{R:Result -> yS -> Prop}{s:yS}{e0 tg it ii it2:yL}{gs:List Comprehension}{ifs:List yL}{sc:Scope}{ps:Pos}{ie ig:yU}{env:Env}{d:Nat}{body:Sem PySem.Fin}{P:yS -> Prop}
theorem Re(h:wpAny (model prog w) A (eval ii env) (λx y=>wpAny (model prog w) A (call (.builtin "list.append") [ig,x]) (λ_ B=>P B) (λ_ _=>False) y) (λ_ _=>False) s):GC (model prog w) A E d ie ig env (GB E d ii ie ig env) P s:=
 Y0 (Y0 (Zi h (λx y D=>Y0 (Zi D (λ_ B G=>Y4 (Y4 ⟨rfl,G⟩)) λ_ _ J=>J.elim)) λ_ _ J=>J.elim))
theorem Rf(Z:∀x,foldedSetIterable it2 env x=pure x)(h:wpAny (model prog w) A (eval it2 env) (λx B=>wpAny (model prog w) A (pyIter x) (λj D=>codeAny (model prog w) (A.mark none) (.compStart E (d+1) j ig env) (λr G=>r= .ok .next/\P G) D) (λ_ _=>False) B) (λ_ _=>False) s):GC (model prog w) A E d ie ig env (IN E d it2 ie ig env) P s:=by
 refine Y0 (Zi h (λx B J=>Y0 (aN ?_)) λ_ _ O=>O.elim);rw[Z];refine Y0 (Y4 (Y0 (Zp (Zi J (λj D K=>?_) λ_ _ O=>O.elim))));refine Y0 (wpAny_runOwn (ao K λr G y=>?_));obtain⟨rfl,y⟩:=y;exact Y4 ⟨rfl,y⟩
theorem Rg(ht:compTurn (.ListComp e0 gs sc ps) d ie ig env=FJ (.ListComp e0 gs sc ps) d tg it ifs body ie ig env)(I:Nat->yS->Prop)
  (turn : ∀ n s, I n s -> wpAny (model prog w) A (pyNext ie) (λr y => match r with
   | none=>R (.ok .next) y
   | some v => wpAny (model prog w) A (letOwnedTupleGo tg ie v) (λ_ D => wpAny (model prog w) A (assign tg env v) (λ_ K =>
     wpAny (model prog w) A (forIn ifs true λc r=>if r=true then do let ok<-isTrue c env (eval c env);pure (ForInStep.yield ok) else pure (ForInStep.yield r)) (λok B=>
      if ok=true then GC (model prog w) A (.ListComp e0 gs sc ps) d ie ig env body (λZ=>∃m,m<n/\I m Z) B
      else ∃m,m<n/\I m B) (λ_ _=>False) K) (λ_ _=>False) D) (λ_ _=>False) y) (λ_ _=>False) s)
  (n:Nat) (h:I n s):codeAny (model prog w) A (.compLoop (.ListComp e0 gs sc ps) d ie ig env) R s:=by
 refine codeAny_loop rfl I (λn s hI=>?_) n h;show wpAny _ A ((compTurn (.ListComp e0 gs sc ps) d ie ig env).onRaise (λx=>do noteFrame x env;theTreesLotGoes x)) _ _ s;refine wpAny_noted ?_;rw[ht];unfold FJ;refine Y0 (aN (Y0 (Zi (turn n s hI) (λr y J=>?_) λ_ _ G=>G.elim)));cases r with
 | none=>exact Y4 J
 | some v=>
  refine Y0 (Zi J (λ_ D i0=>?_) λ_ _ G=>G.elim);refine Y0 (Zi i0 (λ_ K h₂=>Y0 (Zi h₂ (λok B O=>?_) λ_ _ G=>G.elim)) λ_ _ G=>G.elim);cases ok with
  | false=>exact Y4 ⟨rfl,O⟩
  | true=>exact Zi O (λfin Z zq=>by obtain⟨e,q⟩:=zq;subst e;exact⟨rfl,q⟩) λ_ _ G=>G.elim
end
structure Dx(Y:Cx)(a:yR):Prop where
 loc:a≠Y.env.locals
 fs:a ∉ Y.fs
 sz:a∈Y.ex\/Y.s₀.heap.objs.size<=a
 cell:∀x c,Y.env.cells.lookup x=some c->c≠a
 pn:Y.pn=[]
 calm:Y.calm=true
abbrev Et(y:yX)(k:Nat):Obj:= { cls:= .type "list",data:= .seq y.toArray k}
structure Grown(Y:Cx)(a:yR)(PB:PNs)(σ:St)(zs:zA)(H:Hp)(s:yS):Prop where
 inv:Ac Y PB σ H s
 no:H a=none
 len:zs.length<=sizeLine
 at':∃its k,s.heap.get? a=some (Et its k)/\Av zs its
theorem Grown.pin{s:yS}{k:Nat}(A:Dx Y a)(g:Grown Y a PB σ zs H s)(e:s.heap.get? a=some (Et its k)):Ac Y ((a,Et its k)::PB) σ H s:=
 g.inv.pins_of λp y=>by
  rcases YY.mp y with rfl | y
  .exact⟨e,g.no,A.loc,A.fs,λv z=>by
    have B:Data.seq its.toArray k=Data.cell v:=z;cases B⟩
  .exact g.inv.pin p (Z2 _ y)
theorem Ac.grown{s:yS}{k:Nat}(I:Ac Y ((a,Et its k)::PB) σ H s)(hz:zs.length<=sizeLine)(v:Av zs its):Grown Y a PB σ zs H s:=by
 have q:=I.pin (a,Et its k) (Z2 _ YR);exact⟨I.pins_of λp y=>I.pin p (Z2 _ (YQ _ y)),q.2.1,hz,its,k,q.1,v⟩
def LF:zA->Prop->Prop:=λy p=>y.length<sizeLine/\p
def Rh:zA->Prop->Prop:=λ_ p=>p
def FK(Y:Cx)(a:yR)(E:yL)(d:Nat)(body:yU->Sem PySem.Fin)(C:zA->Prop)(B:TB):Prop:=
 ∀(O:yU) (D:PNs) (G:St) (J:zA) (H:Hp) (s:yS) (N:zA->Hp->Prop) (P:yS->Prop),(∀p∈D,p.1≠a)->Grown Y a D G J H s->C J->B G J H N->(∀y Z K,Grown Y a D G y Z K->N y Z->P K)->GC (model Y.prog Y.w) Y.A E d O (.ref a) Y.env (body O) P s
theorem LG{e0 tg it:yL}{gs:List Comprehension}{o9:List yL}{sc:Scope}{ps:Pos}{d m0:Nat}{Y:Cx}{a jt:yR}{PB:PNs}{g:TG}{tt:TT}{B:TB}{C:zA->Prop}{Z:zA->Prop->Prop}{body:yU->Sem PySem.Fin}{fp:List yR}{tn:Nat->Heap->Prop}{J:It}{W:Nat->Nat->zA->Hp->Prop}{σ:St}{ys:zA}{H:Hp}{s:yS}{N:zA->Hp->Prop}{R:Result->yS->Prop}
  (A:Dx Y a) (v6:∀p∈PB,p.1≠a) (ht:∀ie,compTurn (.ListComp e0 gs sc ps) d ie (.ref a) Y.env=FJ (.ListComp e0 gs sc ps) d tg it o9 (body ie) ie (.ref a) Y.env) (hx:Y.xe=λ_ _=>False) (hg:PG Y tg g) (w8:Ce Y o9 tt) (hb:FK Y a (.ListComp e0 gs sc ps) d body C B) (hZ:∀zs p,Z zs p->C zs/\p)
  (T:CV Y.prog Y.w Y.K tg J fp jt tn) (na:∀b∈fp,b≠a) (i9:∀ {o:Obj}{H':Hp},(∀b∈fp,H' b=none)->∀b∈fp,Br Y ((a,o)::PB) H' b) (st:tn 0 s.heap) (gr:Grown Y a PB σ ys H s) (hn:∀b∈fp,H b=none) (w0:W 0 m0 ys H)
  (turn:∀j m zs H,W j m zs H->(J.stop j H/\N zs H)\/(J.go j H/\Z zs (∃N2:zA->Hp->Prop,(∀y H',N2 y H'->∃m',m'<m/\W (j+1) m' y H')/\∀x H',J.yld j H x H'->g x σ H' fun σ3 H2=>Keep σ σ3/\tt σ3 H2 λb H3=>br b (B σ3 zs H3 N2) (N2 zs H3))))
  (j5:∀zs H' s',Grown Y a PB σ zs H' s'->N zs H'->R (.ok .next) s'):codeAny (model Y.prog Y.w) Y.A (.compLoop (.ListComp e0 gs sc ps) d (.ref jt) (.ref a) Y.env) R s:=by
 refine Rg (ht _) (λn' s'=>∃(j:Nat) (zs:zA) (H':Hp),Grown Y a PB σ zs H' s'/\tn j s'.heap/\(∀b∈fp,H' b=none)/\W j n' zs H') ?_ m0 ⟨0,ys,H,gr,st,hn,w0⟩;rintro n' l6 ⟨j,zs,i4,i5,i8,i7,w5⟩;obtain⟨its',k',w6,j7⟩:=i5.at';have j8:=i5.pin A w6;rcases turn j n' zs i4 w5 with⟨stop,q⟩ | ⟨go2,hz0⟩
 .refine Ap (T.done Y rfl rfl rfl A.calm j _ l6 _ i4 _ j8 (i9 i7) i8 stop) λr o8 zq=>?_
  obtain⟨hr,u9⟩:=zq;subst hr;exact j5 zs i4 o8 (Ac.grown u9 i5.len j7) q
 .obtain⟨hC,N2,w9,j0⟩:=hZ _ _ hz0;refine Ap (T.item Y rfl rfl rfl A.calm j _ l6 _ i4 _ j8 (i9 i7) i8 go2) λr o8 zq=>?_
  obtain⟨u2,hr,u0⟩:=zq;subst hr;refine Ap u0 λ_ i0 zq=>?_
  obtain⟨x2,n9,v7,q9,x0,D,l9⟩:=zq;have j4:=v7.pinned (i9 l9) (T.obj _ _ D);have j9:=hg _ i0 _ n9 x2 u2 _ j4 q9 (j0 x2 n9 x0);rw[hx]at j9;refine Ap j9 λ_ t9 zq=>?_
  obtain⟨i6,u7,r8,l7,u6⟩:=zq;have j6:=w8 _ t9 i6 u7 _ r8 u6;rw[hx]at j6;refine Ap j6 λb2 v3 zq=>?_
  obtain⟨v8,v4,o7⟩:=zq;have pn:∀p∈PB++CW fp i0.heap,p.1≠a:=λp hp=>by
   rcases ZS.mp hp with hp | hp
   .exact v6 p hp
   .exact na p.1 (Il hp).1
  have O:∀ {σ':St}{y:zA}{H':Hp}{s':yS},Keep σ σ'->Grown Y a (PB++CW fp i0.heap) σ' y H' s'->N2 y H'->∃m,m<n'/\∃(j:Nat) (zs:zA) (H':Hp),Grown Y a PB σ zs H' s'/\tn j s'.heap/\(∀b∈fp,H' b=none)/\W j m zs H':=λ{σ' y H' s'} kp G n2=>by
   obtain⟨m',hm,w16⟩:=w9 _ _ n2;refine⟨m',hm,j+1,y,H',⟨(G.inv.pins_of λp hp=>G.inv.pin p (Z2 _ (aI _ hp))).weak (by rw[kp.len]) λi v e=>kp.get e,G.no,G.len,G.at'⟩,T.keep _ _ _ D λb hb o e=>(G.inv.pin (b,o) (Z2 _ (Z2 _ (EU hb e)))).1,λb hb=>?_,w16⟩;obtain⟨o,e,d⟩:=T.obj _ _ D b hb;exact(G.inv.pin (b,o) (Z2 _ (Z2 _ (EU hb e)))).2.1
  have j3:Grown Y a (PB++CW fp i0.heap) i6 zs v8 v3:=Ac.grown v4 i5.len j7;cases b2 with
  | false=>
   rw[Y8 YZ];exact O l7 j3 (o7.2 rfl)
  | true=>
   rw[YN rfl];exact hb _ _ _ _ _ _ _ _ pn j3 hC (o7.1 rfl) λy H' s' G n2=>O l7 G n2
def IO(G:TE):TB:=fun D B H N=>G D H λy J=>N (B++[y]) J
theorem LH{ii:yL}{d:Nat}(A:Dx Y a)(hx:Y.xe=λ_ _=>False)(he:PE Y ii te):FK Y a E d (λjt=>GB E d ii jt (.ref a) Y.env) (λzs=>zs.length<sizeLine) (IO te):=by
 intro jt PB σ zs H s N P i4 gr j3 h K;obtain⟨B,k',i5,G⟩:=gr.at';have j0:=gr.pin A i5;have O:=he _ s σ H _ j0 h;rw[hx]at O;refine Re (Ap O λJ D zq=>?_);obtain⟨y,Z,i0,i7,i8⟩:=zq;have gI:=Ac.grown i0 gr.len G;have b4:=(i0.pin (a,Et B k') (Z2 _ YR)).1;have hl:=G.length;refine aF F.slot_list_append ⟨_,b4,rfl⟩ F.entry_list_append (F.args_list_append_2 _ _) (PySem.list_append a B.toArray k' J (by rw[Z4];omega)) ⟨b4,?_⟩;have q:=PySem.IsL.update b4 (λa=>a.push J);have i6:B.toArray.push J=(B++[J]).toArray:=by simp
 rw[i6]at q;have i9:Ac Y PB σ Z { D with heap:=D.heap.update a (Obj.mapSeq λa=>a.push J),toks:=D.toks}:=
  gI.inv.turned (it:=a) (λb o hb e=>(ZY D.heap _ (Zv hb)).trans e) gI.no A.loc A.sz A.cell λp hp z=>by
   rw[A.pn,gh]at hp;exact i4 p hp z
 exact K (zs++[y]) Z _ ⟨i9,gI.no,by rw[Zb,cO];omega,B++[J],_,q,G.append (.cons i7 .nil)⟩ i8
def LJ(Z:zA->Prop->Prop)(wi:TI)(g:TG)(tt:TT)(B:TB):TB:=fun O ys H N=>wi O H λJ H1=>∃W:Nat->Nat->zA->Hp->Prop,(∃m,W 0 m ys H1)/\∀j m D H,W j m D H->
  (J.stop j H/\N D H)\/(J.go j H/\Z D (∃N2:zA->Hp->Prop,(∀G K,N2 G K->∃m',m'<m/\W (j+1) m' G K)/\∀x K,J.yld j H x K->g x O K fun y H2=>Keep O y/\tt y H2 λb H3=>br b (B y D H3 N2) (N2 D H3)))
theorem Ri{D tg it:yL}{O:List Comprehension}{i8:List yL}{sc:Scope}{K:Pos}{d:Nat}{g:TG}{B:TB}{C:zA->Prop}{Z:zA->Prop->Prop}{body:yU->Sem PySem.Fin}(A:Dx Y a)(hx:Y.xe=λ_ _=>False)(hs:∀x,foldedSetIterable it Y.env x=pure x)
  (ht:∀ie,compTurn (.ListComp D O sc K) (d+1) ie (.ref a) Y.env=FJ (.ListComp D O sc K) (d+1) tg it i8 (body ie) ie (.ref a) Y.env)
  (j8:∀ {R:Result->yS->Prop}{s:yS}{j:yU},codeAny (model Y.prog Y.w) Y.A (.compLoop (.ListComp D O sc K) (d+1) j (.ref a) Y.env) R s->wpAny (model Y.prog Y.w) Y.A (pyIter j) (λj' s'=>codeAny (model Y.prog Y.w) Y.A (.compLoop (.ListComp D O sc K) (d+1) j' (.ref a) Y.env) R s') (notedBy (model Y.prog Y.w) Y.A Y.env λx s'=>R (.error x) s') s->codeAny (model Y.prog Y.w) Y.A (.compStart (.ListComp D O sc K) (d+1) j (.ref a) Y.env) R s)
  (hi:PI Y tg it wi) (hg:PG Y tg g) (j9:Ce Y i8 tt) (y:FK Y a (.ListComp D O sc K) (d+1) body C B) (hZ:∀zs p,Z zs p->C zs/\p):FK Y a (.ListComp D O sc K) d (λjt=>IN (.ListComp D O sc K) d it jt (.ref a) Y.env) (λ_=>True) (LJ Z wi g tt B):=by
 intro n9 PB σ ys H s N P j5 gr _ h i7;obtain⟨j4,k,ee,v0⟩:=gr.at';have I0:=gr.pin A ee;have base:=hi _ s σ H _ I0 h;rw[hx]at base;refine Rf hs (Ap base λv9 s9 h9=>Ap h9 λl9 j3 j7=>?_);obtain⟨jt,fp,tn,J,o7,i9,j0,T,i4,i5,W,⟨m2,w2⟩,turn⟩:=j7;subst i9;have l7:=Ac.grown j0 gr.len v0;have i6:∀b∈fp,b≠a/\∀p∈PB,p.1≠b:=λb y=>by
  obtain⟨_,_,_,_,_,f5⟩:=i5 b y;exact⟨λz=>f5 (a,Et j4 k) (Z2 _ YR) z.symm,λp hp=>f5 p (Z2 _ (YQ _ hp))⟩
 have l6:∀ {o:Obj}{H':Hp},(∀b∈fp,H' b=none)->∀b∈fp,Br Y ((a,o)::PB) H' b:=λ{o H'} hn b y=>by
  obtain⟨_,f1,j6,f3,f4,_⟩:=i5 b y;refine⟨hn b y,f1,j6,f3,f4,λp hp e=>?_⟩;rw[A.pn,gh]at hp;rcases YY.mp hp with rfl | hp
  .exact(i6 b y).1 e.symm
  .exact(i6 b y).2 p hp e
 have i0:codeAny (model Y.prog Y.w) Y.A (.compLoop (.ListComp D O sc K) (d+1) (.ref jt) (.ref a) Y.env) (λr s₆=>r= .ok .next/\P s₆) j3:=
  LG A j5 ht hx hg j9 y hZ T (λb y=>(i6 b y).1) l6 i4 l7 (λb y=>(i5 b y).1) w2 turn λzs H' s' G n=>⟨rfl,i7 zs H' s' G n⟩
 exact j8 i0 (T.self _ 0 _ _ _ i4 i0)
theorem LK{X:Cx}{tg D e0:yL}{gs:List Comprehension}{i4:List yL}{scope:Scope}{pos j7:Pos}{wi:TI}{g:TG}{tt:TT}{Bt:TB}{Cd:zA->Prop}(Z:zA->Prop->Prop){N':List Str}{cap:List (Option Nat)}{use:Option (yU->Sem Unit)}{Q':VSP}{body:yU->yU->Env->Sem PySem.Fin}
  {ad:PNs}{s:yS}{σ:St}{H:Hp}{Q:zA->Hp->Prop}
  (hc:X.calm=true) (hi:PI X tg D wi) (B:AI X.env.scope X.N scope N' cap) (hg:∀s H ex C,PG (AO X N' scope s H ex C) tg g) (ht:∀s H ex C,Ce (AO X N' scope s H ex C) i4 tt)
  (r8:∀ie ig env,compTurn (.ListComp e0 (⟨tg,D,i4,0⟩::gs) scope pos) 0 ie ig env=FJ (.ListComp e0 (⟨tg,D,i4,0⟩::gs) scope pos) 0 tg D i4 (body ie ig env) ie ig env)
  (o9:∀s H ex C a,Dx (AO X N' scope s H ex C) a->FK (AO X N' scope s H ex C) a (.ListComp e0 (⟨tg,D,i4,0⟩::gs) scope pos) 0 (λie=>body ie (.ref a) (AO X N' scope s H ex C).env) Cd Bt) (hZ:∀zs p,Z zs p->Cd zs/\p)
  (hs:∀x,foldedSetIterable D X.env x=pure x) (I:Ac X ad σ H s)
  (h:wi σ H λJ H1=>∃W:Nat->Nat->zA->Hp->Prop,(∃m,W 0 m [] H1)/\∀i m ys H,W i m ys H->(J.stop i H/\Q ys H)\/(J.go i H/\Z ys (∃N:zA->Hp->Prop,(∀l6 H',N l6 H'->∃m',m'<m/\W (i+1) m' l6 H')/\∀x H',J.yld i H x H'->g x (AK cap σ) H' fun σ2 H2=>Keep (AK cap σ) σ2/\tt σ2 H2 λb H3=>br b (Bt σ2 ys H3 N) (N ys H3))))
  (fin:∀(ig C:yR) (H:Hp) (ys:zA) (s':yS),H ig=none->Ac X ad σ (upd H ig (.lst ys)) s'->Gz X ad C (upd H ig (.lst ys)) s'->Q ys H->compPost (model X.prog X.w) X.A X.xe use Q' (.ref ig) C (.ok .next) s'):
  wpAny (model X.prog X.w) X.A (comprehension (.ListComp e0 (⟨tg,D,i4,0⟩::gs) scope pos) scope X.env j7 (newList []) false (eval D X.env) use) Q' X.xe s:=by
 have j3:closureFor scope X.env=pure (AS X.env.cells scope.names []):=IF λy hy hf=>I.ok.has y.1 (B.free y hy hf)
 refine eX (cl:=AS X.env.cells scope.names []) rfl hs j3 B.kind B.names (Ap (hi ad s σ H _ I h) λv s1 h1=>Ap h1 λie s2 h2=>?_);obtain⟨it,fp,tn,J,H2,e,I2,T,j8,f2,W,⟨m0,w0⟩,turn⟩:=h2;subst e;refine Zn (LC ?_);dsimp only;generalize hH3:s2.heap.push { cls:= .type "list",dict:=none,data:= .seq ([]:yX).toArray}=h3;have i5:h3.objs.size=s2.heap.objs.size+1:=by rw[<-hH3];exact Zm ..
 have j5:∀b o,s2.heap.get? b=some o->h3.get? b=some o:=λb o e=>by rw[<-hH3];exact Y1 _ e
 have j4:h3.get? s2.heap.objs.size=some { cls:= .type "list",data:= .seq ([]:yX).toArray}:=by rw[<-hH3];exact YM _ rfl
 have j0:∀b∈fp,b<s2.heap.objs.size:=λb O=>let ⟨o,e,_⟩:=T.obj _ _ j8 b O;Y7 e
 have I4:=LE I2 B f2 j0 j5 (by rw[i5];exact Zx _);have j9:(pushCells (h3.push { cls:= .type "dict",data:= .dict #[]}) scope.names).get? s2.heap.objs.size=some { cls:= .type "list",data:= .seq ([]:yX).toArray}:=ax _ _ _ _ (Y1 _ j4);have l9:tn 0 (pushCells (h3.push { cls:= .type "dict",data:= .dict #[]}) scope.names):=T.keep _ _ _ j8 λb _ o e=>ax _ _ _ _ (Y1 _ (j5 b o e))
 have j6:s2.heap.objs.size≠h3.objs.size:=by rw[i5];exact YT (be _)
 have n9:s2.heap.objs.size ∉ AF X.stack:=λz=>by
  rcases YY.mp (I2.stkSub _ z) with q | q
  .exact absurd I2.lt (by rw[<-q];exact YX _)
  .exact I2.nofs (Y5 _) q
 have i9:=I4.ok;have q9:∀ {K:PNs}{H':Hp},(∀b∈fp,H' b=none)->(∀p∈K,p.1=s2.heap.objs.size)->∀b∈fp,Br (AO X N' scope s2 H2 fp h3.objs.size) K H' b:=λ{K H'} hn hp b O=>
  ⟨hn b O, (i9.exf b O).1, i9.exfs b O, .inl O, (i9.exf b O).2, λp z e => by
   have z':p∈K:=z;have:=j0 b O;rw[<-e,hp p z']at this;exact YX _ this⟩
 have i6:∀x c,(AO X N' scope s2 H2 fp h3.objs.size).env.cells.lookup x=some c->c≠s2.heap.objs.size:=λx c ec z=>by
  rcases EY scope.names (h3.objs.size+1) _ ec with q' | q'
  .rw[z,i5]at q';exact absurd q' (by omega)
  .have t9:X.env.cells.lookup x=some c:=(DT _ _ q').elim id λz=>nomatch z
   obtain⟨_,o7⟩:=I2.cell x c t9;have:=o7.lt;rw[z]at this;exact YX _ this
 have i8:∀s4:yS,s4= { s2 with heap:=pushCells (h3.push { cls:= .type "dict",data:= .dict #[]}) scope.names}->
   codeAny (model X.prog X.w) X.A (.compLoop (.ListComp e0 (⟨tg,D,i4,0⟩::gs) scope pos) 0 (.ref it) (.ref s2.heap.objs.size) (IL scope X.env h3.objs.size)) (compPost (model X.prog X.w) X.A X.xe use Q' (.ref s2.heap.objs.size) h3.objs.size) s4:=by
  rintro s4 rfl;have A0:Dx (AO X N' scope s2 H2 fp h3.objs.size) s2.heap.objs.size:=⟨j6,n9,.inr (Y5 _),i6,rfl,hc⟩;refine LG (Y:=AO X N' scope s2 H2 fp h3.objs.size) (PB:=[]) (W:=W) A0 (λp hp=>absurd hp (by simp)) (λ_=>r8 _ _ _) rfl (hg _ _ _ _) (ht _ _ _ _) (o9 _ _ _ _ _ A0) hZ T (λb O z=>absurd (j0 b O) (by rw[z];exact YX _))
   (λ{o H'} hn b O=>q9 hn (λp hp=>by rw[Z3.mp hp]) b O) l9 ⟨I4,I2.hok.fresh (Y5 _),Z1 _,[],0,j9,.nil⟩ (λb O=>(f2 b O).1) w0 turn λys H5 s6 G q=>?_
  obtain⟨o8,k,e6,v5⟩:=G.at';have l7:=G.no;have z5:=G.len;have I6:=G.inv;have i0:∀b u,H5 b=some u->b≠s2.heap.objs.size:=λb u q z=>by rw[z,l7]at q;cases q
  have un:Un (AF X.stack) fp H2 (upd H5 s2.heap.objs.size (.lst ys)) s2.heap s6.heap:=by
   have u:=I6.base;refine⟨u.keep,u.slot,λb o q n hx=>?_,u.there,λb xs q=>?_,λb o xs q=>?_,λb ps q=>?_⟩
   .rw[Ao (YT (Y7 q))];exact u.free b o q n hx
   .have z:=u.tups b xs q;rw[Ao (i0 b _ z)];exact z
   .have z:=u.frzs b o xs q;rw[Ao (i0 b _ z)];exact z
   .obtain⟨more,z⟩:=u.tbls b ps q;exact⟨more,by rw[Ao (i0 b _ z)];exact z⟩
  have hok:HOk X.prog X.w (upd H5 s2.heap.objs.size (.lst ys)) s6.heap:=λb u q=>by
   by_cases O:b=s2.heap.objs.size
   .subst O;rw[Af]at q;cases q;exact⟨z5,o8,k,v5,e6⟩
   .rw[Ao O]at q;have o6:ObjOk X.prog X.w H5 s6.heap b u:=I6.hok b u q;exact o6.stay (λ_ _ _ e=>e) (λc z=>by rw[Ao (i0 c _ z)];exact z) λc xs z=>by rw[Ao (i0 c _ z)];exact z
  have IX:Ac X ad σ (upd H5 s2.heap.objs.size (.lst ys)) s6:=I2.call' (show s6.os=s2.os from I6.os) un hok I6.bare λb O=>let f:=f2 b O;⟨f.2.2.2.1,f.2.1,f.2.2.2.2.1,f.2.2.2.2.2⟩
  have i7:s2.heap.objs.size<=h3.objs.size:=by rw[i5];exact Zx _
  refine fin _ _ H5 ys s6 l7 IX ⟨let ⟨m,hn,_⟩:=I6.loc;⟨m,hn⟩,?_,?_,YV I2.sz i7,λx c ec z=>?_,λp hp z=>?_⟩ q
  .rw[Ao (Zv j6)];exact I6.free
  .exact ZV (YO I2.lt i7)
  .obtain⟨_,q⟩:=I2.cell x c ec;have:=q.lt;rw[z]at this;exact absurd (YO this i7) (YX _)
  .have:=Y7 (I2.pin p hp).1;rw[z]at this;exact absurd (YO this i7) (YX _)
 exact codeAny_compStart_list (i8 _ rfl) (T.self _ 0 _ _ _ l9 (i8 _ rfl))
theorem LL{X:Cx}{O y K:yL}{D:List yL}{scope:Scope}{pos J:Pos}{wi:TI}{g:TG}{tt:TT}{Z:TE}{N':List Str}{cap:List (Option Nat)}{use:Option (yU->Sem Unit)}{Q':VSP}
  {ad:PNs}{s:yS}{σ:St}{H:Hp}{Q:zA->Hp->Prop}
  (hc:X.calm=true) (hi:PI X O y wi) (B:AI X.env.scope X.N scope N' cap) (hg:∀s H ex C,PG (AO X N' scope s H ex C) O g) (ht:∀s H ex C,Ce (AO X N' scope s H ex C) D tt) (he:∀s H ex C,PE (AO X N' scope s H ex C) K Z)
  (hs:∀x,foldedSetIterable y X.env x=pure x) (I:Ac X ad σ H s) (h:IM wi cap g tt Z σ H Q)
  (fin:∀(G C:yR) (H:Hp) (ys:zA) (s':yS),H G=none->Ac X ad σ (upd H G (.lst ys)) s'->Gz X ad C (upd H G (.lst ys)) s'->Q ys H->compPost (model X.prog X.w) X.A X.xe use Q' (.ref G) C (.ok .next) s'):
  wpAny (model X.prog X.w) X.A (comprehension (.ListComp K [⟨O,y,D,0⟩] scope pos) scope X.env J (newList []) false (eval y X.env) use) Q' X.xe s:=
 LK LF (body:=λie G env=>GB (.ListComp K [⟨O,y,D,0⟩] scope pos) 0 K ie G env) (Bt:=IO Z) hc hi B hg ht (λ_ _ _=>rfl) (λs H ex C a A=>LH A rfl (he s H ex C)) (λ_ _ z=>z) hs I h fin
def Rj(G:TI)(cap:List (Option Nat))(g:TG)(D:TT)(K:TE):TE:=fun J H Q=>IM G cap g D K J H λB y=>∀p,y p=none->Q (.ref p) (upd y p (.lst B))
theorem Bd{G K:yL}{y:List yL}{pos:Pos}{g:TG}(N':List Str)(cap:List (Option Nat))
  (hc:X.calm=true) (hi:PI X G iter wi) (B:AI X.env.scope X.N scope N' cap) (O:∀s H ex C,PG (AO X N' scope s H ex C) G g) (ht:∀s H ex C,Ce (AO X N' scope s H ex C) y tt) (he:∀s H ex C,PE (AO X N' scope s H ex C) K te)
  (hs:autoParam (∀x,foldedSetIterable iter X.env x=pure x) B'):PE X (.ListComp K [⟨G,iter,y,0⟩] scope pos) (Rj wi cap g tt te):=by
 intro ad s σ H Q I h;rw[eval_ListComp];refine LL (use:=none) hc hi B O ht he hs I h λJ C H ys s' Z I' L q=>?_
 obtain⟨m,hm⟩:=L.ns;refine⟨m,hm,λh' D=>⟨.ref J,_,I'.turned (t':=s'.toks) (it:=C) (λb o hb e=>D.extBut b o hb e) L.free L.loc (.inr L.sz) L.cell L.pin,rfl,q J Z⟩⟩
def Rk(i:Nat)(K:TI)(cap:List (Option Nat))(g:TG)(J:TT)(O:TE):TS:=λD y H=>IM K cap g J O y H λG B=>∀p,B p=none->D.nx (y.set i (some (.ref p))) (upd B p (.lst G))
theorem LM{y:Str}{O Z:yL}{K:List yL}{pos G J:Pos}{g:TG}(N':List Str)(cap:List (Option Nat))(hN:X.N.Nodup)(i8:X.N[i]? =some y)(hy:En X.env.scope y)
  (hc:X.calm=true) (hi:PI X O iter wi) (B:AI X.env.scope X.N scope N' cap) (hg:∀s H ex C,PG (AO X N' scope s H ex C) O g) (ht:∀s H ex C,Ce (AO X N' scope s H ex C) K tt) (he:∀s H ex C,PE (AO X N' scope s H ex C) Z te)
  (i0:autoParam (swapsWith (.ListComp Z [⟨O,iter,K,0⟩] scope pos) (some (.Name y G)) J.line X.env=pure true) L3)
  (hf:autoParam (X.fn y=true\/X.env.scope.names.lookup y=some .local) F')
  (hs:autoParam (∀x,foldedSetIterable iter X.env x=pure x) B'):PS X (.Assign [.Name y G] (.ListComp Z [⟨O,iter,K,0⟩] scope pos) J) (Rk i wi cap g tt te):=by
 intro ad s σ H D I h;rw[fQ _ _ _ _ i0];refine Y0 (aN (Y0 ?_));show wpAny _ X.A (do let _<-comprehension (.ListComp Z [⟨O,iter,K,0⟩] scope pos) scope X.env _ (newList []) false (eval iter X.env) (some (assign (.Name y G) X.env))) _ _ s;refine Y0 (Zi (LL (use:=some (assign (.Name y G) X.env)) (Q':=λ_ s'=>SP X ad D .next s') hc hi B hg ht he hs I h λig C H ys s' hn I' L q=>?_) (λ_ s' hq=>Y4 (Y4 hq)) λ_ _ e=>e);obtain⟨m,hm⟩:=L.ns;refine et (Ie I' hN i8 hy (show Aw (.ref ig) (.ref ig) from rfl) (λi7 i4 zq=>?_) hf);obtain⟨a,sb,ha⟩:=zq;have i5:C≠a:=by
  rcases ha with e | e
  .rw[e];exact L.loc
  .exact λz=>L.cell _ _ e z.symm
 refine⟨m,hm.sameBut sb i5,λh' i6=>?_⟩;exact⟨_,_,i4.turned (t':=i7.toks) (it:=C) (λb o hb e=>i6.extBut b o hb e) L.free L.loc (.inr L.sz) L.cell L.pin,q ig hn⟩
def DV(J:It)(cap:List (Option Nat))(g:TG)(tt:TT)(te:TE)(σ:St)(Q:zA->Hp->Prop)(H1:Hp):Prop:=
 ∃W:Nat->Nat->zA->Hp->Prop,(∃m,W 0 m [] H1)/\∀i m G H,W i m G H->
  (J.stop i H/\Q G H)\/
  (J.go i H /\ G.length < sizeLine /\ ∃ N : zA -> Hp -> Prop, (∀ D K, N D K -> ∃ Z, Z < m /\ W (i + 1) Z D K) /\ ∀ x K, J.yld i H x K -> g x (AK cap σ) K fun B H2 => Keep (AK cap σ) B /\ tt B H2 λb O =>
   br b (te B O λy H4=>N (G++[y]) H4) (N G O))
theorem Eu{J:It}{g:TG}(n:Nat)(B:Nat->zA->Hp->Prop)(hn:n<=100000)(h0:B 0 [] H)(hz:∀i ys H,B i ys H->ys.length<=i)
  (hs:∀i ys H,i<n->B i ys H->J.go i H/\∀x H',J.yld i H x H'->g x (AK cap σ) H' fun D H2=>Keep (AK cap σ) D/\tt D H2 λb K=>br b (te D K λy O=>B (i+1) (ys++[y]) O) (B (i+1) ys K))
  (hd:∀ys H,B n ys H->J.stop n H/\Q ys H):DV J cap g tt te σ Q H:=by
 refine⟨λi m ys H=>m=n-i/\i<=n/\B i ys H,⟨n,by simp,Z1 _,h0⟩,?_⟩;rintro i m ys H ⟨rfl,hi,p⟩
 by_cases G:i<n
 .obtain⟨a,b⟩:=hs i ys H G p;refine .inr ⟨a,?_,B (i+1),λi0 H' Z=>⟨n-(i+1),by omega,rfl,G,Z⟩,b⟩;have:=hz i ys H p;have:(100000:Nat)<sizeLine:=by decide
  omega
 .have e:i=n:=by omega
  subst e;exact .inl (hd ys H p)
theorem B1{K:Fgx}{g:TG}(B:Nat->zA->Hp->Prop)(Z:xs.length<=100000)(h0:B 0 [] H)(hz:∀i ys H,B i ys H->ys.length<=i)
  (G:∀i ys H,i<=xs.length->B i ys H->Ae K H a xs)
  (hs:∀i x ys H,xs[i]? =some x->B i ys H->g x (AK cap σ) H fun D H2=>Keep (AK cap σ) D/\tt D H2 λb J=>br b (te D J λy O=>B (i+1) (ys++[y]) O) (B (i+1) ys J))
  (hd:∀ys H,B xs.length ys H->Q ys H):DV (Er K a) cap g tt te σ Q H:=
 Eu xs.length B Z h0 hz (λi ys H hi p=>⟨⟨xs,xs[i],G i ys H (ZH hi) p,by simp[hi]⟩,λx H' zq=>by obtain⟨e,y⟩:=zq;subst e;exact hs i x ys _ (y xs (G i ys _ (ZH hi) p)) p⟩)
  λys H p=>⟨⟨xs,G _ ys H (Y5 _) p,Y5 _⟩,hd ys H p⟩
theorem Rl{K:Fgx}{g:TG}(B:Nat->zA->Hp->Prop)(Z:xs.length<=100000)(h0:B 0 [] H)(hz:∀i ys H,B i ys H->ys.length<=i)
  (G:∀i ys H,i<=xs.length->B i ys H->Al K H a xs)
  (hs:∀i x ys H,xs[i]? =some x->B i ys H->g x (AK cap σ) H fun D H2=>Keep (AK cap σ) D/\tt D H2 λb J=>br b (te D J λy O=>B (i+1) (ys++[y]) O) (B (i+1) ys J))
  (hd:∀ys H,B xs.length ys H->Q ys H):DV (ET K a) cap g tt te σ Q H:=
 Eu xs.length B Z h0 hz (λi ys H hi p=>⟨⟨xs,xs[i],G i ys H (ZH hi) p,by simp[hi]⟩,λx H' zq=>by obtain⟨e,y⟩:=zq;subst e;exact hs i x ys _ (y xs (G i ys _ (ZH hi) p)) p⟩)
  λys H p=>⟨⟨xs,G _ ys H (Y5 _) p,Y5 _⟩,hd ys H p⟩
theorem EZ{lo:Int}{n:Nat}{g:TG}(D:Nat->zA->Hp->Prop)(K:n<=100000)(h0:D 0 [] H)(hz:∀i ys H,D i ys H->ys.length<=i)
  (O:∀i ys H,i<n->D i ys H->g (.int (lo+i)) (AK cap σ) H fun B Z=>Keep (AK cap σ) B/\tt B Z λb G=>br b (te B G λy J=>D (i+1) (ys++[y]) J) (D (i+1) ys G))
  (hd:∀ys H,D n ys H->Q ys H):DV (Db lo n) cap g tt te σ Q H:=
 Eu n D K h0 hz (λi ys H hi p=>⟨hi,λx H' zq=>by obtain⟨e,y⟩:=zq;subst e y;exact O i ys _ hi p⟩) λys H p=>⟨Y5 _,hd ys H p⟩
end
section
open AutoSeq1 (wpAny_loadPart')
section
variable{prog:yP}{w:yN}{A:yO}{E:yY}{s:yS}
theorem Rm{it t:yR}{i:Nat}{items:Array yU}{x:yU}{Q:VSP}(y:s.heap.IsTupleIter it t i)(J:s.heap.IsTuple t items)(Z:items[i]? =some x)
  (O:∀h',h'.IsTupleIter it t (i+1)->Heap.SameBut it s.heap h'->Q x { s with heap:=h'}):wpAny (model prog w) A (Builtin.SmallTypes.nextOf (.ref it)) Q E s:=by
 obtain⟨o,B,K,hd⟩:=id y;obtain⟨ol,G,_,nl,D⟩:=J;unfold Builtin.SmallTypes.nextOf;refine Y0 (Zo (name:=Str.ofString "__next__") y.typeIs aP (Zq aP y.typeIs dM ?_ (dE _)));show wpAny _ _ (field (.ref it) 0>>=_) _ _ s;refine Y0 (ZC B hd (x:= .ref t) rfl ?_);show wpAny _ _ (if (Value.ref t==Value.none)=true then _ else _) _ _ s;rw[Y8 (show ¬((Value.ref t==Value.none)=true) from YZ)];show wpAny _ _ (field (.ref it) 1>>=_) _ _ s;refine Y0 (ZC B hd (x:= .int i 0) rfl ?_);show wpAny _ _ (seqItems? (.ref t) >>=_) _ _ s;refine Y0 (ZN G D ?_);simp only[cF,Z];refine Y0 (cu B hd (by simp) (Y4 ⟨x,rfl,Y4 (O _ ?_ (ZE ..))⟩));exact⟨_,Zl _ B (Obj.isFreed_of_fields (Obj.data_mapFields hd _)),(Obj.cls_mapFields ..).trans K,by rw[Obj.data_mapFields hd];simp[rawInt]⟩
theorem Rn{it t:yR}{i:Nat}{items:Array yU}{Q:VSP}(J:A.handled=none)(y:s.heap.IsTupleIter it t i)(K:s.heap.IsTuple t items)(Z:items[i]? =none)
  (O:∀h' e,Heap.ExtBut it s.heap h'->(∃o,h'.get? e=some o/\o.cls= .type "StopIteration")->E (.ref e) { s with heap:=h'}):wpAny (model prog w) A (Builtin.SmallTypes.nextOf (.ref it)) Q E s:=by
 obtain⟨o,D,hc,hd⟩:=id y;obtain⟨ol,G,_,nl,B⟩:=K;unfold Builtin.SmallTypes.nextOf;refine Y0 (Zo (name:=Str.ofString "__next__") y.typeIs aP (Zq aP y.typeIs dM ?_ (dE _)));show wpAny _ _ (field (.ref it) 0>>=_) _ _ s;refine Y0 (ZC D hd (x:= .ref t) rfl ?_);show wpAny _ _ (if (Value.ref t==Value.none)=true then _ else _) _ _ s;rw[Y8 (show ¬((Value.ref t==Value.none)=true) from YZ)];show wpAny _ _ (field (.ref it) 1>>=_) _ _ s;refine Y0 (ZC D hd (x:= .int i 0) rfl ?_);show wpAny _ _ (seqItems? (.ref t) >>=_) _ _ s;refine Y0 (ZN G B ?_);simp only[cF,Z];refine Y0 (aE (Y0 (cu D hd (by simp) ?_)));show wpAny _ _ (newExc (.type "StopIteration") [] >>=_) _ _ _;refine Y0 ?_;simp only[newExc,newTuple];refine Y0 (Zn ?_ (by size_fits));refine Y0 (m:=firstArgMember _ _) (bC (a:=Value.none) (by first | rfl | (simp only[firstArgMember];rfl)) ?_);refine Zn ?_ (by size_fits);simp only[raiseNew];refine Y0 (wpAny_handled ?_);first | rw[show A.in1.handled=none from J] | rw[J]
 refine Y0 (Y4 (wpAny_throw ?_));exact O _ _ (((ZE ..).extBut.push _).push _) ⟨_,YM _ rfl,rfl⟩
end
structure AY(P:yP)(w:yN)(K:Fgx) where
 Sq:Hp->yR->zA->Prop
 It:Heap->yR->yR->Nat->Prop
 Is:Heap->yR->Array yU->Prop
 obj:yR->Obj
 get:∀ {X:Cx}{ad:PNs}{σ:St}{H:Hp}{s:yS}{a:yR}{xs:zA},X.K=K->Ac X ad σ H s->Sq H a xs->∃its:yX,Av xs its/\Is s.heap a its.toArray/\xs.length<=sizeLine
 inj:∀ {X:Cx}{ad:PNs}{σ:St}{H:Hp}{s:yS}{a:yR}{xs ys:zA},X.K=K->Ac X ad σ H s->Sq H a xs->Sq H a ys->xs=ys
 draws:∀(A:yO),A.handled=none->∀(it l:yR),l≠it->∀items:Array yU,Draws P w A it [it,l] items.size (λi v=>items[i]? =some v) (λi h=>It h it l i/\Is h l items)
 ito:∀ {h:Heap}{it l:yR}{i:Nat},It h it l i->∃o,h.get? it=some o/\∀v,o.data≠ .cell v
 itk:∀ {h h':Heap}{it l:yR}{i:Nat},It h it l i->(∀o,h.get? it=some o->h'.get? it=some o)->It h' it l i
 isk:∀ {h h':Heap}{l:yR}{items:Array yU},Is h l items->(∀o,h.get? l=some o->h'.get? l=some o)->Is h' l items
 iso:∀ {h:Heap}{l:yR}{items:Array yU},Is h l items->∃o,h.get? l=some o
 ok:Prop
 itn:ok->∀(h:Heap) (l:yR),It (h.push (obj l)) h.objs.size l 0
def Cy(P:yP)(w:yN)(K:Fgx):AY P w K where
 Sq:=λH a D=>Al K H a D
 It:=λh it l i=>h.IsListIter it l i
 Is:=λh l y=>h.IsList l y
 obj:=λl=> { cls:= .type "list_iterator",data:= .fields #[.ref l,.int 0 0]}
 get:=λ{X ad σ H s a D} hK I q=>by subst hK;obtain⟨B,r,p,z⟩:=I.list q;exact⟨B,r,p.isList,z⟩
 inj:=λ{X ad σ H s a D ys} hK I q q'=>by subst hK;exact I.list_inj q q'
 draws:=λA J it l G y=>Draws.list J it l G y
 ito:=λ{h it l i} ⟨o,e,c,d⟩=>⟨o,e,λv z=>by rw[d]at z;cases z⟩
 itk:=λ{h h' it l i} x k=>x.at k
 isk:=λ{h h' l y} x k=>x.at k
 iso:=λ{h l y} ⟨o,e,_⟩=>⟨o,e⟩
 ok:=True
 itn:=λ_ h l=>⟨_,YM _ rfl,rfl,rfl⟩
def B2(P:yP)(w:yN)(K:Fgx):AY P w K where
  Sq:=λH a O=>Ae K H a O
  It:=λh it l i=>h.IsTupleIter it l i
  Is:=λh l y=>h.IsTuple l y
  obj:=λl=> { cls:= .type "tuple_iterator",data:= .fields #[.ref l,.int 0 0]}
  get:=λ{X ad σ H s a O} hK I q=>by subst hK;obtain⟨G,r,p,z⟩:=I.tuple q;exact⟨G,r,p,z⟩
  inj:=λ{X ad σ H s a O ys} hK I q q'=>by subst hK;exact I.tuple_inj q q'
  draws:=λA hh it l Z y=>
    { live:=λ_ _ st=>let ⟨o,ho,_⟩:=st.1;⟨o,ho⟩
      frame:=λ_ _ _ st hk=>⟨let ⟨o,e,r⟩:=st.1;⟨o,hk it (by simp) o e,r⟩,let ⟨o,e,r⟩:=st.2;⟨o,hk l (by simp) o e,r⟩⟩
      item:=λi s Q E hi st hQ=>Rm st.1 st.2 (x:=y[i]) (by simp[hi]) λJ D B=>hQ _ J s.toks (by simp[hi]) ⟨D,st.2.extBut B.extBut Z⟩ B
      done:=λs Q E st hE=>Rn hh st.1 st.2 (by simp) hE}
  ito:=λ{h it l i} ⟨o,e,c,d⟩=>⟨o,e,λv z=>by rw[d]at z;cases z⟩
  itk:=λ{h J it l i} ⟨o,e,r⟩ k=>⟨o,k o e,r⟩
  isk:=λ{h J l y} ⟨o,e,r⟩ k=>⟨o,k o e,r⟩
  iso:=λ{h l y} ⟨o,e,_⟩=>⟨o,e⟩
  ok:=True
  itn:=λ_ h l=>⟨_,YM _ rfl,rfl,rfl⟩
end
section
variable{X:Cx}{ad:List (yR × Obj)}{σ:St}{H:Hp}{s:yS}{wr:List yR}{h':Heap}{p pos':Pos}{a:yL}{ta:TA}
open AutoSeq1 (wpAny_loadPart')
theorem Ac.yielded{tk:Nat}{T:yR}{vs:zA}{us:yX}(I:Ac X ad σ H s)(G:∀b∈wr,Br X ad H b)
  (k:∀b o,b ∉ wr->s.heap.get? b=some o->h'.get? b=some o) (O:s.heap.objs.size<=T) (ht:IsTup h' T us.toArray) (rv:Av vs us) (hz:vs.length<=sizeLine):
  Ac X ad σ (upd H T (.tup vs)) { s with heap:=h',toks:=tk}:=by
 have J:H T=none:=I.hok.fresh O;have B:∀b u,H b=some u->b≠T:=λb u e=>Bg e J
 have Z:∀b u,H b=some u->b ∉ wr:=λb u e z=>by have:=(G b z).1;rw[e]at this;cases this
 refine I.step (g':=s.gens) (d':=s.drawn) (ch:=wr) (λb D=>let f:=G b D;⟨f.2.2.2.1,f.2.1,f.2.2.2.2.1,f.2.2.2.2.2⟩) (λb o _ _ y e _=>k b o y e) (λb o _ _ y e _=>⟨o.slots,k b o y e⟩)
  (λb o y e n=>?_) (λb o y e=>⟨o,k b o y e⟩) (λb K e=>by rw[Ao (B b _ e)];exact e) (λb o K e=>by rw[Ao (B b _ e)];exact e) (λb ps e=>⟨#[],by rw[Ao (B b _ e),e];simp⟩) (λm hm=>?_) (λb u e=>?_) I.bare
 .rw[Ao (YT (YO (Y7 e) O))];exact n
 .obtain⟨o,es,ep,ho,r⟩:=hm;exact⟨o,es,ep,k _ o (λz=>(G _ z).2.1 rfl) ho,r⟩
 .by_cases D:b=T
  .subst D;rw[Af]at e;cases e;exact⟨hz,us,rv,ht⟩
  .rw [Ao D] at e;refine(I.hok b u e).stay (λc v y q=>k c v ?_ q) (λc q=>by rw [Ao (B c _ q)];exact q) λc K q=>by rw [Ao (B c _ q)];exact q
   rcases y with z | z
   .rw[z];exact Z b u e
   .exact Z c _ z
theorem Ac.ended{tk:Nat}(I:Ac X ad σ H s)(B:∀b∈wr,Br X ad H b)
  (k:∀b o,b ∉ wr->s.heap.get? b=some o->h'.get? b=some o):Ac X ad σ H { s with heap:=h',toks:=tk}:=by
 have G:∀b u,H b=some u->b ∉ wr:=λb u e z=>by have:=(B b z).1;rw[e]at this;cases this
 refine I.step (g':=s.gens) (d':=s.drawn) (ch:=wr) (λb Z=>let f:=B b Z;⟨f.2.2.2.1,f.2.1,f.2.2.2.2.1,f.2.2.2.2.2⟩) (λb o _ _ y e _=>k b o y e) (λb o _ _ y e _=>⟨o.slots,k b o y e⟩)
  (λb o y e n=>n) (λb o y e=>⟨o,k b o y e⟩) (λb D e=>e) (λb o D e=>e) (λb ps e=>⟨#[],by rw[e];simp⟩) (λm O=>?_) (λb u e=>?_) I.bare
 .obtain⟨o,es,J,K,r⟩:=O;exact⟨o,es,J,k _ o (λz=>(B _ z).2.1 rfl) K,r⟩
 .refine(I.hok b u e).stay (λc v y q=>k c v ?_ q) (λc q=>q) λc D q=>q
  rcases y with z | z
  .rw[z];exact G b u e
  .exact G c _ z
def E1{P:yP}{w:yN}{K:Fgx}(S:AY P w K)(a:yR):It:=
 ⟨λi H=>∃y x,S.Sq H a y/\y[i]? =some x,λi H v B=>∃T,v= .ref T/\H T=none/\∀y x,S.Sq H a y->y[i]? =some x->B=upd H T (.tup [.int i,x]),λi H=>∃y,S.Sq H a y/\y.length=i⟩
theorem LN{P:yP}{w:yN}{K:Fgx}(S:AY P w K){es:List yL}{k:Nat}{pos:Pos}(a e it:yR)(J:e≠it)(i0:a≠it)(i6:a≠e):
  CV P w K (.Tuple es k pos) (E1 S a) [e,it] e (λi h=>(∃D,IsEnum h e it (i:Nat) D)/\S.It h it a i) where
 mem:=by simp
 obj:=λi h st b B=>by
  obtain⟨⟨D,he⟩,hi⟩:=st;rcases YY.mp B with z | B
  .rw[z];exact⟨_,he,λv z=>by
    have z':Data.fields _=Data.cell v:=z;cases z'⟩
  .rw[Z3.mp B];exact S.ito hi
 keep:=λi h h' st kk=>by
  obtain⟨⟨D,he⟩,hi⟩:=st;exact⟨⟨D,kk e (by simp) _ he⟩,S.itk hi λo q=>kk it (by simp) o q⟩
 item:=by
  intro X hP hw hK hc i ad s σ H E I hf st hg;subst hP hw;obtain⟨xs,x,hq,hx⟩:=hg;obtain⟨G,rv,is,hz⟩:=S.get hK I hq;obtain⟨u,hu,ru⟩:=rv.get hx;have W:=WalksT.enumerateD (S.draws X.A.in1 (I.ok.hd hc) it a i0 G.toArray) e J (by simp[J,Zv i6]) (by simp);have hi:i<G.toArray.size:=by have:=(Y9.mp hu).1;simpa using this
  refine W.item i s _ _ hi ⟨st.1,st.2,is⟩ λT i9 h1 tk hp hT i7 O hk=>⟨_,rfl,?_⟩
  obtain⟨t,y,hy,hv⟩:=hp;have ey:y=u:=by
   have q:G.toArray[i]? =some u:=by simpa using hu
   rw[q]at hy;exact(Z7 hy).symm
  subst ey hv;refine W.go es k pos i T { s with heap:=h1,toks:=tk} _ _ O λh2 i4 i5=>?_
  have kk:∀b o,b ∉ [e,it]->s.heap.get? b=some o->h2.get? b=some o:=λb o B q=>i5 b o B (hk b o B q)
  have Z:IsTup h2 T [Value.int i t,y].toArray:=by
   obtain⟨o,q,r⟩:=i7;exact⟨o,i5 T o (W.apart i T h1 O) q,r⟩
  exact⟨.ref T,upd H T (.tup [.int i,x]),I.yielded (tk:=tk) (λb B=>hf b B) kk hT Z (.cons ⟨t,rfl⟩ (.cons ru .nil)) (by show 2<=sizeLine;decide),rfl,
   ⟨T, rfl, I.hok.fresh hT, λys z hy hz => by
    rw[S.inj hK I hy hq,hx]at hz;cases hz;rfl⟩,⟨i4.1,i4.2.1⟩,λb B=>by
    have i8:b<s.heap.objs.size:=by
     rcases YY.mp B with z | B
     .rw[z];obtain⟨D,q⟩:=st.1;exact Y7 q
     .rw[Z3.mp B];obtain⟨o,q,_⟩:=S.ito st.2;exact Y7 q
    rw[Ao (YT (YO i8 hT))];exact(hf b B).1⟩
 done:=by
  intro X hP hw hK hc i ad s σ H E I hf st hg;subst hP hw;obtain⟨xs,hq,hx⟩:=hg;obtain⟨G,rv,is,hz⟩:=S.get hK I hq;have W:=WalksT.enumerateD (S.draws X.A.in1 (I.ok.hd hc) it a i0 G.toArray) e J (by simp[J,Zv i6]) (by simp);have hn:G.toArray.size=i:=by have:=rv.length;simp;omega
  rw[hn]at W;exact W.done s _ _ ⟨st.1,st.2,is⟩ λh' tk hk=>⟨rfl,I.ended (tk:=tk) (λb B=>hf b B) hk⟩
 self:=λ_ _ _ _ _ st h=>by
  obtain⟨⟨D,he⟩,_⟩:=st;exact eE he h
theorem Ro(l:yR)(items:Array yU):
    Meets (Builtin.«enumerate.__new__» ⟨[.type "enumerate",.ref l],[]⟩) (λ_ R s=>s.heap.IsTuple l items/\R (.ok (.ret (.ref (s.heap.push { cls:= .type "tuple_iterator",data:= .fields #[.ref l,.int 0 0]}).objs.size)))
        { s with heap:=(s.heap.push { cls:= .type "tuple_iterator",data:= .fields #[.ref l,.int 0 0]}).push { cls:= .type "enumerate",data:= .fields #[.none,.bool false,.ref s.heap.objs.size,rawInt 0,.none,.none]}}):=
  .of_wp λprog w A R s h=>by
    obtain⟨hp,g,d,tk,os⟩:=s;obtain⟨J,h⟩:=h;obtain⟨⟨c0,Z,O,sl⟩,D,B,n,y⟩:=id J;replace B:c0= .type "tuple" :=B;replace y:O= .seq items n:=y;subst B y;have K:=sub_enumerate;have G:Heap.IsTuple (Shared.heap ⟨hp,g,d,tk,os⟩) l items:=⟨_,D,rfl,n,rfl⟩
    wp_walk using Zu D
    refine wpAny_stack_any λst=>Y4 ?_;split
    . rename_i c _ _ _ _ _;cases(c==Value.type "enumerate")
      . wp_walk using Zu D,ZR G;exact⟨_,rfl,h⟩
      . wp_walk using Zu D,ZR G;exact⟨_,rfl,h⟩
    . wp_walk using Zu D,ZR G;exact⟨_,rfl,h⟩
theorem Rp{prog:yP}{w:yN}{A:yO}{E:VSP}{s:yS}{l:yR}{items:Array yU}{Q:VSP}(D:s.heap.IsTuple l items)
  (h:∀h',IsEnum h' (s.heap.objs.size+1) s.heap.objs.size 0 .none->h'.IsTupleIter s.heap.objs.size l 0->h'.objs.size=s.heap.objs.size+2->(∀b o,s.heap.get? b=some o->h'.get? b=some o)->Q (.ref (s.heap.objs.size+1)) { s with heap:=h'}):
  wpAny (model prog w) A (call (.type "enumerate") [.ref l]) Q E s:=by
 refine callType_new F.called_enumerate (by decide) (F.typeCall_enumerate_1 _) (F.newCall_enumerate_1 _) (λobj=>F.args_object_init_2 obj _) F.entry_enumerate_new (Ro l items) ⟨D,?_⟩;have y:(s.heap.push { cls:= .type "tuple_iterator",data:= .fields #[.ref l,.int 0 0]}).objs.size=s.heap.objs.size+1:=Zm ..;show _/\_;rw[y];have B:IsEnum ((s.heap.push { cls:= .type "tuple_iterator",data:= .fields #[.ref l,.int 0 0]}).push { cls:= .type "enumerate",data:= .fields #[.none,.bool false,.ref s.heap.objs.size,rawInt 0,.none,.none]}) (s.heap.objs.size+1) s.heap.objs.size 0 .none:=by
  have:=YM (s.heap.push { cls:= .type "tuple_iterator",data:= .fields #[.ref l,.int 0 0]}) (o:= { cls:= .type "enumerate",data:= .fields #[.none,.bool false,.ref s.heap.objs.size,rawInt 0,.none,.none]}) rfl;rw[y]at this;exact this
 exact⟨⟨_,B,rfl⟩,h _ B ⟨_,Y1 _ (YM _ rfl),rfl,rfl⟩ (by rw[Zm,y]) λb o x=>Y1 _ (Y1 _ x)⟩
def GD{P:yP}{w:yN}{K:Fgx}(S:AY P w K)(B:TA):TI:=fun D H R=>B D H λJ y=>∃a,J=[.ref a]/\(∃G,S.Sq y a G)/\R (E1 S a) y
theorem Rq{es:List yL}{k:Nat}{pos:Pos}(hg:Gl X "enumerate")(hm:X.mg "enumerate"=none)(ha:PA X [a] ta)(hs:autoParam (starEach [a] X.env=[(false,eval a X.env)]) L3):
  PI X (.Tuple es k pos') (.Call (.Name "enumerate" p) [a] [] pos) (GD (Cy X.prog X.w X.K) ta):=by
 intro ad s J H R I h;refine cY (B8 I hg hm boot_enumerate (Zc (Ap (ha pos ad s J H _ I h) λus s1 zq=>?_) hs rfl));obtain⟨vs,O,y,r1,q1⟩:=zq;obtain⟨l,e,⟨xs,hq⟩,q⟩:=q1;subst e;obtain⟨u,rfl,ru⟩:=r1.one;cases ru;obtain⟨i0,rv,is,hz⟩:=y.list hq;obtain⟨ol,G⟩:=(Cy X.prog X.w X.K).iso is.isList;have B:=Y7 G;refine call_enumerate_list is.isList λh' Z hI i4 hk=>?_
 have I2:Ac X ad J O { s1 with heap:=h'}:=y.kept (t':=s1.toks) hk;refine eE Z ⟨s1.heap.objs.size+1,[s1.heap.objs.size+1,s1.heap.objs.size],_,_,O,rfl,I2,LN (Cy X.prog X.w X.K) l (s1.heap.objs.size+1) s1.heap.objs.size (eY _) (YT B) (YT (ZM B)),⟨⟨_,Z⟩,hI⟩,λb D=>?_,q⟩;rcases YY.mp D with z | D
 .rw[z];exact y.fpOk (Zx _) (y.hok.fresh (Zx _))
 .rw[Z3.mp D];exact y.fpOk (Y5 _) (y.hok.fresh (Y5 _))
theorem Rr{es:List yL}{k:Nat}{pos:Pos}(hg:Gl X "enumerate")(hm:X.mg "enumerate"=none)(ha:PA X [a] ta)(hs:autoParam (starEach [a] X.env=[(false,eval a X.env)]) L3):
  PI X (.Tuple es k pos') (.Call (.Name "enumerate" p) [a] [] pos) (GD (B2 X.prog X.w X.K) ta):=by
 intro ad s Z H R I h;refine cY (B8 I hg hm boot_enumerate (Zc (Ap (ha pos ad s Z H _ I h) λus s1 zq=>?_) hs rfl));obtain⟨vs,H1,y,r1,q1⟩:=zq;obtain⟨l,e,⟨xs,hq⟩,q⟩:=q1;subst e;obtain⟨u,rfl,ru⟩:=r1.one;cases ru;obtain⟨J,rv,is,hz⟩:=y.tuple hq;obtain⟨ol,G,D⟩:=id is;have B:=Y7 G;refine Rp (items:=J.toArray) ⟨ol,G,D⟩ λh' hE hI i0 hk=>?_
 have I2:Ac X ad Z H1 { s1 with heap:=h'}:=y.kept (t':=s1.toks) hk;refine eE hE ⟨s1.heap.objs.size+1,[s1.heap.objs.size+1,s1.heap.objs.size],_,_,H1,rfl,I2,LN (B2 X.prog X.w X.K) l (s1.heap.objs.size+1) s1.heap.objs.size (eY _) (YT B) (YT (ZM B)),⟨⟨_,hE⟩,hI⟩,λb O=>?_,q⟩;rcases YY.mp O with z | O
 .rw[z];exact y.fpOk (Zx _) (y.hok.fresh (Zx _))
 .rw[Z3.mp O];exact y.fpOk (Y5 _) (y.hok.fresh (Y5 _))
end
section
variable{a1 a2:yU}{X:Cx}{p pos':Pos}{e1 e2:yL}{ta:TA}
open AutoSeq1 (wpAny_loadPart')
def Dr{P:yP}{w:yN}{K:Fgx}(S:AY P w K)(it l:yR)(xs:Array yU)(k:Nat)(h:Heap):Prop:=S.It h it l k/\S.Is h l xs
theorem Dr.ext{P:yP}{w:yN}{K:Fgx}{S:AY P w K}{it l b:yR}{xs:Array yU}{k:Nat}{h h':Heap}(d:Dr S it l xs k h)(e:Heap.ExtBut b h h')(B:it≠b)(y:l≠b):Dr S it l xs k h':=
 ⟨S.itk d.1 λo q=>e it o B q,S.isk d.2 λo q=>e l o y q⟩
abbrev Cm(h:Heap)(z TI TO:yR)(f0 y:yU):Prop:=h.get? z=some { cls:= .type "zip",dict:=none,data:= .fields #[f0,y,.bool false,.ref TI,.ref TO],slots:= #[]}
def E2(h:Heap)(z TI TO:yR):Prop:=∃f0 y,Cm h z TI TO f0 y/\(f0= .none\/ ∃T:yR,f0=rawInt T)/\(y= .bool false\/y= .bool true)
theorem Rs{M:Model}{A:yO}{E:VSP}{s:yS}{a:yR}{Q:Option Obj->yS->Prop}(h:Q (s.heap.get? a) s):wpAny M A (loadIfAlive a) Q E s:=λ_ _ _=>h
theorem IP{P:yP}{w:yN}{A:yO}{E:VSP}{s:yS}{z TI TO:yR}{Q:Bool->yS->Prop}(hz:E2 s.heap z TI TO)(h1:∀f0 B,Cm s.heap z TI TO f0 B->Q true s)
  (Z:∀y,∀T:yR,∀B O,Cm s.heap z TI TO (rawInt T) B->Cm y z TI TO (rawInt T) O->(O= .bool false\/O= .bool true)->Heap.SameBut z s.heap y->Q false { s with heap:=y}):
  wpAny (model P w) A (Builtin.SmallTypes.ownedTupleIsFree (.ref z)) Q E s:=by
 obtain⟨f0,B,hz,G,J⟩:=hz;unfold Builtin.SmallTypes.ownedTupleIsFree;refine Y0 (ZC hz rfl (x:=f0) rfl ?_);rcases G with rfl | ⟨T,rfl⟩
 .exact Y4 (h1 _ _ hz)
 .show wpAny _ _ (loadIfAlive T>>=_) _ _ _;refine Y0 (Rs ?_);cases i0:s.heap.get? T with
  | none=>
   simp only[Option.isNone_none,aY];exact Y4 (h1 _ _ hz)
  | some oT=>
   simp only[Option.isNone_some,ag,bB];show wpAny _ _ (field (.ref z) 1>>=_) _ _ _;refine Y0 (ZC hz rfl (x:=B) rfl ?_);rcases J with rfl | rfl
   .exact Y0 (ah hz (by simp) λy D K=>Y4 (Z y T _ _ hz D (.inr rfl) K))
   .exact Y0 (Y4 (Y4 (Z s.heap T _ _ hz hz (.inr rfl) ⟨rfl,λ_ _=>rfl⟩)))
structure Ew(z TI TO i1 i2 l1 l2:yR):Prop where
 TI_z:TI≠z
 TO_z:TO≠z
 TO_TI:TO≠TI
 i1_z:i1≠z
 i1_TI:i1≠TI
 i1_TO:i1≠TO
 i2_z:i2≠z
 i2_TI:i2≠TI
 i2_TO:i2≠TO
 i2_i1:i2≠i1
 l1_z:l1≠z
 l1_TO:l1≠TO
 l1_i1:l1≠i1
 l1_i2:l1≠i2
 l2_z:l2≠z
 l2_TO:l2≠TO
 l2_i1:l2≠i1
 l2_i2:l2≠i2
abbrev Be(h:Heap)(T:yR)(B y:yU):Prop:=h.get? T=some { cls:= .type "tuple",data:= .seq #[B,y]}
theorem IQ{prog:yP}{w:yN}{A:yO}{E:VSP}{s:yS}{T:yR}{x:yU}{k:Nat}{Q:Unit->yS->Prop}(B:Be s.heap T a1 a2)
  (h:∀h',h'.get? T=some { cls:= .type "tuple",data:= .seq ((#[a1,a2]:Array yU).setIfInBounds k x)}->Heap.SameBut T s.heap h'->Q () { s with heap:=h'}):
  wpAny (model prog w) A (updateSeq T (·.setIfInBounds k x)) Q E s:=by
 have got:=Zl (Obj.mapSeq λy=>y.setIfInBounds k x) B rfl;exact ac B rfl (h _ (got.trans (by simp[Obj.mapSeq])) (ZE ..))
section
variable{P:yP}{w:yN}{K:Fgx}{A:yO}{E:yY}{s:yS}(S1 S2:AY P w K)
theorem IR{z TI TO i1 i2 l1 l2:yR}{k:Nat}{J K:Array yU}{x1 x2 a1 a2:yU}{Q:VSP}(hh:A.handled=none)(D:Ew z TI TO i1 i2 l1 l2)(hz:E2 s.heap z TI TO)(hTI:Be s.heap TI (.ref i1) (.ref i2))(v3:Be s.heap TO a1 a2)(h1:Dr S1 i1 l1 J k s.heap)(h2:Dr S2 i2 l2 K k s.heap)(o8:J[k]? =some x1)(u7:K[k]? =some x2)
  (hQ : ∀ h' tk, E2 h' z TI TO -> (IsZip h' z TI TO (rawInt s.heap.objs.size) \/ IsZip s.heap z TI TO .none -> IsZip h' z TI TO (rawInt s.heap.objs.size)) -> (∃ a1 a2, Be h' TO a1 a2) -> Dr S1 i1 l1 J (k + 1) h' -> Dr S2 i2 l2 K (k + 1) h' -> Be h' s.heap.objs.size x1 x2 -> h'.objs.size = s.heap.objs.size + 1 ->
   (∀c o,c≠z->c≠TO->c≠i1->c≠i2->s.heap.get? c=some o->h'.get? c=some o)->Q (.ref s.heap.objs.size) { s with heap:=h',toks:=tk}):
  wpAny (model P w) A (Builtin.«zip.__next__» ⟨[.ref z],[]⟩) (λfin s'=>∃v,fin= .done (.ret v)/\Q v s') E s:=by
 have v8:k<J.size:=(dX.mp o8).1;have w6:k<K.size:=(dX.mp u7).1;have D1:=fun(A:yO) (hh:A.handled=none)=>S1.draws A hh i1 l1 D.l1_i1 J
 have D2:=fun(A:yO) (hh:A.handled=none)=>S2.draws A hh i2 l2 D.l2_i2 K
 obtain⟨f0',f1',v6,hf0',hf1'⟩:=id hz;show wpAny _ _ (field (.ref z) 2>>=_) _ _ _;refine Y0 (ZC v6 rfl (x:= .bool false) rfl ?_);show wpAny _ _ (field (.ref z) 3>>=_) _ _ _;refine Y0 (ZC v6 rfl (x:= .ref TI) rfl ?_);refine Y0 (ZN hTI rfl ?_);show wpAny _ _ (Builtin.SmallTypes.ownedTupleIsFree (.ref z) >>=_) _ _ _;refine Y0 (IP hz (λf0 f1 hz=>?_) λg0 T f1 f2 x0 i6 hf2 B=>?_)
 .simp only[aY];refine Y0 (aE ?_);refine Y0 (ZC hz rfl (x:= .ref TO) rfl ?_);refine Y0 (ah hz (by simp) λg0 i6 B=>?_);replace i6:Cm g0 z TI TO .ellipsis f1:=i6;refine Y0 ?_;simp only[zipIdx_cons,zipIdx_nil,bL,cW];refine Y0 (Y0 (cL ?_));show wpAny _ _ (Builtin.SmallTypes.nextOf (.ref i1) >>=_) _ _ _;refine Y0 ((D1 _ hh).item k _ _ _ v8 (Dr.ext h1 B.extBut D.i1_z D.l1_z) λy1 g1 tk1 j5 o7 y=>Y4 ?_);have u0:y1=x1:=by rw[o8]at j5;exact(Z7 j5).symm
  subst u0;have i5:Dr S1 i1 l1 J (k+1) g1:=o7;have w8:Be g1 TO a1 a2:=(y.extBut _ _ D.i1_TO.symm (B.extBut _ _ D.TO_z v3));refine Y0 (ZN w8 rfl ?_);refine Y0 (IQ w8 λZ q9 G=>?_)
  replace q9:Be Z TO y1 a2:=q9
  refine Y0 (bE (Y4 ?_));refine Y0 (Y0 (cL ?_));show wpAny _ _ (Builtin.SmallTypes.nextOf (.ref i2) >>=_) _ _ _;refine Y0 ((D2 _ hh).item k _ _ _ w6 (Dr.ext (Dr.ext (Dr.ext h2 B.extBut D.i2_z D.l2_z) y.extBut D.i2_i1 D.l2_i1) G.extBut D.i2_TO D.l2_TO) λy2 g3 v4 j3 u6 i9=>Y4 ?_);have u9:y2=x2:=by rw[u7]at j3;exact(Z7 j3).symm
  subst u9;have j0:Dr S2 i2 l2 K (k+1) g3:=u6;have v7:Be g3 TO y1 a2:=(i9.extBut _ _ D.i2_TO.symm q9);refine Y0 (ZN v7 rfl ?_);refine Y0 (IQ v7 λO j7 i4=>?_)
  replace j7:Be O TO y1 y2:=j7
  refine Y0 (bE (Y4 (Y4 ?_)));refine Y0 (ZN j7 rfl ?_);refine Y0 (fR ?_);have i0:O.objs.size=s.heap.objs.size:=by rw[i4.1,i9.1,G.1,y.1,B.1]
  have j8:Cm O z TI TO .ellipsis f1:=(i4.extBut _ _ D.TO_z.symm (i9.extBut _ _ D.i2_z.symm (G.extBut _ _ D.TO_z.symm (y.extBut _ _ D.i1_z.symm i6))));have hk5:∀c o,c≠z->c≠TO->c≠i1->c≠i2->s.heap.get? c=some o->O.get? c=some o:=λc o cz i8 i7 j4 e=>(i4.extBut _ _ i8 (i9.extBut _ _ j4 (G.extBut _ _ i8 (y.extBut _ _ i7 (B.extBut _ _ cz e)))))
  have l7:Dr S1 i1 l1 J (k+1) O:=(Dr.ext (Dr.ext (Dr.ext i5 G.extBut D.i1_TO D.l1_TO) i9.extBut D.i2_i1.symm D.l1_i2) i4.extBut D.i1_TO D.l1_TO);have j9:Dr S2 i2 l2 K (k+1) O:=(Dr.ext j0 i4.extBut D.i2_TO D.l2_TO);have n9:z<O.objs.size:=Y7 j8;show wpAny _ _ (Builtin.SmallTypes.ownedTupleHandOut (.ref z) (.ref O.objs.size) >>=_) _ _ _;refine Y0 ?_;unfold Builtin.SmallTypes.ownedTupleHandOut;have w9:Cm (O.push { cls:= .type "tuple",data:= .seq #[y1,y2]}) z TI TO .ellipsis f1:=Y1 _ j8;refine Y0 (ah w9 (by simp) λga o9 t9=>?_);replace o9:Cm ga z TI TO (rawInt O.objs.size) f1:=o9;refine ah o9 (by simp) λgb j6 r8=>?_;replace j6:Cm gb z TI TO (rawInt O.objs.size) (.bool false):=j6
  have up:∀c o,c≠z->O.get? c=some o->gb.get? c=some o:=λc o c1 e=>r8.extBut _ _ c1 (t9.extBut _ _ c1 (Y1 _ e))
  have l6:Be gb O.objs.size y1 y2:=r8.extBut _ _ (ZV n9) (t9.extBut _ _ (ZV n9) (YM _ rfl));have l9:gb.objs.size=O.objs.size+1:=by rw[r8.1,t9.1,Zm]
  have w5:Heap.ExtBut z O gb:=λc o c1 e=>up c o c1 e
  rw[i0]at j6 l6 l9;refine Y4 ⟨_,rfl,?_⟩;show Q (.ref O.objs.size) _;rw[i0];exact hQ gb _ ⟨_,_,j6,.inr ⟨_,rfl⟩,.inl rfl⟩ (λ_=>j6) ⟨_,_,up _ _ D.TO_z j7⟩ (l7.ext w5 D.i1_z D.l1_z) (j9.ext w5 D.i2_z D.l2_z) l6 l9 λc o cz i8 i7 j4 e=>up c o cz (hk5 c o cz i8 i7 j4 e)
 .simp only[ag,bB];refine Y0 ?_;simp only[<-dN,bL,cW];refine Y0 (Y0 (Zp ?_));show wpAny _ _ (Builtin.SmallTypes.nextOf (.ref i1) >>=_) _ _ _;refine Y0 ((D1 _ hh).item k _ _ _ v8 (Dr.ext h1 B.extBut D.i1_z D.l1_z) λy1 g1 tk1 j5 o7 y=>Y4 ?_);have u0:y1=x1:=by rw[o8]at j5;exact(Z7 j5).symm
  subst u0;have i5:Dr S1 i1 l1 J (k+1) g1:=o7;refine Y4 ?_;refine Y0 (Y0 (Zp ?_));show wpAny _ _ (Builtin.SmallTypes.nextOf (.ref i2) >>=_) _ _ _;refine Y0 ((D2 _ hh).item k _ _ _ w6 (Dr.ext (Dr.ext h2 B.extBut D.i2_z D.l2_z) y.extBut D.i2_i1 D.l2_i1) λy2 Z v4 j3 u6 G=>Y4 ?_);have u9:y2=x2:=by rw[u7]at j3;exact(Z7 j3).symm
  subst u9;have j0:Dr S2 i2 l2 K (k+1) Z:=u6;refine Y4 (Y4 ?_);show wpAny _ _ (newTuple [y1,y2] >>=_) _ _ _;refine Y0 (fR ?_);have i0:Z.objs.size=s.heap.objs.size:=by rw[G.1,y.1,B.1]
  have j8:Cm Z z TI TO (rawInt T) f2:=(G.extBut _ _ D.i2_z.symm (y.extBut _ _ D.i1_z.symm i6));have hT5:Be Z TO a1 a2:=(G.extBut _ _ D.i2_TO.symm (y.extBut _ _ D.i1_TO.symm (B.extBut _ _ D.TO_z v3)));have l7:Dr S1 i1 l1 J (k+1) Z:=(Dr.ext i5 G.extBut D.i2_i1.symm D.l1_i2);have j9:Dr S2 i2 l2 K (k+1) Z:=j0;have l6:Be (Z.push { cls:= .type "tuple",data:= .seq #[y1,y2]}) Z.objs.size y1 y2:=YM _ rfl;have hb8:(Z.push { cls:= .type "tuple",data:= .seq #[y1,y2]}).objs.size=Z.objs.size+1:=Zm ..;refine Y4 ⟨_,rfl,?_⟩;show Q (.ref Z.objs.size) _;have res:=hQ (Z.push { cls:= .type "tuple",data:= .seq #[y1,y2]}) v4 ⟨_,_,Y1 _ j8,.inr ⟨_,rfl⟩,hf2⟩ (λc=>c.elim id λc=>absurd (Zz (λo:Obj=>o.data) (Z7 (x0.symm.trans c))) (by simp[rawInt])) ⟨_,_,Y1 _ hT5⟩ ⟨S1.itk l7.1 λo q=>Y1 _ q,S1.isk l7.2 λo q=>Y1 _ q⟩ ⟨S2.itk j9.1 λo q=>Y1 _ q,S2.isk j9.2 λo q=>Y1 _ q⟩ (by rw[<-i0];exact l6) (by rw[hb8,i0]) λc o cz i8 i7 j4 e=>Y1 _ (G.extBut _ _ j4 (y.extBut _ _ i7 (B.extBut _ _ cz e)))
  rw[i0];exact res
theorem LO{z TI TO i1 i2 l1 l2:yR}{k:Nat}{i4 i8:Array yU}{Q:Fin->yS->Prop}(hh:A.handled=none)(D:Ew z TI TO i1 i2 l1 l2)(hz:E2 s.heap z TI TO)(j4:Be s.heap TI (.ref i1) (.ref i2))(l7:Be s.heap TO a1 a2)(h1:Dr S1 i1 l1 i4 k s.heap)(h2:Dr S2 i2 l2 i8 k s.heap)(Z:k=i4.size)
  (hE:∀h' tk e,(∀c o,c≠z->c≠TO->c≠i1->c≠i2->s.heap.get? c=some o->h'.get? c=some o)->(∃o,h'.get? e=some o/\o.cls= .type "StopIteration")->E (.ref e) { s with heap:=h',toks:=tk}):
  wpAny (model P w) A (Builtin.«zip.__next__» ⟨[.ref z],[]⟩) Q E s:=by
 have D1:=fun(A:yO) (hh:A.handled=none)=>S1.draws A hh i1 l1 D.l1_i1 i4
 have D2:=fun(A:yO) (hh:A.handled=none)=>S2.draws A hh i2 l2 D.l2_i2 i8
 obtain⟨l6,j7,i6,j6,j5⟩:=id hz;show wpAny _ _ (field (.ref z) 2>>=_) _ _ _;refine Y0 (ZC i6 rfl (x:= .bool false) rfl ?_);show wpAny _ _ (field (.ref z) 3>>=_) _ _ _;refine Y0 (ZC i6 rfl (x:= .ref TI) rfl ?_);refine Y0 (ZN j4 rfl ?_);show wpAny _ _ (Builtin.SmallTypes.ownedTupleIsFree (.ref z) >>=_) _ _ _;refine Y0 (IP hz (λf0 f1 hz=>?_) λg0 T f1 f2 j9 J j8 y=>?_)
 .simp only[aY];refine Y0 (aE ?_);refine Y0 (ZC hz rfl (x:= .ref TO) rfl ?_);refine Y0 (ah hz (by simp) λg0 J y=>?_);replace J:Cm g0 z TI TO .ellipsis f1:=J;refine Y0 ?_;simp only[zipIdx_cons,zipIdx_nil,bL,cW];refine Y0 (Y0 (cL ?_));show wpAny _ _ (Builtin.SmallTypes.nextOf (.ref i1) >>=_) _ _ _;have G:=(Dr.ext h1 y.extBut D.i1_z D.l1_z);subst Z;refine Y0 ((D1 _ hh).done _ _ _ G λge e O he=>?_);obtain⟨oe,B,K⟩:=he;have i5:Cm ge z TI TO .ellipsis f1:=O _ _ D.i1_z.symm J;have i9:e≠z:=λx=>by subst x;rw[i5]at B;cases B;simp at K
  exact ah i5 (by simp) λgf _ i7=>hE gf _ e (λc o cz j3 i0 j0 x=>i7.extBut _ _ cz (O _ _ i0 (y.extBut _ _ cz x))) ⟨oe,i7.extBut _ _ i9 B,K⟩
 .simp only[ag,bB];refine Y0 ?_;simp only[<-dN,bL,cW];refine Y0 (Y0 (Zp ?_));show wpAny _ _ (Builtin.SmallTypes.nextOf (.ref i1) >>=_) _ _ _;have G:=(Dr.ext h1 y.extBut D.i1_z D.l1_z);subst Z;refine Y0 ((D1 _ hh).done _ _ _ G λge e O he=>?_);obtain⟨oe,B,K⟩:=he;exact hE ge _ e (λc o cz j3 i0 j0 x=>O _ _ i0 (y.extBut _ _ cz x)) ⟨oe,B,K⟩
end
abbrev GE{P:yP}{w:yN}{K:Fgx}(S1 S2:AY P w K)(h:Heap)(l1 l2:yR):Heap:=(h).push (S1.obj l1)
abbrev GF{P:yP}{w:yN}{K:Fgx}(S1 S2:AY P w K)(h:Heap)(l1 l2:yR):Heap:=(GE S1 S2 h l1 l2).push (S2.obj l2)
noncomputable abbrev GG{P:yP}{w:yN}{K:Fgx}(S1 S2:AY P w K)(h:Heap)(l1 l2:yR):Heap:=(GF S1 S2 h l1 l2).push { cls:= .type "tuple",data:= .seq #[.ref h.objs.size,.ref (GE S1 S2 h l1 l2).objs.size]}
noncomputable abbrev GH{P:yP}{w:yN}{K:Fgx}(S1 S2:AY P w K)(h:Heap)(l1 l2:yR):Heap:=(GG S1 S2 h l1 l2).push { cls:= .type "tuple",data:= .seq #[.none,.none]}
noncomputable abbrev Dy{P:yP}{w:yN}{K:Fgx}(S1 S2:AY P w K)(h:Heap)(l1 l2:yR):Heap:=(GH S1 S2 h l1 l2).push { cls:= .type "zip",data:= .fields #[.none,.bool false,.bool false,.ref (GF S1 S2 h l1 l2).objs.size,.ref (GG S1 S2 h l1 l2).objs.size]}
def DW{P:yP}{w:yN}{K:Fgx}(S1 S2:AY P w K):Prop:=S1.ok/\S2.ok/\∀(B y:yR) (D G:Array yU),
  Meets (Builtin.«zip.__new__» ⟨[.type "zip",.ref B,.ref y],[]⟩) (λ_ R s=>S1.Is s.heap B D/\S2.Is s.heap y G/\R (.ok (.ret (.ref (GH S1 S2 s.heap B y).objs.size))) { s with heap:=Dy S1 S2 s.heap B y})
theorem IS{X:Cx}{p pos:Pos}{e1 B:yL}{ta:TA}(S1 S2:AY X.prog X.w X.K)(zn:DW S1 S2)(hg:Gl X "zip")(hm:X.mg "zip"=none)(ha:PA X [e1,B] ta)(j4:starEach [e1,B] X.env=[(false,eval e1 X.env),(false,eval B X.env)])(i0:starEach [B] X.env=[(false,eval B X.env)])
  {ad:PNs}{s:yS}{σ:St}{H:Hp}{R:yR->yR->Hp->Prop} (I:Ac X ad σ H s) (h:ta σ H λvs y=>∃l1 l2,vs=[.ref l1,.ref l2]/\(∃xs,S1.Sq y l1 xs)/\(∃xs,S2.Sq y l2 xs)/\R l1 l2 y):
  wpAny (model X.prog X.w) X.A (eval (.Call (.Name "zip" p) [e1,B] [] pos) X.env) (λv s1=>∃l1 l2 y,∃m:Nat,v= .ref (m+4)/\R l1 l2 y/\Ac X ad σ y s1/\IsZip s1.heap (m+4) (m+2) (m+3) .none/\Be s1.heap (m+2) (.ref m) (.ref (m+1))/\Be s1.heap (m+3) .none .none/\S1.It s1.heap m l1 0/\S2.It s1.heap (m+1) l2 0/\l1<m/\l2<m/\(∀b,m<=b->Br X ad y b)/\s1.heap.objs.size=m+5) X.xe s:=by
 refine cY (B8 I hg hm boot_zip (Zc (Ap (ha pos ad s σ H _ I h) λus s1 zq=>?_) (by rw[j4,i0]) (by rw[i0];rfl)));obtain⟨vs,y,O,J,q1⟩:=zq;obtain⟨l1,l2,e,⟨j8,i8⟩,⟨j9,j5⟩,q⟩:=q1;subst e;rcases J with _ | ⟨i6,J⟩
 rcases J with _ | ⟨j3,J⟩
 cases J;cases i6;cases j3;obtain⟨Z,j7,G,_⟩:=S1.get rfl O i8;obtain⟨D,j6,i4,_⟩:=S2.get rfl O j5;obtain⟨o1,i7⟩:=S1.iso G;have i9:=Y7 i7;obtain⟨o2,i5⟩:=S2.iso i4;have j0:=Y7 i5;refine callType_new F.called_zip (by decide) (F.typeCall_zip_2 _ _) (F.newCall_zip_2 _ _) (λobj=>F.args_object_init_3 obj _ _) F.entry_zip_new (zn.2.2 l1 l2 Z.toArray D.toArray) ⟨G,i4,?_⟩;have z1:(GE S1 S2 s1.heap l1 l2).objs.size=s1.heap.objs.size+1:=by rw[Zm]
 have z2:(GF S1 S2 s1.heap l1 l2).objs.size=s1.heap.objs.size+2:=by rw[Zm,z1]
 have z3:(GG S1 S2 s1.heap l1 l2).objs.size=s1.heap.objs.size+3:=by rw[Zm,z2]
 have z4:(GH S1 S2 s1.heap l1 l2).objs.size=s1.heap.objs.size+4:=by rw[Zm,z3]
 have zz:(Dy S1 S2 s1.heap l1 l2).objs.size=s1.heap.objs.size+5:=by rw[Zm,z4]
 have gz:(Dy S1 S2 s1.heap l1 l2).get? (GH S1 S2 s1.heap l1 l2).objs.size=some _:=YM _ rfl;have gO:(Dy S1 S2 s1.heap l1 l2).get? (GG S1 S2 s1.heap l1 l2).objs.size=some _:=Y1 _ (YM _ rfl);have gI:(Dy S1 S2 s1.heap l1 l2).get? (GF S1 S2 s1.heap l1 l2).objs.size=some _:=Y1 _ (Y1 _ (YM _ rfl));have g1:S1.It (Dy S1 S2 s1.heap l1 l2) s1.heap.objs.size l1 0:=S1.itk (S1.itn zn.1 _ _) λo q=>Y1 _ (Y1 _ (Y1 _ (Y1 _ (q))))
 have g2:S2.It (Dy S1 S2 s1.heap l1 l2) (GE S1 S2 s1.heap l1 l2).objs.size l2 0:=S2.itk (S2.itn zn.2.1 _ _) λo q=>Y1 _ (Y1 _ (Y1 _ (q)))
 have kk:∀b o,s1.heap.get? b=some o->(Dy S1 S2 s1.heap l1 l2).get? b=some o:=λb o x=>Y1 _ (Y1 _ (Y1 _ (Y1 _ (Y1 _ (x)))))
 show _/\_;rw[z2,z3,z4]at gz;rw[z3]at gO;rw[z1,z2]at gI;rw[z4];rw[z1]at g2;generalize Dy S1 S2 s1.heap l1 l2=hE at g1 g2 gI gO gz kk zz ⊢;have I2:Ac X ad σ y { s1 with heap:=hE}:=O.kept (t':=s1.toks) kk;exact⟨⟨_,gz,rfl⟩,l1,l2,y,s1.heap.objs.size,rfl,q,I2,gz,gI,gO,g1,g2,i9,j0,λb hb=>O.fpOk hb (O.hok.fresh hb),zz⟩
set_option maxHeartbeats 8000000 in
theorem Rt(P:yP)(w:yN)(K:Fgx):DW (B2 P w K) (Cy P w K):=⟨trivial,trivial,λZ l2 y O=>
 .of_wp λprog w A R s h=>by
  obtain⟨hp,g,d,tk,os⟩:=s;obtain⟨D,J,h⟩:=h;have i0:=sub_zip;have B:Heap.IsTuple (Shared.heap ⟨hp,g,d,tk,os⟩) Z y:=D;have G:Heap.IsList (Shared.heap ⟨(hp).push { cls:= .type "tuple_iterator",data:= .fields #[.ref Z,.int 0 0]},g,d,tk,os⟩) l2 O:=Heap.IsList.push (J) _
  wp_walk using ZR B,aC G
  exact⟨_,rfl,h⟩⟩
set_option maxHeartbeats 8000000 in
theorem LP(P:yP)(w:yN)(K:Fgx):DW (B2 P w K) (B2 P w K):=⟨trivial,trivial,λZ l2 y O=>
 .of_wp λprog w A R s h=>by
  obtain⟨hp,g,d,tk,os⟩:=s;obtain⟨D,J,h⟩:=h;have i0:=sub_zip;have B:Heap.IsTuple (Shared.heap ⟨hp,g,d,tk,os⟩) Z y:=D;have G:Heap.IsTuple (Shared.heap ⟨(hp).push { cls:= .type "tuple_iterator",data:= .fields #[.ref Z,.int 0 0]},g,d,tk,os⟩) l2 O:=Heap.IsTuple.push (J) _
  wp_walk using ZR B,ZR G
  exact⟨_,rfl,h⟩⟩
set_option maxHeartbeats 8000000 in
theorem Ru(P:yP)(w:yN)(K:Fgx):DW (Cy P w K) (Cy P w K):=⟨trivial,trivial,λZ l2 y O=>
 .of_wp λprog w A R s h=>by
  obtain⟨hp,g,d,tk,os⟩:=s;obtain⟨D,J,h⟩:=h;have i0:=sub_zip;have B:Heap.IsList (Shared.heap ⟨hp,g,d,tk,os⟩) Z y:=D;have G:Heap.IsList (Shared.heap ⟨(hp).push { cls:= .type "list_iterator",data:= .fields #[.ref Z,.int 0 0]},g,d,tk,os⟩) l2 O:=Heap.IsList.push (J) _
  wp_walk using aC B,aC G
  exact⟨_,rfl,h⟩⟩
theorem IT{n l1 l2:Nat}(D:l1<n)(B:l2<n):Ew (n+4) (n+2) (n+3) n (n+1) l1 l2:=by constructor<;>intro z<;>(have y:=z;revert y;intro y;try (change (_:Nat)=_ at y);omega)
def Ex{P:yP}{w:yN}{K:Fgx}(S1 S2:AY P w K)(a b:yR):It:=
 ⟨λi H=>∃B D x y,S1.Sq H a B/\S2.Sq H b D/\B[i]? =some x/\D[i]? =some y,λi H v G=>∃T,v= .ref T/\H T=none/\∀B D x y,S1.Sq H a B->S2.Sq H b D->B[i]? =some x->D[i]? =some y->G=upd H T (.tup [x,y]),
  λi H=>∃B D,S1.Sq H a B/\S2.Sq H b D/\B.length=i⟩
theorem Rv{P:yP}{w:yN}{K:Fgx}(S1 S2:AY P w K){es:List yL}{k:Nat}{pos:Pos}(z TI TO i1 i2 l1 l2:yR)(D:Ew z TI TO i1 i2 l1 l2):
  CV P w K (.Tuple es k pos) (Ex S1 S2 l1 l2) [z,TI,TO,i1,i2] z (λi h=>IsZip h z TI TO .none/\Be h TI (.ref i1) (.ref i2)/\(∃a b,Be h TO a b)/\S1.It h i1 l1 i/\S2.It h i2 l2 i) where
 mem:=by simp
 obj:=λi h st b B=>by
  obtain⟨O,G,⟨a,b',J⟩,h1,h2⟩:=st;simp only[YY,Zt,ai]at B;rcases B with e | e | e | e | e<;>rw[e]
  .exact⟨_,O,λv q=>by have q':Data.fields _=Data.cell v:=q;cases q'⟩
  .exact⟨_,G,λv q=>by have q':Data.seq _ _=Data.cell v:=q;cases q'⟩
  .exact⟨_,J,λv q=>by have q':Data.seq _ _=Data.cell v:=q;cases q'⟩
  .exact S1.ito h1
  .exact S2.ito h2
 keep:=λi h h' st kk=>by
  obtain⟨O,G,⟨a,b',J⟩,h1,h2⟩:=st;exact⟨kk z (by simp) _ O,kk TI (by simp) _ G,⟨a,b',kk TO (by simp) _ J⟩,S1.itk h1 λo q=>kk i1 (by simp) o q,S2.itk h2 λo q=>kk i2 (by simp) o q⟩
 item:=by
  intro X hP hw hK hc i ad s σ H E I hf st hg;subst hP hw;obtain⟨xs,ys,x,y,Z,i0,hx,hy⟩:=hg;obtain⟨i8,i6,i7,j9⟩:=S1.get hK I Z;obtain⟨j0,i5,i4,j6⟩:=S2.get hK I i0;obtain⟨u1,j8,j4⟩:=i6.get hx;obtain⟨u2,j5,j3⟩:=i5.get hy;obtain⟨O,G,⟨a,b',J⟩,h1,h2⟩:=st;have hh:=I.ok.hd hc;have hT:s.TypeIs (.ref z) "zip" :=⟨_,O,rfl⟩;unfold pyNext;refine Y0 (aQ (Zo (name:=Str.ofString "__next__") hT ZI (Zq ZI hT bf
   (IR S1 S2 (x1:=u1) (x2:=u2) hh D ⟨_,_,O,.inl rfl,.inl rfl⟩ G J ⟨h1,i7⟩ ⟨h2,i4⟩ (by simpa using j8) (by simpa using j5) λh' tk _ az a2 a3 a4 a5 a6 hk=>Y4 ⟨_,rfl,?_⟩) (aU _))))
  obtain⟨b1,b2,a2⟩:=a2;refine eL (az (.inr O)) λi9 z1 sb=>?_
  have kk:∀b o,b ∉ [z,TI,TO,i1,i2]->s.heap.get? b=some o->i9.get? b=some o:=λb o B q=>sb.extBut b o (λe=>B (by simp[e])) (hk b o (λe=>B (by simp[e])) (λe=>B (by simp[e])) (λe=>B (by simp[e])) (λe=>B (by simp[e])) q)
  have zl:z<s.heap.objs.size:=Y7 O;have ht:IsTup i9 s.heap.objs.size [u1,u2].toArray:=⟨_,sb.extBut _ _ (ZV zl) a5,rfl,_,rfl⟩;exact⟨.ref s.heap.objs.size,upd H s.heap.objs.size (.tup [x,y]),I.yielded (tk:=tk) (λb B=>hf b B) kk (Y5 _) ht (.cons j4 (.cons j3 .nil)) (by show 2<=sizeLine;decide),rfl,
   ⟨_, rfl, I.hok.fresh (Y5 _), λn9 l9 x' y' e1 e2 e3 e4 => by
    rw[S1.inj hK I e1 Z,hx]at e3;rw[S2.inj hK I e2 i0,hy]at e4;cases e3;cases e4;rfl⟩,
   ⟨z1, sb.extBut _ _ D.TI_z (hk _ _ D.TI_z D.TO_TI.symm D.i1_TI.symm D.i2_TI.symm G), ⟨_, _, sb.extBut _ _ D.TO_z a2⟩, S1.itk a3.1 λo q => sb.extBut _ o D.i1_z q, S2.itk a4.1 λo q => sb.extBut _ o D.i2_z q⟩, λb B => by
    have l6:b<s.heap.objs.size:=by
     simp only[YY,Zt,ai]at B;rcases B with e | e | e | e | e<;>rw[e]
     .exact zl
     .exact Y7 G
     .exact Y7 J
     .obtain⟨o,q,_⟩:=S1.ito h1;exact Y7 q
     .obtain⟨o,q,_⟩:=S2.ito h2;exact Y7 q
    rw[Ao (YT l6)];exact(hf b B).1⟩
 done:=by
  intro X hP hw hK hc i ad s σ H E I hf st hg;subst hP hw;obtain⟨xs,ys,Z,i0,l7⟩:=hg;obtain⟨i8,i6,i7,j9⟩:=S1.get hK I Z;obtain⟨j0,i5,i4,j6⟩:=S2.get hK I i0;obtain⟨O,G,⟨a,b',J⟩,h1,h2⟩:=st;have hh:=I.ok.hd hc;have hT:s.TypeIs (.ref z) "zip" :=⟨_,O,rfl⟩;have e1:=i6.length;have e2:=i5.length;unfold pyNext;refine Y0 (aQ (Zo (name:=Str.ofString "__next__") hT ZI (Zq ZI hT bf
   (LO S1 S2 hh D ⟨_,_,O,.inl rfl,.inl rfl⟩ G J ⟨h1,i7⟩ ⟨h2,i4⟩ (by simp;omega) λh' tk e hk he=>?_) (aU _))))
  obtain⟨o,ho,j7⟩:=he;refine Y0 (bM (T:="StopIteration") (b:=true) ⟨o,ho,j7⟩ dF ?_);exact Y4 ⟨rfl,I.ended (wr:=[z,TI,TO,i1,i2]) (tk:=tk) (λb B=>hf b B) λb o B q=>hk b o (λe=>B (by simp[e])) (λe=>B (by simp[e])) (λe=>B (by simp[e])) (λe=>B (by simp[e])) q⟩
 self:=λ_ _ _ _ _ st h=>bN st.1 h
def E3{P:yP}{w:yN}{K:Fgx}(S1 S2:AY P w K)(B:TA):TI:=fun G H R=>B G H λO y=>∃a b,O=[.ref a,.ref b]/\(∃J,S1.Sq y a J)/\(∃D,S2.Sq y b D)/\R (Ex S1 S2 a b) y
theorem IU{es:List yL}{k:Nat}{pos:Pos}(S1 S2:AY X.prog X.w X.K)(zn:DW S1 S2)(hg:Gl X "zip")(hm:X.mg "zip"=none)(ha:PA X [e1,e2] ta)
  (hs:starEach [e1,e2] X.env=[(false,eval e1 X.env),(false,eval e2 X.env)]) (y:starEach [e2] X.env=[(false,eval e2 X.env)]):PI X (.Tuple es k pos') (.Call (.Name "zip" p) [e1,e2] [] pos) (E3 S1 S2 ta):=by
 intro ad s σ H R I h;refine Ap (IS S1 S2 zn (R:=λD G B=>R (Ex S1 S2 D G) B) hg hm ha hs y I h) λv s1 zq=>?_
 obtain⟨D,G,B,m,e,q,I1,J,gI,gO,g1,Z,h1,h2,fr,_⟩:=zq;subst e;exact bN J ⟨_,[m+4,m+2,m+3,m,m+1],_,_,B,rfl,I1,Rv S1 S2 _ _ _ _ _ D G (IT h1 h2),⟨J,gI,⟨_,_,gO⟩,g1,Z⟩,λb O=>fr b (by
  simp only[YY,Zt,ai]at O;rcases O with e | e | e | e | e<;>rw[e]<;>first | exact Y5 _ | exact bO _ _),q⟩
theorem Rw{es:List yL}{k:Nat}{pos:Pos}(D:Gl X "zip")(G:X.mg "zip"=none)(J:PA X [e1,e2] ta)
  (B:autoParam (starEach [e1,e2] X.env=[(false,eval e1 X.env),(false,eval e2 X.env)]) L3) (y:autoParam (starEach [e2] X.env=[(false,eval e2 X.env)]) L3):PI X (.Tuple es k pos') (.Call (.Name "zip" p) [e1,e2] [] pos) (E3 (B2 X.prog X.w X.K) (Cy X.prog X.w X.K) ta):=IU _ _ (Rt _ _ _) D G J B y
theorem Rx{es:List yL}{k:Nat}{pos:Pos}(D:Gl X "zip")(G:X.mg "zip"=none)(J:PA X [e1,e2] ta)
  (B:autoParam (starEach [e1,e2] X.env=[(false,eval e1 X.env),(false,eval e2 X.env)]) L3) (y:autoParam (starEach [e2] X.env=[(false,eval e2 X.env)]) L3):PI X (.Tuple es k pos') (.Call (.Name "zip" p) [e1,e2] [] pos) (E3 (B2 X.prog X.w X.K) (B2 X.prog X.w X.K) ta):=IU _ _ (LP _ _ _) D G J B y
end
section
variable{C:Int -> Int -> Prop}{y:V}{H:Hp}{Q:VK}{op op':CmpOp}{r':R2}
section
variable{X:Cx}{e a b c:yL}{es rest:List yL}{ta tb tc te:TE}{pos p:Pos}{tA tB':TT}{t u:TS}
theorem PE.weak{t t':TE}(h:PE X e t)(w:∀σ H Q,t' σ H Q->t σ H Q):PE X e t':=λad s σ H Q I q=>h ad s σ H Q I (w σ H Q q)
def BS(i:Nat):TE:=fun y H Q=>match y[i]? with | some (some v)=>Q v H | _=>False
theorem cv(i:Nat){x:Str}{pos:Pos}(B:autoParam (X.N[i]? =some x) L3)(D:autoParam (FB X.env.scope x) O')(hd:autoParam ((x==("__debug__" :Str))=false) W0)
  (y:autoParam ((x==("__classdict__" :Str))=false) W0):PE X (.Name x pos) (BS i):=(Ig B D hd y).weak fun G H Q q=>by
 unfold BS at q;split at q
 .exact⟨_,by assumption,q⟩
 .exact q.elim
end
section
variable{X:Cx}{e a b c:yL}{es rest:List yL}{ta tb tc te:TE}{pos p:Pos}
theorem Ry{g:Int->Int->V}{x:V}(h:match x,y with | .int i,.int j=>C i j/\Q (g i j) H | _,_=>False):rI C g x y H Q:=by
 split at h
 .exact⟨_,_,rfl,rfl,h⟩
 .exact h.elim
theorem Rz{g:Int->Int->V}{x:V}(h:match x,y with | .int i,.int j=>Q (g i j) H | _,_=>False):Dc g x y H Q:=by
 split at h
 .exact⟨_,_,rfl,rfl,h⟩
 .exact h.elim
def mI(C:Int->Int->Prop)(g:Int->Int->V):R2:=λx y H Q=>match x,y with | .int i,.int j=>C i j/\Q (g i j) H | _,_=>False
def mI0(g:Int->Int->V):R2:=λx y H Q=>match x,y with | .int i,.int j=>Q (g i j) H | _,_=>False
theorem OpR.mI{f:yU->yU->Sem yU}{g:Int->Int->V}(h:OpR X f (rI C g)):OpR X f (L2.mI C g):=λad s D H x y v u Q I B G q=>h ad s D H x y v u Q I B G (Ry q)
theorem OpR.mI0{f:yU->yU->Sem yU}{g:Int->Int->V}(h:OpR X f (Dc g)):OpR X f (L2.mI0 g):=λad s D H x y v u Q I B G q=>h ad s D H x y v u Q I B G (Rz q)
theorem A1:OpR X (binaryOp .Add) (mI0 λi j=> .int (i+j)):=op_add.mI0
theorem Cf:OpR X (binaryOp .Sub) (mI0 λi j=> .int (i-j)):=op_sub.mI0
theorem DX:OpR X (binaryOp .Mult) (mI CMul λi j=> .int (i * j)):=op_mul.mI
theorem GI:OpR X (binaryOp .FloorDiv) (mI Iq λi j=> .int (i / j)):=op_fdiv.mI
theorem E4:OpR X (binaryOp .Mod) (mI (λ_ j=>0<j) λi j=> .int (i % j)):=op_mod.mI
theorem GJ:OpR X (binaryOp .Pow) (mI K2 λi j=> .int (i ^ j.toNat)):=op_pow.mI
theorem Dz:OpR X (compareOp .Lt) (mI0 λi j=> .bl (decide (i<j))):=op_lt.mI0
theorem DA:OpR X (compareOp .LtE) (mI0 λi j=> .bl (decide (i<=j))):=op_le.mI0
theorem LQ:OpR X (compareOp .Gt) (mI0 λi j=> .bl (decide (j<i))):=op_gt.mI0
theorem LR:OpR X (compareOp .GtE) (mI0 λi j=> .bl (decide (j<=i))):=op_ge.mI0
def mB(x:V)(Q:Bool->Prop):Prop:=match x with | .bl c=>Q c | _=>False
end
structure Mono(t:TE):Prop where
 m:∀ {σ H}{Q Q':VK},t σ H Q->(∀v H',Q v H'->Q' v H')->t σ H Q'
section
variable{X:Cx}{e a b c:yL}{es rest:List yL}{te:TE}{pos p:Pos}
def cB(t:TE):TT:=fun B H Q=>t B H λx y=>match x with | .bl c=>Q c y | _=>False
theorem BM{t:TE}(h:PE X e t)(Z:autoParam (∀y,isTrue e X.env y=(do let v<-y;standAt e.pos;holding [v] (truthy v))) B'):PT X e (cB t):=by
 intro ad s G H Q I J;refine isTrue_plain (Ap (h ad s G H _ I J) λv s1 O=>?_) (Z _);obtain⟨x,H1,K,D,B⟩:=O
 try dsimp only at B
 split at B
 .cases D;exact ZZ ⟨H1,K,B⟩
 .exact B.elim
theorem A7{op:CmpOp}{r:R2}{J G:TE}(ho:OpR X (compareOp op) r)(ha:PE X a J)(hb:PE X b G)(hm:behindInMarks op b=false):PT X (.Compare a [op] [b] pos) (cB (CL r J G)):=by
 intro ad s D H Q I h;refine wpAny_isTrue_Compare1 (Ap (ha ad s D H _ I h) λv s1 ⟨x,H1,I1,Z,q1⟩=>Ap (hb ad s1 D H1 _ I1 q1) λu s2 ⟨y,H2,O,r2,K⟩=>
  Ap (ho ad s2 D H2 x y v u _ O Z r2 K) λc s3 ⟨z,H3,I3,r3,B⟩=>?_) hm
 dsimp only at B;split at B
 .cases r3;exact ZZ ⟨H3,I3,B⟩
 .exact B.elim
def LS(r G:R2)(K O Z:TE):TE:=fun B H Q=>K B H λx J=>O B J λy H2=>r x y H2 λz D=>match z with | .bl k=>br k (Z B D λw' H4=>G y w' H4 Q) (Q (.bl false) D) | _=>False
theorem IV{r:R2}{Z J tc:TE}(ho:OpR X (compareOp op) r)(G:OpR X (compareOp op') r')(ha:PE X a Z)(hb:PE X b J)(hc:PE X c tc)
  (hm:autoParam (lastMarks [op,op'] [b,c]=false) M'):PE X (.Compare a [op,op'] [b,c] pos) (LS r r' Z J tc):=by
 intro ad s B H Q I h;refine Compare_chain (Ap (ha ad s B H _ I h) λv s1 ⟨x,H1,I1,r1,q1⟩=>chain_link (Ap (hb ad s1 B H1 _ I1 q1) λu s2 ⟨y,H2,I2,O,q2⟩=>
  Ap (ho ad s2 B H2 x y v u _ I2 r1 O q2) λd s3 ⟨z,H3,K,r3,D⟩=>?_)) hm
 dsimp only at D;split at D
 .rename_i k;cases r3;refine ZZ ?_;cases k with
  | false=>exact ite_ff ⟨.bl false,H3,K,rfl,D.2 rfl⟩
  | true=>exact ite_tt (chain_last (Ap (hc ad s3 B H3 _ K (D.1 rfl)) λw' s4 ⟨z',H4,I4,r4,q4⟩=>G ad s4 B H4 y z' u w' Q I4 O r4 q4))
 .exact D.elim
theorem RA{r:R2}{ta K tc:TE}(ho:OpR X (compareOp op) r)(J:OpR X (compareOp op') r')(ha:PE X a ta)(hb:PE X b K)(hc:PE X c tc)
  (hm:autoParam (lastMarks [op,op'] [b,c]=false) M'):PT X (.Compare a [op,op'] [b,c] pos) (cB (LS r r' ta K tc)):=by
 intro ad s B H Q I h;refine isTrue_chain (Ap (ha ad s B H _ I h) λv s1 ⟨x,H1,I1,r1,q1⟩=>test_link (Ap (hb ad s1 B H1 _ I1 q1) λu s2 ⟨y,H2,I2,Z,q2⟩=>
  Ap (ho ad s2 B H2 x y v u _ I2 r1 Z q2) λd s3 ⟨z,H3,O,r3,D⟩=>?_)) hm
 dsimp only at D;split at D
 .rename_i k;cases r3;refine ZZ ?_;cases k with
  | false=>exact ite_ff ⟨H3,O,D.2 rfl⟩
  | true=>
   refine ite_tt (test_last (Ap (hc ad s3 B H3 _ O (D.1 rfl)) λw' s4 ⟨z',H4,I4,r4,q4⟩=>Ap (J ad s4 B H4 y z' u w' _ I4 Z r4 q4) λd' s5 zq=>?_));obtain⟨z2,H5,I5,r5,G⟩:=zq
   try dsimp only at G
   split at G
   .cases r5;exact ZZ ⟨H5,I5,G⟩
   .exact G.elim
 .exact D.elim
def RB(t u:TT):TT:=fun B H Q=>t B H λc y=>br c (u B y Q) (Q false y)
def RC(t u:TT):TT:=fun B H Q=>t B H λc y=>br c (Q true y) (u B y Q)
theorem GK{J y:TT}(Z:PT X a J)(hb:PW X (.BoolOp .And (b::rest) pos) y):PW X (.BoolOp .And (a::b::rest) pos) (RB J y):=by
 intro wh ad s B H Q I h;refine isTrue_and (Ap (Z ad s B H _ I h) λc s1 O=>?_);obtain⟨G,D,K⟩:=O;cases c with
 | true=>exact hb wh ad s1 B G Q D (K.1 rfl)
 | false=>exact⟨G,D,K.2 rfl⟩
theorem FL{J y:TT}(Z:PT X a J)(hb:PW X (.BoolOp .Or (b::rest) pos) y):PW X (.BoolOp .Or (a::b::rest) pos) (RC J y):=by
 intro wh ad s B H Q I h;refine isTrue_or (Ap (Z ad s B H _ I h) λc s1 O=>?_);obtain⟨G,D,K⟩:=O;cases c with
 | true=>exact⟨G,D,K.1 rfl⟩
 | false=>exact hb wh ad s1 B G Q D (K.2 rfl)
def RD(G D:TE):TE:=fun B H Q=>G B H λx y=>match x with | .bl c=>br c (D B y Q) (Q (.bl false) y) | _=>False
def RE(B:TE):TE:=fun D H Q=>B D H λx y=>match x with | .bl c=>Q (.bl (!c)) y | _=>False
theorem Bv{J B:TE}(ha:PE X a J)(hb:PE X (.BoolOp .And (b::rest) pos) B):PE X (.BoolOp .And (a::b::rest) pos) (RD J B):=by
 intro ad s D H Q I h;refine BoolOp_and (Ap (ha ad s D H _ I h) λv s1 Z=>?_);obtain⟨x,K,G,O,y⟩:=Z
 try dsimp only at y
 split at y
 .rename_i c;cases O;refine ZZ ?_;cases c with
  | true=>exact hb ad s1 D K Q G (y.1 rfl)
  | false=>exact⟨.bl false,K,G,rfl,y.2 rfl⟩
 .exact y.elim
theorem LT{B:TE}(Z:PE X a B):PE X (.UnaryOp .Not a pos) (RE B):=by
 intro ad s J H Q I h;refine UnaryOp_ (Ap (Z ad s J H _ I h) λv s1 D=>?_);obtain⟨x,K,O,G,y⟩:=D
 try dsimp only at y
 split at y
 .rename_i c;cases G;exact not_of (ZZ ⟨.bl (!c),K,O,rfl,y⟩)
 .exact y.elim
def RF(t:TT)(G D:TE):TE:=fun y H Q=>t y H λc B=>br c (G y B Q) (D y B Q)
theorem DY{G B:TE}{K:TT}(Z:PT X c K)(ha:PE X a G)(hb:PE X b B):PE X (.IfExp c a b pos) (RF K G B):=by
 intro ad s y H Q I h;refine wpAny_IfExp (Ap (Z ad s y H _ I h) λd s1 zq=>?_);obtain⟨J,D,O⟩:=zq;cases d with
 | true=>exact ha ad s1 y J Q D (O.1 rfl)
 | false=>exact hb ad s1 y J Q D (O.2 rfl)
def RG(c:TT)(t u:TS):TS:=λD y H=>c y H λb B=>br b (t D y B) (u D y B)
theorem Bj{sa J:List Stmt}{O:TT}{t u:TS}(Z:PT X c O)(ha:PSs X sa t)(hb:PSs X J u):PS X (.If c sa J pos) (RG O t u):=by
 intro ad s y H D I h;refine wpAny_If (Ap (Z ad s y H _ I h) λd s1 zq=>?_);obtain⟨G,B,K⟩:=zq;cases d with
 | true=>exact ha ad s1 y G D B (K.1 rfl)
 | false=>exact hb ad s1 y G D B (K.2 rfl)
end
section
variable{X:Cx}{es:List yL}{t:TA}{pos:Pos}
theorem few{n:Nat}(h:Nat.ble n 64=true):n<=sizeLine:=YV (fS h) (by decide)
def RH(t:TA):TE:=fun D H Q=>t D H λB y=>match Nat.ble B.length 64 with | true=>∀p,y p=none->Q (.ref p) (upd y p (.tup B)) | false=>False
def RI(t:TA):TE:=fun D H Q=>t D H λB y=>match Nat.ble B.length 64 with | true=>∀p,y p=none->Q (.ref p) (upd y p (.lst B)) | false=>False
theorem BT{x1}(h:PA X es t):PE X (.Tuple es x1 pos) (RH t):=by
 intro ad s G H Q I O;refine wpAny_Tuple_spliced (Ap (h pos ad s G H _ I O) λK s1 Z=>?_);obtain⟨D,B,y,r,q⟩:=Z
 try dsimp only at q
 split at q
 .rename_i z;refine⟨by rw[<-r.length];exact few z,?_⟩;have J:B s1.heap.objs.size=none:=y.hok.fresh (Y5 _);refine⟨.ref s1.heap.objs.size,upd B s1.heap.objs.size (.tup D),y.laid (t':=s1.toks) (λb u e=>Y1 _ e) (Y5 _) ?_,rfl,q _ J⟩;exact⟨few z,K,r,⟨_,YM _ rfl,rfl,_,rfl⟩⟩
 .exact q.elim
theorem BU(h:PA X es t):PE X (.List es pos) (RI t):=by
 intro ad s G H Q I O;refine wpAny_List_spliced (Ap (h pos ad s G H _ I O) λK s1 Z=>?_);obtain⟨D,B,y,r,q⟩:=Z
 try dsimp only at q
 split at q
 .rename_i z;refine⟨by rw[<-r.length];exact few z,?_⟩;have J:B s1.heap.objs.size=none:=y.hok.fresh (Y5 _);refine⟨.ref s1.heap.objs.size,upd B s1.heap.objs.size (.lst D),y.laid (t':=s1.toks) (λb u e=>Y1 _ e) (Y5 _) ?_,rfl,q _ J⟩;exact⟨few z,K,0,r,YM _ rfl⟩
 .exact q.elim
end
variable{P:yP}{w:yN}{K:Fgx}{mg:Str -> yW}{base:Heap}
structure Fn(P:yP)(w:yN)(K:Fgx)(mg:Str->yW)(base:Heap)(n:Nat)(x:Str)(ps:List Str)(sp:Sp):Prop where
 ex:∃(f:yR) (fd:FuncData),C2 P w K mg base CX0 n f fd ps sp/\mg x=some (.ref f)/\PySem.W.keepIn K (.ref f)=true/\Binds K fd ps []
structure Df(K:Fgx)(mg:Str->yW)(x:Str)(st:Stmt)(ps:List Str):Prop where
 ex:∃(f:yR) (fd:FuncData),EX K x x st f fd/\mg x=some (.ref f)/\Binds K fd ps []
theorem Df.fn{x:Str}{st:Stmt}{N B:List Str}{k:Nat}{sp:Sp}(F:Df K mg x st B)(S:Az N B (Ar st))(len:∀vs H Q E,sp vs H Q E->vs.length=B.length)
  (y : ∀ (f : yR) (dl : yU) (A : yO) (outer : List Env) (s : yS) (H : Hp) (vs : zA) (Q : VK) (E : XK), AU k (A.deeper (envOfC x (Ar st) s.heap.objs.size f dl)) -> sp vs H Q E ->
   ∃t,PSs (Ca CX0 P w K mg base N x (Ar st) f dl A outer s H E).nox (BB st) t/\t { nx:=λ_ H'=>Q .non H',rt:=Q} (start N vs) H):Fn P w K mg base (k+1) x B sp:=by
 obtain⟨f,O,D,J,Z⟩:=F.ex;exact⟨f,O,D.ok S len λdl A outer s H vs Q E G h=>y f dl A outer s H vs Q E G h,J,D.kp,Z⟩
def LU(sp:Sp)(t:TA):TE:=fun B H Q=>t B H λD y=>sp D y Q E0
theorem Am{X:Cx}{n:Nat}{x:Str}{ps:List Str}{sp:Sp}{e:yL}{es:List yL}{t:TA}{p pos:Pos}(F:Fn X.prog X.w X.K X.mg X.base n x ps sp)(D:AU n X.A)(G:Gl X x)(ha:PA X (e::es) t)
  (hdb:autoParam ((x==("__debug__" :Str))=false) W0) (Z:autoParam (starEach (e::es) X.env=(false,eval e X.env)::starEach es X.env) L3) (B:autoParam ((backTo pos (starEach es X.env)).any (·.1)=false) L3):
  PE X (.Call (.Name x p) (e::es) [] pos) (LU sp t):=by
 obtain⟨f,fd,F,hm,J,hb⟩:=F.ex;refine(Ld (dvs:=[]) (E:=E0) F D G hm J hb .nil Q9 ha hdb Z B).weak fun O H Q q=>?_
 have e:∀y:zA,y++[]=y:=λy=>bv y
 show t O H λy H1=>sp (y++[]) H1 Q E0
 simp only[e];exact q
theorem zB{X:Cx}{n m:Nat}{x:Str}{ps:List Str}{sp:Sp}{e:yL}{es:List yL}{t:TA}{p pos:Pos}(F:Fn X.prog X.w X.K X.mg X.base n x ps sp)(D:AU m X.A)(ha:PA X (e::es) t)(h:autoParam (n<=m) W0)(G:autoParam (X.env.kindOf x=some .globalImplicit) L3)(a:autoParam ((x==("__debug__" :Str))=false) W0)(Z:autoParam (starEach (e::es) X.env=(false,eval e X.env)::starEach es X.env) L3)(B:autoParam ((backTo pos (starEach es X.env)).any (·.1)=false) L3):PE X (.Call (.Name x p) (e::es) [] pos) (LU sp t):=Am F (D.mono h) G ha a Z B
end
section
variable{p a:yR}{H H':Hp}{xs:zA}
def DK(kvs:List (yQ×yQ))(y:List (As×V)):Prop:=(kvs=[]/\y=[])\/(kvs=[(.int 0,.int 1)]/\y=[(.inl 0,.int 1)])
mutual
def Aa(p:yR)(H:Hp):yQ->V->Prop
 | .none,v=>v= .non
 | .bool b,v=>v= .bl b
 | .int i,v=>v= .int i
 | .str x,v=>v= .str x
 | .tuple ds,v=>∃a xs,v= .ref a/\H a=some (.tup xs)/\Ad p H ds xs
 | .list ds,v=>∃a xs,v= .ref a/\a≠p/\H a=some (.lst xs)/\Ad p H ds xs
 | .dict kvs,v=>∃a ks,v= .ref a/\a≠p/\DK kvs ks/\H a=some (.dK ks)
def Ad(p:yR)(H:Hp):List yQ->zA->Prop
 | [],xs=>xs=[]
 | d::ds,xs=>∃x r,xs=x::r/\Aa p H d x/\Ad p H ds r
end
def Ev(p:yR)(H H':Hp):Prop:=∀b o,H b=some o->(b=p/\∃y,o= .lst y)\/H' b=some o
theorem Ev.refl:Ev p H H:=λ_ _ h=> .inr h
theorem Ev.same(h:Ab H H'):Ev p H H':=λb o q=> .inr (h b o q)
theorem Ev.trans{B y:Hp}(h:Ev p H B)(h':Ev p B y):Ev p H y:=λb o q=>(h b o q).elim .inl λr=>h' b o r
theorem Ev.tup(h:Ev p H H')(q:H a=some (.tup xs)):H' a=some (.tup xs):=(h a _ q).elim (fun⟨_,ys,e⟩=>nomatch e) id
theorem Ev.lst(h:Ev p H H')(q:H a=some (.lst xs))(n:a≠p):H' a=some (.lst xs):=(h a _ q).elim (fun⟨e,_⟩=>absurd e n) id
theorem Ev.dk{y:List (As×V)}(h:Ev p H H')(q:H a=some (.dK y)):H' a=some (.dK y):=(h a _ q).elim (fun⟨_,ys,e⟩=>nomatch e) id
theorem Ev.new{o:HO}(h:H a=none):Ev p H (upd H a o):=λb u q=> .inr (by rw[Ao (Bg q h)];exact q)
theorem Ev.pen{o:HO}(h:H p=some (.lst xs)):Ev p H (upd H p o):=λb u q=>by
 by_cases e:b=p
 .subst e;rw[h]at q;cases q;exact .inl ⟨rfl,xs,rfl⟩
 .exact .inr (by rw[Ao e];exact q)
theorem Ab.new{o:HO}(h:H a=none):Ab H (upd H a o):=λb u q=>by rw[Ao (Bg q h)];exact q
mutual
theorem Aa.ev(h:Ev p H H'):∀(d:yQ) (v:V),Aa p H d v->Aa p H' d v
 | .none,v,q=>q
 | .bool _,v,q=>q
 | .int _,v,q=>q
 | .str _,v,q=>q
 | .tuple ds,v,q=>by
  unfold Aa at q ⊢;obtain⟨a,y,e,r,z⟩:=q;exact⟨a,y,e,h.tup r,Ad.ev h ds y z⟩
 | .list ds,v,q=>by
  unfold Aa at q ⊢;obtain⟨a,y,e,n,r,z⟩:=q;exact⟨a,y,e,n,h.lst r n,Ad.ev h ds y z⟩
 | .dict kvs,v,q=>by
  unfold Aa at q ⊢;obtain⟨a,B,e,n,k,r⟩:=q;exact⟨a,B,e,n,k,h.dk r⟩
theorem Ad.ev(h:Ev p H H'):∀(ds:List yQ) (xs:zA),Ad p H ds xs->Ad p H' ds xs
 | [],xs,q=>by unfold Ad at q ⊢;exact q
 | d::ds,xs,q=>by
  unfold Ad at q ⊢;obtain⟨x,r,e,z,y⟩:=q;exact⟨x,r,e,Aa.ev h d x z,Ad.ev h ds r y⟩
end
theorem Ad.len:∀ {ds:List yQ}{xs:zA},Ad p H ds xs->ds.length=xs.length
 | [],xs,q=>by unfold Ad at q;subst q;rfl
 | d::ds,xs,q=>by
  unfold Ad at q;obtain⟨x,r,e,z,y⟩:=q;subst e;simp[Ad.len y]
theorem Ad.get{p:yR}{H:Hp}:∀ {ds:List yQ}{xs:zA}{i:Nat}{d:yQ},Ad p H ds xs->ds[i]? =some d->∃x,xs[i]? =some x/\Aa p H d x
 | [],xs,i,d,q,e=>by simp at e
 | d::ds,xs,0,d',q,e=>by
  unfold Ad at q;obtain⟨x,r,rfl,z,B⟩:=q;simp at e;subst e;exact⟨x,rfl,z⟩
 | d::ds,xs,i+1,d',q,e=>by
  unfold Ad at q;obtain⟨x,r,rfl,z,B⟩:=q;obtain⟨y,G,D⟩:=Ad.get (i:=i) B (by simpa using e);exact⟨y,by simpa using G,D⟩
theorem Ad.got{p:yR}{H:Hp}:∀ {ds:List yQ}{xs:zA}{i:Nat}{x:V},Ad p H ds xs->xs[i]? =some x->∃d,ds[i]? =some d/\Aa p H d x
 | [],xs,i,x,q,e=>by unfold Ad at q;subst q;simp at e
 | d::ds,xs,0,x',q,e=>by
  unfold Ad at q;obtain⟨x,r,rfl,z,B⟩:=q;simp at e;subst e;exact⟨d,rfl,z⟩
 | d::ds,xs,i+1,x',q,e=>by
  unfold Ad at q;obtain⟨x,r,rfl,z,B⟩:=q;obtain⟨y,G,D⟩:=Ad.got (i:=i) B (by simpa using e);exact⟨y,by simpa using G,D⟩
theorem Ad.nil:Ad p H [] []:=by unfold Ad;rfl
theorem Ad.cons{p:yR}{H:Hp}{d:yQ}{ds:List yQ}{x:V}{xs:zA}(h:Aa p H d x)(r:Ad p H ds xs):Ad p H (d::ds) (x::xs):=by unfold Ad;exact⟨x,xs,rfl,h,r⟩
theorem Ad.append:∀ {ds es:List yQ}{xs ys:zA},Ad p H ds xs->Ad p H es ys->Ad p H (ds++es) (xs++ys)
 | [],_,xs,_,q,r=>by unfold Ad at q;subst q;exact r
 | d::ds,_,xs,_,q,r=>by
  unfold Ad at q;obtain⟨x,t,rfl,z,y⟩:=q;exact .cons z (Ad.append y r)
theorem Aa.tup{ds:List yQ}(h:H a=some (.tup xs))(r:Ad p H ds xs):Aa p H (.tuple ds) (.ref a):=by unfold Aa;exact⟨a,xs,rfl,h,r⟩
theorem Aa.lst{ds:List yQ}(n:a≠p)(h:H a=some (.lst xs))(r:Ad p H ds xs):Aa p H (.list ds) (.ref a):=by unfold Aa;exact⟨a,xs,rfl,n,h,r⟩
theorem Aa.int{i:Int}:Aa p H (.int i) (.int i):=by unfold Aa;rfl
theorem Aa.bl{i:Bool}:Aa p H (.bool i) (.bl i):=by unfold Aa;rfl
theorem Aa.str{i:Str}:Aa p H (.str i) (.str i):=by unfold Aa;rfl
theorem Aa.non:Aa p H .none .non:=by unfold Aa;rfl
def LV(x:V)(H:Hp)(n:String):Prop:=match x with
 | .non=>n="NoneType" | .bl _=>n="bool" | .int _=>n="int" | .str _=>n="str"
 | .ref a=>(n="tuple" /\∃xs,H a=some (.tup xs))\/(n="list" /\∃xs,H a=some (.lst xs))\/(n="dict" /\∃kvs,H a=some (.dK kvs))
 | _=>False
noncomputable def RJ:yQ->String
 | .none=> "NoneType" | .bool _=> "bool" | .int _=> "int" | .str _=> "str" | .tuple _=> "tuple" | .list _=> "list" | .dict _=> "dict"
noncomputable def IW(n T:String):Bool:=n==T || (n=="bool" && T=="int")
theorem Aa.ty{v:V}:∀ {d:yQ},Aa p H d v->LV v H (RJ d)
 | .none,q=>by unfold Aa at q;subst q;rfl
 | .bool _,q=>by unfold Aa at q;subst q;rfl
 | .int _,q=>by unfold Aa at q;subst q;rfl
 | .str _,q=>by unfold Aa at q;subst q;rfl
 | .tuple ds,q=>by unfold Aa at q;obtain⟨a,y,rfl,h,_⟩:=q;exact .inl ⟨rfl,y,h⟩
 | .list ds,q=>by unfold Aa at q;obtain⟨a,y,rfl,_,h,_⟩:=q;exact .inr (.inl ⟨rfl,y,h⟩)
 | .dict kvs,q=>by unfold Aa at q;obtain⟨a,B,rfl,_,_,h⟩:=q;exact .inr (.inr ⟨rfl,B,h⟩)
def LW:zA->Hp->VK->Prop:=λxs H Q=>match xs with
 | [x,.ty T]=>∃n,LV x H n/\(T="int" \/T="bool" \/T="tuple" \/T="list" \/T="str")/\Q (.bl (IW n T)) H
 | _=>False
variable{X:Cx}
theorem boot_int:bootBuiltins "int"=some (.type "int"):=by decide+kernel
theorem boot_bool:bootBuiltins "bool"=some (.type "bool"):=by decide+kernel
theorem BN:bootBuiltins "tuple"=some (.type "tuple"):=by decide+kernel
theorem IY:bootBuiltins "list"=some (.type "list"):=by decide+kernel
theorem E5:Bo X (.builtin "isinstance") LW:=by
 intro ad s σ H J us Q I r h;unfold LW at h;split at h
 .rename_i x T;obtain⟨n,G,K,q⟩:=h;obtain⟨u,v,rfl,ru,rv⟩:=r.two;cases rv;have B:∀s':yS,Ac X ad σ H s'->IW n T=true->EP X ad σ Q (.bool true) s':=λs' I' e=>⟨.bl true,H,I',rfl,by rw[e]at q;exact q⟩
  have no:IW n T=false->EP X ad σ Q (.bool false) { s with toks:=s.toks+1}:=λe=>⟨.bl false,H,I.tok _,rfl,by rw[e]at q;exact q⟩
  cases x with
  | non=>
   have e:n="NoneType" :=G;subst e;cases ru;rcases K with rfl | rfl | rfl | rfl | rfl
   .exact IsiPair.NoneType_int (no rfl)
   .exact IsiPair.NoneType_bool (no rfl)
   .exact IsiPair.NoneType_tuple (no rfl)
   .exact IsiPair.NoneType_list (no rfl)
   .exact IsiPair.NoneType_str (no rfl)
  | bl k=>
   have e:n="bool" :=G;subst e;cases ru;rcases K with rfl | rfl | rfl | rfl | rfl
   .exact IsiPair.bool_int (B _ I rfl)
   .exact IsiPair.bool_bool (B _ I rfl)
   .exact IsiPair.bool_tuple (no rfl)
   .exact IsiPair.bool_list (no rfl)
   .exact IsiPair.bool_str (no rfl)
  | int k=>
   have e:n="int" :=G;subst e;obtain⟨t,rfl⟩:=ru;rcases K with rfl | rfl | rfl | rfl | rfl
   .exact IsiPair.int_int (B _ I rfl)
   .exact IsiPair.int_bool (no rfl)
   .exact IsiPair.int_tuple (no rfl)
   .exact IsiPair.int_list (no rfl)
   .exact IsiPair.int_str (no rfl)
  | str k=>
   have e:n="str" :=G;subst e;obtain⟨t,rfl⟩:=ru;rcases K with rfl | rfl | rfl | rfl | rfl
   .exact IsiPair.str_int (no rfl)
   .exact IsiPair.str_bool (no rfl)
   .exact IsiPair.str_tuple (no rfl)
   .exact IsiPair.str_list (no rfl)
   .exact IsiPair.str_str (B _ I rfl)
  | ref a=>
   cases ru;have i4:(n="tuple" /\∃J,H a=some (.tup J))\/(n="list" /\∃J,H a=some (.lst J))\/(n="dict" /\∃i0,H a=some (.dK i0)):=G;rcases i4 with⟨e,J,hx⟩ | ⟨e,J,hx⟩ | ⟨e,J,hx⟩
   .subst e;obtain⟨_,Z,_,o,y,O,_⟩:=I.hok a _ hx;rcases K with rfl | rfl | rfl | rfl | rfl
    .exact IsiPair.tuple_int y O (no rfl)
    .exact IsiPair.tuple_bool y O (no rfl)
    .exact IsiPair.tuple_tuple y O (B _ I rfl)
    .exact IsiPair.tuple_list y O (no rfl)
    .exact IsiPair.tuple_str y O (no rfl)
   .subst e;obtain⟨_,Z,k,_,y⟩:=I.hok a _ hx;rcases K with rfl | rfl | rfl | rfl | rfl
    .exact IsiPair.list_int y rfl (no rfl)
    .exact IsiPair.list_bool y rfl (no rfl)
    .exact IsiPair.list_tuple y rfl (no rfl)
    .exact IsiPair.list_list y rfl (B _ I rfl)
    .exact IsiPair.list_str y rfl (no rfl)
   .subst e;obtain⟨_,_,vs,_,o,es,ep,y,O,_⟩:=I.hok a _ hx;have D:o.cls= .type "dict" :=O.1;rcases K with rfl | rfl | rfl | rfl | rfl
    .exact IsiPair.dict_int y D (no rfl)
    .exact IsiPair.dict_bool y D (no rfl)
    .exact IsiPair.dict_tuple y D (no rfl)
    .exact IsiPair.dict_list y D (no rfl)
    .exact IsiPair.dict_str y D (no rfl)
  | byt _=>exact(show False from G).elim
  | flt _=>exact(show False from G).elim
  | ty _=>exact(show False from G).elim
 .exact h.elim
theorem Ey(hc:X.calm=true):Bo X (.builtin "all") (λxs H Q=>∃(p:yR) (bs:List Bool),xs=[.ref p]/\H p=some (.lst (bs.map V.bl))/\Q (.bl (bs.all id)) H):=by
 intro ad s σ H xs us Q I r h;obtain⟨p,bs,rfl,hp,q⟩:=h;obtain⟨u,rfl,ru⟩:=r.one;cases ru;obtain⟨y,J,pl,hz⟩:=I.list (Al.of hp);refine call_all_walk (aC pl.isList ?_);obtain⟨ol,_,O,_⟩:=id pl;have K:=Y7 O;refine⟨s.heap.objs.size,_,_,_,_,_,λi=>bs.getD i false,rfl,Walks.list (A:=X.A.in1) (I.ok.hd hc) s.heap.objs.size p (YT K) y.toArray,⟨⟨_,YM _ rfl,rfl,rfl⟩,?_⟩,λi v s' Q' E' hi G=>?_,λh' tk hk=>?_⟩
 .exact pl.isList.at λo e=>Y1 _ e
 .have B:y[i]? =some v:=by simpa using hi
  have D:=J.length;have hb:i<bs.length:=by have:=(Y9.mp B).1;simp at D;omega
  obtain⟨u,Z,ru⟩:=J.get (i:=i) (x:= .bl bs[i]) (by simp[hb]);rw[B]at Z;cases Z;cases ru;dsimp only at G;rw[Y3,Y6 hb]at G;exact ZZ G
 .have D:=J.length;simp at D;have e:(List.range y.toArray.size).all (λi=>bs.getD i false)=bs.all id:=by
   rw[Z4,<-D,am];simp only[ZF,Zr,id];constructor
   .intro h x hx;obtain⟨i,hi,e⟩:=aK.mp hx;have:=h i hi;rw[Y3,Y6 hi]at this;rw[<-e];exact this
   .intro h i hi;rw[Y3,Y6 hi];exact h _ (ZL hi)
  rw[e];refine⟨.bl (bs.all id),H,I.kept λb o eb=>hk b o ?_ (Y1 _ eb),rfl,q⟩;intro z;have z':b=s.heap.objs.size:=by simpa using z
  exact absurd (Y7 eb) (by rw[z'];exact YX _)
end
section
open AutoSeq1 (wpAny_loadPart')
variable{X:Cx}
def E6(H:Hp)(xs:zA)(Q:VK):Prop:=∀r y,Ab H y->y r=some (.tup xs)->Q (.ref r) y
theorem Ac.gotNew{ad:PNs}{σ:St}{H:Hp}{s:yS}{Q:VK}{xs:zA}{us:yX}{t':Nat}(I:Ac X ad σ H s)(q:E6 H xs Q)(y:Av xs us)(hz:xs.length<=sizeLine):
  EP X ad σ Q (.ref s.heap.objs.size) { s with heap:=s.heap.push { cls:= .type "tuple",data:= .seq us.toArray},toks:=t'}:=
 ⟨.ref s.heap.objs.size,_,I.laid (o:= .tup xs) (λb ob e=>Y1 _ e) (Y5 _) ⟨hz,us,y,gC _ _⟩,rfl,q _ _ (Ab.new (I.hok.fresh (Y5 _))) Af⟩
def RK:R2:=λx y H Q=>∃a b D B,x= .ref a/\y= .ref b/\H a=some (.tup D)/\H b=some (.tup B)/\D.length+B.length<=1000/\E6 H (D++B) Q
theorem GL:OpR X (binaryOp .Add) RK:=by
 intro ad s σ H x y v u Q I rx ry h;obtain⟨a,b,xs,ys,rfl,rfl,ha,hb,hz,q⟩:=h;cases rx;cases ry;obtain⟨D,r1,ht,_⟩:=I.tuple (Ae.of ha);obtain⟨B,r2,i4,_⟩:=I.tuple (Ae.of hb);obtain⟨⟨cls,dd,data,sl⟩,O,hc,n,hd⟩:=id ht;obtain⟨⟨i5,J,data2,K⟩,G,Z,n2,i0⟩:=id i4;simp only at hc hd Z i0;subst hc hd Z i0;have i6:=r1.length;have i7:=r2.length;have hs:(1000:Nat)<=sizeLine:=by decide
 by_cases hv:D=[]
 .have e:xs=[]:=by subst hv;cases r1;rfl
  refine gG ⟨_,O,rfl⟩ ⟨_,G,rfl⟩ eZ gn PySem.F.slot_tuple_add PySem.F.entry_tuple_add (PySem.F.args_tuple_add_2 _ _) (tuple_addW0 a b D.toArray B.toArray n n2 dd J sl K (by simp[hv])) ⟨O,G,?_⟩;exact⟨.ref b,H,I,rfl,q b H (Ab.refl _) (by rw[e];exact hb)⟩
 .by_cases hw:B=[]
  .have e:ys=[]:=by subst hw;cases r2;rfl
   refine gG ⟨_,O,rfl⟩ ⟨_,G,rfl⟩ eZ gn PySem.F.slot_tuple_add PySem.F.entry_tuple_add (PySem.F.args_tuple_add_2 _ _) (tuple_addW1 a b D.toArray B.toArray n n2 dd J sl K (by simpa using hv) (by simp[hw])) ⟨O,G,?_⟩;exact⟨.ref a,H,I,rfl,q a H (Ab.refl _) (by rw[e,bv];exact ha)⟩
  .refine gG ⟨_,O,rfl⟩ ⟨_,G,rfl⟩ eZ gn PySem.F.slot_tuple_add PySem.F.entry_tuple_add (PySem.F.args_tuple_add_2 _ _)
    (tuple_addW2 a b D.toArray B.toArray n n2 dd J sl K (by simpa using hv) (by simpa using hw) (by rw[Z4,Z4];omega)) ⟨O,G,?_⟩
   have e:D.toArray++B.toArray=(D++B).toArray:=by simp
   rw[e];exact I.gotNew (t':=s.toks) q (r1.append r2) (by rw[Zb];omega)
theorem RL{t D:yR}{items:Array yU}{O K:yU}{lo hi:Option Int}{Q:VSP}{prog:yP}{w:yN}{A:yO}{E:VSP}{s:yS}(y:IsTup s.heap t items)(hs:s.heap.IsSliceOf D O K .none)(pl:IsPart O lo)(pu:IsPart K hi)
  (Z:HT.sIx items.size 0 lo=0/\HT.sIx items.size items.size hi=items.size) (h:Q (.ref t) s):wpAny (model prog w) A (getItem (.ref t) (.ref D)) Q E s:=by
 obtain⟨os,G,J,i0⟩:=id hs;have B:s.TypeIs (.ref D) "slice" :=⟨os,G,J⟩;unfold getItem
 try with_reducible refine Zp ?_
 first | refine Y0 (Y4 ?_) | skip
 refine Y0 (wpAny_sequenceKey y.typeIs (by decide) ?_);refine Y0 (Zo (name:=Str.ofString "__getitem__") y.typeIs ZW (Zq ZW y.typeIs entry_tuple_getitem ?_ (args_tuple_getitem _ _)));show wpAny _ _ (Builtin.Tuple.tupleItemsOf (.ref t) >>=_) _ _ s;refine Y0 (gk y ?_);refine Y0 (bY B ?_);rw[YN (by decide)];refine Y0 (HT.sliceApplied_gen hs pl pu ?_);rw[Z.1,Z.2];show wpAny _ _ (if (((0:Nat):Int)==0 &&(1:Int)==1 &&(items.size-0)==items.size)=true then _ else _) _ _ s;rw[YN (by simp)];refine Y0 (m:=Builtin.Tuple.tupleIsExact _) ?_;unfold Builtin.Tuple.tupleIsExact;refine Y0 (bY y.typeIs (Y4 ?_));rw[YN (by decide)];exact Y0 (aE (Y4 ⟨_,rfl,Y4 h⟩))
def RM:V->Option Int->Option Int->Hp->VK->Prop:=λx lo hi H Q=>∃a y,x= .ref a/\H a=some (.tup y)/\E6 H (Cb y lo hi) Q
theorem wa1:Gv X RM:=by
 intro ad s σ H x v vl vu lo hi sl Q I rx O pl K h;obtain⟨a,D,rfl,Z,q⟩:=h;cases rx;obtain⟨B,r,J,hz⟩:=I.tuple (Ae.of Z);have y:B.toArray.size=D.length:=by rw[Z4];exact r.length.symm
 refine⟨"tuple",_,ZW.lookup,J.typeIs,?_⟩
 by_cases G:HT.sIx D.length 0 lo=0/\HT.sIx D.length D.length hi=D.length
 .refine RL J O pl K (by rw[y];exact G) ⟨.ref a,H,I,rfl,q a H (Ab.refl _) ?_⟩;unfold Cb;rw[G.1,G.2,List.drop_zero,Nat.sub_zero,cI];exact Z
 .refine HT.getItem_tuple_cut J O pl K (by rw[y];exact G) ?_ (by rw[y];exact hz);rw[y];have e:B.toArray.toList=B:=rfl;rw[e];exact I.gotNew (t':=s.toks) q ((r.drop _).take _) (YV (Iz D lo hi) hz)
theorem LY:fillsNumberSlot (.type "tuple") "mul"=pure false:=
 PySem.fillsNumberSlot_seq (id:="tuple.__mul__") (r:=some (.builtin "tuple.__rmul__")) cQ.lookup (by decide+kernel) F.slot_tuple_rmul.lookup (by decide+kernel)
theorem LZ:seqRepeat? (.type "tuple")=pure (some (.builtin "tuple.__mul__")):=by
 unfold seqRepeat?;rw[PySem.seqSlot_of (T:="tuple") (name:="__mul__") (id:="tuple.__mul__") cQ.lookup (by decide+kernel),PySem.seqSlot_of (T:="tuple") (name:="__rmul__") (id:="tuple.__rmul__") F.slot_tuple_rmul.lookup (by decide+kernel)];rfl
theorem L6(a:Int)(t:Tok)(l:yR)(items:Array yU)(n:Nat)(dd:Option yR)(y:Array (yW)):
  Meets (Builtin.«int.__rmul__» ⟨[.int a t,.ref l],[]⟩) (λ_ R s=>s.heap.get? l=some { cls:= .type "tuple",dict:=dd,data:= .seq items n,slots:=y}/\R (.ok (.ret Value.notImplemented)) s):=
 .of_wp λprog w A R s h=>by obtain⟨D,g,d,tk,os⟩:=s;obtain⟨B,h⟩:=h;wp_walk using Zu B;exact⟨_,rfl,h⟩
theorem RN(l:yR)(items:Array yU)(n:Nat)(dd:Option yR)(O:Array (yW))(x:Int)(u:Tok)(J:¬(decide (x< -(2 ^ 63)) || decide (x≥2 ^ 63))=true)(G:¬(items.isEmpty || x==1)=true)(B:¬(decide (x<=0) || items.isEmpty)=true)
  (D:¬(items.size:Int) * x>(2 ^ 63-1)/ 8) (y:¬Builtin.Tuple.tupleTooMany ((items.size:Int) * x)=true) (hsz:sizeOk (.seq ((List.replicate x.toNat items).foldl (λa b=>a++b) #[]))):
  Meets (Builtin.«tuple.__mul__» ⟨[.ref l,.int x u],[]⟩) (λ_ R s=>s.heap.get? l=some { cls:= .type "tuple",dict:=dd,data:= .seq items n,slots:=O}/\R (.ok (.ret (Value.ref s.heap.objs.size))) { s with heap:=s.heap.push { cls:=Value.type "tuple",data:=Data.seq ((List.replicate x.toNat items).foldl (λa b=>a++b) #[])}}):=
 .of_wp λprog w A R s h=>by
  obtain⟨hp,g,d,tk,os⟩:=s;obtain⟨K,h⟩:=h;have Z:=AutoSeq1.idx_int;have f2:=bZ
  wp_walk using Zu K
  rw[Y8 J];refine Y0 (gk (items:=items) ⟨_,K,rfl,n,rfl⟩ ?_);dsimp only;rw[Y8 G,Y8 B,Y8 D,Y8 y];exact Y0 (m:=Builtin.Tuple.tupleExact _) (Zn (Y4 ⟨_,rfl,h⟩) hsz)
def RO:R2:=λx y H Q=>∃a k B,x= .ref a/\y= .int k/\H a=some (.tup B)/\B≠ []/\2<=k/\k<=100/\B.length<=100/\E6 H (List.replicate k.toNat B).flatten Q
theorem RP:OpR X (binaryOp .Mult) RO:=by
  intro ad s σ H x y v u Q I rx ry h;obtain⟨a,k,xs,rfl,rfl,ha,hx,h1,h2,h3,q⟩:=h;cases rx;obtain⟨t,rfl⟩:=ry;obtain⟨B,r,ht,hz⟩:=I.tuple (Ae.of ha);obtain⟨⟨cls,K,data,O⟩,G,Z,n,hd⟩:=id ht;simp only at Z hd;subst Z hd;have hl:=r.length;refine eM (T:="tuple") (U:="int") (by decide) ⟨_,G,rfl⟩ (λs'=>eK s' k t) LY F.fills_int_mul dg LZ F.slot_int_index.lookup
    (aF dg (eK s k t) F.entry_int_rmul (F.args_int_rmul_2 _ _) (L6 k t a B.toArray n K O) ⟨G,rfl,⟨_,G,rfl⟩,?_⟩)
  have D:¬B.toArray.isEmpty=true:=by
    intro z;have z':B=[]:=by simpa using z
    subst z';cases r;exact hx rfl
  have fl:(List.replicate k.toNat B.toArray).foldl (λa b=>a++b) #[]=(List.replicate k.toNat B).flatten.toArray:=by
    have:=Ly B k.toNat [];rw[gh]at this;exact this
  have i4:(B.length:Int) * k<=100 * 100:=Int.mul_le_mul (by omega) (by omega) (by omega) (by omega);have J:(List.replicate k.toNat B).flatten.length<=10000:=by
    rw[LA];have:k.toNat * B.length<=100 * 100:=fT (by omega) (by omega);omega
  have i0:(10000:Nat)<=sizeLine:=by decide
  refine aF cQ ⟨_,G,rfl⟩ F.entry_tuple_mul (F.args_tuple_mul_2 _ _) (RN a B.toArray n K O k t (by simp;omega) (by simp only[D,gq];simp;omega) (by simp only[D,Bool.or_false];simp;omega) (by rw[Z4];omega)
    (by unfold Builtin.Tuple.tupleTooMany; rw [Z4]; simp; have : (sizeLine : Int) = 16777216 := by decide
        omega) (by rw[fl];show(List.replicate k.toNat B).flatten.toArray.size<=sizeLine;rw[Z4];omega)) ⟨G,?_⟩
  rw[fl];exact I.gotNew (t':=s.toks) q (r.rep k.toNat) (by rw[LA]at J ⊢;rw[hl];omega)
def RQ:TE:=λ_ H Q=>∀p,H p=none->Q (.ref p) (upd H p (.dK []))
def RR:TE:=λ_ H Q=>∀p,H p=none->Q (.ref p) (upd H p (.dK [(.inl 0,.int 1)]))
noncomputable def L7:List (yQ×yQ)->Nat | []=>2 | [(.int i,.int j)]=>if i=0/\j=1 then 6 else 10 ^ 9 | _=>10 ^ 9
mutual
noncomputable def Cz:yQ->Nat
 | .none=>4 | .bool _=>5 | .int i=>if i.natAbs<10 ^ 31 then 40 else 10 ^ 9 | .str x=>(reprText x).length
 | .tuple ds=>DB ds+4 | .list ds=>DB ds+4 | .dict kvs=>L7 kvs
noncomputable def DB:List yQ->Nat
 | []=>0
 | d::ds=>Cz d+2+DB ds
end
end
section
variable{i:Int}{p:yR}
theorem L8:∀(B:List Str) (k:Nat) (y:Str),(textFrom k y B).length<=y.length+piled B
 | [],k,y=>by show y.length<=_;omega
 | t::B,k,y=>by
  have D:=L8 B;unfold textFrom;rw[PySem.piled_cons];refine YV (D _ _) ?_;have e:(y++(if k>0 then", " else"" :String)++t).length=y.length+(if k>0 then 2 else 0)+t.length:=by
   rw[cM,cM];split<;>rfl
  rw[e];split<;>omega
theorem RS(y:List Str):(listText y).length<=piled y+2:=by
 unfold listText;rw[cM];have:=L8 y 0 "[";have D:(Str.ofString "[").length=1:=rfl;have B:(Str.ofString "]").length=1:=rfl;omega
theorem RT(y:List Str):(tupleText y).length<=piled y+4:=by
 unfold tupleText;rw[cM,cM];have B:(Str.ofString "(").length=1:=rfl;have D:(Str.ofString (if (y.length==1)=true then",)" else")")).length<=2:=by
  split
  .exact Y5 2
  .exact Zx 1
 have G:(Str.join (Str.ofString ", ") y).length<=piled y:=by
  cases y with
  | nil=>exact Z1 _
  | cons a r=>have:=join_length_add (a::r) (by simp);omega
 omega
theorem RU(h:i.natAbs<10 ^ 31):(Str.ofString (toString i)).length<=40:=by
 have B:=int_text_length_le10 (a:=i) (k:=31) (by decide) h;have y:(Str.ofString (toString i)).length=(toString i).length:=by rw[PySem.ofString_length]
 omega
theorem RV(h:i.natAbs<10 ^ 31):i.natAbs.log2<1920:=by
 by_cases z:i.natAbs=0
 .rw[z];decide
 .exact bg ((Nat.log2_lt z).mpr (bg h (show 10 ^ 31<2 ^ 120 by decide))) (by decide)
mutual
theorem Ma:∀d:yQ,Cz d<10 ^ 9->d.showable=true/\d.shown.length<=Cz d
 | .none,_=>⟨rfl,by show 4<=4;decide⟩
 | .bool b,_=>⟨rfl,by cases b<;>(unfold PyData.shown Cz;decide)⟩
 | .int i,h=>by
  unfold Cz at h ⊢
  by_cases c:i.natAbs<10 ^ 31
  .rw [YN c];refine⟨?_,?_⟩
   .unfold PyData.showable;exact Z9 (RV c)
   .unfold PyData.shown;exact RU c
  .rw[Y8 c]at h;exact absurd h (YX _)
 | .str x,h=>⟨rfl,by unfold PyData.shown Cz;exact Y5 _⟩
 | .tuple ds,h=>by
  unfold Cz at h ⊢;obtain⟨a,b⟩:=IZ ds (by omega);refine⟨by unfold PyData.showable;exact a,?_⟩;unfold PyData.shown;exact YV (RT _) (by omega)
 | .list ds,h=>by
  unfold Cz at h ⊢;obtain⟨a,b⟩:=IZ ds (by omega);refine⟨by unfold PyData.showable;exact a,?_⟩;unfold PyData.shown;exact YV (RS _) (by omega)
 | .dict kvs,h=>by
  unfold Cz at h;unfold L7 at h;split at h
  .exact⟨rfl,by decide+kernel⟩
  .split at h
   .rename_i i j c;obtain⟨rfl,rfl⟩:=c;exact⟨by decide+kernel,by decide+kernel⟩
   .exact absurd h (YX _)
  .exact absurd h (YX _)
theorem IZ:∀ds:List yQ,DB ds<10 ^ 9->PyData.showableAll ds=true/\piled (PyData.shownAll ds)<=DB ds
 | [],_=>⟨rfl,by decide⟩
 | d::ds,h=>by
  unfold DB at h ⊢;obtain⟨a,b⟩:=Ma d (by omega);obtain⟨y,B⟩:=IZ ds (by omega);refine⟨by unfold PyData.showableAll;rw[a,y];rfl,?_⟩;unfold PyData.shownAll;rw[PySem.piled_cons];omega
end
variable{X:Cx}{ad:List (yR × Obj)}{σ:St}{H:Hp}{s:yS}
mutual
theorem Aa.reads(I:Ac X ad σ H s):∀(d:yQ) (v:V) (u:yU),d.hasDict=false->Aa p H d v->Aw v u->∃as,Reads s.heap u d as
 | .none,v,u,_,r,q=>by unfold Aa at r;subst r;cases q;exact⟨_,.none⟩
 | .bool b,v,u,_,r,q=>by unfold Aa at r;subst r;cases q;exact⟨_,.bool b⟩
 | .int i,v,u,_,r,q=>by unfold Aa at r;subst r;obtain⟨t,rfl⟩:=q;exact⟨_,.int i t⟩
 | .str x,v,u,_,r,q=>by unfold Aa at r;subst r;obtain⟨t,rfl⟩:=q;exact⟨_,.str x t⟩
 | .tuple ds,v,u,hd,r,q=>by
  unfold Aa at r;obtain⟨a,D,rfl,O,rs⟩:=r;cases q;obtain⟨y,Z,⟨o,J,K,n,B⟩,_⟩:=I.tuple (Ae.of O);obtain⟨as,G⟩:=Ad.reads I ds D y (by unfold PyData.hasDict at hd;exact hd) rs Z;exact⟨as,.tuple J K B G⟩
 | .list ds,v,u,hd,r,q=>by
  unfold Aa at r;obtain⟨a,D,rfl,_,O,rs⟩:=r;cases q;obtain⟨y,Z,⟨o,n,J,K,_,B⟩,_⟩:=I.list (Al.of O);obtain⟨as,G⟩:=Ad.reads I ds D y (by unfold PyData.hasDict at hd;exact hd) rs Z;exact⟨a::as,.list J K B G⟩
 | .dict kvs,v,u,hd,_,_=>by unfold PyData.hasDict at hd;cases hd
theorem Ad.reads(I:Ac X ad σ H s):∀(ds:List yQ) (xs:zA) (us:yX),PyData.hasDictAll ds=false->Ad p H ds xs->Av xs us->∃as,ReadsAll s.heap us ds as
 | [],xs,us,_,r,q=>by unfold Ad at r;subst r;cases q;exact⟨_,.nil⟩
 | d::ds,xs,us,hd,r,q=>by
  unfold Ad at r;obtain⟨x,t,rfl,G,rt⟩:=r;unfold PyData.hasDictAll at hd;obtain⟨J,y⟩:=dh.mp hd;cases q with
  | cons q1 q2=>
   obtain⟨as,B⟩:=Aa.reads I d x _ J G q1;obtain⟨bs,D⟩:=Ad.reads I ds t _ y rt q2;exact⟨as++bs,.cons B D⟩
end
mutual
def CA:yQ->Bool
 | .list _=>false | .tuple ds=>Dg ds | .none=>true | .bool _=>true | .int _=>true | .str _=>true | .dict _=>true
def Dg:List yQ->Bool
 | []=>true
 | d::ds=>CA d && Dg ds
end
mutual
theorem Aa.readsD(I:Ac X ad σ H s):∀(d:yQ) (v:V) (u:yU),CA d=true->Aa p H d v->Aw v u->∃as,Reads s.heap u d as/\¬sysModules∈as
 | .none,v,u,_,r,q=>by unfold Aa at r;subst r;cases q;exact⟨_,.none,Zt⟩
 | .bool b,v,u,_,r,q=>by unfold Aa at r;subst r;cases q;exact⟨_,.bool b,Zt⟩
 | .int i,v,u,_,r,q=>by unfold Aa at r;subst r;obtain⟨t,rfl⟩:=q;exact⟨_,.int i t,Zt⟩
 | .str x,v,u,_,r,q=>by unfold Aa at r;subst r;obtain⟨t,rfl⟩:=q;exact⟨_,.str x t,Zt⟩
 | .tuple ds,v,u,hd,r,q=>by
  unfold Aa at r;obtain⟨a,xs,rfl,ha,rs⟩:=r;cases q;obtain⟨Z,rv,⟨o,K,hc,n,B⟩,_⟩:=I.tuple (Ae.of ha);obtain⟨as,ra,hn⟩:=Ad.readsD I ds xs Z (by unfold CA at hd;exact hd) rs rv;exact⟨as,.tuple K hc B ra,hn⟩
 | .list ds,v,u,hd,r,q=>by unfold CA at hd;cases hd
 | .dict kvs,v,u,hd,r,q=>by
  unfold Aa at r;obtain⟨a,ks,rfl,_,dk,hb⟩:=r;cases q;obtain⟨_,G,vs,kv,o,es,ep,K,hx,B,i7,O,i6⟩:=I.hok a _ hb;have J:sysModules≠a:=λe=>by rw[<-e]at G;simp at G
  rcases dk with⟨rfl,rfl⟩ | ⟨rfl,rfl⟩
  .cases kv;have y:es.toList=[]:=by
    generalize es.toList=l at O;cases O;rfl
   exact⟨a::[]++[],.dict K hx.1 B (by rw[y];exact .nil) (by rw[y];exact .nil),by simpa using J⟩
  .cases kv with
   | cons h1 t1=>
    cases t1;obtain⟨e1,e2⟩:=h1;generalize y:es.toList=l at O;cases O with
    | cons k1 k2 k3=>
     cases k3;rename_i D e;have i0:DP (.inl 0) e.key=true:=by
      have i4:(Sum.inl 0:As)=D.1:=e1;rw[i4];exact k1
     obtain⟨t,ht⟩:∃t,e.key=Value.int 0 t:=by
      rcases CT i0 with⟨i,t,h,h'⟩ | ⟨x,t,h,_⟩
      .cases h;exact⟨t,h'⟩
      .cases h
     obtain⟨t1,i5⟩:∃t,D.2=Value.int 1 t:=e2;refine⟨a::([]++[])++([]++[]),.dict (kvs:=[(.int 0,.int 1)]) K hx.1 B ?_ ?_,by simpa using J⟩
     .rw[y];show ReadsAll _ [e.key] [.int 0] _;rw[ht];exact .cons (.int 0 t) .nil
     .rw[y];show ReadsAll _ [e.val] [.int 1] _;rw[k2,i5];exact .cons (.int 1 t1) .nil
theorem Ad.readsD(I:Ac X ad σ H s):∀(ds:List yQ) (xs:zA) (us:yX),Dg ds=true->Ad p H ds xs->Av xs us->∃as,ReadsAll s.heap us ds as/\¬sysModules∈as
 | [],xs,us,_,r,q=>by unfold Ad at r;subst r;cases q;exact⟨_,.nil,Zt⟩
 | d::ds,xs,us,hd,r,q=>by
  unfold Ad at r;obtain⟨x,t,rfl,G,rt⟩:=r;unfold Dg at hd;obtain⟨J,y⟩:=(Z5 _ _).mp hd;cases q with
  | cons q1 q2=>
   obtain⟨as,B,O⟩:=Aa.readsD I d x _ J G q1;obtain⟨bs,D,K⟩:=Ad.readsD I ds t _ y rt q2;exact⟨as++bs,.cons B D,λz=>(ZS.mp z).elim O K⟩
end
structure FM(d:yQ):Prop where
 w:Cz d<=1000000
 dp:d.depth<=20
 nd:d.hasDict=false\/CA d=true
def Mb:zA->Hp->VK->Prop:=λy H Q=>match y with | [v]=>∃p d,Aa p H d v/\FM d/\Q (.str d.shown) H | _=>False
theorem GM{k:Nat}(Z:AU k X.A):Bo X (.builtin "repr") Mb:=by
 intro ad s σ H xs us Q I r h;unfold Mb at h;split at h
 .rename_i v;obtain⟨p,d,D,nd,q⟩:=h;obtain⟨u,rfl,ru⟩:=r.one;obtain⟨sh,sl⟩:=Ma d (au nd.w (by decide));have big:(1000000:Nat)<=sizeLine:=by decide
  have G:d.shown.length<=sizeLine:=YV sl (YV nd.w big);have un:=Z.un;have fin:∀J tk t,(∀b o,s.heap.get? b=some o->J.get? b=some o)->EP X ad σ Q (.str d.shown t) { s with heap:=J,toks:=tk}:=λJ tk t O=>⟨.str d.shown,H,I.kept O,⟨t,rfl⟩,q⟩
  have B:∀a,u= .ref a->wpAny (model X.prog X.w) X.A (call (.builtin "repr") [u]) (EP X ad σ Q) X.xe s:=λa e=>by
   subst e;have K:X.A.units+(d.depth+1)<cLine:=by have:=nd.dp;omega
   rcases nd.nd with hd | hd
   .obtain⟨as,ra⟩:=Aa.reads I d v _ hd D ru;exact repr_of_reads' ra sh (PyData.noDict_hsm hd) Z.gd K (λ_ _ e=>e) (λJ t tk O=>fin J tk t O) G
   .obtain⟨as,ra,hm⟩:=Aa.readsD I d v _ hd D ru;exact repr_of_reads' ra sh (λ_=>hm) Z.gd K (λ_ _ e=>e) (λJ t tk O=>fin J tk t O) G
  cases d with
  | none=>unfold Aa at D;subst D;cases ru;exact PySem.P.repr_of_none (fin s.heap _ _ λ_ _ e=>e)
  | bool b=>unfold Aa at D;subst D;cases ru;exact PySem.P.repr_of_bool (by have:=fin s.heap (s.toks+1) s.toks λ_ _ e=>e;unfold PyData.shown at this;exact this)
  | int i=>
   unfold Aa at D;subst D;obtain⟨t,rfl⟩:=ru;refine PySem.P.repr_of_int ?_ (by have:=fin s.heap (s.toks+1) s.toks λ_ _ e=>e;unfold PyData.shown at this;exact this);unfold PyData.showable at sh;exact Z0 sh
  | str x=>
   unfold Aa at D;subst D;obtain⟨t,rfl⟩:=ru;exact PySem.P.repr_of_str (by have:=fin s.heap (s.toks+1) s.toks λ_ _ e=>e;unfold PyData.shown at this;exact this) (by unfold PyData.shown at G;exact G)
  | tuple ds=>have y:=D;unfold Aa at y;obtain⟨a,xs,rfl,_⟩:=y;exact B a ru
  | list ds=>have y:=D;unfold Aa at y;obtain⟨a,xs,rfl,_⟩:=y;exact B a ru
  | dict kvs=>have y:=D;unfold Aa at y;obtain⟨a,ks,rfl,_⟩:=y;exact B a ru
 .exact h.elim
theorem Ac.big(I:Ac X ad σ H s):sysModules<s.heap.objs.size:=by
 have h:mainGlobals<s.heap.objs.size:=(I.mod.glob.keeps I.bk).lt;exact bg (by decide) h
theorem c_dict{pos:Pos}:PE X (.Dict [] [] pos) RQ:=λad s y H Q I h=>
 wpAny_Dict_empty ⟨.ref s.heap.objs.size,_,I.laid (a:=s.heap.objs.size) (o:= .dK []) (t':=s.toks) (λ_ _ q=>Y1 _ q) (Y5 _) ⟨Z1 _,aa.mpr (Zv (YT I.big)),[],.nil,bU s.heap⟩,rfl,h _ (I.hok.fresh (Y5 _))⟩
theorem c_dict1{pos K B:Pos}{J D:Nat}:PE X (.Dict [some (.Constant (.int 0) J K)] [.Constant (.int 1) D B] pos) RR:=λad s O H Q I h=>by
 refine ft (knd:=AX X.prog X.w) rfl rfl (by simp) (by show 1<=15;decide) ?_;refine dB (bX (bX (dO ?_)));refine⟨[(.inl 0,_)],⟨rfl,rfl,trivial⟩,bU _,λZ G y=>?_⟩
 .exact⟨.ref s.heap.objs.size,_,I.laid (a:=s.heap.objs.size) (o:= .dK [(.inl 0,.int 1)]) (λb o e=>(y.2 b (YT (Y7 e))).trans (Y1 _ e)) (Y5 _) ⟨by show 1<=sizeLine;decide,aa.mpr (Zv (YT I.big)),_,.cons ⟨rfl,⟨_,rfl⟩⟩ .nil,G⟩,rfl,h _ (I.hok.fresh (Y5 _))⟩
end
section
variable{H H':Hp}{p:yR}{i:Int}
section
variable{X:Cx}{P:yP}{w:yN}
theorem BO(K:Fgx)(h:autoParam (X.K=K) L3):FH X (IA K):=h ▸ QO
theorem A4(K:Fgx)(h:autoParam (X.K=K) L3):FH X (FI K):=h ▸ QP
theorem RW(K:Fgx)(h:autoParam (X.K=K) L3):Gv X (Lr K):=h ▸ QU
theorem DZ(K:Fgx)(h:autoParam (X.K=K) L3):OpR X (compareOp .In) (Lu K false):=h ▸ QW
def RX(K:Fgx):zA->Hp->VK->Prop:=λB H Q=>∃p y,B=[.ref p]/\(Al K H p y\/Ae K H p y)/\Q (.int (y:zA).length) H
theorem BV(K:Fgx)(h:autoParam (X.K=K) L3):Bo X (.builtin "len") (RX K):=h ▸ QX
def RY(K:Fgx):zA->Hp->VK->Prop:=λB H Q=>∃p y,B=[.ref p]/\(Al K H p y\/Ae K H p y)/\∀l,H l=none->Q (.ref l) (upd H l (.lst y))
theorem RZ(K:Fgx)(h:autoParam (X.K=K) L3):Bo X (.type "list") (RY K):=h ▸ QY
def R0(K:Fgx):zA->Hp->VK->Prop:=λB H Q=>∃p y,B=[.ref p]/\((Al K H p y/\∀l,H l=none->Q (.ref l) (upd H l (.tup y)))\/(Ae K H p y/\Q (.ref p) H))
theorem B3(K:Fgx)(h:autoParam (X.K=K) L3):Bo X (.type "tuple") (R0 K):=h ▸ QZ
theorem AL(K:Fgx){es:List yL}{k:Nat}{t:DR}{n:Nat}{pos:Pos}(h:FE X es t)(B:autoParam (X.K=K) L3)(D:autoParam (X.calm=true) L3)(G:autoParam ((assignEach es X.env).length=n) L3)(y:autoParam ((assignEach es X.env).findIdx? (·.1)=none) L3):
  PG X (.Tuple es k pos) (KP K n t):=B ▸ Qk D h G y
theorem Ez(K:Fgx){D l:yL}{y:TE}(B:PE X l y)(h:autoParam (X.K=K) L3):PI X D l (KU K y):=h ▸ Qq B
theorem BW(K:Fgx){D l:yL}{y:TE}(B:PE X l y)(h:autoParam (X.K=K) L3):PI X D l (KW K y):=h ▸ Qr B
theorem R1(P:yP)(w:yN)(K:Fgx){es:List yL}{k:Nat}{p pos y:Pos}{a:yL}{B:TA}(O:Gl X "enumerate")(Z:X.mg "enumerate"=none)(ha:PA X [a] B)(D:autoParam (X.prog=P) L3)(hw:autoParam (X.w=w) L3)(G:autoParam (X.K=K) L3)(J:autoParam (starEach [a] X.env=[(false,eval a X.env)]) L3):
  PI X (.Tuple es k y) (.Call (.Name "enumerate" p) [a] [] pos) (GD (Cy P w K) B):=by subst D hw G;exact Rq O Z ha J
theorem E7(P:yP)(w:yN)(K:Fgx){es:List yL}{k:Nat}{p pos y:Pos}{a:yL}{B:TA}(O:Gl X "enumerate")(Z:X.mg "enumerate"=none)(ha:PA X [a] B)(D:autoParam (X.prog=P) L3)(hw:autoParam (X.w=w) L3)(G:autoParam (X.K=K) L3)(J:autoParam (starEach [a] X.env=[(false,eval a X.env)]) L3):
  PI X (.Tuple es k y) (.Call (.Name "enumerate" p) [a] [] pos) (GD (B2 P w K) B):=by subst D hw G;exact Rr O Z ha J
theorem R3(P:yP)(w:yN)(K:Fgx){es:List yL}{k:Nat}{p pos B:Pos}{D y:yL}{J:TA}(hg:Gl X "zip")(hm:X.mg "zip"=none)(ha:PA X [D,y] J)(O:autoParam (X.prog=P) L3)(hw:autoParam (X.w=w) L3)(Z:autoParam (X.K=K) L3)
  (hs:autoParam (starEach [D,y] X.env=[(false,eval D X.env),(false,eval y X.env)]) L3) (G:autoParam (starEach [y] X.env=[(false,eval y X.env)]) L3):
  PI X (.Tuple es k B) (.Call (.Name "zip" p) [D,y] [] pos) (E3 (B2 P w K) (Cy P w K) J):=by subst O hw Z;exact Rw hg hm ha hs G
theorem I9(P:yP)(w:yN)(K:Fgx){es:List yL}{k:Nat}{p pos B:Pos}{D y:yL}{J:TA}(hg:Gl X "zip")(hm:X.mg "zip"=none)(ha:PA X [D,y] J)(O:autoParam (X.prog=P) L3)(hw:autoParam (X.w=w) L3)(Z:autoParam (X.K=K) L3)
  (hs:autoParam (starEach [D,y] X.env=[(false,eval D X.env),(false,eval y X.env)]) L3) (G:autoParam (starEach [y] X.env=[(false,eval y X.env)]) L3):
  PI X (.Tuple es k B) (.Call (.Name "zip" p) [D,y] [] pos) (E3 (B2 P w K) (B2 P w K) J):=by subst O hw Z;exact Rx hg hm ha hs G
end
theorem PA.weak{X:Cx}{es:List yL}{t t':TA}(h:PA X es t)(w:∀σ H Q,t' σ H Q->t σ H Q):PA X es t':=λpos ad s σ H Q I q=>h pos ad s σ H Q I (w σ H Q q)
def C5(d:yQ):TE:=λ_ H Q=>∀v y,Ab H y->(∀p,H p≠none->Aa p y d v)->Q v y
def FN(ds:List yQ):TA:=λ_ H Q=>∀B y,Ab H y->B.length=ds.length->(∀p,H p≠none->Ad p y ds B)->Q B y
theorem Ab.some_ne{a:yR}(s:Ab H H')(h:H p≠none)(n:H' a=none):a≠p:=by
 intro e;subst e;cases z:H a with
 | none=>exact h z
 | some o=>rw[s _ _ z]at n;cases n
theorem Ab.some(s:Ab H H')(h:H p≠none):H' p≠none:=by
 intro e;cases z:H p with
 | none=>exact h z
 | some o=>rw[s _ _ z]at e;cases e
variable{X:Cx}{pos p2 p3:Pos}{j j2:Nat}{e:yL}{es:List yL}{d:yQ}{ds:List yQ}
theorem Mc:PE X (.Constant .none j pos) (C5 .none):=V'.weak fun y H Q q=>q _ _ (Ab.refl _) λ_ _=>Aa.non
theorem GN{b:Bool}:PE X (.Constant (.bool b) j pos) (C5 (.bool b)):=W'.weak fun y H Q q=>q _ _ (Ab.refl _) λ_ _=>Aa.bl
theorem Co:PE X (.Constant (.int i) j pos) (C5 (.int i)):=R'.weak fun y H Q q=>q _ _ (Ab.refl _) λ_ _=>Aa.int
theorem R4:PE X (.UnaryOp .USub (.Constant (.int i) j pos) p2) (C5 (.int (-i))):=(Ip Ir R').weak fun y H Q q=>⟨_,rfl,q _ _ (Ab.refl _) λ_ _=>Aa.int⟩
theorem R5{a b:Int}(c:0<=b/\b<=1000/\a.natAbs<1000):PE X (.BinOp (.Constant (.int a) j pos) .Pow (.Constant (.int b) j2 p2) p3) (C5 (.int (a ^ b.toNat))):=
 (Ax GJ R' R').weak fun y H Q q=>⟨⟨c.1,by omega,bg c.2.2 (by decide)⟩,q _ _ (Ab.refl _) λ_ _=>Aa.int⟩
theorem EA{x:Str}:PE X (.Constant (.str x) j pos) (C5 (.str x)):=U'.weak fun y H Q q=>q _ _ (Ab.refl _) λ_ _=>Aa.str
theorem Cg(h:PA X es (FN ds))(y:Nat.ble ds.length 64=true):PE X (.Tuple es j pos) (C5 (.tuple ds)):=by
 refine(BT h).weak fun K H Q q=>?_
 intro D J s l r;rw[<-l]at y;show(match Nat.ble D.length 64 with | true=>_ | false=>False);rw[y];intro a B;exact q _ _ (s.trans (Ab.new B)) λp G=>Aa.tup Af (Ad.ev (Ev.new B) _ _ (r p G))
theorem GO(h:PA X es (FN ds))(B:Nat.ble ds.length 64=true):PE X (.List es pos) (C5 (.list ds)):=by
 refine(BU h).weak fun K H Q q=>?_
 intro G J s l r;rw[<-l]at B;show(match Nat.ble G.length 64 with | true=>_ | false=>False);rw[B];intro a y;exact q _ _ (s.trans (Ab.new y)) λp D=>Aa.lst (s.some_ne D y) Af (Ad.ev (Ev.new y) _ _ (r p D))
theorem R6:PE X (.Dict [] [] pos) (C5 (.dict [])):=by
 refine c_dict.weak fun D H Q q=>?_
 intro a y;refine q _ _ (Ab.new y) λp B=>?_
 unfold Aa;exact⟨a,_,rfl,(Ab.refl H).some_ne B y,.inl ⟨rfl,rfl⟩,Af⟩
theorem R7:PE X (.Dict [some (.Constant (.int 0) j p2)] [.Constant (.int 1) j2 p3] pos) (C5 (.dict [(.int 0,.int 1)])):=by
 refine c_dict1.weak fun D H Q q=>?_
 intro a y;refine q _ _ (Ab.new y) λp B=>?_
 unfold Aa;exact⟨a,_,rfl,(Ab.refl H).some_ne B y,.inr ⟨rfl,rfl⟩,Af⟩
theorem BG:PA X [] (FN []):=pa_nil.weak fun y H Q q=>q _ _ (Ab.refl _) rfl λ_ _=> .nil
theorem AM(h:PE X e (C5 d))(r:PA X es (FN ds))(G:starEach (e::es) X.env=(false,eval e X.env)::starEach es X.env):PA X (e::es) (FN (d::ds)):=by
 refine(Bf h r G).weak fun K H Q q=>?_
 intro v O s1 B J Z s2 l D;exact q _ _ (s1.trans s2) (by rw[Zw,Zw,l]) λp y=> .cons (Aa.ev (Ev.same s2) _ _ (B p y)) (D p (s1.some y))
end
section
variable{X:Cx}
def R8:zA->Hp->VK->Prop:=λy H Q=>∃(p:yR) (ns:yV),y=[.ref p]/\H p=some (.lst (ns.map V.int))/\Q (.int ns.sum) H
theorem Ja:∀ {ns:yV}{us:yX},Av (ns.map V.int) us->IntsAre us ns
 | [],us,h=>by cases h;exact .nil
 | n::ns,us,h=>by
  cases h with
  | cons r t=>obtain⟨k,rfl⟩:=r;exact .cons n k (Ja t)
theorem GP(O:X.calm=true):Bo X (.builtin "sum") R8:=by
 intro ad s σ H y us Q I r h;obtain⟨p,ns,rfl,hp,q⟩:=h;obtain⟨u,rfl,ru⟩:=r.one;cases ru;obtain⟨D,rv,pl,hz⟩:=I.list (Al.of hp);have hi:=Ja rv;obtain⟨y,B⟩:=AllInts.items hi.allInts;have Z:s.heap.IsList p (intItems y):=B ▸ pl.isList;refine sum_intListG (I.ok.hd O) Z λh' tk J G=>?_
 have e1:ns=y.toList.map (λx=>x.fst):=by rw[<-gu,<-B,List.toList_toArray,hi.numsOf]
 have e2:preSum (numAt y) y.size=ns.sum:=by
  rw[preSum_eq,Z6 (by simp),<-e1]
 rw[e2];exact⟨.int ns.sum,H,I.kept λb o K=>G b o K,⟨J,rfl⟩,q⟩
end
def FO(lo st:Int)(n:Nat):It:= { go:=λi _=>i<n,yld:=λi H x y=>y=H/\x= .int (lo+i * st),stop:=λi _=>n<=i}
theorem R9{P:yP}{w:yN}{K:Fgx}{tg:yL}(it:yR)(lo st:Int)(n:Nat):CV P w K tg (FO lo st n) [it] it (λi h=>IsRangeIter h it (lo+(i:Nat) * st) ((n:Int)-(i:Nat)) st) where
 mem:=by simp
 obj:=λi h y b B=>by
  obtain rfl:b=it:=by simpa using B
  exact⟨_,y,λv z=>by
   have z':Data.fields _=Data.cell v:=z;cases z'⟩
 keep:=λi h G y k=>k it (by simp) _ y
 item:=by
  intro X O hw hK hc i ad s σ H E I J y hg;subst O hw hK;obtain⟨f0,Z,f2,f3,f4,f5⟩:=J it (by simp);have W:=Walks.range (prog:=X.prog) (w:=X.w) (I.ok.hd hc) it lo st n;refine W.item i s _ _ hg y λv G tk hv D kk=>?_
  obtain⟨t,rfl⟩:=hv;have I1:Ac X ad σ H { s with heap:=G,toks:=tk}:=I.turned (λb o B e=>kk b o (by simpa using B) e) f0 Z f3 f4 f5;exact⟨_,rfl,Gm (s:= { s with heap:=G,toks:=tk}) (n:="range_iterator") D rfl rfl (by decide) ⟨.int (lo+i * st),H,I1,⟨t,rfl⟩,⟨rfl,rfl⟩,D,λb B=>(J b B).1⟩⟩
 done:=by
  intro X O hw hK hc i ad s σ H E I J y hg;subst O hw hK;obtain⟨f0,Z,f2,f3,f4,f5⟩:=J it (by simp);exact fE (I.ok.hd hc) y (by have:n<=i:=hg;omega) λG eb=>⟨rfl,I.turned (t':=s.toks) (λb o B e=>eb b o B e) f0 Z f3 f4 f5⟩
 self:=λ_ _ _ _ _ y h=>cH y h
def DC(i j k:Int):Nat:=(Builtin.Range.rangeSize i j k).toNat
theorem Md{i j k:Int}(h:1<=k)(hi: -1000<=i)(B:j<=1000):0<=Builtin.Range.rangeSize i j k/\Builtin.Range.rangeSize i j k<=2001:=by
 unfold Builtin.Range.rangeSize;rw[YN (by omega)];split
 .have D:0<=(j-i-1)/ k:=fz (by omega) (by omega);have y:(j-i-1)/ k<=(j-i-1):=Int.ediv_le_self _ (by omega);omega
 .omega
theorem Sa{i j k:Int}(h:1<=k)(J:k<=1000)(hi: -1000<=i)(B:i<=1000)(D: -1000<=j)(y:j<=1000):Builtin.Range.small i j k=true:=by
 obtain⟨a,b⟩:=Md h hi y;have f:∀z:Int,-5000<=z->z<=5000->Builtin.Range.rangeFitsLong z=true:=λz K G=>by
  unfold Builtin.Range.rangeFitsLong;simp only[Z5,Zf];omega
 unfold Builtin.Range.small;rw[f i (by omega) (by omega),f j (by omega) (by omega),f k (by omega) (by omega),f _ (by omega) (by omega),YN (by omega),f (j+(k-1)) (by omega) (by omega)];simp
theorem Sb{lo st:Int}{n:Nat}{g:TG}{Z:TS}{D:Da}{σ:St}{H:Hp}(J:Nat->St->Hp->Prop)(h0:J 0 σ H)
  (hs:∀i σ H,i<n->J i σ H->g (.int (lo+i * st)) σ H fun B O=>Z { D with nx:=J (i+1),ct:=J (i+1),bk:=D.nx} B O) (hd:∀σ H,J n σ H->D.nx σ H):
  ∃W:Nat->Nat->St->Hp->Prop,(∃m,W 0 m σ H)/\∀i m σ H,W i m σ H->
   ((FO lo st n).stop i H/\D.nx σ H)\/((FO lo st n).go i H/\∃N:St->Hp->Prop,(∀K H',N K H'->∃m',m'<m/\W (i+1) m' K H')/\∀x H',(FO lo st n).yld i H x H'->g x σ H' fun B O=>Z { D with nx:=N,ct:=N,bk:=D.nx} B O):=by
 refine⟨λi m σ H=>m=n-i/\i<=n/\J i σ H,⟨n,by simp,Z1 _,h0⟩,?_⟩;rintro i m σ H ⟨rfl,hi,p⟩
 by_cases G:i<n
 .refine .inr ⟨G,J (i+1),fun K H' p'=>⟨n-(i+1),by omega,rfl,G,p'⟩,λx H' zq=>?_⟩;obtain⟨e,y⟩:=zq;subst e y;exact hs i σ _ G p
 .obtain rfl:i=n:=by omega
  exact .inl ⟨Y5 _,hd σ H p⟩
end L2
namespace MF
open L2
variable{α:Type}{i:Nat}{h:Int}{ws:List Bool}{p:yR}{H:Hp}{xs:zA}
theorem _root_.L2.walk_enum{P:yP}{w:yN}{K:Fgx}{S:AY P w K}{a:yR}{xs:zA}{cap:List (Option Nat)}{g:TG}{O:TT}{J:TE}{σ:L2.St}{Q:zA->Hp->Prop}{H:Hp}(B:Nat->zA->Hp->Prop)(hn:xs.length<=100000)(h0:B 0 [] H)(hz:∀i zs H,B i zs H->zs.length<=i)
  (G:∀i zs H,B i zs H->S.Sq H a xs)
  (hs:∀i x zs H T,xs[i]? =some x->B i zs H->H T=none->g (.ref T) (AK cap σ) (upd H T (.tup [.int i,x])) fun D H2=>Keep (AK cap σ) D/\O D H2 λb Z=>br b (J D Z λy H4=>B (i+1) (zs++[y]) H4) (B (i+1) zs Z))
  (hd:∀zs H,B xs.length zs H->Q zs H):DV (E1 S a) cap g O J σ Q H:=
 Eu xs.length B hn h0 hz (λi zs H hi p=>by
  have q:=G i zs H p;refine⟨⟨xs,xs[i],q,by simp[hi]⟩,λv H' zq=>?_⟩;obtain⟨T,e,n,y⟩:=zq;subst e;rw[y xs xs[i] q (by simp[hi])];exact hs i xs[i] zs H T (by simp[hi]) p n)
  λzs H p=>⟨⟨xs,G _ zs H p,rfl⟩,hd zs H p⟩
theorem _root_.L2.for_enum{P:yP}{w:yN}{K:Fgx}{S:AY P w K}{a:yR}{xs:zA}{g:TG}{tb:TS}{D:Da}{σ:L2.St}{H:Hp}(G:Nat->L2.St->Hp->Prop)(h0:G 0 σ H)(hl:∀i σ H,G i σ H->S.Sq H a xs)
  (hs:∀i x σ H T,xs[i]? =some x->G i σ H->H T=none->g (.ref T) σ (upd H T (.tup [.int i,x])) fun J Z=>tb { D with nx:=G (i+1),ct:=G (i+1),bk:=D.nx} J Z) (hd:∀σ H,G xs.length σ H->D.nx σ H):
  ∃W:Nat->Nat->L2.St->Hp->Prop,(∃m,W 0 m σ H)/\∀i m σ H,W i m σ H->
   ((E1 S a).stop i H/\D.nx σ H)\/((E1 S a).go i H/\∃N:L2.St->Hp->Prop,(∀O H',N O H'->∃m',m'<m/\W (i+1) m' O H')/\∀x H',(E1 S a).yld i H x H'->g x σ H' fun J Z=>tb { D with nx:=N,ct:=N,bk:=D.nx} J Z):=by
 refine⟨λi m σ H=>m=xs.length-i/\i<=xs.length/\G i σ H,⟨xs.length,by simp,Z1 _,h0⟩,?_⟩;rintro i m σ H ⟨rfl,hi,p⟩;have q:=hl i σ H p
 by_cases B:i<xs.length
 .refine .inr ⟨⟨xs,xs[i],q,by simp[B]⟩,G (i+1),fun O H' p'=>⟨xs.length-(i+1),by omega,rfl,B,p'⟩,λx H' zq=>?_⟩;obtain⟨T,e,n,y⟩:=zq;subst e;rw[y xs xs[i] q (by simp[B])];exact hs i xs[i] σ H T (by simp[B]) p n
 .obtain rfl:i=xs.length:=by omega
  exact .inl ⟨⟨xs,q,rfl⟩,hd σ H p⟩
structure PL where
 bs:List (Int×Int)
 es:List (Int×Int×Int)
 lo:Int
 hi:Int
 st:Int
noncomputable abbrev bD(q:Int×Int):yQ:= .tuple [.int q.1,.int q.2]
noncomputable abbrev eD(q:Int×Int×Int):yQ:= .tuple [.int q.1,.int q.2.1,.int q.2.2]
noncomputable def PL.d(P:PL):yQ:= .tuple [.tuple (P.bs.map bD),.tuple (P.es.map eD),.tuple [.int P.lo,.int P.hi,.int P.st]]
structure PL.ok(P:PL):Prop where
 b:∀q∈P.bs,1<=q.1/\q.1<=9/\1<=q.2/\q.2<=9
 b1:1<=P.bs.length
 b4:P.bs.length<=4
 e:∀q∈P.es,1<=q.1/\q.1<=9/\0<=q.2.1/\q.2.1<=7/\1<=q.2.2/\q.2.2<=8
 e4:P.es.length<=4
 lo0:0<=P.lo
 ls:P.lo<=P.st
 sh:P.st<=P.hi
 h4:P.hi<=40
structure FT where
 b:Int
 out:Bool
 f:Int
 l:Int
def wS(b:Bool):Str:=if b then"out" else"scaled"
abbrev wV(b:Bool):V:= .str (wS b)
noncomputable abbrev FT.d(x:FT):yQ:= .tuple [.int x.b,.str (wS x.out),.int x.f,.int x.l]
structure SY where
 ex:yV
 fs:List FT
noncomputable def SY.d(S:SY):yQ:= .tuple [.tuple (S.ex.map .int),.tuple (S.fs.map FT.d)]
structure FT.ok(x:FT)(n h:Nat):Prop where
 b0:0<=x.b
 bn:x.b<n
 f0:0<=x.f
 fl:x.f<=x.l
 lh:x.l<h
structure SY.ok(S:SY)(n:Nat):Prop where
 x1:1<=S.ex.length
 x8:S.ex.length<=8
 x:∀u∈S.ex,0<=u/\u<=20
 f4:S.fs.length<=4
 f:∀x∈S.fs,x.ok n S.ex.length
noncomputable def BX(ws:List Bool)(m:Int):Int:=if ws.any id then 0 else if ws.any (!·) then m / 2 else m
noncomputable def Ch(b h:Int)(x:FT):Bool:=x.b==b && decide (x.f<=h) && decide (h<=x.l)
noncomputable def BC(fs:List FT)(b h:Int):List Bool:=(fs.filter (Ch b h)).map FT.out
noncomputable def CB(bs:List (Int×Int))(fs:List FT)(h:Int):yV:=bs.zipIdx.map λq=>BX (BC fs q.2 h) q.1.1
noncomputable def caps(P:PL)(S:SY):yZ:=(List.range S.ex.length).map fun(h:Nat)=>CB P.bs S.fs (h:Int)
noncomputable def drawn(q:Int×Int×Int)(h:Int):Int:=if h<q.2.1\/(h-q.2.1) % q.2.2≠0 then 0 else q.1
noncomputable def draws(P:PL)(S:SY):yV:=S.ex.zipIdx.map λq=>q.1+(P.es.map λe=>drawn e q.2).sum
abbrev AR(r:yV):yQ:= .tuple (r.map .int)
noncomputable def Me(P:PL)(S:SY):yQ:= .tuple ((caps P S).map AR)
noncomputable def Jb(P:PL)(S:SY):yQ:=AR (draws P S)
def ret(H:Hp)(Q:VK)(p:yR)(d:yQ):Prop:=∀v y,Ab H y->Aa p y d v->Q v y
theorem A8{l:List α}{x:α}(h:l[i]? =some x):l.take (i+1)=l.take i++[x]:=by rw[List.take_add_one,h];rfl
theorem Jc{bs:List (Int×Int)}{fs:List FT}{q:Int×Int}(y:bs[i]? =some q):(CB bs fs h)[i]? =some (BX (BC fs i h) q.1):=by
 unfold CB;rw[YU,di,y];simp
theorem Jd{bs:List (Int×Int)}{fs:List FT}:(CB bs fs h).length=bs.length:=by unfold CB;simp
theorem Je{P:PL}{S:SY}(h:i<S.ex.length):(caps P S)[i]? =some (CB P.bs S.fs i):=by
 unfold caps;rw[YU,bH h];rfl
theorem E8{P:PL}{S:SY}:(caps P S).length=S.ex.length:=by unfold caps;simp
theorem Jf{P:PL}{S:SY}{u:Int}(y:S.ex[i]? =some u):(draws P S)[i]? =some (u+(P.es.map λe=>drawn e i).sum):=by
 unfold draws;rw[YU,di,y];simp
theorem Dh{P:PL}{S:SY}:(draws P S).length=S.ex.length:=by unfold draws;simp
theorem GQ:BL (.str "out") (ws.map wV)=ws.any id:=by
 induction ws with
 | nil=>rfl
 | cons b ws ih=>
  unfold BL at ih ⊢;rw[ZA,aO,ih,aO];cases b<;>rfl
theorem Jg:BL (.str "scaled") (ws.map wV)=ws.any (!·):=by
 induction ws with
 | nil=>rfl
 | cons b ws ih=>
  unfold BL at ih ⊢;rw[ZA,aO,ih,aO];cases b<;>rfl
theorem GR:(ws.map wV).all C3=true:=by
 rw[dG,ZF];intro b _
 rfl
theorem Sc(b:Bool):BL (wV b) [.str "out",.str "scaled"]=true:=by cases b<;>rfl
theorem Mf{fs:List FT}{x:FT}{b:Int}(y:fs[i]? =some x):BC (fs.take (i+1)) b h=if Ch b h x then BC (fs.take i) b h++[x.out] else BC (fs.take i) b h:=by
 unfold BC;rw[A8 y,bp]
 by_cases c:Ch b h x=true
 .rw[YN c,bz c,YS];rfl
 .rw[Y8 c,c9 c,List.filter_nil,bv]
theorem Ad.mapGot{f:α->yQ}{l:List α}{x:V}(r:Ad p H (l.map f) xs)(h:xs[i]? =some x):∃a,l[i]? =some a/\Aa p H (f a) x:=by
 obtain⟨d,hd,y⟩:=r.got h;rw[YU]at hd;cases z:l[i]? with
 | none=>rw[z]at hd;cases hd
 | some a=>rw[z]at hd;cases hd;exact⟨a,rfl,y⟩
theorem Ad.ints:∀ {ns:yV}{xs:zA},Ad p H (ns.map .int) xs->xs=ns.map V.int
 | [],xs,r=>by unfold Ad at r;exact r
 | n::ns,xs,r=>by
  rw[ZA]at r;unfold Ad at r;obtain⟨x,t,rfl,y,rt⟩:=r;unfold Aa at y;rw[y,Ad.ints rt];rfl
theorem Ad.ofInts:∀ {ns:yV},Ad p H (ns.map .int) (ns.map V.int)
 | []=> .nil
 | n::ns=> .cons Aa.int Ad.ofInts
theorem Ad.snoc{ds:List yQ}{d:yQ}{x:V}(r:Ad p H ds xs)(h:Aa p H d x):Ad p H (ds++[d]) (xs++[x]):=r.append (.cons h .nil)
theorem Aa.row{a:yR}{r:yV}(h:H a=some (.tup (r.map V.int))):Aa p H (AR r) (.ref a):=Aa.tup h Ad.ofInts
theorem Ab.own{H':Hp}{b:yR}{o:HO}(s:Ab H H')(n:H b=none):Ab H (upd H' b o):=λx u q=>by rw[Ao (Bg q n)];exact s x u q
theorem Ad.four{a b c d:yQ}(r:Ad p H [a,b,c,d] xs):∃x y z w,xs=[x,y,z,w]/\Aa p H a x/\Aa p H b y/\Aa p H c z/\Aa p H d w:=by
 unfold Ad at r;obtain⟨x,s,rfl,G,r⟩:=r;unfold Ad at r;obtain⟨y,s,rfl,J,r⟩:=r;unfold Ad at r;obtain⟨z,s,rfl,B,r⟩:=r;unfold Ad at r;obtain⟨w,s,rfl,D,r⟩:=r;unfold Ad at r;subst r;exact⟨x,y,z,w,rfl,G,J,B,D⟩
theorem Sd{a b:V}(h:(!decide (a=b))=true):a≠b:=by simpa using h
structure Small(n k:Nat)(d:yQ):Prop where
 w:Cz d<=n
 dp:d.depth<=k
 nd:d.hasDict=false
theorem Mg{n k:Nat}:∀ {ds:List yQ},(∀d∈ds,Small n k d)->DB ds<=(n+2) * ds.length/\PyData.depthAll ds<=k/\PyData.hasDictAll ds=false
 | [],_=>⟨by unfold DB;exact Z1 _,by unfold PyData.depthAll;exact Z1 _,rfl⟩
 | d::ds,h=>by
  obtain⟨a,b,c⟩:=Mg λx y=>h x (YQ _ y)
  have s:=h d YR;refine⟨?_,?_,?_⟩
  .unfold DB;rw[Zw,Nat.mul_add];have:=s.w;omega
  .unfold PyData.depthAll;exact Nat.max_le.mpr ⟨s.dp,b⟩
  .unfold PyData.hasDictAll;rw[s.nd,c];rfl
theorem Se{n k m:Nat}{ds:List yQ}(h:∀d∈ds,Small n k d)(y:(n+2) * ds.length+4<=m):Small m (k+1) (.tuple ds):=by
 obtain⟨a,b,c⟩:=Mg h;exact⟨by unfold Cz;omega,by unfold PyData.depth;omega,by unfold PyData.hasDict;exact c⟩
theorem Small.nice{n k:Nat}{d:yQ}(h:Small n k d)(B:n<=1000000)(y:k<=20):FM d:=⟨YV h.w B,YV h.dp y,.inl h.nd⟩
theorem Mh{i:Int}(h:i.natAbs<10 ^ 6):Small 40 0 (.int i):=by
 refine⟨?_,Y5 0,rfl⟩;unfold Cz;rw[YN (bg h (by decide))];exact Y5 _
theorem Sf{r:yV}(h:∀i∈r,i.natAbs<10 ^ 6)(y:r.length<=20):Small 1000 1 (AR r):=Se (n:=40) (k:=0) (λd hd=>by
 obtain⟨i,hi,rfl⟩:=Zj.mp hd;exact Mh (h i hi)) (by rw[Y2];omega)
theorem Sg{ws:List Bool}{m:Int}(h0:0<=m)(y:m<=9):0<=BX ws m/\BX ws m<=m:=by
 unfold BX;split
 .omega
 .split
  .omega
  .omega
theorem Jh{P:PL}{S:SY}(ok:P.ok):∀r∈caps P S,(∀i∈r,0<=i/\i<=9)/\r.length=P.bs.length:=λr y=>by
 unfold caps at y;obtain⟨h,_,rfl⟩:=Zj.mp y;refine⟨λi hi=>?_,Jd⟩;unfold CB at hi;obtain⟨q,D,rfl⟩:=Zj.mp hi;obtain⟨b1,B,_⟩:=ok.b q.1 (dY D);have:=Sg (ws:=BC S.fs q.2 h) (m:=q.1.1) (by omega) B;omega
theorem Sh{q:Int×Int×Int}(B:1<=q.1)(y:q.1<=9):0<=drawn q h/\drawn q h<=9:=by
 unfold drawn;split<;>omega
theorem Mi{l:yV}(h:∀i∈l,0<=i/\i<=9):0<=l.sum/\l.sum<=9 * l.length:=by
 induction l with
 | nil=>exact⟨Za _,Za _⟩
 | cons a l ih=>
  have:=h a YR;have:=ih λi hi=>h i (YQ _ hi)
  rw[bF,Zw];omega
theorem Si{P:PL}{S:SY}(ok:P.ok){n:Nat}(so:S.ok n):∀i∈draws P S,0<=i/\i<=56:=λi hi=>by
 unfold draws at hi;obtain⟨q,G,rfl⟩:=Zj.mp hi;have a:=so.x q.1 (dY G);have b:=Mi (l:=P.es.map λe=>drawn e q.2) λi hi=>by
  obtain⟨e,B,rfl⟩:=Zj.mp hi;obtain⟨D,y,_⟩:=ok.e e B;exact Sh D y
 rw[Y2]at b;have:=ok.e4;omega
theorem Mj{l:yV}(h:i<l.length):l[i]? =some (l.getD i 0):=by rw[Y3,Y6 h];rfl
theorem Sj{f e:Int}{n t:Nat}(D:1<=e):t<DC f n e↔f+t * e<n:=by
 unfold DC Builtin.Range.rangeSize;rw[YN (by omega)]
 by_cases c:f<n
 .rw[YN c];have G:0<=((n:Int)-f-1)/ e:=fz (by omega) (by omega);have y:(t:Int)<=((n:Int)-f-1)/ e↔(t:Int) * e<=(n:Int)-f-1:=Int.le_ediv_iff_mul_le (by omega);constructor
  .intro h;have:=y.mp (by omega);omega
  .intro h;have:=y.mpr (by omega);omega
 .rw[Y8 c];have B:0<=(t:Int) * e:=av (by omega) (by omega);constructor
  .intro h;exact absurd h (Zs _)
  .intro h;omega
theorem Sk{m:Int}(c:ws.any id=false):m /(1+if ws.any (!·)=true then 1 else 0)=BX ws m:=by
 unfold BX;rw[c,Y8 (by decide:¬(false=true))];cases ws.any (!·) with
 | true=>rfl
 | false=>exact Int.ediv_one _
end MF
namespace L2
variable{X:Cx}
def Ml:zA->Hp->VK->Prop:=λy H Q=>∃(p:yR) (ns:yV),y=[.ref p]/\(H p=some (.lst (ns.map V.int))\/H p=some (.tup (ns.map V.int)))/\Q (.int ns.sum) H
theorem FP(hc:X.calm=true):Bo X (.builtin "sum") Ml:=by
 intro ad s σ H y us Q I r h;obtain⟨p,ns,rfl,D,q⟩:=h;rcases D with D | D
 .exact GP hc ad s σ H _ us Q I r ⟨p,ns,rfl,D,q⟩
 obtain⟨u,rfl,ru⟩:=r.one;cases ru;obtain⟨G,rv,pl,hz⟩:=I.tuple (Ae.of D);have hi:=Ja rv;obtain⟨y,hx⟩:=AllInts.items hi.allInts;have e1:ns=y.toList.map (λx=>x.fst):=by rw[<-gu,<-hx,List.toList_toArray,hi.numsOf]
 have e2:preSum (numAt y) y.size=ns.sum:=by
  rw[preSum_eq,Z6 (by simp),<-e1]
 have O:s.heap.IsTuple p (intItems y):=hx ▸(show s.heap.IsTuple p G.toArray from pl);refine call_sum_walkG (ZR O ?_);have B:p<s.heap.objs.size:=by
  obtain⟨o,K,_⟩:=id O;exact Y7 K
 refine⟨s.heap.objs.size,_,_,_,_,_,numAt y,rfl,Walks.tuple (A:=X.A.in1) (I.ok.hd hc) s.heap.objs.size p (YT B) (intItems y),⟨⟨_,YM _ rfl,rfl,rfl⟩,?_⟩,λb hb=>?_,λi v hv=>intItems_at hv,λh' tk t' hk=>?_⟩
 .obtain⟨o,K,J⟩:=id O;exact⟨o,Y1 _ K,J⟩
 .have:b=s.heap.objs.size\/b=p:=by simpa using hb
  rw[show(s.heap.push _).objs.size=s.heap.objs.size+1 from Array.size_push _];rcases this with rfl | rfl
  .exact be _
  .exact ZM B
 .have e3:(intItems y).size=y.size:=Array.size_map;rw[e3,e2];refine⟨.int ns.sum,H,I.kept λb o Z=>hk b o ?_ (Y1 _ Z),⟨t',rfl⟩,q⟩;intro z;have z':b=s.heap.objs.size:=by simpa using z
  exact absurd (Y7 Z) (by rw[z'];exact YX _)
end L2
namespace MF
open L2
variable{P:PL}{S:SY}{F:yZ}{i:Nat}
theorem _root_.L2.walk_zip{P:yP}{w:yN}{K:Fgx}{S1 S2:AY P w K}{a b:yR}{xs ys:zA}{cap:List (Option Nat)}{g:TG}{tt:TT}{Z:TE}{σ:L2.St}{Q:zA->Hp->Prop}{H:Hp}(B:Nat->zA->Hp->Prop)(hn:xs.length<=100000)(he:xs.length=ys.length)(h0:B 0 [] H)(hz:∀i zs H,B i zs H->zs.length<=i)
  (G:∀i zs H,B i zs H->S1.Sq H a xs/\S2.Sq H b ys)
  (hs:∀i x y zs H T,xs[i]? =some x->ys[i]? =some y->B i zs H->H T=none->g (.ref T) (AK cap σ) (upd H T (.tup [x,y])) fun D H2=>Keep (AK cap σ) D/\tt D H2 λb H3=>br b (Z D H3 λy H4=>B (i+1) (zs++[y]) H4) (B (i+1) zs H3))
  (hd:∀zs H,B xs.length zs H->Q zs H):DV (Ex S1 S2 a b) cap g tt Z σ Q H:=
 Eu xs.length B hn h0 hz (λi zs H hi p=>by
  obtain⟨q1,O⟩:=G i zs H p;have J:i<ys.length:=by omega
  refine⟨⟨xs,ys,xs[i],ys[i],q1,O,by simp[hi],by simp[J]⟩,λv H' zq=>?_⟩;obtain⟨T,e,n,y⟩:=zq;subst e;rw[y xs ys xs[i] ys[i] q1 O (by simp[hi]) (by simp[J])];exact hs i xs[i] ys[i] zs H T (by simp[hi]) (by simp[J]) p n)
  λzs H p=>⟨⟨xs,ys,(G _ zs H p).1,(G _ zs H p).2,rfl⟩,hd zs H p⟩
theorem Ab.evOwn{H y H':Hp}{R:yR}(s:Ab H y)(n:H R=none)(e:Ev R y H'):Ab H H':=λb o q=>(e b o (s b o q)).elim (λB=>by obtain⟨z,_⟩:=B;rw[z,n]at q;cases q) id
def FD(F:yZ):yQ:= .tuple (F.map AR)
structure Sl(P:PL)(S:SY)(F:yZ):Prop where
 len:F.length=S.ex.length
 row:∀(i:Nat) (r:yV),F[i]? =some r->r.length=P.bs.length
 bd:∀(i:Nat) (r:yV) (j:Nat) (x c:Int),F[i]? =some r->r[j]? =some x->(CB P.bs S.fs i)[j]? =some c->0<=x/\x<=c
structure Tri(p:yR)(H:Hp)(P:PL)(S:SY)(F:yZ)(v u w:V):Prop where
 ok:P.ok
 so:S.ok P.bs.length
 fo:Sl P S F
 r:Aa p H P.d v
 ru:Aa p H S.d u
 rw:Aa p H (FD F) w
def made(F:yZ)(i:Nat):Int:=(F.getD i []).sum
noncomputable def EB(P:PL)(S:SY)(i:Nat):Int:=(draws P S).getD i 0
def E9(hi m:Int):Int:=if 0>m-hi then 0 else m-hi
noncomputable def Bn(P:PL)(S:SY)(F:yZ):Nat->Int
 | 0=>P.st
 | i+1=>Bn P S F i+(made F i-EB P S i)-E9 P.hi (Bn P S F i+(made F i-EB P S i))
noncomputable def BP(P:PL)(S:SY)(F:yZ)(i:Nat):Int:=Bn P S F i+(made F i-EB P S i)
theorem FQ:Bn P S F (i+1)=BP P S F i-E9 P.hi (BP P S F i):=rfl
structure Sm(P:PL)(S:SY)(F:yZ)(k:Nat)(s:Option (Int×Int)):Prop where
 le:k<=S.ex.length
 up:∀i,i<k->P.lo<=BP P S F i
 fin:(s=none/\k=S.ex.length)\/(k<S.ex.length/\BP P S F k<P.lo/\s=some ((k:Int),P.lo-BP P S F k))
theorem FR{r:yV}(h:F[i]? =some r):made F i=r.sum:=by unfold made;rw[Y3,h];rfl
theorem FS{d:Int}(h:(draws P S)[i]? =some d):EB P S i=d:=by unfold EB;rw[Y3,h];rfl
end MF
namespace L2
section
theorem Sn(l:yR)(items:Array yU)(n:Nat)(dd:Option yR)(B:Array (yW))(u:Tok):
  Meets (Builtin.«tuple.__mul__» ⟨[.ref l,.int 1 u],[]⟩) (λ_ R s=>s.heap.get? l=some { cls:= .type "tuple",dict:=dd,data:= .seq items n,slots:=B}/\R (.ok (.ret (Value.ref l))) s):=
 .of_wp λprog w A R s h=>by
  obtain⟨D,g,d,tk,os⟩:=s;obtain⟨y,h⟩:=h;have G:=AutoSeq1.idx_int;have K:=bZ;have J:IsTup D l items:=⟨_,y,rfl,n,rfl⟩
  wp_walk using Zu y
  exact⟨_,rfl,h⟩
variable{X:Cx}
def So:R2:=λx y H Q=>∃a k B,x= .ref a/\y= .int k/\H a=some (.tup B)/\B≠ []/\1<=k/\k<=100/\B.length<=100/\E6 H (List.replicate k.toNat B).flatten Q
theorem Sr:OpR X (binaryOp .Mult) So:=by
 intro ad s σ H x y v u Q I J ry h;obtain⟨a,k,xs,rfl,rfl,G,hx,h1,h2,h3,q⟩:=h
 by_cases hk:k=1
 .subst hk;cases J;obtain⟨t,rfl⟩:=ry;obtain⟨B,r,ht,hz⟩:=I.tuple (Ae.of G);obtain⟨⟨cls,K,data,O⟩,D,Z,n,hd⟩:=id ht;simp only at Z hd;subst Z hd;refine eM (T:="tuple") (U:="int") (by decide) ⟨_,D,rfl⟩ (λs'=>eK s' 1 t) LY F.fills_int_mul dg LZ F.slot_int_index.lookup
   (aF dg (eK s 1 t) F.entry_int_rmul (F.args_int_rmul_2 _ _) (L6 1 t a B.toArray n K O) ⟨D,rfl,⟨_,D,rfl⟩,?_⟩)
  refine aF cQ ⟨_,D,rfl⟩ F.entry_tuple_mul (F.args_tuple_mul_2 _ _) (Sn a B.toArray n K O t) ⟨D,?_⟩;refine⟨.ref a,H,I,rfl,q a H (Ab.refl _) ?_⟩;rw[G];simp
 .exact RP ad s σ H _ _ v u Q I J ry ⟨a,k,xs,rfl,rfl,G,hx,by omega,h2,h3,q⟩
end
section
variable{sc:Scope}
variable{X:Cx}
def GS(y:Scope)(x:Str):Bool:=match y.names.lookup x with | some .local =>true | some .cell=>true | some .free=>true | _=>false
def GT(y:Scope)(x:Str):Bool:=match y.names.lookup x with | some .local =>true | some .cell=>true | _=>false
def GU(y:Scope)(x:Str):Bool:=match y.names.lookup x with | some .local =>true | _=>false
theorem Ss{x:Str}(h:GS sc x=true):FB sc x:=by
 unfold GS at h;split at h
 .exact .inl (by assumption)
 .exact .inr (.inl (by assumption))
 .exact .inr (.inr (by assumption))
 .cases h
theorem AA{x:Str}(h:GT sc x=true):En sc x:=by
 unfold GT at h;split at h
 .exact .inl (by assumption)
 .exact .inr (by assumption)
 .cases h
theorem Di{f:Bool}{x:Str}(h:(f || GU sc x)=true):f=true\/sc.names.lookup x=some .local :=by
 rcases Bool.or_eq_true_iff.mp h with h | h
 .exact .inl h
 .unfold GU at h;split at h
  .exact .inr (by assumption)
  .cases h
theorem cw(i:Nat){x:Str}{pos:Pos}(y:X.N[i]? =some x)(B:GS X.env.scope x=true)(hd:(x==("__debug__" :Str) || x==("__classdict__" :Str))=false):PE X (.Name x pos) (BS i):=
 cv i y (Ss B) (dh.mp hd).1 (dh.mp hd).2
theorem Su{x:Str}{pos:Pos}(i:Nat)(y:X.N.Nodup)(hi:X.N[i]? =some x)(D:GT X.env.scope x=true)(B:(X.fn x || GU X.env.scope x)=true):PG X (.Name x pos) (Ep i):=Qh y hi (AA D) (Di B)
noncomputable def Ji(X:Cx)(i:Nat)(x:Str):Bool:=X.N[i]? ==some x &&(GS X.env.scope x && !(x==("__debug__" :Str) || x==("__classdict__" :Str)))
theorem cx(i:Nat){x:Str}{pos:Pos}(h:Ji X i x=true):PE X (.Name x pos) (BS i):=by
 obtain⟨D,y⟩:=Zg.mp h;obtain⟨y,B⟩:=Zg.mp y;exact cw i (gE D) y (by simpa using B)
noncomputable def Mm(X:Cx)(i:Nat)(x:Str):Bool:=X.N[i]? ==some x &&(GT X.env.scope x &&(X.fn x || GU X.env.scope x))
theorem Sv{x:Str}{pos:Pos}(i:Nat)(B:X.N.Nodup)(h:Mm X i x=true):PG X (.Name x pos) (Ep i):=by
 obtain⟨G,y⟩:=Zg.mp h;obtain⟨y,D⟩:=Zg.mp y;exact Su i B (gE G) y D
theorem AG{l:List Str}(h:decide l.Nodup=true):l.Nodup:=Z0 h
def nS:yL->Bool | .Starred _ _=>false | _=>true
theorem GV{e:yL}{es:List yL}{env:Env}(h:nS e=true):starEach (e::es) env=(false,eval e env)::starEach es env:=by
 cases e<;>first | rfl | exact absurd h YZ
variable{e1 e2 e3 e4:yL}{t1 t2 t3 t4:TE}
theorem Fa(B:PE X e1 t1)(y:nS e1=true):PA X [e1] (Bi t1 CM):=Bf B pa_nil (GV y)
theorem FU(D:PE X e1 t1)(B:PE X e2 t2)(y:(nS e1 && nS e2)=true):PA X [e1,e2] (Bi t1 (Bi t2 CM)):=Bf D (Fa B (Zg.mp y).2) (GV (Zg.mp y).1)
theorem Jj(G:PE X e1 t1)(B:PE X e2 t2)(D:PE X e3 t3)(y:(nS e1 &&(nS e2 && nS e3))=true):PA X [e1,e2,e3] (Bi t1 (Bi t2 (Bi t3 CM))):=Bf G (FU B D (Zg.mp y).2) (GV (Zg.mp y).1)
theorem EC(G:PE X e1 t1)(B:PE X e2 t2)(D:PE X e3 t3)(h4:PE X e4 t4)(y:(nS e1 &&(nS e2 &&(nS e3 && nS e4)))=true):PA X [e1,e2,e3,e4] (Bi t1 (Bi t2 (Bi t3 (Bi t4 CM)))):=Bf G (Jj B D h4 (Zg.mp y).2) (GV (Zg.mp y).1)
end
variable{X:Cx}
theorem cy(i:Nat){x:Str}{pos:Pos}(h:autoParam (Ji X i x=true) L3):PE X (.Name x pos) (BS i):=cx i h
theorem Ag{x:Str}{pos:Pos}(i:Nat)(y:X.N.Nodup)(h:autoParam (Mm X i x=true) L3):PG X (.Name x pos) (Ep i):=Sv i y h
theorem zD{X:Cx}{x:Str}{pos:Pos}(i:Nat)(y:autoParam (decide X.N.Nodup=true) L3)(h:autoParam (Mm X i x=true) L3):PG X (.Name x pos) (Ep i):=Ag i (AG y) h
theorem zC{X:Cx}{pos:Pos}(i:Nat){x:Str}{e:yL}{G:TE}{B:Pos}(a:X.N.Nodup)(he:PE X e G)(b:autoParam (X.N[i]? =some x) L3)(c:autoParam (GT X.env.scope x=true) L3)(hs:autoParam (swapsWith e (some (.Name x B)) pos.line X.env=pure false) L3)(hf:autoParam (X.fn x=true\/X.env.scope.names.lookup x=some .local) F'):PS X (.Assign [.Name x B] e pos) (Ij G (Ep i)):=AB a b (AA c) he hs hf
variable{e1 e2 e3 e4:yL}{t1 t2 t3 t4:TE}
theorem Ai(B:PE X e1 t1)(y:autoParam (nS e1=true) L3):PA X [e1] (Bi t1 CM):=Fa B y
theorem Aq(D:PE X e1 t1)(y:PE X e2 t2)(B:autoParam ((nS e1 && nS e2)=true) L3):PA X [e1,e2] (Bi t1 (Bi t2 CM)):=FU D y B
theorem AQ(G:PE X e1 t1)(y:PE X e2 t2)(D:PE X e3 t3)(B:autoParam ((nS e1 &&(nS e2 && nS e3))=true) L3):PA X [e1,e2,e3] (Bi t1 (Bi t2 (Bi t3 CM))):=Jj G y D B
theorem C6(G:PE X e1 t1)(y:PE X e2 t2)(B:PE X e3 t3)(h4:PE X e4 t4)(D:autoParam ((nS e1 &&(nS e2 &&(nS e3 && nS e4)))=true) L3):PA X [e1,e2,e3,e4] (Bi t1 (Bi t2 (Bi t3 (Bi t4 CM)))):=EC G y B h4 D
end L2
namespace L2
noncomputable abbrev D0(O J G:yL)(y:List yL)(K D:yL)(B:List yL)(scope:Scope)(pos:Pos):yL:= .ListComp O [⟨J,G,y,0⟩,⟨K,D,B,0⟩] scope pos
section
variable{prog:yP}{w:yN}{A:yO}{R:Result -> yS -> Prop}{s:yS}{ii tg1 it1 tg2 it2:yL}{ifs1 ifs2:List yL}{scope:Scope}{pos:Pos}{it ig:yU}{env:Env}
theorem Sw(h0:codeAny (model prog w) A (.compLoop (D0 ii tg1 it1 ifs1 tg2 it2 ifs2 scope pos) 1 it ig env) R s)
  (h:wpAny (model prog w) A (pyIter it) (λy s'=>codeAny (model prog w) A (.compLoop (D0 ii tg1 it1 ifs1 tg2 it2 ifs2 scope pos) 1 y ig env) R s') (notedBy (model prog w) A env λx s'=>R (.error x) s') s):
  codeAny (model prog w) A (.compStart (D0 ii tg1 it1 ifs1 tg2 it2 ifs2 scope pos) 1 it ig env) R s:=by
 refine fA (id (wpAny_notedAt (id (id (Y0 (bh (wpAny_ite ?_)))))));split
 .exact Y0 (Y4 (Y4 ⟨rfl,h0⟩))
 .exact Y0 (aE (Y0 (aN (Y0 (Zi h (λy s' B=>Y4 ⟨rfl,B⟩) λ_ _ z=>z)))))
end
def Jk(Z:TI)(g2:TG)(O:TT)(te:TE):St->zA->Hp->(zA->Hp->Prop)->Prop:=fun σ ys H N=>Z σ H λJ H1=>
 ∃W:Nat->Nat->zA->Hp->Prop,(∃m,W 0 m ys H1)/\∀j m D H,W j m D H->
  (J.stop j H/\N D H)\/
  (J.go j H /\ D.length < sizeLine /\ ∃ N2 : zA -> Hp -> Prop, (∀ G K, N2 G K -> ∃ m', m' < m /\ W (j + 1) m' G K) /\ ∀ x K, J.yld j H x K -> g2 x σ K fun B H2 => Keep σ B /\ O B H2 λb H3 =>
   br b (te B H3 λy H4=>N2 (D++[y]) H4) (N2 D H3))
def Mo(wi:TI)(cap:List (Option Nat))(g:TG)(tt:TT)(O:TI)(g2:TG)(K:TT)(te:TE):St->Hp->(zA->Hp->Prop)->Prop:=fun Z H Q=>wi Z H λJ H1=>
 ∃W:Nat->Nat->zA->Hp->Prop,(∃m,W 0 m [] H1)/\∀i m G H,W i m G H->
  (J.stop i H/\Q G H)\/
  (J.go i H /\ ∃ N : zA -> Hp -> Prop, (∀ B D, N B D -> ∃ m', m' < m /\ W (i + 1) m' B D) /\ ∀ x D, J.yld i H x D -> g x (AK cap Z) D fun y H2 => Keep (AK cap Z) y /\ tt y H2 λb H3 =>
   br b (Jk O g2 K te y G H3 N) (N G H3))
theorem Sx{X:Cx}{tg D J y ii:yL}{K G:List yL}{scope:Scope}{pos i0:Pos}{wi O:TI}{g g2:TG}{tt Z:TT}{te:TE}{N':List Str}{cap:List (Option Nat)}{use:Option (yU->Sem Unit)}{Q':VSP}
  {ad:PNs}{s:yS}{σ:St}{H:Hp}{Q:zA->Hp->Prop}
  (hc:X.calm=true) (hi:PI X tg D wi) (B:AI X.env.scope X.N scope N' cap) (hg:∀s H ex C,PG (AO X N' scope s H ex C) tg g) (ht:∀s H ex C,Ce (AO X N' scope s H ex C) K tt)
  (i4:∀s H ex C,PI (AO X N' scope s H ex C) J y O) (i6:∀s H ex C,PG (AO X N' scope s H ex C) J g2) (i5:∀s H ex C,Ce (AO X N' scope s H ex C) G Z) (he:∀s H ex C,PE (AO X N' scope s H ex C) ii te)
  (hs:∀x,foldedSetIterable D X.env x=pure x) (i7:∀env x,foldedSetIterable y env x=pure x) (I:Ac X ad σ H s) (h:Mo wi cap g tt O g2 Z te σ H Q)
  (fin:∀(ig C:yR) (H:Hp) (ys:zA) (s':yS),H ig=none->Ac X ad σ (upd H ig (.lst ys)) s'->Gz X ad C (upd H ig (.lst ys)) s'->Q ys H->compPost (model X.prog X.w) X.A X.xe use Q' (.ref ig) C (.ok .next) s'):
  wpAny (model X.prog X.w) X.A (comprehension (D0 ii tg D K J y G scope pos) scope X.env i0 (newList []) false (eval D X.env) use) Q' X.xe s:=
 LK Rh (body:=λie ig env=>IN (D0 ii tg D K J y G scope pos) 0 y ie ig env) (Bt:=LJ LF O g2 Z (IO te)) (Cd:=λ_=>True) hc hi B hg ht (λ_ _ _=>rfl)
  (λs H ex C a A=>Ri (body:=λie=>GB (D0 ii tg D K J y G scope pos) 1 ii ie (.ref a) _) A rfl (i7 _) (λ_=>rfl) Sw (i4 s H ex C) (i6 s H ex C) (i5 s H ex C) (LH A rfl (he s H ex C)) λ_ _ z=>z) (λ_ _ z=>⟨trivial,z⟩) hs I h fin
def Sy(J:It)(g2:TG)(O:TT)(te:TE)(σ:St)(ys:zA)(N:zA->Hp->Prop)(H1:Hp):Prop:=
 ∃W:Nat->Nat->zA->Hp->Prop,(∃m,W 0 m ys H1)/\∀j m D H,W j m D H->
  (J.stop j H/\N D H)\/
  (J.go j H /\ D.length < sizeLine /\ ∃ Z : zA -> Hp -> Prop, (∀ G K, Z G K -> ∃ m', m' < m /\ W (j + 1) m' G K) /\ ∀ x K, J.yld j H x K -> g2 x σ K fun B H2 => Keep σ B /\ O B H2 λb H3 =>
   br b (te B H3 λy H4=>Z (D++[y]) H4) (Z D H3))
def Sz(J:It)(cap:List (Option Nat))(g:TG)(tt:TT)(O:TI)(g2:TG)(K:TT)(te:TE)(σ:St)(Q:zA->Hp->Prop)(H1:Hp):Prop:=
 ∃W:Nat->Nat->zA->Hp->Prop,(∃m,W 0 m [] H1)/\∀i m G H,W i m G H->
  (J.stop i H/\Q G H)\/
  (J.go i H /\ ∃ N : zA -> Hp -> Prop, (∀ B D, N B D -> ∃ m', m' < m /\ W (i + 1) m' B D) /\ ∀ x D, J.yld i H x D -> g x (AK cap σ) D fun y H2 => Keep (AK cap σ) y /\ tt y H2 λb Z =>
   br b (Jk O g2 K te y G Z N) (N G Z))
end L2
namespace MF
open L2
def SA(P:PL)(F:yZ):yV:=(List.range P.bs.length).map λb=>(F.map λr=>r.getD b 0).sum
def coal(P:PL)(F:yZ):Int:=(((SA P F).zip P.bs).map λq=>q.1 * q.2.2).sum
abbrev Lt(d:yQ):List Nat:=d.shown.cps.toList
noncomputable def tail(c:Nat):List yQ->List Nat
 | []=>[c]
 | d::ds=>44::32::(Lt d++tail c ds)
end MF
namespace L2
theorem Jl{P:yP}{w:yN}{K:Fgx}{S1 S2:AY P w K}{a b:yR}{xs ys:zA}{g:TG}{tb:TS}{D:Da}{σ:St}{H:Hp}(G:Nat->St->Hp->Prop)(he:xs.length=ys.length)(h0:G 0 σ H)(hl:∀i σ H,G i σ H->S1.Sq H a xs/\S2.Sq H b ys)
  (hs:∀i x y σ H T,xs[i]? =some x->ys[i]? =some y->G i σ H->H T=none->g (.ref T) σ (upd H T (.tup [x,y])) fun J H2=>tb { D with nx:=G (i+1),ct:=G (i+1),bk:=D.nx} J H2) (hd:∀σ H,G xs.length σ H->D.nx σ H):
  ∃W:Nat->Nat->St->Hp->Prop,(∃m,W 0 m σ H)/\∀i m σ H,W i m σ H->
   ((Ex S1 S2 a b).stop i H/\D.nx σ H)\/((Ex S1 S2 a b).go i H/\∃N:St->Hp->Prop,(∀O H',N O H'->∃m',m'<m/\W (i+1) m' O H')/\∀x H',(Ex S1 S2 a b).yld i H x H'->g x σ H' fun J H2=>tb { D with nx:=N,ct:=N,bk:=D.nx} J H2):=by
 refine⟨λi m σ H=>m=xs.length-i/\i<=xs.length/\G i σ H,⟨xs.length,by simp,Z1 _,h0⟩,?_⟩;rintro i m σ H ⟨rfl,hi,p⟩;obtain⟨q1,Z⟩:=hl i σ H p
 by_cases B:i<xs.length
 .have hy:i<ys.length:=by omega
  refine .inr ⟨⟨xs,ys,xs[i],ys[i],q1,Z,by simp[B],by simp[hy]⟩,G (i+1),fun O H' p'=>⟨xs.length-(i+1),by omega,rfl,B,p'⟩,λv H' zq=>?_⟩;obtain⟨T,e,n,y⟩:=zq;subst e;rw[y xs ys xs[i] ys[i] q1 Z (by simp[B]) (by simp[hy])];exact hs i xs[i] ys[i] σ H T (by simp[B]) (by simp[hy]) p n
 .obtain rfl:i=xs.length:=by omega
  exact .inl ⟨⟨xs,ys,q1,Z,rfl⟩,hd σ H p⟩
variable{tt tt2:TT}{te:TE}{σ:St}{Q:zA -> Hp -> Prop}{H:Hp}{wi2:TI}{g2:TG}
theorem SB{lo:Int}{n:Nat}{g:TG}{ys:zA}(B:Nat->zA->Hp->Prop)(h0:B 0 ys H)(hz:∀i zs H,B i zs H->zs.length<100000)
  (hs:∀i zs H,i<n->B i zs H->g (.int (lo+i)) σ H fun D H2=>Keep σ D/\tt D H2 λb J=>br b (te D J λy O=>B (i+1) (zs++[y]) O) (B (i+1) zs J))
  (hd:∀zs H,B n zs H->Q zs H):Sy (Db lo n) g tt te σ ys Q H:=by
 refine⟨λi m zs H=>m=n-i/\i<=n/\B i zs H,⟨n,by simp,Z1 _,h0⟩,?_⟩;rintro i m zs H ⟨rfl,hi,p⟩
 by_cases G:i<n
 .refine .inr ⟨G,bg (hz i zs H p) (by decide),B (i+1),λZ K p'=>⟨n-(i+1),by omega,rfl,G,p'⟩,λv K zq=>?_⟩;obtain⟨e,y⟩:=zq;subst e y;exact hs i zs _ G p
 .obtain rfl:i=n:=by omega
  exact .inl ⟨Y5 _,hd zs H p⟩
theorem SC{lo:Int}{n:Nat}{cap:List (Option Nat)}{g:TG}(G:Nat->zA->Hp->Prop)(h0:G 0 [] H)
  (hs:∀i zs H,i<n->G i zs H->g (.int (lo+i)) (AK cap σ) H fun B H2=>Keep (AK cap σ) B/\tt B H2 λb J=>br b (Jk wi2 g2 tt2 te B zs J (G (i+1))) (G (i+1) zs J))
  (hd:∀zs H,G n zs H->Q zs H):Sz (Db lo n) cap g tt wi2 g2 tt2 te σ Q H:=by
 refine⟨λi m zs H=>m=n-i/\i<=n/\G i zs H,⟨n,by simp,Z1 _,h0⟩,?_⟩;rintro i m zs H ⟨rfl,hi,p⟩
 by_cases D:i<n
 .refine .inr ⟨D,G (i+1),λO K Z=>⟨n-(i+1),by omega,rfl,D,Z⟩,λv K zq=>?_⟩;obtain⟨e,y⟩:=zq;subst e y;exact hs i zs _ D p
 .obtain rfl:i=n:=by omega
  exact .inl ⟨Y5 _,hd zs H p⟩
def SD(i:Nat)(Z:TI)(cap:List (Option Nat))(g:TG)(O:TT)(B:TI)(g2:TG)(y:TT)(te:TE):TS:=λD G H=>Mo Z cap g O B g2 y te G H λK J=>∀p,J p=none->D.nx (G.set i (some (.ref p))) (upd J p (.lst K))
theorem SE{X:Cx}{i:Nat}{y:Str}{tg J Z G ii:yL}{i4 K:List yL}{scope:Scope}{pos O i0:Pos}{wi:TI}{g:TG}(N':List Str)(cap:List (Option Nat))(hN:X.N.Nodup)(j6:X.N[i]? =some y)(hy:En X.env.scope y)
  (hc:X.calm=true) (hi:PI X tg J wi) (B:AI X.env.scope X.N scope N' cap) (hg:∀s H ex C,PG (AO X N' scope s H ex C) tg g) (ht:∀s H ex C,Ce (AO X N' scope s H ex C) i4 tt)
  (i5:∀s H ex C,PI (AO X N' scope s H ex C) Z G wi2) (i8:∀s H ex C,PG (AO X N' scope s H ex C) Z g2) (i6:∀s H ex C,Ce (AO X N' scope s H ex C) K tt2) (he:∀s H ex C,PE (AO X N' scope s H ex C) ii te)
  (i7:autoParam (swapsWith (D0 ii tg J i4 Z G K scope pos) (some (.Name y O)) i0.line X.env=pure true) L3)
  (hf:autoParam (X.fn y=true\/X.env.scope.names.lookup y=some .local) F')
  (hs:autoParam (∀x,foldedSetIterable J X.env x=pure x) B') (i9:autoParam (∀env x,foldedSetIterable G env x=pure x) K'):PS X (.Assign [.Name y O] (.ListComp ii [⟨tg,J,i4,0⟩,⟨Z,G,K,0⟩] scope pos) i0) (SD i wi cap g tt wi2 g2 tt2 te):=by
 intro ad s σ H D I h;rw[fQ _ _ _ _ i7];refine Y0 (aN (Y0 ?_));show wpAny _ X.A (do let _<-comprehension (D0 ii tg J i4 Z G K scope pos) scope X.env _ (newList []) false (eval J X.env) (some (assign (.Name y O) X.env))) _ _ s;refine Y0 (Zi (Sx (use:=some (assign (.Name y O) X.env)) (Q':=λ_ s'=>SP X ad D .next s') hc hi B hg ht i5 i8 i6 he hs i9 I h λig C H ys s' hn I' L q=>?_) (λ_ s' hq=>Y4 (Y4 hq)) λ_ _ e=>e);obtain⟨m,hm⟩:=L.ns;refine et (Ie I' hN j6 hy (show Aw (.ref ig) (.ref ig) from rfl) (λj5 j0 zq=>?_) hf);obtain⟨a,sb,ha⟩:=zq;have j3:C≠a:=by
  rcases ha with e | e
  .rw[e];exact L.loc
  .exact λz=>L.cell _ _ e z.symm
 refine⟨m,hm.sameBut sb j3,λh' j4=>?_⟩;exact⟨_,_,j0.turned (t':=j5.toks) (it:=C) (λb o hb e=>j4.extBut b o hb e) L.free L.loc (.inr L.sz) L.cell L.pin,q ig hn⟩
def SF(G:TE):TT:=fun D H Q=>G D H λx B=>∃a y,x= .ref a/\B a=some (.lst y)/\Q (!y.isEmpty) B
theorem SG{X:Cx}{a:yL}{D:TE}(ha:PE X a D)(he:autoParam (∀y,isTrue a X.env y=(do let v<-y;standAt a.pos;holding [v] (truthy v))) B'):PT X a (SF D):=by
 intro ad s O H Q I h;refine isTrue_plain (Ap (ha ad s O H _ I h) λv s1 Z=>?_) (he _);obtain⟨x,H1,B,K,q1⟩:=Z;obtain⟨b,xs,rfl,hb,q⟩:=q1;cases K;obtain⟨J,r,pl,hz⟩:=B.list (Al.of hb);have G:=r.length;have big:sizeLine<2 ^ 63:=by decide
 exact wpAny_truthy_list pl.isList (by simp only[Z4];omega) ⟨H1,B.tok _,by rw[Qz r];exact q⟩
theorem SH(l b:yR)(es:Array PySem.DictEntry)(ep:Nat)(y:Array yU)(O:Nat)(dd B:Option yR)(G D:Array (yW)):
  Meets (Builtin.«dict.__eq__» ⟨[.ref l,.ref b],[]⟩) (λ_ R s=>s.heap.get? l=some { cls:= .type "dict",dict:=dd,data:= .dict es ep,slots:=G}/\s.heap.get? b=some { cls:= .type "tuple",dict:=B,data:= .seq y O,slots:=D}/\R (.ok (.ret .notImplemented)) s):=
 .of_wp λprog w A R s h=>by obtain⟨hp,g,d,tk,os⟩:=s;obtain⟨J,K,h⟩:=h;have Z:=F.sub_tuple_dict;wp_walk using aj J,aj K;exact⟨_,rfl,h⟩
theorem SI(l b:yR)(es:Array PySem.DictEntry)(ep:Nat)(items:Array yU)(n:Nat)(dd y:Option yR)(D B:Array (yW)):
  Meets (Builtin.«tuple.__eq__» ⟨[.ref l,.ref b],[]⟩) (λ_ R s=>s.heap.get? l=some { cls:= .type "tuple",dict:=dd,data:= .seq items n,slots:=D}/\s.heap.get? b=some { cls:= .type "dict",dict:=y,data:= .dict es ep,slots:=B}/\R (.ok (.ret .notImplemented)) s):=
 .of_wp λprog w A R s h=>by obtain⟨O,g,d,tk,os⟩:=s;obtain⟨G,J,h⟩:=h;have K:=F.sub_dict_tuple;wp_walk using aj G,aj J;exact⟨_,rfl,h⟩
variable{X:Cx}
def SJ:R2:=λx y H Q=>∃p d e,Aa p H d x/\Aa p H e y/\e.canLay0=true/\e.hasDict=false/\e.depth<=20/\((d.canLay0=true/\d.hasDict=false/\Q (.bl (PyData.eqv d e)) H)\/(d= .dict []/\(∃es,e= .tuple es)/\Q (.bl false) H))
theorem Mp{k:Nat}(hr:AU k X.A):OpR X (compareOp .Eq) SJ:=by
 intro ad s σ H x y v u Q I rx ry h;obtain⟨p,d,e,rd,re,ce,he,dp,h⟩:=h;have un:=hr.un;obtain⟨bs,rb⟩:=Aa.reads I e y u he re ry;rcases h with⟨cd,hd,q⟩ | ⟨rfl,⟨es,rfl⟩,q⟩
 .obtain⟨as,ra⟩:=Aa.reads I d x v hd rd rx;exact SeqAt.compareEq_reads ra rb cd ce (by omega) (AT I q rfl)
 .unfold Aa at rd re;obtain⟨l,ks,rfl,_,_,hb⟩:=rd;obtain⟨b,xs,rfl,G,_⟩:=re;cases rx;cases ry;obtain⟨_,i0,vs,kv,o,i5,ep,Z,hx,i6,_⟩:=I.hok l _ hb;obtain⟨J,rv,⟨o2,B,K,n2,D⟩,_⟩:=I.tuple (Ae.of G);have i0:l≠b:=by
   intro z;subst z;rw[hb]at G;cases G
  have hc:=hx.1;obtain⟨cls,dd,data,sl⟩:=o;obtain⟨i7,O,data2,i4⟩:=o2;simp only at hc i6 K D;subst hc i6 K D;exact SeqAt.rc_eq_decline_or (k:=false) ⟨_,Z,rfl⟩ ⟨_,B,rfl⟩ (by decide) F.sub_tuple_dict F.slot_dict_eq F.slot_tuple_eq_refl
   (λ_ hq=>aF F.slot_dict_eq ⟨_,Z,rfl⟩ F.entry_dict_eq (F.args_dict_eq_2 _ _) (SH l b i5 ep J.toArray n2 dd O sl i4) ⟨Z,B,hq⟩)
   (λ_ hq=>aF F.slot_tuple_eq_refl ⟨_,B,rfl⟩ F.entry_tuple_eq (F.args_tuple_eq_2 _ _) (SI b l i5 ep J.toArray n2 O dd i4 sl) ⟨B,Z,hq⟩)
   (λ_ hq=>PySem.wpAny_isSame_ref_other i0 Z B (by simp) hq) (.inr (by omega)) (AT I q rfl)
end L2
namespace MF
open L2
variable{α:Type}{xs:List α}
structure TM where
 cs:yZ
 co:yV
 ds:yV
 lo:Int
 hi:Int
 st:Int
noncomputable def TM.d(T:TM):yQ:= .tuple [FD T.cs,AR T.co,AR T.ds,.tuple [.int T.lo,.int T.hi,.int T.st]]
noncomputable def terms(P:PL)(S:SY):TM:=⟨caps P S,P.bs.map (·.2),draws P S,P.lo,P.hi,P.st⟩
structure TM.ok(T:TM):Prop where
 l8:T.ds.length<=8
 lc:T.cs.length=T.ds.length
theorem SK{P:PL}{S:SY}{n:Nat}(so:S.ok n):(terms P S).ok:=⟨by show(draws P S).length<=8;rw[Dh];exact so.x8,by show(caps P S).length=(draws P S).length;rw[E8,Dh]⟩
noncomputable def part{y:Type}(xs:List y)(f l:Nat):List y:=(xs.drop f).take (l+1-f)
theorem Mq{f l:Nat}(h:f<=l)(y:l<xs.length):(part xs f l).length=l+1-f:=by
 unfold part;rw[Zk,bR];omega
theorem GW{xs:zA}{f l:Nat}(h:f<=l)(y:l<xs.length):Cb xs (some (f:Int)) (some ((l:Int)+1))=part xs f l:=by
 have e:((l:Int)+1)=((l+1:Nat):Int):=by omega
 unfold Cb part;rw[e,HT.sIx_nat,HT.sIx_nat,fB (by omega),fB (by omega)]
theorem GX{y:Type}{g:α->y}{f l:Nat}:part (xs.map g) f l=(part xs f l).map g:=by
 unfold part;rw[<-map_drop,<-List.map_take]
theorem Ad.part{p:yR}{H:Hp}:∀ {ds:List yQ}{xs:zA},Ad p H ds xs->∀f l,Ad p H (MF.part ds f l) (MF.part xs f l):=by
 have B:∀ {ds:List yQ}{xs:zA},Ad p H ds xs->∀f,Ad p H (ds.drop f) (xs.drop f):=by
  intro ds
  induction ds with
  | nil=>intro xs r f;unfold Ad at r;subst r;rw[drop_nil,drop_nil];exact .nil
  | cons d ds ih=>
   intro xs r f;have D:=r;unfold Ad at r;obtain⟨x,t,rfl,y,rt⟩:=r;cases f with
   | zero=>exact D
   | succ f=>exact ih rt f
 have tk:∀ {ds:List yQ}{xs:zA},Ad p H ds xs->∀f,Ad p H (ds.take f) (xs.take f):=by
  intro ds
  induction ds with
  | nil=>intro xs r f;unfold Ad at r;subst r;rw[take_nil,take_nil];exact .nil
  | cons d ds ih=>
   intro xs r f;unfold Ad at r;obtain⟨x,t,rfl,y,rt⟩:=r;cases f with
   | zero=>exact .nil
   | succ f=>exact .cons y (ih rt f)
 intro ds xs r f l;exact tk (B r f) _
noncomputable def most(T:TM)(f l:Nat):Int:=((part T.cs f l).map List.sum).sum
noncomputable def Fb(T:TM)(f l:Nat):Int:=(part T.ds f l).sum
noncomputable def Bs(T:TM)(f l:Nat):Bool:=decide ((if f=0 then T.st else T.hi)+most T f l<Fb T f l+T.lo)
def BY(f k:Nat):List (Nat×Nat):=(List.range k).map λi=>(f,f+i)
def BH(n k:Nat):List (Nat×Nat):=((List.range k).map λf=>BY f (n-f)).flatten
noncomputable abbrev pD(q:Nat×Nat):yQ:= .tuple [.int q.1,.int q.2]
theorem Mr{f k:Nat}:BY f (k+1)=BY f k++[(f,f+k)]:=by unfold BY;rw[bA,YS];rfl
theorem Ms{f k:Nat}:(BY f k).length=k:=by unfold BY;simp
theorem FV{n k:Nat}:BH n (k+1)=BH n k++BY k (n-k):=by unfold BH;rw[bA,YS,List.flatten_append];simp
theorem Mt{n k:Nat}:(BH n k).length<=n * k:=by
 induction k with
 | zero=>exact Y5 _
 | succ k ih=>rw[FV,Zb,Ms,Nat.mul_succ];omega
theorem Mu{n k:Nat}(h:k<=n):∀q∈BH n k,q.1<=q.2/\q.2<n:=by
 intro q y;unfold BH at y;obtain⟨l,D,y⟩:=List.mem_flatten.mp y;obtain⟨f,B,rfl⟩:=Zj.mp D;obtain⟨i,hi,rfl⟩:=Zj.mp y;have:=Zr.mp B;have:=Zr.mp hi;exact⟨by show f<=f+i;omega,by show f+i<n;omega⟩
noncomputable def D3(T:TM):List (Nat×Nat):=(BH T.ds.length T.ds.length).filter λq=>Bs T q.1 q.2
noncomputable def AZ(T:TM):Option (Nat×Nat):=(D3 T).head?
noncomputable def Fc:Option (Nat×Nat)->yQ
 | none=> .none
 | some q=>pD q
noncomputable def Cp(T:TM)(f:Nat):Nat->Int
 | 0=>if f=0 then T.st else T.hi
 | k+1=>Cp T f k+(T.cs.getD (f+k) []).sum-T.ds.getD (f+k) 0
theorem Mv{f k:Nat}{x:α}(h:xs[f+k]? =some x):(xs.drop f).take (k+1)=(xs.drop f).take k++[x]:=A8 (by rw[dZ];exact h)
theorem Jm{T:TM}(ok:T.ok){f:Nat}:∀k,f+k<=T.ds.length->Cp T f k=(if f=0 then T.st else T.hi)+(((T.cs.drop f).take k).map List.sum).sum-((T.ds.drop f).take k).sum
 | 0,_=>by rw[take_zero,take_zero,eS,sum_nil];show(if f=0 then T.st else T.hi)=_;omega
 | k+1,h=>by
  have D:=Jm ok (f:=f) k (by omega);have lc:=ok.lc;have B:T.cs[f+k]? =some (T.cs.getD (f+k) []):=by rw[Y3,Y6 (by omega)];rfl
  have y:T.ds[f+k]? =some (T.ds.getD (f+k) 0):=Mj (by omega);rw[Mv B,Mv y,YS,cA,cA,ZA,eS,bF,sum_nil,bF,sum_nil];show Cp T f k+_-_=_;omega
noncomputable def Jn(T:TM)(f l:Nat):Bool:=decide (Cp T f (l+1-f)<T.lo)
theorem SL{T:TM}(ok:T.ok){f l:Nat}(h:f<=l)(y:l<T.ds.length):Jn T f l=Bs T f l:=by
 unfold Jn Bs most Fb part;rw[Jm ok _ (by omega),am,Zf,Zf];omega
end MF
namespace L2
section
variable{X:Cx}{pos:Pos}
def SM(i j k:Nat)(G:TA):TS:=λD y H=>G y H λJ B=>∃v w z,J=[v,w,z]/\D.nx (((y.set i (some v)).set j (some w)).set k (some z)) B
theorem SN{i j k:Nat}{x y z:Str}{a b c:yL}{ta:TA}{px py O pt:Pos}{kt k2 pt2}(hc:X.calm=true)(hN:X.N.Nodup)(hi:X.N[i]? =some x)(hj:X.N[j]? =some y)(hk:X.N[k]? =some z)(i5:i≠j)(i0:i≠k)(Z:j≠k)
  (hx:X.env.scope.names.lookup x=some .local) (hy:X.env.scope.names.lookup y=some .local) (hz:X.env.scope.names.lookup z=some .local) (ha:PA X [a,b,c] ta)
  (hw:swappedStores [.Tuple [.Name x px,.Name y py,.Name z O] kt pt] (.Tuple [a,b,c] k2 pt2) X.env=pure (some [x,y,z]))
  (hs:autoParam (swapsWithSole [.Tuple [.Name x px,.Name y py,.Name z O] kt pt] (.Tuple [a,b,c] k2 pt2) pos.line X.env=pure false) L3):
  PS X (.Assign [.Tuple [.Name x px,.Name y py,.Name z O] kt pt] (.Tuple [a,b,c] k2 pt2) pos) (SM i j k ta):=by
 intro ad s K H D I h;rw[exec_Assign_arm];refine Y0 (aN ?_);rw[hs];refine Y0 (Y4 ?_);rw[Y8 (by decide)];refine Y0 (Tuple_ (Ap (ha _ ad s K H _ I h) λus s1 zq=>?_));obtain⟨vs,H1,I1,r1,q1⟩:=zq;obtain⟨v,w,t,e1,q1⟩:=q1;subst e1;obtain⟨J,B,G,rfl,rv,i4,rt⟩:∃J B G,us=[J,B,G]/\Aw v J/\Aw w B/\Aw t G:=by
  cases r1 with
  | cons p q=>
   cases q with
   | cons p' q'=>
    cases q' with
    | cons p'' q''=>
     cases q'';exact⟨_,_,_,rfl,p,p',p''⟩
 refine Zn ?_ (by show 3<=sizeLine;decide);have I2:Ac X ad K H1 { s1 with heap:=s1.heap.push { cls:= .type "tuple",data:= .seq [J,B,G].toArray}}:=I1.kept (t':=s1.toks) λb o e=>Y1 _ e
 rw[hw];refine Y0 (Y4 ?_);show wpAny (model X.prog X.w) X.A (do rule "assign.swapped-stores";let items<-unpackItems (.ref s1.heap.objs.size) 3 none;assignInOrder [λv=>bindName X.env z v,λv=>bindName X.env y v,λv=>bindName X.env x v] items.reverse;pure Flow.next) _ _ _;refine Y0 (aE (Y0 (unpackItems_tuple (items:= #[J,B,G]) (I.ok.hd hc) (gC s1.heap _) λh' i6=>?_)));have I3:=I2.kept (h':=h') (t':=s1.toks) λb o e=>i6 b o (YT (Y7 e)) e
 show wpAny _ _ (assignInOrder [λv=>bindName X.env z v,λv=>bindName X.env y v,λv=>bindName X.env x v] [G,B,J] >>=λ_=>pure Flow.next) _ _ _;refine Y0 (aG (cq (DQ I3 hN hk (.inl hz) rt (λs2 I4=>?_) (.inr hz))));refine aG (cq (DQ I4 hN hj (.inl hy) i4 (λs3 I5=>?_) (.inr hy)));refine aG (cq (DQ I5 hN hi (.inl hx) rv (λs4 I6=>eB (Y4 ?_)) (.inr hx)));have e:((K.set k (some t)).set j (some w)).set i (some v)=((K.set i (some v)).set j (some w)).set k (some t):=by
  rw[set_comm _ _ (Zv i5),set_comm _ _ (Zv i0),set_comm _ _ (Zv Z)]
 rw[e]at I6;exact⟨_,H1,I6,q1⟩
end
section
theorem SO{B:yX}{ns:yV}(K:Av (ns.map V.int) B):∃ys:Array (Int×Tok),B.toArray=intItems ys/\∀a,a∈ns↔ ∃j,j<ys.size/\numAt ys j=a:=by
 have hi:IntsAre B ns:=Ix K;obtain⟨ys,e⟩:=hi.allInts.items;refine⟨ys,e,λa=>?_⟩;have J:ys.toList.map (·.1)=ns:=by rw[<-gu,<-e];exact hi.numsOf
 rw[<-J,Zj];constructor
 .rintro⟨y,hy,z⟩;obtain⟨j,G,O⟩:=aK.mp hy;have D:j<ys.size:=by simpa using G
  refine⟨j,D,?_⟩;have Z:ys[j]=y:=by simpa using O
  unfold numAt;simp[D,Z,z]
 .rintro⟨j,G,z⟩;refine⟨ys[j],by simp,?_⟩;rw[<-z];unfold numAt;simp[G]
theorem SQ{ys:Array (Int×Tok)}{ns:yV}(pl:∀a,a∈ns↔ ∃j,j<ys.size/\numAt ys j=a)(ne:ns≠ []):0<ys.size:=by
 obtain⟨a,B⟩:=List.exists_mem_of_ne_nil ns ne;obtain⟨j,y,_⟩:=(pl a).mp B;exact au (Z1 j) y
variable{X:Cx}
theorem SR(K:X.calm=true):Bo X (.builtin "min") (λxs H Q=>∃(p:yR) (ns:yV),xs=[.ref p]/\H p=some (.lst (ns.map V.int))/\ns≠ []/\∀M,M∈ns->(∀a∈ns,M<=a)->Q (.int M) H):=by
 intro ad s σ H xs us Q I r h;obtain⟨p,ns,rfl,hp,D,q⟩:=h;obtain⟨u,rfl,ru⟩:=r.one;cases ru;obtain⟨J,Z,pl,hz⟩:=I.list (Al.of hp);obtain⟨G,e,at_⟩:=SO Z;have pos:=SQ at_ D;have B:=argBest_lt (numAt G) (G.size-1);refine min_intList (I.ok.hd K) (by rw[<-e];exact pl.isList) pos λv g tk hv kp=>?_
 obtain⟨t,z⟩:=intItems_at hv;rw[z];refine⟨.int _,H,I.kept kp,⟨t,rfl⟩,q _ ((at_ _).mpr ⟨_,by omega,rfl⟩) λa O=>?_⟩;obtain⟨j,hj,y⟩:=(at_ a).mp O;rw[<-y];exact B.2 j (by omega)
end
section
open AutoSeq1 (wpAny_loadPart')
structure ZA3(z TI TO i1 i2 i3 l1 l2 l3:yR):Prop where
 TI_z:TI≠z
 TO_z:TO≠z
 TO_TI:TO≠TI
 i1_z:i1≠z
 i1_TI:i1≠TI
 i1_TO:i1≠TO
 i2_z:i2≠z
 i2_TI:i2≠TI
 i2_TO:i2≠TO
 i2_i1:i2≠i1
 i3_z:i3≠z
 i3_TI:i3≠TI
 i3_TO:i3≠TO
 i3_i1:i3≠i1
 i3_i2:i3≠i2
 l1_z:l1≠z
 l1_TO:l1≠TO
 l1_i1:l1≠i1
 l1_i2:l1≠i2
 l1_i3:l1≠i3
 l2_z:l2≠z
 l2_TO:l2≠TO
 l2_i1:l2≠i1
 l2_i2:l2≠i2
 l2_i3:l2≠i3
 l3_z:l3≠z
 l3_TO:l3≠TO
 l3_i1:l3≠i1
 l3_i2:l3≠i2
 l3_i3:l3≠i3
end
section
variable{a:yR}
open AutoSeq1 (wpAny_loadPart')
def KpBut(a:yR)(g g':Heap):Prop:=∀b o,b≠a->g.get? b=some o->g'.get? b=some o
theorem KpBut.trans{g g' B:Heap}(x:KpBut a g g')(y:KpBut a g' B):KpBut a g B:=λb o n e=>y b o n (x b o n e)
theorem KpBut.upd{g:Heap}(f:Obj->Obj):KpBut a g (g.update a f):=λb o n e=>by rw[Heap.get?_update_ne _ _ _ _ n];exact e
theorem KpBut.new{g:Heap}(o:Obj):KpBut a g (g.push o):=λ_ _ _ e=>Y1 _ e
end
section
variable{X:Cx}
def SS(a b:TI):TI:=fun y H R=>a y H R\/b y H R
theorem Mw{y it:yL}{a b:TI}(G:PI X y it a)(D:PI X y it b):PI X y it (SS a b):=λad s B H R I h=>h.elim (λq=>G ad s B H R I q) λq=>D ad s B H R I q
end
theorem Ac.gotList{X:Cx}{ad:PNs}{σ:St}{H:Hp}{s:yS}{h':Heap}{tk n:Nat}{T:yR}{vs:zA}{us:yX}(I:Ac X ad σ H s)
  (k:∀b o,s.heap.get? b=some o->h'.get? b=some o) (K:s.heap.objs.size<=T) (Z:h'.get? T=some { cls:= .type "list",data:= .seq us.toArray n}) (rv:Av vs us) (hz:vs.length<=sizeLine):
  Ac X ad σ (upd H T (.lst vs)) { s with heap:=h',toks:=tk}:=by
 have G:H T=none:=I.hok.fresh K;have y:∀b u,H b=some u->b≠T:=λb u e=>Bg e G
 refine I.step (g':=s.gens) (d':=s.drawn) (ch:=[]) (λb D=>absurd D (by simp)) (λb o _ _ B e _=>k b o e) (λb o _ _ B e _=>⟨o.slots,k b o e⟩)
  (λb o B e n=>?_) (λb o B e=>⟨o,k b o e⟩) (λb J e=>by rw[Ao (y b _ e)];exact e) (λb o J e=>by rw[Ao (y b _ e)];exact e) (λb ps e=>⟨#[],by rw[Ao (y b _ e),e];simp⟩) (λm hm=>?_) (λb u e=>?_) I.bare
 .rw[Ao (YT (YO (Y7 e) K))];exact n
 .obtain⟨o,es,O,ho,r⟩:=hm;exact⟨o,es,O,k _ o ho,r⟩
 .by_cases D:b=T
  .subst D;rw[Af]at e;cases e;exact⟨hz,us,n,rv,Z⟩
  .rw[Ao D]at e;exact(I.hok b u e).stay (λc v B q=>k c v q) (λc q=>by rw[Ao (y c _ q)];exact q) λc J q=>by rw[Ao (y c _ q)];exact q
theorem Mx(K:Fgx){o e:yL}{es:List yL}{to:TE}{t:TA}{name:Str}{D y:Pos}{T id:String}{r:V->zA->Hp->VK->Prop}{X:Cx}(pa:PlainAttrs T)(slot:Slot T name id)(Z:typeOf (.builtin id)=pure (.type "method_descriptor"))(hm:Gw X id r)(ho:PE X o to)(ha:PA X (e::es) t)(hK:autoParam (X.K=K) L3)
  (G:autoParam (attributeBase o name X.env (eval o X.env)=eval o X.env) L3)
  (O : autoParam (((backTo y (starEach (e :: es) X.env)).all (λx => !x.1) && (backToKw y (keywordEach [] X.env)).all (λx => x.1.isSome)
   && decide ((e::es).length+([]:List Keyword).length+(if ([]:List Keyword).isEmpty then 0 else 1)<30))=true) L3)
  (J:autoParam ((D.endLine==y.line)=true) L3) (hs:autoParam (starEach (e::es) X.env=(false,eval e X.env)::starEach es X.env) L3) (B:autoParam ((backTo y (starEach es X.env)).any (·.1)=false) L3):
  PE X (.Call (.Attribute o name D) (e::es) [] y) (Lw K T r to t):=hK ▸ C4 pa slot Z hm ho ha G O J hs B
def DD(i j k:Int):yV:=(List.range (DC i j k)).map λt:Nat=>i+(t:Int) * k
theorem ST{n:Nat}{i k:Int}{J:Array yU}(h:ItemsOf (λt v=>∃u,v=Value.int (i+(t:Int) * k) u) J n):Av (((List.range n).map λt:Nat=>i+(t:Int) * k).map V.int) J.toList:=by
 have go:∀(m:Nat) (y:yX),y.length=m->(∀(j:Nat) (v:yU),y[j]? =some v->∃t,v= .int (i+(j:Int) * k) t)->Av (((List.range m).map λt:Nat=>i+(t:Int) * k).map V.int) y:=by
  intro m
  induction m with
  | zero=>intro y D _;cases y with
   | nil=>exact .nil
   | cons _ _=>cases D
  | succ m ih=>
   intro y D O;have B:y≠ []:=λe=>by rw[e]at D;cases D
   have e:y=y.dropLast++[y.getLast B]:=(List.dropLast_concat_getLast B).symm;have K:y.dropLast.length=m:=by rw[List.length_dropLast,D];rfl
   rw[bA,YS,YS,e];refine(ih y.dropLast K λj v G=>?_).append (.cons ?_ .nil)
   .refine O j v ?_;rw[e,ZB (Y9.mp G).1];exact G
   .refine O m _ ?_;rw[List.getLast_eq_getElem,Y9];exact⟨by omega,by congr 1;omega⟩
 refine go n J.toList (by simpa using h.1) λj v G=>?_
 exact h.2 j v (by simpa using G)
section
variable{X:Cx}
def SU(B:TA):TE:=fun D H Q=>B D H λG y=>∃i j k:Int,G=[.int i,.int j,.int k]/\(-1000<=i/\i<=1000/\ -1000<=j/\j<=1000/\1<=k/\k<=1000)/\∀p,y p=none->Q (.ref p) (upd y p (.lst ((DD i j k).map V.int)))
theorem SV{a b c:yL}{ta:TA}{p pos p2 y:Pos}(hc:X.calm=true)(i4:Gl X "list")(i5:X.mg "list"=none)(hg:Gl X "range")(hm:X.mg "range"=none)(ha:PA X [a,b,c] ta)
  (J:autoParam (starEach [.Call (.Name "range" p2) [a,b,c] [] y] X.env=[(false,eval (.Call (.Name "range" p2) [a,b,c] [] y) X.env)]) L3) (hs:autoParam (starEach [a,b,c] X.env=(false,eval a X.env)::starEach [b,c] X.env) L3) (i0:autoParam (starEach [b,c] X.env=[(false,eval b X.env),(false,eval c X.env)]) L3):
  PE X (.Call (.Name "list" p) [.Call (.Name "range" p2) [a,b,c] [] y] [] pos) (SU ta):=by
 intro ad s σ H Q I h;refine cY (B8 I i4 i5 IY (Zc (by
  rw[J];refine aq (cY (B8 I hg hm fZ (Zc (Ap (ha y ad s σ H _ I h) λus s1 zq=>?_) hs (by rw[i0];rfl))));obtain⟨vs,H1,I1,B,O⟩:=zq;obtain⟨i,j,k,e,⟨O,q2,q3,q4,q5,q6⟩,q⟩:=O;subst e;rcases B with _ | ⟨r,B⟩
  rcases B with _ | ⟨r',B⟩
  rcases B with _ | ⟨Z,B⟩
  cases B;obtain⟨t,rfl⟩:=r;obtain⟨t',rfl⟩:=r';obtain⟨i6,rfl⟩:=Z;have hk:k.natAbs.log2<30:=by
   by_cases z:k.natAbs=0
   .omega
   .exact(Nat.log2_lt z).mpr (show k.natAbs<2 ^ 30 by omega)
  have i7:Builtin.divisionGoesByPylong (j-i) k=false:=by
   unfold Builtin.divisionGoesByPylong;dsimp only;rw[show(decide ((if (k==0)=true then 0 else k.natAbs.log2 / 30+1) >300))=false from Zh (by
    split
    .omega
    .rw[Nat.div_eq_of_lt hk];omega),ZX]
  refine call_range_3 (by omega) (aS ?_) (.inl i7);have D:(s1.heap.push { cls:= .type "range",data:= .fields #[.int i t,.int j t',.int k i6]}).objs.size=s1.heap.objs.size+1:=Zm ..;obtain⟨b0,b1⟩:=Md q5 O q4;refine call_list_range (n:=DC i j k) (I.ok.hd hc) (IsRange.new ..) (Sa q5 q6 O q2 q3 q4) (by unfold DC;omega) (by unfold DC;omega) λh' tk G c' hk hS K=>?_
  have hv:=ST K;have I2:=I1.gotList (tk:=tk) (T:=s1.heap.objs.size+1) (us:=G.toList) (n:=c') (λb o e=>hk b o (Y1 _ e)) (Zx _) (by rw[<-D];simpa using hS) hv (by
   rw[Y2,Y2,cb];have:(3000:Nat)<=sizeLine:=by decide
   unfold DC;omega)
  refine⟨.ref (s1.heap.objs.size+1),_,I2,?_,q _ (I1.hok.fresh (Zx _))⟩;show Aw (.ref (s1.heap.objs.size+1)) (.ref _);rw[<-D];rfl) J rfl))
end
theorem SW{i j k:Int}:((DD i j k).map V.int).all C3=true:=by
 rw[ZF];intro x y;obtain⟨a,_,rfl⟩:=Zj.mp y
 rfl
end L2
namespace MF
open L2
theorem SX{f e:Int}{h:Nat}(G:1<=e)(Z:h<8):BL (.int (h:Int)) ((DD f 8 e).map V.int)=decide (¬((h:Int)<f\/((h:Int)-f) % e≠0)):=by
 unfold BL DD;rw[ae,any_map];have B:((List.range (DC f 8 e)).any ((λy=>De y (V.int (h:Int))) ∘V.int∘λt:Nat=>f+(t:Int) * e))=true↔ ¬((h:Int)<f\/((h:Int)-f) % e≠0):=by
  rw[dJ];constructor
  .rintro⟨t,ht,q⟩;have D:(f+(t:Int) * e==(h:Int))=true:=q;have D:f+(t:Int) * e=(h:Int):=by simpa using D
   have K:0<=(t:Int) * e:=av (by omega) (by omega);rintro(c | c)
   .omega
   .apply c;rw[show(h:Int)-f=(t:Int) * e by omega];exact Int.mul_emod_left _ _
  .intro c;have O:¬(h:Int)<f:=λz=>c (.inl z)
   have J:((h:Int)-f) % e=0:=by
    by_cases z:((h:Int)-f) % e=0
    .exact z
    .exact absurd (.inr z) c
   have hd:((h:Int)-f)=((h:Int)-f)/ e * e:=by
    have:=Int.emod_add_mul_ediv ((h:Int)-f) e;rw[J]at this;rw[gH];omega
   have h0:0<=((h:Int)-f)/ e:=fz (by omega) (by omega);refine⟨(((h:Int)-f)/ e).toNat,Zr.mpr ((Sj (n:=8) G).mpr ?_),?_⟩
   .rw[Int.toNat_of_nonneg h0];show f+_<(8:Int);omega
   .show(f+((((h:Int)-f)/ e).toNat:Int) * e==(h:Int))=true;rw[Int.toNat_of_nonneg h0,aV];omega
 cases z:((List.range (DC f 8 e)).any ((λy=>De y (V.int (h:Int))) ∘V.int∘λt:Nat=>f+(t:Int) * e)) with
 | true=>exact(Z9 (B.mp z)).symm
 | false=>exact(Zh λc=>by rw[B.mpr c]at z;cases z).symm
end MF
namespace L2
section
open AutoSeq1 (wpAny_loadPart')
section
variable{P:yP}{w:yN}{K:Fgx}{A:yO}{E:yY}{s:yS}(S1 S2:AY P w K)
theorem SZ{z TI TO i1 i2 l1 l2:yR}{k:Nat}{G i9:Array yU}{a1 a2:yU}{Q:Fin->yS->Prop}(hh:A.handled=none)(D:Ew z TI TO i1 i2 l1 l2)(hz:E2 s.heap z TI TO)(n9:Be s.heap TI (.ref i1) (.ref i2))(l9:Be s.heap TO a1 a2)(h1:Dr S1 i1 l1 G k s.heap)(h2:Dr S2 i2 l2 i9 k s.heap)(j6:k<G.size)(i4:k=i9.size)
  (hE:∀h' tk e,(∀c o,c≠z->c≠TO->c≠i1->c≠i2->s.heap.get? c=some o->h'.get? c=some o)->(∃o,h'.get? e=some o/\o.cls= .type "StopIteration")->E (.ref e) { s with heap:=h',toks:=tk}):
  wpAny (model P w) A (Builtin.«zip.__next__» ⟨[.ref z],[]⟩) Q E s:=by
 have D1:=fun(A:yO) (hh:A.handled=none)=>S1.draws A hh i1 l1 D.l1_i1 G
 have D2:=fun(A:yO) (hh:A.handled=none)=>S2.draws A hh i2 l2 D.l2_i2 i9
 obtain⟨u0,q9,j3,o9,o8⟩:=id hz;show wpAny _ _ (field (.ref z) 2>>=_) _ _ _;refine Y0 (ZC j3 rfl (x:= .bool false) rfl ?_);show wpAny _ _ (field (.ref z) 3>>=_) _ _ _;refine Y0 (ZC j3 rfl (x:= .ref TI) rfl ?_);refine Y0 (ZN n9 rfl ?_);show wpAny _ _ (Builtin.SmallTypes.ownedTupleIsFree (.ref z) >>=_) _ _ _;refine Y0 (IP hz (λf0 f1 hz=>?_) λg0 T f1 f2 t9 O r8 y=>?_)
 .simp only[aY];refine Y0 (aE ?_);refine Y0 (ZC hz rfl (x:= .ref TO) rfl ?_);refine Y0 (ah hz (by simp) λg0 O y=>?_);replace O:Cm g0 z TI TO .ellipsis f1:=O;refine Y0 ?_;simp only[zipIdx_cons,zipIdx_nil,bL,cW];refine Y0 (Y0 (cL ?_));show wpAny _ _ (Builtin.SmallTypes.nextOf (.ref i1) >>=_) _ _ _;refine Y0 ((D1 _ hh).item k _ _ _ j6 (Dr.ext h1 y.extBut D.i1_z D.l1_z) λy1 g1 o7 l7 i8 B=>Y4 ?_);have j9:Dr S1 i1 l1 G (k+1) g1:=i8;have j8:Be g1 TO a1 a2:=(B.extBut _ _ D.i1_TO.symm (y.extBut _ _ D.TO_z l9));refine Y0 (ZN j8 rfl ?_);refine Y0 (IQ j8 λg2 j7 i7=>?_)
  replace j7:Be g2 TO y1 a2:=j7
  refine Y0 (bE (Y4 ?_));refine Y0 (Y0 (cL ?_));show wpAny _ _ (Builtin.SmallTypes.nextOf (.ref i2) >>=_) _ _ _;have K:=(Dr.ext (Dr.ext (Dr.ext h2 y.extBut D.i2_z D.l2_z) B.extBut D.i2_i1 D.l2_i1) i7.extBut D.i2_TO D.l2_TO);subst i4;refine Y0 ((D2 _ hh).done _ _ _ K λge e i0 he=>?_);obtain⟨oe,J,Z⟩:=he;have j0:Cm ge z TI TO .ellipsis f1:=i0 _ _ D.i2_z.symm (i7.extBut _ _ D.TO_z.symm (B.extBut _ _ D.i1_z.symm O));have l6:e≠z:=λx=>by subst x;rw[j0]at J;cases J;simp at Z
  exact ah j0 (by simp) λgf _ j5=>hE gf _ e (λc o cz j4 i5 i6 x=>j5.extBut _ _ cz (i0 _ _ i6 (i7.extBut _ _ j4 (B.extBut _ _ i5 (y.extBut _ _ cz x))))) ⟨oe,j5.extBut _ _ l6 J,Z⟩
 .simp only[ag,bB];refine Y0 ?_;simp only[<-dN,bL,cW];refine Y0 (Y0 (Zp ?_));show wpAny _ _ (Builtin.SmallTypes.nextOf (.ref i1) >>=_) _ _ _;refine Y0 ((D1 _ hh).item k _ _ _ j6 (Dr.ext h1 y.extBut D.i1_z D.l1_z) λy1 g1 o7 l7 i8 B=>Y4 ?_);have j9:Dr S1 i1 l1 G (k+1) g1:=i8;refine Y4 ?_;refine Y0 (Y0 (Zp ?_));show wpAny _ _ (Builtin.SmallTypes.nextOf (.ref i2) >>=_) _ _ _;have K:=(Dr.ext (Dr.ext h2 y.extBut D.i2_z D.l2_z) B.extBut D.i2_i1 D.l2_i1);subst i4;refine Y0 ((D2 _ hh).done _ _ _ K λge e i0 he=>?_);obtain⟨oe,J,Z⟩:=he;exact hE ge _ e (λc o cz j4 i5 i6 x=>i0 _ _ i6 (B.extBut _ _ i5 (y.extBut _ _ cz x))) ⟨oe,J,Z⟩
end
def GY{P:yP}{w:yN}{K:Fgx}(S1 S2:AY P w K)(a b:yR):It:=
 ⟨λi H=>∃D B x y,S1.Sq H a D/\S2.Sq H b B/\D[i]? =some x/\B[i]? =some y,λi H v G=>∃T,v= .ref T/\H T=none/\∀D B x y,S1.Sq H a D->S2.Sq H b B->D[i]? =some x->B[i]? =some y->G=upd H T (.tup [x,y]),
  λi H=>∃D B,S1.Sq H a D/\S2.Sq H b B/\i<D.length/\B.length=i⟩
theorem S5{P:yP}{w:yN}{K:Fgx}(S1 S2:AY P w K){es:List yL}{k:Nat}{pos:Pos}(z TI TO i1 i2 l1 l2:yR)(D:Ew z TI TO i1 i2 l1 l2):
  CV P w K (.Tuple es k pos) (GY S1 S2 l1 l2) [z,TI,TO,i1,i2] z (λi h=>IsZip h z TI TO .none/\Be h TI (.ref i1) (.ref i2)/\(∃a b,Be h TO a b)/\S1.It h i1 l1 i/\S2.It h i2 l2 i):=by
 have T:=Rv (es:=es) (k:=k) (pos:=pos) S1 S2 z TI TO i1 i2 l1 l2 D;refine⟨T.mem,T.obj,T.keep,T.item,?_,T.self⟩
 intro X hP hw hK hc i ad s σ H E I hf st hg;subst hP hw;obtain⟨xs,ys,Z,i0,l9,l7⟩:=hg;obtain⟨i8,i6,i7,j9⟩:=S1.get hK I Z;obtain⟨j0,i5,i4,j6⟩:=S2.get hK I i0;obtain⟨O,G,⟨a,b',J⟩,h1,h2⟩:=st;have hh:=I.ok.hd hc;have hT:s.TypeIs (.ref z) "zip" :=⟨_,O,rfl⟩;have e1:=i6.length;have e2:=i5.length;unfold pyNext;refine Y0 (aQ (Zo (name:=Str.ofString "__next__") hT ZI (Zq ZI hT bf
  (SZ S1 S2 hh D ⟨_,_,O,.inl rfl,.inl rfl⟩ G J ⟨h1,i7⟩ ⟨h2,i4⟩ (by simp;omega) (by simp;omega) λh' tk e hk he=>?_) (aU _))))
 obtain⟨o,ho,j7⟩:=he;refine Y0 (bM (T:="StopIteration") (b:=true) ⟨o,ho,j7⟩ dF ?_);exact Y4 ⟨rfl,I.ended (wr:=[z,TI,TO,i1,i2]) (tk:=tk) (λb B=>hf b B) λb o B q=>hk b o (λe=>B (by simp[e])) (λe=>B (by simp[e])) (λe=>B (by simp[e])) (λe=>B (by simp[e])) q⟩
def My{P:yP}{w:yN}{K:Fgx}(S1 S2:AY P w K)(B:TA):TI:=fun G H R=>B G H λO y=>∃a b,O=[.ref a,.ref b]/\(∃J,S1.Sq y a J)/\(∃D,S2.Sq y b D)/\R (GY S1 S2 a b) y
theorem S6{X:Cx}{es:List yL}{k:Nat}{p pos B:Pos}{D y:yL}{ta:TA}(S1 S2:AY X.prog X.w X.K)(zn:DW S1 S2)(hg:Gl X "zip")(hm:X.mg "zip"=none)(ha:PA X [D,y] ta)
  (hs:starEach [D,y] X.env=[(false,eval D X.env),(false,eval y X.env)]) (G:starEach [y] X.env=[(false,eval y X.env)]):PI X (.Tuple es k B) (.Call (.Name "zip" p) [D,y] [] pos) (My S1 S2 ta):=by
 intro ad s σ H R I h;refine Ap (IS S1 S2 zn (R:=λO Z J=>R (GY S1 S2 O Z) J) hg hm ha hs G I h) λv s1 zq=>?_
 obtain⟨O,Z,J,m,e,q,I1,gz,gI,gO,g1,g2,h1,h2,fr,_⟩:=zq;subst e;exact bN gz ⟨_,[m+4,m+2,m+3,m,m+1],_,_,J,rfl,I1,S5 S1 S2 _ _ _ _ _ O Z (IT h1 h2),⟨gz,gI,⟨_,_,gO⟩,g1,g2⟩,λb hb=>fr b (by
  simp only[YY,Zt,ai]at hb;rcases hb with e | e | e | e | e<;>rw[e]<;>first | exact Y5 _ | exact bO _ _),q⟩
theorem S8{X:Cx}(P:yP)(w:yN)(K:Fgx){es:List yL}{k:Nat}{p pos B:Pos}{D y:yL}{J:TA}(hg:Gl X "zip")(hm:X.mg "zip"=none)(ha:PA X [D,y] J)(O:autoParam (X.prog=P) L3)(hw:autoParam (X.w=w) L3)(Z:autoParam (X.K=K) L3)
  (hs:autoParam (starEach [D,y] X.env=[(false,eval D X.env),(false,eval y X.env)]) L3) (G:autoParam (starEach [y] X.env=[(false,eval y X.env)]) L3):
  PI X (.Tuple es k B) (.Call (.Name "zip" p) [D,y] [] pos) (My (B2 P w K) (B2 P w K) J):=by subst O hw Z;exact S6 _ _ (LP _ _ _) hg hm ha hs G
theorem S9{P:yP}{w:yN}{K:Fgx}{S1 S2:AY P w K}{a b:yR}{xs ys:zA}{cap:List (Option Nat)}{g:TG}{tt:TT}{Z:TE}{σ:L2.St}{Q:zA->Hp->Prop}{H:Hp}(B:Nat->zA->Hp->Prop)(hn:ys.length<=100000)(he:ys.length<xs.length)(h0:B 0 [] H)(hz:∀i ys H,B i ys H->ys.length<=i)
  (G:∀i zs H,B i zs H->S1.Sq H a xs/\S2.Sq H b ys)
  (hs:∀i x y zs H T,xs[i]? =some x->ys[i]? =some y->B i zs H->H T=none->g (.ref T) (AK cap σ) (upd H T (.tup [x,y])) fun D H2=>Keep (AK cap σ) D/\tt D H2 λb H3=>br b (Z D H3 λy H4=>B (i+1) (zs++[y]) H4) (B (i+1) zs H3))
  (hd:∀zs H,B ys.length zs H->Q zs H):DV (GY S1 S2 a b) cap g tt Z σ Q H:=
 Eu ys.length B hn h0 hz (λi zs H hi p=>by
  obtain⟨q1,O⟩:=G i zs H p;have J:i<xs.length:=by omega
  refine⟨⟨xs,ys,xs[i],ys[i],q1,O,by simp[J],by simp[hi]⟩,λv H' zq=>?_⟩;obtain⟨T,e,n,y⟩:=zq;subst e;rw[y xs ys xs[i] ys[i] q1 O (by simp[J]) (by simp[hi])];exact hs i xs[i] ys[i] zs H T (by simp[J]) (by simp[hi]) p n)
  λzs H p=>⟨⟨xs,ys,(G _ zs H p).1,(G _ zs H p).2,he,rfl⟩,hd zs H p⟩
end
section
theorem ObjOk.there{P:yP}{w:yN}{H:Hp}{h:Heap}{a:yR}{o:HO}(x:ObjOk P w H h a o):∃u,h.get? a=some u:=by
 cases o with
 | lst xs=>obtain⟨_,_,_,_,e⟩:=x;exact⟨_,e⟩
 | tup xs=>obtain⟨_,_,_,o,e,_⟩:=x;exact⟨_,e⟩
 | dK kvs=>obtain⟨_,_,_,_,o,_,_,e,_⟩:=x;exact⟨_,e⟩
 | dT kvs=>obtain⟨_,_,_,_,o,_,_,e,_⟩:=x;exact⟨_,e⟩
 | set S n=>obtain⟨o,_,_,_,e,_⟩:=x;exact⟨_,e⟩
 | ins C dx fs=>obtain⟨_,_,_,e,_⟩:=x;exact⟨_,e⟩
 | own y=>obtain⟨_,e⟩:=x;exact⟨_,e⟩
 | xd fs=>obtain⟨_,⟨_,_,_,e,_⟩,_⟩:=x;exact⟨_,e⟩
 | rng lo hi=>obtain⟨_,_,_,e⟩:=x;exact⟨_,e⟩
 | frz ob u=>obtain⟨e,_⟩:=x;exact⟨_,e⟩
 | tbl ps=>exact⟨_,x⟩
 | met f y=>exact⟨_,x⟩
 | ext φ=>obtain⟨_,⟨_,e⟩,_⟩:=x;exact⟨_,e⟩
structure Ta(P:yP)(w:yN)(outer:List Env)(H:Hp)(s:yS)(H':Hp)(C e:yR)(s':yS):Prop where
 os:s'.os=s.os
 bare:AllBare s'.gens
 un:Un (AF outer) [] H H' s.heap s'.heap
 fly:∃B t,Heap.FlyingW B outer e (.ref C) t s'.heap/\(∀b o,s.heap.get? b=some o->H b=none->b ∉ AF outer->B.get? b=some o)/\
  (∀b o,s.heap.get? b=some o->b ∉ AF outer->∃o',B.get? b=some o')/\HOk P w H' B
def C7(P:yP)(w:yN):CN:=λouter H s E v B=>∃C e y,v= .ref e/\Ta P w outer H s y C e B/\E (.ref C) none y
structure IsDef(X:Cx)(E:XK):Prop where
 stk:X.stack=X.env::X.outer
 fr:X.env.frame=some X.env.locals
 ex:X.ex=[]
 xe:∀e s',wpAny (model X.prog X.w) X.A (leaving X.env e) (λ_ s''=>C7 X.prog X.w X.outer X.H₀ X.s₀ E e s'') (λ_ _=>False) s'->X.xe e s'
variable{X:Cx}{ad:List (yR × Obj)}{σ:St}{H H':Hp}{s s':yS}{C e:yR}{E:XK}
theorem Tb{env:Env}{l:List Env}{b L:yR}(D:env.frame=some L)(h:b∈AF (env::l)):b=L\/b∈AF l:=by
 unfold AF at h ⊢;obtain⟨x,y,B⟩:=ZG.mp h;rcases YY.mp y with rfl | y
 .rw[D]at B;exact .inl (Z7 B).symm
 .exact .inr (ZG.mpr ⟨x,y,B⟩)
theorem IsDef.un(D:IsDef X E)(I:Ac X ad σ H s)(u:Un (AF X.stack) [] H H' s.heap s'.heap){B h':Heap}(up:s'.heap.UpToSlots h')(ff:s'.heap.FunFrames B X.stack)(st:B.StaysIn h')
  (kB:∀b o,s.heap.get? b=some o->H b=none->b ∉ AF X.stack->B.get? b=some o) (tB:∀b o,s.heap.get? b=some o->b ∉ AF X.stack->∃J,B.get? b=some J):
  Un (AF X.outer) [] X.H₀ H' X.s₀.heap h'/\(∀b o,X.s₀.heap.get? b=some o->X.H₀ b=none->b ∉ AF X.outer->B.get? b=some o)/\
   (∀b o,X.s₀.heap.get? b=some o->b ∉ AF X.outer->∃J,B.get? b=some J):=by
 have nl:∀b o,X.s₀.heap.get? b=some o->b≠X.env.locals:=λb o e z=>by
  have:=Y7 e;rw[z]at this;exact absurd (YO this I.ok.above) (YX _)
 have nx:∀b,b ∉ X.ex:=λb z=>by rw[D.ex]at z;cases z
 have ns:∀b o,X.s₀.heap.get? b=some o->b ∉ AF X.outer->b ∉ AF X.stack:=λb o e n z=>by
  rw[D.stk]at z;rcases Tb D.fr z with q | q
  .exact nl b o e q
  .exact n q
 have i4:∀b o,X.s₀.heap.get? b=some o->X.H₀ b=none->b ∉ AF X.outer->B.get? b=some o:=λb o e n y=>
  kB b o (I.base.keep b o e n y (nx b)) (I.base.free b o e n (nx b)) (ns b o e y)
 have i0:∀b o,X.s₀.heap.get? b=some o->b ∉ AF X.outer->∃J,B.get? b=some J:=λb o e y=>by
  obtain⟨o1,G⟩:=I.base.there b o e (nx b);exact tB b o1 G (ns b o e y)
 have i5:∀b,b∈AF X.outer->∀o,s'.heap.get? b=some o->∀vs,o.data≠ .fields vs:=λb y o eo=>by
  have i6:b∈(X.env::X.outer).filterMap (·.frame):=by
   obtain⟨x,hx,hf⟩:=ZG.mp y;exact ZG.mpr ⟨x,.tail _ hx,hf⟩
  rw[D.stk]at ff;obtain⟨_,J,Z,hd⟩:=ff.mem i6;rw[eo]at Z;cases Z;exact hd
 have i7:∀b,b∈AF X.outer->b∈AF X.stack:=λb y=>by
  rw[D.stk];obtain⟨x,hx,hf⟩:=ZG.mp y;exact ZG.mpr ⟨x,.tail _ hx,hf⟩
 refine⟨⟨λb o e n y _=>st b o (i4 b o e n y),λb o e n y _=>?_,λb o e n _=>?_,λb o e _=>?_,λb O q=>u.tups b O (I.base.tups b O q),λb J O q=>u.frzs b J O (I.base.frzs b J O q),λb ps q=>?_⟩,i4,i0⟩
 .obtain⟨s1,G⟩:=I.base.slot b o e n y (nx b);obtain⟨s2,K⟩:=u.slot b _ G (I.base.free b o e n (nx b)) (i7 b y) (by simp);obtain⟨s3,e3⟩:=up b _ K (i5 b y _ K);exact⟨s3,e3⟩
 .obtain⟨o1,G⟩:=I.base.there b o e (nx b);exact u.free b o1 G (I.base.free b o e n (nx b)) (by simp)
 .by_cases y:b∈AF X.outer
  .obtain⟨o1,G⟩:=I.base.there b o e (nx b);obtain⟨o2,K⟩:=u.there b o1 G (by simp);obtain⟨s3,e3⟩:=up b _ K (i5 b y _ K);exact⟨_,e3⟩
  .obtain⟨o1,G⟩:=i0 b o e y;exact⟨o1,st b o1 G⟩
 .obtain⟨m1,G⟩:=I.base.tbls b ps q;obtain⟨m2,K⟩:=u.tbls b _ G;exact⟨m1++m2,by rw[K,Array.append_assoc]⟩
theorem IsDef.passes(D:IsDef X E):Gs (C7 X.prog X.w) X E:=by
 intro ad σ H s v s' I ⟨C,e,H',hv,x,q⟩;subst hv;refine D.xe _ _ ?_;obtain⟨B,t,fl,kB,tB,K⟩:=x.fly;have O:=fl.2.2.1;have y:=fl;rw[D.stk]at y;have J:X.A.frames=some (X.env::X.outer):=by rw[<-D.stk];exact I.ok.frames
 refine wpAny_leaves_onW J D.fr y λh' G up=>?_
 obtain⟨u,Z,k2⟩:=D.un I x.un up O G.1 kB tB;exact⟨C,e,H',rfl,⟨x.os.trans I.os,x.bare,u,B,t,G,Z,k2,K⟩,q⟩
theorem IsDef.made(D:IsDef X E)(I:Ac X ad σ H s){G:Heap}{vs:yX}(hx:Heap.MadeExcOf s.heap G e (.ref C) vs)(q:E (.ref C) none H):X.xe (.ref e) { s with heap:=G}:=by
 refine D.xe _ _ ?_;have K:X.A.frames=some (X.env::X.outer):=by rw[<-D.stk];exact I.ok.frames
 have Z:∀env∈(X.env::X.outer),∀b,env.frame=some b->b∈AF (X.env::X.outer):=λenv he b y=>ZG.mpr ⟨env,he,y⟩
 have J:s.heap.FunFrames X.base (X.env::X.outer):=by rw[<-D.stk];exact I.stack
 have ff:=PySem.W.funFrames_hide J Z;refine wpAny_leaves_madeW (base:=PySem.W.hideAll s.heap (AF (X.env::X.outer))) (h:=s.heap) K D.fr (λb o q=>PySem.W.of_hideAll _ q) ff hx λh' t fl tup tn up=>?_
 have O:∀b o,s.heap.get? b=some o->b ∉ AF X.stack->(PySem.W.hideAll s.heap (AF (X.env::X.outer))).get? b=some o:=λb o e n=>PySem.W.hideAll_get _ e (by rw[<-D.stk];exact n)
 have i0:G.FunFrames (PySem.W.hideAll s.heap (AF (X.env::X.outer))) X.stack:=by
  rw[D.stk];exact ff.of_keeps λb o y _=>⟨o,hx.keeps b o y,rfl⟩
 obtain⟨u,k1,k2⟩:=D.un (s':= { s with heap:=G}) (H':=H) I (Un.kept hx.keeps) up i0 fl.1 (λb o e _ n=>O b o e n) (λb o e n=>⟨o,O b o e n⟩);refine⟨C,e,H,rfl,⟨I.os,I.bare,u,_,_,fl,k1,k2,λa o ea=>(I.hok a o ea).stay (λb u y eb=>?_) (λ_ z=>z) λ_ _ z=>z⟩,q⟩;refine O b u eb λz=>?_
 have B:=I.stkFree b z;rcases y with rfl | y
 .rw[ea]at B;cases B
 .rw[y]at B;cases B
end
section
open PySem PySem.Spec PyProof.Rows PySem.W Builtin Builtin.ObjectAttr Builtin.Getset_descriptor
def ExcAt(h:Heap)(x D:yR):Prop:=∃y,h.get? x=some y/\y.cls= .ref D
theorem ExcAt.type{M:Model}{h:Heap}{x D:yR}(I:ExcAt h x D):Looks M h (typeOf (.ref x)) (.ref D):=
 match I with | ⟨_,B,y⟩=>y ▸(Looks.ld B).andThen .now
structure ED(K:Frag)(D:yR):Prop where
 ga:findIn K (.ref D) "__getattribute__"=some (some (.builtin "BaseException.__getattribute__"))
 gt:findIn K (.ref D) "__getattr__"=some none
 cl:(clsIn K D).isSome=true
 ca:findIn K (.ref D) "__class__"=some (some (.builtin "object.__class__"))
 cn:specialIn K (.builtin "object.__class__") "__get__"=some (some (.builtin "getset_descriptor.__get__"))
 tk:takesIn K (.builtin "object.__class__")=some true
 ob:mroIn K D (.type "object")=some true
 bx:mroIn K D (.type "BaseException")=some true
section
variable{prog:yP}{w:yN}{A:yO}{E:yY}{s:yS}{K:Frag}{x D:yR}
theorem Td{M:Model}{T:String}{h:Heap}(X:K.In h)(I:ExcAt h x D)(e:mroIn K D (.type T)=some true):Looks M h (isInstance (.ref x) (.type T)) true:=I.type.andThen (looks_mroIn X e)
theorem Te{M:Model}{h:Heap}(O:ED K D)(X:K.In h)(I:ExcAt h x D):Looks M h (Builtin.ObjectAttr.find (.ref x) (.ref D) "__class__") (.bind (.builtin "getset_descriptor.__get__") (.builtin "object.__class__")):=by
 have d:Looks M h (Builtin.ObjectAttr.dataDescriptor? (some (.builtin "object.__class__")) (some (.builtin "getset_descriptor.__get__"))) (some (.builtin "getset_descriptor.__get__",.builtin "object.__class__")):=(looks_takesIn X O.tk).andThen .now;have g:Looks M h (Builtin.ObjectAttr.getOf (some (.builtin "object.__class__"))) (some (.builtin "getset_descriptor.__get__")):=looks_specialIn X O.cn;exact(looks_findIn X O.ca).andThen (g.andThen (d.andThen (Looks.tag .now)))
theorem Tf{R:Result->yS->Prop}{B:yU}(O:ED K D)(X:K.In s.heap)(I:ExcAt s.heap x D)(h:R (.ok (.ret (.ref D))) s):
  codeAny (model prog w) A (.call (.builtin "getset_descriptor.__get__") ⟨[.builtin "object.__class__",.ref x,B],[]⟩) R s:=by
 cases s;have t:=I.type (M:=model prog w);have o:=looks_mroIn (M:=model prog w) X O.ob;have a:=dga_obj (.builtin "object.__class__") B x;have y:=KF.slot_gs;refine aW y.plain KF.entry_gs (y.check _ _ _ _ _ _ _ _ KF.type_class (KF.args_gs _ _ _) ?_);have G:=KF.owner_class;unfold Builtin.«getset_descriptor.__get__» descrGet descrGetter descrCheckInstance descrNameAndClass isInstance;simp only[a,G]
 repeat (first | with_reducible refine Looks.at (by assumption) ?_ | wp_step)
 simp only[G]
 repeat (first | with_reducible refine Looks.at (by assumption) ?_ | wp_step)
 have q:(Code.builtin "object.__class__" ⟨[.ref x],[]⟩).quiet=true:=Code.quiet_builtin _ (by decide+kernel);refine⟨q,ZQ KF.entry_class ?_⟩;simp only[Builtin.«object.__class__»,shownTypeOf]
 repeat (first | assumption | with_reducible refine Looks.at (by assumption) ?_ | wp_step)
set_option maxHeartbeats 1000000 in
theorem Tg{Q:yW->yS->Prop}(O:ED K D)(X:K.In s.heap)(I:ExcAt s.heap x D)(h:Q (some (.ref D)) { s with toks:=s.toks+1}):wpAny (model prog w) A (getAttr? (.ref x) "__class__") Q E s:=by
 cases s;have Z:=I.type (M:=model prog w);have L1:=looks_findIn (M:=model prog w) X O.ga;have L2:=looks_findIn (M:=model prog w) X O.gt;have J:=Te (M:=model prog w) O X I;have L4:=Td (M:=model prog w) X I O.bx;have b:=PySem.F.attr_ValueError.ga.bind (.ref x);have n:(Value.builtin "BaseException.__getattribute__"==Value.builtin "object.__getattribute__")=false:=by decide+kernel
 simp only[getAttr?,getAttrBy?,getAttrBy]
 repeat (any_goals (first | assumption | with_reducible refine Looks.at (by assumption) ?_ | wp_step))
 refine aW PySem.F.attr_ValueError.ga.plain F.entry_bexc_ga ?_;have y:builtinKind "BaseException.__getattribute__"=some .slot:=by decide+kernel
 have B:splitId "BaseException.__getattribute__"=some ("BaseException","__getattribute__"):=by decide+kernel
 have G:=F.args_bexc_ga (.ref x);simp only[checkBuiltinCall,y,B]
 repeat (any_goals (first | assumption | with_reducible refine Looks.at (by assumption) ?_ | exact bC (G _) (Y4 ‹_›) | wp_step))
 refine Tf O X I ?_
 repeat (any_goals (first | assumption | wp_step))
theorem Th(O:ED K D):KitX K (.ref x) (.ref D) (λh=>ExcAt h x D):=by
 obtain⟨cd,B⟩:=aw.mp O.cl;have at_:∃c d J,K.lookup D=some ⟨c,d,.cls cd,J⟩:=by
  unfold clsIn at B;split at B
  .rename_i y;exact⟨_,_,_,by rw[y];cases B;rfl⟩
  .cases B
 obtain⟨c,d,J,y⟩:=at_;refine⟨λ_ _ _ I=>I.type,λ_ _ X _=>?_,λh Z dd i0 n i4 X G=>?_,λX I k=>Tg O X I k⟩
 .exact(Looks.ld (X _ _ y)).andThen .now
 .cases e:(Value.ref D==Value.ref Z)
  .rfl
  .have e':D=Z:=by simpa using e
   have:=X _ _ y;rw[e',G]at this;cases this
end
def Fd(a D:yR):HO:= .ext λh=>∃y,h.get? a=some y/\y.cls= .ref D
variable{X:Cx}{ad:List (yR × Obj)}{σ:St}{H:Hp}{s:yS}{A:yO}{E:yY}{Q:yY}{c:yU}{b:Bool}{a D:yR}
theorem Ti(I:Ac X ad σ H s)(e:H a=some (Fd a D))(O:ED X.K D)(k:PySem.W.kitOne X.K (.ref D) c=some b)(h:∀tk,Q (.bool b) { s with toks:=tk}):
  wpAny (model X.prog X.w) A (call (.builtin "isinstance") [.ref a,c]) Q E s:=by
 obtain⟨y,_,_⟩:=(show ObjOk X.prog X.w H s.heap a (Fd a D) from I.hok a _ e);exact PySem.W.kia_one (Th O) I.kIn y k (λz=>nomatch z) h
end
section
theorem Tj{K:Fgx}{mg:Str->yW}{base:Heap}(M:Mod K mg base):∃(y:List Str) (B:Str->yW),PySem.W.TopRead default y mg B base:=by
 obtain⟨B,hb,D⟩:=M.blt;obtain⟨o,es,ep,ho,hd,G,J⟩:=M.glob;refine⟨es.toList.filterMap (λe=>match e.key with | .str n _=>some n | _=>none),B,⟨⟨o,es,ep,ho,hd,G,J⟩,hb,M.nolimit,D,λx _ hx _ _ _=>?_⟩⟩;rw[<-J];unfold nsFind findBy;rw[<-Array.find?_toList];cases q:es.toList.find? (λe=>e.key.isStr x) with
 | none=>rfl
 | some e=>
  exfalso
  have Z:=List.mem_of_find?_eq_some q;have O:=List.find?_some q;obtain⟨n,t,hn⟩:=G e (by simpa using Z);refine hx (ZG.mpr ⟨e,Z,?_⟩);rw[hn]at O ⊢;have:n=x:=by simpa[Value.isStr] using O
  rw[this]
abbrev Jo:yX:=[.type "ValueError",.type "Exception",.type "BaseException",.type "object"]
section
variable{X:Cx}{E:XK}{st:Stmt}{rest:List Stmt}{t:TS}
theorem Tk(D:IsDef X E){x:Str}{C:yR}{a:yL}{ta:TA}{np B pos:Pos}(hc:X.calm=true)(hn:PySem.W.nsIn X.K mainGlobals x=some (some (.ref C)))(q:PySem.W.excIn X.K C Jo "ValueError.__new__"=true)(hg:Gl X x)(ha:PA X [a] ta)
  (hdb:autoParam ((x==("__debug__" :Str))=false) W0) (he:autoParam (starEach [a] X.env=(false,eval a X.env)::starEach [] X.env) L3):
  PS X (.Raise (some (.Call (.Name x np) [a] [] B)) none pos) (λ_ σ H=>ta σ H λvs H1=>vs.length<=sizeLine/\E (.ref C) none H1):=by
 intro ad s σ H D' I h;obtain⟨J,mb,T⟩:=Tj I.ok.mod;have O:=(PySem.W.own_of_in I.ok.mod.kin T hn q).keeps I.bk;have O0:=O;obtain⟨tl,N,nm,qn,bs,hdct,sn,sub,ab,col,dd,k0,k1,k2,k3,k5,mN,hC,hN,Z,TL⟩:=(PySem.W.own_of_in I.ok.mod.kin T hn q).obj;refine wpAny_Raise_call_subT (C:=C) (nm:=nm) (q:=qn) (N:=N) (bs:=bs) (bm:=tl) (hdct:=hdct) (sn:=sn) (sub:=sub) (ab:=ab) (col:=col) (dd:=dd) (k0:=k0) (k1:=k1) (k2:=k2) (k3:=k3) (k5:=k5) PySem.F.excBase_ValueError (mN:=mN)
  (TL.hasType PySem.F.excBase_ValueError.hasBase) (I.ok.hd hc) (by rw[he];rfl) Z (ES I hg O.bound ⟨rfl,?_⟩ hdb)
 have hp:=ha B ad s σ H _ I h;rw[he]at hp ⊢;refine db (Zi hp (λus s2 ⟨vs,H1,G,rv,hl,q1⟩=>⟨rfl,by rw[<-rv.length];exact hl,G.bk _ _ hC,hN.keeps G.bk,TL.keeps G.bk,λh' e hm=>?_⟩) λ_ _ y=>y);exact D.made G hm q1
end
section
variable{P:yP}{w:yN}{K:Fgx}{mg:Str -> yW}{base:Heap}
structure EE(P:yP)(w:yN)(K:Fgx)(mg:Str->yW)(base:Heap)(n:Nat)(x:Str)(ps:List Str)(sp:Sp):Prop where
 ex:∃(f:yR) (fd:FuncData),C2 P w K mg base (C7 P w) n f fd ps sp/\mg x=some (.ref f)/\PySem.W.keepIn K (.ref f)=true/\Binds K fd ps []
theorem Tl{N:List Str}{qual:Str}{scope:Scope}{f:yR}{cd:yU}{A:yO}{outer:List Env}{s:yS}{H:Hp}{E:XK}:IsDef (Ca (C7 P w) P w K mg base N qual scope f cd A outer s H E) E:=
 ⟨rfl,rfl,rfl,λe y h=>Zi h (λ_ _ z=>z) λ_ _ z=>z.elim⟩
theorem Df.fnE{x:Str}{st:Stmt}{N B:List Str}{k:Nat}{sp:Sp}(F:Df K mg x st B)(S:Az N B (Ar st))(len:∀vs H Q E,sp vs H Q E->vs.length=B.length)
  (y : ∀ (f : yR) (dl : yU) (A : yO) (outer : List Env) (s : yS) (H : Hp) (vs : zA) (Q : VK) (E : XK), AU k (A.deeper (envOfC x (Ar st) s.heap.objs.size f dl)) -> sp vs H Q E ->
   ∃t,PSs (Ca (C7 P w) P w K mg base N x (Ar st) f dl A outer s H E) (BB st) t/\t { nx:=λ_ H'=>Q .non H',rt:=Q} (start N vs) H):EE P w K mg base (k+1) x B sp:=by
 obtain⟨f,fd,G,O,hb⟩:=F.ex;have kp:=G.kp;obtain⟨oc,od,kV,i4,pm,an,dl,ct,i0,rfl,Z,D⟩:=G.ex;exact⟨f,_,Iw Z D S len λA outer s H vs Q E J h=>y f dl A outer s H vs Q E J h,O,kp,hb⟩
def Tm(sp:Sp)(E:XK)(t:TA):TE:=fun B H Q=>t B H λD y=>sp D y Q E
theorem Tn{X:Cx}{E:XK}(D:IsDef X E){n:Nat}{x:Str}{ps:List Str}{sp:Sp}{e:yL}{es:List yL}{t:TA}{p pos:Pos}(F:EE X.prog X.w X.K X.mg X.base n x ps sp)(G:AU n X.A)(J:Gl X x)(ha:PA X (e::es) t)
  (hdb:autoParam ((x==("__debug__" :Str))=false) W0) (he:autoParam (starEach (e::es) X.env=(false,eval e X.env)::starEach es X.env) L3) (B:autoParam ((backTo pos (starEach es X.env)).any (·.1)=false) L3):
  PE X (.Call (.Name x p) (e::es) [] pos) (Tm sp E t):=by
 obtain⟨f,fd,F,hm,O,hb⟩:=F.ex;refine(Ld (dvs:=[]) (E:=E) F G J hm O hb .nil D.passes ha hdb he B).weak fun Z H Q q=>?_
 have e:∀y:zA,y++[]=y:=λy=>bv y
 show t Z H λy H1=>sp (y++[]) H1 Q E
 simp only[e];exact q
end
noncomputable abbrev Fe(qual:Str)(scope:Scope)(L f:yR)(cd:yU)(cl:List (Str×yR)):Env:=PySem.W.envX qual scope L f cd cl
noncomputable def FW(P:yP)(w:yN)(K:Fgx)(mg:Str->yW)(base:Heap)(N:List Str)(qual:Str)(scope:Scope)(f:yR)(cd:yU)(cl:List (Str×yR))(A:yO)(outer:List Env)(s:yS)(H:Hp)(E:XK):Cx where
 prog:=P
 w:=w
 K:=K
 mg:=mg
 base:=base
 A:=A.deeper (Fe qual scope s.heap.objs.size f cd cl)
 N:=N
 s₀:=s
 H₀:=H
 env:=Fe qual scope s.heap.objs.size f cd cl
 outer:=outer
 stack:=Fe qual scope s.heap.objs.size f cd cl::outer
 ex:=[]
 calm:=true
 fn:=λ_=>false
 pn:=[]
 xe:=λe B=>wpAny (model P w) (A.deeper (Fe qual scope s.heap.objs.size f cd cl)) (leaving (Fe qual scope s.heap.objs.size f cd cl) e) (λ_ y=>C7 P w outer H s E e y) (λD y=>C7 P w outer H s E D y) B
theorem To{P:yP}{w:yN}{K:Fgx}{mg:Str->yW}{base:Heap}{N:List Str}{qual:Str}{scope:Scope}{f:yR}{cd:yU}{cl:List (Str×yR)}{A:yO}{outer:List Env}{s:yS}{H:Hp}{E:XK}:
  IsDef (FW P w K mg base N qual scope f cd cl A outer s H E) E:=
 ⟨rfl,rfl,rfl,λe y h=>Zi h (λ_ _ z=>z) λ_ _ z=>z.elim⟩
variable{X:Cx}{ad:List (yR × Obj)}{σ:St}{H:Hp}{s s':yS}{scope:Scope}{N':List Str}{cap:List (Option Nat)}{A:yO}{outer:List Env}{qual:Str}{f:yR}{cd:yU}{E:XK}
theorem Tp(I:Ac X ad σ H s)(B:AI X.env.scope X.N scope N' cap)(nc:∀x∈scope.names,x.2≠ .cell)(hd:A.handled=none)(O:C1 X.prog X.w X.K X.mg X.base A outer s' H)
  (J:∀x c v,X.env.cells.lookup x=some c->s.heap.IsCell c v->s'.heap.IsCell c v) {h1:Heap}{tk:Nat} (hn:h1.Ns s'.heap.objs.size λ_=>none) (hk:∀b o,s'.heap.get? b=some o->h1.get? b=some o):
  Ac (FW X.prog X.w X.K X.mg X.base N' qual scope f cd (AS X.env.cells scope.names []) A outer s' H E) [] (AK cap σ) H { s' with heap:=h1,toks:=tk}:=by
 have ig:∀x c,(AS X.env.cells scope.names []).lookup x=some c->X.env.cells.lookup x=some c:=λx c e=>(DT _ _ e).elim id λz=>nomatch z
 have i0:∀b:yR,b ∉(FW X.prog X.w X.K X.mg X.base N' qual scope f cd (AS X.env.cells scope.names []) A outer s' H E).ex:=λb z=>absurd (show b∈([]:List yR) from z) (by simp)
 refine⟨⟨O.mod,B.kind,rfl,rfl,Y5 _,λx y c a b=>I.ok.inj x y c (ig x c a) (ig y c b),λx hx=>?_,λx c z _=>(nomatch (show false=true from z)),λ_=>hd,cZ O.frames,.inr ⟨rfl,rfl⟩,λb z=>absurd z (i0 b),O.bs,O.bsz,λb _ _=>i0 b,λb z=>absurd z (i0 b),O.funs,O.frf⟩,
  rfl,O.bare,Un.kept hk,⟨_,hn,λi x v i8 h2 h3=>?_⟩,λx c h=>?_,O.hok.fresh (Y5 _),λx c h=>I.freeC x c (ig x c h),λp hp=>absurd (show p∈([]:PNs) from hp) (by simp),O.hok.kept hk,?_⟩
 .have i7:scope.names.lookup x=some .cell\/scope.names.lookup x=some .free:=hx;rcases i7 with z | z
  .exact absurd rfl (nc _ (PySem.mem_of_lookup z))
  .have hm:=PySem.mem_of_lookup z;obtain⟨c,hc⟩:=I.ok.has x (B.free _ hm rfl);exact⟨c,Es hc _ _ hm⟩
 .have D:(AK cap σ)[i]? =some (some v):=h2;unfold AK at D;rw[YU]at D;cases q:cap[i]? with
  | none=>rw[q]at D;cases D
  | some o=>
   rw[q]at D;cases o with
   | none=>exact nomatch Z7 D
   | some j=>
    have G:(match σ[j]? with | some v=>v | none=>none)=some v:=Z7 D;cases qs:σ[j]? with
    | none=>rw[qs]at G;cases G
    | some v'=>
     rw[qs]at G;have hs:σ[j]? =some (some v):=by rw[qs];exact Zz some G
     obtain⟨x',e1,e2,e3,e4⟩:=B.capt i j q;have i5:N'[i]? =some x:=i8;rw[i5]at e1;cases e1;have i4:=B.free _ e3 rfl;obtain⟨m,hn,hl⟩:=I.loc;obtain⟨u,ru,lk⟩:=hl j x v e2 hs (i4.elim (λz=> .inr (.inl z)) λz=> .inr (.inr z));refine⟨u,ru,?_⟩;rcases lk with⟨lk,_⟩ | ⟨_,c,hc,ic⟩
     .have i6:X.env.scope.names.lookup x=some .local :=lk;have Z:X.env.scope.names.lookup x=some .cell\/X.env.scope.names.lookup x=some .free:=i4;rw[i6]at Z;rcases Z with z | z<;>cases z
     .exact .inr ⟨.inr (B.own _ e3),c,Es hc _ _ e3,(J x c _ hc ic).keeps hk⟩
 .obtain⟨v,z⟩:=I.cell x c (ig x c h);exact⟨v,(J x c v (ig x c h) z).keeps hk⟩
 .unfold AK;show _=N'.length;rw[Y2];exact B.len
theorem Tq(I:Ac X ad σ H s)(B:AI X.env.scope X.N scope N' cap)(nc:∀x∈scope.names,x.2≠ .cell)(co:scope.isCoroutine=false)(gen:scope.isGenerator=false){k:Nat}(hr:AU k A)(e0:C1 X.prog X.w X.K X.mg X.base A outer s' H)
  (G:∀x c v,X.env.cells.lookup x=some c->s.heap.IsCell c v->s'.heap.IsCell c v) {y:Arguments}{body:yL}{pm Z:yU}{O:yR}{te:TE}{Q:VK}
  (ho:s'.heap.get? f=some (PySem.W.kla_obj "<lambda>" qual y body scope (AS X.env.cells scope.names []) pm O Z)) (i4:s'.heap.CodeRec (.ref O) qual)
  (hb:bindArgs (PySem.W.kla_fn "<lambda>" qual y body scope (AS X.env.cells scope.names []) pm (.ref O) Z) ⟨[],[]⟩=pure [])
  (D:PE (FW X.prog X.w X.K X.mg X.base N' qual scope f (.ref O) (AS X.env.cells scope.names []) A outer s' H E) body te) (q:te (AK cap σ) H Q):
  codeAny (model X.prog X.w) A (.call (.ref f) ⟨[],[]⟩) (CR (C7 X.prog X.w) outer X.prog X.w H s' Q E) s':=by
 refine PySem.W.kla_callFunE hr.depth ho rfl co gen rfl i4 ?_;rw[hb];refine Y4 (wpAny_newFunctionEnv nc (λx hx=>nomatch hx) (λh1 i0 i5=>?_) B.kind);have hk:∀b o,s'.heap.get? b=some o->h1.get? b=some o:=λb o e=>i5.extBut b o (YT (Y7 e)) (Y1 _ e)
 have hl:s'.heap.NoLimit:=e0.mod.nolimit.keeps λb o e=>(e0.bs b o e).1
 refine⟨hl.keeps hk,?_⟩;show codeAny _ _ (.expr body (Fe qual scope s'.heap.objs.size f (.ref O) (AS X.env.cells scope.names []))) _ _;refine PySem.W.kla_codeExpr ?_;have J:=Tp (tk:=s'.toks+([]:List (Str×yU)).length) (qual:=qual) (f:=f) (cd:= .ref O) (E:=E) I B nc hr.hd e0 G i0 hk;refine Zi (D [] _ (AK cap σ) H Q J q) (λv i6 z=>?_) λe i6 z=>z
 obtain⟨v',H',J',rv,qv⟩:=z;exact⟨v',H',J'.os,J'.bare,J'.base,J'.hok,rv,qv⟩
end
section
variable{M:Model}{E:yY}
abbrev Cx.hot(X:Cx)(A:yO):Cx:= { X with A:=A,calm:=false,xe:=λ_ _=>False}
section
variable{X:Cx}{ad:List (yR × Obj)}{σ:St}{H H':Hp}{s s':yS}
theorem Ac.hot(I:Ac X ad σ H s){A:yO}(y:A.frames=some X.stack):Ac (X.hot A) ad σ H s:=
 ⟨⟨I.ok.mod,I.ok.kind,I.ok.glob,I.ok.blt,I.ok.above,I.ok.inj,I.ok.has,I.ok.cab,λz=>(nomatch (show false=true from z)),y,I.ok.stk,I.ok.exf,I.ok.bs,I.ok.bsz,I.ok.noex,I.ok.exfs,I.ok.funs,I.ok.frf⟩,I.os,I.bare,I.base,I.loc,I.cell,I.free,I.freeC,I.pin,I.hok,I.len⟩
theorem Ac.cool{A:yO}(ok:X.Ok)(I:Ac (X.hot A) ad σ H s):Ac X ad σ H s:=⟨ok,I.os,I.bare,I.base,I.loc,I.cell,I.free,I.freeC,I.pin,I.hok,I.len⟩
theorem Mz{outer:List Env}{B h':Heap}(u:Un (AF outer) [] H H' s.heap s'.heap)(kB:∀b o,s.heap.get? b=some o->H b=none->b ∉ AF outer->B.get? b=some o)
  (tB:∀b o,s.heap.get? b=some o->b ∉ AF outer->∃Z,B.get? b=some Z) (ff:s'.heap.FunFrames B outer) (st:B.StaysIn h') (up:s'.heap.UpToSlots h'):Un (AF outer) [] H H' s.heap h':=by
 have J:∀b,b∈AF outer->∀o,s'.heap.get? b=some o->∀vs,o.data≠ .fields vs:=λb y o eo=>by
  obtain⟨_,Z,G,hd⟩:=ff.mem y;rw[eo]at G;cases G;exact hd
 refine⟨λb o e n y _=>st b o (kB b o e n y),λb o e n y O=>?_,u.free,λb o e O=>?_,u.tups,u.frzs,u.tbls⟩
 .obtain⟨s1,D⟩:=u.slot b o e n y O;obtain⟨s2,K⟩:=up b _ D (J b y _ D);exact⟨s2,K⟩
 .by_cases y:b∈AF outer
  .obtain⟨o1,D⟩:=u.there b o e O;obtain⟨s2,K⟩:=up b _ D (J b y _ D);exact⟨_,K⟩
  .obtain⟨o1,D⟩:=tB b o e y;exact⟨o1,st b o1 D⟩
theorem Ac.track(I:Ac X ad σ H s){a:yR}{o:HO}(D:a≠X.env.locals)(O:∀x c,X.env.cells.lookup x=some c->c≠a)(Z:∀p∈X.pn++ad,p.1≠a)(G:X.s₀.heap.get? a=none)(J:H a=none)
  (K:ObjOk X.prog X.w (upd H a o) s.heap a o):Ac X ad σ (upd H a o) s:=by
 have ne:∀b u,H b=some u->b≠a:=λb u e z=>by rw[z,J]at e;cases e
 refine⟨I.ok,I.os,I.bare,⟨I.base.keep,I.base.slot,λb ob e n hx=>?_,I.base.there,λb y q=>?_,λb ob y q=>?_,λb ps q=>?_⟩,I.loc,I.cell,?_,λx c e=>?_,λp B=>?_,λb ob e=>?_,I.len⟩
 .rw[Ao (λz=>by rw[z,G]at e;cases e)];exact I.base.free b ob e n hx
 .have:=I.base.tups b y q;rw[Ao (ne b _ this)];exact this
 .have:=I.base.frzs b ob y q;rw[Ao (ne b _ this)];exact this
 .obtain⟨m,e⟩:=I.base.tbls b ps q;exact⟨m,by rw[Ao (ne b _ e)];exact e⟩
 .rw[Ao (Zv D)];exact I.free
 .rw[Ao (O x c e)];exact I.freeC x c e
 .obtain⟨e,n,r⟩:=I.pin p B;exact⟨e,by rw[Ao (Z p B)];exact n,r⟩
 .by_cases z:b=a
  .subst z;rw[Af]at e;cases e;exact K
  .rw [Ao z] at e;refine(I.hok b ob e).stay (λ_ _ _ q=>q) (λc q=>?_) λc y q=>?_
   .rw[Ao (ne c _ q)];exact q
   .rw[Ao (ne c _ q)];exact q
theorem Tr{A:yO}{i:Nat}{x:Str}{pos:Pos}{Q:Unit->yS->Prop}(I:Ac X ad σ H s)(hN:X.N.Nodup)(hi:X.N[i]? =some x)(D:X.env.kindOf x=some .local)
  (h:∀s',Ac X ad (σ.set i none) H s'->Q () s'):wpAny M A (do bindName X.env x .none;unbindBehindTheSuite X.env x pos) Q E s:=by
 obtain⟨m,hn,hl⟩:=id I.loc;have K:(X.env.scope.kind== .class || (X.env.scope.kind== .module && X.env.locals !=X.env.globals))=false:=by rw[I.ok.kind];rfl
 have cne:=I.cne;refine wpAny_nameGoes_keeps D hn K λh' v i0 B=>?_
 obtain⟨oL,_,_,i4,_⟩:=id hn;have nl:∀b o,X.s₀.heap.get? b=some o->b≠X.env.locals:=λb o e=>YT (YO (Y7 e) I.ok.above)
 refine h _ ⟨I.ok,I.os,I.bare,⟨λb o e n hb D=>(B.2 b (nl b o e)).trans (I.base.keep b o e n hb D),λb o e n hb D=>?_,I.base.free,λb o e D=>?_,I.base.tups,I.base.frzs,I.base.tbls⟩,⟨_,i0,λj y v' J Z e3=>?_⟩,λy c e=>?_,I.free,I.freeC,λp hp=>?_,λb ob e=>?_,by simpa using I.len⟩
 .obtain⟨sl,J⟩:=I.base.slot b o e n hb D;exact⟨sl,(B.2 b (nl b o e)).trans J⟩
 .obtain⟨o',J⟩:=I.base.there b o e D;exact⟨o',(B.2 b (nl b o e)).trans J⟩
 .have hj:j≠i:=λz=>by
   subst z;have O:j<σ.length:=by rw[I.len];exact(Y9.mp hi).1
   rw[aR O]at Z;cases Z
  rw[aJ (Zv hj)]at Z;obtain⟨u',r',q⟩:=hl j y v' J Z e3;refine⟨u',r',?_⟩;rcases q with⟨k,e⟩ | ⟨k,c,e,z⟩
  .refine .inl ⟨k,?_⟩;have:y≠x:=λe=>hj (Id hN J (e ▸ hi))
   simp[this,e]
  .exact .inr ⟨k,c,e,z.sameBut B (cne y c e)⟩
 .obtain⟨w',z⟩:=I.cell y c e;exact⟨w',z.sameBut B (cne y c e)⟩
 .obtain⟨e,n,ne,nf,d⟩:=I.pin p hp;exact⟨(B.2 p.1 ne).trans e,n,ne,nf,d⟩
 .refine(I.hok b ob e).stay (λc w' G q=>(B.2 c ?_).trans q) (λ_ q=>q) λ_ _ q=>q
  rintro rfl;rcases G with G | G
  .rw[<-G,I.free]at e;cases e
  .rw[I.free]at G;cases G
end
theorem Tt{A:yO}{s:yS}{K:Fgx}{e C D:yR}{Q:Bool->yS->Prop}(X:K.In s.heap)(I:ExcAt s.heap e C)(hM:PySem.W.mroIn K C (.ref D)=some true)
  (B:PySem.W.mroIn K D (.type "BaseException")=some true) (J:PySem.W.typeIn K (.ref D)=some (.type "type")) (hq:Q true s):wpAny M A (excMatches (.ref e) (.ref D)) Q E s:=by
 have L0:=I.type (M:=M);have L1:=PySem.W.looks_mroIn (M:=M) X hM;have L2:=PySem.W.looks_mroIn (M:=M) X B;have G:=PySem.W.looks_typeIn (M:=M) X J;have LI:PySem.W.Looks M s.heap (isType (.ref D)) true:=by
  unfold PySem.W.mroIn at B;obtain⟨cd,y,_⟩:=Option.bind_eq_some_iff.mp B;unfold PySem.W.clsIn at y;split at y
  .rename_i c' d' i4 i0 Z;intro A' Q' E' s' k q;unfold isType loadHead;exact Y0 (wpAny_loadPart (k _ _ (X _ _ Z)) (Y4 q))
  .cases y
 have O:PySem.W.Looks M s.heap (isExcClass (.ref D)) true:=LI.andThen L2;obtain⟨hh,g,d,tk,os⟩:=s;unfold excMatches isInstance;refine Y0 (Y0 (G.at ?_));rw[tc_notTuple];refine Y4 ?_;simp only[ag,bB];refine Y0 (Y4 ?_);simp only[bL,cW];refine Y0 (Y0 (Y0 (O.at ?_)));simp only[Bool.not_true,ag,bB];refine Y4 (Y4 ?_);refine Y0 (L0.at ?_);refine Y0 (Y0 (Y0 (L1.at ?_)));simp only[aY];exact Y4 (Y4 (Y4 hq))
structure RoomQ(k:Nat)(A:yO):Prop where
 dp:A.depth+3 * k+5<recursionLimit
 un:A.units+16 * k+200<cLine
 gd:A.guards=some []
theorem AU.q{k:Nat}{A:yO}(r:AU k A):RoomQ k A:=⟨r.dp,r.un,r.gd⟩
theorem RoomQ.mark{k:Nat}{A:yO}(r:RoomQ k A)(h:yW):RoomQ k (A.mark h):=⟨r.dp,r.un,r.gd⟩
theorem RoomQ.room{k:Nat}{A:yO}(r:RoomQ k A):AU k { A with handled:=none}:=⟨rfl,r.dp,r.un,r.gd⟩
theorem RoomQ.mono{j k:Nat}{A:yO}(r:RoomQ k A)(h:j<=k):RoomQ j A:=⟨by have:=r.dp;omega,by have:=r.un;omega,r.gd⟩
theorem MA{P:yP}{w:yN}{K:Fgx}{mg:Str->yW}{base:Heap}{k:Nat}{f:yR}{name qual:Str}{B:Arguments}{body:List Stmt}{scope:Scope}{dV kV Z pm dl ct oc:yU}{an od:Option yR}
  {i4:Array (yW)}{N ps:List Str} (lk:K.lookup f=some ⟨oc,od,.func (PySem.W.fnOf name qual B body scope dV kV Z pm an dl ct),i4⟩) (i0:PySem.W.codeIn K dl qual=true) (S:Az N ps scope)
  {A:yO}{outer:List Env}{s:yS}{H:Hp}{args:Args}{us:yX}{vs:zA}{R:Result->yS->Prop} (hr:RoomQ (k+1) A) (D:C1 P w K mg base A outer s H)
  (hb:BindsTo s (PySem.W.fnOf name qual B body scope dV kV Z pm an dl ct) args (ps.zip us)) (r:Av vs us) (hl:vs.length=ps.length)
  (G : ∀ s1, Ac (Ca CX0 P w K mg base N qual scope f dl { A with handled := none } outer s H E0) [] (start N vs) H s1 -> wpAny (model P w) (A.deeper (envOfC qual scope s.heap.objs.size f dl)) (execs body (envOfC qual scope s.heap.objs.size f dl))
   (λfl s'=>match fl with | .ret u=>R (.ok (.ret u)) s' | .next=>R (.ok (.ret .none)) s' | _=>False) (λ_ _=>False) s1):
  codeAny (model P w) A (.call (.ref f) args) R s:=by
 have KX:K.In s.heap:=D.mod.kin.keeps λb o e=>(D.bs b o e).1
 have i5:s.heap.NoLimit:=D.mod.nolimit.keeps λb o e=>(D.bs b o e).1
 have J:∀y∈ps.zip us,scope.names.lookup y.1=some .local \/(scope.names.lookup y.1=some .cell/\((cellsFrom (s.heap.objs.size+1) scope.names []).lookup y.1).isSome=true):=fun⟨n,v⟩ hy=>by
  rcases S.par n (bw hy).1 with q | q
  .exact .inl q
  .exact .inr ⟨q,PySem.W.cellsFrom_some _ _ _ (.inl q)⟩
 refine fP hr.room.depth (KX _ _ lk) rfl S.co S.gen rfl (PySem.W.codeRec_of KX i0) (hb _ _ _ _ ?_);refine dW S.kind J λenv he s1 x=>?_
 subst he;refine⟨i5.keeps x.toInCall.keep,codeAny_func ?_⟩;have e1:C1 P w K mg base { A with handled:=none} outer s H:=⟨D.frames,D.mod,D.bs,D.bsz,D.funs,D.frf,D.hok,D.bare⟩;have I:Ac (Ca CX0 P w K mg base N qual scope f dl { A with handled:=none} outer s H E0) [] (start N vs) H s1:=Lj S rfl e1 hl r x;refine Zi (G s1 I) (λfl s' O=>?_) λe s' O=>O.elim
 cases fl with
 | ret u=>exact O
 | next=>exact O
 | brk=>exact O.elim
 | cont=>exact O.elim
end
def Jp(Q:VK):VK:=λv y=>∀t,y t=none->Q (.ref t) (upd y t (.tup [.str "told",v]))
def GZ(W:yR->Str->Prop)(Q:VK):XK:=λc _ D=>∃C y,c= .ref C/\W C y/\∀B t,(∀b o,D b=some o->B b=some o)->B t=some (.tup [.str y])->Q (.ref t) B
def Ff(W:yR->Str->Prop):Sp:=λvs H Q _=>match vs with
 | [.ref e]=>∃C word,H e=some (Fd e C)/\W C word/\∀H3 t,(∀b o,H b=some o->H3 b=some o)->H3 t=some (.tup [.str word])->Q (.ref t) H3
 | _=>False
def EF(P:yP)(w:yN)(K:Fgx)(mg:Str->yW)(base:Heap)(k:Nat)(W:yR->Str->Prop)(outer:List Env)(s:yS):Sp:=λvs H Q _=>match vs with
 | [.ref f] => PySem.W.FnAt f s.heap /\ H f = none /\ f ∉ AF outer /\ ∀ (A' : yO) (outer' : List Env) (s' : yS), AU k A' -> C1 P w K mg base A' outer' s' H -> Un (AF outer) [] H H s.heap s'.heap ->
   codeAny (model P w) A' (.call (.ref f) ⟨[],[]⟩) (CR (C7 P w) outer' P w H s' (Jp Q) (GZ W Q)) s'
 | _=>False
section
variable{P:yP}{w:yN}{K:Fgx}{mg:Str -> yW}{base:Heap}
structure Fg(P:yP)(w:yN)(K:Fgx)(mg:Str->yW)(base:Heap)(n:Nat)(x:Str)(ps:List Str)(sp:Sp):Prop where
 ex:∃(f:yR) (fd:FuncData),(∀(A:yO) (outer:List Env) (s:yS) (H:Hp) (args:Args) (us:yX) (vs:zA) (Q:VK),RoomQ n A->C1 P w K mg base A outer s H->BindsTo s fd args (ps.zip us)->Av vs us->sp vs H Q E0->
  codeAny (model P w) A (.call (.ref f) args) (CR CX0 outer P w H s Q E0) s)/\(∀vs H Q E,sp vs H Q E->vs.length=ps.length)/\mg x=some (.ref f)/\PySem.W.keepIn K (.ref f)=true/\Binds K fd ps []
structure Ha(P:yP)(w:yN)(K:Fgx)(mg:Str->yW)(base:Heap)(n:Nat)(x:Str)(ps:List Str)(sp:List Env->yS->Sp):Prop where
 ex:∃(f:yR) (fd:FuncData),(∀(A:yO) (outer:List Env) (s:yS) (H:Hp) (args:Args) (us:yX) (vs:zA) (Q:VK),AU n A->C1 P w K mg base A outer s H->BindsTo s fd args (ps.zip us)->Av vs us->sp outer s vs H Q E0->
  codeAny (model P w) A (.call (.ref f) args) (CR CX0 outer P w H s Q E0) s)/\mg x=some (.ref f)/\PySem.W.keepIn K (.ref f)=true/\Binds K fd ps []
theorem Df.fnQ{x:Str}{st:Stmt}{N G:List Str}{k:Nat}{sp:Sp}(F:Df K mg x st G)(S:Az N G (Ar st))(len:∀vs H Q E,sp vs H Q E->vs.length=G.length)
  (y : ∀ (f : yR) (dl : yU) (A : yO) (outer : List Env) (s : yS) (H : Hp) (vs : zA) (Q : VK), RoomQ k (A.deeper (envOfC x (Ar st) s.heap.objs.size f dl)) -> sp vs H Q E0 ->
   ∃t,PSs ((Ca CX0 P w K mg base N x (Ar st) f dl { A with handled:=none} outer s H E0).hot (A.deeper (envOfC x (Ar st) s.heap.objs.size f dl))) (BB st) t/\t { nx:=λ_ H'=>Q .non H',rt:=Q} (start N vs) H):
  Fg P w K mg base (k+1) x G sp:=by
 obtain⟨f,fd,hF,hm,hb⟩:=F.ex;have kp:=hF.kp;obtain⟨oc,od,kV,i5,pm,an,dl,ct,i4,rfl,lk,Z⟩:=hF.ex;refine⟨f,_,λA outer s H args us vs Q hr e0 i0 r D=>?_,len,hm,kp,hb⟩;refine MA lk Z S hr e0 i0 r (len _ _ _ _ D) λs1 I=>?_
 have O:RoomQ k (A.deeper (envOfC x (Ar st) s.heap.objs.size f dl)):=have z:=hr.room.deeper (envOfC x (Ar st) s.heap.objs.size f dl);⟨z.dp,z.un,z.gd⟩;obtain⟨t,ht,hq⟩:=y f dl A outer s H vs Q O D;refine Zi (ht [] s1 (start N vs) H _ (I.hot (cZ e0.frames)) hq) (λfl s' B=>?_) λe s' B=>B
 cases fl with
 | ret u=>
  obtain⟨v,σ',H',J,rv,q⟩:=B;exact⟨v,H',J.os,J.bare,J.base,J.hok,rv,q⟩
 | next=>
  obtain⟨σ',H',J,q⟩:=B;exact⟨.non,H',J.os,J.bare,J.base,J.hok,rfl,q⟩
 | brk=>obtain⟨_,_,_,q⟩:=B;exact q
 | cont=>obtain⟨_,_,_,q⟩:=B;exact q
theorem Tu{X:Cx}{n:Nat}{x:Str}{Z:List Str}{sp:Sp}{e:yL}{es:List yL}{t:TA}{p pos:Pos}(F:Fg X.prog X.w X.K X.mg X.base n x Z sp)(hr:RoomQ n X.A)(hg:Gl X x)(ha:PA X (e::es) t)
  (hdb:autoParam ((x==("__debug__" :Str))=false) W0) (he:autoParam (starEach (e::es) X.env=(false,eval e X.env)::starEach es X.env) L3) (O:autoParam ((backTo pos (starEach es X.env)).any (·.1)=false) L3):
  PE X (.Call (.Name x p) (e::es) [] pos) (LU sp t):=by
 obtain⟨f,fd,F,B,hm,hk,hb⟩:=F.ex;intro ad s σ H Q I h;refine aH (ES I hg hm ?_ hdb);refine PySem.W.callWith_K (h₀:=X.base) I.ok.mod.kin hk (Ap (ha pos ad s σ H _ I h) λJ s1 ⟨vs,H1,G,r,q⟩=>⟨G.kIn,?_⟩) he O;have hl:J.length=Z.length:=by rw[<-r.length];exact B _ _ _ _ q
 have y:=hb s1 J G.kIn (by rw[bv];exact hl);rw[bv]at y;refine eI (ao (F X.A X.stack s1 H1 ⟨J,[]⟩ J vs Q hr G.env0 y r q) λr s' D=>?_);cases r with
 | error e=>exact D.elim
 | ok fl=>
  cases fl with
  | ret u=>exact G.after D
  | next=>exact False.elim D
  | brk=>exact False.elim D
  | cont=>exact False.elim D
end
section
variable{X:Cx}{H:Hp}{f:yR}{Q:VK}{W:yR -> Str -> Prop}
theorem Tv{k:Nat}{Z:VSP}{x:Str}{p pos:Pos}(hN:X.N[0]? =some x)(hv:FB X.env.scope x)(hdb:(x==("__debug__" :Str))=false)(O:(x==("__classdict__" :Str))=false)(i4:X.ex=[])(h0:X.H₀=H)
  (hr:AU k X.A) (hs:EF X.prog X.w X.K X.mg X.base k W X.outer X.s₀ [.ref f] H Q E0)
  (hW:∀ad σ sc v s',Ac X ad σ H sc->C7 X.prog X.w X.stack H sc (GZ W Q) v s'->Z v s'):
  PE (X.wish Z) (.Call (.Name x p) [] [] pos) (fun σ H' Q'=>σ[0]? =some (some (.ref f))/\H'=H/\∀v y,Jp Q v y->Q' v y):=by
 intro ad s σ H' Q' I ⟨hσ,e,hq⟩;subst e;obtain⟨hf,hn,i0,run⟩:=hs;refine aH (Ap ((Ig (X:=X.wish Z) (i:=0) hN hv hdb O) ad s σ H' (λv y=>v= .ref f/\y=H') I ?_) λu s2 ⟨v,y,I2,r,q⟩=>?_)
 .exact⟨.ref f,hσ,rfl,rfl⟩
 obtain⟨rfl,rfl⟩:=q;have hu:u= .ref f:=r;subst hu;have G:Ac X ad σ y s2:=I2.unwish;have un:Un (AF X.outer) [] y y X.s₀.heap s2.heap:=by
  have:=G.base;rw[i4,h0]at this;exact this
 obtain⟨oc,od,fd,sl,ho⟩:=hf;have D:=un.keep f _ ho hn i0 (by simp);refine PySem.W.callWith_F0 ⟨oc,od,fd,sl,D⟩ ?_;refine eI (ao (run X.A X.stack s2 hr G.env0 un) λr s' B=>?_);cases r with
 | error e=>exact hW ad σ s2 e s' G B
 | ok fl=>
  cases fl with
  | ret u=>
   obtain⟨v,H3,J,rv,qv⟩:=I2.after B;exact⟨v,H3,J,rv,hq v H3 qv⟩
  | next=>exact False.elim B
  | brk=>exact False.elim B
  | cont=>exact False.elim B
end
noncomputable abbrev MB(Z:Str)(i1 i2:Nat)(O G p3 J p5 p6 p7 K p9 y D B:Pos):Stmt:=
 .Try [.Return (some (.Tuple [.Constant (.str "told") i1 O,.Call (.Name "_law_call" G) [] [] p3] i2 J)) p5]
  [.ExceptHandler (some (.Name "MainError" p6)) (some "_law_e") [.Return (some (.Call (.Name Z p7) [.Name "_law_e" K] [] p9)) y] D] [] [] B
section
variable{X:Cx}{H:Hp}{f M:yR}{Q:VK}{W:yR -> Str -> Prop}{s1:yS}
theorem Tw{wn:Str}{k n:Nat}{i1 i2:Nat}{p1 p2 p3 p4 p5 p6 p7 p8 p9 j3 r8 u7:Pos}(stk:X.stack=X.env::X.outer)(fr:X.env.frame=some X.env.locals)(j4:X.ex=[])(n9:X.pn=[])(hc:X.calm=true)(h0:X.H₀=H)(hN:X.N=[("_law_call" :Str),("_law_e" :Str)])
  (k0:X.env.scope.names.lookup ("_law_call" :Str)=some .local) (k1:X.env.scope.names.lookup ("_law_e" :Str)=some .local) (gM:Gl X "MainError") (gw:Gl X wn) (hM:X.mg "MainError"=some (.ref M))
  (hB:PySem.W.mroIn X.K M (.type "BaseException")=some true) (hT:PySem.W.typeIn X.K (.ref M)=some (.type "type")) (o7:∀C w,W C w->PySem.W.mroIn X.K C (.ref M)=some true) (Dw:Fg X.prog X.w X.K X.mg X.base n wn ["_law_e"] (Ff W))
  (hdb:(wn==Str.ofString "__debug__")=false) (hr:AU k X.A) (hn:n<=k) (hs:EF X.prog X.w X.K X.mg X.base k W X.outer X.s₀ [.ref f] H Q E0) (I:Ac X [] [some (.ref f),none] H s1):
  wpAny (model X.prog X.w) X.A (execs [MB wn i1 i2 p1 p2 p3 p4 p5 p6 p7 p8 p9 j3 r8 u7] X.env) (λfl s'=>match fl with | .ret u=>∃v σ H',Ac X [] σ H' s'/\Aw v u/\Q v H' | _=>False) (λ_ _=>False) s1:=by
 have l9:X.A.frames=some (X.env::X.outer):=by rw[<-stk];exact I.ok.frames
 refine eV (wpAny_Try_except ?_);have i4:PSs (X.wish λv s'=>∃ad σ sc,Ac X ad σ H sc/\C7 X.prog X.w X.stack H sc (GZ W Q) v s') [.Return (some (.Tuple [.Constant (.str "told") i1 p1,.Call (.Name "_law_call" p2) [] [] p3] i2 p4)) p5] _:=
  An (Ay (BT (Bf U' (Bf (Tv (k:=k) (by rw[hN];rfl) (.inl k0) (by decide) (by decide) j4 h0 hr hs λad σ sc v s' a b=>⟨ad,σ,sc,a,b⟩) pa_nil))))
 refine Zi (i4 [] s1 [some (.ref f),none] H { nx:=λ_ _=>False,rt:=Q} (I.wish _) ?_) (λfl s' z=>?_) λv s' z=>?_
 .exact⟨rfl,rfl,λv H2 hq p hp=>hq p hp⟩
 .cases fl with
  | ret u=>
   obtain⟨v,σ',H',J,rv,q⟩:=z;exact⟨v,σ',H',J.unwish,rv,q⟩
  | next=>obtain⟨_,_,_,q⟩:=z;exact q.elim
  | brk=>obtain⟨_,_,_,q⟩:=z;exact q.elim
  | cont=>obtain⟨_,_,_,q⟩:=z;exact q.elim
 obtain⟨ad,σ,sc,l6,C,a,H2,rfl,x,C',i0,v6,hw,hq⟩:=z;cases v6;have Z:Ac X [] σ H sc:=l6.pins_of λp hp=>absurd hp (by simp)
 obtain⟨B,t,fl,kB,tB,i8⟩:=x.fly;have ff:=fl.2.2.1;have i6:B.get? a=none:=fl.2.1;have j8:=fl;rw[stk]at j8;refine wpAny_looks_onW l9 fr j8 λh4 i7 u9=>?_
 refine wpAny_landsW i7 λh5 O o8=>?_
 have up:=u9.trans o8;have I5:Ac X [] σ H2 { s' with heap:=h5}:=Z.call' (s':= { s' with heap:=h5}) (ch:=[]) x.os (Mz x.un kB tB ff O.1 up) (i8.kept O.1) x.bare λb z=>absurd z (by simp)
 have hA:(X.A.mark (some (.ref a))).frames=some X.stack:=I.ok.frames;have u0:=I5.hot (A:=X.A.mark (some (.ref a))) hA;refine wpAny_handleBy_cons (codeAny_handlers_test ?_) (by intro q;cases q);refine ES (X:=X.hot (X.A.mark (some (.ref a)))) u0 gM hM ?_;have v4:ExcAt h5 a C:=by
  obtain⟨oe,vs,h1,h2,_⟩:=O.first
  exact⟨oe,h1,h2⟩
 refine Tt I5.kIn v4 (o7 C i0 hw) hB hT ?_;refine codeAny_handlers_suite_as ?_;refine lands_againW O λh6 G v3=>?_
 have I6:Ac X [] σ H2 { s' with heap:=h6}:=Z.call' (s':= { s' with heap:=h6}) (ch:=[]) x.os (Mz x.un kB tB ff G.1 (up.trans v3)) (i8.kept G.1) x.bare λb z=>absurd z (by simp)
 obtain⟨oe,vs,i9,q9,j9,_⟩:=G.first
 have j5:H2 a=none:=by
  cases q:H2 a with
  | none=>rfl
  | some o=>
   obtain⟨u,hu⟩:=ObjOk.there (i8 a o q);rw[i6]at hu;cases hu
 have o9:∀b o,sc.heap.get? b=some o->H b=none->b ∉ AF X.stack->b≠a:=λb o e n hb z=>by
  have:=kB b o e n hb;rw[z,i6]at this;cases this
 have i5:a ∉ AF X.stack:=λz=>by
  have f6:=G.2.2.1;rw[<-stk]at f6;obtain⟨_,o',j0,hd⟩:=f6.mem z;rw[i9]at j0;cases j0;exact hd vs j9
 have na:a≠X.env.locals:=λz=>i5 (by rw[stk,z];exact ZG.mpr ⟨X.env,.head _,fr⟩)
 have I7:Ac X [] σ (upd H2 a (Fd a C)) { s' with heap:=h6}:=by
  refine I6.track na (λy c e z=>?_) (λp hp z=>?_) ?_ j5 ⟨⟨oe,i9,q9⟩,⟨oe,i9⟩,λh1 h2 ⟨o,e1,e2⟩ k=>⟨o,k o e1,e2⟩⟩
  .obtain⟨v,hv⟩:=Z.cell y c e;obtain⟨o,ho,hd⟩:=hv;refine o9 c o ho (Z.freeC y c e) (λhf=>?_) z;rcases YY.mp (Z.stkSub c hf) with q | q
   .exact Z.cne y c e q
   .exact absurd q (z ▸ λq=>i5 (by rw[stk];obtain⟨y',hy,t9⟩:=ZG.mp q;exact ZG.mpr ⟨y',.tail _ hy,t9⟩))
  .rw[n9]at hp;exact absurd hp (by simp)
  .cases q:X.s₀.heap.get? a with
   | none=>rfl
   | some o=>
    exfalso
    obtain⟨o1,e1⟩:=Z.base.there a o q (by rw[j4];simp);obtain⟨o2,e2⟩:=tB a o1 e1 i5;rw[i6]at e2;cases e2
 have j6:X.N.Nodup:=by rw[hN];decide
 have hi:X.N[1]? =some ("_law_e" :Str):=by rw[hN];rfl
 have u6:=I7.hot (A:=X.A.mark (some (.ref a))) hA;refine DQ (X:=X.hot (X.A.mark (some (.ref a)))) (v:= .ref a) u6 j6 hi (.inl k1) rfl (λs8 I8=>?_) (.inr k1);have D:PSs (X.hot (X.A.mark (some (.ref a)))) [.Return (some (.Call (.Name wn p7) [.Name "_law_e" p8] [] p9)) j3] _:=
  An (Ay (Tu (hdb:=hdb) (X:=X.hot (X.A.mark (some (.ref a)))) Dw ((hr.q.mono hn).mark _) gw (Bf (Ig (i:=1) hi (.inl k1) (by decide) (by decide)) pa_nil)))
 have j7:1<σ.length:=by rw[Z.len,hN];decide
 refine Zi (D [] s8 (σ.set 1 (some (.ref a))) (upd H2 a (Fd a C)) { nx:=λ_ _=>False,rt:=Q} I8 ?_) (λfl s9 z=>?_) λ_ _ z=>z.elim
 .refine⟨.ref a,aR j7,C,i0,Af,hw,λH3 t3 e3 h3=>?_⟩;exact hq H3 t3 (λb o e=>e3 b o (by rw[Ao (λz=>by rw[z,j5]at e;cases e)];exact e)) h3
 .cases fl with
  | ret u=>
   obtain⟨v,σ',H',J,rv,q⟩:=z;have J':Ac X [] σ' H' s9:=Ac.cool I.ok J;exact Tr J' j6 hi k1 λv7 l7=>⟨v,_,H',l7,rv,q⟩
  | next=>obtain⟨_,_,_,q⟩:=z;exact q.elim
  | brk=>obtain⟨_,_,_,q⟩:=z;exact q.elim
  | cont=>obtain⟨_,_,_,q⟩:=z;exact q.elim
end
theorem Ty{B:Str}{P:yP}{w:yN}{K:Fgx}{mg:Str->yW}{base:Heap}{st:Stmt}{k n:Nat}{M:yR}{W:yR->Str->Prop}{i1 i2:Nat}{p1 p2 p3 p4 p5 p6 p7 p8 p9 G i0 i4:Pos}
  (F:Df K mg "_law_said" st ["_law_call"]) (S:Az ["_law_call","_law_e"] ["_law_call"] (Ar st)) (hb:BB st=[MB B i1 i2 p1 p2 p3 p4 p5 p6 p7 p8 p9 G i0 i4])
  (k0:(Ar st).names.lookup ("_law_call" :Str)=some .local) (k1:(Ar st).names.lookup ("_law_e" :Str)=some .local) (gM:(Ar st).names.lookup ("MainError" :Str)=some .globalImplicit) (gw:(Ar st).names.lookup B=some .globalImplicit)
  (hM:mg "MainError"=some (.ref M)) (hB:PySem.W.mroIn K M (.type "BaseException")=some true) (hT:PySem.W.typeIn K (.ref M)=some (.type "type")) (O:∀C w,W C w->PySem.W.mroIn K C (.ref M)=some true)
  (Dw:Fg P w K mg base n B ["_law_e"] (Ff W)) (hn:n<=k) (hdb:autoParam ((B==Str.ofString "__debug__")=false) W0):Ha P w K mg base (k+1) "_law_said" ["_law_call"] (EF P w K mg base k W):=by
 obtain⟨f,fd,hF,hm,i5⟩:=F.ex;have kp:=hF.kp;obtain⟨oc,od,kV,i8,pm,an,dl,ct,i7,rfl,lk,Z⟩:=hF.ex;refine⟨f,_,λA outer s H args us vs Q hr e0 i6 r y=>?_,hm,kp,i5⟩;have hl:∃g,vs=[.ref g]:=by
  unfold EF at y;split at y
  .exact⟨_,rfl⟩
  .exact y.elim
 obtain⟨g,rfl⟩:=hl;refine MA lk Z S hr.q e0 i6 r rfl λs1 I=>?_
 have eA:({ A with handled:=none}:yO)=A:=by
  obtain⟨h,d,fs,gs,u⟩:=A;have:h=none:=hr.hd;subst this
  rfl
 rw[eA]at I;rw[hb];have D:=hr.deeper (envOfC "_law_said" (Ar st) s.heap.objs.size f dl);have I2:Ac (Ca CX0 P w K mg base ["_law_call","_law_e"] "_law_said" (Ar st) f dl A outer s H E0) [] [some (.ref g),none] H s1:=I;refine Zi (Tw (X:=Ca CX0 P w K mg base ["_law_call","_law_e"] "_law_said" (Ar st) f dl A outer s H E0) (k:=k) rfl rfl rfl rfl rfl rfl rfl k0 k1 gM gw hM hB hT O Dw hdb D hn y I2) (λfl s' z=>?_) λ_ _ z=>z
 cases fl with
 | ret u=>
  obtain⟨v,σ,H',J,rv,q⟩:=z;exact⟨v,H',J.os,J.bare,J.base,J.hok,rv,q⟩
 | next=>exact z.elim
 | brk=>exact z.elim
 | cont=>exact z.elim
def Hb(c:yR)(q:Str):HO:= .ext λh=>h.CodeRec (.ref c) q
def TabIn(H:Hp)(P:yR)(q:Str):Prop:=∃y:Array yU,H P=some (.tbl y)/\TriplesOk y.toList/\∀pos v,codeAmong pos y.toList=some v->∃c,v= .ref c/\H c=some (Hb c q)
theorem Tz{l:yX}{a b:Nat}{c:yU}(h:TriplesOk l):TriplesOk (l++[rawInt a,rawInt b,c]):=by
 fun_induction TriplesOk l with
 | case1=>exact trivial
 | case2 x t y t' z rest ih=>exact ih h
 | case3=>exact h.elim
theorem TC{l:yX}{a b:Nat}{c:yU}{pos:Pos}{v:yU}(h:TriplesOk l)(e:codeAmong pos (l++[rawInt a,rawInt b,c])=some v):codeAmong pos l=some v\/v=c:=by
 fun_induction TriplesOk l with
 | case1=>
  have B:codeAmong pos [rawInt a,rawInt b,c]=some v:=e;unfold codeAmong rawInt at B;dsimp only at B;split at B
  .exact .inr (Z7 B).symm
  .unfold codeAmong at B;cases B
 | case2 x t y t' z rest ih=>
  rw[fJ,fJ,fJ]at e;unfold codeAmong at e ⊢;split at e
  .rename_i q;rw[YN q];exact .inl e
  .rename_i q;rw[Y8 q];exact ih h e
 | case3=>exact h.elim
section
variable{X:Cx}{ad:List (yR × Obj)}{σ:St}{H:Hp}{s:yS}{scope:Scope}{N':List Str}{cap:List (Option Nat)}{P c:yR}{ql:Str}{params:Arguments}{body:yL}{pos:Pos}
theorem TD(I:Ac X ad σ H s)(hT:TabIn H P ql)(O:X.env.code= .ref c)(hC:PySem.W.CodeHd X.base c P)(q9:X.base.BuiltinsAt X.mg P)(B:AI X.env.scope X.N scope N' cap)
  (hq:X.env.qual++ "<lambda>"=ql) (j8:defaultsOf params X.env=([],[])) {Q:VSP}{E:VSP}
  (h : ∀ s1 K f G pm J, Ac X ad σ K s1 -> TabIn K P ql -> (∀ b o, H b = some o -> b ≠ P -> K b = some o) -> K f = none -> f ∉ AF X.stack ->
   s1.heap.get? f=some (PySem.W.kla_obj "<lambda>" ql params body scope (AS X.env.cells scope.names []) pm G J)->K G=some (Hb G ql)->Q (.ref f) s1):
  wpAny (model X.prog X.w) X.A (eval (.Lambda params body scope pos) X.env) Q E s:=by
 obtain⟨ps,hP,ht,j6⟩:=hT;have i4:s.heap.get? P=some (PySem.W.tabObj ps):=I.hok P _ hP;have j9:closureFor scope X.env=pure (AS X.env.cells scope.names []):=IF λy hy hf=>I.ok.has y.1 (B.free y hy hf)
 have hg:s.heap.Ns mainGlobals X.mg:=I.mod.glob.keeps I.bk;have n9:=hC.keeps I.bk;have r8:mainGlobals≠P:=λq=>by
  obtain⟨o,es,ep,e,hd,_⟩:=hg;rw[q,i4]at e;cases e;cases hd
 obtain⟨bm,ob,b1,b2,b3,b4,b5,b6⟩:=q9;have j3:s.heap.BuiltinsAt X.mg P:=⟨bm,ob,b1,b2,b3,b4,I.bk _ _ b5,b6⟩;have i9:∀b∈AF X.stack,b<s.heap.objs.size:=λb hb=>by
  obtain⟨_,o,ho,_⟩:=I.stack.mem hb;exact Y7 ho
 refine PySem.W.kla_eval j8 ?_;rw[hq];cases hf:codeAmong pos ps.toList with
 | some cv=>
  obtain⟨G,rfl,o7⟩:=j6 pos cv hf;refine PySem.W.kla_makeFunctionHit j9 I.ok.glob hg O n9 i4 ht hf j3 λJ h' tk hk l7=>?_
  have o9:∀b o,s.heap.get? b=some o->(h'.push (PySem.W.kla_obj "<lambda>" ql params body scope (AS X.env.cells scope.names []) ((X.mg "__name__").getD .none) G J)).get? b=some o:=λb o e=>Y1 _ (hk b o e)
  refine h _ H h'.objs.size G _ J (I.kept (t':=tk) o9) ⟨ps,hP,ht,j6⟩ (λb o e _=>e) (I.hok.fresh l7) (λz=>?_) (YM _ rfl) o7;exact absurd (YO (i9 _ z) l7) (YX _)
 | none=>
  refine PySem.W.kla_makeFunction j9 I.ok.glob hg O n9 i4 ht hf r8 j3 λG J h' tk hx Z l9 i7 l6=>?_
  have i0:s.heap.objs.size<=h'.objs.size:=ZH (au Z l9);have i6:∀b o,b≠P->s.heap.get? b=some o->(h'.push (PySem.W.kla_obj "<lambda>" ql params body scope (AS X.env.cells scope.names []) ((X.mg "__name__").getD .none) G J)).get? b=some o:=λb o n e=>Y1 _ (hx b o n e)
  have j0:P<s.heap.objs.size:=Y7 i4;have cP:G≠P:=λz=>by rw[z]at Z;exact absurd (YO j0 Z) (YX _)
  have t9:H G=none:=I.hok.fresh Z;have ne:∀b o,H b=some o->b≠G:=λb o e z=>by rw[z,t9]at e;cases e
  let ps':Array yU:=ps++ #[rawInt pos.line,rawInt pos.col,.ref G]
  let K:Hp:=upd (upd H P (.tbl ps')) G (Hb G ql)
  have j4:K G=some (Hb G ql):=Af;have j5:K P=some (.tbl ps'):=by show upd _ G _ P=_;rw[Ao (Zv cP),Af]
  have i5:∀b,b≠P->b≠G->K b=H b:=λb n m=>by show upd _ G _ b=_;rw[Ao m,Ao n]
  have D:∀b o,H b=some o->b≠P->K b=some o:=λb o e n=>by rw[i5 b n (ne b o e)];exact e
  have un:Un (AF X.stack) [] H K s.heap (h'.push (PySem.W.kla_obj "<lambda>" ql params body scope (AS X.env.cells scope.names []) ((X.mg "__name__").getD .none) G J)):=by
   have nP:∀b,H b=none->b≠P:=λb n z=>by rw[z,hP]at n;cases n
   have o8:∀b o,s.heap.get? b=some o->b≠G:=λb o e z=>by have:=Y7 e;rw[z]at this;exact absurd (YO this Z) (YX _)
   refine⟨λb o e n _ _=>i6 b o (nP b n) e,λb o e n _ _=>⟨o.slots,i6 b o (nP b n) e⟩,λb o e n _=>by rw[i5 b (nP b n) (o8 b o e)];exact n,λb o e _=>?_,λb xs q=>D b _ q (λz=>by rw[z,hP]at q;cases q),
    λb o' xs q=>D b _ q (λz=>by rw[z,hP]at q;cases q),λb qs q=>?_⟩
   .by_cases z:b=P
    .subst z;exact⟨_,Y1 _ l6⟩
    .exact⟨o,i6 b o z e⟩
   .by_cases z:b=P
    .subst z;rw[hP]at q;cases q;exact⟨_,j5⟩
    .exact⟨#[],by rw[D b _ q z];simp⟩
  have hok:HOk X.prog X.w K (h'.push (PySem.W.kla_obj "<lambda>" ql params body scope (AS X.env.cells scope.names []) ((X.mg "__name__").getD .none) G J)):=λb o e=>by
   by_cases z:b=P
   .subst z;rw[j5]at e;cases e;exact Y1 _ l6
   .by_cases z2:b=G
    .subst z2;rw [j4] at e;cases e;refine⟨i7.push _,?_,λg1 g2 x k=>?_⟩
     .obtain⟨c2,oc,vs,t,e2,j7,_⟩:=i7;cases e2;exact⟨oc,Y1 _ j7⟩
     .obtain⟨c2,oc,vs,t,e2,j7,r⟩:=x;cases e2;exact⟨_,oc,vs,t,rfl,k oc j7,r⟩
    .rw [i5 b z z2] at e;refine(I.hok b o e).stay (λd u hd q=>i6 d u (λy=>?_) q) (λd q=>D d _ q λy=>by rw [y,hP] at q;cases q) λd xs q=>D d _ q λy=>by rw [y,hP] at q;cases q
     rcases hd with hd | hd
     .exact z (hd ▸ y)
     .rw[y,hP]at hd;cases hd
  have I1:Ac X ad σ K { s with heap:=h'.push (PySem.W.kla_obj "<lambda>" ql params body scope (AS X.env.cells scope.names []) ((X.mg "__name__").getD .none) G J),toks:=tk}:=
   I.call' (s':= { s with heap:=h'.push (PySem.W.kla_obj "<lambda>" ql params body scope (AS X.env.cells scope.names []) ((X.mg "__name__").getD .none) G J),toks:=tk}) (ch:=[]) rfl un hok I.bare λb z=>absurd z (by simp)
  refine h _ K h'.objs.size G _ J I1 ⟨ps',j5,?_,λi8 v e=>?_⟩ D ?_ (λz=>?_) (YM _ rfl) j4
  .show TriplesOk (ps++ #[rawInt pos.line,rawInt pos.col,.ref G]).toList;rw[dC];exact Tz ht
  .have e':codeAmong i8 (ps++ #[rawInt pos.line,rawInt pos.col,.ref G]).toList=some v:=e;rw [dC] at e';rcases TC ht e' with q | q
   .obtain⟨c2,r1,r2⟩:=j6 i8 v q;exact⟨c2,r1,D c2 _ r2 λy=>by rw[y,hP]at r2;cases r2⟩
   .exact⟨G,q,j4⟩
  .rw[i5 _ (ZV (YO j0 i0)) (ZV l9)];exact I.hok.fresh i0
  .exact absurd (YO (i9 _ z) i0) (YX _)
end
section
variable{X:Cx}{scope:Scope}{N':List Str}{cap:List (Option Nat)}{P c:yR}{ql:Str}{params:Arguments}{body:yL}{lpos p pos:Pos}{W:yR -> Str -> Prop}{k:Nat}{te:XK -> TE}
def TF(P:yR)(B:Str)(W:yR->Str->Prop)(cap:List (Option Nat))(G:XK->TE):TE:=fun D H Q=>TabIn H P B/\∀y,TabIn y P B->(∀b o,H b=some o->b≠P->y b=some o)->G (GZ W Q) (AK cap D) y (Jp Q)
theorem TH(F:Ha X.prog X.w X.K X.mg X.base (k+1) "_law_said" ["_law_call"] (EF X.prog X.w X.K X.mg X.base k W))(hr:AU (k+1) X.A)(hg:Gl X "_law_said")(i7:∀x,X.fn x=true)(O:X.env.code= .ref c)(hC:PySem.W.CodeHd X.base c P)(i8:X.base.BuiltinsAt X.mg P)
  (B:AI X.env.scope X.N scope N' cap) (nc:∀x∈scope.names,x.2≠ .cell) (co:scope.isCoroutine=false) (gen:scope.isGenerator=false) (Z:X.env.qual++ "<lambda>"=ql) (i5:defaultsOf params X.env=([],[]))
  (G:∀i6 pm c' i4,bindArgs (PySem.W.kla_fn "<lambda>" ql params body scope i6 pm (.ref c') i4) ⟨[],[]⟩=pure [])
  (J:∀(A:yO) (outer:List Env) (s:yS) (H:Hp) (f c':yR) (E:XK),AU k A->PE (FW X.prog X.w X.K X.mg X.base N' ql scope f (.ref c') (AS X.env.cells scope.names []) A outer s H E) body (te E))
  (he:autoParam (starEach [.Lambda params body scope lpos] X.env=(false,eval (.Lambda params body scope lpos) X.env)::starEach [] X.env) L3) (i9:autoParam ((backTo pos (starEach [] X.env)).any (·.1)=false) L3):
  PE X (.Call (.Name "_law_said" p) [.Lambda params body scope lpos] [] pos) (TF P ql W cap te):=by
 intro ad s σ H Q I ⟨hT,hqq⟩;obtain⟨f0,fd,run,hm,hk,hb⟩:=F.ex;refine aH (ES I hg hm ?_ (by decide));refine PySem.W.callWith_K (h₀:=X.base) I.ok.mod.kin hk (spliced_more (TD I hT O hC i8 B Z i5 λs1 H1 f c' pm i4 y T1 k1 n1 n2 o1 c1=>spliced_none ⟨y.kIn,?_⟩)) he i9;have j3:=hb s1 [.ref f] y.kIn rfl;refine eI (ao (run X.A X.stack s1 H1 ⟨[.ref f],[]⟩ [.ref f] [.ref f] Q hr y.env0 j3 (.cons rfl .nil) ?_) λr s' Z=>?_)
 .refine⟨⟨_,_,_,_,o1⟩,n1,n2,λA' D s' i0 e' un=>?_⟩;refine Tq y B nc co gen i0 e' (λx cc v e ic=>?_) (un.keep f _ o1 n1 n2 (by simp)) (e'.hok c' _ c1).1 (G _ _ _ _) (J A' D s' H1 f c' _ i0) (hqq H1 T1 k1);obtain⟨o,ho,hd⟩:=ic;refine⟨o,un.keep cc o ho (y.freeC x cc e) (λz=>?_) (by simp),hd⟩;rcases YY.mp (y.stkSub cc z) with q | q
  .exact y.cne x cc e q
  .obtain⟨_,o',j0,_⟩:=y.ok.funs.mem q;exact absurd (YO (Y7 j0) (y.ok.cab x cc (i7 x) e)) (YX _)
 .cases r with
  | error e=>exact Z.elim
  | ok fl=>
   cases fl with
   | ret u=>exact y.after Z
   | next=>exact False.elim Z
   | brk=>exact False.elim Z
   | cont=>exact False.elim Z
end
theorem TJ(a b:Bool):MeetsSeq.EqGives (.bool a) (.bool b) (a==b):=λprog w A E s Q h=>PySem.SeqAt.EqAt.bool_bool a b prog w E Q h
def Fh:yU->Bool
 | .bool b=>b
 | _=>false
theorem Jq:∀ {bs:List Bool}{us:yX},Av (bs.map V.bl) us->us=bs.map Value.bool
 | [],_,h=>by cases h;rfl
 | b::bs,_,h=>by
  cases h with
  | cons r t=>
   have:=Jq t;subst this;have y:_=Value.bool b:=r;rw[y]
   rfl
theorem MC{bs:List Bool}:∀y,y∈(bs.map Value.bool).toArray->MeetsSeq.EqGives y (.bool true) (Fh y):=λy D=>by
 have B:y∈bs.map Value.bool:=by simpa using D
 obtain⟨b,_,rfl⟩:=Zj.mp B;have:=TJ b true;cases b<;>exact this
section
variable{X:Cx}
def TK:V->zA->Hp->VK->Prop:=λx y H Q=>∃(l:yR) (bs:List Bool),x= .ref l/\y=[.bl true]/\H l=some (.lst (bs.map V.bl))/\Q (.int (bs.count true:Nat)) H
theorem TN:Gw X "list.count" TK:=by
 intro ad s σ H x vs v us Q I K rv h;obtain⟨l,bs,rfl,rfl,hH,q⟩:=h;cases K;obtain⟨u,rfl,ru⟩:=rv.one;have B:u=Value.bool true:=ru;subst B;obtain⟨J,r,pl,hz⟩:=I.list (Al.of hH);have e:=Jq r;subst e;obtain⟨⟨cls,O,data,Z⟩,D,G,n,hd⟩:=id pl.isList;simp only at G hd;subst G hd;refine aF PySem.F.slot_list_count ⟨_,D,rfl⟩ PySem.F.entry_list_count (PySem.F.args_list_count_2 _ _) (PySem.SeqAt.list_countAt l (bs.map Value.bool).toArray n O Z (.bool true) Fh) ⟨D,λy hy=>(MC y hy).at _ _,?_⟩;have ec:(bs.map Value.bool).toArray.toList.countP Fh=bs.count true:=by
  rw[show(bs.map Value.bool).toArray.toList=bs.map Value.bool from rfl,List.countP_map];unfold List.count
  congr 1
  funext b
  cases b<;>rfl
 rw[ec];exact⟨.int (bs.count true:Nat),H,I.tok _,⟨_,rfl⟩,q⟩
def TQ:V->zA->Hp->VK->Prop:=λx y H Q=>∃(l:yR) (bs:List Bool) (j:Nat),x= .ref l/\y=[.bl true]/\H l=some (.lst (bs.map V.bl))/\bs.length<=1000/\bs[j]? =some true/\(∀m,m<j->bs[m]? =some false)/\Q (.int (j:Nat)) H
theorem TR:Gw X "list.index" TQ:=by
 intro ad s σ H x vs v us Q I rx rv h;obtain⟨l,bs,j,rfl,rfl,hH,hs,O,K,q⟩:=h;cases rx;obtain⟨u,rfl,ru⟩:=rv.one;have G:u=Value.bool true:=ru;subst G;obtain⟨_,i0,n,r,Z⟩:=(show ObjOk X.prog X.w H s.heap l (.lst (bs.map V.bl)) from I.hok l _ hH);have e:=Jq r;subst e;have B:j<bs.length:=(Y9.mp O).1;have y:bs[j]=true:=(Y9.mp O).2;refine aF PySem.F.slot_list_index ⟨_,Z,rfl⟩ PySem.F.entry_list_index (PySem.F.args_list_index_2 _ _) (MeetsSeq.list_index l (bs.map Value.bool).toArray n (.bool true) Fh MC j (by simpa using B) (by omega) (by simp[Fh,y]) (λm hm J=>?_)) ⟨Z,?_⟩
 .have:=K m J;have D:bs[m]'(by simpa using hm)=false:=(Y9.mp this).2;simp[Fh,D]
 .exact⟨.int (j:Nat),H,I.tok _,⟨_,rfl⟩,q⟩
def MD(K:Fgx):zA->Hp->VK->Prop:=λy H Q=>∃(e C:yR) (v:V) (b:Bool),y=[.ref e,v]/\H e=some (Fd e C)/\ED K C/\(∀u,Aw v u->PySem.W.kitOne K (.ref C) u=some b)/\Q (.bl b) H
theorem ME(K:Fgx)(D:autoParam (X.K=K) L3):Bo X (.builtin "isinstance") (MD K):=by
 subst D;intro ad s σ H vs us Q I rv h;obtain⟨e,C,v,b,rfl,Z,O,k,q⟩:=h;obtain⟨u1,B,rfl,G,J⟩:=rv.two;have y:u1=Value.ref e:=G;subst y;exact Ti I Z O (k B J) λtk=>⟨.bl b,H,I.tok _,rfl,q⟩
end
noncomputable def theWords:List Str:=["plant","story","firing","hour","boiler","prices","way","set","tanks","pump","feeding","readings","start","shifts","book","amount","deed","line","text"]
noncomputable def Fi(K:Fgx)(M:yR)(ds:List yR)(i:Nat):Bool:=
 (PySem.W.findIn K (.ref (ds.getD i 0)) "__getattribute__"==some (some (.builtin "BaseException.__getattribute__"))) &&(PySem.W.findIn K (.ref (ds.getD i 0)) "__getattr__"==some none) &&(PySem.W.clsIn K (ds.getD i 0)).isSome &&
 (PySem.W.findIn K (.ref (ds.getD i 0)) "__class__"==some (some (.builtin "object.__class__"))) &&(PySem.W.specialIn K (.builtin "object.__class__") "__get__"==some (some (.builtin "getset_descriptor.__get__"))) &&(PySem.W.takesIn K (.builtin "object.__class__")==some true) &&
 (PySem.W.mroIn K (ds.getD i 0) (.type "object")==some true) &&(PySem.W.mroIn K (ds.getD i 0) (.type "BaseException")==some true) &&(PySem.W.mroIn K (ds.getD i 0) (.ref M)==some true) &&
 ((List.range 19).all λj=>PySem.W.kitOne K (.ref (ds.getD i 0)) (.ref (ds.getD j 0))==some (j==i)) &&(PySem.W.kitOne K (.ref (ds.getD i 0)) (.type "ValueError")==some true)
structure Wd(K:Fgx)(M:yR)(ds:List yR)(C:yR)(word:Str):Prop where
 ex:∃i,i<19/\C=ds.getD i 0/\theWords[i]? =some word/\Fi K M ds i=true
section
variable{K:Fgx}{M:yR}{ds:List yR}{i:Nat}
theorem MG(h:Fi K M ds i=true):ED K (ds.getD i 0)/\PySem.W.mroIn K (ds.getD i 0) (.ref M)=some true/\(∀j,j<19->PySem.W.kitOne K (.ref (ds.getD i 0)) (.ref (ds.getD j 0))=some (j==i))/\PySem.W.kitOne K (.ref (ds.getD i 0)) (.type "ValueError")=some true:=by
 unfold Fi at h;simp only[Z5,aV]at h;obtain⟨⟨⟨⟨⟨⟨⟨⟨⟨⟨h1,D⟩,G⟩,h4⟩,h5⟩,Z⟩,h7⟩,h8⟩,O⟩,y⟩,B⟩:=h;refine⟨⟨h1,D,G,h4,h5,Z,h7,h8⟩,O,λj J=>?_,B⟩;have:=ZF.mp y j (Zr.mpr J);exact aV.mp this
theorem Wd.mro{C:yR}{y:Str}(h:Wd K M ds C y):PySem.W.mroIn K C (.ref M)=some true:=by
 obtain⟨i,_,rfl,_,q⟩:=h.ex;exact(MG q).2.1
end
theorem TU{P:yP}{w:yN}{K:Fgx}{mg mb:Str->yW}{CX:CN}{k:Nat}{fa a c T:yR}{fd:FuncData}{x:Str}{sp:Sp}{y:yS}{vs:yX}{ns:yV}
  (KX:K.In y.heap) (j5:y.heap.Ns mainGlobals mg) (D:y.heap.Ns builtinsNs mb) (o9:∀x:Str,x≠ "__name__" ->mb x=bootBuiltins x) (i5:y.heap.NoLimit) (hg:y.gens= #[])
  (ha:y.heap.get? a=some { cls:= .type "list",data:= .seq vs.toArray}) (hi:IntsAre vs ns) (hl:ns.length<=sizeLine) (hr:AU k callerA)
  (t1:PySem.W.CodeHd y.heap c T) (t2:y.heap.get? T=some (PySem.W.tabObj #[])) (t3:PySem.W.noTabs K=true) (t4:y.heap.BuiltinsAt mg T)
  (F:∀base:Heap,K.In base->base.Ns mainGlobals mg->PySem.W.CodeHd base c T->base.BuiltinsAt mg T->C2 P w K mg base CX k fa fd [x] sp) (i9:∀(s:yS) (u:yU),BindsTo s fd ⟨[u],[]⟩ [(x,u)])
  (o7:∀H:Hp,H T=some (.tbl #[])->Al K H a (ns.map V.int)->sp [.ref a] H (λv _=>v= .bl true) λ_ _ _=>False)
  (q9:∀H e s',CX [] H y (λ_ _ _=>False) e s'->False):
  codeAny (model P w) callerA (.call (.ref fa) ⟨[.ref a],[]⟩) (λr s'=>r= .ok (.ret (.bool true))/\OldK y.heap s'.heap/\s'.os=y.os/\AllBare s'.gens) y:=by
 have rv:=ID hi;have j6:=hi.length;have aT:a≠T:=λz=>by rw[z,t2]at ha;cases ha
 have kT:K.lookup T=none:=by
  cases q:K.lookup T with
  | none=>rfl
  | some o=>
   have e:=KX T o q;rw[t2]at e;cases e;have h2:=ZF.mp t3 _ (PySem.W.mem_of_lookupK q);exact absurd (show false=true from h2) YZ
 have l6:T≠cStatics:=λz=>by
  obtain⟨mc,⟨o,es,ep,e,hd,_⟩,_⟩:=i5;rw[<-z,t2]at e;cases e;cases hd
 have i6:∀H:Hp,H T=some (.tbl #[])->(∀b,b≠T->H b=none\/ ∃o xs,H b=some (.frz o (.lst xs)))->Al K H a (ns.map V.int)->HOk P w H y.heap->(∀b,H b≠none->b=a\/b=T)->(H a≠none->K.lookup a=none)->
   codeAny (model P w) callerA (.call (.ref fa) ⟨[.ref a],[]⟩) (λr s'=>r= .ok (.ret (.bool true))/\OldK y.heap s'.heap/\s'.os=y.os/\AllBare s'.gens) y:=by
  intro H j8 hO hS hok hA hK;have B:∀ {b:yR}{o:Obj},y.heap.get? b=some o->H b=none->(CU y.heap H).get? b=some o:=λe n=>P7 e n
  have j3:∀ {b:yR}{o:Obj},y.heap.get? b=some o->(∀xs n,o.data≠ .seq xs n)->o.cls≠ .none->H b=none:=λ{b o} e d1 d2=>by
   cases q:H b with
   | none=>rfl
   | some u=>
    rcases hA b (by rw[q];simp) with J | J
    .subst J;rw[ha]at e;cases e;exact absurd rfl (d1 _ _)
    .subst J;rw[t2]at e;cases e;exact absurd rfl d2
  have n9:∀ {b:yR}{o:Obj}{es:Array DictEntry}{ep:Nat},y.heap.get? b=some o->o.data= .dict es ep->H b=none:=λ{b o es ep} e d=>by
   cases q:H b with
   | none=>rfl
   | some u=>
    rcases hA b (by rw[q];simp) with J | J
    .subst J;rw[ha]at e;cases e;have d':Data.seq vs.toArray _=Data.dict es ep:=d;cases d'
    .subst J;rw[t2]at e;cases e;have d':Data.fields #[]=Data.dict es ep:=d;cases d'
  have i4:∀ {b:yR}{m:Str->yW},y.heap.Ns b m->(CU y.heap H).Ns b m:=λ{b m} ⟨o,es,ep,e,d,r⟩=>⟨o,es,ep,B e (n9 e d),d,r⟩
  have j7:K.In (CU y.heap H):=λb o e=>B (KX b o e) (by
   cases q:H b with
   | none=>rfl
   | some u=>
    rcases hA b (by rw[q];simp) with J | J
    .subst J;rw[hK (by rw[q];simp)]at e;cases e
    .subst J;rw[kT]at e;cases e)
  have hM:Mod K mg (CU y.heap H):=⟨j7,i4 j5,⟨mb,i4 D,o9⟩,let ⟨mc,h1,h2⟩:=i5;⟨mc,i4 h1,h2⟩⟩;have e0:C1 P w K mg (CU y.heap H) callerA [] y H:=⟨rfl,hM,λb o e=>P8 e,Nat.le_of_eq (P6 _ _),trivial,λb D=>absurd (show b∈([]:List yR) from D) (by simp),hok,.of_eq hg⟩;have l9:PySem.W.CodeHd (CU y.heap H) c T:=by
   obtain⟨o,i8,O,tf,G,tg,j0,Z,tt,e1,e2,e3,r⟩:=t1;exact⟨o,i8,O,tf,G,tg,j0,Z,tt,B e1 (j3 e1 (λxs n q=>by rw[e3]at q;cases q) (λq=>by rw[e2]at q;cases q)),e2,e3,r⟩
  have l7:(CU y.heap H).BuiltinsAt mg T:=by
   obtain⟨bm,ob,b1,b2,b3,b4,b5,b6,b7,b8⟩:=t4;exact⟨bm,ob,b1,b2,b3,b4,B b5 (j3 b5 (λxs n q=>by rw[b8]at q;cases q) (λq=>by rw[b6]at q;cases q)),b6,b7,b8⟩
  refine ao ((F _ j7 (i4 j5) l9 l7).run callerA [] y H ⟨[.ref a],[]⟩ [.ref a] [.ref a] _ _ hr e0 (i9 y (.ref a)) (.cons rfl .nil) (o7 H j8 hS)) λr s' h=>?_
  cases r with
  | error e=>exact(q9 H e s' h).elim
  | ok fl=>
   cases fl with
   | next=>exact False.elim h
   | brk=>exact False.elim h
   | cont=>exact False.elim h
   | ret u=>
    obtain⟨v,H',os,bare,un,i7,r',q⟩:=h;have q':v= .bl true:=q;subst q';obtain rfl:u=Value.bool true:=r';have i0:∀b o,b≠T->y.heap.get? b=some o->s'.heap.get? b=some o:=λb o n e=>by
     cases q:H b with
     | none=>exact un.keep b o e q (by intro z;exact absurd (show b∈([]:List yR) from z) (by simp)) (by simp)
     | some u=>
      rcases hO b n with z | ⟨ob,xs,z⟩
      .rw[q]at z;cases z
      .have z2:=un.frzs b ob _ z;obtain⟨e1,_⟩:=hok b _ z;obtain⟨e2,_⟩:=i7 b _ z2;rw[e]at e1;cases e1;exact e2
    obtain⟨more,eT⟩:=un.tbls T #[] j8;have oT:s'.heap.get? T=some (PySem.W.tabObj (#[]++more)):=i7 T _ eT;have cT:PySem.W.CodeHd s'.heap c T:=by
     obtain⟨o,i8,O,tf,G,tg,j0,Z,tt,e1,e2,e3,e4,e5,e6,e7,e8,e9,j4⟩:=t1;exact⟨o,i8,O,tf,G,tg,j0,Z,tt,i0 c o j4 e1,e2,e3,e4,e5,e6,e7,e8,e9,j4⟩
    exact⟨rfl,OldK.step_table (OldK.refl _) (t1.tab t2) (t1.tab t2) (cT.tab oT) (λb o n e=>i0 b o n e) l6,os,bare⟩
 cases hk:K.lookup a with
 | some o=>
  have e:=KX a o hk;rw[ha]at e;cases e;refine i6 (λb=>if b=T then some (.tbl #[]) else none) (YN rfl) (λb n=> .inl (Y8 n)) (.inr ⟨_,vs.toArray,_,hk,rfl,rfl,rfl,by rw[Z4,j6];exact hl,by simpa using rv⟩) (λb u z=>?_) (λb z=>?_) λz=>absurd (Y8 aT) z
  .by_cases D:b=T
   .have z':=(YN D).symm.trans z;cases z';subst D;exact t2
   .have z':=(Y8 D).symm.trans z;cases z'
  .by_cases D:b=T
   .exact .inr D
   .exact absurd (Y8 D) z
 | none=>
  have o8:(if a=T then some (HO.tbl #[]) else if a=a then some (HO.frz { cls:= .type "list",data:= .seq vs.toArray} (.lst (ns.map V.int))) else none)=some (HO.frz { cls:= .type "list",data:= .seq vs.toArray} (.lst (ns.map V.int))):=by rw[Y8 aT,YN rfl]
  refine i6 (λb=>if b=T then some (.tbl #[]) else if b=a then some (.frz { cls:= .type "list",data:= .seq vs.toArray} (.lst (ns.map V.int))) else none) (YN rfl) (λb n=>?_) (.inl (.inr ⟨{ cls:= .type "list",data:= .seq vs.toArray},o8⟩)) (λb u z=>?_) (λb z=>?_) λ_=>hk
  .by_cases D:b=a
   .exact .inr ⟨_,_,by rw[Y8 n,YN D]⟩
   .exact .inl (by rw[Y8 n,Y8 D])
  .dsimp only at z
   by_cases D:b=T
   .rw[YN D]at z;cases z;subst D;exact t2
   .rw [Y8 D] at z
    by_cases D:b=a
    .rw[YN D]at z;cases z;subst D;exact⟨ha,by rw[Y2];exact hl,vs,_,rv,ha⟩
    .rw[Y8 D]at z;cases z
  .by_cases D:b=T
   .exact .inr D
   .by_cases j9:b=a
    .exact .inl j9
    .exact absurd (by show(if b=T then _ else _)=none;rw[Y8 D,Y8 j9]) z
theorem walk_ofT{l:PySem.W.OpenLaw}{n k:Nat}{q:yP}{D:List Str}{XP:(Str->yW)->Heap->Prop}{YP:yN->Heap->Prop}{d dT:DefRec}{K:Params->Fgx}{CX:yN->CN}{sp:Fgx->yR->Sp}{x xT:Str}
  (hn:l.most=some n) (i6:n<=sizeLine) (i8:d.params.defaults=[]) (hr:AU k callerA)
  (hY:∀(w:yN) (h:Heap),YP w h->(K w.params).In h) (i0:(recsOf q).find? (λe=>e.name==xT)=some dT) (i4:∀w:yN,(PySem.W.tabIn (K w.params) xT).isSome=true) (i9:∀w:yN,PySem.W.noTabs (K w.params)=true)
  (F : ∀ (w : yN) (mg : Str -> yW) (fa : yR) (h : Heap) (c T : yR), (K w.params).In h -> h.Ns mainGlobals mg -> mg d.name = some (.ref fa) -> PySem.W.tabIn (K w.params) xT = some (c, T) ->
   ∃fd:FuncData,(∀(s:yS) (u:yU),BindsTo s fd ⟨[u],[]⟩ [(x,u)])/\
    ∀base:Heap,(K w.params).In base->base.Ns mainGlobals mg->PySem.W.CodeHd base c T->base.BuiltinsAt mg T->C2 l.prog w (K w.params) mg base (CX w) k fa fd [x] (sp (K w.params) T))
  (i5:∀(K:Fgx) (H:Hp) (a T:yR) (ns:yV),ns.length<=n->H T=some (.tbl #[])->Al K H a (ns.map V.int)->sp K T [.ref a] H (λv _=>v= .bl true) λ_ _ _=>False)
  (j0:∀(w:yN) (H:Hp) (s:yS) (e:yU) (s':yS),CX w [] H s (λ_ _ _=>False) e s'->False):
  PySem.W.WalkO q D XP YP l.row.toRowW d [] (λf vs=>PySem.call f vs):=by
 refine Att.attach_call hn i8 λw s₀ y mg mb fa o pm cd j5 a vs ns G Y ho hd j4 i7 O J B hg=>?_
 have KX:=hY w _ Y;obtain⟨⟨c,T⟩,ht⟩:=aw.mp (i4 w);obtain⟨t1,t2⟩:=PySem.W.tab_of G.T KX i0 ht;obtain⟨fd,hb,hF⟩:=F w mg fa _ c T KX G.T.g i7 ht;have t4:y.heap.BuiltinsAt mg T:=by
  obtain⟨bm,ob,b1,b2,Z,b4,b5,b6⟩:=G.T.bmain;refine⟨bm,ob,b1,b2,λz=>?_,λz=>?_,Z,b4,b5,b6⟩
  .obtain⟨o,es,ep,e,j3,_⟩:=G.T.g;rw[z,e]at Z;cases Z;rw[j3]at b6;cases b6
  .rw[z,t2]at Z;cases Z;cases b4
 exact TU KX G.T.g G.T.b G.T.builtins G.T.nolimit hg O J (YV B i6) hr t1 t2 (i9 w) t4 hF hb (λH h1 h2=>i5 (K w.params) H a T ns B h1 h2) λH e s'=>j0 w H y e s'
structure WdK(K:Fgx)(M:yR)(ds:List yR)(C:yR)(word:Str):Prop where
 ex:∃i,i<16/\C=ds.getD i 0/\theWords[i]? =some word/\Fi K M ds i=true
theorem EE.fn{P:yP}{w:yN}{K:Fgx}{mg:Str->yW}{base:Heap}{n:Nat}{x:Str}{D:List Str}{sp y:Sp}(F:EE P w K mg base n x D sp)(h:∀vs H Q E,y vs H Q E->sp vs H Q (λ_ _ _=>False)):Fn P w K mg base n x D y:=by
 obtain⟨f,fd,F,hm,J,B⟩:=F.ex;refine⟨f,fd,⟨λvs H Q E q=>F.len vs H Q _ (h _ _ _ _ q),λA outer s H args us vs Q E G O B hv Z=>?_⟩,hm,J,B⟩;refine ao (F.run A outer s H args us vs Q _ G O B hv (h _ _ _ _ Z)) λr s' z=>?_
 unfold CR at z ⊢;cases r with
 | ok fl=>cases fl<;>exact z
 | error e=>obtain⟨_,_,_,_,_,q⟩:=z;exact q.elim
def GotL(H:Hp)(xs:zA)(Q:VK):Prop:=∀r y,Ab H y->H r=none->y r=some (.lst xs)->Q (.ref r) y
theorem GotL.at{H:Hp}{xs:zA}{Q:VK}(q:GotL H xs Q):∀p,H p=none->Q (.ref p) (upd H p (.lst xs)):=λp y=>q p _ (Ab.new y) y Af
variable{X:Cx}{es:List yL}{t:TA}{pos:Pos}
def TV(t:TA):TE:=fun D H Q=>t D H λy B=>match Nat.ble y.length 64 with | true=>E6 B y Q | false=>False
def TW(t:TA):TE:=fun D H Q=>t D H λy B=>match Nat.ble y.length 64 with | true=>GotL B y Q | false=>False
theorem Bw{x1}(h:PA X es t):PE X (.Tuple es x1 pos) (TV t):=by
 intro ad s G H Q I O;refine wpAny_Tuple_spliced (Ap (h pos ad s G H _ I O) λK s1 Z=>?_);obtain⟨D,B,y,r,q⟩:=Z
 try dsimp only at q
 split at q
 .rename_i z;refine⟨by rw[<-r.length];exact few z,?_⟩;have J:B s1.heap.objs.size=none:=y.hok.fresh (Y5 _);refine⟨.ref s1.heap.objs.size,upd B s1.heap.objs.size (.tup D),y.laid (t':=s1.toks) (λb u e=>Y1 _ e) (Y5 _) ?_,rfl,q _ _ (Ab.new J) Af⟩;exact⟨few z,K,r,⟨_,YM _ rfl,rfl,_,rfl⟩⟩
 .exact q.elim
theorem B4(h:PA X es t):PE X (.List es pos) (TW t):=by
 intro ad s G H Q I O;refine wpAny_List_spliced (Ap (h pos ad s G H _ I O) λK s1 Z=>?_);obtain⟨D,B,y,r,q⟩:=Z
 try dsimp only at q
 split at q
 .rename_i z;refine⟨by rw[<-r.length];exact few z,?_⟩;have J:B s1.heap.objs.size=none:=y.hok.fresh (Y5 _);refine⟨.ref s1.heap.objs.size,upd B s1.heap.objs.size (.lst D),y.laid (t':=s1.toks) (λb u e=>Y1 _ e) (Y5 _) ?_,rfl,q.at _ J⟩;exact⟨few z,K,0,r,YM _ rfl⟩
 .exact q.elim
def TX:R2:=λx y H Q=>∃l b D B,x= .ref l/\y= .ref b/\H l=some (.lst D)/\H b=some (.lst B)/\D.length+B.length<=sizeLine/\GotL H (D++B) Q
theorem EG:OpR X (binaryOp .Add) TX:=by
 intro ad s G H x y v u Q I D J h;obtain⟨l,b,B,zs,Z,e2,h1,O,K,q⟩:=h;exact Lz ad s G H x y v u Q I D J ⟨l,b,B,zs,Z,e2,h1,O,K,q.at⟩
def TY(K:Fgx):zA->Hp->VK->Prop:=λB H Q=>∃p y,B=[.ref p]/\(Al K H p y\/Ae K H p y)/\GotL H y Q
theorem TZ(K:Fgx)(h:autoParam (X.K=K) L3):Bo X (.type "list") (TY K):=by
 intro ad s O H y B Q I r J;obtain⟨p,D,e,G,q⟩:=J;exact RZ K h ad s O H y B Q I r ⟨p,D,e,G,q.at⟩
end L2
namespace MF
open L2
noncomputable def DE(p:Int)(q:Int×Int):Int:=if q.2<p then q.1 *(q.2-p) else 0
noncomputable def spared(r co:yV)(p:Int):Int:=((r.zip co).map (DE p)).sum
def D5(lo hi p b:Int):Int:=(p-b) *(if b<p then lo else hi)
noncomputable def BE(T:TM)(h:Nat)(p b:Int):Int:=p * T.ds.getD h 0+spared (T.cs.getD h []) T.co p+D5 T.lo T.hi p b
noncomputable def D6(T:TM)(ns:yV)(k:Nat):Int:=((List.range k).map λh=>BE T h (ns.getD h 0) (ns.getD (h+1) 0)).sum
noncomputable def Dj(T:TM)(ns:yV):Int:=D6 T ns ns.length-ns.getD 0 0 * T.st
theorem T0{T:TM}{ns:yV}{k:Nat}:D6 T ns (k+1)=D6 T ns k+BE T k (ns.getD k 0) (ns.getD (k+1) 0):=by
 unfold D6;rw[bA,YS,cA];simp
structure A5(T:TM):Prop where
 ok:T.ok
 c:∀r∈T.cs,r.length=T.co.length/\∀c∈r,0<=c/\c<=20
 o:T.co.length<=4
 o1:∀c∈T.co,1<=c/\c<=9
 d:∀x∈T.ds,0<=x/\x<=100
 l0:0<=T.lo
 h0:0<=T.hi
 s0:0<=T.st
 l4:T.lo<=100
 h4:T.hi<=100
 s4:T.st<=100
theorem X'{y:Type}{l:List y}{i:Nat}{d:y}(h:i<l.length):l.getD i d∈l:=by
 rw[Y3,Y6 h];exact ZL h
def T4(d:yQ):Bool:=match d with | .int i=>decide (0<=i) | _=>false
theorem FX{P:PL}{S:SY}(ok:P.ok){n:Nat}(so:S.ok n):A5 (terms P S):=by
 have h0:=ok.lo0;have O:=ok.ls;have J:=ok.sh;have K:=ok.h4;refine⟨SK so,λr B=>⟨by rw[(Jh ok r B).2];show P.bs.length=(P.bs.map (·.2)).length;rw[Y2],λc y=>by have:=(Jh ok r B).1 c y;omega⟩,by show(P.bs.map (·.2)).length<=4;rw[Y2];exact ok.b4,λc y=>?_,λx D=>?_,h0,?_,?_,?_,?_,?_⟩
 .obtain⟨q,G,rfl⟩:=Zj.mp y;have:=ok.b q G;omega
 .have:=Si ok so x D;omega
 .show 0<=P.hi;omega
 .show 0<=P.st;omega
 .show P.lo<=100;omega
 .show P.hi<=100;omega
 .show P.st<=100;omega
theorem MH{xs:zA}:Cb xs (some 1) none=xs.drop 1:=by
 have B:HT.sIx xs.length xs.length none=xs.length:=rfl;have y:HT.sIx xs.length 0 (some 1)=min 1 xs.length:=HT.sIx_nat _ _ 1;unfold Cb;rw[B,y];cases xs with
 | nil=>rfl
 | cons a l=>rw[fB (by simp)];simp
end MF
namespace L2
section
variable{X:Cx}{σ:St}{H:Hp}{kvs:List (As × V)}{te:TE}
theorem T5:entryFor table "dict_itemiterator.__iter__"=some Builtin.«dict_keyiterator.__iter__»:=fU (id':="dict_keyiterator.__iter__") (by kernel_rfl) rfl (by decide+kernel) (by kernel_rfl)
theorem T6{P:yP}{w:yN}{k:As}{v:yU}(h:(AX P w).is k v=true):Aw (kV k) v:=by
 rw[P5]at h;rcases CT h with⟨i,t,rfl,rfl⟩ | ⟨x,t,rfl,rfl⟩
 .exact⟨t,rfl⟩
 .exact⟨t,rfl⟩
theorem KV.get{y:Type}:∀ {B:List (y×V)}{vs:List (y×yU)}{i:Nat}{q:y×V},KV B vs->B[i]? =some q->∃u,vs[i]? =some (q.1,u)/\Aw q.2 u
 | _,_,_,_,.nil,e=>by simp at e
 | _,_,0,_,.cons (b:=b) r _,e=>by
  simp at e;subst e;exact⟨b.2,by rw[r.1];rfl,r.2⟩
 | _,_,i+1,q,.cons _ t,e=>by
  obtain⟨u,G,D⟩:=KV.get (i:=i) (q:=q) t (by simpa using e);exact⟨u,by simpa using G,D⟩
theorem Ac.dictAt{ad:PNs}{s:yS}{d:yR}{o:Obj}{es:Array DictEntry}{ep:Nat}(I:Ac X ad σ H s)(h:H d=some (.frz o (.dK kvs)))(D:o.data= .dict es ep):
  ∃vs,KV kvs vs/\s.heap.DictAt (AX X.prog X.w) d vs ep:=by
 obtain⟨e,_,_,vs,J,O,K,G,B,c,y,r⟩:=(show ObjOk X.prog X.w H s.heap d (.frz o (.dK kvs)) from I.hok d _ h);rw[e]at B;cases B;rw[D]at y;cases y;exact⟨vs,J,o,es,e,c,D,r⟩
def Fj(d:yR)(o:Obj)(kvs:List (As×V)):It:=
 ⟨λi H=>H d=some (.frz o (.dK kvs))/\i<kvs.length,λi H v y=>∃T q,v= .ref T/\H T=none/\kvs[i]? =some q/\y=upd H T (.tup [kV q.1,q.2]),λi H=>H d=some (.frz o (.dK kvs))/\kvs.length=i⟩
theorem T7{P:yP}{w:yN}{K:Fgx}{es:List yL}{k:Nat}{pos:Pos}{o:Obj}{kvs:List (As×V)}{i7:Array DictEntry}{ep:Nat}(d it:yR)(ho:o.data= .dict i7 ep)(j3:d≠it):
  CV P w K (.Tuple es k pos) (Fj d o kvs) [it] it (λi h=>∃ok D,IsItemIter h it d i kvs.length ep ok D) where
 mem:=by simp
 obj:=λi h st b B=>by
  obtain⟨ok,D,y⟩:=st;rw[Z3.mp B];exact⟨_,y,λv z=>by
   have z':Data.fields _=Data.cell v:=z;cases z'⟩
 keep:=λi h h' st kk=>by obtain⟨ok,D,y⟩:=st;exact⟨ok,D,kk it (by simp) _ y⟩
 item:=by
  intro X hP hw hK hc i ad s σ H E I hf st hg;subst hP hw;obtain⟨ok,D,y⟩:=st;obtain⟨hd,i4⟩:=hg;obtain⟨vs,kv,hm⟩:=I.dictAt hd ho;have hl:kvs.length=vs.length:=Paired.length kv;have hq:kvs[i]? =some kvs[i]:=by simp[i4]
  obtain⟨u,hu,ru⟩:=kv.get hq;rw[hl]at y;refine wpAny_pyNext_items_item y hm hu λi0 h1 G i5 Z j0 hk=>⟨_,rfl,wpAny_letOwnedTupleGo_items i5 λh2 i8 O=>?_⟩
  have J:it<s.heap.objs.size:=Y7 y;have kk:∀b ob,b ∉ [it]->s.heap.get? b=some ob->h2.get? b=some ob:=λb ob B q=>O.extBut b ob (λz=>B (by rw[z];simp)) (hk b ob (λz=>B (by rw[z];simp)) q)
  have i6:IsTup h2 s.heap.objs.size [i0,u].toArray:=⟨_,(O.2 _ (ZV J)).trans Z,rfl,_,rfl⟩;exact⟨.ref s.heap.objs.size,upd H s.heap.objs.size (.tup [kV kvs[i].1,kvs[i].2]),I.yielded (tk:=s.toks) (λb B=>hf b B) kk (Y5 _) i6 (.cons (T6 G) (.cons ru .nil)) (by show 2<=sizeLine;decide),rfl,
   ⟨_, kvs[i], rfl, I.hok.fresh (Y5 _), hq, rfl⟩, ⟨i0, u, by rw [hl]; exact i8⟩, λb B => by
    rw[Z3.mp B,Ao (YT J)];exact(hf it (by simp)).1⟩
 done:=by
  intro X hP hw hK hc i ad s σ H E I hf st hg;subst hP hw;obtain⟨ok,D,y⟩:=st;obtain⟨hd,i4⟩:=hg;obtain⟨vs,kv,hm⟩:=I.dictAt hd ho;have hl:kvs.length=vs.length:=Paired.length kv;rw[hl]at y;refine wpAny_pyNext_items_end (I.ok.hd hc) y hm (by rw[ZT];omega) λh' i9=>⟨rfl,I.ended (tk:=s.toks) (λb B=>hf b B) λb ob B q=>i9 b ob (λz=>B (by rw[z];simp)) q⟩
 self:=λA i s Q E st h=>by
  obtain⟨ok,D,y⟩:=st;have hT:s.TypeIs (.ref it) "dict_itemiterator" :=⟨_,y,rfl⟩;refine eF hT dA (Zq dA hT T5 ?_ (F.args_dict_itemiterator_iter_1 _));show wpAny _ _ (ret (.ref it)) _ _ s;exact Y4 ⟨_,rfl,"dict_itemiterator",_,hT,F.slot_dict_itemiterator_next.lookup,h⟩
def T8(G:TE):TI:=fun D H R=>G D H λx B=>∃d o y,x= .ref d/\B d=some (.frz o (.dK y))/\R (Fj d o y) B
theorem Jr{es:List yL}{k:Nat}{i0 D G:Pos}{e:yL}(he:PE X e te)(J:autoParam (attributeBase e "items" X.env (eval e X.env)=eval e X.env) L3)(K:autoParam ((D.endLine==G.line)=true) L3):
  PI X (.Tuple es k i0) (.Call (.Attribute e "items" D) [] [] G) (T8 te):=by
 intro ad s σ H R I h;refine fh J K (Ap (he ad s σ H _ I h) λv s1 zq=>?_);obtain⟨x,H1,I1,r1,d,o,kvs,ex,hd,q⟩:=zq;subst ex;cases r1;obtain⟨eo,_,Z,y,i5,B⟩:=(show ObjOk X.prog X.w H1 s1.heap d (.frz o (.dK kvs)) from I1.hok d _ hd);obtain⟨o',i4,ep,e',c,dd,r⟩:=id B;have i6:o'=o:=by rw[eo]at e';exact(Z7 e').symm
 subst i6;refine⟨"dict","dict.items",F.plainAttrs_dict,F.slot_dict_items,F.type_dict_items,B.typeIs,B.mapOf.noDict,?_⟩;refine method_meetsIn F.slot_dict_items F.entry_dict_items rfl (PySem.evalArgs_none ⟨rfl,B.typeIs,F.args_dict_items_1 _,_,meets_dict_items (AX X.prog X.w) d Z,⟨_,B⟩,?_⟩);have i7:=Y7 eo;have hz:(s1.heap.push { cls:= .type "dict_items",data:= .fields #[.ref d]}).objs.size=s1.heap.objs.size+1:=Zm ..;have i8:s1.heap.DictAt (AX X.prog X.w) d y ep:=⟨o',i4,eo,c,dd,r⟩;refine wpAny_pyIter_items (knd:=AX X.prog X.w) (d:=d) (kvs:=y) (ep:=ep) ⟨_,YM _ rfl,rfl,rfl⟩ (i8.push _) ?_;have hl:kvs.length=y.length:=Paired.length i5;dsimp only;have kk:∀b ob,s1.heap.get? b=some ob->((s1.heap.push { cls:= .type "dict_items",data:= .fields #[.ref d]}).push { cls:= .type "dict_itemiterator",data:= .fields #[.none,.bool false,.ref d,.int 0 0,.int y.length 0,.int ep 0,.none,.none]}).get? b=some ob:=λb ob q=>Y1 _ (Y1 _ q)
 have O:((s1.heap.push { cls:= .type "dict_items",data:= .fields #[.ref d]}).push { cls:= .type "dict_itemiterator",data:= .fields #[.none,.bool false,.ref d,.int 0 0,.int y.length 0,.int ep 0,.none,.none]}).get? (s1.heap.objs.size+1)=some { cls:= .type "dict_itemiterator",data:= .fields #[.none,.bool false,.ref d,.int 0 0,.int y.length 0,.int ep 0,.none,.none]}:=by
  rw[<-hz];exact YM _ rfl
 rw[hz];generalize(s1.heap.push { cls:= .type "dict_items",data:= .fields #[.ref d]}).push { cls:= .type "dict_itemiterator",data:= .fields #[.none,.bool false,.ref d,.int 0 0,.int y.length 0,.int ep 0,.none,.none]}=h2 at kk O;refine⟨s1.heap.objs.size+1,[s1.heap.objs.size+1],_,_,H1,rfl,I1.kept (t':=s1.toks) kk,T7 (o:=o') (kvs:=kvs) d (s1.heap.objs.size+1) dd (YT (ZM i7)),⟨.none,.none,by rw[hl];exact O⟩,λb hb=>?_,q⟩;rw[Z3.mp hb];exact I1.fpOk (Zx _) (I1.hok.fresh (Zx _))
theorem MI{d:yR}{o:Obj}{cap:List (Option Nat)}{g:TG}{J:TT}{Q:zA->Hp->Prop}(B:Nat->zA->Hp->Prop)(Z:kvs.length<=100000)(h0:B 0 [] H)(hz:∀i zs H,B i zs H->zs.length<=i)
  (G:∀i zs H,B i zs H->H d=some (.frz o (.dK kvs)))
  (hs:∀i q zs H T,kvs[i]? =some q->B i zs H->H T=none->g (.ref T) (AK cap σ) (upd H T (.tup [kV q.1,q.2])) fun D H2=>Keep (AK cap σ) D/\J D H2 λb K=>br b (te D K λy O=>B (i+1) (zs++[y]) O) (B (i+1) zs K))
  (hd:∀zs H,B kvs.length zs H->Q zs H):DV (Fj d o kvs) cap g J te σ Q H:=
 Eu kvs.length B Z h0 hz (λi zs H hi p=>⟨⟨G i zs H p,hi⟩,λv H' zq=>by
  obtain⟨T,q,e,n,hq,y⟩:=zq;subst e y;exact hs i q zs H T hq p n⟩)
  λzs H p=>⟨⟨G _ zs H p,rfl⟩,hd zs H p⟩
end
section
variable{v:V}{u:yU}{P:yP}{h:Heap}{a:yR}{vs:List (As × yU)}{Y:Cx}{PB:List (yR × Obj)}{σ:St}{H:Hp}
abbrev KL:=List (As×V)
def Ci(y:KL)(k:As)(v:V):KL:=if y.any (λq=>q.1=k) then y.map (λq=>if q.1=k then(q.1,v) else q) else y++[(k,v)]
theorem KV.anyK{k:As}:∀ {y:KL}{vs:List (As×yU)},KV y vs->y.any (λq=>q.1=k)=vs.any (λq=>q.1=k)
 | _,_,.nil=>rfl
 | _,_,.cons r t=>by rw[aO,aO,KV.anyK t,r.1]
theorem KV.mapK{k:As}(h:Aw v u):∀ {y:KL}{vs:List (As×yU)},KV y vs->KV (y.map λq=>if q.1=k then(q.1,v) else q) (vs.map λq=>if q.1=k then(q.1,u) else q)
 | _,_,.nil=> .nil
 | _,_,.cons (a:=a) (b:=b) r t=>by
  rw[ZA,ZA];refine .cons ?_ (KV.mapK h t);rw[<-r.1];split
  .exact⟨r.1 ▸ rfl,h⟩
  .exact r
theorem KV.snoc{y:Type}{q:y×V}{p:y×yU}(h:q.1=p.1/\Aw q.2 p.2){B:List (y×V)}{vs:List (y×yU)}(k:KV B vs):KV (B++[q]) (vs++[p]):=by
 induction k with
 | nil=>exact .cons h .nil
 | cons r t ih=>exact .cons r ih
theorem KV.put{k:As}(h:Aw v u){y:KL}{vs:List (As×yU)}(r:KV y vs):KV (Ci y k v) (stored vs k u):=by
 unfold Ci stored;rw[r.anyK];split
 .exact KV.mapK h r
 .exact KV.snoc ⟨rfl,h⟩ r
theorem MJ(y:KL)(k:As)(v:V):(Ci y k v).length<=y.length+1:=by
 unfold Ci;split
 .rw[Y2];omega
 .rw[Zb];simp
theorem T9{k:As}(P:yP)(w:yN)(h:Aw (kV k) u):(AX P w).is k u=true:=by
 cases k with
 | inl i=>obtain⟨t,rfl⟩:=h;exact Ib P w i t
 | inr x=>obtain⟨t,rfl⟩:=h;exact KI P w x t
section
variable{prog:yP}{w:yN}{A:yO}{R:Result -> yS -> Prop}{s:yS}{kx vx tg it:yL}{ifs:List yL}{sc:Scope}{ps:Pos}{ie:yU}{D:yR}{env:Env}
theorem Ua(J:∀v,letOwnedTupleGo tg ie v=pure ())(I:Nat->yS->Prop)
  (turn : ∀ n s, I n s -> wpAny (model prog w) A (pyNext ie) (λr s1 => match r with
   | none=>R (.ok .next) s1
   | some v => wpAny (model prog w) A (letOwnedTupleGo tg ie v) (λ_ s2 => wpAny (model prog w) A (assign tg env v) (λ_ O =>
     wpAny (model prog w) A (forIn ifs true λc r=>if r=true then do let ok<-isTrue c env (eval c env);pure (ForInStep.yield ok) else pure (ForInStep.yield r)) (λok s4=>
      if ok=true then wpAny (model prog w) A (eval kx env) (λB K=>wpAny (model prog w) A (eval vx env) (λZ G=>wpAny (model prog w) A (dictSet D B Z) (λ_ s7=>∃m,m<n/\I m s7) (λ_ _=>False) G) (λ_ _=>False) K) (λ_ _=>False) s4
      else ∃m,m<n/\I m s4) (λ_ _=>False) O) (λ_ _=>False) s2) (λ_ _=>False) s1) (λ_ _=>False) s)
  (n:Nat) (h:I n s):codeAny (model prog w) A (.compLoop (.DictComp kx vx [⟨tg,it,ifs,0⟩] sc ps) 0 ie (.ref D) env) R s:=by
 refine codeAny_compLoop_testsD I (λm s0 hI=>Zi (turn m s0 hI) (λr s1 h1=>?_) λ_ _ z=>z.elim) n h J;cases r with
 | none=>exact h1
 | some v=>
  have y:=Y0 h1;rw[J v,pure_bind]at y;refine Zi y (λ_ O h3=>Zi h3 (λok s4 h4=>?_) λ_ _ z=>z.elim) λ_ _ z=>z.elim
  cases ok with
  | false=>exact h4
  | true=>exact Zi h4 (λB K h5=>Zi h5 (λZ G h6=>Zi h6 (λ_ _ z=>z) λ_ _ z=>z.elim) λ_ _ z=>z.elim) λ_ _ z=>z.elim
end
structure GrownD(Y:Cx)(a:yR)(PB:PNs)(σ:St)(zs:KL)(H:Hp)(s:yS):Prop where
 inv:Ac Y PB σ H s
 no:H a=none
 len:zs.length<=sizeLine
 at':∃o vs,s.heap.get? a=some o/\KV zs vs/\s.heap.DictOf (AX Y.prog Y.w) a vs
def DictO(P:yP)(w:yN)(o:Obj)(vs:List (As×yU)):Prop:=∃es y,o.ExactDict/\o.data= .dict es y/\KeysOf (AX P w) es/\Pairs (AX P w) es.toList vs/\(vs.map (·.1)).Nodup
theorem DictO.of{w:yN}{o:Obj}(d:h.DictOf (AX P w) a vs)(e:h.get? a=some o):DictO P w o vs:=by
 obtain⟨D,es,B,y,r⟩:=d;rw[e]at y;cases y;exact⟨es,B,r⟩
theorem DictO.to{w:yN}{o:Obj}(d:DictO P w o vs)(e:h.get? a=some o):h.DictOf (AX P w) a vs:=by
 obtain⟨es,y,r⟩:=d;exact⟨o,es,y,e,r⟩
theorem GrownD.pin{zs:KL}{s:yS}{o:Obj}(A:Dx Y a)(g:GrownD Y a PB σ zs H s)(e:s.heap.get? a=some o)(d:DictO Y.prog Y.w o vs):Ac Y ((a,o)::PB) σ H s:=
 g.inv.pins_of λp y=>by
  rcases YY.mp y with rfl | y
  .exact⟨e,g.no,A.loc,A.fs,λv z=>by
    obtain⟨es,G,_,D,_⟩:=d;have B:o.data= .cell v:=z;rw[D]at B;cases B⟩
  .exact g.inv.pin p (Z2 _ y)
theorem Ac.grownD{zs:KL}{s:yS}{o:Obj}(I:Ac Y ((a,o)::PB) σ H s)(hz:zs.length<=sizeLine)(v:KV zs vs)(d:DictO Y.prog Y.w o vs):GrownD Y a PB σ zs H s:=by
 have q:=I.pin (a,o) (Z2 _ YR);exact⟨I.pins_of λp y=>I.pin p (Z2 _ (YQ _ y)),q.2.1,hz,o,vs,q.1,v,d.to q.1⟩
def MK(wi:TI)(cap:List (Option Nat))(g:TG)(tt:TT)(tk te:TE):St->Hp->(KL->Hp->Prop)->Prop:=fun O H Q=>wi O H λJ H1=>
 ∃W:Nat->Nat->KL->Hp->Prop,(∃m,W 0 m [] H1)/\∀i m G H,W i m G H->
  (J.stop i H/\Q G H)\/
  (J.go i H /\ G.length < sizeLine /\ ∃ N : KL -> Hp -> Prop, (∀ D K, N D K -> ∃ m', m' < m /\ W (i + 1) m' D K) /\ ∀ x K, J.yld i H x K -> g x (AK cap O) K fun B H2 => Keep (AK cap O) B /\ tt B H2 λb Z =>
   br b (tk B Z λk H4=>te B H4 λy H5=>∃kk,k=kV kk/\N (Ci G kk y) H5) (N G Z))
theorem Ub{kx vx tg it:yL}{v3:List yL}{sc:Scope}{ps:Pos}{m0:Nat}{Y:Cx}{a jt:yR}{PB:PNs}{g:TG}{tt:TT}{tk te:TE}{fp:List yR}{tn:Nat->Heap->Prop}{J:It}{W:Nat->Nat->KL->Hp->Prop}{σ:St}{ys:KL}{H:Hp}{s:yS}{N:KL->Hp->Prop}{R:Result->yS->Prop}
  (A:Dx Y a) (hnm:∀ie v,letOwnedTupleGo tg ie v=pure ()) (hPB:∀p∈PB,p.1≠a) (hx:Y.xe=λ_ _=>False) (hg:PG Y tg g) (htt:Ce Y v3 tt) (hk:PE Y kx tk) (he:PE Y vx te)
  (T:CV Y.prog Y.w Y.K tg J fp jt tn) (na:∀b∈fp,b≠a) (j5:∀ {o:Obj}{H':Hp},(∀b∈fp,H' b=none)->∀b∈fp,Br Y ((a,o)::PB) H' b) (st:tn 0 s.heap) (gr:GrownD Y a PB σ ys H s) (hn:∀b∈fp,H b=none) (w0:W 0 m0 ys H)
  (turn:∀j m zs H,W j m zs H->(J.stop j H/\N zs H)\/(J.go j H/\zs.length<sizeLine/\(∃N2:KL->Hp->Prop,(∀O H',N2 O H'->∃m',m'<m/\W (j+1) m' O H')/\∀x H',J.yld j H x H'->g x σ H' fun σ3 H2=>Keep σ σ3/\tt σ3 H2 λb H3=>br b (tk σ3 H3 λk H4=>te σ3 H4 λy H5=>∃kk,k=kV kk/\N2 (Ci zs kk y) H5) (N2 zs H3))))
  (j8:∀zs H' s',GrownD Y a PB σ zs H' s'->N zs H'->R (.ok .next) s'):codeAny (model Y.prog Y.w) Y.A (.compLoop (.DictComp kx vx [⟨tg,it,v3,0⟩] sc ps) 0 (.ref jt) (.ref a) Y.env) R s:=by
 refine Ua (hnm _) (λn' s'=>∃(j:Nat) (zs:KL) (H':Hp),GrownD Y a PB σ zs H' s'/\tn j s'.heap/\(∀b∈fp,H' b=none)/\W j n' zs H') ?_ m0 ⟨0,ys,H,gr,st,hn,w0⟩;rintro n' l9 ⟨j,zs,i8,i0,j0,i9,w12⟩;obtain⟨o12,vs12,u0,i4,d12⟩:=i0.at';have D:=DictO.of d12 u0;have l6:=i0.pin A u0 D;rcases turn j n' zs i8 w12 with⟨stop,q⟩ | ⟨go2,hz0⟩
 .refine Ap (T.done Y rfl rfl rfl A.calm j _ l9 _ i8 _ l6 (j5 i9) j0 stop) λr u9 Z=>?_
  obtain⟨hr,I13⟩:=Z;subst hr;exact j8 zs i8 u9 (Ac.grownD I13 i0.len i4 D) q
 .obtain⟨hC,N2,hN2,j6⟩:=hz0;refine Ap (T.item Y rfl rfl rfl A.calm j _ l9 _ i8 _ l6 (j5 i9) j0 go2) λr u9 Z=>?_
  obtain⟨u2,hr,w8⟩:=Z;subst hr;refine Ap w8 λ_ i5 Z=>?_
  obtain⟨x2,r8,I14,v6,y14,i6,q9⟩:=Z;have j7:=I14.pinned (j5 q9) (T.obj _ _ i6);have l7:=hg _ i5 _ r8 x2 u2 _ j7 v6 (j6 x2 r8 y14);rw[hx]at l7;refine Ap l7 λ_ w5 Z=>?_
  obtain⟨B,H15,v7,o8,q15⟩:=Z;have j9:=htt _ w5 B H15 _ v7 q15;rw[hx]at j9;refine Ap j9 λb2 o7 Z=>?_
  obtain⟨t9,o9,u7⟩:=Z;have pn:∀p∈PB++CW fp i5.heap,p.1≠a:=λp hp=>by
   rcases ZS.mp hp with hp | hp
   .exact hPB p hp
   .exact na p.1 (Il hp).1
  have i7:∀ {σ':St}{O:KL}{H':Hp}{s':yS},Keep σ σ'->GrownD Y a (PB++CW fp i5.heap) σ' O H' s'->N2 O H'->∃m,m<n'/\∃(j:Nat) (zs:KL) (H':Hp),GrownD Y a PB σ zs H' s'/\tn j s'.heap/\(∀b∈fp,H' b=none)/\W j m zs H':=λ{σ' O H' s'} kp G n2=>by
   obtain⟨m',hm,w16⟩:=hN2 _ _ n2;refine⟨m',hm,j+1,O,H',⟨(G.inv.pins_of λp hp=>G.inv.pin p (Z2 _ (aI _ hp))).weak (by rw[kp.len]) λi v e=>kp.get e,G.no,G.len,G.at'⟩,T.keep _ _ _ i6 λb hb o e=>(G.inv.pin (b,o) (Z2 _ (Z2 _ (EU hb e)))).1,λb hb=>?_,w16⟩;obtain⟨o,e,d⟩:=T.obj _ _ i6 b hb;exact(G.inv.pin (b,o) (Z2 _ (Z2 _ (EU hb e)))).2.1
  have x0:GrownD Y a (PB++CW fp i5.heap) B zs t9 o7:=Ac.grownD o9 i0.len i4 D;cases b2 with
  | false=>
   rw[Y8 YZ];exact i7 o8 x0 (u7.2 rfl)
  | true=>
   rw[YN rfl];have n9:=hk _ o7 B t9 _ o9 (u7.1 rfl);rw[hx]at n9;refine Ap n9 λkv s17 Z=>?_
   obtain⟨kval,H17,w9,r17,q17⟩:=Z;have v4:=he _ s17 B H17 _ w9 q17;rw[hx]at v4;refine Ap v4 λyv j3 Z=>?_
   obtain⟨y,H18,u6,w6,kk,ek,n18⟩:=Z;subst ek;have j4:=Ac.grownD u6 i0.len i4 D;have v8:=(u6.pin (a,o12) (Z2 _ YR)).1;refine wpAny_dictSet_pairs (hsz:=by rw[<-Paired.length i4];exact i0.len) (T9 Y.prog Y.w r17) (D.to v8) λh6 d6 hs6=>?_
   have I19:Ac Y (PB++CW fp i5.heap) B H18 { j3 with heap:=h6,toks:=j3.toks+1}:=
    j4.inv.turned (t':=j3.toks+1) (it:=a) (λb o hb e=>hs6.extBut b o hb e) j4.no A.loc A.sz A.cell λp hp z=>by
     rw[A.pn,gh]at hp;exact pn p hp z
   obtain⟨o6,es6,ep6,e6,r6⟩:=id d6;exact i7 o8 ⟨I19,j4.no,by have:=MJ zs kk y;omega,o6,_,e6,KV.put w6 i4,d6⟩ n18
theorem Uc{X:Cx}{tg Z kx vx:yL}{j3:List yL}{scope:Scope}{pos j8:Pos}{wi:TI}{g:TG}{tt:TT}{tk te:TE}{N':List Str}{cap:List (Option Nat)}{use:Option (yU->Sem Unit)}{Q':VSP}
  {ad:PNs}{s:yS}{σ:St}{H:Hp}{Q:KL->Hp->Prop}
  (hc:X.calm=true) (hi:PI X tg Z wi) (B:AI X.env.scope X.N scope N' cap) (hg:∀s H ex C,PG (AO X N' scope s H ex C) tg g) (ht:∀s H ex C,Ce (AO X N' scope s H ex C) j3 tt)
  (hk:∀s H ex C,PE (AO X N' scope s H ex C) kx tk) (he:∀s H ex C,PE (AO X N' scope s H ex C) vx te)
  (o9:∀ie v,letOwnedTupleGo tg ie v=pure ()) (hs:∀x,foldedSetIterable Z X.env x=pure x) (I:Ac X ad σ H s)
  (h:MK wi cap g tt tk te σ H Q)
  (fin:∀(ig C:yR) (H:Hp) (ys:KL) (o:Obj) (s':yS),H ig=none->Ac X ad σ (upd H ig (.frz o (.dK ys))) s'->Gz X ad C (upd H ig (.frz o (.dK ys))) s'->Q ys H->compPost (model X.prog X.w) X.A X.xe use Q' (.ref ig) C (.ok .next) s'):
  wpAny (model X.prog X.w) X.A (comprehension (.DictComp kx vx [⟨tg,Z,j3,0⟩] scope pos) scope X.env j8 newDict false (eval Z X.env) use) Q' X.xe s:=by
 have i9:closureFor scope X.env=pure (AS X.env.cells scope.names []):=IF λy hy hf=>I.ok.has y.1 (B.free y hy hf)
 refine eX (cl:=AS X.env.cells scope.names []) rfl hs i9 B.kind B.names (Ap (hi ad s σ H _ I h) λv s1 h1=>Ap h1 λie s2 h2=>?_);obtain⟨it,fp,tn,J,H2,e,I2,T,j9,f2,W,⟨m0,w0⟩,turn⟩:=h2;subst e;refine Zn (LC ?_);dsimp only;generalize hH3:s2.heap.push { cls:= .type "dict",dict:=none,data:= .dict #[]}=h3;have i0:h3.objs.size=s2.heap.objs.size+1:=by rw[<-hH3];exact Zm ..
 have j5:∀b o,s2.heap.get? b=some o->h3.get? b=some o:=λb o e=>by rw[<-hH3];exact Y1 _ e
 have j4:h3.get? s2.heap.objs.size=some { cls:= .type "dict",data:= .dict #[]}:=by rw[<-hH3];exact YM _ rfl
 have i8:∀b∈fp,b<s2.heap.objs.size:=λb K=>let ⟨o,e,_⟩:=T.obj _ _ j9 b K;Y7 e
 have I4:=LE I2 B f2 i8 j5 (by rw[i0];exact Zx _);have l6:(pushCells (h3.push { cls:= .type "dict",data:= .dict #[]}) scope.names).get? s2.heap.objs.size=some { cls:= .type "dict",data:= .dict #[]}:=ax _ _ _ _ (Y1 _ j4);have l9:tn 0 (pushCells (h3.push { cls:= .type "dict",data:= .dict #[]}) scope.names):=T.keep _ _ _ j9 λb _ o e=>ax _ _ _ _ (Y1 _ (j5 b o e))
 have j0:(pushCells (h3.push { cls:= .type "dict",data:= .dict #[]}) scope.names).DictOf (AX X.prog X.w) s2.heap.objs.size []:=Heap.DictOf.at (hH3 ▸ bU s2.heap) λo e=>ax _ _ _ _ (Y1 _ e)
 have j6:s2.heap.objs.size≠h3.objs.size:=by rw[i0];exact YT (be _)
 have o7:s2.heap.objs.size ∉ AF X.stack:=λz=>by
  rcases YY.mp (I2.stkSub _ z) with q | q
  .exact absurd I2.lt (by rw[<-q];exact YX _)
  .exact I2.nofs (Y5 _) q
 have i7:=I4.ok;have q9:∀ {D:PNs}{H':Hp},(∀b∈fp,H' b=none)->(∀p∈D,p.1=s2.heap.objs.size)->∀b∈fp,Br (AO X N' scope s2 H2 fp h3.objs.size) D H' b:=λ{D H'} hn hp b K=>
  ⟨hn b K, (i7.exf b K).1, i7.exfs b K, .inl K, (i7.exf b K).2, λp z e => by
   have z':p∈D:=z;have:=i8 b K;rw[<-e,hp p z']at this;exact YX _ this⟩
 have i4:∀x c,(AO X N' scope s2 H2 fp h3.objs.size).env.cells.lookup x=some c->c≠s2.heap.objs.size:=λx c ec z=>by
  rcases EY scope.names (h3.objs.size+1) _ ec with q' | q'
  .rw[z,i0]at q';exact absurd q' (by omega)
  .have r8:X.env.cells.lookup x=some c:=(DT _ _ q').elim id λz=>nomatch z
   obtain⟨_,o8⟩:=I2.cell x c r8;have:=o8.lt;rw[z]at this;exact YX _ this
 have i6:∀s4:yS,s4= { s2 with heap:=pushCells (h3.push { cls:= .type "dict",data:= .dict #[]}) scope.names}->
   codeAny (model X.prog X.w) X.A (.compLoop (.DictComp kx vx [⟨tg,Z,j3,0⟩] scope pos) 0 (.ref it) (.ref s2.heap.objs.size) (IL scope X.env h3.objs.size)) (compPost (model X.prog X.w) X.A X.xe use Q' (.ref s2.heap.objs.size) h3.objs.size) s4:=by
  rintro s4 rfl;have A0:Dx (AO X N' scope s2 H2 fp h3.objs.size) s2.heap.objs.size:=⟨j6,o7,.inr (Y5 _),i4,rfl,hc⟩;refine Ub (Y:=AO X N' scope s2 H2 fp h3.objs.size) (PB:=[]) (W:=W) A0 o9 (λp hp=>absurd hp (by simp)) rfl (hg _ _ _ _) (ht _ _ _ _) (hk _ _ _ _) (he _ _ _ _) T (λb K z=>absurd (i8 b K) (by rw[z];exact YX _))
   (λ{o H'} hn b K=>q9 hn (λp hp=>by rw[Z3.mp hp]) b K) l9 ⟨I4,I2.hok.fresh (Y5 _),Z1 _,_,[],l6,.nil,j0⟩ (λb K=>(f2 b K).1) w0 turn λys H5 s6 G q=>?_
  obtain⟨o6,n9,e6,v5,d6⟩:=G.at';have j7:(s2.heap.objs.size==sysModules)=false:=aa.mpr (Zv (YT I2.big));have l7:=G.no;have z5:=G.len;have I6:=G.inv;have O:∀b u,H5 b=some u->b≠s2.heap.objs.size:=λb u q z=>by rw[z,l7]at q;cases q
  have un:Un (AF X.stack) fp H2 (upd H5 s2.heap.objs.size (.frz o6 (.dK ys))) s2.heap s6.heap:=by
   have u:=I6.base;refine⟨u.keep,u.slot,λb o q n hx=>?_,u.there,λb xs q=>?_,λb o xs q=>?_,λb ps q=>?_⟩
   .rw[Ao (YT (Y7 q))];exact u.free b o q n hx
   .have z:=u.tups b xs q;rw[Ao (O b _ z)];exact z
   .have z:=u.frzs b o xs q;rw[Ao (O b _ z)];exact z
   .obtain⟨more,z⟩:=u.tbls b ps q;exact⟨more,by rw[Ao (O b _ z)];exact z⟩
  have hok:HOk X.prog X.w (upd H5 s2.heap.objs.size (.frz o6 (.dK ys))) s6.heap:=λb u q=>by
   by_cases K:b=s2.heap.objs.size
   .subst K;rw[Af]at q;cases q;exact⟨e6,z5,j7,n9,v5,d6⟩
   .rw[Ao K]at q;have o6:ObjOk X.prog X.w H5 s6.heap b u:=I6.hok b u q;exact o6.stay (λ_ _ _ e=>e) (λc z=>by rw[Ao (O c _ z)];exact z) λc xs z=>by rw[Ao (O c _ z)];exact z
  have IX:Ac X ad σ (upd H5 s2.heap.objs.size (.frz o6 (.dK ys))) s6:=I2.call' (show s6.os=s2.os from I6.os) un hok I6.bare λb K=>let f:=f2 b K;⟨f.2.2.2.1,f.2.1,f.2.2.2.2.1,f.2.2.2.2.2⟩
  have i5:s2.heap.objs.size<=h3.objs.size:=by rw[i0];exact Zx _
  refine fin _ _ H5 ys o6 s6 l7 IX ⟨let ⟨m,hn,_⟩:=I6.loc;⟨m,hn⟩,?_,?_,YV I2.sz i5,λx c ec z=>?_,λp hp z=>?_⟩ q
  .rw[Ao (Zv j6)];exact I6.free
  .exact ZV (YO I2.lt i5)
  .obtain⟨_,q⟩:=I2.cell x c ec;have:=q.lt;rw[z]at this;exact absurd (YO this i5) (YX _)
  .have:=Y7 (I2.pin p hp).1;rw[z]at this;exact absurd (YO this i5) (YX _)
 exact codeAny_compStart_dict (i6 _ rfl) (T.self _ 0 _ _ _ l9 (i6 _ rfl))
def Ud(G:TI)(cap:List (Option Nat))(g:TG)(D:TT)(tk K:TE):TE:=fun J H Q=>MK G cap g D tk K J H λB y=>∀p o,y p=none->Q (.ref p) (upd y p (.frz o (.dK B)))
theorem Ue{X:Cx}{G y kx vx:yL}{D:List yL}{scope:Scope}{pos:Pos}{wi:TI}{g:TG}{tt:TT}{tk Z:TE}(N':List Str)(cap:List (Option Nat))
  (hc:X.calm=true) (hi:PI X G y wi) (B:AI X.env.scope X.N scope N' cap) (hg:∀s H ex C,PG (AO X N' scope s H ex C) G g) (ht:∀s H ex C,Ce (AO X N' scope s H ex C) D tt) (hk:∀s H ex C,PE (AO X N' scope s H ex C) kx tk) (he:∀s H ex C,PE (AO X N' scope s H ex C) vx Z)
  (K:autoParam (∀ie v,letOwnedTupleGo G ie v=pure ()) K') (hs:autoParam (∀x,foldedSetIterable y X.env x=pure x) B'):PE X (.DictComp kx vx [⟨G,y,D,0⟩] scope pos) (Ud wi cap g tt tk Z):=by
 intro ad s σ H Q I h;rw[arm_eval_DictComp];refine Uc (use:=none) hc hi B hg ht hk he K hs I h λO C H ys o s' hn I' L q=>?_
 obtain⟨m,hm⟩:=L.ns;refine⟨m,hm,λh' J=>⟨.ref O,_,I'.turned (t':=s'.toks) (it:=C) (λb o hb e=>J.extBut b o hb e) L.free L.loc (.inr L.sz) L.cell L.pin,rfl,q O o hn⟩⟩
end
section
variable{t u v:Tok}{Q:KL -> Hp -> Prop}{a:yR}{σ:St}{H:Hp}{te:TE}{cap:List (Option Nat)}{tt:TT}
section
variable{prog:yP}{w:yN}{A:yO}{E:yY}{s:yS}
theorem Uf:isSubtype (.type "range_iterator") (.type "reversed")=pure false:=by rw[cC];kernel_rfl
noncomputable abbrev DF(n:Int):Obj:= { cls:= .type "range_iterator",data:= .fields #[rawInt (n-1),rawInt n,rawInt (-1)]}
theorem FY{z:Int}(B: -5000<=z)(y:z<=5000):Builtin.Range.rangeFitsLong z=true:=by
 unfold Builtin.Range.rangeFitsLong;simp only[Z5,Zf];omega
theorem Ug(r:yR)(n:Int)(t u v:Tok)(h0:0<=n)(J:n<=1000):
  Meets (Builtin.«range.__reversed__» ⟨[.ref r],[]⟩) (λ_ R s=>s.heap.get? r=some { cls:= .type "range",dict:=none,data:= .fields #[.int 0 t,.int n u,.int 1 v],slots:= #[]}/\R (.ok (.ret (Value.ref s.heap.objs.size))) { s with heap:=s.heap.push (DF n),toks:=s.toks}):=
 .of_wp λprog w A R s h=>by
  obtain⟨G,g,d,tk,os⟩:=s;obtain⟨D,h⟩:=h;have B:Builtin.Range.rangeSize 0 n 1=n:=by rw[rangeSize_one];split<;>omega
  have y:(Builtin.Range.rangeFitsLong 0 && Builtin.Range.rangeFitsLong n && Builtin.Range.rangeFitsLong 1 && Builtin.Range.rangeFitsLong (-1) && Builtin.Range.rangeFitsLong (0-1) && Builtin.Range.rangeFitsLong (Builtin.Range.rangeSize 0 n 1))=true:=by
   rw[B,FY (by omega) (by omega),FY (by omega) (by omega),FY (by omega) (by omega),FY (by omega) (by omega),FY (by omega) (by omega)];rfl
  wp_walk
  rw[y,B];have e:(0:Int)+(n-1) * 1=n-1:=by omega
  rw[e];simp only[Bool.not_true,ag,bB,aY]
  wp_walk
  exact⟨_,rfl,h⟩
theorem Uh{l:yR}{n:Int}{W:VSP}(B:IsRange s.heap l 0 n 1 t u v)(h0:0<=n)(G:n<=1000)
  (h:W (.ref s.heap.objs.size) { s with heap:=s.heap.push (DF n)}):codeAny (model prog w) A (.call (.builtin "reversed.__new__") ⟨[.type "reversed",.ref l],[]⟩) (wants W E) s:=by
 have ty:s.TypeIs (.ref l) "range" :=⟨_,B,rfl⟩;refine aW F.plain_reversed_new F.entry_reversed_new (bC (F.newCall_reversed_1 (.ref l)) ?_);have cls:=newClass_reversed (.ref l);have AW:=bI.lookup;have bound:=bI.bind (.ref l);unfold Builtin.«reversed.__new__»
 wp_walk using bC cls,dj ty AW,bC bound
 refine ao (aW (R:=λr y=>r= .ok (.ret (.ref s.heap.objs.size))/\y= { s with heap:=s.heap.push (DF n)}) bI.plain F.entry_range_reversed (bI.check _ _ _ _ _ _ _ _ ty (F.args_range_reversed_1 _) (Ug l n t u v h0 G prog w A.in1 (λr y=>r= .ok (.ret (.ref s.heap.objs.size))/\y= { s with heap:=s.heap.push (DF n)}) s ⟨B,rfl,rfl⟩))) λr y D=>?_
 obtain⟨rfl,rfl⟩:=D;exact Y4 h
theorem Ui{l:yR}{n:Int}{Q:VSP}(B:IsRange s.heap l 0 n 1 t u v)(h0:0<=n)(D:n<=1000)
  (h:Q (.ref s.heap.objs.size) { s with heap:=s.heap.push (DF n)}):wpAny (model prog w) A (call (.type "reversed") [.ref l]) Q E s:=by
 refine callType_other (U:="range_iterator") (Q₁:=λobj y=>obj= .ref s.heap.objs.size/\y= { s with heap:=s.heap.push (DF n)}) (by decide+kernel) F.create_reversed ⟨_,_,F.mro_reversed⟩ F.made_reversed Uf (F.typeCall_reversed_1 _) (Uh B h0 D ⟨rfl,rfl⟩) ?_;rintro obj y ⟨rfl,rfl⟩;exact⟨⟨_,YM _ rfl,rfl⟩,h⟩
end
section
variable{X:Cx}{tg:yL}
def Uj(B:TA):TI:=fun D H R=>B D H λG y=>∃n:Int,G=[.int n]/\0<=n/\n<=1000/\R (FO (n-1) (-1) n.toNat) y
theorem Uk{a:yL}{ta:TA}{p pos K y:Pos}(O:Gl X "reversed")(Z:X.mg "reversed"=none)(hg:Gl X "range")(hm:X.mg "range"=none)(ha:PA X [a] ta)
  (D:autoParam (starEach [.Call (.Name "range" K) [a] [] y] X.env=[(false,eval (.Call (.Name "range" K) [a] [] y) X.env)]) L3) (hs:autoParam (starEach [a] X.env=[(false,eval a X.env)]) L3):
  PI X tg (.Call (.Name "reversed" p) [.Call (.Name "range" K) [a] [] y] [] pos) (Uj ta):=by
 intro ad s σ H R I h;refine cY (B8 I O Z boot_reversed (Zc (by
  rw[D];refine aq (cY (B8 I hg hm fZ (Zc (Ap (ha y ad s σ H _ I h) λus s1 zq=>?_) hs rfl)));obtain⟨vs,H1,J,r1,q1⟩:=zq;obtain⟨n,e,h0,hn,q⟩:=q1;subst e;cases r1 with
  | cons r rr=>
   cases rr;obtain⟨t,rfl⟩:=r;refine call_range_1 (aS ?_);refine Ui (IsRange.new ..) h0 hn ?_;dsimp only;have G:(s1.heap.push { cls:= .type "range",data:= .fields #[.int 0 s1.toks,.int n t,.int 1 (s1.toks+1)]}).objs.size=s1.heap.objs.size+1:=Zm ..;have kk:∀b ob,s1.heap.get? b=some ob->((s1.heap.push { cls:= .type "range",data:= .fields #[.int 0 s1.toks,.int n t,.int 1 (s1.toks+1)]}).push (DF n)).get? b=some ob:=λb ob q=>Y1 _ (Y1 _ q)
   have B:IsRangeIter ((s1.heap.push { cls:= .type "range",data:= .fields #[.int 0 s1.toks,.int n t,.int 1 (s1.toks+1)]}).push (DF n)) (s1.heap.objs.size+1) (n-1) n (-1):=by
    rw[<-G];exact YM _ rfl
   rw[G];generalize(s1.heap.push { cls:= .type "range",data:= .fields #[.int 0 s1.toks,.int n t,.int 1 (s1.toks+1)]}).push (DF n)=h2 at kk B;refine cH B ⟨s1.heap.objs.size+1,[s1.heap.objs.size+1],_,_,H1,rfl,J.kept (t':=_) kk,R9 _ (n-1) (-1) n.toNat,?_,λb hb=>?_,q⟩
   .have e1:(n-1)+((0:Nat):Int) *(-1)=n-1:=by omega
    have e2:((n.toNat:Nat):Int)-((0:Nat):Int)=n:=by omega
    rw[e1,e2];exact B
   .rw[Z3.mp hb];exact J.fpOk (Zx _) (J.hok.fresh (Zx _))) D rfl))
def Ul(i:Int)(G:TE):TE:=fun D H Q=>G D H λy B=>∀d o,B d=none->Q (.ref d) (upd B d (.frz o (.dK [(.inl i,y)])))
theorem Ac.trackN{ad:PNs}{s:yS}{h':Heap}{tk:Nat}{u:HO}(I:Ac X ad σ H s)(B:Br X ad H a)
  (k:∀b o,b≠a->s.heap.get? b=some o->h'.get? b=some o) (ha:∃o,h'.get? a=some o) (ok:ObjOk X.prog X.w (upd H a u) h' a u):Ac X ad σ (upd H a u) { s with heap:=h',toks:=tk}:=by
 have J:H a=none:=B.1;have D:∀b u,H b=some u->b≠a:=λb u e=>Bg e J
 refine I.step (g':=s.gens) (d':=s.drawn) (ch:=[a]) (λb G=>by rw[Z3.mp G];exact⟨B.2.2.2.1,B.2.1,B.2.2.2.2.1,B.2.2.2.2.2⟩) (λb o _ _ y e _=>k b o (λz=>y (by rw[z];simp)) e) (λb o _ _ y e _=>⟨o.slots,k b o (λz=>y (by rw[z];simp)) e⟩)
  (λb o y e n=>by rw[Ao (λz=>y (by rw[z];simp))];exact n) (λb o y e=>⟨o,k b o (λz=>y (by rw[z];simp)) e⟩) (λb K e=>by rw[Ao (D b _ e)];exact e) (λb o K e=>by rw[Ao (D b _ e)];exact e) (λb ps e=>⟨#[],by rw[Ao (D b _ e),e];simp⟩) (λm hm=>?_) (λb v e=>?_) I.bare
 .obtain⟨o,es,O,Z,r⟩:=hm;exact⟨o,es,O,k _ o (λz=>B.2.1 z.symm) Z,r⟩
 .by_cases G:b=a
  .subst G;rw[Af]at e;cases e;exact ok
  .rw [Ao G] at e;refine(I.hok b v e).stay (λc v y q=>k c v ?_ q) (λc q=>by rw [Ao (D c _ q)];exact q) λc K q=>by rw [Ao (D c _ q)];exact q
   rcases y with z | z
   .rw[z];exact G
   .exact D c _ z
theorem Um{i:Int}{e:yL}{pos p1:Pos}{j1:Nat}(he:PE X e te):PE X (.Dict [some (.Constant (.int i) j1 p1)] [e] pos) (Ul i te):=λad s J H Q I h=>by
 refine ft (knd:=AX X.prog X.w) rfl rfl (by simp) (by show 1<=15;decide) ?_;refine dB (bX ?_);dsimp only;have B:(s.heap.push { cls:= .type "dict",data:= .dict #[]}).get? s.heap.objs.size=some { cls:= .type "dict",data:= .dict #[]}:=YM _ rfl;have f0:Br X ad H s.heap.objs.size:=I.fpOk (Y5 _) (I.hok.fresh (Y5 _));have I0:Ac X ad J H { s with heap:=s.heap.push { cls:= .type "dict",data:= .dict #[]},toks:=s.toks+1}:=I.kept (t':=s.toks+1) λb o q=>Y1 _ q
 have O:Ac X ((s.heap.objs.size,{ cls:= .type "dict",data:= .dict #[]})::ad) J H { s with heap:=s.heap.push { cls:= .type "dict",data:= .dict #[]},toks:=s.toks+1}:=I0.pins_of λp G=>by
  rcases YY.mp G with rfl | G
  .exact⟨B,f0.1,f0.2.1,f0.2.2.1,λv z=>by
    have z':Data.dict #[]=Data.cell v:=z;cases z'⟩
  .exact I0.pin p (Z2 _ G)
 refine Ap (he _ _ J H _ O h) λu s1 ⟨y,H1,K,ry,q⟩=>dO ?_
 have pn:=K.pin (s.heap.objs.size,{ cls:= .type "dict",data:= .dict #[]}) (Z2 _ YR);have I2:Ac X ad J H1 s1:=K.pins_of λp G=>K.pin p (Z2 _ (YQ _ G))
 have f1:Br X ad H1 s.heap.objs.size:=⟨pn.2.1,f0.2.1,f0.2.2.1,f0.2.2.2.1,f0.2.2.2.2.1,f0.2.2.2.2.2⟩;have dn:s1.heap.DictOf (AX X.prog X.w) s.heap.objs.size []:=Heap.DictOf.at (bU s.heap) λo D=>by rw[B]at D;cases D;exact pn.1
 refine⟨[(.inl i,u)],⟨Ib _ _ _ _,rfl,trivial⟩,dn,λh' hm Z=>?_⟩;obtain⟨o,es,ep,D,r⟩:=id hm;exact⟨.ref s.heap.objs.size,_,I2.trackN (u:= .frz o (.dK [(.inl i,y)])) (tk:=_) f1 (λb ob hb q=>Z.extBut b ob hb q) ⟨o,D⟩ ⟨D,by show 1<=sizeLine;decide,aa.mpr (Zv (YT I.big)),_,.cons ⟨rfl,ry⟩ .nil,hm⟩,rfl,q _ _ pn.2.1⟩
end
def ML(J:It)(cap:List (Option Nat))(g:TG)(tt:TT)(tk te:TE)(σ:St)(Q:KL->Hp->Prop)(H1:Hp):Prop:=
 ∃W:Nat->Nat->KL->Hp->Prop,(∃m,W 0 m [] H1)/\∀i m G H,W i m G H->
  (J.stop i H/\Q G H)\/
  (J.go i H /\ G.length < sizeLine /\ ∃ N : KL -> Hp -> Prop, (∀ D K, N D K -> ∃ Z, Z < m /\ W (i + 1) Z D K) /\ ∀ x K, J.yld i H x K -> g x (AK cap σ) K fun B H2 => Keep (AK cap σ) B /\ tt B H2 λb O =>
   br b (tk B O λk H4=>te B H4 λy H5=>∃kk,k=kV kk/\N (Ci G kk y) H5) (N G O))
theorem Uo{J:It}{g:TG}{tk:TE}(n:Nat)(D:Nat->KL->Hp->Prop)(hn:n<=100000)(h0:D 0 [] H)(hz:∀i ys H,D i ys H->ys.length<=i)
  (hs:∀i ys H,i<n->D i ys H->J.go i H/\∀x H',J.yld i H x H'->g x (AK cap σ) H' fun B H2=>Keep (AK cap σ) B/\tt B H2 λb O=>br b (tk B O λk Z=>te B Z λy H5=>∃K,k=kV K/\D (i+1) (Ci ys K y) H5) (D (i+1) ys O))
  (hd:∀ys H,D n ys H->J.stop n H/\Q ys H):ML J cap g tt tk te σ Q H:=by
 refine⟨λi m ys H=>m=n-i/\i<=n/\D i ys H,⟨n,by simp,Z1 _,h0⟩,?_⟩;rintro i m ys H ⟨rfl,hi,p⟩
 by_cases G:i<n
 .obtain⟨a,b⟩:=hs i ys H G p;refine .inr ⟨a,?_,D (i+1),λi0 H' p'=>⟨n-(i+1),by omega,rfl,G,p'⟩,b⟩;have:=hz i ys H p;have:(100000:Nat)<sizeLine:=by decide
  omega
 .have e:i=n:=by omega
  subst e;exact .inl (hd ys H p)
theorem Up{K:Fgx}{xs:zA}{g:TG}{tk:TE}(D:Nat->KL->Hp->Prop)(hn:xs.length<=100000)(h0:D 0 [] H)(hz:∀i ys H,D i ys H->ys.length<=i)
  (G:∀i ys H,i<=xs.length->D i ys H->Ae K H a xs)
  (hs:∀i x ys H,xs[i]? =some x->D i ys H->g x (AK cap σ) H fun B H2=>Keep (AK cap σ) B/\tt B H2 λb O=>br b (tk B O λk Z=>te B Z λy H5=>∃J,k=kV J/\D (i+1) (Ci ys J y) H5) (D (i+1) ys O))
  (hd:∀ys H,D xs.length ys H->Q ys H):ML (Er K a) cap g tt tk te σ Q H:=
 Uo xs.length D hn h0 hz (λi ys H hi p=>⟨⟨xs,xs[i],G i ys H (ZH hi) p,by simp[hi]⟩,λx H' zq=>by obtain⟨e,y⟩:=zq;subst e;exact hs i x ys _ (y xs (G i ys _ (ZH hi) p)) p⟩)
  λys H p=>⟨⟨xs,G _ ys H (Y5 _) p,Y5 _⟩,hd ys H p⟩
end
section
open PySem PySem.Spec PyProof.Rows SeqAt
def OrdAt(op:CmpOp)(A:yO)(s:yS)(y x:yU)(b:Bool):Prop:=
 ∀(P:yP) (w:yN) (E Q:VSP),Q (.bool b) s->wpAny (model P w) A (richCompare op y x) Q E s
inductive DG(op:CmpOp)(A:yO)(s:yS)(last:Bool):List (yU×yU)->Bool->Prop
 | none:DG op A s last [] last
 | same {x y:yU}{ps:List (yU×yU)}{r:Bool}:EqAt A s x y true->DG op A s last ps r->DG op A s last ((x,y)::ps) r
 | unlike {x y:yU}{ps:List (yU×yU)}{r:Bool}:EqAt A s x y false->OrdAt op A s x y r->DG op A s last ((x,y)::ps) r
theorem OrdAt.gtI{A:yO}{s:yS}(a b:Int)(t u:Tok):OrdAt .Gt A s (.int a t) (.int b u) (decide (a>b)):=λP w E Q h=>
 CmpOf.ints_gt (P:=λi v=>v=if i=0 then Value.int a t else Value.int b u) (λi=>if i=0 then a else b) (λi v e=>by
  by_cases z:i=0
  .rw[YN z]at e ⊢;exact⟨t,e⟩
  .rw[Y8 z]at e ⊢;exact⟨u,e⟩) 0 1 _ _ s Q E rfl rfl h
theorem Uq(l b:yR)(xs ys:Array yU)(n m:Nat)(K Z:Option yR)(s1 s2:Array (yW))(r:Bool):
  Meets (Builtin.«tuple.__gt__» ⟨[.ref l,.ref b],[]⟩) (λA R s=>s.heap.get? l=some { cls:= .type "tuple",dict:=K,data:= .seq xs n,slots:=s1}/\s.heap.get? b=some { cls:= .type "tuple",dict:=Z,data:= .seq ys m,slots:=s2}/\DG .Gt A.in1 s (decide (xs.size>ys.size)) (xs.toList.zip ys.toList) r/\R (.ok (.ret (.bool r))) s):=
 .of_wp λP w A R s D=>by
  obtain⟨J,g,d,tk,os⟩:=s;obtain⟨O,hb,B,fin⟩:=D;have tt:=bZ
  wp_walk using aj O,aj hb,wpAny_forIn_list _ (λleft st G=>st.1=none/\G=⟨J,g,d,tk,os⟩/\DG .Gt A.in1 ⟨J,g,d,tk,os⟩ (decide (xs.size>ys.size)) left r) _
  case turn=>
   rintro⟨x,y⟩ left st G ⟨_,rfl,B⟩;cases B with
   | same e more=>
    refine Y0 (e P w _ _ ?_)
    wp_walk
    exact⟨rfl,rfl,more⟩
   | unlike e o=>
    refine Y0 (e P w _ _ ?_);unfold OrdAt at o
    wp_walk using o P w _ _
    exact⟨_,rfl,fin⟩
  case fin=>
   rintro⟨st1,st2⟩ G ⟨hs,rfl,B⟩
   replace hs:st1=_:=hs
   subst hs;cases B
   wp_walk
   exact⟨_,rfl,fin⟩
  case h=>exact⟨rfl,rfl,B⟩
theorem OrdAt.gtT{A:yO}{s:yS}{l b:yR}{xs ys:Array yU}{r:Bool}(O:IsTup s.heap l xs)(hb:IsTup s.heap b ys)(G:A.units<cLine)(y:DG .Gt A.in1 s (decide (xs.size>ys.size)) (xs.toList.zip ys.toList) r):OrdAt .Gt A s (.ref l) (.ref b) r:=λP w E Q h=>by
 obtain⟨⟨c1,J,t1,s1⟩,o1,e1,n,D⟩:=O;obtain⟨⟨c2,Z,t2,s2⟩,B,e2,m,K⟩:=hb;cases e1;cases D;cases e2;cases K;exact richCompare_meets_room (op:= .Gt) ⟨_,o1,rfl⟩ ⟨_,B,rfl⟩ F.slot_tuple_gt F.entry_tuple_gt (F.args_tuple_gt_2 _ _) (Uq l b xs ys n m J Z s1 s2 r) ⟨o1,B,y,(λz=>nomatch z),h⟩ G
variable{bt:yU -> yU -> Bool}
noncomputable def Dk(bt:yU->yU->Bool):yW->yU->yW
 | none,v=>some v
 | some b,v=>if bt v b then some v else some b
noncomputable def Js:yW->Array yU
 | none=> #[]
 | some b=> #[b,b]
abbrev Jt(c:Array yU)(k:Nat):Obj:= { cls:= .type "list",dict:=none,data:= .seq c k,slots:= #[]}
def FZ(h0 h:Heap):Prop:=∀b o,h0.get? b=some o->h.get? b=some o
theorem Ju(o:yW):(Js o).size<=sizeLine:=by cases o<;>(first | exact(show 0<=sizeLine by decide) | exact(show 2<=sizeLine by decide))
theorem Ur{o:yW}{v:yU}:Dk bt o v≠none:=by
 cases o with
 | none=>intro z;cases z
 | some b=>
  show(if bt v b then some v else some b)≠none;cases bt v b<;>(intro z;cases z)
theorem Ut{P:yP}{w:yN}{A:yO}{R:Result->yS->Prop}{I S:yR}{fp wr:List yR}{vs:yX}{St:Nat->Heap->Prop}{h0:Heap}{bt:yU->yU->Bool}
  (W:Walks P w A.in1 I fp wr vs.length (λi v=>vs[i]? =some v) St) (nS:S ∉ fp) (oS:h0.get? S=none) (ow:∀b∈wr,h0.get? b=none)
  (cmp:∀x y s,x∈vs->y∈vs->FZ h0 s.heap->OrdAt .Gt A.in1 s x y (bt x y)):
  ∀(k j:Nat) (s:yS) (B:yW) (c:Nat),vs.length-j=k->j<=vs.length->St j s.heap->FZ h0 s.heap->s.heap.get? S=some (Jt (Js B) c)->(∀b,B=some b->b∈vs)->(B=none->j<vs.length)->
   (∀v h tk,(vs.drop j).foldl (Dk bt) B=some v->(∀b o,b ∉ wr->b≠S->s.heap.get? b=some o->h.get? b=some o)->R (.ok (.ret v)) { s with heap:=h,toks:=tk})->
   codeAny (model P w) A (.builtin "max.loop" ⟨[.ref I,.none,.ref S],[]⟩) R s:=by
 have nw:S ∉ wr:=λz=>nS (W.sub _ z)
 have D:(toString "max" ++toString ".loop" :String)="max.loop" :=by decide
 have J:∀ {b:yR}{o:Obj},h0.get? b=some o->b ∉ wr/\b≠S:=λ{b o} e=>⟨λz=>(by rw[ow b z]at e;cases e),λz=>(by rw[z,oS]at e;cases e)⟩
 intro k
 induction k with
 | zero=>
  intro j s B c hk hj st i0 at' mem K fin;obtain rfl:j=vs.length:=by omega
  cases B with
  | none=>exact absurd (K rfl) (YX _)
  | some b=>
   refine ZQ F.entry_max_loop ?_;rw[ZJ bi _];show wpAny _ A.in1 (seqItems? (.ref S) >>=_) _ _ s;refine Y0 (ZN at' rfl ?_);show wpAny _ A.in1 (tryCatch (pyNext (.ref I)) _>>=_) _ _ s;refine Y0 (fV (W.done s _ _ st λh1 tk kept=>?_));show wpAny _ A.in1 (updateSeq S (λ_=> #[]) >>=_) _ _ _;refine Y0 (ac (hz:=Ju _) (kept S _ nw at') rfl (Y0 (bE (Y4 ?_))));exact fin b _ tk (by rw[List.drop_length];rfl) λa o ha hS e=>(ZY _ _ (Zv hS)).trans (kept a o ha e)
 | succ k ih=>
  intro j s B c hk hj st i0 at' mem K fin;have lt:j<vs.length:=by omega
  have dr:vs.drop j=vs[j]::vs.drop (j+1):=bV lt;refine ZQ F.entry_max_loop ?_;rw[ZJ bi _];show wpAny _ A.in1 (seqItems? (.ref S) >>=_) _ _ s;refine Y0 (ZN at' rfl ?_);show wpAny _ A.in1 (tryCatch (pyNext (.ref I)) _>>=_) _ _ s;refine Y0 (fV (W.item j s _ _ lt st λv h1 tk got i7 kept=>?_));have ev:v=vs[j]:=by rw[Y6 lt]at got;exact(Z7 got).symm
  have mv:v∈vs:=by rw[ev];exact ZL lt
  have O:=kept S _ nw at';have G:FZ h0 h1:=λb o e=>kept b o (J e).1 (i0 b o e)
  have next:∀(h2:Heap) (i4 c2:Nat),h2.get? S=some (Jt (Js (Dk bt B v)) c2)->(∀b o,b≠S->h1.get? b=some o->h2.get? b=some o)->
    codeAny (model P w) A (.builtin "max.loop" ⟨[.ref I,.none,.ref S],[]⟩) R { s with heap:=h2,toks:=i4}:=λh2 i4 c2 i6 k2=>by
   refine ih (j+1) { s with heap:=h2,toks:=i4} (Dk bt B v) c2 (by omega) lt (W.frame _ _ _ i7 λb Z o e=>k2 b o (λz=>nS (by rw[<-z];exact Z)) e) (λb o e=>k2 b o (J e).2 (G b o e)) i6 (λb e=>?_) (λe=>absurd e Ur) λu h3 i5 e k3=>fin u h3 i5 (by rw[dr,gg,<-ev];exact e) λb o Z hS q=>k3 b o Z hS (k2 b o hS (kept b o Z q))
   cases B with
   | none=>cases e;exact mv
   | some b0=>
    have e':(if bt v b0 then some v else some b0)=some b:=e;split at e'
    .cases e';exact mv
    .cases e';exact mem _ rfl
  cases B with
  | none=>
   show wpAny _ A.in1 (updateSeq S (λ_=> #[v,v]) >>=_) _ _ _;refine Y0 (ac (hz:=Ju _) O rfl ?_);rw[D];exact Y4 ⟨ap bi _,next _ tk _ (Zl _ O rfl) λb o Z e=>(ZY _ _ (Zv Z)).trans e⟩
  | some b=>
   show wpAny _ A.in1 (tryCatch (holding [v,v] (richCompare .Gt v b>>=_)) _>>=_) _ _ _;refine Y0 (fV (Zp (Y0 (cmp v b _ mv (mem b rfl) G P w _ _ ?_))));refine Y0 (Zp (ZZ (Y0 (bE (Y4 ?_)))));cases up:bt v b with
   | true=>
    have eb:Dk bt (some b) v=some v:=(show(if bt v b then some v else some b)=_ from by rw[up];rfl);rw[YN rfl];refine Y0 (ac (hz:=Ju _) O rfl (Y0 (bE ?_)));rw[D];exact Y4 ⟨ap bi _,next _ tk _ (by rw[eb];exact Zl _ O rfl) λb o Z e=>(ZY _ _ (Zv Z)).trans e⟩
   | false=>
    have eb:Dk bt (some b) v=some b:=(show(if bt v b then some v else some b)=_ from by rw[up];rfl);rw[Y8 YZ];refine Y0 (bE ?_);rw[D];exact Y4 ⟨ap bi _,next h1 tk c (by rw[eb];exact O) λb o Z e=>e⟩
theorem Uu{P:yP}{w:yN}{A:yO}{E Q:VSP}{s:yS}{l:yR}{vs:yX}(hh:A.handled=none)(G:s.heap.IsList l vs.toArray)(ne:vs≠ [])
  (cmp:∀x y s',x∈vs->y∈vs->FZ s.heap s'.heap->OrdAt .Gt A.in1 s' x y (bt x y))
  (fin:∀v h tk,vs.foldl (Dk bt) none=some v->(∀b o,s.heap.get? b=some o->h.get? b=some o)->Q v { s with heap:=h,toks:=tk}):wpAny (model P w) A (call (.builtin "max") [.ref l]) Q E s:=by
 have D:(toString "max" ++toString ".loop" :String)="max.loop" :=by decide
 refine call_function_tree F.kind_max F.plain_max F.entry_max (F.args_max1 _) ?_;show wpAny _ A.in1 (Builtin.Builtins.bindParams "max" ["key","default"] 0 ⟨[],[]⟩ >>=_) _ _ s;refine Y0 (bC (a:=[none,none]) rfl (Y0 (Y4 (Y0 ?_))));obtain⟨ol,K,_⟩:=id G;have lt:=Y7 K;refine aC G (Y0 (Zn ?_));rw[D];dsimp only;have O:(s.heap.push { cls:= .type "list_iterator",data:= .fields #[.ref l,.int 0 0]}).objs.size=s.heap.objs.size+1:=Zm ..;have B:∀a,s.heap.objs.size<=a->s.heap.get? a=none:=λa ha=>by
  cases e:s.heap.get? a with
  | none=>rfl
  | some o=>exact absurd (Y7 e) (gi.mpr ha)
 have J:∀b o,s.heap.get? b=some o->((s.heap.push { cls:= .type "list_iterator",data:= .fields #[.ref l,.int 0 0]}).push (Jt #[] 0)).get? b=some o:=λb o e=>Y1 _ (Y1 _ e)
 have sz:vs.toArray.size=vs.length:=by simp
 have W:=Walks.list (prog:=P) (w:=w) (A:=A.in1) hh s.heap.objs.size l (YT lt) vs.toArray;have Z:(fun(i:Nat) (v:yU)=>vs.toArray[i]? =some v)=(λi v=>vs[i]? =some v):=by funext i v;simp
 rw[sz,Z]at W;rw[O];refine Y4 ⟨ap bi _,Ut (h0:=s.heap) (bt:=bt) (S:=s.heap.objs.size+1) W (λz=>by
  rcases YY.mp z with z | z
  .exact absurd z (eY _)
  .exact absurd (Z3.mp z) (ZV (ZM lt))) (B _ (Zx _)) (λb hb=>by rw[Z3.mp hb];exact B _ (Y5 _)) cmp vs.length 0 _ none 0 rfl (Z1 _) ?_ J (by rw[<-O];exact YM _ rfl) (λb e=>nomatch e) (λ_=>List.length_pos_iff.mpr ne) λv h tk e k2=>fin v h tk e λb o q=>k2 b o (λz=>by rw[Z3.mp z,B _ (Y5 _)]at q;cases q) (λz=>by rw[z,B _ (Zx _)]at q;cases q) (J b o q)⟩
 exact⟨⟨_,Y1 _ (YM _ rfl),rfl,rfl⟩,G.at λo e=>J _ o e⟩
end
open PySem PySem.Spec PyProof.Rows SeqAt
inductive Cmp:yQ->yQ->Prop
 | int (a b:Int):Cmp (.int a) (.int b)
 | row (as bs:yV):Cmp (.tuple (as.map .int)) (.tuple (bs.map .int))
def MM:∀(as:yV),PyData.canLayAll0 (as.map .int)=true/\PyData.hasDictAll (as.map .int)=false/\PyData.depthAll (as.map .int)=0
 | []=>⟨rfl,rfl,rfl⟩
 | a::as=>by
  obtain⟨h1,h2,h3⟩:=MM as;refine⟨?_,?_,?_⟩
  .show PyData.canLayAll0 (.int a::as.map .int)=true;unfold PyData.canLayAll0;rw[h1];rfl
  .show PyData.hasDictAll (.int a::as.map .int)=false;unfold PyData.hasDictAll;rw[h2];rfl
  .show PyData.depthAll (.int a::as.map .int)=0;unfold PyData.depthAll;rw[h3];rfl
theorem Cmp.left{d e:yQ}(h:Cmp d e):d.canLay0=true/\d.hasDict=false/\d.depth<=1:=by
 cases h with
 | int a b=>exact⟨rfl,rfl,Z1 _⟩
 | row as bs=>
  obtain⟨D,y,B⟩:=MM as;refine⟨?_,?_,?_⟩
  .unfold PyData.canLay0;exact D
  .unfold PyData.hasDict;exact y
  .unfold PyData.depth;rw[B];exact Y5 _
theorem Cmp.symm{d e:yQ}(h:Cmp d e):Cmp e d:=by
 cases h with
 | int a b=>exact .int b a
 | row as bs=>exact .row bs as
theorem F5{h:Heap}:∀ {us:yX}{ds:List yQ}{as:List yR},ReadsAll h us ds as->us.length=ds.length
 | _,_,_,.nil=>rfl
 | _,_,_,.cons _ t=>by rw[Zw,Zw,F5 t]
theorem Fk{h:Heap}{u:yU}{ds:List yQ}{as:List yR}(r:Reads h u (.tuple ds) as):∃a vs,u= .ref a/\IsTup h a vs.toArray/\ReadsAll h vs ds as:=by
 cases r with
 | tuple e c d ra=>exact⟨_,_,rfl,⟨_,e,c,_,by rw[d]⟩,ra⟩
theorem Jv{bt:yU->yU->Bool}{f:yU->Int}{S:yU->Prop}(O:∀x y,S x->S y->bt x y=true->f y<=f x)(K:∀x y,S x->S y->bt x y=false->f x<=f y):∀(l:yX) (b v:yU),S b->(∀x∈l,S x)->l.foldl (Dk bt) (some b)=some v->(v=b\/v∈l)/\f b<=f v/\∀x∈l,f x<=f v
 | [],b,v,_,_,e=>by cases e;exact⟨.inl rfl,Za _,λx B=>nomatch B⟩
 | y::l,b,v,sb,sl,e=>by
  rw[gg]at e;have G:l.foldl (Dk bt) (if bt y b then some y else some b)=some v:=e;have J:=sl y YR;have D:∀x∈l,S x:=λx B=>sl x (YQ _ B)
  cases c:bt y b with
  | true=>
   rw[c,YN rfl]at G;obtain⟨m,a,q⟩:=Jv O K l y v J D G;refine⟨.inr (m.elim (λz=>by rw[z];exact YR) λz=>YQ _ z),ay (O y b J sb c) a,λx B=>?_⟩;rcases YY.mp B with rfl | B
   .exact a
   .exact q x B
  | false=>
   rw[c,Y8 YZ]at G;obtain⟨m,a,q⟩:=Jv O K l b v sb D G;refine⟨m.elim .inl λz=> .inr (YQ _ z),a,λx B=>?_⟩;rcases YY.mp B with rfl | B
   .exact ay (K x b J sb c) a
   .exact q x B
noncomputable def Hc(last:Bool):yV->yV->Bool
 | a::as,b::bs=>if a=b then Hc last as bs else decide (a>b)
 | _,_=>last
theorem MN{A:yO}{s:yS}{last:Bool}:∀ {as bs:yV}{us ws:yX}{x y:List yR},ReadsAll s.heap us (as.map .int) x->ReadsAll s.heap ws (bs.map .int) y->DG .Gt A s last (us.zip ws) (Hc last as bs)
 | [],_,_,_,_,_,r,_=>by cases r;exact .none
 | _::_,[],_,_,_,_,r,q=>by cases q;rw[List.zip_nil_right];exact .none
 | a::as,b::bs,us,ws,x,y,r,q=>by
  cases r with
  | cons r1 r2=>
   cases q with
   | cons q1 q2=>
    cases r1 with
    | int i t=>
     cases q1 with
     | int j u=>
      rw[List.zip_cons_cons];unfold Hc;split
      .rename_i e;subst e;refine .same ?_ (MN r2 q2);have:=EqAt.int_int (A:=A) (s:=s) a t a u
       simpa using this
      .rename_i e;refine .unlike ?_ (OrdAt.gtI a b t u);have:=EqAt.int_int (A:=A) (s:=s) a t b u;rw[show(a==b)=false from by simpa using e]at this;exact this
noncomputable def Jw(d e:yQ):Bool:=match d,e with
 | .int a,.int b=>decide (a>b)
 | .tuple xs,.tuple ys=>Hc (decide (xs.length>ys.length)) (xs.filterMap fun | .int i=>some i | _=>none) (ys.filterMap fun | .int i=>some i | _=>none)
 | _,_=>false
theorem Jx:∀(as:yV),((as.map PyData.int).filterMap fun | .int i=>some i | _=>none)=as
 | []=>rfl
 | a::as=>by rw[ZA,ci];simp only;rw[Jx as]
theorem Uv{A:yO}{s:yS}{d e:yQ}{u v:yU}{x y:List yR}(h:Cmp d e)(r:Reads s.heap u d x)(q:Reads s.heap v e y)(K:A.units<cLine):OrdAt .Gt A s u v (Jw d e):=by
 cases h with
 | int a b=>
  cases r with
  | int i t=>
   cases q with
   | int j t'=>exact OrdAt.gtI a b t t'
 | row as bs=>
  obtain⟨a,G,rfl,O,B⟩:=Fk r;obtain⟨b,J,rfl,hb,D⟩:=Fk q;have Z:G.length=as.length:=by have:=F5 B;rw[Y2]at this;exact this
  have l2:J.length=bs.length:=by have:=F5 D;rw[Y2]at this;exact this
  refine OrdAt.gtT O hb K ?_;have:=MN (A:=A.in1) (last:=decide (G.length>J.length)) B D;unfold Jw;dsimp only;rw[Jx,Jx,Y2,Y2,<-Z,<-l2]
  simpa using this
noncomputable def Fl(last:Bool):List yQ->List yQ->Bool
 | d::ds,e::es=>if PyData.eqv d e then Fl last ds es else Jw d e
 | _,_=>last
theorem MO{A:yO}{s:yS}{last:Bool}(D:A.units+5<cLine):∀ {ds es:List yQ}{us ws:yX}{x y:List yR},Paired Cmp ds es->ReadsAll s.heap us ds x->ReadsAll s.heap ws es y->DG .Gt A s last (us.zip ws) (Fl last ds es)
 | _,_,_,_,_,_,.nil,r,q=>by cases r;exact .none
 | d::ds,e::es,us,ws,x,y,.cons c t,r,q=>by
  cases r with
  | cons r1 r2=>
   cases q with
   | cons q1 q2=>
    rw[List.zip_cons_cons];obtain⟨G,c2,K⟩:=c.left;obtain⟨J,Z,O⟩:=c.symm.left;have B:=eqAt_reads d e A s _ _ _ _ r1 q1 G J (by omega);unfold Fl;cases z:PyData.eqv d e with
    | true=>rw[z]at B;exact .same B (MO D t r2 q2)
    | false=>rw[z]at B;exact .unlike B (Uv c r1 q1 (by omega))
theorem MP{X:Cx}{k:Nat}(hc:X.calm=true)(hr:AU k X.A):Bo X (.builtin "max") (λxs H Q=>∃(p l:yR) (fs:List (Int×List yQ)) (vs:zA),xs=[.ref l]/\H l=some (.lst vs)/\Ad p H (fs.map λq=> .tuple (.int q.1::q.2)) vs/\fs≠ []/\(∀q∈fs,∀q'∈fs,Paired Cmp q.2 q'.2)/\
  ∀(i:Nat) q v,fs[i]? =some q->vs[i]? =some v->(∀q'∈fs,q'.1<=q.1)->Q v H):=by
 intro ad s σ H xs us Q I r h;obtain⟨p,l,fs,vs,rfl,hl,rs,ne,cm,q⟩:=h;obtain⟨u,rfl,ru⟩:=r.one;cases ru;obtain⟨B,rv,pl,hz⟩:=I.list (Al.of hl);have un:=hr.un;have lv:=rv.length;have lf:=rs.len;rw[Y2]at lf;have rd:∀(i:Nat) (x:yU),B[i]? =some x->∃q v as,fs[i]? =some q/\vs[i]? =some v/\Aw v x/\Reads s.heap x (.tuple (.int q.1::q.2)) as:=λi x K=>by
  have hi:=(Y9.mp K).1;have Z:fs[i]? =some fs[i]:=Y6 (by omega);obtain⟨v,hv,rep⟩:=rs.get (i:=i) (d:= .tuple (.int (fs[i]).1::(fs[i]).2)) (by rw[YU,Z];rfl);obtain⟨x',i8,rx⟩:=rv.get hv;rw[K]at i8;cases i8;have mem:=ZL (l:=fs) (n:=i) (by omega);have nd:(PyData.tuple (.int (fs[i]).1::(fs[i]).2)).hasDict=false:=by
   have:=cm _ mem _ mem;generalize(fs[i]).2=ds at this;have all:∀ {ds es:List yQ},Paired Cmp ds es->PyData.hasDictAll ds=false:=by
    intro ds es t
    induction t with
    | nil=>rfl
    | cons c _ ih=>unfold PyData.hasDictAll;rw[c.left.2.1,ih];rfl
   unfold PyData.hasDict PyData.hasDictAll;rw[all this];rfl
  obtain⟨as,rr⟩:=Aa.reads I _ v x nd rep rx;exact⟨_,v,as,Z,hv,rx,rr⟩
 have get:∀x∈B,∃q as,q∈fs/\Reads s.heap x (.tuple (.int q.1::q.2)) as:=λx K=>by
  obtain⟨i,hi⟩:=ZK K;obtain⟨q,v,as,Z,_,_,r⟩:=rd i x hi;exact⟨q,as,YW Z,r⟩
 have first:∀x,∃n:Int,∀(q:Int) (ds:List yQ) (as:List yR),Reads s.heap x (.tuple (.int q::ds)) as->q=n:=λx=>by
  by_cases z:∃(q:Int) (ds:List yQ) (as:List yR),Reads s.heap x (.tuple (.int q::ds)) as
  .obtain⟨q,ds,as,r⟩:=z;refine⟨q,λq' l6 l9 r'=>?_⟩;obtain⟨a,us,rfl,j8,ra⟩:=Fk r;obtain⟨b,ws,e,j9,rb⟩:=Fk r';cases e;obtain⟨o1,g1,c1,n1,d1⟩:=j8;obtain⟨o2,g2,c2,n2,d2⟩:=j9;rw [g1] at g2;cases g2;rw [d1] at d2;have:us=ws:=by injection d2 with d2 _;simpa using d2
   subst this;cases ra with
   | cons a1 _=>
    cases rb with
    | cons b1 _=>cases a1;cases b1;rfl
  .exact⟨0,λq ds as r=>absurd ⟨q,ds,as,r⟩ z⟩
 obtain⟨f,Z⟩:=fi first
 have ex:∀z:yU×yU,∃b:Bool,(z.1∈B->z.2∈B->∀s':yS,FZ s.heap s'.heap->OrdAt .Gt X.A.in1 s' z.1 z.2 b)/\(b=true->z.1∈B->z.2∈B->f z.2<=f z.1)/\(b=false->z.1∈B->z.2∈B->f z.1<=f z.2):=λz=>by
  by_cases m1:z.1∈B
  .by_cases m2:z.2∈B
   .obtain⟨J,a1,k1,r1⟩:=get _ m1;obtain⟨G,a2,k2,r2⟩:=get _ m2;have e1:=Z z.1 J.1 J.2 a1 r1;have e2:=Z z.2 G.1 G.2 a2 r2;have pc:Paired Cmp (.int J.1::J.2) (.int G.1::G.2):= .cons (.int _ _) (cm J k1 G k2);refine⟨Fl (decide ((PyData.int J.1::J.2).length>(PyData.int G.1::G.2).length)) (.int J.1::J.2) (.int G.1::G.2),λ_ _ s' O=>?_,λb _ _=>?_,λb _ _=>?_⟩
    .obtain⟨c1,us,j7,h1,ra⟩:=Fk (Reads.keeps O r1);obtain⟨c2,ws,j4,h2,rb⟩:=Fk (Reads.keeps O r2);rw [j7,j4];refine OrdAt.gtT h1 h2 (by simp only [Around.in1_units];omega) ?_;have l1:=F5 ra;have l2:=F5 rb;have:=MO (A:=X.A.in1.in1) (s:=s') (last:=decide ((PyData.int J.1::J.2).length>(PyData.int G.1::G.2).length)) (by simp only [Around.in1_units];omega) pc ra rb;rw [<-l1,<-l2] at this ⊢
     simpa using this
    .unfold Fl at b
     by_cases z:J.1=G.1
     .omega
     .rw[Y8 (by unfold PyData.eqv;simpa using z)]at b;have b':decide (J.1>G.1)=true:=b;have:=Z0 b';omega
    .unfold Fl at b
     by_cases z:J.1=G.1
     .omega
     .rw[Y8 (by unfold PyData.eqv;simpa using z)]at b;have b':decide (J.1>G.1)=false:=b;have:=ZD b';omega
   .exact⟨true,λ_ m=>absurd m m2,λ_ _ m=>absurd m m2,λz=>nomatch z⟩
  .exact⟨true,λm=>absurd m m1,λ_ m=>absurd m m1,λz=>nomatch z⟩
 obtain⟨bt,i4⟩:=fi ex;have i5:B≠ []:=λz=>ne (af (by rw[z]at lv;have l0:vs.length=0:=lv;omega))
 refine Uu (bt:=λx y=>bt (x,y)) (I.ok.hd hc) pl.isList i5 (λx y s' mx my O=>(i4 (x,y)).1 mx my s' O) λv h tk e kept=>?_
 obtain⟨b0,i0,D⟩:∃b r,B=b::r:=by
  cases B with
  | nil=>exact absurd rfl i5
  | cons b r=>exact⟨b,r,rfl⟩
 have e':i0.foldl (Dk λx y=>bt (x,y)) (some b0)=some v:=by rw[D,gg]at e;exact e
 have i6:=Jv (S:=λx=>x∈B) (bt:=λx y=>bt (x,y)) (f:=f) (λx y K hy b=>(i4 (x,y)).2.1 b K hy) (λx y K hy b=>(i4 (x,y)).2.2 b K hy) i0 b0 v (by rw[D];exact YR) (λx K=>by rw[D];exact YQ _ K) e';obtain⟨mv,f0,fr⟩:=i6;have j5:v∈B:=by
  rw[D];rcases mv with z | z
  .rw[z];exact YR
  .exact YQ _ z
 have all:∀x∈B,f x<=f v:=λx K=>by
  rw[D]at K;rcases YY.mp K with rfl | K
  .exact f0
  .exact fr x K
 obtain⟨i,hi⟩:=ZK j5;obtain⟨qq,vv,as,j0,i9,rx,rr⟩:=rd i v hi;refine⟨vv,H,I.kept kept,rx,q i qq vv j0 i9 λq' j3=>?_⟩;obtain⟨j,hj⟩:=ZK j3;have l7:=(Y9.mp hj).1;obtain⟨G,v2,j6,i7,_,_,r2⟩:=rd j B[j] (Y6 (by omega));rw[hj]at i7;cases i7;have:=all B[j] (ZL _);rw[<-Z v qq.1 qq.2 as rr,<-Z B[j] q'.1 q'.2 j6 r2]at this;omega
end L2
namespace MF
open L2
variable{p:yR}{H:Hp}{T:TM}{kvs ks:KL}{v:V}
noncomputable def D7(T:TM):Nat->yV->Int
 | _,[]=>0
 | h,p::r=>BE T h p (r.headD 0)+D7 T (h+1) r
def Asked(T:TM)(y:yV):Prop:=∀x∈y,x∈0::T.co
structure OneTail(T:TM)(h:Nat)(x f:Int)(ps:yV):Prop where
 len:ps.length=T.ds.length-h
 val:f=D7 T h ps
 hd:ps.headD 0=x
 as:Asked T ps
 top:∀qs:yV,qs.length=T.ds.length-h->Asked T qs->qs.headD 0=x->D7 T h qs<=f
def EH(T:TM)(h:Nat)(x:Int):Prop:=if h=T.ds.length then x=0 else x∈0::T.co
structure DH(T:TM)(f:Int)(ps:yV):Prop where
 val:f=Dj T ps
 len:ps.length=T.ds.length
 as:Asked T ps
 top:∀qs:yV,qs.length=T.ds.length->Asked T qs->Dj T qs<=f
noncomputable abbrev CC(f:Int)(y:yV):yQ:= .tuple [.int f,AR y]
structure TailsAt(p:yR)(H:Hp)(T:TM)(h:Nat)(kvs:KL):Prop where
 one:∀q∈kvs,∃x f ps,q.1= .inl x/\Aa p H (CC f ps) q.2/\OneTail T h x f ps
 all:∀x,EH T h x->∃q∈kvs,q.1= .inl x
theorem TailsAt.same{H':Hp}{h:Nat}(t:TailsAt p H T h kvs)(s:Ab H H'):TailsAt p H' T h kvs:=
 ⟨λq B=>by
  obtain⟨x,f,y,e,r,o⟩:=t.one q B;exact⟨x,f,y,e,Aa.ev (Ev.same s) _ _ r,o⟩,t.all⟩
theorem Uw{k:As}{q:As×V}(h:q∈Ci ks k v):q∈ks\/q=(k,v):=by
 unfold Ci at h;split at h
 .obtain⟨y,h0,e⟩:=Zj.mp h;split at e
  .rename_i z;exact .inr (by rw[<-e,z])
  .exact .inl (by rw[<-e];exact h0)
 .rcases ZS.mp h with h | h
  .exact .inl h
  .exact .inr (Z3.mp h)
theorem Ux{k:As}:∃q∈Ci ks k v,q.1=k:=by
 unfold Ci;split
 .rename_i z;obtain⟨q,B,e⟩:=dJ.mp z;have y:q.1=k:=Z0 e;exact⟨_,Zj.mpr ⟨q,B,rfl⟩,by rw[YN y];exact y⟩
 .exact⟨(k,v),Z2 _ (Z3.mpr rfl),rfl⟩
theorem Uy{k:As}{q:As×V}(h:q∈ks):∃y∈Ci ks k v,y.1=q.1:=by
 unfold Ci;split
 .refine⟨_,Zj.mpr ⟨q,h,rfl⟩,?_⟩;split<;>rfl
 .exact⟨q,aI _ h,rfl⟩
theorem MQ{T:TM}{h:Nat}{y:yV}(B:y.length=T.ds.length-h)(D:Asked T y)(G:h<=T.ds.length):EH T h (y.headD 0):=by
 unfold EH;split
 .cases y with
  | nil=>rfl
  | cons a r=>rw[Zw]at B;omega
 .cases y with
  | nil=>rw[eG]at B;omega
  | cons a r=>exact D a YR
theorem Uz(r:Aa p H (CC 0 []) v):TailsAt p H T T.ds.length [(.inl 0,v)]:=by
 refine⟨λq G=>?_,λx y=>?_⟩
 .rw[Z3.mp G];refine⟨0,0,[],rfl,r,by simp,rfl,rfl,λ_ h=>(nomatch h),λB D _ _=>?_⟩;cases B with
  | nil=>exact Za _
  | cons a r=>simp at D
 .unfold EH at y;rw[YN rfl]at y;subst y;exact⟨_,Z3.mpr rfl,rfl⟩
theorem OneTail.step{n:Nat}(t:TailsAt p H T (n+1) kvs)(hn:n<T.ds.length){x b f:Int}{K:yV}(hx:x∈0::T.co)(o:OneTail T (n+1) b f K)
  (top:∀D J B,OneTail T (n+1) D J B->(∃q∈kvs,q.1= .inl D/\Aa p H (CC J B) q.2)->BE T n x D+J<=BE T n x b+f):OneTail T n x (BE T n x b+f) (x::K):=by
 refine⟨by rw[Zw,o.len];omega,?_,rfl,λy G=>?_,λqs Z ha hh=>?_⟩
 .show _=BE T n x (K.headD 0)+D7 T (n+1) K;rw[o.hd,o.val]
 .rcases YY.mp G with rfl | G
  .exact hx
  .exact o.as y G
 .cases qs with
  | nil=>rw[eG]at Z;omega
  | cons a r=>
   have ea:a=x:=hh;subst ea;have lr:r.length=T.ds.length-(n+1):=by rw[Zw]at Z;omega
   have ar:Asked T r:=λy G=>ha y (YQ _ G)
   obtain⟨q,hq,eq⟩:=t.all _ (MQ lr ar (by omega));obtain⟨D,J,B,e1,r1,o1⟩:=t.one q hq;rw[eq]at e1;have O:r.headD 0=D:=by injection e1
   subst O;have h1:=o1.top r lr ar rfl;have h2:=top _ J B o1 ⟨q,hq,eq,r1⟩;show BE T n a (r.headD 0)+D7 T (n+1) r<=_;omega
theorem UA{g:Nat->Int}:∀n,((List.range (n+1)).map g).sum=g 0+((List.range n).map λi=>g (i+1)).sum:=λn=>by
 rw[cJ,ZA,bF,ae];rfl
theorem MR(r:yV):r.headD 0=r.getD 0 0:=by cases r<;>rfl
theorem MS:∀(y:yV) (h:Nat),D7 T h y=((List.range y.length).map λi=>BE T (h+i) (y.getD i 0) (y.getD (i+1) 0)).sum
 | [],h=>rfl
 | p::r,h=>by
  show BE T h p (r.headD 0)+D7 T (h+1) r=_;rw[MS r (h+1),Zw,UA,MR];have e:(λi=>BE T (h+(i+1)) ((p::r).getD (i+1) 0) ((p::r).getD (i+1+1) 0))=(λi=>BE T (h+1+i) (r.getD i 0) (r.getD (i+1) 0)):=by
   funext i
   rw[show h+(i+1)=h+1+i by omega];rfl
  rw[e];rfl
theorem MT(y:yV):D7 T 0 y-y.headD 0 * T.st=Dj T y:=by
 rw[MS,MR];unfold Dj D6
 congr 3
 funext i
 rw[Nat.zero_add]
theorem UB(t:TailsAt p H T 0 kvs){x f:Int}{Z:yV}(o:OneTail T 0 x f Z)(top:∀B D y,OneTail T 0 B D y->(∃q∈kvs,q.1= .inl B/\Aa p H (CC D y) q.2)->D-B * T.st<=f-x * T.st):DH T (f-x * T.st) Z:=by
 refine⟨?_,by have:=o.len;omega,o.as,λO hl J=>?_⟩
 .rw[<-MT,<-o.val,o.hd]
 .obtain⟨q,hq,K⟩:=t.all _ (MQ (h:=0) (by omega) J (by omega));obtain⟨B,D,y,e1,r1,o1⟩:=t.one q hq;rw[K]at e1;have G:O.headD 0=B:=by injection e1
  subst G;have h1:=o1.top O (by omega) J rfl;have h2:=top _ D y o1 ⟨q,hq,K,r1⟩;rw[<-MT];omega
end MF
namespace MF
open L2
def Hf(p:yR)(H:Hp)(T:TM)(n:Nat)(g:Int->Int->Int)(hd:yV->yV)(B:As×V)(D:Int×List yQ):Prop:=∃b f y,B.1= .inl b/\Aa p H (CC f y) B.2/\OneTail T n b f y/\D=(g b f,[AR (hd y)])
theorem UC{n f l:Nat}(h:f<=l)(y:l<n):(f,l)∈BH n n:=by
 unfold BH;refine List.mem_flatten.mpr ⟨BY f (n-f),Zj.mpr ⟨f,Zr.mpr (by omega),rfl⟩,?_⟩;unfold BY;exact Zj.mpr ⟨l-f,Zr.mpr (by omega),by show(f,f+(l-f))=(f,l);rw[show f+(l-f)=l by omega]⟩
theorem no_str{T:TM}:AZ T=none↔ ∀f l,f<=l->l<T.ds.length->Bs T f l=false:=by
 unfold AZ;rw[List.head?_eq_none_iff];unfold D3;rw[cG];constructor
 .intro h f l B D;have:=h (f,l) (UC B D)
  simpa using this
 .intro h q J;obtain⟨G,y⟩:=Mu (Y5 _) q J;rw[h q.1 q.2 G y];exact YZ
theorem Jy:∀ {xs ys:yV},xs.length=ys.length->(∀i,xs.getD i 0<=ys.getD i 0)->xs.sum<=ys.sum
 | [],[],_,_=>Za _
 | [],_::_,h,_=>by simp at h
 | _::_,[],h,_=>by simp at h
 | x::xs,y::ys,h,g=>by
  have h0:x<=y:=g 0;have:=Jy (xs:=xs) (ys:=ys) (by simpa using h) λi=>g (i+1)
  rw[bF,bF];omega
theorem Hg{y:Type}{xs:List y}{k i:Nat}{x d:y}(B:k<xs.length):(xs.set k x).getD i d=if i=k then x else xs.getD i d:=by
 rw[Y3,List.getElem?_set,Y3]
 by_cases z:k=i
 .rw[YN z,YN (by omega),YN z.symm];rfl
 .rw[Y8 z,Y8 (λe=>z e.symm)]
def DI(x:Int):yV->Int
 | []=>x
 | y::ys=>if DI y ys<x then DI y ys else x
theorem MU(x:Int):∀ys,DI x ys∈x::ys
 | []=>YR
 | y::ys=>by
  unfold DI;split
  .exact YQ _ (MU y ys)
  .exact YR
theorem MV(x:Int):∀ys,∀a∈x::ys,DI x ys<=a
 | [],a,h=>by rw[Z3.mp h];exact Za _
 | y::ys,a,h=>by
  have l:=MV y ys;unfold DI;rcases YY.mp h with rfl | h
  .split<;>omega
  .have:=l a h;split<;>omega
noncomputable def D8(ms:yV)(hi:Int)(at' hour:Nat):Int:=
 match((ms.take hour).drop at').map (hi- ·) with
 | []=>hi-ms.getD hour 0
 | x::xs=>DI x xs
theorem MW{ms:yV}{hi:Int}{a B:Nat}(Z:B<ms.length)(G:∀k,a<=k->k<B->ms.getD k 0<hi)(O:ms.getD B 0<hi):0<D8 ms hi a B:=by
 unfold D8;cases e:((ms.take B).drop a).map (hi- ·) with
 | nil=>show 0<hi-ms.getD B 0;omega
 | cons x xs=>
  show 0<DI x xs;have m:=MU x xs;rw[<-e]at m;obtain⟨y,K,J⟩:=Zj.mp m;obtain⟨j,D⟩:=ZK K;rw[dZ,List.getElem?_take]at D;split at D
  .rename_i lt;have:=G (a+j) (by omega) lt;have g:ms.getD (a+j) 0=y:=by rw [Y3,D];rfl
   rw[g]at this;have e3:hi-y=DI x xs:=J;omega
  .cases D
structure Gr(T:TM)(f:yZ)(ms:yV):Prop where
 lf:f.length=T.ds.length
 row:∀i,i<f.length->(f.getD i []).length=T.co.length
 bd:∀i b,i<f.length->b<T.co.length->0<=(f.getD i []).getD b 0/\(f.getD i []).getD b 0<=(T.cs.getD i []).getD b 0
 lm:ms.length=T.ds.length
 ms:∀k,k<ms.length->ms.getD k 0=(if k=0 then T.st else ms.getD (k-1) 0)+(f.getD k []).sum-T.ds.getD k 0
def D9(T:TM)(f:yZ)(ms:yV)(y a b:Nat):Prop:=(f.getD a []).getD b 0<(T.cs.getD a []).getD b 0/\0<D8 ms T.hi a y
theorem UD{T:TM}(fl:A5 T){f:yZ}{ms:yV}(g:Gr T f ms){a:Nat}(y:a<f.length)(h:∀b,b<T.co.length->¬(f.getD a []).getD b 0<(T.cs.getD a []).getD b 0):(T.cs.getD a []).sum<=(f.getD a []).sum:=by
 have lc:(T.cs.getD a []).length=T.co.length:=(fl.c _ (X' (by rw[fl.ok.lc,<-g.lf];exact y))).1;refine Jy (by rw[lc,g.row a y]) λi=>?_
 by_cases hi:i<T.co.length
 .exact eN.mp (h i hi)
 .rw[Y3,ZT (by omega),Y3,ZT (by rw[g.row a y];omega)];exact Za _
theorem UE{T:TM}(fl:A5 T)(lh:T.lo<=T.hi)(no:AZ T=none){f:yZ}{ms:yV}(g:Gr T f ms){y:Nat}(O:y<ms.length)(i0:ms.getD y 0<T.lo):∃a b,a<=y/\b<T.co.length/\D9 T f ms y a b:=by
 apply Classical.byContradiction;intro none;have all:∀a,a<=y->(∀k,a<=k->k<y->ms.getD k 0<T.hi)->(T.cs.getD a []).sum<=(f.getD a []).sum:=λa ha B=>UD fl g (by rw[g.lf,<-g.lm];omega) λb hb lt=>none ⟨a,b,ha,hb,lt,MW O B (by omega)⟩
 have D:∀n,n<=y->(∀k,n<=k->k<y->ms.getD k 0<T.hi)->∃j,j<=y/\(∀k,j<=k->k<y->ms.getD k 0<T.hi)/\(if j=0 then T.st else T.hi)<=(if j=0 then T.st else ms.getD (j-1) 0):=λn=>by
  induction n with
  | zero=>intro _ B;exact⟨0,Z1 _,B,by rw[YN rfl,YN rfl];exact Za _⟩
  | succ n ih=>
   intro hn B
   by_cases c:ms.getD n 0<T.hi
   .refine ih (by omega) λk Z G=>?_
    by_cases e:k=n
    .rw[e];exact c
    .exact B k (by omega) G
   .exact⟨n+1,hn,B,by rw[Y8 (by omega),Y8 (by omega),cf];omega⟩
 obtain⟨j,J,B,hp⟩:=D y (Y5 _) (λk Z G=>by omega);have up:∀i,j+i<=y->Cp T j (i+1)<=ms.getD (j+i) 0:=λi=>by
  induction i with
  | zero=>
   intro hi;have e:=g.ms j (by omega);have fu:=all j J B;show Cp T j 0+(T.cs.getD (j+0) []).sum-T.ds.getD (j+0) 0<=ms.getD (j+0) 0;rw[Nat.add_zero,e];have t0:Cp T j 0=(if j=0 then T.st else T.hi):=rfl;omega
  | succ i ih=>
   intro hi;have e:=g.ms (j+(i+1)) (by omega);rw[Y8 (by omega),show j+(i+1)-1=j+i by omega]at e;have fu:=all (j+(i+1)) hi λk Z G=>B k (by omega) G
   have:=ih (by omega);show Cp T j (i+1)+(T.cs.getD (j+(i+1)) []).sum-T.ds.getD (j+(i+1)) 0<=_;rw[e];omega
 have top:=up (y-j) (by omega);rw[show j+(y-j)=y by omega]at top;have l1:y<T.ds.length:=by rw[<-g.lm];exact O
 have K:=(no_str.mp no) j y J l1;have te:=Jm fl.ok (f:=j) (y+1-j) (by omega);rw[show y-j+1=y+1-j by omega]at top;unfold Bs at K;have:=ZD K;unfold most Fb at this;unfold part at this;rw[te]at top;omega
def Ea(ms:yV)(a e:Nat)(m:Int):yV:=(List.range ms.length).map λk=>if a<=k/\k<e then ms.getD k 0+m else ms.getD k 0
theorem MX{ms:yV}{a e:Nat}{m:Int}:(Ea ms a e m).length=ms.length:=by unfold Ea;rw[Y2,cb]
theorem Eb{ms:yV}{a e:Nat}{m:Int}{k:Nat}(h:k<ms.length):(Ea ms a e m).getD k 0=if a<=k/\k<e then ms.getD k 0+m else ms.getD k 0:=by
 unfold Ea;rw[Y3,YU,bH h]
 rfl
theorem UF{r:yV}:∀ {k:Nat}{x:Int},k<r.length->(r.set k x).sum=r.sum+x-r.getD k 0:=by
 induction r with
 | nil=>intro k x h;exact absurd h (Zs _)
 | cons y r ih=>
  intro k x h;cases k with
  | zero=>show x+r.sum=y+r.sum+x-y;omega
  | succ k=>
   have:=ih (k:=k) (x:=x) (fK h);show y+(r.set k x).sum=y+r.sum+x-r.getD k 0;omega
noncomputable def Fm(f:yZ)(a b:Nat)(m:Int):yZ:=f.set a ((f.getD a []).set b ((f.getD a []).getD b 0+m))
theorem Gr.more{T:TM}{f:yZ}{ms:yV}(g:Gr T f ms){a b:Nat}{m:Int}(G:a<f.length)(O:b<T.co.length)(m0:0<=m)(m1:m<=(T.cs.getD a []).getD b 0-(f.getD a []).getD b 0):Gr T (Fm f a b m) (Ea ms a ms.length m):=by
 have Z:=g.row a G;have B:∀i,(Fm f a b m).getD i []=if i=a then(f.getD a []).set b ((f.getD a []).getD b 0+m) else f.getD i []:=λi=>Hg G
 have y:(Fm f a b m).length=f.length:=gc;refine⟨by rw[y];exact g.lf,λi hi=>?_,λi c hi hc=>?_,by rw[MX];exact g.lm,λk D=>?_⟩
 .rw[B];split
  .rw[gc];exact Z
  .exact g.row i (by rw[<-y];exact hi)
 .rw[B];split
  .rename_i e;subst e;rw [Hg (by rw [Z];exact O)];have o:=g.bd i c G hc;have ob:=g.bd i b G O;split
   .rename_i e;subst e;omega
   .exact o
  .exact g.bd i c (by rw[<-y];exact hi) hc
 .rw[MX]at D;have e:=g.ms k D;rw[Eb D,B];have sm:((f.getD a []).set b ((f.getD a []).getD b 0+m)).sum=(f.getD a []).sum+m:=by rw[UF (by rw[Z];exact O)];omega
  by_cases k0:k=0
  .subst k0;rw [YN rfl] at e ⊢
   by_cases J:0=a
   .rw[YN J,sm,YN ⟨by omega,D⟩,e,<-J];omega
   .rw[Y8 J,Y8 (by omega),e]
  .rw [Y8 k0] at e ⊢;rw [Eb (by omega:k-1<ms.length)]
   by_cases K:k=a
   .rw[YN K,sm,YN ⟨by omega,D⟩,Y8 (by omega),e,<-K];omega
   .rw [Y8 K]
    by_cases lt:a<=k
    .rw[YN ⟨lt,D⟩,YN ⟨by omega,by omega⟩,e];omega
    .rw[Y8 (by omega),Y8 (by omega),e]
noncomputable def B5(p f cap co:Int):Int:=if co<p then(p-co) *(cap-f) else(co-p) * f
theorem UG(p f cap co:Int):co * f-p * f-DE p (cap,co)=B5 p f cap co:=by
 unfold B5 DE;dsimp only
 by_cases c:co<p
 .rw[YN c,YN c,bS,dL,bS,bS,gH cap co,gH cap p];omega
 .rw[Y8 c,Y8 c,dL];omega
theorem MY{p f cap co:Int}(h0:0<=f)(y:f<=cap):0<=B5 p f cap co:=by
 unfold B5;split
 .exact av (by omega) (by omega)
 .exact av (by omega) h0
theorem gapB_zero{p f cap co:Int}:B5 p f cap co=0↔(co<p->f=cap)/\(p<co->f=0):=by
 unfold B5
 by_cases c:co<p
 .rw[YN c];refine⟨λh=>⟨λ_=>?_,λz=>by omega⟩,λh=>by rw[h.1 c,f7,bj]⟩;rcases dm.mp h with z | z<;>omega
 .rw[Y8 c];refine⟨λh=>⟨λz=>absurd z c,λz=>?_⟩,λh=>?_⟩
  .rcases dm.mp h with y | y
   .omega
   .exact y
  .by_cases e:p<co
   .rw[h.2 e,bj]
   .have:co-p=0:=by omega
    rw[this,gJ]
noncomputable def CO(p:Int):yV->yV->yV->Int
 | f::fs,c::cs,o::os=>B5 p f c o+CO p fs cs os
 | _,_,_=>0
noncomputable def BI:yV->yV->Int
 | f::fs,o::os=>o * f+BI fs os
 | _,_=>0
theorem MZ(p:Int):∀(fs cs os:yV),fs.length=os.length->cs.length=os.length->BI fs os-p * fs.sum-spared cs os p=CO p fs cs os
 | [],[],[],_,_=>by
  show(0:Int)-p * 0-0=0;rw[bj];rfl
 | f::fs,c::cs,o::os,h1,h2=>by
  have y:=MZ p fs cs os (f8 h1) (f8 h2);have e:=UG p f c o;show o * f+BI fs os-p *(f+fs.sum)-(DE p (c,o)+spared cs os p)=B5 p f c o+CO p fs cs os;rw[fL];omega
 | [],_::_,os,h1,h2=>by rw[<-h1]at h2;cases h2
 | _::_,[],os,h1,h2=>by rw[<-h2]at h1;cases h1
 | [],[],_::_,h1,_=>by cases h1
 | _::_,_::_,[],h1,_=>by cases h1
theorem Jz{p:Int}:∀ {fs cs os:yV},(∀b,b<os.length->0<=fs.getD b 0/\fs.getD b 0<=cs.getD b 0)->0<=CO p fs cs os
 | f::fs,c::cs,o::os,h=>by
  have h0:=h 0 (gK _);have B:=Jz (p:=p) (fs:=fs) (cs:=cs) (os:=os) λb y=>h (b+1) (f9 y)
  have:=MY (p:=p) (co:=o) h0.1 h0.2;show 0<=B5 p f c o+CO p fs cs os;have e:B5 p ((f::fs).getD 0 0) ((c::cs).getD 0 0) o=B5 p f c o:=rfl;omega
 | [],_,_,_=>Za _
 | _::_,[],_,_=>Za _
 | _::_,_::_,[],_=>Za _
theorem M0{p:Int}:∀ {fs cs os:yV},fs.length=os.length->cs.length=os.length->(∀b,b<os.length->0<=fs.getD b 0/\fs.getD b 0<=cs.getD b 0)->(CO p fs cs os=0↔ ∀b,b<os.length->B5 p (fs.getD b 0) (cs.getD b 0) (os.getD b 0)=0)
 | [],[],[],_,_,_=>⟨λ_ b y=>absurd y (Zs _),λ_=>rfl⟩
 | f::fs,c::cs,o::os,l1,l2,h=>by
  have h0:=h 0 (gK _);have D:∀b,b<os.length->0<=fs.getD b 0/\fs.getD b 0<=cs.getD b 0:=λb y=>h (b+1) (f9 y)
  have B:=M0 (p:=p) (f8 l1) (f8 l2) D;have K:0<=B5 p f c o:=MY h0.1 h0.2;have G:=Jz (p:=p) D;show B5 p f c o+CO p fs cs os=0↔_;refine⟨λz b y=>?_,λz=>?_⟩
  .cases b with
   | zero=>show B5 p f c o=0;omega
   | succ b=>exact B.mp (by omega) b (fK y)
  .have a:=z 0 (gK _);have J:B5 p f c o=0:=a;have:=B.mpr λb y=>z (b+1) (f9 y)
   omega
 | [],_::_,os,h1,h2,_=>by rw[<-h1]at h2;cases h2
 | _::_,[],os,h1,h2,_=>by rw[<-h2]at h1;cases h1
 | [],[],_::_,h1,_,_=>by cases h1
 | _::_,_::_,[],h1,_,_=>by cases h1
noncomputable def C8(lo hi p b m:Int):Int:=(p-b) *(m-(if b<p then lo else hi))
theorem UH(lo hi p b m:Int):(p-b) * m-D5 lo hi p b=C8 lo hi p b m:=by
 unfold C8 D5;rw[<-bS]
theorem UI{lo hi p b m:Int}(h0:lo<=m)(y:m<=hi):0<=C8 lo hi p b m:=by
 unfold C8;split
 .exact av (by omega) (by omega)
 .exact Int.mul_nonneg_of_nonpos_of_nonpos (by omega) (by omega)
theorem gapM_zero{lo hi p b m:Int}:C8 lo hi p b m=0↔(p<b->m=hi)/\(b<p->m=lo):=by
 unfold C8
 by_cases c:b<p
 .rw[YN c];refine⟨λh=>⟨λz=>by omega,λ_=>?_⟩,λh=>by rw[h.2 c,f7,bj]⟩;rcases dm.mp h with z | z<;>omega
 .rw[Y8 c];refine⟨λh=>⟨λz=>?_,λz=>absurd z c⟩,λh=>?_⟩
  .rcases dm.mp h with y | y<;>omega
  .by_cases e:p<b
   .rw[h.1 e,f7,bj]
   .have:p-b=0:=by omega
    rw[this,gJ]
noncomputable def EI(T:TM)(ns:yV)(F:yZ)(m bl:Nat->Int)(h:Nat):Int:=CO (ns.getD h 0) (F.getD h []) (T.cs.getD h []) T.co+C8 T.lo T.hi (ns.getD h 0) (ns.getD (h+1) 0) (m (h+1))+ns.getD h 0 * bl h
noncomputable def Ec(T:TM)(ns:yV)(F:yZ)(m bl:Nat->Int):Nat->Int
 | 0=>0
 | k+1=>Ec T ns F m bl k+EI T ns F m bl k
noncomputable def A9(T:TM)(F:yZ):Nat->Int
 | 0=>0
 | k+1=>A9 T F k+BI (F.getD k []) T.co
theorem M3{T:TM}{ns:yV}{F:yZ}{m bl:Nat->Int}{n:Nat}(lf:∀h,h<n->(F.getD h []).length=T.co.length)(lc:∀h,h<n->(T.cs.getD h []).length=T.co.length)
  (y:∀h,h<n->m (h+1)=m h+(F.getD h []).sum-T.ds.getD h 0-bl h):∀k,k<=n->A9 T F k-D6 T ns k=Ec T ns F m bl k+ns.getD k 0 * m k-ns.getD 0 0 * m 0
 | 0,_=>by
  show(0:Int)-0=0+ns.getD 0 0 * m 0-ns.getD 0 0 * m 0;omega
 | k+1,hk=>by
  have G:=M3 lf lc y k (by omega) (ns:=ns);have J:=MZ (ns.getD k 0) (F.getD k []) (T.cs.getD k []) T.co (lf k (by omega)) (lc k (by omega));have B:=UH T.lo T.hi (ns.getD k 0) (ns.getD (k+1) 0) (m (k+1));have b:=y k (by omega);rw[T0];show A9 T F k+BI (F.getD k []) T.co-(D6 T ns k+BE T k (ns.getD k 0) (ns.getD (k+1) 0))=Ec T ns F m bl k+EI T ns F m bl k+ns.getD (k+1) 0 * m (k+1)-ns.getD 0 0 * m 0;unfold BE EI;have D:ns.getD k 0 * m (k+1)=ns.getD k 0 * m k+ns.getD k 0 *(F.getD k []).sum-ns.getD k 0 * T.ds.getD k 0-ns.getD k 0 * bl k:=by rw[b,bS,bS,fL]
  rw[dL]at B;omega
theorem M4{T:TM}{ns:yV}{F:yZ}{m bl:Nat->Int}{n:Nat}(g:∀h,h<n->0<=EI T ns F m bl h):∀k,k<=n->0<=Ec T ns F m bl k
 | 0,_=>Za _
 | k+1,hk=>by
  have:=M4 g k (by omega);have:=g k (by omega);show 0<=Ec T ns F m bl k+EI T ns F m bl k;omega
structure GoodAt(P:PL)(S:SY)(F:yZ)(ns:yV)(h:Nat):Prop where
 b:∀b,b<P.bs.length->((P.bs.getD b (0,0)).2<ns.getD h 0->(F.getD h []).getD b 0=((caps P S).getD h []).getD b 0)/\(ns.getD h 0<(P.bs.getD b (0,0)).2->(F.getD h []).getD b 0=0)
 up:ns.getD h 0<ns.getD (h+1) 0->Bn P S F (h+1)=P.hi
 dn:ns.getD (h+1) 0<ns.getD h 0->Bn P S F (h+1)=P.lo
 bl:0<ns.getD h 0->E9 P.hi (BP P S F h)=0
section
variable{T:TM}{ps:yV}{h:Nat}
structure Opt(T:TM)(f:yZ)(ms:yV)(h:Nat)(ps:yV):Prop where
 len:ps.length=T.ds.length
 as:Asked T ps
 z:∀k,h<k->ps.getD k 0=0
 b:∀k b,k<T.ds.length->b<T.co.length->(T.co.getD b 0<ps.getD k 0->(f.getD k []).getD b 0=(T.cs.getD k []).getD b 0)/\(ps.getD k 0<T.co.getD b 0->(f.getD k []).getD b 0=0)
 up:∀k,k<h->ps.getD k 0<ps.getD (k+1) 0->ms.getD k 0=T.hi
 dn:∀k,k<h->ps.getD (k+1) 0<ps.getD k 0->ms.getD k 0=T.lo
 hi:∀k,k<T.ds.length->ms.getD k 0<=T.hi
 mon:∀k,h<=k->k+1<T.ds.length->ms.getD (k+1) 0<=ms.getD k 0
theorem M5{l:yV}{k:Nat}(h:l.length<=k):l.getD k 0=0:=by rw[Y3,ZT h];rfl
theorem Asked.pos(fl:A5 T){y:yV}(a:Asked T y)(k:Nat):0<=y.getD k 0:=by
 by_cases h:k<y.length
 .rcases YY.mp (a _ (X' (d:=0) h)) with e | e
  .omega
  .have:=fl.o1 _ e;omega
 .rw[M5 (by omega)];exact Za _
theorem JA(ms:yV)(hi:Int):∀h,∃r,r<=h/\(∀j,r<=j->j<h->ms.getD j 0<hi)/\(r=0\/hi<=ms.getD (r-1) 0)
 | 0=>⟨0,Y5 _,λj _ B=>absurd B (Zs _),.inl rfl⟩
 | h+1=>by
  by_cases c:ms.getD h 0<hi
  .obtain⟨r,G,y,D⟩:=JA ms hi h;refine⟨r,by omega,λj a b=>?_,D⟩
   by_cases e:j=h
   .subst e;exact c
   .exact y j a (by omega)
  .exact⟨h+1,Y5 _,λj a b=>by omega,.inr (by rw[cf];omega)⟩
theorem M6{ms:yV}{hi:Int}{a h j:Nat}(B:h<=ms.length)(D:a<=j)(y:j<h):D8 ms hi a h<=hi-ms.getD j 0:=by
 have m:hi-ms.getD j 0∈((ms.take h).drop a).map (hi- ·):=by
  refine Zj.mpr ⟨ms.getD j 0,?_,rfl⟩;refine YW (i:=j-a) ?_;rw[dZ,show a+(j-a)=j by omega,List.getElem?_take,YN y,Y3,Y6 (by omega)];rfl
 unfold D8;cases e:((ms.take h).drop a).map (hi- ·) with
 | nil=>rw[e]at m;cases m
 | cons x xs=>rw[e]at m;exact MV x xs _ m
theorem Opt.next(fl:A5 T){f:yZ}{ms:yV}{h:Nat}{B:yV}(o:Opt T f ms h B)(l1:T.lo<=ms.getD h 0)(l2:0<B.getD h 0->ms.getD h 0<=T.lo):Opt T f ms (h+1) B:=by
 have D:=o.z (h+1) (by omega);refine⟨o.len,o.as,λk y=>o.z k (by omega),o.b,λk y c=>?_,λk y c=>?_,o.hi,λk y=>o.mon k (by omega)⟩
 .by_cases e:k=h
  .subst e;have:=o.as.pos fl k;omega
  .exact o.up k (by omega) c
 .by_cases e:k=h
  .subst e;have:=l2 (by omega);omega
  .exact o.dn k (by omega) c
def EJ(y:yV)(r h:Nat)(c:Int):yV:=(List.range y.length).map λk=>if r<=k/\k<=h then max (y.getD k 0) c else y.getD k 0
theorem M7{r:Nat}{c:Int}:(EJ ps r h c).length=ps.length:=by unfold EJ;rw[Y2,cb]
theorem UJ{r:Nat}{c:Int}{k:Nat}(y:k<ps.length):(EJ ps r h c).getD k 0=if r<=k/\k<=h then max (ps.getD k 0) c else ps.getD k 0:=by
 unfold EJ;rw[Y3,YU,bH y];rfl
theorem Opt.step(fl:A5 T)(lh:T.lo<=T.hi){f:yZ}{ms:yV}{h:Nat}{J:yV}(o:Opt T f ms h J)(g:Gr T f ms)(hh:h<T.ds.length){a b:Nat}{m:Int}(ha:a<=h)(hb:b<T.co.length)(i9:D9 T f ms h a b)
  (i0:∀a' y,a'<=h->y<T.co.length->D9 T f ms h a' y->T.co.getD b 0<=T.co.getD y 0) (m0:0<m) (m1:m<=T.lo-ms.getD h 0) (m2:m<=(T.cs.getD a []).getD b 0-(f.getD a []).getD b 0) (m3:m<=D8 ms T.hi a h):
  ∃i6,Opt T (Fm f a b m) (Ea ms a ms.length m) h i6:=by
 have lm:=g.lm;have lf:=g.lf;have lo:=o.len;obtain⟨r,rh,i5,O⟩:=JA ms T.hi h;have ra:r<=a:=by
  rcases O with e | e
  .omega
  .refine gi.mp λlt=>?_
   have:=M6 (ms:=ms) (hi:=T.hi) (a:=a) (h:=h) (j:=r-1) (by omega) (by omega) (by omega);omega
 have c0:1<=T.co.getD b 0:=(fl.o1 _ (X' hb)).1;have K:∀k,r<=k->k<h->J.getD (k+1) 0<=J.getD k 0:=λk h1 h2=>by
  refine eN.mp λlt=>?_
  have:=o.up k h2 lt;have:=i5 k h1 h2;omega
 have i4:∀d k,r<=k->k+d<=h->J.getD (k+d) 0<=J.getD k 0:=λd=>by
  induction d with
  | zero=>intro k _ _;exact Za _
  | succ d ih=>
   intro k h1 h2;have:=ih k h1 (by omega);have:=K (k+d) (by omega) (by omega);rw[<-Nat.add_assoc];omega
 have pa:J.getD a 0<=T.co.getD b 0:=by
  refine eN.mp λlt=>?_
  have:=(o.b a b (by omega) hb).1 lt;have:=i9.1;omega
 have pk:∀k,a<=k->k<=h->J.getD k 0<=T.co.getD b 0:=λk h1 h2=>by
  have:=i4 (k-a) a ra (by omega);rw[show a+(k-a)=k by omega]at this;omega
 have i8:∀i,(Fm f a b m).getD i []=if i=a then(f.getD a []).set b ((f.getD a []).getD b 0+m) else f.getD i []:=λi=>Hg (by omega)
 have D:∀k c,(k≠a\/c≠b)->((Fm f a b m).getD k []).getD c 0=(f.getD k []).getD c 0:=λk c hn=>by
  rw[i8];split
  .rename_i e;subst e;rw[Hg (by rw[g.row k (by omega)];exact hb),Y8 (by
    intro z;rcases hn with hn | hn
    .exact hn rfl
    .exact hn z)]
  .rfl
 have G:∀k,k<a->(Ea ms a ms.length m).getD k 0=ms.getD k 0:=λk B=>by
  rw[Eb (by omega),Y8 (by omega)]
 have q:∀k,k<T.ds.length->(EJ J r h (T.co.getD b 0)).getD k 0=if r<=k/\k<=h then max (J.getD k 0) (T.co.getD b 0) else J.getD k 0:=λk B=>UJ (by omega)
 refine⟨EJ J r h (T.co.getD b 0),by rw[M7];exact lo,λx hx=>?_,λk B=>?_,λk y B Z=>?_,λk B c=>?_,λk B c=>?_,λk B=>?_,λk B i7=>?_⟩
 .unfold EJ at hx;obtain⟨k,B,rfl⟩:=Zj.mp hx;have j0:=Zr.mp B;have a1:=o.as _ (X' (l:=J) (d:=0) j0);have a2:T.co.getD b 0∈0::T.co:=YQ _ (X' hb);split
  .rcases Int.le_total (J.getD k 0) (T.co.getD b 0) with z | z
   .rw[Int.max_eq_right z];exact a2
   .rw[Int.max_eq_left z];exact a1
  .exact a1
 .by_cases e:k<T.ds.length
  .rw[q k e,Y8 (by omega)];exact o.z k B
  .exact M5 (by rw[M7];omega)
 .have ob:=o.b k y B Z;rw[q k B]
  by_cases inr:r<=k/\k<=h
  .rw [YN inr];refine⟨λlt=>?_,λlt=>?_⟩
   .have ne:k≠a\/y≠b:=by
     by_cases e1:k=a
     .by_cases e2:y=b
      .subst e1 e2;omega
      .exact .inr e2
     .exact .inl e1
    rw[D k y ne]
    by_cases c:T.co.getD y 0<J.getD k 0
    .exact ob.1 c
    .have j3:T.co.getD y 0<T.co.getD b 0:=by omega
     have bd:=g.bd k y (by omega) Z;have nm:¬D9 T f ms h k y:=λmm=>by
      have:=i0 k y inr.2 Z mm;omega
     have rp:0<D8 ms T.hi k h:=MW (by omega) (λj j1 j2=>i5 j (by omega) j2) (by omega);have:¬(f.getD k []).getD y 0<(T.cs.getD k []).getD y 0:=λz=>nm ⟨z,rp⟩
     omega
   .have ne:k≠a\/y≠b:=by
     by_cases e2:y=b
     .subst e2;omega
     .exact .inr e2
    rw[D k y ne];exact ob.2 (by omega)
  .rw[Y8 inr];rw[D k y (.inl (by omega))];exact ob
 .rw[q k (by omega),q (k+1) (by omega)]at c
  by_cases k1:r<=k
  .rw[YN ⟨k1,by omega⟩,YN ⟨by omega,by omega⟩]at c;have:=K k k1 B;omega
  .rw [G k (by omega)];rw [Y8 (by omega)] at c
   by_cases k2:r<=k+1
   .have er:r-1=k:=by omega
    rcases O with e | e
    .omega
    .rw[er]at e;have:=o.hi k (by omega);omega
   .rw[Y8 (by omega)]at c;exact o.up k B c
 .rw[q k (by omega),q (k+1) (by omega)]at c
  by_cases k1:r<=k
  .rw[YN (show r<=k+1/\k+1<=h by omega),YN (show r<=k/\k<=h by omega)]at c;have lt:k<a:=Nat.not_le.mp λz=>by
    have:=pk k z (by omega);omega
   rw[G k lt];exact o.dn k B (by omega)
  .rw [G k (by omega)];rw [Y8 (show ¬(r<=k/\k<=h) by omega)] at c
   by_cases k2:r<=k+1
   .rw[YN ⟨k2,by omega⟩]at c;exact o.dn k B (by omega)
   .rw[Y8 (by omega)]at c;exact o.dn k B c
 .rw[Eb (by omega)];split
  .rename_i hc
   by_cases e:k<h
   .have:=M6 (ms:=ms) (hi:=T.hi) (a:=a) (h:=h) (j:=k) (by omega) hc.1 e;omega
   .have mono:∀d,h+d<T.ds.length->ms.getD (h+d) 0<=ms.getD h 0:=λd=>by
     induction d with
     | zero=>intro _;exact Za _
     | succ d ih=>
      intro hd;have:=ih (by omega);have:=o.mon (h+d) (by omega) (by omega);rw[<-Nat.add_assoc];omega
    have:=mono (k-h) (by omega);rw[show h+(k-h)=k by omega]at this;omega
  .exact o.hi k B
 .rw[Eb (by omega),Eb (by omega),YN ⟨by omega,by omega⟩,YN ⟨by omega,by omega⟩];have:=o.mon k B i7;omega
end
def mx(a b:Int):Int:=if a<b then b else a
noncomputable def M8(T:TM):Nat->Int
 | 0=>T.lo
 | j+1=>mx T.lo (M8 T j+T.ds.getD (T.ds.length-1-j) 0-(T.cs.getD (T.ds.length-1-j) []).sum)
noncomputable def lz(T:TM)(j:Nat):Int:=M8 T (T.ds.length-j)
theorem M9{T:TM}:lz T T.ds.length=T.lo:=by unfold lz;rw[fc];rfl
theorem Hh{T:TM}{j:Nat}(h:j<T.ds.length):lz T j=mx T.lo (lz T (j+1)+T.ds.getD j 0-(T.cs.getD j []).sum):=by
 unfold lz;rw[show T.ds.length-j=(T.ds.length-(j+1))+1 from by omega];show mx T.lo _=_;rw[show T.ds.length-1-(T.ds.length-(j+1))=j from by omega]
theorem UK{a b:Int}:a<=mx a b:=by unfold mx;split<;>omega
theorem Na{a b:Int}:b<=mx a b:=by unfold mx;split<;>omega
theorem Nb{a b c:Int}(B:a<=c)(y:b<=c):mx a b<=c:=by unfold mx;split<;>omega
theorem UL{T:TM}:∀ {j:Nat},T.lo<=lz T j:=by
 intro j;unfold lz;cases T.ds.length-j with
 | zero=>exact Za _
 | succ k=>exact UK
theorem Nc{l:yV}{k:Nat}(h:l.length<=k):l.getD k 0=0:=by rw[Y3,ZT h];rfl
section
variable{t amt:List (Int × Int)}{j v:Int}{L:Int × Int -> Prop}{i:Nat}{a:Int × Int}
noncomputable def AW(t:List (Int×Int))(k:Int):Option Int:=(t.find? λq=>decide (q.1=k)).map (·.2)
noncomputable def CD(t:List (Int×Int))(k v:Int):List (Int×Int):=if (t.any λq=>decide (q.1=k))=true then t.map (λq=>if q.1=k then(q.1,v) else q) else t++[(k,v)]
noncomputable def Hi(t:List (Int×Int))(k v:Int):List (Int×Int):=CD t k (min v ((AW t k).getD v))
theorem CP{p:Int×Int}{r:List (Int×Int)}{k:Int}(e:p.1=k):AW (p::r) k=some p.2:=by simp[AW,bP,e]
theorem C9{p:Int×Int}{r:List (Int×Int)}{k:Int}(e:¬p.1=k):AW (p::r) k=AW r k:=by simp[AW,bP,e]
theorem EK{k w:Int}:AW t k=some w->(k,w)∈t:=by
 induction t with
 | nil=>intro h;cases h
 | cons p r ih=>
  intro h
  by_cases e:p.1=k
  .rw[CP e]at h;cases h;rw[<-e];exact YR
  .rw[C9 e]at h;exact YQ _ (ih h)
theorem Nd{k:Int}:(t.any λq=>decide (q.1=k))=(AW t k).isSome:=by
 induction t with
 | nil=>rfl
 | cons p r ih=>
  rw[aO]
  by_cases e:p.1=k
  .rw[CP e,Z9 e];rfl
  .rw[C9 e,Zh e,gq];exact ih
theorem UM{k:Int}:AW (t.map λq=>if q.1=k then(q.1,v) else q) j=(AW t j).map λx=>if j=k then v else x:=by
 induction t with
 | nil=>rfl
 | cons p r ih=>
  rw[ZA]
  by_cases h:p.1=k
  .rw [YN h]
   by_cases e:p.1=j
   .rw[CP (p:=(p.1,v)) e,CP e,dq,YN (e.symm.trans h)]
   .rw[C9 (p:=(p.1,v)) e,C9 e,ih]
  .rw [Y8 h]
   by_cases e:p.1=j
   .rw[CP (p:=p) e,CP e,dq,Y8 (λz=>h (e.trans z))]
   .rw[C9 (p:=p) e,C9 e,ih]
theorem JB{k:Int}:AW t k=none->AW (t++[(k,v)]) j=if j=k then some v else AW t j:=by
 induction t with
 | nil=>
  intro _
  by_cases e:k=j
  .rw[YN e.symm];exact CP (p:=(k,v)) e
  .rw[Y8 (λz=>e z.symm)];exact C9 (p:=(k,v)) e
 | cons p r ih=>
  intro y;rw[fJ];have B:¬p.1=k:=λz=>by rw[CP z]at y;cases y
  rw[C9 B]at y
  by_cases e:p.1=j
  .rw[CP e,CP e,Y8 (λz=>B (e.trans z))]
  .rw[C9 e,C9 e,ih y]
theorem UN{k:Int}:AW (CD t k v) j=if j=k then some v else AW t j:=by
 unfold CD
 by_cases a:(t.any λq=>decide (q.1=k))=true
 .rw[YN a,UM];rw[Nd]at a
  by_cases e:j=k
  .obtain⟨x,y⟩:=aw.mp a;rw[YN e,e,y,dq,YN rfl]
  .rw [Y8 e];cases AW t j with
   | none=>rfl
   | some x=>rw[dq,Y8 e]
 .rw[Y8 a];refine JB ?_;rw[Nd]at a;cases q:AW t k with
  | none=>rfl
  | some x=>rw[q]at a;exact(a rfl).elim
theorem UO{k:Int}:(CD t k v).map (·.1)=if (t.any λq=>decide (q.1=k))=true then t.map (·.1) else t.map (·.1)++[k]:=by
 unfold CD
 by_cases a:(t.any λq=>decide (q.1=k))=true
 .rw[YN a,YN a,ae];refine dH λq _=>?_
  show(if q.1=k then(q.1,v) else q).1=q.1;split<;>rfl
 .rw[Y8 a,Y8 a,YS];rfl
theorem UP{k:Int}{q:Int×Int}(h:q∈CD t k v):q=(k,v)\/q∈t:=by
 unfold CD at h;split at h
 .obtain⟨p,y,e⟩:=Zj.mp h;split at e
  .rename_i z;rw[<-e,z];exact .inl rfl
  .rw[<-e];exact .inr y
 .rcases ZS.mp h with h | h
  .exact .inr h
  .exact .inl (Z3.mp h)
structure Mn(L:Int×Int->Prop)(t:List (Int×Int)):Prop where
 snd:∀q∈t,L q
 cmp:∀q,L q->∃w,AW t q.1=some w/\w<=q.2
 nd:(t.map (·.1)).Nodup
theorem Mn.nil(h:∀q,¬L q):Mn L []:=⟨λq z=>(by cases z),λq z=>(h q z).elim,List.nodup_nil⟩
theorem Mn.one{k:Int}(h:∀q,L q↔q=(k,v)):Mn L [(k,v)]:=⟨λq z=>(h q).mpr (Z3.mp z),λq z=>by rw[(h q).mp z];exact⟨v,CP rfl,Za _⟩,by simp⟩
theorem Mn.congr{y:Int×Int->Prop}(m:Mn L t)(h:∀q,L q↔y q):Mn y t:=⟨λq z=>(h q).mp (m.snd q z),λq z=>m.cmp q ((h q).mpr z),m.nd⟩
theorem Mn.put(m:Mn L t)(k v:Int):Mn (λq=>L q\/q=(k,v)) (Hi t k v):=by
 unfold Hi;have D:L (k,min v ((AW t k).getD v))\/min v ((AW t k).getD v)=v:=by
  cases e:AW t k with
  | none=>exact .inr (by show min v v=v;omega)
  | some x=>
   show L (k,min v x)\/min v x=v
   by_cases c:v<=x
   .exact .inr (by omega)
   .rw[show min v x=x by omega];exact .inl (m.snd _ (EK e))
 refine⟨λq B=>?_,λq B=>?_,?_⟩
 .rcases UP B with e | h
  .rw [e];rcases D with h | h
   .exact .inl h
   .rw[h];exact .inr rfl
  .exact .inl (m.snd q h)
 .rw[UN]
  by_cases e:q.1=k
  .rw [YN e];refine⟨_,rfl,?_⟩;rcases B with h | h
   .obtain⟨w,G,le⟩:=m.cmp q h;rw[<-e,G];show min v w<=q.2;omega
   .rw[h];show min v _<=v;omega
  .rw [Y8 e];rcases B with h | h
   .exact m.cmp q h
   .rw[h]at e;exact(e rfl).elim
 .rw[UO];split
  .exact m.nd
  .rename_i a;refine List.nodup_append.mpr ⟨m.nd,by simp,λx J y D e=>?_⟩;rw[Z3.mp D]at e;subst e;obtain⟨q,B,rfl⟩:=Zj.mp J;exact a (dJ.mpr ⟨q,B,Z9 rfl⟩)
theorem Nf:∀(B:Nat) (l:yV),l.Nodup->(∀x∈l,0<=x/\x<B)->l.length<=B
 | 0,l,_,h=>by
  cases l with
  | nil=>exact Y5 _
  | cons x _=>have:=h x YR;omega
 | B+1,l,nd,h=>by
  have O:=Nf B (l.filter λx=>decide (x≠B)) (nd.filter _) λx D=>by
   have a:=h x (cg.mp D).1;have b:=Z0 (cg.mp D).2;omega
  have one:∀l:yV,l.Nodup->l.length<=(l.filter λx=>decide (x≠(B:Int))).length+1:=by
   intro l
   induction l with
   | nil=>intro _;exact Z1 _
   | cons x r ihr=>
    intro nd;obtain⟨G,J⟩:=eJ.mp nd
    by_cases e:x=B
    .have:r.filter (λx=>decide (x≠(B:Int)))=r:=List.filter_eq_self.mpr λy K=>Z9 λz=>G (by rw [e,<-z];exact K)
     rw[c9 (by simpa using e),this];exact Y5 _
    .rw[bz (by simpa using e)];have:=ihr J;simp only[Zw];omega
  have:=one l nd;omega
theorem Mn.len(m:Mn L t)(b:∀q,L q->0<=q.1/\q.1<=100):t.length<=101:=by
 have:=Nf 101 (t.map (·.1)) m.nd λx B=>by
  obtain⟨q,y,rfl⟩:=Zj.mp B;have:=b q (m.snd q y);show 0<=q.1/\q.1<101;omega
 rwa [Y2]at this
def LsL(lo hi d:Int)(got B:List (Int×Int))(i j:Nat)(q:Int×Int):Prop:=∃(y D:Nat) (g a:Int×Int),got[y]? =some g/\B[D]? =some a/\lo<=min hi (g.1+a.1-d)/\q=(min hi (g.1+a.1-d),g.2+a.2)/\(y<i\/y=i/\D<j)
theorem LsL.zero{lo hi d:Int}{got:List (Int×Int)}(q:Int×Int):¬LsL lo hi d got amt 0 0 q:=by rintro⟨_,_,_,_,_,_,_,_,h⟩;omega
theorem LsL.step{lo hi d:Int}{got:List (Int×Int)}{j:Nat}{g:Int×Int}(y:got[i]? =some g)(B:amt[j]? =some a)(le:lo<=min hi (g.1+a.1-d))(q:Int×Int):LsL lo hi d got amt i j q\/q=(min hi (g.1+a.1-d),g.2+a.2) ↔LsL lo hi d got amt i (j+1) q:=by
 constructor
 .rintro(⟨i',j',g',a',h1,h2,h3,h4,h5⟩ | h)
  .exact⟨i',j',g',a',h1,h2,h3,h4,by omega⟩
  .exact⟨i,j,g,a,y,B,le,h,by omega⟩
 .rintro⟨i',j',g',a',h1,h2,h3,h4,h5⟩
  by_cases c:i'=i/\j'=j
  .obtain⟨rfl,rfl⟩:=c;rw[y]at h1;cases h1;rw[B]at h2;cases h2;exact .inr h4
  .exact .inl ⟨i',j',g',a',h1,h2,h3,h4,by omega⟩
theorem LsL.skip{lo hi d:Int}{got:List (Int×Int)}{j:Nat}{g:Int×Int}(y:got[i]? =some g)(B:amt[j]? =some a)(le:¬lo<=min hi (g.1+a.1-d))(q:Int×Int):LsL lo hi d got amt i j q↔LsL lo hi d got amt i (j+1) q:=by
 constructor
 .rintro⟨i',j',g',a',h1,h2,h3,h4,h5⟩;exact⟨i',j',g',a',h1,h2,h3,h4,by omega⟩
 .rintro⟨i',j',g',a',h1,h2,h3,h4,h5⟩
  by_cases c:i'=i/\j'=j
  .obtain⟨rfl,rfl⟩:=c;rw[y]at h1;cases h1;rw[B]at h2;cases h2;exact(le h3).elim
  .exact⟨i',j',g',a',h1,h2,h3,h4,by omega⟩
theorem LsL.turn{lo hi d:Int}{got:List (Int×Int)}(q:Int×Int):LsL lo hi d got amt i amt.length q↔LsL lo hi d got amt (i+1) 0 q:=by
 constructor
 .rintro⟨i',j',g,a,h1,h2,h3,h4,h5⟩;exact⟨i',j',g,a,h1,h2,h3,h4,by omega⟩
 .rintro⟨i',j',g,a,h1,h2,h3,h4,h5⟩;have:=(Y9.mp h2).1;exact⟨i',j',g,a,h1,h2,h3,h4,by omega⟩
theorem UQ{F:yZ}{j:Nat}{r:yV}(h:j≠i):made (F.set i r) j=made F j:=by
 unfold made;rw[Y3,Y3,aJ (λz=>h z.symm)]
theorem UR{P:PL}{S:SY}{F:yZ}{i:Nat}{r:yV}:∀j,j<=i->Bn P S (F.set i r) j=Bn P S F j
 | 0,_=>rfl
 | j+1,h=>by
  have y:=UR j (by omega) (P:=P) (S:=S) (F:=F) (i:=i) (r:=r);rw[FQ,FQ];have:BP P S (F.set i r) j=BP P S F j:=by unfold BP;rw[y,UQ (by omega)]
  rw[this]
theorem Ng{T:TM}{F:yZ}{i:Nat}{r:yV}:∀j,j<=i->A9 T (F.set i r) j=A9 T F j
 | 0,_=>rfl
 | j+1,h=>by
  have y:=Ng j (by omega) (T:=T) (F:=F) (i:=i) (r:=r);show A9 T (F.set i r) j+BI ((F.set i r).getD j []) T.co=A9 T F j+BI (F.getD j []) T.co;rw[y,Y3,aJ (by omega),<-Y3]
end
section
variable{α:Type}{xs:List α}{T:TM}
theorem Nh{f l:Nat}(h:f<=l)(y:l<xs.length):part xs f l=xs[f]'(by omega)::part xs (f+1) l:=by
 unfold part;rw[bV (show f<xs.length by omega),show l+1-f=(l+1-(f+1))+1 from by omega,List.take_succ_cons]
theorem Ni{f:Nat}:part xs (f+1) f=[]:=by unfold part;simp
noncomputable def sm(T:TM)(f l:Nat):Int:=Fb T f l-most T f l
theorem Hj{T:TM}(lc:T.cs.length=T.ds.length){f l:Nat}(h:f<=l)(y:l<T.ds.length):sm T f l=T.ds.getD f 0-(T.cs.getD f []).sum+sm T (f+1) l:=by
 unfold sm Fb most;rw[Nh h y,Nh h (by omega:l<T.cs.length),ZA,bF,bF];rw[Y3,Y6 (by omega),Y3,Y6 (by omega)];show _-_=T.ds[f]'(by omega)-(T.cs[f]'(by omega)).sum+_;omega
theorem Nj{f:Nat}:sm T (f+1) f=0:=by unfold sm Fb most;rw[Ni,Ni];rfl
theorem US(lc:T.cs.length=T.ds.length):∀k f,f+k<T.ds.length->T.lo+sm T f (f+k)<=lz T f:=by
 intro k
 induction k with
 | zero=>
  intro f h;show T.lo+sm T f f<=_;rw[Hj (f:=f) (l:=f) lc (Y5 _) h,Nj,Hh (by omega)];have:=UL (T:=T) (j:=f+1);refine ay ?_ Na;omega
 | succ k ih=>
  intro f h;rw[Hj lc (by omega) h,Hh (by omega)];have:=ih (f+1) (by omega);rw[show f+1+k=f+(k+1) from by omega]at this;refine ay ?_ Na;omega
theorem Nk(lc:T.cs.length=T.ds.length):∀k f (X:Int),f+k=T.ds.length->T.lo<=X->(∀l,f<=l->l<T.ds.length->T.lo+sm T f l<=X)->lz T f<=X:=by
 intro k
 induction k with
 | zero=>intro f X e h _;rw[show f=T.ds.length from by omega,M9];exact h
 | succ k ih=>
  intro f X e h B;rw[Hh (by omega)];refine Nb h ?_;have h0:=B f (Y5 _) (by omega);rw[Hj lc (Y5 _) (by omega),Nj]at h0;have:=ih (f+1) (X-T.ds.getD f 0+(T.cs.getD f []).sum) (by omega) (by omega) λl D y=>by
   have:=B l (by omega) y;rw[Hj lc (by omega) y]at this;omega
  omega
theorem UT(lc:T.cs.length=T.ds.length)(J:T.lo<=T.st)(G:T.lo<=T.hi):AZ T=none↔lz T 0<=T.st/\∀j,1<=j->j<=T.ds.length->lz T j<=T.hi:=by
 rw[no_str];have D:∀f l,Bs T f l=false↔T.lo+sm T f l<=(if f=0 then T.st else T.hi):=λf l=>by
  unfold Bs sm;rw[fj];omega
 constructor
 .intro h;refine⟨Nk lc T.ds.length 0 _ (by omega) J λl _ y=>?_,λj K O=>Nk lc (T.ds.length-j) j _ (by omega) G λl B y=>?_⟩
  .have:=(D 0 l).mp (h 0 l (by omega) y);rw[YN rfl]at this;exact this
  .have:=(D j l).mp (h j l B y);rw[Y8 (by omega)]at this;exact this
 .intro⟨a,b⟩ f l hf y;refine(D f l).mpr ?_;have g:=US lc (l-f) f (by omega);rw[show f+(l-f)=l from by omega]at g
  by_cases e:f=0
  .rw[YN e];subst e;omega
  .rw[Y8 e];have:=b f (by omega) (by omega);omega
noncomputable def xM(hi st:Int)(b d x:Nat->Int):Nat->Int
 | 0=>st
 | j+1=>min hi (xM hi st b d x j+(b j+x j)-d j)
def Nl(lo hi st:Int)(b d sp x:Nat->Int)(j:Nat):Prop:=∀i,i<j->0<=x i/\x i<=sp i/\lo<=xM hi st b d x (i+1)
noncomputable def Fo(t:List (Int×Int))(k v:Int):List (Int×Int):=if v<(AW t k).getD 1000000000 then CD t k v else t
theorem Mn.less{L:Int×Int->Prop}{t:List (Int×Int)}(m:Mn L t)(k v:Int)(B:v<1000000000):Mn (λq=>L q\/q=(k,v)) (Fo t k v):=by
 unfold Fo;split
 .rename_i c;have e:Hi t k v=CD t k v:=by
   unfold Hi;cases z:AW t k with
   | none=>show CD t k (min v v)=_;rw[show min v v=v from by omega]
   | some x=>rw[z]at c;show CD t k (min v x)=_;rw[show min v x=v from by have:v<x:=c;omega]
  rw[<-e];exact m.put k v
 .rename_i c;refine⟨λq y=> .inl (m.snd q y),λq y=>?_,m.nd⟩;rcases y with h | h
  .exact m.cmp q h
  .subst h;cases z:AW t k with
   | none=>rw[z]at c;exact absurd B c
   | some x=>rw[z]at c;exact⟨x,rfl,by have:¬v<x:=c;show x<=v;omega⟩
abbrev dT(T:TM)(j:Nat):Int:=T.ds.getD j 0
structure Nm(T:TM)(b sp:Nat->Int):Prop where
 sum:∀j,j<T.ds.length->b j+sp j=(T.cs.getD j []).sum
 pos:∀j,j<T.ds.length->0<=sp j
theorem UU{b sp x:Nat->Int}(s:Nm T b sp)(y:T.lo<=T.st)(ok:Nl T.lo T.hi T.st b (dT T) sp x T.ds.length):∀k j,j+k=T.ds.length->lz T j<=xM T.hi T.st b (dT T) x j:=by
 have lo:∀j,j<=T.ds.length->T.lo<=xM T.hi T.st b (dT T) x j:=λj D=>by
  cases j with
  | zero=>exact y
  | succ j=>exact(ok j (by omega)).2.2
 intro k
 induction k with
 | zero=>intro j e;rw[show j=T.ds.length from by omega,M9];exact lo _ (Y5 _)
 | succ k ih=>
  intro j e;have h:=ih (j+1) (by omega);rw[Hh (by omega)];refine Nb (lo j (by omega)) ?_;have G:=s.sum j (by omega);have J:=ok j (by omega);have B:xM T.hi T.st b (dT T) x (j+1)=min T.hi (xM T.hi T.st b (dT T) x j+(b j+x j)-T.ds.getD j 0):=rfl;rw[B]at h;omega
end
variable{T:TM}{F:yZ}{h:Nat}
noncomputable def mT(T:TM)(F:yZ):Nat->Int
 | 0=>T.st
 | i+1=>min T.hi (mT T F i+(F.getD i []).sum-T.ds.getD i 0)
structure CQ(T:TM)(F:yZ):Prop where
 len:F.length=T.ds.length
 row:∀i,i<T.ds.length->(F.getD i []).length=T.co.length
 bd:∀i b,i<T.ds.length->b<T.co.length->0<=(F.getD i []).getD b 0/\(F.getD i []).getD b 0<=(T.cs.getD i []).getD b 0
 lo:∀i,i<T.ds.length->T.lo<=mT T F (i+1)
noncomputable def B6(T:TM)(F:yZ)(h:Nat):Int:=mT T F h+(F.getD h []).sum-T.ds.getD h 0-mT T F (h+1)
theorem UV:0<=B6 T F h:=by
 unfold B6;have e:mT T F (h+1)=min T.hi (mT T F h+(F.getD h []).sum-T.ds.getD h 0):=rfl;omega
theorem JC:mT T F (h+1)<=T.hi:=by
 have e:mT T F (h+1)=min T.hi (mT T F h+(F.getD h []).sum-T.ds.getD h 0):=rfl;omega
theorem DJ(fl:A5 T){h:Nat}(y:h<T.ds.length):(T.cs.getD h []).length=T.co.length:=(fl.c _ (X' (by rw[fl.ok.lc];exact y))).1
theorem Nn{ns:yV}(fl:A5 T)(fe:CQ T F)(J:ns.length=T.ds.length):A9 T F T.ds.length-Dj T ns=Ec T ns F (mT T F) (B6 T F) T.ds.length:=by
 have y:=M3 (T:=T) (ns:=ns) (F:=F) (m:=mT T F) (bl:=B6 T F) (n:=T.ds.length) fe.row (λh B=>DJ fl B) (λh B=>by unfold B6;omega) T.ds.length (Y5 _);have D:ns.getD T.ds.length 0=0:=by rw[Y3,ZT (by omega)];rfl
 rw[D,gJ]at y;have K:Dj T ns=D6 T ns T.ds.length-ns.getD 0 0 * T.st:=by unfold Dj;rw[J]
 have G:mT T F 0=T.st:=rfl;rw[G]at y;omega
theorem UW{ns:yV}(fe:CQ T F)(B:∀x∈ns,0<=x):∀h,h<T.ds.length->0<=CO (ns.getD h 0) (F.getD h []) (T.cs.getD h []) T.co/\0<=C8 T.lo T.hi (ns.getD h 0) (ns.getD (h+1) 0) (mT T F (h+1))/\0<=ns.getD h 0 * B6 T F h:=λh y=>by
 have pn:0<=ns.getD h 0:=by
  by_cases D:h<ns.length
  .exact B _ (X' D)
  .rw[Y3,ZT (by omega)];exact Za _
 exact⟨Jz (λb G=>fe.bd h b y G),UI (fe.lo h y) JC,av pn UV⟩
theorem UX{ns:yV}(fl:A5 T)(fe:CQ T F)(y:ns.length=T.ds.length)(D:∀x∈ns,0<=x):Dj T ns<=A9 T F T.ds.length:=by
 have g:=Nn fl fe y;have p:=M4 (T:=T) (ns:=ns) (F:=F) (m:=mT T F) (bl:=B6 T F) (n:=T.ds.length) (λh B=>by
  obtain⟨a,b,c⟩:=UW fe D h B;show 0<=CO (ns.getD h 0) (F.getD h []) (T.cs.getD h []) T.co+C8 T.lo T.hi (ns.getD h 0) (ns.getD (h+1) 0) (mT T F (h+1))+ns.getD h 0 * B6 T F h;omega) T.ds.length (Y5 _)
 omega
theorem UY{f:yZ}{ms:yV}(g:Gr T f ms)(hi:∀k,k<T.ds.length->ms.getD k 0<=T.hi):∀k,k<T.ds.length->mT T f (k+1)=ms.getD k 0/\B6 T f k=0:=by
 have one:∀k,k<T.ds.length->mT T f k=(if k=0 then T.st else ms.getD (k-1) 0)->mT T f (k+1)=ms.getD k 0/\B6 T f k=0:=λk y e=>by
  have m:=g.ms k (by rw[g.lm];exact y);have h:=hi k y;have B:mT T f (k+1)=min T.hi (mT T f k+(f.getD k []).sum-T.ds.getD k 0):=rfl;have D:mT T f k+(f.getD k []).sum-T.ds.getD k 0=ms.getD k 0:=by rw[e];omega
  rw[D]at B;unfold B6;omega
 intro k
 induction k with
 | zero=>intro y;exact one 0 y rfl
 | succ k ih=>
  intro y;refine one (k+1) y ?_;rw[Y8 (Nat.succ_ne_zero k),cf];exact(ih (by omega)).1
theorem UZ{f:yZ}{ms y:yV}(fl:A5 T)(g:Gr T f ms)(o:Opt T f ms T.ds.length y)(lo:∀k,k<T.ds.length->T.lo<=ms.getD k 0):CQ T f/\A9 T f T.ds.length=Dj T y:=by
 have G:=UY g o.hi;have fe:CQ T f:=⟨g.lf,λi hi=>g.row i (by rw[g.lf];exact hi),λi b hi D=>g.bd i b (by rw[g.lf];exact hi) D,λi hi=>by rw[(G i hi).1];exact lo i hi⟩;refine⟨fe,?_⟩;have J:=Nn fl fe o.len;have pos:∀x∈y,0<=x:=λx K=>by
  rcases YY.mp (o.as x K) with e | e
  .omega
  .have:=fl.o1 _ e;omega
 have zero:∀h,h<T.ds.length->EI T y f (mT T f) (B6 T f) h=0:=λh B=>by
  have r:CO (y.getD h 0) (f.getD h []) (T.cs.getD h []) T.co=0:=(M0 (fe.row h B) (DJ fl B) (λb D=>fe.bd h b B D)).mpr λb D=>gapB_zero.mpr (o.b h b B D)
  have m:C8 T.lo T.hi (y.getD h 0) (y.getD (h+1) 0) (mT T f (h+1))=0:=gapM_zero.mpr ⟨λc=>by rw[(G h B).1];exact o.up h B c,λc=>by rw[(G h B).1];exact o.dn h B c⟩;show CO _ _ _ _+C8 _ _ _ _ _+y.getD h 0 * B6 T f h=0;rw[r,m,(G h B).2,bj];rfl
 have all:∀k,k<=T.ds.length->Ec T y f (mT T f) (B6 T f) k=0:=by
  intro k
  induction k with
  | zero=>intro _;rfl
  | succ k ih=>
   intro O;show Ec T y f (mT T f) (B6 T f) k+EI T y f (mT T f) (B6 T f) k=0;rw[ih (by omega),zero k (by omega)];rfl
 rw[all _ (Y5 _)]at J;omega
theorem U0{T:TM}(fl:A5 T){f:yZ}{ms:yV}{h:Nat}:∀k:Nat,(∃a b,a<=h/\b<T.co.length/\D9 T f ms h a b/\T.co.getD b 0<=k)->
  ∃a b,a<=h/\b<T.co.length/\D9 T f ms h a b/\∀D y,D<=h->y<T.co.length->D9 T f ms h D y->T.co.getD b 0<=T.co.getD y 0:=by
 intro k
 induction k with
 | zero=>
  rintro⟨a,b,_,hb,_,z⟩;have:=fl.o1 _ (X' (d:=0) hb);omega
 | succ k ih=>
  rintro⟨a,b,ha,hb,may,le⟩
  by_cases c:∃a b,a<=h/\b<T.co.length/\D9 T f ms h a b/\T.co.getD b 0<=k
  .exact ih c
  .refine⟨a,b,ha,hb,may,λD y J G B=>?_⟩
   by_cases K:T.co.getD y 0<=k
   .exact absurd ⟨D,y,J,G,B,K⟩ c
   .omega
structure At(T:TM)(h:Nat)(f:yZ)(ms ps:yV):Prop where
 g:Gr T f ms
 o:Opt T f ms h ps
 lo:∀j,j<h->T.lo<=ms.getD j 0
theorem U1(fl:A5 T)(lh:T.lo<=T.hi)(no:AZ T=none){h:Nat}(hh:h<T.ds.length):∀(k:Nat) (f:yZ) (ms D:yV),At T h f ms D->(D.getD h 0=0\/ms.getD h 0<=T.lo)->(T.lo-ms.getD h 0).toNat<=k->∃f' i0 y,At T (h+1) f' i0 y/\y.getD (h+1) 0=0:=by
 intro k
 induction k with
 | zero=>
  intro f ms D a z hk;have O:T.lo<=ms.getD h 0:=by omega
  exact⟨f,ms,D,⟨a.g,a.o.next fl O (λc=>by rcases z with z | z<;>omega),λj Z=>by
   by_cases e:j=h
   .rw[e];exact O
   .exact a.lo j (by omega)⟩,a.o.z (h+1) (by omega)⟩
 | succ k ih=>
  intro f ms D a z hk
  by_cases O:T.lo<=ms.getD h 0
  .exact⟨f,ms,D,⟨a.g,a.o.next fl O (λc=>by rcases z with z | z<;>omega),λj Z=>by
    by_cases e:j=h
    .rw[e];exact O
    .exact a.lo j (by omega)⟩,a.o.z (h+1) (by omega)⟩
  .have lm:=a.g.lm;have hm:h<ms.length:=by omega
   obtain⟨a0,b0,i4,G,K⟩:=UE fl lh no a.g hm (by omega);obtain⟨x,b,hx,hb,B,J⟩:=U0 fl (f:=f) (ms:=ms) (h:=h) 9 ⟨a0,b0,i4,G,K,(fl.o1 _ (X' (d:=0) G)).2⟩;have m1:=B.1;have m2:=B.2;have i5:∃m,m=min (T.lo-ms.getD h 0) (min ((T.cs.getD x []).getD b 0-(f.getD x []).getD b 0) (D8 ms T.hi x h)):=⟨_,rfl⟩;obtain⟨m,em⟩:=i5;have mp:0<m:=by omega
   obtain⟨y,o'⟩:=a.o.step fl lh a.g hh hx hb B J mp (by omega) (by omega) (by omega);have g':=a.g.more (a:=x) (b:=b) (m:=m) (by rw[a.g.lf];omega) hb (by omega) (by omega);have rh:(Ea ms x ms.length m).getD h 0=ms.getD h 0+m:=by rw[Eb hm,YN ⟨hx,hm⟩]
   refine ih _ _ _ ⟨g',o',λj Z=>?_⟩ (.inr (by rw[rh];omega)) (by rw[rh];omega);rw[Eb (by omega)];have:=a.lo j Z;split<;>omega
def DL(T:TM):yZ:=T.ds.map λ_=>T.co.map λ_=>0
noncomputable def EL(T:TM):Nat->Int
 | 0=>T.st-T.ds.getD 0 0
 | k+1=>EL T k-T.ds.getD (k+1) 0
theorem F6{y:Type}{l:List y}{b:Nat}:(l.map λ_=>(0:Int)).getD b 0=0:=by
 rw[Y3,YU];cases l[b]? <;>rfl
theorem No{y:Type}:∀ {l:List y},(l.map λ_=>(0:Int)).sum=0
 | []=>rfl
 | _::r=>by rw[ZA,bF,No (l:=r)];rfl
theorem F7{i:Nat}(h:i<T.ds.length):(DL T).getD i []=T.co.map λ_=>0:=by
 unfold DL;rw[Y3,YU,Y6 h];rfl
theorem F8{g:Nat->Int}{n k:Nat}(h:k<n):((List.range n).map g).getD k 0=g k:=by
 rw[Y3,YU,bH h];rfl
theorem U2(fl:A5 T)(sh:T.st<=T.hi)(n0:0<T.ds.length):At T 0 (DL T) ((List.range T.ds.length).map (EL T)) (T.ds.map λ_=>0):=by
 have dp:∀k,0<=T.ds.getD k 0:=λk=>by
  by_cases y:k<T.ds.length
  .exact(fl.d _ (X' y)).1
  .rw[Y3,ZT (by omega)];exact Za _
 have Z:∀k,EL T k<=T.hi:=by
  intro k
  induction k with
  | zero=>have:=dp 0;show T.st-T.ds.getD 0 0<=T.hi;omega
  | succ k ih=>have:=dp (k+1);show EL T k-T.ds.getD (k+1) 0<=T.hi;omega
 have J:∀k,(T.ds.map λ_=>(0:Int)).getD k 0=0:=λk=>F6
 refine⟨⟨?_,λi hi=>?_,λi b hi G=>?_,?_,λk y=>?_⟩,⟨?_,λx hx=>?_,λk _=>J k,λk b y G=>⟨λc=>?_,λc=>?_⟩,λk y=>absurd y (Zs _),λk y=>absurd y (Zs _),λk y=>?_,λk _ y=>?_⟩,λj K=>absurd K (Zs _)⟩
 .unfold DL;rw[Y2]
 .have B:i<T.ds.length:=by unfold DL at hi;rw[Y2]at hi;exact hi
  rw[F7 B,Y2]
 .have B:i<T.ds.length:=by unfold DL at hi;rw[Y2]at hi;exact hi
  rw[F7 B,F6];have O:=DJ fl B;have:=(fl.c _ (X' (d:=[]) (by rw[fl.ok.lc];exact B))).2 _ (X' (l:=T.cs.getD i []) (d:=0) (by rw[O];exact G));omega
 .rw[Y2,cb]
 .have D:k<T.ds.length:=by rw[Y2,cb]at y;exact y
  rw[F8 D,F7 D,No];cases k with
  | zero=>rw[YN rfl];show T.st-_=_;omega
  | succ k=>rw[Y8 (by omega),cf,F8 (by omega)];show EL T k-_=_;omega
 .rw[Y2]
 .obtain⟨_,_,rfl⟩:=Zj.mp hx;exact YR
 .rw[J]at c;have:=fl.o1 _ (X' (d:=0) G);omega
 .rw[F7 y,F6]
 .rw[F8 y];exact Z k
 .rw[F8 y,F8 (by omega)];have:=dp (k+1);show EL T k-T.ds.getD (k+1) 0<=EL T k;omega
theorem Np(fl:A5 T)(lh:T.lo<=T.hi)(sh:T.st<=T.hi)(B:0<T.ds.length)(no:AZ T=none):∃f y,CQ T f/\y.length=T.ds.length/\Asked T y/\A9 T f T.ds.length=Dj T y:=by
 have all:∀h,h<=T.ds.length->∃f ms y,At T h f ms y/\y.getD h 0=0:=by
  intro h
  induction h with
  | zero=>intro _;exact⟨_,_,_,U2 fl sh B,F6⟩
  | succ h ih=>
   intro D;obtain⟨f,ms,y,a,z⟩:=ih (by omega);exact U1 fl lh no (by omega) _ f ms y a (.inl z) (Y5 _)
 obtain⟨f,ms,y,a,_⟩:=all _ (Y5 _);obtain⟨fe,e⟩:=UZ fl a.g a.o a.lo;exact⟨f,y,fe,a.o.len,a.o.as,e⟩
theorem Nq(fl:A5 T)(lh:T.lo<=T.hi)(sh:T.st<=T.hi)(G:0<T.ds.length)(no:AZ T=none){c:Int}{J:yV}(B:DH T c J):(∃f,CQ T f/\A9 T f T.ds.length=c)/\∀F,CQ T F->c<=A9 T F T.ds.length:=by
 have pos:∀ {D:yV},Asked T D->∀x∈D,0<=x:=λa x O=>by
  rcases YY.mp (a x O) with e | e
  .omega
  .have:=fl.o1 _ e;omega
 have y:∀F,CQ T F->c<=A9 T F T.ds.length:=λF fe=>by rw[B.val];exact UX fl fe B.len (pos B.as)
 obtain⟨f,K,fe,l,as,e⟩:=Np fl lh sh G no;refine⟨⟨f,fe,?_⟩,y⟩;have:=B.top K l as;have:=y f fe;omega
end MF
namespace MF
open L2
theorem JD{b:Int}:∀ {ns:yV},BL (.int b) (ns.map V.int)=decide (b∈ns)
 | []=>rfl
 | n::ns=>by
  have y:=JD (b:=b) (ns:=ns);unfold BL at y ⊢;rw[ZA,aO,y,am,bW,Zf,Zf,YY];refine or_congr_left ?_;show((n==b)=true) ↔_;rw[aV];exact eq_comm
theorem Nr{ns:yV}:(ns.map V.int).all C3=true:=by
 rw[ZF];intro x y;obtain⟨n,_,rfl⟩:=Zj.mp y;rfl
def Cj(ch r:yV):yV:=r.zipIdx.map λq=>if (q.2:Int)∈ch then q.1 else 0
def only(T:TM)(ch:yV):TM:= { T with cs:=T.cs.map (Cj ch)}
theorem Fp{ch r:yV}:(Cj ch r).length=r.length:=by unfold Cj;simp
theorem U3{ch r:yV}{i:Nat}:(Cj ch r).getD i 0=if (i:Int)∈ch then r.getD i 0 else 0:=by
 unfold Cj;rw[Y3,YU,di,Y3];cases r[i]? with
 | none=>simp
 | some x=>simp
theorem U4{ch r:yV}{x:Int}(h:x∈Cj ch r):x=0\/x∈r:=by
 obtain⟨i,hi,rfl⟩:=List.getElem_of_mem h;rw[Fp]at hi;have e:=U3 (ch:=ch) (r:=r) (i:=i);rw[Y3,Y6 (by rw[Fp];exact hi)]at e;have y:(Cj ch r)[i]'(by rw[Fp];exact hi)=_:=e;rw[y]
 by_cases c:(i:Int)∈ch
 .rw[YN c];exact .inr (X' hi)
 .rw[Y8 c];exact .inl rfl
theorem JE{T:TM}(ok:T.ok){ch:yV}:(only T ch).ok:=⟨ok.l8,by show(T.cs.map _).length=_;rw[Y2];exact ok.lc⟩
theorem Nt{T:TM}(fl:A5 T){ch:yV}:A5 (only T ch):=by
 refine⟨JE fl.ok,λr y=>?_,fl.o,fl.o1,fl.d,fl.l0,fl.h0,fl.s0,fl.l4,fl.h4,fl.s4⟩;obtain⟨B,h0,rfl⟩:=Zj.mp (show r∈T.cs.map (Cj ch) from y);obtain⟨a,b⟩:=fl.c B h0;refine⟨by rw[Fp];exact a,λc D=>?_⟩;rcases U4 D with e | e
 .omega
 .exact b c e
structure IsSet(n:Nat)(c:yV):Prop where
 up:c.Pairwise (· < ·)
 bd:∀x∈c,0<=x/\x<(n:Int)
theorem Nu:∀ {c:yV}{a b:Int},c.Pairwise (· < ·)->(∀x∈c,a<=x/\x<b)->(c.length:Int)<=max 0 (b-a)
 | [],a,b,_,_=>by show(0:Int)<=_;omega
 | x::c,a,b,h,hb=>by
  have G:=hb x (by simp);have D:=Nu (c:=c) (a:=x+1) (b:=b) (bq.mp h).2 λy B=>⟨by have:=(bq.mp h).1 y B;omega,(hb y (by simp[B])).2⟩
  rw[Zw];omega
theorem IsSet.len{n:Nat}{c:yV}(h:IsSet n c):c.length<=n:=by
 have:=Nu h.up h.bd;omega
def Ck(c:yV):Int:=match c.getLast? with | none=>0 | some x=>x+1
def grow(n:Nat)(c:yV):yZ:=(List.range ((n:Int)-Ck c).toNat).map fun(i:Nat)=>c++[Ck c+(i:Int)]
noncomputable def BQ(n:Nat):Nat->yZ
 | 0=>[[]]
 | k+1=>(BQ n k).flatMap (grow n)
theorem JF{c:yV}{x:Int}:Ck (c++[x])=x+1:=by unfold Ck;rw[List.getLast?_concat]
theorem IsSet.first{n:Nat}{c:yV}(h:IsSet n c):0<=Ck c/\Ck c<=n/\∀x∈c,x<Ck c:=by
 rcases cR c with e | ⟨d,y,e⟩
 .subst e;exact⟨by decide,by show(0:Int)<=n;omega,λx B=>by cases B⟩
 .rw[cS]at e;subst e;rw[JF];have D:=h.bd y (by simp);refine⟨by omega,by omega,λx B=>?_⟩;rcases ZS.mp B with B | B
  .have:=(du.mp h.up).2.2 x B y (by simp);omega
  .rw[Z3]at B;omega
theorem Nv{n:Nat}{c d:yV}(h:IsSet n c):d∈grow n c↔ ∃x,d=c++[x]/\IsSet n d:=by
 obtain⟨f0,J,D⟩:=h.first
 unfold grow;rw[Zj];constructor
 .rintro⟨i,hi,rfl⟩;have:=Zr.mp hi;refine⟨_,rfl,?_,λx B=>?_⟩
  .exact du.mpr ⟨h.up,List.pairwise_singleton ..,λx B y G=>by rw[Z3]at G;have:=D x B;omega⟩
  .rcases ZS.mp B with B | B
   .exact h.bd x B
   .rw[Z3]at B;omega
 .rintro⟨x,rfl,hs⟩;have B:=hs.bd x (by simp);have:Ck c<=x:=by
   rcases cR c with e | ⟨d,y,e⟩
   .subst e;exact B.1
   .rw[cS]at e;subst e;rw[JF];have:=(du.mp hs.up).2.2 y (by simp) x (by simp);omega
  exact⟨(x-Ck c).toNat,by rw[Zr];omega,by rw[show Ck c+((x-Ck c).toNat:Int)=x from by omega]⟩
theorem mem_sets{n:Nat}:∀ {k:Nat}{c:yV},c∈BQ n k↔IsSet n c/\c.length=k
 | 0,c=>by
  show c∈ [[]] ↔_;rw[Z3];constructor
  .rintro rfl;exact⟨⟨.nil,λx J=>by cases J⟩,rfl⟩
  .rintro⟨_,h⟩;exact cD.mp h
 | k+1,c=>by
  show c∈(BQ n k).flatMap (grow n) ↔_;rw[List.mem_flatMap];constructor
  .rintro⟨d,hd,hc⟩;obtain⟨G,D⟩:=mem_sets.mp hd;obtain⟨x,rfl,B⟩:=(Nv G).mp hc;exact⟨B,by simp[D]⟩
  .rintro⟨B,hl⟩;rcases cR c with e | ⟨d,x,e⟩
   .subst e;simp at hl
   .rw[cS]at e;subst e;have hd:IsSet n d:=⟨(du.mp B.up).1,λy K=>B.bd y (by simp[K])⟩;exact⟨d,mem_sets.mpr ⟨hd,by simpa using hl⟩,(Nv hd).mpr ⟨x,rfl,B⟩⟩
theorem Nw:∀n,n<=4->∀k,k<=4->(BQ n k).length<=6:=by decide+kernel
noncomputable def U5(n k:Nat):yZ:=(List.range k).flatMap (BQ n)
noncomputable def U6(n:Nat)(p:yV->Bool):Option (yV):=(U5 n (n+1)).find? p
noncomputable def Dl(T:TM)(c:yV):Bool:=(AZ (only T c)).isNone
def Bp(n:Nat):yV:=(List.range n).map fun(i:Nat)=>(i:Int)
theorem allB_mem{n:Nat}{x:Int}:x∈Bp n↔0<=x/\x<n:=by
 unfold Bp;rw[Zj];exact⟨λy=>by obtain⟨i,hi,e⟩:=y;have:=Zr.mp hi;omega,λh=>⟨x.toNat,Zr.mpr (by omega),by omega⟩⟩
end MF
namespace L2
theorem U7:typeLookup (.type "zip") "__len__"=pure none:=by rw[dw,bJ];kernel_rfl
theorem U8:typeLookup (.type "zip") "__length_hint__"=pure none:=by rw[dw,bJ];kernel_rfl
def Zd(H:Hp)(B:List yR)(xs ys:zA):Prop:=∀(j:Nat) (T:yR) (x y:V),B[j]? =some T->xs[j]? =some x->ys[j]? =some y->H T=some (.tup [x,y])
structure U9{X:Cx}(S1 S2:AY X.prog X.w X.K)(ad:PNs)(σ:St)(z TI TO i1 i2 l1 l2 S:yR)(xs ys:zA)(i:Nat)(s:yS)(H:Hp)(Ts:List yR)(c:Nat):Prop where
 I:Ac X ad σ H s
 fp:∀b∈ [z,TI,TO,i1,i2,S],Br X ad H b
 z:E2 s.heap z TI TO
 ti:Be s.heap TI (.ref i1) (.ref i2)
 to:∃a b,Be s.heap TO a b
 i1:S1.It s.heap i1 l1 i
 i2:S2.It s.heap i2 l2 i
 s1:S1.Sq H l1 xs
 s2:S2.Sq H l2 ys
 l:s.heap.get? S=some { cls:= .type "list",dict:=none,data:= .seq (Ts.map Value.ref).toArray c,slots:= #[]}
 n:Ts.length=i
 zd:Zd H Ts xs ys
theorem Va{X:Cx}{S1 S2:AY X.prog X.w X.K}{A:yO}{ad:PNs}{σ:St}{R:Result->yS->Prop}{z TI TO i1 i2 l1 l2 S:yR}{xs ys:zA}{res:yU}(hh:A.handled=none)(D:Ew z TI TO i1 i2 l1 l2)
  (hS:S ∉ [z,TI,TO,i1,i2]) (k1:∀H H':Hp,Ab H H'->S1.Sq H l1 xs->S1.Sq H' l1 xs) (k2:∀H H':Hp,Ab H H'->S2.Sq H l2 ys->S2.Sq H' l2 ys) (hl:xs.length<=ys.length) (hn:xs.length<=1000):
  ∀(k i:Nat) (s:yS) (H:Hp) (Ts:List yR) (c:Nat),xs.length-i=k->i<=xs.length->U9 S1 S2 ad σ z TI TO i1 i2 l1 l2 S xs ys i s H Ts c->
   (∀s' H' Z c',Ac X ad σ H' s'->Ab H H'->Br X ad H' S->s'.heap.get? S=some { cls:= .type "list",dict:=none,data:= .seq (Z.map Value.ref).toArray c',slots:= #[]}->Z.length=xs.length->Zd H' Z xs ys->R (.ok (.ret res)) s')->
   codeAny (model X.prog X.w) A (.builtin "list.extend.loop" ⟨[.ref S,.ref z,res],[]⟩) R s:=by
 intro k
 induction k with
 | zero=>
  intro i s H Ts c hk hi L fin;obtain⟨a,b,i0⟩:=L.to;obtain⟨j0,i8,i9,r8⟩:=S1.get rfl L.I L.s1;obtain⟨j5,j7,i4,o8⟩:=S2.get rfl L.I L.s2;have e1:=i8.length;have hT:s.TypeIs (.ref z) "zip" :=by obtain⟨f0,f1,hz,_⟩:=L.z;exact⟨_,hz,rfl⟩
  refine ZQ F.entry_extend_loop ?_;rw[ZJ bo _];show wpAny _ A.in1 (pyNext (.ref z) >>=_) _ _ s;refine Y0 ?_;unfold pyNext;refine Y0 (aQ (Zo (name:=Str.ofString "__next__") hT ZI (Zq ZI hT bf
   (LO S1 S2 hh D L.z L.ti i0 ⟨L.i1,i9⟩ ⟨L.i2,i4⟩ (by simp;omega) λh' tk e J he=>?_) (aU _))))
  obtain⟨o,ho,o9⟩:=he;refine Y0 (bM (T:="StopIteration") (b:=true) ⟨o,ho,o9⟩ dF ?_);refine Y4 (Y4 ?_);have B:=hS;simp only[YY,Zt,ai,not_or]at B;refine fin _ H Ts c (L.I.ended (wr:=[z,TI,TO,i1,i2]) (tk:=tk) (λb G=>L.fp b (by simp only[YY,Zt,ai]at G ⊢;rcases G with e | e | e | e | e<;>simp[e])) λb o G q=>J b o (λe=>G (by simp[e])) (λe=>G (by simp[e])) (λe=>G (by simp[e])) (λe=>G (by simp[e])) q) (Ab.refl _) (L.fp S (by simp)) (J S _ B.1 B.2.2.1 B.2.2.2.1 B.2.2.2.2 L.l) (by have:=L.n;omega) L.zd
 | succ k ih=>
  intro i s H Ts c hk hi L fin;have j6:i<xs.length:=by omega
  obtain⟨a,b,i0⟩:=L.to;obtain⟨j0,i8,i9,r8⟩:=S1.get rfl L.I L.s1;obtain⟨j5,j7,i4,o8⟩:=S2.get rfl L.I L.s2;have hx:xs[i]? =some xs[i]:=by simp[j6]
  have hy:ys[i]? =some (ys[i]'(by omega)):=by rw[Y6 (by omega)]
  obtain⟨u1,q9,l9⟩:=i8.get hx;obtain⟨u2,o7,l6⟩:=j7.get hy;have hT:s.TypeIs (.ref z) "zip" :=by obtain⟨f0,f1,hz,_⟩:=L.z;exact⟨_,hz,rfl⟩
  refine ZQ F.entry_extend_loop ?_;rw[ZJ bo _];show wpAny _ A.in1 (pyNext (.ref z) >>=_) _ _ s;refine Y0 ?_;unfold pyNext;refine Y0 (aQ (Zo (name:=Str.ofString "__next__") hT ZI (Zq ZI hT bf
   (IR S1 S2 (x1:=u1) (x2:=u2) hh D L.z L.ti i0 ⟨L.i1,i9⟩ ⟨L.i2,i4⟩ (by simpa using q9) (by simpa using o7) λh' tk n9 _ a2 a3 a4 a5 a6 J=>Y4 ?_) (aU _))))
  have B:=hS;simp only[YY,Zt,ai,not_or]at B;have u0:∀b∈ [z,TI,TO,i1,i2],Br X ad H b:=λb G=>L.fp b (by simp only[YY,Zt,ai]at G ⊢;rcases G with e | e | e | e | e<;>simp[e])
  have j4:=J S _ B.1 B.2.2.1 B.2.2.2.1 B.2.2.2.2 L.l;have kk:∀b o,b ∉ [z,TI,TO,i1,i2]->s.heap.get? b=some o->h'.get? b=some o:=λb o G q=>J b o (λe=>G (by simp[e])) (λe=>G (by simp[e])) (λe=>G (by simp[e])) (λe=>G (by simp[e])) q
  have ht:IsTup h' s.heap.objs.size [u1,u2].toArray:=⟨_,a5,rfl,_,rfl⟩;have u7:Be s.heap TI (.ref i1) (.ref i2)->Be h' TI (.ref i1) (.ref i2):=λq=>J _ _ D.TI_z D.TO_TI.symm D.i1_TI.symm D.i2_TI.symm q
  have j9:H s.heap.objs.size=none:=L.I.hok.fresh (Y5 _);have I1:Ac X ad σ (upd H s.heap.objs.size (.tup [xs[i],ys[i]'(by omega)])) { s with heap:=h',toks:=tk}:=L.I.yielded (tk:=tk) u0 kk (Y5 _) ht (.cons l9 (.cons l6 .nil)) (by show 2<=sizeLine;decide);have sm:Ab H (upd H s.heap.objs.size (.tup [xs[i],ys[i]'(by omega)])):=Ab.new j9;have i5:∀b∈ [z,TI,TO,i1,i2,S],Br X ad (upd H s.heap.objs.size (.tup [xs[i],ys[i]'(by omega)])) b:=λb G=>by
   have f:=L.fp b G;refine⟨?_,f.2⟩;have u9:b<s.heap.objs.size:=by
    simp only[YY,Zt,ai]at G;rcases G with e | e | e | e | e | e<;>rw[e]
    .obtain⟨f0,f1,hz,_⟩:=L.z;exact Y7 hz
    .exact Y7 L.ti
    .exact Y7 i0
    .obtain⟨o,q,_⟩:=S1.ito L.i1;exact Y7 q
    .obtain⟨o,q,_⟩:=S2.ito L.i2;exact Y7 q
    .exact Y7 L.l
   rw[Ao (YT u9)];exact f.1
  have j3:upd H s.heap.objs.size (.tup [xs[i],ys[i]'(by omega)]) s.heap.objs.size=some (.tup [xs[i],ys[i]'(by omega)]):=Af;generalize upd H s.heap.objs.size (.tup [xs[i],ys[i]'(by omega)])=H2 at I1 sm i5 j3;show wpAny _ A.in1 (updateSeq S (·.push (.ref s.heap.objs.size)) >>=_) _ _ _;have hU:=Zl (Obj.mapSeq (·.push (Value.ref s.heap.objs.size))) j4 rfl;have O:∀b o,b≠S->h'.get? b=some o->(h'.update S (Obj.mapSeq (·.push (Value.ref s.heap.objs.size)))).get? b=some o:=λb o G e=>(ZY _ _ (Zv G)).trans e
  have eU:(Obj.mapSeq (·.push (Value.ref s.heap.objs.size)) { cls:= .type "list",dict:=none,data:= .seq (Ts.map Value.ref).toArray c,slots:= #[]}:Obj)= { cls:= .type "list",dict:=none,data:= .seq ((Ts++[s.heap.objs.size]).map Value.ref).toArray (match(Obj.mapSeq (·.push (Value.ref s.heap.objs.size)) { cls:= .type "list",dict:=none,data:= .seq (Ts.map Value.ref).toArray c,slots:= #[]}:Obj).data with | .seq _ n=>n | _=>0),slots:= #[]}:=by
   simp[Obj.mapSeq]
  rw[eU]at hU;obtain⟨b1,b2,a2⟩:=a2;refine Y0 (ac j4 rfl (Y4 ⟨ap bo _,ih (i+1) _ H2 (Ts++[s.heap.objs.size]) _ (by omega) j6 ⟨I1.ended (wr:=[S]) (tk:=tk) (λb G=>i5 b (by rw[Z3.mp G];simp)) λb o G q=>O b o (λe=>G (by simp[e])) q,i5,?_,O _ _ (λe=>B.2.1 e.symm) (u7 L.ti),⟨_,_,O _ _ (λe=>B.2.2.1 e.symm) a2⟩,S1.itk a3.1 λo q=>O _ o (λe=>B.2.2.2.1 e.symm) q,S2.itk a4.1 λo q=>O _ o (λe=>B.2.2.2.2 e.symm) q,k1 _ _ sm L.s1,k2 _ _ sm L.s2,hU,by rw[Zb,L.n];rfl,?_⟩ λu6 H' Z c' I' j8 f' l' n' l7=>fin u6 H' Z c' I' (sm.trans j8) f' l' n' l7⟩) (by have:=L.n;have:(1000:Nat)<sizeLine:=(by decide);simp;omega) (by have:=L.n;have:(1000:Nat)<sizeLine:=(by decide);simp;omega))
  .obtain⟨f0,f1,hz,r⟩:=n9;exact⟨f0,f1,O _ _ (λe=>B.1 e.symm) hz,r⟩
  .intro j T x y hj i7 i6
   by_cases t9:j<Ts.length
   .rw[ZB t9]at hj;exact sm _ _ (L.zd j T x y hj i7 i6)
   .have ej:j=i:=by
     have:=(Y9.mp hj).1;rw[Zb,cO]at this;have:=L.n;omega
    subst ej;rw[Zy (by omega)]at hj;have v3:=L.n;rw[show j-Ts.length=0 from by omega]at hj;rw[hx]at i7;rw[hy]at i6;cases hj;cases i7;cases i6;exact j3
section
variable{prog:yP}{w:yN}{A:yO}{s:yS}{R:Result -> yS -> Prop}{E:yY}
structure EM(S:yR)(g g':Heap):Prop where
 it:∃c,g'.get? S=some { cls:= .type "list",dict:=none,data:= .seq #[] c,slots:= #[]}
 kp:KpBut S g g'
 sz:g'.objs.size=g.objs.size
theorem Vb{S:yR}{g g':Heap}(n:EM S g g'){f:Array yU->Array yU}(B:f #[]= #[]){Q:Unit->yS->Prop}(h:∀y,EM S g y->Q () { s with heap:=y}):wpAny (model prog w) A (updateSeq S f) Q E { s with heap:=g'}:=by
 obtain⟨c,e⟩:=n.it;have D:(g'.update S (Obj.mapSeq f)).get? S=some { cls:= .type "list",dict:=none,data:= .seq #[] c,slots:= #[]}:=by
  rw[Zl _ e rfl];simp[Obj.mapSeq,B]
 exact ac (s:= { s with heap:=g'}) e rfl (h _ ⟨⟨c,D⟩,n.kp.trans (KpBut.upd _),(cU ..).trans n.sz⟩) (Z1 _) (by rw[B];exact Z1 _)
theorem Vc{S:yR}{g g':Heap}(n:EM S g g'){Q:Unit->yS->Prop}(h:∀y,EM S g y->Q () { s with heap:=y}):wpAny (model prog w) A (Builtin.List.listTouch (.ref S)) Q E { s with heap:=g'}:=by
 obtain⟨c,e⟩:=n.it;refine Y0 (ac (s:= { s with heap:=g'}) e rfl ?_ (Z1 _) (by decide));have B:=Zl (Obj.mapSeq λx=>x.push Value.none) e rfl;refine ac (s:= { s with heap:=g'.update S (Obj.mapSeq λx=>x.push Value.none)}) B rfl (h _ ⟨⟨_,Zl _ B rfl⟩,n.kp.trans ((KpBut.upd _).trans (KpBut.upd _)),?_⟩) (by decide) (by decide);rw[cU,cU];exact n.sz
def Vd(prog:yP)(w:yN)(A:yO)(R:Result->yS->Prop):PySem.Fin->yS->Prop
 | .done f,s'=>R (.ok f) s'
 | .again c',s'=>c'.quiet=true/\codeAny (model prog w) A c' R s'
theorem Ve{z S TI TO:yR}{res:yU}{f0:yU}{g g':Heap}(n:EM S g g')(hz:IsZip g' z TI TO f0)(B:S≠z)
  (G:∀y,EM S g y->codeAny (model prog w) A (.builtin "list.extend.loop" ⟨[.ref S,.ref z,res],[]⟩) R { s with heap:=y}):
  wpAny (model prog w) A.in1 (Builtin.List.listExtendWith (.ref S) (.ref z) res) (Vd prog w A R) E { s with heap:=g'}:=by
 have ty:Shared.TypeIs { s with heap:=g'} (.ref z) "zip" :=⟨_,hz,rfl⟩;have plain:(Builtin.List.listSameRef (.ref S) (.ref z) || Value.type "zip"==Value.type "list" || Value.type "zip"==Value.type "tuple")=false:=by
  rw[show Builtin.List.listSameRef (.ref S) (.ref z)=false from by simp[Builtin.List.listSameRef,B]];decide
 refine Y0 (bY ty ?_);rw[plain];refine Y0 (bN (s:= { s with heap:=g'}) hz (Y0 (Zp (Y0 (dj ty U7 (Y0 (dj ty U8 (Y4 ?_))))))));exact Y0 (aE (Y0 (Vc n λy D=>Y4 ⟨ap bo _,G y D⟩)))
theorem Vf{z TI TO:yR}{f0:yU}{Q:VSP}(hz:IsZip s.heap z TI TO f0)
  (h:∀h' O,h'.get? s.heap.objs.size=some { cls:= .type "list",dict:=none,data:= .seq #[] O,slots:= #[]}->(∀b o,s.heap.get? b=some o->h'.get? b=some o)->h'.objs.size=s.heap.objs.size+1->codeAny (model prog w) A.in1 (.builtin "list.extend.loop" ⟨[.ref s.heap.objs.size,.ref z,.none],[]⟩) (wants (λr y=>r= .none/\Q (.ref s.heap.objs.size) y) E) { s with heap:=h'}):
  wpAny (model prog w) A (call (.type "list") [.ref z]) Q E s:=by
 have J:z<s.heap.objs.size:=Y7 hz;refine callType_codes (Q₁:=λv t=>v= .ref s.heap.objs.size/\t= { s with heap:=s.heap.push { cls:= .type "list",data:= .seq #[]}}) F.called_list (F.typeCall_list_1 _) F.entry_list_init (code_list_new _ ⟨rfl,rfl⟩) λv t vt=>?_
 obtain⟨rfl,rfl⟩:=vt;have D:EM s.heap.objs.size (s.heap.push { cls:= .type "list",data:= .seq #[]}) (s.heap.push { cls:= .type "list",data:= .seq #[]}):=⟨⟨0,YM _ rfl⟩,λ_ _ _ e=>e,rfl⟩;obtain⟨c,e⟩:=D.it;refine⟨⟨_,e,rfl⟩,F.args_list_init_2 _ _,Y0 (Y0 (ZN e rfl (Y4 ?_)))⟩;refine Y0 (Vb (s:=s) D rfl λg1 G=>Y0 (bE ?_));refine Zi (M:=model prog w) (t:=Builtin.List.listExtendWith (.ref s.heap.objs.size) (.ref z) .none) (Ve (s:=s) (A:=A.in1) (R:=wants (λr y=>r= .none/\Q (.ref s.heap.objs.size) y) E) G (G.kp z _ (YT J) (Y1 _ hz)) (ZV J) λK B=>?_) (λfin t q=>by cases fin<;>exact q) λ_ _ q=>q
 obtain⟨Z,e2⟩:=B.it;exact h K Z e2 (λb o q=>B.kp b o (YT (Y7 q)) (Y1 _ q)) (B.sz.trans (by simp[Zm]))
end
def Nx{P:yP}{w:yN}{K:Fgx}(S1 S2:AY P w K)(O:TA):TE:=fun Z H Q=>O Z H λvs B=>∃a b,vs=[.ref a,.ref b]/\(∃y,S1.Sq B a y)/\(∃y,S2.Sq B b y)/\∃y G,S1.Sq B a y/\S2.Sq B b G/\y.length<=G.length/\y.length<=1000/\∀(L:yR) (D:Hp) (J:List yR),Ab B D->B L=none->D L=some (.lst (J.map V.ref))->J.length=y.length->Zd D J y G->Q (.ref L) D
theorem JG:∀y:List yR,Av (y.map V.ref) (y.map Value.ref)
 | []=> .nil
 | _::r=> .cons rfl (JG r)
theorem Vg{X:Cx}{p pos p2 B:Pos}{O G:yL}{ta:TA}(S1 S2:AY X.prog X.w X.K)(zn:DW S1 S2)(k1:∀(l:yR) (xs:zA) (H H':Hp),Ab H H'->S1.Sq H l xs->S1.Sq H' l xs)(k2:∀(l:yR) (xs:zA) (H H':Hp),Ab H H'->S2.Sq H l xs->S2.Sq H' l xs)
  (j0:Gl X "list") (i6:X.mg "list"=none) (hg:Gl X "zip") (hm:X.mg "zip"=none) (ha:PA X [O,G] ta) (hc:X.calm=true)
  (Z:starEach [.Call (.Name "zip" p2) [O,G] [] B] X.env=[(false,eval (.Call (.Name "zip" p2) [O,G] [] B) X.env)]) (hs:starEach [O,G] X.env=[(false,eval O X.env),(false,eval G X.env)]) (i5:starEach [G] X.env=[(false,eval G X.env)]):
  PE X (.Call (.Name "list" p) [.Call (.Name "zip" p2) [O,G] [] B] [] pos) (Nx S1 S2 ta):=by
 intro ad s σ H Q I h;refine cY (B8 I j0 i6 boot_list (Zc (by
  rw[Z];refine aq (Ap (IS S1 S2 zn (R:=λl1 l2 J=>∃xs ys,S1.Sq J l1 xs/\S2.Sq J l2 ys/\xs.length<=ys.length/\xs.length<=1000/\∀(L:yR) (H2:Hp) (D:List yR),Ab J H2->J L=none->H2 L=some (.lst (D.map V.ref))->D.length=xs.length->Zd H2 D xs ys->Q (.ref L) H2) hg hm ha hs i5 I h) λv s1 zq=>?_);obtain⟨l1,l2,J,m,e,⟨xs,ys,q1,q2,hl,hn,q⟩,I1,gz,gI,gO,g1,g2,h1,h2,fr,i8⟩:=zq;subst e;refine aS (Vf gz λh' c' hL kp j3=>?_);rw[i8]at hL ⊢;have I2:Ac X ad σ J { s1 with heap:=h'}:=I1.kept (t':=s1.toks) kp;have nS:(m+5:Nat) ∉ [m+4,m+2,m+3,m,m+1]:=by simp
  refine Va (A:=X.A.in1) (S:=m+5) (xs:=xs) (ys:=ys) (ad:=ad) (σ:=σ) (S1:=S1) (S2:=S2) (z:=m+4) (TI:=m+2) (TO:=m+3) (i1:=m) (i2:=m+1) (l1:=l1) (l2:=l2) (I1.ok.hd hc) (IT h1 h2) nS (k1 l1 xs) (k2 l2 ys) hl hn _ 0 { s1 with heap:=h'} J [] c' rfl (Z1 _)
   ⟨I2, λb hb => fr b (by
    simp only[YY,Zt,ai]at hb;rcases hb with e | e | e | e | e | e<;>rw[e]<;>first | exact Y5 _ | exact bO _ _),⟨_,_,kp _ _ gz,.inl rfl,.inl rfl⟩,kp _ _ gI,⟨_,_,kp _ _ gO⟩,S1.itk g1 λo q=>kp _ o q,S2.itk g2 λo q=>kp _ o q,q1,q2,hL,rfl,λj T x y hj _ _=>by simp at hj⟩ λs' H' D c2 I' i4 f' l' n' i7=>?_
  have i9:J (m+5)=none:=(fr (m+5) (bO _ _)).1;have ok:ObjOk X.prog X.w (upd H' (m+5) (.lst (D.map V.ref))) s'.heap (m+5) (.lst (D.map V.ref)):=⟨by rw[Y2,n'];have:(1000:Nat)<sizeLine:=(by decide);omega,_,c2,JG D,l'⟩;have i0:Ab H' (upd H' (m+5) (.lst (D.map V.ref))):=Ab.new f'.1;exact⟨rfl,.ref (m+5),_,I'.trackN (tk:=s'.toks) (h':=s'.heap) f' (λb o _ e=>e) ⟨_,l'⟩ ok,rfl,q (m+5) _ D (i4.trans i0) i9 Af n' λj T x y a b c=>i0 _ _ (i7 j T x y a b c)⟩) Z rfl))
set_option maxHeartbeats 8000000 in
theorem Vh(P:yP)(w:yN)(K:Fgx):DW (Cy P w K) (B2 P w K):=⟨trivial,trivial,λZ l2 y O=>
 .of_wp λprog w A R s h=>by
  obtain⟨hp,g,d,tk,os⟩:=s;obtain⟨D,J,h⟩:=h;have i0:=sub_zip;have B:Heap.IsList (Shared.heap ⟨hp,g,d,tk,os⟩) Z y:=D;have G:Heap.IsTuple (Shared.heap ⟨(hp).push { cls:= .type "list_iterator",data:= .fields #[.ref Z,.int 0 0]},g,d,tk,os⟩) l2 O:=Heap.IsTuple.push (J) _
  wp_walk using aC B,ZR G
  exact⟨_,rfl,h⟩⟩
theorem Vi(P:yP)(w:yN)(K:Fgx){X:Cx}{es:List yL}{k:Nat}{p pos B:Pos}{D y:yL}{J:TA}(hg:Gl X "zip")(hm:X.mg "zip"=none)(ha:PA X [D,y] J)(O:autoParam (X.prog=P) L3)(hw:autoParam (X.w=w) L3)(Z:autoParam (X.K=K) L3)
  (hs:autoParam (starEach [D,y] X.env=[(false,eval D X.env),(false,eval y X.env)]) L3) (G:autoParam (starEach [y] X.env=[(false,eval y X.env)]) L3):
  PI X (.Tuple es k B) (.Call (.Name "zip" p) [D,y] [] pos) (E3 (Cy P w K) (B2 P w K) J):=by subst O hw Z;exact IU _ _ (Vh _ _ _) hg hm ha hs G
section
open PySem PySem.Spec PyProof.Rows PySem.W
variable{i j:Nat}{vs:yX}{L:yR}{X:Cx}{H:Hp}{Ts:List yR}
noncomputable def CF{α:Type}(lt:Nat->Nat->Bool):KasT α->α
 | .ret a=>a
 | .ask i j k=>CF lt (k (lt i j))
noncomputable def kIn{α:Type}(n:Nat):KasT α->Bool
 | .ret _=>true
 | .ask i j k=>decide (i<n) && decide (j<n) && kIn n (k true) && kIn n (k false)
theorem Ny{y:Type}{n:Nat}{k:Bool->KasT y}(h:kIn n (.ask i j k)=true):i<n/\j<n/\∀b,kIn n (k b)=true:=by
 unfold kIn at h;simp only[Z5,Zf]at h;exact⟨h.1.1.1,h.1.1.2,λb=>by cases b;exact h.2;exact h.1.2⟩
theorem JH{y:Type}{n:Nat}{lt:Nat->Nat->Bool}{cmp:Nat->Nat->(Bool->yS->Prop)->yS->Prop}{s:yS}(B:∀i j C,i<n->j<n->C (lt i j) s->cmp i j C s):
  ∀ {t:KasT y}{Q:y->yS->Prop},kIn n t=true->Q (CF lt t) s->t.kasWp cmp Q s
 | .ret _,_,_,h=>h
 | .ask i j k,_,hi,h=>by
  obtain⟨J,D,G⟩:=Ny hi;exact B i j _ J D (JH B (G _) h)
theorem Nz{G:Type}{n:Nat}{lt lt':Nat->Nat->Bool}(y:∀i j,i<n->j<n->lt i j=lt' i j):∀ {t:KasT G},kIn n t=true->CF lt t=CF lt' t
 | .ret _,_=>rfl
 | .ask i j k,hi=>by
  obtain⟨J,B,D⟩:=Ny hi;show CF lt (k (lt i j))=CF lt' (k (lt' i j));rw[y i j J B];exact Nz y (D _)
noncomputable def F9:Nat->Nat->List (List Nat)
 | 0,_=>[[]]
 | k+1,n=>(F9 k n).flatMap λr=>(List.range n).map λx=>x::r
theorem NA:∀ {k n:Nat}{r:List Nat},r.length=k->(∀x∈r,x<n)->r∈F9 k n
 | 0,_,[],_,_=>by simp[F9]
 | k+1,n,x::r,hl,h=>by
  unfold F9;rw[List.mem_flatMap];exact⟨r,NA (by simpa using hl) (λy B=>h y (by simp[B])),by rw[Zj];exact⟨x,by rw[Zr];exact h x (by simp),rfl⟩⟩
def Hl(r:List Nat):List Nat->Bool
 | []=>true
 | x::l=>(l.all λy=>decide (r.getD x 0<=r.getD y 0)) && Hl r l
theorem NB{r:List Nat}:∀ {l:List Nat},Hl r l=true->l.Pairwise λx y=>r.getD x 0<=r.getD y 0
 | [],_=> .nil
 | x::l,h=>by
  unfold Hl at h;simp only[Z5,ZF,Zf]at h;exact .cons h.1 (NB h.2)
noncomputable def Ga(n:Nat):Bool:=kIn n (kas_sort n) &&(F9 n n).all λr=>(CF (λi j=>decide (r.getD i 0<r.getD j 0)) (kas_sort n)).toList.isPerm (List.range n) && Hl r (CF (λi j=>decide (r.getD i 0<r.getD j 0)) (kas_sort n)).toList
theorem Vj:Ga 2=true:=by decide+kernel
theorem Vk:Ga 3=true:=by decide+kernel
theorem Vl:Ga 4=true:=by decide+kernel
theorem Vm{n:Nat}(y:2<=n)(h4:n<=4):Ga n=true:=by
 have:n=2\/n=3\/n=4:=by omega
 rcases this with e | e | e<;>subst e
 .exact Vj
 .exact Vk
 .exact Vl
theorem JI{p q:Nat->Bool}:∀ {l:List Nat},(∀x∈l,p x=true->q x=true)->(∃x∈l,q x=true/\p x=false)->l.countP p<l.countP q
 | [],_,⟨_,h,_⟩=>by cases h
 | a::l,h,⟨x,hx,h1,h2⟩=>by
  have K:l.countP p<=l.countP q:=fW λy B D=>h y (by simp[B]) D
  rw[List.countP_cons,List.countP_cons];rcases YY.mp hx with e | e
  .subst e;rw[h1,h2];simp;omega
  .have G:=JI (p:=p) (q:=q) (l:=l) (λy B=>h y (by simp[B])) ⟨x,e,h1,h2⟩;have O:=h a (by simp);cases D:p a<;>cases J:q a<;>simp_all<;>omega
noncomputable def BF(c d:Int×Int):Bool:=decide (c.1<d.1) || (decide (c.1=d.1) && decide (c.2<d.2))
theorem Gb{c d:Int×Int}:BF c d=true↔(c.1<d.1\/(c.1=d.1/\c.2<d.2)):=by unfold BF;simp
noncomputable def DM(cs:List (Int×Int))(i:Nat):Nat:=(List.range cs.length).countP λk=>BF (cs.getD k (0,0)) (cs.getD i (0,0))
theorem Vn{cs:List (Int×Int)}(hi:i<cs.length):DM cs i<cs.length:=by
 have:DM cs i<(List.range cs.length).countP λ_=>true:=JI (λ_ _ _=>rfl) ⟨i,by rw[Zr];exact hi,rfl,by
  cases h:BF (cs.getD i (0,0)) (cs.getD i (0,0))
  .rfl
  .rw[Gb]at h;omega⟩
 simpa using this
theorem NC{cs:List (Int×Int)}(hi:i<cs.length)(G:j<cs.length):BF (cs.getD i (0,0)) (cs.getD j (0,0))=decide (DM cs i<DM cs j):=by
 cases h:BF (cs.getD i (0,0)) (cs.getD j (0,0))
 .symm
  rw[fj,gi];refine fW λk _ y=>?_
  have D:¬(BF (cs.getD i (0,0)) (cs.getD j (0,0))=true):=by rw[h];simp
  rw[Gb]at D y ⊢;omega
 .symm
  rw[Zf];refine JI (λk _ y=>?_) ⟨i,by rw[Zr];exact hi,h,?_⟩
  .rw[Gb]at h y ⊢;omega
  .cases B:BF (cs.getD i (0,0)) (cs.getD i (0,0))
   .rfl
   .rw[Gb]at B;omega
theorem Vo{cs:List (Int×Int)}(h2:2<=cs.length)(h4:cs.length<=4):
  kIn cs.length (kas_sort cs.length)=true/\(CF (λi j=>BF (cs.getD i (0,0)) (cs.getD j (0,0))) (kas_sort cs.length)).toList.Perm (List.range cs.length)/\
   (CF (λi j=>BF (cs.getD i (0,0)) (cs.getD j (0,0))) (kas_sort cs.length)).toList.Pairwise λx y=>(cs.getD x (0,0)).1<=(cs.getD y (0,0)).1:=by
 have J:=Vm h2 h4;unfold Ga at J;rw[Z5]at J;obtain⟨k1,k2⟩:=J;rw[ZF]at k2;have B:=k2 ((List.range cs.length).map (DM cs)) (NA (by simp) (λx O=>by
  obtain⟨i,hi,e⟩:=Zj.mp O;rw[<-e];exact Vn (Zr.mp hi)))
 have gt:∀i,i<cs.length->((List.range cs.length).map (DM cs)).getD i 0=DM cs i:=λi hi=>by
  rw[Y3,YU,bH hi];rfl
 have e:CF (λi j=>decide (((List.range cs.length).map (DM cs)).getD i 0<((List.range cs.length).map (DM cs)).getD j 0)) (kas_sort cs.length)=CF (λi j=>BF (cs.getD i (0,0)) (cs.getD j (0,0))) (kas_sort cs.length):=
  Nz (n:=cs.length) (λi j hi Z=>by rw[gt i hi,gt j Z,NC hi Z]) k1
 rw[e,Z5]at B;obtain⟨p,pw⟩:=B;have K:=List.isPerm_iff.mp p;refine⟨k1,K,?_⟩;refine(NB pw).imp_of_mem λ{x y} O hy h=>?_
 have G:=Zr.mp (K.mem_iff.mp O);have D:=Zr.mp (K.mem_iff.mp hy);rw[gt x G,gt y D]at h;have n1:¬(BF (cs.getD y (0,0)) (cs.getD x (0,0))=true):=by rw[NC D G,Zf];omega
 rw[Gb]at n1;omega
def JJ(h:Heap)(vs:yX)(cs:List (Int×Int)):Prop:=vs.length=cs.length/\∀(j:Nat) (v:yU),vs[j]? =some v->∃a o n t u,v= .ref a/\h.get? a=some o/\o.cls= .type "tuple" /\o.data= .seq #[.int (cs.getD j (0,0)).1 t,.int (cs.getD j (0,0)).2 u] n
section
variable{prog:yP}{w:yN}{A:yO}{E:yY}{s:yS}
theorem ND:∀ {vs:yX}{h:Heap},(∀v∈vs,∃a o n c d t u,v=Value.ref a/\h.get? a=some o/\o.cls= .type "tuple" /\o.data= .seq #[.int c t,.int d u] n)->∃fs,KatTups h vs fs/\fs.length=vs.length/\∀f∈fs,∃c t,f=Value.int c t
 | [],_,_=>⟨[],.nil,rfl,λ_ h=>by cases h⟩
 | v::vs,h,hv=>by
  obtain⟨a,o,n,c,d,t,u,rfl,D,G,hd⟩:=hv v (by simp);obtain⟨fs,O,J,K⟩:=ND (vs:=vs) (h:=h) λv y=>hv v (by simp[y])
  exact⟨.int c t::fs,.cons D G hd rfl O,by simp[J],λf B=>by
   rcases YY.mp B with e | e
   .exact⟨c,t,e⟩
   .exact K f e⟩
theorem Vp{cs:List (Int×Int)}(p:JJ s.heap vs cs){i j:Nat}(hi:i<cs.length)(hj:j<cs.length){C:Bool->yS->Prop}(h:C (BF (cs.getD i (0,0)) (cs.getD j (0,0))) s):kas_ask prog w A (tuples' true) vs i j C s:=by
 unfold kas_ask;have K:i<vs.length:=by rw[p.1];exact hi
 have J:j<vs.length:=by rw[p.1];exact hj
 obtain⟨a,o,n,t,u,e,ho,hc,hd⟩:=p.2 i vs[i] (Y6 K);obtain⟨a',o',n',G,O,e',D,i0,y⟩:=p.2 j vs[j] (Y6 J);rw[show vs.getD i Value.none= .ref a from by rw[Y3,Y6 K,<-e];rfl,show vs.getD j Value.none= .ref a' from by rw[Y3,Y6 J,<-e'];rfl];refine kat_lt ho hd D y ?_;generalize cs.getD i (0,0)=c at h hd ⊢;generalize cs.getD j (0,0)=d at h y ⊢;show KatLex prog w A true _ C [(.int c.1 t,.int d.1 G),(.int c.2 u,.int d.2 O)] 0 s;refine kat_cons (bK ?_);refine kat_go (λB=>kat_yes (kat_cons (bK (kat_go (λZ=>kat_yes (kat_nil ?_)) λZ=>kat_no ?_)))) λB=>kat_no ?_
 .have x1:c.1=d.1:=by simpa using B
  have x2:c.2=d.2:=by simpa using Z
  have:BF c d=false:=by unfold BF;simp[x1,x2]
  rw[this]at h;exact h
 .have x1:c.1=d.1:=by simpa using B
  show wpAny _ _ (oneLt' false (.int c.2 u) (.int d.2 O)) _ _ _;refine kat_one _ _ ?_;have:BF c d=decide (c.2<d.2):=by unfold BF;simp[x1]
  rw[this]at h;exact wpAny_lt_int h
 .have x1:c.1≠d.1:=by simpa using B
  show wpAny _ _ (oneLt' true (.int c.1 t) (.int d.1 G)) _ _ _;refine oneLt_int ?_;have:BF c d=decide (c.1<d.1):=by unfold BF;simp[x1]
  rw[this]at h;exact h
theorem Vq{a:yR}{vs:yX}{n:Nat}{P:PySem.Fin->yS->Prop}(G:s.heap.get? a=some (seqObj "list" vs.toArray n))(few:vs.length<=1)
  (h:∀g c,KpBut a s.heap g->g.get? a=some (seqObj "list" vs.toArray c)->P (.done (.ret .none)) { s with heap:=g}):wpAny (model prog w) A (Builtin.«list.sort» ⟨[.ref a],[]⟩) P E s:=by
 have big:vs.toArray.size<=sizeLine:=by rw[Z4];exact YV few (by decide)
 have B:vs.toArray.size<2:=by rw[Z4];omega
 have same:(arrOf (SortSt.mk' general' (vs.toArray.zip vs.toArray) #[] 7 none)).map (·.2)=vs.toArray:=by
  match vs,few with
  | [],_=>show(Array.zip #[] #[]).map _=_;simp
  | [v],_=>show(Array.zip #[v] #[v]).map _=_;simp
  | _::_::_,f=>simp at f
 obtain⟨K,J⟩:∃K,(s.heap.update a (Obj.mapSeq λ_=> #[])).get? a=some (seqObj "list" #[] K):=⟨_,get?_update_seq G λ_=> #[]⟩;have Z:=KpBut.upd (a:=a) (g:=s.heap) (Obj.mapSeq λ_=> #[]);rw[list_sort_plain];refine Y0 (listItems_at G rfl (Y0 (listUpdate_at G rfl ?_ big (Z1 _))));generalize s.heap.update a (Obj.mapSeq λ_=> #[])=y at J Z;refine Y0 (seqEpoch_at (s:= { s with heap:=y}) J rfl (Y0 (fR (Y0 (gv (Zp ?_) (Z1 _))) big)));have D:((y.push (seqObj "tuple" vs.toArray 0)).push (seqObj "list" #[] 0)).get? a=some (seqObj "list" #[] K):=Y1 _ (Y1 _ J);have O:KpBut a s.heap ((y.push (seqObj "tuple" vs.toArray 0)).push (seqObj "list" #[] 0)):=Z.trans ((KpBut.new _).trans (KpBut.new _));show wpAny (model prog w) A _ P E { s with heap:=(y.push (seqObj "tuple" vs.toArray 0)).push (seqObj "list" #[] 0)};generalize(y.push (seqObj "tuple" vs.toArray 0)).push (seqObj "list" #[] 0)=g3 at D O;simp only[YN B,StateT.run_pure];refine Y0 (Y4 (Y0 (Y4 (Y0 (seqEpoch_at (s:= { s with heap:=g3}) D rfl ?_)))));dsimp only;rw[same];refine Y0 (listUpdate_at (s:= { s with heap:=g3}) D rfl ?_ (Z1 _) (Nat.le_succ_of_le big));rw[bne_self_eq_false];exact Y4 (h _ _ (O.trans (KpBut.upd _)) (get?_update_seq D λ_=>vs.toArray))
theorem NE{l:yR}{Q:VSP}(K:s.heap.IsList l vs.toArray)(few:vs.length<=1)
  (h:∀D g c,s.heap.objs.size<=D->(∀b o,s.heap.get? b=some o->g.get? b=some o)->g.get? D=some (seqObj "list" vs.toArray c)->Q (.ref D) { s with heap:=g}):wpAny (model prog w) A (call (.builtin "sorted") [.ref l]) Q E s:=by
 have big:vs.length<=sizeLine:=YV few (by decide);have B:∀b o,s.heap.get? b=some o->((s.heap.push (seqObj "list" #[] 0)).update s.heap.objs.size (Obj.mapSeq (· ++vs.toArray))).get? b=some o:=λb o e=>KpBut.upd _ b o (YT (Y7 e)) (Y1 _ e)
 have y:((s.heap.push (seqObj "list" #[] 0)).update s.heap.objs.size (Obj.mapSeq (· ++vs.toArray))).objs.size=s.heap.objs.size+1:=by simp[cU,size_push']
 refine eO kind_sorted plain_sorted entry_sorted (args_sorted1 _) (Y0 (m:=checkCount "sorted" 1 1 _) (Y4 (Y0 (collect_list K ?_ big))));generalize(s.heap.push (seqObj "list" #[] 0)).update s.heap.objs.size (Obj.mapSeq (· ++vs.toArray))=gS at B y;refine Y0 (gv ?_ big);have G:(gS.push (seqObj "list" vs.toArray 0)).get? gS.objs.size=some (seqObj "list" vs.toArray 0):=YM _ rfl;exact Y0 (Zp (Zq slot_list_sort ⟨_,G,rfl⟩ entry_list_sort (Vq (s:= { s with heap:=gS.push (seqObj "list" vs.toArray 0)}) G few λg c kp J=>⟨_,rfl,Y4 ⟨_,rfl,h gS.objs.size g c (by rw[y];exact Zx _) (λb o e=>kp b o (YT (by rw[y];exact ZM (Y7 e))) (Y1 _ (B b o e))) J⟩⟩) (args_list_sort _)))
def Hm(g:Heap)(L:yR):PNs:=(List.range g.objs.size).filterMap λb=>if b=L then none else(g.get? b).map λo=>(b,o)
theorem allBut_mem{g:Heap}{q:yR×Obj}:q∈Hm g L↔q.1≠L/\g.get? q.1=some q.2:=by
 unfold Hm;rw[ZG];constructor
 .rintro⟨b,_,e⟩
  by_cases z:b=L
  .rw[YN z]at e;cases e
  .rw [Y8 z] at e;cases y:g.get? b with
   | none=>rw[y]at e;cases e
   | some o=>rw[y]at e;cases e;exact⟨z,y⟩
 .rintro⟨n,e⟩;exact⟨q.1,Zr.mpr (Y7 e),by rw[Y8 n,e];rfl⟩
end
theorem Ac.laidF{ad:PNs}{σ:St}{s:yS}{g:Heap}{D:yR}{o:HO}{m:Str->yW}(I:Ac X ad σ H s)(kp:∀b u,b≠X.env.locals->s.heap.get? b=some u->g.get? b=some u)(n0:s.heap.Ns X.env.locals m)(K:g.Ns X.env.locals m)
  (B:s.heap.get? D=none) (new:ObjOk X.prog X.w (upd H D o) g D o):Ac X ad σ (upd H D o) { s with heap:=g}:=by
 have hD:H D=none:=by
  cases e:H D with
  | none=>rfl
  | some u=>obtain⟨ob,z⟩:=(I.hok D u e).there;rw[B]at z;cases z
 have ne:∀b u,s.heap.get? b=some u->b≠D:=λb u e z=>by rw[z,B]at e;cases e
 have G:∀b u,H b=some u->b≠D:=λb u e z=>by rw[z,hD]at e;cases e
 have O:∀b u,H b=some u->b≠X.env.locals:=λb u e z=>by rw[z,I.free]at e;cases e
 refine I.step (g':=s.gens) (t':=s.toks) (d':=s.drawn) (ch:=[]) (λ_ z=>nomatch z) (λb u n _ _ e _=>kp b u n e) (λb u n _ _ e _=>⟨u.slots,kp b u n e⟩) (λb u _ e n=>by rw[Ao (ne b u e)];exact n) (λb u _ e=>?_)
  (λb xs e=>by rw[Ao (G b _ e)];exact e) (λb u v e=>by rw[Ao (G b _ e)];exact e) (λb ps e=>⟨#[],by rw[Ao (G b _ e),e];simp⟩) (λm' z=>?_) (λb u e=>?_) I.bare
 .by_cases z:b=X.env.locals
  .obtain⟨o',_,_,q,_⟩:=K;exact⟨o',by rw[z];exact q⟩
  .exact⟨u,kp b u z e⟩
 .have em:m'=m:=by
   obtain⟨o1,i0,i4,q1,d1,_,f1⟩:=z;obtain⟨o2,i5,i6,J,Z,_,f2⟩:=n0;rw[q1]at J;cases J;rw[d1]at Z;cases Z
   funext x
   rw[<-f1,<-f2]
  rw[em];exact K
 .by_cases z:b=D
  .subst z;rw[Af]at e;cases e;exact new
  .rw [Ao z] at e;refine(I.hok b u e).stay (λc v hc q=>kp c v ?_ q) (λc q=>by rw [Ao (G c _ q)];exact q) λc xs q=>by rw [Ao (G c _ q)];exact q
   rcases hc with y | y
   .rw[y];exact O b u e
   .exact O c _ y
def PrT(H:Hp)(y:List yR)(cs:List (Int×Int)):Prop:=y.length=cs.length/\∀(j:Nat) (T:yR) (c:Int×Int),y[j]? =some T->cs[j]? =some c->H T=some (.tup [.int c.1,.int c.2])
theorem JK:∀ {y:List yR}{us:yX},Av (y.map V.ref) us->us=y.map Value.ref
 | [],_,.nil=>rfl
 | T::y,_,.cons h r=>by
  have:=JK r;cases h;rw[this];rfl
theorem Vr:Bo X (.builtin "sorted") (λxs H Q=>∃(p:yR) (J:List yR) (cs:List (Int×Int)),xs=[.ref p]/\H p=some (.lst (J.map V.ref))/\J.length<=4/\PrT H J cs/\∀(l:yR) (i4:List yR) (i0:List (Int×Int)),H l=none->PrT H i4 i0->i0.Perm cs->i0.Pairwise (λc d=>c.1<=d.1)->Q (.ref l) (upd H l (.lst (i4.map V.ref)))):=by
 intro ad s σ H xs us Q I r h;obtain⟨p,J,cs,rfl,hp,hn,pr,q⟩:=h;obtain⟨u,rfl,ru⟩:=r.one;cases ru;obtain⟨G,rv,pl,hz⟩:=I.list (Al.of hp);have hl:=rv.length;rw[Y2]at hl;have ei:G=J.map Value.ref:=JK rv;have pv:JJ s.heap G cs:=⟨by rw[<-hl,pr.1],λj v hv=>by
  rw[ei,YU]at hv;cases O:J[j]? with
  | none=>rw[O]at hv;cases hv
  | some T=>
   rw[O]at hv;cases hv;have lj:j<cs.length:=by rw[<-pr.1];exact(Y9.mp O).1
   have hH:=pr.2 j T cs[j] O (Y6 lj);rw[show cs.getD j (0,0)=cs[j] from by rw[Y3,Y6 lj];rfl];obtain⟨us,r',t',z'⟩:=I.tuple (Ae.of hH);obtain⟨u1,u2,rfl,r1,r2⟩:=r'.two;obtain⟨t1,rfl⟩:=r1;obtain⟨t2,rfl⟩:=r2;obtain⟨o,ho,hc,n,hd⟩:=t';exact⟨T,o,n,t1,t2,rfl,ho,hc,hd⟩⟩
 obtain⟨m,n0,_⟩:=id I.loc;have fin:∀(B:List Nat) (D:yR) (g:Heap) (c:Nat),B.Perm (List.range cs.length)->B.Pairwise (λx y=>(cs.getD x (0,0)).1<=(cs.getD y (0,0)).1)->s.heap.get? D=none->(∀b u,b≠X.env.locals->s.heap.get? b=some u->g.get? b=some u)->g.Ns X.env.locals m->g.get? D=some (seqObj "list" (B.map λi=>G.getD i Value.none).toArray c)->EP X ad σ Q (.ref D) { s with heap:=g}:=by
  intro B D g c pp pw Z kp n1 gD;have lo:B.length=cs.length:=by simpa using pp.length_eq
  have mo:∀i∈B,i<cs.length:=λi hi=>Zr.mp (pp.mem_iff.mp hi)
  have eo:(B.map λi=>G.getD i Value.none)=(B.map λi=>J.getD i 0).map Value.ref:=by
   rw[ae];refine dH λi hi=>?_
   have li:i<J.length:=by rw[pr.1];exact mo i hi
   rw[ei,Y3,YU,Y6 li];show Value.ref J[i]=Value.ref (J.getD i 0);rw[Y3,Y6 li];rfl
  rw[eo]at gD;have i7:H D=none:=by
   cases e:H D with
   | none=>rfl
   | some u=>obtain⟨ob,z⟩:=(I.hok D u e).there;rw[Z]at z;cases z
  refine⟨.ref D,_,I.laidF (o:= .lst ((B.map λi=>J.getD i 0).map V.ref)) kp n0 n1 Z ⟨?_,_,c,JG _,?_⟩,rfl,q _ (B.map λi=>J.getD i 0) (B.map λi=>cs.getD i (0,0)) i7 ⟨by simp,λj T c O hc=>?_⟩ ?_ ?_⟩
  .rw[Y2,Y2,lo,<-pr.1];exact YV hn (by decide)
  .simpa[seqObj] using gD
  .rw [YU] at O hc;cases ho:B[j]? with
   | none=>rw[ho]at O;cases O
   | some i=>
    rw[ho]at O hc;cases O;cases hc;have li:i<cs.length:=mo i (YW ho);have lt:i<J.length:=by rw[pr.1];exact li
    refine pr.2 i _ _ ?_ ?_
    .show J[i]? =some (J.getD i 0);rw[Y3,Y6 lt];rfl
    .show cs[i]? =some (cs.getD i (0,0));rw[Y3,Y6 li];rfl
  .have e:(List.range cs.length).map (λi=>cs.getD i (0,0))=cs:=by
    apply fM
    .simp
    .intro i h1 h2;simp[Y3,Y6 h2]
   have:=pp.map λi=>cs.getD i (0,0)
   rw[e]at this;exact this
  .rw[List.pairwise_map];exact pw
 by_cases h2:2<=G.length
 .have F0:Fr {} X.env.locals s.heap m:=⟨n0,λb o e=>(by rw[ak (Z1 b)]at e;cases e),Z1 _⟩;have N0:News {} X.env.locals s.heap (Hm s.heap X.env.locals):=λz hz=>⟨(allBut_mem.mp hz).2,(allBut_mem.mp hz).1,ak (Z1 _)⟩
  have cl:2<=cs.length:=by rw[<-pv.1];exact h2
  obtain⟨ki,i5,i8⟩:=Vo cl (by rw[<-pr.1];exact hn);refine kat_sorted F0 N0 pl.isList h2 (by omega) λD e1 g F1 N1 K=>?_
  have nD:D≠X.env.locals:=(N1 _ YR).2.1;have Z:s.heap.get? D=none:=by
   cases e:s.heap.get? D with
   | none=>rfl
   | some ob=>exact absurd (K (D,ob) (allBut_mem.mpr ⟨nD,e⟩)) (YX D)
  have i6:∀b u,b≠X.env.locals->s.heap.get? b=some u->g.get? b=some u:=λb u n e=>(N1 (b,u) (YQ _ (allBut_mem.mpr ⟨n,e⟩))).1
  have pg:JJ g G cs:=⟨pv.1,λj v hv=>by
   obtain⟨a,o,n,t,u,e,ho,hc,hd⟩:=pv.2 j v hv;refine⟨a,o,n,t,u,e,i6 a o (λz=>?_) ho,hc,hd⟩;obtain⟨o2,_,_,q2,d2,_⟩:=n0;rw[<-z,ho]at q2;cases q2;rw[hd]at d2;cases d2⟩
  obtain⟨fs,t1,t2,t3⟩:=ND (vs:=G) (h:=g) (λv hv=>by
   obtain⟨j,hj,e⟩:=aK.mp hv;obtain⟨a,o,n,t,u,e',x1,x2,x3⟩:=pg.2 j v (by rw[Y6 hj,e]);exact⟨a,o,n,_,_,t,u,e',x1,x2,x3⟩)
  refine kat_kind (s:= { s with heap:=g}) (T:= .type "int") t1 (by omega) (λf hf=>by
   obtain⟨c,t,e⟩:=t3 f hf;rw[e];exact Looks.of_pure rfl) rfl ?_
  show KasT.kasWp _ _ _ _;rw[pv.1];refine JH (n:=cs.length) (lt:=λi j=>BF (cs.getD i (0,0)) (cs.getD j (0,0))) (λi j C hi hj hC=>Vp pg hi hj hC) ki ?_;refine KasFin.intro (s:= { s with heap:=g}) F1 N1 (.head λz hz=>YT (K z hz)) λg2 c F2 N2=>?_
  exact fin _ D g2 c i5 i8 Z (λb u n e=>(N2 (b,u) (YQ _ (allBut_mem.mpr ⟨n,e⟩))).1) F2.ns (N2 _ YR).1
 .refine NE pl.isList (by omega) λD g c hD kp gD=>?_
  refine fin (List.range cs.length) D g c (List.Perm.refl _) ?_ (ak hD) (λb u _ e=>kp b u e) ?_ ?_
  .have:cs.length<=1:=by rw [<-pv.1];omega
   refine(fN).imp_of_mem λ{x y} hx hy lt=>?_
   have:=Zr.mp hy;omega
  .obtain⟨o,es,ep,e,r'⟩:=n0;exact⟨o,es,ep,kp _ _ e,r'⟩
  .rw[gD];have e:((List.range cs.length).map λi=>G.getD i Value.none)=G:=by
    rw[<-pv.1];apply fM
    .simp
    .intro i a b;simp[Y3,Y6 b]
   rw[e]
theorem PrT.sm{H':Hp}{cs:List (Int×Int)}(p:PrT H Ts cs)(s:Ab H H'):PrT H' Ts cs:=⟨p.1,λj T c a b=>s _ _ (p.2 j T c a b)⟩
theorem PrT.own{cs:List (Int×Int)}{ys:zA}{o:HO}(p:PrT H Ts cs)(h:H L=some (.lst ys)):PrT (upd H L o) Ts cs:=⟨p.1,λj T c a b=>by
 have k:=p.2 j T c a b;rw[Ao (λz=>by rw[z,h]at k;cases k)];exact k⟩
end
section
open PySem PySem.Spec PyProof.Rows PySem.W
variable{H:Hp}{Ts:List yR}{rs:yZ}
noncomputable def Cq:yV->yV->Bool
 | a::as,b::bs=>decide (a<b) || (decide (a=b) && Cq as bs)
 | _,_=>false
theorem NF:∀ {as:yV},Cq as as=false
 | []=>rfl
 | a::as=>by unfold Cq;rw[NF];simp
theorem NG:∀ {as bs:yV},Cq as bs=true->Cq bs as=false
 | a::as,b::bs,h=>by
  unfold Cq at h ⊢;simp only[bW,Z5,Zf]at h;rcases h with h | ⟨rfl,h⟩
  .rw[Zh (by omega),Zh (by omega)];rfl
  .rw[NG h];simp
 | [],_,h=>by simp[Cq]at h
 | _::_,[],h=>by simp[Cq]at h
section
variable{prog:yP}{w:yN}{A:yO}{E:yY}{s:yS}
theorem NH{C:Bool->yS->Prop}:∀ {us vs:yX}{as bs:yV}{i:Nat},IntsAre us as->IntsAre vs bs->as.length=bs.length->C (Cq as bs) s->KatLex prog w A true false C (us.zip vs) i s
 | _,_,_,_,i,.nil,.nil,_,h=>kat_nil h
 | _,_,_,_,i,.cons a t hr,.cons b u hq,hl,h=>by
  refine kat_cons (bK ?_);refine kat_go (λe=>kat_yes (NH hr hq (by simpa using hl) ?_)) λe=>kat_no ?_
  .have y:a=b:=by simpa using e
   unfold Cq at h;rw[Zh (by omega),Z9 y]at h
   simpa using h
  .have y:a≠b:=by simpa using e
   have B:C (decide (a<b)) s:=by
    unfold Cq at h;rw[Zh y]at h
    simpa using h
   cases i with
   | zero=>exact oneLt_int B
   | succ i=>exact kat_one _ _ (wpAny_lt_int B)
 | _,_,_,_,i,.nil,.cons _ _ _,hl,_=>by simp at hl
 | _,_,_,_,i,.cons _ _ _,.nil,hl,_=>by simp at hl
end
noncomputable def NI(n:Nat):Bool:=kIn n (kas_sort n) && decide ((CF (λi j=>decide (i<j)) (kas_sort n)).toList=List.range n)
theorem Vt:∀n,n<=6->2<=n->NI n=true:=by decide+kernel
def NJ(h:Heap)(vs:yX)(B:yZ):Prop:=vs.length=B.length/\∀(j:Nat) (v:yU),vs[j]? =some v->∃a o n y,v= .ref a/\h.get? a=some o/\o.cls= .type "tuple" /\o.data= .seq (List.toArray y) n/\IntsAre y (B.getD j [])
def RwT(H:Hp)(B:List yR)(y:yZ):Prop:=B.length=y.length/\∀(j:Nat) (T:yR) (r:yV),B[j]? =some T->y[j]? =some r->H T=some (.tup (r.map V.int))
def Vu:zA->Hp->VK->Prop:=λG H Q=>∃(p:yR) (y:List yR) (B:yZ) (k:Nat),G=[.ref p]/\H p=some (.lst (y.map V.ref))/\y.length<=6/\RwT H y B/\1<=k/\(∀r∈B,r.length=k)/\B.Pairwise (λa b=>Cq a b=true)/\
 ∀(l:yR) (D:Hp),Ab H D->H l=none->D l=some (.lst (y.map V.ref))->Q (.ref l) D
theorem NK:∀ {vs:yX}{h:Heap},(∀v∈vs,∃a o n c t y,v=Value.ref a/\h.get? a=some o/\o.cls= .type "tuple" /\o.data= .seq (List.toArray (Value.int c t::y)) n)->∃fs,KatTups h vs fs/\fs.length=vs.length/\∀f∈fs,∃c t,f=Value.int c t
 | [],_,_=>⟨[],.nil,rfl,λ_ h=>by cases h⟩
 | v::vs,h,hv=>by
  obtain⟨a,o,n,c,t,y,rfl,G,J,hd⟩:=hv v (by simp);obtain⟨fs,Z,K,O⟩:=NK (vs:=vs) (h:=h) λv B=>hv v (by simp[B])
  refine⟨.int c t::fs,.cons G J hd ?_ Z,by simp[K],λf D=>?_⟩
  .simp
  .rcases YY.mp D with e | e
   .exact⟨c,t,e⟩
   .exact O f e
theorem Vv{X:Cx}:Bo X (.builtin "sorted") Vu:=by
 intro ad s σ H xs us Q I r h;obtain⟨p,Ts,B,k,rfl,hp,hn,i4,k1,hk,up,q⟩:=h;obtain⟨u,rfl,ru⟩:=r.one;cases ru;obtain⟨y,rv,pl,hz⟩:=I.list (Al.of hp);have hl:=rv.length;rw[Y2]at hl;have ei:y=Ts.map Value.ref:=JK rv;have pv:NJ s.heap y B:=⟨by rw[<-hl,i4.1],λj v Z=>by
  rw[ei,YU]at Z;cases hT:Ts[j]? with
  | none=>rw[hT]at Z;cases Z
  | some T=>
   rw[hT]at Z;cases Z;have J:j<B.length:=by rw[<-i4.1];exact(Y9.mp hT).1
   have hH:=i4.2 j T B[j] hT (Y6 J);obtain⟨us,r',t',z'⟩:=I.tuple (Ae.of hH);obtain⟨o,ho,hc,n,hd⟩:=t';exact⟨T,o,n,us,rfl,ho,hc,hd,by rw[show B.getD j []=B[j] from by rw[Y3,Y6 J];rfl];exact Ix r'⟩⟩
 obtain⟨m,n0,_⟩:=id I.loc;have fin:∀(D:yR) (g:Heap) (c:Nat),s.heap.get? D=none->(∀b u,b≠X.env.locals->s.heap.get? b=some u->g.get? b=some u)->g.Ns X.env.locals m->g.get? D=some (seqObj "list" y.toArray c)->EP X ad σ Q (.ref D) { s with heap:=g}:=by
  intro D g c O kp n1 gD;have i5:H D=none:=by
   cases e:H D with
   | none=>rfl
   | some u=>obtain⟨ob,z⟩:=(I.hok D u e).there;rw[O]at z;cases z
  refine⟨.ref D,_,I.laidF (o:= .lst (Ts.map V.ref)) kp n0 n1 O ⟨by rw[Y2];exact YV hn (by decide),y,c,rv,by simpa[seqObj] using gD⟩,rfl,q _ _ (Ab.new i5) i5 Af⟩
 by_cases h2:2<=y.length
 .have F0:Fr {} X.env.locals s.heap m:=⟨n0,λb o e=>(by rw[ak (Z1 b)]at e;cases e),Z1 _⟩;have N0:News {} X.env.locals s.heap (Hm s.heap X.env.locals):=λz hz=>⟨(allBut_mem.mp hz).2,(allBut_mem.mp hz).1,ak (Z1 _)⟩
  have ck:=Vt y.length (by omega) h2;unfold NI at ck;rw[Z5,Zf]at ck;obtain⟨ki,kr⟩:=ck;refine kat_sorted F0 N0 pl.isList h2 (by omega) λD e1 g F1 N1 G=>?_
  have nD:D≠X.env.locals:=(N1 _ YR).2.1;have O:s.heap.get? D=none:=by
   cases e:s.heap.get? D with
   | none=>rfl
   | some ob=>exact absurd (G (D,ob) (allBut_mem.mpr ⟨nD,e⟩)) (YX D)
  have pg:NJ g y B:=⟨pv.1,λj v Z=>by
   obtain⟨a,o,n,us,e,ho,hc,hd,K⟩:=pv.2 j v Z;refine⟨a,o,n,us,e,(N1 (a,o) (YQ _ (allBut_mem.mpr ⟨λz=>?_,ho⟩))).1,hc,hd,K⟩;obtain⟨o2,_,_,q2,d2,_⟩:=n0;have z':a=X.env.locals:=z;rw[<-z',ho]at q2;cases q2;rw[hd]at d2;cases d2⟩
  obtain⟨fs,t1,t2,t3⟩:=NK (vs:=y) (h:=g) (λv Z=>by
   obtain⟨j,hj,e⟩:=aK.mp Z;obtain⟨a,o,n,us,e',x1,x2,x3,K⟩:=pg.2 j v (by rw[Y6 hj,e]);have J:j<B.length:=by rw[<-pg.1];exact hj
   have hr:=hk B[j] (ZL J);rw[show B.getD j []=B[j] from by rw[Y3,Y6 J];rfl]at K;generalize B[j]=row at K hr;cases K with
   | nil=>simp at hr;omega
   | cons c t hr'=>exact⟨a,o,n,c,t,_,e',x1,x2,x3⟩)
  refine kat_kind (s:= { s with heap:=g}) (T:= .type "int") t1 (by omega) (λf hf=>by
   obtain⟨c,t,e⟩:=t3 f hf;rw[e];exact Looks.of_pure rfl) rfl ?_
  show KasT.kasWp _ _ _ _;refine JH (n:=y.length) (lt:=λi j=>decide (i<j)) (λi j C hi hj hC=>?_) ki ?_
  .unfold kas_ask;obtain⟨a,o,n,i8,e,ho,hc,hd,K⟩:=pg.2 i y[i] (Y6 hi);obtain⟨a',o',n',i7,e',i6,j0,i9,i0⟩:=pg.2 j y[j] (Y6 hj);rw [show y.getD i Value.none= .ref a from by rw [Y3,Y6 hi,<-e];rfl,show y.getD j Value.none= .ref a' from by rw [Y3,Y6 hj,<-e'];rfl];have li:i<B.length:=by rw [<-pg.1];exact hi
   have J:j<B.length:=by rw[<-pg.1];exact hj
   rw[show B.getD i []=B[i] from by rw[Y3,Y6 li];rfl]at K;rw[show B.getD j []=B[j] from by rw[Y3,Y6 J];rfl]at i0;have l1:=hk _ (ZL li);have l2:=hk _ (ZL J);have s1:=K.length;have s2:=i0.length;refine kat_lt ho hd i6 i9 ?_;have sz:decide (i8.toArray.size<i7.toArray.size)=false:=Zh (by simp only[Z4];omega);rw[sz];refine NH K i0 (by omega) ?_;have el:Cq B[i] B[j]=decide (i<j):=by
    rcases Nat.lt_trichotomy i j with c | c | c
    .rw[Z9 c];exact eQ.mp up i j li J c
    .subst c;rw[NF,Zh (YX _)]
    .rw[Zh (by omega)];exact NG (eQ.mp up j i J li c)
   rw[el];exact hC
  rw[kr];refine KasFin.intro (s:= { s with heap:=g}) F1 N1 (.head λz hz=>YT (G z hz)) λg2 c F2 N2=>?_
  have e:((List.range y.length).map λi=>y.getD i Value.none)=y:=by
   apply fM
   .simp
   .intro i a b;simp[Y3,Y6 b]
  rw[e]at N2;exact fin D g2 c O (λb u n e=>(N2 (b,u) (YQ _ (allBut_mem.mpr ⟨n,e⟩))).1) F2.ns (N2 _ YR).1
 .refine NE pl.isList (by omega) λD g c hD kp gD=>?_
  refine fin D g c (ak hD) (λb u _ e=>kp b u e) ?_ gD;obtain⟨o,es,ep,e,r'⟩:=n0;exact⟨o,es,ep,kp _ _ e,r'⟩
theorem RwT.sm{H':Hp}(p:RwT H Ts rs)(s:Ab H H'):RwT H' Ts rs:=⟨p.1,λj T c a b=>s _ _ (p.2 j T c a b)⟩
theorem RwT.own{L:yR}{ys:zA}{o:HO}(p:RwT H Ts rs)(h:H L=some (.lst ys)):RwT (upd H L o) Ts rs:=⟨p.1,λj T c a b=>by
 have k:=p.2 j T c a b;rw[Ao (λz=>by rw[z,h]at k;cases k)];exact k⟩
theorem RwT.snoc{T:yR}{r:yV}(p:RwT H Ts rs)(h:H T=some (.tup (r.map V.int))):RwT H (Ts++[T]) (rs++[r]):=by
 refine⟨by rw[Zb,Zb,p.1];rfl,λj U c a b=>?_⟩
 by_cases z:j<Ts.length
 .rw[ZB z]at a;rw[ZB (by rw[<-p.1];exact z)]at b;exact p.2 j U c a b
 .rw[Zy (by omega)]at a;rw[Zy (by rw[<-p.1];omega),<-p.1]at b;cases e:j-Ts.length with
  | zero=>rw[e]at a b;cases a;cases b;exact h
  | succ n=>rw[e]at a;cases a
theorem RwT.app{y:List yR}{B:yZ}(p:RwT H Ts rs)(q:RwT H y B):RwT H (Ts++y) (rs++B):=by
 refine⟨by rw[Zb,Zb,p.1,q.1],λj U c a b=>?_⟩
 by_cases z:j<Ts.length
 .rw[ZB z]at a;rw[ZB (by rw[<-p.1];exact z)]at b;exact p.2 j U c a b
 .rw[Zy (by omega)]at a;rw[Zy (by rw[<-p.1];omega),<-p.1]at b;exact q.2 _ U c a b
theorem RwT.nil:RwT H [] []:=⟨rfl,λj T r a=>by cases a⟩
end
def NL(prog:yP)(w:yN)(s:yS)(v:yU)(y:yX->yS->Prop):Prop:=
 ∀(A:yO) (Q:yX->yS->Prop) (E:VSP),A.handled=none->(∀B D,y B D->Q B D)->wpAny (model prog w) A (collect v) Q E s
section
variable{prog:yP}{w:yN}{A:yO}{E:yY}{s:yS}
theorem Vw{v:yU}{B:yX->yS->Prop}{Q:VSP}(J:A.handled=none)(c:NL prog w s v B)
  (k:∀vs s1,B vs s1->∃ns:yV,IntsAre vs ns/\vs.length<64/\∀(out:Array yU) (y:yV),IntsAre out.toList y->y.Perm ns->y.Pairwise (· <= ·)->Q (.ref s1.heap.objs.size) { s1 with heap:=sortedHeap (s1.heap.push (seqObj "list" vs.toArray 0)) s1.heap.objs.size vs out}):
  wpAny (model prog w) A (call (.builtin "sorted") [v]) Q E s:=by
 refine eO kind_sorted plain_sorted entry_sorted (args_sorted1 _) ?_;refine Y0 (m:=checkCount "sorted" 1 1 _) (Y4 (Y0 (c A.in1 _ _ (by simpa using J) λvs s1 po=>?_)));obtain⟨ns,G,D,q⟩:=k vs s1 po;have at_:(s1.heap.push (seqObj "list" vs.toArray 0)).get? s1.heap.objs.size=some (seqObj "list" vs.toArray 0):=YM _ rfl;refine Y0 (gv (Y0 (Zp ?_)));exact Zq slot_list_sort ⟨_,at_,rfl⟩ entry_list_sort (list_sort_tree at_ G D λout y a b c=>⟨_,rfl,Y4 ⟨_,rfl,q out y a b c⟩⟩) (args_list_sort _)
end
section
variable{X:Cx}
theorem Vx{ad:PNs}{σ:St}{H:Hp}{s:yS}{Q:VK}{vs:yX}{out:Array yU}{ns y:yV}(I:Ac X ad σ H s)(hz:ns.length<64)(G:IntsAre out.toList y)(J:y.Perm ns)
  (q:∀(l:yR) (H':Hp),Ab H H'->H l=none->H' l=some (.lst (y.map V.int))->Q (.ref l) H'):
  EP X ad σ Q (.ref s.heap.objs.size) { s with heap:=sortedHeap (s.heap.push (seqObj "list" vs.toArray 0)) s.heap.objs.size vs out}:=by
 have at_:(s.heap.push (seqObj "list" vs.toArray 0)).get? s.heap.objs.size=some (seqObj "list" vs.toArray 0):=YM _ rfl;obtain⟨e,D⟩:=sortedHeap_at (out:=out) at_;have fr:H s.heap.objs.size=none:=I.hok.fresh (Y5 _);refine⟨.ref s.heap.objs.size,upd H s.heap.objs.size (.lst (y.map V.int)),I.laid (t':=s.toks) (λb o B=>?_) (Y5 _) ⟨?_,out.toList,e,ID G,by simpa[seqObj] using D⟩,rfl,q _ _ (Ab.new fr) fr Af⟩
 .have lt:=Y7 B;rw[sortedHeap_old (YT lt) (by rw[size_push'];exact ZM lt)];exact Y1 _ B
 .rw[Y2,J.length_eq];exact ZH (bg hz (by decide))
end
def Ah(c:Nat):List Nat:=(List.range 8).filter λi=>c.testBit i
noncomputable def BJ(n:Nat)(y:List Nat)(led:Bool):SetTable:=⟨if n<5 then 7 else 31,y.toArray,#[],0,led,if n<5 then 0 else 1,true⟩
noncomputable def tab(y:List Nat)(led:Bool):SetTable:=BJ y.length y led
def Dm(k:Nat)(y:List Nat):Nat:=(y.filter λi=>decide (i<k)).length
def AN(c k:Nat):Nat:=c ||| 2 ^ k
noncomputable def Fq(c k:Nat)(led:Bool):Bool:=(Ah c).contains k ||
  (decide ((tab (Ah c) led).freeSlot (k : Int) = some (k, false)) && decide ((tab (Ah c) led).put k = (BJ (Ah c).length (Ah (AN c k)) led, Dm k (Ah c))) && decide (Ah (AN c k) = (Ah c).take (Dm k (Ah c)) ++ k :: (Ah c).drop (Dm k (Ah c)))
   &&(BJ (Ah c).length (Ah (AN c k)) led).fits (Ah (AN c k)).length &&(tab (Ah (AN c k)) led).fits (Ah (AN c k)).length
   && (if (BJ (Ah c).length (Ah (AN c k)) led).tooFull then decide ((BJ (Ah c).length (Ah (AN c k)) led).relaid ((Ah (AN c k)).map λi : Nat => (i : Int)).toArray (SetTable.grown (Ah (AN c k)).length) = some (tab (Ah (AN c k)) led, (List.range (Ah (AN c k)).length).toArray))
       else decide (BJ (Ah c).length (Ah (AN c k)) led=tab (Ah (AN c k)) led)))
theorem Vy:∀c,c<64->∀k,k<8->∀led,Fq c k led=true:=by decide+kernel
theorem Vz:∀c,c<64->∀k,k<8->∀led,Fq (c+64) k led=true:=by decide+kernel
theorem VA:∀c,c<64->∀k,k<8->∀led,Fq (c+128) k led=true:=by decide+kernel
theorem VB:∀c,c<64->∀k,k<8->∀led,Fq (c+192) k led=true:=by decide+kernel
theorem VC:∀c,c<256->∀k,k<8->∀led,Fq c k led=true:=λc J k y led=>by
 by_cases B:c<64
 .exact Vy c B k y led
 by_cases D:c<128
 .have:=Vz (c-64) (by omega) k y led
  rwa [dP (by omega)]at this
 by_cases G:c<192
 .have:=VA (c-128) (by omega) k y led
  rwa [dP (by omega)]at this
 .have:=VB (c-192) (by omega) k y led
  rwa [dP (by omega)]at this
noncomputable def Bk(w:yN):Bool:=w.params.followText "set-order"
def Els:List Nat->List (Int×yU)->Prop
 | [],[]=>True
 | k::ks,e::es=>(∃t,e=((k:Int),Value.int (k:Int) t))/\Els ks es
 | _,_=>False
theorem Els.len:∀ {y:List Nat}{es:List (Int×yU)},Els y es->es.length=y.length
 | [],[],_=>rfl
 | _::y,_::es,h=>by rw[Zw,Zw,Els.len h.2]
 | [],_::_,h=>h.elim
 | _::_,[],h=>h.elim
theorem Els.app:∀ {y ls:List Nat}{es fs:List (Int×yU)},Els y es->Els ls fs->Els (y++ls) (es++fs)
 | [],_,[],_,_,h=>h
 | _::_,_,_::_,_,h,g=>⟨h.1,Els.app h.2 g⟩
 | [],_,_::_,_,h,_=>h.elim
 | _::_,_,[],_,h,_=>h.elim
theorem Els.cut:∀ {y:List Nat}{es:List (Int×yU)} (n:Nat),Els y es->Els (y.take n) (es.take n)/\Els (y.drop n) (es.drop n)
 | [],[],n,_=>by rw[take_nil,take_nil,drop_nil,drop_nil];exact⟨trivial,trivial⟩
 | _::_,_::_,0,h=>⟨trivial,h⟩
 | _::_,_::_,n+1,h=>⟨⟨h.1,(Els.cut n h.2).1⟩,(Els.cut n h.2).2⟩
 | [],_::_,_,h=>h.elim
 | _::_,[],_,h=>h.elim
theorem Els.get:∀ {y:List Nat}{es:List (Int×yU)},Els y es->∀ {i:Nat}{e:Int×yU},es[i]? =some e->∃k t,y[i]? =some k/\e=((k:Int),Value.int (k:Int) t)
 | _::_,_::_,h,0,e,he=>by
  cases he;obtain⟨t,rfl⟩:=h.1;exact⟨_,t,rfl,rfl⟩
 | _::_,_::_,h,i+1,e,he=>Els.get h.2 (i:=i) he
 | [],[],_,i,e,he=>by cases he
 | [],_::_,h,_,_,_=>h.elim
 | _::_,[],h,_,_,_=>h.elim
theorem Els.hash:∀ {y:List Nat}{es:List (Int×yU)},Els y es->es.map (·.1)=y.map λi:Nat=>(i:Int)
 | [],[],_=>rfl
 | _::_,_::_,h=>by obtain⟨t,e⟩:=h.1;rw[ZA,ZA,Els.hash h.2,e]
 | [],_::_,h=>h.elim
 | _::_,[],h=>h.elim
theorem VD{c k:Nat}(h:k∈Ah c):k<8:=Zr.mp (cg.mp h).1
theorem Gc{c:Nat}:(Ah c).length<=8:=YV (ZU _ _) (by simp)
theorem NM{c k:Nat}:k∈Ah c↔k<8/\c.testBit k=true:=by unfold Ah;rw[cg,Zr]
theorem NN{c k j:Nat}(y:k<8):j∈Ah (AN c k) ↔j=k\/j∈Ah c:=by
 unfold AN;rw[NM,NM,Nat.testBit_or,Nat.testBit_two_pow,bW,Zf];constructor
 .rintro⟨h1,h2 | h2⟩
  .exact .inr ⟨h1,h2⟩
  .exact .inl h2.symm
 .rintro(rfl | ⟨h1,h2⟩)
  .exact⟨y,.inr rfl⟩
  .exact⟨h1,.inl h2⟩
theorem JL{c k:Nat}(y:c<256)(B:k<8):AN c k<256:=Nat.or_lt_two_pow (n:=8) y (Nat.pow_lt_pow_right (by decide) B)
noncomputable def Fs(es:Array (Int×yU))(ep c:Nat)(led:Bool):Obj:= { cls:= .type "set",dict:=none,data:= .set es ep (tab (Ah c) led)}
structure SetIs(w:yN)(h:Heap)(S:yR)(c:Nat)(es:Array (Int×yU))(ep:Nat):Prop where
 lt:c<256
 at_:h.get? S=some (Fs es ep c (!Bk w))
 el:Els (Ah c) es.toList
theorem Ed{c:Nat}{led:Bool}(y:c<256){n:Nat}(B:n=(Ah c).length):(tab (Ah c) led).fits n=true:=by
 have:∀c,c<256->∀led,(tab (Ah c) led).fits (Ah c).length=true:=by decide+kernel
 rw[B];exact this c y led
theorem NO:∀k:Nat,k<8->hashInt (k:Int)=(k:Int):=by decide+kernel
theorem VE{y:Type}{xs:Array y}{p:Nat}{x:y}:(SetTable.insertAt xs p x).toList=xs.toList.take p++x::xs.toList.drop p:=by
 unfold SetTable.insertAt;simp only[dC,Array.toList_push,Array.toList_extract,List.extract_eq_take_drop,List.drop_zero,Nat.sub_zero,df,List.singleton_append];rw[Z6 (l:=xs.toList.drop p) (by rw[bR,Ze];exact Y5 _)]
theorem Hn{c k:Nat}{led:Bool}(G:c<256)(K:k<8)(O:¬k∈Ah c):(tab (Ah c) led).freeSlot (k:Int)=some (k,false)/\(tab (Ah c) led).put k=(BJ (Ah c).length (Ah (AN c k)) led,Dm k (Ah c))/\Ah (AN c k)=(Ah c).take (Dm k (Ah c))++k::(Ah c).drop (Dm k (Ah c))
    /\(BJ (Ah c).length (Ah (AN c k)) led).fits (Ah (AN c k)).length=true
    /\(if (BJ (Ah c).length (Ah (AN c k)) led).tooFull then(BJ (Ah c).length (Ah (AN c k)) led).relaid ((Ah (AN c k)).map λi:Nat=>(i:Int)).toArray (SetTable.grown (Ah (AN c k)).length)=some (tab (Ah (AN c k)) led,(List.range (Ah (AN c k)).length).toArray)
       else BJ (Ah c).length (Ah (AN c k)) led=tab (Ah (AN c k)) led):=by
  have h:=VC c G k K led;unfold Fq at h;rw[bW]at h;rcases h with h | h
  . exact absurd (List.contains_iff_mem.mp h) O
  . simp only [Z5,Zf] at h;obtain⟨⟨⟨⟨⟨J,B⟩,D⟩,h4⟩,_⟩,y⟩:=h;refine⟨J,B,D,h4,?_⟩;split
    . rename_i z;rw[YN z]at y;exact Z0 y
    . rename_i z;rw[Y8 z]at y;exact Z0 y
theorem NP{c k:Nat}{es:Array (Int×yU)}{tok:Tok}(y:c<256)(B:k<8)(D:¬k∈Ah c)(h:Els (Ah c) es.toList):Els (Ah (AN c k)) (SetTable.insertAt es (Dm k (Ah c)) ((k:Int),.int (k:Int) tok)).toList:=by
 rw[VE,(Hn (led:=true) y B D).2.2.1];exact(h.cut _).1.app ⟨⟨tok,rfl⟩,(h.cut _).2⟩
theorem VF{c k:Nat}{led:Bool}{es:Array (Int×yU)}{tok:Tok}(y:c<256)(B:k<8)(D:¬k∈Ah c)(h:Els (Ah c) es.toList):
  layNew (tab (Ah c) led) es (k:Int) (.int (k:Int) tok)=(SetTable.insertAt es (Dm k (Ah c)) ((k:Int),.int (k:Int) tok),BJ (Ah c).length (Ah (AN c k)) led,false,false):=by
 obtain⟨J,G,K,h4,_⟩:=Hn (led:=led) y B D;have sz:(SetTable.insertAt es (Dm k (Ah c)) ((k:Int),Value.int (k:Int) tok)).size=(Ah (AN c k)).length:=by rw[<-Ze];exact(NP y B D h).len
 unfold layNew;rw[J];dsimp only;rw[G];dsimp only;rw[sz];unfold SetTable.orStandIn;rw[YN h4,h4];rfl
theorem VG{c k:Nat}{led:Bool}{es:Array (Int×yU)}(y:c<256)(B:k<8)(O:¬k∈Ah c)(h:Els (Ah (AN c k)) es.toList)(G:(BJ (Ah c).length (Ah (AN c k)) led).tooFull=true):
  relayAll (BJ (Ah c).length (Ah (AN c k)) led) es (SetTable.grown es.size)=(es,tab (Ah (AN c k)) led,false):=by
 obtain⟨_,_,_,_,D⟩:=Hn (led:=led) y B O;rw[YN G]at D;have sz:es.size=(Ah (AN c k)).length:=by rw[<-Ze];exact h.len
 have J:es.map (·.1)=((Ah (AN c k)).map λi:Nat=>(i:Int)).toArray:=by
  apply Array.toList_inj.mp;rw[Array.toList_map];exact h.hash
 have K:(List.range es.size).toArray.filterMap (es[·]?)=es:=by
  apply Array.toList_inj.mp;rw[Array.toList_filterMap];have:∀(l:List (Int×yU)),(List.range l.length).filterMap (λi=>l[i]?)=l:=λl=>by
   induction l with
   | nil=>rfl
   | cons a l ih=>
    rw[Zw,cJ,ci,List.filterMap_map];show a::_=_
    congr 1
  have g:=this es.toList;rw[Ze]at g
  simpa using g
 unfold relayAll;rw[J,sz,D];dsimp only;rw[<-sz,K];have cv:coversAll (List.range es.size).toArray es.size=true:=List.isPerm_iff.mpr (.refl _);rw[cv,Ed (JL y B) sz];rfl
section
variable{prog:yP}{w:yN}{A:yO}{E:yY}{s:yS}{S:yR}{c:Nat}{es:Array (Int × yU)}{ep:Nat}
theorem SetIs.size(h:SetIs w s.heap S c es ep):es.size=(Ah c).length:=by rw[<-Ze];exact h.el.len
theorem SetIs.elems(h:SetIs w s.heap S c es ep):ElemsOf (intKind prog w) es.toList:=by
 intro e y;obtain⟨i,hi⟩:=ZK y;obtain⟨k,t,B,rfl⟩:=h.el.get hi;have:=VD (YW B);exact⟨⟨(k:Int),intKind_is _ _ _ _,(NO k this).symm⟩,rfl⟩
theorem VH{k:Nat}{tok:Tok}{Q:Bool->yS->Prop}(G:k<8)(h:SetIs w s.heap S c es ep)
  (q:∀b h' c' y i4,Heap.SameBut S s.heap h'->SetIs w h' S c' y i4->(∀j,j∈Ah c'↔j=k\/j∈Ah c)->Q b { s with heap:=h'}):
  wpAny (model prog w) A (setAddHashed S (.int (k:Int) tok) ((intKind prog w).hash (k:Int))) Q E s:=by
 have hx:(intKind prog w).is (k:Int) (.int (k:Int) tok)=true:=intKind_is _ _ _ _;have i0:=Ed (led:= !Bk w) h.lt h.size;have few:=Gc (c:=c);unfold setAddHashed setAddHashedIn;refine Zp (Y0 (aD h.at_ rfl i0 ?_));dsimp only;rw[byScan_of (knd:=intKind prog w) rfl (by rw[h.size];exact au few (by decide)) h.elems];simp only[↓reduceIte];unfold setAddByScan;refine Y0 (Y0 (aE (Y0 (wpAny_setScan_of hx h.at_ rfl i0 h.elems ?_))));have eh:(intKind prog w).hash (k:Int)=(k:Int):=NO k G;have isk:∀e:Int×yU,e∈es.toList->((intKind prog w).is (k:Int) e.2=true↔e.1=(k:Int)):=λe he=>by
  obtain⟨i,hi⟩:=ZK he;obtain⟨j,t,_,rfl⟩:=h.el.get hi;show(Value.isInt (k:Int) (.int (j:Int) t)=true) ↔_;simp[Value.isInt]
 by_cases B:k∈Ah c
 .cases z:es.toList.findIdx? λe=>(intKind prog w).is (k:Int) e.2 with
  | some j=>exact Y4 (Y4 (q false s.heap c es ep (Heap.SameBut.refl _ _) h λj=>⟨.inr,λe=>e.elim (λe=>e ▸ B) id⟩))
  | none=>
   obtain⟨i,hi⟩:=ZK B;obtain⟨e,he⟩:∃e,es.toList[i]? =some e:=⟨_,Y6 (by rw[h.el.len];exact(Y9.mp hi).1)⟩;obtain⟨j,t,O,rfl⟩:=h.el.get he;rw[hi]at O;cases O;have:=List.findIdx?_eq_none_iff.mp z _ (YW he);rw[(isk _ (YW he)).mpr rfl]at this;cases this
 .cases z:es.toList.findIdx? λe=>(intKind prog w).is (k:Int) e.2 with
  | some j=>
   obtain⟨O,hp,_⟩:=List.findIdx?_eq_some_iff_getElem.mp z;obtain⟨m,t,hm,e⟩:=h.el.get (Y6 O);have:=(isk _ (ZL O)).mp hp;rw[e]at this;exact absurd (YW hm) (by rw[show m=k from Int.ofNat.inj this];exact B)
  | none=>
   dsimp only;rw[eh,VF h.lt G B h.el];dsimp only;have D:=NP (tok:=tok) h.lt G B h.el;obtain⟨_,_,_,h4,h5⟩:=Hn (led:= !Bk w) h.lt G B;generalize SetTable.insertAt es (Dm k (Ah c)) ((k:Int),Value.int (k:Int) tok)=y at D ⊢;have sz:y.size=(Ah (AN c k)).length:=by rw[<-Ze];exact D.len
   have fw:=Gc (c:=AN c k);have up:∀ {s1:yS}{Z:Array (Int×yU)}{J:Nat}{t0 t1:SetTable},s1.heap.get? S=some { cls:= .type "set",dict:=none,data:= .set Z J t0}->(s1.heap.update S (Obj.putSet y t1)).get? S=some { cls:= .type "set",dict:=none,data:= .set y (J+1) t1}:=λ{s1 Z J t0 t1} g=>by
    have:=Zl (Obj.putSet y t1) g (by rw[putSet_of y t1 rfl];rfl);rw[putSet_of y t1 rfl]at this;exact this
   have zl:y.size<=sizeLine:=by rw[sz];exact YV fw (by decide)
   refine Y0 (show wpAny _ _ (pure ()) _ _ _ from Y4 ?_);rw[YN (show(BJ (Ah c).length (Ah (AN c k)) !Bk w).plain=true from rfl)];refine Y0 (show wpAny _ _ (pure true) _ _ _ from Y4 ?_);simp only[↓reduceIte,Bool.not_false,bQ];refine Y0 (wpAny_storeSet_of h.at_ rfl ?_ zl);have k1:=up (t1:=BJ (Ah c).length (Ah (AN c k)) !Bk w) h.at_;have K:=ZE s.heap S (Obj.putSet y (BJ (Ah c).length (Ah (AN c k)) !Bk w))
   by_cases tf:(BJ (Ah c).length (Ah (AN c k)) !Bk w).tooFull=true
   .rw[YN tf,VG h.lt G B D tf];refine Y0 (show wpAny _ _ (pure ()) _ _ _ from Y4 ?_);refine Y0 (wpAny_storeSet_of k1 rfl ?_ zl);exact Y4 (Y4 (q true _ (AN c k) y _ (K.trans (ZE _ S _)) ⟨JL h.lt G,up (s1:= { s with heap:=s.heap.update S (Obj.putSet y (BJ (Ah c).length (Ah (AN c k)) !Bk w))}) k1,D⟩ λj=>NN G))
   .rw[Y8 tf]at h5 ⊢;rw[h5]at k1 K ⊢;exact Y4 (Y4 (q true _ (AN c k) y _ K ⟨JL h.lt G,k1,D⟩ λj=>NN G))
end
section
variable{prog:yP}{w:yN}{A:yO}{E:yY}{s:yS}{R:Result -> yS -> Prop}{I:yR}{fp wr:List yR}{G:Array GenState -> Array GenState -> Prop}{n:Nat}{P:Nat -> yU -> Prop}{St:Nat -> yS -> Prop}
theorem SetIs.moved{h h':Heap}{S:yR}{c:Nat}{es:Array (Int×yU)}{ep:Nat}(x:SetIs w h S c es ep)(k:∀o,h.get? S=some o->h'.get? S=some o):SetIs w h' S c es ep:=⟨x.lt,k _ x.at_,x.el⟩
theorem VI(W:WalksS prog w A.in1 I fp wr G n P St){S:yR}(hS:S ∉ fp)(val:Nat->Nat)(hv:∀i v,i<n->P i v->∃t,v= .int (val i:Int) t)(h8:∀i,i<n->val i<8):
  ∀(k i:Nat) (s:yS) (c:Nat) (es:Array (Int×yU)) (ep:Nat),i+k=n->St i s->SetIs w s.heap S c es ep->(∀j,j∈Ah c↔ ∃m,m<i/\j=val m)->
   (∀s' O J D,Moved (S::wr) G s s'->SetIs w s'.heap S O J D->(∀j,j∈Ah O↔ ∃m,m<n/\j=val m)->R (.ok (.ret .none)) s')->
   codeAny (model prog w) A (.builtin "set.update.loop" ⟨[.ref S,.ref I],[]⟩) R s:=by
 have nw:S ∉ wr:=λh=>hS (W.sub _ h)
 intro k
 induction k with
 | zero=>
  intro i s c es ep e st si mem q;have e:i=n:=by omega
  subst e;refine ZQ fk ?_;rw[ZJ cE _];refine Y0 (m:=pyNext (.ref I)) (W.done s _ _ st λs' y=>?_);exact Y4 (q s' c es ep ⟨λb o K=>y.heap b o λh=>K (YQ _ h),y.gens,y.drawn,y.os,y.toks⟩ (si.moved λo=>y.heap S o nw) mem)
 | succ k ih=>
  intro i s c es ep e st si mem q;have lt:i<n:=by omega
  refine ZQ fk ?_;rw[ZJ cE _];refine Y0 (m:=pyNext (.ref I)) (W.item i s _ _ lt st λv s' pv i4 y=>?_);obtain⟨t,rfl⟩:=hv i v lt pv;have Z:=si.moved (h':=s'.heap) λo=>y.heap S o nw
  show wpAny _ A.in1 (holding [Value.int (val i:Int) t] (setAdd S (.int (val i:Int) t)) >>=_) _ _ s';refine Y0 (Zp ?_);unfold setAdd;refine Zp (Y0 ((intKind prog w).pyHash (k:=(val i:Int)) (intKind_is _ _ _ _) ?_));refine VH (s:= { s' with toks:=s'.toks+1}) (h8 i lt) Z λb h' O J D sb i0 me=>?_
  refine Y4 ⟨ap cE _,ih (i+1) _ O J D (by omega) (W.frame _ s' _ _ i4 (Zx _) λb K o e=>?_) i0 (λj=>?_) λs3 c3 i7 i5 B i8 i6=>q s3 c3 i7 i5 ?_ i8 i6⟩
  .rw[sb.2 b (λh:b=S=>hS (h ▸ K))];exact e
  .rw [me j,mem j];constructor
   .rintro(rfl | ⟨m,hm,rfl⟩)
    .exact⟨i,be _,rfl⟩
    .exact⟨m,by omega,rfl⟩
   .rintro⟨m,hm,rfl⟩
    by_cases z:m=i
    .subst z;exact .inl rfl
    .exact .inr ⟨m,by omega,rfl⟩
  .refine⟨λb o K eo=>B.heap b o K ?_,W.gtrans _ _ _ y.gens B.gens,B.drawn.trans y.drawn,B.os.trans y.os,YV y.toks (YV (Zx _) B.toks)⟩;show h'.get? b=some o;rw[sb.2 b (λh:b=S=>K (h ▸ YR))];exact y.heap b o (λh=>K (YQ _ h)) eo
theorem VJ:isSubtype (.type "tuple") (.type "set")=pure false:=by rw[cC];kernel_rfl
theorem VL:isSubtype (.type "tuple") (.type "frozenset")=pure false:=by rw[cC];kernel_rfl
theorem VM{h:Heap}:SetIs w (h.push (Fs #[] 0 0 (!Bk w))) h.objs.size 0 #[] 0:=⟨by decide,YM _ rfl,by show Els [] [];trivial⟩
theorem VN{S J:yR}{items:Array yU}(hh:A.handled=none)(y:SetIs w s.heap S 0 #[] 0)(B:IsTup s.heap J items)(val:Nat->Nat)(hv:∀(i:Nat) (v:yU),items[i]? =some v->∃t,v=Value.int (val i:Int) t)(h8:∀i,i<items.size->val i<8)
  (q:∀s' c es ep,(∀b o,b≠S->s.heap.get? b=some o->s'.heap.get? b=some o)->s'.gens=s.gens->s'.drawn=s.drawn->s'.os=s.os->SetIs w s'.heap S c es ep->(∀j,j∈Ah c↔ ∃m,m<items.size/\j=val m)->R (.ok (.ret .none)) s'):
  wpAny (model prog w) A.in1 (Builtin.«set.__init__» ⟨[.ref S,.ref J],[]⟩) (λfin s'=>match fin with | .done f=>R (.ok f) s' | .again c'=>c'.quiet=true/\codeAny (model prog w) A c' R s') (λe s'=>R (.error e) s') s:=by
 have hT:s.TypeIs (.ref S) "set" :=⟨_,y.at_,rfl⟩;have i4:=B.typeIs;have s1:=VJ;have s2:=VL;have nd:(Value.type "tuple"==Value.type "dict")=false:=by decide
 have O:(tab (Ah 0) !Bk w).fits (#[]:Array (Int×yU)).size=true:=Ed (by decide) rfl;have st:=fun(Q':(Array (Int×yU)×Nat×SetTable)->yS->Prop) E'=>aD (prog:=prog) (w:=w) (A:=A.in1) (Q:=Q') (E:=E') y.at_ rfl O
 unfold Builtin.«set.__init__» noKeywords Builtin.Frozenset.updateFrom setUsed;generalize hPI:pyIter=PI
 wp_walk using st
 subst hPI;have Z:J<s.heap.objs.size:=by obtain⟨o,D,_⟩:=B;exact Y7 D
 have i0:S<s.heap.objs.size:=Y7 y.at_;refine iter_tuple B (Y0 (wpAny_runValue ?_));have W:=(Walks.tuple (prog:=prog) (w:=w) (A:=A.in1.in1) (by simpa using hh) s.heap.objs.size J (YT Z) items).toS;refine VI W (S:=S) (λh=>?_) val (λi v hi pv=>hv i v pv) h8 items.size 0 _ 0 #[] 0 (by omega) ⟨⟨_,YM _ rfl,rfl,rfl⟩,?_⟩ (y.moved λo e=>Y1 _ e) (λj=>⟨λh=>(by cases h),fun⟨m,h,_⟩=>absurd h (Zs _)⟩) λs' c es ep G K me=>?_
 .simp only[YY,Zt,ai]at h;rcases h with h | h
  .exact absurd h (YT i0)
  .rw[h]at y;obtain⟨o,D,hc,_⟩:=B;have:=D.symm.trans y.at_;cases this;exact absurd (show Value.type "set"=Value.type "tuple" from hc) (by decide)
 .obtain⟨o,D,r⟩:=B;exact⟨o,Y1 _ D,r⟩
 .refine Y4 (Y4 (q s' c es ep (λb o hb e=>G.heap b o (λh=>?_) (Y1 _ e)) G.gens G.drawn G.os K me));simp only[YY,Zt,ai]at h;rcases h with h | h
  .exact hb h
  .rw[h]at e;exact absurd (Y7 e) (YX _)
theorem VO{a:yU}{Q₁:VSP}(q:Q₁ (.ref s.heap.objs.size) { s with heap:=s.heap.push (Fs #[] 0 0 (!Bk w))}):
  codeAny (model prog w) A (.call (.builtin "set.__new__") ⟨[.type "set",a],[]⟩) (wants Q₁ E) s:=by
 refine fA (Y0 (m:=checkBuiltinCall "set.__new__" ⟨[.type "set",a],[]⟩) (bC (F.newCall_set_1 a) (Y4 ⟨ap F.plain_set_new _,ZQ F.entry_set_new ?_⟩)));rw[ZJ F.plain_set_new _];have y:=sub_set_self;cases s;unfold Builtin.«set.__new__» Builtin.Frozenset.newClass
 wp_walk
 exact bh (Y4 (Zn (Y4 q) (Z1 _)))
theorem VP{D:yR}{items:Array yU}{Q:VSP}(hh:A.handled=none)(ht:IsTup s.heap D items)(val:Nat->Nat)(hv:∀(i:Nat) (v:yU),items[i]? =some v->∃t,v=Value.int (val i:Int) t)(h8:∀i,i<items.size->val i<8)
  (q:∀h' tk c es ep,(∀b o,s.heap.get? b=some o->h'.get? b=some o)->SetIs w h' s.heap.objs.size c es ep->(∀j,j∈Ah c↔ ∃m,m<items.size/\j=val m)->Q (.ref s.heap.objs.size) { s with heap:=h',toks:=tk}):
  wpAny (model prog w) A (call (.type "set") [.ref D]) Q E s:=by
 have cs:=F.called_set;obtain⟨_,_,mr⟩:=cs.mro;have md:=cs.made;have sb:=cs.sub;have nt:=cs.notType;have cc:=cs.canCreate;have tc:=F.typeCall_set_1 (.ref D);refine eI (fA (show wpAny _ _ (callAny (.type "set") _) _ _ _ from Y4 ⟨Code.quiet_builtin _ (by decide+kernel),ZQ F.entry_type_call ?_⟩));rw[Around.under_plain (weight_type_call_type "set" [.ref D] []) rfl]
 repeat (any_goals (first | assumption | wp_step))
 refine ao (VO (E:=E) (Q₁:=λobj y=>obj= .ref s.heap.objs.size/\y= { s with heap:=s.heap.push (Fs #[] 0 0 (!Bk w))}) ⟨rfl,rfl⟩) λr y G=>?_
 match r,G with
 | .error e,G=>exact G
 | .ok (.ret obj),⟨eo,es1⟩=>
  subst eo es1;have O:=VM (w:=w) (h:=s.heap);have Z:Shared.TypeIs { s with heap:=s.heap.push (Fs #[] 0 0 (!Bk w))} (.ref s.heap.objs.size) "set" :=⟨_,O.at_,rfl⟩;have il:=cs.init.lookup;have ib:=cs.init.bind (.ref s.heap.objs.size)
  repeat (any_goals (first | assumption | wp_step))
  have K:IsTup (s.heap.push (Fs #[] 0 0 (!Bk w))) D items:=by obtain⟨o,ho,x⟩:=ht;exact⟨o,Y1 _ ho,x⟩
  refine ao (aW (R:=λr s2=>r= .ok (.ret .none)/\Q (.ref s.heap.objs.size) s2) cs.init.plain F.entry_set_init (check_set_init_1 Z ?_)) λr2 s2 h2=>?_
  .refine VN (R:=λr s2=>r= .ok (.ret .none)/\Q (.ref s.heap.objs.size) s2) (by simpa using hh) O K val hv h8 λB c es ep kp g d o J me=>⟨rfl,?_⟩
   have:B= { s with heap:=B.heap,toks:=B.toks}:=by cases B;cases g;cases d;cases o;rfl
   rw[this];exact q B.heap B.toks c es ep (λb o e=>kp b o (YT (Y7 e)) (Y1 _ e)) J me
  .obtain⟨rfl,hq⟩:=h2
   repeat (any_goals (first | assumption | wp_step))
end
theorem slot_si:Slot "set_iterator" "__next__" "set_iterator.__next__" :=
 .of (owner:="set_iterator") (n:="__next__") (by rw[dw,bJ];kernel_rfl) (by decide+kernel) (by decide+kernel) (by decide+kernel) (.inl (by decide+kernel)) (by rw[cC];kernel_rfl)
theorem NQ:entryFor table "set_iterator.__next__"=some Builtin.«set_iterator.__next__»:=entryFor_of_tree (by kernel_rfl)
theorem NR:Slot "set_iterator" "__iter__" "set_iterator.__iter__" :=
 .of (owner:="set_iterator") (n:="__iter__") (by rw[dw,bJ];kernel_rfl) (by decide+kernel) (by decide+kernel) (by decide+kernel) (.inl (by decide+kernel)) (by rw[cC];kernel_rfl)
theorem VQ:entryFor table "set_iterator.__iter__"=some Builtin.«dict_keyiterator.__iter__»:=fU (id':="dict_keyiterator.__iter__") (by kernel_rfl) rfl (by decide+kernel) (by kernel_rfl)
theorem VR(a:yU):argsOk "set_iterator.__iter__" ⟨[a],[]⟩:=by unfold argsOk;kernel_rfl
theorem VS:entryFor table "set.__iter__"=some Builtin.«frozenset.__iter__»:=fU (id':="frozenset.__iter__") (by kernel_rfl) rfl (by decide+kernel) (by kernel_rfl)
theorem NS(a:yU):argsOk "set_iterator.__next__" ⟨[a],[]⟩:=by unfold argsOk;kernel_rfl
noncomputable def Ee(S:yR)(slot i n ep:Nat):Obj:= { cls:= .type "set_iterator",data:= .fields #[rawInt slot,rawInt i,.ref S,rawInt n,rawInt ep]}
noncomputable def Cr(w:yN)(S:yR)(ep:Nat)(es:Array (Int×yU)):Array (Int×yU):=if Bk w then pickOrder (w.params.setOrder S ep) es else es
def Ho(ks:List Nat):Nat->Nat
 | 0=>0
 | i+1=>ks.getD i 0+1
noncomputable def Bq(w:yN)(y:List Nat)(i:Nat):Nat:=if Bk w then 0 else Ho y i
theorem VT:∀c,c<256->∀i,i<=(Ah c).length->SetTable.below (Ah c).toArray (Ho (Ah c) i)=i:=by
 have h:∀c,c<256->∀i,i<=8->i<=(Ah c).length->SetTable.below (Ah c).toArray (Ho (Ah c) i)=i:=by decide+kernel
 intro c y i hi;exact h c y i (YV hi Gc) hi
section
variable{prog:yP}{w:yN}{A:yO}{E:yY}{s:yS}{I S:yR}{c:Nat}{es:Array (Int × yU)}{ep i:Nat}
theorem NT(y:SetIs w s.heap S c es ep)(hi:i<=(Ah c).length){Q:Option (yU×Nat)->yS->Prop}(q:Q (((Cr w S ep es)[i]?).map λe=>(e.2,Bq w (Ah c) (i+1))) s):
  wpAny (model prog w) A (setNext S (Bq w (Ah c) i) i ep) Q E s:=by
 have D:=Ed (led:= !Bk w) y.lt y.size;unfold setNext;refine Y0 (aD y.at_ rfl D ?_);unfold setsByText;refine Y0 (Y0 (bh (Y4 ?_)))
 by_cases b:Bk w=true
 .have G:(model prog w).w.params.followText "set-order"=true:=b;dsimp only;rw[YN G,Y8 (by simp)];unfold setWalk setsByText;refine Y0 (Y0 (aD y.at_ rfl D (Y0 (Y0 (bh (Y4 ?_))))));dsimp only;rw[YN G];refine Y0 (bh (Y4 (Y4 ?_)));unfold Cr Bq at q;rw[YN b,YN b]at q;unfold Bq;rw[YN b];exact q
 .have G:¬(model prog w).w.params.followText "set-order"=true:=b;dsimp only;rw[Y8 G];have J:Bk w=false:=by simpa using b
  refine(show wpAny _ _ (if (!(tab (Ah c) !Bk w).plain && decide (es.size>1))=true then _ else _) _ _ _ from ?_);rw[Y8 (by show ¬((!true && decide (es.size>1))=true);simp)];refine Y0 (show wpAny _ _ (if (!(!Bk w) && !es.isEmpty)=true then unsupported "set:maker-not-led" else pure ()) _ _ _ from ?_);rw[Y8 (by rw[J];simp)];refine Y4 (Y4 ?_);have bl:=VT c y.lt i hi;have K:Bq w (Ah c) i=Ho (Ah c) i:=by unfold Bq;rw[J];rfl
  have pl:(tab (Ah c) !Bk w).place=(Ah c).toArray:=rfl;rw[pl,K,bl];unfold Cr at q;rw[J]at q;unfold Bq at q;rw[J]at q;have B:Q ((es[i]?).map λe=>(e.2,(Ah c).getD i 0+1)) s:=q;rcases Nat.lt_or_eq_of_le hi with lt | e
  .have le:i<es.size:=by rw [y.size];exact lt
   have O:es[i]? =some es[i]:=aX le;have Z:(Ah c).toArray[i]? =some (Ah c)[i]:=by simp[lt]
   rw[O]at B ⊢;rw[Z];have h3:(Ah c).getD i 0=(Ah c)[i]:=by simp[Y3,lt]
   rw[h3]at B;exact B
  .have O:es[i]? =none:=fO (by rw[y.size];omega);rw[O]at B ⊢;exact B
def Ft(h:Heap)(I S:yR)(slot i n ep:Nat):Prop:=h.get? I=some (Ee S slot i n ep)
theorem VU(it:Ft s.heap I S (Bq w (Ah c) i) i es.size ep)(y:SetIs w s.heap S c es ep){e:Int×yU}(J:(Cr w S ep es)[i]? =some e)(hi:i<=(Ah c).length){Q:yW->yS->Prop}
  (q:∀h',Ft h' I S (Bq w (Ah c) (i+1)) (i+1) es.size ep->Heap.SameBut I s.heap h'->Q (some e.2) { s with heap:=h'}):wpAny (model prog w) A (pyNext (.ref I)) Q E s:=by
 have G:s.TypeIs (.ref I) "set_iterator" :=⟨_,it,rfl⟩;have B:=Ed (led:= !Bk w) y.lt y.size;unfold pyNext;refine Y0 (aQ (Zo (name:=Str.ofString "__next__") G slot_si (Zq slot_si G NQ ?_ (NS _))));unfold Builtin.«set_iterator.__next__»;refine Y0 (m:=slotArgs "__next__" 0 _) (Y4 (Y0 (wpAny_fieldsOf it rfl ?_)));unfold setEntries;refine Y0 (Y0 (aD y.at_ rfl B (Y4 ?_)));rw[Y8 (by simp)];refine Y0 (m:=setNext S (Bq w (Ah c) i) i ep) (NT y hi ?_);rw[J];refine Y0 (cu it rfl (cX rfl) ?_);have D:=Zl (Obj.mapFields (·.setIfInBounds 0 (rawInt (Bq w (Ah c) (i+1):Nat)))) it rfl;refine Y0 (cu D rfl (cX rfl) ?_);have K:=Zl (Obj.mapFields (·.setIfInBounds 1 (rawInt ((i:Int)+1)))) D rfl;exact Y4 ⟨_,rfl,Y4 (q _ K ((ZE ..).trans (ZE ..)))⟩
theorem VW(K:A.handled=none)(it:Ft s.heap I S (Bq w (Ah c) i) i es.size ep)(y:SetIs w s.heap S c es ep)(O:(Cr w S ep es)[i]? =none)(hi:i<=(Ah c).length){Q:yW->yS->Prop}
  (q:∀h',Heap.ExtBut I s.heap h'->Q none { s with heap:=h'}):wpAny (model prog w) A (pyNext (.ref I)) Q E s:=by
 have G:s.TypeIs (.ref I) "set_iterator" :=⟨_,it,rfl⟩;have B:=Ed (led:= !Bk w) y.lt y.size;have D:A.in1.handled=none:=by simpa using K
 have Z:=dF;unfold pyNext;refine Y0 (aQ (Zo (name:=Str.ofString "__next__") G slot_si (Zq slot_si G NQ ?_ (NS _))));unfold Builtin.«set_iterator.__next__»;refine Y0 (m:=slotArgs "__next__" 0 _) (Y4 (Y0 (wpAny_fieldsOf it rfl ?_)));unfold setEntries;refine Y0 (Y0 (aD y.at_ rfl B (Y4 ?_)));rw[Y8 (by simp)];refine Y0 (m:=setNext S (Bq w (Ah c) i) i ep) (NT y hi ?_);rw[O];refine Y0 (cu it rfl (cX rfl) ?_);have J:=ZE s.heap I (Obj.mapFields (·.setIfInBounds 2 Value.none));generalize s.heap.update I (Obj.mapFields (·.setIfInBounds 2 Value.none))=h1 at J ⊢;simp only[newExc,newTuple,raiseNew];refine Y0 (Y0 (Zn (Y0 (m:=firstArgMember _ _) (bC (a:=Value.none) rfl (Zn (Y0 (wpAny_handled ?_)) (by size_fits)))) (by size_fits)));rw[D];refine wpAny_throw (Y0 (bM (T:="StopIteration") (b:=true) ⟨_,YM _ rfl,rfl⟩ Z (Y4 (q _ ?_))));exact(((Heap.ExtBut.refl I s.heap).trans (J.extBut)).push _).push _
theorem VX{y:Type}{f:Nat->Nat}{xs:Array y}:(pickOrder f xs).toList.Perm xs.toList:=by
 have go:∀(n k:Nat) (l:List y) (out:Array y),l.length=n->(pickOrder.go f n k l out).toList.Perm (out.toList++l):=by
  intro n
  induction n with
  | zero=>intro k l out h;rw[cD.mp h];unfold pickOrder.go;simp
  | succ n ih=>
   intro k l out h;unfold pickOrder.go;have lt:f k % l.length<l.length:=Nat.mod_lt _ (by omega);rw[Y6 lt];dsimp only;refine(ih (k+1) _ _ (by rw[List.length_eraseIdx_of_lt lt];omega)).trans ?_;rw[Array.toList_push,df];refine List.Perm.append_left _ ?_;rw[List.eraseIdx_eq_take_drop_succ]
   conv=>rhs;rw[<-fX (f k % l.length) l,bV lt]
   exact(List.perm_middle (a:=l[f k % l.length]) (l₁:=l.take (f k % l.length)) (l₂:=l.drop (f k % l.length+1))).symm
 exact go xs.size 0 xs.toList #[] (by simp)
theorem ord_perm{w:yN}{S:yR}{ep:Nat}{es:Array (Int×yU)}:(Cr w S ep es).toList.Perm es.toList:=by
 unfold Cr;split
 .exact VX
 .exact .refl _
theorem VY(hh:A.handled=none)(K:S≠I)(lt:c<256)(el:Els (Ah c) es.toList):WalksS prog w A I [I,S] [I] (λa b=>b=a) es.size (λi v=>∃e,(Cr w S ep es)[i]? =some e/\v=e.2) (λi s=>i<=es.size/\Ft s.heap I S (Bq w (Ah c) i) i es.size ep/\SetIs w s.heap S c es ep) where
 sub:=λb y=>by rw[Z3]at y;rw[y];simp
 grefl:=λ_=>rfl
 gtrans:=λ_ _ _ G D=>D.trans G
 frame:=λi s O tk st _ kp=>⟨st.1,kp I (by simp) _ st.2.1,st.2.2.moved λo=>kp S (by simp) o⟩
 item:=λi s Q E hi st q=>by
  obtain⟨G,D,B⟩:=st;have sz:(Cr w S ep es).size=es.size:=by rw[<-Ze,ord_perm.length_eq,Ze]
  obtain⟨e,Z⟩:∃e,(Cr w S ep es)[i]? =some e:=⟨_,aX (by rw[sz];exact hi)⟩;refine VU D B Z (by rw[<-B.size];exact G) λO a b=>q e.2 _ ⟨e,Z,rfl⟩ ⟨hi,a,B.moved λo e=>?_⟩ ⟨λb' o y e=>?_,rfl,rfl,rfl,Y5 _⟩
  .rw[b.2 S K];exact e
  .rw[b.2 b' (by simpa using y)];exact e
 done:=λs Q E st q=>by
  obtain⟨G,D,B⟩:=st;have sz:(Cr w S ep es).size=es.size:=by rw[<-Ze,ord_perm.length_eq,Ze]
  refine VW hh D B (fO (by rw[sz];exact Y5 _)) (by rw[<-B.size];exact Y5 _) λO x=>q _ ⟨λb o y e=>x b o (by simpa using y) e,rfl,rfl,rfl,Y5 _⟩
 self:=λi s Q E st q=>by
  have J:s.TypeIs (.ref I) "set_iterator" :=⟨_,st.2.1,rfl⟩;exact eF J NR (Zq NR J VQ (show wpAny _ _ (ret (.ref I)) _ _ s from Y4 ⟨_,rfl,"set_iterator",_,J,slot_si.lookup,q⟩) (VR _))
theorem VZ(y:SetIs w s.heap S c es ep){Q:VSP}(q:Q (.ref s.heap.objs.size) { s with heap:=s.heap.push (Ee S (Bq w (Ah c) 0) 0 es.size ep)}):wpAny (model prog w) A (pyIter (.ref S)) Q E s:=by
 have D:s.TypeIs (.ref S) "set" :=⟨_,y.at_,rfl⟩;have B:=Ed (led:= !Bk w) y.lt y.size;refine eF D F.slot_set_iter (Zq F.slot_set_iter D VS ?_ (F.args_set_iter_1 _));have st:=fun(G:yO) (J:(Array (Int×yU)×Nat×SetTable)->yS->Prop) E'=>aD (prog:=prog) (w:=w) (A:=G) (Q:=J) (E:=E') y.at_ rfl B
 unfold Builtin.«frozenset.__iter__» setDrawn setEpoch Builtin.Frozenset.sizeOf setEntries setsByText
 wp_walk using st
 refine bh (Y4 (Y4 ?_));dsimp only;rw[Y8 (by show ¬((!(model prog w).w.params.followText "set-order" &&(!true && decide (es.size>1)))=true);simp)];refine Y0 (Y4 (Y0 (Y0 (st _ _ _ (Y4 ?_)))));have K:Bq w (Ah c) 0=0:=by unfold Bq;split<;>rfl
 rw[K]at q;exact Y0 (m:=newFields "set_iterator" _) (Zn (Y4 ⟨_,rfl,"set_iterator",_,⟨_,YM _ rfl,rfl⟩,slot_si.lookup,q⟩) (by size_fits))
theorem NU:∀ {l:List (Int×yU)},(∀e∈l,∃t,e.2= .int e.1 t)->IntsAre (l.map (·.2)) (l.map (·.1))
 | [],_=> .nil
 | e::l,h=>by
  obtain⟨t,y⟩:=h e (by simp);rw[ZA,ZA,y];exact .cons _ _ (NU λx B=>h x (by simp[B]))
theorem V0(D:SetIs w s.heap S c es ep){Q:Bool->yS->Prop}(q:∀b tk,s.toks<=tk->Q b { s with toks:=tk}):wpAny (model prog w) A (Builtin.List.listLengthHint (.ref S)) Q E s:=by
 have B:s.TypeIs (.ref S) "set" :=⟨_,D.at_,rfl⟩;have J:=F.slot_set_len.lookup;have G:splitId "set.__len__"=some ("set","__len__"):=by decide+kernel
 have K:=sub_set_self;unfold Builtin.List.listLengthHint;refine Y0 (dj B J ?_);dsimp only;rw[G];dsimp only;refine Y0 (bM B K ?_);rw[Y8 (by decide)];refine wpAny_ite_split (λ_=>?_) (λy=>absurd (by decide+kernel) y);exact Y0 (bY B (Y4 (q false s.toks (Y5 _))))
theorem V1(y:SetIs w s.heap S c es ep):NL prog w s (.ref S) λvs s'=>(∃ns:yV,IntsAre vs ns/\ns.Perm ((Ah c).map λi:Nat=>(i:Int)))/\∃h' tk,(∀b o,s.heap.get? b=some o->h'.get? b=some o)/\s'= { s with heap:=h',toks:=tk}:=by
 intro A Q E hh k;have i7:=Ed (led:= !Bk w) y.lt y.size;unfold collect;refine Y0 (wpAny_runValue (ZQ F.entry_proto_collect ?_));rw[ZJ F.plain_proto_collect _];refine Y0 (m:=newList []) (Zn (Y4 ⟨ap F.plain_list_iadd _,ZQ F.entry_list_iadd ?_⟩));rw[ZJ F.plain_list_iadd _];have lS:S<s.heap.objs.size:=Y7 y.at_;have kL:(s.heap.push { cls:= .type "list",data:= .seq ([]:yX).toArray}).get? s.heap.objs.size=some { cls:= .type "list",data:= .seq #[] 0}:=YM _ rfl;have D:SetIs w (s.heap.push { cls:= .type "list",data:= .seq ([]:yX).toArray}) S c es ep:=y.moved λo e=>Y1 _ e
 show wpAny _ _ (Builtin.List.listExtendWith (.ref s.heap.objs.size) (.ref S) (.ref s.heap.objs.size)) _ _ _;unfold Builtin.List.listExtendWith;have i5:Shared.TypeIs { s with heap:=s.heap.push { cls:= .type "list",data:= .seq ([]:yX).toArray}} (.ref S) "set" :=⟨_,D.at_,rfl⟩;refine Y0 (bY i5 ?_);have ns:Builtin.List.listSameRef (.ref s.heap.objs.size) (.ref S)=false:=by
  show(s.heap.objs.size==S)=false;exact beq_false_of_ne (ZV lS)
 rw[Y8 (by rw[ns];decide)];refine Y0 (VZ (s:= { s with heap:=s.heap.push { cls:= .type "list",data:= .seq ([]:yX).toArray}}) D ?_);have G:((s.heap.push { cls:= .type "list",data:= .seq ([]:yX).toArray}).push (Ee S (Bq w (Ah c) 0) 0 es.size ep)).get? s.heap.objs.size=some { cls:= .type "list",data:= .seq #[] 0}:=Y1 _ kL;have B:SetIs w ((s.heap.push { cls:= .type "list",data:= .seq ([]:yX).toArray}).push (Ee S (Bq w (Ah c) 0) 0 es.size ep)) S c es ep:=D.moved λo e=>Y1 _ e
 have kI:((s.heap.push { cls:= .type "list",data:= .seq ([]:yX).toArray}).push (Ee S (Bq w (Ah c) 0) 0 es.size ep)).get? (s.heap.objs.size+1)=some (Ee S (Bq w (Ah c) 0) 0 es.size ep):=by
  rw[<-Zm s.heap { cls:= .type "list",data:= .seq ([]:yX).toArray}];exact YM _ rfl
 have kp:∀b o,s.heap.get? b=some o->((s.heap.push { cls:= .type "list",data:= .seq ([]:yX).toArray}).push (Ee S (Bq w (Ah c) 0) 0 es.size ep)).get? b=some o:=λb o e=>Y1 _ (Y1 _ e)
 rw[show({ s with heap:=s.heap.push { cls:= .type "list",data:= .seq ([]:yX).toArray}}:yS).heap.objs.size=s.heap.objs.size+1 from Zm ..];generalize(s.heap.push { cls:= .type "list",data:= .seq ([]:yX).toArray}).push (Ee S (Bq w (Ah c) 0) 0 es.size ep)=h2 at G B kI kp ⊢;refine Y0 (Zp (V0 (s:= { s with heap:=h2}) B λb tk _=>?_));refine wpAny_ite_split (λ_=>?_) (λi4=>absurd (by rw[bW];exact .inr (by decide+kernel)) i4);refine Y0 (aE ?_);refine Y0 (m:=Builtin.List.listTouch _) (Y0 (m:=updateSeq s.heap.objs.size (·.push .none)) (ac (s:= { s with heap:=h2,toks:=tk}) G rfl ?_));have u1:=Zl (Obj.mapSeq (·.push Value.none)) G rfl;refine ac (s:= { s with heap:=h2.update s.heap.objs.size (Obj.mapSeq (·.push Value.none)),toks:=tk}) u1 rfl ?_;have u2:=Zl (Obj.mapSeq (·.pop)) u1 rfl;have K:=(ZE h2 s.heap.objs.size (Obj.mapSeq (·.push Value.none))).trans (ZE (h2.update s.heap.objs.size (Obj.mapSeq (·.push Value.none))) s.heap.objs.size (Obj.mapSeq (·.pop)));dsimp only;generalize(h2.update s.heap.objs.size (Obj.mapSeq (·.push Value.none))).update s.heap.objs.size (Obj.mapSeq (·.pop))=h3 at u2 K ⊢;have nS:S≠s.heap.objs.size:=YT lS;have i6:SetIs w h3 S c es ep:=B.moved λo e=>by rw[K.2 S nS];exact e
 have i0:Ft h3 (s.heap.objs.size+1) S (Bq w (Ah c) 0) 0 es.size ep:=by unfold Ft;rw[K.2 _ (by show s.heap.objs.size+1≠s.heap.objs.size;omega)];exact kI
 have W:=VY (prog:=prog) (w:=w) (A:=A.in1) (I:=s.heap.objs.size+1) (S:=S) (c:=c) (es:=es) (ep:=ep) (by simpa using hh) (YT (ZM lS)) y.lt y.el;have few:=Gc (c:=c);refine Y4 ⟨ap bo _,codeAny_extend_loopS W (by rw[y.size];exact YV few (by decide)) s.heap.objs.size (λh=>?_) _ es.size 0 _ #[] _ (by omega) (Z1 _) ⟨Z1 _,i0,i6⟩ u2 (ItemsOf.nil _) λs' O c' J at' it=>?_⟩
 .simp only[YY,Zt,ai]at h;rcases h with h | h
  .exact absurd h (YT (be _))
  .exact nS h.symm
 refine Y0 (wpAny_load at' (Y4 (k _ _ ⟨⟨(Cr w S ep es).toList.map (·.1),?_,?_⟩,s'.heap,s'.toks,λb o e=>?_,?_⟩)))
 .have sz:(Cr w S ep es).size=es.size:=by rw[<-Ze,ord_perm.length_eq,Ze]
  have ea:O.toList=(Cr w S ep es).toList.map (·.2):=by
   refine List.ext_getElem? λj=>?_
   by_cases hj:j<es.size
   .have h1:j<O.size:=by rw [it.1];exact hj
    obtain⟨e,Z,hv⟩:=it.2 j O[j] (by simp[h1]);rw[fY,aX h1,hv,YU,fY,Z];rfl
   .rw[ZT (by rw[Ze,it.1];omega),ZT (by rw[Y2,Ze,sz];omega)]
  rw[ea];refine NU λe Z=>?_
  obtain⟨i,hi⟩:=ZK (ord_perm.mem_iff.mp Z);obtain⟨m,t,_,rfl⟩:=y.el.get hi;exact⟨t,rfl⟩
 .rw[<-y.el.hash];exact ord_perm.map _
 .refine J.heap b o (λh=>?_) ?_
  .have:=Y7 e;simp only [YY,Zt,ai] at h;rcases h with h | h
   .rw[h]at this;exact absurd this (YX _)
   .rw[h]at this;exact absurd this (gi.mpr (Zx _))
  .show h3.get? b=some o;rw[K.2 b (YT (Y7 e))];exact kp b o e
 .have g:=J.gens;have d:=J.drawn;have o:=J.os;cases s';cases g;cases d;cases o;rfl
end
def V2(D:TA):TE:=fun G H Q=>D G H λJ y=>∃(a:yR) (ns:List Nat),J=[.ref a]/\y a=some (.tup (ns.map λi:Nat=>V.int (i:Int)))/\(∀n∈ns,n<8)/\
 ∀(l:yR) (B:Hp) (ms:yV),Ab y B->y l=none->B l=some (.lst (ms.map V.int))->ms.Pairwise (· < ·)->(∀m,m∈ms↔ ∃n∈ns,m=(n:Int))->Q (.ref l) B
theorem V3{ns:List Nat}{y:yX}(B:Av (ns.map λi:Nat=>V.int (i:Int)) y):∀(i:Nat) (v:yU),y.toArray[i]? =some v->∃t,v=Value.int ((ns.getD i 0:Nat):Int) t:=by
 intro i v G;have e:ns.map (λi:Nat=>V.int (i:Int))=(ns.map λi:Nat=>(i:Int)).map V.int:=by rw[ae];rfl
 rw[e]at B;obtain⟨t,D⟩:=IntsAre.int_at (Ix B) i v (by simpa using G);refine⟨t,D.trans ?_⟩
 congr 1
 rw[Y3,YU,Y3];cases ns[i]? <;>rfl
theorem V4{X:Cx}{e:yL}{ta:TA}{p pos p2 y:Pos}(hc:X.calm=true)(i5:Gl X "sorted")(i4:X.mg "sorted"=none)(hg:Gl X "set")(hm:X.mg "set"=none)(ha:PA X [e] ta)
  (G:autoParam (starEach [.Call (.Name "set" p2) [e] [] y] X.env=[(false,eval (.Call (.Name "set" p2) [e] [] y) X.env)]) L3) (hs:autoParam (starEach [e] X.env=[(false,eval e X.env)]) L3):
  PE X (.Call (.Name "sorted" p) [.Call (.Name "set" p2) [e] [] y] [] pos) (V2 ta):=by
 intro ad s σ H Q I h;refine cY (B8 I i5 i4 PyProof.Rows.boot_sorted (da (by
  rw[G];refine aq (cY (B8 I hg hm PyProof.Rows.Boot.«set» (Zc (Ap (ha y ad s σ H _ I h) λus s1 zq=>?_) hs rfl)));obtain⟨vs,H1,I1,r1,q1⟩:=zq;obtain⟨a,ns,e1,k1,h8,q⟩:=q1;subst e1;cases r1 with
  | cons r rr=>
   cases rr;cases r;obtain⟨i6,rv,pl,hz⟩:=I1.tuple (Ae.of k1);have O:=rv.length;rw[Y2]at O;refine VP (I.ok.hd hc) pl (λi=>ns.getD i 0) (V3 rv) (λi hi=>?_) λh' tk c es ep kp si me=>aS ?_
   .have B:i<ns.length:=by simpa [O] using hi
    rw[Y3,Y6 B];exact h8 _ (ZL B)
   have I2:=I1.kept (t':=tk) kp;have few:=Gc (c:=c);have bu:((Ah c).map λi:Nat=>(i:Int)).Pairwise (· < ·):=by
    rw[List.pairwise_map];exact((fN (n:=8)).filter _).imp λh=>by omega
   refine Vw (I.ok.hd hc) (V1 si) λvs s3 po=>?_
   obtain⟨⟨J,ia,K⟩,h3,Z,i0,e3⟩:=po;subst e3;have lv:vs.length=(Ah c).length:=by have:=ia.length;rw[K.length_eq,Y2]at this;omega
   refine⟨J,ia,by omega,λout D a1 a2 a3=>?_⟩;have I3:=I2.kept (t':=Z) i0;refine Vx I3 (ns:=J) (by rw[K.length_eq,Y2];omega) a1 a2 λl H' sm fr kl=>?_
   refine q l H' D sm fr kl ?_ λm=>?_
   .have nd:D.Nodup:=(a2.trans K).nodup_iff.mpr (bu.imp λh=>Int.ne_of_lt h);exact(List.pairwise_and_iff.mpr ⟨a3,nd⟩).imp λh=>by omega
   .rw [(a2.trans K).mem_iff,Zj];constructor
    .rintro⟨j,hj,rfl⟩;obtain⟨i,hi,e⟩:=(me j).mp hj;have B:i<ns.length:=by simpa [O] using hi
     refine⟨j,?_,rfl⟩;rw[e,Y3,Y6 B];exact ZL B
    .rintro⟨j,hj,rfl⟩;obtain⟨i,hi,e⟩:=List.getElem_of_mem hj;refine⟨j,(me j).mpr ⟨i,by simpa[O] using hi,?_⟩,rfl⟩;rw[Y3,Y6 hi];exact e.symm) G rfl))
section
variable{X:Cx}
theorem V5(Z:X.A.units<cLine):OpR X (compareOp .Eq) (λx y H Q=>∃(a b:yR) (xs:zA),x= .ref a/\y= .ref b/\H a=some (.tup xs)/\H b=some (.tup [])/\Q (.bl xs.isEmpty) H):=by
 intro ad s σ H x y v u Q I G ry h;obtain⟨a,b,xs,rfl,rfl,ha,hb,q⟩:=h;cases G;cases ry;obtain⟨D,J,p1,_⟩:=I.tuple (Ae.of ha);obtain⟨B,O,K,_⟩:=I.tuple (Ae.of hb);cases O;refine SeqAt.RcAt.tuples (e:=λ_=>true) p1 K Z (λj h1 h2=>absurd h2 (by simp)) _ _ _ _ (AT I q ?_);cases J with
 | nil=>rfl
 | cons r t=>simp
end
def NV(a b:TE):TE:=fun y H Q=>a y H Q\/b y H Q
theorem V6{X:Cx}{e:yL}{a b:TE}(D:PE X e a)(B:PE X e b):PE X e (NV a b):=λad s y H Q I h=>h.elim (λq=>D ad s y H Q I q) λq=>B ad s y H Q I q
theorem V7(P:yP)(w:yN)(K:Fgx){X:Cx}{p pos G y:Pos}{D B:yL}{ta:TA}(Z:Gl X "list")(i0:X.mg "list"=none)(hg:Gl X "zip")(hm:X.mg "zip"=none)(ha:PA X [D,B] ta)(hP:autoParam (X.prog=P) L3)(hw:autoParam (X.w=w) L3)(hK:autoParam (X.K=K) L3)(hc:autoParam (X.calm=true) L3)
  (J:autoParam (starEach [.Call (.Name "zip" G) [D,B] [] y] X.env=[(false,eval (.Call (.Name "zip" G) [D,B] [] y) X.env)]) L3) (hs:autoParam (starEach [D,B] X.env=[(false,eval D X.env),(false,eval B X.env)]) L3) (O:autoParam (starEach [B] X.env=[(false,eval B X.env)]) L3):
  PE X (.Call (.Name "list" p) [.Call (.Name "zip" G) [D,B] [] y] [] pos) (Nx (Cy P w K) (Cy P w K) ta):=by
 subst hP hw hK;exact Vg _ _ (Ru _ _ _) (λ_ _ _ _ e q=>e.seq q) (λ_ _ _ _ e q=>e.seq q) Z i0 hg hm ha hc J hs O
end L2
namespace MF
open L2
variable{L M:List (Int × Int)}{T:TM}{F:yZ}
def AttP:List (Int×Int)->Int×Int->Prop
 | [],q=>q=(0,0)
 | c::L,q=>∃(x:Int) (q':Int×Int),0<=x/\x<=c.2/\AttP L q'/\q=(x+q'.1,c.1 * x+q'.2)
theorem AttP.perm(p:L.Perm M):∀q,AttP L q->AttP M q:=by
 induction p with
 | nil=>exact λ_ h=>h
 | cons c _ ih=>rintro q ⟨x,D,a,b,h,e⟩;exact⟨x,D,a,b,ih _ h,e⟩
 | swap c d L=>
  rintro q ⟨x,D,a,b,⟨y,B,J,G,h,rfl⟩,rfl⟩;refine⟨y,_,J,G,⟨x,B,a,b,h,rfl⟩,?_⟩;show(x+(y+B.1),d.1 * x+(c.1 * y+B.2))=(y+(x+B.1),c.1 * y+(d.1 * x+B.2))
  congr 1<;>omega
 | trans _ _ ih1 ih2=>exact λq h=>ih2 q (ih1 q h)
noncomputable def Ba:List (Int×Int)->Int->Int
 | [],_=>0
 | c::L,a=>c.1 * min a c.2+Ba L (a-min a c.2)
def AE(L:List (Int×Int)):Int:=(L.map (·.2)).sum
theorem JM:∀ {L:List (Int×Int)},(∀c∈L,0<=c.2)->Ba L 0=0
 | [],_=>rfl
 | c::L,h=>by
  have h0:=h c YR;show c.1 * min 0 c.2+Ba L (0-min 0 c.2)=0;rw[show min 0 c.2=0 from by omega,bj,Int.sub_zero,JM (λd hd=>h d (YQ _ hd))];rfl
theorem Gd:∀ {L:List (Int×Int)},(∀c∈L,0<=c.2)->0<=AE L
 | [],_=>Za _
 | c::L,h=>by
  have:=Gd (L:=L) λd hd=>h d (YQ _ hd)
  have:=h c YR;show 0<=c.2+AE L;omega
theorem NW:∀ {L:List (Int×Int)}{a:Int},(∀c∈L,0<=c.2)->0<=a->a<=AE L->AttP L (a,Ba L a)
 | [],a,_,h0,h1=>by
  have:a=0:=by have B:a<=0:=h1;omega
  subst this;rfl
 | c::L,a,hp,h0,h1=>by
  have D:=hp c YR;have y:a<=c.2+AE L:=h1;have G:=Gd (L:=L) λd hd=>hp d (YQ _ hd)
  refine⟨min a c.2,(a-min a c.2,Ba L (a-min a c.2)),by omega,by omega,NW (λd hd=>hp d (YQ _ hd)) (by omega) (by omega),?_⟩;show(a,_)=(min a c.2+(a-min a c.2),_)
  congr 1;omega
noncomputable def Ef(p:Int):List (Int×Int)->Int
 | []=>0
 | c::L=>(if c.1<p then(c.1-p) * c.2 else 0)+Ef p L
theorem NX{p:Int}:∀ {L:List (Int×Int)}{q:Int×Int},AttP L q->p * q.1+Ef p L<=q.2
 | [],q,h=>by have e:q=(0,0):=h;subst e;show p * 0+0<=0;omega
 | c::L,q,⟨x,q',a,b,h,e⟩=>by
  have B:=NX (p:=p) h;subst e;show p *(x+q'.1)+((if c.1<p then(c.1-p) * c.2 else 0)+Ef p L)<=c.1 * x+q'.2;rw[fL];have y:(if c.1<p then(c.1-p) * c.2 else 0)<=c.1 * x-p * x:=by
   rw[<-dL];split
   .rename_i lt;have h:(p-c.1) * x<=(p-c.1) * c.2:=bG b (by omega);have D:(c.1-p) * c.2= -((p-c.1) * c.2):=by rw [<-Int.neg_mul];congr 1;omega
    have G:(c.1-p) * x= -((p-c.1) * x):=by rw[<-Int.neg_mul];congr 1;omega
    omega
   .exact av (by omega) a
  omega
theorem NY{p:Int}:∀ {L:List (Int×Int)},(∀c∈L,p<=c.1)->Ef p L=0
 | [],_=>rfl
 | c::L,h=>by
  show(if c.1<p then _ else 0)+Ef p L=0;rw[Y8 (by have:=h c YR;omega),NY λd hd=>h d (YQ _ hd)];rfl
theorem NZ:∀ {L:List (Int×Int)}{a:Int},L.Pairwise (λc d=>c.1<=d.1)->(∀c∈L,0<=c.2)->0<=a->a<=AE L->∃p,Ba L a=p * a+Ef p L/\(∀x:Int,(∀c∈L,x<=c.1)->L≠ []->x<=p)
 | [],a,_,_,h0,h1=>⟨0,by have Z:a<=0:=h1;show(0:Int)=0 * a+0;omega,λx _ n=>absurd rfl n⟩
 | c::L,a,hs,hp,h0,h1=>by
  obtain⟨G,O⟩:=bq.mp hs;have J:=hp c YR;have y:∀d∈L,0<=d.2:=λd hd=>hp d (YQ _ hd)
  have B:a<=c.2+AE L:=h1
  by_cases le:a<=c.2
  .refine⟨c.1,?_,λx D _=>D c YR⟩;show c.1 * min a c.2+Ba L (a-min a c.2)=c.1 * a+((if c.1<c.1 then _ else 0)+Ef c.1 L);rw[show min a c.2=a from by omega,f7,JM y,Y8 (Int.lt_irrefl _),NY G];omega
  .obtain⟨p,e,lo⟩:=NZ (a:=a-c.2) O y (by omega) (by omega);have K:L≠ []:=λz=>by subst z;have h3:a<=c.2+0:=B;omega
   have cp:=lo c.1 G K;refine⟨p,?_,λx D _=>ay (D c YR) cp⟩;show c.1 * min a c.2+Ba L (a-min a c.2)=p * a+((if c.1<p then(c.1-p) * c.2 else 0)+Ef p L);rw[show min a c.2=c.2 from by omega,e,bS]
   by_cases lt:c.1<p
   .rw[YN lt,dL];omega
   .rw[Y8 lt,show c.1=p from by omega];omega
noncomputable def Bx(L:List (Int×Int)):List (Int×Int):=(List.range ((AE L).toNat+1)).map fun(a:Nat)=>((a:Int),Ba L (a:Int))
theorem V8:(Bx L).length=(AE L).toNat+1:=by unfold Bx;simp
theorem N3{k:Nat}(h:k<(AE L).toNat+1):(Bx L)[k]? =some ((k:Int),Ba L (k:Int)):=by unfold Bx;rw[YU,bH h];rfl
theorem V9{g:Nat->Int}:∀ {n k:Nat},k<n->AW ((List.range n).map fun(a:Nat)=>((a:Int),g a)) (k:Int)=some (g k):=by
 intro n
 induction n with
 | zero=>intro k h;omega
 | succ n ih=>
  intro k h;rw[bA,YS]
  by_cases e:k=n
  .subst e;have no:AW ((List.range k).map fun(a:Nat)=>((a:Int),g a)) (k:Int)=none:=by
    cases z:AW ((List.range k).map fun(a:Nat)=>((a:Int),g a)) (k:Int) with
    | none=>rfl
    | some w=>
     obtain⟨a,y,B⟩:=Zj.mp (EK z);have G:=Zr.mp y;have D:(a:Int)=(k:Int):=Zz Prod.fst B;omega
   show AW (_++[((k:Int),g k)]) _=_;rw[JB no,YN rfl]
  .have no:AW ((List.range n).map fun(a:Nat)=>((a:Int),g a)) (n:Int)=none:=by
    cases z:AW ((List.range n).map fun(a:Nat)=>((a:Int),g a)) (n:Int) with
    | none=>rfl
    | some w=>
     obtain⟨a,y,B⟩:=Zj.mp (EK z);have G:=Zr.mp y;have D:(a:Int)=(n:Int):=Zz Prod.fst B;omega
   show AW (_++[((n:Int),g n)]) _=_;rw[JB no,Y8 (by omega)];exact ih (by omega)
theorem N4:∀ {L:List (Int×Int)}{q:Int×Int},AttP L q->0<=q.1/\q.1<=AE L
 | [],q,h=>by have e:q=(0,0):=h;subst e;exact⟨Za _,Za _⟩
 | c::L,q,⟨x,q',a,b,h,e⟩=>by
  have:=N4 h;subst e;show 0<=x+q'.1/\x+q'.1<=c.2+AE L;omega
theorem Wa(p:L.Perm M):AE L=AE M:=by
 induction p with
 | nil=>rfl
 | cons c _ ih=>show c.2+AE _=c.2+AE _;rw[ih]
 | swap c d L=>show d.2+(c.2+AE L)=c.2+(d.2+AE L);omega
 | trans _ _ h1 h2=>rw[h1,h2]
theorem Mn.costs(D:M.Perm L)(Z:M.Pairwise λc d=>c.1<=d.1)(hp:∀c∈L,0<=c.2):Mn (AttP L) (Bx M):=by
 have y:∀c∈M,0<=c.2:=λc O=>hp c (D.mem_iff.mp O)
 have m0:=Gd y;refine⟨λq B=>?_,λq B=>?_,?_⟩
 .unfold Bx at B;obtain⟨a,ha,rfl⟩:=Zj.mp B;have:=Zr.mp ha;exact AttP.perm D _ (NW y (by omega) (by omega))
 .have K:=N4 B;rw[<-Wa D]at K;have G:=AttP.perm D.symm _ B;obtain⟨p,e,_⟩:=NZ Z y K.1 K.2;refine⟨Ba M q.1,?_,by rw[e];exact NX G⟩;have:=V9 (g:=λa=>Ba M (a:Int)) (n:=(AE M).toNat+1) (k:=q.1.toNat) (by omega);rw[show((q.1.toNat:Nat):Int)=q.1 from by omega]at this;exact this
 .unfold Bx;rw[ae];show List.Pairwise (· ≠ ·) _;refine List.Pairwise.map _ (λa b J h=>?_) (List.nodup_range (n:=(AE M).toNat+1));exact J (by have h':(a:Int)=(b:Int):=h;omega)
theorem N5:∀ {co cs:yV},co.length=cs.length->∀q,AttP (co.zip cs) q↔ ∃r:yV,r.length=co.length/\(∀b,b<co.length->0<=r.getD b 0/\r.getD b 0<=cs.getD b 0)/\q=(r.sum,BI r co)
 | [],[],_,q=>by
  constructor
  .intro h;have e:q=(0,0):=h;exact⟨[],rfl,λb G=>absurd G (Zs _),e⟩
  .rintro⟨r,y,_,e⟩;have:r=[]:=cD.mp y;subst this;exact e
 | o::co,c::cs,h,q=>by
  have D:=N5 (co:=co) (cs:=cs) (by simpa using h);constructor
  .rintro⟨x,q',a,b,hq,rfl⟩;obtain⟨r,y,bd,e⟩:=(D q').mp hq;refine⟨x::r,by simp [y],λk B=>?_,?_⟩
   .cases k with
    | zero=>exact⟨a,b⟩
    | succ k=>simpa using bd k (by simpa using B)
   .rw[e];rfl
  .rintro⟨r,y,bd,rfl⟩;cases r with
   | nil=>simp at y
   | cons x r=>
    have b0:=bd 0 (by simp);refine⟨x,(r.sum,BI r co),by simpa using b0.1,by simpa using b0.2,(D _).mpr ⟨r,by simpa using y,λk B=>by simpa using bd (k+1) (by simpa using B),rfl⟩,rfl⟩
def RowT(T:TM)(F:yZ):Prop:=F.length=T.ds.length/\∀i,i<T.ds.length->(F.getD i []).length=T.co.length/\∀b,b<T.co.length->0<=(F.getD i []).getD b 0/\(F.getD i []).getD b 0<=(T.cs.getD i []).getD b 0
def LvT(T:TM)(i:Nat)(q:Int×Int):Prop:=∃F,RowT T F/\(∀j,j<i->T.lo<=mT T F (j+1))/\q=(mT T F i,A9 T F i)
theorem JN{i:Nat}{r:yV}:∀j,j<=i->mT T (F.set i r) j=mT T F j
 | 0,_=>rfl
 | j+1,h=>by
  show min T.hi _=min T.hi _;rw[JN j (by omega)];have e:(F.set i r).getD j []=F.getD j []:=by rw[Y3,aJ (by omega),Y3]
  rw[e]
theorem RowT.set(h:RowT T F){i:Nat}{r:yV}(hi:i<T.ds.length)(B:r.length=T.co.length)(bd:∀b,b<T.co.length->0<=r.getD b 0/\r.getD b 0<=(T.cs.getD i []).getD b 0):RowT T (F.set i r):=by
 refine⟨by rw[gc];exact h.1,λk y=>?_⟩
 by_cases e:k=i
 .subst e;have:(F.set k r).getD k []=r:=by rw[Y3,aR (by rw[h.1];exact y)];rfl
  rw[this];exact⟨B,bd⟩
 .have:(F.set i r).getD k []=F.getD k []:=by rw[Y3,aJ (λz=>e z.symm),Y3]
  rw[this];exact h.2 k y
theorem Wb(fl:A5 T):RowT T (DL T):=by
 refine⟨by unfold DL;rw[Y2],λi hi=>?_⟩;rw[F7 hi,Y2];refine⟨rfl,λb B=>?_⟩;rw[F6];have y:=DJ fl hi;have:=(fl.c _ (X' (d:=[]) (by rw[fl.ok.lc];exact hi))).2 _ (X' (l:=T.cs.getD i []) (d:=0) (by rw[y];exact B));omega
theorem LvT.zero(fl:A5 T)(q:Int×Int):LvT T 0 q↔q=(T.st,0):=
 ⟨fun⟨_,_,_,e⟩=>e,λe=>⟨DL T,Wb fl,λj y=>absurd y (Zs _),e⟩⟩
theorem Mn.hourT(fl:A5 T){i:Nat}(hi:i<T.ds.length){got G more:List (Int×Int)}(m:Mn (LvT T i) got)(ma:Mn (AttP (T.co.zip (T.cs.getD i []))) G)(Z:Mn (LsL T.lo T.hi (T.ds.getD i 0) got G got.length 0) more):Mn (LvT T (i+1)) more:=by
 have ar:=N5 (co:=T.co) (cs:=T.cs.getD i []) (DJ fl hi).symm;refine⟨λq hq=>?_,λq hq=>?_,Z.nd⟩
 .obtain⟨i',j',g,a,h1,h2,h3,h4,h5⟩:=Z.snd q hq;obtain⟨F,B,J,D⟩:=m.snd g (YW h1);obtain⟨r,r1,r2,r3⟩:=(ar a).mp (ma.snd a (YW h2));have lF:i<F.length:=by rw[B.1];exact hi
  have er:(F.set i r).getD i []=r:=by rw[Y3,aR lF];rfl
  have em:mT T (F.set i r) (i+1)=min T.hi (g.1+a.1-T.ds.getD i 0):=by
   show min T.hi (mT T (F.set i r) i+((F.set i r).getD i []).sum-T.ds.getD i 0)=_;rw[JN i (Y5 _),er,D,r3]
  refine⟨F.set i r,B.set hi r1 r2,λj hj=>?_,?_⟩
  .by_cases e:j=i
   .subst e;rw[em];exact h3
   .rw[JN (j+1) (by omega)];exact J j (by omega)
  .have ec:A9 T (F.set i r) (i+1)=g.2+a.2:=by
    show A9 T (F.set i r) i+BI ((F.set i r).getD i []) T.co=_;rw[Ng i (Y5 _),er,D,r3]
   rw[h4,em,ec]
 .obtain⟨F,B,J,D⟩:=hq;obtain⟨w,hw,le⟩:=m.cmp (mT T F i,A9 T F i) ⟨F,B,λj hj=>J j (by omega),rfl⟩;obtain⟨K,i0,i4⟩:=ma.cmp ((F.getD i []).sum,BI (F.getD i []) T.co) ((ar _).mpr ⟨F.getD i [],(B.2 i hi).1,(B.2 i hi).2,rfl⟩);obtain⟨x,hx,ex⟩:=aK.mp (EK hw);obtain⟨y,hy,ey⟩:=aK.mp (EK i0);have up:=J i (by omega);obtain⟨w3,O,i5⟩:=Z.cmp (mT T F (i+1),w+K) ⟨x,y,(mT T F i,w),((F.getD i []).sum,K),by rw[Y6 hx,ex],by rw[Y6 hy,ey],up,rfl,.inl hx⟩;refine⟨w3,by rw[D];exact O,?_⟩;rw[D];show w3<=A9 T F i+BI (F.getD i []) T.co;have l1:w<=A9 T F i:=le;have l2:K<=BI (F.getD i []) T.co:=i4;have l3:w3<=w+K:=i5;omega
theorem RowT.fe(h:RowT T F)(lo:∀j,j<T.ds.length->T.lo<=mT T F (j+1)):CQ T F:=⟨h.1,λi hi=>(h.2 i hi).1,λi b hi y=>(h.2 i hi).2 b y,lo⟩
theorem Wc(fl:A5 T)(G:T.lo<=T.st)(Z:T.lo<=T.hi)(fe:CQ T F):AZ T=none:=by
 have B:Nm T (λj=>(F.getD j []).sum) (λj=>(T.cs.getD j []).sum-(F.getD j []).sum):=⟨λj _=>by omega,λj y=>by
  have:=Jy (xs:=F.getD j []) (ys:=T.cs.getD j []) (by rw[fe.row j y,DJ fl y]) λb=>by
   by_cases O:b<T.co.length
   .exact(fe.bd j b y O).2
   .rw[Nc (by rw[fe.row j y];omega),Nc (by rw[DJ fl y];omega)];exact Za _
  omega⟩
 have D:∀j,xM T.hi T.st (λj=>(F.getD j []).sum) (dT T) (λ_=>0) j=mT T F j:=by
  intro j
  induction j with
  | zero=>rfl
  | succ j ih=>
   show min T.hi (xM T.hi T.st _ (dT T) _ j+((F.getD j []).sum+0)-T.ds.getD j 0)=min T.hi (mT T F j+(F.getD j []).sum-T.ds.getD j 0);rw[ih,Int.add_zero]
 have K:Nl T.lo T.hi T.st (λj=>(F.getD j []).sum) (dT T) (λj=>(T.cs.getD j []).sum-(F.getD j []).sum) (λ_=>0) T.ds.length:=λi hi=>⟨Za _,B.pos i hi,by rw[D];exact fe.lo i hi⟩
 have J:=UU B G K;refine(UT fl.ok.lc G Z).mpr ⟨J T.ds.length 0 (by omega),λj h3 h4=>?_⟩;have:=J (T.ds.length-j) j (by omega);rw[D]at this;cases j with
 | zero=>omega
 | succ j=>exact ay this JC
theorem We(fl:A5 T)(h1:T.lo<=T.st)(sh:T.st<=T.hi)(n0:0<T.ds.length){t:List (Int×Int)}(m:Mn (LvT T T.ds.length) t):
  (AZ T≠none->t=[])/\(AZ T=none->t≠ []/\∀c qs,DH T c qs->∀w,w∈t.map (·.2)->(∀x∈t.map (·.2),w<=x)->w=c):=by
 have lh:T.lo<=T.hi:=by omega
 have B:∀q,LvT T T.ds.length q->∃F,CQ T F/\q.2=A9 T F T.ds.length:=λq ⟨F,r,lo,e⟩=>⟨F,r.fe lo,by rw[e]⟩
 refine⟨λno=>?_,λno=>?_⟩
 .cases t with
  | nil=>rfl
  | cons q r=>
   obtain⟨F,fe,_⟩:=B q (m.snd q YR);exact absurd (Wc fl h1 lh fe) no
 .obtain⟨f,ps,fe,l,as,e⟩:=Np fl lh sh n0 no;have lv:LvT T T.ds.length (mT T f T.ds.length,A9 T f T.ds.length):=⟨f,⟨fe.len,λi hi=>⟨fe.row i hi,λb hb=>fe.bd i b hi hb⟩⟩,fe.lo,rfl⟩;obtain⟨w0,J,i5⟩:=m.cmp _ lv;have hm:=EK J;refine⟨λz=>(by rw[z]at hm;cases hm),λc qs hf w hw D=>?_⟩;obtain⟨⟨g,y,eg⟩,K⟩:=Nq fl lh sh n0 no hf;have G:LvT T T.ds.length (mT T g T.ds.length,A9 T g T.ds.length):=⟨g,⟨y.len,λi hi=>⟨y.row i hi,λb hb=>y.bd i b hi hb⟩⟩,y.lo,rfl⟩;obtain⟨w1,O,Z⟩:=m.cmp _ G;have i4:w1<=A9 T g T.ds.length:=Z;have:=D w1 (Zj.mpr ⟨_,EK O,rfl⟩);obtain⟨q,hq,rfl⟩:=Zj.mp hw;obtain⟨F,i0,e2⟩:=B q (m.snd q hq);have:=K F i0;omega
end MF
namespace L2
section
variable{xs:List (List As × yR × yU)}{H':Hp}{h':Heap}{trs:List (TE × TE)}
section
variable{κ:Type} [DecidableEq κ]
noncomputable def B7(kvs:List (κ×V))(k:κ):Option V:=(kvs.find? λy=>decide (y.1=k)).map (·.2)
noncomputable def BZ(kvs:List (κ×V))(k:κ)(v:V):List (κ×V):=
 if (kvs.any λy=>decide (y.1=k))=true then kvs.map (λy=>if y.1=k then(y.1,v) else y) else kvs++[(k,v)]
theorem Hq{p:κ×V}{r:List (κ×V)}{k:κ}(e:p.1=k):B7 (p::r) k=some p.2:=by simp[B7,bP,e]
theorem Hr{p:κ×V}{r:List (κ×V)}{k:κ}(e:¬p.1=k):B7 (p::r) k=B7 r k:=by simp[B7,bP,e]
theorem N6(k:κ):∀kvs:List (κ×V),(kvs.any λy=>decide (y.1=k))=(B7 kvs k).isSome
 | []=>rfl
 | p::r=>by
  rw[aO]
  by_cases e:p.1=k
  .simp only[Hq e,Z9 e,Bool.true_or,Option.isSome_some]
  .rw[Hr e,Zh e,gq];exact N6 k r
theorem JO(kvs:List (κ×V))(k:κ)(v:V):(BZ kvs k v).length<=kvs.length+1:=by
 unfold BZ;split
 .rw[Y2];omega
 .rw[Zb,Zw,eG];omega
theorem RelO.isSome_eq{o:Option V}{u:yW}(r:RelO o u):o.isSome=u.isSome:=by
 cases o with
 | none=>cases u with
  | none=>rfl
  | some _=>exact(show False from r).elim
 | some _=>cases u with
  | none=>exact(show False from r).elim
  | some _=>rfl
theorem RelO.getD{o:Option V}{u:yW}{d:V}{d':yU}(r:RelO o u)(y:Aw d d'):Aw (o.getD d) (u.getD d'):=by
 cases o with
 | none=>cases u with
  | none=>exact y
  | some _=>exact(show False from r).elim
 | some _=>cases u with
  | none=>exact(show False from r).elim
  | some _=>exact r
theorem KV.val{kvs:List (κ×V)}{vs:List (κ×yU)}(r:KV kvs vs)(k:κ):RelO (B7 kvs k) (valueAt vs k):=by
 unfold KV at r
 induction r with
 | nil=>exact True.intro
 | @cons p q ps qs h t ih=>
  obtain⟨B,D⟩:=h
  by_cases e:p.1=k
  .have y:q.1=k:=B.symm.trans e;have b:valueAt (q::qs) k=some q.2:=by simp [valueAt,bP,y]
   rw[Hq e,b];exact D
  .have y:¬q.1=k:=λz=>e (B.trans z)
   have b:valueAt (q::qs) k=valueAt qs k:=by simp[valueAt,bP,y]
   rw[Hr e,b];exact ih
theorem KV.any{kvs:List (κ×V)}{vs:List (κ×yU)}(r:KV kvs vs)(k:κ):(kvs.any λy=>decide (y.1=k))=vs.any λy=>decide (y.1=k):=by
 unfold KV at r
 induction r with
 | nil=>rfl
 | cons h t ih=>rw[aO,aO,ih,h.1]
theorem KV.repl{kvs:List (κ×V)}{vs:List (κ×yU)}(r:KV kvs vs)(k:κ){y:V}{u:yU}(J:Aw y u):
  KV (kvs.map λB=>if B.1=k then(B.1,y) else B) (vs.map λB=>if B.1=k then(B.1,u) else B):=by
 unfold KV at r ⊢
 induction r with
 | nil=>exact .nil
 | @cons p q ps qs h t ih=>
  rw[ZA,ZA];refine .cons ?_ ih;obtain⟨D,G⟩:=h
  by_cases e:p.1=k
  .rw[YN e,YN (D.symm.trans e)];exact⟨D,J⟩
  .rw[Y8 e,Y8 (λz=>e (D.trans z))];exact⟨D,G⟩
theorem KV.putX{kvs:List (κ×V)}{vs:List (κ×yU)}(r:KV kvs vs)(k:κ){y:V}{u:yU}(B:Aw y u):KV (BZ kvs k y) (stored vs k u):=by
 unfold BZ stored;rw[r.any k]
 by_cases e:(vs.any λD=>decide (D.1=k))=true
 .rw[YN e,YN e];exact r.repl k B
 .rw[Y8 e,Y8 e];exact Paired.snoc r ⟨rfl,B⟩
theorem KV.length{kvs:List (κ×V)}{vs:List (κ×yU)}(r:KV kvs vs):kvs.length=vs.length:=Paired.length r
end
theorem Hs{P:yP}{w:yN}{k:As}{u:yU}(r:Aw (kV k) u):(AX P w).is k u=true:=by
 cases k with
 | inl i=>obtain⟨t,e⟩:=(show ∃t,u=Value.int i t from r);subst e;exact Ib P w i t
 | inr x=>obtain⟨t,e⟩:=(show ∃t,u=Value.str x t from r);subst e;exact KI P w x t
theorem N7{P:yP}{w:yN}:∀ {y:List As}{us:yX},Av (y.map kV) us->ItemsAre (AX P w) y us
 | [],_,r=>by rw[eS]at r;cases r;exact .nil
 | k::y,_,r=>by
  rw[ZA]at r;cases r with
  | cons h t=>exact .cons (Hs h) (N7 t)
abbrev KT(H:Hp):List (List As×V)->List (List As×yR×yU)->Prop:=Paired λp q=>p.1=q.1/\H q.2.1=some (.tup (p.1.map kV))/\Aw p.2 q.2.2
theorem KT.val{H:Hp}{kvs:List (List As×V)}(r:KT H kvs xs)(k:List As):RelO (B7 kvs k) ((atKey xs k).map (·.2)):=by
 induction r with
 | nil=>exact True.intro
 | @cons p q ps qs h t ih=>
  obtain⟨B,_,D⟩:=h
  by_cases e:p.1=k
  .have y:q.1=k:=B.symm.trans e;have b:atKey (q::qs) k=some q.2:=by simp [atKey,bP,y]
   rw[Hq e,b];exact D
  .have y:¬q.1=k:=λz=>e (B.trans z)
   have b:atKey (q::qs) k=atKey qs k:=by simp[atKey,bP,y]
   rw[Hr e,b];exact ih
theorem KT.repl{H:Hp}{kvs:List (List As×V)}(r:KT H kvs xs)(k:List As){y:V}{u:yU}(K:Aw y u):
  KT H (kvs.map λD=>if D.1=k then(D.1,y) else D) (xs.map (putAt k u)):=by
 induction r with
 | nil=>exact .nil
 | @cons p q ps qs h t ih=>
  rw[ZA,ZA];refine .cons ?_ ih;obtain⟨B,G,J⟩:=h;unfold putAt
  by_cases e:p.1=k
  .rw[YN e,YN (B.symm.trans e)];exact⟨B,G,K⟩
  .rw[Y8 e,Y8 (λz=>e (B.trans z))];exact⟨B,G,J⟩
theorem KT.put{H:Hp}{kvs:List (List As×V)}(r:KT H kvs xs)(k:List As){b:yR}{y:V}{u:yU}(G:H b=some (.tup (k.map kV)))(B:Aw y u):
  KT H (BZ kvs k y) (storedH xs k b u):=by
 have e:(kvs.any λD=>decide (D.1=k))=(atKey xs k).isSome:=by
  rw[N6,(r.val k).isSome_eq,Option.isSome_map]
 unfold BZ storedH;rw[e]
 by_cases q:(atKey xs k).isSome=true
 .rw[YN q,YN q];exact r.repl k B
 .rw[Y8 q,Y8 q];exact Paired.snoc r ⟨rfl,G,B⟩
theorem KT.keeps{H:Hp}{kvs:List (List As×V)}(r:KT H kvs xs)(y:∀b ys,H b=some (.tup ys)->H' b=some (.tup ys)):KT H' kvs xs:=
 Paired.mapP r λ_ _ z=>⟨z.1,y _ _ z.2.1,z.2.2⟩
section
variable{P:yP}{w:yN}{H:Hp}{h:Heap}{a:yR}
theorem N8{u:HO}(ok:HOk P w H h)(e:Rd H a u):ObjOk P w H h a u:=e.ok ok
theorem JP{kvs:List (As×V)}(ok:HOk P w H h)(e:Rd H a (.dK kvs)):kvs.length<=sizeLine/\(a==sysModules)=false/\∃vs,KV kvs vs/\h.DictOf (AX P w) a vs:=
 show ObjOk P w H h a (.dK kvs) from N8 ok e
theorem N9{kvs:List (As×V)}(ok:HOk P w H h)(e:H a=some (.dK kvs)):kvs.length<=sizeLine/\(a==sysModules)=false/\∃vs,KV kvs vs/\h.DictOf (AX P w) a vs:=JP ok (.inl e)
theorem JQ{B:List As}(ok:HOk P w H h)(e:H a=some (.tup (B.map kV))):(tupleKind (AX P w)).is h B a:=by
 obtain⟨_,y,r,o,J,D,n,G⟩:=(show ObjOk P w H h a (.tup (B.map kV)) from ok a _ e);exact⟨o,y.toArray,n,J,D,G,by simpa using N7 r⟩
theorem JR{kvs:List (List As×V)}(ok:HOk P w H h)(e:Rd H a (.dT kvs)):kvs.length<=sizeLine/\(a==sysModules)=false/\
  ∃xs,KT H kvs xs/\h.DictOfH (tupleKind (AX P w)) a xs:=by
 obtain⟨z,y,xs,r,o,es,D,K,G,J,h4,O⟩:=(show ObjOk P w H h a (.dT kvs) from N8 ok e);refine⟨z,y,xs,r,o,es,D,K,G,J,h4,λx B=>?_,O⟩;have all:∀ {l:List (List As×V)}{m:List (List As×yR×yU)},KT H l m->∀x∈m,(tupleKind (AX P w)).is h x.1 x.2.1:=by
  intro l m q
  induction q with
  | nil=>intro x B;exact nomatch B
  | @cons p q ps qs hq t ih=>
   intro x B;rcases YY.mp B with e | B
   .subst e;exact JQ ok (by rw[<-hq.1];exact hq.2.1)
   .exact ih x B
 exact all r x B
theorem Wf{kvs:List (List As×V)}(ok:HOk P w H h)(e:H a=some (.dT kvs)):kvs.length<=sizeLine/\(a==sysModules)=false/\
  ∃xs,KT H kvs xs/\h.DictOfH (tupleKind (AX P w)) a xs:=JR ok (.inl e)
end
def DGet(H:Hp)(a:yR)(y:V)(r:Option V):Prop:=
 (∃B k,Rd H a (.dK B)/\y=kV k/\r=B7 B k)\/ ∃B k b,Rd H a (.dT B)/\y= .ref b/\H b=some (.tup (k.map kV))/\r=B7 B k
def DPut(H:Hp)(a:yR)(y v:V)(H':Hp):Prop:=
 (∃B k,H a=some (.dK B)/\y=kV k/\B.length<sizeLine/\H'=upd H a (.dK (BZ B k v)))\/
 ∃B k b,H a=some (.dT B)/\y= .ref b/\H b=some (.tup (k.map kV))/\B.length<sizeLine/\H'=upd H a (.dT (BZ B k v))
theorem DGet.k{H:Hp}{a:yR}{kvs:List (As×V)}{k:As}(e:H a=some (.dK kvs)):DGet H a (kV k) (B7 kvs k):= .inl ⟨kvs,k,.inl e,rfl,rfl⟩
theorem DPut.k{H:Hp}{a:yR}{kvs:List (As×V)}{k:As}{v:V}(e:H a=some (.dK kvs))(y:kvs.length<sizeLine):DPut H a (kV k) v (upd H a (.dK (BZ kvs k v))):= .inl ⟨kvs,k,e,rfl,y,rfl⟩
section
variable{X:Cx}{ad:List (yR × Obj)}{σ:St}{H:Hp}{s:yS}{a:yR}{y v:V}{u r:yU}{o:Option V}{A:yO}{E:yY}
theorem Ac.bigX(I:Ac X ad σ H s):sysModules<s.heap.objs.size:=by
 have h:mainGlobals<s.heap.objs.size:=(I.mod.glob.keeps I.bk).lt;exact bg (by decide) h
theorem JS{t':Nat}{ob:HO}(I:Ac X ad σ H s)(G:FA (H a))(B:Heap.SameBut a s.heap h')(y:∃q,h'.get? a=some q)(new:ObjOk X.prog X.w (upd H a ob) h' a ob):
  Ac X ad σ (upd H a ob) { s with heap:=h',toks:=t'}:=
 I.write (x:=a) (e:=a) G (.inl rfl) (λb q D z=>(B.2 b D).trans z) y new
theorem Oa{P:yP}{w:yN}{kvs:List (As×V)}{vs:List (As×yU)}(z:kvs.length<=sizeLine)(hd:(a==sysModules)=false)(rel:KV kvs vs)(dd:h'.DictOf (AX P w) a vs):
  ObjOk P w H' h' a (.dK kvs):=⟨z,hd,vs,rel,dd⟩
theorem Wg{Q:Unit->yS->Prop}(hu:A.units+1<cLine)(I:Ac X ad σ H s)(g:DPut H a y v H')(ry:Aw y u)(rv:Aw v r)(h:∀s',Ac X ad σ H' s'->Q () s'):
  wpAny (model X.prog X.w) A (setItem (.ref a) u r) Q E s:=by
 rcases g with⟨kvs,k,e,ey,l,eH⟩ | ⟨kvs,k,b,e,ey,eb,l,eH⟩
 .subst ey eH;obtain⟨z,hd,vs,rel,G⟩:=N9 I.hok e;have O:vs.length<=sizeLine:=by rw[<-rel.length];exact z
  have K:(BZ kvs k v).length<=sizeLine:=by have:=JO kvs k v;omega
  refine wpAny_setItem_pairs (hsz:=O) (Hs ry) G λZ B J=>h _ ?_
  have he:∃q,Z.get? a=some q:=let ⟨q,_,_,D,_⟩:=B;⟨q,D⟩;exact JS I (by rw[e];exact True.intro) J he (Oa K hd (rel.putX k rv) B)
 .subst ey eH;cases(show u=Value.ref b from ry);obtain⟨z,hd,xs,rel,G⟩:=Wf I.hok e;have O:xs.length<=sizeLine:=by rw[<-Paired.length rel];exact z
  have K:(BZ kvs k v).length<=sizeLine:=by have:=JO kvs k v;omega
  refine wpAny_setItem_heap (hsz:=O) (tupleKind_room_in1 hu) (JQ I.hok eb) G λZ B J=>h _ ?_
  obtain⟨q,es,ep,D,h2,h3,h4,_,h5⟩:=B;refine JS I (by rw[e];exact True.intro) J ⟨q,D⟩ ⟨K,hd,_,(rel.put k eb rv).keeps λc ys ec=>?_,q,es,ep,D,h2,h3,h4,h5⟩;rw[Ao (KJ ec e (λz=>nomatch z))];exact ec
end
def Wh(O ty Z:TE):TS:=λD B H=>Z B H λv J=>O B J λx H2=>ty B H2 λy K=>∃a G,x= .ref a/\DPut K a y v G/\D.nx B G
section
variable{X:Cx}{o i e value:yL}{pos pos' tpos:Pos}{td ty tv:TE}
theorem Wi(hu:X.A.units+1<cLine)(ho:PE X o td)(hi:PE X i ty)(hv:PE X value tv)(hs:swapsWith value (some (.Subscript o i pos')) pos.line X.env=pure false):
  PS X (.Assign [.Subscript o i pos'] value pos) (Wh td ty tv):=by
 intro ad s B H D I h;refine wpAny_Assign_Subscript (Ap (hv ad s B H _ I h) λr s1 ⟨v,H1,Z,rv,q1⟩=>Ap (ho ad s1 B H1 _ Z q1) λu s2 ⟨x,H2,K,J,G⟩=>Ap (hi ad s2 B H2 _ K G) λiv s3 zq=>?_) hs;obtain⟨y,H3,I3,ry,a,O,ex,g,q3⟩:=zq;subst ex;obtain rfl:u=Value.ref a:=J;exact Wg hu I3 g ry rv λs4 I4=>⟨B,O,I4,q3⟩
end
theorem Ob{P:yP}{w:yN}{H:Hp}(h:Heap)(y:sysModules<h.objs.size):ObjOk P w H (h.push { cls:= .type "dict",data:= .dict #[]}) h.objs.size (.dK []):=
 ⟨Z1 _,aa.mpr (Zv (YT y)),[],.nil,bU h⟩
def Wj:TE:=λ_ H Q=>∀p,H p=none->Q (.ref p) (upd H p (.dK []))
section
variable{X:Cx}{pos:Pos}
theorem Oc:PE X (.Dict [] [] pos) Wj:=λad s y H Q I h=>
 wpAny_Dict_empty ⟨.ref s.heap.objs.size,_,I.laid (a:=s.heap.objs.size) (o:= .dK []) (t':=s.toks) (λ_ _ q=>Y1 _ q) (Y5 _) (Ob s.heap I.bigX),rfl,h _ (I.hok.fresh (Y5 _))⟩
end
def JT:List (TE×TE)->St->Hp->(List (V×V)->Hp->Prop)->Prop
  | [],_,H,Q=>Q [] H
  | (tk,tv)::r,σ,H,Q=>tk σ H λx B=>tv σ B λy J=>JT r σ J λD G=>Q ((x,y)::D) G
abbrev VV:List (V×V)->List (yU×yU)->Prop:=Paired λp q=>Aw p.1 q.1/\Aw p.2 q.2
def Ht(X:Cx)(pos:Pos)(B:List (Option yL))(y:List yL)(D:List (TE×TE)):Prop:=
 ∀(ad:PNs) (s:yS) (G:St) (H:Hp) (Q:List (V×V)->Hp->Prop),Ac X ad G H s->JT D G H Q->
  wpAny (model X.prog X.w) X.A (evalPairs (pairTrees B y X.env pos)) (λZ O=>∃J K,Ac X ad G K O/\VV J Z/\Q J K) X.xe s
theorem Wk{X:Cx}{pos:Pos}:Ht X pos [] [] []:=λad s y H Q I h=>dO ⟨[],H,I,.nil,h⟩
theorem Wl{X:Cx}{pos:Pos}{k v:yL}{G:List (Option yL)}{vs:List yL}{tk D:TE}(hk:PE X k tk)(hv:PE X v D)(J:Ht X pos G vs trs):
  Ht X pos (some k::G) (v::vs) ((tk,D)::trs):=λad s B H Q I h=>
 dB (Ap (hk ad s B H _ I h) λu s1 ⟨x,H1,I1,O,q1⟩=>Ap (hv ad s1 B H1 _ I1 q1) λw2 s2 ⟨y,H2,Z,ry,K⟩=>
  Ap (J ad s2 B H2 _ Z K) λws s3 ⟨ps,H3,I3,rel,q3⟩=>⟨(x,y)::ps,H3,I3,.cons ⟨O,ry⟩ rel,q3⟩)
noncomputable def Eg(kvs more:List (As×V)):List (As×V):=more.foldl (λB y=>BZ B y.1 y.2) kvs
theorem KV.merge:∀ {more:List (As×V)}{y:List (As×yU)}{kvs:List (As×V)}{vs:List (As×yU)},KV more y->KV kvs vs->KV (Eg kvs more) (merged vs y):=by
 intro more y kvs vs r;unfold KV at r
 induction r generalizing kvs vs with
 | nil=>intro q;exact q
 | @cons p q ps qs h t ih=>
  intro B;have e:KV (BZ kvs p.1 p.2) (stored vs q.1 q.2):=by
   have:=B.putX p.1 h.2;rw[<-h.1];exact this
  exact ih e
theorem Od:∀(more kvs:List (As×V)),(Eg kvs more).length<=kvs.length+more.length
 | [],kvs=>by show kvs.length<=kvs.length+0;omega
 | p::r,kvs=>by
  have B:=Od r (BZ kvs p.1 p.2);have y:=JO kvs p.1 p.2;show(Eg (BZ kvs p.1 p.2) r).length<=_;rw[Zw];omega
theorem Oe{P:yP}{w:yN}:∀ {kvs:List (As×V)}{ws:List (yU×yU)},VV (kvs.map λB=>(kV B.1,B.2)) ws->∃y,Carries (AX P w) ws y/\KV kvs y
 | [],_,r=>by rw[eS]at r;cases r;exact⟨[],True.intro,.nil⟩
 | p::kvs,_,r=>by
  rw[ZA]at r;cases r with
  | @cons a b as bs h t=>
   obtain⟨y,c,q⟩:=Oe (P:=P) (w:=w) t;obtain⟨b1,D⟩:=b;exact⟨(p.1,D)::y,⟨Hs h.1,rfl,c⟩,.cons ⟨rfl,h.2⟩ q⟩
def Wm(B:List (TE×TE)):TE:=fun K H Q=>∀p,H p=none->JT B K (upd H p (.dK [])) λJ G=>G p=some (.dK [])/\∃y:List (As×V),J=y.map (λD=>(kV D.1,D.2))/\y.length<=15/\Q (.ref p) (upd G p (.dK (Eg [] y)))
theorem Wn{X:Cx}{pos:Pos}{y:List (Option yL)}{B:List yL}(h:Ht X pos y B trs)(J:y.all (·.isSome)=true)(hl:y.length=B.length)(h0:y≠ [])
  (K:y.length<=15):PE X (.Dict y B pos) (Wm trs):=by
 intro ad s σ H Q I q;have hn:=I.hok.fresh (Y5 s.heap.objs.size);have I1:=I.laid (a:=s.heap.objs.size) (o:= .dK []) (h':=s.heap.push { cls:= .type "dict",data:= .dict #[]}) (t':=s.toks) (λ_ _ q=>Y1 _ q) (Y5 _) (Ob s.heap I.bigX);refine ft (knd:=AX X.prog X.w) J hl h0 K (Ap (h ad _ σ _ _ I1 (q _ hn)) λws s2 zq=>?_);obtain⟨ps,H2,O,rel,e,D,ep,lk,Z⟩:=zq;subst ep;obtain⟨rs,c,rk⟩:=Oe (P:=X.prog) (w:=X.w) rel;obtain⟨z,hd,i0,r0,dd⟩:=N9 O.hok e;cases r0;refine⟨rs,c,dd,λh' G hs=>⟨.ref s.heap.objs.size,_,?_,rfl,Z⟩⟩;have hz:(Eg [] D).length<=sizeLine:=by
  have h1:=Od D [];rw[eG]at h1;rw[fG];omega
 have he:∃q,h'.get? s.heap.objs.size=some q:=let ⟨q,_,_,hq,_⟩:=G;⟨q,hq⟩;exact JS O (by rw[e];exact True.intro) hs he (Oa hz hd (rk.merge .nil) G)
structure M1(X:Cx)(o:yL)(m:Str)(apos:Pos)(e:yL)(cpos:Pos):Prop where
 base:attributeBase o m X.env (eval o X.env)=eval o X.env
 few:((backTo cpos (starEach [e] X.env)).all (λx=> !x.1) &&(backToKw cpos (keywordEach [] X.env)).all (λx=>x.1.isSome)
  && decide (([e]:List yL).length+([]:List Keyword).length+(if ([]:List Keyword).isEmpty then 0 else 1)<30))=true
 line:(apos.endLine==cpos.line)=true
 trees:backTo cpos (starEach [e] X.env)=[(false,eval e X.env)]
structure M2(X:Cx)(o:yL)(m:Str)(apos:Pos)(e f:yL)(cpos:Pos):Prop where
 base:attributeBase o m X.env (eval o X.env)=eval o X.env
 few:((backTo cpos (starEach [e,f] X.env)).all (λx=> !x.1) &&(backToKw cpos (keywordEach [] X.env)).all (λx=>x.1.isSome)
  && decide (([e,f]:List yL).length+([]:List Keyword).length+(if ([]:List Keyword).isEmpty then 0 else 1)<30))=true
 line:(apos.endLine==cpos.line)=true
 trees:backTo cpos (starEach [e,f] X.env)=[(false,eval e X.env),(false,eval f X.env)]
def Of(H:Hp)(a:yR):Prop:=(∃y,Rd H a (.dK y))\/ ∃y,Rd H a (.dT y)
theorem Wo{X:Cx}{ad:PNs}{σ:St}{H:Hp}{s:yS}{a:yR}(I:Ac X ad σ H s)(d:Of H a):
  s.TypeIs (.ref a) "dict" /\(∀b,Value.ref a= .ref b->∃ob,s.heap.get? b=some ob/\ob.dict=none)/\(a==sysModules)=false:=by
 rcases d with⟨kvs,e⟩ | ⟨kvs,e⟩
 .obtain⟨_,hd,J,_,y⟩:=JP I.hok e;refine⟨y.typeIs,λb q=>?_,hd⟩;cases q;obtain⟨ob,_,_,D,B,_⟩:=y;exact⟨ob,D,B.2.1⟩
 .obtain⟨_,hd,G,_,y⟩:=JR I.hok e;refine⟨y.typeIs,λb q=>?_,hd⟩;cases q;obtain⟨ob,_,_,D,B,_⟩:=y;exact⟨ob,D,B.2.1⟩
section
variable{X:Cx}{ad:List (yR × Obj)}{σ:St}{H:Hp}{s:yS}{a:yR}{y d:V}{u r:yU}{o:Option V}{A:yO}{E:yY}
theorem Wp{Q:VSP}(O:A.units+1<cLine)(I:Ac X ad σ H s)(g:DGet H a y o)(J:Aw y u)(D:Aw d r)(h:∀G s',Ac X ad σ H s'->Aw (o.getD d) G->Q G s'):
  wpAny (model X.prog X.w) A (call (.builtin "dict.get") [.ref a,u,r]) Q E s:=by
 rcases g with⟨kvs,k,e,ey,l⟩ | ⟨kvs,k,b,e,ey,eb,l⟩
 .subst ey;obtain⟨z,hd,Z,rel,B⟩:=JP I.hok e;refine call_meetsIn PySem.F.slot_dict_get B.typeIs PySem.F.entry_dict_get (PySem.F.args_dict_get_3 _ _ _) (meets_dict_get_default (AX X.prog X.w) a (Hs J) hd r) ⟨_,B.mapOf,h _ _ (I.tok _) ?_⟩;rw[l];exact(rel.val k).getD D
 .subst ey;cases(show u=Value.ref b from J);obtain⟨z,hd,K,rel,B⟩:=JR I.hok e;refine call_meetsIn PySem.F.slot_dict_get B.typeIs PySem.F.entry_dict_get (PySem.F.args_dict_get_3 _ _ _) (meetsH_dict_get_default (tupleKind (AX X.prog X.w)) a b hd r) ⟨tupleKind_room_in1 O,k,K,JQ I.hok eb,B,h _ _ (I.tok _) ?_⟩;rw[l];exact(rel.val k).getD D
end
def Wq(K ty J:TE):TE:=fun B H Q=>K B H λx D=>∃a,x= .ref a/\Of D a/\ty B D λy O=>J B O λz G=>∃o,DGet G a y o/\Q (o.getD z) G
variable{X:Cx}{o e f:yL}{apos cpos:Pos}{td ty tx:TE}
theorem Wr(hu:X.A.units+1<cLine)(ho:PE X o td)(he:PE X e ty)(hf:PE X f tx)(m:M2 X o "get" apos e f cpos):PE X (.Call (.Attribute o "get" apos) [e,f] [] cpos) (Wq td ty tx):=by
 intro ad s B H Q I h;refine wpAny_Call_method m.base m.few m.line PySem.F.plainAttrs_dict PySem.F.slot_dict_get PySem.F.type_dict_get (Ap (ho ad s B H _ I h) λu s1 zq=>?_);obtain⟨x,H1,G,K,a,ex,d,q1⟩:=zq;subst ex;obtain rfl:u=Value.ref a:=K;obtain⟨t1,t2,_⟩:=Wo G d;refine⟨t1,t2,?_⟩;rw[m.trees];refine fI rfl (db (aq (Ap (he ad s1 B H1 _ G q1) λiv s2 ⟨y,H2,O,ry,J⟩=>
  aq (Ap (hf ad s2 B H2 _ O J) λfv s3 ⟨z,H3,Z,rz,ov,g,q3⟩=>aS ?_))))
 exact Wp hu Z g ry rz λw' s4 I4 D=>⟨_,H3,I4,D,q3⟩
end
section
variable{X:Cx}{te:TE}
theorem Og{k:Nat}{A:yO}(y:AU k A):A.units+1<cLine:=by have:=y.un;omega
theorem Ws{k:Nat}{A:yO}(y:AU k A):A.units<cLine:=by have:=y.un;omega
def Wt(G:TE):TE:=fun D H Q=>G D H λx B=>∃d y,x= .ref d/\B d=some (.dK y)/\∀o,Q x (upd B d (.frz o (.dK y)))
theorem Wu{e:yL}(he:PE X e te):PE X e (Wt te):=by
 intro ad s σ H Q I h;refine Ap (he ad s σ H _ I h) λv s1 zq=>?_
 obtain⟨x,H1,G,Z,d,y,ex,hd,q⟩:=zq;subst ex;obtain⟨hz,B,K,O,D⟩:=(show ObjOk X.prog X.w H1 s1.heap d (.dK y) from G.hok d _ hd);obtain⟨o,es,ep,J,r⟩:=id D;exact⟨.ref d,_,G.write (x:=d) (e:=d) (o:= .frz o (.dK y)) (t':=s1.toks) (by rw[hd];trivial) (.inl rfl) (λb u _ q=>q) ⟨o,J⟩ ⟨J,hz,B,K,O,D⟩,Z,q o⟩
theorem Wv{d:yR}{o:Obj}{kvs:List (As×V)}{g:TG}{Z:TS}{D:Da}{σ:St}{H:Hp}(B:Nat->St->Hp->Prop)(h0:B 0 σ H)(hl:∀i σ H,B i σ H->H d=some (.frz o (.dK kvs)))
  (hs:∀i q σ H T,kvs[i]? =some q->B i σ H->H T=none->g (.ref T) σ (upd H T (.tup [kV q.1,q.2])) fun G O=>Z { D with nx:=B (i+1),ct:=B (i+1),bk:=D.nx} G O) (hd:∀σ H,B kvs.length σ H->D.nx σ H):
  ∃W:Nat->Nat->St->Hp->Prop,(∃m,W 0 m σ H)/\∀i m σ H,W i m σ H->
   ((Fj d o kvs).stop i H/\D.nx σ H)\/((Fj d o kvs).go i H/\∃N:St->Hp->Prop,(∀J H',N J H'->∃m',m'<m/\W (i+1) m' J H')/\∀x H',(Fj d o kvs).yld i H x H'->g x σ H' fun G O=>Z { D with nx:=N,ct:=N,bk:=D.nx} G O):=by
 refine⟨λi m σ H=>m=kvs.length-i/\i<=kvs.length/\B i σ H,⟨kvs.length,by simp,Z1 _,h0⟩,?_⟩;rintro i m σ H ⟨rfl,hi,p⟩;have q:=hl i σ H p
 by_cases K:i<kvs.length
 .refine .inr ⟨⟨q,K⟩,B (i+1),fun J H' p'=>⟨kvs.length-(i+1),by omega,rfl,K,p'⟩,λx H' y=>?_⟩;obtain⟨T,q',e,n,hq,y⟩:=y;subst e y;exact hs i q' σ H T hq p n
 .have e:i=kvs.length:=by omega
  subst e;exact .inl ⟨⟨q,rfl⟩,hd σ H p⟩
theorem Ww(hu:X.A.units<cLine):OpR X (compareOp .NotEq) (λx y H Q=>∃a b kvs,x= .ref a/\y= .ref b/\Rd H a (.dK kvs)/\Rd H b (.dK [])/\Q (.bl (!kvs.isEmpty)) H):=by
 intro ad s2 σ K x y v u Q D r1 r2 ⟨p,q,kvs,ex,ey,rp,rq,z⟩;subst ex ey;cases r1;cases r2;obtain⟨_,J,B,kv,d1⟩:=(show ObjOk X.prog X.w K s2.heap p (.dK kvs) from rp.ok D.hok);obtain⟨_,G,Z,kw,d2⟩:=(show ObjOk X.prog X.w K s2.heap q (.dK []) from rq.ok D.hok);have O:kvs.length=B.length:=Paired.length kv;have lw:0=Z.length:=Paired.length kw;have ew:Z=[]:=af lw.symm;subst ew;refine PySem.W.keq_ne (r:=true) J G d1 d2 hu (λe=>?_) ⟨.bl (!kvs.isEmpty),K,D,?_,z⟩
 .have:B=[]:=af e;subst this;exact .nil
 .have:kvs.isEmpty=(B.length==([]:List (As×yU)).length && true):=by
   cases kvs with
   | nil=>rw[<-O];rfl
   | cons _ _=>rw[<-O];rfl
  rw[this];rfl
def Ge(v d:yR):HO:= .ext λh=>h.IsValuesView v d
def Wx(G:TE):TE:=fun D H Q=>G D H λx y=>∃d B,x= .ref d/\Rd y d (.dK B)/\∀v,y v=none->Q (.ref v) (upd y v (Ge v d))
theorem Wy{B D:Pos}{e:yL}(he:PE X e te)(G:autoParam (attributeBase e "values" X.env (eval e X.env)=eval e X.env) L3)(J:autoParam ((B.endLine==D.line)=true) L3):
  PE X (.Call (.Attribute e "values" B) [] [] D) (Wx te):=by
 intro ad s σ H Q I h;refine fh G J (Ap (he ad s σ H _ I h) λv s1 zq=>?_);obtain⟨x,H1,Z,r1,d,O,ex,hd,q⟩:=zq;subst ex;cases r1;obtain⟨_,K,i0,i4,y⟩:=(show ObjOk X.prog X.w H1 s1.heap d (.dK O) from hd.ok Z.hok);refine⟨"dict","dict.values",F.plainAttrs_dict,F.slot_dict_values,F.type_dict_values,y.typeIs,y.mapOf.noDict,?_⟩;refine method_meetsIn F.slot_dict_values F.entry_dict_values rfl (PySem.evalArgs_none ⟨rfl,y.typeIs,F.args_dict_values_1 _,_,meets_dict_values (AX X.prog X.w) d K,⟨_,y⟩,?_⟩);refine⟨.ref s1.heap.objs.size,_,Z.laid (o:=Ge s1.heap.objs.size d) (t':=s1.toks) (λb ob q=>Y1 _ q) (Y5 _) ?_,rfl,q _ (Z.hok.fresh (Y5 _))⟩;exact⟨⟨_,YM _ rfl,rfl,rfl⟩,⟨_,YM _ rfl⟩,λh1 h2 ⟨o,ho,r⟩ k=>⟨o,k o ho,r⟩⟩
end
theorem Oh:∀ {kvs:List (As×V)}{vs:List (As×yU)},KV kvs vs->Av (kvs.map (·.2)) (vs.map (·.2))
 | _,_,.nil=> .nil
 | _,_,.cons h r=> .cons h.2 (Oh r)
theorem Wz{X:Cx}(hc:X.calm=true):Bo X (.type "list") (λxs H Q=>∃(v d:yR) (kvs:List (As×V)),xs=[.ref v]/\H v=some (Ge v d)/\Rd H d (.dK kvs)/\∀l,H l=none->Q (.ref l) (upd H l (.lst (kvs.map (·.2))))):=by
 intro ad s σ H xs us Q I r h;obtain⟨v,d,kvs,rfl,hv,hd,q⟩:=h;obtain⟨u,rfl,ru⟩:=r.one;cases ru;obtain⟨D,Z,G,K,hm⟩:=(show ObjOk X.prog X.w H s.heap d (.dK kvs) from hd.ok I.hok);obtain⟨B,_,_⟩:=(show ObjOk X.prog X.w H s.heap v (Ge v d) from I.hok v _ hv);obtain⟨ep,J⟩:=hm.dictAt;have lk:kvs.length=G.length:=Paired.length K;refine PySem.W.kdl_call (PySem.W.kdl_values (knd:=AX X.prog X.w) (r:=v) (d:=d) (kvs:=G) (ep:=ep)) (I.ok.hd hc) ⟨B,J⟩ (by omega) λh' tk y c' hk O hi=>?_
 have ea:y=(G.map (·.2)).toArray:=by
  apply Array.ext
  .rw[hi.1];simp
  .intro i h1 h2;obtain⟨k,e⟩:=hi.2 i y[i] (aX h1);simp only[List.getElem_toArray,List.getElem_map];have:=(Y9.mp e).2;rw[this]
 rw[ea]at O;exact⟨.ref s.heap.objs.size,_,I.laid (o:= .lst (kvs.map (·.2))) (t':=tk) hk (Y5 _) (show ObjOk X.prog X.w _ h' _ (.lst (kvs.map (·.2))) from⟨by rw[Y2];exact D,_,c',Oh K,O⟩),rfl,q _ (I.hok.fresh (Y5 _))⟩
variable{X:Cx}
theorem WA(hu:X.A.units<cLine):OpR X (compareOp .Eq) (λx y H Q=>∃(a b:yR) (ns ms:yV),x= .ref a/\y= .ref b/\H a=some (.lst (ns.map V.int))/\H b=some (.lst (ms.map V.int))/\Q (.bl (decide (ns=ms))) H):=by
 intro ad s σ H x y v u Q I rx ry h;obtain⟨a,b,ns,ms,rfl,rfl,ha,hb,q⟩:=h;cases rx;cases ry;obtain⟨B,O,p1,_⟩:=I.list (Al.of ha);obtain⟨D,r2,Z,_⟩:=I.list (Al.of hb);have l1:=O.length;have l2:=r2.length;rw[Y2]at l1 l2
 by_cases z:ns.length=ms.length
 .have J:decide (ns=ms)=(List.range B.toArray.size).all λj=>decide (ns.getD j 0=ms.getD j 0):=by
   rw[Z4,<-l1,am,decide_eq_true_iff,ZF];refine⟨λe j _=>by rw[e];exact Z9 rfl,λh=>fM z λi G h2=>?_⟩;have:=Z0 (h i (Zr.mpr G))
   simpa[Y3,G,h2] using this
  refine SeqAt.RcAt.lists (e:=λj=>decide (ns.getD j 0=ms.getD j 0)) p1.isList Z.isList (by simp;omega) hu (λj G h2=>?_) _ _ _ _ (AT I q J);have j1:j<ns.length:=by simp at G;omega
  have K:j<ms.length:=by omega
  obtain⟨_,e1,t1,rfl⟩:=O.get (i:=j) (x:= .int ns[j]) (by simp[j1]);obtain⟨_,e2,t2,rfl⟩:=r2.get (i:=j) (x:= .int ms[j]) (by simp[K]);have g1:B.toArray[j]=Value.int ns[j] t1:=by simpa using(Y9.mp e1).2
  have g2:D.toArray[j]=Value.int ms[j] t2:=by simpa using(Y9.mp e2).2
  rw[g1,g2];intro prog w E Q hq;refine bK ?_;rw[show(ns[j]==ms[j])=decide (ns[j]=ms[j]) from by by_cases z:ns[j]=ms[j]<;>simp[z]]
  simpa[Y3,j1,K] using hq
 .refine SeqAt.RcAt.lists_lengths p1.isList Z.isList (by simp;omega) hu _ _ _ _ (AT I q (Zh λe=>z (by rw[e])))
end L2
namespace MF
open L2
section
variable{p a:yR}{H H':Hp}{xs:zA}
structure Hu(K:Fgx)(x qual:Str)(st:Stmt)(f:yR)(fd:FuncData)(c:yR):Prop where
 ex:∃(oc:yU) (od:Option yR) (kV doc pm:yU) (an:Option yR) (ct:yU) (osl:Array (yW)),
  fd=PySem.W.fnOf x qual (Cc st) (BB st) (Ar st) .none kV doc pm an (.ref c) ct/\K.lookup f=some ⟨oc,od,.func fd,osl⟩/\PySem.W.codeIn K (.ref c) qual=true
theorem Hu.ok{P:yP}{w:yN}{K:Fgx}{mg:Str->yW}{base:Heap}{x qual:Str}{st:Stmt}{f c:yR}{J:FuncData}{N G:List Str}{k:Nat}{sp:Sp}(F:Hu K x qual st f J c)(S:Az N G (Ar st))(len:∀vs H Q E,sp vs H Q E->vs.length=G.length)
  (y : ∀ (A : yO) (outer : List Env) (s : yS) (H : Hp) (vs : zA) (Q : VK) (E : XK), AU k (A.deeper (envOfC qual (Ar st) s.heap.objs.size f (.ref c))) -> sp vs H Q E ->
   ∃t,PSs (Ca CX0 P w K mg base N qual (Ar st) f (.ref c) A outer s H E).nox (BB st) t/\t { nx:=λ_ H'=>Q .non H',rt:=Q} (start N vs) H):C2 P w K mg base CX0 (k+1) f J G sp:=by
 obtain⟨oc,od,kV,i4,pm,an,ct,i0,rfl,Z,B⟩:=F.ex;refine Iw Z B S len λA outer s H vs Q E O D=>?_
 obtain⟨t,h,q⟩:=y A outer s H vs Q E O D;exact⟨t,h.nox,q⟩
def sp_law(K:Fgx)(TB:yR):Sp:=λB H Q _=>match B with | [.ref a]=>∃ns:yV,Al K H a (ns.map V.int)/\ns.length<=63/\H TB=some (.tbl #[])/\∀y,Q (.bl true) y | _=>False
theorem WB{K TB vs H Q E}(h:sp_law K TB vs H Q E):vs.length=1:=by unfold sp_law at h;split at h;rfl;exact h.elim
def A2(p:yR)(H H':Hp):Prop:=∀b o,H b=some o->(b=p/\∃B,o= .lst B)\/(∃y,o= .tbl y)\/H' b=some o
theorem A2.ev(e:Ev p H H'):A2 p H H':=λb o h=>(e b o h).elim .inl λz=> .inr (.inr z)
theorem A2.refl:A2 p H H:=A2.ev Ev.refl
theorem A2.same(e:Ab H H'):A2 p H H':=A2.ev (Ev.same e)
theorem A2.trans{D B:Hp}(a:A2 p H D)(b:A2 p D B):A2 p H B:=λc o h=>(a c o h).elim .inl λz=>z.elim (λy=> .inr (.inl y)) λy=>b c o y
theorem A2.tup(h:A2 p H H')(q:H a=some (.tup xs)):H' a=some (.tup xs):=by
 rcases h a _ q with⟨_,ys,e⟩ | ⟨ps,e⟩ | z
 .cases e
 .cases e
 .exact z
theorem A2.lst(h:A2 p H H')(q:H a=some (.lst xs))(n:a≠p):H' a=some (.lst xs):=by
 rcases h a _ q with⟨e,_⟩ | ⟨ps,e⟩ | z
 .exact absurd e n
 .cases e
 .exact z
theorem A2.dk{y:List (As×V)}(h:A2 p H H')(q:H a=some (.dK y)):H' a=some (.dK y):=by
 rcases h a _ q with⟨_,ys,e⟩ | ⟨ps,e⟩ | z
 .cases e
 .cases e
 .exact z
theorem A2.grow{TB:yR}{B:Str}(t:TabIn H TB B)(g:∀b o,H b=some o->b≠TB->H' b=some o):A2 p H H':=λb o h=>by
 by_cases e:b=TB
 .obtain⟨D,y,_⟩:=t;rw[e,y]at h;cases h;exact .inr (.inl ⟨_,rfl⟩)
 .exact .inr (.inr (g b o h e))
mutual
theorem Aa.evT(h:A2 p H H'):∀(d:yQ) (v:V),Aa p H d v->Aa p H' d v
 | .none,v,q=>q
 | .bool _,v,q=>q
 | .int _,v,q=>q
 | .str _,v,q=>q
 | .tuple ds,v,q=>by
  unfold Aa at q ⊢;obtain⟨a,y,e,r,z⟩:=q;exact⟨a,y,e,h.tup r,Ad.evT h ds y z⟩
 | .list ds,v,q=>by
  unfold Aa at q ⊢;obtain⟨a,y,e,n,r,z⟩:=q;exact⟨a,y,e,n,h.lst r n,Ad.evT h ds y z⟩
 | .dict kvs,v,q=>by
  unfold Aa at q ⊢;obtain⟨a,B,e,n,k,r⟩:=q;exact⟨a,B,e,n,k,h.dk r⟩
theorem Ad.evT(h:A2 p H H'):∀(ds:List yQ) (xs:zA),Ad p H ds xs->Ad p H' ds xs
 | [],xs,q=>by unfold Ad at q ⊢;exact q
 | d::ds,xs,q=>by
  unfold Ad at q ⊢;obtain⟨x,r,e,z,y⟩:=q;exact⟨x,r,e,Aa.evT h d x z,Ad.evT h ds r y⟩
end
theorem _root_.L2.TabIn.grow{H H':Hp}{TB:yR}{y:Str}(t:TabIn H TB y)(e:∀b o,H b=some o->(∀xs,o≠ .lst xs)->H' b=some o):TabIn H' TB y:=by
 obtain⟨O,Z,J,K⟩:=t;refine⟨O,e _ _ Z (λxs z=>by cases z),J,λpos v G=>?_⟩;obtain⟨c,B,D⟩:=K pos v G;exact⟨c,B,e _ _ D (λxs z=>by cases z)⟩
theorem _root_.L2.TabIn.ev{p:yR}{H H':Hp}{TB:yR}{y:Str}(t:TabIn H TB y)(e:Ev p H H'):TabIn H' TB y:=t.grow λb o q n=>(e b o q).elim (fun⟨_,xs,z⟩=>absurd z (n xs)) id
theorem _root_.L2.TabIn.same{H H':Hp}{TB:yR}{y:Str}(t:TabIn H TB y)(e:Ab H H'):TabIn H' TB y:=t.grow λb o q _=>e b o q
abbrev Hv:Str:=(("law" :Str)++ ".<locals>.")++ "<lambda>"
theorem WC{lo hi:Option Int}{v:V}(h:v∈Cb xs lo hi):v∈xs:=by unfold Cb at h;exact List.mem_of_mem_drop (dy h)
theorem Oi{n:Nat}(h:n<=1000):n<=sizeLine:=ZH (Ra h)
end
section
variable{α:Type}
theorem Dn{l:List α}(h:l.length=1):∃y,l=[y]:=by rcases l with _ | ⟨_,_ | _⟩<;>first | exact⟨_,rfl⟩ | cases h | simp at h
theorem By{l:List α}(h:l.length=2):∃B y,l=[B,y]:=by rcases l with _ | ⟨_,_ | ⟨_,_ | _⟩⟩<;>first | exact⟨_,_,rfl⟩ | cases h | simp at h
theorem CG{l:List α}(h:l.length=3):∃D y B,l=[D,y,B]:=by rcases l with _ | ⟨_,_ | ⟨_,_ | ⟨_,_ | _⟩⟩⟩<;>first | exact⟨_,_,_,rfl⟩ | cases h | simp at h
theorem Oj{l:List α}(h:l.length=4):∃G B D y,l=[G,B,D,y]:=by rcases l with _ | ⟨_,_ | ⟨_,_ | ⟨_,_ | ⟨_,_ | _⟩⟩⟩⟩<;>first | exact⟨_,_,_,_,rfl⟩ | cases h | simp at h
theorem WD{l:List α}(h:l.length=5):∃J D G y B,l=[J,D,G,y,B]:=by rcases l with _ | ⟨_,_ | ⟨_,_ | ⟨_,_ | ⟨_,_ | ⟨_,_ | _⟩⟩⟩⟩⟩<;>first | exact⟨_,_,_,_,_,rfl⟩ | cases h | simp at h
def top(i : Nat): Stmt := PySem.Challenge.pw_mainfires_k57_boilers_alone_and_needed.main.body.getD i (.Pass ⟨0, 0, 0, 0⟩)
abbrev wa3:Stmt:=top 22
abbrev wa4:Stmt:=top 23
abbrev wa5:Stmt:=top 24
abbrev wa6:Stmt:=top 25
abbrev wa7:Stmt:=top 34
abbrev wa8:Stmt:=top 35
abbrev wa9:Stmt:=top 36
abbrev waa:Stmt:=top 37
abbrev wab:Stmt:=top 38
abbrev wac:Stmt:=top 39
abbrev wad:Stmt:=top 40
abbrev wae:Stmt:=top 41
abbrev waf:Stmt:=top 42
abbrev wag:Stmt:=top 43
abbrev wah:Stmt:=top 44
abbrev wai:Stmt:=top 45
abbrev waj:Stmt:=top 46
abbrev wak:Stmt:=top 47
abbrev wal:Stmt:=top 48
abbrev wam:Stmt:=top 49
abbrev wan:Stmt:=top 50
abbrev wao:Stmt:=top 52
abbrev wap:Stmt:=top 53
abbrev waq:Stmt:=top 55
abbrev war:Stmt:=top 56
abbrev was:Stmt:=top 57
abbrev wat:Stmt:=top 58
abbrev wau:Stmt:=top 60
abbrev wav:Stmt:=top 61
abbrev waw:Stmt:=top 62
abbrev wax:Stmt:=top 63
abbrev waz:Stmt:=top 64
abbrev waA:Stmt:=top 65
abbrev waB:Stmt:=top 67
abbrev waC:Stmt:=top 68
abbrev waD:Stmt:=top 69
abbrev waE:Stmt:=top 70
abbrev waF:Stmt:=top 71
abbrev waG:Stmt:=top 72
abbrev waH:Stmt:=top 73
abbrev waI:Stmt:=top 74
abbrev waJ:Stmt:=top 75
abbrev waK:Stmt:=top 76
abbrev waL:Stmt:=top 77
abbrev waM:Stmt:=top 78
abbrev waN:Stmt:=top 79
abbrev waO:Stmt:=top 80
abbrev waP:Stmt:=top 81
abbrev waQ:Stmt:=top 82
abbrev waR:Stmt:=top 83
abbrev waS:Stmt:=top 84
abbrev waT:Stmt:=top 85
abbrev waU:Stmt:=top 86
abbrev wa2:Stmt:=top 87
abbrev waV:Stmt:=top 88
abbrev waW:Stmt:=top 89
abbrev waX:Stmt:=top 90
abbrev waY:Stmt:=top 91
abbrev wa0:Stmt:=top 92
structure Tx(mg:Str->yW):Prop where
 b_ValueError:mg "ValueError"=none
 b_all:mg "all"=none
 b_bool:mg "bool"=none
 b_divmod:mg "divmod"=none
 b_enumerate:mg "enumerate"=none
 b_int:mg "int"=none
 b_isinstance:mg "isinstance"=none
 b_len:mg "len"=none
 b_list:mg "list"=none
 b_max:mg "max"=none
 b_min:mg "min"=none
 b_range:mg "range"=none
 b_repr:mg "repr"=none
 b_reversed:mg "reversed"=none
 b_set:mg "set"=none
 b_sorted:mg "sorted"=none
 b_sum:mg "sum"=none
 b_tuple:mg "tuple"=none
 b_zip:mg "zip"=none
 g_MOST_BOILERS:∃t,mg "MOST_BOILERS"=some (.int 4 t)
 g_MOST_ENGINES:∃t,mg "MOST_ENGINES"=some (.int 4 t)
 g_MOST_FAULTS:∃t,mg "MOST_FAULTS"=some (.int 4 t)
 g_MOST_HOURS:∃t,mg "MOST_HOURS"=some (.int 8 t)
 g_MOST_UNITS:∃t,mg "MOST_UNITS"=some (.int 9 t)
 g_MOST_EXTRA:∃t,mg "MOST_EXTRA"=some (.int 20 t)
 g_MOST_IN_MAIN:∃t,mg "MOST_IN_MAIN"=some (.int 40 t)
def WE:yQ->Bool | .int _=>true | _=>false
def Bb(d:yQ)(lo hi:Int):Bool:=match d with | .int i=>decide (lo<=i) && decide (i<=hi) | _=>false
def Bc(d:yQ)(lo hi:Int):Bool:=match d with | .tuple ds=>decide (lo<=(ds.length:Int)) && decide ((ds.length:Int)<=hi) | _=>false
def JU:Sp:=λy H Q _=>match y with | [v]=>∃p d,Aa p H d v/\∀b,b=WE d->Q (.bl b) H | _=>False
def Ol:Sp:=λy H Q _=>match y with | [v,.int lo,.int hi]=>∃p d,Aa p H d v/\∀b,b=Bb d lo hi->Q (.bl b) H | _=>False
def Om:Sp:=λy H Q _=>match y with | [v,.int lo,.int hi]=>∃p d,Aa p H d v/\∀b,b=Bc d lo hi->Q (.bl b) H | _=>False
theorem On{vs H Q E}(h:JU vs H Q E):vs.length=1:=by rcases vs with _ | ⟨_,_ | _⟩<;>first | rfl | cases h
theorem Oo{vs H Q E}(h:Ol vs H Q E):vs.length=3:=by rcases vs with _ | ⟨_,_ | ⟨y,_ | ⟨B,_ | _⟩⟩⟩<;>first | rfl | cases h | skip;all_goals (cases y<;>first | cases h | skip);all_goals (cases B<;>first | cases h | skip)
theorem Op{vs H Q E}(h:Om vs H Q E):vs.length=3:=by rcases vs with _ | ⟨_,_ | ⟨y,_ | ⟨B,_ | _⟩⟩⟩<;>first | rfl | cases h | skip;all_goals (cases y<;>first | cases h | skip);all_goals (cases B<;>first | cases h | skip)
variable{P:yP}{w:yN}{K:Fgx}{mg:Str -> yW}{base:Heap}
theorem WF:Az ["thing"] ["thing"] (Ar wa3):=AC
theorem WG(F:Df K mg "is_whole" wa3 ["thing"])(T:Tx mg):Fn P w K mg base 1 "is_whole" ["thing"] JU:=by
 refine F.fn WF @On λf dl A outer s H B Q E y h=>?_
 refine⟨_,(An (Ay (Bv (AD E5 rfl T.b_isinstance aA (Aq (cy 0) (Eo (v:= .ty "int") rfl T.b_int L2.boot_int rfl))) (Cu (LT (AD E5 rfl T.b_isinstance aA (Aq (cy 0) (Eo (v:= .ty "bool") rfl T.b_bool L2.boot_bool rfl)))))))),?_⟩;obtain⟨v,rfl⟩:=Dn (On h)
 .obtain⟨p,d,r,q⟩:=h;refine⟨_,r.ty,.inl rfl,⟨λc=>⟨_,r.ty,.inr (.inl rfl),?_⟩,λc=>?_⟩⟩
  .exact q _ (by cases d<;>first | rfl | cases c)
  .exact q _ (by cases d<;>first | rfl | cases c)
theorem WH:Az ["thing","least","most"] ["thing","least","most"] (Ar wa4):=AC
abbrev EN(P:yP)(w:yN)(K:Fgx)(mg:Str->yW)(base:Heap):Prop:=Fn P w K mg base 2 "is_whole_from" ["thing","least","most"] Ol
theorem WI(F:Df K mg "is_whole_from" wa4 ["thing","least","most"])(T:Tx mg)(y:Fn P w K mg base 1 "is_whole" ["thing"] JU):EN P w K mg base:=by
 refine F.fn WH @Oo λf dl A outer s H O Q E D h=>?_
 refine⟨_,(An (Ay (Bv (zB y D (Ai (cy 0))) (Cu (IV DA DA (cy 1) (cy 0) (cy 2)))))),?_⟩;obtain⟨v,G,J,rfl⟩:=CG (Oo h);cases G<;>try exact False.elim h
 cases J<;>try exact False.elim h
 rename_i lo hi
 .obtain⟨p,d,r,q⟩:=h;refine⟨p,d,r,λb B=>⟨λc=>?_,λc=>?_⟩⟩
  .subst c;cases d<;>first | cases B | skip
   rename_i i;unfold Aa at r;subst r;refine⟨λc=>?_,λc=>?_⟩
   .exact q _ (by unfold Bb;dsimp only;rw[c];rfl)
   .exact q _ (by unfold Bb;dsimp only;rw[c];rfl)
  .subst c;exact q _ (by cases d<;>first | rfl | cases B)
theorem WJ:Az ["thing","fewest","most"] ["thing","fewest","most"] (Ar wa5):=AC
abbrev Do(P:yP)(w:yN)(K:Fgx)(mg:Str->yW)(base:Heap):Prop:=Fn P w K mg base 1 "is_tuple_of" ["thing","fewest","most"] Om
theorem WK(F:Df K mg "is_tuple_of" wa5 ["thing","fewest","most"])(T:Tx mg):Do P w K mg base:=by
 refine F.fn WJ @Op λf dl A outer s H Z Q E O h=>?_
 refine⟨_,(An (Ay (Bv (AD E5 rfl T.b_isinstance aA (Aq (cy 0) (Eo (v:= .ty "tuple") rfl T.b_tuple BN rfl))) (Cu (IV DA DA (cy 1) (AD (BV K) rfl T.b_len zH (Ai (cy 0))) (cy 2)))))),?_⟩;obtain⟨v,B,G,rfl⟩:=CG (Op h);cases B<;>try exact False.elim h
 cases G<;>try exact False.elim h
 rename_i lo hi
 .obtain⟨p,d,r,q⟩:=h;refine⟨_,r.ty,.inr (.inr (.inl rfl)),⟨λc=>?_,λc=>?_⟩⟩
  .cases d<;>first | cases c | skip
   rename_i ds;unfold Aa at r;obtain⟨a,y,rfl,D,J⟩:=r;refine⟨a,y,rfl,.inr (Ae.of D),?_⟩;rw[<-J.len];refine⟨λc=>?_,λc=>?_⟩
   .exact q _ (by unfold Bc;dsimp only;rw[c];rfl)
   .exact q _ (by unfold Bc;dsimp only;rw[c];rfl)
  .exact q _ (by cases d<;>first | rfl | cases c)
end
section
variable{p:yR}{H:Hp}{a:yQ}{xs:zA}
theorem Oq{y B:Type}{ds:List y}{i:Nat}{d:y}(f:y->B)(h:ds[i]? =some d):(ds.take (i+1)).map f=(ds.take i).map f++[f d]:=by
 rw[List.take_add_one,h,YS];rfl
noncomputable def EO(d:yQ):Bool:=match d with | .tuple [a,b]=>Bb a 1 9 && Bb b 1 9 | _=>false
noncomputable def Eh(d:yQ):Bool:=match d with | .tuple [a,b,c]=>Bb a 1 9 && Bb b 0 7 && Bb c 1 8 | _=>false
noncomputable def EQ(d:yQ):Bool:=match d with
 | .tuple [a,b,c]=>Bb b 0 40 && match b with | .int hi=>Bb c 0 hi &&(match c with | .int st=>Bb a 0 st | _=>false) | _=>false
 | _=>false
noncomputable def Fu(d:yQ):Bool:=match d with | .tuple ds=>Bc d 1 4 && ds.all EO | _=>false
noncomputable def Fv(d:yQ):Bool:=match d with | .tuple ds=>Bc d 0 4 && ds.all Eh | _=>false
noncomputable def Fw(d:yQ):Bool:=match d with | .tuple [a,b,c]=>Fu a && Fv b && EQ c | _=>false
def Cs(f:yQ->Bool):Sp:=λB H Q _=>match B with | [v]=>∃p d,Aa p H d v/\∀b y,b=f d->Ab H y->Q (.bl b) y | _=>False
theorem Fx{f:yQ->Bool}{vs H Q E}(h:Cs f vs H Q E):vs.length=1:=by unfold Cs at h;split at h;rfl;exact h.elim
abbrev Hw:Sp:=Cs EO
abbrev Hx:Sp:=Cs Eh
abbrev Hy:Sp:=Cs EQ
abbrev Hz:Sp:=Cs Fu
abbrev HA:Sp:=Cs Fv
abbrev HB:Sp:=Cs Fw
theorem WL{vs H Q E}(h:Hw vs H Q E):vs.length=1:=Fx h
theorem WM{vs H Q E}(h:Hx vs H Q E):vs.length=1:=Fx h
theorem WN{vs H Q E}(h:Hy vs H Q E):vs.length=1:=Fx h
theorem WO{vs H Q E}(h:Hz vs H Q E):vs.length=1:=Fx h
theorem WP{vs H Q E}(h:HA vs H Q E):vs.length=1:=Fx h
theorem WQ{vs H Q E}(h:HB vs H Q E):vs.length=1:=Fx h
theorem two{ds:List yQ}(h:Bc (.tuple ds) 2 2=true):∃a b,ds=[a,b]:=by
 unfold Bc at h;simp only[Z5,Zf]at h
 match ds,h with
 | [a,b],_=>exact⟨a,b,rfl⟩
 | [],h=>simp at h
 | [_],h=>simp at h
 | _::_::_::_,h=>simp at h;omega
theorem three{ds:List yQ}(h:Bc (.tuple ds) 3 3=true):∃a b c,ds=[a,b,c]:=by
 unfold Bc at h;simp only[Z5,Zf]at h
 match ds,h with
 | [a,b,c],_=>exact⟨a,b,c,rfl⟩
 | [],h=>simp at h
 | [_],h=>simp at h
 | [_,_],h=>simp at h
 | _::_::_::_::_,h=>simp at h;omega
theorem Fy{d:yQ}{lo hi:Int}(h:Bc d lo hi=true):∃ds,d= .tuple ds:=by
 cases d<;>first | exact⟨_,rfl⟩ | cases h
theorem Aa.shape{ds:List yQ}{v:V}(r:Aa p H (.tuple ds) v):∃a xs,v= .ref a/\H a=some (.tup xs)/\Ad p H ds xs:=by unfold Aa at r;exact r
theorem Ad.two{b:yQ}(r:Ad p H [a,b] xs):∃x y,xs=[x,y]/\Aa p H a x/\Aa p H b y:=by
 unfold Ad at r;obtain⟨x,s,rfl,B,r⟩:=r;unfold Ad at r;obtain⟨y,s,rfl,D,r⟩:=r;unfold Ad at r;subst r;exact⟨x,y,rfl,B,D⟩
theorem Ad.three{b c:yQ}(r:Ad p H [a,b,c] xs):∃x y z,xs=[x,y,z]/\Aa p H a x/\Aa p H b y/\Aa p H c z:=by
 unfold Ad at r;obtain⟨x,s,rfl,D,r⟩:=r;obtain⟨y,z,rfl,G,B⟩:=Ad.two r;exact⟨x,y,z,rfl,D,G,B⟩
variable{P:yP}{w:yN}{K:Fgx}{mg:Str -> yW}{base:Heap}
theorem zaq:Az ["thing","make","coal"] ["thing"] (Ar wa9):=AC
theorem WR(F:Df K mg "is_make_and_coal" wa9 ["thing"])(T:Tx mg)(J:Do P w K mg base)(D:EN P w K mg base):Fn P w K mg base 3 "is_make_and_coal" ["thing"] Hw:=by
 obtain⟨B,g_MOST_UNITS⟩:=T.g_MOST_UNITS;refine F.fn zaq @WL λf dl A outer s H vs Q E G h=>?_
 refine⟨_,(Ak (Bj (B9 (BM (zB J G (AQ (cy 0) R' R')))) (An (Ay W')) Bh) (Ak (Bz (cy 0) (AL K (n:=2) (Aj (Ag 1 zaq.nd) (Aj (Ag 2 zaq.nd) AJ)))) (An (Ay (Bv (zB D G (AQ (cy 1) R' (CK (v:= .int 9) rfl g_MOST_UNITS ⟨B,rfl⟩))) (Cu (zB D G (AQ (cy 2) R' (CK (v:= .int 9) rfl g_MOST_UNITS ⟨B,rfl⟩))))))))),?_⟩;unfold Hw Cs at h;split at h
 .rename_i v;obtain⟨p,d,r,q⟩:=h;refine⟨p,d,r,λb O=>⟨λc=>?_,λc=>?_⟩⟩
  .refine q false H ?_ (Ab.refl _);have e:Bc d 2 2=false:=by rw [<-O];simpa using c
   cases d<;>first | rfl | skip
   rename_i ds
   match ds,e with
   | [a,b],e=>cases e
   | [],_=>rfl
   | [_],_=>rfl
   | _::_::_::_,_=>rfl
  .have e:Bc d 2 2=true:=by rw [<-O];simpa using c
   obtain⟨ds,rfl⟩:=Fy e;obtain⟨a,b,rfl⟩:=two e;obtain⟨l,xs,rfl,hl,rs⟩:=Aa.shape r;obtain⟨x,y,rfl,rx,ry⟩:=Ad.two rs;refine⟨l,[x,y],rfl,Ae.of hl,rfl,x,[y],rfl,y,[],rfl,rfl,p,a,rx,λb1 Z=>⟨λc=>⟨p,b,ry,λb2 e2=>?_⟩,λc=>?_⟩⟩
   .exact q _ _ (by unfold EO;dsimp only;rw[e2,<-Z,c];rfl) (Ab.refl _)
   .exact q _ _ (by unfold EO;dsimp only;rw[<-Z,c];rfl) (Ab.refl _)
 .exact h.elim
theorem zai:Az ["thing","draw","first","every"] ["thing"] (Ar wab):=AC
theorem WS(F:Df K mg "is_engine" wab ["thing"])(T:Tx mg)(O:Do P w K mg base)(G:EN P w K mg base):Fn P w K mg base 3 "is_engine" ["thing"] Hx:=by
 obtain⟨B,g_MOST_HOURS⟩:=T.g_MOST_HOURS;obtain⟨D,g_MOST_UNITS⟩:=T.g_MOST_UNITS;refine F.fn zai @WM λf dl A outer s H vs Q E J h=>?_
 refine⟨_,(Ak (Bj (B9 (BM (zB O J (AQ (cy 0) R' R')))) (An (Ay W')) Bh) (Ak (Bz (cy 0) (AL K (n:=3) (Aj (Ag 1 zai.nd) (Aj (Ag 2 zai.nd) (Aj (Ag 3 zai.nd) AJ))))) (An (Ay (Bv (zB G J (AQ (cy 1) R' (CK (v:= .int 9) rfl g_MOST_UNITS ⟨D,rfl⟩))) (Bv (zB G J (AQ (cy 2) R' (Ax Cf (CK (v:= .int 8) rfl g_MOST_HOURS ⟨B,rfl⟩) R'))) (Cu (zB G J (AQ (cy 3) R' (CK (v:= .int 8) rfl g_MOST_HOURS ⟨B,rfl⟩)))))))))),?_⟩;unfold Hx Cs at h;split at h
 .rename_i v;obtain⟨p,d,r,q⟩:=h;refine⟨p,d,r,λb hb=>⟨λc=>?_,λc=>?_⟩⟩
  .refine q false H ?_ (Ab.refl _);have e:Bc d 3 3=false:=by rw [<-hb];simpa using c
   cases d<;>first | rfl | skip
   rename_i ds
   match ds,e with
   | [a,b,c],e=>cases e
   | [],_=>rfl
   | [_],_=>rfl
   | [_,_],_=>rfl
   | _::_::_::_::_,_=>rfl
  .have e:Bc d 3 3=true:=by rw [<-hb];simpa using c
   obtain⟨ds,rfl⟩:=Fy e;obtain⟨a,b,c',rfl⟩:=three e;obtain⟨l,xs,rfl,hl,rs⟩:=Aa.shape r;obtain⟨x,y,z,rfl,rx,ry,rz⟩:=Ad.three rs;refine⟨l,[x,y,z],rfl,Ae.of hl,rfl,x,[y,z],rfl,y,[z],rfl,z,[],rfl,rfl,p,a,rx,λb1 e1=>⟨λc=>⟨p,b,ry,λb2 e2=>⟨λZ=>⟨p,c',rz,λb3 e3=>?_⟩,λZ=>?_⟩⟩,λc=>?_⟩⟩
   .exact q _ _ (by unfold Eh;dsimp only;rw[e3,<-e1,c];rw[show Bb b 0 7=true from by rw[<-Z,e2];rfl];rfl) (Ab.refl _)
   .exact q _ _ (by unfold Eh;dsimp only;rw[<-e1,c];rw[show Bb b 0 7=false from by rw[<-Z,e2];rfl];rfl) (Ab.refl _)
   .exact q _ _ (by unfold Eh;dsimp only;rw[<-e1,c];rfl) (Ab.refl _)
 .exact h.elim
theorem zaj:Az ["thing","low","high","start"] ["thing"] (Ar wac):=AC
theorem WT(F:Df K mg "is_main" wac ["thing"])(T:Tx mg)(i0:Do P w K mg base)(D:EN P w K mg base):Fn P w K mg base 3 "is_main" ["thing"] Hy:=by
 obtain⟨B,g_MOST_IN_MAIN⟩:=T.g_MOST_IN_MAIN;refine F.fn zaj @WN λf dl A outer s H vs Q E J h=>?_
 refine⟨_,(Ak (Bj (B9 (BM (zB i0 J (AQ (cy 0) R' R')))) (An (Ay W')) Bh) (Ak (Bz (cy 0) (AL K (n:=3) (Aj (Ag 1 zaj.nd) (Aj (Ag 2 zaj.nd) (Aj (Ag 3 zaj.nd) AJ))))) (An (Ay (Bv (zB D J (AQ (cy 2) R' (CK (v:= .int 40) rfl g_MOST_IN_MAIN ⟨B,rfl⟩))) (Bv (zB D J (AQ (cy 3) R' (cy 2))) (Cu (zB D J (AQ (cy 1) R' (cy 3)))))))))),?_⟩;unfold Hy Cs at h;split at h
 .rename_i v;obtain⟨p,d,r,q⟩:=h;refine⟨p,d,r,λb hb=>⟨λc=>?_,λc=>?_⟩⟩
  .refine q false H ?_ (Ab.refl _);have e:Bc d 3 3=false:=by rw [<-hb];simpa using c
   cases d<;>first | rfl | skip
   rename_i ds
   match ds,e with
   | [a,b,c],e=>cases e
   | [],_=>rfl
   | [_],_=>rfl
   | [_,_],_=>rfl
   | _::_::_::_::_,_=>rfl
  .have e:Bc d 3 3=true:=by rw [<-hb];simpa using c
   obtain⟨ds,rfl⟩:=Fy e;obtain⟨a,b,c',rfl⟩:=three e;obtain⟨l,xs,rfl,hl,rs⟩:=Aa.shape r;obtain⟨x,y,z,rfl,rx,Z,rz⟩:=Ad.three rs;refine⟨l,[x,y,z],rfl,Ae.of hl,rfl,x,[y,z],rfl,y,[z],rfl,z,[],rfl,rfl,p,b,Z,λb1 G=>⟨λc1=>?_,λc1=>?_⟩⟩
   .rw [c1] at G;cases b<;>first | cases G | skip
    rename_i hi;unfold Aa at Z;subst Z;refine⟨p,c',rz,λb2 O=>⟨λc2=>?_,λc2=>?_⟩⟩
    .rw [c2] at O;cases c'<;>first | cases O | skip
     rename_i st;unfold Aa at rz;subst rz;refine⟨p,a,rx,λb3 e3=>?_⟩;exact q _ _ (by unfold EQ;dsimp only;rw[e3];rw[<-G,<-O];rfl) (Ab.refl _)
    .exact q _ _ (by unfold EQ;dsimp only;rw[<-G,<-O,c2];rfl) (Ab.refl _)
   .exact q _ _ (by unfold EQ;dsimp only;rw[<-G,c1];rfl) (Ab.refl _)
 .exact h.elim
theorem WU:Az ["thing"] ["thing"] (Ar wa8):=AC
theorem WV(F:Df K mg "are_boilers" wa8 ["thing"])(T:Tx mg)(O:Fn P w K mg base 3 "is_make_and_coal" ["thing"] Hw)(Z:Do P w K mg base):Fn P w K mg base 4 "are_boilers" ["thing"] Hz:=by
 obtain⟨y,g_MOST_BOILERS⟩:=T.g_MOST_BOILERS;refine F.fn WU @WO λf dl A outer s H vs Q E hr h=>?_
 refine⟨_,(An (Ay (Bv (zB Z hr (AQ (cy 0) R' (CK (v:= .int 4) rfl g_MOST_BOILERS ⟨y,rfl⟩))) (Cu (AD (Ey rfl) rfl T.b_all dI (Ai (Bd ["part"] [none] rfl (BW K (cy 0)) (AI.of rfl) (λ_ _ _ _=>(zD 0)) (λ_ _ _ _=>Bm) (λ_ _ _ _=>(zB O hr (Ai (cy 0))))))))))),?_⟩;unfold Hz Cs at h;split at h
 .rename_i v;obtain⟨p,d,r,q⟩:=h;refine⟨p,d,r,λb J=>⟨λc=>?_,λc=>?_⟩⟩
  .rw[c]at J;obtain⟨ds,rfl⟩:=Fy J.symm;obtain⟨l,xs,rfl,hl,rs⟩:=Aa.shape r;have G:=rs.len;have i0:ds.length<=4:=by
    have:=J.symm;unfold Bc at this;simp only[Z5,Zf]at this;omega
   refine⟨l,rfl,⟨xs,Ae.of hl⟩,B1 (xs:=xs) (λi D B=>Ab H B/\D=(ds.take i).map λd=>V.bl (EO d)) (by omega) ⟨Ab.refl _,rfl⟩ (λi D B h=>by rw[h.2,Y2,Zk];omega) (λi D B _ h=>Ae.of (h.1 _ _ hl)) (λi x D B hx h=>?_) λD B h=>?_⟩
   .obtain⟨d,hd,rd⟩:=rs.got hx;refine⟨trivial,λ_=>⟨p,d,Aa.ev (Ev.same h.1) d x rd,λb H2 e s2=>⟨h.1.trans s2,?_⟩⟩,λc=>by cases c⟩;rw[h.2,e,Oq _ hd]
   .intro m hm;refine⟨m,ds.map EO,rfl,?_,?_⟩
    .rw[Af,h.2,<-G,cI,ae];rfl
    .refine q _ _ ?_ (h.1.trans (Ab.new hm));unfold Fu;dsimp only;rw[<-J,dG,bQ];rfl
  .refine q _ _ ?_ (Ab.refl _);have e:Bc d 1 4=false:=by rw [<-J,c]
   unfold Fu;cases d<;>first | rfl | skip
   dsimp only;rw[e];rfl
 .exact h.elim
theorem WW:Az ["thing"] ["thing"] (Ar waa):=AC
theorem WX(F:Df K mg "are_engines" waa ["thing"])(T:Tx mg)(O:Fn P w K mg base 3 "is_engine" ["thing"] Hx)(Z:Do P w K mg base):Fn P w K mg base 4 "are_engines" ["thing"] HA:=by
 obtain⟨y,g_MOST_ENGINES⟩:=T.g_MOST_ENGINES;refine F.fn WW @WP λf dl A outer s H vs Q E hr h=>?_
 refine⟨_,(An (Ay (Bv (zB Z hr (AQ (cy 0) R' (CK (v:= .int 4) rfl g_MOST_ENGINES ⟨y,rfl⟩))) (Cu (AD (Ey rfl) rfl T.b_all dI (Ai (Bd ["part"] [none] rfl (BW K (cy 0)) (AI.of rfl) (λ_ _ _ _=>(zD 0)) (λ_ _ _ _=>Bm) (λ_ _ _ _=>(zB O hr (Ai (cy 0))))))))))),?_⟩;unfold HA Cs at h;split at h
 .rename_i v;obtain⟨p,d,r,q⟩:=h;refine⟨p,d,r,λb J=>⟨λc=>?_,λc=>?_⟩⟩
  .rw[c]at J;obtain⟨ds,rfl⟩:=Fy J.symm;obtain⟨l,xs,rfl,hl,rs⟩:=Aa.shape r;have G:=rs.len;have i0:ds.length<=4:=by
    have:=J.symm;unfold Bc at this;simp only[Z5,Zf]at this;omega
   refine⟨l,rfl,⟨xs,Ae.of hl⟩,B1 (xs:=xs) (λi D B=>Ab H B/\D=(ds.take i).map λd=>V.bl (Eh d)) (by omega) ⟨Ab.refl _,rfl⟩ (λi D B h=>by rw[h.2,Y2,Zk];omega) (λi D B _ h=>Ae.of (h.1 _ _ hl)) (λi x D B hx h=>?_) λD B h=>?_⟩
   .obtain⟨d,hd,rd⟩:=rs.got hx;refine⟨trivial,λ_=>⟨p,d,Aa.ev (Ev.same h.1) d x rd,λb H2 e s2=>⟨h.1.trans s2,?_⟩⟩,λc=>by cases c⟩;rw[h.2,e,Oq _ hd]
   .intro m hm;refine⟨m,ds.map Eh,rfl,?_,?_⟩
    .rw[Af,h.2,<-G,cI,ae];rfl
    .refine q _ _ ?_ (h.1.trans (Ab.new hm));unfold Fv;dsimp only;rw[<-J,dG,bQ];rfl
  .refine q _ _ ?_ (Ab.refl _);have e:Bc d 0 4=false:=by rw [<-J,c]
   unfold Fv;cases d<;>first | rfl | skip
   dsimp only;rw[e];rfl
 .exact h.elim
theorem zak:Az ["thing","boilers","engines","main"] ["thing"] (Ar wa7):=AC
theorem WY(F:Df K mg "is_plant" wa7 ["thing"])(T:Tx mg)(J:Fn P w K mg base 4 "are_boilers" ["thing"] Hz)(D:Fn P w K mg base 4 "are_engines" ["thing"] HA)(Z:Fn P w K mg base 3 "is_main" ["thing"] Hy)(G:Do P w K mg base):Fn P w K mg base 5 "is_plant" ["thing"] HB:=by
 refine F.fn zak @WQ λf dl A outer s H vs Q E B h=>?_
 refine⟨_,(Ak (Bj (B9 (BM (zB G B (AQ (cy 0) R' R')))) (An (Ay W')) Bh) (Ak (Bz (cy 0) (AL K (n:=3) (Aj (Ag 1 zak.nd) (Aj (Ag 2 zak.nd) (Aj (Ag 3 zak.nd) AJ))))) (An (Ay (Bv (zB J B (Ai (cy 1))) (Bv (zB D B (Ai (cy 2))) (Cu (zB Z B (Ai (cy 3)))))))))),?_⟩;unfold HB Cs at h;split at h
 .rename_i v;obtain⟨p,d,r,q⟩:=h;refine⟨p,d,r,λb hb=>⟨λc=>?_,λc=>?_⟩⟩
  .refine q false H ?_ (Ab.refl _);have e:Bc d 3 3=false:=by rw [<-hb];simpa using c
   cases d<;>first | rfl | skip
   rename_i ds
   match ds,e with
   | [a,b,c],e=>cases e
   | [],_=>rfl
   | [_],_=>rfl
   | [_,_],_=>rfl
   | _::_::_::_::_,_=>rfl
  .have e:Bc d 3 3=true:=by rw [<-hb];simpa using c
   obtain⟨ds,rfl⟩:=Fy e;obtain⟨a,b,c',rfl⟩:=three e;obtain⟨l,xs,rfl,hl,rs⟩:=Aa.shape r;obtain⟨x,y,z,rfl,rx,ry,rz⟩:=Ad.three rs;refine⟨l,[x,y,z],rfl,Ae.of hl,rfl,x,[y,z],rfl,y,[z],rfl,z,[],rfl,rfl,p,a,rx,λb1 H1 e1 s1=>⟨λc=>⟨p,b,Aa.ev (Ev.same s1) _ _ ry,λb2 H2 e2 s2=>⟨λO=>⟨p,c',Aa.ev (Ev.same (s1.trans s2)) _ _ rz,λb3 H3 e3 s3=>?_⟩,λO=>?_⟩⟩,λc=>?_⟩⟩
   .exact q _ _ (by unfold Fw;dsimp only;rw[e3,<-e1,<-e2,c,O];rfl) (s1.trans (s2.trans s3))
   .exact q _ _ (by unfold Fw;dsimp only;rw[<-e1,<-e2,c,O];rfl) (s1.trans s2)
   .exact q _ _ (by unfold Fw;dsimp only;rw[<-e1,c];rfl) s1
 .exact h.elim
end
section
variable{p a:yR}{H:Hp}
def A6(p:yR)(H:Hp):Prop:=∃l f:Int,H p=some (.lst [.int l,.int f])
theorem A6.new{o:HO}(h:A6 p H)(n:H a=none):A6 p (upd H a o):=by
 obtain⟨l,f,e⟩:=h;exact⟨l,f,by rw[Ao (Bg e n)];exact e⟩
theorem A6.ne(h:A6 p H)(n:H a=none):a≠p:=by obtain⟨l,f,e⟩:=h;exact Zv (Bg e n)
theorem A6.same{H':Hp}(h:A6 p H)(s:Ab H H'):A6 p H':=by obtain⟨l,f,e⟩:=h;exact⟨l,f,s _ _ e⟩
def JV(K:Fgx):Sp:=λy H Q _=>match y with | [.ref a,.int k]=>∃ns:yV,Al K H a (ns.map V.int)/\0<=k/\∀i,Q (.int i) H | _=>False
def JW:Sp:=λy H Q _=>match y with | [.int c]=>∀p l f,H p=none->Q (.ref p) (upd H p (.lst [.int l,.int f])) | _=>False
def Os:Sp:=λB H Q _=>match B with | [.ref p,.int m]=>A6 p H/\0<m/\m<1000/\∀g y,0<=g->g<m->Ev p H y->A6 p y->Q (.int g) y | _=>False
theorem Ot{K vs H Q E}(h:JV K vs H Q E):vs.length=2:=by rcases vs with _ | ⟨B,_ | ⟨y,_ | _⟩⟩<;>first | rfl | cases h | skip;all_goals (cases B<;>first | cases h | skip);all_goals (cases y<;>first | cases h | skip)
theorem Ou{vs H Q E}(h:JW vs H Q E):vs.length=1:=by rcases vs with _ | ⟨y,_ | _⟩<;>first | rfl | cases h | skip;all_goals (cases y<;>first | cases h | skip)
theorem Ov{vs H Q E}(h:Os vs H Q E):vs.length=2:=by rcases vs with _ | ⟨B,_ | ⟨y,_ | _⟩⟩<;>first | rfl | cases h | skip;all_goals (cases B<;>first | cases h | skip);all_goals (cases y<;>first | cases h | skip)
theorem Ei{ns:yV}{g:Int}(h0:0<=g)(B:g<ns.length):∃v∈ns,BD (ns.map V.int) g=some (.int v):=by
 have y:g.toNat<ns.length:=by omega
 have e:g=((g.toNat:Nat):Int):=by omega
 refine⟨ns[g.toNat],ZL y,?_⟩;have q:BD (ns.map V.int) ((g.toNat:Nat):Int)=some (.int ns[g.toNat]):=Dt (by simp[y]);rw[<-e]at q;exact q
variable{P:yP}{w:yN}{K:Fgx}{mg:Str -> yW}{base:Heap}
theorem WZ:Az ["_law_script","_law_k"] ["_law_script","_law_k"] (Ar waB):=AC
theorem W1(F:Df K mg "_law_cell" waB ["_law_script","_law_k"])(T:Tx mg):Fn P w K mg base 1 "_law_cell" ["_law_script","_law_k"] (JV K):=by
 refine F.fn WZ (@Ot _) λf dl A outer s H O Q E J h=>?_
 refine⟨_,(Ak (Bj (A7 Dz (cy 1) (AD (BV K) rfl T.b_len zH (Ai (cy 0))) (AV _)) (An (Ay (AH (BO K) (cy 0) (cy 1) (λ_ _=>rfl)))) Bh) (An (Ay R'))),?_⟩;obtain⟨G,B,rfl⟩:=By (Ot h);cases G<;>try exact False.elim h
 cases B<;>try exact False.elim h
 rename_i a k
 .obtain⟨ns,y,h0,q⟩:=h;refine⟨a,_,rfl,.inl y,⟨λc=>?_,λc=>q 0⟩⟩;have D:k<(ns.length:Int):=by have:=Z0 c;simpa using this
  obtain⟨v,_,e⟩:=Ei h0 D;exact⟨a,_,k,.int v,rfl,rfl,y,e,q v⟩
theorem zax:Az ["_law_cell_here","_law_more"] ["_law_cell_here"] (Ar waC):=AC
theorem W2(F:Df K mg "_law_pen" waC ["_law_cell_here"])(T:Tx mg):Fn P w K mg base 1 "_law_pen" ["_law_cell_here"] JW:=by
 refine F.fn zax @Ou λf dl A outer s H G Q E D h=>?_
 refine⟨_,(Ak (zC 1 zax.nd (AD (QA rfl) rfl T.b_max boot_max (Aq (cy 0) (Ax Cf R' (cy 0))))) (An (Ay (BU (Aq (cy 1) (BA Iv rfl T.b_int L2.boot_int (Ai (Cw LR (cy 1) (Ax GJ R' R') (AV _))))))))),?_⟩;obtain⟨y,rfl⟩:=Dn (Ou h);cases y<;>try exact False.elim h
 rename_i c
 .refine⟨c,0-c,rfl,?_⟩;exact⟨⟨by decide,by decide,by decide⟩,.inr ⟨_,rfl,λp B=>h p _ _ B⟩⟩
theorem zae:Az ["_law_pen_here","_law_many","_law_rest","_law_drawn","_law_stir"] ["_law_pen_here","_law_many"] (Ar waD):=AC
abbrev HC(P:yP)(w:yN)(K:Fgx)(mg:Str->yW)(base:Heap):Prop:=Fn P w K mg base 1 "_law_draw" ["_law_pen_here","_law_many"] Os
theorem W3(F:Df K mg "_law_draw" waD ["_law_pen_here","_law_many"])(T:Tx mg):HC P w K mg base:=by
 refine F.fn zae @Ov λf dl A outer s H vs Q E hr h=>?_
 refine⟨_,(Ak (Bj (A7 Dq (AH (BO K) (cy 0) R' (λ_ _=>rfl)) R' (AV _)) (Ak (Bz (AD QB rfl T.b_divmod boot_divmod (Aq (AH (BO K) (cy 0) R' (λ_ _=>rfl)) (cy 1))) (AL K (n:=2) (Aj (Ag 2 zae.nd) (Aj (Ag 3 zae.nd) AJ)))) (Ak (Bz (cy 2) (KQ (cy 0) R' Lp)) (An (Ay (cy 3))))) Bh) (Ak (zC 4 zae.nd (Ax E4 (Ax DX (Ax A1 (Ax E4 (AH (BO K) (cy 0) R' (λ_ _=>rfl)) R') R') R') R')) (Ak (zC 4 zae.nd (Ax E4 (Ax A1 (Ax DX (cy 4) (cy 4)) R') R')) (Ak (Bz (Ax E4 (Ax A1 (Ax DX (cy 4) R') R') R') (KQ (cy 0) R' Lp)) (An (Ay (Ax E4 (Ax GI (AH (BO K) (cy 0) R' (λ_ _=>rfl)) R') (cy 1)))))))),?_⟩;obtain⟨z0,z1,rfl⟩:=By (Ov h);cases z0<;>try exact False.elim h
 cases z1<;>try exact False.elim h
 rename_i p m
 .obtain⟨⟨l,f,y⟩,h0,h1,q⟩:=h;refine⟨p,[.int l,.int f],1,.int f,rfl,rfl,Al.of y,rfl,rfl,⟨λc=>?_,λc=>?_⟩⟩
  .refine⟨p,[.int l,.int f],0,.int l,rfl,rfl,Al.of y,rfl,l,m,rfl,⟨h0,by omega⟩,λt J=>?_⟩;have D:p≠t:=Bg y J;have B:upd H t (.tup [.int (l / m),.int (l % m)]) p=some (.lst [.int l,.int f]):=by rw [Ao D];exact y
   refine⟨t,[.int (l / m),.int (l % m)],rfl,Ae.of Af,rfl,_,_,rfl,_,_,rfl,rfl,?_⟩;refine⟨p,[.int l,.int f],0,0,rfl,rfl,B,rfl,?_⟩;exact q _ _ (fC _ (by omega)) (dQ _ h0) ((Ev.new J).trans (Ev.pen B)) ⟨l / m,f,Af⟩
  .have b1:∀x:Int,-(2 ^ 64)<x % 2147483629:=λx=>Int.lt_of_lt_of_le (by decide) (fC x (by decide))
   have O:∀x:Int,x % 2147483629<2 ^ 64:=λx=>Int.lt_trans (dQ x (by decide)) (by decide)
   have Z:(0:Int)<2147483647:=by decide
   have G:(0:Int)<2147483629:=by decide
   have g3:(0:Int)<2147483587:=by decide
   have c1: -(2 ^ 64)<(69621:Int)/\(69621:Int)<2 ^ 64:=by decide
   have c2: -(2 ^ 64)<(48271:Int)/\(48271:Int)<2 ^ 64:=by decide
   refine⟨p,[.int l,.int f],0,.int l,rfl,rfl,Al.of y,rfl,Z,.inr c1,G,.inl ⟨b1 _,O _⟩,g3,.inr c2,G,p,[.int l,.int f],0,0,rfl,rfl,y,rfl,?_⟩;refine⟨p,_,0,_,rfl,rfl,Al.of Af,rfl,⟨by decide,by decide⟩,h0,?_⟩;exact q _ _ (fC _ (by omega)) (dQ _ h0) (Ev.pen y) ⟨_,f,Af⟩
end
section
variable{H H2 H' H3:Hp}{ys zs:zA}{p p' t:yR}{Good:yQ -> Prop}{i:Nat}
mutual
def CH:yQ->Bool
 | .list _=>false | .dict _=>false | .tuple ds=>Fz ds | _=>true
def Fz:List yQ->Bool
 | []=>true
 | d::ds=>CH d && Fz ds
end
def TEv(H H':Hp):Prop:=∀a y,H a=some (.tup y)->H' a=some (.tup y)
theorem TEv.trans{y:Hp}(a:TEv H y)(b:TEv y H2):TEv H H2:=λc o h=>b c o (a c o h)
theorem _root_.L2.Ev.tev{p:yR}{H H':Hp}(h:Ev p H H'):TEv H H':=λa y q=>h.tup q
theorem TEv.upd{a:yR}(h:H a=some (.lst ys)):TEv H (upd H a (.lst zs)):=λb y q=>by
 rw[Ao (KJ q h (by intro z;cases z))];exact q
mutual
theorem Aa.tev(h:TEv H H'):∀(d:yQ) (v:V),CH d=true->Aa p H d v->Aa p' H' d v
 | .none,v,_,q=>q
 | .bool _,v,_,q=>q
 | .int _,v,_,q=>q
 | .str _,v,_,q=>q
 | .tuple ds,v,n,q=>by
  unfold Aa at q ⊢;obtain⟨a,y,e,r,z⟩:=q;exact⟨a,y,e,h _ _ r,Ad.tev h ds y (by unfold CH at n;exact n) z⟩
 | .list ds,v,n,q=>by unfold CH at n;cases n
 | .dict kvs,v,n,q=>by unfold CH at n;cases n
theorem Ad.tev(h:TEv H H'):∀(ds:List yQ) (xs:zA),Fz ds=true->Ad p H ds xs->Ad p' H' ds xs
 | [],xs,_,q=>by unfold Ad at q ⊢;exact q
 | d::ds,xs,n,q=>by
  unfold Ad at q ⊢;unfold Fz at n;obtain⟨y,B⟩:=Zg.mp n;obtain⟨x,r,e,z,D⟩:=q;exact⟨x,r,e,Aa.tev h d x y z,Ad.tev h ds r B D⟩
end
theorem HD{ds:List yQ}(h:∀d∈ds,CH d=true):Fz ds=true:=by
 induction ds with
 | nil=>rfl
 | cons d ds ih=>unfold Fz;rw[h d YR,ih λx y=>h x (YQ _ y)];rfl
theorem _root_.L2.Ev.own{p b:yR}{H H':Hp}{o:HO}(h:Ev p H H')(n:H b=none):Ev p H (upd H' b o):=λx u q=>(h x u q).elim .inl λr=> .inr (by rw[Ao (Bg q n)];exact r)
def GoodB(d:yQ):Prop:=∃m c:Int,d= .tuple [.int m,.int c]/\1<=m/\m<=9/\1<=c/\c<=9
def GoodE(d:yQ):Prop:=∃a f e:Int,d= .tuple [.int a,.int f,.int e]/\1<=a/\a<=9/\0<=f/\f<=7/\1<=e/\e<=8
theorem GoodB.nm{d:yQ}(h:GoodB d):CH d=true:=by obtain⟨m,c,rfl,_⟩:=h;rfl
theorem GoodE.nm{d:yQ}(h:GoodE d):CH d=true:=by obtain⟨m,c,e,rfl,_⟩:=h;rfl
structure GoodP(bs es:List yQ)(lo hi st:Int):Prop where
 b:∀d∈bs,GoodB d
 b1:1<=bs.length
 b4:bs.length<=4
 e:∀d∈es,GoodE d
 e4:es.length<=4
 lo0:0<=lo
 ls:lo<=st
 sh:st<=hi
 h4:hi<=40
noncomputable def Ow(bs es:List yQ)(lo hi st:Int):yQ:= .tuple [.tuple bs,.tuple es,.tuple [.int lo,.int hi,.int st]]
def HE:Sp:=λB H Q _=>match B with | [.ref p,.int m]=>A6 p H/\1<=m/\m<=4/\∀v y bs es lo hi st,GoodP bs es lo hi st->Aa p y (Ow bs es lo hi st) v->Ev p H y->A6 p y->Q v y | _=>False
theorem Ox{vs H Q E}(h:HE vs H Q E):vs.length=2:=by rcases vs with _ | ⟨B,_ | ⟨y,_ | _⟩⟩<;>first | rfl | cases h | skip;all_goals (cases B<;>first | cases h | skip);all_goals (cases y<;>first | cases h | skip)
structure Filled(Good:yQ->Prop)(p b:yR)(H H2:Hp)(i:Nat):Prop where
 ev:Ev p H H2
 pen:A6 p H2
 ex:∃xs ds,H2 b=some (.lst xs)/\Ad p H2 ds xs/\(∀d∈ds,Good d)/\ds.length=i
theorem Filled.step{b:yR}{d:yQ}{xs:zA}{ds:List yQ}(nm:∀d,Good d->CH d=true)(K:H2 b=some (.lst xs))(rs:Ad p H2 ds xs)(gd:∀d∈ds,Good d)(hl:ds.length=i)(e3:Ev p H2 H3)(Z:b≠p)(hb:H b=none)(ev:Ev p H H3)(pn:A6 p H3)
  (D:H3 t=none) (rd:Aa p (upd H3 t (.tup ys)) d (.ref t)) (g:Good d):Filled Good p b H (upd (upd H3 t (.tup ys)) b (.lst (xs++[.ref t]))) (i+1):=by
 have y:H3 b=some (.lst xs):=e3.lst K Z;have J:b≠t:=Bg y D;have B:upd H3 t (.tup ys) b=some (.lst xs):=by rw[Ao J];exact y
 have O:TEv (upd H3 t (.tup ys)) (upd (upd H3 t (.tup ys)) b (.lst (xs++[.ref t]))):=TEv.upd B;have G:A6 p (upd H3 t (.tup ys)):=pn.new D;refine⟨(ev.trans (Ev.new D)).own hb,?_,xs++[.ref t],ds++[d],Af,?_,?_,by simp[hl]⟩
 .obtain⟨l,f,e⟩:=G;exact⟨l,f,by rw[Ao (Zv Z)];exact e⟩
 .exact(Ad.tev ((e3.trans (Ev.new D)).tev.trans O) ds xs (HD λd h=>nm d (gd d h)) rs).append (.cons (Aa.tev O d _ (nm d g) rd) .nil)
 .intro x K;rcases ZS.mp K with h | h
  .exact gd x h
  .rw[Z3.mp h];exact g
theorem Filled.done{b:yR}(f:Filled Good p b H H2 i)(J:b≠p)(y:Ev p H2 H3):∃xs ds,H3 b=some (.lst xs)/\Ad p H3 ds xs/\(∀d∈ds,Good d)/\ds.length=i:=by
 obtain⟨xs,ds,G,B,D,h4⟩:=f.ex;exact⟨xs,ds,y.lst G J,Ad.ev y ds xs B,D,h4⟩
theorem Filled.other{b e:yR}{Z y:Hp}{ws:zA}(nm:∀d,Good d->CH d=true)(f:Filled Good p b H Z i)(B:Ev p Z y)(D:y t=none)(he:y e=some (.lst ys))(J:H e=none)(nb:b≠p)(O:b≠e)(ne:e≠p)(pn:A6 p y):
  Filled Good p b H (upd (upd y t (.tup zs)) e (.lst ws)) i:=by
 obtain⟨G,ds,h1,h2,h3,h4⟩:=f.ex;have h7:y b=some (.lst G):=B.lst h1 nb;have K:upd y t (.tup zs) e=some (.lst ys):=by rw[Ao (Bg he D)];exact he
 refine⟨((f.ev.trans B).trans (Ev.new D)).own J,?_,G,ds,?_,?_,h3,h4⟩
 .obtain⟨l,g,z⟩:=pn.new (o:= .tup zs) D;exact⟨l,g,by rw[Ao (Zv ne)];exact z⟩
 .rw[Ao O,Ao (Bg h7 D)];exact h7
 .exact Ad.tev ((B.trans (Ev.new D)).tev.trans (TEv.upd K)) ds G (HD λd h=>nm d (h3 d h)) h2
theorem Ej{n:Nat}(h:n<=1000):n<sizeLine:=au h (by decide)
variable{P:yP}{w:yN}{K:Fgx}{mg:Str -> yW}{base:Heap}
theorem za4:Az ["_law_pen_here","_law_most","_law_boilers","_law_turn","_law_engines","_law_low","_law_high","_law_start"] ["_law_pen_here","_law_most"] (Ar waH):=AC
theorem W4(F:Df K mg "_law_plant" waH ["_law_pen_here","_law_most"])(T:Tx mg)(y:HC P w K mg base):Fn P w K mg base 2 "_law_plant" ["_law_pen_here","_law_most"] HE:=by
 refine F.fn za4 @Ox λf dl A outer s H vs Q E G h=>?_
 refine⟨_,(Ak (zC 2 za4.nd (BU pa_nil)) (Ak (Bl Z8 rfl (B0 rfl T.b_range (Ai (Ax A1 R' (zB y G (Aq (cy 0) (cy 1)))))) (Ag 3 za4.nd) (An (Cv (C4 zE zF zG Dv (cy 2) (Ai (BT (Aq (Ax A1 R' (zB y G (Aq (cy 0) (AH (BO K) (BU (Aq R' R')) (zB y G (Aq (cy 0) R')) (λ_ _=>rfl))))) (Ax A1 R' (zB y G (Aq (cy 0) R')))))))))) (Ak (zC 4 za4.nd (BU pa_nil)) (Ak (Bl Z8 rfl (B0 rfl T.b_range (Ai (zB y G (Aq (cy 0) R')))) (Ag 3 za4.nd) (An (Cv (C4 zE zF zG Dv (cy 4) (Ai (BT (AQ (Ax A1 R' (zB y G (Aq (cy 0) (AH (BO K) (BU (Aq R' R')) (zB y G (Aq (cy 0) R')) (λ_ _=>rfl))))) (zB y G (Aq (cy 0) R')) (Ax A1 R' (zB y G (Aq (cy 0) R')))))))))) (Ak (zC 5 za4.nd (AH (BO K) (BU (C6 R' R' (zB y G (Aq (cy 0) R')) (zB y G (Aq (cy 0) R')))) (zB y G (Aq (cy 0) R')) (λ_ _=>rfl))) (Ak (zC 6 za4.nd (AD (Gq rfl) rfl T.b_min gj (Aq R' (Ax A1 (cy 5) (AH (BO K) (BU (C6 R' (zB y G (Aq (cy 0) R')) (zB y G (Aq (cy 0) R')) R')) (zB y G (Aq (cy 0) R')) (λ_ _=>rfl)))))) (Ak (zC 7 za4.nd (AH (BO K) (BU (AQ (cy 5) (cy 6) (Ax A1 (cy 5) (zB y G (Aq (cy 0) (Ax A1 (Ax Cf (cy 6) (cy 5)) R')))))) (zB y G (Aq (cy 0) R')) (λ_ _=>rfl))) (An (Ay (BT (AQ (BA (B3 K) rfl T.b_tuple BN (Ai (cy 2))) (BA (B3 K) rfl T.b_tuple BN (Ai (cy 4))) (BT (AQ (cy 5) (cy 6) (cy 7)))))))))))))),?_⟩;obtain⟨z0,z1,rfl⟩:=By (Ox h);cases z0<;>try exact False.elim h
 cases z1<;>try exact False.elim h
 rename_i p m
 .obtain⟨pn,m1,m4,q⟩:=h;refine λb hb=>?_
  have nb:b≠p:=pn.ne hb;refine⟨pn.new hb,by omega,by omega,λg1 H1 a1 b1 e1 x0=>?_⟩;have ev1:Ev p H H1:=(Ev.new hb).trans e1;have w9:H1 b=some (.lst []):=e1.lst Af nb;refine⟨1+g1,rfl,by omega,by omega,CY (n:=(1+g1).toNat) (λi σ H2=>∃t,σ=[some (.ref p),some (.int m),some (.ref b),t,none,none,none,none]/\Filled GoodB p b H H2 i)
   ⟨none,rfl,ev1,x0,[],[],w9,.nil,(λ_ h=>nomatch h),rfl⟩ (λi σ H2 hi hP=>?_) fun σ H2 hP=>?_⟩
  .obtain⟨t,rfl,ev,i0,xs,ds,hx,rs,gd,hl⟩:=hP;refine⟨.inl ⟨rfl,_,Al.of hx⟩,λl1 D=>⟨i0.new D,by decide,by decide,λg2 H3 a2 b2 e2 i8=>?_⟩⟩;obtain⟨v,hv,i4⟩:=Ei (ns:=[9,4]) a2 (by simpa using b2);have hv':v=9\/v=4:=by simpa using hv
   refine⟨l1,_,g2,.int v,rfl,rfl,Al.of (e2.lst Af (i0.ne D)),i4,i8,by omega,by omega,λg3 H4 a3 b3 e3 j6=>⟨j6,by decide,by decide,λg4 H5 a4 b4 e4 i6 t1 Z=>?_⟩⟩;have j0:Ev p H2 H5:=(Ev.new D).trans (e2.trans (e3.trans e4));refine⟨b,xs,.ref t1,rfl,rfl,by rw[Ao (Bg (j0.lst hx nb) Z)];exact j0.lst hx nb,Ej (by rw[<-rs.len,hl];omega),_,rfl,?_⟩;exact Filled.step (λd h=>h.nm) hx rs gd hl j0 nb hb (ev.trans j0) i6 Z (Aa.tup Af (.cons Aa.int (.cons Aa.int .nil))) ⟨1+g3,1+g4,rfl,by omega,by omega,by omega,by omega⟩
  obtain⟨t,rfl,fb⟩:=hP;refine λe he=>?_
  have ne:e≠p:=fb.pen.ne he;have q9:H e=none:=by
   cases z:H e with
   | none=>rfl
   | some o=>exact((fb.ev e o z).elim (fun⟨x,_⟩=>absurd x ne) λx=>by rw[x]at he;cases he)
  have neb:e≠b:=by
   obtain⟨xs,ds,h1,_⟩:=fb.ex;exact Zv (Bg h1 he)
  refine⟨fb.pen.new he,by decide,by decide,λg6 H3 a6 b6 e6 i8=>?_⟩;have t9:Filled GoodB p b H H3 (1+g1).toNat:=⟨fb.ev.trans ((Ev.new he).trans e6),i8,fb.done nb ((Ev.new he).trans e6)⟩;refine⟨g6,rfl,by omega,by omega,CY (n:=g6.toNat) (λi σ H4=>∃t,σ=[some (.ref p),some (.int m),some (.ref b),t,some (.ref e),none,none,none]/\Filled GoodB p b H H4 (1+g1).toNat/\Filled GoodE p e H H4 i)
   ⟨_,rfl,t9,t9.ev,i8,[],[],e6.lst Af ne,.nil,(λ_ h=>nomatch h),rfl⟩ (λi σ H4 hi hP=>?_) fun σ H4 hP=>?_⟩
  .obtain⟨t,rfl,i5,ev,i0,xs,ds,hx,rs,gd,hl⟩:=hP;refine⟨.inl ⟨rfl,_,Al.of hx⟩,λl1 D=>⟨i0.new D,by decide,by decide,λg7 H5 a7 b7 e7 i6=>?_⟩⟩;obtain⟨v,hv,i4⟩:=Ei (ns:=[3,9]) a7 (by simpa using b7);have hv':v=3\/v=9:=by simpa using hv
   refine⟨l1,_,g7,.int v,rfl,rfl,Al.of (e7.lst Af (i0.ne D)),i4,i6,by omega,by omega,λg8 H6 a8 b8 e8 j3=>⟨j3,by decide,by decide,λg9 H7 a9 b9 e9 l6=>⟨l6,by decide,by decide,λj4 H8 a10 b10 j7 i7 t1 Z=>?_⟩⟩⟩;have i9:Ev p H4 H8:=(Ev.new D).trans (e7.trans (e8.trans (e9.trans j7)));have O:=i9.lst hx ne;refine⟨e,xs,.ref t1,rfl,rfl,by rw[Ao (Bg O Z)];exact O,Ej (by rw[<-rs.len,hl];omega),_,rfl,?_,?_⟩
   .exact Filled.other (λd h=>h.nm) i5 i9 Z O q9 nb (Zv neb) ne i7
   .exact Filled.step (λd h=>h.nm) hx rs gd hl i9 ne q9 (ev.trans i9) i7 Z (Aa.tup Af (.cons Aa.int (.cons Aa.int (.cons Aa.int .nil)))) ⟨1+g8,g9,1+j4,rfl,by omega,by omega,by omega,by omega,by omega,by omega⟩
  obtain⟨t,rfl,i5,v6⟩:=hP;have j6:=i5.pen;refine⟨j6,by decide,by decide,λg7 H5 a7 b7 e7 i6=>⟨i6,by decide,by decide,λg8 H6 a8 b8 e8 j3 l1 D=>⟨j3.new D,by decide,by decide,λg9 H7 a9 b9 e9 l6=>?_⟩⟩⟩;obtain⟨B,l9,i4⟩:=Ei (ns:=[0,0,g7,g8]) a9 (by simpa using b9);have hlow':B=0\/B=0\/B=g7\/B=g8:=by simpa using l9
  refine⟨l1,_,g9,.int B,rfl,rfl,Al.of (e9.lst Af (j3.ne D)),i4,l6,by decide,by decide,λj4 H8 a10 b10 j7 i7=>⟨i7,by decide,by decide,λo7 H9 a11 b11 e11 r8 l2 l7=>⟨r8.new l7,by decide,by decide,λg12 H10 v4 b12 u7 v3=>?_⟩⟩⟩;obtain⟨x,hx,n9⟩:=Ei (ns:=[0,j4,o7,40]) v4 (by simpa using b12);have hx':x=0\/x=j4\/x=o7\/x=40:=by simpa using hx
  refine⟨l2,_,g12,.int x,rfl,rfl,Al.of (u7.lst Af (r8.ne l7)),n9,40,B+x,rfl,?_⟩;have hhi:∃hi:Int,(if B+x<40 then B+x else 40)=hi/\B<=hi/\hi<=40:=by
   by_cases c:B+x<40
   .exact⟨B+x,YN c,by omega,by omega⟩
   .exact⟨40,Y8 c,by omega,by omega⟩
  obtain⟨hi,ehi,hi1,w8⟩:=hhi;rw[ehi];refine⟨v3,by omega,by omega,λu9 H11 a13 b13 e13 j5 l3 j9=>⟨j5.new j9,by decide,by decide,λv7 H12 a14 w5 u0 o8=>?_⟩⟩;obtain⟨st,hst,u6⟩:=Ei (ns:=[B,hi,B+u9]) a14 (by simpa using w5);have hst':st=B\/st=hi\/st=B+u9:=by simpa using hst
  refine⟨l3,_,v7,.int st,rfl,rfl,Al.of (u0.lst Af (j5.ne j9)),u6,?_⟩;have j8:Ev p H4 H12:=e7.trans (e8.trans ((Ev.new D).trans (e9.trans (j7.trans (e11.trans ((Ev.new l7).trans (u7.trans (e13.trans ((Ev.new j9).trans u0)))))))));obtain⟨xs,bs,hb8,rb8,gb,lb⟩:=i5.done nb j8;obtain⟨ys,es,O,re8,ge,le⟩:=v6.done ne j8;refine⟨b,xs,rfl,.inl ⟨Al.of hb8,λc1 o9=>⟨e,ys,rfl,.inl ⟨Al.of (by rw[Ao (Bg O o9)];exact O),λc2 w6 c3 v8 c4 hc4=>?_⟩⟩⟩⟩;have nA:=Ab.new (o:= .tup xs) o9;have nB:=Ab.new (o:= .tup ys) w6;have nC:=Ab.new (o:= .tup [.int B,.int hi,.int st]) v8;have nD:=Ab.new (o:= .tup [.ref c1,.ref c2,.ref c3]) hc4;have J:=nA.trans (nB.trans (nC.trans nD));refine q _ _ bs es B hi st ⟨gb,by omega,by omega,ge,by omega,by omega,by omega,by omega,w8⟩ ?_ (i5.ev.trans (j8.trans (Ev.same J))) (o8.same J);exact Aa.tup Af (.cons (Aa.tup ((nB.trans (nC.trans nD)) _ _ Af) (Ad.ev (Ev.same J) _ _ rb8)) (.cons (Aa.tup ((nC.trans nD) _ _ Af) (Ad.ev (Ev.same J) _ _ re8)) (.cons (Aa.tup (nD _ _ Af) (.cons Aa.int (.cons Aa.int (.cons Aa.int .nil)))) .nil)))
end
section
variable{p:yR}{H:Hp}{v:V}
theorem CI{i lo hi:Int}(B:lo<=i)(y:i<=hi):Bb (.int i) lo hi=true:=by unfold Bb;dsimp only;rw[Z9 B,Z9 y];rfl
theorem Gf{ds:List yQ}{lo hi:Int}(B:lo<=(ds.length:Int))(y:(ds.length:Int)<=hi):Bc (.tuple ds) lo hi=true:=by unfold Bc;dsimp only;rw[Z9 B,Z9 y];rfl
theorem W5{P:PL}(h:P.ok):Fw P.d=true:=by
 have b1:=h.b1;have b4:=h.b4;have e4:=h.e4;have hb:Fu (.tuple (P.bs.map bD))=true:=by
  unfold Fu;dsimp only;rw[Gf (by rw[Y2];omega) (by rw[Y2];omega),bQ,ZF];intro d hd;obtain⟨q,J,rfl⟩:=Zj.mp hd;obtain⟨D,y,G,B⟩:=h.b q J;unfold EO;dsimp only;rw[CI D y,CI G B];rfl
 have Z:Fv (.tuple (P.es.map eD))=true:=by
  unfold Fv;dsimp only;rw[Gf (by rw[Y2];omega) (by rw[Y2];omega),bQ,ZF];intro d hd;obtain⟨q,J,rfl⟩:=Zj.mp hd;obtain⟨D,y,G,B,O,K⟩:=h.e q J;unfold Eh;dsimp only;rw[CI D y,CI G B,CI O K];rfl
 have h0:=h.lo0;have h1:=h.ls;have h2:=h.sh;have h3:=h.h4;have hm:EQ (.tuple [.int P.lo,.int P.hi,.int P.st])=true:=by
  unfold EQ;dsimp only;rw[CI (by omega) h3,CI (by omega) h2,CI h0 h1];rfl
 unfold Fw PL.d;dsimp only;rw[hb,Z,hm];rfl
def JX:Sp:=λB H Q _=>match B with | [v]=>∃p P,PL.ok P/\Aa p H P.d v/\∀y,Ab H y->Q .non y | _=>False
def JY:Sp:=λB H Q _=>match B with | [v,.int nb,.int hs]=>∃p x n h,FT.ok x n h/\nb=(n:Int)/\hs=(h:Int)/\Aa p H x.d v/\∀y,Ab H y->Q (.bl true) y | _=>False
def JZ:Sp:=λB H Q _=>match B with | [v,u]=>∃p P S,PL.ok P/\SY.ok S P.bs.length/\Aa p H P.d v/\Aa p H S.d u/\∀y,Ab H y->Q (.bl true) y | _=>False
def HF:Sp:=λB H Q _=>match B with | [v,u]=>∃p P S,PL.ok P/\SY.ok S P.bs.length/\Aa p H P.d v/\Aa p H S.d u/\∀y,Ab H y->Q .non y | _=>False
def J0:Sp:=λD H Q _=>match D with | [.ref a,.int m]=>∃B:List Bool,H a=some (.lst (B.map wV))/\∀y,Ab H y->Q (.int (BX B m)) y | _=>False
def J1:Sp:=λB H Q _=>match B with | [v,.int b,.int h]=>∃p fs,Aa p H (.tuple (fs.map FT.d)) v/\fs.length<=1000/\∀a y,Ab H y->y a=some (.lst ((BC fs b h).map wV))->Q (.ref a) y | _=>False
def J2:Sp:=λy H Q _=>match y with | [v,u,.int h]=>∃p bs fs,Aa p H (.tuple (bs.map bD)) v/\Aa p H (.tuple (fs.map FT.d)) u/\bs.length<=1000/\fs.length<=1000/\ret H Q p (AR (CB bs fs h)) | _=>False
def J3:Sp:=λy H Q _=>match y with | [v,u]=>∃p P S,PL.ok P/\SY.ok S P.bs.length/\Aa p H P.d v/\Aa p H S.d u/\ret H Q p (Me P S) | _=>False
def J4:Sp:=λy H Q _=>match y with | [v,.int h]=>∃p q,Aa p H (eD q) v/\1<=q.2.2/\Q (.int (drawn q h)) H | _=>False
def J5:Sp:=λy H Q _=>match y with | [v,u]=>∃p P S,PL.ok P/\SY.ok S P.bs.length/\Aa p H P.d v/\Aa p H S.d u/\ret H Q p (Jb P S) | _=>False
theorem Oy{vs H Q E}(h:JX vs H Q E):vs.length=1:=by rcases vs with _ | ⟨_,_ | _⟩<;>first | rfl | cases h
theorem Oz{vs H Q E}(h:JY vs H Q E):vs.length=3:=by rcases vs with _ | ⟨_,_ | ⟨y,_ | ⟨B,_ | _⟩⟩⟩<;>first | rfl | cases h | skip;all_goals (cases y<;>first | cases h | skip);all_goals (cases B<;>first | cases h | skip)
theorem OA{vs H Q E}(h:JZ vs H Q E):vs.length=2:=by rcases vs with _ | ⟨_,_ | ⟨_,_ | _⟩⟩<;>first | rfl | cases h
theorem OB{vs H Q E}(h:HF vs H Q E):vs.length=2:=by rcases vs with _ | ⟨_,_ | ⟨_,_ | _⟩⟩<;>first | rfl | cases h
theorem OC{vs H Q E}(h:J0 vs H Q E):vs.length=2:=by rcases vs with _ | ⟨B,_ | ⟨y,_ | _⟩⟩<;>first | rfl | cases h | skip;all_goals (cases B<;>first | cases h | skip);all_goals (cases y<;>first | cases h | skip)
theorem OD{vs H Q E}(h:J1 vs H Q E):vs.length=3:=by rcases vs with _ | ⟨_,_ | ⟨y,_ | ⟨B,_ | _⟩⟩⟩<;>first | rfl | cases h | skip;all_goals (cases y<;>first | cases h | skip);all_goals (cases B<;>first | cases h | skip)
theorem OE{vs H Q E}(h:J2 vs H Q E):vs.length=3:=by rcases vs with _ | ⟨_,_ | ⟨_,_ | ⟨y,_ | _⟩⟩⟩<;>first | rfl | cases h | skip;all_goals (cases y<;>first | cases h | skip)
theorem OF{vs H Q E}(h:J3 vs H Q E):vs.length=2:=by rcases vs with _ | ⟨_,_ | ⟨_,_ | _⟩⟩<;>first | rfl | cases h
theorem OG{vs H Q E}(h:J4 vs H Q E):vs.length=2:=by rcases vs with _ | ⟨_,_ | ⟨y,_ | _⟩⟩<;>first | rfl | cases h | skip;all_goals (cases y<;>first | cases h | skip)
theorem OH{vs H Q E}(h:J5 vs H Q E):vs.length=2:=by rcases vs with _ | ⟨_,_ | ⟨_,_ | _⟩⟩<;>first | rfl | cases h
theorem Aa.plant{P:PL}(r:Aa p H P.d v):∃A B E M D xe,v= .ref A/\H A=some (.tup [.ref B,.ref E,.ref M])/\H B=some (.tup D)/\Ad p H (P.bs.map bD) D/\H E=some (.tup xe)/\Ad p H (P.es.map eD) xe/\H M=some (.tup [.int P.lo,.int P.hi,.int P.st]):=by
 unfold PL.d at r;obtain⟨A,xs,rfl,O,rs⟩:=Aa.shape r;obtain⟨x,y,z,rfl,Z,ry,rz⟩:=Ad.three rs;obtain⟨B,D,rfl,hB,rb⟩:=Aa.shape Z;obtain⟨E,xe,rfl,hE,re⟩:=Aa.shape ry;obtain⟨M,xm,rfl,hM,rm⟩:=Aa.shape rz;obtain⟨m1,m2,m3,rfl,G,J,K⟩:=Ad.three rm;unfold Aa at G J K;subst G J K;exact⟨A,B,E,M,D,xe,rfl,O,hB,rb,hE,re,hM⟩
theorem Aa.story{S:SY}(r:Aa p H S.d v):∃A B E D,v= .ref A/\H A=some (.tup [.ref B,.ref E])/\H B=some (.tup (S.ex.map V.int))/\H E=some (.tup D)/\Ad p H (S.fs.map FT.d) D:=by
 unfold SY.d at r;obtain⟨A,xs,rfl,J,rs⟩:=Aa.shape r;obtain⟨x,y,rfl,K,ry⟩:=Ad.two rs;obtain⟨B,xb,rfl,G,O⟩:=Aa.shape K;obtain⟨E,xe,rfl,hE,Z⟩:=Aa.shape ry;rw[Ad.ints O]at G;exact⟨A,B,E,xe,rfl,J,G,hE,Z⟩
variable{P:yP}{w:yN}{K:Fgx}{mg:Str -> yW}{base:Heap}
theorem W6:Az ["plant"] ["plant"] (Ar wad):=AC
theorem W7(F:Df K mg "need_plant" wad ["plant"])(T:Tx mg)(y:Fn P w K mg base 5 "is_plant" ["thing"] HB):Fn P w K mg base 6 "need_plant" ["plant"] JX:=by
 refine F.fn W6 @Oy λf dl A outer s H J Q E B h=>?_
 refine⟨_,(An (Bj (B9 (BM (zB y B (Ai (cy 0))))) (An KN) Bh)),?_⟩;obtain⟨v,rfl⟩:=Dn (Oy h)
 .obtain⟨p,P,ok,r,q⟩:=h;refine⟨p,_,r,λb D G s=>⟨λc=>?_,λc=>q D s⟩⟩;rw[G,W5 ok]at c;cases c
theorem zaf:Az ["thing","boilers","hours","boiler","word","first","last"] ["thing","boilers","hours"] (Ar waf):=AC
theorem W8(F:Df K mg "is_fault" waf ["thing","boilers","hours"])(T:Tx mg)(G:Do P w K mg base)(y:EN P w K mg base):Fn P w K mg base 3 "is_fault" ["thing","boilers","hours"] JY:=by
 refine F.fn zaf @Oz λf dl A outer s H vs Q E D h=>?_
 refine⟨_,(Ak (Bj (B9 (BM (zB G D (AQ (cy 0) R' R')))) (An (Ay W')) Bh) (Ak (Bz (cy 0) (AL K (n:=4) (Aj (Ag 3 zaf.nd) (Aj (Ag 4 zaf.nd) (Aj (Ag 5 zaf.nd) (Aj (Ag 6 zaf.nd) AJ)))))) (An (Ay (Bv (zB y D (AQ (cy 3) R' (Ax Cf (cy 1) R'))) (Bv (Cw (DZ K) (cy 4) (BT (Aq U' U')) (by with_unfolding_all rfl)) (Bv (zB y D (AQ (cy 6) R' (Ax Cf (cy 2) R'))) (Cu (zB y D (AQ (cy 5) R' (cy 6))))))))))),?_⟩;obtain⟨v,z1,z2,rfl⟩:=CG (Oz h);cases z1<;>try exact False.elim h
 cases z2<;>try exact False.elim h
 rename_i nb hs
 .obtain⟨p,x,n,k,ok,rfl,rfl,r,q⟩:=h;obtain⟨o1,o2,o3,o4,o5⟩:=ok;refine⟨p,_,r,λb hb=>⟨λc=>?_,λc=>?_⟩⟩
  .rw[hb]at c;cases c
  .obtain⟨l,xs,rfl,hl,rs⟩:=Aa.shape r;obtain⟨y1,y2,y3,y4,rfl,J,O,r3,r4⟩:=Ad.four rs;unfold Aa at J O r3 r4;subst J O r3 r4;refine⟨l,_,rfl,Ae.of hl,rfl,_,_,rfl,_,_,rfl,_,_,rfl,_,_,rfl,rfl,p,.int x.b,Aa.int,λb1 e1=>⟨λ_=>?_,λc1=>?_⟩⟩
   .refine λt ht=>⟨t,_,rfl,.inr (Ae.of Af),rfl,rfl,⟨λ_=>?_,λB=>?_⟩⟩
    .refine⟨p,.int x.l,Aa.int,λb2 e2=>⟨λ_=>⟨p,.int x.f,Aa.int,λb3 Z=>?_⟩,λB=>?_⟩⟩
     .rw[CI o3 o4]at Z;subst Z;exact q _ (Ab.new ht)
     .rw[CI (by omega) (by omega)]at e2;rw[e2]at B;cases B
    .rw[Y8 (by decide)]at B;have:=Sc x.out;unfold wV at this;rw[this]at B;cases B
   .rw[CI o1 (by omega)]at e1;rw[e1]at c1;cases c1
theorem zar:Az ["plant","thing","extra","faults"] ["plant","thing"] (Ar wae):=AC
theorem W9(F:Df K mg "is_story" wae ["plant","thing"])(T:Tx mg)(i8:Fn P w K mg base 3 "is_fault" ["thing","boilers","hours"] JY)(i0:Do P w K mg base)(i7:EN P w K mg base)(i4:Fn P w K mg base 6 "need_plant" ["plant"] JX):Fn P w K mg base 7 "is_story" ["plant","thing"] JZ:=by
 obtain⟨D,g_MOST_EXTRA⟩:=T.g_MOST_EXTRA;obtain⟨y,g_MOST_FAULTS⟩:=T.g_MOST_FAULTS;obtain⟨G,g_MOST_HOURS⟩:=T.g_MOST_HOURS;refine F.fn zar @OA λf dl A outer s H vs Q E hr h=>?_
 refine⟨_,(Ak (Cv (zB i4 hr (Ai (cy 0)))) (Ak (Bj (B9 (BM (zB i0 hr (AQ (cy 1) R' R')))) (An (Ay W')) Bh) (Ak (Bz (cy 1) (AL K (n:=2) (Aj (Ag 2 zar.nd) (Aj (Ag 3 zar.nd) AJ)))) (An (Ay (Bv (zB i0 hr (AQ (cy 2) R' (CK (v:= .int 8) rfl g_MOST_HOURS ⟨G,rfl⟩))) (Bv (AD (Ey rfl) rfl T.b_all dI (Ai (Bd ["units"] [none] rfl (BW K (cy 2)) (AI.of rfl) (λ_ _ _ _=>(zD 0)) (λ_ _ _ _=>Bm) (λ_ _ _ _=>(zB i7 hr (AQ (cy 0) R' (CK (v:= .int 20) rfl g_MOST_EXTRA ⟨D,rfl⟩))))))) (Bv (zB i0 hr (AQ (cy 3) R' (CK (v:= .int 4) rfl g_MOST_FAULTS ⟨y,rfl⟩))) (Cu (AD (Ey rfl) rfl T.b_all dI (Ai (Bd ["part","extra","plant"] [none,some 2,some 0] rfl (BW K (cy 3)) (AI.of rfl) (λ_ _ _ _=>(zD 0)) (λ_ _ _ _=>Bm) (λ_ _ _ _=>(zB i8 hr (AQ (cy 0) (AD (BV K) rfl T.b_len zH (Ai (AH (A4 K) (cy 2) R' (λ_ _=>rfl)))) (AD (BV K) rfl T.b_len zH (Ai (cy 1)))))))))))))))))),?_⟩;obtain⟨v,u,rfl⟩:=By (OA h)
 .obtain⟨p,P,S,ok,so,r,ru,q⟩:=h;refine⟨p,P,ok,r,λH1 s1=>⟨p,S.d,Aa.ev (Ev.same s1) _ _ ru,λb hb=>⟨λc=>?_,λc=>?_⟩⟩⟩
  .rw[hb]at c;cases c
  .obtain⟨A,B,E,xf,rfl,hA,hB,hE,rf⟩:=Aa.story (Aa.ev (Ev.same s1) _ _ ru);obtain⟨PA,PB,PE,PM,xb,xe,rfl,pA,pB,rb,pE,re,pM⟩:=Aa.plant (Aa.ev (Ev.same s1) _ _ r);have x1:=so.x1;have x8:=so.x8;have f4:=so.f4;have lf:=rf.len;rw [Y2] at lf;have lb:=rb.len;rw [Y2] at lb;refine⟨A,_,rfl,Ae.of hA,rfl,_,_,rfl,_,_,rfl,rfl,p,_,Aa.row hB,λb1 e1=>⟨λ_=>?_,λc1=>?_⟩⟩
   .refine⟨B,rfl,⟨_,Ae.of hB⟩,B1 (xs:=S.ex.map V.int) (λi O Z=>Ab H1 Z/\O=List.replicate i (V.bl true)) (by rw [Y2];omega) ⟨Ab.refl _,rfl⟩ (λi O Z h=>by rw [h.2,cN];omega) (λi O Z _ h=>Ae.of (h.1 _ _ hB)) (λi x O Z hx h=>?_) λO Z h=>?_⟩
    .rw [YU] at hx;cases z:S.ex[i]? with
     | none=>rw[z]at hx;cases hx
     | some n=>
      rw[z]at hx;cases hx;obtain⟨n0,i5⟩:=so.x n (YW z);refine⟨trivial,λ_=>⟨p,.int n,Aa.int,λb e=>⟨h.1,?_⟩⟩,λc=>by cases c⟩;rw[CI n0 i5]at e;rw[h.2,e,List.replicate_succ']
    .intro m hm;refine⟨m,List.replicate S.ex.length true,rfl,by rw [Af,h.2,Y2,gy],⟨λ_=>?_,λc=>?_⟩⟩
     .have s2:Ab H1 (upd Z m (.lst O)):=h.1.trans (Ab.new hm);refine⟨p,_,Aa.tup (s2 _ _ hE) (Ad.ev (Ev.same s2) _ _ rf),λb2 e2=>⟨λ_=>?_,λc2=>?_⟩⟩
      .refine⟨E,rfl,⟨_,Ae.of (s2 _ _ hE)⟩,B1 (xs:=xf) (λi zs H2=>Ab H1 H2/\zs=List.replicate i (V.bl true)) (by omega) ⟨s2,rfl⟩ (λi O Z h=>by rw [h.2,cN];omega) (λi O Z _ h=>Ae.of (h.1 _ _ hE)) (λi x zs H2 hx J=>?_) λzs H2 J=>?_⟩
       .obtain⟨f,hf,rd⟩:=Ad.mapGot rf hx;refine⟨⟨rfl,rfl,trivial⟩,λ_=>?_,λc=>by cases c⟩;refine⟨PA,_,0,.ref PB,rfl,rfl,Ae.of (J.1 _ _ pA),rfl,PB,xb,rfl,.inr (Ae.of (J.1 _ _ pB)),B,_,rfl,.inr (Ae.of (J.1 _ _ hB)),?_⟩;refine⟨p,f,P.bs.length,S.ex.length,so.f f (YW hf),by rw[lb],by rw[Y2],Aa.ev (Ev.same J.1) _ _ rd,λH3 s3=>⟨J.1.trans s3,?_⟩⟩;rw[J.2,List.replicate_succ']
       .intro m2 i6;refine⟨m2,List.replicate xf.length true,rfl,by rw [Af,J.2,gy],?_⟩;have ea:(List.replicate xf.length true).all id=true:=by simp
        rw[ea];exact q _ (s1.trans (J.1.trans (Ab.new i6)))
      .rw[Gf (by rw[Y2];omega) (by rw[Y2];omega)]at e2;rw[e2]at c2;cases c2
     .have ea:(List.replicate S.ex.length true).all id=true:=by simp
      rw[ea]at c;cases c
   .rw[Gf (by rw[Y2];omega) (by rw[Y2];omega)]at e1;rw[e1]at c1;cases c1
theorem Xa:Az ["plant","story"] ["plant","story"] (Ar wag):=AC
theorem Xb(F:Df K mg "need_story" wag ["plant","story"])(T:Tx mg)(y:Fn P w K mg base 7 "is_story" ["plant","thing"] JZ):Fn P w K mg base 8 "need_story" ["plant","story"] HF:=by
 refine F.fn Xa @OB λf dl A outer s H G Q E B h=>?_
 refine⟨_,(An (Bj (B9 (BM (zB y B (Aq (cy 0) (cy 1))))) (An KN) Bh)),?_⟩;obtain⟨v,u,rfl⟩:=By (OB h)
 .obtain⟨p,P,S,ok,so,r,ru,q⟩:=h;exact⟨p,P,S,ok,so,r,ru,λD s=>⟨λc=>(by cases c),λc=>q D s⟩⟩
theorem Xc:Az ["words","make"] ["words","make"] (Ar wak):=AC
theorem Xd(F:Df K mg "cap_under" wak ["words","make"])(T:Tx mg):Fn P w K mg base 1 "cap_under" ["words","make"] J0:=by
 refine F.fn Xc @OC λf dl A outer s H Z Q E O h=>?_
 refine⟨_,(Ak (Bj (A7 (DZ K) U' (cy 0) (by with_unfolding_all rfl)) (An (Ay R')) Bh) (Ak (Bj (A7 (DZ K) U' (cy 0) (by with_unfolding_all rfl)) (An (Ay (Ax GI (cy 1) R'))) Bh) (An (Ay (cy 1))))),?_⟩;obtain⟨J,G,rfl⟩:=By (OC h);cases J<;>try exact False.elim h
 cases G<;>try exact False.elim h
 rename_i a m
 .obtain⟨B,D,q⟩:=h;refine⟨a,_,rfl,.inl (Al.of D),rfl,GR,⟨λc=>?_,λc=>?_⟩⟩
  .rw [Y8 (by decide),GQ] at c;have e:BX B m=0:=by unfold BX;rw [YN c]
   rw[e]at q;exact q _ (Ab.refl _)
  .rw [Y8 (by decide),GQ] at c;refine⟨a,_,rfl,.inl (Al.of D),rfl,GR,⟨λy=>?_,λy=>?_⟩⟩
   .rw [Y8 (by decide),Jg] at y;have e:BX B m=m / 2:=by unfold BX;rw [Y8 (by rw [c];decide),YN y]
    rw[e]at q;exact⟨⟨by decide,by decide⟩,q _ (Ab.refl _)⟩
   .rw [Y8 (by decide),Jg] at y;have e:BX B m=m:=by unfold BX;rw [Y8 (by rw [c];decide),Y8 (by rw [y];decide)]
    rw[e]at q;exact q _ (Ab.refl _)
theorem Xe:Az ["faults","boiler","hour"] ["faults","boiler","hour"] (Ar waj):=AC
theorem Xf(F:Df K mg "words_for" waj ["faults","boiler","hour"])(T:Tx mg):Fn P w K mg base 1 "words_for" ["faults","boiler","hour"] J1:=by
 refine F.fn Xe @OD λf dl A outer s H vs Q E hr h=>?_
 refine⟨_,(An (Ay (Bd ["at","word","first","last","boiler","hour"] [none,none,none,none,some 1,some 2] rfl (BW K (cy 0)) (AI.of rfl) (λ_ _ _ _=>(AL K (n:=4) (Aj (zD 0) (Aj (zD 1) (Aj (zD 2) (Aj (zD 3) AJ)))))) (λ_ _ _ _=>(DU (PW.pt (GK (A7 Dq (cy 0) (cy 4) (AV _)) (Ih (RA DA DA (cy 2) (cy 5) (cy 3))))))) (λ_ _ _ _=>(cy 1))))),?_⟩;obtain⟨v,z1,z2,rfl⟩:=CG (OD h);cases z1<;>try exact False.elim h
 cases z2<;>try exact False.elim h
 rename_i b y
 .obtain⟨p,fs,r,hl,q⟩:=h;obtain⟨A,xs,rfl,hA,rs⟩:=Aa.shape r;have ln:=rs.len;rw[Y2]at ln;refine⟨A,rfl,⟨xs,Ae.of hA⟩,B1 (xs:=xs) (λi D B=>Ab H B/\D=(BC (fs.take i) b y).map wV) (by omega) ⟨Ab.refl _,rfl⟩ (λi D B h=>?_) (λi D B _ h=>Ae.of (h.1 _ _ hA)) (λi x D B hx h=>?_) λD B h=>?_⟩
  .rw[h.2,Y2];unfold BC;rw[Y2];exact YV (ZU _ _) (by rw[Zk];omega)
  .obtain⟨f,hf,rd⟩:=Ad.mapGot rs hx;obtain⟨l,zs,rfl,O,rz⟩:=Aa.shape (Aa.ev (Ev.same h.1) _ _ rd);obtain⟨y1,y2,y3,y4,rfl,r1,r2,r3,r4⟩:=Ad.four rz;unfold Aa at r1 r2 r3 r4;subst r1 r2 r3 r4;have nx:=Mf (b:=b) (h:=y) hf;have no:Ch b y f=false->Ab H B/\D=(BC (fs.take (i+1)) b y).map wV:=λe=>⟨h.1,by rw [nx,e,Y8 (by decide)];exact h.2⟩
   refine⟨l,_,rfl,Ae.of O,rfl,_,_,rfl,_,_,rfl,_,_,rfl,_,_,rfl,rfl,⟨rfl,rfl,trivial⟩,rfl,⟨λG=>⟨λZ=>⟨λJ=>?_,λJ=>no ?_⟩,λZ=>⟨λz=>(by cases z),λ_=>no ?_⟩⟩,λG=>⟨λz=>(by cases z),λ_=>no ?_⟩⟩⟩
   .have e:Ch b y f=true:=by
     rw[DS]at G;unfold Ch;rw[G,Z,J];rfl
    refine⟨h.1,?_⟩;rw[nx,YN e,YS,h.2];rfl
   .unfold Ch;rw[J,ba]
   .unfold Ch;rw[Z,ba,ZX]
   .rw[DS]at G;unfold Ch;rw[G,ZX,ZX]
  .intro m hm;refine q m _ (h.1.trans (Ab.new hm)) ?_;rw[Af,h.2,Z6 (by omega)]
theorem Xg:Az ["boilers","faults","hour"] ["boilers","faults","hour"] (Ar wai):=AC
theorem Xh(F:Df K mg "caps_in" wai ["boilers","faults","hour"])(T:Tx mg)(O:Fn P w K mg base 1 "cap_under" ["words","make"] J0)(J:Fn P w K mg base 1 "words_for" ["faults","boiler","hour"] J1):Fn P w K mg base 2 "caps_in" ["boilers","faults","hour"] J2:=by
 refine F.fn Xg @OE λf dl A outer s H vs Q E Z h=>?_
 refine⟨_,(An (Ay (BA (B3 K) rfl T.b_tuple BN (Ai (Bd ["at","make","coal","faults","hour"] [none,none,none,some 1,some 2] rfl (E7 P w K rfl T.b_enumerate (Ai (cy 0))) (AI.of rfl) (λ_ _ _ _=>(AL K (n:=2) (Aj (zD 0) (Aj (AL K (n:=2) (Aj (zD 1) (Aj (zD 2) AJ))) AJ)))) (λ_ _ _ _=>Bm) (λ_ _ _ _=>(zB O Z (Aq (zB J Z (AQ (cy 3) (cy 0) (cy 4))) (cy 1))))))))),?_⟩;obtain⟨v,u,z2,rfl⟩:=CG (OE h);cases z2<;>try exact False.elim h
 rename_i B
 .obtain⟨p,bs,fs,r,ru,lb,lf,q⟩:=h;obtain⟨A,xs,rfl,hA,rs⟩:=Aa.shape r;have ln:=rs.len;rw[Y2]at ln;refine⟨A,rfl,⟨xs,Ae.of hA⟩,walk_enum (xs:=xs) (λi D y=>Ab H y/\D=((CB bs fs B).take i).map V.int) (by omega) ⟨Ab.refl _,rfl⟩ (λi D y h=>by rw[h.2,Y2,Zk];omega) (λi D y h=>Ae.of (h.1 _ _ hA)) (λi x D y T hx h hT=>?_) λD y h=>?_⟩
  .obtain⟨f,hf,rd⟩:=Ad.mapGot rs hx;have s2:Ab H (upd y T (.tup [.int i,x])):=h.1.trans (Ab.new hT);obtain⟨l,zs,rfl,G,rz⟩:=Aa.shape (Aa.ev (Ev.same s2) _ _ rd);obtain⟨y1,y2,rfl,r1,r2⟩:=Ad.two rz;unfold Aa at r1 r2;subst r1 r2;refine⟨T,_,rfl,Ae.of Af,rfl,_,_,rfl,_,_,rfl,l,_,rfl,Ae.of G,rfl,_,_,rfl,_,_,rfl,rfl,rfl,⟨rfl,rfl,trivial⟩,λ_=>?_,λz=>by cases z⟩;refine⟨p,fs,Aa.ev (Ev.same s2) _ _ ru,lf,λa H3 s3 ha=>⟨_,ha,λH4 s4=>⟨s2.trans (s3.trans s4),?_⟩⟩⟩;rw[A8 (Jc hf),YS,h.2];rfl
  .intro m hm;refine⟨m,_,rfl,.inl ⟨Al.of Af,λt ht=>?_⟩⟩;refine q _ _ (h.1.trans ((Ab.new hm).trans (Ab.new ht))) (Aa.row ?_);rw[Af,h.2,Z6 (by rw[Jd];omega)]
theorem zas:Az ["plant","story","extra","faults"] ["plant","story"] (Ar wah):=AC
theorem Xi(F:Df K mg "caps_of" wah ["plant","story"])(T:Tx mg)(G:Fn P w K mg base 2 "caps_in" ["boilers","faults","hour"] J2)(J:Fn P w K mg base 8 "need_story" ["plant","story"] HF):Fn P w K mg base 9 "caps_of" ["plant","story"] J3:=by
 refine F.fn zas @OF λf dl A outer s H vs Q E O h=>?_
 refine⟨_,(Ak (Cv (zB J O (Aq (cy 0) (cy 1)))) (Ak (Bz (cy 1) (AL K (n:=2) (Aj (Ag 2 zas.nd) (Aj (Ag 3 zas.nd) AJ)))) (An (Ay (BA (B3 K) rfl T.b_tuple BN (Ai (Bd ["hour","faults","plant"] [none,some 3,some 0] rfl (B0 rfl T.b_range (Ai (AD (BV K) rfl T.b_len zH (Ai (cy 2))))) (AI.of rfl) (λ_ _ _ _=>(zD 0)) (λ_ _ _ _=>Bm) (λ_ _ _ _=>(zB G O (AQ (AH (A4 K) (cy 2) R' (λ_ _=>rfl)) (cy 1) (cy 0))))))))))),?_⟩;obtain⟨v,u,rfl⟩:=By (OF h)
 .obtain⟨p,P,S,ok,so,r,ru,q⟩:=h;refine⟨p,P,S,ok,so,r,ru,λH1 s1=>?_⟩;obtain⟨A,B,E,xf,rfl,hA,hB,hE,rf⟩:=Aa.story (Aa.ev (Ev.same s1) _ _ ru);obtain⟨PA,PB,PE,PM,xb,xe,rfl,pA,pB,rb,pE,re,pM⟩:=Aa.plant (Aa.ev (Ev.same s1) _ _ r);have x8:=so.x8;have f4:=so.f4;have b4:=ok.b4;refine⟨A,_,rfl,Ae.of hA,rfl,_,_,rfl,_,_,rfl,rfl,B,_,rfl,.inr (Ae.of hB),_,rfl,by omega,by rw[Y2];omega,EZ (n:=(S.ex.map V.int).length) (λi y D=>Ab H1 D/\Ad p D (((caps P S).take i).map AR) y) (by rw[Y2];omega) ⟨Ab.refl _,.nil⟩ (λi y D h=>by rw[<-h.2.len,Y2,Zk];omega) (λi y D hi h=>?_) λy D h=>?_⟩
  .rw[Y2]at hi;refine⟨⟨rfl,rfl,trivial⟩,λ_=>?_,λz=>by cases z⟩;refine⟨PA,_,0,.ref PB,rfl,rfl,Ae.of (h.1 _ _ pA),rfl,p,P.bs,S.fs,Aa.tup (h.1 _ _ pB) (Ad.ev (Ev.same h.1) _ _ rb),Aa.tup (h.1 _ _ hE) (Ad.ev (Ev.same h.1) _ _ rf),by omega,by omega,λv2 H2 s2 Z=>⟨h.1.trans s2,?_⟩⟩;rw[ZO]at Z;rw[A8 (Je hi),YS];exact Ad.snoc (Ad.ev (Ev.same s2) _ _ h.2) Z
  .intro m hm;refine⟨m,_,rfl,.inl ⟨Al.of Af,λt ht=>?_⟩⟩;have s3:=(Ab.new (o:= .lst y) hm).trans (Ab.new (o:= .tup y) ht);refine q _ _ (s1.trans (h.1.trans s3)) (Aa.tup Af ?_);have r3:=Ad.ev (Ev.same s3) _ _ h.2;rw[Z6 (by rw[E8,Y2];exact Y5 _)]at r3;exact r3
theorem zal:Az ["engine","hour","draw","first","every"] ["engine","hour"] (Ar wam):=AC
theorem Xj(F:Df K mg "drawn_by" wam ["engine","hour"])(T:Tx mg):Fn P w K mg base 1 "drawn_by" ["engine","hour"] J4:=by
 refine F.fn zal @OG λf dl A outer s H vs Q E hr h=>?_
 refine⟨_,(Ak (Bz (cy 0) (AL K (n:=3) (Aj (Ag 2 zal.nd) (Aj (Ag 3 zal.nd) (Aj (Ag 4 zal.nd) AJ))))) (Ak (Bj (PW.pt (FL (A7 Dz (cy 1) (cy 3) (AV _)) (FC (A7 FF (Ax E4 (Ax Cf (cy 1) (cy 3)) (cy 4)) R' (AV _))))) (An (Ay R')) Bh) (An (Ay (cy 2))))),?_⟩;obtain⟨v,Z,rfl⟩:=By (OG h);cases Z<;>try exact False.elim h
 rename_i y
 .obtain⟨p,e,r,e1,q⟩:=h;obtain⟨A,xs,rfl,O,rs⟩:=Aa.shape r;obtain⟨y1,y2,y3,rfl,D,G,J⟩:=Ad.three rs;unfold Aa at D G J;subst D G J;refine⟨A,_,rfl,Ae.of O,rfl,_,_,rfl,_,_,rfl,_,_,rfl,rfl,⟨λc=>⟨λ_=>?_,λz=>by cases z⟩,λc=>⟨by omega,rfl,⟨λB=>?_,λB=>?_⟩⟩⟩⟩
  .have z:drawn e y=0:=by unfold drawn;rw [YN (.inl (Z0 c))]
   rw[z]at q;exact q
  .have z:drawn e y=0:=by
    unfold drawn;exact YN (.inr λz=>Sd B (Zz V.int z))
   rw[z]at q;exact q
  .have z:drawn e y=e.1:=by
    unfold drawn;rw[Y8 ?_];rintro(z | z)
    .exact absurd (Z9 z) (by rw[c];decide)
    .apply z;have:V.int ((y-e.2.1) % e.2.2)=V.int 0:=by simpa using B
     injection this
   rw[z]at q;exact q
theorem zay:Az ["plant","story","engines"] ["plant","story"] (Ar wal):=AC
theorem Xk(F:Df K mg "draws_of" wal ["plant","story"])(T:Tx mg)(i0:Fn P w K mg base 1 "drawn_by" ["engine","hour"] J4)(i4:Fn P w K mg base 8 "need_story" ["plant","story"] HF):Fn P w K mg base 9 "draws_of" ["plant","story"] J5:=by
 refine F.fn zay @OH λf dl A outer s H vs Q E hr h=>?_
 refine⟨_,(Ak (Cv (zB i4 hr (Aq (cy 0) (cy 1)))) (Ak (zC 2 zay.nd (AH (A4 K) (cy 0) R' (λ_ _=>rfl))) (An (Ay (BA (B3 K) rfl T.b_tuple BN (Ai (Bd ["hour","units","engines"] [none,none,some 2] rfl (E7 P w K rfl T.b_enumerate (Ai (AH (A4 K) (cy 1) R' (λ_ _=>rfl)))) (AI.of rfl) (λ_ _ _ _=>(AL K (n:=2) (Aj (zD 0) (Aj (zD 1) AJ)))) (λ_ _ _ _=>Bm) (λ_ _ _ _=>(Ax A1 (cy 1) (AD (GP rfl) rfl T.b_sum cV (Ai (Bd ["engine","hour"] [none,some 0] rfl (BW K (cy 2)) (AI.of rfl) (λ_ _ _ _=>(zD 0)) (λ_ _ _ _=>Bm) (λ_ _ _ _=>(zB i0 hr (Aq (cy 0) (cy 1)))))))))))))))),?_⟩;obtain⟨v,u,rfl⟩:=By (OH h)
 .obtain⟨p,P,S,ok,so,r,ru,q⟩:=h;refine⟨p,P,S,ok,so,r,ru,λH1 s1=>?_⟩;obtain⟨A,B,E,xf,rfl,hA,hB,hE,rf⟩:=Aa.story (Aa.ev (Ev.same s1) _ _ ru);obtain⟨PA,PB,PE,PM,xb,xe,rfl,pA,pB,rb,pE,re,pM⟩:=Aa.plant (Aa.ev (Ev.same s1) _ _ r);have x8:=so.x8;have e4:=ok.e4;have le:=re.len;rw[Y2]at le;refine⟨PA,_,1,.ref PE,rfl,rfl,Ae.of pA,rfl,A,_,0,.ref B,rfl,rfl,Ae.of hA,rfl,B,rfl,⟨_,Ae.of hB⟩,walk_enum (xs:=S.ex.map V.int) (λi J D=>Ab H1 D/\J=((draws P S).take i).map V.int) (by rw[Y2];omega) ⟨Ab.refl _,rfl⟩ (λi J D h=>by rw[h.2,Y2,Zk];omega) (λi J D h=>Ae.of (h.1 _ _ hB)) (λi x J D T y h hT=>?_) λJ D h=>?_⟩
  .rw [YU] at y;cases z:S.ex[i]? with
   | none=>rw[z]at y;cases y
   | some n=>
    rw[z]at y;cases y;have s2:Ab H1 (upd D T (.tup [.int i,.int n])):=h.1.trans (Ab.new hT);refine⟨T,_,rfl,Ae.of Af,rfl,_,_,rfl,_,_,rfl,rfl,⟨rfl,trivial⟩,λ_=>?_,λz=>by cases z⟩;refine⟨PE,rfl,⟨xe,Ae.of (s2 _ _ pE)⟩,B1 (xs:=xe) (λj Z O=>Ab H1 O/\Z=((P.es.take j).map λe=>drawn e i).map V.int) (by omega) ⟨s2,rfl⟩ (λj Z O h=>by rw[h.2,Y2,Y2,Zk];omega) (λj Z O _ h=>Ae.of (h.1 _ _ pE)) (λj x Z O y G=>?_) λZ O G=>?_⟩
    .obtain⟨f,hf,rd⟩:=Ad.mapGot re y;refine⟨⟨rfl,trivial⟩,λ_=>⟨p,f,Aa.ev (Ev.same G.1) _ _ rd,(ok.e f (YW hf)).2.2.2.2.1,G.1,?_⟩,λz=>by cases z⟩;rw[A8 hf,YS,YS,G.2];rfl
    .intro m hm;refine⟨m,P.es.map λe=>drawn e i,rfl,?_,G.1.trans (Ab.new hm),?_⟩
     .rw[Af,G.2,Z6 (by omega)]
     .rw[A8 (Jf z),YS,h.2];rfl
  .intro m hm;refine⟨m,_,rfl,.inl ⟨Al.of Af,λt ht=>?_⟩⟩;refine q _ _ (s1.trans (h.1.trans ((Ab.new hm).trans (Ab.new ht)))) (Aa.row ?_);rw[Af,h.2,Z6 (by rw[Dh,Y2];omega)]
end
section
theorem OI:∀ {bs:List yQ},(∀d∈bs,GoodB d)->∃l:List (Int×Int),bs=l.map bD/\∀q∈l,1<=q.1/\q.1<=9/\1<=q.2/\q.2<=9
 | [],_=>⟨[],rfl,λ_ h=>nomatch h⟩
 | d::ds,h=>by
  obtain⟨l,e,g⟩:=OI λx K=>h x (YQ _ K)
  obtain⟨m,c,rfl,G,J,B,D⟩:=h d YR;refine⟨(m,c)::l,by rw[e];rfl,λq y=>?_⟩;rcases YY.mp y with rfl | y
  .exact⟨G,J,B,D⟩
  .exact g q y
theorem OJ:∀ {es:List yQ},(∀d∈es,GoodE d)->∃l:List (Int×Int×Int),es=l.map eD/\∀q∈l,1<=q.1/\q.1<=9/\0<=q.2.1/\q.2.1<=7/\1<=q.2.2/\q.2.2<=8
 | [],_=>⟨[],rfl,λ_ h=>nomatch h⟩
 | d::ds,h=>by
  obtain⟨l,e,g⟩:=OJ λx Z=>h x (YQ _ Z)
  obtain⟨m,c,k,rfl,K,O,B,G,D,J⟩:=h d YR;refine⟨(m,c,k)::l,by rw[e];rfl,λq y=>?_⟩;rcases YY.mp y with rfl | y
  .exact⟨K,O,B,G,D,J⟩
  .exact g q y
theorem GoodP.pl{bs es:List yQ}{lo hi st:Int}(g:GoodP bs es lo hi st):∃P:PL,P.ok/\Ow bs es lo hi st=P.d:=by
 obtain⟨B,rfl,D⟩:=OI g.b;obtain⟨le,rfl,y⟩:=OJ g.e;have b1:=g.b1;have b4:=g.b4;have e4:=g.e4;rw[Y2]at b1 b4 e4;exact⟨⟨B,le,lo,hi,st⟩,⟨D,b1,b4,y,e4,g.lo0,g.ls,g.sh,g.h4⟩,rfl⟩
theorem OK(r:yV):CH (AR r)=true:=by
 unfold CH;exact HD λd hd=>by
  obtain⟨i,_,rfl⟩:=Zj.mp hd
  rfl
theorem Xl(k:Bool):0<(1:Int)+(if k=true then 1 else 0)/\(1:Int)+(if k=true then 1 else 0)<1073741824:=by cases k<;>decide
def GoodF(n h:Nat)(d:yQ):Prop:=∃x:FT,d=x.d/\x.ok n h
theorem GoodF.nm{n h:Nat}{d:yQ}(g:GoodF n h d):CH d=true:=by obtain⟨x,rfl,_⟩:=g;rfl
theorem OL{n h:Nat}:∀ {es:List yQ},(∀d∈es,GoodF n h d)->∃l:List FT,es=l.map FT.d/\∀q∈l,q.ok n h
 | [],_=>⟨[],rfl,λ_ h=>nomatch h⟩
 | d::ds,hh=>by
  obtain⟨l,e,g⟩:=OL λx D=>hh x (YQ _ D)
  obtain⟨x,rfl,B⟩:=hh d YR;refine⟨x::l,by rw[e];rfl,λq y=>?_⟩;rcases YY.mp y with rfl | y
  .exact B
  .exact g q y
def HG:Sp:=λB H Q _=>match B with | [.ref p,v,.int m]=>A6 p H/\1<=m/\m<=8/\∃P,PL.ok P/\Aa p H P.d v/\∀u y S,SY.ok S P.bs.length->Aa p y S.d u->Ev p H y->A6 p y->Q u y | _=>False
def OM:Sp:=λy H Q _=>match y with | [v,u]=>∃p P S,PL.ok P/\SY.ok S P.bs.length/\Aa p H P.d v/\Aa p H S.d u/\ret H Q p (Me P S) | _=>False
def ON:Sp:=λy H Q _=>match y with | [v,u]=>∃p P S,PL.ok P/\SY.ok S P.bs.length/\Aa p H P.d v/\Aa p H S.d u/\ret H Q p (Jb P S) | _=>False
theorem OO{vs H Q E}(h:HG vs H Q E):vs.length=3:=by rcases vs with _ | ⟨B,_ | ⟨_,_ | ⟨y,_ | _⟩⟩⟩<;>first | rfl | cases h | skip;all_goals (cases B<;>first | cases h | skip);all_goals (cases y<;>first | cases h | skip)
theorem OP{vs H Q E}(h:OM vs H Q E):vs.length=2:=by rcases vs with _ | ⟨_,_ | ⟨_,_ | _⟩⟩<;>first | rfl | cases h
theorem OQ{vs H Q E}(h:ON vs H Q E):vs.length=2:=by rcases vs with _ | ⟨_,_ | ⟨_,_ | _⟩⟩<;>first | rfl | cases h
variable{P:yP}{w:yN}{K:Fgx}{mg:Str -> yW}{base:Heap}
theorem za5:Az ["_law_pen_here","_law_plant_here","_law_most","_law_hours","_law_total","_law_wide","_law_extra","_law_faults","_law_turn","_law_first","_law_last"] ["_law_pen_here","_law_plant_here","_law_most"] (Ar waI):=AC
theorem Xm(F:Df K mg "_law_story" waI ["_law_pen_here","_law_plant_here","_law_most"])(T:Tx mg)(y:HC P w K mg base):Fn P w K mg base 2 "_law_story" ["_law_pen_here","_law_plant_here","_law_most"] HG:=by
 refine F.fn za5 @OO λf dl A outer s H vs Q E hr h=>?_
 refine⟨_,(Ak (KR (i:=3) (j:=4) rfl za5.nd rfl rfl (by decide) rfl rfl (Aq (Ax A1 R' (zB y hr (Aq (cy 0) (cy 2)))) (AD (GP rfl) rfl T.b_sum cV (Ai (Bd ["_law_make","_law_coal"] [none,none] rfl (BW K (AH (A4 K) (cy 1) R' (λ_ _=>rfl))) (AI.of rfl) (λ_ _ _ _=>(AL K (n:=2) (Aj (zD 0) (Aj (zD 1) AJ)))) (λ_ _ _ _=>Bm) (λ_ _ _ _=>(cy 0)))))) (by rfl)) (Ak (zC 5 za5.nd (AH (BO K) (BU (C6 R' (Ax A1 R' (Ax GI (cy 4) R')) (Ax A1 R' (cy 4)) R')) (zB y hr (Aq (cy 0) R')) (λ_ _=>rfl))) (Ak (zC 6 za5.nd (BA (B3 K) rfl T.b_tuple BN (Ai (Bd ["_law_hour","_law_pen_here","_law_wide"] [none,some 0,some 5] rfl (B0 rfl T.b_range (Ai (cy 3))) (AI.of rfl) (λ_ _ _ _=>(zD 0)) (λ_ _ _ _=>Bm) (λ_ _ _ _=>(zB y hr (Aq (cy 1) (AD (Gq rfl) rfl T.b_min gj (Aq R' (cy 2)))))))))) (Ak (zC 7 za5.nd (BU pa_nil)) (Ak (Bl Z8 rfl (B0 rfl T.b_range (Ai (AH (BO K) (BU (C6 R' R' R' (zB y hr (Aq (cy 0) R')))) (zB y hr (Aq (cy 0) R')) (λ_ _=>rfl)))) (Ag 8 za5.nd) (Ak (zC 9 za5.nd (zB y hr (Aq (cy 0) (cy 3)))) (Ak (zC 10 za5.nd (Ax A1 (cy 9) (zB y hr (Aq (cy 0) (Ax Cf (cy 3) (cy 9)))))) (An (Cv (C4 zE zF zG Dv (cy 7) (Ai (BT (C6 (zB y hr (Aq (cy 0) (AD (BV K) rfl T.b_len zH (Ai (AH (A4 K) (cy 1) R' (λ_ _=>rfl)))))) (AH (BO K) (BU (Aq U' U')) (zB y hr (Aq (cy 0) R')) (λ_ _=>rfl)) (cy 9) (cy 10)))))))))) (An (Ay (BT (Aq (cy 6) (BA (B3 K) rfl T.b_tuple BN (Ai (cy 7)))))))))))),?_⟩;obtain⟨z0,v,z2,rfl⟩:=CG (OO h);cases z0<;>try exact False.elim h
 cases z2<;>try exact False.elim h
 rename_i p m
 .obtain⟨pn,m1,m8,P,ok,r,q⟩:=h;have b1:=ok.b1;have b4:=ok.b4;refine⟨pn,by omega,by omega,λg1 H1 a1 c1 e1 v3=>?_⟩;obtain⟨PA,PB,PE,PM,xb,xe,rfl,pA,pB,rb,pE,re,pM⟩:=Aa.plant (Aa.ev e1 _ _ r);have lb:=rb.len;rw[Y2]at lb;refine⟨PA,_,0,.ref PB,rfl,rfl,Ae.of pA,rfl,PB,rfl,⟨xb,Ae.of pB⟩,B1 (xs:=xb) (λi B H'=>Ab H1 H'/\B=((P.bs.map (·.1)).take i).map V.int) (by omega) ⟨Ab.refl _,rfl⟩ (λi B H' h=>by rw[h.2,Y2,Zk];omega) (λi B H' _ h=>Ae.of (h.1 _ _ pB)) (λi x B H' hx h=>?_) λB H2 h=>?_⟩
  .obtain⟨f,hf,rd⟩:=Ad.mapGot rb hx;obtain⟨l,zs,rfl,v4,rz⟩:=Aa.shape (Aa.ev (Ev.same h.1) _ _ rd);obtain⟨y1,y2,rfl,r1,r2⟩:=Ad.two rz;unfold Aa at r1 r2;subst r1 r2;refine⟨l,_,rfl,Ae.of v4,rfl,_,_,rfl,_,_,rfl,rfl,trivial,λ_=>⟨h.1,?_⟩,λz=>by cases z⟩;have w9:(P.bs.map (·.1))[i]? =some f.1:=by rw [YU,hf];rfl
   rw[A8 w9,YS,h.2];rfl
  intro lm t9;have eT:0<=(P.bs.map (·.1)).sum/\(P.bs.map (·.1)).sum<=9 *(P.bs.map (·.1)).length:=Mi λi hi=>by
   obtain⟨qq,hqq,rfl⟩:=Zj.mp hi;have:=ok.b qq hqq;omega
  rw[Y2]at eT;have n1:=Ab.new (o:= .lst B) t9;refine⟨lm,P.bs.map (·.1),rfl,?_,_,_,rfl,⟨by decide,by decide⟩,λl1 i4=>?_⟩
  .rw[Af,h.2,Z6 (by rw[Y2];omega)]
  have e2:Ev p H (upd H2 lm (.lst B)):=e1.trans (Ev.same (h.1.trans n1));have j0:A6 p (upd H2 lm (.lst B)):=v3.same (h.1.trans n1);generalize upd H2 lm (.lst B)=H3 at i4 e2 j0 ⊢;generalize(P.bs.map (·.1)).sum=T at eT;refine⟨j0.new i4,by decide,by decide,λg2 H4 a4 c4 e4 o8=>?_⟩;obtain⟨Z,r8,w6⟩:=Ei (ns:=[1,1+T / 2,1+T,21]) a4 (by simpa using c4);have hwd':Z=1\/Z=1+T / 2\/Z=1+T\/Z=21:=by simpa using r8
  have w1:1<=Z:=by omega
  refine⟨l1,_,g2,.int Z,rfl,rfl,Al.of (e4.lst Af (j0.ne i4)),w6,?_⟩;have eA:Ev p H H4:=e2.trans ((Ev.new i4).trans e4);refine⟨_,rfl,by omega,by omega,EZ (n:=(1+g1).toNat) (λi B H5=>Ev p H4 H5/\A6 p H5/\∃ns:yV,B=ns.map V.int/\ns.length=i/\∀u∈ns,0<=u/\u<=20) (by omega) ⟨Ev.refl,o8,[],rfl,rfl,(λ_ h=>nomatch h)⟩ (λi B H5 h=>?_) (λi B H5 hi h=>?_) λB H5 h=>?_⟩
  .obtain⟨_,_,ns,rfl,hn,_⟩:=h;rw[Y2];omega
  .obtain⟨e5,j4,ns,rfl,hn,hu⟩:=h;refine⟨⟨rfl,rfl,trivial⟩,λ_=>⟨21,Z,rfl,j4,by split<;>omega,by split<;>omega,λg6 H6 a6 c6 e6 J=>⟨e5.trans e6,J,ns++[g6],by rw [YS];rfl,by rw [Zb,hn];rfl,λu v8=>?_⟩⟩,λz=>by cases z⟩;rcases ZS.mp v8 with h | h
   .exact hu u h
   .rw [Z3.mp h];have:(if Z<21 then Z else 21)<=21:=by split<;>omega
    omega
  obtain⟨e5,j4,ns,rfl,hn,hu⟩:=h;intro l2 hl2;refine⟨l2,_,rfl,.inl ⟨Al.of Af,λt1 u9 b O=>?_⟩⟩;have n2:=Ab.new (o:= .lst (ns.map V.int)) hl2;have n3:=Ab.new (o:= .tup (ns.map V.int)) u9;have kt:=Af (H:=upd H5 l2 (.lst (ns.map V.int))) (a:=t1) (o:= .tup (ns.map V.int));have e6:Ev p H (upd (upd H5 l2 (.lst (ns.map V.int))) t1 (.tup (ns.map V.int))):=(eA.trans e5).trans (Ev.same (n2.trans n3));have J:=j4.same (n2.trans n3);generalize upd (upd H5 l2 (.lst (ns.map V.int))) t1 (.tup (ns.map V.int))=H6 at O kt e6 J n3 ⊢;have nb:b≠p:=J.ne O;have hbH:H b=none:=by
   cases z:H b with
   | none=>rfl
   | some o=>exact((e6 b o z).elim (fun⟨x,_⟩=>absurd x nb) λx=>by rw[x]at O;cases O)
  refine⟨J.new O,by decide,by decide,λg7 H7 a7 c7 e7 o7 l3 j3=>⟨o7.new j3,by decide,by decide,λg8 H8 a8 c8 e8 q9=>?_⟩⟩;obtain⟨tn,htn,l7⟩:=Ei (ns:=[0,0,1,g7]) a8 (by simpa using c8);have htn':tn=0\/tn=0\/tn=1\/tn=g7:=by simpa using htn
  have i9:Ev p (upd H6 b (.lst [])) H8:=e7.trans ((Ev.new j3).trans e8);refine⟨l3,_,g8,.int tn,rfl,rfl,Al.of (e8.lst Af (o7.ne j3)),l7,tn,rfl,by omega,by omega,CY (n:=tn.toNat) (λi σ H9=>∃t f l,σ=[some (.ref p),some (.ref PA),some (.int m),some (.int (1+g1)),some (.int T),some (.int Z),some (.ref t1),some (.ref b),t,f,l]/\Ev p H6 (upd H9 b (.lst []))/\Filled (GoodF P.bs.length (1+g1).toNat) p b H H9 i)
   ⟨_,_,_,rfl,?_,(e6.trans (Ev.new O)).trans i9,q9,[],[],i9.lst Af nb,.nil,(λ_ h=>nomatch h),rfl⟩ (λi σ H9 hi hP=>?_) fun σ H9 hP=>?_⟩
  .exact((Ev.new O).trans i9).own O
  .obtain⟨t,f,l,rfl,i6,ev,j9,xs,ds,hx,rs,gd,hl⟩:=hP;refine⟨j9,by omega,by omega,λf1 K5 a5 c5 v6 l6=>⟨l6,by omega,by omega,λf2 K6 a6 c6 e6' j7=>?_⟩⟩;have i8:Ev p H9 K6:=v6.trans e6';obtain⟨PA',l9,PE',PM',xb',xe',w8,u7,u6,rb',pE',re',pM'⟩:=Aa.plant (Aa.ev (ev.trans i8) _ _ r);cases w8;have lb':=rb'.len;rw[Y2]at lb';refine⟨.inl ⟨rfl,_,Al.of (i8.lst hx nb)⟩,PA,_,0,.ref l9,rfl,rfl,Ae.of u7,rfl,l9,xb',rfl,.inr (Ae.of u6),j7,by omega,by omega,λf3 K7 w5 c7' e7' i5 l2' G=>⟨i5.new G,by decide,by decide,λg4 K8 a8' c8' j6 j8=>?_⟩⟩;have hw:∃bb:Bool,BD [V.str "out",.str "scaled"] g4=some (wV bb):=by
    have:g4=0\/g4=1:=by omega
    rcases this with rfl | rfl
    .exact⟨true,rfl⟩
    .exact⟨false,rfl⟩
   obtain⟨bb,hw⟩:=hw;refine⟨l2',_,g4,wV bb,rfl,rfl,Al.of (j6.lst Af (i5.ne G)),hw,λu0 D=>?_⟩;have i0:Ev p H9 K8:=i8.trans (e7'.trans ((Ev.new G).trans j6));have n9:=i0.lst hx nb;refine⟨b,xs,.ref u0,rfl,rfl,by rw[Ao (Bg n9 D)];exact n9,Ej (by rw[<-rs.len,hl];omega),_,_,_,rfl,?_,?_⟩
   .intro c o hc
    by_cases z:c=b
    .subst z;rw[O]at hc;cases hc
    .rcases i6 c o hc with w' | w'
     .exact .inl w'
     .rw [Ao z] at w';rcases(i0.trans (Ev.new (o:= .tup [.int f3,wV bb,.int f1,.int (f1+f2)]) D)) c o w' with i7 | i7
      .exact .inl i7
      .right
       rw[Ao z,Ao z];exact i7
   .exact Filled.step (λd h=>h.nm) hx rs gd hl i0 nb hbH (ev.trans i0) j8 D (Aa.tup Af (.cons Aa.int (.cons Aa.str (.cons Aa.int (.cons Aa.int .nil))))) ⟨⟨f3,bb,f1,f1+f2⟩,rfl,⟨w5,by show f3<_;omega,a5,by show f1<=f1+f2;omega,by show f1+f2<_;omega⟩⟩
  .obtain⟨t,f,l,rfl,i6,fb⟩:=hP;have kt9:H9 t1=some (.tup (ns.map V.int)):=by
    have z:=i6.tup kt;rw[Ao (Bg kt O)]at z;exact z
   obtain⟨xs,fs,x0,v7,gf,lf⟩:=fb.done nb Ev.refl;refine⟨b,xs,rfl,.inl ⟨Al.of x0,λt2 o9 t3 j5=>?_⟩⟩;obtain⟨lF,rfl,gl⟩:=OL gf;rw[Y2]at lf;have s5:=(Ab.new (o:= .tup xs) o9).trans (Ab.new (o:= .tup [.ref t1,.ref t2]) j5);refine q _ _ ⟨ns,lF⟩ ⟨by show 1<=ns.length;omega,by show ns.length<=8;omega,hu,by show lF.length<=4;omega,λx hx=>?_⟩ ?_ (fb.ev.trans (Ev.same s5)) (fb.pen.same s5)
   .show x.ok _ ns.length;rw[hn];exact gl x hx
   .exact Aa.tup Af (.cons (Aa.row (s5 _ _ kt9)) (.cons (Aa.tup ((Ab.new j5) _ _ Af) (Ad.ev (Ev.same s5) _ _ v7)) .nil))
theorem za6:Az ["_law_plant_here","_law_story_here","_law_rows","_law_hour","_law_row","_law_boiler","_law_make","_law_coal","_law_words"] ["_law_plant_here","_law_story_here"] (Ar waJ):=AC
abbrev HH(P:yP)(w:yN)(K:Fgx)(mg:Str->yW)(base:Heap):Prop:=Fn P w K mg base 1 "_law_caps" ["_law_plant_here","_law_story_here"] OM
theorem Xn(F:Df K mg "_law_caps" waJ ["_law_plant_here","_law_story_here"])(T:Tx mg):HH P w K mg base:=by
 refine F.fn za6 @OP λf dl A outer s H vs Q E hr h=>?_
 refine⟨_,(Ak (zC 2 za6.nd (BU pa_nil)) (Ak (Bl Z8 rfl (B0 rfl T.b_range (Ai (AD (BV K) rfl T.b_len zH (Ai (AH (A4 K) (cy 1) R' (λ_ _=>rfl)))))) (Ag 3 za6.nd) (Ak (zC 4 za6.nd (BU pa_nil)) (Ak (Bl Z8 rfl (E7 P w K rfl T.b_enumerate (Ai (AH (A4 K) (cy 0) R' (λ_ _=>rfl)))) (AL K (n:=2) (Aj (Ag 5 za6.nd) (Aj (AL K (n:=2) (Aj (Ag 6 za6.nd) (Aj (Ag 7 za6.nd) AJ))) AJ))) (Ak (LM (i:=8) ["_law_one","_law_word","_law_first","_law_last","_law_boiler","_law_hour"] [none,none,none,none,some 5,some 3] za6.nd rfl (AA (by rfl)) rfl (BW K (AH (A4 K) (cy 1) R' (λ_ _=>rfl))) (AI.of rfl) (λ_ _ _ _=>(AL K (n:=4) (Aj (zD 0) (Aj (zD 1) (Aj (zD 2) (Aj (zD 3) AJ)))))) (λ_ _ _ _=>(DU (PW.pt (GK (A7 Dq (cy 0) (cy 4) (AV _)) (GK (A7 DA (cy 2) (cy 5) (AV _)) (Ih (A7 DA (cy 5) (cy 3) (AV _)))))))) (λ_ _ _ _=>(cy 1))) (An (Cv (C4 zE zF zG Dv (cy 4) (Ai (DY (A7 (DZ K) U' (cy 8) (by with_unfolding_all rfl)) R' (Ax GI (cy 6) (Ax A1 R' (BA Iv rfl T.b_int L2.boot_int (Ai (Cw (DZ K) U' (cy 8) (by with_unfolding_all rfl))))))))))))) (An (Cv (C4 zE zF zG Dv (cy 2) (Ai (BA (B3 K) rfl T.b_tuple BN (Ai (cy 4)))))))))) (An (Ay (BA (B3 K) rfl T.b_tuple BN (Ai (cy 2))))))),?_⟩;obtain⟨v,u,rfl⟩:=By (OP h)
 .obtain⟨p,P,S,ok,so,r,ru,q⟩:=h;obtain⟨A,B,E,xf,rfl,hA,hB,hE,rf⟩:=Aa.story ru;obtain⟨PA,PB,PE,PM,xb,xe,rfl,pA,pB,rb,pE,re,pM⟩:=Aa.plant r;have x8:=so.x8;have f4:=so.f4;have b4:=ok.b4;have lb:=rb.len;rw[Y2]at lb;have lf:=rf.len;rw[Y2]at lf;intro R hR;have s0:Ab H (upd H R (.lst [])):=Ab.new hR;refine⟨A,_,0,.ref B,rfl,rfl,Ae.of (s0 _ _ hA),rfl,B,_,rfl,.inr (Ae.of (s0 _ _ hB)),_,rfl,by omega,by rw[Y2];omega,CY (n:=(S.ex.map V.int).length) (λi σ J=>(∃x3 x4 x5 x6 x7 x8,σ=[some (.ref PA),some (.ref A),some (.ref R),x3,x4,x5,x6,x7,x8])/\Ab H J/\∃xs,J R=some (.lst xs)/\Ad p J (((caps P S).take i).map AR) xs)
   ⟨⟨_,_,_,_,_,_,rfl⟩,s0,[],Af,.nil⟩ (λi σ J hi hP=>?_) fun σ J hP=>?_⟩
  .obtain⟨⟨x3,x4,x5,x6,x7,i9,rfl⟩,s1,xs,O,y⟩:=hP;rw[Y2]at hi;have lx:=y.len;rw[Y2,Zk]at lx;intro b hb;have sb:Ab J (upd J b (.lst [])):=Ab.new hb;refine⟨PA,_,0,.ref PB,rfl,rfl,Ae.of (sb _ _ (s1 _ _ pA)),rfl,PB,rfl,⟨xb,Ae.of (sb _ _ (s1 _ _ pB))⟩,for_enum (xs:=xb) (λj σ G=>(∃y5 y6 y7 y8,σ=[some (.ref PA),some (.ref A),some (.ref R),some (.int (0+i)),some (.ref b),y5,y6,y7,y8])/\Ab J G/\G b=some (.lst (((CB P.bs S.fs i).take j).map V.int)))
    ⟨⟨_,_,_,_,rfl⟩,sb,Af⟩ (λj σ G h=>Ae.of (h.2.1 _ _ (s1 _ _ pB))) (λj x σ G T hx h hT=>?_) fun σ G h=>?_⟩
   .obtain⟨⟨y5,y6,y7,y8,rfl⟩,s2,Z⟩:=h;obtain⟨f,hf,rd⟩:=Ad.mapGot rb hx;have hj:j<xb.length:=(Y9.mp hx).1;have s3:Ab J (upd G T (.tup [.int j,x])):=s2.trans (Ab.new hT);have D:Ab H (upd G T (.tup [.int j,x])):=s1.trans s3;obtain⟨l,zs,rfl,i7,rz⟩:=Aa.shape (Aa.ev (Ev.same D) _ _ rd);obtain⟨z1,z2,rfl,r1,r2⟩:=Ad.two rz;unfold Aa at r1 r2;subst r1 r2;refine⟨T,_,rfl,Ae.of Af,rfl,_,_,rfl,_,_,rfl,l,_,rfl,Ae.of i7,rfl,_,_,rfl,_,_,rfl,rfl,rfl,?_⟩;refine⟨A,_,1,.ref E,rfl,rfl,Ae.of (D _ _ hA),rfl,E,rfl,⟨xf,Ae.of (D _ _ hE)⟩,B1 (xs:=xf) (λk ys H3=>Ab (upd G T (.tup [.int j,.ref l])) H3/\ys=(BC (S.fs.take k) j i).map wV) (by omega) ⟨Ab.refl _,rfl⟩ (λk ys H' h=>?_) (λk ys H' _ h=>Ae.of (h.1 _ _ (D _ _ hE))) (λk x ys H' hx h=>?_) λys H3 h=>?_⟩
    .rw[h.2,Y2];unfold BC;rw[Y2];exact YV (ZU _ _) (by rw[Zk];omega)
    .obtain⟨g,hg,rg⟩:=Ad.mapGot rf hx;obtain⟨l2,j0,rfl,i8,i6⟩:=Aa.shape (Aa.ev (Ev.same (D.trans h.1)) _ _ rg);obtain⟨w1,w2,w3,w4,rfl,r1,r2,r3,r4⟩:=Ad.four i6;unfold Aa at r1 r2 r3 r4;subst r1 r2 r3 r4;have nx:=Mf (b:=j) (h:=i) hg;have no:Ch j i g=false->Ab (upd G T (.tup [.int j,.ref l])) H'/\ys=(BC (S.fs.take (k+1)) j i).map wV:=λe=>⟨h.1,by rw [nx,e,Y8 (by decide)];exact h.2⟩
     refine⟨l2,_,rfl,Ae.of i8,rfl,_,_,rfl,_,_,rfl,_,_,rfl,_,_,rfl,rfl,⟨rfl,rfl,trivial⟩,rfl,⟨λc1=>⟨λc2=>⟨λc3=>?_,λc3=>no ?_⟩,λc2=>⟨λz=>(by cases z),λ_=>no ?_⟩⟩,λc1=>⟨λz=>(by cases z),λ_=>no ?_⟩⟩⟩
     .have e:Ch j i g=true:=by
       rw[DS]at c1;rw[ZO]at c2 c3;unfold Ch;rw[c1,c2,c3];rfl
      refine⟨h.1,?_⟩;rw[nx,YN e,YS,h.2];rfl
     .rw[ZO]at c3;unfold Ch;rw[c3,ba]
     .rw[ZO]at c2;unfold Ch;rw[c2,ba,ZX]
     .rw[DS]at c1;unfold Ch;rw[c1,ZX,ZX]
    .intro m hm;have ew:ys=(BC S.fs j i).map wV:=by rw [h.2,Z6 (by omega)]
     subst ew;have s4:Ab G (upd H3 m (.lst ((BC S.fs j i).map wV))):=(Ab.new hT).trans (h.1.trans (Ab.new hm));have i4:=s4 _ _ Z;have i0:(((CB P.bs S.fs i).take j).map V.int).length<sizeLine:=Ej (by rw[Y2,Zk];omega);refine⟨.inl ⟨rfl,_,Al.of i4⟩,m,_,rfl,.inl (Al.of Af),rfl,GR,⟨λc=>?_,λc=>?_⟩⟩
     .rw [Y8 (by decide),GQ] at c;refine⟨b,_,.int 0,rfl,rfl,i4,i0,⟨_,_,_,_,rfl⟩,Ab.own (s2.trans s4) hb,?_⟩;have e:BX (BC S.fs j i) f.1=0:=by unfold BX;rw [YN c]
      rw[Af,A8 (Jc hf),YS,e];rfl
     .rw [Y8 (by decide),GQ] at c;refine⟨m,_,rfl,.inl (Al.of Af),rfl,GR,.inr ⟨_,rfl,?_⟩⟩;have ek:(if (false=true) then !BL (V.str "scaled") ((BC S.fs j i).map wV) else BL (V.str "scaled") ((BC S.fs j i).map wV))=(BC S.fs j i).any (!·):=by rw [Y8 (by decide)];exact Jg
      have e:=Sk (m:=f.1) c;refine⟨Xl _,b,_,.int (BX (BC S.fs j i) f.1),rfl,Zz (λz=>[V.int z]) ((Zz (fun(k:Bool)=>f.1 /(1+if k=true then 1 else 0)) ek).trans e),i4,i0,⟨_,_,_,_,rfl⟩,Ab.own (s2.trans s4) hb,?_⟩;rw[Af,A8 (Jc hf),YS];rfl
   .obtain⟨⟨y5,y6,y7,y8,rfl⟩,s2,Z⟩:=h;rw[Z6 (by rw[Jd];omega)]at Z;refine⟨.inl ⟨rfl,_,Al.of (s2 _ _ O)⟩,b,_,rfl,.inl ⟨Al.of Z,λt ht=>?_⟩⟩;have s3:Ab J (upd G t (.tup ((CB P.bs S.fs i).map V.int))):=s2.trans (Ab.new ht);have i5:=s3 _ _ O;refine⟨R,xs,.ref t,rfl,rfl,i5,Ej (by omega),⟨_,_,_,_,_,_,rfl⟩,Ab.own (s1.trans s3) hR,_,Af,?_⟩;have tv:=TEv.upd (zs:=xs++[.ref t]) i5;rw[A8 (Je hi),YS];refine Ad.snoc (Ad.tev ((Ev.same (p:=p) s3).tev.trans tv) _ _ (HD λd hd=>?_) y) (Aa.tev tv _ _ (OK _) (Aa.row (p:=p) Af));obtain⟨rr,_,rfl⟩:=Zj.mp hd;exact OK rr
  .obtain⟨⟨x3,x4,x5,x6,x7,i9,rfl⟩,s1,xs,O,y⟩:=hP;refine⟨R,xs,rfl,.inl ⟨Al.of O,λt ht=>q _ _ (s1.trans (Ab.new ht)) (Aa.tup Af ?_)⟩⟩;rw[Z6 (by rw[E8,Y2];exact Y5 _)]at y;exact Ad.ev (Ev.new ht) _ _ y
end
section
variable{p:yR}{H:Hp}{v:V}
theorem Aa.terms{T:TM}(r:Aa p H T.d v):∃A C B D M G,v= .ref A/\H A=some (.tup [.ref C,.ref B,.ref D,.ref M])/\H C=some (.tup G)/\Ad p H (T.cs.map AR) G/\H B=some (.tup (T.co.map V.int))/\H D=some (.tup (T.ds.map V.int))/\H M=some (.tup [.int T.lo,.int T.hi,.int T.st]):=by
 unfold TM.d at r;obtain⟨A,xs,rfl,hA,rs⟩:=Aa.shape r;obtain⟨x,y,z,w,rfl,rx,ry,rz,rw⟩:=Ad.four rs;obtain⟨C,G,rfl,hC,rc⟩:=Aa.shape rx;obtain⟨B,xb,rfl,O,rb⟩:=Aa.shape ry;obtain⟨D,xd,rfl,Z,rd⟩:=Aa.shape rz;obtain⟨M,xm,rfl,hM,rm⟩:=Aa.shape rw;obtain⟨m1,m2,m3,rfl,J,K,r3⟩:=Ad.three rm;unfold Aa at J K r3;subst J K r3;rw[Ad.ints rb]at O;rw[Ad.ints rd]at Z;exact⟨A,C,B,D,M,G,rfl,hA,hC,rc,O,Z,hM⟩
theorem Aa.ofRow'{r:yV}(h:Aa p H (AR r) v):∃A,v= .ref A/\H A=some (.tup (r.map V.int)):=by
 obtain⟨A,D,rfl,y,B⟩:=Aa.shape h;rw[Ad.ints B]at y;exact⟨A,rfl,y⟩
theorem OR{d:yQ}{lo hi:Int}(h:Bc d lo hi=true):∃ds,d= .tuple ds/\lo<=(ds.length:Int)/\(ds.length:Int)<=hi:=by
 cases d with
 | tuple ds=>
  unfold Bc at h;obtain⟨B,y⟩:=Zg.mp h;exact⟨ds,rfl,Z0 B,Z0 y⟩
 | _=>cases h
def Xo(n:Int)(d:yQ):Bool:=Bc d n n &&(match d with | .tuple es=>es.all T4 | _=>false)
theorem OS{ns:yV}{i:Nat}(h:i<ns.length):BD (ns.map V.int) (i:Int)=some (.int (ns.getD i 0)):=by
 refine Dt ?_;rw[YU,Y6 h,Y3,Y6 h];rfl
def HI:Sp:=λy H Q _=>match y with | [v,u]=>∃p P S,PL.ok P/\SY.ok S P.bs.length/\Aa p H P.d v/\Aa p H S.d u/\ret H Q p (terms P S).d | _=>False
def sp_is_counts:Sp:=λB H Q _=>match B with | [x,.int m]=>∃p d,Aa p H d x/\m<=1000/\∀b y,b=Xo m d->Ab H y->Q (.bl b) y | _=>False
def J6:Sp:=λB H Q _=>match B with | [v,.int h,.int x,.int b]=>∃p T n,h=((n:Nat):Int)/\n<T.ds.length/\A5 T/\Aa p H T.d v/\∀y,Ab H y->Q (.int (BE T n x b)) y | _=>False
theorem OT{vs H Q E}(h:HI vs H Q E):vs.length=2:=by rcases vs with _ | ⟨_,_ | ⟨_,_ | _⟩⟩<;>first | rfl | cases h
theorem OU{vs H Q E}(h:J6 vs H Q E):vs.length=4:=by rcases vs with _ | ⟨_,_ | ⟨D,_ | ⟨B,_ | ⟨y,_ | _⟩⟩⟩⟩<;>first | rfl | cases h | skip;all_goals (cases D<;>first | cases h | skip);all_goals (cases B<;>first | cases h | skip);all_goals (cases y<;>first | cases h | skip)
variable{P:yP}{w:yN}{K:Fgx}{mg:Str -> yW}{base:Heap}
theorem zat:Az ["plant","story","caps","coals"] ["plant","story"] (Ar wan):=AC
theorem Xp(F:Df K mg "terms_of" wan ["plant","story"])(T:Tx mg)(O:Fn P w K mg base 9 "caps_of" ["plant","story"] J3)(i0:Fn P w K mg base 9 "draws_of" ["plant","story"] J5):Fn P w K mg base 10 "terms_of" ["plant","story"] HI:=by
 refine F.fn zat @OT λf dl A outer s H vs Q E hr h=>?_
 refine⟨_,(Ak (zC 2 zat.nd (zB O hr (Aq (cy 0) (cy 1)))) (Ak (zC 3 zat.nd (BA (B3 K) rfl T.b_tuple BN (Ai (Bd ["make","coal"] [none,none] rfl (BW K (AH (A4 K) (cy 0) R' (λ_ _=>rfl))) (AI.of rfl) (λ_ _ _ _=>(AL K (n:=2) (Aj (zD 0) (Aj (zD 1) AJ)))) (λ_ _ _ _=>Bm) (λ_ _ _ _=>(cy 1)))))) (An (Ay (BT (C6 (cy 2) (cy 3) (zB i0 hr (Aq (cy 0) (cy 1))) (AH (A4 K) (cy 0) R' (λ_ _=>rfl)))))))),?_⟩;obtain⟨v,u,rfl⟩:=By (OT h)
 .obtain⟨p,P,S,ok,so,r,ru,q⟩:=h;refine⟨p,P,S,ok,so,r,ru,λcv H1 s1 rc=>?_⟩;obtain⟨PA,PB,PE,PM,xb,xe,rfl,pA,pB,rb,pE,re,pM⟩:=Aa.plant (Aa.ev (Ev.same s1) _ _ r);have b4:=ok.b4;have lb:=rb.len;rw[Y2]at lb;refine⟨PA,_,0,.ref PB,rfl,rfl,Ae.of pA,rfl,PB,rfl,⟨xb,Ae.of pB⟩,B1 (xs:=xb) (λi y D=>Ab H1 D/\y=((P.bs.take i).map λq=>V.int q.2)) (by omega) ⟨Ab.refl _,rfl⟩ (λi y D h=>by rw[h.2,Y2,Zk];omega) (λi y D _ h=>Ae.of (h.1 _ _ pB)) (λi x y D hx h=>?_) λy D h=>?_⟩
  .obtain⟨f,hf,Z⟩:=Ad.mapGot rb hx;obtain⟨l,zs,rfl,i4,rz⟩:=Aa.shape (Aa.ev (Ev.same h.1) _ _ Z);obtain⟨y1,y2,rfl,r1,r2⟩:=Ad.two rz;unfold Aa at r1 r2;subst r1 r2;refine⟨l,_,rfl,Ae.of i4,rfl,_,_,rfl,_,_,rfl,rfl,trivial,λ_=>⟨h.1,?_⟩,λz=>by cases z⟩;rw[A8 hf,YS,h.2];rfl
  .intro m hm;refine⟨m,_,rfl,.inl ⟨Al.of Af,λt ht=>?_⟩⟩;have nt:=Ab.new (o:= .tup y) ht;have s2:=h.1.trans ((Ab.new (o:= .lst y) hm).trans nt);refine⟨p,P,S,ok,so,Aa.ev (Ev.same (s1.trans s2)) _ _ r,Aa.ev (Ev.same (s1.trans s2)) _ _ ru,λdv H3 s3 Z=>?_⟩;have B:=s2.trans s3;refine⟨PA,_,2,.ref PM,rfl,rfl,Ae.of (B _ _ pA),rfl,λt2 J=>?_⟩;have s4:=Ab.new (o:= .tup [cv,.ref t,dv,.ref PM]) J;have ey:y=(P.bs.map (·.2)).map V.int:=by rw [h.2,Z6 (by omega),ae];rfl
   have G:=(s3.trans s4) _ _ (Af (H:=upd D m (.lst y)) (a:=t) (o:= .tup y));rw[ey]at G;refine q _ _ (s1.trans (B.trans s4)) (Aa.tup Af (.cons (Aa.ev (Ev.same (B.trans s4)) _ _ rc) (.cons (Aa.row G) (.cons (Aa.ev (Ev.same s4) _ _ Z) (.cons (Aa.tup ((B.trans s4) _ _ pM) (.cons Aa.int (.cons Aa.int (.cons Aa.int .nil)))) .nil)))))
theorem za3:Az ["terms","hour","price","behind","caps","coals","draws","low","high","start","spared","kept"] ["terms","hour","price","behind"] (Ar waq):=AC
theorem Xq(F:Df K mg "floor_at" waq ["terms","hour","price","behind"])(T:Tx mg):Fn P w K mg base 1 "floor_at" ["terms","hour","price","behind"] J6:=by
 refine F.fn za3 @OU λf dl A outer s H vs Q E hr h=>?_
 refine⟨_,(Ak (Bz (cy 0) (AL K (n:=4) (Aj (Ag 4 za3.nd) (Aj (Ag 5 za3.nd) (Aj (Ag 6 za3.nd) (Aj (AL K (n:=3) (Aj (Ag 7 za3.nd) (Aj (Ag 8 za3.nd) (Aj (Ag 9 za3.nd) AJ)))) AJ)))))) (Ak (zC 10 za3.nd (AD (GP rfl) rfl T.b_sum cV (Ai (Bd ["cap","coal","price"] [none,none,some 2] rfl (I9 P w K rfl T.b_zip (Aq (AH (A4 K) (cy 4) (cy 1) (λ_ _=>rfl)) (cy 5))) (AI.of rfl) (λ_ _ _ _=>(AL K (n:=2) (Aj (zD 0) (Aj (zD 1) AJ)))) (λ_ _ _ _=>(DU (A7 Dz (cy 1) (cy 2) (AV _)))) (λ_ _ _ _=>(Ax DX (cy 0) (Ax Cf (cy 1) (cy 2)))))))) (Ak (zC 11 za3.nd (Ax DX (Ax Cf (cy 2) (cy 3)) (DY (A7 LQ (cy 2) (cy 3) (AV _)) (cy 7) (cy 8)))) (An (Ay (Ax A1 (Ax A1 (Ax DX (cy 2) (AH (A4 K) (cy 6) (cy 1) (λ_ _=>rfl))) (cy 10)) (cy 11))))))),?_⟩;obtain⟨v,z1,z2,z3,rfl⟩:=Oj (OU h);cases z1<;>try exact False.elim h
 cases z2<;>try exact False.elim h
 cases z3<;>try exact False.elim h
 rename_i hh x b
 .obtain⟨p,T,n,rfl,hn,ok,r,q⟩:=h;obtain⟨A,C,B,D,M,xc,rfl,hA,hC,rc,hB,hD,hM⟩:=Aa.terms r;have l8:=ok.ok.l8;have lc:=ok.ok.lc;have o4:=ok.o;have G:T.cs[n]? =some (T.cs.getD n []):=by rw[Y3,Y6 (by omega)];rfl
  obtain⟨lr,cr⟩:=ok.c _ (YW G);obtain⟨y,hy,ry⟩:=rc.get (i:=n) (d:=AR (T.cs.getD n [])) (by rw[YU,G];rfl);obtain⟨Cn,rfl,O⟩:=Aa.ofRow' ry;have Z:∀J,Ab H J->Q (.int (x * T.ds.getD n 0+spared (T.cs.getD n []) T.co x+D5 T.lo T.hi x b)) J:=q;generalize T.cs.getD n []=row at G lr cr O Z;refine⟨A,_,rfl,Ae.of hA,rfl,_,_,rfl,_,_,rfl,_,_,rfl,_,_,rfl,M,_,rfl,Ae.of hM,rfl,_,_,rfl,_,_,rfl,_,_,rfl,rfl,rfl,?_⟩;refine⟨C,xc,(n:Int),.ref Cn,rfl,rfl,Ae.of hC,Dt hy,Cn,B,rfl,⟨_,Ae.of O⟩,⟨_,Ae.of hB⟩,walk_zip (xs:=row.map V.int) (ys:=T.co.map V.int) (λi zs J=>Ab H J/\∃ns:yV,zs=ns.map V.int/\ns.length<=i/\ns.sum=(((row.zip T.co).take i).map (DE x)).sum) (by rw[Y2];omega) (by rw[Y2,Y2];exact lr) ⟨Ab.refl _,[],rfl,Y5 _,rfl⟩
    (λi zs J h=>by obtain⟨_,ns,rfl,hl,_⟩:=h;rw[Y2];exact hl) (λi zs J h=>⟨Ae.of (h.1 _ _ O),Ae.of (h.1 _ _ hB)⟩) (λi xx yy zs J T' hx hy h hT=>?_) λzs J h=>?_⟩
  .rw [YU] at hx hy;obtain⟨m,hm,rfl⟩:=cK.mp hx;obtain⟨k,hk,rfl⟩:=cK.mp hy;obtain⟨s0,ns,rfl,hl,hs⟩:=h;have s2:=s0.trans (Ab.new (o:= .tup [.int m,.int k]) hT);have hz:(row.zip T.co)[i]? =some (m,k):=by rw [eR];exact⟨hm,hk⟩
   have bm:=cr m (YW hm);refine⟨T',_,rfl,Ae.of Af,rfl,_,_,rfl,_,_,rfl,rfl,⟨rfl,trivial⟩,λc=>?_,λc=>?_⟩
   .refine⟨.inl ⟨by omega,by omega⟩,s2,ns++[m *(k-x)],by rw [YS];rfl,by rw [Zb];simp;exact hl,?_⟩;rw [A8 hz,YS,cA,cA,hs];have e:DE x (m,k)=m *(k-x):=by unfold DE;exact YN (Z0 c)
    simp[e]
   .refine⟨s2,ns,rfl,by omega,?_⟩;rw [A8 hz,YS,cA,hs];have e:DE x (m,k)=0:=by unfold DE;exact Y8 (ZD c)
    simp[e]
  .obtain⟨s0,ns,rfl,hl,hs⟩:=h;intro m hm;have s2:=s0.trans (Ab.new (o:= .lst (ns.map V.int)) hm);have es:ns.sum=spared row T.co x:=by rw [hs,Z6 (by rw [length_zip,Y2];omega)];rfl
   refine⟨m,ns,rfl,Af,?_⟩;rw[es];have h0:=ok.l0;have h1:=ok.l4;have h2:=ok.h0;have h3:=ok.h4;have bd:=ok.d _ (X' (d:=0) hn);refine⟨λc=>⟨.inr ⟨by omega,by omega⟩,D,_,(n:Int),.int (T.ds.getD n 0),rfl,rfl,Ae.of (s2 _ _ hD),OS hn,.inr ⟨by omega,by omega⟩,?_⟩,λc=>⟨.inr ⟨by omega,by omega⟩,D,_,(n:Int),.int (T.ds.getD n 0),rfl,rfl,Ae.of (s2 _ _ hD),OS hn,.inr ⟨by omega,by omega⟩,?_⟩⟩
   .have e:D5 T.lo T.hi x b=(x-b) * T.lo:=by unfold D5;rw [YN (Z0 c)]
    rw[e]at Z;exact Z _ s2
   .have e:D5 T.lo T.hi x b=(x-b) * T.hi:=by unfold D5;rw [Y8 (ZD c)]
    rw[e]at Z;exact Z _ s2
end
section
variable{p:yR}{H:Hp}{ps:yV}{v:V}
theorem Aa.tailShape{f:Int}(r:Aa p H (CC f ps) v):∃a b,v= .ref a/\H a=some (.tup [.int f,.ref b])/\H b=some (.tup (ps.map V.int)):=by
 obtain⟨a,Z,rfl,O,K⟩:=Aa.shape r;obtain⟨x,y,rfl,B,J⟩:=Ad.two K;unfold Aa at B;subst B;obtain⟨b,ys,rfl,D,G⟩:=Aa.shape J;rw[Ad.ints G]at D;exact⟨a,b,rfl,O,D⟩
theorem OV{f D:Int}{B:yV}(r:Aa p H (CC f ps) v)(K:Aa p H (CC D B) v):f=D:=by
 obtain⟨a,b,rfl,O,hb⟩:=Aa.tailShape r;obtain⟨Z,b',e,y,G⟩:=Aa.tailShape K;cases e;rw[O]at y;injection y with e
 injection e with e
 injection e with J _
 injection J
def J7:Sp:=λK H Q _=>match K with | [v,.int h,.ref d]=>∃p T n o B,A5 T/\h=((n:Nat):Int)/\n<T.ds.length/\Aa p H T.d v/\H d=some (.frz o (.dK B))/\B.length<=5/\TailsAt p H T (n+1) B/\∀G D J y,Ab H D->D G=some (.frz J (.dK y))->y.length<=5->TailsAt p D T n y->Q (.ref G) D | _=>False
def J8:Sp:=λD H Q _=>match D with | [v]=>∃p T,A5 T/\Aa p H T.d v/\∀u y f B,Ab H y->Aa p y (CC f B) u->DH T f B->Q u y | _=>False
theorem OW{vs H Q E}(h:J7 vs H Q E):vs.length=3:=by rcases vs with _ | ⟨_,_ | ⟨y,_ | ⟨B,_ | _⟩⟩⟩<;>first | rfl | cases h | skip;all_goals (cases y<;>first | cases h | skip);all_goals (cases B<;>first | cases h | skip)
theorem OX{vs H Q E}(h:J8 vs H Q E):vs.length=1:=by rcases vs with _ | ⟨_,_ | _⟩<;>first | rfl | cases h
variable{P:yP}{w:yN}{K:Fgx}{mg:Str -> yW}{base:Heap}
theorem zag:Az ["terms","hour","tails","caps","coals","draws","main"] ["terms","hour","tails"] (Ar was):=AC
theorem Xr(F:Df K mg "tails_from" was ["terms","hour","tails"])(T:Tx mg)(l7:Fn P w K mg base 1 "floor_at" ["terms","hour","price","behind"] J6):Fn P w K mg base 2 "tails_from" ["terms","hour","tails"] J7:=by
 refine F.fn zag @OW λf dl A outer s H vs Q E hr h=>?_
 refine⟨_,(Ak (Bz (cy 0) (AL K (n:=4) (Aj (Ag 3 zag.nd) (Aj (Ag 4 zag.nd) (Aj (Ag 5 zag.nd) (Aj (Ag 6 zag.nd) AJ)))))) (An (Ay (Ue ["price","terms","hour","tails"] [none,some 0,some 1,some 2] rfl (BW K (Ax GL (Bw (Ai R')) (cy 4))) (AI.of rfl) (λ_ _ _ _=>(zD 0)) (λ_ _ _ _=>Bm) (λ_ _ _ _=>(cy 0)) (λ_ _ _ _=>(AD (MP rfl hr) rfl T.b_max boot_max (Ai (Bd ["behind","floor","prices","terms","hour","price"] [none,none,none,some 1,some 2,some 0] rfl (Jr (cy 3)) (AI.of rfl) (λ_ _ _ _=>(AL K (n:=2) (Aj (zD 0) (Aj (AL K (n:=2) (Aj (zD 1) (Aj (zD 2) AJ))) AJ)))) (λ_ _ _ _=>Bm) (λ_ _ _ _=>(Bw (Aq (Ax A1 (zB l7 hr (C6 (cy 3) (cy 4) (cy 5) (cy 0))) (cy 1)) (Ax GL (Bw (Ai (cy 5))) (cy 2))))))))))))),?_⟩;obtain⟨v,z1,z2,rfl⟩:=CG (OW h);cases z1<;>try exact False.elim h
 cases z2<;>try exact False.elim h
 rename_i hh d
 .obtain⟨p,T,n,o,i0,fl,rfl,hn,r,hd,l5,ta,q⟩:=h;obtain⟨A,C,B,D,M,xc,rfl,hA,hC,rc,hB,hD,hM⟩:=Aa.terms r;have o4:=fl.o;have l8:=fl.ok.l8;refine⟨A,_,rfl,Ae.of hA,rfl,_,_,rfl,_,_,rfl,_,_,rfl,_,_,rfl,rfl,?_⟩;refine λt1 H1 s1 k1=>⟨t1,B,_,_,rfl,rfl,k1,s1 _ _ hB,by rw[Y2];show 1+_<=1000;omega,λt2 H2 s2 k2=>?_⟩
  have ek:[V.int 0]++T.co.map V.int=(0::T.co).map V.int:=rfl;rw[ek]at k2;have j3:=s1.trans s2;have lc:(0::T.co).length<=5:=by rw[Zw];omega
  have ne:i0≠ []:=λz=>by
   obtain⟨q,hq,_⟩:=ta.all 0 (by unfold EH;split<;>first | rfl | exact YR);rw[z]at hq;cases hq
  refine⟨t2,rfl,⟨_,Ae.of k2⟩,Up (xs:=(0::T.co).map V.int) (λi ks H'=>Ab H2 H'/\ks.length<=i/\(∀q∈ks,∃x f O,q.1= .inl x/\Aa p H' (CC f O) q.2/\OneTail T n x f O)/\∀x∈(0::T.co).take i,∃q∈ks,q.1= .inl x) (by rw[Y2];omega) ⟨Ab.refl _,Z1 _,(λ_ h=>nomatch h),λx h=>(by rw[take_zero]at h;cases h)⟩ (λi ks H' h=>h.2.1) (λi ks H' _ h=>Ae.of (h.1 _ _ k2)) (λi x ks H' hx h=>?_) λks H' h=>?_⟩
  .rw [YU] at hx;obtain⟨G,i9,rfl⟩:=cK.mp hx;have j8:=YW i9;obtain⟨i6,lk,one,all⟩:=h;have s0:=j3.trans i6;have r0:=Aa.ev (Ev.same (p:=p) s0) _ _ r;refine⟨⟨rfl,rfl,rfl,trivial⟩,λ_=>?_,λz=>by cases z⟩;refine⟨d,o,i0,rfl,s0 _ _ hd,MI (λj zs J=>Ab H' J/\∃fs:List (Int×List yQ),Ad p J (fs.map λq=> .tuple (.int q.1::q.2)) zs/\fs.length=j/\∀k q0,k<j->i0[k]? =some q0->∃fq,fs[k]? =some fq/\Hf p H T (n+1) (λb f=>BE T n G b+f) (λO=>G::O) q0 fq) (by omega) ⟨Ab.refl _,[],.nil,rfl,(λk _ h=>absurd h (Zs k))⟩ (λj zs J h=>by obtain⟨_,fs,rs,lf,_⟩:=h;rw [<-rs.len,Y2,lf];exact Y5 _) (λj zs J h=>h.1 _ _ (s0 _ _ hd)) (λj q0 zs J T' hq h hT=>?_) λzs J h=>?_⟩
   .obtain⟨s3,fs,rs,lf,i7⟩:=h;obtain⟨b,f,O,eb,rq,ot⟩:=ta.one q0 (YW hq);obtain⟨kk,y⟩:=q0;have j9:kk= .inl b:=eb;subst j9;have u6:=ot.len;have sT:=Ab.new (o:= .tup [.int b,y]) hT;have s4:=s3.trans sT;have j6:=s0.trans s4;obtain⟨l,bb,ey,hl,n9⟩:=Aa.tailShape (Aa.ev (Ev.same j6) _ _ rq)
    replace ey:y= .ref l:=ey
    subst ey;refine⟨T',_,rfl,Ae.of Af,rfl,_,_,rfl,_,_,rfl,l,_,rfl,Ae.of hl,rfl,_,_,rfl,_,_,rfl,rfl,rfl,⟨rfl,rfl,rfl,trivial⟩,λ_=>?_,λz=>by cases z⟩;have r4:=Aa.ev (Ev.same (p:=p) j6) _ _ r;refine⟨p,T,n,rfl,hn,fl,r4,λH5 s5=>λt6 H6 s6 k6=>⟨t6,bb,_,_,rfl,rfl,k6,(s5.trans s6) _ _ n9,by rw[Y2];show 1+_<=1000;omega,λt7 H7 s7 k7=>λt8 H8 s8 k8=>?_⟩⟩;have t9:[V.int G]++O.map V.int=(G::O).map V.int:=rfl;rw[t9]at k7;have j7:=s5.trans (s6.trans (s7.trans s8));refine⟨s4.trans j7,fs++[(BE T n G b+f,[AR (G::O)])],?_,by rw[Zb,lf];rfl,λk q1 hk i8=>?_⟩
    .rw[YS];have l9:Ab J H8:=sT.trans j7;exact Ad.snoc (Ad.ev (Ev.same l9) _ _ rs) (Aa.tup k8 (.cons Aa.int (.cons (Aa.row (s8 _ _ k7)) .nil)))
    .by_cases z:k<j
     .obtain⟨fq,Z,h2⟩:=i7 k q1 z i8;exact⟨fq,by rw[ZB (by omega)];exact Z,h2⟩
     .obtain rfl:k=j:=by omega
      rw[hq]at i8;cases i8;exact⟨_,by rw[Zy (by omega),lf,fc];rfl,b,f,O,rfl,rq,ot,rfl⟩
   .obtain⟨s3,fs,rs,lf,i7⟩:=h;intro L hL;have nL:=Ab.new (o:= .lst zs) hL;have j5:=Ad.ev (Ev.same (p:=p) nL) _ _ rs;have row:∀fq∈fs,∃q0∈i0,Hf p H T (n+1) (λb f=>BE T n G b+f) (λO=>G::O) q0 fq:=λfq i4=>by
     obtain⟨k,hk⟩:=ZK i4;have j0:=(Y9.mp hk).1;obtain⟨o8,Z,h2⟩:=i7 k i0[k] (by omega) (Y6 (by omega));rw[hk]at Z;cases Z;exact⟨_,ZL _,h2⟩
    refine⟨p,L,fs,zs,rfl,Af,j5,λz=>ne (af (by rw[z]at lf;exact lf.symm)),λq1 Z q2 h2=>?_,λi' fq v i4 hv top=>?_⟩
    .obtain⟨_,_,b1,f1,i5,_,_,_,e1⟩:=row q1 Z;obtain⟨_,_,b2,f2,o9,_,_,_,e2⟩:=row q2 h2;rw[e1,e2];exact .cons (.row _ _) .nil
    .obtain⟨q0,m0,b,f,O,eb,rq,ot,rfl⟩:=row fq (YW i4);obtain⟨v',j4,rv⟩:=j5.get (i:=i') (d:=CC (BE T n G b+f) (G::O)) (by rw[YU,i4];rfl);rw[hv]at j4;cases j4;have l6:OneTail T n G (BE T n G b+f) (G::O):=OneTail.step ta hn j8 ot λb' f' u0 o1 zq=>by
      obtain⟨q1,m1,e1,r1⟩:=zq;obtain⟨k,hk⟩:=ZK m1;have j0:=(Y9.mp hk).1;obtain⟨o8,g1,b2,f2,o9,e2,r2,o2,rfl⟩:=i7 k q1 j0 hk;have o7:b2=b':=by rw[e1]at e2;injection e2 with e2;exact e2.symm
      subst o7;have ef:=OV r1 r2;subst ef;exact top _ (YW g1)
     have q9:=i6.trans (s3.trans nL);refine⟨.inl G,rfl,q9,YV (MJ _ _ _) (by omega),λq1 Z=>?_,λx hx=>?_⟩
     .rcases Uw Z with Z | rfl
      .obtain⟨x,f1,i5,e1,r1,o1⟩:=one q1 Z;exact⟨x,f1,i5,e1,Aa.ev (Ev.same (s3.trans nL)) _ _ r1,o1⟩
      .exact⟨G,_,_,rfl,rv,l6⟩
     .rw [A8 i9] at hx;rcases ZS.mp hx with hx | hx
      .obtain⟨q1,Z,e1⟩:=all x hx;obtain⟨q2,h2,e2⟩:=Uy (k:= .inl G) (v:=v) Z;exact⟨q2,h2,e2.trans e1⟩
      .rw[Z3.mp hx];exact Ux
  .obtain⟨i6,lk,one,all⟩:=h;intro d' o' r8;rw [Y2] at lk all;have nd:=Ab.new (o:= .frz o' (.dK ks)) r8;refine q d' _ o' ks (j3.trans (i6.trans nd)) Af (by omega) ⟨λq1 Z=>?_,λx hx=>?_⟩
   .obtain⟨x,f1,i5,e1,r1,o1⟩:=one q1 Z;exact⟨x,f1,i5,e1,Aa.ev (Ev.same nd) _ _ r1,o1⟩
   .unfold EH at hx;rw[Y8 (by omega)]at hx;exact all x (by rw[cI];exact hx)
theorem za2:Az ["terms","caps","coals","draws","low","high","start","tails","hour"] ["terms"] (Ar war):=AC
theorem Xs(F:Df K mg "highest_floor" war ["terms"])(T:Tx mg)(n9:Fn P w K mg base 2 "tails_from" ["terms","hour","tails"] J7):Fn P w K mg base 3 "highest_floor" ["terms"] J8:=by
 refine F.fn za2 @OX λf dl A outer s H vs Q E hr h=>?_
 refine⟨_,(Ak (Bz (cy 0) (AL K (n:=4) (Aj (Ag 1 za2.nd) (Aj (Ag 2 za2.nd) (Aj (Ag 3 za2.nd) (Aj (AL K (n:=3) (Aj (Ag 4 za2.nd) (Aj (Ag 5 za2.nd) (Aj (Ag 6 za2.nd) AJ)))) AJ)))))) (Ak (zC 7 za2.nd (Um (Bw (Aq R' (Bw pa_nil))))) (Ak (Bl Z8 rfl (Uk rfl T.b_reversed rfl T.b_range (Ai (AD (BV K) rfl T.b_len zH (Ai (cy 3))))) (Ag 8 za2.nd) (An (zC 7 za2.nd (zB n9 hr (AQ (cy 0) (cy 8) (cy 7)))))) (An (Ay (AD (MP rfl hr) rfl T.b_max boot_max (Ai (Bd ["price","floor","prices","start"] [none,none,none,some 6] rfl (Jr (cy 7)) (AI.of rfl) (λ_ _ _ _=>(AL K (n:=2) (Aj (zD 0) (Aj (AL K (n:=2) (Aj (zD 1) (Aj (zD 2) AJ))) AJ)))) (λ_ _ _ _=>Bm) (λ_ _ _ _=>(Bw (Aq (Ax Cf (cy 1) (Ax DX (cy 0) (cy 3))) (cy 2)))))))))))),?_⟩;obtain⟨v,rfl⟩:=Dn (OX h)
 .obtain⟨p,T,fl,r,q⟩:=h;obtain⟨A,C,B,D,M,xc,rfl,hA,hC,rc,hB,hD,hM⟩:=Aa.terms r;have l8:=fl.ok.l8;refine⟨A,_,rfl,Ae.of hA,rfl,_,_,rfl,_,_,rfl,_,_,rfl,_,_,rfl,M,_,rfl,Ae.of hM,rfl,_,_,rfl,_,_,rfl,_,_,rfl,rfl,rfl,?_⟩;refine λt1 H1 s1 k1=>λt2 H2 s2 k2=>λd0 o0 l9=>?_
  have n0:=Ab.new (o:= .frz o0 (.dK [(.inl 0,.ref t2)])) l9;have r2:Aa p H2 (CC 0 []) (.ref t2):=Aa.tup k2 (.cons Aa.int (.cons (Aa.tup (s2 _ _ k1) .nil) .nil));have i8:=(Uz (T:=T) r2).same n0;have s3:=s1.trans (s2.trans n0);have i5:upd H2 d0 (.frz o0 (.dK [(.inl 0,.ref t2)])) d0=some (.frz o0 (.dK [(.inl 0,.ref t2)])):=Af;generalize upd H2 d0 (.frz o0 (.dK [(.inl 0,.ref t2)]))=H3 at s3 i8 i5 ⊢;refine⟨D,_,rfl,.inr (Ae.of (s3 _ _ hD)),_,rfl,by omega,by rw[Y2];omega,Sb (λi σ H'=>∃x8 d o G,σ=[some (.ref A),some (.ref C),some (.ref B),some (.ref D),some (.int T.lo),some (.int T.hi),some (.int T.st),some (.ref d),x8]/\i<=T.ds.length/\Ab H H'/\H' d=some (.frz o (.dK G))/\G.length<=5/\TailsAt p H' T (T.ds.length-i) G) ⟨_,d0,o0,_,rfl,Z1 _,s3,i5,by show 1<=5;decide,i8⟩ (λi σ H' hi h=>?_) fun σ H' h=>?_⟩
  .obtain⟨x8,d,o,G,rfl,l7,s',kd,l5,ta⟩:=h;have r8:i<T.ds.length:=by rw [Y2] at hi;omega
   refine⟨p,T,T.ds.length-(i+1),o,G,fl,by rw[Y2];omega,by omega,Aa.ev (Ev.same s') _ _ r,kd,l5,by rw[show T.ds.length-(i+1)+1=T.ds.length-i by omega];exact ta,λd' H4 o' i6 s4 j9 o8 l6=>⟨_,d',o',i6,rfl,by omega,s'.trans s4,j9,o8,l6⟩⟩
  .obtain⟨x8,d,o,G,rfl,l7,s',kd,l5,ta⟩:=h;have e0:T.ds.length-((T.ds.map V.int).length:Int).toNat=0:=by rw [Y2];omega
   rw[e0]at ta;have ne:G≠ []:=λz=>by
    obtain⟨q,hq,_⟩:=ta.all 0 (by unfold EH;split<;>first | rfl | exact YR);rw[z]at hq;cases hq
   have h0:=fl.s0;have h4:=fl.s4;refine⟨d,o,G,rfl,kd,MI (λj zs J=>Ab H' J/\∃fs:List (Int×List yQ),Ad p J (fs.map λq=> .tuple (.int q.1::q.2)) zs/\fs.length=j/\∀k q0,k<j->G[k]? =some q0->∃fq,fs[k]? =some fq/\Hf p H' T 0 (λb f=>f-b * T.st) (λZ=>Z) q0 fq) (by omega) ⟨Ab.refl _,[],.nil,rfl,(λk _ h=>absurd h (Zs k))⟩ (λj zs J h=>by obtain⟨_,fs,rs,lf,_⟩:=h;rw[<-rs.len,Y2,lf];exact Y5 _) (λj zs J h=>h.1 _ _ kd) (λj q0 zs J T' hq h hT=>?_) λzs J h=>?_⟩
   .obtain⟨s3,fs,rs,lf,i0⟩:=h;obtain⟨b,f,Z,eb,rq,ot⟩:=ta.one q0 (YW hq);obtain⟨kk,y⟩:=q0;have j4:kk= .inl b:=eb;subst j4;obtain⟨l,bb,ey,o7,j0⟩:=Aa.tailShape (Aa.ev (Ev.same s3) _ _ rq)
    replace ey:y= .ref l:=ey
    subst ey;have sT:=Ab.new (o:= .tup [.int b,.ref l]) hT;have s4:=s3.trans sT;have hl:=sT _ _ o7;have j5:=sT _ _ j0;refine⟨T',_,rfl,Ae.of Af,rfl,_,_,rfl,_,_,rfl,l,_,rfl,Ae.of hl,rfl,_,_,rfl,_,_,rfl,rfl,rfl,⟨rfl,trivial⟩,λ_=>?_,λz=>by cases z⟩;refine⟨.inr ⟨Int.lt_of_lt_of_le (by decide) h0,Int.lt_of_le_of_lt h4 (by decide)⟩,λt8 H8 s8 k8=>?_⟩;refine⟨s4.trans s8,fs++[(f-b * T.st,[AR Z])],?_,by rw[Zb,lf];rfl,λk q1 hk i4=>?_⟩
    .rw[YS];exact Ad.snoc (Ad.ev (Ev.same (sT.trans s8)) _ _ rs) (Aa.tup k8 (.cons Aa.int (.cons (Aa.row (s8 _ _ j5)) .nil)))
    .by_cases z:k<j
     .obtain⟨fq,h1,h2⟩:=i0 k q1 z i4;exact⟨fq,by rw[ZB (by omega)];exact h1,h2⟩
     .obtain rfl:k=j:=by omega
      rw[hq]at i4;cases i4;exact⟨_,by rw[Zy (by omega),lf,fc];rfl,b,f,Z,rfl,rq,ot,rfl⟩
   .obtain⟨s3,fs,rs,lf,i0⟩:=h;intro L hL;have nL:=Ab.new (o:= .lst zs) hL;have i9:=Ad.ev (Ev.same (p:=p) nL) _ _ rs;have row:∀fq∈fs,∃q0∈G,Hf p H' T 0 (λb f=>f-b * T.st) (λZ=>Z) q0 fq:=λfq O=>by
     obtain⟨k,hk⟩:=ZK O;have j3:=(Y9.mp hk).1;obtain⟨j7,h1,h2⟩:=i0 k G[k] (by omega) (Y6 (by omega));rw[hk]at h1;cases h1;exact⟨_,ZL _,h2⟩
    refine⟨p,L,fs,zs,rfl,Af,i9,λz=>ne (af (by rw[z]at lf;exact lf.symm)),λq1 h1 q2 h2=>?_,λi' fq v O hv top=>?_⟩
    .obtain⟨_,_,b1,f1,q9,_,_,_,e1⟩:=row q1 h1;obtain⟨_,_,b2,f2,j8,_,_,_,e2⟩:=row q2 h2;rw[e1,e2];exact .cons (.row _ _) .nil
    .obtain⟨q0,m0,b,f,Z,eb,rq,ot,rfl⟩:=row fq (YW O);obtain⟨v',i7,rv⟩:=i9.get (i:=i') (d:=CC (f-b * T.st) Z) (by rw [YU,O];rfl);rw [hv] at i7;cases i7;refine q _ _ _ Z (s'.trans (s3.trans nL)) rv (UB ta ot λx' f' o9 o1 zq=>?_);obtain⟨q1,m1,e1,r1⟩:=zq;obtain⟨k,hk⟩:=ZK m1;have j3:=(Y9.mp hk).1;obtain⟨j7,g1,b2,f2,j8,e2,r2,o2,rfl⟩:=i0 k q1 j3 hk;have j6:b2=x':=by rw [e1] at e2;injection e2 with e2;exact e2.symm
     subst j6;have ef:=OV r1 r2;subst ef;exact top _ (YW g1)
end
section
variable{p:yR}{H:Hp}
theorem Aa.intE{a b:Int}(h:b=a):Aa p H (.int a) (.int b):=by subst h;exact Aa.int
theorem Aa.pair{q:Nat×Nat}{v:V}(r:Aa p H (pD q) v):∃A,v= .ref A/\H A=some (.tup [.int q.1,.int q.2]):=by
 obtain⟨A,K,rfl,G,J⟩:=Aa.shape r;obtain⟨x,y,rfl,B,D⟩:=Ad.two J;unfold Aa at B D;subst B D;exact⟨A,rfl,G⟩
def J9:Sp:=λB H Q _=>match B with | [v,u]=>∃p T f l,TM.ok T/\Aa p H T.d v/\Aa p H (pD (f,l)) u/\f<=l/\l<T.ds.length/\∀y,Ab H y->Q (.bl (Bs T f l)) y | _=>False
def HJ:Sp:=λy H Q _=>match y with | [v]=>∃p T,TM.ok T/\Aa p H T.d v/\ret H Q p (Fc (AZ T)) | _=>False
def Ka:Sp:=λD H Q _=>match D with | [v]=>∃p T,A5 T/\Aa p H T.d v/\(AZ T≠none->∀y,Ab H y->Q .non y)/\(AZ T=none->∀f B y,DH T f B->Ab H y->Q (.int f) y) | _=>False
theorem OY{vs H Q E}(h:J9 vs H Q E):vs.length=2:=by rcases vs with _ | ⟨_,_ | ⟨_,_ | _⟩⟩<;>first | rfl | cases h
theorem OZ{vs H Q E}(h:HJ vs H Q E):vs.length=1:=by rcases vs with _ | ⟨_,_ | _⟩<;>first | rfl | cases h
theorem O1{vs H Q E}(h:Ka vs H Q E):vs.length=1:=by rcases vs with _ | ⟨_,_ | _⟩<;>first | rfl | cases h
variable{P:yP}{w:yN}{K:Fgx}{mg:Str -> yW}{base:Heap}
theorem za1:Az ["terms","stretch","caps","coals","draws","low","high","start","first","last","ahead","most"] ["terms","stretch"] (Ar wao):=AC
theorem Xt(F:Df K mg "is_too_much" wao ["terms","stretch"])(T:Tx mg):Fn P w K mg base 1 "is_too_much" ["terms","stretch"] J9:=by
 refine F.fn za1 @OY λf dl A outer s H vs Q E hr h=>?_
 refine⟨_,(Ak (Bz (cy 0) (AL K (n:=4) (Aj (Ag 2 za1.nd) (Aj (Ag 3 za1.nd) (Aj (Ag 4 za1.nd) (Aj (AL K (n:=3) (Aj (Ag 5 za1.nd) (Aj (Ag 6 za1.nd) (Aj (Ag 7 za1.nd) AJ)))) AJ)))))) (Ak (Bz (cy 1) (AL K (n:=2) (Aj (Ag 8 za1.nd) (Aj (Ag 9 za1.nd) AJ)))) (Ak (zC 10 za1.nd (DY (A7 Dq (cy 8) R' (AV _)) (cy 7) (cy 6))) (Ak (zC 11 za1.nd (AD (FP rfl) rfl T.b_sum cV (Ai (Bd ["row"] [none] rfl (BW K (EW wa1 (cy 2) (Ds (cy 8)) (Ds (Ax A1 (cy 9) R')))) (AI.of rfl) (λ_ _ _ _=>(zD 0)) (λ_ _ _ _=>Bm) (λ_ _ _ _=>(AD (FP rfl) rfl T.b_sum cV (Ai (cy 0)))))))) (An (Ay (Cw Dz (Ax A1 (cy 10) (cy 11)) (Ax A1 (AD (FP rfl) rfl T.b_sum cV (Ai (EW wa1 (cy 4) (Ds (cy 8)) (Ds (Ax A1 (cy 9) R'))))) (cy 5)) (AV _)))))))),?_⟩;obtain⟨v,u,rfl⟩:=By (OY h)
 .obtain⟨p,T,f,l,ok,r,ru,y,hl,q⟩:=h;obtain⟨A,C,B,D,M,xc,rfl,hA,hC,rc,hB,hD,hM⟩:=Aa.terms r;obtain⟨U,rfl,hU⟩:=Aa.pair ru;have l8:=ok.l8;have lc:=ok.lc;have lx:=rc.len;rw[Y2]at lx;refine⟨A,_,rfl,Ae.of hA,rfl,_,_,rfl,_,_,rfl,_,_,rfl,_,_,rfl,M,_,rfl,Ae.of hM,rfl,_,_,rfl,_,_,rfl,_,_,rfl,rfl,rfl,?_⟩;refine⟨U,_,rfl,Ae.of hU,rfl,_,_,rfl,_,_,rfl,rfl,rfl,⟨λc=>?_,λc=>?_⟩⟩
  .have ea:(if f=0 then T.st else T.hi)=T.st:=by
    rw[DS]at c;have:(f:Int)=0:=by simpa using c
    rw[YN (by omega)]
   refine⟨(f:Int),rfl,(l:Int)+1,rfl,C,xc,rfl,hC,λR H1 s1 k1=>?_⟩;rw[GW y (by omega)]at k1;have Z:=Ad.part (Ad.ev (Ev.same s1) _ _ rc) f l;rw[GX]at Z;have lp:=Mq (xs:=T.cs) y (by omega);have lq:=Z.len;rw[Y2]at lq;refine⟨R,rfl,⟨_,Ae.of k1⟩,B1 (xs:=part xc f l) (λi G J=>Ab H1 J/\G=(((part T.cs f l).take i).map List.sum).map V.int) (by omega) ⟨Ab.refl _,rfl⟩ (λi G J h=>by rw[h.2,Y2,Y2,Zk];omega) (λi G J _ h=>Ae.of (h.1 _ _ k1)) (λi x G J hx h=>?_) λG H2 h=>?_⟩
   .obtain⟨r',O,rr⟩:=Ad.mapGot Z hx;obtain⟨ra,rfl,i0⟩:=Aa.ofRow' rr;refine⟨trivial,λ_=>⟨ra,r',rfl,.inr (h.1 _ _ i0),h.1,?_⟩,λz=>by cases z⟩;rw[A8 O,YS,YS,h.2];rfl
   .intro m hm;have s2:=s1.trans (h.1.trans (Ab.new (o:= .lst G) hm));refine⟨m,(part T.cs f l).map List.sum,rfl,.inl ?_,?_⟩
    .rw[Af,h.2,Z6 (by omega)]
    refine⟨(f:Int),rfl,(l:Int)+1,rfl,D,T.ds.map V.int,rfl,s2 _ _ hD,λR2 H3 s3 k3=>?_⟩;rw[GW y (by rw[Y2];exact hl),GX]at k3;refine⟨R2,part T.ds f l,rfl,.inr k3,?_⟩;have:=q H3 (s2.trans s3);unfold Bs at this;rw[ea]at this;exact this
  .have ea:(if f=0 then T.st else T.hi)=T.hi:=by
    rw[DS]at c;have:(f:Int)≠0:=by simpa using c
    rw[Y8 (by omega)]
   refine⟨(f:Int),rfl,(l:Int)+1,rfl,C,xc,rfl,hC,λR H1 s1 k1=>?_⟩;rw[GW y (by omega)]at k1;have Z:=Ad.part (Ad.ev (Ev.same s1) _ _ rc) f l;rw[GX]at Z;have lp:=Mq (xs:=T.cs) y (by omega);have lq:=Z.len;rw[Y2]at lq;refine⟨R,rfl,⟨_,Ae.of k1⟩,B1 (xs:=part xc f l) (λi G J=>Ab H1 J/\G=(((part T.cs f l).take i).map List.sum).map V.int) (by omega) ⟨Ab.refl _,rfl⟩ (λi G J h=>by rw[h.2,Y2,Y2,Zk];omega) (λi G J _ h=>Ae.of (h.1 _ _ k1)) (λi x G J hx h=>?_) λG H2 h=>?_⟩
   .obtain⟨r',O,rr⟩:=Ad.mapGot Z hx;obtain⟨ra,rfl,i0⟩:=Aa.ofRow' rr;refine⟨trivial,λ_=>⟨ra,r',rfl,.inr (h.1 _ _ i0),h.1,?_⟩,λz=>by cases z⟩;rw[A8 O,YS,YS,h.2];rfl
   .intro m hm;have s2:=s1.trans (h.1.trans (Ab.new (o:= .lst G) hm));refine⟨m,(part T.cs f l).map List.sum,rfl,.inl ?_,?_⟩
    .rw[Af,h.2,Z6 (by omega)]
    refine⟨(f:Int),rfl,(l:Int)+1,rfl,D,T.ds.map V.int,rfl,s2 _ _ hD,λR2 H3 s3 k3=>?_⟩;rw[GW y (by rw[Y2];exact hl),GX]at k3;refine⟨R2,part T.ds f l,rfl,.inr k3,?_⟩;have:=q H3 (s2.trans s3);unfold Bs at this;rw[ea]at this;exact this
theorem za7:Az ["terms","caps","coals","draws","main","hours","stretches","found"] ["terms"] (Ar wap):=AC
theorem Xu(F:Df K mg "least_stretch" wap ["terms"])(T:Tx mg)(i5:Fn P w K mg base 1 "is_too_much" ["terms","stretch"] J9):Fn P w K mg base 2 "least_stretch" ["terms"] HJ:=by
 refine F.fn za7 @OZ λf dl A outer s H vs Q E hr h=>?_
 refine⟨_,(Ak (Bz (cy 0) (AL K (n:=4) (Aj (Ag 1 za7.nd) (Aj (Ag 2 za7.nd) (Aj (Ag 3 za7.nd) (Aj (Ag 4 za7.nd) AJ)))))) (Ak (zC 5 za7.nd (AD (BV K) rfl T.b_len zH (Ai (cy 3)))) (Ak (SE (i:=6) ["first","last","hours"] [none,none,some 5] za7.nd rfl (AA (by rfl)) rfl (B0 rfl T.b_range (Ai (cy 5))) (AI.of rfl) (λ_ _ _ _=>(zD 0)) (λ_ _ _ _=>Bm) (λ_ _ _ _=>(Ik rfl T.b_range (Aq (cy 0) (cy 2)))) (λ_ _ _ _=>(zD 1)) (λ_ _ _ _=>Bm) (λ_ _ _ _=>(BT (Aq (cy 0) (cy 1))))) (Ak (LM (i:=7) ["stretch","terms"] [none,some 0] za7.nd rfl (AA (by rfl)) rfl (Ez K (cy 6)) (AI.of rfl) (λ_ _ _ _=>(zD 0)) (λ_ _ _ _=>(DU (BM (zB i5 hr (Aq (cy 1) (cy 0)))))) (λ_ _ _ _=>(cy 0))) (An (Ay (DY (SG (cy 7)) (AH (BO K) (cy 7) R' (λ_ _=>rfl)) V'))))))),?_⟩;obtain⟨v,rfl⟩:=Dn (OZ h)
 .obtain⟨p,T,ok,r,q⟩:=h;obtain⟨A,C,B,D,M,xc,rfl,hA,hC,rc,hB,hD,hM⟩:=Aa.terms r;have l8:=ok.l8;refine⟨A,_,rfl,Ae.of hA,rfl,_,_,rfl,_,_,rfl,_,_,rfl,_,_,rfl,rfl,?_⟩;refine⟨D,_,rfl,.inr (Ae.of hD),?_⟩;rw[Y2];refine⟨_,rfl,by omega,by omega,SC (n:=T.ds.length) (λi zs Z=>Ab H Z/\Ad p Z ((BH T.ds.length i).map pD) zs) ⟨Ab.refl _,.nil⟩ (λi zs H1 hi h=>?_) λzs H1 h=>?_⟩
  .refine⟨⟨rfl,trivial⟩,λ_=>?_,λz=>by cases z⟩;have lz:=h.2.len;rw [Y2] at lz;have ls:=Mt (n:=T.ds.length) (k:=i);have lm:T.ds.length * i<=8 * 8:=fT l8 (by omega);have e0:((T.ds.length:Int)-(0+(i:Int))).toNat=T.ds.length-i:=by omega
   refine⟨_,_,rfl,⟨by omega,by omega,by omega,by omega⟩,?_⟩;rw[e0];refine SB (n:=T.ds.length-i) (λj G H2=>Ab H H2/\Ad p H2 ((BH T.ds.length i++BY i j).map pD) G/\j<=8) ⟨h.1,?_,Z1 _⟩ (λj G H2 h=>?_) (λj G H2 hj O=>?_) λG H2 O=>?_
   .have e1:BY i 0=[]:=rfl;rw[e1,bv];exact h.2
   .have h3:=h.2.1.len;rw[Y2,Zb,Ms]at h3;have:=h.2.2;omega
   .refine⟨⟨rfl,rfl,trivial⟩,λ_ t ht=>?_,λz=>by cases z⟩;have nt:=Ab.new (o:= .tup [.int (0+(i:Int)),.int (0+(i:Int)+(j:Int))]) ht;refine⟨O.1.trans nt,?_,by omega⟩;rw[Mr,<-df,YS];exact Ad.snoc (Ad.ev (Ev.same nt) _ _ O.2.1) (Aa.tup Af (.cons (Aa.intE (by simp)) (.cons (Aa.intE (by simp)) .nil)))
   .refine⟨O.1,?_⟩;rw[FV];exact O.2.1
  .intro m hm;have s1:=h.1.trans (Ab.new (o:= .lst zs) hm);have r1:=Ad.ev (Ev.new (p:=p) (o:= .lst zs) hm) _ _ h.2;have lz:=h.2.len;rw [Y2] at lz;have ls:=Mt (n:=T.ds.length) (k:=T.ds.length);have lm:T.ds.length * T.ds.length<=8 * 8:=fT l8 l8;refine⟨m,rfl,⟨zs,Al.of Af⟩,Rl (xs:=zs) (λi G Z=>Ab (upd H1 m (.lst zs)) Z/\Ad p Z ((((BH T.ds.length T.ds.length).take i).filter λq=>Bs T q.1 q.2).map pD) G) (by omega) ⟨Ab.refl _,.nil⟩ (λi G Z h=>?_) (λi G Z _ h=>Al.of (h.1 _ _ Af)) (λi x G Z hx h=>?_) λG H2 O=>?_⟩
   .rw[<-h.2.len,Y2];exact YV (ZU _ _) (by rw[Zk];omega)
   .obtain⟨⟨f,l⟩,hf,rd⟩:=Ad.mapGot r1 hx;obtain⟨i4,hl⟩:=Mu (Y5 _) _ (YW hf);refine⟨⟨rfl,trivial⟩,p,T,f,l,ok,Aa.ev (Ev.same (s1.trans h.1)) _ _ r,Aa.ev (Ev.same h.1) _ _ rd,i4,hl,λH3 s3=>⟨λc=>?_,λc=>?_⟩⟩
    .refine⟨h.1.trans s3,?_⟩;rw[A8 hf,bp,bz (by exact c),YS];exact Ad.snoc (Ad.ev (Ev.same s3) _ _ h.2) (Aa.ev (Ev.same (h.1.trans s3)) _ _ rd)
    .refine⟨h.1.trans s3,?_⟩;rw[A8 hf,bp,c9 (by rw[show Bs T (f,l).1 (f,l).2=false from c];decide),List.filter_nil,bv];exact Ad.ev (Ev.same s3) _ _ h.2
   .intro m2 i0;rw [Z6 (by omega)] at O;have s2:=s1.trans (O.1.trans (Ab.new (o:= .lst G) i0));have J:=Ad.ev (Ev.new (p:=p) (o:= .lst G) i0) _ _ O.2;refine⟨m2,G,rfl,Af,⟨λc=>?_,λc=>?_⟩⟩
    .cases G with
     | nil=>cases c
     | cons y G=>
      refine⟨m2,_,0,y,rfl,rfl,Al.of Af,Dt (j:=0) rfl,q _ _ s2 ?_⟩;have eq:D3 T=(BH T.ds.length T.ds.length).filter λq=>Bs T q.1 q.2:=rfl
      unfold AZ;rw[<-eq]at J;cases z:D3 T with
      | nil=>rw[z]at J;have:=J.len;cases this
      | cons a l=>
       rw[z]at J;unfold Ad at J;obtain⟨x,t,e,rx,_⟩:=J;cases e;exact rx
    .cases G with
     | cons y G=>cases c
     | nil=>
      refine q _ _ s2 ?_;have eq:D3 T=(BH T.ds.length T.ds.length).filter λq=>Bs T q.1 q.2:=rfl
      unfold AZ;rw[<-eq]at J;cases z:D3 T with
      | nil=>exact Aa.non
      | cons a l=>rw[z]at J;have:=J.len;cases this
theorem zau:Az ["terms","floor","prices"] ["terms"] (Ar wat):=AC
theorem Xv(F:Df K mg "coal_under" wat ["terms"])(T:Tx mg)(B:Fn P w K mg base 3 "highest_floor" ["terms"] J8)(D:Fn P w K mg base 2 "least_stretch" ["terms"] HJ):Fn P w K mg base 4 "coal_under" ["terms"] Ka:=by
 refine F.fn zau @O1 λf dl A outer s H vs Q E G h=>?_
 refine⟨_,(Ak (Bj (A7 Qy (zB D G (Ai (cy 0))) V' (AV _)) (An (Ay V')) Bh) (Ak (Bz (zB B G (Ai (cy 0))) (AL K (n:=2) (Aj (Ag 1 zau.nd) (Aj (Ag 2 zau.nd) AJ)))) (An (Ay (cy 1))))),?_⟩;obtain⟨v,rfl⟩:=Dn (O1 h)
 .obtain⟨p,T,fl,r,q1,J⟩:=h;refine⟨p,T,fl.ok,r,λu H1 s1 ru=>?_⟩;cases z:AZ T with
  | none=>
   rw[z]at ru;have O:u= .non:=by unfold Fc at ru;unfold Aa at ru;exact ru
   subst O;refine⟨rfl,⟨λc=>by simp at c,λ_=>?_⟩⟩;refine⟨p,T,fl,Aa.ev (Ev.same s1) _ _ r,λy H2 f ps s2 ry hf=>?_⟩;obtain⟨a,b,rfl,ha,hb⟩:=Aa.tailShape ry;exact⟨a,_,rfl,Ae.of ha,rfl,_,_,rfl,_,_,rfl,rfl,J z f ps H2 hf (s1.trans s2)⟩
  | some s0=>
   rw[z]at ru;have Z:u≠ .non:=by
    obtain⟨A,eA,_⟩:=Aa.pair ru;rw[eA];intro e;cases e
   refine⟨rfl,⟨λ_=>q1 (by rw[z];simp) H1 s1,λc=>?_⟩⟩;simp[Z]at c
end
section
variable{H:Hp}{G F:yZ}{p:yR}{S:SY}{i:Nat}
theorem Xw{y:Type}(n:Nat)(x:y):(List.replicate n [x]).flatten=List.replicate n x:=by
 induction n with
 | zero=>rfl
 | succ n ih=>rw[aZ,de,ih,aZ];rfl
def Feed(H:Hp)(G:yZ)(f:V):Prop:=∃A y,f= .ref A/\y.length=G.length/\
 ((H A=some (.tup y)/\∀(i:Nat) r x,G[i]? =some r->y[i]? =some x->∃a,x= .ref a/\H a=some (.tup (r.map V.int)))\/(H A=some (.lst y)/\∀(i:Nat) r x,G[i]? =some r->y[i]? =some x->∃a,x= .ref a/\H a=some (.lst (r.map V.int))))
theorem Feed.same{H':Hp}{f:V}(x:Feed H G f)(s:Ab H H'):Feed H' G f:=by
 obtain⟨A,D,e,J,h⟩:=x;refine⟨A,D,e,J,h.elim (λh=> .inl ⟨s _ _ h.1,λi r x y B=>?_⟩) λh=> .inr ⟨s _ _ h.1,λi r x y B=>?_⟩⟩
 .obtain⟨a,e,k⟩:=h.2 i r x y B;exact⟨a,e,s _ _ k⟩
 .obtain⟨a,e,k⟩:=h.2 i r x y B;exact⟨a,e,s _ _ k⟩
theorem Aa.firing{v:V}(r:Aa p H (FD F) v):∃A xs,v= .ref A/\H A=some (.tup xs)/\Ad p H (F.map AR) xs:=Aa.shape r
theorem Aa.ofRow{p:yR}{H:Hp}{r:yV}{v:V}(h:Aa p H (AR r) v):∃A,v= .ref A/\H A=some (.tup (r.map V.int)):=by
 obtain⟨A,D,rfl,y,B⟩:=Aa.shape h;rw[Ad.ints B]at y;exact⟨A,rfl,y⟩
theorem Feed.of{f:V}(r:Aa p H (FD G) f):Feed H G f:=by
 obtain⟨A,J,rfl,K,B⟩:=Aa.firing r;have l:=B.len;rw[Y2]at l;refine⟨A,J,rfl,l.symm,.inl ⟨K,λi r x D Z=>?_⟩⟩;obtain⟨r',y,O⟩:=Ad.mapGot B Z;rw[D]at y;cases y;exact Aa.ofRow O
noncomputable def Dp(P:PL)(S:SY)(F:yZ)(k:Nat):yV:=(List.range k).map λj=>Bn P S F (j+1)
theorem O2{P:PL}{k:Nat}:Dp P S F (k+1)=Dp P S F k++[Bn P S F (k+1)]:=by unfold Dp;rw[bA,YS];rfl
theorem Kb{P:PL}{k:Nat}:(Dp P S F k).length=k:=by unfold Dp;simp
theorem HK{P:PL}{r d:Int}(y:made F i=r)(hd:EB P S i=d):(if Bn P S F i+r-d<P.hi then Bn P S F i+r-d else P.hi)=Bn P S F (i+1):=by
 rw[FQ];unfold BP E9;rw[y,hd];split<;>split<;>omega
theorem HL{P:PL}(h:P.lo<=P.hi):Bn P S F (i+1)<P.lo↔BP P S F i<P.lo:=by
 rw[FQ];unfold E9;split<;>omega
def Kc(P:PL)(S:SY)(F:yZ):Prop:=∀i,i<S.ex.length->P.lo<=BP P S F i
def Kd:Sp:=λB H Q _=>match B with | [.ref m,d,f]=>∃p P S F,P.lo<=P.hi/\S.ex.length<=8/\F.length=S.ex.length/\H m=some (.tup [.int P.lo,.int P.hi,.int P.st])/\Aa p H (Jb P S) d/\Feed H F f/\∀R y k s,Sm P S F k s->Ab H y->H R=none->y R=some (.lst ((Dp P S F k).map V.int))->Q (.ref R) y | _=>False
def Ke:Sp:=λB H Q _=>match B with | [v,u,f]=>∃p P S F,PL.ok P/\SY.ok S P.bs.length/\F.length=S.ex.length/\Aa p H P.d v/\Aa p H S.d u/\Feed H F f/\∀b y,(b=true↔Kc P S F)->Ab H y->Q (.bl b) y | _=>False
def Kf:Sp:=λB H Q _=>match B with | [.ref p,.int m,.int h]=>A6 p H/\1<=m/\m<=4/\1<=h/\h<=8/\∀t y P S v u,PL.ok P->SY.ok S P.bs.length->Kc P S (caps P S)->y t=some (.tup [v,u])->Aa p y P.d v->Aa p y S.d u->Ev p H y->A6 p y->Q (.ref t) y | _=>False
theorem O3{vs H Q E}(h:Kd vs H Q E):vs.length=3:=by rcases vs with _ | ⟨y,_ | ⟨_,_ | ⟨_,_ | _⟩⟩⟩<;>first | rfl | cases h | skip;all_goals (cases y<;>first | cases h | skip)
theorem O4{vs H Q E}(h:Ke vs H Q E):vs.length=3:=by rcases vs with _ | ⟨_,_ | ⟨_,_ | ⟨_,_ | _⟩⟩⟩<;>first | rfl | cases h
theorem O5{vs H Q E}(h:Kf vs H Q E):vs.length=3:=by rcases vs with _ | ⟨B,_ | ⟨D,_ | ⟨y,_ | _⟩⟩⟩<;>first | rfl | cases h | skip;all_goals (cases B<;>first | cases h | skip);all_goals (cases D<;>first | cases h | skip);all_goals (cases y<;>first | cases h | skip)
theorem CMul.of_bounds{i j:Int}(h0:0<=j)(y:j<100):CMul i j:= .inr ⟨by omega,by omega⟩
theorem Xx{P:PL}(ok:P.ok)(so:S.ok P.bs.length)(K:P.es=[])(y:∀a∈S.ex,a=0)(hF:autoParam (F=caps P S) L3):Kc P S F:=by
 subst hF;have hd:∀i,i<S.ex.length->EB P S i=0:=λi hi=>by
  have z:S.ex[i]? =some S.ex[i]:=Y6 hi;rw[FS (Jf z),K,y _ (ZL hi)];rfl
 have D:∀i,i<S.ex.length->0<=made (caps P S) i:=λi hi=>by
  have B:=Je (P:=P) hi;rw[FR B];have Z:=(Jh (S:=S) ok _ (YW B)).1;have:∀l:yV,(∀a∈l,0<=a/\a<=9)->0<=l.sum:=λl=>by
   induction l with
   | nil=>intro _;exact Za _
   | cons a l ih=>
    intro h;have J:=h a YR;have G:=ih λx y=>h x (YQ _ y)
    rw[bF];omega
  exact this _ Z
 have O:∀i,i<=S.ex.length->P.lo<=Bn P S (caps P S) i:=λi=>by
  induction i with
  | zero=>intro _;exact ok.ls
  | succ i ih=>
   intro hi;have h0:=ih (by omega);have J:=hd i (by omega);have G:=D i (by omega);have h3:=ok.ls;have h4:=ok.sh;rw[FQ];unfold BP E9;split<;>omega
 intro i hi;have h0:=O i (by omega);have J:=hd i hi;have G:=D i hi;unfold BP;omega
theorem Xy{l:yV}{k:Nat}{x:Int}(h:l[k]? =some x):(l.take (k+1)).sum=(l.take k).sum+x:=by rw[A8 h,cA,bF,sum_nil];omega
variable{P:yP}{w:yN}{K:Fgx}{mg:Str -> yW}{base:Heap}
theorem za8:Az ["_law_plant_here","_law_story_here","_law_found","_law_hour","_law_extra","_law_draw_here","_law_first","_law_every"] ["_law_plant_here","_law_story_here"] (Ar waK):=AC
abbrev HM(P:yP)(w:yN)(K:Fgx)(mg:Str->yW)(base:Heap):Prop:=Fn P w K mg base 1 "_law_draws" ["_law_plant_here","_law_story_here"] ON
theorem Xz(F:Df K mg "_law_draws" waK ["_law_plant_here","_law_story_here"])(T:Tx mg):HM P w K mg base:=by
 refine F.fn za8 @OQ λf dl A outer s H vs Q E hr h=>?_
 refine⟨_,(Ak (zC 2 za8.nd (BU pa_nil)) (Ak (Bl Z8 rfl (E7 P w K rfl T.b_enumerate (Ai (AH (A4 K) (cy 1) R' (λ_ _=>rfl)))) (AL K (n:=2) (Aj (Ag 3 za8.nd) (Aj (Ag 4 za8.nd) AJ))) (Ak (Bl Z8 rfl (BW K (AH (A4 K) (cy 0) R' (λ_ _=>rfl))) (AL K (n:=3) (Aj (Ag 5 za8.nd) (Aj (Ag 6 za8.nd) (Aj (Ag 7 za8.nd) AJ)))) (An (zC 4 za8.nd (Ax A1 (cy 4) (Ax DX (cy 5) (BA Iv rfl T.b_int L2.boot_int (Ai (Cw (DZ K) (cy 3) (SV rfl rfl T.b_list rfl T.b_range (AQ (cy 6) R' (cy 7))) (by with_unfolding_all rfl))))))))) (An (Cv (C4 zE zF zG Dv (cy 2) (Ai (cy 4))))))) (An (Ay (BA (B3 K) rfl T.b_tuple BN (Ai (cy 2))))))),?_⟩;obtain⟨v,u,rfl⟩:=By (OQ h)
 .obtain⟨p,P,S,ok,so,r,ru,q⟩:=h;obtain⟨A,B,E,xf,rfl,hA,hB,hE,rf⟩:=Aa.story ru;obtain⟨PA,PB,PE,PM,xb,xe,rfl,pA,pB,rb,pE,re,pM⟩:=Aa.plant r;have x8:=so.x8;have e4:=ok.e4;have le:=re.len;rw[Y2]at le;intro R hR;have s0:Ab H (upd H R (.lst [])):=Ab.new hR;refine⟨A,_,0,.ref B,rfl,rfl,Ae.of (s0 _ _ hA),rfl,B,rfl,⟨_,Ae.of (s0 _ _ hB)⟩,for_enum (xs:=S.ex.map V.int) (λi y H1=>(∃y3 y4 G J D,y=[some (.ref PA),some (.ref A),some (.ref R),y3,y4,G,J,D])/\Ab H H1/\H1 R=some (.lst (((draws P S).take i).map V.int)))
   ⟨⟨_,_,_,_,_,rfl⟩,s0,Af⟩ (λi y H1 h=>Ae.of (h.2.1 _ _ hB)) (λi x y H1 T Z h hT=>?_) fun y H1 h=>?_⟩
  .obtain⟨⟨y3,y4,G,J,D,rfl⟩,s1,O⟩:=h;rw [YU] at Z;cases z:S.ex[i]? with
   | none=>rw[z]at Z;cases Z
   | some n=>
    rw[z]at Z;cases Z;have hi:i<S.ex.length:=(Y9.mp z).1;have nT:=Ab.new (o:= .tup [.int i,.int n]) hT;have s2:=s1.trans nT;refine⟨T,_,rfl,Ae.of Af,rfl,_,_,rfl,_,_,rfl,rfl,?_⟩;refine⟨PA,_,1,.ref PE,rfl,rfl,Ae.of (s2 _ _ pA),rfl,PE,rfl,⟨xe,Ae.of (s2 _ _ pE)⟩,Qt (xs:=xe) (λk y H2=>(∃G J D,y=[some (.ref PA),some (.ref A),some (.ref R),some (.int i),some (.int (n+((P.es.map λe=>drawn e i).take k).sum)),G,J,D])/\Ab (upd H1 T (.tup [.int i,.int n])) H2)
     ⟨⟨_,_,_,Zz (λz=>[some (V.ref PA),some (.ref A),some (.ref R),some (.int i),some (.int z),G,J,D]) (Int.add_zero n).symm⟩,Ab.refl _⟩ (λk y H2 _ h=>Ae.of (h.2 _ _ (s2 _ _ pE))) (λk x y H2 Z h=>?_) fun y H2 h=>?_⟩
    .obtain⟨⟨G,J,D,rfl⟩,s3⟩:=h;obtain⟨e,he,rd⟩:=Ad.mapGot re Z;obtain⟨o1,o2,o3,o4,o5,o6⟩:=ok.e e (YW he);obtain⟨a,zs,rfl,ha,rz⟩:=Aa.shape (Aa.ev (Ev.same (s2.trans s3)) _ _ rd);obtain⟨w1,w2,w3,rfl,r1,r2,r3⟩:=Ad.three rz;unfold Aa at r1 r2 r3;subst r1 r2 r3;refine⟨a,_,rfl,Ae.of ha,rfl,_,_,rfl,_,_,rfl,_,_,rfl,rfl,?_⟩;refine⟨_,_,_,rfl,⟨by omega,by omega,by omega,by omega,by omega,by omega⟩,λl hl=>⟨l,_,rfl,.inl (Al.of Af),rfl,SW,.inr ⟨_,rfl,CMul.of_bounds (by split<;>omega) (by split<;>omega),⟨some (.int e.1),some (.int e.2.1),some (.int e.2.2),?_⟩,s3.trans (Ab.new hl)⟩⟩⟩;have e1:e.1 *(if (if false=true then !BL (V.int (i:Int)) ((DD e.2.1 8 e.2.2).map V.int) else BL (V.int (i:Int)) ((DD e.2.1 8 e.2.2).map V.int))=true then 1 else 0)=drawn e i:=by
      have ei:(if false=true then !BL (V.int (i:Int)) ((DD e.2.1 8 e.2.2).map V.int) else BL (V.int (i:Int)) ((DD e.2.1 8 e.2.2).map V.int))=BL (V.int (i:Int)) ((DD e.2.1 8 e.2.2).map V.int):=rfl;rw[ei,SX o5 (by omega)];unfold drawn
      by_cases c:(i:Int)<e.2.1\/((i:Int)-e.2.1) % e.2.2≠0
      .rw[YN c,Zh (λz=>z c),Y8 (by decide),bj]
      .rw[Y8 c,Z9 c,YN rfl,Int.mul_one]
     have e2:n+((P.es.map λe=>drawn e i).take k).sum+drawn e i=n+((P.es.map λe=>drawn e i).take (k+1)).sum:=by
      rw[Xy (x:=drawn e i) (by rw[YU,he];rfl)];omega
     exact Zz (λz=>[some (V.ref PA),some (.ref A),some (.ref R),some (.int i),some (.int z),some (.int e.1),some (.int e.2.1),some (.int e.2.2)]) ((Zz (λz=>n+((P.es.map λe=>drawn e i).take k).sum+z) e1).trans e2)
    .obtain⟨⟨G,J,D,rfl⟩,s3⟩:=h;rw[Z6 (l:=P.es.map λe=>drawn e i) (by rw[Y2];omega)];have kR:=(nT.trans s3) _ _ O;refine⟨.inl ⟨rfl,_,Al.of kR⟩,R,_,_,rfl,rfl,kR,Ej (by rw[Y2,Zk];omega),⟨_,_,_,_,_,rfl⟩,Ab.own (s2.trans s3) hR,?_⟩;rw[Af,A8 (Jf z),YS];rfl
  .obtain⟨⟨y3,y4,G,J,D,rfl⟩,s1,O⟩:=h;refine⟨R,_,rfl,.inl ⟨Al.of O,λt ht=>q _ _ (s1.trans (Ab.new ht)) (Aa.row ?_)⟩⟩;rw[Af,Z6 (by rw[Dh,Y2];exact Y5 _)]
theorem za9:Az ["_law_main","_law_draws_here","_law_firing","_law_low","_law_high","_law_here","_law_found","_law_draw_here","_law_row"] ["_law_main","_law_draws_here","_law_firing"] (Ar waL):=AC
theorem XA(F:Df K mg "_law_mains" waL ["_law_main","_law_draws_here","_law_firing"])(T:Tx mg):Fn P w K mg base 1 "_law_mains" ["_law_main","_law_draws_here","_law_firing"] Kd:=by
 refine F.fn za9 @O3 λf dl A outer s H vs Q E hr h=>?_
 refine⟨_,(Ak (Bz (cy 0) (AL K (n:=3) (Aj (Ag 3 za9.nd) (Aj (Ag 4 za9.nd) (Aj (Ag 5 za9.nd) AJ))))) (Ak (zC 6 za9.nd (BU pa_nil)) (Ak (Bl Z8 rfl (Mw (I9 P w K rfl T.b_zip (Aq (cy 1) (cy 2))) (R3 P w K rfl T.b_zip (Aq (cy 1) (cy 2)))) (AL K (n:=2) (Aj (Ag 7 za9.nd) (Aj (Ag 8 za9.nd) AJ))) (Ak (zC 5 za9.nd (AD (Gq rfl) rfl T.b_min gj (Aq (cy 4) (Ax Cf (Ax A1 (cy 5) (AD (FP rfl) rfl T.b_sum cV (Ai (cy 8)))) (cy 7))))) (Ak (Bj (A7 Dz (cy 5) (cy 3) (AV _)) (An (Ay (cy 6))) Bh) (An (Cv (C4 zE zF zG Dv (cy 6) (Ai (cy 5)))))))) (An (Ay (cy 6)))))),?_⟩;obtain⟨z0,d,f,rfl⟩:=CG (O3 h);cases z0<;>try exact False.elim h
 rename_i m
 .obtain⟨p,P,S,F,i5,x8,fl,hm,rd,fd,q⟩:=h;refine⟨m,_,rfl,Ae.of hm,rfl,_,_,rfl,_,_,rfl,_,_,rfl,rfl,λR hR=>?_⟩;have sR:=Ab.new (o:= .lst []) hR;have G:H R=none:=hR;obtain⟨D,rfl,hD⟩:=Aa.ofRow (r:=draws P S) (Aa.ev (Ev.same sR) _ _ rd);have i9:=fd.same sR;have i8:upd H R (.lst []) R=some (.lst []):=Af;have i0:=sR;generalize upd H R (.lst [])=H2 at *;have ld:((draws P S).map V.int).length=S.ex.length:=by rw[Y2,Dh]
  obtain⟨GA,gx,rfl,lg,⟨hG,i4⟩ | ⟨hG,i4⟩⟩:=i9
  .refine Or.inl ⟨D,GA,rfl,⟨_,Ae.of hD⟩,⟨_,Ae.of hG⟩,Jl (xs:=(draws P S).map V.int) (ys:=gx) (λi σ Z=>(∃y7 y8,σ=[some (.ref m),some (.ref D),some (.ref GA),some (.int P.lo),some (.int P.hi),some (.int (Bn P S F i)),some (.ref R),y7,y8])/\Ev R H2 Z/\(∀j,j<i->P.lo<=BP P S F j)/\Z R=some (.lst ((Dp P S F i).map V.int))) (by omega)
     ⟨⟨_,_,rfl⟩,Ev.refl,(λj hj=>absurd hj (Zs _)),i8⟩ (λi σ Z h=>⟨Ae.of (h.2.1.tup hD),Ae.of (h.2.1.tup hG)⟩) (λi x y σ Z T hx hy h hT=>?_) fun σ Z h=>?_⟩
   .obtain⟨⟨y7,y8,rfl⟩,ev,up,B⟩:=h;rw [YU] at hx;cases z:(draws P S)[i]? with
    | none=>rw[z]at hx;cases hx
    | some d0=>
     rw[z]at hx;cases hx;have hi:i<S.ex.length:=by have:=(Y9.mp z).1;rw[Dh]at this;exact this
     obtain⟨r,hr⟩:∃r,F[i]? =some r:=⟨F[i],by simp⟩;obtain⟨ra,rfl,i6⟩:=i4 i r y hr hy;have nT:=Ab.new (o:= .tup [.int d0,.ref ra]) hT;have O:Ev R H2 (upd Z T (.tup [.int d0,.ref ra])):=ev.trans (Ev.same nT);refine⟨T,_,rfl,Ae.of Af,rfl,_,_,rfl,_,_,rfl,rfl,ra,r,rfl,.inr (O.tup i6),_,_,rfl,⟨λc=>?_,λc=>?_⟩⟩
     .have J:=Z0 c;have J:(if Bn P S F i+r.sum-d0<P.hi then Bn P S F i+r.sum-d0 else P.hi)<P.lo:=J;rw[HK (FR hr) (FS z)]at J;exact q R _ i (some ((i:Int),P.lo-BP P S F i)) ⟨ZH hi,up,.inr ⟨hi,(HL i5).mp J,rfl⟩⟩ (Ab.evOwn i0 G O) G (nT _ _ B)
     .have J:=ZD c;have J:¬(if Bn P S F i+r.sum-d0<P.hi then Bn P S F i+r.sum-d0 else P.hi)<P.lo:=J;have em:=HK (FR hr) (FS z);rw [em] at J;have kR:=nT _ _ B;refine⟨.inl ⟨rfl,_,Al.of kR⟩,R,_,_,rfl,rfl,kR,Ej (by rw [Y2,Kb];omega),⟨some (.int d0),some (.ref ra),Zz (λz=>[some (V.ref m),some (.ref D),some (.ref GA),some (.int P.lo),some (.int P.hi),some (.int z),some (.ref R),some (.int d0),some (.ref ra)]) em⟩,O.trans (Ev.pen kR),λj hj=>?_,?_⟩
      .by_cases cj:j=i
       .subst cj;exact eN.mp λw=>J ((HL i5).mpr w)
       .exact up j (by omega)
      .rw[Af,O2,YS];exact Zz (λz=>some (HO.lst ((Dp P S F i).map V.int++[V.int z]))) em
   .obtain⟨⟨y7,y8,rfl⟩,ev,up,B⟩:=h;rw[Y2,Dh]at up B;exact q R Z S.ex.length none ⟨Y5 _,up,.inl ⟨rfl,rfl⟩⟩ (Ab.evOwn i0 G ev) G B
  .have nG:GA≠R:=λe=>by
    subst e;obtain⟨A',j0,eA,_,z⟩:=fd;cases eA;rcases z with z | z<;>(rw[G]at z;cases z.1)
   have i7:∀(i:Nat) g a,F[i]? =some g->gx[i]? =some (.ref a)->a≠R:=λi g a hg hy e=>by
    subst e;obtain⟨A',j0,eA,j3,z⟩:=fd;cases eA;rcases z with⟨z1,z2⟩ | ⟨z1,z2⟩
    .have:=i0 _ _ z1;rw[hG]at this;cases this
    .have:=i0 _ _ z1;rw[hG]at this;cases this;obtain⟨a',e',k⟩:=z2 i g _ hg hy;cases e';rw[G]at k;cases k
   refine Or.inr ⟨D,GA,rfl,⟨_,Ae.of hD⟩,⟨_,Al.of hG⟩,Jl (xs:=(draws P S).map V.int) (ys:=gx) (λi σ Z=>(∃y7 y8,σ=[some (.ref m),some (.ref D),some (.ref GA),some (.int P.lo),some (.int P.hi),some (.int (Bn P S F i)),some (.ref R),y7,y8])/\Ev R H2 Z/\(∀j,j<i->P.lo<=BP P S F j)/\Z R=some (.lst ((Dp P S F i).map V.int))) (by omega)
     ⟨⟨_,_,rfl⟩,Ev.refl,(λj hj=>absurd hj (Zs _)),i8⟩ (λi σ Z h=>⟨Ae.of (h.2.1.tup hD),Al.of (h.2.1.lst hG nG)⟩) (λi x y σ Z T hx hy h hT=>?_) fun σ Z h=>?_⟩
   .obtain⟨⟨y7,y8,rfl⟩,ev,up,B⟩:=h;rw [YU] at hx;cases z:(draws P S)[i]? with
    | none=>rw[z]at hx;cases hx
    | some d0=>
     rw[z]at hx;cases hx;have hi:i<S.ex.length:=by have:=(Y9.mp z).1;rw[Dh]at this;exact this
     obtain⟨r,hr⟩:∃r,F[i]? =some r:=⟨F[i],by simp⟩;obtain⟨ra,rfl,i6⟩:=i4 i r y hr hy;have nT:=Ab.new (o:= .tup [.int d0,.ref ra]) hT;have O:Ev R H2 (upd Z T (.tup [.int d0,.ref ra])):=ev.trans (Ev.same nT);refine⟨T,_,rfl,Ae.of Af,rfl,_,_,rfl,_,_,rfl,rfl,ra,r,rfl,.inl (O.lst i6 (i7 i r ra hr hy)),_,_,rfl,⟨λc=>?_,λc=>?_⟩⟩
     .have J:=Z0 c;have J:(if Bn P S F i+r.sum-d0<P.hi then Bn P S F i+r.sum-d0 else P.hi)<P.lo:=J;rw[HK (FR hr) (FS z)]at J;exact q R _ i (some ((i:Int),P.lo-BP P S F i)) ⟨ZH hi,up,.inr ⟨hi,(HL i5).mp J,rfl⟩⟩ (Ab.evOwn i0 G O) G (nT _ _ B)
     .have J:=ZD c;have J:¬(if Bn P S F i+r.sum-d0<P.hi then Bn P S F i+r.sum-d0 else P.hi)<P.lo:=J;have em:=HK (FR hr) (FS z);rw [em] at J;have kR:=nT _ _ B;refine⟨.inl ⟨rfl,_,Al.of kR⟩,R,_,_,rfl,rfl,kR,Ej (by rw [Y2,Kb];omega),⟨some (.int d0),some (.ref ra),Zz (λz=>[some (V.ref m),some (.ref D),some (.ref GA),some (.int P.lo),some (.int P.hi),some (.int z),some (.ref R),some (.int d0),some (.ref ra)]) em⟩,O.trans (Ev.pen kR),λj hj=>?_,?_⟩
      .by_cases cj:j=i
       .subst cj;exact eN.mp λw=>J ((HL i5).mpr w)
       .exact up j (by omega)
      .rw[Af,O2,YS];exact Zz (λz=>some (HO.lst ((Dp P S F i).map V.int++[V.int z]))) em
   .obtain⟨⟨y7,y8,rfl⟩,ev,up,B⟩:=h;rw[Y2,Dh]at up B;exact q R Z S.ex.length none ⟨Y5 _,up,.inl ⟨rfl,rfl⟩⟩ (Ab.evOwn i0 G ev) G B
theorem XB:Az ["_law_plant_here","_law_story_here","_law_firing"] ["_law_plant_here","_law_story_here","_law_firing"] (Ar waM):=AC
theorem XC(F:Df K mg "_law_keeps" waM ["_law_plant_here","_law_story_here","_law_firing"])(T:Tx mg)(y:HM P w K mg base)(O:Fn P w K mg base 1 "_law_mains" ["_law_main","_law_draws_here","_law_firing"] Kd):Fn P w K mg base 2 "_law_keeps" ["_law_plant_here","_law_story_here","_law_firing"] Ke:=by
 refine F.fn XB @O4 λf dl A outer s H vs Q E hr h=>?_
 refine⟨_,(An (Ay (Cw Dq (AD (BV K) rfl T.b_len zH (Ai (zB O hr (AQ (AH (A4 K) (cy 0) R' (λ_ _=>rfl)) (zB y hr (Aq (cy 0) (cy 1))) (cy 2))))) (AD (BV K) rfl T.b_len zH (Ai (cy 2))) (AV _)))),?_⟩;obtain⟨v,u,f,rfl⟩:=CG (O4 h)
 .obtain⟨p,P,S,F,ok,so,fl,r,ru,fd,q⟩:=h;have x8:=so.x8;have hl:P.lo<=P.hi:=ay ok.ls ok.sh;obtain⟨PA,PB,PE,PM,xb,xe,rfl,pA,pB,rb,pE,re,pM⟩:=Aa.plant r;refine⟨PA,_,2,.ref PM,rfl,rfl,Ae.of pA,rfl,p,P,S,ok,so,r,ru,λd H1 s1 rd=>⟨p,P,S,F,hl,x8,fl,s1 _ _ pM,rd,fd.same s1,λR H2 k s run s2 hR G=>?_⟩⟩;have J:=(fd.same (s1.trans s2));obtain⟨Z,B,rfl,lg,D⟩:=J;have kg:Al K H2 Z B\/Ae K H2 Z B:=D.elim (λz=> .inr (Ae.of z.1)) λz=> .inl (Al.of z.1)
  refine⟨R,_,rfl,.inl (Al.of G),Z,B,rfl,kg,rfl,?_⟩;refine q _ _ ?_ (s1.trans s2);rw[Y2,Kb,lg,fl];constructor
  .intro c i hi;have e:(k:Int)=(S.ex.length:Int):=by
    have:=Z0 c;injection this
   exact run.up i (by omega)
  .intro kp;refine Z9 ?_;rcases run.fin with⟨_,e⟩ | ⟨e1,e2,_⟩
   .rw[e]
   .have:=kp k e1;omega
theorem zam:Az ["_law_pen_here","_law_most","_law_hours","_law_turn","_law_plant_here","_law_story_here"] ["_law_pen_here","_law_most","_law_hours"] (Ar waQ):=AC
theorem XD(F:Df K mg "_law_pair" waQ ["_law_pen_here","_law_most","_law_hours"])(T:Tx mg)(i9:HH P w K mg base)(j0:Fn P w K mg base 2 "_law_keeps" ["_law_plant_here","_law_story_here","_law_firing"] Ke)(i8:Fn P w K mg base 2 "_law_plant" ["_law_pen_here","_law_most"] HE)(i7:Fn P w K mg base 2 "_law_story" ["_law_pen_here","_law_plant_here","_law_most"] HG):Fn P w K mg base 3 "_law_pair" ["_law_pen_here","_law_most","_law_hours"] Kf:=by
 refine F.fn zam @O5 λf dl A outer s H vs Q E hr h=>?_
 refine⟨_,(Ak (Bl Z8 rfl (B0 rfl T.b_range (Ai R')) (Ag 3 zam.nd) (Ak (zC 4 zam.nd (zB i8 hr (Aq (cy 0) (cy 1)))) (Ak (zC 5 zam.nd (zB i7 hr (AQ (cy 0) (cy 4) (cy 2)))) (An (Bj (BM (zB j0 hr (AQ (cy 4) (cy 5) (zB i9 hr (Aq (cy 4) (cy 5)))))) (An (Ay (BT (Aq (cy 4) (cy 5))))) Bh))))) (An (Ay (BT (Aq (Ax GL (EW wa1 (cy 4) Iy (Ds R')) (BT (Aq (BT pa_nil) (AH (A4 K) (cy 4) R' (λ_ _=>rfl))))) (BT (Aq (Ax Sr (BT (Ai R')) (AD (BV K) rfl T.b_len zH (Ai (AH (A4 K) (cy 5) R' (λ_ _=>rfl))))) (AH (A4 K) (cy 5) R' (λ_ _=>rfl))))))))),?_⟩;obtain⟨z0,z1,z2,rfl⟩:=CG (O5 h);cases z0<;>try exact False.elim h
 cases z1<;>try exact False.elim h
 cases z2<;>try exact False.elim h
 rename_i p m h
 .obtain⟨pn,m1,m4,h1,h8,q⟩:=h;refine⟨5,rfl,by decide,by decide,CY (n:=5) (λi σ H'=>(∃x3 x4 x5,σ=[some (.ref p),some (.int m),some (.int h),x3,x4,x5]/\(0<i->∃v u P S,x4=some v/\x5=some u/\PL.ok P/\SY.ok S P.bs.length/\Aa p H' P.d v/\Aa p H' S.d u))/\Ev p H H'/\A6 p H') ⟨⟨_,_,_,rfl,λz=>absurd z (YX _)⟩,Ev.refl,pn⟩ (λi σ H1 hi hP=>?_) fun σ H1 hP=>?_⟩
  .obtain⟨⟨x3,x4,x5,rfl,_⟩,e1,J⟩:=hP;refine⟨J,m1,m4,λv H2 bs es lo hi st gp rv e2 j5=>?_⟩;obtain⟨P,ok,eP⟩:=gp.pl;rw [eP] at rv;refine⟨j5,h1,h8,P,ok,rv,λu H3 S so ru e3 i6=>?_⟩;have G:=Aa.ev e3 _ _ rv;refine⟨p,P,S,ok,so,G,ru,λc H4 s4 rc=>⟨p,P,S,caps P S,ok,so,E8,Aa.ev (Ev.same s4) _ _ G,Aa.ev (Ev.same s4) _ _ ru,Feed.of rc,λb H5 hb s5=>⟨λcc=>?_,λcc=>?_⟩⟩⟩
   .intro t ht;have n1:=Ab.new (o:= .tup [v,u]) ht;have y:=s4.trans (s5.trans n1);exact q t _ P S v u ok so (hb.mp cc) Af (Aa.ev (Ev.same y) _ _ G) (Aa.ev (Ev.same y) _ _ ru) (e1.trans (e2.trans (e3.trans (Ev.same y)))) (i6.same y)
   .have y:=s4.trans s5;exact⟨⟨_,_,_,rfl,λ_=>⟨v,u,P,S,rfl,rfl,ok,so,Aa.ev (Ev.same y) _ _ G,Aa.ev (Ev.same y) _ _ ru⟩⟩,e1.trans (e2.trans (e3.trans (Ev.same y))),i6.same y⟩
  .obtain⟨⟨x3,x4,x5,rfl,hh⟩,e1,J⟩:=hP;obtain⟨v,u,P,S,rfl,rfl,ok,so,rv,ru⟩:=hh (by decide);obtain⟨A,B,E,xf,rfl,hA,hB,hE,rf⟩:=Aa.story ru;obtain⟨PA,PB,PE,PM,xb,xe,rfl,pA,pB,rb,pE,re,pM⟩:=Aa.plant rv;have x8:=so.x8;have x1:=so.x1;refine⟨1,rfl,PA,_,rfl,pA,λu1 H2 s2 k2 z1 j8=>?_⟩;have n1:=Ab.new (o:= .tup []) j8;refine⟨PA,_,2,.ref PM,rfl,rfl,Ae.of ((s2.trans n1) _ _ pA),rfl,λz2 j6=>?_⟩;have n2:=Ab.new (o:= .tup [.ref z1,.ref PM]) j6;have j3:=s2.trans (n1.trans n2);refine⟨u1,z2,_,_,rfl,rfl,(n1.trans n2) _ _ k2,Af,(show(1:Nat)+2<=1000 by decide),λu3 H3 s3 k3 z3 l6=>?_⟩;have n3:=Ab.new (o:= .tup [.int 0]) l6;have O:=j3.trans (s3.trans n3);refine⟨A,_,0,.ref B,rfl,rfl,Ae.of (O _ _ hA),rfl,B,_,rfl,.inr (Ae.of (O _ _ hB)),z3,_,[.int 0],rfl,rfl,Af,by simp,(by rw [Y2];omega),(by rw [Y2];omega),by simp,λu4 H4 s4 k4=>?_⟩;rw [Y2,cF,Xw] at k4;have i5:=O.trans s4;refine⟨A,_,1,.ref E,rfl,rfl,Ae.of (i5 _ _ hA),rfl,λz5 j4 t ht=>?_⟩;have n5:=Ab.new (o:= .tup [.ref u4,.ref E]) j4;have n6:=Ab.new (o:= .tup [.ref u3,.ref z5]) ht;have D:=i5.trans (n5.trans n6)
   let P':PL:=⟨P.bs,[],P.lo,P.hi,P.st⟩
   let S':SY:=⟨List.replicate S.ex.length 0,S.fs⟩
   have i0:PL.ok P':=⟨ok.b,ok.b1,ok.b4,λ_ z=>(by cases z),Z1 _,ok.lo0,ok.ls,ok.sh,ok.h4⟩;have Z:S'.ex.length=S.ex.length:=cN;have i4:SY.ok S' P'.bs.length:=⟨by rw[Z];exact so.x1,by rw[Z];exact so.x8,λa ha=>by rw[fg ha];omega,so.f4,λx hx=>by rw[Z];exact so.f x hx⟩;have j9:=((n2.trans (s3.trans (n3.trans (s4.trans (n5.trans n6))))) _ _ (Af (H:=H2) (a:=z1) (o:= .tup [])));refine q t _ P' S' (.ref u3) (.ref z5) i0 i4 (Xx i0 i4 rfl λa ha=>fg ha) Af ?_ ?_ (e1.trans (Ev.same D)) (J.same D)
   .have j7:=(n3.trans (s4.trans (n5.trans n6))) _ _ k3;refine Aa.tup (xs:=[.ref PB,.ref z1,.ref PM]) j7 (.cons (Aa.tup (D _ _ pB) (Ad.ev (Ev.same D) _ _ rb)) (.cons (Aa.tup j9 .nil) (.cons (Aa.tup (D _ _ pM) (.cons Aa.int (.cons Aa.int (.cons Aa.int .nil)))) .nil)))
   .have k5:=n6 _ _ (Af (H:=H4) (a:=z5) (o:= .tup [.ref u4,.ref E]));refine Aa.tup k5 (.cons (Aa.row ?_) (.cons (Aa.tup (D _ _ hE) (Ad.ev (Ev.same D) _ _ rf)) .nil));have:=(n5.trans n6) _ _ k4;rw[this,gy]
end
section
def sp_is_short_paper:Sp:=λB H Q _=>match B with | [v,x]=>∃p T d,TM.ok T/\Aa p H T.d v/\Aa p H d x/\((Bc d 3 3=false/\∀y,Ab H y->Q (.bl false) y)\/(∃q:Nat×Nat,d= .tuple [.str "short",.int q.1,.int q.2]/\q.1<=q.2/\q.2<T.ds.length/\∀y,Ab H y->Q (.bl (Bs T q.1 q.2)) y)) | _=>False
theorem O6{X:Cx}{j:Nat}{p q:Pos}:PE X (.UnaryOp .USub (.Constant (.int 1) j p) q) (tC (.int (-1))):=(Ip Ir R').weak fun y H Q z=>⟨1,rfl,z⟩
noncomputable def XE(n:Nat)(c:yV):yZ:=if c=[] then [] else BQ n (c.length-1)
noncomputable def XF(n:Nat)(T:TM)(c:yV):yQ:= .tuple [.str "lit",AR c,FD (only T c).cs,.tuple ((XE n c).map λd=>Fc (AZ (only T d)))]
def Ek(n:Nat)(b:Int):yV:=(Bp n).filter λx=>decide (x≠b)
noncomputable def HN(n:Nat)(T:TM):yV:=(Bp n).filter λb=> !Dl T (Ek n b)
def El(c:yV):Bool:=(List.range (c.length-1)).all λj=>decide (c.getD j 0<c.getD (j+1) 0)
theorem XG{a b:Int}{r:yV}:El (a::b::r)=(decide (a<b) && El (b::r)):=by
 unfold El;rw[show(a::b::r).length-1=r.length+1 from rfl,cJ,all_cons,dG]
 rfl
theorem Kg:∀c:yV,El c=true↔c.Pairwise (· < ·)
 | []=>by simp[El]
 | [a]=>by simp[El]
 | a::b::r=>by
  rw[XG,Z5,Zf,Kg (b::r),bq (a:=a)];constructor
  .rintro⟨h1,h2⟩;refine⟨λx y=>?_,h2⟩;rcases YY.mp y with rfl | y
   .exact h1
   .exact Int.lt_trans h1 ((bq.mp h2).1 x y)
  .rintro⟨h1,h2⟩;exact⟨h1 b (by simp),h2⟩
def HP:yQ->Int
 | .int i=>i
 | _=>0
noncomputable def CJ(n:Nat)(d:yQ):Bool:=Bc d 0 n &&(match d with | .tuple es=>(es.all λe=>Bb e 0 ((n:Int)-1)) && El (es.map HP) | _=>false)
theorem XH{e:yQ}{lo hi:Int}(h:Bb e lo hi=true):∃i,e= .int i/\lo<=i/\i<=hi:=by
 cases e with
 | int i=>
  unfold Bb at h;obtain⟨y,B⟩:=Zg.mp h;exact⟨i,rfl,Z0 y,Z0 B⟩
 | _=>cases h
theorem HQ{lo hi:Int}:∀ {es:List yQ},(es.all λe=>Bb e lo hi)=true->∃r:yV,es=r.map .int/\∀i∈r,lo<=i/\i<=hi
 | [],_=>⟨[],rfl,λi hi=>nomatch hi⟩
 | e::es,h=>by
  rw[all_cons,Zg]at h;obtain⟨r,rfl,b⟩:=HQ h.2;obtain⟨i,rfl,D,B⟩:=XH h.1;refine⟨i::r,rfl,λj y=>?_⟩;rcases YY.mp y with rfl | y
  .exact⟨D,B⟩
  .exact b j y
theorem ER{r:yV}:(r.map PyData.int).map HP=r:=by rw[ae];exact List.map_id' r
theorem O7{n:Nat}{d:yQ}(h:CJ n d=true):∃c,d=AR c/\IsSet n c:=by
 unfold CJ at h;obtain⟨D,y⟩:=Zg.mp h;obtain⟨es,rfl,_,_⟩:=OR D;obtain⟨B,h4⟩:=Zg.mp y;obtain⟨r,rfl,b⟩:=HQ B;rw[ER]at h4;exact⟨r,rfl,(Kg r).mp h4,λx G=>by have:=b x G;omega⟩
theorem HR{n:Nat}{c:yV}(st:IsSet n c):CJ n (AR c)=true:=by
 have l:=st.len;unfold CJ AR;dsimp only;rw[Gf (by rw[Y2];omega) (by rw[Y2];omega),ER,(Kg c).mpr st.up,bQ,gA,dG,ZF];intro x y;have:=st.bd x y;exact CI this.1 (by omega)
def Kh:Sp:=λB H Q _=>match B with | [x]=>∃p c,c.length<=1000/\Aa p H (AR c) x/\∀y,Ab H y->Q (.bl (El c)) y | _=>False
def Ki:Sp:=λB H Q _=>match B with | [.int m,x]=>∃p n d,m=((n:Nat):Int)/\n<=4/\Aa p H d x/\∀b y,b=CJ n d->Ab H y->Q (.bl b) y | _=>False
def sp_sets_of:Sp:=λD H Q _=>match D with | [.int m,.int j]=>∃p n k,m=((n:Nat):Int)/\j=((k:Nat):Int)/\n<=4/\k<=4/\∀R y B,Ab H y->H R=none->y R=some (.lst B)->Ad p y ((BQ n k).map AR) B->Q (.ref R) y | _=>False
def HS:Sp:=λy H Q _=>match y with | [t,x]=>∃p T c,A5 T/\Aa p H T.d t/\Aa p H (AR c) x/\ret H Q p (only T c).d | _=>False
def Kj:Sp:=λB H Q _=>match B with | [t,x]=>∃p T c,A5 T/\Aa p H T.d t/\Aa p H (AR c) x/\∀y,Ab H y->Q (.bl (Dl T c)) y | _=>False
def sp_is_lit_paper:Sp:=λB H Q _=>match B with | [v,u,x]=>∃p P S c,PL.ok P/\SY.ok S P.bs.length/\U6 P.bs.length (Dl (terms P S))=some c/\Aa p H P.d v/\Aa p H S.d u/\Aa p H (XF P.bs.length (terms P S) c) x/\∀y,Ab H y->Q (.bl true) y | _=>False
def Kk:Sp:=λD H Q _=>match D with | [v,u,x]=>∃p P S c,PL.ok P/\SY.ok S P.bs.length/\IsSet P.bs.length c/\Aa p H P.d v/\Aa p H S.d u/\Aa p H (AR c) x/\(AZ (only (terms P S) c)≠none->∀y,Ab H y->Q .non y)/\(AZ (only (terms P S) c)=none->∀f B y,DH (only (terms P S) c) f B->Ab H y->Q (.int f) y) | _=>False
def Kl:Sp:=λy H Q _=>match y with | [.int m,.int b]=>∃p n,m=((n:Nat):Int)/\n<=4/\ret H Q p (AR (Ek n b)) | _=>False
def Km:Sp:=λy H Q _=>match y with | [v,u]=>∃p P S,PL.ok P/\SY.ok S P.bs.length/\Aa p H P.d v/\Aa p H S.d u/\ret H Q p (AR (HN P.bs.length (terms P S))) | _=>False
theorem DN{p:Int->Bool}{i:Nat}:(Bp (i+1)).filter p=if p (i:Int)=true then(Bp i).filter p++[(i:Int)] else(Bp i).filter p:=by
 have e:Bp (i+1)=Bp i++[(i:Int)]:=by unfold Bp;rw[bA,YS];rfl
 rw[e,bp]
 by_cases h:p (i:Int)=true
 .rw[YN h,bz h];rfl
 .rw[Y8 h,c9 h];simp
theorem HU{l:yV}{i:Nat}{x:V}(h:(l.map V.int)[i]? =some x):∃m,l[i]? =some m/\x= .int m:=by
 rw[YU]at h;cases z:l[i]? with
 | none=>rw[z]at h;cases h
 | some m=>rw[z]at h;cases h;exact⟨m,rfl,rfl⟩
theorem XI{y B:Type}{f:y->List B}{l:List y}{a:Nat}:((l.take a).flatMap f).length<=(l.flatMap f).length:=by
 conv=>rhs;rw[<-fX a l,dD,Zb]
 exact bO _ _
theorem O8{c r:yV}{j:Nat}{m:Int}(h:r[j]? =some m):(Cj c r)[j]? =some (if (j:Int)∈c then m else 0):=by
 unfold Cj;rw[YU,di,h];simp
theorem O9{vs H Q E}(h:Kh vs H Q E):vs.length=1:=by rcases vs with _ | ⟨_,_ | _⟩<;>first | rfl | cases h
theorem Pa{vs H Q E}(h:Ki vs H Q E):vs.length=2:=by rcases vs with _ | ⟨y,_ | ⟨_,_ | _⟩⟩<;>first | rfl | cases h | skip;all_goals (cases y<;>first | cases h | skip)
theorem Pb{vs H Q E}(h:HS vs H Q E):vs.length=2:=by rcases vs with _ | ⟨_,_ | ⟨_,_ | _⟩⟩<;>first | rfl | cases h
theorem Pc{vs H Q E}(h:Kj vs H Q E):vs.length=2:=by rcases vs with _ | ⟨_,_ | ⟨_,_ | _⟩⟩<;>first | rfl | cases h
theorem Pd{vs H Q E}(h:Kl vs H Q E):vs.length=2:=by rcases vs with _ | ⟨B,_ | ⟨y,_ | _⟩⟩<;>first | rfl | cases h | skip;all_goals (cases B<;>first | cases h | skip);all_goals (cases y<;>first | cases h | skip)
theorem Pe{vs H Q E}(h:Km vs H Q E):vs.length=2:=by rcases vs with _ | ⟨_,_ | ⟨_,_ | _⟩⟩<;>first | rfl | cases h
variable{P:yP}{w:yN}{K:Fgx}{mg:Str -> yW}{base:Heap}
theorem XJ:Az ["parts"] ["parts"] (Ar wa6):=AC
theorem XL(F:Df K mg "is_rising" wa6 ["parts"])(T:Tx mg):Fn P w K mg base 1 "is_rising" ["parts"] Kh:=by
 refine F.fn XJ @O9 λf dl A outer s H vs Q E hr h=>?_
 refine⟨_,(An (Ay (AD (Ey rfl) rfl T.b_all dI (Ai (Bd ["ahead","part"] [none,none] rfl (Mw (S8 P w K rfl T.b_zip (Aq (cy 0) (EW wa1 (cy 0) (Ds R') Iy))) (I9 P w K rfl T.b_zip (Aq (cy 0) (EW wa1 (cy 0) (Ds R') Iy)))) (AI.of rfl) (λ_ _ _ _=>(AL K (n:=2) (Aj (zD 0) (Aj (zD 1) AJ)))) (λ_ _ _ _=>Bm) (λ_ _ _ _=>(Cw Dz (cy 0) (cy 1) (AV _)))))))),?_⟩;obtain⟨x,rfl⟩:=Dn (O9 h)
 .obtain⟨p,ns,lk,rx,q⟩:=h;obtain⟨A,rfl,O⟩:=Aa.ofRow rx;refine(?_:(_\/_)->_) ?_
  .exact id
  by_cases e0:ns=[]
  .subst e0;refine .inr ⟨1,rfl,A,_,rfl,O,λB H1 s1 J=>?_⟩;rw[MH]at J;refine⟨A,B,rfl,⟨_,Ae.of (s1 _ _ O)⟩,⟨_,Ae.of J⟩,walk_zip (xs:=[]) (ys:=[]) (λi D G=>G=H1/\D=[]) (by decide) rfl ⟨rfl,rfl⟩ (λi D G h=>by rw[h.2];exact Z1 _) (λi D G h=>by rw[h.1];exact⟨Ae.of (s1 _ _ O),Ae.of J⟩) (λi x y D G T hx hy h hT=>by cases hx) λD G h m Z=>?_⟩;refine⟨m,[],rfl,by rw[Af,h.2];rfl,?_⟩;rw[h.1]at Z ⊢;exact q _ (s1.trans (Ab.new Z))
  .refine .inl ⟨1,rfl,A,_,rfl,O,λB H1 s1 J=>?_⟩;rw[MH,<-map_drop]at J;have l0:0<ns.length:=List.length_pos_iff.mpr e0;refine⟨A,B,rfl,⟨_,Ae.of (s1 _ _ O)⟩,⟨_,Ae.of J⟩,S9 (xs:=ns.map V.int) (ys:=(ns.drop 1).map V.int) (λi D G=>Ab H1 G/\D=(List.range i).map λj=>V.bl (decide (ns.getD j 0<ns.getD (j+1) 0))) (by rw[Y2,bR];omega) (by rw[Y2,Y2,bR];omega) ⟨Ab.refl _,rfl⟩
    (λi D G h=>by rw[h.2,Y2,cb];omega) (λi D G h=>⟨Ae.of (h.1 _ _ (s1 _ _ O)),Ae.of (h.1 _ _ J)⟩) (λi x y D G T hx hy h hT=>?_) λD G h m Z=>?_⟩
   .obtain⟨a,ha,rfl⟩:=HU hx;obtain⟨b,hb,rfl⟩:=HU hy;rw [dZ,Nat.add_comm] at hb;refine⟨T,_,rfl,Ae.of Af,rfl,_,_,rfl,_,_,rfl,rfl,trivial,λ_=>⟨h.1.trans (Ab.new hT),?_⟩,λc=>by cases c⟩;show D++[V.bl (decide (a<b))]=_;rw [h.2,bA,YS,ZA,eS,Y3,Y3,ha,hb]
    rfl
   .refine⟨m,(List.range (ns.length-1)).map λj=>decide (ns.getD j 0<ns.getD (j+1) 0),rfl,by rw[Af,h.2,Y2,bR,ae];rfl,?_⟩;rw[dG];exact q _ (s1.trans (h.1.trans (Ab.new Z)))
theorem XM:Az ["boilers","thing"] ["boilers","thing"] (Ar wau):=AC
theorem XN(F:Df K mg "is_set" wau ["boilers","thing"])(T:Tx mg)(Z:Fn P w K mg base 1 "is_rising" ["parts"] Kh)(O:Do P w K mg base)(i0:EN P w K mg base):Fn P w K mg base 3 "is_set" ["boilers","thing"] Ki:=by
 refine F.fn XM @Pa λf dl A outer s H vs Q E G h=>?_
 refine⟨_,(An (Ay (Bv (zB O G (AQ (cy 1) R' (cy 0))) (Bv (AD (Ey rfl) rfl T.b_all dI (Ai (Bd ["part","boilers"] [none,some 0] rfl (BW K (cy 1)) (AI.of rfl) (λ_ _ _ _=>(zD 0)) (λ_ _ _ _=>Bm) (λ_ _ _ _=>(zB i0 G (AQ (cy 0) R' (Ax Cf (cy 1) R'))))))) (Cu (zB Z G (Ai (cy 1)))))))),?_⟩;obtain⟨z0,x,rfl⟩:=By (Pa h);cases z0<;>try exact False.elim h
 rename_i m
 .obtain⟨p,n,d,rfl,n4,J,q⟩:=h;refine⟨p,_,J,λb D=>⟨λz=>?_,λz=>?_⟩⟩
  .rw [z] at D;obtain⟨es,rfl,e1,e2⟩:=OR D.symm;obtain⟨A,xs,rfl,hA,rs⟩:=Aa.shape J;have ln:=rs.len;refine⟨A,rfl,⟨_,Ae.of hA⟩,B1 (xs:=xs) (λi y B=>Ab H B/\y=((es.take i).map λe=>V.bl (Bb e 0 ((n:Int)-1)))) (by omega) ⟨Ab.refl _,rfl⟩ (λi y B h=>by rw [h.2,Y2,Zk];omega) (λi y B _ h=>Ae.of (h.1 _ _ hA)) (λi x y B hx h=>?_) λy B h m hm=>?_⟩
   .obtain⟨e,he,re⟩:=rs.got hx;refine⟨⟨rfl,trivial⟩,λ_=>⟨p,e,Aa.ev (Ev.same h.1) _ _ re,λb1 e1=>⟨h.1,?_⟩⟩,λz=>by cases z⟩;rw[A8 he,YS,h.2,e1];rfl
   .refine⟨m,es.map λe=>Bb e 0 ((n:Int)-1),rfl,by rw [Af,h.2,Z6 (by omega),ae];rfl,?_⟩;rw [dG];have s1:=h.1.trans (Ab.new (o:= .lst y) hm);refine⟨λz=>?_,λz=>?_⟩
    .obtain⟨r,rfl,bd⟩:=HQ (es:=es) z;rw [Y2] at ln e2;refine⟨p,r,by omega,Aa.ev (Ev.same s1) _ _ J,λH2 s2=>q _ _ ?_ (s1.trans s2)⟩;unfold CJ;dsimp only;rw [<-D,ER,show((r.map PyData.int).all λe=>Bb e 0 ((n:Int)-1))=true from z]
     rfl
    .refine q _ _ ?_ s1;unfold CJ;dsimp only;rw[show(es.all λe=>Bb e 0 ((n:Int)-1))=false from z,ZX,ba]
  .refine q _ _ ?_ (Ab.refl _);rw[z]at D;unfold CJ;rw[<-D];rfl
theorem zad:Az ["terms","chosen","caps","coals","draws","main","kept"] ["terms","chosen"] (Ar wav):=AC
theorem XO(F:Df K mg "with_only" wav ["terms","chosen"])(T:Tx mg):Fn P w K mg base 1 "with_only" ["terms","chosen"] HS:=by
 refine F.fn zad @Pb λf dl A outer s H vs Q E hr h=>?_
 refine⟨_,(Ak (Bz (cy 0) (AL K (n:=4) (Aj (Ag 2 zad.nd) (Aj (Ag 3 zad.nd) (Aj (Ag 4 zad.nd) (Aj (Ag 5 zad.nd) AJ)))))) (Ak (zC 6 zad.nd (BA (B3 K) rfl T.b_tuple BN (Ai (Bd ["row","chosen"] [none,some 1] rfl (BW K (cy 2)) (AI.of rfl) (λ_ _ _ _=>(zD 0)) (λ_ _ _ _=>Bm) (λ_ _ _ _=>(BA (B3 K) rfl T.b_tuple BN (Ai (Bd ["boiler","cap","chosen"] [none,none,some 1] rfl (E7 P w K rfl T.b_enumerate (Ai (cy 0))) (AI.of rfl) (λ_ _ _ _=>(AL K (n:=2) (Aj (zD 0) (Aj (zD 1) AJ)))) (λ_ _ _ _=>Bm) (λ_ _ _ _=>(DY (A7 (DZ K) (cy 0) (cy 2) (by with_unfolding_all rfl)) (cy 1) R')))))))))) (An (Ay (Bw (C6 (cy 6) (cy 3) (cy 4) (cy 5))))))),?_⟩;obtain⟨t,x,rfl⟩:=By (Pb h)
 .obtain⟨p,T,c,fl,r,rx,q⟩:=h;obtain⟨A,C,B,D,M,xc,rfl,hA,hC,rc,hB,hD,hM⟩:=Aa.terms r;obtain⟨Z,rfl,hZ⟩:=Aa.ofRow rx;have l8:=fl.ok.l8;have lc:=fl.ok.lc;have o4:=fl.o;have lx:=rc.len;rw[Y2]at lx;refine⟨A,_,rfl,Ae.of hA,rfl,_,_,rfl,_,_,rfl,_,_,rfl,_,_,rfl,rfl,?_⟩;refine⟨C,rfl,⟨_,Ae.of hC⟩,B1 (xs:=xc) (λi y G=>Ab H G/\Ad p G (((T.cs.take i).map (Cj c)).map AR) y) (by omega) ⟨Ab.refl _,.nil⟩ (λi y G h=>by have:=h.2.len;rw[Y2,Y2,Zk]at this;omega) (λi y G _ h=>Ae.of (h.1 _ _ hC)) (λi x y G hx h=>?_) λy G h m hm=>?_⟩
  .obtain⟨r0,hr,rr⟩:=Ad.mapGot rc hx;obtain⟨ra,rfl,i0⟩:=Aa.ofRow (Aa.ev (Ev.same h.1) _ _ rr);have rl:=(fl.c r0 (YW hr)).1;refine⟨⟨rfl,trivial⟩,λ_=>?_,λz=>by cases z⟩;refine⟨ra,rfl,⟨_,Ae.of i0⟩,walk_enum (xs:=r0.map V.int) (λj zs H2=>Ab G H2/\zs=((Cj c r0).take j).map V.int) (by rw [Y2];omega) ⟨Ab.refl _,rfl⟩ (λj zs H2 h=>by rw [h.2,Y2,Zk];omega) (λj zs H2 h=>Ae.of (h.1 _ _ i0)) (λj x zs H2 U hx J hU=>?_) λzs H2 J m hm=>?_⟩
   .obtain⟨m,hm,rfl⟩:=HU hx;have nU:=Ab.new (o:= .tup [.int (j:Int),.int m]) hU;have O:=h.1.trans (J.1.trans nU);have g:=O8 (c:=c) hm;refine⟨U,_,rfl,Ae.of Af,rfl,_,_,rfl,_,_,rfl,rfl,⟨rfl,trivial⟩,λ_=>⟨Z,_,rfl,.inr (Ae.of (O _ _ hZ)),rfl,Nr,?_⟩,λz=>by cases z⟩;rw [Y8 (by decide),JD];refine⟨λz=>⟨J.1.trans nU,?_⟩,λz=>⟨J.1.trans nU,?_⟩⟩
    .rw[YN (Z0 z)]at g;rw[A8 g,YS,J.2];rfl
    .rw[Y8 (ZD z)]at g;rw[A8 g,YS,J.2];rfl
   .refine⟨m,_,rfl,.inl ⟨Al.of Af,λl hl=>?_⟩⟩;have O:=(J.1.trans (Ab.new (o:= .lst zs) hm)).trans (Ab.new (o:= .tup zs) hl);refine⟨h.1.trans O,?_⟩;rw[A8 hr,YS,YS];refine Ad.snoc (Ad.ev (Ev.same O) _ _ h.2) (Aa.row ?_);rw[Af,J.2,Z6 (by rw[Fp,Y2];exact Y5 _)]
  .refine⟨m,_,rfl,.inl ⟨Al.of Af,λl hl=>?_⟩⟩;have O:=(h.1.trans (Ab.new (o:= .lst y) hm)).trans (Ab.new (o:= .tup y) hl);have s2:=(Ab.new (o:= .lst y) hm).trans (Ab.new (o:= .tup y) hl);have kl:upd (upd G m (.lst y)) l (.tup y) l=some (.tup y):=Af;generalize upd (upd G m (.lst y)) l (.tup y)=H3 at O s2 kl ⊢;refine λt H4 s4 kt=>?_
   have s5:=O.trans s4;refine q _ _ s5 ?_;rw[Z6 (by omega)]at h;refine Aa.tup kt (.cons (Aa.tup (s4 _ _ kl) (Ad.ev (Ev.same (s2.trans s4)) _ _ h.2)) (.cons (Aa.row (s5 _ _ hB)) (.cons (Aa.row (s5 _ _ hD)) (.cons (Aa.tup (s5 _ _ hM) (.cons Aa.int (.cons Aa.int (.cons Aa.int .nil)))) .nil))))
theorem XQ:Az ["terms","chosen"] ["terms","chosen"] (Ar waw):=AC
theorem XR(F:Df K mg "does" waw ["terms","chosen"])(T:Tx mg)(G:Fn P w K mg base 2 "least_stretch" ["terms"] HJ)(D:Fn P w K mg base 1 "with_only" ["terms","chosen"] HS):Fn P w K mg base 3 "does" ["terms","chosen"] Kj:=by
 refine F.fn XQ @Pc λf dl A outer s H vs Q E J h=>?_
 refine⟨_,(An (Ay (Cw Lb (zB G J (Ai (zB D J (Aq (cy 0) (cy 1))))) V' (AV _)))),?_⟩;obtain⟨t,x,rfl⟩:=By (Pc h)
 .obtain⟨p,T,c,fl,r,O,q⟩:=h;refine⟨p,T,c,fl,r,O,λv H1 s1 Z=>⟨p,only T c,JE fl.ok,Z,λw H2 s2 y=>⟨rfl,?_⟩⟩⟩;have B:=q _ (s1.trans s2);unfold Dl at B;cases z:AZ (only T c) with
  | none=>
   rw[z]at y B;have ew:w= .non:=by unfold Fc at y;unfold Aa at y;exact y
   rw[ew];exact B
  | some s0=>
   rw[z]at y B;obtain⟨A',rfl,hA⟩:=Aa.pair y;exact B
theorem XS:Az ["boilers","boiler"] ["boilers","boiler"] (Ar waA):=AC
theorem XT(F:Df K mg "without" waA ["boilers","boiler"])(T:Tx mg):Fn P w K mg base 1 "without" ["boilers","boiler"] Kl:=by
 refine F.fn XS @Pd λf dl A outer s H vs Q E Z h=>?_
 refine⟨_,(An (Ay (BA (B3 K) rfl T.b_tuple BN (Ai (Bd ["other","boiler"] [none,some 1] rfl (B0 rfl T.b_range (Ai (cy 0))) (AI.of rfl) (λ_ _ _ _=>(zD 0)) (λ_ _ _ _=>(DU (A7 FF (cy 0) (cy 1) (AV _)))) (λ_ _ _ _=>(cy 0))))))),?_⟩;obtain⟨O,J,rfl⟩:=By (Pd h);cases O<;>try exact False.elim h
 cases J<;>try exact False.elim h
 rename_i m b
 .obtain⟨p,n,rfl,n4,q⟩:=h;refine⟨_,rfl,by omega,by omega,EZ (n:=(n:Int).toNat) (λi B y=>y=H/\B=((Bp i).filter λx=>decide (x≠b)).map V.int) (by omega) ⟨rfl,rfl⟩ (λi B y h=>by rw[h.2,Y2];exact YV (ZU _ _) (by unfold Bp;simp)) (λi B y hi h=>?_) λB y h m G=>?_⟩
  .refine⟨⟨rfl,trivial⟩,rfl,λz=>⟨h.1,?_⟩,λz=>⟨h.1,?_⟩⟩
   .have e:((i:Nat):Int)≠b:=λe=>by rw [ZO,e] at z;simp at z
    rw[DN,YN (Z9 e),h.2,YS,ZO];rfl
   .have e:¬(((i:Nat):Int)≠b):=λe=>by rw [ZO] at z;simp at z;exact e z
    rw[DN,Y8 (λz=>e (Z0 z)),h.2]
  .refine⟨m,_,rfl,.inl ⟨Al.of Af,λl D=>?_⟩⟩;rw[h.1]at G D ⊢;refine q _ _ ((Ab.new G).trans (Ab.new D)) (Aa.row ?_);rw[Af,h.2];rfl
theorem zav:Az ["plant","story","terms","boilers"] ["plant","story"] (Ar waz):=AC
theorem XU(F:Df K mg "needed" waz ["plant","story"])(T:Tx mg)(O:Fn P w K mg base 3 "does" ["terms","chosen"] Kj)(J:Fn P w K mg base 10 "terms_of" ["plant","story"] HI)(Z:Fn P w K mg base 1 "without" ["boilers","boiler"] Kl):Fn P w K mg base 11 "needed" ["plant","story"] Km:=by
 refine F.fn zav @Pe λf dl A outer s H vs Q E D h=>?_
 refine⟨_,(Ak (zC 2 zav.nd (zB J D (Aq (cy 0) (cy 1)))) (Ak (zC 3 zav.nd (AD (BV K) rfl T.b_len zH (Ai (AH (A4 K) (cy 0) R' (λ_ _=>rfl))))) (An (Ay (BA (B3 K) rfl T.b_tuple BN (Ai (Bd ["boiler","terms","boilers"] [none,some 2,some 3] rfl (B0 rfl T.b_range (Ai (cy 3))) (AI.of rfl) (λ_ _ _ _=>(zD 0)) (λ_ _ _ _=>(DU (B9 (BM (zB O D (Aq (cy 1) (zB Z D (Aq (cy 2) (cy 0))))))))) (λ_ _ _ _=>(cy 0))))))))),?_⟩;obtain⟨v,u,rfl⟩:=By (Pe h)
 .obtain⟨p,P,S,ok,so,r,ru,q⟩:=h;refine⟨p,P,S,ok,so,r,ru,λt H1 s1 rt=>?_⟩;obtain⟨PA,PB,PE,PM,xb,xe,rfl,pA,pB,rb,pE,re,pM⟩:=Aa.plant (Aa.ev (Ev.same s1) _ _ r);have lb:=rb.len;rw[Y2]at lb;have b4:=ok.b4;refine⟨PA,_,0,.ref PB,rfl,rfl,Ae.of pA,rfl,PB,_,rfl,.inr (Ae.of pB),?_⟩;rw[<-lb];refine⟨_,rfl,by omega,by omega,EZ (n:=(P.bs.length:Int).toNat) (λi B y=>Ab H1 y/\B=((Bp i).filter λb=> !Dl (terms P S) (Ek P.bs.length b)).map V.int) (by omega) ⟨Ab.refl _,rfl⟩ (λi B y h=>by rw[h.2,Y2];exact YV (ZU _ _) (by unfold Bp;simp)) (λi B y hi h=>?_) λB y h m hm=>?_⟩
  .refine⟨⟨rfl,rfl,trivial⟩,p,P.bs.length,rfl,b4,λw H2 s2 G=>⟨p,terms P S,_,FX ok so,Aa.ev (Ev.same (h.1.trans s2)) _ _ rt,G,λH3 s3=>?_⟩⟩;rw [ZO];refine⟨λz=>⟨h.1.trans (s2.trans s3),?_⟩,λz=>⟨h.1.trans (s2.trans s3),?_⟩⟩
   .rw[DN,YN z,h.2,YS];rfl
   .rw[DN,Y8 (by rw[z];decide),h.2]
  .refine⟨m,_,rfl,.inl ⟨Al.of Af,λl hl=>?_⟩⟩;refine q _ _ (s1.trans (h.1.trans ((Ab.new hm).trans (Ab.new hl)))) (Aa.row ?_);rw[Af,h.2];rfl
end
section
variable{H H':Hp}{v:V}{j:Nat}{T:TM}
noncomputable def Gg(d:yQ)(m:Int):Bool:=match d with | .int i=>decide (0<=i) && decide (i<m) | _=>false
def Kn:Sp:=λy H Q _=>match y with | [v,.int m]=>∃p d,Aa p H d v/\∀b,b=Gg d m->Q (.bl b) H | _=>False
def CpL(H:Hp)(cs:yZ)(A:yR):Prop:=∃y:List yR,H A=some (.lst (y.map V.ref))/\y.length=cs.length/\∀(j:Nat) (T:yR) (r:yV),y[j]? =some T->cs[j]? =some r->H T=some (.lst (r.map V.int))
theorem CpL.sm{cs:yZ}{A:yR}(c:CpL H cs A)(s:Ab H H'):CpL H' cs A:=by
 obtain⟨D,G,y,B⟩:=c;exact⟨D,s _ _ G,y,λj T r a b=>s _ _ (B j T r a b)⟩
def CpV(p:yR)(H:Hp)(cs:yZ)(v:V):Prop:=Aa p H (FD cs) v\/ ∃A,v= .ref A/\CpL H cs A
def ChV(H:Hp)(c:yV)(v:V):Prop:=∃A,v= .ref A/\(H A=some (.lst (c.map V.int))\/H A=some (.tup (c.map V.int)))
theorem ChV.sm{c:yV}(h:ChV H c v)(s:Ab H H'):ChV H' c v:=by
 obtain⟨A,e,h⟩:=h;exact⟨A,e,h.imp (λz=>s _ _ z) λz=>s _ _ z⟩
def Em(K:Nat):Sp:=λD H Q _=>match D with | [.int a,.int b]=>∃n k:Nat,a=(n:Int)/\b=(k:Int)/\n<=4/\k<K/\k<=4/\∀(R:yR) (y:Hp) (B:List yR),Ab H y->H R=none->y R=some (.lst (B.map V.ref))->RwT y B (BQ n k)->Q (.ref R) y | _=>False
abbrev Pf:Sp:=Em 5
theorem Pg{vs:zA}{Q:VK}{E:XK}(h:Em 0 vs H Q E):False:=by
 unfold Em at h;split at h
 .obtain⟨_,_,_,_,_,h,_⟩:=h;exact Zs _ h
 .exact h
theorem XV:∀n,n<=4->∀k,k<=4->(BQ n k).Pairwise (λa b=>Cq a b=true):=by decide+kernel
def sp__law_is_firing:Sp:=λB H Q _=>match B with | [v,x]=>∃p cs F,F.length=cs.length/\F.length<=8/\(∀(i:Nat) (r c:yV),F[i]? =some r->cs[i]? =some c->r.length=c.length/\r.length<=4/\∀(j:Nat) (a b:Int),r[j]? =some a->c[j]? =some b->0<=a/\a<=b)/\CpV p H cs v/\Aa p H (FD F) x/\∀y,Ab H y->Q (.bl true) y | _=>False
def Ko:Sp:=λy H Q _=>match y with | [.ref M,v,.ref D,.int f',.int l']=>∃p T,∃f l:Nat,f'=(f:Int)/\l'=(l:Int)/\f<=l/\l<T.ds.length/\TM.ok T/\H M=some (.tup [.int T.lo,.int T.hi,.int T.st])/\CpV p H T.cs v/\H D=some (.tup (T.ds.map V.int))/\Q (.bl (Bs T f l)) H | _=>False
def Kp:Sp:=λy H Q _=>match y with | [.ref M,v,.ref D]=>∃p T,TM.ok T/\H M=some (.tup [.int T.lo,.int T.hi,.int T.st])/\CpV p H T.cs v/\H D=some (.tup (T.ds.map V.int))/\ret H Q p (Fc (AZ T)) | _=>False
def HV:Sp:=λB H Q _=>match B with | [v,x]=>∃p cs c,cs.length<=8/\(∀r∈cs,r.length<=4)/\Aa p H (FD cs) v/\ChV H c x/\∀A y,Ab H y->H A=none->CpL y (cs.map (Cj c)) A->Q (.ref A) y | _=>False
def Kq:Sp:=λB H Q _=>match B with | [v,u,x]=>∃p P S c,PL.ok P/\SY.ok S P.bs.length/\Aa p H P.d v/\Aa p H S.d u/\ChV H c x/\∀y,Ab H y->Q (.bl (Dl (terms P S) c)) y | _=>False
def Kr:Sp:=λB H Q _=>match B with | [.ref p,.int m,.int h]=>A6 p H/\1<=m/\m<=4/\1<=h/\h<=8/\∀t y P S v u,PL.ok P->SY.ok S P.bs.length->y t=some (.tup [v,u])->Aa p y P.d v->Aa p y S.d u->Ev p H y->A6 p y->Q (.ref t) y | _=>False
def DO(r:yV)(j:Nat):yZ:=((Bp j).filter λx=>decide (Ck r<=x)).map λx=>r++[x]
theorem Ks{r:yV}:DO r (j+1)=if Ck r<=(j:Int) then DO r j++[r++[(j:Int)]] else DO r j:=by
 unfold DO;rw[DN]
 by_cases h:Ck r<=(j:Int)
 .rw[YN (Z9 h),YN h,YS];rfl
 .rw[Y8 (by simpa using h),Y8 h]
theorem XW{n:Nat}{r:yV}(B:n<=4)(st:IsSet n r):DO r n=grow n r:=by
 obtain⟨f0,D,_⟩:=st.first
 unfold DO grow;have y:∀n,n<=4->∀f:Nat,f<=4->(Bp n).filter (λx=>decide ((f:Int)<=x))=(List.range ((n:Int)-(f:Int)).toNat).map λi:Nat=>(f:Int)+(i:Int):=by decide+kernel
 obtain⟨f,e⟩:=Int.eq_ofNat_of_zero_le f0;have:=y n B f (by omega);rw[e,this,ae];rfl
theorem XX{r:yV}:(DO r j).length<=j:=by
 unfold DO;rw[Y2];exact YV (ZU _ _) (by unfold Bp;simp)
theorem XY{r:yV}(h:r≠ []):∃y,BD (r.map V.int) (-1)=some (.int y)/\Ck r=y+1:=by
 rcases cR r with e | ⟨d,y,e⟩
 .exact absurd e h
 .rw[cS]at e;subst e;exact⟨y,by rw[YS];exact QM _ _,JF⟩
theorem CpV.at{p:yR}{cs:yZ}(c:CpV p H cs v){j:Nat}(h:j<cs.length):(∃A xs B,v= .ref A/\H A=some (.tup xs)/\xs[j]? =some (.ref B)/\H B=some (.tup ((cs.getD j []).map V.int)))\/(∃A xs B,v= .ref A/\H A=some (.lst xs)/\xs[j]? =some (.ref B)/\H B=some (.lst ((cs.getD j []).map V.int))):=by
 have K:cs[j]? =some (cs.getD j []):=by rw[Y3,Y6 h];rfl
 rcases c with c | ⟨A,rfl,D,h1,h2,h3⟩
 .obtain⟨A,xs,rfl,O,rs⟩:=Aa.firing c;obtain⟨y,hy,Z⟩:=rs.get (i:=j) (d:=AR (cs.getD j [])) (by rw[YU,K];rfl);obtain⟨B,rfl,G⟩:=Aa.ofRow Z;exact .inl ⟨A,xs,B,rfl,O,hy,G⟩
 .have J:D[j]? =some D[j]:=Y6 (by omega);exact .inr ⟨A,_,D[j],rfl,h1,by rw[YU,J];rfl,h3 j _ _ J K⟩
theorem Ph{n i:Nat}:∀k,i+k<=n->∃y,BH n (i+k)=BH n i++y
 | 0,_=>⟨[],by simp⟩
 | k+1,h=>by
  obtain⟨y,e⟩:=Ph (n:=n) (i:=i) k (by omega);exact⟨y++BY (i+k) (n-(i+k)),by rw[show i+(k+1)=(i+k)+1 from rfl,FV,e,df]⟩
theorem XZ{f:Nat}:∀ {j m:Nat},j<m->∃y,BY f m=BY f j++(f,f+j)::y
 | j,m,h=>by
  refine⟨(List.range' (j+1) (m-j-1)).map λi=>(f,f+i),?_⟩;unfold BY;rw[show List.range m=List.range j++j::List.range' (j+1) (m-j-1) from by
   rw[List.range_eq_range',List.range_eq_range',<-List.range'_succ,show m=j+(m-j) from by omega,<-List.range'_append_1]
   congr 1
   rw[show j+(m-j)-j-1+1=m-j by omega,Nat.zero_add],YS]
  rfl
theorem X0{i:Nat}(K:i+j<T.ds.length)(J:∀q∈BH T.ds.length i,Bs T q.1 q.2=false)(D:∀q∈BY i j,Bs T q.1 q.2=false)(h:Bs T i (i+j)=true):AZ T=some (i,i+j):=by
 obtain⟨Z,B⟩:=Ph (n:=T.ds.length) (i:=i+1) (T.ds.length-(i+1)) (by omega);rw[show i+1+(T.ds.length-(i+1))=T.ds.length by omega,FV]at B;obtain⟨O,G⟩:=XZ (f:=i) (j:=j) (m:=T.ds.length-i) (by omega);unfold AZ D3;rw[B,G,bp,bp,bp,cG.mpr (λq y=>by rw[J q y];decide),cG.mpr (λq y=>by rw[D q y];decide),bz (p:=λq=>Bs T q.1 q.2) (a:=(i,i+j)) h]
 rfl
theorem X1(h:∀q∈BH T.ds.length T.ds.length,Bs T q.1 q.2=false):AZ T=none:=by
 unfold AZ D3;rw[cG.mpr (λq y=>by rw[h q y];decide)];rfl
theorem Pi:∀ {as bs:yV},as.Pairwise (· < ·)->bs.Pairwise (· < ·)->(∀x,x∈as↔x∈bs)->as=bs
 | [],[],_,_,_=>rfl
 | [],b::bs,_,_,h=>by have:=(h b).mpr (by simp);cases this
 | a::as,[],_,_,h=>by have:=(h a).mp (by simp);cases this
 | a::as,b::bs,ha,hb,h=>by
  have B:=bq.mp ha;have y:=bq.mp hb;have e:a=b:=by
   have K:=(h a).mp (by simp);have J:=(h b).mpr (by simp);rcases YY.mp K with e | e
   .exact e
   .rcases YY.mp J with G | G
    .exact G.symm
    .have:=y.1 a e;have:=B.1 b G;omega
  subst e;rw[Pi B.2 y.2 λx=>?_];constructor
  .intro D;have:=B.1 x D;rcases YY.mp ((h x).mp (by simp [D])) with e | e
   .omega
   .exact e
  .intro D;have:=y.1 x D;rcases YY.mp ((h x).mpr (by simp [D])) with e | e
   .omega
   .exact e
theorem Pj{vs H Q E}(h:Kn vs H Q E):vs.length=2:=by rcases vs with _ | ⟨_,_ | ⟨y,_ | _⟩⟩<;>first | rfl | cases h | skip;all_goals (cases y<;>first | cases h | skip)
theorem Pk{vs H Q E}(h:Ko vs H Q E):vs.length=5:=by rcases vs with _ | ⟨G,_ | ⟨_,_ | ⟨D,_ | ⟨B,_ | ⟨y,_ | _⟩⟩⟩⟩⟩<;>first | rfl | cases h | skip;all_goals (cases G<;>first | cases h | skip);all_goals (cases D<;>first | cases h | skip);all_goals (cases B<;>first | cases h | skip);all_goals (cases y<;>first | cases h | skip)
theorem Pl{vs H Q E}(h:Kp vs H Q E):vs.length=3:=by rcases vs with _ | ⟨B,_ | ⟨_,_ | ⟨y,_ | _⟩⟩⟩<;>first | rfl | cases h | skip;all_goals (cases B<;>first | cases h | skip);all_goals (cases y<;>first | cases h | skip)
theorem Pm{vs H Q E}(h:HV vs H Q E):vs.length=2:=by rcases vs with _ | ⟨_,_ | ⟨_,_ | _⟩⟩<;>first | rfl | cases h
theorem Pn{vs H Q E}(h:Kq vs H Q E):vs.length=3:=by rcases vs with _ | ⟨_,_ | ⟨_,_ | ⟨_,_ | _⟩⟩⟩<;>first | rfl | cases h
theorem Po{vs H Q E}(h:Kr vs H Q E):vs.length=3:=by rcases vs with _ | ⟨B,_ | ⟨D,_ | ⟨y,_ | _⟩⟩⟩<;>first | rfl | cases h | skip;all_goals (cases B<;>first | cases h | skip);all_goals (cases D<;>first | cases h | skip);all_goals (cases y<;>first | cases h | skip)
variable{P:yP}{w:yN}{K:Fgx}{mg:Str -> yW}{base:Heap}
theorem zan:Az ["_law_many","_law_size","_law_found","_law_row"] ["_law_many","_law_size"] (Ar wa2):=AC
theorem X2(F:Df K mg "_law_rows_of" wa2 ["_law_many","_law_size"]):Fn P w K mg base 1 "_law_rows_of" ["_law_many","_law_size"] (Em 0):=F.fn zan (λ_ _ _ _ h=>(Pg h).elim) (λ_ _ _ _ _ _ _ _ _ _ h=>(Pg h).elim)
theorem Gh(k:Nat)(F:Df K mg "_law_rows_of" wa2 ["_law_many","_law_size"])(T:Tx mg)(i8:Fn P w K mg base (k+1) "_law_rows_of" ["_law_many","_law_size"] (Em k)):Fn P w K mg base (k+1+1) "_law_rows_of" ["_law_many","_law_size"] (Em (k+1)):=by
 refine F.fn zan (λvs H Q E h=>?_) (λf dl A outer s H vs Q E Z h=>?_)
 .unfold Em at h;split at h;rfl;exact h.elim
 refine⟨_,(Ak (Bj (A7 Dq (cy 1) R' (AV _)) (An (Ay (B4 (Ai (Bw pa_nil))))) Bh) (Ak (zC 2 zan.nd (B4 pa_nil)) (Ak (Bl Z8 rfl (Ez K (Am i8 (Z.mono (by omega)) rfl (Aq (cy 0) (Ax Cf (cy 1) R')))) (Ag 3 zan.nd) (An (Cv (C4 zE PySem.F.slot_list_extend PySem.F.type_list_extend Q4 (cy 2) (Ai (Bd ["_law_one","_law_row"] [none,some 3] rfl (B0 rfl T.b_range (Ai (cy 0))) (AI.of rfl) (λ_ _ _ _=>(zD 0)) (λ_ _ _ _=>(DU (PW.pt (FL (A7 (V5 Z.units0) (cy 1) (Bw pa_nil) (AV _)) (FC (A7 LQ (cy 0) (AH (A4 K) (cy 1) O6 (λ_ _=>rfl)) (AV _))))))) (λ_ _ _ _=>(Ax GL (cy 1) (Bw (Ai (cy 0))))))))))) (An (Ay (AD Vv rfl T.b_sorted boot_sorted (Ai (cy 2)))))))),?_⟩;unfold Em at h;split at h
 .rename_i a b;obtain⟨n,k0,rfl,rfl,n4,hk,k4,q⟩:=h;refine⟨rfl,λz=>?_,λz=>?_⟩
  .have e:k0=0:=by
    have:=Z0 z;injection this with this
    omega
   subst e;refine λe H1 s1 ke L H2 s2 hL kL=>q L H2 [e] (s1.trans s2) (s1.free hL) kL ⟨rfl,λj T r a b=>?_⟩
   cases j with
   | zero=>cases a;cases b;exact s2 _ _ ke
   | succ j=>cases a
  .obtain⟨k,rfl⟩:∃k,k0=k+1:=by
    cases k0 with
    | zero=>simp at z
    | succ k=>exact⟨k,rfl⟩
   refine λL H1 s1 hL kL=>?_
   refine⟨n,k,rfl,by omega,n4,by omega,by omega,λR H2 Us s2 hR kR i5=>⟨R,rfl,⟨_,Al.of kR⟩,?_⟩⟩;have i9:R≠L:=λe=>by rw[e,kL]at hR;cases hR
   have few:=Nw n n4 k (by omega);have i6:=Nw n n4 (k+1) (by omega);have lU:=i5.1;have i7:=s2 _ _ kL;refine EV (xs:=Us.map V.ref) (λi σ H'=>(∃x3,σ=[some (.int (n:Int)),some (.int ((k+1:Nat):Int)),some (.ref L),x3])/\Ev L H2 H'/\∃Ts,H' L=some (.lst (Ts.map V.ref))/\RwT H' Ts (((BQ n k).take i).flatMap (grow n))) ⟨⟨_,rfl⟩,Ev.refl,[],i7,RwT.nil⟩ (λi σ H' _ h=>Al.of (h.2.1.lst kR i9)) (λi x σ H' hx h=>?_) fun σ H' h=>?_
   .obtain⟨⟨x3,rfl⟩,ev,Ts,kT,rT⟩:=h;rw [YU] at hx;cases hU:Us[i]? with
    | none=>rw[hU]at hx;cases hx
    | some U=>
     rw[hU]at hx;cases hx;have li:i<(BQ n k).length:=by rw[<-lU];exact(Y9.mp hU).1
     obtain⟨r,Z⟩:∃r,(BQ n k)[i]? =some r:=⟨_,Y6 li⟩;have st:=(mem_sets.mp (YW Z)).1;have kU:=ev.tup (i5.2 i U r hU Z);have j0:U≠L:=λe=>by rw[e,kT]at kU;cases kU
     refine⟨.inl ⟨rfl,_,Al.of kT⟩,_,rfl,by omega,by omega,EZ (n:=(n:Int).toNat) (λj ys G=>Ab H' G/\∃J:List yR,ys=J.map V.ref/\RwT G J (DO r j)) (by omega) ⟨Ab.refl _,[],rfl,RwT.nil⟩ (λj ys G h=>?_) (λj ys G hj h=>?_) λys G h l hl=>?_⟩
     .obtain⟨_,J,rfl,rv⟩:=h;rw[Y2,rv.1];exact XX
     .obtain⟨sm,J,rfl,rv⟩:=h;refine⟨⟨rfl,trivial⟩,λe G1 B ke=>⟨U,e,_,rfl,rfl,(sm.trans B) _ _ kU,ke,⟨λz=>⟨λ_=>?_,λz=>(by cases z)⟩,λz=>?_⟩⟩⟩
      .have e0:r=[]:=by cases r with | nil=>rfl | cons a r=>cases z
       refine λt G2 D kt=>⟨U,t,_,_,rfl,rfl,((sm.trans B).trans D) _ _ kU,kt,by rw[Y2];have:=st.len;show r.length+1<=1000;omega,λw G3 O kw=>⟨(sm.trans B).trans (D.trans O),J++[w],by rw[YS];rfl,?_⟩⟩
       rw[Ks,YN (by rw[e0];show(0:Int)<=j;omega)];exact(rv.sm (B.trans (D.trans O))).snoc (by rw[kw,YS,ZO];rfl)
      .have e0:r≠ []:=λe=>by rw [e] at z;cases z
       obtain⟨y,hy,fy⟩:=XY e0;refine⟨U,_,-1,.int y,rfl,rfl,Ae.of ((sm.trans B) _ _ kU),hy,⟨λgt=>?_,λgt=>⟨sm.trans B,J,rfl,?_⟩⟩⟩
       .have gt:=Z0 gt;refine λt G2 D kt=>⟨U,t,_,_,rfl,rfl,((sm.trans B).trans D) _ _ kU,kt,by rw [Y2];have:=st.len;show r.length+1<=1000;omega,λw G3 O kw=>⟨(sm.trans B).trans (D.trans O),J++[w],by rw [YS];rfl,?_⟩⟩
        rw[Ks,YN (by omega)];exact(rv.sm (B.trans (D.trans O))).snoc (by rw[kw,YS,ZO];rfl)
       .have gt:=ZD gt;rw[Ks,Y8 (by omega)];exact rv.sm B
     .obtain⟨sm,J,rfl,rv⟩:=h;have nl:=Ab.new (o:= .lst (J.map V.ref)) hl;have kl:upd G l (.lst (J.map V.ref)) l=some (.lst (J.map V.ref)):=Af;generalize upd G l (.lst (J.map V.ref))=G1 at nl kl ⊢;have i4:=(sm.trans nl) _ _ kT;rw [show(n:Int).toNat=n from rfl,XW n4 st] at rv;have lT:=rT.1;have lV:=rv.1;have tl:=XI (f:=grow n) (l:=BQ n k) (a:=i+1);have e1:((BQ n k).flatMap (grow n)).length<=6:=i6;rw [A8 Z,dD,Zb] at tl;have e2:[r].flatMap (grow n)=grow n r:=by simp
      rw[e2]at tl;refine⟨L,l,_,_,rfl,rfl,i4,kl,by rw[Y2,Y2];exact YV (show Ts.length+J.length<=6 by omega) (by decide),⟨_,rfl⟩,ev.trans ((Ev.same (sm.trans nl)).trans (Ev.pen i4)),Ts++J,?_,?_⟩
      .rw[Af,YS]
      .rw[A8 Z,dD,e2];exact((rT.sm (sm.trans nl)).app (rv.sm nl)).own i4
   .obtain⟨⟨x3,rfl⟩,ev,Ts,kT,rT⟩:=h;rw[Y2,lU,cI]at rT;have i0:RwT H' Ts (BQ n (k+1)):=rT;have lT:=i0.1;refine⟨L,Ts,BQ n (k+1),k+1,rfl,kT,by omega,i0,by omega,λr Z=>(mem_sets.mp Z).2,XV n n4 (k+1) (by omega),λl H3 s3 hl kl=>?_⟩;have sm:=(Ab.evOwn (s1.trans s2) hL ev).trans s3;exact q l H3 Ts sm ((Ab.evOwn (s1.trans s2) hL ev).free hl) kl (i0.sm s3)
 .exact h.elim
theorem X3(F:Df K mg "_law_rows_of" wa2 ["_law_many","_law_size"])(T:Tx mg):Fn P w K mg base 6 "_law_rows_of" ["_law_many","_law_size"] Pf:=Gh 4 F T (Gh 3 F T (Gh 2 F T (Gh 1 F T (Gh 0 F T (X2 F)))))
theorem X4:Az ["_law_thing","_law_many"] ["_law_thing","_law_many"] (Ar waG):=AC
theorem X5(F:Df K mg "_law_below" waG ["_law_thing","_law_many"])(T:Tx mg):Fn P w K mg base 1 "_law_below" ["_law_thing","_law_many"] Kn:=by
 refine F.fn X4 @Pj λf dl A outer s H G Q E D h=>?_
 refine⟨_,(An (Ay (Bv (AD E5 rfl T.b_isinstance aA (Aq (cy 0) (Eo (v:= .ty "int") rfl T.b_int L2.boot_int rfl))) (Bv (LT (AD E5 rfl T.b_isinstance aA (Aq (cy 0) (Eo (v:= .ty "bool") rfl T.b_bool L2.boot_bool rfl)))) (Cu (IV DA Dz R' (cy 0) (cy 1))))))),?_⟩;obtain⟨v,B,rfl⟩:=By (Pj h);cases B<;>try exact False.elim h
 rename_i m
 .obtain⟨p,d,r,q⟩:=h;refine⟨_,r.ty,.inl rfl,⟨λc=>⟨_,r.ty,.inr (.inl rfl),⟨λy=>?_,λy=>?_⟩⟩,λc=>?_⟩⟩
  .cases d with
   | int i=>
    unfold Aa at r;subst r;refine⟨λc=>?_,λc=>?_⟩
    .exact q _ (by unfold Gg;dsimp only;rw[c];rfl)
    .exact q _ (by unfold Gg;dsimp only;rw[c];rfl)
   | bool b=>cases y
   | _=>cases c
  .exact q _ (by cases d<;>first | rfl | cases y)
  .exact q _ (by cases d<;>first | rfl | cases c)
theorem zao:Az ["_law_main","_law_caps_here","_law_draws_here","_law_first","_law_last","_law_there","_law_hour"] ["_law_main","_law_caps_here","_law_draws_here","_law_first","_law_last"] (Ar waR):=AC
theorem X6(F:Df K mg "_law_is_short" waR ["_law_main","_law_caps_here","_law_draws_here","_law_first","_law_last"])(T:Tx mg):Fn P w K mg base 1 "_law_is_short" ["_law_main","_law_caps_here","_law_draws_here","_law_first","_law_last"] Ko:=by
 refine F.fn zao @Pk λf dl A outer s H vs Q E hr h=>?_
 refine⟨_,(Ak (zC 5 zao.nd (DY (A7 Dq (cy 3) R' (AV _)) (AH (A4 K) (cy 0) R' (λ_ _=>rfl)) (AH (A4 K) (cy 0) R' (λ_ _=>rfl)))) (Ak (Bl Z8 rfl (Ik rfl T.b_range (Aq (cy 3) (Ax A1 (cy 4) R'))) (Ag 6 zao.nd) (An (zC 5 zao.nd (Ax Cf (Ax A1 (cy 5) (AD (FP rfl) rfl T.b_sum cV (Ai (V6 (AH (A4 K) (cy 1) (cy 6) (λ_ _=>rfl)) (AH (BO K) (cy 1) (cy 6) (λ_ _=>rfl)))))) (AH (A4 K) (cy 2) (cy 6) (λ_ _=>rfl)))))) (An (Ay (Cw Dz (cy 5) (AH (A4 K) (cy 0) R' (λ_ _=>rfl)) (AV _)))))),?_⟩;obtain⟨z0,v,z2,Z,O,rfl⟩:=WD (Pk h);cases z0<;>try exact False.elim h
 cases z2<;>try exact False.elim h
 cases Z<;>try exact False.elim h
 cases O<;>try exact False.elim h
 rename_i M D f' l'
 .obtain⟨p,T,f,l,rfl,rfl,fl,ll,ok,G,cp,J,q⟩:=h;have lc:=ok.lc;have l8:=ok.l8;have fin:∀ {x6:Option V},(KK (K0 (KZ (Bi (BS 3) (Bi (CL (mI0 λi j=>V.int (i+j)) (BS 4) (tC (V.int 1))) CM))) (Ep 6) (Ij (CL (mI0 λi j=>V.int (i-j)) (CL (mI0 λi j=>V.int (i+j)) (BS 5) (Gu Ml (Bi (NV (CL (FI K) (BS 1) (BS 6)) (CL (IA K) (BS 1) (BS 6))) CM))) (CL (FI K) (BS 2) (BS 6))) (Ep 5))) (KM (CL (mI0 λi j=>V.bl (decide (i<j))) (BS 5) (CL (FI K) (BS 0) (tC (V.int 0)))))) { nx:=λx y=>Q V.non y,rt:=Q} [some (.ref M),some v,some (.ref D),some (.int (f:Int)),some (.int (l:Int)),some (.int (Cp T f 0)),x6] H:=by
   intro x6;refine⟨_,_,rfl,⟨by omega,by omega,by omega,by omega⟩,CY (n:=((l:Int)+1-(f:Int)).toNat) (λi B y=>(∃x6,B=[some (.ref M),some v,some (.ref D),some (.int (f:Int)),some (.int (l:Int)),some (.int (Cp T f i)),x6])/\y=H) ⟨⟨_,rfl⟩,rfl⟩ (λi B y hi h=>?_) fun B y h=>?_⟩
   .obtain⟨⟨x6,rfl⟩,rfl⟩:=h;have hd:BD (T.ds.map V.int) ((f:Int)+(i:Int))=some (.int (T.ds.getD (f+i) 0)):=by
     rw[show(f:Int)+(i:Int)=((f+i:Nat):Int) by omega];exact Dt (by rw[YU,Mj (by omega)];rfl)
    rcases cp.at (j:=f+i) (by omega) with⟨A,xs,ra,rfl,hA,hx,hra⟩ | ⟨A,xs,ra,rfl,hA,hx,hra⟩
    .exact .inl ⟨A,_,_,.ref ra,rfl,rfl,Ae.of hA,by rw[show(f:Int)+(i:Int)=((f+i:Nat):Int) by omega];exact Dt hx,ra,_,rfl,.inr hra,D,_,_,_,rfl,rfl,Ae.of J,hd,⟨_,rfl⟩,rfl⟩
    .exact .inr ⟨A,_,_,.ref ra,rfl,rfl,Al.of hA,by rw[show(f:Int)+(i:Int)=((f+i:Nat):Int) by omega];exact Dt hx,ra,_,rfl,.inl hra,D,_,_,_,rfl,rfl,Ae.of J,hd,⟨_,rfl⟩,rfl⟩
   .obtain⟨⟨x6,rfl⟩,rfl⟩:=h;refine⟨M,_,0,.int T.lo,rfl,rfl,Ae.of G,rfl,?_⟩;rw[<-SL ok fl ll]at q;unfold Jn at q;rw[show l+1-f=((l:Int)+1-(f:Int)).toNat by omega]at q;exact q
  refine⟨rfl,λz=>?_,λz=>?_⟩
  .have e:f=0:=by
    have:=Z0 z;injection this with this
    omega
   have:=fin (x6:=none);rw[show Cp T f 0=T.st from by unfold Cp;rw[YN e]]at this;exact⟨M,_,2,.int T.st,rfl,rfl,Ae.of G,rfl,this⟩
  .have e:f≠0:=λe=>by subst e;simp at z
   have:=fin (x6:=none);rw[show Cp T f 0=T.hi from by unfold Cp;rw[Y8 e]]at this;exact⟨M,_,1,.int T.hi,rfl,rfl,Ae.of G,rfl,this⟩
theorem zap:Az ["_law_main","_law_caps_here","_law_draws_here","_law_many","_law_first","_law_last"] ["_law_main","_law_caps_here","_law_draws_here"] (Ar waS):=AC
theorem X7(F:Df K mg "_law_stretch" waS ["_law_main","_law_caps_here","_law_draws_here"])(T:Tx mg)(i0:Fn P w K mg base 1 "_law_is_short" ["_law_main","_law_caps_here","_law_draws_here","_law_first","_law_last"] Ko):Fn P w K mg base 2 "_law_stretch" ["_law_main","_law_caps_here","_law_draws_here"] Kp:=by
 refine F.fn zap @Pl λf dl A outer s H vs Q E hr h=>?_
 refine⟨_,(Ak (zC 3 zap.nd (AD (BV K) rfl T.b_len zH (Ai (cy 2)))) (Ak (Bl Z8 rfl (B0 rfl T.b_range (Ai (cy 3))) (Ag 4 zap.nd) (An (Bl Z8 rfl (Ik rfl T.b_range (Aq (cy 4) (cy 3))) (Ag 5 zap.nd) (An (Bj (BM (zB i0 hr (Bf (cy 0) (C6 (cy 1) (cy 2) (cy 4) (cy 5))))) (An (Ay (Bw (Aq (cy 4) (cy 5))))) Bh))))) (An (Ay V')))),?_⟩;obtain⟨z0,v,z2,rfl⟩:=CG (Pl h);cases z0<;>try exact False.elim h
 cases z2<;>try exact False.elim h
 rename_i M D
 .obtain⟨p,T,ok,kM,cp,kD,q⟩:=h;have l8:=ok.l8;refine⟨D,_,rfl,.inr (Ae.of kD),?_⟩;rw[Y2];refine⟨_,rfl,by omega,by omega,CY (n:=(T.ds.length:Int).toNat) (λi O H'=>(∃x4 Z,O=[some (.ref M),some v,some (.ref D),some (.int (T.ds.length:Int)),x4,Z])/\H'=H/\∀q∈BH T.ds.length i,Bs T q.1 q.2=false) ⟨⟨_,_,rfl⟩,rfl,λq y=>by cases y⟩ (λi O H' hi h=>?_) fun O H' h=>?_⟩
  .obtain⟨⟨x4,Z,rfl⟩,rfl,J⟩:=h;have i4:i<T.ds.length:=by omega
   refine⟨_,_,rfl,⟨by omega,by omega,by omega,by omega⟩,CY (n:=((T.ds.length:Int)-(0+(i:Int))).toNat) (λj O G=>(∃Z,O=[some (.ref M),some v,some (.ref D),some (.int (T.ds.length:Int)),some (.int (0+(i:Int))),Z])/\G=H'/\∀q∈BY i j,Bs T q.1 q.2=false) ⟨⟨_,rfl⟩,rfl,λq y=>by cases y⟩ (λj O G hj h=>?_) fun O G h=>?_⟩
   .obtain⟨⟨Z,rfl⟩,rfl,B⟩:=h;refine⟨p,T,i,i+j,by omega,by omega,by omega,by omega,ok,kM,cp,kD,⟨λz=>?_,λz=>?_⟩⟩
    .refine λt G2 s2 kt=>?_
     unfold ret at q;rw[X0 (by omega) J B z]at q;exact q _ _ s2 (Aa.tup kt (.cons (Aa.intE (by omega)) (.cons (Aa.intE (by omega)) .nil)))
    .refine⟨⟨_,rfl⟩,rfl,λq y=>?_⟩;rw [Mr] at y;rcases ZS.mp y with y | y
     .exact B q y
     .rw[Z3]at y;rw[y];exact z
   .obtain⟨⟨Z,rfl⟩,rfl,B⟩:=h;refine⟨⟨_,_,rfl⟩,rfl,λq y=>?_⟩;rw [FV] at y;rcases ZS.mp y with y | y
    .exact J q y
    .rw[show((T.ds.length:Int)-(0+(i:Int))).toNat=T.ds.length-i by omega]at B;exact B q y
  .obtain⟨⟨x4,Z,rfl⟩,rfl,J⟩:=h;unfold ret at q;rw[X1 J]at q;exact q _ _ (Ab.refl _) Aa.non
theorem X8:Az ["_law_caps_here","_law_chosen"] ["_law_caps_here","_law_chosen"] (Ar waU):=AC
theorem X9(F:Df K mg "_law_alone" waU ["_law_caps_here","_law_chosen"])(T:Tx mg):Fn P w K mg base 1 "_law_alone" ["_law_caps_here","_law_chosen"] HV:=by
 refine F.fn X8 @Pm λf dl A outer s H vs Q E hr h=>?_
 refine⟨_,(An (Ay (Bd ["_law_row","_law_chosen"] [none,some 1] rfl (BW K (cy 0)) (AI.of rfl) (λ_ _ _ _=>(zD 0)) (λ_ _ _ _=>Bm) (λ_ _ _ _=>(Bd ["_law_boiler","_law_cap","_law_chosen"] [none,none,some 1] rfl (E7 P w K rfl T.b_enumerate (Ai (cy 0))) (AI.of rfl) (λ_ _ _ _=>(AL K (n:=2) (Aj (zD 0) (Aj (zD 1) AJ)))) (λ_ _ _ _=>Bm) (λ_ _ _ _=>(DY (A7 (DZ K) (cy 0) (cy 2) (by with_unfolding_all rfl)) (cy 1) R'))))))),?_⟩;obtain⟨v,x,rfl⟩:=By (Pm h)
 .obtain⟨p,cs,c,l8,l4,rv,ch,q⟩:=h;obtain⟨A,xs,rfl,hA,rs⟩:=Aa.firing rv;obtain⟨Z,rfl,hZ⟩:=ch;have lx:=rs.len;rw[Y2]at lx;refine⟨A,rfl,⟨_,Ae.of hA⟩,B1 (xs:=xs) (λi J D=>Ab H D/\∃y:List yR,J=y.map V.ref/\y.length=i/\∀(j:Nat) (T:yR) (r:yV),y[j]? =some T->cs[j]? =some r->D T=some (.lst ((Cj c r).map V.int))) (by omega) ⟨Ab.refl _,[],rfl,rfl,λj T r a=>by cases a⟩ (λi J D h=>?_) (λi J D _ h=>Ae.of (h.1 _ _ hA)) (λi x J D hx h=>?_) λJ D h L hL=>?_⟩
  .obtain⟨_,y,rfl,e,_⟩:=h;rw[Y2,e];exact Y5 _
  .obtain⟨sm,y,rfl,eT,hT⟩:=h;obtain⟨O,hr,rr⟩:=Ad.mapGot rs hx;obtain⟨ra,rfl,i0⟩:=Aa.ofRow (Aa.ev (Ev.same sm) _ _ rr);have rl:=l4 O (YW hr);refine⟨⟨rfl,trivial⟩,λ_=>?_,λz=>by cases z⟩;refine⟨ra,rfl,⟨_,Ae.of i0⟩,walk_enum (xs:=O.map V.int) (λj G H2=>Ab D H2/\G=((Cj c O).take j).map V.int) (by rw [Y2];omega) ⟨Ab.refl _,rfl⟩ (λj G H2 h=>by rw [h.2,Y2,Zk];omega) (λj G H2 h=>Ae.of (h.1 _ _ i0)) (λj x G H2 U hx B hU=>?_) λG H2 B m hm=>?_⟩
   .obtain⟨m,hm,rfl⟩:=HU hx;have nU:=Ab.new (o:= .tup [.int (j:Int),.int m]) hU;have s3:=sm.trans (B.1.trans nU);have g:=O8 (c:=c) hm;refine⟨U,_,rfl,Ae.of Af,rfl,_,_,rfl,_,_,rfl,rfl,⟨rfl,trivial⟩,λ_=>⟨Z,_,rfl,hZ.imp (λz=>Al.of (s3 _ _ z)) (λz=>Ae.of (s3 _ _ z)),rfl,Nr,?_⟩,λz=>by cases z⟩;rw [Y8 (by decide),JD];refine⟨λz=>⟨B.1.trans nU,?_⟩,λz=>⟨B.1.trans nU,?_⟩⟩
    .rw[YN (Z0 z)]at g;rw[A8 g,YS,B.2];rfl
    .rw[Y8 (ZD z)]at g;rw[A8 g,YS,B.2];rfl
   .have sn:=B.1.trans (Ab.new (o:= .lst G) hm);refine⟨sm.trans sn,y++[m],by rw [YS];rfl,by rw [Zb,eT];rfl,λj T r a b=>?_⟩
    by_cases z:j<y.length
    .rw[ZB z]at a;exact sn _ _ (hT j T r a b)
    .rw [Zy (by omega)] at a;cases e:j-y.length with
     | zero=>
      rw[e]at a;cases a;rw[show j=i by omega,hr]at b;cases b;rw[Af,B.2,Z6 (by rw[Fp,Y2];exact Y5 _)]
     | succ n=>rw[e]at a;cases a
  .obtain⟨sm,y,rfl,eT,hT⟩:=h;have nl:=Ab.new (o:= .lst (y.map V.ref)) hL;refine q L _ (sm.trans nl) (sm.free hL) ⟨y,Af,by rw [Y2];omega,λj T r a b=>?_⟩;rw [YU] at b;cases z:cs[j]? with
   | none=>rw[z]at b;cases b
   | some O=>rw[z]at b;cases b;exact nl _ _ (hT j T O a z)
theorem zaz:Az ["_law_plant_here","_law_story_here","_law_chosen","_law_caps_here"] ["_law_plant_here","_law_story_here","_law_chosen"] (Ar waV):=AC
theorem Ya(F:Df K mg "_law_does" waV ["_law_plant_here","_law_story_here","_law_chosen"])(T:Tx mg)(i0:Fn P w K mg base 1 "_law_alone" ["_law_caps_here","_law_chosen"] HV)(i4:HH P w K mg base)(O:HM P w K mg base)(Z:Fn P w K mg base 2 "_law_stretch" ["_law_main","_law_caps_here","_law_draws_here"] Kp):Fn P w K mg base 3 "_law_does" ["_law_plant_here","_law_story_here","_law_chosen"] Kq:=by
 refine F.fn zaz @Pn λf dl A outer s H vs Q E B h=>?_
 refine⟨_,(Ak (zC 3 zaz.nd (zB i0 B (Aq (zB i4 B (Aq (cy 0) (cy 1))) (cy 2)))) (An (Ay (Cw Lb (zB Z B (AQ (AH (A4 K) (cy 0) R' (λ_ _=>rfl)) (cy 3) (zB O B (Aq (cy 0) (cy 1))))) V' (AV _))))),?_⟩;obtain⟨v,u,x,rfl⟩:=CG (Pn h)
 .obtain⟨p,P,S,c,ok,so,r,ru,ch,q⟩:=h;have x8:=so.x8;have b4:=ok.b4;have fl:=FX ok so;have f:=λ{H H':Hp} (s:Ab H H')=>Ev.same (p:=p) s
  refine⟨p,P,S,ok,so,r,ru,λvc H1 s1 rc=>⟨p,caps P S,c,by rw[E8];exact x8,λr0 B=>?_,rc,ch.sm s1,λA H2 s2 hA cl=>?_⟩⟩
  .have:=(fl.c r0 B).1;have:=fl.o;omega
  have y:=s1.trans s2;obtain⟨PA,PB,PE,PM,xb,xe,rfl,pA,pB,rb,pE,re,pM⟩:=Aa.plant (Aa.ev (f y) _ _ r);refine⟨PA,_,2,.ref PM,rfl,rfl,Ae.of pA,rfl,p,P,S,ok,so,Aa.ev (f y) _ _ r,Aa.ev (f y) _ _ ru,λvd H3 s3 rd=>?_⟩;obtain⟨D,rfl,hD⟩:=Aa.ofRow (r:=draws P S) rd;refine⟨p,only (terms P S) c,JE fl.ok,s3 _ _ pM,.inr ⟨A,rfl,cl.sm s3⟩,hD,λw H4 s4 G=>⟨rfl,?_⟩⟩;have J:=q _ (y.trans (s3.trans s4));unfold Dl at J;cases z:AZ (only (terms P S) c) with
  | none=>
   rw[z]at G J;have ew:w= .non:=by unfold Fc at G;unfold Aa at G;exact G
   rw[ew];exact J
  | some s0=>
   rw[z]at G J;obtain⟨A',rfl,i5⟩:=Aa.pair G;exact J
theorem zaA:Az ["_law_pen_here","_law_most","_law_hours","_law_plant_here"] ["_law_pen_here","_law_most","_law_hours"] (Ar waW):=AC
theorem Yb(F:Df K mg "_law_any_pair" waW ["_law_pen_here","_law_most","_law_hours"])(T:Tx mg)(G:Fn P w K mg base 2 "_law_plant" ["_law_pen_here","_law_most"] HE)(B:Fn P w K mg base 2 "_law_story" ["_law_pen_here","_law_plant_here","_law_most"] HG):Fn P w K mg base 3 "_law_any_pair" ["_law_pen_here","_law_most","_law_hours"] Kr:=by
 refine F.fn zaA @Po λf dl A outer s H vs Q E O h=>?_
 refine⟨_,(Ak (zC 3 zaA.nd (zB G O (Aq (cy 0) (cy 1)))) (An (Ay (Bw (Aq (cy 3) (zB B O (AQ (cy 0) (cy 3) (cy 2)))))))),?_⟩;obtain⟨z0,z1,z2,rfl⟩:=CG (Po h);cases z0<;>try exact False.elim h
 cases z1<;>try exact False.elim h
 cases z2<;>try exact False.elim h
 rename_i p m h
 .obtain⟨pn,m1,m4,h1,h8,q⟩:=h;refine⟨pn,m1,m4,λv H2 bs es lo hi st gp D e2 y=>?_⟩;obtain⟨P,ok,eP⟩:=gp.pl;rw[eP]at D;refine⟨y,h1,h8,P,ok,D,λu H3 S so ru Z J=>λt H4 s4 k4=>?_⟩;exact q t H4 P S v u ok so k4 (Aa.ev (Z.trans (Ev.same s4)) _ _ D) (Aa.ev (Ev.same s4) _ _ ru) (e2.trans (Z.trans (Ev.same s4))) (J.same s4)
end
section
variable{t:List (Int × Int)}{H:Hp}{i:Nat}{T:TM}
def A3(t:List (Int×Int)):List (As×V):=t.map λq=>(.inl q.1,.int q.2)
theorem Pp:(A3 t).length=t.length:=by unfold A3;rw[Y2]
theorem Pq{k:Int}:∀(t:List (Int×Int)),B7 (A3 t) (.inl k)=(AW t k).map V.int
 | []=>rfl
 | p::r=>by
  have y:=Pq r (k:=k)
  by_cases e:p.1=k
  .have h:B7 (A3 (p::r)) (.inl k)=some (.int p.2):=Hq (p:=(Sum.inl p.1,V.int p.2)) (r:=A3 r) (by rw[e]);rw[h,CP e];rfl
  .have h:B7 (A3 (p::r)) (.inl k)=B7 (A3 r) (.inl k):=Hr (p:=(Sum.inl p.1,V.int p.2)) (r:=A3 r) (λz=>e (fD z));rw[h,y,C9 e]
theorem Yc{k v:Int}:BZ (A3 t) (.inl k) (.int v)=A3 (CD t k v):=by
 have a:((A3 t).any λq=>decide (q.1=Sum.inl k))=(t.any λq=>decide (q.1=k)):=by
  unfold A3;rw[any_map]
  congr 1
  funext q
  show decide ((Sum.inl q.1:As)=Sum.inl k)=decide (q.1=k);exact decide_eq_decide.mpr ⟨λz=>fD z,λz=>by rw[z]⟩
 unfold BZ CD;rw[a];split
 .unfold A3;rw[ae,ae];refine dH λq _=>?_
  show(if (Sum.inl q.1:As)=Sum.inl k then((Sum.inl q.1:As),V.int v) else(Sum.inl q.1,V.int q.2))=(Sum.inl (if q.1=k then(q.1,v) else q).1,V.int (if q.1=k then(q.1,v) else q).2)
  by_cases e:q.1=k
  .rw[YN e,YN (by rw[e])]
  .rw[Y8 e,Y8 (λz=>e (fD z))]
 .unfold A3;rw[YS];rfl
theorem HW{y:Hp}{a:yR}{o:HO}(s:Ab H y)(n:H a=none):Ab H (upd y a o):=λb B q=>by
 rw[Ao (λz=>by rw[z,n]at q;cases q)];exact s b B q
theorem Yd{k c:Int}:(B7 (A3 t) (.inl k)).getD (.int c)= .int ((AW t k).getD c):=by
 rw[Pq];cases AW t k<;>rfl
theorem Ye{q:As×V}(h:(A3 t)[i]? =some q):∃g,t[i]? =some g/\q=(.inl g.1,.int g.2):=by
 unfold A3 at h;rw[YU]at h;cases e:t[i]? with
 | none=>rw[e]at h;cases h
 | some g=>rw[e]at h;exact⟨g,rfl,(Z7 h).symm⟩
theorem Kt{H':Hp}{b:yR}(s:Ab H H')(n:H' b=none):H b=none:=by
 cases e:H b with
 | none=>rfl
 | some o=>rw[s b o e]at n;cases n
def Yf(T:TM)(c:Int):Prop:=∀f y,DH T f y->c=f
noncomputable def CS(cs:List (Int×Int))(n:Nat):zA:=(List.range n).map fun(a:Nat)=>V.int (Ba cs (a:Int))
theorem Yg{cs:List (Int×Int)}:(Bx cs).map (λq=>V.int q.2)=CS cs ((AE cs).toNat+1):=by unfold Bx CS;rw[ae];rfl
theorem Pr{cs:List (Int×Int)}{n:Nat}:CS cs (n+1)=CS cs n++[V.int (Ba cs (n:Int))]:=by unfold CS;rw[bA,YS];rfl
theorem HX{cs:List (Int×Int)}{n:Nat}:(CS cs n).length=n:=by unfold CS;simp
theorem Yh{cs:List (Int×Int)}{n:Nat}:BD (CS cs (n+1)) (-1)=some (V.int (Ba cs (n:Int))):=by
 unfold BD Dd;rw[HX,Y8 (by omega),YN (by omega)];show(CS cs (n+1))[((-1:Int)+((n+1:Nat):Int)).toNat]? =_;rw[show((-1:Int)+((n+1:Nat):Int)).toNat=n from by omega,Pr,Zy (by rw[HX];exact Y5 _),HX,fc]
 rfl
theorem Ps:∀ {cs:List (Int×Int)}{i:Nat}{j:Int},i<cs.length->(∀c∈cs,0<=c.2)->0<=j->j<(cs.getD i (0,0)).2->Ba cs (AE (cs.take i)+j+1)=Ba cs (AE (cs.take i)+j)+(cs.getD i (0,0)).1
 | [],_,_,h,_,_,_=>absurd h (Zs _)
 | c::L,0,j,_,_,h0,h1=>by
  have B:j<c.2:=h1;show c.1 * min (0+j+1) c.2+Ba L ((0+j+1)-min (0+j+1) c.2)=c.1 * min (0+j) c.2+Ba L ((0+j)-min (0+j) c.2)+c.1;rw[show min (0+j+1) c.2=j+1 from by omega,show min (0+j) c.2=j from by omega,show(0+j+1)-(j+1)=(0:Int) from by omega,show(0+j)-j=(0:Int) from by omega,fL,Int.mul_one];omega
 | c::L,i+1,j,h,hp,h0,h1=>by
  have G:=hp c YR;have y:∀d∈L,0<=d.2:=λd hd=>hp d (YQ _ hd)
  have J:=Gd (L:=L.take i) λd hd=>y d (dy hd)
  have D:=Ps (cs:=L) (i:=i) (j:=j) (by simpa using h) y h0 (by simpa using h1);show c.1 * min (c.2+AE (L.take i)+j+1) c.2+Ba L ((c.2+AE (L.take i)+j+1)-min (c.2+AE (L.take i)+j+1) c.2)=c.1 * min (c.2+AE (L.take i)+j) c.2+Ba L ((c.2+AE (L.take i)+j)-min (c.2+AE (L.take i)+j) c.2)+_;rw[show min (c.2+AE (L.take i)+j+1) c.2=c.2 from by omega,show min (c.2+AE (L.take i)+j) c.2=c.2 from by omega,show(c.2+AE (L.take i)+j+1)-c.2=AE (L.take i)+j+1 from by omega,show(c.2+AE (L.take i)+j)-c.2=AE (L.take i)+j from by omega,D];show _=_+(L.getD i (0,0)).1;omega
theorem Pt:∀ {cs:List (Int×Int)}{i:Nat},i<cs.length->AE (cs.take (i+1))=AE (cs.take i)+(cs.getD i (0,0)).2
 | [],_,h=>absurd h (Zs _)
 | c::L,0,_=>by show c.2+0=0+c.2;omega
 | c::L,i+1,h=>by
  have:=Pt (cs:=L) (i:=i) (by simpa using h);show c.2+AE (L.take (i+1))=c.2+AE (L.take i)+(L.getD i (0,0)).2;omega
theorem Pu:∀ {L:List (Int×Int)},(∀c∈L,c.2<=20)->AE L<=20 *(L.length:Int)
 | [],_=>by decide
 | c::L,h=>by
  have:=Pu (L:=L) λd hd=>h d (YQ _ hd)
  have:=h c YR;show c.2+AE L<=20 *((L.length+1:Nat):Int);omega
theorem Pw:∀ {r co:yV},r.length=co.length->(∀x∈r,0<=x/\x<=20)->(∀c∈co,1<=c/\c<=9)->0<=BI r co/\BI r co<=180 *(co.length:Int)
 | [],[],_,_,_=>⟨Za _,Za _⟩
 | [],_::_,h,_,_=>by cases h
 | _::_,[],h,_,_=>by cases h
 | x::r,c::co,h,hx,hc=>by
  have G:=Pw (r:=r) (co:=co) (by simpa using h) (λy B=>hx y (YQ _ B)) λy B=>hc y (YQ _ B)
  have a:=hx x YR;have b:=hc c YR;have J:0<=c * x:=av (by omega) a.1;have D:c * x<=9 * 20:=ay (dz b.2 a.1) (bG a.2 (by decide));show 0<=c * x+BI r co/\c * x+BI r co<=180 *((co.length+1:Nat):Int);omega
theorem Ku(fl:A5 T){F:yZ}(rt:RowT T F):∀i,i<=T.ds.length->0<=A9 T F i/\A9 T F i<=720 *(i:Int)
 | 0,_=>⟨Za _,Za _⟩
 | i+1,h=>by
  have J:=Ku fl rt i (by omega);obtain⟨l,b⟩:=rt.2 i (by omega);have o:=fl.o;have K:=DJ fl (show i<T.ds.length by omega);have r:=Pw (r:=F.getD i []) (co:=T.co) l (λx G=>by
   obtain⟨k,D,e⟩:=aK.mp G;have y:=b k (by omega);rw[Y3,Y6 D]at y;have B:(some (F.getD i [])[k]).getD 0=x:=e;rw[B]at y;have O:=(fl.c _ (X' (l:=T.cs) (i:=i) (d:=[]) (by rw[fl.ok.lc];omega))).2 _ (X' (l:=T.cs.getD i []) (i:=k) (d:=0) (by omega));omega) fl.o1
  show 0<=A9 T F i+BI (F.getD i []) T.co/\A9 T F i+BI (F.getD i []) T.co<=720 *((i+1:Nat):Int);omega
theorem LvT.bd(fl:A5 T){i:Nat}(hi:i<=T.ds.length){q:Int×Int}(h:LvT T i q):0<=q.2/\q.2<=5760:=by
 obtain⟨F,rt,_,rfl⟩:=h;have:=Ku fl rt i hi;have:=fl.ok.l8;show 0<=A9 T F i/\A9 T F i<=5760;omega
theorem Px:∀ {L:List (Int×Int)}{q:Int×Int},(∀c∈L,1<=c.1/\c.1<=9/\c.2<=20)->AttP L q->0<=q.2/\q.2<=180 *(L.length:Int)
 | [],q,_,h=>by have e:q=(0,0):=h;subst e;exact⟨Za _,Za _⟩
 | c::L,q,hc,⟨x,q',a,b,h,e⟩=>by
  have D:=Px (λd hd=>hc d (YQ _ hd)) h;have y:=hc c YR;subst e;have G:0<=c.1 * x:=av (by omega) a;have B:c.1 * x<=9 * 20:=ay (dz y.2.1 a) (bG (by omega) (by decide));show 0<=c.1 * x+q'.2/\c.1 * x+q'.2<=180 *((L.length+1:Nat):Int);omega
theorem Yi{l:yV}{x:V}(h:(l.map V.int)[i]? =some x):∃m,l[i]? =some m/\x= .int m:=by
 rw[YU]at h;cases z:l[i]? with
 | none=>rw[z]at h;cases h
 | some m=>rw[z]at h;cases h;exact⟨m,rfl,rfl⟩
theorem Yj{y:List yR}{xs ys:yV}(l:y.length=(xs.map V.int).length)(le:xs.length=ys.length)(zd:Zd H y (xs.map V.int) (ys.map V.int)):PrT H y (xs.zip ys):=by
 refine⟨by rw[l,Y2,length_zip];omega,λj T c D B=>?_⟩;obtain⟨a,b⟩:=eR.mp B;exact zd j T _ _ D (by rw[YU,a];rfl) (by rw[YU,b];rfl)
theorem Yk{i j:Int}:(if j<i then j else i)=min i j:=by split<;>omega
theorem Yl{L:List (Int×Int)}{k:Nat}{y:V}(h:((Bx L).map λq=>V.int q.2)[k]? =some y):(Bx L)[k]? =some ((k:Int),Ba L (k:Int))/\y= .int (Ba L (k:Int)):=by
 rw[YU]at h;cases z:(Bx L)[k]? with
 | none=>rw[z]at h;cases h
 | some q=>
  have B:k<(AE L).toNat+1:=by have:=(Y9.mp z).1;rw[V8]at this;exact this
  rw[N3 B]at z;cases z;rw[N3 B]at h;cases h;exact⟨rfl,rfl⟩
def Kv:Sp:=λG H Q _=>match G with | [.ref A]=>∃B cs,H A=some (.lst (B.map V.ref))/\B.length<=4/\PrT H B cs/\(∀c∈cs,0<=c.2/\c.2<=20)/\∀L D y,y.Perm cs->y.Pairwise (λc d=>c.1<=d.1)->Ab H D->H L=none->D L=some (.lst ((Bx y).map λq=>V.int q.2))->Q (.ref L) D | _=>False
def Kw:Sp:=λB H Q _=>match B with | [.ref O,.ref C,.ref D,.ref M]=>∃T,A5 T/\T.lo<=T.st/\T.st<=T.hi/\0<T.ds.length/\H O=some (.lst (T.co.map V.int))/\CpL H T.cs C/\H D=some (.tup (T.ds.map V.int))/\H M=some (.tup [.int T.lo,.int T.hi,.int T.st])/\(AZ T≠none->∀y,Ab H y->Q .non y)/\(AZ T=none->∀c y,Yf T c->Ab H y->Q (.int c) y) | _=>False
def Kx:Sp:=λB H Q _=>match B with | [v]=>∃p P,PL.ok P/\Aa p H P.d v/\∀L y,Ab H y->H L=none->y L=some (.lst ((P.bs.map (·.2)).map V.int))->Q (.ref L) y | _=>False
theorem Py{vs H Q E}(h:Kv vs H Q E):vs.length=1:=by rcases vs with _ | ⟨y,_ | _⟩<;>first | rfl | cases h | skip;all_goals (cases y<;>first | cases h | skip)
theorem Pz{vs H Q E}(h:Kw vs H Q E):vs.length=4:=by rcases vs with _ | ⟨D,_ | ⟨G,_ | ⟨B,_ | ⟨y,_ | _⟩⟩⟩⟩<;>first | rfl | cases h | skip;all_goals (cases D<;>first | cases h | skip);all_goals (cases G<;>first | cases h | skip);all_goals (cases B<;>first | cases h | skip);all_goals (cases y<;>first | cases h | skip)
theorem PC{vs H Q E}(h:Kx vs H Q E):vs.length=1:=by rcases vs with _ | ⟨_,_ | _⟩<;>first | rfl | cases h
variable{P:yP}{w:yN}{K:Fgx}{mg:Str -> yW}{base:Heap}
theorem zah:Az ["_law_columns","_law_found","_law_coal","_law_most","_law_turn"] ["_law_columns"] (Ar waN):=AC
theorem Ym(F:Df K mg "_law_costs" waN ["_law_columns"])(T:Tx mg):Fn P w K mg base 1 "_law_costs" ["_law_columns"] Kv:=by
 refine F.fn zah @Py λf dl A outer s H vs Q E hr h=>?_
 refine⟨_,(Ak (zC 1 zah.nd (B4 (Ai R'))) (Ak (Bl Z8 rfl (Ez K (AD Vr rfl T.b_sorted boot_sorted (Ai (cy 0)))) (AL K (n:=2) (Aj (Ag 2 zah.nd) (Aj (Ag 3 zah.nd) AJ))) (An (Bl Z8 rfl (B0 rfl T.b_range (Ai (cy 3))) (Ag 4 zah.nd) (An (Cv (C4 zE zF zG Dv (cy 1) (Ai (Ax A1 (AH (BO K) (cy 1) (Ip Ir R') (λ_ _=>rfl)) (cy 2))))))))) (An (Ay (cy 1))))),?_⟩;obtain⟨z0,rfl⟩:=Dn (Py h);cases z0<;>try exact False.elim h
 rename_i A
 .obtain⟨Ts,cs,hA,hn,pr,bd,q⟩:=h;refine λL H1 s1 hL kL=>?_
  refine⟨A,Ts,cs,rfl,s1 _ _ hA,hn,pr.sm s1,λl B y hl j3 pm pw=>?_⟩;have nl:=Ab.new (o:= .lst (B.map V.ref)) hl;have kl:upd H1 l (.lst (B.map V.ref)) l=some (.lst (B.map V.ref)):=Af;have i7:=nl _ _ kL;have s2:=s1.trans nl;have i9:=j3.sm nl;have j0:l≠L:=λz=>by rw[z,kL]at hl;cases hl
  generalize upd H1 l (.lst (B.map V.ref))=H2 at nl kl i7 s2 i9 ⊢;have i0:∀c∈y,0<=c.2/\c.2<=20:=λc hc=>bd c (pm.mem_iff.mp hc)
  have j4:y.length<=4:=by rw[pm.length_eq,<-pr.1];exact hn
  have i6:∀c∈y,0<=c.2:=λc hc=>(i0 c hc).1
  have m4:∀i,AE (y.take i)<=80:=λi=>by
   have a:=Pu (L:=y.take i) λc hc=>(i0 c (dy hc)).2
   have b:(y.take i).length<=4:=by rw[Zk];omega
   omega
  have m0:∀i,0<=AE (y.take i):=λi=>Gd λc hc=>i6 c (dy hc)
  refine⟨l,rfl,⟨_,Al.of kl⟩,EV (xs:=B.map V.ref) (λi O D=>(∃x2 x3 x4,O=[some (.ref A),some (.ref L),x2,x3,x4])/\D l=some (.lst (B.map V.ref))/\PrT D B y/\D L=some (.lst (CS y ((AE (y.take i)).toNat+1)))/\Ab H D) ⟨⟨_,_,_,rfl⟩,kl,i9,?_,s2⟩ (λi O D _ h=>Al.of h.2.1) (λi x O D hx h=>?_) fun O D h=>?_⟩
  .rw[i7];show some (HO.lst [V.int 0])=some (HO.lst [V.int (Ba y 0)]);rw[JM i6]
  .obtain⟨⟨x2,x3,x4,rfl⟩,i8,J,Z,s3⟩:=h;rw [YU] at hx;cases hT:B[i]? with
   | none=>rw[hT]at hx;cases hx
   | some T=>
    rw[hT]at hx;cases hx;have hi:i<y.length:=by rw[<-J.1];exact(Y9.mp hT).1
    have kT:=J.2 i T y[i] hT (Y6 hi);have ec:y.getD i (0,0)=y[i]:=by rw[Y3,Y6 hi];rfl
    have bc:=i0 y[i] (ZL hi);have j5:=m0 i;have j6:=m4 i;have mt:=Pt hi;rw[ec]at mt;refine⟨T,_,rfl,Ae.of kT,rfl,_,_,rfl,_,_,rfl,rfl,_,rfl,by omega,by omega,CY (n:=(y[i].2).toNat) (λj O D=>(∃x4,O=[some (.ref A),some (.ref L),some (.int y[i].1),some (.int y[i].2),x4])/\D l=some (.lst (B.map V.ref))/\PrT D B y/\D L=some (.lst (CS y ((AE (y.take i)).toNat+j+1)))/\Ab H D) ⟨⟨_,rfl⟩,i8,J,Z,s3⟩ (λj O D hj h=>?_) fun O D h=>?_⟩
    .obtain⟨⟨x4,rfl⟩,i4,i5,G,s4⟩:=h;have st:=Ps (cs:=y) (i:=i) (j:=(j:Int)) hi i6 (by omega) (by rw [ec];omega);rw [ec] at st;refine⟨.inl ⟨rfl,_,Al.of G⟩,1,rfl,L,_,_,_,rfl,rfl,Al.of G,Yh,L,_,_,rfl,rfl,G,YO (m:=1000) (by rw [HX];omega) (show 1000<=sizeLine from by decide),⟨_,rfl⟩,?_,i5.own G,?_,HW s4 hL⟩
     .rw[Ao j0];exact i4
     .rw [Af,show(AE (y.take i)).toNat+(j+1)+1=((AE (y.take i)).toNat+j+1)+1 from by omega,Pr (n:=(AE (y.take i)).toNat+j+1)];refine Zz (λz=>some (HO.lst (CS y ((AE (y.take i)).toNat+j+1)++[V.int z]))) ?_;have e1:(((AE (y.take i)).toNat+j+1:Nat):Int)=AE (y.take i)+(j:Int)+1:=by omega
      have e2:(((AE (y.take i)).toNat+j:Nat):Int)=AE (y.take i)+(j:Int):=by omega
      rw[e1,e2];exact st.symm
    .obtain⟨⟨x4,rfl⟩,i4,i5,G,s4⟩:=h;refine⟨⟨_,_,_,rfl⟩,i4,i5,?_,s4⟩;rw[G,mt];rw[show(AE (y.take i)+y[i].2).toNat+1=(AE (y.take i)).toNat+(y[i].2).toNat+1 from by omega]
  .obtain⟨⟨x2,x3,x4,rfl⟩,i8,J,Z,s3⟩:=h;refine q L D y pm pw s3 hL ?_;rw[Z,Yg,Y2,J.1,cI]
theorem za0:Az ["_law_coals_here","_law_caps_here","_law_draws_here","_law_main","_law_low","_law_high","_law_start","_law_now","_law_row","_law_draw_here","_law_later","_law_costs_here","_law_here","_law_cost","_law_amount","_law_more","_law_left"] ["_law_coals_here","_law_caps_here","_law_draws_here","_law_main"] (Ar waO):=AC
theorem Yn(F:Df K mg "_law_least" waO ["_law_coals_here","_law_caps_here","_law_draws_here","_law_main"])(T:Tx mg)(yaF:Fn P w K mg base 1 "_law_costs" ["_law_columns"] Kv):Fn P w K mg base 2 "_law_least" ["_law_coals_here","_law_caps_here","_law_draws_here","_law_main"] Kw:=by
 refine F.fn za0 @Pz λf dl A outer s H vs Q E hr h=>?_
 refine⟨_,(Ak (Bz (cy 3) (AL K (n:=3) (Aj (Ag 4 za0.nd) (Aj (Ag 5 za0.nd) (Aj (Ag 6 za0.nd) AJ))))) (Ak (zC 7 za0.nd (Wn (Wl (cy 6) R' Wk) rfl rfl (λz=>nomatch z) (by decide))) (Ak (Bl Z8 rfl (Vi P w K rfl T.b_zip (Aq (cy 1) (cy 2))) (AL K (n:=2) (Aj (Ag 8 za0.nd) (Aj (Ag 9 za0.nd) AJ))) (Ak (KR (i:=10) (j:=11) rfl za0.nd rfl rfl (by decide) rfl rfl (Aq Oc (zB yaF hr (Ai (V7 P w K rfl T.b_list rfl T.b_zip (Aq (cy 0) (cy 8)))))) (by rfl)) (Ak (Bl Z8 rfl (Jr (Wu (cy 7))) (AL K (n:=2) (Aj (Ag 12 za0.nd) (Aj (Ag 13 za0.nd) AJ))) (An (Bl Z8 rfl (R1 P w K rfl T.b_enumerate (Ai (cy 11))) (AL K (n:=2) (Aj (Ag 14 za0.nd) (Aj (Ag 15 za0.nd) AJ))) (Ak (zC 16 za0.nd (AD (Gq rfl) rfl T.b_min gj (Aq (cy 5) (Ax Cf (Ax A1 (cy 12) (cy 14)) (cy 9))))) (An (Bj (PW.pt (GK (A7 LR (cy 16) (cy 4) (AV _)) (Ih (A7 Dz (Ax A1 (cy 13) (cy 15)) (Wr (Og hr) (cy 10) (cy 16) (Ax GJ R' R') ⟨rfl,rfl,rfl,rfl⟩) (AV _))))) (An (Wi (Og hr) (cy 10) (cy 16) (Ax A1 (cy 13) (cy 15)) rfl)) Bh)))))) (An (zC 7 za0.nd (cy 10)))))) (An (Ay (DY (A7 (Ww (Ws hr)) (cy 7) Oc (AV _)) (AD (SR rfl) rfl T.b_min gj (Ai (Ax EG (BA (Wz rfl) rfl T.b_list IY (Ai (Wy (cy 7)))) (B4 (Ai (Ax GJ R' R')))))) V')))))),?_⟩;obtain⟨z0,z1,z2,z3,rfl⟩:=Oj (Pz h);cases z0<;>try exact False.elim h
 cases z1<;>try exact False.elim h
 cases z2<;>try exact False.elim h
 cases z3<;>try exact False.elim h
 rename_i O C D M
 .obtain⟨T,fl,h1,sh,n0,hO,rC,hD,hM,qn,qs⟩:=h;obtain⟨u7,hC,v8,hcx⟩:=rC;obtain⟨cx,u6⟩:∃cx,cx=u7.map V.ref:=⟨_,rfl⟩;rw[<-u6]at hC;have l8:=fl.ok.l8;have lc:=fl.ok.lc;have l0:=fl.l0;have h4:=fl.h4;have lh:T.lo<=T.hi:=by omega
  have o4:=fl.o;have lcx:T.cs.length=cx.length:=by rw[u6,Y2,v8]
  refine⟨M,_,rfl,Ae.of hM,rfl,_,_,rfl,_,_,rfl,_,_,rfl,rfl,λG0 t9=>⟨Af,[(.inl T.st,.int 0)],rfl,(show 1<=15 from by decide),?_⟩⟩;have s0:Ab H (upd (upd H G0 (.dK [])) G0 (.dK (Eg [] [(.inl T.st,.int 0)]))):=HW (Ab.new t9) t9;have k0:upd (upd H G0 (.dK [])) G0 (.dK (Eg [] [(.inl T.st,.int 0)])) G0=some (.dK (A3 [(T.st,0)])):=Af;generalize upd (upd H G0 (.dK [])) G0 (.dK (Eg [] [(.inl T.st,.int 0)]))=H0 at s0 k0 ⊢;refine⟨C,D,rfl,⟨_,Al.of (s0 _ _ hC)⟩,⟨_,Ae.of (s0 _ _ hD)⟩,Jl (xs:=cx) (ys:=T.ds.map V.int) (λi σ H'=>∃G t,(∃x8 x9 o8 u0 i7 i6 Z J i0,σ=[some (.ref O),some (.ref C),some (.ref D),some (.ref M),some (.int T.lo),some (.int T.hi),some (.int T.st),some (.ref G),x8,x9,o8,u0,i7,i6,Z,J,i0])/\H G=none/\H' G=some (.dK (A3 t))/\Mn (LvT T i) t/\Ab H H') (by rw[Y2];omega) ⟨G0,[(T.st,0)],⟨_,_,_,_,_,_,_,_,_,rfl⟩,t9,k0,Mn.one (LvT.zero fl),s0⟩ (λi σ H' h=>by
    obtain⟨G,t,_,_,_,_,s⟩:=h;exact⟨Al.of (s _ _ hC),Ae.of (s _ _ hD)⟩) (λi x y σ H1 T1 hx hy h hT1=>?_) fun σ H1 h=>?_⟩
  .obtain⟨G,t,⟨x8,x9,o8,u0,i7,i6,Z,J,i0,rfl⟩,hG,kG,mn,s1⟩:=h;obtain⟨d,hd,rfl⟩:=Yi hy;have hi:i<T.ds.length:=(Y9.mp hd).1;rw[u6,YU]at hx;obtain⟨ra,hra,rfl⟩:∃ra,u7[i]? =some ra/\x= .ref ra:=by
    cases z:u7[i]? with
    | none=>rw[z]at hx;cases hx
    | some ra=>rw[z]at hx;cases hx;exact⟨ra,rfl,rfl⟩
   have kra:H ra=some (.lst ((T.cs.getD i []).map V.int)):=hcx i ra _ hra (by rw[Y3,Y6 (by omega)];rfl);have ed:T.ds.getD i 0=d:=by rw[Y3,hd];rfl
   have w8:=Ab.new (o:= .tup [.ref ra,.int d]) hT1;have crow:=DJ fl hi;have j4:=(fl.c _ (X' (l:=T.cs) (i:=i) (d:=[]) (by omega))).2;refine⟨T1,_,rfl,Ae.of Af,rfl,_,_,rfl,_,_,rfl,rfl,λM2 l6=>?_⟩;have s2:=s1.trans w8;have i8:=w8 _ _ kG;generalize upd H1 T1 (.tup [.ref ra,.int d])=H2 at s2 i8 l6 ⊢;have n9:H M2=none:=Kt s2 l6;have w9:G≠M2:=Bg i8 l6;have w6:=Ab.new (o:= .dK []) l6;have s3:=s2.trans w6;have kG3:=w6 _ _ i8;have v3:upd H2 M2 (.dK []) M2=some (.dK (A3 [])):=Af;generalize upd H2 M2 (.dK [])=H3 at s3 kG3 v3 ⊢;refine⟨O,ra,rfl,⟨_,Al.of (s3 _ _ hO)⟩,⟨_,Al.of (s3 _ _ kra)⟩,T.co.map V.int,(T.cs.getD i []).map V.int,Al.of (s3 _ _ hO),Al.of (s3 _ _ kra),by rw[Y2,Y2];omega,by rw[Y2];omega,λL4 H4 Ts s4 hL4 kL4 lTs zd=>?_⟩;refine⟨Ts,T.co.zip (T.cs.getD i []),kL4,by rw[lTs,Y2];exact o4,Yj lTs crow.symm zd,λc hc=>?_,λL5 H5 B pm pw s5 hL5 j6=>⟨_,_,rfl,?_⟩⟩
   .exact j4 c.2 (bw hc).2
   have ma:Mn (AttP (T.co.zip (T.cs.getD i []))) (Bx B):=Mn.costs pm pw λc hc=>(j4 c.2 (bw hc).2).1
   have o7:=s4.trans s5;have sH5:=s3.trans o7;have u9:=o7 _ _ kG3;have v6:=o7 _ _ v3;have hL5b:H L5=none:=Kt (s3.trans s4) hL5;have nLM:L5≠M2:=λz=>by rw[z,v6]at j6;cases j6
   have nLG:L5≠G:=λz=>by rw[z,u9]at j6;cases j6
   refine⟨G,_,rfl,u9,λo=>⟨G,o,_,rfl,Af,?_⟩⟩;have s7:Ab H (upd H5 G (.frz o (.dK (A3 t)))):=HW sH5 hG;have kG7:upd H5 G (.frz o (.dK (A3 t))) G=some (.frz o (.dK (A3 t))):=Af;have v4:upd H5 G (.frz o (.dK (A3 t))) M2=some (.dK (A3 [])):=by rw[Ao (Zv w9)];exact v6
   have x0:upd H5 G (.frz o (.dK (A3 t))) L5=some (.lst ((Bx B).map λq=>V.int q.2)):=by rw[Ao nLG];exact j6
   generalize upd H5 G (.frz o (.dK (A3 t)))=H7 at s7 kG7 v4 x0 ⊢;have lB:∀(i k:Nat) z,LsL T.lo T.hi d t (Bx B) i k z->0<=z.1/\z.1<=100:=λi k z zq=>by
    obtain⟨_,_,g',a',_,_,h3,h4',_⟩:=zq;rw[h4'];show 0<=min T.hi (g'.1+a'.1-d)/\min T.hi (g'.1+a'.1-d)<=100;omega
   have tB:∀g∈t,0<=g.2/\g.2<=5760:=λg hg=>(mn.snd g hg).bd fl (ZH hi)
   have aB:∀a∈Bx B,0<=a.2/\a.2<=720:=λa ha=>by
    have:=Px (L:=T.co.zip (T.cs.getD i [])) (λc hc=>⟨(fl.o1 c.1 (bw hc).1).1,(fl.o1 c.1 (bw hc).1).2,(j4 c.2 (bw hc).2).2⟩) (ma.snd a ha);have lz:(T.co.zip (T.cs.getD i [])).length<=4:=by rw[length_zip];omega
    omega
   refine Wv (λi2 σ H'=>∃m,(∃i7 i6 Z J i0,σ=[some (.ref O),some (.ref C),some (.ref D),some (.ref M),some (.int T.lo),some (.int T.hi),some (.int T.st),some (.ref G),some (.ref ra),some (.int d),some (.ref M2),some (.ref L5),i7,i6,Z,J,i0])/\H' M2=some (.dK (A3 m))/\H' G=some (.frz o (.dK (A3 t)))/\H' L5=some (.lst ((Bx B).map λq=>V.int q.2))/\Mn (LsL T.lo T.hi d t (Bx B) i2 0) m/\Ab H H') ⟨[],⟨_,_,_,_,_,rfl⟩,v4,kG7,x0,Mn.nil LsL.zero,s7⟩ (λi σ H' ⟨_,_,_,k,_⟩=>k) (λi2 q' σ H8 T2 hq h hT2=>?_) fun σ H8 h=>?_
   .obtain⟨m,⟨i7,i6,Z,J,i0,rfl⟩,r8,w5,kL8,mm,s8⟩:=h;obtain⟨g,hg,rfl⟩:=Ye hq;have l9:=Ab.new (o:= .tup [kV (Sum.inl g.1),.int g.2]) hT2;refine⟨T2,_,rfl,Ae.of Af,rfl,_,_,rfl,_,_,rfl,rfl,?_⟩;have s9:=s8.trans l9;have kM9:=l9 _ _ r8;have v7:=l9 _ _ w5;have q9:=l9 _ _ kL8;generalize upd H8 T2 (.tup [kV (Sum.inl g.1),.int g.2])=H9 at s9 kM9 v7 q9 ⊢;have gB:=tB g (YW hg);refine⟨L5,rfl,⟨_,Al.of q9⟩,for_enum (xs:=(Bx B).map λq=>V.int q.2) (λk σ H'=>∃m,(∃Z J i0,σ=[some (.ref O),some (.ref C),some (.ref D),some (.ref M),some (.int T.lo),some (.int T.hi),some (.int T.st),some (.ref G),some (.ref ra),some (.int d),some (.ref M2),some (.ref L5),some (.int g.1),some (.int g.2),Z,J,i0])/\H' M2=some (.dK (A3 m))/\H' G=some (.frz o (.dK (A3 t)))/\H' L5=some (.lst ((Bx B).map λq=>V.int q.2))/\Mn (LsL T.lo T.hi d t (Bx B) i2 k) m/\Ab H H') ⟨m,⟨_,_,_,rfl⟩,kM9,v7,q9,mm,s9⟩ (λk σ H' ⟨_,_,_,_,kk,_⟩=>Al.of kk) (λk y σ H10 T3 hy h hT3=>?_) fun σ H10 h=>?_⟩
    .obtain⟨m7,⟨Z,J,i0,rfl⟩,j3,j8,j5,i5,o9⟩:=h;obtain⟨ha,rfl⟩:=Yl hy;have cB:=aB _ (YW ha);have cB':0<=Ba B (k:Int)/\Ba B (k:Int)<=720:=cB;have l7:=Ab.new (o:= .tup [.int (k:Int),.int (Ba B (k:Int))]) hT3;refine⟨T3,_,rfl,Ae.of Af,rfl,_,_,rfl,_,_,rfl,rfl,_,_,rfl,?_⟩;have j9:=o9.trans l7;have i4:=l7 _ _ j3;have j0:=l7 _ _ j8;have i9:=l7 _ _ j5;generalize upd H10 T3 (.tup [.int (k:Int),.int (Ba B (k:Int))])=H11 at j9 i4 j0 i9 ⊢;rw [Yk];refine⟨λle=>?_,λle=>?_⟩
     .have le:=Z0 le;have lm:=i5.len (lB _ _);refine⟨M2,rfl,.inl ⟨_,.inl i4⟩,⟨by decide,by decide,by decide⟩,_,DGet.k (k:= .inl (min T.hi (g.1+(k:Int)-d))) i4,?_⟩;rw [Yd];have e9:(10:Int) ^ Int.toNat 9=1000000000:=by decide
      refine⟨λlt=>?_,λlt=>?_⟩
      .have lt:=Z0 lt;rw [e9] at lt;refine⟨M2,_,rfl,DPut.k (k:= .inl (min T.hi (g.1+(k:Int)-d))) i4 (by rw [Pp,fG];omega),Fo m7 (min T.hi (g.1+(k:Int)-d)) (g.2+Ba B (k:Int)),⟨_,_,_,rfl⟩,?_,?_,?_,(i5.less _ _ (by omega)).congr (LsL.step hg ha le),HW j9 n9⟩
       .rw[Af,Yc];unfold Fo;rw[YN lt]
       .rw[Ao w9];exact j0
       .rw[Ao nLM];exact i9
      .have lt:=ZD lt;rw[e9]at lt;refine⟨Fo m7 (min T.hi (g.1+(k:Int)-d)) (g.2+Ba B (k:Int)),⟨_,_,_,rfl⟩,?_,j0,i9,(i5.less _ _ (by omega)).congr (LsL.step hg ha le),j9⟩;unfold Fo;rw[Y8 lt];exact i4
     .have le:=ZD le;exact⟨λc=>(by cases c),λ_=>⟨m7,⟨_,_,_,rfl⟩,i4,j0,i9,i5.congr (LsL.skip hg ha le),j9⟩⟩
    .obtain⟨m7,⟨Z,J,i0,rfl⟩,j3,j8,j5,i5,o9⟩:=h;refine⟨m7,⟨_,_,_,_,_,rfl⟩,j3,j8,j5,?_,o9⟩;rw[Y2]at i5;exact i5.congr LsL.turn
   .obtain⟨m,⟨i7,i6,Z,J,i0,rfl⟩,r8,w5,kL8,mm,s8⟩:=h;rw[Pp]at mm;rw[<-ed]at mm;exact⟨M2,m,⟨_,_,_,_,_,_,_,_,_,rfl⟩,n9,r8,Mn.hourT fl hi mn ma mm,s8⟩
  .obtain⟨G,t,⟨x8,x9,o8,u0,i7,i6,Z,J,i0,rfl⟩,hG,kG,mn,s1⟩:=h;rw [show cx.length=T.ds.length from by omega] at mn;obtain⟨m1,m2⟩:=We fl h1 sh n0 mn;refine λN hN=>⟨G,N,_,rfl,rfl,.inl ((Ab.new hN) _ _ kG),.inl Af,?_⟩
   have sN:=Ab.new (o:= .dK []) hN;have s2:=s1.trans sN;have i8:=sN _ _ kG;generalize upd H1 N (.dK [])=H2 at s2 i8 ⊢;have no1:t≠ []->AZ T=none:=λne=>by
    cases z:AZ T with
    | none=>rfl
    | some s0=>exact absurd (m1 (by rw[z];intro c;cases c)) ne
   refine⟨λne=>?_,λe=>qn (λz=>?_) _ s2⟩
   .have tn:t≠ []:=λz=>by rw [z] at ne;cases ne
    have no:=no1 tn;have ol:=(m2 no).2;have tB:∀g∈t,0<=g.2/\g.2<=5760:=λg hg=>(mn.snd g hg).bd fl (Y5 _)
    have ev:(A3 t).map (·.2)=(t.map (·.2)).map V.int:=by unfold A3;rw[ae,ae];rfl
    refine⟨G,_,rfl,.inl i8,λvv hv=>⟨vv,G,_,rfl,Af,.inl ((Ab.new hv) _ _ i8),λl hl=>?_⟩⟩;rw[ev];have nv:=Ab.new (o:=Ge vv G) hv;have nl:=Ab.new (o:= .lst ((t.map (·.2)).map V.int)) hl;refine⟨⟨by decide,by decide,by decide⟩,λL9 H9 s9 hL9 k9=>⟨l,L9,_,_,rfl,rfl,s9 _ _ Af,k9,?_,λLc Hc' sc' hLc kc=>?_⟩⟩
    .have lt:=mn.len λq hq=>by
      obtain⟨F,rt,up,rfl⟩:=hq;have u1:=up (T.ds.length-1) (by omega);rw[show T.ds.length-1+1=T.ds.length from by omega]at u1;have u2:mT T F (T.ds.length-1+1)<=T.hi:=JC;rw[show T.ds.length-1+1=T.ds.length from by omega]at u2;show 0<=mT T F T.ds.length/\mT T F T.ds.length<=100;omega
     exact YV (by rw[Y2,Y2];show t.length+1<=1000;omega) (by decide:1000<=sizeLine)
    .have ec:(t.map (·.2)).map V.int++[V.int (10 ^(9:Int).toNat)]=(t.map (λq:Int×Int=>q.2)++[1000000000]).map V.int:=by rw [YS];rfl
     rw[ec]at kc;refine⟨Lc,_,rfl,kc,λz=>(by simp at z),λm hm j7=>?_⟩;have hmt:m∈t.map (·.2):=by
      rcases ZS.mp hm with z | z
      .exact z
      .rw [Z3.mp z] at j7;cases t with
       | nil=>exact absurd rfl tn
       | cons g r=>
        have h1:=j7 g.2 (aI _ (Zj.mpr ⟨g,YR,rfl⟩));have h2:=tB g YR;omega
     exact qs no m _ (λf ps hf=>ol f ps hf m hmt λx hx=>j7 x (aI _ hx)) (s2.trans (nv.trans (nl.trans (s9.trans sc'))))
   .have te:t=[]:=by
     cases t with
     | nil=>rfl
     | cons _ _=>cases e
    exact(m2 z).1 te
theorem Yo:Az ["_law_plant_here"] ["_law_plant_here"] (Ar waP):=AC
theorem Yp(F:Df K mg "_law_coals" waP ["_law_plant_here"])(T:Tx mg):Fn P w K mg base 1 "_law_coals" ["_law_plant_here"] Kx:=by
 refine F.fn Yo @PC λf dl A outer s H vs Q E hr h=>?_
 refine⟨_,(An (Ay (Bd ["_law_make","_law_coal"] [none,none] rfl (BW K (AH (A4 K) (cy 0) R' (λ_ _=>rfl))) (AI.of rfl) (λ_ _ _ _=>(AL K (n:=2) (Aj (zD 0) (Aj (zD 1) AJ)))) (λ_ _ _ _=>Bm) (λ_ _ _ _=>(cy 1))))),?_⟩;obtain⟨v,rfl⟩:=Dn (PC h)
 .obtain⟨p,P,ok,r,q⟩:=h;have b4:=ok.b4;obtain⟨PA,O,PE,PM,xb,xe,rfl,pA,pB,Z,pE,re,pM⟩:=Aa.plant r;have lb:=Z.len;rw[Y2]at lb;refine⟨PA,_,0,.ref O,rfl,rfl,Ae.of pA,rfl,O,rfl,⟨xb,Ae.of pB⟩,B1 (xs:=xb) (λi y B=>Ab H B/\y=((P.bs.map (·.2)).take i).map V.int) (by omega) ⟨Ab.refl _,rfl⟩ (λi y B h=>by rw[h.2,Y2,Zk];omega) (λi y B _ h=>Ae.of (h.1 _ _ pB)) (λi x y B hx h=>?_) λy H2 h=>?_⟩
  .obtain⟨f,hf,rd⟩:=Ad.mapGot Z hx;obtain⟨l,zs,rfl,G,rz⟩:=Aa.shape (Aa.ev (Ev.same h.1) _ _ rd);obtain⟨y1,y2,rfl,J,r2⟩:=Ad.two rz;unfold Aa at J r2;subst J r2;refine⟨l,_,rfl,Ae.of G,rfl,_,_,rfl,_,_,rfl,rfl,trivial,λ_=>⟨h.1,?_⟩,λz=>by cases z⟩;have D:(P.bs.map (·.2))[i]? =some f.2:=by rw [YU,hf];rfl
   rw[A8 D,YS,h.2];rfl
  intro L hL;refine q L _ (h.1.trans (Ab.new hL)) (Kt h.1 hL) ?_;rw[Af,h.2,Z6 (by rw[Y2];omega)]
end
section
structure Tc(K:Fgx)(mg:Str->yW)(M:yR)(ds:List yR):Prop where
 c_NoPlant:mg "NoPlant"=some (.ref (ds.getD 0 0))
 c_NoStory:mg "NoStory"=some (.ref (ds.getD 1 0))
 c_NoFiring:mg "NoFiring"=some (.ref (ds.getD 2 0))
 c_NoHour:mg "NoHour"=some (.ref (ds.getD 3 0))
 c_NoBoiler:mg "NoBoiler"=some (.ref (ds.getD 4 0))
 c_NoPrices:mg "NoPrices"=some (.ref (ds.getD 5 0))
 c_NoWay:mg "NoWay"=some (.ref (ds.getD 6 0))
 c_NoSet:mg "NoSet"=some (.ref (ds.getD 7 0))
 c_NoTanks:mg "NoTanks"=some (.ref (ds.getD 8 0))
 c_NoPump:mg "NoPump"=some (.ref (ds.getD 9 0))
 c_NoFeeding:mg "NoFeeding"=some (.ref (ds.getD 10 0))
 c_NoReadings:mg "NoReadings"=some (.ref (ds.getD 11 0))
 c_NoStart:mg "NoStart"=some (.ref (ds.getD 12 0))
 c_NoShifts:mg "NoShifts"=some (.ref (ds.getD 13 0))
 c_NoBook:mg "NoBook"=some (.ref (ds.getD 14 0))
 c_NoAmount:mg "NoAmount"=some (.ref (ds.getD 15 0))
 c_NoDeed:mg "NoDeed"=some (.ref (ds.getD 16 0))
 c_NoLine:mg "NoLine"=some (.ref (ds.getD 17 0))
 c_NoText:mg "NoText"=some (.ref (ds.getD 18 0))
 c_MainError:mg "MainError"=some (.ref M)
 mB:PySem.W.mroIn K M (.type "BaseException")=some true
 mT:PySem.W.typeIn K (.ref M)=some (.type "type")
 n_NoSet:PySem.W.nsIn K mainGlobals "NoSet"=some (some (.ref (ds.getD 7 0)))
 x_NoSet:PySem.W.excIn K (ds.getD 7 0) Jo "ValueError.__new__"=true
 w_NoSet:Fi K M ds 7=true
variable{P:yP}{w:yN}{K:Fgx}{mg:Str -> yW}{base:Heap}{M:yR}{ds:List yR}
theorem zaa:Az ["_law_e","_law_marks","_law_words"] ["_law_e"] (Ar waE):=AC
theorem BK{X:Cx}{K:Fgx}{c:Str}{a:yR}{p1 B D Z:Pos}(hm:X.mg "isinstance"=none)(O:X.mg c=some (.ref a))(J:Gl X "isinstance")(y:Gl X c)(c0:Ji X 0 "_law_e"=true)(nd:(c=="__debug__")=false)(G:X.K=K):PE X (.Call (.Name "isinstance" p1) [.Name "_law_e" B,.Name c D] [] Z) (Gu (MD K) (Bi (BS 0) (Bi (tC (.ref a)) CM))):=
 @AD _ _ _ _ _ _ _ _ _ (ME K G) J hm aA (@FU _ _ _ _ _ (@cx _ 0 _ _ c0) (@CK _ _ (.ref a) _ _ y O rfl nd) rfl) (by decide) (by decide) rfl rfl
noncomputable abbrev wl(i:Nat):List Bool:=(List.range 19).map (· ==i)
theorem Yq:∀i,i<19->(wl i).count true=1:=by decide
theorem Yr:∀i,i<19->(wl i)[i]? =some true:=by decide
theorem Ys:∀i,i<19->∀m,m<i->(wl i)[m]? =some false:=by decide
theorem Yt(F:Df K mg "_law_which" waE ["_law_e"])(T:Tx mg)(C:Tc K mg M ds):Fg P w K mg base 1 "_law_which" ["_law_e"] (Ff (Wd K M ds)):=by
 refine F.fnQ zaa (λvs H Q E h=>?_) (λf dl A outer s H vs Q hr h=>?_)
 .unfold Ff at h;split at h;rfl;exact h.elim
 refine⟨_,(@Ak _ _ _ _ _ (@AB _ _ (1) _ _ _ _ zaa.nd rfl (AA (by rfl)) (@B4 _ _ _ _ (@EC _ _ _ _ _ _ _ _ _ (@BK _ K _ _ _ _ _ _ T.b_isinstance C.c_NoPlant rfl rfl (by rfl) (by decide) rfl) (@BK _ K _ _ _ _ _ _ T.b_isinstance C.c_NoStory rfl rfl (by rfl) (by decide) rfl) (@BK _ K _ _ _ _ _ _ T.b_isinstance C.c_NoFiring rfl rfl (by rfl) (by decide) rfl) (@BK _ K _ _ _ _ _ _ T.b_isinstance C.c_NoHour rfl rfl (by rfl) (by decide) rfl) (by rfl))) (by rfl) (Di (by rfl))) (@Ak _ _ _ _ _ (@AB _ _ (1) _ _ _ _ zaa.nd rfl (AA (by rfl)) (@Ax _ _ _ _ _ _ _ _ (@EG _) (@cx _ 1 _ _ (by rfl)) (@B4 _ _ _ _ (@EC _ _ _ _ _ _ _ _ _ (@BK _ K _ _ _ _ _ _ T.b_isinstance C.c_NoBoiler rfl rfl (by rfl) (by decide) rfl) (@BK _ K _ _ _ _ _ _ T.b_isinstance C.c_NoPrices rfl rfl (by rfl) (by decide) rfl) (@BK _ K _ _ _ _ _ _ T.b_isinstance C.c_NoWay rfl rfl (by rfl) (by decide) rfl) (@BK _ K _ _ _ _ _ _ T.b_isinstance C.c_NoSet rfl rfl (by rfl) (by decide) rfl) (by rfl)))) (by rfl) (Di (by rfl))) (@Ak _ _ _ _ _ (@AB _ _ (1) _ _ _ _ zaa.nd rfl (AA (by rfl)) (@Ax _ _ _ _ _ _ _ _ (@EG _) (@cx _ 1 _ _ (by rfl)) (@B4 _ _ _ _ (@EC _ _ _ _ _ _ _ _ _ (@BK _ K _ _ _ _ _ _ T.b_isinstance C.c_NoTanks rfl rfl (by rfl) (by decide) rfl) (@BK _ K _ _ _ _ _ _ T.b_isinstance C.c_NoPump rfl rfl (by rfl) (by decide) rfl) (@BK _ K _ _ _ _ _ _ T.b_isinstance C.c_NoFeeding rfl rfl (by rfl) (by decide) rfl) (@BK _ K _ _ _ _ _ _ T.b_isinstance C.c_NoReadings rfl rfl (by rfl) (by decide) rfl) (by rfl)))) (by rfl) (Di (by rfl))) (@Ak _ _ _ _ _ (@AB _ _ (1) _ _ _ _ zaa.nd rfl (AA (by rfl)) (@Ax _ _ _ _ _ _ _ _ (@EG _) (@cx _ 1 _ _ (by rfl)) (@B4 _ _ _ _ (@EC _ _ _ _ _ _ _ _ _ (@BK _ K _ _ _ _ _ _ T.b_isinstance C.c_NoStart rfl rfl (by rfl) (by decide) rfl) (@BK _ K _ _ _ _ _ _ T.b_isinstance C.c_NoShifts rfl rfl (by rfl) (by decide) rfl) (@BK _ K _ _ _ _ _ _ T.b_isinstance C.c_NoBook rfl rfl (by rfl) (by decide) rfl) (@BK _ K _ _ _ _ _ _ T.b_isinstance C.c_NoAmount rfl rfl (by rfl) (by decide) rfl) (by rfl)))) (by rfl) (Di (by rfl))) (@Ak _ _ _ _ _ (@AB _ _ (1) _ _ _ _ zaa.nd rfl (AA (by rfl)) (@Ax _ _ _ _ _ _ _ _ (@EG _) (@cx _ 1 _ _ (by rfl)) (@B4 _ _ _ _ (@Jj _ _ _ _ _ _ _ (@BK _ K _ _ _ _ _ _ T.b_isinstance C.c_NoDeed rfl rfl (by rfl) (by decide) rfl) (@BK _ K _ _ _ _ _ _ T.b_isinstance C.c_NoLine rfl rfl (by rfl) (by decide) rfl) (@BK _ K _ _ _ _ _ _ T.b_isinstance C.c_NoText rfl rfl (by rfl) (by decide) rfl) (by rfl)))) (by rfl) (Di (by rfl))) (@Ak _ _ _ _ _ (@Bj _ _ _ _ _ _ _ _ (@PW.pt _ _ _ (@FL _ _ _ _ _ _ _ (@A7 _ _ _ _ _ _ _ _ (@FF _) (@Mx K _ _ _ _ _ _ _ _ _ _ _ _ zE PySem.F.slot_list_count PySem.F.type_list_count TN (@cx _ 1 _ _ (by rfl)) (@Fa _ _ _ (@W' _ _ _ _) (by rfl)) (by rfl) (by rfl) (by rfl) (by rfl) (by rfl) (by rfl)) (@R' _ _ _ _) (AV _)) (@FC _ _ _ _ (@B9 _ _ _ _ (@BM _ _ _ (@AD _ _ _ _ _ _ _ _ _ (ME K) rfl T.b_isinstance aA (@FU _ _ _ _ _ (@cx _ 0 _ _ (by rfl)) (@Eo _ _ (.ty "ValueError") _ _ rfl T.b_ValueError PyProof.Rows.Boot.«ValueError» rfl (by decide) (by decide)) (by rfl)) (by decide) (by decide) (by rfl) (by rfl)) (by intro _;rfl)))))) (@An _ _ _ (@Ay _ _ _ _ (@Bw _ _ _ _ _ (@Fa _ _ _ (@U' _ _ _ _) (by rfl))))) (@Bh _)) (@Ak _ _ _ _ _ (@AB _ _ (2) _ _ _ _ zaa.nd rfl (AA (by rfl)) (@B4 _ _ _ _ (@Bf _ _ _ _ _ (@U' _ _ _ _) (@Bf _ _ _ _ _ (@U' _ _ _ _) (@Bf _ _ _ _ _ (@U' _ _ _ _) (@Bf _ _ _ _ _ (@U' _ _ _ _) (@Bf _ _ _ _ _ (@U' _ _ _ _) (@Bf _ _ _ _ _ (@U' _ _ _ _) (@Bf _ _ _ _ _ (@U' _ _ _ _) (@EC _ _ _ _ _ _ _ _ _ (@U' _ _ _ _) (@U' _ _ _ _) (@U' _ _ _ _) (@U' _ _ _ _) (by rfl)) (by rfl)) (by rfl)) (by rfl)) (by rfl)) (by rfl)) (by rfl)) (by rfl))) (by rfl) (Di (by rfl))) (@Ak _ _ _ _ _ (@AB _ _ (2) _ _ _ _ zaa.nd rfl (AA (by rfl)) (@Ax _ _ _ _ _ _ _ _ (@EG _) (@cx _ 2 _ _ (by rfl)) (@B4 _ _ _ _ (@Bf _ _ _ _ _ (@U' _ _ _ _) (@Bf _ _ _ _ _ (@U' _ _ _ _) (@Bf _ _ _ _ _ (@U' _ _ _ _) (@Bf _ _ _ _ _ (@U' _ _ _ _) (@EC _ _ _ _ _ _ _ _ _ (@U' _ _ _ _) (@U' _ _ _ _) (@U' _ _ _ _) (@U' _ _ _ _) (by rfl)) (by rfl)) (by rfl)) (by rfl)) (by rfl)))) (by rfl) (Di (by rfl))) (@An _ _ _ (@Ay _ _ _ _ (@Bw _ _ _ _ _ (@Fa _ _ _ (@AH _ _ _ _ _ _ _ (@BO _ K (by rfl)) (@cx _ 2 _ _ (by rfl)) (@Mx K _ _ _ _ _ _ _ _ _ _ _ _ zE PySem.F.slot_list_index PySem.F.type_list_index TR (@cx _ 1 _ _ (by rfl)) (@Fa _ _ _ (@W' _ _ _ _) (by rfl)) (by rfl) (by rfl) (by rfl) (by rfl) (by rfl) (by rfl)) (λ_ _=>rfl)) (by rfl))))))))))))),?_⟩;unfold Ff at h;split at h
 .rename_i e;obtain⟨C0,G,B,hw,q⟩:=h;obtain⟨i,hi,rfl,i0,hok⟩:=hw.ex;obtain⟨O,_,kj,kV⟩:=MG hok;have y:∀j,j<19->∀u,Aw (.ref (ds.getD j 0)) u->PySem.W.kitOne K (.ref (ds.getD i 0)) u=some (j==i):=λj hj u r=>by
   cases(show u=Value.ref _ from r);exact kj j hj
  have kv:∀u,Aw (.ty "ValueError") u->PySem.W.kitOne K (.ref (ds.getD i 0)) u=some true:=λu r=>by
   cases(show u=Value.type _ from r);exact kV
  refine⟨e,_,_,_,rfl,B,O,y 0 (by decide),⟨e,_,_,_,rfl,B,O,y 1 (by decide),⟨e,_,_,_,rfl,B,O,y 2 (by decide),⟨e,_,_,_,rfl,B,O,y 3 (by decide),λp0 G0 S0 n0 m0=>?_⟩⟩⟩⟩;have J:=S0 e _ B;refine⟨e,_,_,_,rfl,J,O,y 4 (by decide),⟨e,_,_,_,rfl,J,O,y 5 (by decide),⟨e,_,_,_,rfl,J,O,y 6 (by decide),⟨e,_,_,_,rfl,J,O,y 7 (by decide),λq1 F1 t1 _ u1=>⟨p0,q1,_,_,rfl,rfl,t1 _ _ m0,u1,few rfl,λp1 G1 s1 _ m1=>?_⟩⟩⟩⟩⟩;have S1:=S0.trans (t1.trans s1);have e1:=S1 e _ B;refine⟨e,_,_,_,rfl,e1,O,y 8 (by decide),⟨e,_,_,_,rfl,e1,O,y 9 (by decide),⟨e,_,_,_,rfl,e1,O,y 10 (by decide),⟨e,_,_,_,rfl,e1,O,y 11 (by decide),λq2 F2 t2 _ u2=>⟨p1,q2,_,_,rfl,rfl,t2 _ _ m1,u2,few rfl,λp2 G2 s2 _ m2=>?_⟩⟩⟩⟩⟩;have S2:=S1.trans (t2.trans s2);have Z:=S2 e _ B;refine⟨e,_,_,_,rfl,Z,O,y 12 (by decide),⟨e,_,_,_,rfl,Z,O,y 13 (by decide),⟨e,_,_,_,rfl,Z,O,y 14 (by decide),⟨e,_,_,_,rfl,Z,O,y 15 (by decide),λq3 F3 t3 _ u3=>⟨p2,q3,_,_,rfl,rfl,t3 _ _ m2,u3,few rfl,λp3 G3 s3 _ m3=>?_⟩⟩⟩⟩⟩;have S3:=S2.trans (t3.trans s3);have e3:=S3 e _ B;refine⟨e,_,_,_,rfl,e3,O,y 16 (by decide),⟨e,_,_,_,rfl,e3,O,y 17 (by decide),⟨e,_,_,_,rfl,e3,O,y 18 (by decide),λq4 F4 t4 _ u4=>⟨p3,q4,_,_,rfl,rfl,t4 _ _ m3,u4,few rfl,λp4 G4 s4 _ D=>?_⟩⟩⟩⟩;have S4:=S3.trans (t4.trans s4);have D:G4 p4=some (.lst ((wl i).map V.bl)):=D;refine⟨.inl ⟨rfl,_,Al.of D⟩,⟨p4,_,rfl,rfl,D,?_⟩⟩;rw[Yq i hi];refine⟨rfl,⟨λc=>absurd c (by decide),λ_=>⟨e,_,_,_,rfl,S4 e _ B,O,kv,⟨λc=>(by cases c),λ_=>?_⟩⟩⟩⟩;refine λw0 G5 s5 _ m5=>λw1 G6 s6 _ m6=>⟨w0,w1,_,_,rfl,rfl,s6 _ _ m5,m6,few rfl,λw2 G7 s7 _ m7=>?_⟩
  have m7:G7 w2=some (.lst (theWords.map V.str)):=m7;have S7:=s5.trans (s6.trans s7);have m8:=S7 _ _ D;have i4:BD (theWords.map V.str) (i:Int)=some (.str G):=by
   rw[Dt];rw[YU,i0]
   rfl
  exact⟨.inl ⟨rfl,_,Al.of m8⟩,⟨p4,_,i,rfl,rfl,m8,fS rfl,Yr i hi,Ys i hi,⟨w2,_,_,_,rfl,rfl,Al.of m7,i4,λt G8 s8 k8=>q _ t (S4.trans (S7.trans s8)) k8⟩⟩⟩
 .exact h.elim
theorem Yu:Az ["_law_call","_law_e"] ["_law_call"] (Ar waF):=AC
theorem Yv(F:Df K mg "_law_said" waF ["_law_call"])(C:Tc K mg M ds)(y:Fg P w K mg base 1 "_law_which" ["_law_e"] (Ff (Wd K M ds))):Ha P w K mg base 13 "_law_said" ["_law_call"] (EF P w K mg base 12 (Wd K M ds)):=
 Ty F Yu rfl rfl rfl rfl rfl C.c_MainError C.mB C.mT (λ_ _ h=>h.mro) y (by decide)
def Ky(ds:List yR):Sp:=λD H Q E=>match D with | [v,u,x]=>∃p P S d,PL.ok P/\SY.ok S P.bs.length/\Aa p H P.d v/\Aa p H S.d u/\Aa p H d x/\(CJ P.bs.length d=false->∀y,Ab H y->E (.ref (ds.getD 7 0)) none y)/\(∀c,d=AR c->IsSet P.bs.length c->(AZ (only (terms P S) c)≠none->∀y,Ab H y->Q .non y)/\(AZ (only (terms P S) c)=none->∀f B y,DH (only (terms P S) c) f B->Ab H y->Q (.int f) y)) | _=>False
theorem zaB:Az ["plant","story","chosen","terms"] ["plant","story","chosen"] (Ar wax):=AC
theorem Yw(F:Df K mg "alone" wax ["plant","story","chosen"])(T:Tx mg)(C:Tc K mg M ds)(i0:Fn P w K mg base 4 "coal_under" ["terms"] Ka)(O:Fn P w K mg base 3 "is_set" ["boilers","thing"] Ki)(J:Fn P w K mg base 10 "terms_of" ["plant","story"] HI)(Z:Fn P w K mg base 1 "with_only" ["terms","chosen"] HS):EE P w K mg base 11 "alone" ["plant","story","chosen"] (Ky ds):=by
 refine F.fnE zaB (λG H Q E h=>?_) (λf dl A outer s H G Q E D h=>?_)
 .rcases G with _ | ⟨_,_ | ⟨_,_ | ⟨_,_ | _⟩⟩⟩<;>first | rfl | cases h
 rcases G with _ | ⟨v,_ | ⟨u,_ | ⟨x,_ | _⟩⟩⟩<;>try exact False.elim h
 .obtain⟨p,P,S,d,ok,so,r,ru,rx,q1,q2⟩:=h;refine⟨_,(Ak (zC 3 zaB.nd (zB J D (Aq (cy 0) (cy 1)))) (Ak (Bj (B9 (BM (zB O D (Aq (AD (BV K) rfl T.b_len zH (Ai (AH (A4 K) (cy 0) R' (λ_ _=>rfl)))) (cy 2))))) (An (Tk Tl rfl C.n_NoSet C.x_NoSet rfl (Ai U'))) Bh) (An (Ay (zB i0 D (Ai (zB Z D (Aq (cy 3) (cy 2))))))))),?_⟩;have b4:=ok.b4;refine⟨p,P,S,ok,so,r,ru,λt H1 s1 rt=>?_⟩;obtain⟨PA,PB,PE,PM,xb,xe,rfl,pA,pB,rb,pE,re,pM⟩:=Aa.plant (Aa.ev (Ev.same s1) _ _ r);have lb:=rb.len;rw[Y2]at lb;refine⟨PA,_,0,.ref PB,rfl,rfl,Ae.of pA,rfl,PB,_,rfl,.inr (Ae.of pB),p,P.bs.length,d,by rw[lb],b4,Aa.ev (Ev.same s1) _ _ rx,λb H2 hb s2=>⟨λc=>?_,λc=>?_⟩⟩
  .have B:CJ P.bs.length d=false:=by rw [<-hb];simpa using c
   exact⟨few rfl,q1 B _ (s1.trans s2)⟩
  .have B:CJ P.bs.length d=true:=by rw [<-hb];simpa using c
   obtain⟨c,rfl,st⟩:=O7 B;obtain⟨qn,qs⟩:=q2 c rfl st;have y:=s1.trans s2;refine⟨p,terms P S,c,FX ok so,Aa.ev (Ev.same s2) _ _ rt,Aa.ev (Ev.same y) _ _ rx,λw H3 s3 r3=>⟨p,only (terms P S) c,Nt (FX ok so),r3,λn H4 s4=>qn n _ (y.trans (s3.trans s4)),λn f ps H4 B s4=>qs n f ps _ B (y.trans (s3.trans s4))⟩⟩
end
section
def Kz:Sp:=λB H Q _=>match B with | [v,u]=>∃p P S,PL.ok P/\SY.ok S P.bs.length/\Aa p H P.d v/\Aa p H S.d u/\∀y,Ab H y->Q (.bl true) y | _=>False
def KA:Sp:=λB H Q _=>match B with | [.int m,x]=>∃p n d,m=((n:Nat):Int)/\n<=4/\(∀es,d= .tuple es->es.length<=20)/\Aa p H d x/\∀b y,b=CJ n d->Ab H y->Q (.bl b) y | _=>False
theorem Yx{T:TM}(fl:A5 T)(lh:T.lo<=T.hi)(sh:T.st<=T.hi)(B:0<T.ds.length)(no:AZ T=none){c:Int}{D:yV}(y:DH T c D):0<=c/\c<=5760:=by
 obtain⟨⟨f,fe,e⟩,_⟩:=Nq fl lh sh B no y;have:=Ku fl (F:=f) ⟨fe.len,λi hi=>⟨fe.row i hi,λb G=>fe.bd i b hi G⟩⟩ T.ds.length (Y5 _);have:=fl.ok.l8;omega
mutual
theorem Aa.evL{p q:yR}{H H':Hp}(h:Ev q H H'):∀(d:yQ) (v:V),CA d=true->Aa p H d v->Aa p H' d v
 | .none,v,_,r=>r
 | .bool _,v,_,r=>r
 | .int _,v,_,r=>r
 | .str _,v,_,r=>r
 | .tuple ds,v,z,r=>by
  unfold Aa at r ⊢;unfold CA at z;obtain⟨a,y,e,k,G⟩:=r;exact⟨a,y,e,h.tup k,Ad.evL h ds y z G⟩
 | .list ds,v,z,r=>by unfold CA at z;cases z
 | .dict kvs,v,_,r=>by
  unfold Aa at r ⊢;obtain⟨a,B,e,n,k,D⟩:=r;exact⟨a,B,e,n,k,h.dk D⟩
theorem Ad.evL{p q:yR}{H H':Hp}(h:Ev q H H'):∀(ds:List yQ) (xs:zA),Dg ds=true->Ad p H ds xs->Ad p H' ds xs
 | [],xs,_,r=>by unfold Ad at r ⊢;exact r
 | d::ds,xs,z,r=>by
  unfold Ad at r ⊢;unfold Dg at z;rw[Z5]at z;obtain⟨x,y,e,k,B⟩:=r;exact⟨x,y,e,Aa.evL h d x z.1 k,Ad.evL h ds y z.2 B⟩
end
theorem Gi{y:Type}{f:y->yQ}(h:∀a,CA (f a)=true):∀l:List y,Dg (l.map f)=true
 | []=>rfl
 | a::l=>by rw[ZA];unfold Dg;rw[h a,Gi h l];rfl
theorem PD(P:PL):CA P.d=true:=by
 unfold PL.d;simp only[CA,Dg,gA,Z5];exact⟨Gi (λ_=>rfl) _,Gi (λ_=>rfl) _⟩
theorem PF(S:SY):CA S.d=true:=by
 unfold SY.d;simp only[CA,Dg,gA,Z5];exact⟨Gi (λ_=>rfl) _,Gi (λ_=>rfl) _⟩
theorem PH:FM .none:=(⟨by decide+kernel,by decide,rfl⟩:Small 40 0 .none).nice (by decide) (by decide)
theorem PJ{i:Int}(h:i.natAbs<10 ^ 6):FM (.int i):=(Mh h).nice (by decide) (by decide)
theorem PK{P:PL}{S:SY}(b4:P.bs.length<=4):FM (AR (HN P.bs.length (terms P S))):=(Sf (λi hi=>by
 have:=allB_mem.mp (cg.mp hi).1;omega) (by
 have:(HN P.bs.length (terms P S)).length<=P.bs.length:=YV (ZU _ _) (by unfold Bp;simp);omega)).nice (by decide) (by decide)
theorem Yy{e:yQ}{n:Nat}:Gg e (n:Int)=Bb e 0 ((n:Int)-1):=by
 cases e with
 | int i=>
  unfold Gg Bb;dsimp only;rw[show decide (i<(n:Int))=decide (i<=(n:Int)-1) from by by_cases z:i<(n:Int);rw[Z9 z,Z9 (by omega)];rw[Zh z,Zh (by omega)]]
 | _=>rfl
theorem Yz{n:Nat}{r:yV}(b:∀i∈r,0<=i/\i<=(n:Int)-1):∃B:List Nat,r=B.map (λi:Nat=>(i:Int))/\∀k∈B,k<n:=by
 refine⟨r.map Int.toNat,?_,λk D=>?_⟩
 .rw[ae]
  conv=>lhs;rw[<-List.map_id r]
  refine dH λx y=>?_
  have:=b x y;show x=((x.toNat:Nat):Int);omega
 .obtain⟨x,y,rfl⟩:=Zj.mp D;have:=b x y;omega
theorem PN{vs H Q E}(h:Kz vs H Q E):vs.length=2:=by rcases vs with _ | ⟨_,_ | ⟨_,_ | _⟩⟩<;>first | rfl | cases h
theorem PP{vs H Q E}(h:KA vs H Q E):vs.length=2:=by rcases vs with _ | ⟨y,_ | ⟨_,_ | _⟩⟩<;>first | rfl | cases h | skip;all_goals (cases y<;>first | cases h | skip)
variable{P:yP}{w:yN}{K:Fgx}{mg:Str -> yW}{base:Heap}
theorem zab:Az ["_law_plant_here","_law_story_here","_law_coals_here","_law_caps_here","_law_draws_here","_law_many","_law_size","_law_chosen","_law_due","_law_wanted","_law_boiler"] ["_law_plant_here","_law_story_here"] (Ar waX):=AC
theorem YA(F:Df K mg "_law_right" waX ["_law_plant_here","_law_story_here"])(T:Tx mg)(o9:Fn P w K mg base 1 "_law_alone" ["_law_caps_here","_law_chosen"] HV)(j7:HH P w K mg base)(o7:Fn P w K mg base 1 "_law_coals" ["_law_plant_here"] Kx)(j6:Fn P w K mg base 3 "_law_does" ["_law_plant_here","_law_story_here","_law_chosen"] Kq)(n9:HM P w K mg base)(l9:Fn P w K mg base 2 "_law_least" ["_law_coals_here","_law_caps_here","_law_draws_here","_law_main"] Kw)(l7:Fn P w K mg base 6 "_law_rows_of" ["_law_many","_law_size"] Pf)(j8:Fn P w K mg base 11 "alone" ["plant","story","chosen"] Kk)(j5:Fn P w K mg base 11 "needed" ["plant","story"] Km):Fn P w K mg base 12 "_law_right" ["_law_plant_here","_law_story_here"] Kz:=by
 refine F.fn zab @PN λf dl A outer s H vs Q E B h=>?_
 refine⟨_,(Ak (SN (i:=2) (j:=3) (k:=4) rfl zab.nd rfl rfl rfl (by decide) (by decide) (by decide) rfl rfl rfl (AQ (zB o7 B (Ai (cy 0))) (zB j7 B (Aq (cy 0) (cy 1))) (zB n9 B (Aq (cy 0) (cy 1)))) (by rfl)) (Ak (zC 5 zab.nd (AD (BV K) rfl T.b_len zH (Ai (AH (A4 K) (cy 0) R' (λ_ _=>rfl))))) (Ak (Bl Z8 rfl (B0 rfl T.b_range (Ai (Ax A1 (cy 5) R'))) (Ag 6 zab.nd) (An (Bl Z8 rfl (Ez K (zB l7 B (Aq (cy 5) (cy 6)))) (Ag 7 zab.nd) (Ak (zC 8 zab.nd (zB l9 B (C6 (cy 2) (zB o9 B (Aq (cy 3) (cy 7))) (cy 4) (AH (A4 K) (cy 0) R' (λ_ _=>rfl))))) (An (Bj (A7 FF (AD (GM B) rfl T.b_repr gL (Ai (zB j8 B (AQ (cy 0) (cy 1) (cy 7))))) (AD (GM B) rfl T.b_repr gL (Ai (cy 8))) (AV _)) (An (Ay W')) Bh)))))) (Ak (zC 9 zab.nd (B4 pa_nil)) (Ak (Bl Z8 rfl (B0 rfl T.b_range (Ai (cy 5))) (Ag 10 zab.nd) (An (Bj (B9 (BM (zB j6 B (AQ (cy 0) (cy 1) (Bd ["_law_one","_law_boiler"] [none,some 10] rfl (B0 rfl T.b_range (Ai (cy 5))) (AI.of rfl) (λ_ _ _ _=>(zD 0)) (λ_ _ _ _=>(DU (A7 FF (cy 0) (cy 1) (AV _)))) (λ_ _ _ _=>(cy 0))))))) (An (Cv (C4 zE zF zG Dv (cy 9) (Ai (cy 10))))) Bh))) (An (Ay (Cw Dq (AD (GM B) rfl T.b_repr gL (Ai (zB j5 B (Aq (cy 0) (cy 1))))) (AD (GM B) rfl T.b_repr gL (Ai (BA (B3 K) rfl T.b_tuple BN (Ai (cy 9))))) (AV _))))))))),?_⟩;obtain⟨v,u,rfl⟩:=By (PN h)
 .obtain⟨p,P,S,ok,so,r,ru,q⟩:=h;have b4:=ok.b4;have x1:=so.x1;have x8:=so.x8;have fl:=FX ok so;have f:=λ{H H':Hp} (s:Ab H H')=>Ev.same (p:=p) s
  refine⟨p,P,ok,r,λO H1 s1 hO kO=>⟨p,P,S,ok,so,Aa.ev (f s1) _ _ r,Aa.ev (f s1) _ _ ru,λvc H2 s2 rc=>⟨p,P,S,ok,so,Aa.ev (f (s1.trans s2)) _ _ r,Aa.ev (f (s1.trans s2)) _ _ ru,λvd H3 s3 rd=>⟨_,_,_,rfl,?_⟩⟩⟩⟩;have i7:=s1.trans (s2.trans s3);obtain⟨D,rfl,hD⟩:=Aa.ofRow (r:=draws P S) rd;have j9:=Aa.ev (f s3) _ _ rc;have j4:=(s2.trans s3) _ _ kO;have r3:=Aa.ev (f i7) _ _ r;have i6:=Aa.ev (f i7) _ _ ru;have q3:∀H',Ab H3 H'->Q (.bl true) H':=λH' s=>q _ (i7.trans s)
  clear kO rc rd q r ru;obtain⟨PA,PB,PE,PM,xb,xe,rfl,pA,pB,rb,pE,re,pM⟩:=Aa.plant r3;have lb:=rb.len;rw[Y2]at lb;refine⟨PA,_,0,.ref PB,rfl,rfl,Ae.of pA,rfl,PB,_,rfl,.inr (Ae.of pB),?_⟩;rw[<-lb];refine⟨_,rfl,by omega,by omega,CY (n:=((P.bs.length:Int)+1).toNat) (λi J H'=>(∃x6 x7 x8 x9 y,J=[some (.ref PA),some u,some (.ref O),some vc,some (.ref D),some (.int (P.bs.length:Int)),x6,x7,x8,x9,y])/\Ab H3 H') ⟨⟨_,_,_,_,_,rfl⟩,Ab.refl _⟩ (λi J H' hi h=>?_) fun J H' h=>?_⟩
  .obtain⟨⟨x6,x7,i4,x9,y,rfl⟩,sm⟩:=h;refine⟨P.bs.length,i,rfl,by omega,b4,by omega,by omega,λR H4 Ts s4 hR kR rT=>⟨R,rfl,⟨_,Al.of kR⟩,?_⟩⟩;refine EV (xs:=Ts.map V.ref) (λj J G=>(∃x7 x8 x9 y,J=[some (.ref PA),some u,some (.ref O),some vc,some (.ref D),some (.int (P.bs.length:Int)),some (.int (0+(i:Int))),x7,x8,x9,y])/\Ab H4 G) ⟨⟨_,_,_,_,rfl⟩,Ab.refl _⟩ (λj J G _ h=>Al.of (h.2 _ _ kR)) (λj x J G hx h=>?_) fun J G h=>?_
   .obtain⟨⟨x7,i4,x9,y,rfl⟩,sg⟩:=h;rw [YU] at hx;cases hT:Ts[j]? with
    | none=>rw[hT]at hx;cases hx
    | some T=>
     rw[hT]at hx;cases hx;have lj:j<(BQ P.bs.length i).length:=by rw[<-rT.1];exact(Y9.mp hT).1
     obtain⟨c,hc⟩:∃c,(BQ P.bs.length i)[j]? =some c:=⟨_,Y6 lj⟩;have kc:=sg _ _ (rT.2 j T c hT hc);have st:=(mem_sets.mp (YW hc)).1;have i9:=sm.trans (s4.trans sg);refine⟨p,caps P S,c,by rw[E8];exact x8,λr0 B=>?_,Aa.ev (f i9) _ _ j9,⟨T,rfl,.inr kc⟩,λA G1 g1 hA cl=>?_⟩
     .have:=(fl.c r0 B).1;have:=fl.o;omega
     have s5:=i9.trans g1;have fo:=Nt (ch:=c) fl;have n0:0<(only (terms P S) c).ds.length:=by show 0<(draws P S).length;rw[Dh];omega
     refine⟨PA,_,2,.ref PM,rfl,rfl,Ae.of (s5 _ _ pA),rfl,?_⟩;refine⟨only (terms P S) c,fo,ok.ls,ok.sh,n0,s5 _ _ j4,cl,s5 _ _ hD,s5 _ _ pM,λno G2 Z=>?_,λno cc G2 l6 Z=>?_⟩
     .have s6:=s5.trans Z;refine⟨p,P,S,c,ok,so,st,Aa.ev (f s6) _ _ r3,Aa.ev (f s6) _ _ i6,Aa.row ((g1.trans Z) _ _ kc),λ_ G3 g3=>⟨p,.none,Aa.non,PH,p,.none,Aa.non,PH,rfl,?_⟩,λn=>absurd n no⟩;rw[Z9 rfl];exact⟨λz=>(by cases z),λ_=>⟨⟨_,_,_,_,rfl⟩,sg.trans (g1.trans (Z.trans g3))⟩⟩
     .have s6:=s5.trans Z;refine⟨p,P,S,c,ok,so,st,Aa.ev (f s6) _ _ r3,Aa.ev (f s6) _ _ i6,Aa.row ((g1.trans Z) _ _ kc),λn=>absurd no n,λ_ f' ps G3 hf g3=>?_⟩;have e:=l6 f' ps hf;subst e;have bd:=Yx fo (ay ok.ls ok.sh) ok.sh n0 no hf;refine⟨p,.int cc,Aa.int,PJ (by omega),p,.int cc,Aa.int,PJ (by omega),rfl,?_⟩;rw[Z9 rfl];exact⟨λz=>(by cases z),λ_=>⟨⟨_,_,_,_,rfl⟩,sg.trans (g1.trans (Z.trans g3))⟩⟩
   .obtain⟨⟨x7,i4,x9,y,rfl⟩,sg⟩:=h;exact⟨⟨_,_,_,_,_,rfl⟩,sm.trans (s4.trans sg)⟩
  .obtain⟨⟨x6,x7,i4,x9,y,rfl⟩,sm⟩:=h;refine λW H4 s4 hW kW=>?_
   have sW:=sm.trans s4;have r4:=Aa.ev (f sW) _ _ r3;have i8:=Aa.ev (f sW) _ _ i6;refine⟨_,rfl,by omega,by omega,CY (n:=(P.bs.length:Int).toNat) (λi J G=>(∃y,J=[some (.ref PA),some u,some (.ref O),some vc,some (.ref D),some (.int (P.bs.length:Int)),x6,x7,i4,some (.ref W),y])/\Ev W H4 G/\G W=some (.lst (((Bp i).filter λb=> !Dl (terms P S) (Ek P.bs.length b)).map V.int))) ⟨⟨_,rfl⟩,Ev.refl,kW⟩ (λi J G hi h=>?_) fun J G h=>?_⟩
   .obtain⟨⟨y,rfl⟩,ev,kG⟩:=h;refine⟨_,rfl,by omega,by omega,EZ (n:=(P.bs.length:Int).toNat) (λk ys G'=>G'=G/\ys=((Bp k).filter λx=>decide (x≠0+(i:Int))).map V.int) (by omega) ⟨rfl,rfl⟩ (λk ys G' h=>by rw [h.2,Y2];exact YV (ZU _ _) (by unfold Bp;simp)) (λk ys G' hk h=>?_) λys G' h m hm=>?_⟩
    .refine⟨⟨rfl,trivial⟩,rfl,λz=>⟨h.1,?_⟩,λz=>⟨h.1,?_⟩⟩
     .have e:((k:Nat):Int)≠0+(i:Int):=λe=>by rw [ZO k,e] at z;simp at z
      rw[DN,YN (Z9 e),h.2,YS,ZO k];rfl
     .have e:¬(((k:Nat):Int)≠0+(i:Int)):=λe=>by rw [ZO k] at z;simp at z;exact e (by omega)
      rw[DN,Y8 (λz=>e (Z0 z)),h.2]
    .obtain⟨e1,e2⟩:=h;rw [e1] at hm ⊢;have nm:=Ab.new (o:= .lst ys) hm;have km:upd G m (.lst ys) m=some (.lst ((Ek P.bs.length (0+(i:Int))).map V.int)):=by rw [Af,e2];rfl
     generalize upd G m (.lst ys)=G1 at nm km ⊢;have rG:=Aa.ev (f nm) _ _ (Aa.evL ev _ _ (PD P) r4);have o8:=Aa.ev (f nm) _ _ (Aa.evL ev _ _ (PF S) i8);refine⟨p,P,S,Ek P.bs.length (0+(i:Int)),ok,so,rG,o8,⟨m,rfl,.inl km⟩,λG2 Z=>?_⟩;have i5:=nm.trans Z;have i0:=i5 _ _ kG;have le:((Bp i).filter λb=> !Dl (terms P S) (Ek P.bs.length b)).length<=4:=by
      have:((Bp i).filter λb=> !Dl (terms P S) (Ek P.bs.length b)).length<=i:=YV (ZU _ _) (by unfold Bp;simp);omega
     rw[ZO];refine⟨λz=>?_,λz=>?_⟩
     .refine⟨.inl ⟨rfl,_,Al.of i0⟩,W,_,_,rfl,rfl,i0,au (by rw[Y2];exact le) (show 4<sizeLine by decide),⟨_,rfl⟩,ev.trans ((Ev.same i5).trans (Ev.pen i0)),?_⟩;rw[Af,DN,YN z,YS];rfl
     .refine⟨⟨_,rfl⟩,ev.trans (Ev.same i5),?_⟩;rw[DN,Y8 (by rw[z];decide)];exact i0
   .obtain⟨⟨y,rfl⟩,ev,kG⟩:=h;have j0:H3 W=none:=by
     cases z:H3 W with
     | none=>rfl
     | some o=>rw[sm _ _ z]at hW;cases hW
    refine⟨p,P,S,ok,so,Aa.evL ev _ _ (PD P) r4,Aa.evL ev _ _ (PF S) i8,λw G1 g1 j3=>?_⟩;refine⟨p,_,j3,PK b4,W,_,rfl,.inl ⟨Al.of (g1 _ _ kG),λl hl=>?_⟩⟩;refine⟨p,AR (HN P.bs.length (terms P S)),Aa.row (by rw[Af];rfl),PK b4,rfl,?_⟩;rw[Z9 rfl];exact q3 _ (Ab.evOwn sm j0 (((Ev.same s4).trans ev).trans (Ev.same (g1.trans (Ab.new hl)))))
theorem YB:Az ["_law_many","_law_thing"] ["_law_many","_law_thing"] (Ar waY):=AC
theorem YC(F:Df K mg "_law_is_set" waY ["_law_many","_law_thing"])(T:Tx mg)(i0:Fn P w K mg base 1 "_law_below" ["_law_thing","_law_many"] Kn):Fn P w K mg base 2 "_law_is_set" ["_law_many","_law_thing"] KA:=by
 refine F.fn YB @PP λf dl A outer s H vs Q E hr h=>?_
 refine⟨_,(Ak (Bj (PW.pt (FL (B9 (BM (AD E5 rfl T.b_isinstance aA (Aq (cy 1) (Eo (v:= .ty "tuple") rfl T.b_tuple BN rfl))))) (FC (B9 (BM (AD (Ey rfl) rfl T.b_all dI (Ai (Bd ["_law_one","_law_many"] [none,some 0] rfl (BW K (cy 1)) (AI.of rfl) (λ_ _ _ _=>(zD 0)) (λ_ _ _ _=>Bm) (λ_ _ _ _=>(zB i0 hr (Aq (cy 0) (cy 1)))))))))))) (An (Ay W')) Bh) (An (Ay (Cw (WA hr.units0) (BA (TZ K) rfl T.b_list IY (Ai (cy 1))) (V4 rfl rfl T.b_sorted rfl T.b_set (Ai (cy 1))) (AV _))))),?_⟩;obtain⟨z0,x,rfl⟩:=By (PP h);cases z0<;>try exact False.elim h
 rename_i m
 .obtain⟨p,n,d,rfl,n4,B,y,q⟩:=h;cases d with
  | none=>exact⟨_,y.ty,.inr (.inr (.inl rfl)),⟨λ_=>⟨λ_=>q false _ rfl (Ab.refl _),λz=>(by cases z)⟩,λz=>(by cases z)⟩⟩
  | bool _=>exact⟨_,y.ty,.inr (.inr (.inl rfl)),⟨λ_=>⟨λ_=>q false _ rfl (Ab.refl _),λz=>(by cases z)⟩,λz=>(by cases z)⟩⟩
  | int _=>exact⟨_,y.ty,.inr (.inr (.inl rfl)),⟨λ_=>⟨λ_=>q false _ rfl (Ab.refl _),λz=>(by cases z)⟩,λz=>(by cases z)⟩⟩
  | str _=>exact⟨_,y.ty,.inr (.inr (.inl rfl)),⟨λ_=>⟨λ_=>q false _ rfl (Ab.refl _),λz=>(by cases z)⟩,λz=>(by cases z)⟩⟩
  | list _=>exact⟨_,y.ty,.inr (.inr (.inl rfl)),⟨λ_=>⟨λ_=>q false _ rfl (Ab.refl _),λz=>(by cases z)⟩,λz=>(by cases z)⟩⟩
  | dict _=>exact⟨_,y.ty,.inr (.inr (.inl rfl)),⟨λ_=>⟨λ_=>q false _ rfl (Ab.refl _),λz=>(by cases z)⟩,λz=>(by cases z)⟩⟩
  | tuple es=>
   obtain⟨A,xs,rfl,Z,rs⟩:=Aa.shape y;have ln:=rs.len;have i5:=B es rfl;refine⟨_,y.ty,.inr (.inr (.inl rfl)),⟨λz=>(by cases z),λ_=>?_⟩⟩;refine⟨A,rfl,⟨_,Ae.of Z⟩,B1 (xs:=xs) (λi D J=>Ab H J/\D=((es.take i).map λe=>V.bl (Bb e 0 ((n:Int)-1)))) (by omega) ⟨Ab.refl _,rfl⟩ (λi D J h=>by rw[h.2,Y2,Zk];omega) (λi D J _ h=>Ae.of (h.1 _ _ Z)) (λi x D J hx h=>?_) λD J h m hm=>?_⟩
   .obtain⟨e,he,re⟩:=rs.got hx;refine⟨⟨rfl,trivial⟩,λ_=>⟨p,e,Aa.ev (Ev.same h.1) _ _ re,λb1 e1=>⟨h.1,?_⟩⟩,λz=>by cases z⟩;rw[A8 he,YS,h.2,e1,Yy];rfl
   .refine⟨m,es.map λe=>Bb e 0 ((n:Int)-1),rfl,by rw [Af,h.2,Z6 (by omega),ae];rfl,?_⟩;rw [dG];have s1:=h.1.trans (Ab.new (o:= .lst D) hm);generalize upd J m (.lst D)=H1 at s1 ⊢;refine⟨λz=>?_,λz=>?_⟩
    .have zf:(es.all λe=>Bb e 0 ((n:Int)-1))=false:=by simpa using z
     refine q _ _ ?_ s1;unfold CJ;dsimp only;rw[zf,ZX,ba]
    .have zt:(es.all λe=>Bb e 0 ((n:Int)-1))=true:=by simpa using z
     obtain⟨r,rfl,bd⟩:=HQ zt;obtain⟨ks,ek,kb⟩:=Yz bd;have G:=s1 _ _ Z;rw[Ad.ints rs]at G;refine⟨A,_,rfl,.inr (Ae.of G),λL H2 s2 hL kL=>⟨A,ks,rfl,?_,λk O=>YO (kb k O) (by omega),λl H3 ms s3 hl kl up mem=>?_⟩⟩
     .rw[s2 _ _ G,ek,ae];rfl
     refine⟨L,l,r,ms,rfl,rfl,s3 _ _ kL,kl,q _ _ ?_ (s1.trans (s2.trans s3))⟩;rw[am,decide_eq_true_iff];constructor
     .intro e;exact HR (c:=r) ⟨by rw[e];exact up,λx hx=>by have:=bd x hx;omega⟩
     .intro e;obtain⟨c,ec,st⟩:=O7 e;have i4:r=c:=by
       injection ec with ec
       have:=Zz (List.map HP) ec
       rwa [ER,ER]at this
      subst i4;refine Pi st.up up λx=>?_
      rw[mem,ek,Zj];constructor
      .rintro⟨k,O,rfl⟩;exact⟨k,O,rfl⟩
      .rintro⟨k,O,rfl⟩;exact⟨k,O,rfl⟩
end
section
theorem YD{xs:zA}{g:Int}(h0:0<=g)(B:g<xs.length):∃(j:Nat) (v:V),xs[j]? =some v/\BD xs g=some v:=by
 have y:g.toNat<xs.length:=by omega
 have e:g=((g.toNat:Nat):Int):=by omega
 refine⟨g.toNat,xs[g.toNat],by simp[y],?_⟩;have q:BD xs ((g.toNat:Nat):Int)=some xs[g.toNat]:=Dt (by simp[y]);rw[<-e]at q;exact q
theorem YE{p:yR}{H:Hp}{ds:List yQ}{xs:zA}{g:Int}(r:Ad p H ds xs)(h0:0<=g)(G:g<xs.length):∃v d,BD xs g=some v/\d∈ds/\Aa p H d v:=by
 obtain⟨j,v,y,D⟩:=YD h0 G;obtain⟨d,hd,B⟩:=r.got y;exact⟨v,d,D,YW hd,B⟩
noncomputable def KB:List yQ:=[.none,.bool true,.bool false,.int 0,.int 1,.int (-1),.int 2,.int 8,.int 40,.int (10 ^ 30),.str "",.str "0",.str "lit",.str "short",.tuple [],.tuple [.int 0],.list [.int 0],.list [],.dict [],.dict [(.int 0,.int 1)]]
noncomputable def KC:List yQ:=[.tuple [.tuple []],.tuple [.int 0,.int 1],.tuple [.none],.tuple [.str "short",.int 0,.int 0],.tuple [.str "dry",.int 0],.tuple [.tuple [.int 0,.int 0]],.tuple [.bool true,.bool false],.tuple [.str "lit",.tuple [],.tuple [],.tuple []]]
def KD:Sp:=λB H Q _=>match B with | [.ref p]=>A6 p H/\∀v y d,Aa p y d v->d∈KB++KC->Ev p H y->A6 p y->Q v y | _=>False
theorem PQ{vs H Q E}(h:KD vs H Q E):vs.length=1:=by rcases vs with _ | ⟨y,_ | _⟩<;>first | rfl | cases h | skip;all_goals (cases y<;>first | cases h | skip)
variable{P:yP}{w:yN}{K:Fgx}{mg:Str -> yW}{base:Heap}
theorem zaw:Az ["_law_pen_here","_law_some"] ["_law_pen_here"] (Ar waT):=AC
theorem YF(F:Df K mg "_law_odd" waT ["_law_pen_here"])(T:Tx mg)(J:HC P w K mg base):Fn P w K mg base 2 "_law_odd" ["_law_pen_here"] KD:=by
 refine F.fn zaw @PQ λf dl A outer s H vs Q E hr h=>?_
 refine⟨_,(@Ak _ _ _ _ _ (@AB _ _ (1) _ _ _ _ zaw.nd rfl (AA (by rfl)) (@GO _ _ _ _ (@AM _ _ _ _ _ Mc (@AM _ _ _ _ _ GN (@AM _ _ _ _ _ GN (@AM _ _ _ _ _ Co (@AM _ _ _ _ _ Co (@AM _ _ _ _ _ R4 (@AM _ _ _ _ _ Co (@AM _ _ _ _ _ Co (@AM _ _ _ _ _ Co (@AM _ _ _ _ _ (R5 (by decide)) (@AM _ _ _ _ _ EA (@AM _ _ _ _ _ EA (@AM _ _ _ _ _ EA (@AM _ _ _ _ _ EA (@AM _ _ _ _ _ (@Cg _ _ _ _ _ BG rfl) (@AM _ _ _ _ _ (@Cg _ _ _ _ _ (@AM _ _ _ _ _ Co BG (by rfl)) rfl) (@AM _ _ _ _ _ (@GO _ _ _ _ (@AM _ _ _ _ _ Co BG (by rfl)) rfl) (@AM _ _ _ _ _ (@GO _ _ _ _ BG rfl) (@AM _ _ _ _ _ R6 (@AM _ _ _ _ _ R7 BG (by rfl)) (by rfl)) (by rfl)) (by rfl)) (by rfl)) (by rfl)) (by rfl)) (by rfl)) (by rfl)) (by rfl)) (by rfl)) (by rfl)) (by rfl)) (by rfl)) (by rfl)) (by rfl)) (by rfl)) (by rfl)) (by rfl)) (by rfl)) rfl) (by rfl) (Di (by rfl))) (@Ak _ _ _ _ _ (@AB _ _ (1) _ _ _ _ zaw.nd rfl (AA (by rfl)) (@Ax _ _ _ _ _ _ _ _ (@Lz _) (@cx _ 1 _ _ (by rfl)) (@GO _ _ _ _ (@AM _ _ _ _ _ (@Cg _ _ _ _ _ (@AM _ _ _ _ _ (@Cg _ _ _ _ _ BG rfl) BG (by rfl)) rfl) (@AM _ _ _ _ _ (@Cg _ _ _ _ _ (@AM _ _ _ _ _ Co (@AM _ _ _ _ _ Co BG (by rfl)) (by rfl)) rfl) (@AM _ _ _ _ _ (@Cg _ _ _ _ _ (@AM _ _ _ _ _ Mc BG (by rfl)) rfl) (@AM _ _ _ _ _ (@Cg _ _ _ _ _ (@AM _ _ _ _ _ EA (@AM _ _ _ _ _ Co (@AM _ _ _ _ _ Co BG (by rfl)) (by rfl)) (by rfl)) rfl) (@AM _ _ _ _ _ (@Cg _ _ _ _ _ (@AM _ _ _ _ _ EA (@AM _ _ _ _ _ Co BG (by rfl)) (by rfl)) rfl) (@AM _ _ _ _ _ (@Cg _ _ _ _ _ (@AM _ _ _ _ _ (@Cg _ _ _ _ _ (@AM _ _ _ _ _ Co (@AM _ _ _ _ _ Co BG (by rfl)) (by rfl)) rfl) BG (by rfl)) rfl) (@AM _ _ _ _ _ (@Cg _ _ _ _ _ (@AM _ _ _ _ _ GN (@AM _ _ _ _ _ GN BG (by rfl)) (by rfl)) rfl) (@AM _ _ _ _ _ (@Cg _ _ _ _ _ (@AM _ _ _ _ _ EA (@AM _ _ _ _ _ (@Cg _ _ _ _ _ BG rfl) (@AM _ _ _ _ _ (@Cg _ _ _ _ _ BG rfl) (@AM _ _ _ _ _ (@Cg _ _ _ _ _ BG rfl) BG (by rfl)) (by rfl)) (by rfl)) (by rfl)) rfl) BG (by rfl)) (by rfl)) (by rfl)) (by rfl)) (by rfl)) (by rfl)) (by rfl)) (by rfl)) rfl)) (by rfl) (Di (by rfl))) (@An _ _ _ (@Ay _ _ _ _ (@AH _ _ _ _ _ _ _ (@BO _ K (by rfl)) (@cx _ 1 _ _ (by rfl)) (@Am _ _ _ _ _ _ _ _ _ _ J (hr.mono (by decide)) rfl (@FU _ _ _ _ _ (@cx _ 0 _ _ (by rfl)) (@R' _ _ _ _) (by rfl)) (by decide) (by rfl) (by rfl)) (λ_ _=>rfl)))))),?_⟩;obtain⟨z0,rfl⟩:=Dn (PQ h);cases z0<;>try exact False.elim h
 rename_i p
 .obtain⟨pn,q⟩:=h;intro v H1 s1 r1;have D:=r1 p (by obtain⟨l,f,e⟩:=pn;rw[e];intro z;cases z);unfold Aa at D;obtain⟨aL,xs,rfl,nL,kL,rL⟩:=D;have i4:20=xs.length:=rL.len;have B:=pn.same s1;intro v2 H2 s2 r2;have D:=r2 p (by obtain⟨l,f,e⟩:=B;rw[e];intro z;cases z);unfold Aa at D;obtain⟨aM,ys,rfl,nM,kM,rM⟩:=D;have Z:8=ys.length:=rM.len;have y:=B.same s2;refine⟨aL,aM,xs,ys,rfl,rfl,s2 _ _ kL,kM,Oi (by omega),λL G=>?_⟩;refine⟨y.new G,by decide,by decide,λg H3 h0 h1 e1 i0=>?_⟩;obtain⟨v,d,O,hd,rd⟩:=YE (Ad.ev ((Ev.new G).trans e1) _ _ ((Ad.ev (Ev.same s2) _ _ rL).append rM)) h0 (by rw[Zb];omega);exact⟨L,_,g,v,rfl,rfl,Al.of (e1.lst Af (y.ne G)),O,q v H3 d rd hd ((Ev.same (s1.trans s2)).trans ((Ev.new G).trans e1)) i0⟩
end
variable{p:yR}{H H':Hp}
theorem KG{TB:yR}{B:Str}(h:A6 p H)(t:TabIn H TB B)(g:∀b o,H b=some o->b≠TB->H' b=some o):A6 p H':=by
 obtain⟨l,f,e⟩:=h;refine⟨l,f,g _ _ e λz=>?_⟩;obtain⟨D,y,_⟩:=t;rw[z,y]at e;cases e
def PairAt(p:yR)(H:Hp)(x:V):Prop:=∃t P S v u,x= .ref t/\PL.ok P/\SY.ok S P.bs.length/\H t=some (.tup [v,u])/\Aa p H P.d v/\Aa p H S.d u
theorem PairAt.ev{x:V}(h:PairAt p H x)(e:Ev p H H'):PairAt p H' x:=by
 obtain⟨t,P,S,v,u,rfl,ok,so,k,r,ru⟩:=h;exact⟨t,P,S,v,u,rfl,ok,so,e.tup k,Aa.ev e _ _ r,Aa.ev e _ _ ru⟩
theorem YG{P:yP}{w:yN}{K:Fgx}{mg:Str->yW}{base:Heap}{ds:List yR}{n:Nat}{B:List Str}(F:EE P w K mg base n "alone" B (Ky ds)):Fn P w K mg base n "alone" B Kk:=F.fn λvs H Q E q=>by
 unfold Kk at q;split at q
 .obtain⟨p,P,S,c,ok,so,st,r,ru,G,Z,D⟩:=q;refine⟨p,P,S,AR c,ok,so,r,ru,G,λz=>(by rw[HR st]at z;cases z),λO y J=>?_⟩;have e:c=O:=by
   injection y with y
   have:=Zz (List.map HP) y
   rwa [ER,ER]at this
  subst e;exact⟨Z,D⟩
 .exact q.elim
theorem PairAt.evT{x:V}(h:PairAt p H x)(e:A2 p H H'):PairAt p H' x:=by
 obtain⟨t,P,S,v,u,rfl,ok,so,k,r,ru⟩:=h;exact⟨t,P,S,v,u,rfl,ok,so,e.tup k,Aa.evT e _ _ r,Aa.evT e _ _ ru⟩
def HY:yQ->Bool
 | .tuple es=>decide (es.length<=20)
 | _=>true
theorem PR:∀d∈KB++KC,HY d=true:=by
 have:(KB++KC).all HY=true:=by decide+kernel
 exact ZF.mp this
theorem KH{d:yQ}(h:HY d=true):∀es,d= .tuple es->es.length<=20:=λes e=>by subst e;exact Z0 h
theorem HZ{x:yQ}{s:Str}(h:(("told" :Str)==s)=false):PyData.eqv (.tuple [.str "told",x]) (.tuple [.str s])=false:=by
 unfold PyData.eqv PyData.eqvAll;unfold PyData.eqv;simp only[h,ZX]
theorem Ia{x:yQ}(h:x.canLay0=true):(PyData.tuple [.str "told",x]).canLay0=true:=by
 have e:(PyData.str "told").canLay0=true:=by decide+kernel
 show PyData.canLayAll0 [.str "told",x]=true;unfold PyData.canLayAll0;rw[e];unfold PyData.canLayAll0;rw[h]
 rfl
theorem YH:PyData.eqv (.tuple [.str "set"]) (.tuple [.str "set"])=true:=by decide+kernel
theorem YI:PyData.eqv (.tuple [.str "set"]) (.tuple [.str "other"])=false:=by decide+kernel
variable{P:yP}{w:yN}{K:Fgx}{mg:Str -> yW}{base:Heap}
theorem zac:Az ["_law_script","_law_cell_here","_law_pen_here","_law_plant_here","_law_story_here","_law_many","_law_odd_here","_law_word"] ["_law_script"] (Ar wa0):=AC
theorem YJ{M:yR}{ds:List yR}{c TB:yR}{lf:yR}{v7:FuncData}(F:Hu K "law" "law" wa0 lf v7 c)(hC:PySem.W.CodeHd base c TB)(hBu:base.BuiltinsAt mg TB)(T:Tx mg)(C:Tc K mg M ds)(yaO:Fn P w K mg base 3 "_law_any_pair" ["_law_pen_here","_law_most","_law_hours"] Kr)(yaP:Fn P w K mg base 1 "_law_cell" ["_law_script","_law_k"] (JV K))(yaQ:Fn P w K mg base 2 "_law_is_set" ["_law_many","_law_thing"] KA)(w8:Fn P w K mg base 2 "_law_odd" ["_law_pen_here"] KD)(yaR:Fn P w K mg base 3 "_law_pair" ["_law_pen_here","_law_most","_law_hours"] Kf)(yaS:Fn P w K mg base 1 "_law_pen" ["_law_cell_here"] JW)(yaT:Fn P w K mg base 12 "_law_right" ["_law_plant_here","_law_story_here"] Kz)(yaU:Ha P w K mg base 13 "_law_said" ["_law_call"] (EF P w K mg base 12 (Wd K M ds)))(yaV:EE P w K mg base 11 "alone" ["plant","story","chosen"] (Ky ds)):C2 P w K mg base CX0 14 lf v7 ["_law_script"] (sp_law K TB):=by
 refine F.ok zac (λvs H Q E h=>?_) (λA outer s H vs Q E hr h=>?_)
 .exact WB h
 refine⟨_,(Ak (Bl Z8 rfl (Ez K (Ax EG (B4 (Ai (zB yaP hr (Aq (cy 0) R')))) (EW (RW K) (cy 0) (Ds R') (Ds R')))) (Ag 1 zac.nd) (Ak (zC 2 zac.nd (zB yaS hr (Ai (cy 1)))) (An (Bl Z8 rfl (Ez K (B4 (Aq (zB yaR hr (AQ (cy 2) R' R')) (zB yaO hr (AQ (cy 2) R' R'))))) (AL K (n:=2) (Aj (Ag 3 zac.nd) (Aj (Ag 4 zac.nd) AJ))) (Ak (zC 5 zac.nd (AD (BV K) rfl T.b_len zH (Ai (AH (A4 K) (cy 3) R' (λ_ _=>rfl))))) (Ak (Bj (B9 (BM (zB yaT hr (Aq (cy 3) (cy 4))))) (An (Ay W')) Bh) (An (Bl Z8 rfl (Ez K (B4 (Bf V' (Bf (B4 pa_nil) (Bf (Bw (Ai (cy 5))) (Bf (Bw (Ai O6)) (Bf (Bw (Aq R' R')) (Bf (Bw (Aq R' R')) (Bf (Bw (Ai W')) (C6 (Bw (Ai U')) c_dict (zB w8 hr (Ai (cy 2))) (zB w8 hr (Ai (cy 2))))))))))))) (Ag 6 zac.nd) (Ak (zC 7 zac.nd (TH (N':=["_law_plant_here","_law_story_here","_law_odd_here"]) (cap:=[some 3,some 4,some 6]) yaU (hr.mono (by decide)) rfl (λ_=>rfl) rfl hC hBu (AI.of rfl) (by decide) rfl rfl rfl rfl (λ_ _ _ _=>rfl) (λA outer s H f c E hrA=>(Tn To yaV ((hrA.deeper _).mono (by decide)) rfl (AQ (cy 0) (cy 1) (cy 2)))))) (An (Bj (PW.pt (FL (A7 Dq (Cw (Mp hr) (cy 7) (Bw (Ai U')) (AV _)) (zB yaQ hr (Aq (cy 5) (cy 6))) (AV _)) (FC (A7 (Mp hr) (cy 7) (Bw (Ai U')) (AV _))))) (An (Ay W')) Bh))))))))))) (An (Ay W'))),?_⟩;unfold sp_law at h;split at h
 .rename_i a;obtain⟨ns,hS,o9,hTB,q⟩:=h;have tb0:TabIn H TB Hv:=⟨#[],hTB,trivial,λpos v e=>(by have:(none:yW)=some v:=e;cases this)⟩;refine⟨ns,hS,by decide,λc0 l1 H01 v8 hl1 k01=>?_⟩;have hS1:Al K H01 a (ns.map V.int):=v8.seq hS;refine⟨1,rfl,2,rfl,a,_,rfl,hS1,λl2 w9=>?_⟩;have lc:(Cb (ns.map V.int) (some 1) (some 2)).length<=63:=YV (Iz _ _ _) (by rw[Y2];exact o9);refine⟨l1,l2,[.int c0],_,rfl,rfl,(Ab.new w9) _ _ k01,Af,Oi (by rw[cO];omega),λL H02 s02 hL kL=>?_⟩;have j6:∀v∈ [V.int c0]++Cb (ns.map V.int) (some 1) (some 2),∃i,v= .int i:=λv hv=>by
   rcases ZS.mp hv with hv | hv
   .exact⟨c0,Z3.mp hv⟩
   .obtain⟨i,_,e⟩:=Zj.mp (WC hv);exact⟨i,e.symm⟩
  have tb1:=tb0.same (v8.trans ((Ab.new w9).trans s02));generalize [V.int c0]++Cb (ns.map V.int) (some 1) (some 2)=xs at j6 kL;refine⟨L,rfl,⟨xs,Al.of kL⟩,EV (xs:=xs) (λi σ H'=>(∃x1 x2 x3 x4 x5 x6 x7,σ=[some (.ref a),x1,x2,x3,x4,x5,x6,x7])/\H' L=some (.lst xs)/\TabIn H' TB Hv) ⟨⟨_,_,_,_,_,_,_,rfl⟩,kL,tb1⟩ (λi σ H' _ h=>Al.of h.2.1) (λi x σ H1 hx h=>?_) fun σ H1 h=>q H1⟩;obtain⟨⟨x1,x2,x3,x4,x5,x6,x7,rfl⟩,v3,tb2⟩:=h;obtain⟨c,rfl⟩:=j6 x (YW hx);refine λp l f hp=>?_
  have l9:L≠p:=Bg v3 hp;have np:=Ab.new (o:= .lst [.int l,.int f]) hp;have v4:A6 p (upd H1 p (.lst [.int l,.int f])):=⟨l,f,Af⟩;have u0:=np _ _ v3;have w5:=tb2.same np;generalize upd H1 p (.lst [.int l,.int f])=H2 at np v4 u0 w5 ⊢;refine⟨v4,by decide,by decide,by decide,by decide,λt1 H3 P1 S1 v1 u1 ok1 so1 _ k1 rv1 ru1 e3 pn3=>?_⟩;refine⟨pn3,by decide,by decide,by decide,by decide,λt2 H4 P2 S2 v2 u2 ok2 so2 k2 rv2 ru2 e4 n9=>?_⟩;refine λLq H6 J hLq v6=>?_
  have hL6:=J _ _ (e4.lst (e3.lst u0 l9) l9);have a1:PairAt p H6 (.ref t1):=PairAt.ev ⟨t1,P1,S1,v1,u1,rfl,ok1,so1,k1,rv1,ru1⟩ (e4.trans (Ev.same J));have a2:PairAt p H6 (.ref t2):=PairAt.ev ⟨t2,P2,S2,v2,u2,rfl,ok2,so2,k2,rv2,ru2⟩ (Ev.same J);have al:∀x∈ [V.ref t1,V.ref t2],PairAt p H6 x:=λx hx=>by
   simp only[YY,Zt,ai]at hx;rcases hx with rfl | rfl
   .exact a1
   .exact a2
  have pn6:=n9.same J;have tb6:=((w5.ev e3).ev e4).same J;have nLq:Lq≠p:=n9.ne hLq;refine⟨Lq,rfl,⟨_,Al.of v6⟩,EV (xs:=[V.ref t1,V.ref t2]) (λi σ H'=>(∃x3 x4 x5 x6 x7,σ=[some (.ref a),some (.int c),some (.ref p),x3,x4,x5,x6,x7])/\A2 p H6 H'/\A6 p H'/\TabIn H' TB Hv) ⟨⟨_,_,_,_,_,rfl⟩,A2.refl,pn6,tb6⟩ (λi σ H' _ h=>Al.of (h.2.1.lst v6 nLq)) (λi x σ Hd hx h=>?_) fun σ Hd h=>?_⟩
  rotate_left
  .obtain⟨⟨x3,x4,x5,x6,x7,rfl⟩,ed,_,j8⟩:=h;exact⟨⟨_,_,_,_,_,_,_,rfl⟩,ed.lst hL6 l9,j8⟩
  obtain⟨⟨x3,x4,x5,x6,x7,rfl⟩,ed,u7,j8⟩:=h;obtain⟨t,P,S,v,u,rfl,ok,so,k,r,ru⟩:=(al x (YW hx)).evT ed;have b4:=ok.b4;refine⟨t,_,rfl,Ae.of k,rfl,_,_,rfl,_,_,rfl,rfl,?_⟩;obtain⟨PA,PB,PE,PM,xb,xe,rfl,pA,pB,rb,pE,re,pM⟩:=Aa.plant r;have lb:=rb.len;rw[Y2]at lb;refine⟨PA,_,0,.ref PB,rfl,rfl,Ae.of pA,rfl,PB,_,rfl,.inr (Ae.of pB),?_⟩;rw[<-lb];refine⟨p,P,S,ok,so,r,ru,λHe se=>⟨λz=>(by cases z),λ_=>?_⟩⟩;refine λq1 G1 g1 hq1 kq1=>λq2 G2 g2 kq2=>λq3 G3 g3 kq3=>λq4 G4 g4 kq4=>λq5 G5 g5 kq5=>λq6 G6 g6 kq6=>λq7 G7 g7 kq7=>λq8 u9=>?_
  have n1:q1≠p:=(u7.same se).ne hq1;have j5:=g2.trans (g3.trans (g4.trans (g5.trans (g6.trans g7))));have w6:=(u7.same se).same (g1.trans j5);have n8:q8≠p:=w6.ne u9;have g8:=Ab.new (o:= .dK []) u9;have r8:upd G7 q8 (.dK []) q8=some (.dK []):=Af;generalize upd G7 q8 (.dK [])=G8 at g8 r8 ⊢;have pn8:=w6.same g8;refine⟨pn8,λv9 G9 d9 r9 m9 e9 pn9=>⟨pn9,λx0 G10 l7 r10 m10 o7 j7=>λO l6 j4 hO kO=>?_⟩⟩;have n11:O≠p:=j7.ne hO;have f:=λ{H H':Hp} (s:Ab H H')=>Ev.same (p:=p) s
  have Z:=e9.trans (o7.trans (f j4));have tq:=λ{q:yR}{xs:zA}{G G':Hp} (k:G q=some (.tup xs)) (g:Ab G G') (g':Ab G' G8)=>Z.tup (g' _ _ (g _ _ k))
  have rs:Ad p l6 [.none,.list [],.tuple [.int (P.bs.length:Int)],.tuple [.int (-1)],.tuple [.int 0,.int 0],.tuple [.int 1,.int 0],.tuple [.bool true],.tuple [.str "0"],.dict [],d9,l7] [.non,.ref q1,.ref q2,.ref q3,.ref q4,.ref q5,.ref q6,.ref q7,.ref q8,v9,x0]:=by
   refine .cons Aa.non (.cons (Aa.lst n1 (Z.lst (g8 _ _ (j5 _ _ kq1)) n1) .nil) ?_);refine .cons (Aa.tup (tq kq2 (g3.trans (g4.trans (g5.trans (g6.trans g7)))) g8) (.cons Aa.int .nil)) ?_;refine .cons (Aa.tup (tq kq3 (g4.trans (g5.trans (g6.trans g7))) g8) (.cons Aa.int .nil)) ?_;refine .cons (Aa.tup (tq kq4 (g5.trans (g6.trans g7)) g8) (.cons Aa.int (.cons Aa.int .nil))) ?_;refine .cons (Aa.tup (tq kq5 (g6.trans g7) g8) (.cons Aa.int (.cons Aa.int .nil))) ?_;refine .cons (Aa.tup (tq kq6 g7 g8) (.cons Aa.bl .nil)) ?_;refine .cons (Aa.tup (tq kq7 (Ab.refl _) g8) (.cons Aa.str .nil)) ?_;refine .cons (by unfold Aa;exact⟨q8,[],rfl,n8,.inl ⟨rfl,rfl⟩,Z.dk r8⟩) ?_;exact .cons (Aa.ev (o7.trans (f j4)) _ _ r9) (.cons (Aa.ev (f j4) _ _ r10) .nil)
  have o8:∀d∈ [PyData.none,.list [],.tuple [.int (P.bs.length:Int)],.tuple [.int (-1)],.tuple [.int 0,.int 0],.tuple [.int 1,.int 0],.tuple [.bool true],.tuple [.str "0"],.dict [],d9,l7],HY d=true:=λd hd=>by
   simp only[YY,Zt,ai]at hd;rcases hd with rfl | rfl | rfl | rfl | rfl | rfl | rfl | rfl | rfl | rfl | rfl
   iterate 9 rfl
   .exact PR _ m9
   .exact PR _ m10
  have eD:A2 p Hd l6:=A2.ev ((f (se.trans (g1.trans (j5.trans g8)))).trans Z);have r11:=Aa.evT eD _ _ r;have u6:=Aa.evT eD _ _ ru;have q9:=j7.same j4;have t9:=(j8.same (se.trans (g1.trans (j5.trans g8)))).ev Z;generalize [PyData.none,.list [],.tuple [.int (P.bs.length:Int)],.tuple [.int (-1)],.tuple [.int 0,.int 0],.tuple [.int 1,.int 0],.tuple [.bool true],.tuple [.str "0"],.dict [],d9,l7]=dsx at rs o8;generalize [V.non,.ref q1,.ref q2,.ref q3,.ref q4,.ref q5,.ref q6,.ref q7,.ref q8,v9,x0]=ysx at rs kO;refine⟨O,rfl,⟨_,Al.of kO⟩,EV (xs:=ysx) (λj σ H'=>(∃x6 x7,σ=[some (.ref a),some (.int c),some (.ref p),some (.ref PA),some u,some (.int (P.bs.length:Int)),x6,x7])/\A2 p l6 H'/\A6 p H'/\TabIn H' TB Hv) ⟨⟨_,_,rfl⟩,A2.refl,q9,t9⟩ (λj σ H' _ h=>Al.of (h.2.1.lst kO n11)) (λj y σ Hk hy h=>?_) fun σ Hk h=>?_⟩
  rotate_left
  .obtain⟨⟨x6,x7,rfl⟩,ek,i8,i4⟩:=h;exact⟨⟨_,_,_,_,_,rfl⟩,ed.trans (eD.trans ek),i8,i4⟩
  obtain⟨⟨x6,x7,rfl⟩,ek,i8,i4⟩:=h;obtain⟨d,hd,rd0⟩:=rs.got hy;have j9:=o8 d (YW hd);have j3:=Aa.evT ek _ _ rd0;refine⟨i4,λH1' T1 k1=>?_⟩;have D:=A2.grow (p:=p) i4 k1;refine⟨p,P,S,d,ok,so,Aa.evT (ek.trans D) _ _ r11,Aa.evT (ek.trans D) _ _ u6,Aa.evT D _ _ j3,λhb1 i7 j0=>?_,λc ec st=>⟨λno i7 j0=>?_,λno f' ps i7 hf j0=>?_⟩⟩
  .refine⟨_,"set",rfl,⟨7,by decide,rfl,rfl,C.w_NoSet⟩,λH3' t3 ext i6=>?_⟩;have s3:Ab H1' H3':=Ab.trans j0 ext;refine λu5 H6 J k6=>⟨p,.tuple [.str "set"],.tuple [.str "set"],Aa.tup (J _ _ i6) (.cons Aa.str .nil),Aa.tup k6 (.cons Aa.str .nil),by decide+kernel,by decide+kernel,by decide+kernel,.inl ⟨by decide+kernel,by decide+kernel,?_⟩⟩
   rw[YH];have i0:=s3.trans J;refine⟨p,P.bs.length,d,rfl,b4,KH j9,Aa.ev (Ev.same (p:=p) i0) _ _ (Aa.evT D _ _ j3),λb H7 hb s7=>⟨rfl,?_⟩⟩;rw[hb1]at hb;subst hb;refine⟨λz=>(by cases z),λ_=>λu8 H8 s8 k8=>⟨p,.tuple [.str "set"],.tuple [.str "other"],Aa.tup ((J.trans (s7.trans s8)) _ _ i6) (.cons Aa.str .nil),Aa.tup k8 (.cons Aa.str .nil),by decide+kernel,by decide+kernel,by decide+kernel,.inl ⟨by decide+kernel,by decide+kernel,?_⟩⟩⟩;rw[YI];have B:=i0.trans (s7.trans s8);exact⟨λz=>(by cases z),λ_=>⟨⟨_,_,rfl⟩,ek.trans (D.trans (A2.same B)),(KG i8 i4 k1).same B,T1.same B⟩⟩
  .subst ec;intro t3 i6;have i9:=Ab.new (o:= .tup [.str "told",.non]) i6;have i5:upd i7 t3 (.tup [.str "told",.non]) t3=some (.tup [.str "told",.non]):=Af;have s3:=j0.trans i9;generalize upd i7 t3 (.tup [.str "told",.non])=H5 at i9 i5 s3 ⊢;refine λu5 H6 J k6=>⟨p,.tuple [.str "told",.none],.tuple [.str "set"],Aa.tup (J _ _ i5) (.cons Aa.str (.cons Aa.non .nil)),Aa.tup k6 (.cons Aa.str .nil),by decide+kernel,by decide+kernel,by decide+kernel,.inl ⟨Ia (by decide+kernel),rfl,?_⟩⟩
   rw[HZ (by decide+kernel)];have i0:=s3.trans J;refine⟨p,P.bs.length,AR c,rfl,b4,KH j9,Aa.ev (Ev.same (p:=p) i0) _ _ (Aa.evT D _ _ j3),λb H7 hb s7=>⟨rfl,?_⟩⟩;rw[HR st]at hb;subst hb;refine⟨λz=>(by cases z),λ_=>λu8 H8 s8 k8=>⟨p,.tuple [.str "told",.none],.tuple [.str "other"],Aa.tup ((J.trans (s7.trans s8)) _ _ i5) (.cons Aa.str (.cons Aa.non .nil)),Aa.tup k8 (.cons Aa.str .nil),by decide+kernel,by decide+kernel,by decide+kernel,.inl ⟨Ia (by decide+kernel),rfl,?_⟩⟩⟩;rw[HZ (by decide+kernel)];have B:=i0.trans (s7.trans s8);exact⟨λz=>(by cases z),λ_=>⟨⟨_,_,rfl⟩,ek.trans (D.trans (A2.same B)),(KG i8 i4 k1).same B,T1.same B⟩⟩
  .subst ec;intro t3 i6;have i9:=Ab.new (o:= .tup [.str "told",.int f']) i6;have i5:upd i7 t3 (.tup [.str "told",.int f']) t3=some (.tup [.str "told",.int f']):=Af;have s3:=j0.trans i9;generalize upd i7 t3 (.tup [.str "told",.int f'])=H5 at i9 i5 s3 ⊢;refine λu5 H6 J k6=>⟨p,.tuple [.str "told",.int f'],.tuple [.str "set"],Aa.tup (J _ _ i5) (.cons Aa.str (.cons Aa.int .nil)),Aa.tup k6 (.cons Aa.str .nil),by decide+kernel,by decide+kernel,by decide+kernel,.inl ⟨Ia (by unfold PyData.canLay0;rfl),rfl,?_⟩⟩
   rw[HZ (by decide+kernel)];have i0:=s3.trans J;refine⟨p,P.bs.length,AR c,rfl,b4,KH j9,Aa.ev (Ev.same (p:=p) i0) _ _ (Aa.evT D _ _ j3),λb H7 hb s7=>⟨rfl,?_⟩⟩;rw[HR st]at hb;subst hb;refine⟨λz=>(by cases z),λ_=>λu8 H8 s8 k8=>⟨p,.tuple [.str "told",.int f'],.tuple [.str "other"],Aa.tup ((J.trans (s7.trans s8)) _ _ i5) (.cons Aa.str (.cons Aa.int .nil)),Aa.tup k8 (.cons Aa.str .nil),by decide+kernel,by decide+kernel,by decide+kernel,.inl ⟨Ia (by unfold PyData.canLay0;rfl),rfl,?_⟩⟩⟩;rw[HZ (by decide+kernel)];have B:=i0.trans (s7.trans s8);exact⟨λz=>(by cases z),λ_=>⟨⟨_,_,rfl⟩,ek.trans (D.trans (A2.same B)),(KG i8 i4 k1).same B,T1.same B⟩⟩
 .exact h.elim
end MF
section
namespace MF
open L2
variable{oc:yU}{od:Option yR}{sl:Array (yW)}{h:Heap}{p0 p1 p2 p3:Str}
abbrev D4(K:Fgx)(x:Str)(st:Stmt):Prop:=∃(f:yR) (Z:yU) (J G:Option yR) (B:Array (yW)) (kV O D y ct:yU),PySem.W.nsIn K mainGlobals x=some (some (.ref f))/\K.lookup f=some ⟨Z,J,.func (PySem.W.fnOf x x (Cc st) (BB st) (Ar st) .none kV O D G y ct),B⟩/\PySem.W.codeIn K y x=true/\PySem.W.keepIn K (.ref f)=true
theorem d4_mk{K:Fgx}{x:Str}{st:Stmt}{f:yR}{y:Option yR}{kV D B cd ct:yU}(a:PySem.W.nsIn K mainGlobals x=some (some (.ref f)))(l:K.lookup f=some ⟨oc,od,.func (PySem.W.fnOf x x (Cc st) (BB st) (Ar st) .none kV D B y cd ct),sl⟩)(c:PySem.W.codeIn K cd x=true)(k:PySem.W.keepIn K (.ref f)=true):D4 K x st:=⟨_,_,_,_,_,_,_,_,_,_,a,l,c,k⟩
theorem Gj{K:Fgx}{mg:Str->yW}{x:Str}{st:Stmt}{B:List Str}(X:K.In h)(G:h.Ns mainGlobals mg)(d:D4 K x st)
  (O:∀(kV y J:yU) (D:Option yR) (dl ct:yU) (us:yX),us.length=B.length->bindArgs (PySem.W.fnOf x x (Cc st) (BB st) (Ar st) .none kV y J D dl ct) ⟨us,[]⟩=pure (B.zip us)):Df K mg x st B:=by
 obtain⟨f,_,_,_,_,_,_,_,_,_,a,l,c,k⟩:=d;exact⟨f,_,LB l c k,PySem.W.mg_of X G a,(LB l c k).binds O⟩
theorem BR{K:Fgx}{mg:Str->yW}{x:Str}{st:Stmt}(X:K.In h)(G:h.Ns mainGlobals mg)(d:D4 K x st)(hb:autoParam (∀(kV y Z:yU) (O:Option yR) (dl ct B:yU),bindArgs (PySem.W.fnOf x x (Cc st) (BB st) (Ar st) .none kV y Z O dl ct) ⟨[B],[]⟩=pure ([p0].zip [B])) L'):Df K mg x st [p0]:=
 Gj X G d λ_ _ _ _ _ _ J D=>by rcases J with _ | ⟨_,_ | _⟩<;>first | exact hb _ _ _ _ _ _ _ | cases D | simp at D
theorem Bu{K:Fgx}{mg:Str->yW}{x:Str}{st:Stmt}(X:K.In h)(G:h.Ns mainGlobals mg)(d:D4 K x st)(hb:autoParam (∀(kV y Z:yU) (O:Option yR) (dl ct D J:yU),bindArgs (PySem.W.fnOf x x (Cc st) (BB st) (Ar st) .none kV y Z O dl ct) ⟨[D,J],[]⟩=pure ([p0,p1].zip [D,J])) L'):Df K mg x st [p0,p1]:=
 Gj X G d λ_ _ _ _ _ _ us B=>by rcases us with _ | ⟨_,_ | ⟨_,_ | _⟩⟩<;>first | exact hb _ _ _ _ _ _ _ _ | cases B | simp at B
theorem Ct{K:Fgx}{mg:Str->yW}{x:Str}{st:Stmt}(X:K.In h)(G:h.Ns mainGlobals mg)(d:D4 K x st)(hb:autoParam (∀(kV y pm:yU) (Z:Option yR) (dl ct D J O:yU),bindArgs (PySem.W.fnOf x x (Cc st) (BB st) (Ar st) .none kV y pm Z dl ct) ⟨[D,J,O],[]⟩=pure ([p0,p1,p2].zip [D,J,O])) L'):Df K mg x st [p0,p1,p2]:=
 Gj X G d λ_ _ _ _ _ _ us B=>by rcases us with _ | ⟨_,_ | ⟨_,_ | ⟨_,_ | _⟩⟩⟩<;>first | exact hb _ _ _ _ _ _ _ _ _ | cases B | simp at B
theorem PU{K:Fgx}{mg:Str->yW}{x:Str}{st:Stmt}(X:K.In h)(G:h.Ns mainGlobals mg)(d:D4 K x st)(hb:autoParam (∀(kV y pm:yU) (an:Option yR) (dl ct J O Z B:yU),bindArgs (PySem.W.fnOf x x (Cc st) (BB st) (Ar st) .none kV y pm an dl ct) ⟨[J,O,Z,B],[]⟩=pure ([p0,p1,p2,p3].zip [J,O,Z,B])) L'):Df K mg x st [p0,p1,p2,p3]:=
 Gj X G d λ_ _ _ _ _ _ us D=>by rcases us with _ | ⟨_,_ | ⟨_,_ | ⟨_,_ | ⟨_,_ | _⟩⟩⟩⟩<;>first | exact hb _ _ _ _ _ _ _ _ _ _ | cases D | simp at D
theorem YK{K:Fgx}{mg:Str->yW}{x:Str}{st:Stmt}{D:Str}(X:K.In h)(G:h.Ns mainGlobals mg)(d:D4 K x st)(hb:autoParam (∀(kV y pm:yU) (an:Option yR) (dl ct O a1 a2 B Z:yU),bindArgs (PySem.W.fnOf x x (Cc st) (BB st) (Ar st) .none kV y pm an dl ct) ⟨[O,a1,a2,B,Z],[]⟩=pure ([p0,p1,p2,p3,D].zip [O,a1,a2,B,Z])) L'):Df K mg x st [p0,p1,p2,p3,D]:=
 Gj X G d λ_ _ _ _ _ _ us J=>by rcases us with _ | ⟨_,_ | ⟨_,_ | ⟨_,_ | ⟨_,_ | ⟨_,_ | _⟩⟩⟩⟩⟩<;>first | exact hb _ _ _ _ _ _ _ _ _ _ _ | cases J | simp at J
theorem YL{K:Fgx}{x:Str}{f c T:yR}{y:FuncData}(a:PySem.W.nsIn K mainGlobals x=some (some (.ref f)))(l:K.lookup f=some ⟨oc,od,.func y,sl⟩)(t:PySem.W.tabIn K x=some (c,T)):y.code= .ref c:=by
 unfold PySem.W.tabIn at t;rw[a]at t;simp only[l]at t;split at t
 .rename_i B D;split at t
  .split at t
   .have G:=Z7 t;have e:B=c:=Zz Prod.fst G;rw[D,e]
   .cases t
  .cases t
 .cases t
noncomputable abbrev FnAt(x:Str)(st:Stmt)(kV D y:yU)(B:Option yR)(cd ct:yU):FuncData:=PySem.W.fnOf x x (Cc st) (BB st) (Ar st) .none kV D y B cd ct
open PySem.W in
theorem all_mk{l:OpenLaw}{w:yN}{K:Frag}{mg:Str->yW}{fa c TB:yR}(X:K.In h)(G:h.Ns mainGlobals mg)(hfa:mg "law"=some (.ref fa))(ht:tabIn K "law"=some (c,TB))
  {j4:yR}{R58 t9:Option yR}{S58:Array (yW)}{O58 o9 q9 n9 i7 j7:yU}
  (a0:D4 K "_law_draw" waD)
  (a1:D4 K "_law_plant" waH)
  (a2:D4 K "_law_story" waI)
  (a3:D4 K "_law_any_pair" waW)
  (a4:D4 K "_law_cell" waB)
  (a5:D4 K "_law_below" waG)
  (a6:D4 K "_law_is_set" waY)
  (a7:D4 K "_law_odd" waT)
  (a8:D4 K "_law_caps" waJ)
  (a9:D4 K "_law_draws" waK)
  (a10:D4 K "_law_mains" waL)
  (a11:D4 K "_law_keeps" waM)
  (u7:D4 K "_law_pair" waQ)
  (a13:D4 K "_law_pen" waC)
  (a14:D4 K "_law_alone" waU)
  (a15:D4 K "_law_coals" waP)
  (w5:D4 K "_law_is_short" waR)
  (a17:D4 K "_law_stretch" waS)
  (a18:D4 K "_law_does" waV)
  (a19:D4 K "_law_costs" waN)
  (a20:D4 K "_law_least" waO)
  (a21:D4 K "_law_rows_of" wa2)
  (a22:D4 K "floor_at" waq)
  (a23:D4 K "tails_from" was)
  (u9:D4 K "highest_floor" war)
  (a25:D4 K "is_too_much" wao)
  (a26:D4 K "least_stretch" wap)
  (v3:D4 K "coal_under" wat)
  (a28:D4 K "is_rising" wa6)
  (a29:D4 K "is_tuple_of" wa5)
  (v6:D4 K "is_whole" wa3)
  (a31:D4 K "is_whole_from" wa4)
  (a32:D4 K "is_set" wau)
  (a33:D4 K "cap_under" wak)
  (a34:D4 K "words_for" waj)
  (a35:D4 K "caps_in" wai)
  (a36:D4 K "is_fault" waf)
  (a37:D4 K "is_make_and_coal" wa9)
  (v7:D4 K "are_boilers" wa8)
  (a39:D4 K "is_engine" wab)
  (a40:D4 K "are_engines" waa)
  (a41:D4 K "is_main" wac)
  (a42:D4 K "is_plant" wa7)
  (a43:D4 K "need_plant" wad)
  (a44:D4 K "is_story" wae)
  (a45:D4 K "need_story" wag)
  (a46:D4 K "caps_of" wah)
  (u6:D4 K "drawn_by" wam)
  (a48:D4 K "draws_of" wal)
  (a49:D4 K "terms_of" wan)
  (a50:D4 K "with_only" wav)
  (a51:D4 K "alone" wax)
  (a52:D4 K "does" waw)
  (a53:D4 K "without" waA)
  (u0:D4 K "needed" waz)
  (a55:D4 K "_law_right" waX)
  (a56:D4 K "_law_which" waE)
  (a57:D4 K "_law_said" waF)
  (j8:nsIn K mainGlobals "law"=some (some (.ref j4))) (j9:K.lookup j4=some ⟨O58,R58,.func (FnAt "law" wa0 o9 q9 n9 t9 i7 j7),S58⟩) (c58:codeIn K i7 "law"=true) (k58:keepIn K (.ref j4)=true)
  (z0:nsIn K mainGlobals "ValueError"=some none)
  (z1:nsIn K mainGlobals "all"=some none)
  (z2:nsIn K mainGlobals "bool"=some none)
  (z3:nsIn K mainGlobals "divmod"=some none)
  (z4:nsIn K mainGlobals "enumerate"=some none)
  (z5:nsIn K mainGlobals "int"=some none)
  (z6:nsIn K mainGlobals "isinstance"=some none)
  (z7:nsIn K mainGlobals "len"=some none)
  (z8:nsIn K mainGlobals "list"=some none)
  (z9:nsIn K mainGlobals "max"=some none)
  (z10:nsIn K mainGlobals "min"=some none)
  (z11:nsIn K mainGlobals "range"=some none)
  (z12:nsIn K mainGlobals "repr"=some none)
  (z13:nsIn K mainGlobals "reversed"=some none)
  (z14:nsIn K mainGlobals "set"=some none)
  (z15:nsIn K mainGlobals "sorted"=some none)
  (z16:nsIn K mainGlobals "sum"=some none)
  (z17:nsIn K mainGlobals "tuple"=some none)
  (z18:nsIn K mainGlobals "zip"=some none)
  {t0:Tok} (q0:nsIn K mainGlobals "MOST_BOILERS"=some (some (.int 4 t0)))
  {t1:Tok} (q1:nsIn K mainGlobals "MOST_ENGINES"=some (some (.int 4 t1)))
  {t2:Tok} (q2:nsIn K mainGlobals "MOST_FAULTS"=some (some (.int 4 t2)))
  {t3:Tok} (q3:nsIn K mainGlobals "MOST_HOURS"=some (some (.int 8 t3)))
  {t4:Tok} (q4:nsIn K mainGlobals "MOST_UNITS"=some (some (.int 9 t4)))
  {t5:Tok} (q5:nsIn K mainGlobals "MOST_EXTRA"=some (some (.int 20 t5)))
  {t6:Tok} (q6:nsIn K mainGlobals "MOST_IN_MAIN"=some (some (.int 40 t6)))
  {M d0 d1 d2 d3 d4 d5 d6 d7 d8 d9 i9 i5 j3 J i6 Z i4 D i0:yR}
  (y0:nsIn K mainGlobals "NoPlant"=some (some (.ref d0)))
  (y1:nsIn K mainGlobals "NoStory"=some (some (.ref d1)))
  (y2:nsIn K mainGlobals "NoFiring"=some (some (.ref d2)))
  (y3:nsIn K mainGlobals "NoHour"=some (some (.ref d3)))
  (y4:nsIn K mainGlobals "NoBoiler"=some (some (.ref d4)))
  (y5:nsIn K mainGlobals "NoPrices"=some (some (.ref d5)))
  (y6:nsIn K mainGlobals "NoWay"=some (some (.ref d6)))
  (y7:nsIn K mainGlobals "NoSet"=some (some (.ref d7)))
  (y8:nsIn K mainGlobals "NoTanks"=some (some (.ref d8)))
  (y9:nsIn K mainGlobals "NoPump"=some (some (.ref d9)))
  (y10:nsIn K mainGlobals "NoFeeding"=some (some (.ref i9)))
  (y11:nsIn K mainGlobals "NoReadings"=some (some (.ref i5)))
  (y12:nsIn K mainGlobals "NoStart"=some (some (.ref j3)))
  (y13:nsIn K mainGlobals "NoShifts"=some (some (.ref J)))
  (y14:nsIn K mainGlobals "NoBook"=some (some (.ref i6)))
  (y15:nsIn K mainGlobals "NoAmount"=some (some (.ref Z)))
  (y16:nsIn K mainGlobals "NoDeed"=some (some (.ref i4)))
  (w9:nsIn K mainGlobals "NoLine"=some (some (.ref D)))
  (y18:nsIn K mainGlobals "NoText"=some (some (.ref i0)))
  (yM:nsIn K mainGlobals "MainError"=some (some (.ref M))) (yB:mroIn K M (.type "BaseException")=some true) (yT:typeIn K (.ref M)=some (.type "type"))
  (x7:excIn K d7 Jo "ValueError.__new__"=true) (w7:Fi K M [d0,d1,d2,d3,d4,d5,d6,d7,d8,d9,i9,i5,j3,J,i6,Z,i4,D,i0] 7=true)
  :∃fd:FuncData,(∀(s:yS) (v:yU),BindsTo s fd ⟨[v],[]⟩ [("_law_script",v)])/\∀base:Heap,K.In base->base.Ns mainGlobals mg->CodeHd base c TB->base.BuiltinsAt mg TB->C2 l.prog w K mg base CX0 14 fa fd ["_law_script"] (sp_law K TB):=by
 have e:=hfa.symm.trans (PySem.W.mg_of X G j8);cases e;have T:Tx mg:=⟨mg_none_of X G z0,mg_none_of X G z1,mg_none_of X G z2,mg_none_of X G z3,mg_none_of X G z4,mg_none_of X G z5,mg_none_of X G z6,mg_none_of X G z7,mg_none_of X G z8,mg_none_of X G z9,mg_none_of X G z10,mg_none_of X G z11,mg_none_of X G z12,mg_none_of X G z13,mg_none_of X G z14,mg_none_of X G z15,mg_none_of X G z16,mg_none_of X G z17,mg_none_of X G z18,⟨_,mg_of X G q0⟩,⟨_,mg_of X G q1⟩,⟨_,mg_of X G q2⟩,⟨_,mg_of X G q3⟩,⟨_,mg_of X G q4⟩,⟨_,mg_of X G q5⟩,⟨_,mg_of X G q6⟩⟩;have C:Tc K mg M [d0,d1,d2,d3,d4,d5,d6,d7,d8,d9,i9,i5,j3,J,i6,Z,i4,D,i0]:=⟨mg_of X G y0,mg_of X G y1,mg_of X G y2,mg_of X G y3,mg_of X G y4,mg_of X G y5,mg_of X G y6,mg_of X G y7,mg_of X G y8,mg_of X G y9,mg_of X G y10,mg_of X G y11,mg_of X G y12,mg_of X G y13,mg_of X G y14,mg_of X G y15,mg_of X G y16,mg_of X G w9,mg_of X G y18,mg_of X G yM,yB,yT,y7,x7,w7⟩;have ec:i7= .ref c:=YL j8 j9 ht;subst ec;have w8:Hu K "law" "law" wa0 fa _ c:=⟨_,_,_,_,_,_,_,_,rfl,j9,c58⟩;refine⟨PySem.W.fnOf "law" "law" (Cc wa0) (BB wa0) (Ar wa0) .none o9 q9 n9 t9 (.ref c) j7,λs v=> .of_eq rfl,λbase _ _ hC hBu=>?_⟩;have i8:=W3 (P:=l.prog) (w:=w) (base:=base) (Bu X G a0) T;have r8:=W4 (Bu X G a1) T i8;have o7:=Xm (Ct X G a2) T i8;have xad:=Yb (Ct X G a3) T r8 o7;have xae:=W1 (P:=l.prog) (w:=w) (base:=base) (Bu X G a4) T;have xaf:=X5 (P:=l.prog) (w:=w) (base:=base) (Bu X G a5) T;have xag:=YC (Bu X G a6) T xaf;have xah:=YF (BR X G a7) T i8;have O:=Xn (P:=l.prog) (w:=w) (base:=base) (Bu X G a8) T;have j0:=Xz (P:=l.prog) (w:=w) (base:=base) (Bu X G a9) T;have xai:=XA (P:=l.prog) (w:=w) (base:=base) (Ct X G a10) T;have xaj:=XC (Ct X G a11) T j0 xai;have xak:=XD (Ct X G u7) T O xaj r8 o7;have xal:=W2 (P:=l.prog) (w:=w) (base:=base) (BR X G a13) T;have l9:=X9 (P:=l.prog) (w:=w) (base:=base) (Bu X G a14) T;have xam:=Yp (P:=l.prog) (w:=w) (base:=base) (BR X G a15) T;have xan:=X6 (P:=l.prog) (w:=w) (base:=base) (YK X G w5) T;have xao:=X7 (Ct X G a17) T xan;have xap:=Ya (Ct X G a18) T l9 O j0 xao;have xaq:=Ym (P:=l.prog) (w:=w) (base:=base) (BR X G a19) T;have xar:=Yn (PU X G a20) T xaq;have v8:=X3 (P:=l.prog) (w:=w) (base:=base) (Bu X G a21) T;have xat:=Xq (P:=l.prog) (w:=w) (base:=base) (PU X G a22) T;have x0:=Xr (Ct X G a23) T xat;have v4:=Xs (BR X G u9) T x0;have xaw:=Xt (P:=l.prog) (w:=w) (base:=base) (Bu X G a25) T;have l7:=Xu (BR X G a26) T xaw;have xax:=Xv (BR X G v3) T v4 l7;have xay:=XL (P:=l.prog) (w:=w) (base:=base) (BR X G a28) T;have y:=WK (P:=l.prog) (w:=w) (base:=base) (Ct X G a29) T;have xaz:=WG (P:=l.prog) (w:=w) (base:=base) (BR X G v6) T;have B:=WI (Ct X G a31) T xaz;have xaA:=XN (Bu X G a32) T xay y B;have xaB:=Xd (P:=l.prog) (w:=w) (base:=base) (Bu X G a33) T;have xaC:=Xf (P:=l.prog) (w:=w) (base:=base) (Ct X G a34) T;have xaD:=Xh (Ct X G a35) T xaB xaC;have xaE:=W8 (Ct X G a36) T y B;have xaF:=WR (BR X G a37) T y B;have xaG:=WV (BR X G v7) T xaF y;have xaH:=WS (BR X G a39) T y B;have xaI:=WX (BR X G a40) T xaH y;have xaJ:=WT (BR X G a41) T y B;have xaK:=WY (BR X G a42) T xaG xaI xaJ y;have xaL:=W7 (BR X G a43) T xaK;have xaM:=W9 (Bu X G a44) T xaE y B xaL;have j6:=Xb (Bu X G a45) T xaM;have xaN:=Xi (Bu X G a46) T xaD j6;have xaO:=Xj (P:=l.prog) (w:=w) (base:=base) (Bu X G u6) T;have xaP:=Xk (Bu X G a48) T xaO j6;have o8:=Xp (Bu X G a49) T xaN xaP;have j5:=XO (P:=l.prog) (w:=w) (base:=base) (Bu X G a50) T;have l6:=Yw (Ct X G a51) T C xax xaA o8 j5;have xaQ:=YG l6;have xaR:=XR (Bu X G a52) T l7 j5;have xaS:=XT (P:=l.prog) (w:=w) (base:=base) (Bu X G a53) T;have w6:=XU (Bu X G u0) T xaR o8 xaS;have xaU:=YA (Bu X G a55) T l9 O xam xap j0 xar v8 xaQ w6;have xaV:=Yt (P:=l.prog) (w:=w) (base:=base) (BR X G a56) T C;have xaW:=Yv (BR X G a57) C xaV;exact YJ w8 hC hBu T C xad xae xag xah xak xal xaU xaW l6
end MF
namespace PySem.W.Fast
def tw10442912315478065669:=0
def tw3416583931935513864:=0
def tw3879674744548685750:=0
def tw18215485148869549092:=0
def tw1462399245421308493:=0
def tw10350918666501896783:=0
def tw5258143805699619523:=0
def tw18423534580390198172:=0
def tw542503990659767747:=0
def tw17388402728743114636:=0
def tw5786972328987713709:=0
def tw4188639431911515464:=0
def tw5439179653508123875:=0
def tw12272612693318627309:=0
def tw667363448472821481:=0
def tw1470113974409416467:=0
def tw12619621740308326089:=0
def tw17059032093550521866:=0
def tw4755363508788488298:=0
def tw7440971392784007076:=0
def tw2808871196061582078:=0
def tw37529070645065061:=0
def tw6408867668771819850:=0
def tw10646130402561885651:=0
def tw14055115451451001723:=0
def tw5860510501776574139:=0
def tw12007376399912863972:=0
def tw9974982015868120986:=0
def tw4287871104845300988:=0
def tw18263002688097649950:=0
def tw1788448957195387146:=0
def tw14284744560006781071:=0
def tw5447198932262160664:=0
def tw14006726577246968200:=0
def tw2190880558258795252:=0
def tw14028514568358055258:=0
def tw13335416692074667830:=0
def tw14921682990790666815:=0
def tw1511043493792950000:=0
def tw980186302590561781:=0
def tw14361183296082963700:=0
def tw10305090695123159725:=0
def tw4011368533358137627:=0
def tw11606243114825395407:=0
def tw1930858564033526206:=0
def tw16343420268341488156:=0
def tw12869633796579023189:=0
def tw18080426183344940001:=0
def tw2666906916919676704:=0
def tw2779444768114966222:=0
def tw1781610572240634636:=0
def tw12177067020716012320:=0
def tw359416581244441163:=0
def tw16018323921703173769:=0
def tw14883037512951055795:=0
def tw12610541729299083247:=0
def tw8381703509610361092:=0
def tw9065358199453200286:=0
def tw8808895474635721351:=0
def tw11284584793279385275:=0
def tw3738567639023217587:=0
def tw5884922067423160597:=0
def tw2779065861631305313:=0
def tw15896339609466571920:=0
def tw4003659394610814919:=0
def tw1462795897942899877:=0
def tw15338169136593275245:=0
def tw12400482164501737626:=0
def tw9905543562027987080:=0
def tw7615525706707938892:=0
def tw5906478555426512042:=0
def tw12550802846565028579:=0
def tw981219253738604349:=0
def tw1582318090954526694:=0
def tw12276214824051898833:=0
def tw4834145516617992859:=0
def tw18152687939574890655:=0
def tw3951486679098041138:=0
def tw10241277824220433967:=0
def tw14390705161893246504:=0
def tw11548691453169739444:=0
def tw13926193958398864397:=0
def tw3834438630580508737:=0
def tw11186351565870046656:=0
def tw16069299476781824853:=0
def tw6213919177403822853:=0
def tw4187822384998786153:=0
def tw11700058583360527035:=0
def tw10626729194934823731:=0
def tw3197510358574034254:=0
def tw7112164830606651723:=0
def tw14340824009047257032:=0
def tw9690967396074854048:=0
def tw10950868836943421124:=0
def tw16763505365024055245:=0
def tw17938083465184862358:=0
def tw17489406181107565643:=0
def tw6409384471322535883:=0
def tw1287403035321154165:=0
def tw4691172237997524979:=0
def tw6557910384184471820:=0
def tw10608026871931142015:=0
def tw5742064924727520146:=0
def tw1400497491066022658:=0
def tw10153953959961261841:=0
def tw14711926044405851149:=0
def tw7338481739845588326:=0
def tw11909347495465377052:=0
def tw8496593909740769593:=0
def tw10422312901350346631:=0
def tw11036578194618047947:=0
def tw13054580472964569766:=0
def tw6952155915054785647:=0
def tw16053777107609999014:=0
def tw6945502010267905929:=0
def tw12241306402756552626:=0
def tw8810170072999110886:=0
def tw15948991671095024827:=0
def tw15763246277350918011:=0
def tw739821008026115591:=0
def tw6724970769447547702:=0
def tw15352219548209982640:=0
def tw15430963402187364727:=0
def tw1652539349610920572:=0
def tw4826563741585891945:=0
def tw11495890363149844622:=0
def tw11271575348508131215:=0
def tw9786097209147776378:=0
def tw13903509948817563354:=0
def tw18040292253287893658:=0
def tw13168508070660466072:=0
def tw3418061925066572221:=0
def tw17574574768890446375:=0
def tw17553114525528259109:=0
def tw429436326829075612:=0
def tw8455535693508775282:=0
def tw5262393700301865390:=0
def tw18092301768696058218:=0
def tw81089940712846722:=0
def tw16907184456084392149:=0
def tw17946715598497487363:=0
def tw577710922872950897:=0
def tw12994395467020551283:=0
def tw10584005881569787510:=0
def tw4473807915863854211:=0
def tw4346181354552572585:=0
def tw5124699131272561866:=0
def tw15759614197465618212:=0
def tw17818799742165612552:=0
def tw4282092505240217616:=0
def tw8896760343570639690:=0
def tw5135610709094546652:=0
def tw18305242752452922367:=0
def tw3398996727744820651:=0
def tw12603218928040816760:=0
def tw13068163135996875872:=0
def tw12049228328504625264:=0
def tw11392435359608194407:=0
def tw7305430280929094562:=0
def tw1589094072140282612:=0
def tw12854241659119780466:=0
def tw7448112521335040221:=0
def tw12648659382184079775:=0
def tw12261578342411155196:=0
def tw8279575509800965719:=0
def tw14210251556793017602:=0
def tw2004189402180399809:=0
def tw2120641884840041954:=0
def tw16875742769035664495:=0
def tw12429917916678222532:=0
def tw7288562474587840579:=0
def tw6504829550150629811:=0
def tw15370971668005379204:=0
def tw7865629640472008540:=0
def tw3253021433764440778:=0
def tw3808971506113168626:=0
def tw7703343489575075891:=0
def tw11935465823411029995:=0
def tw14094463440997115474:=0
def tw16716340324388191263:=0
def tw12174774420194889369:=0
def tw18081056929914431349:=0
def tw7292794011680479193:=0
def tw14551991237839780387:=0
def tw4817534440747223043:=0
def tw17475571124718376628:=0
def tw9981884731369829924:=0
def tw7844619946817390986:=0
def tw1684550700161480631:=0
def tw1805971333666211550:=0
def tw18410114477846438670:=0
def tw5857811253012250955:=0
def tw1111785468868959769:=0
def tw4656578878498655117:=0
def tw660232043173231422:=0
def tw13828161559928192324:=0
def tw13959096630321778147:=0
def tw4151903047410470260:=0
def tw627520585374973485:=0
def tw10802796226584129836:=0
def tw8195783767261495086:=0
def tw14320154398572324281:=0
def tw7713441241470974132:=0
def tw13349258671057040693:=0
def tw14197524539182982278:=0
def tw14188648789337492722:=0
def tw2595775194149079129:=0
def tw8825055742500338697:=0
def tw7038503218783042588:=0
def tw393566255533981991:=0
def tw9620523737388486451:=0
def tw6504829271062439492:=0
def tw10416963172612893447:=0
def tw8288396485660656729:=0
def tw5068913330117317092:=0
def tw8334526416782207904:=0
def tw2078255357050828922:=0
def tw11208489734041679892:=0
def tw12100632402812109360:=0
def tw12244339325359114800:=0
def tw18436191407864986093:=0
def tw15004066175390473494:=0
def tw8528111033587425002:=0
def tw8564144936312210873:=0
def tw14909618833434861577:=0
def tw10223649573080470205:=0
def tw16596914390070728505:=0
def tw4296808465704917346:=0
def tw10102489831995376830:=0
def tw17263810720389731838:=0
def tw6912207619351237015:=0
def tw9493518187413495716:=0
def tw13927444633544346452:=0
def tw181612704756746039:=0
def tw15207889029230855678:=0
def tw11529148935008273075:=0
def tw14814942691340813158:=0
def tw10308649075370077434:=0
def tw9647549569602758298:=0
def tw5646016559340203452:=0
def tw8971296664809321494:=0
def tw5817139403241262835:=0
def tw1186864637216160367:=0
def tw6353778077085477226:=0
def tw12133474348546939945:=0
def tw7365981644865974519:=0
def tw10822989638432899300:=0
def tw7650463864168922945:=0
def tw13043682573238227018:=0
def tw3167279791495038023:=0
def tw6140578552741721822:=0
def tw12040303376744142229:=0
def tw3466121218156211411:=0
def tw12495741192599173956:=0
def tw14298505821584637868:=0
def tw4022138914300780805:=0
def tw17469354645362092651:=0
def tw13027295476448626529:=0
def tw11995230869165229878:=0
def tw1077831620985377713:=0
def tw11993201927668143246:=0
def tw2716862641649029272:=0
def tw11912176824869147298:=0
def tw6760915705329766113:=0
def tw12589757527797302788:=0
def tw17298141881713075126:=0
def tw12331532214607617715:=0
def tw17403082240651892606:=0
def tw3585181311422254380:=0
def tw13358293276364809614:=0
def tw17425371794283381328:=0
def tw9423661513266183006:=0
def tw17206393914317696961:=0
def tw16249513309304662343:=0
def tw12357823256738929927:=0
def tw1450118430707820163:=0
def tw8259084668398469260:=0
def tw6987537603716597242:=0
def tw2199947332728515380:=0
def tw12292228540108097653:=0
def tw9058909270915067270:=0
def tw10590811906035535700:=0
def tw15611329201191210520:=0
def tw13892081713232427208:=0
def tw17870986762557123327:=0
def tw15860538096945759822:=0
def tw12818428725976187861:=0
def tw14344245222132618619:=0
def tw13249756077698134829:=0
def tw3503196919562139243:=0
def tw1653979747170152630:=0
def tw11917687043739088713:=0
def tw1728068165034698201:=0
def tw4208113179932161715:=0
def tw2347385603779884879:=0
def tw17070271819301041277:=0
def tw8751717786995183540:=0
def tw10503608119178249648:=0
def tw16013883524374537045:=0
def tw4944343523563705778:=0
def tw5916568120106953650:=0
def tw8953363794941811659:=0
def tw9285313171398562825:=0
def tw15632608867279504298:=0
def tw10131549739150143769:=0
def tw12745075532935500996:=0
def tw15918691791526859613:=0
def tw2654785121564136939:=0
def tw8736402555551550909:=0
def tw7786643054415109161:=0
def tw4939617951851288962:=0
def tw6121831248555311465:=0
def tw6622230759827404683:=0
def tw12309225321184704026:=0
def tw18261197470667839302:=0
def tw10617553653149217150:=0
def tw1199367384745859506:=0
def tw17275929925350812898:=0
def tw16874505534272024313:=0
def tw6458317556346118461:=0
def tw4236287881163983541:=0
def tw12845129426549392860:=0
def tw11369421953631889102:=0
def tw14242824929610573152:=0
def tw6275832317183442353:=0
def tw15996874622257636460:=0
def tw2853909713356185648:=0
def tw10777676489160701350:=0
def tw15519400512946390475:=0
def tw9479635565671980336:=0
def tw15531687664709581882:=0
def tw1972772197599847962:=0
def tw1694022927328173492:=0
def tw4647596040298869642:=0
def tw2553964907490674331:=0
def tw12629998869007518129:=0
def tw3802637865579125884:=0
def tw5167526924192191642:=0
def tw12024303028755344745:=0
def tw11758228561250884511:=0
def tw11727761645178785157:=0
def tw17651236361902842859:=0
def tw13455212323005141642:=0
def tw11224490953728316627:=0
def tw5083620577839436972:=0
def tw9313337493532323440:=0
def tw16855661635818227329:=0
def tw10824542051893021410:=0
def tw4582803883684402021:=0
def tw11924264421372275441:=0
def tw9981999702862625913:=0
def tw10889021171442407465:=0
def tw17064964864643656576:=0
def tw7007645897937902833:=0
def tw8417050161175933141:=0
def tw15779442235232846420:=0
def tw2232203680574172193:=0
def tw8927414768499439691:=0
def tw9155342710950506672:=0
def tw16972688879717104044:=0
def tw15923853017594983865:=0
def tw3529760984229540568:=0
def tw3983972204115553273:=0
def tw2461301248934352322:=0
def tw8876695112698281183:=0
def tw652640087722780316:=0
def tw7924294915284674649:=0
def tw8548613514969600353:=0
def tw10953060824888918649:=0
def tw12517222009361918389:=0
def tw14640960784370245904:=0
def tw18360039556769378478:=0
def tw11162489589440740272:=0
def tw16946567037389424089:=0
def tw14297607396379381253:=0
def tw11503402133716755388:=0
def tw5048269805943835310:=0
def tw11934679911110941627:=0
def tw3085542412027144029:=0
def tw6163537006446859657:=0
def tw2017151676327847225:=0
def tw14517679619332628325:=0
def tw17675986348880531290:=0
def tw17565103526568008992:=0
def tw9112632147556364539:=0
def tw3073448496200804329:=0
def tw1219231599927795356:=0
def tw7762559944020391171:=0
def tw17645123808029782655:=0
def tw9056095631134298935:=0
def tw12883166226992538677:=0
def tw8347115169617163335:=0
def tw3840880490224326082:=0
def tw3869758614455396711:=0
def tw18374695680866114186:=0
def tw2243111429395270813:=0
def tw6163790953899127310:=0
def tw10169267034030006726:=0
def tw4979211325743100120:=0
def tw14503638176395765423:=0
def tw1054321427258481131:=0
def tw5813512063032220240:=0
def tw12542975361668570396:=0
def tw535210857447917958:=0
def tw2273241730338791884:=0
def tw6944616046924138253:=0
def tw4598147689596703737:=0
def tw10114721080825450562:=0
def tw8968816464604490703:=0
def tw15143109511520421382:=0
def tw3589426073398420425:=0
def tw2038786701428043506:=0
def tw8957535152523227914:=0
def tw3876746134540204817:=0
def tw17478250449654994362:=0
def tw16655894900173886114:=0
def tw10884946884773743688:=0
def tw1536198644425770040:=0
def tw2993126286857877115:=0
def tw3553553157227151743:=0
def tw15845061490019504761:=0
def tw913037639269332211:=0
def tw17918671066772888959:=0
def tw4427359350217545449:=0
def tw6962315486997149173:=0
def tw12152044717773197451:=0
def tw7020912592636702947:=0
def tw3270079243418085294:=0
def tw4741999502736023662:=0
def tw11940534291222168537:=0
def tw10083060509318646922:=0
def tw13097836253509289963:=0
def tw13974894535867655718:=0
end PySem.W.Fast
open PySem PySem.W PyProof.Rows
set_option maxRecDepth 100000 in
set_option maxHeartbeats 0 in
theorem PySem.Challenge.cw_mainfires_k57_boilers_alone_and_needed_holds : PySem.Challenge.rw_mainfires_k57_boilers_alone_and_needed.Holds := by
 w_on;o_law;k_head;(case hw=>w_witness2)
 k_fill
 refine L2.walk_ofT (l := PySem.Challenge.rw_mainfires_k57_boilers_alone_and_needed) (n := 63) (k := 14) (x := "_law_script") (xT := "law") (CX := λ_ => L2.CX0) (sp := MF.sp_law) rfl (by decide) rfl ⟨rfl, by decide, by decide, rfl⟩ (λw h Y => PySem.W.km_in_of Y) rfl (λw => by kernel_rfl) (λw => by kernel_rfl) ?F (λ_ _ a _ ns hl hT hS => ⟨ns, hS, hl, hT, λ_ => rfl⟩) (λ_ _ _ _ _ z => z)
 case F=>
  intro w mg fa h c TB KX G hmg ht;refine' MF.all_mk KX G hmg ht ?_ ?_ ?_ ?_ ?_ ?_ ?_ ?_ ?_ ?_ ?_ ?_ ?_ ?_ ?_ ?_ ?_ ?_ ?_ ?_ ?_ ?_ ?_ ?_ ?_ ?_ ?_ ?_ ?_ ?_ ?_ ?_ ?_ ?_ ?_ ?_ ?_ ?_ ?_ ?_ ?_ ?_ ?_ ?_ ?_ ?_ ?_ ?_ ?_ ?_ ?_ ?_ ?_ ?_ ?_ ?_ ?_ ?_ ?_ ?_ ?_ ?_ ?_ ?_ ?_ ?_ ?_ ?_ ?_ ?_ ?_ ?_ ?_ ?_ ?_ ?_ ?_ ?_ ?_ ?_ ?_ ?_ ?_ ?_ ?_ ?_ ?_ ?_ ?_ ?_ ?_ ?_ ?_ ?_ ?_ ?_ ?_ ?_ ?_ ?_ ?_ ?_ ?_ ?_ ?_ ?_ ?_ ?_ ?_ ?_ ?_ ?_
  all_goals first | refine' MF.d4_mk ?_ ?_ ?_ ?_ | skip
  any_goals k_is
  any_goals k_exc
  all_goals kernel_rfl
end
