import PyProof.Rows.All
import Wide.All
import OpenK.AllK
import Wide.FinOn
import Lean
import PyProof.EqAt
import PyProof.EqKinds
import PyProof.TupleCall
import PyProof.Draws
import PyProof.ZipIter
import PyProof.EnumMake
import PyProof.IsiPairs
import PyProof.IsiHeapPairs
import PyProof.IsiNone
import PyProof.ReprRoads
import PyProof.ConsumeWalk
import PyProof.NeKinds
import PyProof.Rows.SeqMore
import PyProof.Rows.SortWalk
import PyProof.Rows.StrJoinMade
import PyProof.P3Eq
import PyProof.MeetsStr
import PyProof.MeetsStr2
import PyProof.StrLawsOcc
import PyProof.SliceStr2
import PyProof.Rows.StrMadeLen
import KE.KIntText
import PyProof.ListRange
import PyProof.CollectIter
import KE.KTryDeep
import PyProof.ExcBaseAll.ValueError
import PyProof.ExcArgsOwn
import PyProof.ExcAttrAll.ValueError
import KE.KLam
import PyProof.ExcInit
import OpenK.KMake
import PyProof.InstStoreFacts
import PyProof.Rows.FStr
import PyProof.DictItemsLoops
import PyProof.DictCompW
import KE.KRevIter
import PyProof.Rows.RowHeap
import PyProof.MinMaxWalk
import PyProof.MaxThree
import PyProof.Rows.CallKwBuiltin
import PyProof.StrWalks
import PyProof.AutoListH
import PyProof.FitsReplace
import PyProof.Rows.StrDigits
import PyProof.StrLawsTight
import PyProof.StrLawsFirst
import PySem.Challenge.RW_mainfires_k95_whole_desks_stand_alone
set_option bootstrap.genMatcherCode false
set_option compiler.extract_closed false
abbrev yZ:=List (List Int)
abbrev yY:=PySem.Value -> PySem.Shared -> Prop
abbrev yX:=List PySem.Value
abbrev yW:=Option PySem.Value
abbrev yV:=List Int
abbrev yU:=PySem.Value
abbrev yR:=PySem.Shared
abbrev yQ:=PySem.Addr
abbrev yP:=PySem.PyData
abbrev yO:=PySem.Program
abbrev yL:=PySem.Around
abbrev yK:=PySem.World
abbrev yJ:=PySem.Expr
open PySem PySem.Spec PyProof.Rows
abbrev Fgx := PySem.W.Frag
abbrev PNs := List (yQ × Obj)
abbrev VSP := yU → yR → Prop
open List (mem_filter mem_range filterMap_cons mem_cons_self mem_cons_of_mem mem_cons mem_append mem_append_left getElem?_set_self mem_filterMap mem_append_right length_cons map_cons length_map append_nil nodup_cons of_mem_zip length_take getElem?_append_right getElem?_append_left getElem?_map mem_of_getElem? length_append length_replicate size_toArray length_drop map_nil length_set all_cons any_cons replicate_succ flatten_cons append_assoc foldl_cons length_singleton length_dropLast nil_append forIn_cons lookup_cons all_eq_true any_eq_true mem_singleton forIn_nil not_mem_nil getD_eq_getElem?_getD getElem?_eq_getElem getElem_mem drop_zero take_length take_of_length_le getElem?_range all_map filter_append map_append mem_map sum_cons range_succ map_drop map_take drop_nil take_nil getElem?_drop take_zero sum_nil sum_append length_zip cons_append getElem?_eq_none getElem?_of_mem eq_nil_of_length_eq_zero getElem?_set getElem?_take length_range ext_getElem? find?_cons map_map map_replicate getElem?_zipWith length_zipWith map_singleton map_set)
set_option Elab.async false
set_option linter.all false
set_option maxRecDepth 100000
set_option maxHeartbeats 4000000
def Y0:=@length_map
def Y1:=@wpAny_bind
def Y2:=@Heap.get?_push_of_some
def Y3:=@List.getElem?_eq_some_iff
def Y4:=@wpAny_pure
def Y5:=@Nat.le_refl
def Y6:=@getElem?_eq_getElem
def Y7:=@getD_eq_getElem?_getD
def Y8:=@mem_of_getElem?
def Y9:=@Heap.lt_size
def YU:=@getElem?_map
def YV:=@Heap.get?_push_size
def YW:=@map_append
def YX:=@Nat.lt_of_lt_of_le
def YY:=@if_neg
def YZ:=@Bool.false_ne_true
def Z0:=@take_of_length_le
def Z1:=@if_pos
def Z2:=@mem_singleton
def Z3:=@mem_cons_of_mem
def Z4:=@mem_cons
def Z5:=@mem_append_right
def Z6:=@Bool.and_eq_true_iff
def Z7:=@of_decide_eq_true
def Z8:=@Nat.lt_irrefl
def Z9:=@mem_cons_self
def Za:=@length_take
def Zb:=@Option.some.inj
def Zc:=@Nat.ne_of_lt
def Zd:=@Ne.symm
def Ze:=@Nat.le_trans
def Zf:=@wpAny_mono
def Zg:=@mem_map
def Zh:=@Bool.and_eq_true
def Zi:=@Option.map_eq_some_iff
def Zj:=@length_append
def Zk:=@not_mem_nil
def Zl:=@size_toArray
def Zm:=@eq_nil_of_length_eq_zero
def Zn:=@wpAny_holding
def Zo:=@Heap.get?_update_other
def Zp:=@Heap.size_push
def Zq:=@Nat.zero_le
def Zr:=@PassesOwn.never
def Zs:=@or_false
def Zt:=@length_singleton
def Zu:=@getElem?_eq_none
def Zv:=@decide_eq_true
def Zw:=@of_decide_eq_false
def Zx:=@all_eq_true
def Zy:=@PyProof.Rows.callWith_type1
def Zz:=@getElem?_of_mem
def ZA:=@length_cons
def ZB:=@Nat.le_succ
def ZC:=@decide_eq_false
def ZD:=@wpAny_loadPart'
def ZE:=@F.plain_min_loop
def ZF:=@Heap.get?_update_self
def ZG:=@wpAny_newObj_type
def ZH:=@wpAny_Call_Name_kw
def ZI:=@congrArg
def ZJ:=@map_cons
def ZK:=@length_replicate
def ZL:=@wpAny_truthy_bool
def ZM:=@mem_filterMap
def ZN:=@wpAny_field
def ZO:=@lookup_cons
def ZP:=@Int.le_refl
def ZQ:=@mem_append
def ZR:=@beq_iff_eq
def ZS:=@codeAny_call_builtin
def ZT:=@plainId_quiet
def ZU:=@length_range
def ZV:=@PyProof.Rows.slot_tuple_getitem
def ZW:=@wpAny_seqItems
def ZX:=@Nat.lt_succ_of_lt
def ZY:=@beq_eq_false_iff_ne
def ZZ:=@Nat.le_of_lt
def aa:=@Nat.ne_of_gt
def ac:=@wpAny_pyIter_tuple
def ae:=@codeAny_mono
def af:=@AutoSeq1.wpAny_loadPart'
def ag:=@wpAny_standAt
def ah:=@call_meets
def ai:=@getElem?_range
def aj:=@wpAny_callSpecial?_slot
def ak:=@Int.toNat_natCast
def am:=@mem_range
def ao:=@eq_of_beq
def ap:=@Array.length_toList
def aq:=@Bool.false_and
def au:=@Bool.false_eq_true
def av:=@Nat.le_of_ble_eq_true
def aw:=@append_nil
def ax:=@nodup_cons
def ay:=@Option.isSome_iff_exists
def aA:=@pushCells_keeps
def aB:=@Around.under_plainId
def aC:=@PyData.hasDict_of_canLay
def aE:=@Bool.true_and
def aF:=@Array.toList_append
def aG:=@wpAny_call_entry
def aH:=@replicate_succ
def aJ:=@beq_self_eq_true
def aK:=@wpAny_letGo
def aL:=@wpAny_setField_rec
def aM:=@wpAny_passesOwn
def aN:=@getElem?_append_right
def aO:=@wpAny_updateSeq
def aP:=@Nat.min_eq_left
def aQ:=@codeAny_builtin
def aR:=@Nat.not_lt_zero
def aS:=@boot_isinstance
def aU:=@List.cons.injEq
def aV:=@F.slot_tuple_iterator_next
def aW:=@wpAny_pyIter_list
def aX:=@wpAny_call
def aY:=@getElem?_append_left
def aZ:=@sizeLine_eq
def ba:=@length_zipWith
def bg:=@Nat.lt_succ_self
def bh:=@F.plain_max_loop
def bi:=@not_or
def bj:=@if_true
def bo:=@map_map
def bp:=@range_succ
def bq:=@wpAny_of_eq
def bu:=@decide_eq_true_eq
def bv:=@Nat.lt_trans
def bw:=@Bool.and_false
def bz:=@F.slot_range_reversed
def bA:=@wpAny_tryCatch
def bB:=@of_mem_zip
def bC:=@if_false
def bE:=@Array.getElem?_eq_some_iff
def bF:=@strLen_append
def bG:=@length_drop
def bH:=@any_eq_true
def bJ:=@getElem_mem
def bK:=@mem_append_left
def bL:=@Bool.eq_iff_iff
def bM:=@List.mem_of_find?_eq_some
def bN:=@List.drop_eq_getElem_cons
def bO:=@Nat.lt_of_le_of_lt
def bP:=@sum_cons
def bQ:=@Int.zero_add
def bR:=@boot_sum
def bS:=@wpAny_rule
def bT:=@length_set
def bU:=@Int.eq_ofNat_of_zero_le
def bV:=@getElem?_set_self
def bW:=@wpAny_pyIter_rangeiter
def bX:=@List.cons.inj
def bY:=@map_singleton
def bZ:=@any_cons
def cf:=@Nat.succ_ne_self
def cg:=@F.entry_min_loop
def ci:=@boot_all
def ck:=@getElem?_zipWith
def cq:=@Array.toList_inj
def cu:=@and_true
def cA:=@List.length_filter_le
def cC:=@List.dropLast_eq_take
def cD:=@StrLaws.strSub_toList
def cE:=@plainObj_wpAny_Assign_Attribute
def cF:=@List.getElem?_set_ne
def cG:=@wpAny_execs_nil
def cH:=@Around.frames_deeper
def cJ:=@PyProof.Rows.callWith_builtin1
def cK:=@flatten_cons
def cL:=@append_assoc
def cM:=@length_dropLast
def cO:=@forIn_cons
def cQ:=@F.slot_zip_next
def cR:=@List.mem_iff_getElem
def cT:=@Nat.sub_zero
def cU:=@Bool.or_eq_false_iff
def cV:=@sum_append
def cW:=@Nat.mul_le_mul_right
def cX:=@getElem?_set
def cY:=@ext_getElem?
def cZ:=@List.replicate_succ'
def de:=@List.mem_of_mem_take
def df:=@F.slot_dict_itemiterator_iter
def dg:=@Heap.SameBut.update
def di:=@List.map_eq_nil_iff
def dj:=@filterMap_cons
def dm:=@F.args_tuple_iterator_next_1
def dq:=@take_length
def du:=@assignInOrder_cons
def dw:=@F.entry_tuple_iterator_next
def dy:=@drop_zero
def dz:=@F.args_str_split_2
def dA:=@Code.quiet_builtin
def dB:=@Int.emod_lt_of_pos
def dC:=@Calls.Name_function_global
def dD:=@Int.fdiv_eq_ediv_of_nonneg
def dE:=@Int.fmod_eq_emod_of_nonneg
def dF:=@wpAny_newFunctionEnv_cells
def dG:=@List.fst_mem_of_mem_zipIdx
def dH:=@getElem?_drop
def dI:=@wpAny_assign_Name
def dJ:=@Nat.le_of_succ_le
def dL:=@wpAny_pyIter_enum
def dM:=@F.entry_str_split
def dN:=@Bool.eq_false_iff
def dO:=@StrLaws.subAt_one
def dP:=@foldl_cons
def dQ:=@length_zip
def dR:=@Array.getElem?_eq_getElem
def dS:=@List.getElem?_zip_eq_some
def dU:=@wpAny_execs_cons
def dW:=@List.getElem?_take_of_lt
def dX:=@Nat.succ_mul
def dY:=@wpAny_comprehension_free
def dZ:=@noFill_tuple_add
def ef:=@F.slot_str_split
def et:=@Int.le_trans
def eE:=@List.getElem?_replicate
def eG:=@wpAny_Call_method0_late
def eH:=@List.filter_cons_of_pos
def eK:=@List.filter_cons_of_neg
def eL:=@Classical.axiomOfChoice
def eM:=@forIn_nil
def eN:=@wpAny_specialOf
def eO:=@Int.emod_nonneg
def eQ:=@Int.natCast_add
def eR:=@wpAny_pyNext_list_item
def eS:=@wpAny_pyNext_range_end
def eW:=@PyProof.noPylong_small
def eY:=@subscriptTail_builtinR
def eZ:=@Calls.callWith_builtin
def f7:=@richCompare_meets_room
def f9:=@wpAny_pyNext_list_end
def fe:=@wpAny_loadPart
def fg:=@codeAny_call_function
def fh:=@Array.getElem?_toList
def fj:=@exec_Assign_Name_used
def fk:=@all_map
def fw:=@Array.getElem?_modify
def fA:=@Nat.mul_le_mul
def fB:=@StrLaws.glued_eq_join
def fC:=@nil_append
def fD:=@find?_cons
def fE:=@wpAny_onRaise
def fH:=@seq_tuple_add
def fJ:=@filter_append
def fK:=@getElem?_take
def fL:=@map_replicate
def fO:=@Bool.and_true
def fP:=@wpAny_typeOf
def fQ:=@seqIndex_neg
def fS:=@isTrue_plain
def fT:=@concat_meets
def fU:=@Nat.sub_self
theorem L2.Au(D:True:=by rfl)(G:True:=by decide)(z:True:=by intro _;rfl)(Z:True:=by first | exact .inl rfl | exact .inr rfl | assumption)(g:True:=by intro _ _;rfl)(L:True:=by intros;rfl)(O:True:=by with_unfolding_all rfl)(J:True:=by first | exact Or.inl rfl | exact Or.inr (Or.inl rfl) | exact Or.inr (Or.inr rfl)):True:=trivial
def m5:Lean.Syntax:=L2.Au._auto_1
def S7:Lean.Syntax:=L2.Au._auto_2
def W0:Lean.Syntax:=L2.Au._auto_3
def F':Lean.Syntax:=L2.Au._auto_4
def K':Lean.Syntax:=L2.Au._auto_5
def L':Lean.Syntax:=L2.Au._auto_6
def M':Lean.Syntax:=L2.Au._auto_7
def O':Lean.Syntax:=L2.Au._auto_8
namespace L2
abbrev AL:=Sum Int Str
def EK:AL->yU->Bool
 |.inl k,v=>Value.isInt k v
 |.inr x,v=>Value.isStrOf x v
def P1(w:yK):AL->Int
 |.inl k=>hashInt k
 |.inr x=>hashStr w x
theorem Ds:∀ {k:AL}{v:yU},EK k v=true->(∃i t,k=Sum.inl i/\v=Value.int i t)\/(∃x t,k=Sum.inr x/\v=Value.str x t)
 |.inl i,v,h=>by
  obtain⟨t,e⟩:=Value.isInt_shape (k:=i) (v:=v) h;exact .inl ⟨i,t,rfl,e⟩
 |.inr x,v,h=>by
  obtain⟨t,e⟩:=Value.isStrOf_shape (x:=x) (v:=v) h;exact .inr ⟨x,t,rfl,e⟩
def P2(i:Int)(t:Tok):EK (.inl i) (.int i t)=true:=by simp[EK,Value.isInt]
def P3(x:Str)(t:Tok):EK (.inr x) (.str x t)=true:=by simp[EK,Value.isStrOf]
def P4(a b:Int):decide ((Sum.inl a:AL)=Sum.inl b)=(a==b):=by
 by_cases e:a=b
 .subst e;simp
 .have h:¬(Sum.inl a:AL)=Sum.inl b:=λq=>e (Sum.inl.inj q)
  rw[ZC h];exact(ZY.mpr e).symm
def Mm(a b:Str):decide ((Sum.inr a:AL)=Sum.inr b)=decide (a=b):=by
 by_cases e:a=b
 .subst e;simp
 .have h:¬(Sum.inr a:AL)=Sum.inr b:=λq=>e (Sum.inr.inj q)
  rw[ZC h,ZC e]
def P5(a:Int)(b:Str):decide ((Sum.inl a:AL)=Sum.inr b)=false:=ZC (λq=>nomatch q)
def P6(a:Str)(b:Int):decide ((Sum.inr a:AL)=Sum.inl b)=false:=ZC (λq=>nomatch q)
def Bz(prog:yO)(w:yK):PySem.KeyKind prog w AL where
 is:=EK
 hash:=P1 w
 inj:=λv a b G D=>by
  rcases Ds G with⟨i,t,rfl,rfl⟩ | ⟨x,t,rfl,rfl⟩
  .rcases Ds D with⟨j,u,rfl,e⟩ | ⟨y,u,rfl,e⟩
   .injection e with g _;rw[g]
   .exact nomatch e
  .rcases Ds D with⟨j,u,rfl,e⟩ | ⟨y,u,rfl,e⟩
   .exact nomatch e
   .injection e with g _;rw[g]
 byValue:=λk v h=>by
  rcases Ds h with⟨i,t,rfl,rfl⟩ | ⟨x,t,rfl,rfl⟩<;>rfl
 pyHash:=λz h=>by
  rcases Ds z with⟨i,t,rfl,rfl⟩ | ⟨x,t,rfl,rfl⟩
  .exact wpAny_pyHash_int h
  .exact wpAny_pyHash_str h
 eqBool:=λI z h=>by
  rcases Ds I with⟨i,t,rfl,rfl⟩ | ⟨x,t,rfl,rfl⟩
  .rcases Ds z with⟨j,u,rfl,rfl⟩ | ⟨y,u,rfl,rfl⟩
   .rw[P4]at h;exact wpAny_eqBool_int h
   .rw[P5]at h;exact SeqAt.EqAt.int_str i t y u _ _ _ _ h
  .rcases Ds z with⟨j,u,rfl,rfl⟩ | ⟨y,u,rfl,rfl⟩
   .rw[P6]at h;exact SeqAt.EqAt.str_int x t j u _ _ _ _ h
   .rw[Mm]at h;exact wpAny_eqBool_str h
 «strs»:=λk x t v h=>by
  rcases Ds h with⟨i,u,rfl,e⟩ | ⟨y,u,rfl,e⟩
  .exact nomatch e
  .injection e with g _
   subst g;cases v<;>rfl
def P7(prog:yO)(w:yK)(k:AL)(v:yU):(Bz prog w).is k v=EK k v:=rfl
def J0(prog:yO)(w:yK)(i:Int)(t:Tok):(Bz prog w).is (.inl i) (.int i t)=true:=P2 i t
def Hx(prog:yO)(w:yK)(x:Str)(t:Tok):(Bz prog w).is (.inr x) (.str x t)=true:=P3 x t
inductive V where
 |non | bl (b:Bool) | int (i:Int) | str (x:Str) | byt (b:Array UInt8) | flt (b:UInt64) | ref (a:yQ) | ty (n:String)
 deriving DecidableEq
def RelV:V->yU->Prop
 |.non,u=>u=Value.none
 |.bl b,u=>u=Value.bool b
 |.int i,u=>∃t,u=Value.int i t
 |.str x,u=>∃t,u=Value.str x t
 |.byt b,u=>∃t,u=Value.bytes b t
 |.flt b,u=>∃t,u=Value.float b t
 |.ref a,u=>u=Value.ref a
 |.ty n,u=>u=Value.type n
abbrev At:List V->yX->Prop:=Paired RelV
def At.length{xs:List V}{us:yX}(r:At xs us):xs.length=us.length:=Paired.length r
theorem At.get:∀ {xs:List V}{us:yX}{i:Nat}{x:V},At xs us->xs[i]? =some x->∃u,us[i]? =some u/\RelV x u
 |_,_,_,_,.nil,e=>by simp at e
 |_,_,0,_,.cons r _,e=>by simp at e;subst e;exact⟨_,rfl,r⟩
 |_,_,i+1,x,.cons _ t,e=>by
  obtain⟨u,g,z⟩:=At.get (i:=i) (x:=x) t (by simpa using e);exact⟨u,by simpa using g,z⟩
theorem At.set{x:V}{u:yU}(r:RelV x u):∀ {xs:List V}{us:yX} (i:Nat),At xs us->At (xs.set i x) (us.set i u)
 |_,_,_,.nil=> .nil
 |_,_,0,.cons _ t=> .cons r t
 |_,_,i+1,.cons q t=> .cons q (At.set r i t)
def At.append{xs ys:List V}{us ws:yX}(h:At xs us)(s:At ys ws):At (xs++ys) (us++ws):=by
 induction h with
 |nil=>exact s
 |cons r t ih=>exact .cons r ih
theorem At.take:∀ {xs:List V}{us:yX} (n:Nat),At xs us->At (xs.take n) (us.take n)
 |_,_,0,_=> .nil
 |_,_,_+1,.nil=> .nil
 |_,_,n+1,.cons r t=> .cons r (At.take n t)
theorem At.drop:∀ {xs:List V}{us:yX} (n:Nat),At xs us->At (xs.drop n) (us.drop n)
 |_,_,0,r=>r
 |_,_,_+1,.nil=> .nil
 |_,_,n+1,.cons _ t=>At.drop n t
def RelO:Option V->yW->Prop
 |some v,some u=>RelV v u
 |none,none=>True
 |_,_=>False
def KV{g:Type}:List (g×V)->List (g×yU)->Prop:=Paired fun(p:g×V) (q:g×yU)=>p.1=q.1/\RelV p.2 q.2
def kV:AL->V
 |.inl i=> .int i
 |.inr x=> .str x
inductive HO where
  |lst (xs:List V)
  |tup (xs:List V)
  |dK (kvs:List (AL×V)) | dT (kvs:List (List AL×V))
  |set (S:Int->Bool) (n:Nat)
  |ins (C dx:yQ) (fs:List (Str×V))
  |own (x:yQ)
  |xd (fs:List (Str×V))
  |met (f x:yQ)
  |rng (lo hi:Int)
  |frz (o:Obj) (u:HO)
  |tbl (ps:Array yU)
  |ext (φ:Heap->Prop)
abbrev Hp:=yQ->Option HO
def upd(H:Hp)(a:yQ)(o:HO):Hp:=λb=>if b=a then some o else H b
def Ag{H:Hp}{a:yQ}{o:HO}:upd H a o a=some o:=by unfold upd;rw[Z1 rfl]
def Aq{H:Hp}{a b:yQ}{o:HO}(h:b≠a):upd H a o b=H b:=by unfold upd;rw[YY h]
def P8{H:Hp}{a b:yQ}{o u:HO}(h:H a=some o)(h':H b=some u)(d:o≠u):a≠b:=by
 intro e;subst e;rw[h]at h';exact d (Zb h')
def Bo{H:Hp}{a b:yQ}{o:HO}(h:H a=some o)(h':H b=none):a≠b:=by
 intro e;subst e;rw[h]at h';cases h'
section
variable(P:yO)(w:yK)
def ObjOk(H:Hp)(h:Heap)(a:yQ):HO->Prop
 |.lst xs=>xs.length<=sizeLine/\∃(its:yX) (n:Nat),At xs its/\h.get? a=some { cls:= .type "list",data:= .seq its.toArray n}
 |.tup xs=>xs.length<=sizeLine/\∃its:yX,At xs its/\IsTup h a its.toArray
 |.dK kvs=>kvs.length<=sizeLine/\(a==sysModules)=false/\∃vs,KV kvs vs/\h.DictOf (Bz P w) a vs
 |.dT kvs => kvs.length <= sizeLine /\ (a == sysModules) = false /\ ∃ xs : List (List AL × yQ × yU),
   Paired (fun(p:List AL×V) (q:List AL×yQ×yU)=>p.1=q.1/\H q.2.1=some (.tup (p.1.map kV))/\RelV p.2 q.2.2) kvs xs/\
   ∃o es ep,h.get? a=some o/\o.ExactDict/\o.data= .dict es ep/\es.toList=xs.map (entryOfKey (tupleKind (Bz P w)))/\(xs.map (·.1)).Nodup
 |.set S n=>h.SetOf (intKind P w) a S n
 |.ins C dx fs => H dx = some (.own a) /\ fs.length <= 1000 /\ dx ≠ a /\ h.get? a = some (PySem.W.instObj C dx) /\
   ∃mA,h.Ns1 dx mA/\(∀f,RelO (fs.lookup f) (mA f))/\PySem.Within mA (fs.map (·.1))
 |.own _=>∃o,h.get? a=some o
 |.xd fs=>∃mA,h.Ns1 a mA/\∀f,RelO (fs.lookup f) (mA f)
 |.rng lo hi=>∃t u v,h.get? a=some { cls:= .type "range",data:= .fields #[.int lo t,.int hi u,.int 1 v]}
 |.frz o u=>h.get? a=some o/\ObjOk H h a u
 |.tbl ps=>h.get? a=some { cls:= .none,data:= .fields ps}
 |.met f x=>h.get? a=some (PySem.W.methodObj (.ref f) (.ref x))
 |.ext φ=>φ h/\(∃o,h.get? a=some o)/\∀h1 h2:Heap,φ h1->(∀o,h1.get? a=some o->h2.get? a=some o)->φ h2
def HOk(H:Hp)(h:Heap):Prop:=∀a o,H a=some o->ObjOk P w H h a o
end
section
variable{P:yO}{w:yK}{H H':Hp}{h h':Heap}{a:yQ}{o:HO}
def ObjOk.lt(x:ObjOk P w H h a o):a<h.objs.size:=by
 cases o with
 |lst xs=>obtain⟨_,_,_,_,e⟩:=x;exact Y9 e
 |tup xs=>obtain⟨_,_,_,p⟩:=x;exact p.lt
 |dK kvs=>obtain⟨_,_,_,_,o,_,_,e,_⟩:=x;exact Y9 e
 |dT kvs=>obtain⟨_,_,_,_,o,_,_,e,_⟩:=x;exact Y9 e
 |set S n=>obtain⟨o,_,_,_,e,_⟩:=x;exact Y9 e
 |ins C dx fs=>obtain⟨_,_,_,e,_⟩:=x;exact Y9 e
 |own y=>obtain⟨_,e⟩:=x;exact Y9 e
 |xd fs=>obtain⟨_,⟨_,_,_,e,_⟩,_⟩:=x;exact Y9 e
 |rng lo hi=>obtain⟨_,_,_,e⟩:=x;exact Y9 e
 |frz ob u=>obtain⟨e,_⟩:=x;exact Y9 e
 |tbl ps=>exact Y9 (show h.get? a=some _ from x)
 |met f y=>exact Y9 (show h.get? a=some _ from x)
 |ext φ=>obtain⟨_,⟨_,e⟩,_⟩:=x;exact Y9 e
def Paired.mapP{I D:Type}{F G:I->D->Prop}{g:List I}{z:List D}(h:Paired F g z)(f:∀a b,F a b->G a b):Paired G g z:=by
 induction h with
 |nil=>exact .nil
 |cons r t ih=>exact .cons (f _ _ r) ih
def ObjOk.stay(x:ObjOk P w H h a o)(k:∀b u,(b=a\/H b=some (.own a))->h.get? b=some u->h'.get? b=some u)
  (O:∀b,H b=some (.own a)->H' b=some (.own a)) (L:∀b xs,H b=some (.tup xs)->H' b=some (.tup xs)):ObjOk P w H' h' a o:=by
 induction o with
 |lst xs=>obtain⟨z,D,n,r,e⟩:=x;exact⟨z,D,n,r,k _ _ (.inl rfl) e⟩
 |tup xs=>obtain⟨z,D,r,ob,e,c⟩:=x;exact⟨z,D,r,ob,k _ _ (.inl rfl) e,c⟩
 |dK kvs=>obtain⟨z,y,J,r,ob,es,g,e,c⟩:=x;exact⟨z,y,J,r,ob,es,g,k _ _ (.inl rfl) e,c⟩
 |dT kvs=>
  obtain⟨z,y,xs,r,ob,es,g,e,c⟩:=x;exact⟨z,y,xs,Paired.mapP r λp q z=>⟨z.1,L _ _ z.2.1,z.2.2⟩,ob,es,g,k _ _ (.inl rfl) e,c⟩
 |set S n=>obtain⟨ob,es,g,t,e,c⟩:=x;exact⟨ob,es,g,t,k _ _ (.inl rfl) e,c⟩
 |ins C dx fs=>
  obtain⟨d,z,ne,e,I,⟨G,es,g,Z,c⟩,r⟩:=x;exact⟨O _ d,z,ne,k _ _ (.inl rfl) e,I,⟨G,es,g,k _ _ (.inr d) Z,c⟩,r⟩
 |own y=>obtain⟨ob,e⟩:=x;exact⟨ob,k _ _ (.inl rfl) e⟩
 |xd fs=>obtain⟨I,⟨G,es,g,e,c⟩,r⟩:=x;exact⟨I,⟨G,es,g,k _ _ (.inl rfl) e,c⟩,r⟩
 |rng lo hi=>obtain⟨t,u,v,e⟩:=x;exact⟨t,u,v,k _ _ (.inl rfl) e⟩
 |frz ob u ih=>obtain⟨e,q⟩:=x;exact⟨k _ _ (.inl rfl) e,ih q⟩
 |tbl ps=>
  have e:h.get? a=some { cls:= .none,data:= .fields ps}:=x;show h'.get? a=some { cls:= .none,data:= .fields ps};exact k a _ (.inl rfl) e
 |met f y=>
  have e:h.get? a=some (PySem.W.methodObj (.ref f) (.ref y)):=x;show h'.get? a=some (PySem.W.methodObj (.ref f) (.ref y));exact k a _ (.inl rfl) e
 |ext φ=>obtain⟨p,⟨o,e⟩,st⟩:=x;exact⟨st _ _ p λo q=>k _ _ (.inl rfl) q,⟨o,k _ _ (.inl rfl) e⟩,st⟩
def HOk.lt(x:HOk P w H h)(e:H a=some o):a<h.objs.size:=(x a o e).lt
def HOk.fresh(x:HOk P w H h)(e:h.objs.size<=a):H a=none:=by
 cases q:H a with
 |none=>rfl
 |some u=>exact absurd (YX (x.lt q) e) (Z8 _)
def HOk.kept(x:HOk P w H h)(k:∀b u,h.get? b=some u->h'.get? b=some u):HOk P w H h':=λa o e=>
 (x a o e).stay (λb u _ q=>k b u q) (λ_ q=>q) λ_ _ q=>q
def HOk.laid(x:HOk P w H h)(k:∀b u,h.get? b=some u->h'.get? b=some u)(D:h.objs.size<=a)(new:ObjOk P w (upd H a o) h' a o):HOk P w (upd H a o) h':=λb u e=>by
 have z:=x.fresh D
 by_cases g:b=a
 .subst g;rw[Ag]at e;cases e;exact new
 .rw[Aq g]at e;exact(x b u e).stay (λc v _ q=>k c v q) (λc q=>by rw[Aq (Bo q z)];exact q) λc G q=>by rw[Aq (Bo q z)];exact q
end
def Rd(H:Hp)(a:yQ)(u:HO):Prop:=H a=some u\/ ∃o,H a=some (.frz o u)
def Rd.ok{P:yO}{w:yK}{H:Hp}{h:Heap}{a:yQ}{u:HO}(r:Rd H a u)(x:HOk P w H h):ObjOk P w H h a u:=by
 rcases r with r | ⟨o,r⟩
 .exact x a u r
 .obtain⟨_,q⟩:=x a _ r;exact q
def Hy:Option HO->Prop
 |some (.lst _)=>True
 |some (.dK _)=>True
 |some (.dT _)=>True
 |some (.set _ _)=>True
 |some (.ins _ _ _)=>True
 |some (.ext _)=>True
 |_=>False
section
variable{P:yO}{w:yK}{H:Hp}{h h':Heap}{x e:yQ}{o':HO}
def HOk.write(ok:HOk P w H h)(I:Hy (H x))(he:e=x\/H e=some (.own x))(k:∀b u,b≠e->h.get? b=some u->h'.get? b=some u)(Z:∃u,h'.get? e=some u)
  (new:ObjOk P w (upd H x o') h' x o'):HOk P w (upd H x o') h':=λb u q=>by
 have D:∀c y,H c=some (.own y)->c≠x:=λc y r z=>by subst z;rw[r]at I;exact I
 have G:∀c O,H c=some (.tup O)->c≠x:=λc O r z=>by subst z;rw[r]at I;exact I
 by_cases J:b=x
 .subst J;rw[Ag]at q;cases q;exact new
 .rw[Aq J]at q
  by_cases g:b=e
  .have q':H b=some (.own x):=by
    rcases he with z | z
    .exact absurd (g.trans z) J
    .rw[g];exact z
   rw[q]at q';cases q';obtain⟨v,hv⟩:=Z;exact⟨v,by rw[g];exact hv⟩
  .refine(ok b u q).stay (λc v L r=>k c v ?_ r) (λc r=>by rw [Aq (D c b r)];exact r) λc O r=>by rw [Aq (G c O r)];exact r
   rcases L with rfl | L
   .exact g
   .rintro rfl;rcases he with z | z
    .exact D c b L z
    .rw[L]at z;cases z;exact J rfl
end
structure Un(fs ex:List yQ)(H H':Hp)(h h':Heap):Prop where
 keep:∀b o,h.get? b=some o->H b=none->b ∉ fs->b ∉ ex->h'.get? b=some o
 slot:∀b o,h.get? b=some o->H b=none->b∈fs->b ∉ ex->∃sl,h'.get? b=some { o with slots:=sl}
 free:∀b o,h.get? b=some o->H b=none->b ∉ ex->H' b=none
 there:∀b o,h.get? b=some o->b ∉ ex->∃o',h'.get? b=some o'
 tups:∀b xs,H b=some (.tup xs)->H' b=some (.tup xs)
 frzs:∀b o u,H b=some (.frz o u)->H' b=some (.frz o u)
 tbls:∀b ps,H b=some (.tbl ps)->∃more,H' b=some (.tbl (ps++more))
section
variable{fs fs' ex ex':List yQ}{H H1 H2:Hp}{h h1 h2 h':Heap}{a x e:yQ}{o:HO}
def Un.any(u:Un fs ex H H1 h h1){b:yQ}{ob:Obj}(q:h.get? b=some ob)(n:H b=none)(g:b ∉ ex):∃D,h1.get? b=some { ob with slots:=D}:=by
 by_cases z:b∈fs
 .exact u.slot b ob q n z g
 .exact⟨ob.slots,u.keep b ob q n z g⟩
def Un.kept(k:∀b u,h.get? b=some u->h'.get? b=some u):Un fs ex H H h h':=
 ⟨λb ob q _ _ _=>k b ob q,λb ob q _ _ _=>⟨ob.slots,k b ob q⟩,λ_ _ _ n _=>n,λb ob q _=>⟨ob,k b ob q⟩,λ_ _ q=>q,λ_ _ _ q=>q,λ_ g q=>⟨#[],by rw[q];simp⟩⟩
def Un.refl:Un fs ex H H h h:=Un.kept λ_ _ q=>q
def Un.laid(k:∀b u,h.get? b=some u->h'.get? b=some u)(z:h.objs.size<=a)(g:H a=none):Un fs ex H (upd H a o) h h' where
 keep:=λb u q _ _ _=>k b u q
 slot:=λb u q _ _ _=>⟨u.slots,k b u q⟩
 free:=λb u q n _=>by rw[Aq (Zc (YX (Y9 q) z))];exact n
 there:=λb u q _=>⟨u,k b u q⟩
 tups:=λb D q=>by rw[Aq (Bo q g)];exact q
 frzs:=λb u D q=>by rw[Aq (Bo q g)];exact q
 tbls:=λb G q=>⟨#[],by rw[Aq (Bo q g),q];simp⟩
def Un.write(D:Hy (H x))(O:e=x\/H e=some (.own x))(k:∀b u,b≠e->h.get? b=some u->h'.get? b=some u)(G:∃u,h'.get? e=some u):Un fs ex H (upd H x o) h h':=by
 have J:∀b,H b=none->b≠x:=λb n z=>by subst z;rw[n]at D;exact D
 have L:∀b,H b=none->b≠e:=λb n z=>by
  subst z;rcases O with r | r
  .exact J b n r
  .rw[n]at r;cases r
 have I:∀b u,H b=some u->¬Hy (some u)->b≠x:=λb u q nm z=>by subst z;rw[q]at D;exact nm D
 refine⟨λb u q n _ _=>k b u (L b n) q,λb u q n _ _=>⟨u.slots,k b u (L b n) q⟩,λb u q n _=>by rw[Aq (J b n)];exact n,λb u q _=>?_,
  λb Z q=>by rw[Aq (I b _ q λz=>z)];exact q,λb u Z q=>by rw[Aq (I b _ q λz=>z)];exact q,λb ps q=>⟨#[],by rw[Aq (I b _ q λz=>z),q];simp⟩⟩
 by_cases g:b=e
 .subst g;exact G
 .exact⟨u,k b u g q⟩
end
def Hz(h:Heap)(H:Hp):List yQ:=(List.range h.objs.size).filter λa=>(H a).isSome
def Dt(h:Heap)(H:Hp):Heap:=PySem.W.hideAll h (Hz h H)
def P9(h:Heap)(H:Hp):(Dt h H).objs.size=h.objs.size:=PySem.W.hideAll_size _ _
def Qa{h:Heap}{H:Hp}{b:yQ}{o:Obj}(e:h.get? b=some o)(n:H b=none):(Dt h H).get? b=some o:=
 PySem.W.hideAll_get _ e λg=>by
  have q:(H b).isSome=true:=(mem_filter.mp g).2;rw[n]at q;simp at q
def Qb{h:Heap}{H:Hp}{b:yQ}{o:Obj}(e:(Dt h H).get? b=some o):h.get? b=some o/\H b=none:=by
 have g:h.get? b=some o:=PySem.W.of_hideAll (Hz h H) e;refine⟨g,?_⟩;cases q:H b with
 |none=>rfl
 |some x=>
  have D:b∈Hz h H:=mem_filter.mpr ⟨am.mpr (Y9 g),by simp[q]⟩;have z:(Dt h H).get? b=none:=PySem.W.hideAll_none (Hz h H) D;rw[z]at e;cases e
def Qc(g h:Heap)(L:yQ):PNs:=(List.range h.objs.size).filterMap λa=>if a=L\/(g.get? a).isSome=true then none else(h.get? a).map λo=>(a,o)
def rest(g h:Heap)(L d:yQ):PNs:=(Qc g h L).filter λp=>decide (p.1≠d)
variable{g':Array GenState}{t' i:Nat}{d':Drawn}{ch:List yQ}{M:Model}{E:yY}{v:V}{u:yU}{Q:Unit -> yR -> Prop}
structure Mod(K:Fgx)(mg:Str->yW)(base:Heap):Prop where
 kin:K.In base
 glob:base.Ns mainGlobals mg
 blt:∃mb,base.Ns builtinsNs mb/\∀x:Str,x≠ "__name__" ->mb x=bootBuiltins x
 nolimit:base.NoLimit
structure Cx where
 prog:yO
 w:yK
 K:Fgx
 mg:Str->yW
 base:Heap
 A:yL
 N:List Str
 s₀:yR
 H₀:Hp
 env:Env
 outer:List Env
 stack:List Env
 ex:List yQ
 fn:Str->Bool
 calm:Bool
 pn:PNs
 xe:VSP
def AD(l:List Env):List yQ:=l.filterMap (·.frame)
abbrev Cx.fs(X:Cx):List yQ:=AD X.outer
def Ej(g:Scope)(x:Str):Prop:=g.names.lookup x=some .local \/g.names.lookup x=some .cell\/g.names.lookup x=some .free
def Ek(g:Scope)(x:Str):Prop:=g.names.lookup x=some .local \/g.names.lookup x=some .cell
def Qd(env:Env)(h:Heap)(m:Str->yW)(x:Str)(u:yU):Prop:=
 (env.kindOf x=some .local /\m x=some u)\/((env.kindOf x=some .cell\/env.kindOf x=some .free)/\∃c,env.cells.lookup x=some c/\h.IsCell c (some u))
structure Cx.Ok(X:Cx):Prop where
 mod:Mod X.K X.mg X.base
 kind:X.env.scope.kind= .function
 glob:X.env.globals=mainGlobals
 blt:X.env.builtins=builtinsNs
 above:X.s₀.heap.objs.size<=X.env.locals
 inj:∀x y c,X.env.cells.lookup x=some c->X.env.cells.lookup y=some c->x=y
 has:∀x,(X.env.kindOf x=some .cell\/X.env.kindOf x=some .free)->∃c,X.env.cells.lookup x=some c
 cab:∀x c,X.fn x=true->X.env.cells.lookup x=some c->X.s₀.heap.objs.size<=c
 hd:X.calm=true->X.A.handled=none
 frames:X.A.frames=some X.stack
 stk:X.stack=X.outer\/(X.stack=X.env::X.outer/\X.env.frame=some X.env.locals)
 exf:∀b∈X.ex,b≠X.env.locals/\∀x c,X.env.cells.lookup x=some c->c≠b
 bs:∀b o,X.base.get? b=some o->X.s₀.heap.get? b=some o/\X.H₀ b=none
 bsz:X.base.objs.size<=X.s₀.heap.objs.size
 noex:∀b o,X.base.get? b=some o->b ∉ X.ex
 exfs:∀b∈X.ex,b ∉ X.fs
 funs:X.s₀.heap.FunFrames X.base X.outer
 frf:∀b∈X.fs,X.H₀ b=none
structure Ac(X:Cx)(ad:PNs)(σ:List (Option V))(H:Hp)(s:yR):Prop where
 ok:X.Ok
 os:s.os=X.s₀.os
 bare:AllBare s.gens
 base:Un X.fs X.ex X.H₀ H X.s₀.heap s.heap
 loc:∃m,s.heap.Ns X.env.locals m/\∀(i:Nat) (x:Str) (v:V),X.N[i]? =some x->σ[i]? =some (some v)->Ej X.env.scope x->∃u,RelV v u/\Qd X.env s.heap m x u
 cell:∀x c,X.env.cells.lookup x=some c->∃v,s.heap.IsCell c v
 free:H X.env.locals=none
 freeC:∀x c,X.env.cells.lookup x=some c->H c=none
 pin:∀p∈X.pn++ad,s.heap.get? p.1=some p.2/\H p.1=none/\p.1≠X.env.locals/\p.1 ∉ X.fs/\∀v,p.2.data≠ .cell v
 hok:HOk X.prog X.w H s.heap
 len:σ.length=X.N.length
section
variable{X:Cx}{ad:List (yQ × Obj)}{σ:List (Option V)}{H H':Hp}{s:yR}{h':Heap}
def Cx.Ok.nofr(ok:X.Ok){b:yQ}{o:Obj}(e:X.base.get? b=some o):b ∉ X.fs:=λg=>by
 have:=(ok.funs.mem g).1;rw[e]at this;cases this
def Ac.bs(I:Ac X ad σ H s):∀b o,X.base.get? b=some o->s.heap.get? b=some o/\H b=none:=λb o e=>
 ⟨I.base.keep b o (I.ok.bs b o e).1 (I.ok.bs b o e).2 (I.ok.nofr e) (I.ok.noex b o e),I.base.free b o (I.ok.bs b o e).1 (I.ok.bs b o e).2 (I.ok.noex b o e)⟩
def Ac.bk(I:Ac X ad σ H s):∀b o,X.base.get? b=some o->s.heap.get? b=some o:=λb o e=>(I.bs b o e).1
def Ac.mod(I:Ac X ad σ H s):Mod X.K X.mg X.base:=I.ok.mod
def Ac.kIn(I:Ac X ad σ H s):X.K.In s.heap:=I.ok.mod.kin.keeps I.bk
def Ac.lt(I:Ac X ad σ H s):X.env.locals<s.heap.objs.size:=let ⟨_,hn,_⟩:=I.loc;hn.lt
def Ac.sz(I:Ac X ad σ H s):X.s₀.heap.objs.size<=s.heap.objs.size:=Ze I.ok.above (ZZ I.lt)
def Ac.nofs(I:Ac X ad σ H s){a:yQ}(h:s.heap.objs.size<=a):a ∉ X.fs:=λg=>by
 obtain⟨_,o,z,_⟩:=I.ok.funs.mem g;exact absurd (YX (Y9 z) (Ze I.sz h)) (Z8 _)
def Ac.cne(I:Ac X ad σ H s):∀x c,X.env.cells.lookup x=some c->c≠X.env.locals:=λx c e z=>by
 obtain⟨v,o,G,hd⟩:=I.cell x c e;obtain⟨m,⟨J,es,L,g,D,_⟩,_⟩:=I.loc;rw[z,g]at G;cases G;rw[D]at hd;cases hd
def Ac.funs(I:Ac X ad σ H s):s.heap.FunFrames X.base X.outer:=by
 have all:∀(l:List Env),(∀b∈AD l,b∈X.fs)->X.s₀.heap.FunFrames X.base l->s.heap.FunFrames X.base l:=by
  intro l
  induction l with
  |nil=>intro _ _;trivial
  |cons env r ih=>
   intro J hl;obtain⟨O,⟨L,o,g,hn,ho,hd⟩,Z⟩:=hl;have G:L∈X.fs:=J L (by unfold AD;rw[dj,g];exact Z9);obtain⟨sl,e⟩:=I.base.slot L o ho (I.ok.frf L G) G λz=>I.ok.exfs L z G
   exact⟨O,⟨L,_,g,hn,e,hd⟩,ih (λb D=>J b (by unfold AD;rw[dj,g];exact Z3 _ D)) Z⟩
 exact all X.outer (λ_ D=>D) I.ok.funs
def Ac.stack(I:Ac X ad σ H s):s.heap.FunFrames X.base X.stack:=by
 rcases I.ok.stk with e | ⟨e,g⟩
 .rw[e];exact I.funs
 .rw[e];obtain⟨m,z,_⟩:=I.loc;refine .cons (by rw[I.ok.kind];decide) g z ?_ I.funs;exact Heap.get?_none_of_le (Ze I.ok.bsz I.ok.above)
def Ac.stkSub(I:Ac X ad σ H s):∀b∈AD X.stack,b∈X.env.locals::X.fs:=λb g=>by
 rcases I.ok.stk with e | ⟨e,z⟩
 .rw[e]at g;exact Z3 _ g
 .rw[e]at g;unfold AD at g;rw[dj,z]at g;exact g
def Ac.stkFree(I:Ac X ad σ H s):∀b∈AD X.stack,H b=none:=λb g=>by
 rcases Z4.mp (I.stkSub b g) with e | g
 .rw[e];exact I.free
 .obtain⟨_,o,D,_⟩:=I.ok.funs.mem g;exact I.base.free b o D (I.ok.frf b g) λz=>I.ok.exfs b z g
def Ac.step(I:Ac X ad σ H s)
  (G:∀b∈ch,(b∈X.ex\/X.s₀.heap.objs.size<=b)/\b≠X.env.locals/\(∀x c,X.env.cells.lookup x=some c->c≠b)/\∀p∈X.pn++ad,p.1≠b)
  (keep:∀b o,b≠X.env.locals->b ∉ X.fs->b ∉ ch->s.heap.get? b=some o->H b=none->h'.get? b=some o)
  (slot:∀b o,b≠X.env.locals->b∈X.fs->b ∉ ch->s.heap.get? b=some o->H b=none->∃sl,h'.get? b=some { o with slots:=sl}) (free:∀b o,b ∉ ch->s.heap.get? b=some o->H b=none->H' b=none)
  (there:∀b o,b ∉ ch->s.heap.get? b=some o->∃o',h'.get? b=some o')
  (tups:∀b xs,H b=some (.tup xs)->H' b=some (.tup xs)) (frzs:∀b o u,H b=some (.frz o u)->H' b=some (.frz o u)) (tbls:∀b ps,H b=some (.tbl ps)->∃more,H' b=some (.tbl (ps++more)))
  (ns:∀m,s.heap.Ns X.env.locals m->h'.Ns X.env.locals m) (hok:HOk X.prog X.w H' h') (hg:AllBare g'):
  Ac X ad σ H' { s with heap:=h',gens:=g',drawn:=d',toks:=t'}:=by
 have i0:∀b o,X.s₀.heap.get? b=some o->b≠X.env.locals:=λb o e=>Zc (YX (Y9 e) I.ok.above)
 have L:∀b o,X.s₀.heap.get? b=some o->b ∉ X.ex->b ∉ ch:=λb o e g Z=>by
  rcases(G b Z).1 with z | z
  .exact g z
  .exact absurd (YX (Y9 e) z) (Z8 _)
 have D:∀x c,X.env.cells.lookup x=some c->∀v,s.heap.IsCell c v->h'.IsCell c v:=λx c e v zq=>by
  obtain⟨o,ho,hd⟩:=zq;have J:c ∉ ch:=λz=>(G c z).2.2.1 x c e rfl
  by_cases hc:c∈X.fs
  .obtain⟨sl,q⟩:=slot c o (I.cne x c e) hc J ho (I.freeC x c e);exact⟨_,q,hd⟩
  .exact⟨o,keep c o (I.cne x c e) hc J ho (I.freeC x c e),hd⟩
 refine⟨I.ok,I.os,hg,⟨λb o e n Z g=>?_,λb o e n Z g=>?_,λb o e n g=>?_,λb o e g=>?_,λb xs e=>tups b xs (I.base.tups b xs e),λb o xs e=>frzs b o xs (I.base.frzs b o xs e),λb ps e=>?_⟩,?_,λx c e=>?_,?_,λx c e=>?_,λp hp=>?_,hok,I.len⟩
 .exact keep b o (i0 b o e) Z (L b o e g) (I.base.keep b o e n Z g) (I.base.free b o e n g)
 .obtain⟨sl,O⟩:=I.base.slot b o e n Z g;obtain⟨i4,e2⟩:=slot b _ (i0 b o e) Z (L b o e g) O (I.base.free b o e n g);exact⟨i4,e2⟩
 .obtain⟨o',O⟩:=I.base.there b o e g;exact free b o' (L b o e g) O (I.base.free b o e n g)
 .obtain⟨o',O⟩:=I.base.there b o e g;exact there b o' (L b o e g) O
 .obtain⟨m1,O⟩:=I.base.tbls b ps e;obtain⟨m2,e2⟩:=tbls b _ O;exact⟨m1++m2,by rw[e2,Array.append_assoc]⟩
 .obtain⟨m,hn,hl⟩:=I.loc;refine⟨m,ns m hn,λi x v O e2 e3=>?_⟩;obtain⟨u,r,l⟩:=hl i x v O e2 e3;refine⟨u,r,?_⟩;rcases l with l | ⟨k,c,e,z⟩
  .exact .inl l
  .exact .inr ⟨k,c,e,D x c e _ z⟩
 .obtain⟨v,z⟩:=I.cell x c e;exact⟨v,D x c e v z⟩
 .obtain⟨m,⟨o,_,_,ho,_⟩,_⟩:=I.loc;exact free _ o (λz=>(G _ z).2.1 rfl) ho I.free
 .obtain⟨v,o,ho,hd⟩:=I.cell x c e;exact free c o (λz=>(G c z).2.2.1 x c e rfl) ho (I.freeC x c e)
 .obtain⟨e,n,ne,nf,d⟩:=I.pin p hp;have J:p.1 ∉ ch:=λz=>(G p.1 z).2.2.2 p hp rfl
  exact⟨keep p.1 p.2 ne nf J e n,free p.1 p.2 J e n,ne,nf,d⟩
def Ac.un(I:Ac X ad σ H s)(u:Un X.fs [] H H' s.heap h')(hok:HOk X.prog X.w H' h'):Ac X ad σ H' { s with heap:=h',toks:=t'}:=by
 obtain⟨m,⟨o,es,ep,L,r⟩,_⟩:=id I.loc;obtain⟨sl,Z⟩:=u.any L I.free (by simp);exact I.step (g':=s.gens) (d':=s.drawn) (ch:=[]) (λ_ z=>nomatch z) (λb o _ D _ e n=>u.keep b o e n D (by simp)) (λb o _ D _ e n=>u.slot b o e n D (by simp)) (λb o _ e n=>u.free b o e n (by simp)) (λb o _ e=>u.there b o e (by simp)) u.tups u.frzs u.tbls (λm' hm=>by
  obtain⟨o',G,J,g,O⟩:=hm;rw[L]at g;cases g;exact⟨_,G,J,Z,O⟩) hok I.bare
def Ac.call(I:Ac X ad σ H s)(u:Un (AD X.stack) ch H H' s.heap h')(hok:HOk X.prog X.w H' h')(hg:AllBare g')
  (G:∀b∈ch,(b∈X.ex\/X.s₀.heap.objs.size<=b)/\b≠X.env.locals/\(∀x c,X.env.cells.lookup x=some c->c≠b)/\∀p∈X.pn++ad,p.1≠b):
  Ac X ad σ H' { s with heap:=h',gens:=g',drawn:=d',toks:=t'}:=by
 obtain⟨m,⟨o,es,ep,Z,r⟩,_⟩:=id I.loc;obtain⟨sl,J⟩:=u.any Z I.free λz=>(G _ z).2.1 rfl
 exact I.step (ch:=ch) G (λb o J hb g e n=>u.keep b o e n (λz=>(Z4.mp (I.stkSub b z)).elim J hb) g) (λb o _ _ g e n=>u.any e n g) (λb o g e n=>u.free b o e n g) (λb o g e=>u.there b o e g) u.tups u.frzs u.tbls (λm' hm=>by
  obtain⟨o',L,O,D,r'⟩:=hm;rw[Z]at D;cases D;exact⟨_,L,O,J,r'⟩) hok hg
def Ac.turned{it:yQ}(I:Ac X ad σ H s)(k:∀b o,b≠it->s.heap.get? b=some o->h'.get? b=some o)(Z:H it=none)(G:it≠X.env.locals)
  (h1:it∈X.ex\/X.s₀.heap.objs.size<=it) (J:∀x c,X.env.cells.lookup x=some c->c≠it) (h3:∀p∈X.pn++ad,p.1≠it):Ac X ad σ H { s with heap:=h',toks:=t'}:=by
 have D:∀b u,H b=some u->b≠it:=λb u e z=>by rw[z,Z]at e;cases e
 refine I.step (g':=s.gens) (d':=s.drawn) (ch:=[it]) (λb L=>?_) (λb o _ _ g e _=>k b o (λz=>g (by simp[z])) e) (λb o _ _ g e _=>⟨o.slots,k b o (λz=>g (by simp[z])) e⟩) (λ_ _ _ _ n=>n)
  (λb o g e=>⟨o,k b o (λz=>g (by simp[z])) e⟩) (λ_ _ e=>e) (λ_ _ _ e=>e) (λb ps e=>⟨#[],by rw[e];simp⟩) (λm O=>?_) (λb u e=>?_) I.bare
 .have e:b=it:=by simpa using L
  subst e;exact⟨h1,G,J,h3⟩
 .obtain⟨o,es,ep,ho,r⟩:=O;exact⟨o,es,ep,k _ o (Zd G) ho,r⟩
 .refine(I.hok b u e).stay (λc v g q=>k c v ?_ q) (λ_ q=>q) λ_ _ q=>q
  rcases g with z | z
  .rw[z];exact D b u e
  .exact D c _ z
def Ac.tok(I:Ac X ad σ H s)(t:Nat):Ac X ad σ H { s with toks:=t}:=I.un (h':=s.heap) (t':=t) Un.refl I.hok
def Ac.kept(I:Ac X ad σ H s)(k:∀b u,s.heap.get? b=some u->h'.get? b=some u):Ac X ad σ H { s with heap:=h',toks:=t'}:=I.un (Un.kept k) (I.hok.kept k)
def Ac.laid{a:yQ}{o:HO}(I:Ac X ad σ H s)(k:∀b u,s.heap.get? b=some u->h'.get? b=some u)(g:s.heap.objs.size<=a)(new:ObjOk X.prog X.w (upd H a o) h' a o):
  Ac X ad σ (upd H a o) { s with heap:=h',toks:=t'}:=I.un (Un.laid k g (I.hok.fresh g)) (I.hok.laid k g new)
def Ac.write{x e:yQ}{o:HO}(I:Ac X ad σ H s)(D:Hy (H x))(z:e=x\/H e=some (.own x))(k:∀b u,b≠e->s.heap.get? b=some u->h'.get? b=some u)(g:∃u,h'.get? e=some u)
  (new:ObjOk X.prog X.w (upd H x o) h' x o):Ac X ad σ (upd H x o) { s with heap:=h',toks:=t'}:=I.un (Un.write D z k g) (I.hok.write D z k g new)
def Ac.weak{σ':List (Option V)}(I:Ac X ad σ H s)(g:σ'.length=σ.length)(w:∀(i:Nat) v,σ'[i]? =some (some v)->σ[i]? =some (some v)):Ac X ad σ' H s:=
 ⟨I.ok,I.os,I.bare,I.base,let ⟨m,hn,hl'⟩:=I.loc;⟨m,hn,λi x v z D G=>hl' i x v z (w i v D) G⟩,I.cell,I.free,I.freeC,I.pin,I.hok,g.trans I.len⟩
def Ac.pins_of{g:PNs}(I:Ac X ad σ H s)(h:∀p∈g,s.heap.get? p.1=some p.2/\H p.1=none/\p.1≠X.env.locals/\p.1 ∉ X.fs/\∀v,p.2.data≠ .cell v):Ac X g σ H s:=
 ⟨I.ok,I.os,I.bare,I.base,I.loc,I.cell,I.free,I.freeC,λp D=>(ZQ.mp D).elim (λz=>I.pin p (bK _ z)) (h p),I.hok,I.len⟩
def J9{N:List Str}(g:N.Nodup){i j:Nat}{x:Str}(a:N[i]? =some x)(b:N[j]? =some x):i=j:=by
 obtain⟨G,z⟩:=Y3.mp a;obtain⟨I,D⟩:=Y3.mp b;exact(List.getElem_inj g).mp (z.trans D.symm)
def Kl{A:yL}{x:Str}(I:Ac X ad σ H s)(hN:X.N.Nodup)(hi:X.N[i]? =some x)(L:Ek X.env.scope x)(r:RelV v u)
  (h:∀s',Ac X ad (σ.set i (some v)) H s'->(∃a,Heap.SameBut a s.heap s'.heap/\(a=X.env.locals\/X.env.cells.lookup x=some a))->Q () s') (hf:autoParam (X.fn x=true\/X.env.scope.names.lookup x=some .local) F'):wpAny M A (storeName X.env x u) Q E s:=by
 obtain⟨m,hn,hl⟩:=id I.loc;have i7:(X.env.scope.kind== .class || (X.env.scope.kind== .module && X.env.locals !=X.env.globals))=false:=by rw[I.ok.kind];rfl
 have i0:i<σ.length:=by rw[I.len];exact(Y3.mp hi).1
 have cne:=I.cne;have D:∀ {a:yQ}{h':Heap},(∃o,s.heap.get? a=some o/\H a=none)->Heap.SameBut a s.heap h'->HOk X.prog X.w H h':=λ{a h'} ha g b ob e=>by
  obtain⟨_,_,O⟩:=ha;refine(I.hok b ob e).stay (λc w' J q=>(g.2 c ?_).trans q) (λ_ q=>q) λ_ _ q=>q
  rintro rfl;rcases J with rfl | J
  .rw[O]at e;cases e
  .rw[O]at J;cases J
 rcases L with hk | hk
 .refine wpAny_storeName_local hk hn (λh' j0 g=>?_) i7;obtain⟨oL,_,_,j2,_⟩:=id hn;refine h _ ⟨I.ok,I.os,I.bare,⟨λb o e n hb L=>?_,λb o e n hb L=>?_,I.base.free,λb o e L=>?_,I.base.tups,I.base.frzs,I.base.tbls⟩,⟨_,j0,λj y v' G Z e3=>?_⟩,λy c e=>?_,I.free,I.freeC,λp hp=>?_,D ⟨oL,j2,I.free⟩ g,by simpa using I.len⟩ ⟨_,g,.inl rfl⟩
  .exact(g.2 b (Zc (YX (Y9 e) I.ok.above))).trans (I.base.keep b o e n hb L)
  .obtain⟨sl,G⟩:=I.base.slot b o e n hb L;exact⟨sl,(g.2 b (Zc (YX (Y9 e) I.ok.above))).trans G⟩
  .obtain⟨o',G⟩:=I.base.there b o e L;exact⟨o',(g.2 b (Zc (YX (Y9 e) I.ok.above))).trans G⟩
  .by_cases hj:j=i
   .subst hj;rw[hi]at G;cases G;rw[bV i0]at Z;cases Z;exact⟨u,r,.inl ⟨hk,by simp⟩⟩
   .rw [cF (Zd hj)] at Z;obtain⟨u',r',q⟩:=hl j y v' G Z e3;refine⟨u',r',?_⟩;rcases q with⟨k,e⟩ | ⟨k,c,e,z⟩
    .refine .inl ⟨k,?_⟩;have:y≠x:=λe=>hj (J9 hN G (e ▸ hi))
     simp[this,e]
    .exact .inr ⟨k,c,e,z.sameBut g (cne y c e)⟩
  .obtain⟨w',z⟩:=I.cell y c e;exact⟨w',z.sameBut g (cne y c e)⟩
  .obtain⟨e,n,ne,nf,d⟩:=I.pin p hp;exact⟨(g.2 p.1 ne).trans e,n,ne,nf,d⟩
 .have i4:X.fn x=true:=by
   rcases hf with z | z
   .exact z
   .rw[z]at hk;cases hk
  obtain⟨c,J⟩:=I.ok.has x (.inl hk);obtain⟨w',z⟩:=I.cell x c J;refine wpAny_storeName_cell I.ok.kind hk J z (λh' i9 g=>?_);obtain⟨oc,i6,i8⟩:=id z;refine h { s with heap:=h'} ⟨I.ok,I.os,I.bare,⟨λb o e n hb L=>?_,λb o e n hb L=>?_,I.base.free,λb o e L=>?_,I.base.tups,I.base.frzs,I.base.tbls⟩,⟨m,hn.sameBut g (Zd (cne x c J)),λj y v' G Z e3=>?_⟩,λy c' e=>?_,I.free,I.freeC,λp hp=>?_,D ⟨oc,i6,I.freeC x c J⟩ g,by simpa using I.len⟩ ⟨c,g,.inr J⟩
  .exact(g.2 b (Zc (YX (Y9 e) (I.ok.cab x c i4 J)))).trans (I.base.keep b o e n hb L)
  .obtain⟨sl,G⟩:=I.base.slot b o e n hb L;exact⟨sl,(g.2 b (Zc (YX (Y9 e) (I.ok.cab x c i4 J)))).trans G⟩
  .obtain⟨o',G⟩:=I.base.there b o e L;exact⟨o',(g.2 b (Zc (YX (Y9 e) (I.ok.cab x c i4 J)))).trans G⟩
  .by_cases hj:j=i
   .subst hj;rw[hi]at G;cases G;rw[bV i0]at Z;cases Z;exact⟨u,r,.inr ⟨.inl hk,c,J,i9⟩⟩
   .rw [cF (Zd hj)] at Z;obtain⟨u',r',q⟩:=hl j y v' G Z e3;refine⟨u',r',?_⟩;rcases q with q | ⟨k,c',e,z'⟩
    .exact .inl q
    .refine .inr ⟨k,c',e,z'.sameBut g ?_⟩;rintro rfl;exact hj (J9 hN G (I.ok.inj _ _ _ e J ▸ hi))
  .by_cases i5:c'=c
   .subst i5;exact⟨_,i9⟩
   .obtain⟨w2,z2⟩:=I.cell y c' e;exact⟨w2,z2.sameBut g i5⟩
  .obtain⟨e,n,ne,nf,d⟩:=I.pin p hp;refine⟨(g.2 p.1 ?_).trans e,n,ne,nf,d⟩;intro q;rw[q,i6]at e;have q':oc=p.2:=Zb e;exact d w' (by rw[<-q'];exact i8)
def Fj{A:yL}{x:Str}(I:Ac X ad σ H s)(D:X.N.Nodup)(hi:X.N[i]? =some x)(g:Ek X.env.scope x)(r:RelV v u)
  (h:∀s',Ac X ad (σ.set i (some v)) H s'->Q () s') (z:autoParam (X.fn x=true\/X.env.scope.names.lookup x=some .local) F'):wpAny M A (storeName X.env x u) Q E s:=
 Kl I D hi g r (λs' G _=>h s' G) z
def Ac.call'{s':yR}(I:Ac X ad σ H s)(G:s'.os=s.os)(u:Un (AD X.stack) ch H H' s.heap s'.heap)(hok:HOk X.prog X.w H' s'.heap)(z:AllBare s'.gens)
  (g:∀b∈ch,(b∈X.ex\/X.s₀.heap.objs.size<=b)/\b≠X.env.locals/\(∀x c,X.env.cells.lookup x=some c->c≠b)/\∀p∈X.pn++ad,p.1≠b):Ac X ad σ H' s':=by
 obtain⟨J,g',d',t',D⟩:=s';have e:D=s.os:=G;subst e;exact I.call (g':=g') (t':=t') (d':=d') u hok z g
end
abbrev XK:=yU->Option yQ->Hp->Prop
abbrev St:=List (Option V)
abbrev VK:=V->Hp->Prop
abbrev TE:=St->Hp->VK->Prop
abbrev TT:=St->Hp->(Bool->Hp->Prop)->Prop
abbrev TA:=St->Hp->(List V->Hp->Prop)->Prop
structure Db where
 nx:St->Hp->Prop
 rt:VK
 bk:St->Hp->Prop:=λ_ _=>False
 ct:St->Hp->Prop:=λ_ _=>False
abbrev TS:=Db->St->Hp->Prop
def EP(X:Cx)(ad:PNs)(z:St)(Q:VK)(u:yU)(s':yR):Prop:=∃v g,Ac X ad z g s'/\RelV v u/\Q v g
def TP(X:Cx)(ad:PNs)(z:St)(Q:Bool->Hp->Prop)(b:Bool)(s':yR):Prop:=∃g,Ac X ad z g s'/\Q b g
def AP(X:Cx)(ad:PNs)(D:St)(Q:List V->Hp->Prop)(us:yX)(s':yR):Prop:=∃g z,Ac X ad D z s'/\At g us/\Q g z
def SP(X:Cx)(ad:PNs)(D:Db)(f:Flow)(s':yR):Prop:=
 match f with
 |.next=>∃σ' H',Ac X ad σ' H' s'/\D.nx σ' H'
 |.brk=>∃σ' H',Ac X ad σ' H' s'/\D.bk σ' H'
 |.cont=>∃σ' H',Ac X ad σ' H' s'/\D.ct σ' H'
 |.ret u=>∃v σ' H',Ac X ad σ' H' s'/\RelV v u/\D.rt v H'
def PE(X:Cx)(e:yJ)(t:TE):Prop:=
 ∀(ad:PNs) (s:yR) (g:St) (H:Hp) (Q:VK),Ac X ad g H s->t g H Q->wpAny (model X.prog X.w) X.A (eval e X.env) (EP X ad g Q) X.xe s
def PT(X:Cx)(e:yJ)(t:TT):Prop:=
 ∀(ad:PNs) (s:yR) (g:St) (H:Hp) (Q:Bool->Hp->Prop),Ac X ad g H s->t g H Q->wpAny (model X.prog X.w) X.A (isTrue e X.env (eval e X.env)) (TP X ad g Q) X.xe s
def PW(X:Cx)(e:yJ)(t:TT):Prop:=
 ∀(g:Sem yU) (ad:PNs) (s:yR) (z:St) (H:Hp) (Q:Bool->Hp->Prop),Ac X ad z H s->t z H Q->wpAny (model X.prog X.w) X.A (isTrue e X.env g) (TP X ad z Q) X.xe s
def PW.pt{X:Cx}{e:yJ}{t:TT}(h:PW X e t):PT X e t:=h _
def PA(X:Cx)(es:List yJ)(t:TA):Prop:=
 ∀(g:Pos) (ad:PNs) (s:yR) (z:St) (H:Hp) (Q:List V->Hp->Prop),Ac X ad z H s->t z H Q->wpAny (model X.prog X.w) X.A (spliced (backTo g (starEach es X.env))) (AP X ad z Q) X.xe s
def PS(X:Cx)(st:Stmt)(t:TS):Prop:=
 ∀(ad:PNs) (s:yR) (g:St) (H:Hp) (D:Db),Ac X ad g H s->t D g H->wpAny (model X.prog X.w) X.A (exec st X.env) (SP X ad D) X.xe s
def PSs(X:Cx)(st:List Stmt)(t:TS):Prop:=
 ∀(ad:PNs) (s:yR) (g:St) (H:Hp) (D:Db),Ac X ad g H s->t D g H->wpAny (model X.prog X.w) X.A (execs st X.env) (SP X ad D) X.xe s
def Ap{g:Type}{t:Sem g}{Q Q':g->yR->Prop}{A:yL}{s:yR}(h:wpAny M A t Q E s)(z:∀a s,Q a s->Q' a s):wpAny M A t Q' E s:=Zf h z λ_ _ x=>x
end L2
namespace L2
variable{E Q:yY}{ad:List (yQ × Obj)}{s:yR}{σ:St}{H:Hp}{u:yU}
variable{X:Cx}
inductive Mo(i:Nat)(g:L2.St)(H:Hp)(Q:VK):Prop
 |mk(v:_)(_:g[i]? =some (some v))(_:Q v H)
def tC(v:V):TE:=λ_ H Q=>Q v H
def Gf{i:Nat}{x:Str}{z:Pos}(Z:X.N[i]? =some x)(G:Ej X.env.scope x)(hd:autoParam ((x==("__debug__" :Str))=false) S7)(D:autoParam ((x==("__classdict__" :Str))=false) S7):PE X (.Name x z) (Mo i):=by
 intro ad s J H Q I h;obtain⟨v,e,h⟩:=h;obtain⟨m,O,L⟩:=I.loc;obtain⟨u,r,l⟩:=L i x v Z e G;have fin:EP X ad J Q u s:=⟨v,H,I,r,h⟩;rcases l with⟨g,hm⟩ | ⟨g,c,hc,hcell⟩
 .exact wpAny_Name (wpAny_loadName_local I.ok.kind g O hm fin) hd
 .rcases g with g | g
  .exact wpAny_Name (wpAny_loadName_cell I.ok.kind g hc hcell fin) hd
  .exact wpAny_Name (wpAny_loadName_free I.ok.kind g hc hcell fin D) hd
def Ak{i j pos}:PE X (.Constant (.int i) j pos) (tC (.int i)):=λ_ _ _ H _ I h=>wpAny_Constant_int ⟨.int i,H,I.tok _,⟨_,rfl⟩,h⟩
def Cp{b j pos}:PE X (.Constant (.bool b) j pos) (tC (.bl b)):=λ_ _ _ H _ I h=>Constant_bool ⟨.bl b,H,I,rfl,h⟩
def EL{j pos}:PE X (.Constant .none j pos) (tC .non):=λ_ _ _ H _ I h=>Constant_none ⟨.non,H,I,rfl,h⟩
def Ax{x j pos}:PE X (.Constant (.str x) j pos) (tC (.str x)):=λ_ _ _ H _ I h=>Calls.Constant_str ⟨.str x,H,I.tok _,⟨_,rfl⟩,h⟩
def Gl(X:Cx)(x:Str):Prop:=X.env.kindOf x=some .globalImplicit
def DR{x:Str}{g:Pos}(I:Ac X ad σ H s)(z:Gl X x)(D:X.mg x=some u)(h:Q u s)
  (hd:autoParam ((x==("__debug__" :Str))=false) S7):wpAny (model X.prog X.w) X.A (eval (.Name x g) X.env) Q E s:=
 dC I.ok.kind z (Calls.loadGlobal_global (by rw[I.ok.glob];exact I.mod.glob.keeps I.bk) D h) hd
def Dd{x:Str}{g:Pos}(I:Ac X ad σ H s)(z:Gl X x)(L:X.mg x=none)(G:bootBuiltins x=some u)(h:Q u s)
  (O:autoParam (x≠ "__name__") S7) (hd:autoParam ((x==("__debug__" :Str))=false) S7):wpAny (model X.prog X.w) X.A (eval (.Name x g) X.env) Q E s:=by
 obtain⟨Z,D,J⟩:=I.mod.blt;exact dC I.ok.kind z (Calls.loadGlobal_builtin (by rw[I.ok.glob];exact I.mod.glob.keeps I.bk) L (by rw[I.ok.blt];exact D.keeps I.bk) ((J x O).trans G) h) hd
def BA{x:Str}{v:V}{u:yU}{g:Pos}(z:Gl X x)(D:X.mg x=some u)(r:RelV v u)(hd:autoParam ((x==("__debug__" :Str))=false) S7):PE X (.Name x g) (tC v):=
 λ_ _ _ H _ I h=>DR I z D ⟨v,H,I,r,h⟩ hd
def Fk{x:Str}{v:V}{u:yU}{g:Pos}(z:Gl X x)(G:X.mg x=none)(D:bootBuiltins x=some u)(r:RelV v u)(J:autoParam (x≠ "__name__") S7)(hd:autoParam ((x==("__debug__" :Str))=false) S7):PE X (.Name x g) (tC v):=
 λ_ _ _ H _ I h=>Dd I z G D ⟨v,H,I,r,h⟩ J hd
variable{a b:yJ}{O L:TE}{g:Pos}
def Qe(b:yJ){op:CmpOp}(h:op≠ .In)(g:op≠ .NotIn):behindInMarks op b=false:=by
 have z:(op==CmpOp.In)=false:=by cases op<;>first | rfl | exact absurd rfl h
 have D:(op==CmpOp.NotIn)=false:=by cases op<;>first | rfl | exact absurd rfl g
 cases b<;>simp[behindInMarks,z,D]
def tB(t:TE):TT:=fun D H Q=>t D H λx g=>∃c,x= .bl c/\Q c g
variable{G z:TT}{rest:List yJ}
def Qf(t:TT):TT:=fun z H Q=>t z H λc g=>Q (!c) g
def HA(z:PT X a tA):PW X (.BoolOp .And [a] pos) tA:=by
 intro D ad s g H Q I h;refine isTrue_and (Ap (z ad s g H Q I h) λc G e=>?_);cases c with
 |true=>exact isTrue_and_nil e
 |false=>exact e
def El(z:PT X a tA):PW X (.BoolOp .Or [a] pos) tA:=by
 intro D ad s g H Q I h;refine isTrue_or (Ap (z ad s g H Q I h) λc G e=>?_);cases c with
 |false=>exact isTrue_or_nil e
 |true=>exact e
def BR(D:PT X a tA):PT X (.UnaryOp .Not a pos) (Qf tA):=by
 intro ad s g H Q I h;exact isTrue_not (D ad s g H (λc z=>Q (!c) z) I h)
def CB{op}{t:TE}(h:PE X a t):PE X (.BoolOp op [a] pos) t:=λad s z H Q I g=>BoolOp_one (h ad s z H Q I g)
end L2
namespace L2
variable{i:Nat}{ti:TE}{tg:yJ}{op:Operator}{P:yO}
def Al(K:Fgx)(H:Hp)(a:yQ)(xs:List V):Prop:=
 Rd H a (.lst xs)\/
  ∃(o:Obj) (g:Array yU) (n:Nat),K.lookup a=some o/\o.cls= .type "list" /\o.dict=none/\o.data= .seq g n/\g.size<=sizeLine/\At xs g.toList
def Ae(K:Fgx)(H:Hp)(a:yQ)(xs:List V):Prop:=
 Rd H a (.tup xs)\/
  ∃(o:Obj) (g:Array yU) (n:Nat),K.lookup a=some o/\o.cls= .type "tuple" /\o.data= .seq g n/\g.size<=sizeLine/\At xs g.toList
def Qg:yU->Option V
 |.none=>some .non
 |.bool b=>some (.bl b)
 |.int i _=>some (.int i)
 |.str x _=>some (.str x)
 |.bytes b _=>some (.byt b)
 |.float b _=>some (.flt b)
 |.ref a=>some (.ref a)
 |.type n=>some (.ty n)
 |_=>none
def RelV.abs{x:V}{u:yU}(r:RelV x u):Qg u=some x:=by
 cases x with
 |non=>cases r;rfl
 |bl _=>cases r;rfl
 |int _=>obtain⟨t,rfl⟩:=r;rfl
 |str _=>obtain⟨t,rfl⟩:=r;rfl
 |byt _=>obtain⟨t,rfl⟩:=r;rfl
 |flt _=>obtain⟨t,rfl⟩:=r;rfl
 |ref _=>cases r;rfl
 |ty _=>cases r;rfl
def RelV.inj{x y:V}{u:yU}(r:RelV x u)(q:RelV y u):x=y:=Zb (r.abs.symm.trans q.abs)
def At.inj{xs ys:List V}{us:yX}(h:At xs us)(k:At ys us):xs=ys:=by
 induction h generalizing ys with
 |nil=>cases k;rfl
 |cons r t ih=>
  cases k with
  |cons r' t'=>rw[r.inj r',ih t']
section
variable{X:Cx}{ad:List (yQ × Obj)}{σ:St}{H:Hp}{s:yR}{a:yQ}{xs ys:List V}
def Al.of{K:Fgx}(h:H a=some (.lst xs)):Al K H a xs:= .inl (.inl h)
def Ae.of{K:Fgx}(h:H a=some (.tup xs)):Ae K H a xs:= .inl (.inl h)
def Ac.list(I:Ac X ad σ H s)(h:Al X.K H a xs):∃its:yX,At xs its/\PlainL s.heap a its.toArray/\xs.length<=sizeLine:=by
 rcases h with h | ⟨o,its,n,g,G,hd,D,J,r⟩
 .obtain⟨z,its,n,r,e⟩:=h.ok I.hok;exact⟨its,r,⟨_,n,e,rfl,rfl,rfl⟩,z⟩
 .refine⟨its.toList,r,⟨o,n,I.kIn a o g,G,hd,by simpa using D⟩,?_⟩;have e:=r.length;simp only[ap]at e;lia
def Ac.tuple(I:Ac X ad σ H s)(h:Ae X.K H a xs):∃its:yX,At xs its/\IsTup s.heap a its.toArray/\xs.length<=sizeLine:=by
 rcases h with h | ⟨o,its,n,g,G,D,J,r⟩
 .obtain⟨z,its,r,p⟩:=h.ok I.hok;exact⟨its,r,p,z⟩
 .refine⟨its.toList,r,⟨o,I.kIn a o g,G,n,by simpa using D⟩,?_⟩;have e:=r.length;simp only[ap]at e;lia
def Ac.list_inj(I:Ac X ad σ H s)(h:Al X.K H a xs)(h':Al X.K H a ys):xs=ys:=by
 obtain⟨z,r,⟨o,n,e,_,_,d⟩,_⟩:=I.list h;obtain⟨g,J,⟨Z,O,G,_,_,D⟩,_⟩:=I.list h';rw[e]at G;cases G;rw[d]at D;injection D with L _
 have:z=g:=by simpa using ZI Array.toList L
 subst this;exact r.inj J
def Ac.tuple_inj(I:Ac X ad σ H s)(h:Ae X.K H a xs)(h':Ae X.K H a ys):xs=ys:=by
 obtain⟨z,r,⟨o,e,_,n,d⟩,_⟩:=I.tuple h;obtain⟨g,J,⟨Z,G,_,O,D⟩,_⟩:=I.tuple h';rw[e]at G;cases G;rw[d]at D;injection D with L _
 have:z=g:=by simpa using ZI Array.toList L
 subst this;exact r.inj J
end
abbrev Cx.wish(X:Cx)(E:VSP):Cx:= { X with xe:=E}
abbrev Cx.nox(X:Cx):Cx:=X.wish λ_ _=>False
def Cx.Ok.wish{X:Cx}(ok:X.Ok)(E:VSP):(X.wish E).Ok:=
 ⟨ok.mod,ok.kind,ok.glob,ok.blt,ok.above,ok.inj,ok.has,ok.cab,ok.hd,ok.frames,ok.stk,ok.exf,ok.bs,ok.bsz,ok.noex,ok.exfs,ok.funs,ok.frf⟩
def Cx.Ok.unwish{X:Cx}{E:VSP}(ok:(X.wish E).Ok):X.Ok:=
 ⟨ok.mod,ok.kind,ok.glob,ok.blt,ok.above,ok.inj,ok.has,ok.cab,ok.hd,ok.frames,ok.stk,ok.exf,ok.bs,ok.bsz,ok.noex,ok.exfs,ok.funs,ok.frf⟩
section
variable{X:Cx}{ad:List (yQ × Obj)}{σ:St}{H:Hp}{s:yR}{E:yY}
def Ac.wish(I:Ac X ad σ H s)(E:VSP):Ac (X.wish E) ad σ H s:=⟨I.ok.wish E,I.os,I.bare,I.base,I.loc,I.cell,I.free,I.freeC,I.pin,I.hok,I.len⟩
def Ac.unwish(I:Ac (X.wish E) ad σ H s):Ac X ad σ H s:=⟨I.ok.unwish,I.os,I.bare,I.base,I.loc,I.cell,I.free,I.freeC,I.pin,I.hok,I.len⟩
def SP.unwish{D:Db}{f:Flow}{s':yR}(h:SP (X.wish E) ad D f s'):SP X ad D f s':=by
 cases f with
 |next=>obtain⟨g,z,I,q⟩:=h;exact⟨g,z,I.unwish,q⟩
 |brk=>obtain⟨g,z,I,q⟩:=h;exact⟨g,z,I.unwish,q⟩
 |cont=>obtain⟨g,z,I,q⟩:=h;exact⟨g,z,I.unwish,q⟩
 |ret u=>obtain⟨v,g,z,I,r,q⟩:=h;exact⟨v,g,z,I.unwish,r,q⟩
def PSs.nox{st:List Stmt}{t:TS}(h:PSs X.nox st t):PSs X st t:=λad s G H D I g=>
 Zf (h ad s G H D (I.wish _) g) (λ_ _ q=>q.unwish) λ_ _ z=>False.elim z
end
section
variable{X:Cx}{st:Stmt}{rest:List Stmt}{t u:TS}{e:yJ}{te:TE}{pos:Pos}
def Mp:TS:=λD g H=>D.nx g H
def Mq(t u:TS):TS:=λD g H=>t { D with nx:=u D} g H
def AZ:PSs X [] Mp:=λ_ _ g H _ I h=>cG ⟨g,H,I,h⟩
def Ai(z:PS X st t)(J:PSs X rest u):PSs X (st::rest) (Mq t u):=by
 intro ad s G H D I h;refine dU (Ap (z ad s G H { D with nx:=u D} I h) λf L q=>?_);cases f with
 |next=>
  obtain⟨g,Z,O,q⟩:=q;exact J ad L g Z D O q
 |ret v=>exact q
 |brk=>exact q
 |cont=>exact q
def An(g:PS X st t):PSs X [st] t:=by
 intro ad s z H D I h;refine dU (Ap (g ad s z H D I h) λf G q=>?_);cases f with
 |next=>exact cG q
 |ret v=>exact q
 |brk=>exact q
 |cont=>exact q
def Ac.quiet{ad:PNs}{g:St}{H:Hp}{s:yR}(I:Ac X ad g H s):interactive X.env=false:=by simp[interactive,I.ok.kind]
def Qh(G:TE):TS:=λD g H=>G g H λ_ z=>D.nx g z
def A8(z:PE X e te)(L:autoParam (swapsWith e none pos.line X.env=pure false) m5):PS X (.Expr e pos) (Qh te):=by
 intro ad s g H D I h;exact wpAny_Expr_any (Ap (z ad s g H _ I h) λv Z ⟨x,J,O,r1,G⟩=>⟨g,J,O,G⟩) I.quiet L
def Qi(g:TE):TS:=λD z H=>g z H D.rt
def Av(z:PE X e te):PS X (.Return (some e) pos) (Qi te):=by
 intro ad s g H D I h;exact wpAny_Return_some (Ap (z ad s g H _ I h) λv Z ⟨x,J,O,L,G⟩=>⟨x,g,J,O,L,G⟩)
def Qj:TS:=λ_ _ _=>False
def Km:PS X st Qj:=λ_ _ _ _ _ _ h=>h.elim
end
abbrev TG:=V->St->Hp->(St->Hp->Prop)->Prop
abbrev Du:=List V->St->Hp->(St->Hp->Prop)->Prop
def PG(X:Cx)(g:yJ)(t:TG):Prop:=
 ∀(ad:PNs) (s:yR) (D:St) (H:Hp) (v:V) (u:yU) (Q:St->Hp->Prop),Ac X ad D H s->RelV v u->t v D H Q->
  wpAny (model X.prog X.w) X.A (assign g X.env u) (λ_ I=>∃z G,Ac X ad z G I/\Q z G) X.xe s
def Fl(X:Cx)(L:List yJ)(t:Du):Prop:=
 ∀(ad:PNs) (s:yR) (G:St) (H:Hp) (D:List V) (z:yX) (Q:St->Hp->Prop),Ac X ad G H s->At D z->t D G H Q->
  wpAny (model X.prog X.w) X.A (assignInOrder ((assignEach L X.env).map (·.2)) z) (λ_ J=>∃g I,Ac X ad g I J/\Q g I) X.xe s
abbrev Gg:=V->V->V->Hp->(Hp->Prop)->Prop
def Kn(X:Cx)(t:Gg):Prop:=
 ∀(ad:PNs) (s:yR) (D:St) (H:Hp) (o i v:V) (z g u:yU) (Q:Hp->Prop),Ac X ad D H s->RelV o z->RelV i g->RelV v u->t o i v H Q->
  wpAny (model X.prog X.w) X.A (setItem z g u) (λ_ I=>∃G,Ac X ad D G I/\Q G) X.xe s
abbrev Fm:=V->V->Hp->VK->Prop
def HB(X:Cx)(op:Operator)(t:Fm):Prop:=
 ∀(ad:PNs) (s:yR) (g:St) (H:Hp) (x y:V) (v u:yU) (Q:VK),Ac X ad g H s->RelV x v->RelV y u->t x y H Q->
  wpAny (model X.prog X.w) X.A (inplaceOp op v u) (EP X ad g Q) X.xe s
section
variable{X:Cx}{pos:Pos}
def DS(i:Nat):TG:=λv g H Q=>Q (g.set i (some v)) H
def Qk{x:Str}(D:X.N.Nodup)(hi:X.N[i]? =some x)(g:Ek X.env.scope x)(z:autoParam (X.fn x=true\/X.env.scope.names.lookup x=some .local) F'):PG X (.Name x pos) (DS i):=by
 intro ad s L H v u Q I r h;exact dI (Fj I D hi g r (λJ G=>⟨_,H,G,h⟩) z)
def Ql:Du:=λg z H Q=>g=[]/\Q z H
inductive Qm(t:TG)(u:Du)(z:List V)(D:L2.St)(H:Hp)(Q:L2.St->Hp->Prop):Prop
 |mk(v r:_)(_:z=v::r)(_:t v D H fun g G=>u r g G Q)
def AJ:Fl X [] Ql:=by
 intro ad s g H z D Q I r h;obtain⟨e,h⟩:=h;subst e;cases r;exact assignInOrder_nil ⟨g,H,I,h⟩
def Aj{e:yJ}{es:List yJ}{t:TG}{u:Du}(h1:PG X e t)(z:Fl X es u)
  (D:autoParam ((assignEach (e::es) X.env).map (·.2)=assign e X.env::(assignEach es X.env).map (·.2)) m5):Fl X (e::es) (Qm t u):=by
 intro ad s G H vs us Q I r h;obtain⟨v,vr,e1,h⟩:=h;subst e1;cases r with
 |cons r rr=>
  rw[D];refine du (Ap (h1 ad s G H _ _ _ I r h) λ_ J zq=>?_);obtain⟨g,Z,L,O⟩:=zq;exact z ad J g Z _ _ Q L rr O
inductive Mr(K:Fgx)(n:Nat)(t:Du)(v:V)(z:L2.St)(H:Hp)(Q:L2.St->Hp->Prop):Prop
 |mk(a g:_)(_:v= .ref a)(_:Ae K H a g)(_:g.length=n)(_:t g z H Q)
def Qn{es:List yJ}{k:Nat}{t:Du}{n:Nat}(Z:X.calm=true)(h:Fl X es t)
  (hn:autoParam ((assignEach es X.env).length=n) m5) (z:autoParam ((assignEach es X.env).findIdx? (·.1)=none) m5):PG X (.Tuple es k pos) (Mr X.K n t):=by
 intro ad s D H v u Q I r g;obtain⟨a,xs,e1,J,L,g⟩:=g;subst e1;cases r;obtain⟨i0,rv,ht,hz⟩:=I.tuple J;refine assign_Tuple_tuple (I.ok.hd Z) ht (by simp[hn,<-L,rv.length]) z λG hx=>?_
 have O:Ac X ad D H { s with heap:=G}:=I.kept (t':=s.toks) λb o e=>hx b o (Zc (Y9 e)) e
 exact h ad _ D H xs _ Q O (by simpa using rv) g
def Qo(to G:TE)(t:Gg):TG:=λv g H Q=>to g H λo z=>G g z λi I=>t o i v I λD=>Q g D
def Mu{o i:yJ}{to:TE}{t:Gg}(ho:PE X o to)(hi:PE X i ti)(L:Kn X t)
  (ha : autoParam (∀ v, assign (.Subscript o i pos) X.env v = (do
   let g<-holding [v] (eval o X.env)
   let z<-holding [v,g] (eval i X.env)
   standAt pos
   holding [v,g,z] (setItem g z v)
   release [v,g,z] [])) W0):PG X (.Subscript o i pos) (Qo to ti t):=by
 intro ad s G H v u Q I r h;rw[ha];refine Y1 (Zn (Ap (ho ad s G H _ I h) λg s1 D=>?_));obtain⟨x,H1,I1,r1,q1⟩:=D;refine Y1 (Zn (Ap (hi ad s1 G H1 _ I1 q1) λz s2 D=>?_));obtain⟨y,H2,J,Z,q2⟩:=D;refine Y1 (ag (Y1 (Zn (Ap (L ad s2 G H2 x y v g z u _ J r1 Z r q2) λ_ s3 D=>?_))));obtain⟨H3,I3,O⟩:=D;exact wpAny_release ⟨G,H3,I3,O⟩
def Mv(I:TE)(g:TG):TS:=λD z H=>I z H λx G=>g x z G D.nx
def Bb{e:yJ}{G:TE}{g:TG}(he:PE X e G)(hg:PG X tg g)(J:autoParam (swapsWithSole [tg] e pos.line X.env=pure false) m5)(L:autoParam (swappedStores [tg] e X.env=pure none) m5)
  (h1:autoParam ((assignEach [tg] X.env).map (·.2)=[assign tg X.env]) m5):PS X (.Assign [tg] e pos) (Mv G g):=by
 intro ad s z H D I h;refine wpAny_Assign_stores (Ap (he ad s z H _ I h) λv O zq=>?_) J L;obtain⟨x,H1,Z,r1,q1⟩:=zq;rw[h1];exact Ap (hg ad O z H1 x v _ Z r1 q1) λ_ s2 q=>q
def AE{i:Nat}{x:Str}{e:yJ}{z:TE}{g:Pos}(hN:X.N.Nodup)(hi:X.N[i]? =some x)(hx:Ek X.env.scope x)(he:PE X e z)(L:autoParam (swapsWith e (some (.Name x g)) pos.line X.env=pure false) m5)(G:autoParam (X.fn x=true\/X.env.scope.names.lookup x=some .local) F'):
  PS X (.Assign [.Name x g] e pos) (Mv z (DS i)):=by
 intro ad s O H D I h;refine wpAny_Assign_Name (Ap (he ad s O H _ I h) λv s1 zq=>?_) L;obtain⟨y,H1,Z,r1,q1⟩:=zq;exact Fj Z hN hi hx r1 (λs2 J=>⟨_,H1,J,q1⟩) G
def Qp(i j:Nat)(I:TA):TS:=λD g H=>I g H λG z=>∃v w,G=[v,w]/\D.nx ((g.set i (some v)).set j (some w)) z
def Qq{j:Nat}{x y:Str}{a b:yJ}{ta:TA}{px O pt:Pos}{kt k2 pt2}(hc:X.calm=true)(hN:X.N.Nodup)(hi:X.N[i]? =some x)(hj:X.N[j]? =some y)(J:i≠j)
  (hx:X.env.scope.names.lookup x=some .local) (hy:X.env.scope.names.lookup y=some .local) (ha:PA X [a,b] ta)
  (hw:swappedStores [.Tuple [.Name x px,.Name y O] kt pt] (.Tuple [a,b] k2 pt2) X.env=pure (some [x,y]))
  (hs:autoParam (swapsWithSole [.Tuple [.Name x px,.Name y O] kt pt] (.Tuple [a,b] k2 pt2) pos.line X.env=pure false) m5):
  PS X (.Assign [.Tuple [.Name x px,.Name y O] kt pt] (.Tuple [a,b] k2 pt2) pos) (Qp i j ta):=by
 intro ad s σ H D I h;rw[exec_Assign_arm];refine Y1 (ag ?_);rw[hs];refine Y1 (Y4 ?_);rw[YY (by decide)];refine Y1 (Tuple_ (Ap (ha _ ad s σ H _ I h) λus g zq=>?_));obtain⟨vs,H1,I1,r1,q1⟩:=zq;obtain⟨v,w,e1,q1⟩:=q1;subst e1;obtain⟨z,G,rfl,rv,Z⟩:∃z G,us=[z,G]/\RelV v z/\RelV w G:=by
  cases r1 with
  |cons p q=>
   cases q with
   |cons p' q'=>
    cases q';exact⟨_,_,rfl,p,p'⟩
 refine ZG ?_ (by show 2<=sizeLine;decide);have I2:Ac X ad σ H1 { g with heap:=g.heap.push { cls:= .type "tuple",data:= .seq [z,G].toArray}}:=I1.kept (t':=g.toks) λb o e=>Y2 _ e
 rw[hw];refine Y1 (Y4 ?_);show wpAny (model X.prog X.w) X.A (do rule "assign.swapped-stores";let items<-unpackItems (.ref g.heap.objs.size) 2 none;assignInOrder [λv=>bindName X.env y v,λv=>bindName X.env x v] items.reverse;pure Flow.next) _ _ _;refine Y1 (bS (Y1 (unpackItems_tuple (items:= #[z,G]) (I.ok.hd hc) (IsTup.new g.heap _) λh' L=>?_)));have I3:=I2.kept (h':=h') (t':=g.toks) λb o e=>L b o (Zc (Y9 e)) e
 show wpAny _ _ (assignInOrder [λv=>bindName X.env y v,λv=>bindName X.env x v] [G,z] >>=λ_=>pure Flow.next) _ _ _;refine Y1 (du (wpAny_bindName (Fj I3 hN hj (.inl hy) Z (λs2 I4=>?_) (.inr hy))));refine du (wpAny_bindName (Fj I4 hN hi (.inl hx) rv (λs3 I5=>assignInOrder_nil (Y4 ?_)) (.inr hx)));rw[List.set_comm _ _ (Zd J)]at I5;exact⟨_,H1,I5,q1⟩
inductive Qr(i:Nat)(I:TE)(J:Fm)(D:Db)(g:L2.St)(H:Hp):Prop
 |mk(x:_)(_:g[i]? =some (some x))(_:I g H λy G=>J x y G λz L=>D.nx (g.set i (some z)) L)
def Mw{x:Str}{e:yJ}{te:TE}{ti:Fm}{J:Pos}(hN:X.N.Nodup)(hi:X.N[i]? =some x)(hx:Ek X.env.scope x)(he:PE X e te)(ho:HB X op ti)(hf:autoParam (X.fn x=true\/X.env.scope.names.lookup x=some .local) F'):
  PS X (.AugAssign (.Name x J) op e pos) (Qr i te ti):=by
 intro ad s σ H D I h;obtain⟨v,e1,h⟩:=h;obtain⟨m,hn,hl⟩:=I.loc;have O:Ej X.env.scope x:=by rcases hx with k | k;exact .inl k;exact .inr (.inl k)
 obtain⟨u,r,l⟩:=hl i x v hi e1 O;refine wpAny_AugAssign_Name ?_;have go:wpAny (model X.prog X.w) X.A (eval e X.env) (λw G=>wpAny (model X.prog X.w) X.A (inplaceOp op u w) (λr L=>wpAny (model X.prog X.w) X.A (storeName X.env x r) (λ_=>SP X ad D .next) X.xe L) X.xe G) X.xe s:=by
  refine Ap (he ad s σ H _ I h) λw s1 Z=>?_
  obtain⟨y,H1,I1,r1,q1⟩:=Z;refine Ap (ho ad s1 σ H1 v y u w _ I1 r r1 q1) λz s2 Z=>?_
  obtain⟨zv,H2,I2,r2,q2⟩:=Z;exact Fj I2 hN hi hx r2 (λs3 I3=>⟨_,H2,I3,q2⟩) hf
 rcases l with⟨g,hm⟩ | ⟨g,c,hc,hcell⟩
 .exact wpAny_loadName_local I.ok.kind g hn hm go
 .rcases g with g | g
  .exact wpAny_loadName_cell I.ok.kind g hc hcell go
  .rcases hx with k | k
   .have:X.env.scope.names.lookup x=some .free:=g;rw[k]at this;cases this
   .have:X.env.scope.names.lookup x=some .free:=g;rw[k]at this;cases this
def Qs(to ti te:TE)(g:V->V->Hp->VK->Prop)(J:Fm)(G:Gg):TS:=λD I H=>to I H λo O=>ti I O λi H2=>g o i H2 λx Z=>te I Z λy H4=>J x y H4 λz L=>G o i z L λH6=>D.nx I H6
def Mx(X:Cx)(t:V->V->Hp->VK->Prop):Prop:=
 ∀(ad:PNs) (s:yR) (D:St) (H:Hp) (o i:V) (z g:yU) (Q:VK),Ac X ad D H s->RelV o z->RelV i g->t o i H Q->
  wpAny (model X.prog X.w) X.A (getItem z g) (EP X ad D Q) X.xe s
def My{o i e:yJ}{to te:TE}{G:V->V->Hp->VK->Prop}{i0:Fm}{z:Gg}{Z:Pos}(ho:PE X o to)(hi:PE X i ti)(hg:Mx X G)(he:PE X e te)(hp:HB X op i0)(hs:Kn X z)
  (ha:autoParam (∀O L new,augStore i O L new=(do holding [new,O,L] (setItem O L new);release [new,O,L] [];pure .next)) L'):PS X (.AugAssign (.Subscript o i Z) op e pos) (Qs to ti te G i0 z):=by
 intro ad s J H D I h;refine wpAny_AugAssign_SubscriptAny (Ap (ho ad s J H _ I h) λO s1 g=>?_) ha;obtain⟨x1,H1,I1,r1,q1⟩:=g;refine Ap (hi ad s1 J H1 _ I1 q1) λL s2 g=>?_
 obtain⟨x2,H2,I2,r2,q2⟩:=g;refine Ap (hg ad s2 J H2 x1 x2 O L _ I2 r1 r2 q2) λi4 s3 g=>?_
 obtain⟨x3,H3,I3,r3,q3⟩:=g;refine Ap (he ad s3 J H3 _ I3 q3) λv s4 g=>?_
 obtain⟨x4,H4,I4,r4,q4⟩:=g;refine Ap (hp ad s4 J H4 x3 x4 i4 v _ I4 r3 r4 q4) λnew s5 g=>?_
 obtain⟨x5,H5,I5,r5,q5⟩:=g;exact Ap (hs ad s5 J H5 x1 x2 x5 O L new _ I5 r1 r2 r5 q5) λ_ s6 ⟨H6,I6,q6⟩=>⟨J,H6,I6,q6⟩
inductive Mz(f:Int->Int->Int)(x y:V)(H:Hp)(Q:VK):Prop
 |mk(i j:_)(_:x= .int i)(_:y= .int j)(_:Q (.int (f i j)) H)
def Ko:HB X .Add (Mz λi j=>i+j):=by
 intro ad s J H x y v u Q I G g h;obtain⟨i,j,z,D,q⟩:=h;subst z;subst D;obtain⟨t,rfl⟩:=G;obtain⟨L,rfl⟩:=g;exact iadd_int ⟨.int _,H,I.tok _,⟨_,rfl⟩,q⟩
def Qt:HB X .Sub (Mz λi j=>i-j):=by
 intro ad s J H x y v u Q I G g h;obtain⟨i,j,z,D,q⟩:=h;subst z;subst D;obtain⟨t,rfl⟩:=G;obtain⟨L,rfl⟩:=g;exact isub_int ⟨.int _,H,I.tok _,⟨_,rfl⟩,q⟩
def Qu(c:TT)(L:TS):TS:=λD g H=>∃W:Nat->St->Hp->Prop,(∃m,W m g H)/\∀m g H,W m g H->
 c g H λb G=>if b=true then ∃N:St->Hp->Prop,(∀z I,N z I->∃J,J<m/\W J z I)/\L { D with nx:=N,ct:=N,bk:=D.nx} g G else D.nx g G
def Qv{c:yJ}{body:List Stmt}{tc:TT}{tb:TS}(hp:PassesOwn (model X.prog X.w) X.A X.env X.xe)(hc:PT X c tc)(hb:PSs X body tb):PS X (.While c body [] pos) (Qu tc tb):=by
 intro ad s σ H D I h;obtain⟨W,⟨m0,w0⟩,z⟩:=h;refine wpAny_While (codeAny_whileLoop (λn s'=>∃G H',Ac X ad G H' s'/\W n G H') ?_ m0 ⟨σ,H,I,w0⟩);rintro n s1 ⟨σ1,H1,I1,w1⟩;refine aM hp (Ap (hc ad s1 σ1 H1 _ I1 (z n σ1 H1 w1)) λb s2 zq=>?_);obtain⟨H2,I2,O⟩:=zq;cases b with
 |true=>
  obtain⟨N,hN,O⟩:=O;rw[Z1 rfl];refine aM hp (Ap (hb ad s2 σ1 H2 _ I2 O) λf s3 L=>?_);cases f with
  |next=>
   obtain⟨g,J,I3,n3⟩:=L;obtain⟨m',hm,Z⟩:=hN g J n3;exact⟨m',hm,g,J,I3,Z⟩
  |cont=>
   obtain⟨g,J,I3,n3⟩:=L;obtain⟨m',hm,Z⟩:=hN g J n3;exact⟨m',hm,g,J,I3,Z⟩
  |brk=>exact L
  |ret v=>exact L
 |false=>
  rw[YY YZ];exact cG ⟨σ1,H2,I2,O⟩
end
structure It where
 go:Nat->Hp->Prop
 yld:Nat->Hp->V->Hp->Prop
 stop:Nat->Hp->Prop
def BS(X:Cx)(ad:PNs)(H:Hp)(b:yQ):Prop:=
 H b=none/\b≠X.env.locals/\b ∉ X.fs/\(b∈X.ex\/X.s₀.heap.objs.size<=b)/\(∀x c,X.env.cells.lookup x=some c->c≠b)/\∀p∈X.pn++ad,p.1≠b
def Ac.fpOk{X:Cx}{ad:PNs}{G:St}{H H':Hp}{s:yR}{b:yQ}(I:Ac X ad G H s)(g:s.heap.objs.size<=b)(J:H' b=none):BS X ad H' b:=by
 refine⟨J,aa (YX I.lt g),I.nofs g,.inr (Ze I.sz g),λx c e z=>?_,λp D z=>?_⟩
 .obtain⟨v,q⟩:=I.cell x c e;exact absurd (YX q.lt (by rw[z];exact g)) (Z8 _)
 .exact absurd (YX (Y9 (I.pin p D).1) (by rw[z];exact g)) (Z8 _)
structure Dv(P:yO)(w:yK)(K:Fgx)(tg:yJ)(J:It)(fp:List yQ)(it:yQ)(tn:Nat->Heap->Prop):Prop where
 mem:it∈fp
 obj:∀i h,tn i h->∀b∈fp,∃o,h.get? b=some o/\∀v,o.data≠ .cell v
 keep:∀i h h',tn i h->(∀b∈fp,∀o,h.get? b=some o->h'.get? b=some o)->tn i h'
 item:∀(X:Cx),X.prog=P->X.w=w->X.K=K->X.calm=true->∀(i:Nat) (ad:PNs) (s:yR) (σ:St) (H:Hp) (E:VSP),Ac X ad σ H s->(∀b∈fp,BS X ad H b)->tn i s.heap->J.go i H->
  wpAny (model P w) X.A (pyNext (.ref it)) (λr s1=>∃u,r=some u/\
   wpAny (model P w) X.A (letOwnedTupleGo tg (.ref it) u) (λ_ s2=>∃x H',Ac X ad σ H' s2/\RelV x u/\J.yld i H x H'/\tn (i+1) s2.heap/\∀b∈fp,H' b=none) E s1) E s
 done:∀(X:Cx),X.prog=P->X.w=w->X.K=K->X.calm=true->∀(i:Nat) (ad:PNs) (s:yR) (σ:St) (H:Hp) (E:VSP),Ac X ad σ H s->(∀b∈fp,BS X ad H b)->tn i s.heap->J.stop i H->
  wpAny (model P w) X.A (pyNext (.ref it)) (λr s1=>r=none/\Ac X ad σ H s1) E s
 self:∀(A:yL) (i:Nat) (s:yR) (Q:VSP) (E:VSP),tn i s.heap->Q (.ref it) s->wpAny (model P w) A (pyIter (.ref it)) Q E s
abbrev TI:=St->Hp->(It->Hp->Prop)->Prop
def MA(X:Cx)(ad:PNs)(O:St)(L:yJ)(R:It->Hp->Prop)(Z:yU)(z:yR):Prop:=
 ∃(G:yQ) (D:List yQ) (I:Nat->Heap->Prop) (J:It) (g:Hp),Z= .ref G/\Ac X ad O g z/\Dv X.prog X.w X.K L J D G I/\I 0 z.heap/\(∀b∈D,BS X ad g b)/\R J g
def PI(X:Cx)(D g:yJ)(I:TI):Prop:=
 ∀(ad:PNs) (s:yR) (z:St) (H:Hp) (R:It->Hp->Prop),Ac X ad z H s->I z H R->
  wpAny (model X.prog X.w) X.A (eval g X.env) (λv G=>wpAny (model X.prog X.w) X.A (pyIter v) (MA X ad z D R) X.xe G) X.xe s
def HC{M:Model}{A:yL}{E:VSP}{s:yR}{z:yJ}{it:yQ}{u:yU}{o:Obj}{n:String}{vs:Array yU}{Q:Unit->yR->Prop}(G:s.heap.get? it=some o)(I:o.cls= .type n)(hd:o.data= .fields vs)
    (D:["enumerate","zip","dict_itemiterator","dict_reverseitemiterator","odict_iterator","itertools.zip_longest","itertools.pairwise"].contains n=false) (g:Q () s):wpAny M A (letOwnedTupleGo z (.ref it) u) Q E s:=by
  unfold letOwnedTupleGo;cases z<;>first
    |exact Y4 g
    |(cases u<;>first
        |exact Y4 g
        |(refine Y1 (wpAny_load G ?_);rw[I,hd];show wpAny M A (if (["enumerate","zip","dict_itemiterator","dict_reverseitemiterator","odict_iterator","itertools.zip_longest","itertools.pairwise"].contains n && vs[0]? ==some (rawInt _))=true then _ else _) Q E s;rw[YY (by intro h;rw[D,aq]at h;cases h)];exact Y4 g))
def Fo(K:Fgx)(a:yQ):It:=
 ⟨λi H=>∃g x,Al K H a g/\g[i]? =some x,λi H x z=>z=H/\∀g,Al K H a g->g[i]? =some x,λi H=>∃g,Al K H a g/\g.length<=i⟩
def EM(K:Fgx)(a:yQ):It:=
 ⟨λi H=>∃g x,Ae K H a g/\g[i]? =some x,λi H x z=>z=H/\∀g,Ae K H a g->g[i]? =some x,λi H=>∃g,Ae K H a g/\g.length<=i⟩
def Dx(lo:Int)(n:Nat):It:=⟨λi _=>i<n,λi H x g=>g=H/\x= .int (lo+i),λi _=>n<=i⟩
def Qw{w:yK}{K:Fgx}(a it:yQ):Dv P w K tg (Fo K a) [it] it (λi h=>h.IsListIter it a i) where
 mem:=by simp
 obj:=λi h st b g=>by
  have e:b=it:=by simpa using g
  subst e;obtain⟨o,e,c,d⟩:=st;exact⟨o,e,λv z=>by rw[d]at z;cases z⟩
 keep:=λi h G st k=>st.at λo e=>k it (by simp) o e
 item:=by
  intro X Z hw hK hc i ad s σ H E I J st hg;subst Z hw hK;obtain⟨xs,x,L,hx⟩:=hg;obtain⟨i0,rv,p,hz⟩:=I.list L;obtain⟨u,hu,ru⟩:=rv.get hx;obtain⟨f0,O,f2,f3,f4,f5⟩:=J it (by simp);refine eR st p.isList (x:=u) (by simpa using hu) λG D sb=>?_
  have I1:Ac X ad σ H { s with heap:=G}:=I.turned (t':=s.toks) (λb o g e=>(sb.2 b g).trans e) f0 O f3 f4 f5;obtain⟨o,e,c,d⟩:=id D;exact⟨u,rfl,HC (s:= { s with heap:=G}) e c d (by decide) ⟨x,H,I1,ru,⟨rfl,λys hy=>by rw[I.list_inj hy L];exact hx⟩,D,λb g=>(J b g).1⟩⟩
 done:=by
  intro X Z hw hK hc i ad s σ H E I J st hg;subst Z hw hK;obtain⟨xs,L,hx⟩:=hg;obtain⟨i0,rv,p,hz⟩:=I.list L;obtain⟨f0,O,f2,f3,f4,f5⟩:=J it (by simp);have hl:=rv.length;exact f9 (I.ok.hd hc) st p.isList (by simp;lia) λG eb=>⟨rfl,I.turned (t':=s.toks) (λb o g e=>eb b o g e) f0 O f3 f4 f5⟩
 self:=λ_ _ _ _ _ st h=>wpAny_pyIter_listiter st h
def Qx{w:yK}{K:Fgx}(a it:yQ):Dv P w K tg (EM K a) [it] it (λi h=>h.IsTupleIter it a i) where
 mem:=by simp
 obj:=λi h st b g=>by
  have e:b=it:=by simpa using g
  subst e;obtain⟨o,e,c,d⟩:=st;exact⟨o,e,λv z=>by rw[d]at z;cases z⟩
 keep:=λi h J st k=>st.at λo e=>k it (by simp) o e
 item:=by
  intro X hP hw hK hc i ad s σ H E I L st hg;subst hP hw hK;obtain⟨xs,x,O,hx⟩:=hg;obtain⟨D,rv,p,hz⟩:=I.tuple O;obtain⟨u,hu,ru⟩:=rv.get hx;obtain⟨f0,Z,f2,f3,f4,f5⟩:=L it (by simp);refine wpAny_pyNext_tuple_item st (show s.heap.IsTuple a D.toArray from p) (x:=u) (by simpa using hu) λJ G sb=>?_
  have I1:Ac X ad σ H { s with heap:=J}:=I.turned (t':=s.toks) (λb o g e=>(sb.2 b g).trans e) f0 Z f3 f4 f5;obtain⟨o,e,c,d⟩:=id G;exact⟨u,rfl,HC (s:= { s with heap:=J}) e c d (by decide) ⟨x,H,I1,ru,⟨rfl,λys hy=>by rw[I.tuple_inj hy O];exact hx⟩,G,λb g=>(L b g).1⟩⟩
 done:=by
  intro X hP hw hK hc i ad s σ H E I L st hg;subst hP hw hK;obtain⟨xs,O,hx⟩:=hg;obtain⟨D,rv,p,hz⟩:=I.tuple O;obtain⟨f0,Z,f2,f3,f4,f5⟩:=L it (by simp);have hl:=rv.length;exact wpAny_pyNext_tuple_end (I.ok.hd hc) st (show s.heap.IsTuple a D.toArray from p) (by simp;lia) λJ eb=>⟨rfl,I.turned (t':=s.toks) (λb o g e=>eb b o g e) f0 Z f3 f4 f5⟩
 self:=λ_ _ _ _ _ st h=>wpAny_pyIter_tupleiter st h
def Qy{w:yK}{K:Fgx}(it:yQ)(lo:Int)(n:Nat):Dv P w K tg (Dx lo n) [it] it (λi h=>IsRangeIter h it (lo+(i:Nat) * 1) ((n:Int)-(i:Nat)) 1) where
 mem:=by simp
 obj:=λi h st b g=>by
  have e:b=it:=by simpa using g
  subst e;exact⟨_,st,λv z=>by
   have z':Data.fields _=Data.cell v:=z;cases z'⟩
 keep:=λi h G st k=>k it (by simp) _ st
 item:=by
  intro X O Z hK hc i ad s σ H E I J st hg;subst O Z hK;obtain⟨f0,L,f2,f3,f4,f5⟩:=J it (by simp);have W:=Walks.range (prog:=X.prog) (w:=X.w) (I.ok.hd hc) it lo 1 n;refine W.item i s _ _ hg st λv G tk hv D kk=>?_
  obtain⟨t,rfl⟩:=hv;have I1:Ac X ad σ H { s with heap:=G,toks:=tk}:=I.turned (λb o g e=>kk b o (by simpa using g) e) f0 L f3 f4 f5;refine⟨_,rfl,HC (s:= { s with heap:=G,toks:=tk}) (n:="range_iterator") D rfl rfl (by decide) ⟨.int (lo+i),H,I1,⟨t,?_⟩,⟨rfl,rfl⟩,D,λb g=>(J b g).1⟩⟩;rw[Int.mul_one]
 done:=by
  intro X O Z hK hc i ad s σ H E I J st hg;subst O Z hK;obtain⟨f0,L,f2,f3,f4,f5⟩:=J it (by simp);exact eS (I.ok.hd hc) st (by have:n<=i:=hg;lia) λG eb=>⟨rfl,I.turned (t':=s.toks) (λb o g e=>eb b o g e) f0 L f3 f4 f5⟩
 self:=λ_ _ _ _ _ st h=>bW st h
end L2
namespace L2
variable{tl:TE}{ad:List (yQ × Obj)}{σ:St}{H:Hp}{s:yR}{fp:List yQ}{h:Heap}{xs:List V}{g:TG}{tb:TS}{D:Db}
section
variable{X:Cx}{tg:yJ}
inductive MB_(K:Fgx)(R:It->Hp->Prop)(x:V)(g:Hp):Prop
 |mk(a:_)(_:x= .ref a)(_:(∃z,Al K g a z))(_:R (Fo K a) g)
def MB(K:Fgx)(D:TE):TI:=fun G H R=>D G H λx g=>MB_ K R x g
inductive MC_(K:Fgx)(R:It->Hp->Prop)(x:V)(g:Hp):Prop
 |mk(a:_)(_:x= .ref a)(_:(∃z,Ae K g a z))(_:R (EM K a) g)
def MC(K:Fgx)(D:TE):TI:=fun G H R=>D G H λx g=>MC_ K R x g
def Qz{l:yJ}(J:PE X l tl):PI X tg l (MB X.K tl):=by
 intro ad s G H R I h;refine Ap (J ad s G H _ I h) λv g zq=>?_
 obtain⟨x,Z,z,r1,O⟩:=zq;obtain⟨a,e,⟨xs,D⟩,q⟩:=O;subst e;cases r1;obtain⟨i0,rv,p,hz⟩:=z.list D;refine aW p.isList ?_;refine⟨g.heap.objs.size,[g.heap.objs.size],_,_,Z,rfl,z.kept (t':=g.toks) λb o e=>Y2 _ e,Qw a _,⟨_,YV _ rfl,rfl,rfl⟩,λb L=>?_,q⟩;have e:b=g.heap.objs.size:=by simpa using L
 subst e;exact z.fpOk (Y5 _) (z.hok.fresh (Y5 _))
def QA{l:yJ}(L:PE X l tl):PI X tg l (MC X.K tl):=by
 intro ad s J H R I h;refine Ap (L ad s J H _ I h) λv g zq=>?_
 obtain⟨x,H1,z,r1,Z⟩:=zq;obtain⟨a,e,⟨xs,G⟩,q⟩:=Z;subst e;cases r1;obtain⟨D,rv,p,hz⟩:=z.tuple G;refine ac (show g.heap.IsTuple a D.toArray from p) ?_;refine⟨g.heap.objs.size,[g.heap.objs.size],_,_,H1,rfl,z.kept (t':=g.toks) λb o e=>Y2 _ e,Qx a _,⟨_,YV _ rfl,rfl,rfl⟩,λb O=>?_,q⟩;have e:b=g.heap.objs.size:=by simpa using O
 subst e;exact z.fpOk (Y5 _) (z.hok.fresh (Y5 _))
def MD{R:It->Hp->Prop}{E:VSP}{lo hi:Int}{t u v:Tok}{tk:Nat}(I:Ac X ad σ H s)(L: -(2 ^ 62)<=lo)(z:lo<2 ^ 62)(O: -(2 ^ 62)<=hi)(h4:hi<2 ^ 62)
  (q:R (Dx lo (hi-lo).toNat) H):wpAny (model X.prog X.w) X.A (pyIter (.ref s.heap.objs.size)) (MA X ad σ tg R) E { s with heap:=s.heap.push { cls:= .type "range",data:= .fields #[.int lo t,.int hi u,.int 1 v]},toks:=tk}:=by
 refine wpAny_pyIter_range (IsRange.new ..) (small_one L z O h4) ?_;have g:Ac X ad σ H { s with heap:=s.heap.push { cls:= .type "range",data:= .fields #[.int lo t,.int hi u,.int 1 v]},toks:=tk}:=I.kept λb o e=>Y2 _ e
 refine⟨(s.heap.push { cls:= .type "range",data:= .fields #[.int lo t,.int hi u,.int 1 v]}).objs.size,[(s.heap.push { cls:= .type "range",data:= .fields #[.int lo t,.int hi u,.int 1 v]}).objs.size],_,_,H,rfl,
  g.kept (t':=tk) λb o e=>Y2 _ e,Qy _ lo (hi-lo).toNat,?_,λb D=>?_,q⟩
 .have G:lo+((0:Nat):Int) * 1=lo:=by simp
  have J:(((hi-lo).toNat:Nat):Int)-((0:Nat):Int)=Builtin.Range.rangeSize lo hi 1:=by rw[rangeSize_one];split<;>lia
  show IsRangeIter _ _ (lo+((0:Nat):Int) * 1) ((((hi-lo).toNat:Nat):Int)-((0:Nat):Int)) 1;rw[G,J];exact YV _ rfl
 .have e:b=(s.heap.push { cls:= .type "range",data:= .fields #[.int lo t,.int hi u,.int 1 v]}).objs.size:=by simpa using D
  subst e;exact g.fpOk (Y5 _) (g.hok.fresh (Y5 _))
inductive QB_(R:It->Hp->Prop)(z:List V)(g:Hp):Prop
 |mk(j:Int)(_:z=[.int j])(_:-(2 ^ 62)<=j)(_:j<2 ^ 62)(_:R (Dx 0 j.toNat) g)
def QB(G:TA):TI:=fun D H R=>G D H λz g=>QB_ R z g
def QC(G:TA):TI:=fun D H R=>G D H λz g=>∃i j:Int,z=[.int i,.int j]/\(-(2 ^ 62)<=i/\i<2 ^ 62/\ -(2 ^ 62)<=j/\j<2 ^ 62)/\R (Dx i (j-i).toNat) g
def CD{a:yJ}{D:TA}{p g:Pos}(hg:Gl X "range")(Z:X.mg "range"=none)(ha:PA X [a] D)(G:autoParam (starEach [a] X.env=[(false,eval a X.env)]) m5):PI X tg (.Call (.Name "range" p) [a] [] g) (QB D):=by
 intro ad s J H R I h;refine Call_ (Dd I hg Z boot_range (Zy (Ap (ha g ad s J H _ I h) λus s1 zq=>?_) G rfl));obtain⟨vs,H1,O,r1,z⟩:=zq;obtain⟨j,e,z,L,q⟩:=z;subst e;cases r1 with
 |cons r rr=>
  cases rr;obtain⟨t,rfl⟩:=r;exact call_range_1 (MD O (by lia) (by lia) z L (by simpa using q))
def ME{a b:yJ}{G:TA}{p z:Pos}(hg:Gl X "range")(hm:X.mg "range"=none)(ha:PA X [a,b] G)(J:autoParam (starEach [a,b] X.env=[(false,eval a X.env),(false,eval b X.env)]) m5)(g:autoParam (starEach [b] X.env=[(false,eval b X.env)]) m5):
  PI X tg (.Call (.Name "range" p) [a,b] [] z) (QC G):=by
 intro ad s O H R I h;refine Call_ (Dd I hg hm boot_range (Zy (Ap (ha z ad s O H _ I h) λus s1 zq=>?_) (by rw[J,g]) (by rw[g];rfl)));obtain⟨vs,H1,I1,r1,D⟩:=zq;obtain⟨i,j,e,⟨D,Z,L,q4⟩,q⟩:=D;subst e;cases r1 with
 |cons r rr=>
  cases rr with
  |cons r' rr=>
   cases rr;obtain⟨t,rfl⟩:=r;obtain⟨t',rfl⟩:=r';exact call_range_2 (MD I1 D Z L q4 q)
def QD(wi:TI)(g:TG)(tb:TS):TS:=λD z H=>wi z H λJ Z=>∃W:Nat->Nat->St->Hp->Prop,(∃m,W 0 m z Z)/\∀i m z H,W i m z H->
 (J.stop i H/\D.nx z H)\/(J.go i H/\∃N:St->Hp->Prop,(∀G I,N G I->∃O,O<m/\W (i+1) O G I)/\∀x I,J.yld i H x I->g x z I fun L H2=>tb { D with nx:=N,ct:=N,bk:=D.nx} L H2)
def De(g:List yQ)(h:Heap):PNs:=g.filterMap λb=>(h.get? b).map λo=>(b,o)
def Fp{b:yQ}{o:Obj}(g:b∈fp)(e:h.get? b=some o):(b,o)∈De fp h:=ZM.mpr ⟨b,g,by rw[e];rfl⟩
def Kp{p:yQ×Obj}(g:p∈De fp h):p.1∈fp/\h.get? p.1=some p.2:=by
 obtain⟨b,D,e⟩:=ZM.mp g;cases q:h.get? b with
 |none=>rw[q]at e;cases e
 |some o=>
  rw[q]at e;have z:(b,o)=p:=Zb e;subst z;exact⟨D,q⟩
def Ac.pinned(I:Ac X ad σ H s)(J:∀b∈fp,BS X ad H b)(G:∀b∈fp,∃o,s.heap.get? b=some o/\∀v,o.data≠ .cell v):Ac X (ad++De fp s.heap) σ H s:=
 I.pins_of λp L=>(ZQ.mp L).elim (λz=>I.pin p (Z5 _ z)) λz=>by
  obtain⟨D,e⟩:=Kp z;obtain⟨f0,O,Z,_⟩:=J p.1 D;obtain⟨o,g,d⟩:=G p.1 D;rw[e]at g;cases g;exact⟨e,f0,O,Z,d⟩
def Ac.unpinned{pl:PNs}(I:Ac X (ad++pl) σ H s):Ac X ad σ H s:=I.pins_of λp g=>I.pin p (Z5 _ (bK _ g))
def B4{Z:yJ}{body:List Stmt}{wi:TI}{g:TG}{tb:TS}{i7:Pos}(hp:PassesOwn (model X.prog X.w) X.A X.env X.xe)(hc:X.calm=true)(hi:PI X tg Z wi)(hg:PG X tg g)(hb:PSs X body tb)
  (hs:autoParam (∀x,foldedSetIterable Z X.env x=pure x) W0):PS X (.For tg Z body [] i7) (QD wi g tb):=by
 intro ad s σ H D I h;refine wpAny_For (Ap (hi ad s σ H _ I h) λv s1 h1=>Ap h1 λgg s2 h2=>?_) hs;obtain⟨it,fp,tn,J,H2,e,I2,T,i8,f2,W,⟨m0,w0⟩,i4⟩:=h2;subst e;have L:∀ {H':Hp},(∀b∈fp,H' b=none)->∀b∈fp,BS X ad H' b:=λhn b hb=>⟨hn b hb,(f2 b hb).2⟩
 refine codeAny_forLoop_any (λn s'=>∃i σ' H',Ac X ad σ' H' s'/\tn i s'.heap/\(∀b∈fp,H' b=none)/\W i n σ' H') ?_ m0 ⟨0,σ,H2,I2,i8,λb hb=>(f2 b hb).1,w0⟩;rintro n s3 ⟨i,σ3,H3,I3,st3,fr3,w3⟩;rcases i4 i n σ3 H3 w3 with⟨stop,qn⟩ | ⟨go,N,hN,step⟩
 .refine aM hp (Ap (T.done X rfl rfl rfl hc i ad s3 σ3 H3 X.xe I3 (L fr3) st3 stop) λr s4 zq=>?_);obtain⟨hr,I4⟩:=zq;subst hr;exact cG ⟨σ3,H3,I4,qn⟩
 .refine aM hp (Ap (T.item X rfl rfl rfl hc i ad s3 σ3 H3 X.xe I3 (L fr3) st3 go) λr s4 zq=>?_);obtain⟨u,hr,h4⟩:=zq;subst hr;refine aM hp (Ap h4 λ_ s5 zq=>?_);obtain⟨x,H5,I5,r5,y5,i0,i6⟩:=zq;have i5:=I5.pinned (L i6) (T.obj _ _ i0);refine aM hp (Ap (hg _ s5 σ3 H5 x u _ i5 r5 (step x H5 y5)) λ_ s6 zq=>?_);obtain⟨σ6,H6,I6,q6⟩:=zq;refine aM hp (Ap (hb _ s6 σ6 H6 _ I6 q6) λf s7 q7=>?_);have again:∀ {z:St}{O:Hp},Ac X (ad++De fp s5.heap) z O s7->N z O->∃m,m<n/\∃i σ' H',Ac X ad σ' H' s7/\tn i s7.heap/\(∀b∈fp,H' b=none)/\W i m σ' H':=λ{z O} G n7=>by
   obtain⟨m',hm,w7⟩:=hN z O n7;refine⟨m',hm,i+1,z,O,G.unpinned,T.keep _ _ _ i0 λb hb o e=>(G.pin (b,o) (Z5 _ (Z5 _ (Fp hb e)))).1,λb hb=>?_,w7⟩;obtain⟨o,e,d⟩:=T.obj _ _ i0 b hb;exact(G.pin (b,o) (Z5 _ (Z5 _ (Fp hb e)))).2.1
  cases f with
  |next=>obtain⟨z,O,G,n7⟩:=q7;exact again G n7
  |cont=>obtain⟨z,O,G,n7⟩:=q7;exact again G n7
  |brk=>obtain⟨z,O,G,q7⟩:=q7;exact⟨z,O,G.unpinned,q7⟩
  |ret v=>obtain⟨x7,z,O,G,r7,q7⟩:=q7;exact⟨x7,z,O,G.unpinned,r7,q7⟩
end
def Gh{K:Fgx}{a:yQ}(G:Nat->St->Hp->Prop)(h0:G 0 z H)(hl:∀i z H,i<=xs.length->G i z H->Al K H a xs)
  (Z:∀i x z H,xs[i]? =some x->G i z H->g x z H fun I L=>tb { D with nx:=G (i+1),ct:=G (i+1),bk:=D.nx} I L) (hd:∀z H,G xs.length z H->D.nx z H):
  ∃W:Nat->Nat->St->Hp->Prop,(∃m,W 0 m z H)/\∀i m z H,W i m z H->
   ((Fo K a).stop i H/\D.nx z H)\/((Fo K a).go i H/\∃N:St->Hp->Prop,(∀σ' H',N σ' H'->∃O,O<m/\W (i+1) O σ' H')/\∀x H',(Fo K a).yld i H x H'->g x z H' fun I L=>tb { D with nx:=N,ct:=N,bk:=D.nx} I L):=by
 refine⟨λi m z H=>m=xs.length-i/\i<=xs.length/\G i z H,⟨xs.length,by simp,Zq _,h0⟩,?_⟩;rintro i m z H ⟨rfl,hi,p⟩;have q:=hl i z H hi p
 by_cases J:i<xs.length
 .refine .inr ⟨⟨xs,xs[i],q,by simp[J]⟩,G (i+1),fun σ' H' p'=>⟨xs.length-(i+1),by lia,rfl,J,p'⟩,λx H' y=>?_⟩;obtain⟨e,y⟩:=y;subst e;exact Z i x z _ (y xs q) p
 .have e:i=xs.length:=by lia
  subst e;exact .inl ⟨⟨xs,q,Y5 _⟩,hd z H p⟩
def QE{K:Fgx}{a:yQ}(G:Nat->St->Hp->Prop)(h0:G 0 z H)(hl:∀i z H,i<=xs.length->G i z H->Ae K H a xs)
  (Z:∀i x z H,xs[i]? =some x->G i z H->g x z H fun I L=>tb { D with nx:=G (i+1),ct:=G (i+1),bk:=D.nx} I L) (hd:∀z H,G xs.length z H->D.nx z H):
  ∃W:Nat->Nat->St->Hp->Prop,(∃m,W 0 m z H)/\∀i m z H,W i m z H->
   ((EM K a).stop i H/\D.nx z H)\/((EM K a).go i H/\∃N:St->Hp->Prop,(∀σ' H',N σ' H'->∃O,O<m/\W (i+1) O σ' H')/\∀x H',(EM K a).yld i H x H'->g x z H' fun I L=>tb { D with nx:=N,ct:=N,bk:=D.nx} I L):=by
 refine⟨λi m z H=>m=xs.length-i/\i<=xs.length/\G i z H,⟨xs.length,by simp,Zq _,h0⟩,?_⟩;rintro i m z H ⟨rfl,hi,p⟩;have q:=hl i z H hi p
 by_cases J:i<xs.length
 .refine .inr ⟨⟨xs,xs[i],q,by simp[J]⟩,G (i+1),fun σ' H' p'=>⟨xs.length-(i+1),by lia,rfl,J,p'⟩,λx H' y=>?_⟩;obtain⟨e,y⟩:=y;subst e;exact Z i x z _ (y xs q) p
 .have e:i=xs.length:=by lia
  subst e;exact .inl ⟨⟨xs,q,Y5 _⟩,hd z H p⟩
def Em{lo:Int}{n:Nat}(G:Nat->St->Hp->Prop)(h0:G 0 z H)
  (Z:∀i z H,i<n->G i z H->g (.int (lo+i)) z H fun I L=>tb { D with nx:=G (i+1),ct:=G (i+1),bk:=D.nx} I L) (hd:∀z H,G n z H->D.nx z H):
  ∃W:Nat->Nat->St->Hp->Prop,(∃m,W 0 m z H)/\∀i m z H,W i m z H->
   ((Dx lo n).stop i H/\D.nx z H)\/((Dx lo n).go i H/\∃N:St->Hp->Prop,(∀σ' H',N σ' H'->∃O,O<m/\W (i+1) O σ' H')/\∀x H',(Dx lo n).yld i H x H'->g x z H' fun I L=>tb { D with nx:=N,ct:=N,bk:=D.nx} I L):=by
 refine⟨λi m z H=>m=n-i/\i<=n/\G i z H,⟨n,by simp,Zq _,h0⟩,?_⟩;rintro i m z H ⟨rfl,hi,p⟩
 by_cases J:i<n
 .refine .inr ⟨J,G (i+1),fun σ' H' p'=>⟨n-(i+1),by lia,rfl,J,p'⟩,λx H' y=>?_⟩;obtain⟨e,y⟩:=y;subst e y;exact Z i z _ J p
 .have e:i=n:=by lia
  subst e;exact .inl ⟨Y5 _,hd z H p⟩
end L2
namespace L2
variable{g:Int -> Int -> Int}{i j:Int}{us:yX}
abbrev R2:=V->V->Hp->VK->Prop
def OpR(X:Cx)(f:yU->yU->Sem yU)(r:R2):Prop:=
 ∀(ad:PNs) (s:yR) (g:St) (H:Hp) (x y:V) (v u:yU) (Q:VK),Ac X ad g H s->RelV x v->RelV y u->r x y H Q->
  wpAny (model X.prog X.w) X.A (f v u) (EP X ad g Q) X.xe s
def Kq(X:Cx)(f:yU->Sem yU)(r:V->Hp->VK->Prop):Prop:=
 ∀(ad:PNs) (s:yR) (g:St) (H:Hp) (x:V) (v:yU) (Q:VK),Ac X ad g H s->RelV x v->r x H Q->
  wpAny (model X.prog X.w) X.A (f v) (EP X ad g Q) X.xe s
def BF(X:Cx)(f:yU)(r:List V->Hp->VK->Prop):Prop:=
 ∀(ad:PNs) (s:yR) (D:St) (H:Hp) (z:List V) (g:yX) (Q:VK),Ac X ad D H s->At z g->r z H Q->
  wpAny (model X.prog X.w) X.A (call f g) (EP X ad D Q) X.xe s
def HD(r:R2)(I z:TE):TE:=fun g H Q=>I g H λx D=>z g D λy G=>r x y G Q
def QF(r:V->Hp->VK->Prop)(D:TE):TE:=fun z H Q=>D z H λx g=>r x g Q
inductive rI(C:Int->Int->Prop)(g:Int->Int->V)(x y:V)(H:Hp)(Q:VK):Prop
 |mk(i j:_)(_:x= .int i)(_:y= .int j)(_:C i j)(_:Q (g i j) H)
inductive Dy(g:Int->Int->V)(x y:V)(H:Hp)(Q:VK):Prop
 |mk(i j:_)(_:x= .int i)(_:y= .int j)(_:Q (g i j) H)
inductive rU(g:Int->V)(x:V)(H:Hp)(Q:VK):Prop
 |mk(i:_)(_:x= .int i)(_:Q (g i) H)
section
variable{X:Cx}{a b c:yJ}{ta tb tc:TE}{pos:Pos}
def Kr(ha:PE X a ta)(hb:PE X b tb){ad:PNs}{s:yR}{g:St}{H:Hp}{R:V->V->Hp->Prop}(I:Ac X ad g H s)
  (h:ta g H λx L=>tb g L λy z=>R x y z) {Q:VSP}{f:yU->yU->Sem yU}
  (Z:∀v u J x y z,Ac X ad g z J->RelV x v->RelV y u->R x y z->wpAny (model X.prog X.w) X.A (f v u) Q X.xe J):
  wpAny (model X.prog X.w) X.A (eval a X.env) (λv D=>wpAny (model X.prog X.w) X.A (eval b X.env) (λu G=>wpAny (model X.prog X.w) X.A (f v u) Q X.xe G) X.xe D) X.xe s:=by
 refine Ap (ha ad s g H _ I h) λv s1 O=>?_
 obtain⟨x,L,I1,r1,q1⟩:=O;refine Ap (hb ad s1 g L _ I1 q1) λu J O=>?_
 obtain⟨y,z,I2,r2,q2⟩:=O;exact Z v u J x y z I2 r1 r2 q2
def Ay{op:Operator}{r:R2}(O:OpR X (binaryOp op) r)(Z:PE X a ta)(G:PE X b tb):PE X (.BinOp a op b pos) (HD r ta tb):=by
 intro ad s D H Q I h;exact wpAny_BinOp (Kr Z G I h λv u J x y H2 z g L q=>O ad J D H2 x y v u Q z g L q)
def QG{op:UnaryOp}{r:V->Hp->VK->Prop}(O:Kq X (unaryOp op) r)(Z:PE X a ta):PE X (.UnaryOp op a pos) (QF r ta):=by
 intro ad s g H Q I h;exact UnaryOp_ (Ap (Z ad s g H _ I h) λv G ⟨x,D,L,J,z⟩=>O ad G g D x v Q L J z)
def HE{f:yU->yU->Sem yU}{C:Int->Int->Prop}
  (rule:∀(i j:Int) (t u:Tok) (s:yR) (Q:VSP) (E:VSP),C i j->Q (.int (g i j) s.toks) { s with toks:=s.toks+1}->wpAny (model X.prog X.w) X.A (f (.int i t) (.int j u)) Q E s):
  OpR X f (rI C λi j=> .int (g i j)):=by
 intro ad s L H x y v u Q I z J h;obtain⟨i,j,rfl,rfl,G,q⟩:=h;obtain⟨t,rfl⟩:=z;obtain⟨D,rfl⟩:=J;exact rule i j t D s _ _ G ⟨.int (g i j),H,I.tok _,⟨_,rfl⟩,q⟩
def MG{f:yU->yU->Sem yU}
  (rule:∀(i j:Int) (t u:Tok) (s:yR) (Q:VSP) (E:VSP),Q (.int (g i j) s.toks) { s with toks:=s.toks+1}->wpAny (model X.prog X.w) X.A (f (.int i t) (.int j u)) Q E s):
  OpR X f (Dy λi j=> .int (g i j)):=by
 intro ad s J H x y v u Q I z G h;obtain⟨i,j,rfl,rfl,q⟩:=h;obtain⟨t,rfl⟩:=z;obtain⟨D,rfl⟩:=G;exact rule i j t D s _ _ ⟨.int (g i j),H,I.tok _,⟨_,rfl⟩,q⟩
def HF{f:yU->yU->Sem yU}{g:Int->Int->Bool}
  (rule:∀(i j:Int) (t u:Tok) (s:yR) (Q:VSP) (E:VSP),Q (.bool (g i j)) s->wpAny (model X.prog X.w) X.A (f (.int i t) (.int j u)) Q E s):
  OpR X f (Dy λi j=> .bl (g i j)):=by
 intro ad s J H x y v u Q I z G h;obtain⟨i,j,rfl,rfl,q⟩:=h;obtain⟨t,rfl⟩:=z;obtain⟨D,rfl⟩:=G;exact rule i j t D s _ _ ⟨.bl (g i j),H,I,rfl,q⟩
def Ks(i j:Int):Prop:=0<j/\j<1073741824
def MH(i j:Int):Prop:=0<=j/\j<=1000000/\i.natAbs<2 ^ 64
def CMul(i j:Int):Prop:=(-(2 ^ 64)<i/\i<2 ^ 64)\/(-(2 ^ 64)<j/\j<2 ^ 64)
def CMul.ok(h:CMul i j):IntMulOk i j:=by
 rcases h with⟨h1,h2⟩ | ⟨h1,h2⟩
 .exact .of_left (intBits_le_64 h1 h2)
 .exact .of_right (intBits_le_64 h1 h2)
def op_add:OpR X (binaryOp .Add) (Dy λi j=> .int (i+j)):=MG λ_ _ _ _ _ _ _ q=>add_int q
def op_sub:OpR X (binaryOp .Sub) (Dy λi j=> .int (i-j)):=MG λ_ _ _ _ _ _ _ q=>sub_int q
def op_mul:OpR X (binaryOp .Mult) (rI CMul λi j=> .int (i * j)):=HE λ_ _ _ _ _ _ _ g q=>mul_int q g.ok
def op_fdiv:OpR X (binaryOp .FloorDiv) (rI Ks λi j=> .int (i / j)):=HE λi j _ _ _ _ _ g q=>by
 have z:(0:Int)<j:=g.1;have D:j<1073741824:=g.2;exact floordiv_int (by lia) (by rw[dD i (by lia)];exact q) (.inl (eW (by lia)))
def op_mod:OpR X (binaryOp .Mod) (rI (λ_ j=>0<j) λi j=> .int (i % j)):=HE λi j _ _ _ _ _ g q=>by
 have z:(0:Int)<j:=g;exact mod_int' (by lia) (by rw[dE i (by lia)];exact q)
def op_pow:OpR X (binaryOp .Pow) (rI MH λi j=> .int (i ^ j.toNat)):=HE λ_ _ _ _ _ _ _ g q=>pow_int_small g.1 g.2.1 g.2.2 q
def QH{f:yU->Sem yU}{g:Int->Int}
  (rule:∀(i:Int) (t:Tok) (s:yR) (Q:VSP) (E:VSP),Q (.int (g i) s.toks) { s with toks:=s.toks+1}->wpAny (model X.prog X.w) X.A (f (.int i t)) Q E s):
  Kq X f (rU λi=> .int (g i)):=by
 intro ad s D H x v Q I z h;obtain⟨i,rfl,q⟩:=h;obtain⟨t,rfl⟩:=z;exact rule i t s _ _ ⟨.int (g i),H,I.tok _,⟨_,rfl⟩,q⟩
def QI:Kq X (unaryOp .USub) (rU λi=> .int (-i)):=QH λ_ _ _ _ _ q=>neg_int q
end
def MI:V->V->Bool
 |.non,.non=>true | .non,.int _=>true | .int _,.non=>true | .non,.bl _=>true | .bl _,.non=>true | .non,.str _=>true | .str _,.non=>true
 |.int _,.int _=>true | .bl _,.bl _=>true | .str _,.str _=>true | .byt _,.byt _=>true
 |.int _,.str _=>true | .str _,.int _=>true | .bl _,.str _=>true | .str _,.bl _=>true
 |_,_=>false
def QJ:R2:=λx y H Q=>MI x y=true/\Q (.bl (decide (x=y))) H
def QK:R2:=λx y H Q=>MI x y=true/\Q (.bl (!decide (x=y))) H
def En:decide (V.int i=V.int j)=(i==j):=by
 rw[bL];simp
def MJ{i j:Bool}:decide (V.bl i=V.bl j)=(i==j):=by
 rw[bL];simp
def MK{i j:Str}:decide (V.str i=V.str j)=(i==j):=by
 rw[bL];simp
def ML{i j:Array UInt8}:decide (V.byt i=V.byt j)=(i.toList==j.toList):=by
 rw[bL];cases i;cases j;simp
variable{X:Cx}{a b c:yJ}{ta tb tc:TE}{pos:Pos}
def A4{ad:PNs}{g:St}{H:Hp}{s:yR}{Q:VK}{k z:Bool}(I:Ac X ad g H s)(q:Q (.bl k) H)(e:k=z):EP X ad g Q (.bool z) s:=by
 subst e;exact⟨.bl k,H,I,rfl,q⟩
def Dz:OpR X (compareOp .Eq) QJ:=by
 intro ad s J H x y v u Q I G g h;obtain⟨D,q⟩:=h;cases x with
 |non=>
  cases G;cases y with
  |non=>cases g;exact PySem.EqNone.eq_none_none (A4 I q (by simp))
  |bl j=>cases g;exact PySem.EqNone.eq_none_bool (A4 I q (by simp))
  |int j=>obtain⟨z,rfl⟩:=g;exact PySem.EqNone.eq_none_int (A4 I q (by simp))
  |str j=>obtain⟨z,rfl⟩:=g;exact PySem.EqNone.eq_none_str (A4 I q (by simp))
  |_=>exact absurd (show false=true from D) YZ
 |bl i=>
  cases G;cases y with
  |non=>cases g;exact PySem.EqNone.eq_bool_none (A4 I q (by simp))
  |bl j=>cases g;exact eq_bool (A4 I q MJ)
  |str j=>obtain⟨z,rfl⟩:=g;exact PySem.EqMixed.eq_bool_str (A4 I q (by simp))
  |_=>exact absurd (show false=true from D) YZ
 |int i=>
  obtain⟨t,rfl⟩:=G;cases y with
  |non=>cases g;exact PySem.EqNone.eq_int_none (A4 I q (by simp))
  |int j=>obtain⟨z,rfl⟩:=g;exact eq_int (A4 I q En)
  |str j=>obtain⟨z,rfl⟩:=g;exact PySem.EqMixed.eq_int_str (A4 I q (by simp))
  |_=>exact absurd (show false=true from D) YZ
 |str i=>
  obtain⟨t,rfl⟩:=G;cases y with
  |non=>cases g;exact PySem.EqNone.eq_str_none (A4 I q (by simp))
  |bl j=>cases g;exact PySem.EqMixed.eq_str_bool (A4 I q (by simp))
  |int j=>obtain⟨z,rfl⟩:=g;exact PySem.EqMixed.eq_str_int (A4 I q (by simp))
  |str j=>obtain⟨z,rfl⟩:=g;exact eq_str (A4 I q MK)
  |_=>exact absurd (show false=true from D) YZ
 |byt i=>
  obtain⟨t,rfl⟩:=G;cases y with
  |byt j=>obtain⟨z,rfl⟩:=g;exact PySem.W.eq_bytes (A4 I q ML)
  |_=>exact absurd (show false=true from D) YZ
 |_=>cases y<;>exact absurd (show false=true from D) YZ
def Kt:OpR X (compareOp .NotEq) QK:=by
 intro ad s J H x y v u Q I G g h;obtain⟨D,q⟩:=h;cases x with
 |non=>
  cases G;cases y with
  |non=>cases g;exact PySem.EqNone.ne_none_none (A4 I q (by simp))
  |bl j=>cases g;exact PySem.EqNone.ne_none_bool (A4 I q (by simp))
  |int j=>obtain⟨z,rfl⟩:=g;exact PySem.EqNone.ne_none_int (A4 I q (by simp))
  |str j=>obtain⟨z,rfl⟩:=g;exact PySem.EqNone.ne_none_str (A4 I q (by simp))
  |_=>exact absurd (show false=true from D) YZ
 |bl i=>
  cases G;cases y with
  |non=>cases g;exact PySem.EqNone.ne_bool_none (A4 I q (by simp))
  |bl j=>cases g;exact ne_bool (A4 I q (ZI not MJ))
  |str j=>obtain⟨z,rfl⟩:=g;exact PySem.EqMixed.ne_bool_str (A4 I q (by simp))
  |_=>exact absurd (show false=true from D) YZ
 |int i=>
  obtain⟨t,rfl⟩:=G;cases y with
  |non=>cases g;exact PySem.EqNone.ne_int_none (A4 I q (by simp))
  |int j=>obtain⟨z,rfl⟩:=g;exact ne_int (A4 I q (ZI not En))
  |str j=>obtain⟨z,rfl⟩:=g;exact PySem.EqMixed.ne_int_str (A4 I q (by simp))
  |_=>exact absurd (show false=true from D) YZ
 |str i=>
  obtain⟨t,rfl⟩:=G;cases y with
  |non=>cases g;exact PySem.EqNone.ne_str_none (A4 I q (by simp))
  |bl j=>cases g;exact PySem.EqMixed.ne_str_bool (A4 I q (by simp))
  |int j=>obtain⟨z,rfl⟩:=g;exact PySem.EqMixed.ne_str_int (A4 I q (by simp))
  |str j=>obtain⟨z,rfl⟩:=g;exact ne_str (A4 I q (ZI not MK))
  |_=>exact absurd (show false=true from D) YZ
 |byt i=>
  obtain⟨t,rfl⟩:=G;cases y with
  |byt j=>obtain⟨z,rfl⟩:=g;exact PySem.W.ne_bytes (A4 I q (ZI not ML))
  |_=>exact absurd (show false=true from D) YZ
 |_=>cases y<;>exact absurd (show false=true from D) YZ
def op_lt:OpR X (compareOp .Lt) (Dy λi j=> .bl (decide (i<j))):=HF λ_ _ _ _ _ _ _ q=>lt_int q
def op_le:OpR X (compareOp .LtE) (Dy λi j=> .bl (decide (i<=j))):=HF λ_ _ _ _ _ _ _ q=>le_int q
def op_gt:OpR X (compareOp .Gt) (Dy λi j=> .bl (decide (j<i))):=HF λ_ _ _ _ _ _ _ q=>gt_int q
def op_ge:OpR X (compareOp .GtE) (Dy λi j=> .bl (decide (j<=i))):=HF λ_ _ _ _ _ _ _ q=>ge_int q
def Ku:OpR X (compareOp .Is) (λx y H Q=>y= .non/\Q (.bl (decide (x= .non))) H):=by
  intro ad s D H x y v u Q I g z h;obtain⟨rfl,q⟩:=h;cases z;refine is_none_gen (A4 I q ?_);cases x<;>first
    |(cases g;rfl)
    |(obtain⟨t,rfl⟩:=g;rfl)
def QL:OpR X (compareOp .IsNot) (λx y H Q=>y= .non/\Q (.bl (!decide (x= .non))) H):=by
  intro ad s D H x y v u Q I g z h;obtain⟨rfl,q⟩:=h;cases z;refine isnot_none_gen (A4 I q ?_);cases x<;>first
    |(cases g;rfl)
    |(obtain⟨t,rfl⟩:=g;rfl)
def AV(b:yJ){op:CmpOp}(h:autoParam (op≠ .In) S7)(g:autoParam (op≠ .NotIn) S7):behindInMarks op b=false:=by
 have z:(op==CmpOp.In)=false:=by cases op<;>first | rfl | exact absurd rfl h
 have D:(op==CmpOp.NotIn)=false:=by cases op<;>first | rfl | exact absurd rfl g
 cases b<;>simp[behindInMarks,z,D]
def Fq{op:CmpOp}{r:R2}(Z:OpR X (compareOp op) r)(ha:PE X a ta)(G:PE X b tb)(O:behindInMarks op b=false):PE X (.Compare a [op] [b] pos) (HD r ta tb):=by
 intro ad s D H Q I h;exact wpAny_Compare1 (Kr ha G I h λv u J x y H2 z g L q=>Z ad J D H2 x y v u Q z g L q) O
def QM{xs:List V}{its:yX}(r:At xs its):(!its.toArray.isEmpty)= !xs.isEmpty:=by
 cases r<;>simp
def Gi:(sizeLine:Nat)<2 ^ 63:=by rw[aZ];decide
def HG:OpR X (binaryOp .Add) (λx y H Q=>∃i j,x= .str i/\y= .str j/\i.length+j.length<=sizeLine/\Q (.str (i++j)) H):=by
 intro ad s J H x y v u Q I g G h;obtain⟨i,j,rfl,rfl,D,q⟩:=h;obtain⟨t,rfl⟩:=g;obtain⟨z,rfl⟩:=G;exact add_str (λz tk=>⟨.str (i++j),H,I.tok _,⟨_,rfl⟩,q⟩) D
def EN{x:V}(r:At [x] us):∃u,us=[u]/\RelV x u:=by
 cases r with
 |cons r1 r2=>cases r2;exact⟨_,rfl,r1⟩
def HH{x y:V}(r:At [x,y] us):∃u g,us=[u,g]/\RelV x u/\RelV y g:=by
 cases r with
 |cons r1 r2=>
  cases r2 with
  |cons r3 r4=>cases r4;exact⟨_,_,rfl,r1,r3⟩
def MM(z:X.calm=true):BF X (.builtin "max") (λxs H Q=>∃i j,xs=[.int i,.int j]/\Q (.int (if j>i then j else i)) H):=by
 intro ad s J H xs G Q I r h;obtain⟨i,j,rfl,q⟩:=h;obtain⟨u,O,rfl,⟨t,rfl⟩,⟨L,rfl⟩⟩:=HH r;refine max_two_ints (I.ok.hd z) λD tk k=>⟨_,H,I.kept k,?_,q⟩
 by_cases g:j>i
 .rw[Z1 g,Z1 g];exact⟨_,rfl⟩
 .rw[YY g,YY g];exact⟨_,rfl⟩
def QN(z:X.calm=true):BF X (.builtin "min") (λxs H Q=>∃i j,xs=[.int i,.int j]/\Q (.int (if j<i then j else i)) H):=by
 intro ad s J H xs G Q I r h;obtain⟨i,j,rfl,q⟩:=h;obtain⟨u,O,rfl,⟨t,rfl⟩,⟨L,rfl⟩⟩:=HH r;refine min_two_ints (I.ok.hd z) λD tk k=>⟨_,H,I.kept k,?_,q⟩
 by_cases g:j<i
 .rw[Z1 g,Z1 g];exact⟨_,rfl⟩
 .rw[YY g,YY g];exact⟨_,rfl⟩
def MN:BF X (.type "int") (λxs H Q=>(∃i,xs=[.int i]/\Q (.int i) H)\/ ∃k,xs=[.bl k]/\Q (.int (if k then 1 else 0)) H):=by
 intro ad s z H xs D Q I r h;rcases h with⟨i,rfl,q⟩ | ⟨k,rfl,q⟩
 .obtain⟨u,rfl,t,rfl⟩:=EN r;exact call_int_int ⟨.int i,H,I,⟨_,rfl⟩,q⟩
 .obtain⟨u,rfl,g⟩:=EN r;cases g;exact call_int_bool ⟨.int (if k then 1 else 0),H,I.tok _,⟨_,rfl⟩,q⟩
def DT:BF X (.type "str") (λxs H Q=>∃i,xs=[.int i]/\i.natAbs.log2<1920/\Q (.str (toString i)) H):=by
 intro ad s z H xs D Q I r h;obtain⟨i,rfl,g,q⟩:=h;obtain⟨u,rfl,t,rfl⟩:=EN r;exact PySem.P.str_of_int g ⟨.str _,H,I.tok _,⟨_,rfl⟩,q⟩
def QO:BF X (.builtin "divmod") (λxs H Q=>∃i j,xs=[.int i,.int j]/\Ks i j/\∀p,H p=none->Q (.ref p) (upd H p (.tup [.int (i / j),.int (i % j)]))):=by
 intro ad s G H xs z Q I r h;obtain⟨i,j,rfl,⟨L,D⟩,q⟩:=h;obtain⟨u,O,rfl,⟨t,rfl⟩,⟨J,rfl⟩⟩:=HH r;refine divmod_int (by lia) ?_ (.inl (eW (by lia)));rw[dD i (by lia),dE i (by lia)];have g:H s.heap.objs.size=none:=I.hok.fresh (Y5 _);refine⟨.ref s.heap.objs.size,_,?_,rfl,q _ g⟩;refine I.laid (λb o e=>Y2 _ e) (Y5 _) ⟨by simp only[ZA,List.length_nil];rw[aZ];decide,[.int (i / j) s.toks,.int (i % j) (s.toks+1)],.cons ⟨_,rfl⟩ (.cons ⟨_,rfl⟩ .nil),?_⟩;exact⟨_,YV s.heap rfl,rfl,0,rfl⟩
end L2
namespace L2
structure ObjM(h:Heap)(x dx C:yQ)(mA:Str->yW):Prop where
 obj:h.get? x=some (PySem.W.instObj C dx)
 ns:h.Ns1 dx mA
 ne:dx≠x
def MO{h:Heap}{D:yQ}{I:Str->yW}(n:h.Ns1 D I):∃G,h.get? D=some G/\∀name,PySem.W.lookIn name G=some (I name):=by
 obtain⟨o,es,ep,ho,hd,J,_,Z⟩:=n;refine⟨o,ho,λname=>?_⟩;have e:=Z name;unfold nsFind findBy at e;rw[<-Array.find?_toList]at e;unfold PySem.W.lookIn;rw[hd];dsimp only;split
 .rename_i y q;rw[q]at e;exact ZI some e
 .rename_i q;rw[q]at e;have a:es.toList.any (·.refKey)=false:=by
   rw[List.any_eq_false];intro y L;obtain⟨z,t,g⟩:=J y (Array.mem_toList_iff.mp L);simp[DictEntry.refKey,g]
  have O:¬es.toList.any (·.refKey)=true:=by rw[a];exact YZ
  rw[YY O];exact ZI some e
def ObjM.look{h:Heap}{x z C:yQ}{D:Str->yW}(I:ObjM h x z C D):∃g,PySem.W.InstAt h x (PySem.W.instObj C z) C (some g)/\∀name,PySem.W.lookIn name g=some (D name):=
 let ⟨g,ho,hl⟩:=MO I.ns
 ⟨g,⟨I.obj,rfl,rfl,ho⟩,hl⟩
section
variable{prog:yO}{w:yK}{A:yL}{E:yY}{s:yR}{K:Fgx}{x dx C f:yQ}{mA:Str -> yW}{name:Str}{v:yU}
def QP{g:Bool}{Q:VSP}(X:K.In s.heap)(I:ObjM s.heap x dx C mA)(D:PySem.W.plainGet K C name=true)(O:PySem.W.hasDictIn K C=true)
  (Z:PySem.W.findIn K (.ref C) name=some none) (G:mA name=some v) (z:PySem.W.handedIn v=true) (h:Q v { s with toks:=s.toks+1}):
  wpAny (model prog w) A (getAttr (.ref x) name g) Q E s:=by
 obtain⟨od,J,L⟩:=I.look;exact PySem.W.get_value X J (PySem.W.plainGet_of D).1 (PySem.W.findObj_own O Z rfl (by rw[L,G])) z h
def QQ{pl:Sem Bool}{Q:yU×yX->yR->Prop}(X:K.In s.heap)(I:ObjM s.heap x dx C mA)(g:PySem.W.plainGet K C name=true)
  (z:PySem.W.findIn K (.ref C) name=some (some (.ref f))) (L:PySem.W.isFn K (.ref f)=true) (D:mA name=none) (h:Q (.ref f,[.ref x]) s):
  wpAny (model prog w) A (getMethod (.ref x) name pl) Q E s:=by
 obtain⟨O,J,G⟩:=I.look;exact PySem.W.method_fn X J (PySem.W.plainGet_of g).1 (PySem.W.plainGet_of g).2 z (ZR.mp L) (by show(PySem.W.lookIn name O).map (·.isSome)=some false;rw[G,D];rfl) h
def QR{ns:List Str}{Q:Unit->yR->Prop}(X:K.In s.heap)(I:ObjM s.heap x dx C mA)
  (hs:PySem.W.findIn K (.ref C) "__setattr__"=some (some (.builtin "object.__setattr__"))) (Z:PySem.W.plainOver K C=true) (ht:PySem.W.takerIn K C name=some none) (hh:PySem.W.hasDictIn K C=true)
  (hw:PySem.Within mA ns) (hsz:ns.length<=sizeLine)
  (h:∀h',ObjM h' x dx C (λy=>if y=name then some v else mA y)->Heap.SameBut dx s.heap h'->Q () { s with heap:=h',toks:=s.toks+2}):
  wpAny (model prog w) A (setAttr (.ref x) name v) Q E s:=by
 obtain⟨od,J,hl⟩:=I.look;refine PySem.W.set_plain X J hs (PySem.W.osa_open (s:= { s with toks:=s.toks+1}) (r:=none) X J Z ht λb=>?_);obtain⟨cd,hc,O⟩:=PySem.W.any_some hh;have hx:s.heap.get? x=some ⟨.ref C,some dx,.plain,#[]⟩:=I.obj;refine Y1 (Y4 (Y1 (Y1 (fe hx (Y1 (PySem.W.Looks.here (s:= { s with toks:=s.toks+1}) (PySem.W.looks_clsIn X hc) ?_))))));rw[O];refine Y4 (a:=some dx) (Y1 (Y4 (Y1 ?_)));refine wpAny_nsSet1 (s:= { s with toks:=s.toks+1}) I.ns λh' z g=>?_
 obtain⟨oD,i4,i0,L,D,G⟩:=z.count (PySem.Within.cons name v hw);refine Y1 (wpAny_lookBehind L (by rw[D];exact pastItsLine_dict (Ze G (by rw[ZA];lia))) ?_);exact Y4 (h _ ⟨(g.2 _ (Zd I.ne)).trans I.obj,z,I.ne⟩ g)
def QS{R:Result->yR->Prop}{vs:yX}{z:List (Str×yU)}(X:K.In s.heap)(G:PySem.W.makesIn K C=true)
    (hi:PySem.W.findIn K (.ref C) "__init__"=some (some (.ref f))) (D:PySem.W.typeIn K (.ref f)=some (.type "function"))
    (h:codeAny (model prog w) (A.under (.builtin "type.__call__" ⟨.ref C::vs,z⟩)) (.call (.ref f) ⟨.ref (s.heap.objs.size+1)::vs,z⟩) (PySem.W.InitBack (s.heap.objs.size+1) R)
      { s with heap:=(s.heap.push PySem.W.emptyDict).push (PySem.W.instObj C s.heap.objs.size)}):
    codeAny (model prog w) A (.call (.ref C) ⟨vs,z⟩) R s:=by
  obtain⟨I,g,d,t,os⟩:=s;exact PySem.W.make_core (PySem.W.makes_of X G) (PySem.W.looks_findIn X hi) (λself=>PySem.W.bind_fn X self D) (.inl rfl) h
end
def Cq(f:Str)(v:V):List (Str×V)->List (Str×V)
  |[]=>[(f,v)]
  |(g,x)::r=>if g=f then(g,v)::r else(g,x)::Cq f v r
theorem MP(f g:Str)(v:V):∀fs:List (Str×V),(Cq f v fs).lookup g=if g=f then some v else fs.lookup g
  |[] => by
    show List.lookup g [(f,v)]=_
    by_cases h:g=f
    . have z:(g==f)=true:=ZR.mpr h;simp only[List.lookup,z,Z1 h]
    . have z:(g==f)=false:=ZY.mpr h;simp only[List.lookup,z,YY h]
  |(k, x) :: r => by
    have G:=MP f g v r;rw[show Cq f v ((k,x)::r)=(if k=f then(k,v)::r else(k,x)::Cq f v r) from rfl]
    by_cases D:k=f
    . rw [Z1 D]
      by_cases h:g=k
      . have z:(g==k)=true:=ZR.mpr h;simp only[List.lookup,z,Z1 (h.trans D)]
      . have z:(g==k)=false:=ZY.mpr h;simp only[List.lookup,z,YY (λe:g=f=>h (e.trans D.symm))]
    . rw [YY D]
      by_cases h:g=k
      . have z:(g==k)=true:=ZR.mpr h;simp only[List.lookup,z,YY (λe:g=f=>D (h.symm.trans e))]
      . have z:(g==k)=false:=ZY.mpr h;simp only[List.lookup,z];exact G
theorem Kv(f:Str)(v:V):∀fs:List (Str×V),f∈(Cq f v fs).map (·.1)/\∀g,g∈fs.map (·.1)->g∈(Cq f v fs).map (·.1)
  |[]=>⟨by simp[Cq],λg h=>by simp at h⟩
  |(k, x) :: r => by
    obtain⟨G,D⟩:=Kv f v r;rw[show Cq f v ((k,x)::r)=(if k=f then(k,v)::r else(k,x)::Cq f v r) from rfl]
    by_cases z:k=f
    . rw[Z1 z];subst z;exact⟨by simp,λg h=>by simpa using h⟩
    . rw [YY z];refine⟨?_,λg h=>?_⟩
      . rw[ZJ];exact Z3 _ G
      . rw [ZJ] at h ⊢;rcases Z4.mp h with e | e
        . exact Z4.mpr (.inl e)
        . exact Z3 _ (D g e)
theorem MQ(f:Str)(v:V):∀fs:List (Str×V),(Cq f v fs).length<=fs.length+1
  |[]=>by simp[Cq]
  |(k, x) :: r => by
    have z:=MQ f v r;rw[show Cq f v ((k,x)::r)=(if k=f then(k,v)::r else(k,x)::Cq f v r) from rfl]
    by_cases g:k=f
    . rw[Z1 g,ZA,ZA];lia
    . rw[YY g,ZA,ZA];lia
def RelO.some_of{v:V}{o:yW}(r:RelO (some v) o):∃u,o=some u/\RelV v u:=by
 cases o with
 |none=>exact(show False from r).elim
 |some u=>exact⟨u,rfl,r⟩
def RelO.none_of{o:yW}(r:RelO none o):o=none:=by
 cases o with
 |none=>rfl
 |some u=>exact(show False from r).elim
def MR{v:V}{u:yU}(r:RelV v u):PySem.W.handedIn u=true:=by
 cases v with
 |non=>cases(show u=Value.none from r);rfl
 |bl b=>cases(show u=Value.bool b from r);rfl
 |int i=>obtain⟨t,e⟩:=(show ∃t,u=Value.int i t from r);cases e;rfl
 |str x=>obtain⟨t,e⟩:=(show ∃t,u=Value.str x t from r);cases e;rfl
 |byt b=>obtain⟨t,e⟩:=(show ∃t,u=Value.bytes b t from r);cases e;rfl
 |flt b=>obtain⟨t,e⟩:=(show ∃t,u=Value.float b t from r);cases e;rfl
 |ref a=>cases(show u=Value.ref a from r);rfl
 |ty n=>cases(show u=Value.type n from r);rfl
section
variable{P:yO}{w:yK}{H H':Hp}{h h':Heap}{a C dx:yQ}{fs fs':List (Str × V)}
def Kw(hok:HOk P w H h)(e:H a=some (.ins C dx fs)):∃g,ObjM h a dx C g/\(∀f,RelO (fs.lookup f) (g f))/\PySem.Within g (fs.map (·.1))/\fs.length<=1000/\H dx=some (.own a):=by
 obtain⟨d,z,ne,ob,g,n,r,q⟩:=(show ObjOk P w H h a (.ins C dx fs) from hok a _ e);exact⟨g,⟨ob,n,ne⟩,r,q,z,d⟩
end
structure Cls(K:Fgx)(C:yQ):Prop where
 pg:PySem.W.plainGet K C Str.empty=true
 hd:PySem.W.hasDictIn K C=true
 po:PySem.W.plainOver K C=true
 sa:PySem.W.findIn K (.ref C) "__setattr__"=some (some (.builtin "object.__setattr__"))
def Cls.get{K:Fgx}{C:yQ}(c:Cls K C)(f:Str):PySem.W.plainGet K C f=true:=c.pg
def NoAttr(K:Fgx)(C:yQ)(f:Str):Prop:=PySem.W.findIn K (.ref C) f=some none
def NoAttr.taker{K:Fgx}{C:yQ}{f:Str}(n:NoAttr K C f):PySem.W.takerIn K C f=some none:=by
 unfold PySem.W.takerIn;rw[show PySem.W.findIn K (.ref C) f=some none from n]
 rfl
structure Con(K:Fgx)(C:yQ)(f:Str)(v:V)(u:yU):Prop where
 at_:PySem.W.findIn K (.ref C) f=some (some u)
 rel:RelV v u
 get:PySem.W.specialIn K u "__get__"=some none
 cp:PySem.W.copiedNames.contains f=false
structure Fr(K:Fgx)(C:yQ)(m:Str)(f:yQ):Prop where
 at_:PySem.W.findIn K (.ref C) m=some (some (.ref f))
 fn:PySem.W.isFn K (.ref f)=true
 kp:PySem.W.keepIn K (.ref f)=true
section
variable{X:Cx}{ad:List (yQ × Obj)}{σ:St}{H:Hp}{s:yR}{a C dx:yQ}{fs:List (Str × V)}{f:Str}{v:V}{A:yL}{E:yY}
def QT{b:Bool}{Q:VSP}(I:Ac X ad σ H s)(e:H a=some (.ins C dx fs))(c:Cls X.K C)(n:NoAttr X.K C f)(l:fs.lookup f=some v)
  (h:∀u s',Ac X ad σ H s'->RelV v u->Q u s'):wpAny (model X.prog X.w) A (getAttr (.ref a) f b) Q E s:=by
 obtain⟨z,O,r,_,_,_⟩:=Kw I.hok e;obtain⟨u,g,ru⟩:=RelO.some_of (v:=v) (o:=z f) (by rw[<-l];exact r f);exact QP I.kIn O (c.get f) c.hd n g (MR ru) (h u _ (I.tok _) ru)
def Kx{m:Str}{g:yQ}{pl:Sem Bool}{Q:yU×yX->yR->Prop}(I:Ac X ad σ H s)(e:H a=some (.ins C dx fs))(c:Cls X.K C)(k:Fr X.K C m g)(l:fs.lookup m=none)
  (h:Q (.ref g,[.ref a]) s):wpAny (model X.prog X.w) A (getMethod (.ref a) m pl) Q E s:=by
 obtain⟨D,O,r,_,_,_⟩:=Kw I.hok e;have z:D m=none:=RelO.none_of (by rw[<-l];exact r m);exact QQ I.kIn O (c.get m) k.at_ k.fn z h
def QU{y:V}{u:yU}{Q:Unit->yR->Prop}(I:Ac X ad σ H s)(e:H a=some (.ins C dx fs))(c:Cls X.K C)(n:NoAttr X.K C f)(hl:fs.length<1000)(ry:RelV y u)
  (h:∀s',Ac X ad σ (upd H a (.ins C dx (Cq f y fs))) s'->Q () s'):wpAny (model X.prog X.w) A (setAttr (.ref a) f u) Q E s:=by
 obtain⟨L,O,r,J,_,G⟩:=Kw I.hok e;have hz:(fs.map (·.1)).length<=sizeLine:=by rw[Y0,aZ];lia
 refine QR I.kIn O c.sa c.po n.taker c.hd J hz λZ D sb=>h _ ?_
 have hd:∃o,Z.get? dx=some o:=let ⟨o,_,_,e',_⟩:=D.ns;⟨o,e'⟩;refine I.write (x:=a) (e:=dx) (by rw[e];exact True.intro) (.inr G) (λb q hb z=>(sb.2 b hb).trans z) hd ?_;refine⟨by rw[Aq O.ne];exact G,?_,O.ne,D.obj,_,D.ns,λg=>?_,λg hg=>?_⟩
 .have:=MQ f y fs;lia
 .show RelO ((Cq f y fs).lookup g) (if g=f then some u else L g);rw[MP]
  by_cases q:g=f
  .rw[Z1 q,Z1 q];exact ry
  .rw[YY q,YY q];exact r g
 .by_cases q:g=f
  .rw[q];exact(Kv f y fs).1
  .refine(Kv f y fs).2 g (J g λz=>hg ?_);show(if g=f then some u else L g)=none;rw[YY q];exact z
def Ac.made(I:Ac X ad σ H s):Ac X ad σ (upd (upd H s.heap.objs.size (.own (s.heap.objs.size+1))) (s.heap.objs.size+1) (.ins C s.heap.objs.size []))
    { s with heap:=(s.heap.push PySem.W.emptyDict).push (PySem.W.instObj C s.heap.objs.size)}:=by
  have g:(s.heap.push PySem.W.emptyDict).get? s.heap.objs.size=some PySem.W.emptyDict:=YV s.heap rfl;have D:((s.heap.push PySem.W.emptyDict).push (PySem.W.instObj C s.heap.objs.size)).get? (s.heap.objs.size+1)=some (PySem.W.instObj C s.heap.objs.size):=by
    have:=YV (s.heap.push PySem.W.emptyDict) (o:=PySem.W.instObj C s.heap.objs.size) rfl
    rwa [Zp]at this
  have L:(s.heap.push PySem.W.emptyDict).Ns s.heap.objs.size (λ_=>none):=⟨PySem.W.emptyDict,#[],_,g,rfl,(λe z=>absurd z (by simp)),λ_=>rfl⟩;have J:=I.laid (a:=s.heap.objs.size) (o:= .own (s.heap.objs.size+1)) (h':=s.heap.push PySem.W.emptyDict) (t':=s.toks) (λb u q=>Y2 _ q) (Y5 _) ⟨_,g⟩;refine J.laid (a:=s.heap.objs.size+1) (o:= .ins C s.heap.objs.size []) (t':=s.toks) (λb u q=>Y2 _ q) (Nat.le_of_eq (Zp _ _)) ?_;have ne:s.heap.objs.size≠s.heap.objs.size+1:=Zc (bg _);refine⟨by rw[Aq ne,Ag],Zq _,ne,D,λ_=>none,(Heap.Ns1.of_empty L).at λo q=>Y2 _ q,λ_=>True.intro,λy G=>absurd rfl G⟩
def MS{prog:yO}{w:yK}{env:Env}{e:yJ}{f:Str}{z:Pos}{s:yR}{Q:VSP}(D:attributeBase e f env (eval e env)=eval e env)
  (h:wpAny (model prog w) A (eval e env) (λo g=>wpAny (model prog w) A (getAttr o f true) Q E g) E s):wpAny (model prog w) A (eval (.Attribute e f z) env) Q E s:=
 Attribute_any_ h (by rw[arm_eval_Attribute,D])
end
inductive QV_(K:Fgx)(f:Str)(Q:VK)(x:V)(g:Hp):Prop
 |mk(a C z fs v:_)(_:x= .ref a)(_:g a=some (.ins C z fs))(_:Cls K C)(_:NoAttr K C f)(_:fs.lookup f=some v)(_:Q v g)
def QV(K:Fgx)(G:TE)(f:Str):TE:=fun D H Q=>G D H λx g=>QV_ K f Q x g
inductive QW_(K:Fgx)(f:Str)(D:Db)(g:L2.St)(y x:V)(G:Hp):Prop
 |mk(a C z fs:_)(_:x= .ref a)(_:G a=some (.ins C z fs))(_:Cls K C)(_:NoAttr K C f)(_:fs.length<1000)(_:D.nx g (upd G a (.ins C z (Cq f y fs))))
def QW(K:Fgx)(L J:TE)(f:Str):TS:=λD g H=>J g H λy I=>L g I λx G=>QW_ K f D g y x G
section
variable{X:Cx}{o e value:yJ}{f:Str}{pos pos' tpos:Pos}{ta tv:TE}
def Bf(O:PE X e ta)(G:attributeBase e f X.env (eval e X.env)=eval e X.env):PE X (.Attribute e f pos) (QV X.K ta f):=by
 intro ad s D H Q I h;refine MS G (Ap (O ad s D H _ I h) λu s1 zq=>?_);obtain⟨x,Z,J,g,a,C,dx,fs,v,ex,L,c,n,l,q⟩:=zq;subst ex;obtain rfl:u=Value.ref a:=g;exact QT J L c n l λu' s2 z ru=>⟨v,Z,z,ru,q⟩
def HI(ha:PE X o ta)(z:PE X value tv)(L:swapsWith value (some (.Attribute o f pos')) pos.line X.env=pure false):PS X (.Assign [.Attribute o f pos'] value pos) (QW X.K ta tv f):=by
 intro ad s g H D I h;refine cE (Ap (z ad s g H _ I h) λu O ⟨y,H1,I1,ry,q⟩=>Ap (ha ad O g H1 _ I1 q) λov s2 zq=>?_) L;obtain⟨x,H2,J,G,a,C,dx,fs,ex,ea,c,n,l,q2⟩:=zq;subst ex;obtain rfl:ov=Value.ref a:=G;exact QU J ea c n l ry λs3 Z=>⟨g,_,Z,q2⟩
def methcall_of{pl:Sem Bool}{m:Str}{z:Pos}{args:List yJ}{ad:PNs}{s:yR}{D:St}{H:Hp}{Q:VSP}{Z:TE}(he:PE X e Z)(I:Ac X ad D H s)
  (h : Z D H λx J => ∃ a C L fs g, x = .ref a /\ J a = some (.ins C L fs) /\ Cls X.K C /\ Fr X.K C m g /\ fs.lookup m = none /\
   ∀G,Ac X ad D J G->wpAny (model X.prog X.w) X.A (callWith pos (.ref g) [.ref a] (backTo pos (starEach args X.env)) (backToKw pos (keywordEach [] X.env))) Q X.xe G)
  (ht : eval (.Call (.Attribute e m z) args [] pos) X.env = (do
   let ov<-eval e X.env
   standAt z.atName
   let (f,first)<-holding [ov] (getMethod ov m pl)
   callWith pos f first (backTo pos (starEach args X.env)) (backToKw pos (keywordEach [] X.env)))):
  wpAny (model X.prog X.w) X.A (eval (.Call (.Attribute e m z) args [] pos) X.env) Q X.xe s:=by
 refine PySem.W.methodCall_KW (pl:=pl) (Ap (he ad s D H _ I h) λu G zq=>?_) ht;obtain⟨x,J,O,rx,a,C,L,fs,g,ex,ea,c,k,l,q⟩:=zq;subst ex;obtain rfl:u=Value.ref a:=rx;exact Kx O ea c k l (q G O)
end
variable{X:Cx}{ad:List (yQ × Obj)}{σ:St}{H:Hp}{s:yR}{A:yL}{E:yY}{Q:yY}{c:yU}{b:Bool}
inductive Dg(K:Fgx)(H:Hp):V->yU->Prop where
 |non:Dg K H .non (.type "NoneType")
 |bl (x:Bool):Dg K H (.bl x) (.type "bool")
 |int (i:Int):Dg K H (.int i) (.type "int")
 |str (x:Str):Dg K H (.str x) (.type "str")
 |flt (x:UInt64):Dg K H (.flt x) (.type "float")
 |lst {a:yQ}{xs:List V} (e:H a=some (.lst xs)):Dg K H (.ref a) (.type "list")
 |frz {a:yQ}{o:Obj}{xs:List V} (e:H a=some (.frz o (.lst xs))):Dg K H (.ref a) (.type "list")
 |tup {a:yQ}{xs:List V} (e:H a=some (.tup xs)):Dg K H (.ref a) (.type "tuple")
 |dK {a:yQ}{kvs:List (AL×V)} (e:H a=some (.dK kvs)):Dg K H (.ref a) (.type "dict")
 |dT {a:yQ}{kvs:List (List AL×V)} (e:H a=some (.dT kvs)):Dg K H (.ref a) (.type "dict")
 |ins {a C dx : yQ} {fs : List (Str × V)} (e : H a = some (.ins C dx fs)) (cl : Cls K C) (ha : PySem.W.findIn K (.ref C) "__class__" = some (some (.builtin "object.__class__")))
   (hn:PySem.W.specialIn K (.builtin "object.__class__") "__get__"=some (some (.builtin "getset_descriptor.__get__"))) (htk:PySem.W.takesIn K (.builtin "object.__class__")=some true)
   (hm:PySem.W.mroIn K C (.type "object")=some true):Dg K H (.ref a) (.ref C)
end L2
namespace L2
variable{us:yX}{kw:List (Str × yU)}{P:yO}{Q:VK}{vs:List V}{kindOf:Str -> Option NameKind}{qual:Str}{scope:Scope}
structure AN(k:Nat)(A:yL):Prop where
 hd:A.handled=none
 dp:A.depth+3 * k+5<recursionLimit
 un:A.units+16 * k+200<cLine
 gd:A.guards=some []
def AN.mono{j k:Nat}{A:yL}(r:AN k A)(h:j<=k):AN j A:=⟨r.hd,by have:=r.dp;lia,by have:=r.un;lia,r.gd⟩
def AN.deeper{k:Nat}{A:yL}(r:AN (k+1) A)(env:Env):AN k (A.deeper env):=
 ⟨r.hd,by have:=r.dp;show A.depth+1+3 * k+5<_;lia,by have:=r.un;show A.units+3+16 * k+200<_;lia,r.gd⟩
def QX{A:yL}{C:yQ}:(A.under (.builtin "type.__call__" ⟨.ref C::us,kw⟩)).depth=A.depth+1:=by
 first | rfl | simp[Around.under,Code.weight,Code.isCreation,Code.isGuard,Code.isCaller,Code.frames,Code.isFrame,guardIds]
def QY{A:yL}{C:yQ}:(A.under (.builtin "type.__call__" ⟨.ref C::us,kw⟩)).units=A.units+1:=by
 first | rfl | simp[Around.under,Code.cUnits,Code.frames,Code.isFrame]
def AN.make{k:Nat}{A:yL}(r:AN (k+1) A)(C:yQ)(us:yX)(g:List (Str×yU)):AN k (A.under (.builtin "type.__call__" ⟨.ref C::us,g⟩)):=
 ⟨r.hd,by have:=r.dp;rw[QX];lia,by have:=r.un;rw[QY];lia,by first | exact r.gd | simpa[Around.under,Code.isGuard,guardIds] using r.gd⟩
def AN.depth{k:Nat}{A:yL}(r:AN k A):A.depth<recursionLimit:=by have:=r.dp;lia
def CF:TA:=λ_ H Q=>Q [] H
def Bp(J:TE)(D:TA):TA:=fun g H Q=>J g H λx G=>D g G λz I=>Q (x::z) I
section
variable{X:Cx}{e:yJ}{es:List yJ}{te:TE}{t:TA}{pos:Pos}
def CS:PA X [] CF:=λ_ _ _ _ H Q I h=>Calls.spliced_nil ⟨[],H,I,.nil,h⟩
def Bi(ha:PE X e te)(J:PA X es t)(G:autoParam (starEach (e::es) X.env=(false,eval e X.env)::starEach es X.env) m5):PA X (e::es) (Bp te t):=by
 intro g ad s z H Q I h;rw[G];show wpAny _ _ (spliced ((false,eval e X.env)::backTo g (starEach es X.env))) _ _ s;refine Calls.spliced_cons (Ap (ha ad s z H _ I h) λu O zq=>?_);obtain⟨x,H1,I1,r1,q1⟩:=zq;exact Ap (J g ad O z H1 _ I1 q1) λus s2 ⟨xs,H2,D,L,Z⟩=>⟨x::xs,H2,D,.cons r1 L,Z⟩
end
abbrev Sp:=List V->Hp->VK->XK->Prop
inductive zE(p:yQ->V->Prop):List V->Prop|mk{a b}(h:p a b):zE p [.ref a,b]
inductive zJ(p:yQ->Prop):List V->Prop|mk{a}(h:p a):zJ p [.ref a]
inductive zK(p:V->Prop):List V->Prop|mk{a}(h:p a):zK p [a]
inductive zL(p:V->Int->Int->Prop):List V->Prop|mk{a b c}(h:p a b c):zL p [a,.int b,.int c]
inductive zM(p:yQ->Int->Prop):List V->Prop|mk{a b}(h:p a b):zM p [.ref a,.int b]
inductive zN(p:V->V->Prop):List V->Prop|mk{a b}(h:p a b):zN p [a,b]
inductive zO(p:V->V->Int->Prop):List V->Prop|mk{a b c}(h:p a b c):zO p [a,b,.int c]
inductive zP(p:V->Int->Prop):List V->Prop|mk{a b}(h:p a b):zP p [a,.int b]
inductive zQ(p:V->V->V->Prop):List V->Prop|mk{a b c}(h:p a b c):zQ p [a,b,c]
inductive zR(p:Int->Str->Prop):List V->Prop|mk{a b}(h:p a b):zR p [.int a,.str b]
inductive zS(p:yQ->Str->Prop):List V->Prop|mk{a b}(h:p a b):zS p [.ref a,.str b]
inductive zT(p:yQ->Int->V->Prop):List V->Prop|mk{a b c}(h:p a b c):zT p [.ref a,.int b,c]
inductive zU(p:yQ->V->V->Prop):List V->Prop|mk{a b c}(h:p a b c):zU p [.ref a,b,c]
inductive zV(p:yQ->V->V->V->Prop):List V->Prop|mk{a b c d}(h:p a b c d):zV p [.ref a,b,c,d]
inductive zW(p:V->Int->Int->Int->Prop):List V->Prop|mk{a b c d}(h:p a b c d):zW p [a,.int b,.int c,.int d]
inductive zX(p:V->Int->yQ->Prop):List V->Prop|mk{a b c}(h:p a b c):zX p [a,.int b,.ref c]
inductive zY(p:yQ->Int->Int->Int->Prop):List V->Prop|mk{a b c d}(h:p a b c d):zY p [.ref a,.int b,.int c,.int d]
inductive zZ(p:V->yQ->yQ->Int->Prop):List V->Prop|mk{a b c d}(h:p a b c d):zZ p [a,.ref b,.ref c,.int d]
inductive xA(p:yQ->yQ->Prop):List V->Prop|mk{a b}(h:p a b):xA p [.ref a,.ref b]
abbrev CG:=List Env->Hp->yR->XK->VSP
structure CH(P:yO)(w:yK)(K:Fgx)(mg:Str->yW)(base:Heap)(A:yL)(outer:List Env)(s:yR)(H:Hp):Prop where
 frames:A.frames=some outer
 mod:Mod K mg base
 bs:∀b o,base.get? b=some o->s.heap.get? b=some o/\H b=none
 bsz:base.objs.size<=s.heap.objs.size
 funs:s.heap.FunFrames base outer
 frf:∀b∈AD outer,H b=none
 hok:HOk P w H s.heap
 bare:AllBare s.gens
def CE(outer:List Env)(P:yO)(w:yK)(H:Hp)(s:yR)(Q:VK)(u:yU)(s':yR):Prop:=
 ∃v g,s'.os=s.os/\AllBare s'.gens/\Un (AD outer) [] H g s.heap s'.heap/\HOk P w g s'.heap/\RelV v u/\Q v g
def CR(CX:CG)(outer:List Env)(P:yO)(w:yK)(H:Hp)(s:yR)(Q:VK)(E:XK)(r:Result)(s':yR):Prop:=
 match r with
 |.ok (.ret u)=>CE outer P w H s Q u s'
 |.ok _=>False
 |.error e=>CX outer H s E e s'
structure BK(P:yO)(w:yK)(K:Fgx)(mg:Str->yW)(base:Heap)(CX:CG)(k:Nat)(f:yQ)(fd:FuncData)(ps:List Str)(sp:Sp):Prop where
 len:∀vs H Q E,sp vs H Q E->vs.length=ps.length
 run:∀(A:yL) (outer:List Env) (s:yR) (H:Hp) (args:Args) (us:yX) (vs:List V) (Q:VK) (E:XK),AN k A->CH P w K mg base A outer s H->BindsTo s fd args (ps.zip us)->At vs us->sp vs H Q E->
  codeAny (model P w) A (.call (.ref f) args) (CR CX outer P w H s Q E) s
def CH.make{w:yK}{K:Fgx}{mg:Str->yW}{base:Heap}{A:yL}{outer:List Env}{s:yR}{H:Hp}(e:CH P w K mg base A outer s H)(C:yQ)(us:yX)(g:List (Str×yU)):
  CH P w K mg base (A.under (.builtin "type.__call__" ⟨.ref C::us,g⟩)) outer s H:=⟨by first | exact e.frames | (simpa[Around.under,Code.envs,Code.isFrame,pushEnvs] using e.frames),e.mod,e.bs,e.bsz,e.funs,e.frf,e.hok,e.bare⟩
section
variable{X:Cx}{ad:List (yQ × Obj)}{σ:St}{H:Hp}{s s':yR}
def Ac.env0(I:Ac X ad σ H s):CH X.prog X.w X.K X.mg X.base X.A X.stack s H:=
 ⟨I.ok.frames,I.ok.mod,I.bs,Ze I.ok.bsz I.sz,I.stack,I.stkFree,I.hok,I.bare⟩
def Ac.after{u:yU}(I:Ac X ad σ H s)(h:CE X.stack X.prog X.w H s Q u s'):EP X ad σ Q u s':=by
 obtain⟨v,J,os,bare,un,hok,r,q⟩:=h;obtain⟨G,g,d,t,D⟩:=s';obtain rfl:D=s.os:=os;exact⟨v,J,I.call (h':=G) (g':=g) (d':=d) (t':=t) (ch:=[]) un hok bare (λb z=>absurd z (by simp)),r,q⟩
end
def QZ(sp:Sp)(dvs:List V)(E:XK)(t:TA):TE:=fun D H Q=>t D H λz g=>sp (z++dvs) g Q E
def MT(C:yQ)(m:Str)(sp:Sp)(dvs:List V)(E:XK)(J:TE)(t:TA):TE:=fun z H Q=>J z H λx g=>∃a D fs,x= .ref a/\g a=some (.ins C D fs)/\fs.lookup m=none/\
 t z g λG I=>sp (x::(G++dvs)) I Q E
def Q0(C:yQ)(sp:Sp)(dvs:List V)(E:XK)(t:TA):TE:=fun G H Q=>t G H λD z=>∀x g,z x=none->z g=none->g≠x->
 sp (.ref x::(D++dvs)) (upd (upd z g (.own x)) x (.ins C g [])) (λv I=>v= .non/\Q (.ref x) I) E
def Binds(K:Fgx)(D:FuncData)(z:List Str)(ds:yX):Prop:=
 ∀(s:yR) (g:yX),K.In s.heap->(g++ds).length=z.length->BindsTo s D ⟨g,[]⟩ (z.zip (g++ds))
def Binds.all{K:Fgx}{z:FuncData}{g:List Str}(h:∀us:yX,us.length=g.length->bindArgs z ⟨us,[]⟩=pure (g.zip us)):Binds K z g []:=λs us _ D=>by
 rw[aw]at D ⊢;exact .of_eq (h us D)
def DB(CX:CG)(X:Cx)(E:XK):Prop:=∀(ad:PNs) (z:St) (H:Hp) (s:yR) (e:yU) (g:yR),Ac X ad z H s->CX X.stack H s E e g->X.xe e g
section
variable{X:Cx}{CX:CG}{k:Nat}{f C:yQ}{fd:FuncData}{ps:List Str}{sp:Sp}{dvs:List V}{ds:yX}{E:XK}{x m:Str}{p pos apos:Pos}{e o:yJ}{es:List yJ}{ta:TE}{t:TA}
def HJ{ad:PNs}{z:St}{H:Hp}{s:yR}{Q:VK}{us:yX}{vs:List V}(F:BK X.prog X.w X.K X.mg X.base CX k f fd ps sp)(G:AN k X.A)(L:Binds X.K fd ps ds)(hd:At dvs ds)(Z:DB CX X E)
  (I:Ac X ad z H s) (r:At vs us) (h:sp (vs++dvs) H Q E):wpAny (model X.prog X.w) X.A (call (.ref f) us) (EP X ad z Q) X.xe s:=by
 have D:At (vs++dvs) (us++ds):=r.append hd;have J:(us++ds).length=ps.length:=by rw[<-D.length];exact F.len _ _ _ _ h
 refine aX (ae (F.run X.A X.stack s H ⟨us,[]⟩ (us++ds) (vs++dvs) Q E G I.env0 (L s us I.kIn J) D h) λr O g=>?_);cases r with
 |error e=>exact Z ad z H s e O I g
 |ok fl=>
  cases fl with
  |ret u=>exact I.after g
  |next=>exact False.elim g
  |brk=>exact False.elim g
  |cont=>exact False.elim g
def MU(F:BK X.prog X.w X.K X.mg X.base CX k f fd ps sp)(G:AN k X.A)(hg:Gl X x)(Z:X.mg x=some (.ref f))(D:PySem.W.keepIn X.K (.ref f)=true)(L:Binds X.K fd ps ds)(hd:At dvs ds)(hx:DB CX X E)
  (ha:PA X (e::es) t) (hdb:autoParam ((x==("__debug__" :Str))=false) S7) (O:autoParam (starEach (e::es) X.env=(false,eval e X.env)::starEach es X.env) m5) (g:autoParam ((backTo pos (starEach es X.env)).any (·.1)=false) m5):
  PE X (.Call (.Name x p) (e::es) [] pos) (QZ sp dvs E t):=by
 intro ad s J H Q I h;refine ZH (DR I hg Z ?_ hdb);refine PySem.W.callWith_K (h₀:=X.base) I.ok.mod.kin D (Ap (ha pos ad s J H _ I h) λus s1 ⟨vs,H1,z,r,q⟩=>⟨z.kIn,?_⟩) O g;exact HJ F G L hd hx z r q
def Q1{pl:Sem Bool}(he:PE X o ta)(c:Cls X.K C)(L:Fr X.K C m f)(F:BK X.prog X.w X.K X.mg X.base CX k f fd ps sp)(Z:AN k X.A)(hb:Binds X.K fd ps ds)(hd:At dvs ds)(hx:DB CX X E)(ha:PA X (e::es) t)
  (z:autoParam (starEach (e::es) X.env=(false,eval e X.env)::starEach es X.env) m5) (g:autoParam ((backTo pos (starEach es X.env)).any (·.1)=false) m5)
  (ht : autoParam (eval (.Call (.Attribute o m apos) (e :: es) [] pos) X.env = (do
   let ov<-eval o X.env
   standAt apos.atName
   let (f,first)<-holding [ov] (getMethod ov m pl)
   callWith pos f first (backTo pos (starEach (e::es) X.env)) (backToKw pos (keywordEach [] X.env)))) m5):
  PE X (.Call (.Attribute o m apos) (e::es) [] pos) (MT C m sp dvs E ta t):=by
 intro ad s G H Q I h;refine PySem.W.methodCall_KW (pl:=pl) (Ap (he ad s G H _ I h) λu s1 zq=>?_) ht;obtain⟨x,H1,J,O,a,dx,fs,ex,ea,l,q⟩:=zq;subst ex;obtain rfl:u=Value.ref a:=O;refine Kx J ea c L l ?_;refine PySem.W.callWith_K (first:=[.ref a]) (h₀:=X.base) I.ok.mod.kin L.kp (Ap (ha pos ad s1 G H1 _ J q) λus s2 ⟨vs,H2,D,r,q2⟩=>⟨D.kIn,?_⟩) z g;exact HJ (us:= .ref a::us) (vs:= .ref a::vs) F Z hb hd hx D (.cons rfl r) q2
def Q2{pl:Sem Bool}(Z:PE X o ta)(c:Cls X.K C)(z:Fr X.K C m f)(F:BK X.prog X.w X.K X.mg X.base CX k f fd ps sp)(G:AN k X.A)(L:Binds X.K fd ps ds)(hd:At dvs ds)(hx:DB CX X E)
  (ht : autoParam (eval (.Call (.Attribute o m apos) [] [] pos) X.env = (do
   let ov<-eval o X.env
   standAt apos.atName
   let (f,first)<-holding [ov] (getMethod ov m pl)
   callWith pos f first (backTo pos (starEach [] X.env)) (backToKw pos (keywordEach [] X.env)))) m5):
  PE X (.Call (.Attribute o m apos) [] [] pos) (MT C m sp dvs E ta CF):=by
 intro ad s J H Q I h;refine PySem.W.methodCall_KW (pl:=pl) (Ap (Z ad s J H _ I h) λu s1 zq=>?_) ht;obtain⟨x,H1,g,D,a,dx,fs,ex,O,l,q⟩:=zq;subst ex;obtain rfl:u=Value.ref a:=D;refine Kx g O c z l ?_;exact PySem.W.callWith_K0 (first:=[.ref a]) g.kIn z.kp (HJ (us:=[.ref a]) (vs:=[.ref a]) F G L hd hx g (.cons rfl .nil) q)
structure Mk(K:Fgx)(C f:yQ):Prop where
 makes:PySem.W.makesIn K C=true
 init:PySem.W.findIn K (.ref C) "__init__"=some (some (.ref f))
 fn:PySem.W.isFn K (.ref f)=true
 kp:PySem.W.keepIn K (.ref C)=true
def Q3{ad:PNs}{G:St}{H:Hp}{s:yR}(M:Mk X.K C f)(F:BK X.prog X.w X.K X.mg X.base CX k f fd ps sp)(Z:AN (k+1) X.A)(hb:Binds X.K fd ps ds)(hd:At dvs ds)
  (hx:DB CX X E) (I:Ac X ad G H s) (r:At vs us)
  (h:∀x D,H x=none->H D=none->D≠x->sp (.ref x::(vs++dvs)) (upd (upd H D (.own x)) x (.ins C D [])) (λv H2=>v= .non/\Q (.ref x) H2) E):
  wpAny (model X.prog X.w) X.A (call (.ref C) us) (EP X ad G Q) X.xe s:=by
 have J:=h (s.heap.objs.size+1) s.heap.objs.size (I.hok.fresh (ZB _)) (I.hok.fresh (Y5 _)) (Zc (bg _));have z:=Ac.made (C:=C) I;have L:At (V.ref (s.heap.objs.size+1)::(vs++dvs)) (Value.ref (s.heap.objs.size+1)::(us++ds)):= .cons rfl (r.append hd);have hl:(Value.ref (s.heap.objs.size+1)::us++ds).length=ps.length:=by
  have e:=L.length;rw[F.len _ _ _ _ J]at e;exact e.symm
 refine aX (QS (f:=f) I.kIn M.makes M.init (ZR.mp M.fn) (ae (F.run _ X.stack _ _ ⟨Value.ref (s.heap.objs.size+1)::us,[]⟩ (Value.ref (s.heap.objs.size+1)::(us++ds)) _ _ E (Z.make C us [])
  (z.env0.make C us []) (hb _ (Value.ref (s.heap.objs.size+1)::us) z.kIn hl) L J) λr s' g=>?_))
 cases r with
 |error e=>exact hx ad G _ _ e s' z g
 |ok fl=>
  cases fl with
  |ret u=>
   obtain⟨v,H',I3,rv,ev,O⟩:=z.after g;subst ev;exact⟨rv,⟨V.ref (s.heap.objs.size+1),H',I3,rfl,O⟩⟩
  |next=>exact False.elim g
  |brk=>exact False.elim g
  |cont=>exact False.elim g
def Q4(M:Mk X.K C f)(F:BK X.prog X.w X.K X.mg X.base CX k f fd ps sp)(D:AN (k+1) X.A)(hg:Gl X x)(O:X.mg x=some (.ref C))(J:Binds X.K fd ps ds)(hd:At dvs ds)(hx:DB CX X E)
  (Z:PA X (e::es) t) (hdb:autoParam ((x==("__debug__" :Str))=false) S7) (L:autoParam (starEach (e::es) X.env=(false,eval e X.env)::starEach es X.env) m5) (g:autoParam ((backTo pos (starEach es X.env)).any (·.1)=false) m5):
  PE X (.Call (.Name x p) (e::es) [] pos) (Q0 C sp dvs E t):=by
 intro ad s G H Q I h;refine ZH (DR I hg O ?_ hdb);refine PySem.W.callWith_K (h₀:=X.base) I.ok.mod.kin M.kp (Ap (Z pos ad s G H _ I h) λus s1 ⟨vs,H1,z,r,q⟩=>⟨z.kIn,?_⟩) L g;exact Q3 M F D J hd hx z r q
end
def PK(X:Cx)(g:List Keyword)(t:TA):Prop:=
 ∀(z:Pos) (ad:PNs) (s:yR) (D:St) (H:Hp) (Q:List V->Hp->Prop),Ac X ad D H s->t D H Q->wpAny (model X.prog X.w) X.A (evalAll ((backToKw z (keywordEach g X.env)).map (·.2))) (AP X ad D Q) X.xe s
section
variable{X:Cx}{CX:CG}{k:Nat}{f C:yQ}{fd:FuncData}{ps ks:List Str}{sp:Sp}{E:XK}{x m:Str}{p pos apos kpos:Pos}{e o:yJ}{es:List yJ}{kws:List Keyword}{te ta:TE}{t tk:TA}{nm:Option Str}
def Q5:PK X [] CF:=λ_ _ _ _ H Q I h=>wpAny_evalAll_nil ⟨[],H,I,.nil,h⟩
def Q6(ha:PE X e te)(G:PK X kws t):PK X (⟨nm,e,kpos⟩::kws) (Bp te t):=by
 intro g ad s z H Q I h;show wpAny _ _ (evalAll ((do let v<-eval e X.env;standAt g;pure v)::(backToKw g (keywordEach kws X.env)).map (·.2))) _ _ s;refine wpAny_evalAll_cons (Y1 (Ap (ha ad s z H _ I h) λu L ⟨x,H1,Z,r1,q1⟩=>Y1 (ag (Y4 ?_))));exact Ap (G g ad L z H1 _ Z q1) λus s2 ⟨xs,H2,D,J,O⟩=>⟨x::xs,H2,D,.cons r1 J,O⟩
structure KBinds(K:Fgx)(fd:FuncData)(ps ks:List Str)(g:yX->yX->yX)(gV:List V->List V->List V):Prop where
 to:∀(s:yR) (us ws:yX),K.In s.heap->(g us ws).length=ps.length->BindsTo s fd ⟨us,ks.zip ws⟩ (ps.zip (g us ws))
 rel:∀ {vs:List V}{us:yX}{zs:List V}{ws:yX},At vs us->At zs ws->At (gV vs zs) (g us ws)
variable{g:yX -> yX -> yX}{gV:List V -> List V -> List V}
end
structure As(N P:List Str)(sc:Scope):Prop where
 kind:sc.kind= .function
 co:sc.isCoroutine=false
 gen:sc.isGenerator=false
 nd:N.Nodup
 pre:N.take P.length=P
 par:∀x∈P,sc.names.lookup x=some .local \/sc.names.lookup x=some .cell
 nofree:∀y∈sc.names,y.2≠ .free
def Az{N P:List Str}{z:Scope}(a:z.kind= .function:=by rfl)(b:z.isCoroutine=false:=by rfl)(c:z.isGenerator=false:=by rfl)(d:N.Nodup:=by decide+kernel)(e:N.take P.length=P:=by rfl)(f:∀x∈P,z.names.lookup x=some .local \/z.names.lookup x=some .cell:=by decide+kernel)(g:∀y∈z.names,y.2≠ .free:=by decide+kernel):As N P z:=⟨a,b,c,d,e,f,g⟩
theorem MV{x:Str}:∀ {binds:List (Str×yU)}{m:Str->yW},(∀v,(x,v) ∉ binds)->bindL kindOf binds m x=m x
  |[],_,_=>rfl
  |(n, v) :: r, m, h => by
    unfold bindL;rw[MV λw g=>h w (Z3 _ g)];split
    . have:x≠n:=by rintro rfl;exact h v Z9
      simp[this]
    . rfl
theorem MW{x:Str}:∀ {binds:List (Str×yU)}{m:Str->yW},(∀v,(x,v) ∉ binds)->bindC kindOf binds m x=m x
  |[],_,_=>rfl
  |(n, v) :: r, m, h => by
    unfold bindC;rw[MW λw g=>h w (Z3 _ g)];split
    . rfl
    . have:x≠n:=by rintro rfl;exact h v Z9
      simp[this]
theorem MX{kindOf:Str->Option NameKind}{x:Str}{v:yU}:∀ {P:List Str}{vs:yX}{i:Nat}{m:Str->yW},P.Nodup->P[i]? =some x->vs[i]? =some v->kindOf x=some .local ->
  bindL kindOf (P.zip vs) m x=some v
 |[],_,_,_,_,h,_,_=>by simp at h
 |_::_,[],_,_,_,_,h,_=>by simp at h
 |p::P,w::vs,0,m,nd,h1,h2,hk=>by
  simp at h1 h2;subst h1;subst h2;show bindL kindOf ((p,w)::P.zip vs) m p=_;unfold bindL;rw[MV λv g=>(ax.mp nd).1 (bB g).1,Z1 hk];simp
 |p::P,w::vs,i+1,m,nd,h1,h2,hk=>by
  show bindL kindOf ((p,w)::P.zip vs) m x=_;unfold bindL;exact MX (i:=i) (ax.mp nd).2 (by simpa using h1) (by simpa using h2) hk
theorem MY{kindOf:Str->Option NameKind}{x:Str}{v:yU}:∀ {P:List Str}{vs:yX}{i:Nat}{m:Str->yW},P.Nodup->P[i]? =some x->vs[i]? =some v->kindOf x≠some .local ->
  bindC kindOf (P.zip vs) m x=some v
 |[],_,_,_,_,h,_,_=>by simp at h
 |_::_,[],_,_,_,_,h,_=>by simp at h
 |p::P,w::vs,0,m,nd,h1,h2,hk=>by
  simp at h1 h2;subst h1;subst h2;show bindC kindOf ((p,w)::P.zip vs) m p=_;unfold bindC;rw[MW λv g=>(ax.mp nd).1 (bB g).1,YY hk];simp
 |p::P,w::vs,i+1,m,nd,h1,h2,hk=>by
  show bindC kindOf ((p,w)::P.zip vs) m x=_;unfold bindC;exact MY (i:=i) (ax.mp nd).2 (by simpa using h1) (by simpa using h2) hk
def start(N:List Str)(vs:List V):St:=vs.map some++List.replicate (N.length-vs.length) none
def BT(CX:CG)(P:yO)(w:yK)(K:Fgx)(mg:Str->yW)(base:Heap)(N:List Str)(qual:Str)(scope:Scope)(f:yQ)(cd:yU)(A:yL)(outer:List Env)(s:yR)(H:Hp)(E:XK):Cx where
 prog:=P
 w:=w
 K:=K
 mg:=mg
 base:=base
 A:=A.deeper (envOfC qual scope s.heap.objs.size f cd)
 N:=N
 s₀:=s
 H₀:=H
 env:=envOfC qual scope s.heap.objs.size f cd
 outer:=outer
 stack:=envOfC qual scope s.heap.objs.size f cd::outer
 ex:=[]
 calm:=true
 fn:=λ_=>true
 pn:=[]
 xe:=λe D=>wpAny (model P w) (A.deeper (envOfC qual scope s.heap.objs.size f cd)) (leaving (envOfC qual scope s.heap.objs.size f cd) e) (λ_ g=>CX outer H s E e g) (λz g=>CX outer H s E z g) D
def MZ{g:Scope}{n:Nat}{x:Str}(h:g.names.lookup x=some .cell):∃c,(cellsFrom n g.names []).lookup x=some c:=by
 have q:=PySem.W.cellsFrom_some g.names n [] (.inl h);exact ay.mp q
def M0{CX:CG}{w:yK}{K:Fgx}{mg:Str->yW}{base:Heap}{N I:List Str}{f:yQ}{cd:yU}{A:yL}{outer:List Env}{s s1:yR}{H:Hp}{E:XK}
  (S:As N I scope) (hd:A.handled=none) (e0:CH P w K mg base A outer s H) (hl:vs.length=I.length) (r:At vs us)
  (x:InCallC s s.heap.objs.size (bindL (envOfC qual scope s.heap.objs.size f cd).kindOf (I.zip us) λ_=>none) (cellsFrom (s.heap.objs.size+1) scope.names []) (bindC (envOfC qual scope s.heap.objs.size f cd).kindOf (I.zip us) λ_=>none) s1):
  Ac (BT CX P w K mg base N qual scope f cd A outer s H E) [] (start N vs) H s1:=by
 have i0:I.length<=N.length:=by have:=ZI List.length S.pre;rw[Za]at this;lia
 obtain⟨O,tk,rfl,Z⟩:=x.done;have D:∀b:yQ,b ∉(BT CX P w K mg base N qual scope f cd A outer s H E).ex:=λb z=>absurd (show b∈([]:List yQ) from z) (by simp)
 refine⟨⟨e0.mod,S.kind,rfl,rfl,Y5 _,λy z c O g=>?_,λy G=>?_,λy c _ h=>?_,λ_=>hd,cH e0.frames,.inr ⟨rfl,rfl⟩,λb z=>absurd z (D b),e0.bs,e0.bsz,λb _ _=>D b,λb z=>absurd z (D b),e0.funs,e0.frf⟩,
  rfl,e0.bare,Un.kept Z,⟨_,x.toInCall.ns,λi y v O g h3=>?_⟩,λy c h=>⟨_,x.cell y c h⟩,e0.hok.fresh (Y5 _),λy c h=>?_,λp J=>absurd (show p∈([]:PNs) from J) (by simp),e0.hok.kept Z,?_⟩
 .exact name_of_addr x.apart (PySem.mem_of_lookup O) (PySem.mem_of_lookup g)
 .have G:scope.names.lookup y=some .cell\/scope.names.lookup y=some .free:=G;rcases G with G | G
  .exact MZ G
  .exact absurd rfl (S.nofree _ (PySem.mem_of_lookup G))
 .exact ZZ (x.above y c (PySem.mem_of_lookup h))
 .have hi:i<vs.length:=by
   unfold start at g
   by_cases hi:i<vs.length
   .exact hi
   .rw[aN (by simpa using hi)]at g;rw[eE]at g;split at g<;>cases g
  have ha:vs[i]? =some v:=by
   unfold start at g;rw[aY (by simpa using hi),YU]at g;cases e:vs[i]? with
   |none=>rw[e]at g;cases g
   |some a=>rw[e]at g;cases g;rfl
  obtain⟨u,hu,rv⟩:=r.get ha;have J:I[i]? =some y:=by
   rw[<-S.pre,dW (by lia)];exact O
  have L:I.Nodup:=by rw[<-S.pre];exact S.nd.sublist (List.take_sublist _ _)
  refine⟨u,rv,?_⟩;rcases S.par y (Y8 J) with k | k
  .exact .inl ⟨k,MX L J hu k⟩
  .obtain⟨c,e⟩:=MZ (n:=s.heap.objs.size+1) k;refine .inr ⟨.inl k,c,e,?_⟩;have q:=x.cell y c e;rw[MY L J hu (by show scope.names.lookup y≠_;rw[k];decide)]at q;exact q
 .exact e0.hok.fresh (ZZ (x.above y c (PySem.mem_of_lookup h)))
 .unfold start;show _=N.length;rw[Zj,Y0,ZK];lia
def HK{CX:CG}{w:yK}{K:Fgx}{mg:Str->yW}{base:Heap}{k:Nat}{f:yQ}{name:Str}{g:Arguments}{body:List Stmt}{dV kV Z pm dl ct oc:yU}{an od:Option yQ}
  {i4:Array (yW)}{N ps:List Str}{sp:Sp} (lk:K.lookup f=some ⟨oc,od,.func (PySem.W.fnOf name qual g body scope dV kV Z pm an dl ct),i4⟩) (i5:PySem.W.codeIn K dl qual=true) (S:As N ps scope)
  (len:∀vs H Q E,sp vs H Q E->vs.length=ps.length)
  (D : ∀ (A : yL) (outer : List Env) (s : yR) (H : Hp) (vs : List V) (Q : VK) (E : XK), AN k (A.deeper (envOfC qual scope s.heap.objs.size f dl)) -> sp vs H Q E ->
   ∃t,PSs (BT CX P w K mg base N qual scope f dl A outer s H E) body t/\t { nx:=λ_ H'=>Q .non H',rt:=Q} (start N vs) H):
  BK P w K mg base CX (k+1) f (PySem.W.fnOf name qual g body scope dV kV Z pm an dl ct) ps sp:=by
 refine⟨len,λA outer s H args us vs Q E hr e0 hb r O=>?_⟩;have hl:=len _ _ _ _ O;have KX:K.In s.heap:=e0.mod.kin.keeps λb o e=>(e0.bs b o e).1
 have i0:s.heap.NoLimit:=e0.mod.nolimit.keeps λb o e=>(e0.bs b o e).1
 have G:∀y∈ps.zip us,scope.names.lookup y.1=some .local \/(scope.names.lookup y.1=some .cell/\((cellsFrom (s.heap.objs.size+1) scope.names []).lookup y.1).isSome=true):=fun⟨n,v⟩ hy=>by
  rcases S.par n (bB hy).1 with q | q
  .exact .inl q
  .exact .inr ⟨q,PySem.W.cellsFrom_some _ _ _ (.inl q)⟩
 refine fg hr.depth (KX _ _ lk) rfl S.co S.gen rfl (PySem.W.codeRec_of KX i5) (hb _ _ _ _ ?_);refine dF S.kind G λenv he s1 x=>?_
 subst he;refine⟨i0.keeps x.toInCall.keep,codeAny_func ?_⟩;obtain⟨t,ht,hq⟩:=D A outer s H vs Q E (hr.deeper _) O;have I:Ac (BT CX P w K mg base N qual scope f dl A outer s H E) [] (start N vs) H s1:=M0 S hr.hd e0 hl r x;refine Zf (ht [] s1 (start N vs) H _ I hq) (λfl s' L=>?_) λe s' L=>L
 have fin:∀ {z:St}{H':Hp}{v:V}{u:yU},Ac (BT CX P w K mg base N qual scope f dl A outer s H E) [] z H' s'->RelV v u->Q v H'->CE outer P w H s Q u s':=
  λ{z H' v u} J rv q=>⟨v,H',J.os,J.bare,J.base,J.hok,rv,q⟩
 cases fl with
 |ret u=>
  obtain⟨v,z,H',J,rv,q⟩:=L;exact fin J rv q
 |next=>
  obtain⟨z,H',J,q⟩:=L;exact fin (v:=V.non) (u:=Value.none) J rfl q
 |brk=>
  obtain⟨_,_,_,q⟩:=L;exact False.elim q
 |cont=>
  obtain⟨_,_,_,q⟩:=L;exact False.elim q
end L2
namespace L2
variable{X:Cx}{x:Str}{p pos:Pos}{e:yJ}{es:List yJ}{t:TA}{id T:String}{r:List V -> Hp -> VK -> Prop}
def Ky(r:List V->Hp->VK->Prop)(t:TA):TE:=fun D H Q=>t D H λz g=>r z g Q
def AG(Z:BF X (.builtin id) r)(hg:Gl X x)(hm:X.mg x=none)(G:bootBuiltins x=some (.builtin id))(ha:PA X (e::es) t)(hn:autoParam (x≠ "__name__") S7)(hdb:autoParam ((x==("__debug__" :Str))=false) S7)
  (he:autoParam (starEach (e::es) X.env=(false,eval e X.env)::starEach es X.env) m5) (g:autoParam ((backTo pos (starEach es X.env)).any (·.1)=false) m5):PE X (.Call (.Name x p) (e::es) [] pos) (Ky r t):=by
 intro ad s z H Q I h;refine ZH (Dd I hg hm G ?_ hn hdb);exact cJ (Ap (ha pos ad s z H _ I h) λJ L ⟨D,H1,O,r1,q1⟩=>Z ad L z H1 D J Q O r1 q1) he g
def A6(Z:BF X (.type T) r)(hg:Gl X x)(hm:X.mg x=none)(G:bootBuiltins x=some (.type T))(ha:PA X (e::es) t)(hn:autoParam (x≠ "__name__") S7)(hdb:autoParam ((x==("__debug__" :Str))=false) S7)
  (he:autoParam (starEach (e::es) X.env=(false,eval e X.env)::starEach es X.env) m5) (g:autoParam ((backTo pos (starEach es X.env)).any (·.1)=false) m5):PE X (.Call (.Name x p) (e::es) [] pos) (Ky r t):=by
 intro ad s z H Q I h;refine ZH (Dd I hg hm G ?_ hn hdb);exact Zy (Ap (ha pos ad s z H _ I h) λJ L ⟨D,H1,O,r1,q1⟩=>Z ad L z H1 D J Q O r1 q1) he g
end L2
namespace HT
open PySem PyProof.Rows
variable{sl:yQ}{vl vu:yU}
variable{prog:yO}{w:yK}{A:yL}{E:yY}{s:yR}
def sIx(n d:Nat):Option Int->Nat
 |none=>d
 |some v=>if v<0 then(v+(n:Int)).toNat else min v.toNat n
def sIx_nat(n d k:Nat):sIx n d (some (k:Int))=min k n:=by
 show(if (k:Int)<0 then((k:Int)+(n:Int)).toNat else min (k:Int).toNat n)=min k n;rw[YY (by lia),ak]
def Q7(n d:Nat)(hd:d<=n)(o:Option Int):sIx n d o<=n:=by
 cases o with
 |none=>exact hd
 |some v=>
  show(if v<0 then(v+(n:Int)).toNat else min v.toNat n)<=n
  by_cases g:v<0
  .rw[Z1 g];lia
  .rw[YY g];exact Nat.min_le_right _ _
def M3(v:Int)(n d:Nat):(if v<0 then max (v+(n:Int)) 0 else min v (n:Int))=((sIx n d (some v):Nat):Int):=by
 show(if v<0 then max (v+(n:Int)) 0 else min v (n:Int))=(((if v<0 then(v+(n:Int)).toNat else min v.toNat n):Nat):Int)
 by_cases g:v<0
 .simp only[Z1 g];lia
 .simp only[YY g];lia
def Q8(lo hi:Option Int)(n:Nat):Builtin.Slice.sliceAdjust lo hi 1 (n:Int)=(((sIx n 0 lo:Nat):Int),((sIx n n hi:Nat):Int)):=by
 have g:¬((1:Int)<0):=by lia
 unfold Builtin.Slice.sliceAdjust;simp only[g,bC];refine Prod.ext ?_ ?_
 .cases lo with
  |none=>rfl
  |some v=>exact M3 v n 0
 .cases hi with
  |none=>rfl
  |some v=>exact M3 v n n
def Q9(i j:Nat):Builtin.Slice.slicePlaces (i:Int) (j:Int) 1=j-i:=by
 unfold Builtin.Slice.slicePlaces;have g:(1:Int) >0:=by lia
 simp only[g,bj,Int.ediv_one];split<;>lia
def M4{v:yU}{o:Option Int}{Q:Option Int->yR->Prop}(p:IsPart v o)(h:Q o s):wpAny (model prog w) A (Builtin.Slice.slicePartIndex v) Q E s:=by
 cases p with
 |none=>exact slicePart_none h
 |int i t=>exact slicePart_int h
def sliceApplied_gen{lo hi:Option Int}{n:Nat}{Q:Int×Int×Nat->yR->Prop}(D:s.heap.IsSliceOf sl vl vu .none)(pl:IsPart vl lo)(G:IsPart vu hi)
  (h:Q (((sIx n 0 lo:Nat):Int),1,sIx n n hi-sIx n 0 lo) s):wpAny (model prog w) A (Builtin.Slice.sliceApplied (.ref sl) (pure (n:Int))) Q E s:=by
 obtain⟨os,g,I,z⟩:=id D;unfold Builtin.Slice.sliceApplied Builtin.Slice.sliceFields;refine Y1 (Y1 (ZN g z (x:=vl) rfl (Y1 (ZN g z (x:=vu) rfl (Y1 (ZN g z (x:= .none) rfl (Y4 ?_)))))));refine Y1 (slicePart_none ?_);show wpAny _ _ (if ((1:Int)==0)=true then _ else _) _ _ s;rw[YY (by decide)];refine Y1 (M4 pl (Y1 (M4 G (Y1 (Y4 ?_)))));show wpAny _ _ (match Builtin.Slice.sliceAdjust lo hi 1 (n:Int) with | (lo,hi)=>pure (lo,(1:Int),Builtin.Slice.slicePlaces lo hi 1)) _ _ s;rw[Q8 lo hi n];show wpAny _ _ (pure (((sIx n 0 lo:Nat):Int),(1:Int),Builtin.Slice.slicePlaces ((sIx n 0 lo:Nat):Int) ((sIx n n hi:Nat):Int) 1)) _ _ s;rw[Q9];exact Y4 h
def Rc(xs:Array yU)(i k:Nat):((List.range k).filterMap fun(m:Nat)=>xs[((i:Int)+(m:Int) * 1).toNat]?).toArray=((xs.toList.drop i).take k).toArray:=by
 have e:(fun(m:Nat)=>xs[((i:Int)+(m:Int) * 1).toNat]?)=λm=>xs[i+m]? :=by
  funext m
  have:((i:Int)+(m:Int) * 1).toNat=i+m:=by lia
  rw[this]
 rw[e];have:=pick_run xs i k;rw[List.filterMap_map]at this;have g:((λx=>xs[x]?) ∘λx=>i+x)=λm=>xs[i+m]? :=rfl
 rw[g]at this;rw[this]
def getItem_tuple_cut{t:yQ}{items:Array yU}{lo hi:Option Int}{Q:VSP}(z:IsTup s.heap t items)(L:s.heap.IsSliceOf sl vl vu .none)(pl:IsPart vl lo)(pu:IsPart vu hi)
  (O:¬(sIx items.size 0 lo=0/\sIx items.size items.size hi=items.size))
  (h:Q (.ref s.heap.objs.size) { s with heap:=s.heap.push { cls:= .type "tuple",data:= .seq ((items.toList.drop (sIx items.size 0 lo)).take (sIx items.size items.size hi-sIx items.size 0 lo)).toArray}})
  (hsz:items.size<=sizeLine):wpAny (model prog w) A (getItem (.ref t) (.ref sl)) Q E s:=by
 have g:sizeOk (.seq ((items.toList.drop (sIx items.size 0 lo)).take (sIx items.size items.size hi-sIx items.size 0 lo)).toArray):=by
  show((items.toList.drop (sIx items.size 0 lo)).take (sIx items.size items.size hi-sIx items.size 0 lo)).toArray.size<=sizeLine;rw[Zl,Za,bG,ap];lia
 have hj:sIx items.size items.size hi<=items.size:=Q7 _ _ (Y5 _) hi;obtain⟨os,I,G,Z⟩:=id L;have D:s.TypeIs (.ref sl) "slice" :=⟨os,I,G⟩;unfold getItem
 try with_reducible refine Zn ?_
 first | refine Y1 (Y4 ?_) | skip
 refine Y1 (wpAny_sequenceKey z.typeIs (by decide) ?_);refine Y1 (aj (name:=Str.ofString "__getitem__") z.typeIs ZV
  (aG ZV z.typeIs entry_tuple_getitem ?_ (args_tuple_getitem _ _)))
 show wpAny _ _ (Builtin.Tuple.tupleItemsOf (.ref t) >>=_) _ _ s;refine Y1 (tupleItemsOf_ z ?_);refine Y1 (fP D ?_);rw[Z1 (by decide)];refine Y1 (sliceApplied_gen L pl pu ?_);have J:¬((((sIx items.size 0 lo:Nat):Int)==0 &&(1:Int)==1 &&(sIx items.size items.size hi-sIx items.size 0 lo)==items.size)=true):=by
  intro q;rw[Zh,Zh]at q;have q1:((sIx items.size 0 lo:Nat):Int)=0:=ao q.1.1;have q2:sIx items.size items.size hi-sIx items.size 0 lo=items.size:=ao q.2;exact O ⟨by lia,by lia⟩
 show wpAny _ _ (if (((sIx items.size 0 lo:Nat):Int)==0 &&(1:Int)==1 &&(sIx items.size items.size hi-sIx items.size 0 lo)==items.size)=true then _ else _) _ _ s;rw[YY J,Rc]
 first
  |exact Y1 (m:=Builtin.Tuple.tupleExact _) (ZG (Y4 ⟨_,rfl,Y4 h⟩) g)
  |exact Y1 (m:=Builtin.Tuple.tupleExact _) (ZG (Y1 (Y4 (Y4 ⟨_,rfl,Y4 h⟩))) g)
  |exact Y1 (Y1 (m:=Builtin.Tuple.tupleExact _) (ZG (Y4 (Y4 ⟨_,rfl,Y4 h⟩)) g))
  |exact Y1 (Y1 (m:=Builtin.Tuple.tupleExact _) (ZG (Y4 ⟨_,rfl,Y4 h⟩) g))
end HT
namespace L2
abbrev TO:=St->Hp->(Option Int->Hp->Prop)->Prop
def PO(X:Cx)(e:Option yJ)(t:TO):Prop:=
 ∀(ad:PNs) (s:yR) (g:St) (H:Hp) (Q:Option Int->Hp->Prop),Ac X ad g H s->t g H Q->
  wpAny (model X.prog X.w) X.A (evalPart e X.env) (λu D=>∃o z,Ac X ad g z D/\IsPart u o/\Q o z) X.xe s
def Re:TO:=λ_ H Q=>Q none H
inductive Rf_(Q:Option Int->Hp->Prop)(x:V)(g:Hp):Prop
 |mk(i:_)(_:x= .int i)(_:Q (some i) g)
def Rf(t:TE):TO:=fun z H Q=>t z H λx g=>Rf_ Q x g
def Rg{ns:yV}:∀ {us:yX},At (ns.map V.int) us->IntsAre us ns:=by
 induction ns with
 |nil=>intro us r;rw[map_nil]at r;cases r;exact .nil
 |cons n ns ih=>
  intro us r;rw[ZJ]at r;cases r with
  |cons r1 r2=>
   obtain⟨t,e⟩:=r1;subst e;exact .cons n t (ih r2)
variable{X:Cx}{e:yJ}{te:TE}{lo hi:Option yJ}{tl th:TO}{pos p2:Pos}
def HL:PO X none Re:=by
 intro ad s g H Q I h;rw[evalPart_none];exact Y4 ⟨none,H,I,.none,h⟩
def CY(h:PE X e te):PO X (some e) (Rf te):=by
 intro ad s z H Q I g;rw[evalPart_some];refine Ap (h ad s z H _ I g) λu Z L=>?_
 obtain⟨x,J,D,O,G⟩:=L;obtain⟨i,rfl,q⟩:=G;obtain⟨t,rfl⟩:=O;exact⟨some i,J,D,.int i t,q⟩
def HM(X:Cx)(r:V->Option Int->Option Int->Hp->VK->Prop):Prop:=
 ∀(ad:PNs) (s:yR) (D:St) (H:Hp) (x:V) (v G g:yU) (lo hi:Option Int) (z:yQ) (Q:VK),Ac X ad D H s->RelV x v->s.heap.IsSliceOf z G g .none->IsPart G lo->IsPart g hi->r x lo hi H Q->
  ∃T id,typeLookup (.type T) "__getitem__"=pure (some (.builtin id))/\s.TypeIs v T/\wpAny (model X.prog X.w) X.A (getItem v (.ref z)) (EP X ad D Q) X.xe s
def Rh(r:V->Option Int->Option Int->Hp->VK->Prop)(I:TE)(J z:TO):TE:=fun g H Q=>I g H λx D=>J g D λl L=>z g L λu G=>r x l u G Q
def Eo{r:V->Option Int->Option Int->Hp->VK->Prop}(hr:HM X r)(he:PE X e te)(hl:PO X lo tl)(hu:PO X hi th):PE X (.Subscript e (.Slice lo hi none p2) pos) (Rh r te tl th):=by
 intro ad s z H Q I h;refine Subscript_ (Ap (he ad s z H _ I h) λv s1 J=>?_);obtain⟨x,H1,I1,r1,q1⟩:=J;refine wpAny_Slice (Ap (hl ad s1 z H1 _ I1 q1) λG s2 ⟨l,H2,O,pl,q2⟩=>Ap (hu ad s2 z H2 _ O q2) λD g J=>?_);obtain⟨u,L,I3,pu,q3⟩:=J;rw[evalPart_none];refine Y4 ?_;have Z:Ac X ad z L { g with heap:=g.heap.push { cls:= .type "slice",data:= .fields #[G,D,.none]}}:=I3.kept (t':=g.toks) λb ob q=>Y2 _ q
 obtain⟨T,id,hT,ht,hg⟩:=hr ad { g with heap:=g.heap.push { cls:= .type "slice",data:= .fields #[G,D,.none]}} z L x v G D l u g.heap.objs.size Q Z r1 (Heap.IsSliceOf.new ..) pl pu q3;show wpAny (model X.prog X.w) X.A (subscriptTail e (.Slice lo hi none p2) v (.ref g.heap.objs.size)) (EP X ad z Q) X.xe { g with heap:=g.heap.push { cls:= .type "slice",data:= .fields #[G,D,.none]}};exact tail_any (ops:=[.ref g.heap.objs.size,v]) ht hT hg (by with_unfolding_all rfl)
def Bc(xs:List V)(lo hi:Option Int):List V:=(xs.drop (HT.sIx xs.length 0 lo)).take (HT.sIx xs.length xs.length hi-HT.sIx xs.length 0 lo)
def HN(xs:List V)(lo hi:Option Int):(Bc xs lo hi).length<=xs.length:=by
 unfold Bc;rw[Za,bG];lia
end L2
namespace L2
variable{n j:Nat}{i:Int}{α:Type}{xs:List α}{v u:yU}{ad:List (yQ × Obj)}{σ:St}{H:Hp}{s:yR}{p:yQ}{y:V}
def CZ(n:Nat)(i:Int):Option Nat:=if 0<=i then(if i<n then some i.toNat else none) else if -(n:Int)<=i then some (i+n).toNat else none
def B5{g:Type}(xs:List g)(i:Int):Option g:=(CZ xs.length i).bind λj=>xs[j]?
def M5(h:CZ n i=some j):seqIndex? i n=some j/\j<n/\ -(n:Int)<=i/\i<n:=by
 unfold CZ at h
 by_cases h0:0<=i
 .rw[Z1 h0]at h
  by_cases g:i<n
  .rw[Z1 g]at h;have e:i.toNat=j:=Zb h;exact⟨by rw[seqIndex_of h0 g,e],by lia,by lia,g⟩
  .rw[YY g]at h;cases h
 .rw[YY h0]at h
  by_cases g: -(n:Int)<=i
  .rw[Z1 g]at h;have e:(i+n).toNat=j:=Zb h;exact⟨by rw[fQ (by lia) g,e],by lia,g,by lia⟩
  .rw[YY g]at h;cases h
def M6{v:α}(h:B5 xs i=some v):∃j,seqIndex? i xs.length=some j/\xs[j]? =some v/\j<xs.length/\ -(xs.length:Int)<=i/\i<xs.length:=by
 unfold B5 at h;cases e:CZ xs.length i with
 |none=>rw[e]at h;cases h
 |some j=>
  rw[e]at h;obtain⟨g,D,z,h4⟩:=M5 e;exact⟨j,g,h,D,z,h4⟩
def Cr{v:α}(h:xs[j]? =some v):B5 xs (j:Int)=some v:=by
 have g:j<xs.length:=(Y3.mp h).1;have e:CZ xs.length (j:Int)=some j:=by
  unfold CZ;rw[Z1 (by lia),Z1 (by lia)];simp
 unfold B5;rw[e];exact h
def Ri(xs:List α)(v:α):B5 (xs++[v]) (-1)=some v:=by
 have g:(xs++[v]).length=xs.length+1:=by simp
 have e:CZ (xs++[v]).length (-1)=some xs.length:=by
  unfold CZ;rw[g,YY (by decide),Z1 (by lia)]
  congr 1
  lia
 unfold B5;rw[e];show(xs++[v])[xs.length]? =some v;simp
def Rj(b:yJ):Prop:=∀o i,subscripted b false o i=operate [o,i] (getItem o i)
def Gj(X:Cx)(r:R2):Prop:=
 ∀(z g:yJ) (ad:PNs) (s:yR) (D:St) (H:Hp) (x y:V) (v u:yU) (Q:VK),Ac X ad D H s->RelV x v->RelV y u->r x y H Q->
  subscripted g false v u=operate [v,u] (getItem v u)->wpAny (model X.prog X.w) X.A (subscriptTail z g v u) (EP X ad D Q) X.xe s
def Gk(X:Cx)(id:String)(r:V->List V->Hp->VK->Prop):Prop:=
 ∀(ad:PNs) (s:yR) (D:St) (H:Hp) (x:V) (z:List V) (v:yU) (g:yX) (Q:VK),Ac X ad D H s->RelV x v->At z g->r x z H Q->
  wpAny (model X.prog X.w) X.A (call (.builtin id) (v::g)) (EP X ad D Q) X.xe s
variable{X:Cx}{a b:yJ}{ta tb:TE}{pos:Pos}
def AI{r:R2}(G:Gj X r)(ha:PE X a ta)(L:PE X b tb)(D:Rj b):PE X (.Subscript a b pos) (HD r ta tb):=by
 intro ad s J H Q I h;exact Subscript_ (Kr ha L I h λv u O x y H2 z g Z q=>G a b ad O J H2 x y v u Q z g Z q (D _ _))
inductive M7(K:Fgx)(x y:V)(H:Hp)(Q:VK):Prop
 |mk(p g i v:_)(_:x= .ref p)(_:y= .int i)(_:Al K H p g)(_:B5 g i=some v)(_:Q v H)
inductive M8(K:Fgx)(x y:V)(H:Hp)(Q:VK):Prop
 |mk(p g i v:_)(_:x= .ref p)(_:y= .int i)(_:Ae K H p g)(_:B5 g i=some v)(_:Q v H)
def Rk:Gj X (M7 X.K):=by
 intro D O ad s σ H x y v u Q I rx ry h Z;obtain⟨p,xs,i,z,rfl,rfl,hq,he,q⟩:=h;cases rx;obtain⟨t,rfl⟩:=ry;obtain⟨L,r,pl,hz⟩:=I.list hq;obtain⟨j,g,h2,h3,h4,h5⟩:=M6 he;obtain⟨w,ew,G⟩:=r.get h2;have hl:=r.length;have hn:=Gi;have fin:EP X ad σ Q w s:=⟨z,H,I,G,q⟩
 by_cases h0:0<=i
 .have J:i.toNat=j:=by
   rw[seqIndex_of h0 h5]at g;exact Zb g
  exact item_listR pl.isList h0 (by lia) (by rw[J];simpa using ew) fin Z
 .have J:(i+(L.toArray.size:Int)).toNat=j:=by
   rw[fQ (by lia) h4]at g;rw[Zl,<-hl];exact Zb g
  exact eY (x:=w) pl.isList.typeIs slot_list_getitem.lookup
   (wpAny_getItem_list_neg (Q:=λr s'=>r=w/\EP X ad σ Q r s') pl.isList (by lia) (by rw[Zl]<;>lia) (by lia) (by rw[J];simpa using ew) ⟨rfl,fin⟩) Z
def Rl:Gj X (M8 X.K):=by
 intro g G ad s J H x y v u Q I O ry h hs;obtain⟨p,xs,i,z,rfl,rfl,L,he,q⟩:=h;cases O;obtain⟨t,rfl⟩:=ry;obtain⟨i0,r,pl,hz⟩:=I.tuple L;obtain⟨j,h1,Z,h3,h4,h5⟩:=M6 he;obtain⟨w,ew,D⟩:=r.get Z;have hl:=r.length;have hn:=Gi;have fin:EP X ad J Q w s:=⟨z,H,I,D,q⟩;exact eY (x:=w) pl.typeIs slot_tuple_getitem.lookup
  (getItem_tuple (j:=j) (Q:=λr s'=>r=w/\EP X ad J Q r s') pl (by lia) (by lia) (by rw[Zl,<-hl];exact h1) (by simpa using ew) ⟨rfl,fin⟩) hs
def Rm(its:yX)(n j:Nat)(u:yU):Obj.mapSeq (·.setIfInBounds j u) { cls:= .type "list",data:= .seq its.toArray n}= { cls:= .type "list",data:= .seq (its.set j u).toArray n}:=by
 simp[Obj.mapSeq]
def Ac.lst{xs:List V}(I:Ac X ad σ H s)(h:H p=some (.lst xs)):
  ∃(its:yX) (n:Nat),At xs its/\s.heap.get? p=some { cls:= .type "list",data:= .seq its.toArray n}/\xs.length<=sizeLine:=by
 obtain⟨z,its,n,r,e⟩:=I.hok p _ h;exact⟨its,n,r,e,z⟩
def Ac.lstUpd{xs ys:List V}{its its':yX}{g:Nat}{f:Obj->Obj}(I:Ac X ad σ H s)(h:H p=some (.lst xs))
  (G:s.heap.get? p=some { cls:= .type "list",data:= .seq its.toArray n}) (z:f { cls:= .type "list",data:= .seq its.toArray n}= { cls:= .type "list",data:= .seq its'.toArray g}) (r:At ys its') (hz:ys.length<=sizeLine) (t:Nat):
  Ac X ad σ (upd H p (.lst ys)) { s with heap:=s.heap.update p f,toks:=t}:=by
 have e:(s.heap.update p f).get? p=some { cls:= .type "list",data:= .seq its'.toArray g}:=by
  rw[ZF f G (by rw[z]<;>rfl),z]
 refine I.write (x:=p) (e:=p) (by rw[h];trivial) (.inl rfl) (λb u D q=>(Zo _ _ (Zd D)).trans q) ⟨_,e⟩ ?_;exact⟨hz,its',g,r,e⟩
inductive Rn(o i v:V)(H:Hp)(Q:Hp->Prop):Prop
 |mk(p g k j:_)(_:o= .ref p)(_:i= .int k)(_:H p=some (.lst g))(_:CZ g.length k=some j)(_:Q (upd H p (.lst (g.set j v))))
def HP:Kn X Rn:=by
 intro ad s σ H o i v ov iv u Q I ro ri rv h;obtain⟨p,xs,k,j,rfl,rfl,L,hj,q⟩:=h;cases ro;obtain⟨t,rfl⟩:=ri;obtain⟨g,n,r,J,hz⟩:=I.lst L;obtain⟨z,h2,Z,h4⟩:=M5 hj;have G:=r.length;have hn:=Gi;have O:Ac X ad σ (upd H p (.lst (xs.set j v))) { s with heap:=s.heap.update p (Obj.mapSeq (·.setIfInBounds j u))}:=
  I.lstUpd L J (Rm g n j u) (r.set rv j) (by rw[bT];exact hz) s.toks
 by_cases h0:0<=k
 .have D:k.toNat=j:=by
   rw[seqIndex_of h0 h4]at z;exact Zb z
  exact PySem.W.ki_setAt J h0 (by lia) (by rw[Zl,<-G];exact h4) (by rw[D];exact⟨_,O,q⟩)
 .have D:(k+(g.toArray.size:Int)).toNat=j:=by
   rw[fQ (by lia) Z]at z;rw[Zl,<-G];exact Zb z
  exact PySem.W.ki_setBack J (by lia) (by rw[Zl,<-G];exact Z) (by lia) (by rw[D];exact⟨_,O,q⟩)
def Ro(lo hi:Option Int)(n:Nat):(sliceBounds lo hi none n).1=((HT.sIx n 0 lo:Nat):Int)/\(sliceBounds lo hi none n).2.1=((HT.sIx n n hi:Nat):Int)/\(sliceBounds lo hi none n).2.2=1:=by
 refine⟨?_,?_,rfl⟩
 .cases lo with
  |none=>simp[sliceBounds,HT.sIx]
  |some i=>
   simp only[sliceBounds,HT.sIx,Option.getD_none,show(1:Int) >0 by decide,bj]
   by_cases h:i<0
   .simp only[h,bj]<;>lia
   .simp only[h,bC]<;>lia
 .cases hi with
  |none=>simp[sliceBounds,HT.sIx]
  |some i=>
   simp only[sliceBounds,HT.sIx,Option.getD_none,show(1:Int) >0 by decide,bj]
   by_cases h:i<0
   .simp only[h,bj]<;>lia
   .simp only[h,bC]<;>lia
def Rp(its:yX)(lo hi:Option Int):slicePick its.toArray lo hi none=((its.drop (HT.sIx its.length 0 lo)).take (HT.sIx its.length its.length hi-HT.sIx its.length 0 lo)).toArray:=by
 obtain⟨g,D,z⟩:=Ro lo hi its.toArray.size;unfold slicePick;rw[g,D,z];simp only[sliceRange_one,pick_run,Zl]<;>rfl
inductive M9(K:Fgx)(x:V)(lo hi:Option Int)(H:Hp)(Q:VK):Prop
 |mk(a g:_)(_:x= .ref a)(_:Al K H a g)(_:∀p,H p=none->Q (.ref p) (upd H p (.lst (Bc g lo hi))))
def Rq:HM X (M9 X.K):=by
 intro ad s σ H x v vl vu lo hi sl Q I G J pl pu h;obtain⟨a,g,rfl,Z,q⟩:=h;cases G;obtain⟨O,r,D,L⟩:=I.list Z;have z:=r.length;refine⟨"list",_,slot_list_getitem.lookup,D.isList.typeIs,?_⟩;refine wpAny_getItem_list_slice D.isList J pl pu .none (by simp) ?_ (by rw[Zl]<;>lia);rw[Rp,<-z];refine⟨.ref s.heap.objs.size,_,I.laid (t':=s.toks) (o:= .lst (Bc g lo hi)) (λb ob q=>Y2 _ q) (Y5 _) ?_,rfl,q _ (I.hok.fresh (Y5 _))⟩;exact⟨Ze (HN g lo hi) L,_,0,(r.drop (HT.sIx g.length 0 lo)).take (HT.sIx g.length g.length hi-HT.sIx g.length 0 lo),YV _ rfl⟩
def DD:V->Bool
 |.non=>true
 |.bl _=>true
 |.int _=>true
 |.str _=>true
 |_=>false
def Ep:V->V->Bool
 |.non,.non=>true
 |.bl a,.bl b=>a==b
 |.bl a,.int b=>(if a then 1 else 0)==b
 |.int a,.bl b=>a==(if b then 1 else 0)
 |.int a,.int b=>a==b
 |.str a,.str b=>a==b
 |_,_=>false
def Rr{A:yL}{x:V}(G:RelV y u)(g:RelV x v)(I:DD y=true)(D:DD x=true):SeqAt.EqAt A s u v (Ep y x):=by
 cases y with
 |non=>
  cases G;cases x with
  |non=>cases g;exact SeqAt.EqAt.same _
  |bl b=>cases g;exact SeqAt.EqAt.none_bool b
  |int b=>obtain⟨t,rfl⟩:=g;exact SeqAt.EqAt.none_int b t
  |str b=>obtain⟨t,rfl⟩:=g;exact SeqAt.EqAt.none_str b t
  |_=>exact absurd (show false=true from D) YZ
 |bl a=>
  cases G;cases x with
  |non=>cases g;exact SeqAt.EqAt.bool_none a
  |bl b=>cases g;exact SeqAt.EqAt.bool_bool a b
  |int b=>obtain⟨t,rfl⟩:=g;exact SeqAt.EqAt.bool_int a b t
  |str b=>obtain⟨t,rfl⟩:=g;exact SeqAt.EqAt.bool_str a b t
  |_=>exact absurd (show false=true from D) YZ
 |int a=>
  obtain⟨z,rfl⟩:=G;cases x with
  |non=>cases g;exact SeqAt.EqAt.int_none a z
  |bl b=>cases g;exact SeqAt.EqAt.int_bool a z b
  |int b=>obtain⟨t,rfl⟩:=g;exact SeqAt.EqAt.int_int a z b t
  |str b=>obtain⟨t,rfl⟩:=g;exact SeqAt.EqAt.int_str a z b t
  |_=>exact absurd (show false=true from D) YZ
 |str a=>
  obtain⟨z,rfl⟩:=G;cases x with
  |non=>cases g;exact SeqAt.EqAt.str_none a z
  |bl b=>cases g;exact SeqAt.EqAt.str_bool a z b
  |int b=>obtain⟨t,rfl⟩:=g;exact SeqAt.EqAt.str_int a z b t
  |str b=>obtain⟨t,rfl⟩:=g;exact SeqAt.EqAt.str_str a z b t
  |_=>exact absurd (show false=true from D) YZ
 |_=>exact absurd (show false=true from I) YZ
def DU(x:V)(u:yU):Bool:=match u with
 |.none=>Ep .non x
 |.bool b=>Ep (.bl b) x
 |.int i _=>Ep (.int i) x
 |.str z _=>Ep (.str z) x
 |_=>false
def Na{x:V}(r:RelV y u)(f:DD y=true):DU x u=Ep y x:=by
 cases y with
 |non=>cases r;rfl
 |bl b=>cases r;rfl
 |int i=>obtain⟨t,rfl⟩:=r;rfl
 |str z=>obtain⟨t,rfl⟩:=r;rfl
 |_=>exact absurd (show false=true from f) YZ
theorem Kz{x:V}:∀ {xs:List V}{us:yX},At xs us->xs.all DD=true->us.any (DU x)=xs.any λy=>Ep y x
 |_,_,.nil,_=>rfl
 |y::xs,u::us,.cons r t,f=>by
  rw[all_cons,Zh]at f;rw[bZ,bZ,Na r f.1,Kz t f.2]
theorem KA{A:yL}{x:V}(D:RelV x v)(z:DD x=true):∀ {xs:List V}{us:yX},At xs us->xs.all DD=true->∀u∈us,SeqAt.EqAt A s u v (DU x u)
 |_,_,.nil,_=>λu g=>by cases g
 |y::xs,u::us,.cons r t,f=>λG g=>by
  rw[all_cons,Zh]at f;rcases Z4.mp g with rfl | g
  .rw[Na r f.1];exact Rr r D f.1 z
  .exact KA D z t f.2 G g
def C1(x:V)(xs:List V):Bool:=xs.any λy=>Ep y x
inductive Nb(K:Fgx)(z:Bool)(x y:V)(H:Hp)(Q:VK):Prop
 |mk(p g:_)(_:y= .ref p)(_:(Al K H p g\/Ae K H p g))(_:DD x=true)(_:g.all DD=true)(_:Q (.bl (if z then !C1 x g else C1 x g)) H)
def Rt:OpR X (compareOp .In) (Nb X.K false):=by
 intro ad s Z H x y v u Q I J O h;obtain⟨p,xs,rfl,z,G,fs,q⟩:=h;cases O;rcases z with z | z
 .obtain⟨g,r,pl,L⟩:=I.list z;refine SeqAt.in_listAt (DU x) pl.isList (λw D=>KA J G r fs w (by simpa using D)) ⟨.bl _,H,I,rfl,?_⟩;rw[show g.toArray.any (DU x)=g.any (DU x) by simp,Kz r fs];exact q
 .obtain⟨g,r,pl,L⟩:=I.tuple z;refine SeqAt.in_tupleAt (DU x) pl (λw D=>KA J G r fs w (by simpa using D)) ⟨.bl _,H,I,rfl,?_⟩;rw[show g.toArray.any (DU x)=g.any (DU x) by simp,Kz r fs];exact q
inductive SB(K:Fgx)(z:List V)(H:Hp)(Q:VK):Prop
 |mk(p g:_)(_:z=[.ref p])(_:(Al K H p g\/Ae K H p g))(_:Q (.int (g:List V).length) H)
def Ru:BF X (.builtin "len") (SB X.K):=by
 intro ad s Z H xs O Q I r h;obtain⟨p,ys,rfl,z,q⟩:=h;obtain⟨u,rfl,J⟩:=EN r;cases J;have hn:=Gi;rcases z with z | z
 .obtain⟨G,D,pl,L⟩:=I.list z;have g:=D.length;exact Calls.call_len_list pl.isList (by simp only[Zl]<;>lia) ⟨.int ys.length,H,I.tok _,⟨s.toks+1,by rw[Zl,g]⟩,q⟩
 .obtain⟨G,D,pl,L⟩:=I.tuple z;have g:=D.length;exact len_tuple pl (by simp only[Zl]<;>lia) ⟨.int ys.length,H,I.tok _,⟨s.toks+1,by rw[Zl,g]⟩,q⟩
inductive SC(K:Fgx)(z:List V)(H:Hp)(Q:VK):Prop
 |mk(p g:_)(_:z=[.ref p])(_:((Al K H p g/\∀l,H l=none->Q (.ref l) (upd H l (.tup g)))\/(Ae K H p g/\Q (.ref p) H)))
def Rv:BF X (.type "tuple") (SC X.K):=by
 intro ad s G H xs us Q I r h;obtain⟨p,ys,rfl,h⟩:=h;obtain⟨u,rfl,Z⟩:=EN r;cases Z;rcases h with⟨hq,q⟩ | ⟨hq,q⟩
 .obtain⟨g,D,pl,J⟩:=I.list hq;have O:=D.length;refine call_tuple_list pl.isList (λz kp=>?_) (by simp only[Zl]<;>lia);have L:Ac X ad G H { s with heap:=z}:=I.kept (t':=s.toks) kp;have I2:Ac X ad G (upd H z.objs.size (.tup ys)) { s with heap:=z.push { cls:= .type "tuple",data:= .seq g.toArray}}:=
   L.laid (t':=s.toks) (λb o e=>Y2 _ e) (Y5 _) (show ObjOk X.prog X.w _ _ _ (.tup ys) from⟨J,g,D,IsTup.new _ _⟩)
  exact⟨.ref z.objs.size,_,I2,rfl,q _ (L.hok.fresh (Y5 _))⟩
 .obtain⟨g,D,pl,J⟩:=I.tuple hq;exact call_tuple_same pl ⟨.ref p,H,I,rfl,q⟩
def KB(K:Fgx)(T:String)(x:V)(H:Hp):Prop:=match x with
 |.str _=>T="str"
 |.int _=>T="int"
 |.ref p => (T = "list" /\ ∃ xs, Al K H p xs) \/ (T = "tuple" /\ ∃ o, K.lookup p = some o /\ o.cls = .type "tuple" /\ o.dict = none) \/
   (T="dict" /\((∃kvs,H p=some (.dK kvs))\/ ∃kvs,H p=some (.dT kvs)))\/(T="set" /\∃S n,H p=some (.set S n))
 |_=>False
def Nc{T:String}{x:V}(I:Ac X ad σ H s)(r:RelV x v)(ty:KB X.K T x H):
  s.TypeIs v T/\∀a,v= .ref a->∃ob,s.heap.get? a=some ob/\ob.dict=none:=by
 cases x with
 |str z=>
  obtain⟨t,rfl⟩:=r;cases(show T="str" from ty);exact⟨typeIs_str s z t,λ_ e=>nomatch e⟩
 |int i=>
  obtain⟨t,rfl⟩:=r;cases(show T="int" from ty);exact⟨typeIs_int s i t,λ_ e=>nomatch e⟩
 |ref p=>
  cases r;rcases ty with⟨rfl,xs,hq⟩ | ⟨rfl,o,hk,hc,hd⟩ | ⟨rfl,hk⟩ | ⟨rfl,S,n,hk⟩
  .obtain⟨D,_,pl,_⟩:=I.list hq;refine⟨pl.isList.typeIs,λa e=>?_⟩;cases e;obtain⟨o,n,e,c,hd,_⟩:=pl;exact⟨o,e,hd⟩
  .refine⟨⟨o,I.kIn p o hk,hc⟩,λa e=>?_⟩;cases e;exact⟨o,I.kIn _ o hk,hd⟩
  .have z:∃o,s.heap.get? p=some o/\o.ExactDict:=by
    rcases hk with⟨kvs,hk⟩ | ⟨kvs,hk⟩
    .obtain⟨_,_,_,_,o,_,_,e,ex,_⟩:=I.hok p _ hk;exact⟨o,e,ex⟩
    .obtain⟨_,_,_,_,o,_,_,e,ex,_⟩:=I.hok p _ hk;exact⟨o,e,ex⟩
   obtain⟨o,e,ex⟩:=z;refine⟨⟨o,e,ex.1⟩,λa g=>?_⟩;cases g;exact⟨o,e,ex.2.1⟩
  .obtain⟨o,_,_,_,e,ex,_⟩:=I.hok p _ hk;refine⟨⟨o,e,ex.1⟩,λa g=>?_⟩;cases g;exact⟨o,e,ex.2.1⟩
 |_=>exact False.elim ty
def Rw(K:Fgx)(T:String)(r:V->List V->Hp->VK->Prop)(to:TE):TE:=fun z H Q=>to z H λx g=>KB K T x g/\r x [] g Q
def Nd(K:Fgx)(T:String)(r:V->List V->Hp->VK->Prop)(to:TE)(t:TA):TE:=fun z H Q=>to z H λx g=>KB K T x g/\t z g λJ L=>r x J L Q
variable{o e:yJ}{es:List yJ}{to:TE}{t:TA}{D:Str}{I G:Pos}{T id:String}{r:V -> List V -> Hp -> VK -> Prop}
def Rx(Z:PlainAttrs T)(slot:Slot T name id)(D:typeOf (.builtin id)=pure (.type "method_descriptor"))(hm:Gk X id r)(ho:PE X o to)
  (g:autoParam (attributeBase o name X.env (eval o X.env)=eval o X.env) m5) (z:autoParam ((apos.endLine==cpos.line)=true) m5):PE X (.Call (.Attribute o name apos) [] [] cpos) (Rw X.K T r to):=by
 intro ad s G H Q I h;refine eG g z (Ap (ho ad s G H _ I h) λv s1 zq=>?_);obtain⟨x,H1,J,L,ty,q1⟩:=zq;obtain⟨h1,O⟩:=Nc J L ty;exact⟨T,id,Z,slot,D,h1,O,eZ rfl (PySem.evalArgs_none (hm ad s1 G H1 x [] v [] Q J L .nil q1))⟩
def CU(pa:PlainAttrs T)(slot:Slot T name id)(L:typeOf (.builtin id)=pure (.type "method_descriptor"))(hm:Gk X id r)(ho:PE X o to)(ha:PA X (e::es) t)
  (z:autoParam (attributeBase o name X.env (eval o X.env)=eval o X.env) m5)
  (G : autoParam (((backTo cpos (starEach (e :: es) X.env)).all (λx => !x.1) && (backToKw cpos (keywordEach [] X.env)).all (λx => x.1.isSome)
   && decide ((e::es).length+([]:List Keyword).length+(if ([]:List Keyword).isEmpty then 0 else 1)<30))=true) m5)
  (D:autoParam ((apos.endLine==cpos.line)=true) m5) (hs:autoParam (starEach (e::es) X.env=(false,eval e X.env)::starEach es X.env) m5) (g:autoParam ((backTo cpos (starEach es X.env)).any (·.1)=false) m5):
  PE X (.Call (.Attribute o name apos) (e::es) [] cpos) (Nd X.K T r to t):=by
 intro ad s J H Q I h;refine wpAny_Call_method_late z G D rfl (Ap (ho ad s J H _ I h) λv s1 zq=>?_);obtain⟨x,H1,O,r1,ty,q1⟩:=zq;obtain⟨h1,h2⟩:=Nc O r1 ty;refine⟨T,id,pa,slot,L,h1,h2,?_⟩;have Z:=ha cpos ad s1 J H1 _ O q1;rw[hs]at Z ⊢;refine eZ (by show(false || (backTo cpos (starEach es X.env)).any (·.1))=false;rw[g]<;>rfl) (Calls.evalArgs_plain ?_);exact Ap Z λus s2 ⟨vs,H2,I2,r2,q2⟩=>hm ad s2 J H2 x vs v us Q I2 r1 r2 q2
end L2
namespace L2
variable{us its:yX}{α:Type}{n t':Nat}
def Gm(X:Cx)(id:String)(r:V->List V->Hp->VK->Prop):Prop:=
 ∀(ad:PNs) (s:yR) (D:St) (H:Hp) (x:V) (z:List V) (v:yU) (g:yX) (Q:VK),Ac X ad D H s->RelV x v->At z g->r x z H Q->
  wpAny (model X.prog X.w) X.A (call (.builtin id) (v::g)) (EP X ad D Q) X.xe s
def At.zero(h:At [] us):us=[]:=by cases h;rfl
def At.one{x:V}(h:At [x] us):∃u,us=[u]/\RelV x u:=by
 cases h with
 |cons r t=>exact⟨_,by rw[At.zero t],r⟩
def At.two{x y:V}(h:At [x,y] us):∃u v,us=[u,v]/\RelV x u/\RelV y v:=by
 cases h with
 |cons r t=>
  obtain⟨v,e,q⟩:=At.one t;exact⟨_,v,by rw[e],r,q⟩
def At.dropLast{xs:List V}(h:At xs us):At xs.dropLast us.dropLast:=by
 induction h with
 |nil=>exact .nil
 |cons r t ih=>
  cases t with
  |nil=>exact .nil
  |cons q t'=>exact .cons r ih
theorem At.rep{xs:List V}(h:At xs us):∀k:Nat,At (List.replicate k xs).flatten (List.replicate k us).flatten
 |0=> .nil
 |k+1=>by
  rw[aH,aH,cK,cK];exact At.append h (At.rep h k)
def Ry(l:List α):l.eraseIdx (l.length-1)=l.dropLast:=by
 induction l with
 |nil=>rfl
 |cons a r ih=>
  cases r with
  |nil=>rfl
  |cons b r=>
   have e:(a::b::r).length-1=((b::r).length-1)+1:=by
    have g:(a::b::r).length=r.length+2:=rfl;have z:(b::r).length=r.length+1:=rfl;lia
   rw[e,List.eraseIdx_cons_succ,ih]
   all_goals rfl
theorem Nf(its:yX):∀(k:Nat) (g:yX),
  List.foldl (λx1 x2=>x1++x2) g.toArray (List.replicate k its.toArray)=(g++(List.replicate k its).flatten).toArray
 |0,g=>by simp
 |k+1,g=>by
  have e:g.toArray++its.toArray=(g++its).toArray:=by simp
  have z:(g++its)++(List.replicate k its).flatten=g++(List.replicate (k+1) its).flatten:=by
   rw[aH,cK,cL]
  rw[<-z,<-Nf its k (g++its),<-e,aH,dP]
section
variable{X:Cx}{ad:List (yQ × Obj)}{σ:St}{H:Hp}{s:yR}{l b:yQ}{xs ys zs:List V}
def Ac.lset{its':yX}{f:Array yU->Array yU}(I:Ac X ad σ H s)(g:H l=some (.lst xs))
  (e:s.heap.get? l=some { cls:= .type "list",data:= .seq its.toArray n}) (D:f its.toArray=its'.toArray) (G:At ys its') (hz:ys.length<=sizeLine):
  Ac X ad σ (upd H l (.lst ys)) { s with heap:=s.heap.update l (Obj.mapSeq f),toks:=t'}:=by
 have q:=PySem.IsL.update e f;rw[D]at q;refine I.write (x:=l) (e:=l) (by rw[g];exact trivial) (.inl rfl) (λL u J z=>(Zo s.heap (Obj.mapSeq f) (Zd J)).trans z) ⟨_,q⟩ ?_;exact⟨hz,its',_,G,q⟩
def Ac.lnew(I:Ac X ad σ H s)(g:At ys its)(hz:ys.length<=sizeLine):
  Ac X ad σ (upd H s.heap.objs.size (.lst ys)) { s with heap:=s.heap.push { cls:= .type "list",data:= .seq its.toArray},toks:=t'}:=
 I.laid (λ_ _ q=>Y2 _ q) (Y5 _) ⟨hz,its,0,g,YV _ rfl⟩
def Ac.fresh(I:Ac X ad σ H s):H s.heap.objs.size=none:=I.hok.fresh (Y5 _)
def Ac.lstM(I:Ac X ad σ H s)(g:H l=some (.lst xs)):xs.length<=sizeLine/\∃(its:yX) (n:Nat),At xs its/\xs.length=its.length/\s.heap.get? l=some { cls:= .type "list",data:= .seq its.toArray n}:=by
 obtain⟨z,its,n,r,e⟩:=I.hok l _ g;exact⟨z,its,n,r,r.length,e⟩
def Rz(h:n<=sizeLine):Builtin.List.listTooLong n=false:=by
 unfold Builtin.List.listTooLong;exact ZC (by lia)
end
variable{X:Cx}
inductive RB(x:V)(z:List V)(H:Hp)(Q:VK):Prop
 |mk(l g y:_)(_:x= .ref l)(_:z=[y])(_:H l=some (.lst g))(_:g.length<sizeLine)(_:Q .non (upd H l (.lst (g++[y]))))
def C2:Gm X "list.append" RB:=by
 intro ad s O H x J v L Q I G rv h;obtain⟨l,xs,y,rfl,rfl,D,hz,q⟩:=h;cases G;obtain⟨u,rfl,ru⟩:=rv.one;obtain⟨z,g,n,r,Z,e⟩:=I.lstM D;refine ah F.slot_list_append ⟨_,e,rfl⟩ F.entry_list_append (F.args_list_append_2 _ _) (PySem.list_append l g.toArray n u (by rw[Zl];lia)) ⟨e,?_⟩;refine⟨.non,_,I.lset (its':=g++[u]) D e (by simp) (r.append (.cons ru .nil)) ?_,rfl,q⟩;rw[Zj,Zt];lia
inductive RD(x:V)(z:List V)(H:Hp)(Q:VK):Prop
 |mk(l g y:_)(_:x= .ref l)(_:z=[])(_:H l=some (.lst g))(_:g[g.length-1]? =some y)(_:Q y (upd H l (.lst g.dropLast)))
def RE:Gm X "list.pop" RD:=by
 intro ad s σ H x vs v us Q I L rv h;obtain⟨l,xs,y,rfl,rfl,J,hy,q⟩:=h;cases L;have D:=rv.zero;subst D;obtain⟨z,g,n,r,Z,e⟩:=I.lstM J;obtain⟨u,O,ru⟩:=r.get hy;have G:g.toArray[g.toArray.size-1]? =some u:=by
  show g.toArray[g.length-1]? =some u;rw[<-fh,<-Z];exact O
 refine ah F.slot_list_pop ⟨_,e,rfl⟩ F.entry_list_pop (F.args_list_pop_1 _) (MeetsSeq.list_pop_last l g.toArray n u G (by rw[Zl];lia)) ⟨e,?_⟩;refine⟨y,_,I.lset (its':=g.dropLast) J e ?_ r.dropLast ?_,ru,q⟩
 .show g.toArray.eraseIdxIfInBounds (g.toArray.size-1)=g.dropLast.toArray;rw[Zl,List.eraseIdxIfInBounds_toArray,Ry]
 .rw[cM];lia
inductive RF(x y:V)(H:Hp)(Q:VK):Prop
 |mk(l b g z:_)(_:x= .ref l)(_:y= .ref b)(_:H l=some (.lst g))(_:H b=some (.lst z))(_:g.length+z.length<=sizeLine)(_:∀p,H p=none->Q (.ref p) (upd H p (.lst (g++z))))
def RG:OpR X (binaryOp .Add) RF:=by
 intro ad s σ H x y v u Q I G O h;obtain⟨l,b,xs,zs,rfl,rfl,hH,hB,hz,q⟩:=h;cases G;cases O;obtain⟨z,D,n,r,hl,e⟩:=I.lstM hH;obtain⟨z2,g,n2,J,Z,e2⟩:=I.lstM hB;refine PySem.P.add_list e e2 ?_ (by rw[Zl,Zl];lia);have L:D.toArray++g.toArray=(D++g).toArray:=by simp
 rw[L];exact⟨.ref _,_,I.lnew (t':=s.toks) (r.append J) (by rw[Zj];lia),rfl,q _ I.fresh⟩
inductive RH(x y:V)(H:Hp)(Q:VK):Prop
 |mk(l k g:_)(_:x= .ref l)(_:y= .int k)(_:H l=some (.lst g))(_:-(2 ^ 63)<=k)(_:k<2 ^ 63)(_:g.length * k.toNat<=sizeLine)(_:∀p,H p=none->Q (.ref p) (upd H p (.lst (List.replicate k.toNat g).flatten)))
def RI(xs:List α)(k:Nat):(List.replicate k xs).flatten.length=k * xs.length:=by
 induction k with
 |zero=>simp
 |succ k ih=>rw[aH,cK,Zj,ih,dX,Nat.add_comm]
def RJ:OpR X (binaryOp .Mult) RH:=by
 intro ad s σ H x y v u Q I rx ry h;obtain⟨l,k,xs,rfl,rfl,hH,h1,h2,hz,q⟩:=h;cases rx;obtain⟨t,rfl⟩:=ry;obtain⟨z,g,n,r,hl,e⟩:=I.lstM hH;have O:g.toArray.size * k.toNat<=sizeLine:=by rw[Zl,<-hl];exact hz
 have J:¬g.toArray.size * k.toNat>(2 ^ 63-1)/ 8:=by
  have:(sizeLine:Nat)<=(2 ^ 63-1)/ 8:=by decide
  lia
 have L:¬(!Builtin.List.listFitsIndex k)=true:=by
  rw[fitsIndex_both h1 h2];exact YZ
 have D:¬Builtin.List.listTooLong (g.toArray.size * k.toNat)=true:=by
  rw[Rz O];exact YZ
 have G:List.foldl (λx1 Z=>x1++Z) #[] (List.replicate (if g.toArray.isEmpty=true then 0 else k.toNat) g.toArray)=(List.replicate k.toNat g).flatten.toArray:=by
  have f0:∀m:Nat,List.foldl (λx1 Z=>x1++Z) #[] (List.replicate m g.toArray)=(List.replicate m g).flatten.toArray:=λm=>by
   have:=Nf g m [];rw[fC]at this;exact this
  rw[f0];cases g with
  |nil=>simp
  |cons a r'=>rw[YY (by simp)]
 refine wpAny_binaryOp_repeat_ref (T:="list") (U:="int") (by decide) ⟨_,e,rfl⟩ (λs'=>typeIs_int s' k t) noFill_list_mul F.fills_int_mul F.slot_int_rmul repeat_list F.slot_int_index.lookup
  (ah F.slot_int_rmul (typeIs_int s k t) F.entry_int_rmul (F.args_int_rmul_2 _ _) (int___rmul___int_list k t l g.toArray n)
   ⟨e,rfl,⟨_,e,rfl⟩,ah F.slot_list_mul ⟨_,e,rfl⟩ F.entry_list_mul (F.args_list_mul_2 _ _) (AutoListH.list___mul___list_int_3 l g.toArray n k t L J D) ⟨e,?_⟩⟩)
 rw[G];exact⟨.ref _,_,I.lnew (t':=s.toks) (r.rep k.toNat) (by rw[RI,Nat.mul_comm];exact hz),rfl,q _ I.fresh⟩
end L2
namespace Att
open PySem PySem.W PySem.Calls PyProof.Rows
def RK{P:Params}{h:Heap}:∀(ns:yV) (vs:yX),WellAll P h vs (ns.map WData.int)->IntsAre vs ns:=by
 intro ns
 induction ns with
 |nil=>
  intro vs w;rw[map_nil]at w;cases w;exact .nil
 |cons n ns ih=>
  intro vs w;rw[ZJ]at w;cases w with
  |cons a b=>
   cases a;exact .cons _ _ (ih _ b)
def RL{l:OpenLaw}{n:Nat}(Z:l.most=some n){P:Params}{h:Heap}{args:List WData}{z:yX}
    (g:l.row.toRowW.claim.pre args=true) (J:WellAll P h z args):
    ∃a vs ns,z=[Value.ref a]/\args=[WData.list (ns.map WData.int)]/\h.get? a=some { cls:= .type "list",data:= .seq vs.toArray}/\IntsAre vs ns/\ns.length<=n:=by
  have I:WShape.hasAll [] args [.list .int]=true:=(pre_splitW g).1;have L:l.pre.holds [] { args:=args}=true:=(pre_splitW g).2;obtain⟨d,r,rfl,h1,O⟩:=hasAllW_cons I;obtain rfl:=hasAllW_nil O;obtain⟨xs,rfl,h3⟩:=hasW_list h1;obtain⟨ns,rfl⟩:=items_int h3;have D:ns.length<=n:=by
    unfold OpenLaw.pre at L;have h4:(WTm.not (.lt (.lit (.int (n:Int))) (.len (.arg 0)))).holds [] { args:=[.list (ns.map .int)]}=true:=by
      have h4:=(holds_andW L).1;rw[Z]at h4;exact h4
    have G:=condW_of h4 (w_not (w_lt w_lit (w_len_list (w_arg rfl))));rw[Y0]at G;refine Nat.le_of_not_lt λq=>?_
    have q':(n:Int)<((ns.length:Nat):Int):=by lia
    first
      |(rw[Zv q']at G;exact absurd G (by decide))
      |(simp at G;lia)
  cases J with
  |cons w1 w2 =>
    cases w2;cases w1 with
    |list ho hall=>exact⟨_,_,ns,rfl,rfl,ho,RK ns _ hall,D⟩
def RM(l:OpenLaw)(args:List WData):l.row.toRowW.claim.post args (.bool true) args=true:=
 postW_of (r:=l.row.toRowW) (X:=(true==true))
  (show WShape.has [] (.bool true) .bool=true by first | rfl | decide | simp[WShape.has,WShape.arms,WShape.armsAll])
  (show(WTm.eq .res (.lit (.bool true))).value [] { args:=args,res:=some (.bool true),after:=args}=some (.bool (true==true)) from w_eq_bool (w_res rfl) w_lit) rfl
def attach_call{l:OpenLaw}{n:Nat}{q:yO}{z:List Str}{XP:(Str->yW)->Heap->Prop}{YP:yK->Heap->Prop}{d:DefRec}
  (hn:l.most=some n) (i5:d.params.defaults=[])
  (call : ∀ (w : yK) (s₀ g : yR) (mg mb : Str -> yW) (L : yQ) (o : Obj) (pm cd I : yU) (a : yQ) (vs : yX) (ns : yV),
   Ground q z [] XP w s₀ mg mb g.heap->YP w g.heap->
   g.heap.get? L=some o->o.data= .func (docDef d.name d.params d.body d.scope pm cd I)->g.heap.CodeRec cd d.name->mg d.name=some (.ref L)->
   g.heap.get? a=some { cls:= .type "list",data:= .seq vs.toArray}->IntsAre vs ns->ns.length<=n->g.gens= #[]->
   codeAny (model l.prog w) callerA (.call (.ref L) ⟨[.ref a],[]⟩) (λr s'=>r= .ok (.ret (.bool true))/\OldK g.heap s'.heap/\s'.os=g.os/\AllBare s'.gens) g):
  WalkO q z XP YP l.row.toRowW d [] (λf vs=>PySem.call f vs):=by
 intro w s₀ g mg mb G Y L o pm cd I dV kV ho hd i6 hD i4 hg args i7 as J i8 i9 i0 j0;obtain rfl:dV= .none:=Dflts.none hD i5;obtain rfl:kV= .none:=Dflts.noKw hD;obtain⟨a,vs,ns,rfl,rfl,O,D,Z⟩:=RL hn J i0;refine enter_call (ae (call w s₀ g mg mb L o pm cd I a vs ns G Y ho (fd_plain hd) i6 i4 O D Z hg) λr s' hq=>?_);obtain⟨rfl,h2,h3,h4⟩:=hq;exact⟨.inl ⟨.bool true,.bool true,[],rfl,λ_=>rfl,.bool true,RM l _,λ_=>⟨List.Pairwise.nil,λ_ hm=>(nomatch hm)⟩⟩,h2,h3,h4⟩
end Att
namespace L2
theorem Ng:∀ {vs:yX}{ns:yV},IntsAre vs ns->At (ns.map V.int) vs
 |_,_,.nil=> .nil
 |_,_,.cons n t h=> .cons ⟨t,rfl⟩ (Ng h)
variable{qual:Str}{fd:FuncData}{ps:List Str}{H H':Hp}
def BB(s:Stmt):Arguments:=match s with
 |.FunctionDef _ a _ _ _ _ _ _ _ _=>a
 |_=> { posonlyargs:=[],args:=[],vararg:=none,kwonlyargs:=[],kw_defaults:=[],kwarg:=none,defaults:=[]}
def A9(s:Stmt):List Stmt:=match s with
 |.FunctionDef _ _ b _ _ _ _ _ _ _=>b
 |_=>[]
def Am(s:Stmt):Scope:=match s with
 |.FunctionDef _ _ _ _ _ _ sc _ _ _=>sc
 |_=> { kind:= .function,names:=[],isGenerator:=false,isCoroutine:=false}
abbrev CX0:CG:=λ_ _ _ _ _ _=>False
abbrev E0:XK:=λ_ _ _=>False
def Cb{X:Cx}:DB CX0 X E0:=λ_ _ _ _ _ _ _ h=>h.elim
structure DV(K:Fgx)(x qual:Str)(st:Stmt)(f:yQ)(fd:FuncData):Prop where
 ex:∃(oc:yU) (od:Option yQ) (kV doc pm:yU) (an:Option yQ) (dl ct:yU) (osl:Array (yW)),
  fd=PySem.W.fnOf x qual (BB st) (A9 st) (Am st) .none kV doc pm an dl ct/\K.lookup f=some ⟨oc,od,.func fd,osl⟩/\PySem.W.codeIn K dl qual=true
 kp:PySem.W.keepIn K (.ref f)=true
section
variable{P:yO}{w:yK}{K:Fgx}{mg:Str -> yW}{base:Heap}
def DV.ok{x:Str}{st:Stmt}{f:yQ}{N:List Str}{k:Nat}{sp:Sp}(F:DV K x qual st f fd)(S:As N ps (Am st))(len:∀vs H Q E,sp vs H Q E->vs.length=ps.length)
  (g : ∀ (dl : yU) (A : yL) (outer : List Env) (s : yR) (H : Hp) (vs : List V) (Q : VK) (E : XK), AN k (A.deeper (envOfC qual (Am st) s.heap.objs.size f dl)) -> sp vs H Q E ->
   ∃t,PSs (BT CX0 P w K mg base N qual (Am st) f dl A outer s H E).nox (A9 st) t/\t { nx:=λ_ H'=>Q .non H',rt:=Q} (start N vs) H):BK P w K mg base CX0 (k+1) f fd ps sp:=by
 obtain⟨Z,od,kV,L,pm,O,dl,ct,I,rfl,J,D⟩:=F.ex;refine HK J D S len λA outer s H vs Q E G z=>?_
 obtain⟨t,h,q⟩:=g dl A outer s H vs Q E G z;exact⟨t,h.nox,q⟩
def DV.binds{x:Str}{st:Stmt}{f:yQ}(F:DV K x qual st f fd)
  (h:∀(kV g z:yU) (D:Option yQ) (dl ct:yU) (us:yX),us.length=ps.length->bindArgs (PySem.W.fnOf x qual (BB st) (A9 st) (Am st) .none kV g z D dl ct) ⟨us,[]⟩=pure (ps.zip us)):Binds K fd ps []:=by
 obtain⟨J,O,kV,g,z,D,dl,ct,I,rfl,L,G⟩:=F.ex;exact .all (h kV g z D dl ct)
def DW{x:Str}{st:Stmt}{f:yQ}{I:yU}{J G:Option yQ}{z:Array (yW)}{kV g D dl ct:yU}(l:K.lookup f=some ⟨I,J,.func (PySem.W.fnOf x qual (BB st) (A9 st) (Am st) .none kV g D G dl ct),z⟩)
  (c:PySem.W.codeIn K dl qual=true) (k:PySem.W.keepIn K (.ref f)=true):DV K x qual st f (PySem.W.fnOf x qual (BB st) (A9 st) (Am st) .none kV g D G dl ct):=⟨⟨I,J,kV,g,D,G,dl,ct,z,rfl,l,c⟩,k⟩
end
def HQ{n:Nat}(h:n<=1000):n<sizeLine:=bO h (by decide)
section
variable{X:Cx}
def pv(i:Nat){x:Str}{g:Pos}(G:autoParam (X.N[i]? =some x) m5)(D:autoParam (Ej X.env.scope x) O')(hd:autoParam ((x==("__debug__" :Str))=false) S7)
  (z:autoParam ((x==("__classdict__" :Str))=false) S7):PE X (.Name x g) (Mo i):=Gf G D hd z
end
def Ab(H H':Hp):Prop:=∀b o,H b=some o->H' b=some o
def Ab.refl(H:Hp):Ab H H:=λ_ _ h=>h
def Ab.trans{z g:Hp}(a:Ab H z)(b:Ab z g):Ab H g:=λc o h=>b c o (a c o h)
def Ab.free(e:Ab H H'){l:yQ}(h:H' l=Option.none):H l=Option.none:=by
 cases q:H l with
 |none=>rfl
 |some o=>
  rw[e l o q]at h;cases h
def Ab.seq{K:Fgx}{a:yQ}{xs:List V}(e:Ab H H')(h:Al K H a xs):Al K H' a xs:=by
 rcases h with(h | ⟨o,h⟩) | h
 .exact .inl (.inl (e _ _ h))
 .exact .inl (.inr ⟨o,e _ _ h⟩)
 .exact .inr h
end L2
namespace L2
section
def AX(cs:List (Str×yQ)):List (Str×NameKind)->List (Str×yQ)->List (Str×yQ)
  |[],gh=>gh
  |(n,k)::r,gh=>if k== .free then(match cs.lookup n with | some a=>AX cs r ((n,a)::gh) | none=>AX cs r gh) else AX cs r gh
theorem KC{env:Env}:∀(names:List (Str×NameKind)) (g:List (Str×yQ)),(∀y∈names,y.2= .free->∃c,env.cells.lookup y.1=some c)->
    (forIn names g (fun(p:Str×NameKind) (cs:List (Str×yQ))=>do
      if (p.2==NameKind.free)=true then do
        let a<-cellOf env p.1
        pure (ForInStep.yield ((p.1,a)::cs))
      else pure (ForInStep.yield cs)):Sem (List (Str×yQ)))=pure (AX env.cells names g)
  |[],g,_=>rfl
  |(n, k) :: r, g, h => by
    rw[cO]
    by_cases z:(k==NameKind.free)=true
    . obtain⟨c,J⟩:=h (n,k) Z9 (by simpa using z);have I:env.cells.lookup n=some c:=J;simp only[z,bj,cellOf,I,AX];exact KC r _ λy G=>h y (Z3 _ G)
    . have D:(k==NameKind.free)=false:=by simpa using z
      simp only[D,au,bC,AX];exact KC r _ λy G=>h y (Z3 _ G)
def KG{env:Env}{scope:Scope}(h:∀y∈scope.names,y.2= .free->∃c,env.cells.lookup y.1=some c):closureFor scope env=pure (AX env.cells scope.names []):=by
 have q:=KC (env:=env) scope.names [] h;unfold closureFor;simp only[];have e:(forIn scope.names ([]:List (Str×yQ)) (fun(p:Str×NameKind) (cs:List (Str×yQ))=>do
   if (p.2==NameKind.free)=true then do
    let a<-cellOf env p.1
    pure (ForInStep.yield ((p.1,a)::cs))
   else pure (ForInStep.yield cs)):Sem (List (Str×yQ))) >>=(λcs=>pure cs)=pure (AX env.cells scope.names []):=by rw[q];rfl
 exact e
theorem Er{cs:List (Str×yQ)}{x:Str}{c:yQ}:∀(names:List (Str×NameKind)) (g:List (Str×yQ)),(AX cs names g).lookup x=some c->cs.lookup x=some c\/g.lookup x=some c
  |[],_,h=> .inr h
  |(n, k) :: r, g, h => by
    unfold AX at h;split at h
    . cases D:cs.lookup n with
      |none=>rw[D]at h;exact Er r g h
      |some a =>
        rw[D]at h;rcases Er r _ h with q | q
        . exact .inl q
        . rw [ZO] at q;cases z:x==n with
          |true=>rw[z]at q;rw[ZR.mp z,D];exact .inl q
          |false=>rw[z]at q;exact .inr q
    . exact Er r g h
theorem HR{cs:List (Str×yQ)}{x:Str}{c:yQ}(z:cs.lookup x=some c):∀(names:List (Str×NameKind)) (g:List (Str×yQ)),g.lookup x=some c->(AX cs names g).lookup x=some c
  |[],_,h=>h
  |(n, k) :: r, g, h => by
    unfold AX;split
    . cases G:cs.lookup n with
      |none=>exact HR z r g h
      |some a =>
        refine HR z r _ ?_;rw[ZO];cases D:x==n with
        |true=>rw[ZR.mp D,G]at z;exact z
        |false=>exact h
    . exact HR z r g h
theorem EO{cs:List (Str×yQ)}{x:Str}{c:yQ}(g:cs.lookup x=some c):∀(names:List (Str×NameKind)) (z:List (Str×yQ)),(x,NameKind.free)∈names->(AX cs names z).lookup x=some c
  |[],_,h=>nomatch h
  |(n, k) :: r, z, h => by
    unfold AX;rcases Z4.mp h with e | h
    . cases e;simp only[aJ,bj,g];exact HR g r _ (by simp[ZO])
    . split
      . cases D:cs.lookup n with
        |none=>exact EO g r z h
        |some a=>exact EO g r _ h
      . exact EO g r z h
theorem Ft{x:Str}{c:yQ}:∀(names:List (Str×NameKind)) (n:Nat) (g:List (Str×yQ)),(cellsFrom n names g).lookup x=some c->n<=c\/g.lookup x=some c
  |[],_,_,h=> .inr h
  |(y, k) :: r, n, g, h => by
    unfold cellsFrom at h;split at h
    . rcases Ft r (n+1) _ h with q | q
      . exact .inl (by lia)
      . rw [ZO] at q;cases z:x==y with
        |true=>rw[z]at q;cases q;exact .inl (Y5 _)
        |false=>rw[z]at q;exact .inr q
    . exact Ft r n g h
theorem KH{x:Str}{c:yQ}{lo:Nat}:∀(names:List (Str×NameKind)) (n:Nat) (D:List (Str×yQ)),lo<=n->((x,NameKind.cell)∈names\/ ∀c,D.lookup x=some c->lo<=c)->(cellsFrom n names D).lookup x=some c->lo<=c
  |[],_,_,_,g,h=>g.elim (λz=>nomatch z) λz=>z c h
  |(y, k) :: r, n, D, hl, g, h => by
    unfold cellsFrom at h;split at h
    . rename_i I;refine KH r (n+1) _ (by lia) ?_ h
      by_cases G:x=y
      . refine .inr λJ q=>?_
        rw[ZO,G,aJ]at q;cases q;exact hl
      . rcases g with g | g
        . rcases Z4.mp g with e | g
          . cases e;exact absurd rfl G
          . exact .inl g
        . refine .inr λJ q=>g J ?_
          rw[ZO,ZY.mpr G]at q;exact q
    . rename_i I;refine KH r n D hl ?_ h;rcases g with g | g
      . rcases Z4.mp g with e | g
        . cases e;exact absurd rfl I
        . exact .inl g
      . exact .inr g
theorem KI{x:Str}{c:yQ}:∀(names:List (Str×NameKind)) (n:Nat) (D:List (Str×yQ)),(x,NameKind.cell) ∉ names->D.lookup x=some c->(cellsFrom n names D).lookup x=some c
  |[],_,_,_,h=>h
  |(y, k) :: r, n, D, hm, h => by
    have g:(x,NameKind.cell) ∉ r:=λz=>hm (Z3 _ z)
    unfold cellsFrom;split
    . rename_i I;refine KI r (n+1) _ g ?_;rw [ZO];cases G:x==y with
      |true =>
        have J:k=NameKind.cell:=by simpa using I
        exact absurd (by rw[ZR.mp G,J];exact Z9) hm
      |false=>exact h
    . exact KI r n D g h
theorem KJ{x:Str}:∀(names:List (Str×NameKind)) (n:Nat) (D:List (Str×yQ)),((x,NameKind.cell)∈names\/ ∃c,D.lookup x=some c)->∃c,(cellsFrom n names D).lookup x=some c
  |[],_,_,g=>g.elim (λz=>nomatch z) λz=>z
  |(y, k) :: r, n, D, g => by
    unfold cellsFrom;split
    . rename_i I;refine KJ r (n+1) _ ?_
      by_cases G:x=y
      . exact .inr ⟨n,by rw[G,ZO,aJ]⟩
      . rcases g with g | ⟨c,g⟩
        . rcases Z4.mp g with e | g
          . cases e;exact absurd rfl G
          . exact .inl g
        . exact .inr ⟨c,by rw[ZO,ZY.mpr G];exact g⟩
    . rename_i I;refine KJ r n D ?_;rcases g with g | g
      . rcases Z4.mp g with e | g
        . cases e;exact absurd rfl I
        . exact .inl g
      . exact .inr g
theorem KK:∀(names:List (Str×NameKind)) (n:Nat) (D:List (Str×yQ)),(∀x c,D.lookup x=some c->c<n)->(∀x y c,D.lookup x=some c->D.lookup y=some c->x=y)->
    ∀x y c,(cellsFrom n names D).lookup x=some c->(cellsFrom n names D).lookup y=some c->x=y
  |[],_,_,_,hi=>hi
  |(z, k) :: r, n, D, hb, hi => by
    unfold cellsFrom;split
    . refine KK r (n+1) _ (λx c q=>?_) λx y c q g=>?_
      . rw [ZO] at q;cases G:x==z with
        |true=>rw[G]at q;cases q;exact bg _
        |false=>rw[G]at q;exact ZX (hb x c q)
      . rw [ZO] at q g;cases G:x==z with
        |true =>
          rw[G]at q;cases q;cases I:y==z with
          |true=>rw[ZR.mp G,ZR.mp I]
          |false=>rw[I]at g;exact absurd (hb y _ g) (Z8 _)
        |false =>
          rw[G]at q;cases I:y==z with
          |true=>rw[I]at g;cases g;exact absurd (hb x _ q) (Z8 _)
          |false=>rw[I]at g;exact hi x y c q g
    . exact KK r n D hb hi
theorem KM:∀(names:List (Str×NameKind)) (h:Heap) (g:List (Str×yQ)) {x:Str}{c:yQ},(cellsFrom h.objs.size names g).lookup x=some c->(pushCells h names).IsCell c none\/g.lookup x=some c
  |[],_,_,_,_,q=> .inr q
  |(z, k) :: r, h, g, x, c, q => by
    unfold cellsFrom at q;unfold pushCells;split at q
    . rename_i D;rw [Z1 D];have e:(h.push { cls:= .type "cell",data:= .cell none}).objs.size=h.objs.size+1:=Zp ..;rw [<-e] at q;rcases KM r _ _ q with q | q
      . exact .inl q
      . rw [ZO] at q;cases G:x==z with
        |true =>
          rw[G]at q;cases q;refine .inl ?_;have w:(h.push { cls:= .type "cell",data:= .cell none}).IsCell h.objs.size none:=⟨_,YV _ rfl,rfl⟩;exact w.keeps (aA r _)
        |false=>rw[G]at q;exact .inr q
    . rename_i D;rw[YY D];exact KM r h g q
def KN(scope:Scope)(env:Env)(C:yQ):Env:=
  { scope:=relabel scope env,locals:=C,globals:=env.globals,cells:=cellsFrom (C+1) scope.names (AX env.cells scope.names []),qual:=env.qual,func:=none,code:=env.code,frame:=env.frame,builtins:=env.builtins}
def Nh{M:Model}{A:yL}{E:VSP}{s:yR}{scope:Scope}{env:Env}{cl:List (Str×yQ)}{Q:Env->yR->Prop}
    (h:Q { scope:=scope,locals:=s.heap.objs.size,globals:=env.globals,cells:=cellsFrom (s.heap.objs.size+1) scope.names cl,qual:=env.qual,func:=none,code:=env.code,frame:=env.frame,builtins:=env.builtins}
      { s with heap:=pushCells (s.heap.push { cls:= .type "dict",data:= .dict #[]}) scope.names}):
    wpAny M A (newFunctionEnv scope env.globals cl [] env.qual none .none (some env)) Q E s:=by
  have Aw:({ s with heap:=s.heap.push { cls:= .type "dict",data:= .dict #[]}}:yR).heap.objs.size=s.heap.objs.size+1:=Zp ..;rw[<-Aw]at h;unfold newFunctionEnv;simp only[Option.isSome_some,bj];exact Y1 (wpAny_alloc (Y1 (wpAny_layCells _ (λn k cs=>by by_cases c:(k==NameKind.cell)=true<;>simp[c]) _ _ _ _ (Y1 (Y4 (Y4 h))))))
structure AB(sc:Scope)(N:List Str)(scope:Scope)(N':List Str)(cap:List (Option Nat)):Prop where
 kind:scope.kind= .function
 free:∀y∈scope.names,y.2= .free->sc.names.lookup y.1=some .cell\/sc.names.lookup y.1=some .free
 len:cap.length=N'.length
 capt:∀(i j:Nat),cap[i]? =some (some j)->∃x:Str,N'[i]? =some x/\N[j]? =some x/\(x,NameKind.free)∈scope.names/\(x,NameKind.cell) ∉ scope.names
 names:∀y∈scope.names,y.2= .local ->scope.names.lookup y.1=some .local
 own:∀y∈scope.names,scope.names.lookup y.1=some y.2
def Ni(g:Scope)(N:List Str)(scope:Scope)(N':List Str)(cap:List (Option Nat)):Bool:=
  scope.kind== .function &&(scope.names.all λy=>y.2 != .free || g.names.lookup y.1==some .cell || g.names.lookup y.1==some .free) && cap.length==N'.length &&
    ((List.range cap.length).all λi => match cap[i]? with
      |some (some j) => (match N'[i]?, N[j]? with
        |some x,some y=>x==y && scope.names.any (λz=>z.1==x && z.2== .free) && scope.names.all (λz=> !(z.1==x && z.2== .cell))
        |_,_=>false)
      |_=>true) && scope.names.all λy=>scope.names.lookup y.1==some y.2
def AB.of{G:Scope}{N:List Str}{scope:Scope}{N':List Str}{cap:List (Option Nat)}(h:Ni G N scope N' cap=true):AB G N scope N' cap:=by
 unfold Ni at h;simp only[Zh]at h;obtain⟨⟨⟨⟨h1,J⟩,h3⟩,h4⟩,h5⟩:=h;have own:∀y∈scope.names,scope.names.lookup y.1=some y.2:=λy g=>by
  have:=Zx.mp h5 y g
  simpa using this
 refine⟨by simpa using h1,λy g I=>?_,by simpa using h3,λi j e=>?_,λy g hl=>by rw[own y g,hl],own⟩
 .have:=Zx.mp J y g;rw[I]at this
  simpa using this
 .have hi:i<cap.length:=(Y3.mp e).1;have:=Zx.mp h4 i (am.mpr hi);rw[e]at this;dsimp only at this;cases D:N'[i]? with
  |none=>rw[D]at this;simp at this
  |some x=>
   cases g:N[j]? with
   |none=>rw[D,g]at this;simp at this
   |some y=>
    rw[D,g]at this;simp only[Zh]at this;obtain⟨⟨t1,L⟩,t3⟩:=this;have e1:x=y:=by simpa using t1
    subst e1;obtain⟨z,hz,t⟩:=bH.mp L;simp only[Zh]at t;have z1:z.1=x:=by simpa using t.1
    have O:z.2= .free:=by simpa using t.2
    have Z:z=(x,NameKind.free):=by rw[<-z1,<-O]
    refine⟨x,rfl,rfl,Z ▸ hz,λhm=>?_⟩;have:=Zx.mp t3 _ hm;simp at this
def AO(cap:List (Option Nat))(g:St):St:=cap.map λo=>match o with | some j=>(match g[j]? with | some v=>v | none=>none) | none=>none
def Cc(X:Cx)(cs:List yJ)(t:TT):Prop:=
 ∀(ad:PNs) (s:yR) (g:St) (H:Hp) (Q:Bool->Hp->Prop),Ac X ad g H s->t g H Q->
  wpAny (model X.prog X.w) X.A (forIn cs true λc r=>if r=true then do let ok<-isTrue c X.env (eval c X.env);pure (ForInStep.yield ok) else pure (ForInStep.yield r)) (TP X ad g Q) X.xe s
def RN:TT:=λ_ H Q=>Q true H
def AR{X:Cx}:Cc X [] RN:=λ_ _ g H Q I h=>wpAny_tests_nil ⟨H,I,h⟩
def Gn{X:Cx}{c:yJ}{t:TT}(h:PT X c t):Cc X [c] t:=λad s g H Q I q=>wpAny_tests_one (h ad s g H Q I q)
def AQ(X:Cx)(N':List Str)(scope:Scope)(s:yR)(H:Hp)(ex:List yQ)(C:yQ):Cx:=
  { X with N:=N',s₀:=s,H₀:=H,env:=KN scope X.env C,outer:=X.stack,ex:=ex,fn:=λx=>scope.names.any λz=>z.1==x && z.2== .cell,pn:=[],xe:=λ_ _=>False}
theorem HS{env:Env}{x:Str}:∀(names:List (Str×NameKind)),(names.map fun(n,k)=>if (k==NameKind.free && env.scope.kind== .function && env.kindOf n==some .cell) then(n,NameKind.cell) else(n,k)).lookup x=
    (names.lookup x).map λk=>if (k==NameKind.free && env.scope.kind== .function && env.kindOf x==some .cell) then NameKind.cell else k
  |[]=>rfl
  |(n, k) :: r => by
    have z:=HS (env:=env) (x:=x) r;show List.lookup x ((if (k==NameKind.free && env.scope.kind== .function && env.kindOf n==some .cell)=true then(n,NameKind.cell) else(n,k))::_)=_;cases g:x==n with
    |true =>
      have e:x=n:=ZR.mp g;subst e;split<;>simp_all[ZO]
    |false =>
      have e:(List.lookup x ((n,k)::r))=r.lookup x:=by rw[ZO,g]
      rw[e,<-z];split<;>simp[ZO,g]
variable{X:Cx}{ad:List (yQ × Obj)}{σ:St}{H:Hp}{s:yR}{scope:Scope}{N':List Str}{cap:List (Option Nat)}{fp:List yQ}
def RO(I:Ac X ad σ H s)(B:AB X.env.scope X.N scope N' cap)(Z:∀b∈fp,BS X ad H b)(L:∀b∈fp,b<s.heap.objs.size){C:yQ}(J:s.heap.objs.size<=C):
  (AQ X N' scope s H fp C).Ok:=by
 have i0:∀x c,X.env.cells.lookup x=some c->c<s.heap.objs.size:=λx c e=>let ⟨_,q⟩:=I.cell x c e;q.lt
 have O:∀x c,(AX X.env.cells scope.names []).lookup x=some c->X.env.cells.lookup x=some c:=λx c e=>(Er _ _ e).elim id λz=>nomatch z
 refine⟨I.ok.mod,B.kind,I.ok.glob,I.ok.blt,J,λx y c h1 h2=>?_,λx hx=>?_,λx c hx h=>?_,I.ok.hd,I.ok.frames,.inl rfl,λb D=>⟨?_,λx c h e=>?_⟩,I.bs,Ze I.ok.bsz I.sz,λb o e D=>?_,λb D z=>?_,I.stack,I.stkFree⟩
 .exact KK scope.names (C+1) _ (λx c e=>ZX (YX (i0 x c (O x c e)) J)) (λx y c e e'=>I.ok.inj x y c (O x c e) (O y c e')) x y c h1 h2
 .have g:(relabel scope X.env).names.lookup x=some .cell\/(relabel scope X.env).names.lookup x=some .free:=hx;have hl:(scope.names.lookup x).isSome=true:=by
   unfold relabel at g;rw[HS]at g;cases q:scope.names.lookup x with
   |none=>rw[q]at g;rcases g with z | z<;>cases z
   |some k=>rfl
  obtain⟨k,hk⟩:=ay.mp hl;have hm:=PySem.mem_of_lookup hk;refine KJ scope.names (C+1) _ ?_;cases k with
  |cell=>exact .inl hm
  |free=>
   refine .inr ?_;obtain⟨c,hc⟩:=I.ok.has x (B.free _ hm rfl);exact⟨c,EO hc _ _ hm⟩
  |_=>
   unfold relabel at g;rw[HS,hk]at g;rcases g with z | z<;>simp at z
 .have g:(scope.names.any λz=>z.1==x && z.2== .cell)=true:=hx;obtain⟨z,hz,t⟩:=bH.mp g;simp only[Zh]at t;have z1:z.1=x:=by simpa using t.1
  have z2:z.2= .cell:=by simpa using t.2
  have ez:z=(x,NameKind.cell):=by rw[<-z1,<-z2]
  have:=KH (lo:=C+1) scope.names (C+1) _ (Y5 _) (.inl (ez ▸ hz)) h;exact Ze J (dJ this)
 .exact Zc (YX (L b D) J)
 .rcases Ft scope.names (C+1) _ h with q | q
  .have:=L b D;rw[<-e]at this;exact absurd (YX this (Ze J (dJ q))) (Z8 _)
  .exact(Z b D).2.2.2.2.1 x c (O x c q) e
 .obtain⟨_,_,_,G,_⟩:=Z b D;rcases G with G | G
  .exact I.ok.noex b o e G
  .exact absurd (YX (Y9 e) (Ze I.ok.bsz G)) (Z8 _)
 .obtain⟨_,f1,f2,_⟩:=Z b D;rcases Z4.mp (I.stkSub b z) with q | q
  .exact f1 q
  .exact f2 q
def Nj(I:Ac X ad σ H s)(B:AB X.env.scope X.N scope N' cap)(hf:∀b∈fp,BS X ad H b)(i5:∀b∈fp,b<s.heap.objs.size){G:Heap}(hk:∀b o,s.heap.get? b=some o->G.get? b=some o)(hsz:s.heap.objs.size<=G.objs.size):
  Ac (AQ X N' scope s H fp G.objs.size) [] (AO cap σ) H { s with heap:=pushCells (G.push { cls:= .type "dict",data:= .dict #[]}) scope.names}:=by
 have gh:∀x c,(AX X.env.cells scope.names []).lookup x=some c->X.env.cells.lookup x=some c:=λx c e=>(Er _ _ e).elim id λz=>nomatch z
 have i4:∀b o,G.get? b=some o->(pushCells (G.push { cls:= .type "dict",data:= .dict #[]}) scope.names).get? b=some o:=λb o e=>aA _ _ b o (Y2 _ e)
 have J:∀b o,s.heap.get? b=some o->(pushCells (G.push { cls:= .type "dict",data:= .dict #[]}) scope.names).get? b=some o:=λb o e=>i4 b o (hk b o e)
 refine⟨RO I B hf i5 hsz,rfl,I.bare,Un.kept J,⟨λ_=>none,(Heap.Ns.new G (.type "dict")).keeps (aA _ _),λi x v h1 h2 h4=>?_⟩,λx c h=>?_,?_,λx c h=>?_,λp hp=>absurd (show p∈([]:PNs) from hp) (by simp),I.hok.kept J,?_⟩
 .have g:(AO cap σ)[i]? =some (some v):=h2;unfold AO at g;rw[YU]at g;cases q:cap[i]? with
  |none=>rw[q]at g;cases g
  |some o=>
   rw[q]at g;cases o with
   |none=>exact nomatch Zb g
   |some j=>
    have D:(match σ[j]? with | some v=>v | none=>none)=some v:=Zb g;cases qs:σ[j]? with
    |none=>rw[qs]at D;cases D
    |some v'=>
     rw[qs]at D;have hs:σ[j]? =some (some v):=by rw[qs];exact ZI some D
     obtain⟨x',e1,e2,e3,e4⟩:=B.capt i j q;have Z:N'[i]? =some x:=h1;rw[Z]at e1;cases e1;have O:=B.free _ e3 rfl;obtain⟨m,hn,hl⟩:=I.loc;obtain⟨u,ru,lk⟩:=hl j x v e2 hs (O.elim (λz=> .inr (.inl z)) λz=> .inr (.inr z));refine⟨u,ru,?_⟩;rcases lk with⟨lk,_⟩ | ⟨_,c,hc,ic⟩
     .have i0:X.env.scope.names.lookup x=some .local :=lk;have L:X.env.scope.names.lookup x=some .cell\/X.env.scope.names.lookup x=some .free:=O;rw[i0]at L;rcases L with z | z<;>cases z
     .refine .inr ⟨?_,c,KI _ _ _ e4 (EO hc _ _ e3),ic.keeps J⟩;have:(relabel scope X.env).names.lookup x=some .cell\/(relabel scope X.env).names.lookup x=some .free:=by
       unfold relabel;rw[HS,B.own _ e3];dsimp only[Option.map];split
       .exact .inl rfl
       .exact .inr rfl
      exact this
 .have h':(cellsFrom (G.objs.size+1) scope.names (AX X.env.cells scope.names [])).lookup x=some c:=h;have e:(G.push { cls:= .type "dict",data:= .dict #[]}).objs.size=G.objs.size+1:=Zp ..;rw[<-e]at h';rcases KM _ _ _ h' with q | q
  .exact⟨_,q⟩
  .obtain⟨v,z⟩:=I.cell x c (gh x c q);exact⟨v,z.keeps J⟩
 .exact I.hok.fresh hsz
 .rcases Ft scope.names (G.objs.size+1) _ h with q | q
  .exact I.hok.fresh (Ze hsz (dJ q))
  .exact I.freeC x c (gh x c q)
 .show(AO cap σ).length=N'.length;unfold AO;rw[Y0];exact B.len
end
section
variable{E:yJ}{Y:Cx}{PB:List (yQ × Obj)}{σ:St}{zs xs:List V}{H:Hp}{its:yX}{k:Nat}{te:TE}{wi:TI}{g:TG}{tt:TT}{cap:List (Option Nat)}{Q:List V -> Hp -> Prop}
def Keep:St->St->Prop
 |[],[]=>True
 |none::r,_::r'=>Keep r r'
 |some v::r,o::r'=>o=some v/\Keep r r'
 |_,_=>False
theorem Keep.len:∀ {a b:St},Keep a b->a.length=b.length
 |[],[],_=>rfl
 |none::r,_::r',h=>by have g:Keep r r':=h;simp[Keep.len g]
 |some v::r,o::r',h=>by have g:o=some v/\Keep r r':=h;simp[Keep.len g.2]
theorem Keep.get:∀ {a b:St}{i:Nat}{v:V},Keep a b->a[i]? =some (some v)->b[i]? =some (some v)
 |[],[],_,_,_,e=>by simp at e
 |none::r,_::r',0,v,h,e=>by simp at e
 |none::r,_::r',i+1,v,h,e=>by
  have g:Keep r r':=h
  simpa using Keep.get (i:=i) g (by simpa using e)
 |some v::r,o::r',0,w,h,e=>by
  have g:o=some v/\Keep r r':=h;simp at e;simp[g.1,e]
 |some v::r,o::r',i+1,w,h,e=>by
  have g:o=some v/\Keep r r':=h
  simpa using Keep.get (i:=i) g.2 (by simpa using e)
def br(c:Bool)(A B:Prop):Prop:=(c=true->A)/\(c=false->B)
def KO(wi:TI)(cap:List (Option Nat))(g:TG)(tt:TT)(te:TE):St->Hp->(List V->Hp->Prop)->Prop:=fun L H Q=>wi L H λJ H1=>
 ∃W:Nat->Nat->List V->Hp->Prop,(∃m,W 0 m [] H1)/\∀i m I H,W i m I H->
  (J.stop i H/\Q I H)\/
  (J.go i H /\ I.length < sizeLine /\ ∃ N : List V -> Hp -> Prop, (∀ G D, N G D -> ∃ Z, Z < m /\ W (i + 1) Z G D) /\ ∀ x D, J.yld i H x D -> g x (AO cap L) D fun z H2 => Keep (AO cap L) z /\ tt z H2 λb O =>
   br b (te z O λy H4=>N (I++[y]) H4) (N I O))
structure HU(X:Cx)(ad:PNs)(C:yQ)(H:Hp)(s:yR):Prop where
 ns:∃m,s.heap.Ns C m
 free:H C=none
 loc:C≠X.env.locals
 sz:X.s₀.heap.objs.size<=C
 cell:∀x c,X.env.cells.lookup x=some c->c≠C
 pin:∀p∈X.pn++ad,p.1≠C
abbrev TB:=St->List V->Hp->(List V->Hp->Prop)->Prop
def Go(E:yJ)(d:Nat)(D it:yJ)(g:List yJ)(body:Sem PySem.Fin)(z G:yU)(env:Env):Sem PySem.Fin:=do
  standAt it.pos
  let r<-pyNext z
  match r with
   |none=>pure (Fin.done Flow.next)
   |some v=>do
    letOwnedTupleGo D z v
    assign D env v
    let ok<-forIn g true λc r=>if r=true then do let ok<-PySem.isTrue c env (eval c env);pure (ForInStep.yield ok) else pure (ForInStep.yield r)
    if ok=true then body else again (Code.compLoop E d z G env)
def HV(E:yJ)(d:Nat)(z:yJ)(D g:yU)(env:Env):Sem PySem.Fin:=do
  let _<-(do
   let x<-eval z env
   let _<-call (Value.builtin "list.append") [g,x]
   pure ())
  again (Code.compLoop E d D g env)
def KP(E:yJ)(d:Nat)(g:yJ)(D z:yU)(env:Env):Sem PySem.Fin:=do
  let x<-eval g env
  standAt g.pos
  let x<-foldedSetIterable g env x
  let j<-holding [x] (pyIter x)
  let _<-runOwn (Code.compStart E (d+1) j z env) env
  again (Code.compLoop E d D z env)
abbrev HW(M:Model)(A:yL)(E:yJ)(d:Nat)(D g:yU)(env:Env)(body:Sem PySem.Fin)(P:yR->Prop)(s:yR):Prop:=wpAny M A body (λfin z=>fin= .again (.compLoop E d D g env)/\P z) (λ_ _=>False) s
section
variable{prog:yO}{w:yK}{A:yL}{R:Result -> yR -> Prop}{s:yR}{e0 tg it gi it2:yJ}{gs:List Comprehension}{ifs:List yJ}{sc:Scope}{ps:Pos}{gg gh:yU}{env:Env}{d:Nat}{body:Sem PySem.Fin}{P:yR -> Prop}
def RP(h:wpAny (model prog w) A (eval gi env) (λx z=>wpAny (model prog w) A (call (.builtin "list.append") [gh,x]) (λ_ g=>P g) (λ_ _=>False) z) (λ_ _=>False) s):HW (model prog w) A E d gg gh env (HV E d gi gg gh env) P s:=
 Y1 (Y1 (Zf h (λx z D=>Y1 (Zf D (λ_ g G=>Y4 (Y4 ⟨rfl,G⟩)) λ_ _ I=>I.elim)) λ_ _ I=>I.elim))
def RQ(O:∀x,foldedSetIterable it2 env x=pure x)(h:wpAny (model prog w) A (eval it2 env) (λx G=>wpAny (model prog w) A (pyIter x) (λj D=>codeAny (model prog w) (A.mark none) (.compStart E (d+1) j gh env) (λr z=>r= .ok .next/\P z) D) (λ_ _=>False) G) (λ_ _=>False) s):HW (model prog w) A E d gg gh env (KP E d it2 gg gh env) P s:=by
 refine Y1 (Zf h (λx G I=>Y1 (ag ?_)) λ_ _ L=>L.elim);rw[O];refine Y1 (Y4 (Y1 (Zn (Zf I (λj D J=>?_) λ_ _ L=>L.elim))));refine Y1 (wpAny_runOwn (ae J λr z g=>?_));obtain⟨rfl,g⟩:=g;exact Y4 ⟨rfl,g⟩
def RR(ht:compTurn (.ListComp e0 gs sc ps) d gg gh env=Go (.ListComp e0 gs sc ps) d tg it ifs body gg gh env)(I:Nat->yR->Prop)
  (i4 : ∀ n s, I n s -> wpAny (model prog w) A (pyNext gg) (λr g => match r with
   |none=>R (.ok .next) g
   |some v => wpAny (model prog w) A (letOwnedTupleGo tg gg v) (λ_ z => wpAny (model prog w) A (assign tg env v) (λ_ J =>
     wpAny (model prog w) A (forIn ifs true λc r=>if r=true then do let ok<-isTrue c env (eval c env);pure (ForInStep.yield ok) else pure (ForInStep.yield r)) (λok D=>
      if ok=true then HW (model prog w) A (.ListComp e0 gs sc ps) d gg gh env body (λL=>∃m,m<n/\I m L) D
      else ∃m,m<n/\I m D) (λ_ _=>False) J) (λ_ _=>False) z) (λ_ _=>False) g) (λ_ _=>False) s)
  (n:Nat) (h:I n s):codeAny (model prog w) A (.compLoop (.ListComp e0 gs sc ps) d gg gh env) R s:=by
 refine codeAny_loop rfl I (λn s hI=>?_) n h;show wpAny _ A ((compTurn (.ListComp e0 gs sc ps) d gg gh env).onRaise (λx=>do noteFrame x env;theTreesLotGoes x)) _ _ s;refine wpAny_noted ?_;rw[ht];unfold Go;refine Y1 (ag (Y1 (Zf (i4 n s hI) (λr g O=>?_) λ_ _ G=>G.elim)));cases r with
 |none=>exact Y4 O
 |some v=>
  refine Y1 (Zf O (λ_ z i0=>?_) λ_ _ G=>G.elim);refine Y1 (Zf i0 (λ_ J h₂=>Y1 (Zf h₂ (λok D Z=>?_) λ_ _ G=>G.elim)) λ_ _ G=>G.elim);cases ok with
  |false=>exact Y4 ⟨rfl,Z⟩
  |true=>exact Zf Z (λfin L zq=>by obtain⟨e,q⟩:=zq;subst e;exact⟨rfl,q⟩) λ_ _ G=>G.elim
end
structure DX(Y:Cx)(a:yQ):Prop where
 loc:a≠Y.env.locals
 fs:a ∉ Y.fs
 sz:a∈Y.ex\/Y.s₀.heap.objs.size<=a
 cell:∀x c,Y.env.cells.lookup x=some c->c≠a
 pn:Y.pn=[]
 calm:Y.calm=true
abbrev EQ(its:yX)(k:Nat):Obj:= { cls:= .type "list",data:= .seq its.toArray k}
structure Grown(Y:Cx)(a:yQ)(PB:PNs)(σ:St)(zs:List V)(H:Hp)(s:yR):Prop where
 inv:Ac Y PB σ H s
 no:H a=none
 len:zs.length<=sizeLine
 at':∃its k,s.heap.get? a=some (EQ its k)/\At zs its
def Grown.pin{a:yQ}{s:yR}(A:DX Y a)(g:Grown Y a PB σ zs H s)(e:s.heap.get? a=some (EQ its k)):Ac Y ((a,EQ its k)::PB) σ H s:=
 g.inv.pins_of λp D=>by
  rcases Z4.mp D with rfl | D
  .exact⟨e,g.no,A.loc,A.fs,λv z=>by
    have G:Data.seq its.toArray k=Data.cell v:=z;cases G⟩
  .exact g.inv.pin p (Z5 _ D)
def Ac.grown{a:yQ}{s:yR}(I:Ac Y ((a,EQ its k)::PB) σ H s)(hz:zs.length<=sizeLine)(v:At zs its):Grown Y a PB σ zs H s:=by
 have q:=I.pin (a,EQ its k) (Z5 _ Z9);exact⟨I.pins_of λp g=>I.pin p (Z5 _ (Z3 _ g)),q.2.1,hz,its,k,q.1,v⟩
def Nk:List V->Prop->Prop:=λg p=>g.length<sizeLine/\p
def RS:List V->Prop->Prop:=λ_ p=>p
def Gp(Y:Cx)(a:yQ)(E:yJ)(d:Nat)(body:yU->Sem PySem.Fin)(C:List V->Prop)(B:TB):Prop:=
 ∀(I:yU) (G:PNs) (D:St) (z:List V) (H:Hp) (s:yR) (N:List V->Hp->Prop) (P:yR->Prop),(∀p∈G,p.1≠a)->Grown Y a G D z H s->C z->B D z H N->(∀g J L,Grown Y a G D g J L->N g J->P L)->HW (model Y.prog Y.w) Y.A E d I (.ref a) Y.env (body I) P s
def Nl{e0 tg it:yJ}{gs:List Comprehension}{n5:List yJ}{sc:Scope}{ps:Pos}{d m0:Nat}{Y:Cx}{a jt:yQ}{PB:PNs}{g:TG}{tt:TT}{B:TB}{C:List V->Prop}{Z:List V->Prop->Prop}{body:yU->Sem PySem.Fin}{L:List yQ}{tn:Nat->Heap->Prop}{J:It}{W:Nat->Nat->List V->Hp->Prop}{σ:St}{ys:List V}{H:Hp}{s:yR}{N:List V->Hp->Prop}{R:Result->yR->Prop}
  (A:DX Y a) (u5:∀p∈PB,p.1≠a) (ht:∀gg,compTurn (.ListComp e0 gs sc ps) d gg (.ref a) Y.env=Go (.ListComp e0 gs sc ps) d tg it n5 (body gg) gg (.ref a) Y.env) (hx:Y.xe=λ_ _=>False) (hg:PG Y tg g) (u9:Cc Y n5 tt) (hb:Gp Y a (.ListComp e0 gs sc ps) d body C B) (hZ:∀zs p,Z zs p->C zs/\p)
  (T:Dv Y.prog Y.w Y.K tg J L jt tn) (na:∀b∈L,b≠a) (i8:∀ {o:Obj}{H':Hp},(∀b∈L,H' b=none)->∀b∈L,BS Y ((a,o)::PB) H' b) (st:tn 0 s.heap) (gr:Grown Y a PB σ ys H s) (hn:∀b∈L,H b=none) (w0:W 0 m0 ys H)
  (j7:∀j m zs H,W j m zs H->(J.stop j H/\N zs H)\/(J.go j H/\Z zs (∃N2:List V->Hp->Prop,(∀z H',N2 z H'->∃m',m'<m/\W (j+1) m' z H')/\∀x H',J.yld j H x H'->g x σ H' fun σ3 H2=>Keep σ σ3/\tt σ3 H2 λb H3=>br b (B σ3 zs H3 N2) (N2 zs H3))))
  (n9:∀zs H' s',Grown Y a PB σ zs H' s'->N zs H'->R (.ok .next) s'):codeAny (model Y.prog Y.w) Y.A (.compLoop (.ListComp e0 gs sc ps) d (.ref jt) (.ref a) Y.env) R s:=by
 refine RR (ht _) (λn' s'=>∃(j:Nat) (zs:List V) (H':Hp),Grown Y a PB σ zs H' s'/\tn j s'.heap/\(∀b∈L,H' b=none)/\W j n' zs H') ?_ m0 ⟨0,ys,H,gr,st,hn,w0⟩;rintro n' j8 ⟨j,zs,i4,O,i5,i7,u0⟩;obtain⟨its',k',e12,j4⟩:=O.at';have l9:=O.pin A e12;rcases j7 j n' zs i4 u0 with⟨stop,q⟩ | ⟨go2,hz0⟩
 .refine Ap (T.done Y rfl rfl rfl A.calm j _ j8 _ i4 _ l9 (i8 i7) i5 stop) λr l6 zq=>?_
  obtain⟨hr,o9⟩:=zq;subst hr;exact n9 zs i4 l6 (Ac.grown o9 O.len j4) q
 .obtain⟨hC,N2,r8,i9⟩:=hZ _ _ hz0;refine Ap (T.item Y rfl rfl rfl A.calm j _ j8 _ i4 _ l9 (i8 i7) i5 go2) λr l6 zq=>?_
  obtain⟨u2,hr,v3⟩:=zq;subst hr;refine Ap v3 λ_ i0 zq=>?_
  obtain⟨x2,j5,u6,r14,w9,D,l7⟩:=zq;have o8:=u6.pinned (i8 l7) (T.obj _ _ D);have j2:=hg _ i0 _ j5 x2 u2 _ o8 r14 (i9 x2 j5 w9);rw[hx]at j2;refine Ap j2 λ_ v7 zq=>?_
  obtain⟨i6,w5,I15,j9,v8⟩:=zq;have j0:=u9 _ v7 i6 w5 _ I15 v8;rw[hx]at j0;refine Ap j0 λb2 w8 zq=>?_
  obtain⟨v6,v4,j3⟩:=zq;have pn:∀p∈PB++De L i0.heap,p.1≠a:=λp hp=>by
   rcases ZQ.mp hp with hp | hp
   .exact u5 p hp
   .exact na p.1 (Kp hp).1
  have I:∀ {σ':St}{z:List V}{H':Hp}{s':yR},Keep σ σ'->Grown Y a (PB++De L i0.heap) σ' z H' s'->N2 z H'->∃m,m<n'/\∃(j:Nat) (zs:List V) (H':Hp),Grown Y a PB σ zs H' s'/\tn j s'.heap/\(∀b∈L,H' b=none)/\W j m zs H':=λ{σ' z H' s'} kp G n2=>by
   obtain⟨m',hm,u8⟩:=r8 _ _ n2;refine⟨m',hm,j+1,z,H',⟨(G.inv.pins_of λp hp=>G.inv.pin p (Z5 _ (bK _ hp))).weak (by rw[kp.len]) λi v e=>kp.get e,G.no,G.len,G.at'⟩,T.keep _ _ _ D λb hb o e=>(G.inv.pin (b,o) (Z5 _ (Z5 _ (Fp hb e)))).1,λb hb=>?_,u8⟩;obtain⟨o,e,d⟩:=T.obj _ _ D b hb;exact(G.inv.pin (b,o) (Z5 _ (Z5 _ (Fp hb e)))).2.1
  have j6:Grown Y a (PB++De L i0.heap) i6 zs v6 w8:=Ac.grown v4 O.len j4;cases b2 with
  |false=>
   rw[YY YZ];exact I j9 j6 (j3.2 rfl)
  |true=>
   rw[Z1 rfl];exact hb _ _ _ _ _ _ _ _ pn j6 hC (j3.1 rfl) λz H' s' G n2=>I j9 G n2
def KQ(G:TE):TB:=fun D z H N=>G D H λy g=>N (z++[y]) g
def Nm{a:yQ}{gi:yJ}{d:Nat}(A:DX Y a)(hx:Y.xe=λ_ _=>False)(he:PE Y gi te):Gp Y a E d (λjt=>HV E d gi jt (.ref a) Y.env) (λzs=>zs.length<sizeLine) (KQ te):=by
 intro jt PB σ zs H s N P i6 gr j0 h L;obtain⟨g,k',i8,G⟩:=gr.at';have i5:=gr.pin A i8;have J:=he _ s σ H _ i5 h;rw[hx]at J;refine RP (Ap J λI D zq=>?_);obtain⟨y,Z,O,i7,i9⟩:=zq;have gI:=Ac.grown O gr.len G;have b4:=(O.pin (a,EQ g k') (Z5 _ Z9)).1;have hl:=G.length;refine ah F.slot_list_append ⟨_,b4,rfl⟩ F.entry_list_append (F.args_list_append_2 _ _) (PySem.list_append a g.toArray k' I (by rw[Zl];lia)) ⟨b4,?_⟩;have q:=PySem.IsL.update b4 (λa=>a.push I);have i4:g.toArray.push I=(g++[I]).toArray:=by simp
 rw[i4]at q;have i0:Ac Y PB σ Z { D with heap:=D.heap.update a (Obj.mapSeq λa=>a.push I),toks:=D.toks}:=
  gI.inv.turned (it:=a) (λb o hb e=>(Zo D.heap _ (Zd hb)).trans e) gI.no A.loc A.sz A.cell λp hp z=>by
   rw[A.pn,fC]at hp;exact i6 p hp z
 exact L (zs++[y]) Z _ ⟨i0,gI.no,by rw[Zj,Zt];lia,g++[I],_,q,G.append (.cons i7 .nil)⟩ i9
def Nn(Z:List V->Prop->Prop)(wi:TI)(g:TG)(tt:TT)(B:TB):TB:=fun L ys H N=>wi L H λJ H1=>∃W:Nat->Nat->List V->Hp->Prop,(∃m,W 0 m ys H1)/\∀j m D H,W j m D H->
  (J.stop j H/\N D H)\/(J.go j H/\Z D (∃O:List V->Hp->Prop,(∀I G,O I G->∃m',m'<m/\W (j+1) m' I G)/\∀x G,J.yld j H x G->g x L G fun z H2=>Keep L z/\tt z H2 λb H3=>br b (B z D H3 O) (O D H3)))
def RT{e0 tg it:yJ}{I:List Comprehension}{i8:List yJ}{L:Scope}{O:Pos}{d:Nat}{a:yQ}{B:TB}{C:List V->Prop}{Z:List V->Prop->Prop}{body:yU->Sem PySem.Fin}(A:DX Y a)(hx:Y.xe=λ_ _=>False)(hs:∀x,foldedSetIterable it Y.env x=pure x)
  (ht:∀gg,compTurn (.ListComp e0 I L O) (d+1) gg (.ref a) Y.env=Go (.ListComp e0 I L O) (d+1) tg it i8 (body gg) gg (.ref a) Y.env)
  (j2:∀ {R:Result->yR->Prop}{s:yR}{j:yU},codeAny (model Y.prog Y.w) Y.A (.compLoop (.ListComp e0 I L O) (d+1) j (.ref a) Y.env) R s->wpAny (model Y.prog Y.w) Y.A (pyIter j) (λj' s'=>codeAny (model Y.prog Y.w) Y.A (.compLoop (.ListComp e0 I L O) (d+1) j' (.ref a) Y.env) R s') (notedBy (model Y.prog Y.w) Y.A Y.env λx s'=>R (.error x) s') s->codeAny (model Y.prog Y.w) Y.A (.compStart (.ListComp e0 I L O) (d+1) j (.ref a) Y.env) R s)
  (hi:PI Y tg it wi) (hg:PG Y tg g) (j4:Cc Y i8 tt) (D:Gp Y a (.ListComp e0 I L O) (d+1) body C B) (hZ:∀zs p,Z zs p->C zs/\p):Gp Y a (.ListComp e0 I L O) d (λjt=>KP (.ListComp e0 I L O) d it jt (.ref a) Y.env) (λ_=>True) (Nn Z wi g tt B):=by
 intro n5 PB σ ys H s N P j0 gr _ h i9;obtain⟨j9,k,ee,v0⟩:=gr.at';have I0:=gr.pin A ee;have base:=hi _ s σ H _ I0 h;rw[hx]at base;refine RQ hs (Ap base λv9 s9 h9=>Ap h9 λl9 j5 j3=>?_);obtain⟨jt,fp,tn,J,n9,l7,j8,T,i0,i5,W,⟨m2,w2⟩,i7⟩:=j3;subst l7;have j7:=Ac.grown j8 gr.len v0;have i6:∀b∈fp,b≠a/\∀p∈PB,p.1≠b:=λb D=>by
  obtain⟨_,_,_,_,_,f5⟩:=i5 b D;exact⟨λz=>f5 (a,EQ j9 k) (Z5 _ Z9) z.symm,λp hp=>f5 p (Z5 _ (Z3 _ hp))⟩
 have l6:∀ {o:Obj}{H':Hp},(∀b∈fp,H' b=none)->∀b∈fp,BS Y ((a,o)::PB) H' b:=λ{o H'} hn b D=>by
  obtain⟨_,f1,j6,f3,f4,_⟩:=i5 b D;refine⟨hn b D,f1,j6,f3,f4,λp hp e=>?_⟩;rw[A.pn,fC]at hp;rcases Z4.mp hp with rfl | hp
  .exact(i6 b D).1 e.symm
  .exact(i6 b D).2 p hp e
 have i4:codeAny (model Y.prog Y.w) Y.A (.compLoop (.ListComp e0 I L O) (d+1) (.ref jt) (.ref a) Y.env) (λr s₆=>r= .ok .next/\P s₆) j5:=
  Nl A j0 ht hx hg j4 D hZ T (λb D=>(i6 b D).1) l6 i0 j7 (λb D=>(i5 b D).1) w2 i7 λzs H' s' G n=>⟨rfl,i9 zs H' s' G n⟩
 exact j2 i4 (T.self _ 0 _ _ _ i0 i4)
def No{X:Cx}{tg D e0:yJ}{gs:List Comprehension}{i4:List yJ}{scope:Scope}{i6 j5:Pos}{wi:TI}{g:TG}{tt:TT}{Bt:TB}{Cd:List V->Prop}(Z:List V->Prop->Prop){N':List Str}{cap:List (Option Nat)}{use:Option (yU->Sem Unit)}{Q':VSP}{body:yU->yU->Env->Sem PySem.Fin}
  {ad:PNs}{s:yR}{σ:St}{H:Hp}{Q:List V->Hp->Prop}
  (hc:X.calm=true) (hi:PI X tg D wi) (B:AB X.env.scope X.N scope N' cap) (hg:∀s H ex C,PG (AQ X N' scope s H ex C) tg g) (ht:∀s H ex C,Cc (AQ X N' scope s H ex C) i4 tt)
  (r8:∀gg gh env,compTurn (.ListComp e0 (⟨tg,D,i4,0⟩::gs) scope i6) 0 gg gh env=Go (.ListComp e0 (⟨tg,D,i4,0⟩::gs) scope i6) 0 tg D i4 (body gg gh env) gg gh env)
  (o9:∀s H ex C a,DX (AQ X N' scope s H ex C) a->Gp (AQ X N' scope s H ex C) a (.ListComp e0 (⟨tg,D,i4,0⟩::gs) scope i6) 0 (λgg=>body gg (.ref a) (AQ X N' scope s H ex C).env) Cd Bt) (hZ:∀zs p,Z zs p->Cd zs/\p)
  (hs:∀x,foldedSetIterable D X.env x=pure x) (I:Ac X ad σ H s)
  (h:wi σ H λJ H1=>∃W:Nat->Nat->List V->Hp->Prop,(∃m,W 0 m [] H1)/\∀i m ys H,W i m ys H->(J.stop i H/\Q ys H)\/(J.go i H/\Z ys (∃N:List V->Hp->Prop,(∀l9 H',N l9 H'->∃m',m'<m/\W (i+1) m' l9 H')/\∀x H',J.yld i H x H'->g x (AO cap σ) H' fun σ2 H2=>Keep (AO cap σ) σ2/\tt σ2 H2 λb H3=>br b (Bt σ2 ys H3 N) (N ys H3))))
  (fin:∀(gh C:yQ) (H:Hp) (ys:List V) (s':yR),H gh=none->Ac X ad σ (upd H gh (.lst ys)) s'->HU X ad C (upd H gh (.lst ys)) s'->Q ys H->compPost (model X.prog X.w) X.A X.xe use Q' (.ref gh) C (.ok .next) s'):
  wpAny (model X.prog X.w) X.A (comprehension (.ListComp e0 (⟨tg,D,i4,0⟩::gs) scope i6) scope X.env j5 (newList []) false (eval D X.env) use) Q' X.xe s:=by
 have j4:closureFor scope X.env=pure (AX X.env.cells scope.names []):=KG λy hy hf=>I.ok.has y.1 (B.free y hy hf)
 refine dY (cl:=AX X.env.cells scope.names []) rfl hs j4 B.kind B.names (Ap (hi ad s σ H _ I h) λv s1 h1=>Ap h1 λgg L h2=>?_);obtain⟨it,fp,tn,J,H2,e,I2,T,j7,f2,W,⟨m0,w0⟩,j9⟩:=h2;subst e;refine ZG (Nh ?_);dsimp only;generalize hH3:L.heap.push { cls:= .type "list",dict:=none,data:= .seq ([]:yX).toArray}=h3;have i5:h3.objs.size=L.heap.objs.size+1:=by rw[<-hH3];exact Zp ..
 have j8:∀b o,L.heap.get? b=some o->h3.get? b=some o:=λb o e=>by rw[<-hH3];exact Y2 _ e
 have j0:h3.get? L.heap.objs.size=some { cls:= .type "list",data:= .seq ([]:yX).toArray}:=by rw[<-hH3];exact YV _ rfl
 have j3:∀b∈fp,b<L.heap.objs.size:=λb hb=>let ⟨o,e,_⟩:=T.obj _ _ j7 b hb;Y9 e
 have I4:=Nj I2 B f2 j3 j8 (by rw[i5];exact ZB _);have n5:(pushCells (h3.push { cls:= .type "dict",data:= .dict #[]}) scope.names).get? L.heap.objs.size=some { cls:= .type "list",data:= .seq ([]:yX).toArray}:=aA _ _ _ _ (Y2 _ j0);have l7:tn 0 (pushCells (h3.push { cls:= .type "dict",data:= .dict #[]}) scope.names):=T.keep _ _ _ j7 λb _ o e=>aA _ _ _ _ (Y2 _ (j8 b o e))
 have j6:L.heap.objs.size≠h3.objs.size:=by rw[i5];exact Zc (bg _)
 have u0:L.heap.objs.size ∉ AD X.stack:=λz=>by
  rcases Z4.mp (I2.stkSub _ z) with q | q
  .exact absurd I2.lt (by rw[<-q];exact Z8 _)
  .exact I2.nofs (Y5 _) q
 have j2:=I4.ok;have o8:∀ {O:PNs}{H':Hp},(∀b∈fp,H' b=none)->(∀p∈O,p.1=L.heap.objs.size)->∀b∈fp,BS (AQ X N' scope L H2 fp h3.objs.size) O H' b:=λ{O H'} hn hp b hb=>
  ⟨hn b hb, (j2.exf b hb).1, j2.exfs b hb, .inl hb, (j2.exf b hb).2, λp z e => by
   have z':p∈O:=z;have:=j3 b hb;rw[<-e,hp p z']at this;exact Z8 _ this⟩
 have i8:∀x c,(AQ X N' scope L H2 fp h3.objs.size).env.cells.lookup x=some c->c≠L.heap.objs.size:=λx c ec z=>by
  rcases Ft scope.names (h3.objs.size+1) _ ec with q' | q'
  .rw[z,i5]at q';exact absurd q' (by lia)
  .have u6:X.env.cells.lookup x=some c:=(Er _ _ q').elim id λz=>nomatch z
   obtain⟨_,u5⟩:=I2.cell x c u6;have:=u5.lt;rw[z]at this;exact Z8 _ this
 have i9:∀s4:yR,s4= { L with heap:=pushCells (h3.push { cls:= .type "dict",data:= .dict #[]}) scope.names}->
   codeAny (model X.prog X.w) X.A (.compLoop (.ListComp e0 (⟨tg,D,i4,0⟩::gs) scope i6) 0 (.ref it) (.ref L.heap.objs.size) (KN scope X.env h3.objs.size)) (compPost (model X.prog X.w) X.A X.xe use Q' (.ref L.heap.objs.size) h3.objs.size) s4:=by
  rintro s4 rfl;have A0:DX (AQ X N' scope L H2 fp h3.objs.size) L.heap.objs.size:=⟨j6,u0,.inr (Y5 _),i8,rfl,hc⟩;refine Nl (Y:=AQ X N' scope L H2 fp h3.objs.size) (PB:=[]) (W:=W) A0 (λp hp=>absurd hp (by simp)) (λ_=>r8 _ _ _) rfl (hg _ _ _ _) (ht _ _ _ _) (o9 _ _ _ _ _ A0) hZ T (λb hb z=>absurd (j3 b hb) (by rw[z];exact Z8 _))
   (λ{o H'} hn b hb=>o8 hn (λp hp=>by rw[Z2.mp hp]) b hb) l7 ⟨I4,I2.hok.fresh (Y5 _),Zq _,[],0,n5,.nil⟩ (λb hb=>(f2 b hb).1) w0 j9 λys H5 s6 G q=>?_
  obtain⟨n9,k,e6,v5⟩:=G.at';have l6:=G.no;have z5:=G.len;have I6:=G.inv;have i0:∀b u,H5 b=some u->b≠L.heap.objs.size:=λb u q z=>by rw[z,l6]at q;cases q
  have un:Un (AD X.stack) fp H2 (upd H5 L.heap.objs.size (.lst ys)) L.heap s6.heap:=by
   have u:=I6.base;refine⟨u.keep,u.slot,λb o q n hx=>?_,u.there,λb xs q=>?_,λb o xs q=>?_,λb ps q=>?_⟩
   .rw[Aq (Zc (Y9 q))];exact u.free b o q n hx
   .have z:=u.tups b xs q;rw[Aq (i0 b _ z)];exact z
   .have z:=u.frzs b o xs q;rw[Aq (i0 b _ z)];exact z
   .obtain⟨more,z⟩:=u.tbls b ps q;exact⟨more,by rw[Aq (i0 b _ z)];exact z⟩
  have hok:HOk X.prog X.w (upd H5 L.heap.objs.size (.lst ys)) s6.heap:=λb u q=>by
   by_cases hb:b=L.heap.objs.size
   .subst hb;rw[Ag]at q;cases q;exact⟨z5,n9,k,v5,e6⟩
   .rw[Aq hb]at q;have o6:ObjOk X.prog X.w H5 s6.heap b u:=I6.hok b u q;exact o6.stay (λ_ _ _ e=>e) (λc z=>by rw[Aq (i0 c _ z)];exact z) λc xs z=>by rw[Aq (i0 c _ z)];exact z
  have IX:Ac X ad σ (upd H5 L.heap.objs.size (.lst ys)) s6:=I2.call' (show s6.os=L.os from I6.os) un hok I6.bare λb hb=>let f:=f2 b hb;⟨f.2.2.2.1,f.2.1,f.2.2.2.2.1,f.2.2.2.2.2⟩
  have i7:L.heap.objs.size<=h3.objs.size:=by rw[i5];exact ZB _
  refine fin _ _ H5 ys s6 l6 IX ⟨let ⟨m,hn,_⟩:=I6.loc;⟨m,hn⟩,?_,?_,Ze I2.sz i7,λx c ec z=>?_,λp hp z=>?_⟩ q
  .rw[Aq (Zd j6)];exact I6.free
  .exact aa (YX I2.lt i7)
  .obtain⟨_,q⟩:=I2.cell x c ec;have:=q.lt;rw[z]at this;exact absurd (YX this i7) (Z8 _)
  .have:=Y9 (I2.pin p hp).1;rw[z]at this;exact absurd (YX this i7) (Z8 _)
 exact codeAny_compStart_list (i9 _ rfl) (T.self _ 0 _ _ _ l7 (i9 _ rfl))
def Np{X:Cx}{Z D gi:yJ}{G:List yJ}{scope:Scope}{L O:Pos}{wi:TI}{g:TG}{tt:TT}{te:TE}{N':List Str}{cap:List (Option Nat)}{use:Option (yU->Sem Unit)}{Q':VSP}
  {ad:PNs}{s:yR}{σ:St}{H:Hp}{Q:List V->Hp->Prop}
  (hc:X.calm=true) (hi:PI X Z D wi) (B:AB X.env.scope X.N scope N' cap) (hg:∀s H ex C,PG (AQ X N' scope s H ex C) Z g) (ht:∀s H ex C,Cc (AQ X N' scope s H ex C) G tt) (he:∀s H ex C,PE (AQ X N' scope s H ex C) gi te)
  (hs:∀x,foldedSetIterable D X.env x=pure x) (I:Ac X ad σ H s) (h:KO wi cap g tt te σ H Q)
  (fin:∀(J C:yQ) (H:Hp) (ys:List V) (s':yR),H J=none->Ac X ad σ (upd H J (.lst ys)) s'->HU X ad C (upd H J (.lst ys)) s'->Q ys H->compPost (model X.prog X.w) X.A X.xe use Q' (.ref J) C (.ok .next) s'):
  wpAny (model X.prog X.w) X.A (comprehension (.ListComp gi [⟨Z,D,G,0⟩] scope L) scope X.env O (newList []) false (eval D X.env) use) Q' X.xe s:=
 No Nk (body:=λgg J env=>HV (.ListComp gi [⟨Z,D,G,0⟩] scope L) 0 gi gg J env) (Bt:=KQ te) hc hi B hg ht (λ_ _ _=>rfl) (λs H ex C a A=>Nm A rfl (he s H ex C)) (λ_ _ z=>z) hs I h fin
def RU(G:TI)(cap:List (Option Nat))(g:TG)(I:TT)(J:TE):TE:=fun L H Q=>KO G cap g I J L H λD z=>∀p,z p=none->Q (.ref p) (upd z p (.lst D))
def AW{X:Cx}{J z gi:yJ}{D:List yJ}{scope:Scope}{G:Pos}{wi:TI}{g:TG}{tt:TT}{te:TE}(N':List Str)(cap:List (Option Nat))
  (hc:X.calm=true) (hi:PI X J z wi) (B:AB X.env.scope X.N scope N' cap) (hg:∀s H ex C,PG (AQ X N' scope s H ex C) J g) (ht:∀s H ex C,Cc (AQ X N' scope s H ex C) D tt) (he:∀s H ex C,PE (AQ X N' scope s H ex C) gi te)
  (hs:autoParam (∀x,foldedSetIterable z X.env x=pure x) W0):PE X (.ListComp gi [⟨J,z,D,0⟩] scope G) (RU wi cap g tt te):=by
 intro ad s σ H Q I h;rw[eval_ListComp];refine Np (use:=none) hc hi B hg ht he hs I h λZ C H ys s' hn I' L q=>?_
 obtain⟨m,hm⟩:=L.ns;refine⟨m,hm,λh' O=>⟨.ref Z,_,I'.turned (t':=s'.toks) (it:=C) (λb o hb e=>O.extBut b o hb e) L.free L.loc (.inr L.sz) L.cell L.pin,rfl,q Z hn⟩⟩
def RV(i:Nat)(J:TI)(cap:List (Option Nat))(g:TG)(L:TT)(O:TE):TS:=λD z H=>KO J cap g L O z H λI G=>∀p,G p=none->D.nx (z.set i (some (.ref p))) (upd G p (.lst I))
def Gq{X:Cx}{i:Nat}{y:Str}{tg G gi:yJ}{Z:List yJ}{scope:Scope}{i0 J O:Pos}(N':List Str)(cap:List (Option Nat))(hN:X.N.Nodup)(i4:X.N[i]? =some y)(hy:Ek X.env.scope y)
  (hc:X.calm=true) (hi:PI X tg G wi) (B:AB X.env.scope X.N scope N' cap) (hg:∀s H ex C,PG (AQ X N' scope s H ex C) tg g) (ht:∀s H ex C,Cc (AQ X N' scope s H ex C) Z tt) (he:∀s H ex C,PE (AQ X N' scope s H ex C) gi te)
  (i7:autoParam (swapsWith (.ListComp gi [⟨tg,G,Z,0⟩] scope i0) (some (.Name y J)) O.line X.env=pure true) m5)
  (hf:autoParam (X.fn y=true\/X.env.scope.names.lookup y=some .local) F')
  (hs:autoParam (∀x,foldedSetIterable G X.env x=pure x) W0):PS X (.Assign [.Name y J] (.ListComp gi [⟨tg,G,Z,0⟩] scope i0) O) (RV i wi cap g tt te):=by
 intro ad s σ H D I h;rw[fj _ _ _ _ i7];refine Y1 (ag (Y1 ?_));show wpAny _ X.A (do let _<-comprehension (.ListComp gi [⟨tg,G,Z,0⟩] scope i0) scope X.env _ (newList []) false (eval G X.env) (some (assign (.Name y J) X.env))) _ _ s;refine Y1 (Zf (Np (use:=some (assign (.Name y J) X.env)) (Q':=λ_ s'=>SP X ad D .next s') hc hi B hg ht he hs I h λgh C H ys s' hn I' L q=>?_) (λ_ s' hq=>Y4 (Y4 hq)) λ_ _ e=>e);obtain⟨m,hm⟩:=L.ns;refine dI (Kl I' hN i4 hy (show RelV (.ref gh) (.ref gh) from rfl) (λi6 i5 zq=>?_) hf);obtain⟨a,sb,ha⟩:=zq;have i9:C≠a:=by
  rcases ha with e | e
  .rw[e];exact L.loc
  .exact λz=>L.cell _ _ e z.symm
 refine⟨m,hm.sameBut sb i9,λh' i8=>?_⟩;exact⟨_,_,i5.turned (t':=i6.toks) (it:=C) (λb o hb e=>i8.extBut b o hb e) L.free L.loc (.inr L.sz) L.cell L.pin,q gh hn⟩
def ER(J:It)(cap:List (Option Nat))(g:TG)(tt:TT)(te:TE)(L:St)(Q:List V->Hp->Prop)(H1:Hp):Prop:=
 ∃W:Nat->Nat->List V->Hp->Prop,(∃m,W 0 m [] H1)/\∀i m I H,W i m I H->
  (J.stop i H/\Q I H)\/
  (J.go i H /\ I.length < sizeLine /\ ∃ N : List V -> Hp -> Prop, (∀ G D, N G D -> ∃ Z, Z < m /\ W (i + 1) Z G D) /\ ∀ x D, J.yld i H x D -> g x (AO cap L) D fun z H2 => Keep (AO cap L) z /\ tt z H2 λb O =>
   br b (te z O λy H4=>N (I++[y]) H4) (N I O))
def Fu{J:It}(n:Nat)(z:Nat->List V->Hp->Prop)(hn:n<=100000)(h0:z 0 [] H)(hz:∀i ys H,z i ys H->ys.length<=i)
  (O:∀i ys H,i<n->z i ys H->J.go i H/\∀x H',J.yld i H x H'->g x (AO cap σ) H' fun D H2=>Keep (AO cap σ) D/\tt D H2 λb I=>br b (te D I λy L=>z (i+1) (ys++[y]) L) (z (i+1) ys I))
  (hd:∀ys H,z n ys H->J.stop n H/\Q ys H):ER J cap g tt te σ Q H:=by
 refine⟨λi m ys H=>m=n-i/\i<=n/\z i ys H,⟨n,by simp,Zq _,h0⟩,?_⟩;rintro i m ys H ⟨rfl,hi,p⟩
 by_cases G:i<n
 .obtain⟨a,b⟩:=O i ys H G p;refine .inr ⟨a,?_,z (i+1),λi0 H' Z=>⟨n-(i+1),by lia,rfl,G,Z⟩,b⟩;have:=hz i ys H p;have:(100000:Nat)<sizeLine:=by decide
  lia
 .have e:i=n:=by lia
  subst e;exact .inl (hd ys H p)
def BC{K:Fgx}{a:yQ}(z:Nat->List V->Hp->Prop)(O:xs.length<=100000)(h0:z 0 [] H)(hz:∀i ys H,z i ys H->ys.length<=i)
  (G:∀i ys H,i<=xs.length->z i ys H->Ae K H a xs)
  (L:∀i x ys H,xs[i]? =some x->z i ys H->g x (AO cap σ) H fun D H2=>Keep (AO cap σ) D/\tt D H2 λb I=>br b (te D I λy J=>z (i+1) (ys++[y]) J) (z (i+1) ys I))
  (hd:∀ys H,z xs.length ys H->Q ys H):ER (EM K a) cap g tt te σ Q H:=
 Fu xs.length z O h0 hz (λi ys H hi p=>⟨⟨xs,xs[i],G i ys H (ZZ hi) p,by simp[hi]⟩,λx H' Z=>by obtain⟨e,y⟩:=Z;subst e;exact L i x ys _ (y xs (G i ys _ (ZZ hi) p)) p⟩)
  λys H p=>⟨⟨xs,G _ ys H (Y5 _) p,Y5 _⟩,hd ys H p⟩
def C3{K:Fgx}{a:yQ}(z:Nat->List V->Hp->Prop)(O:xs.length<=100000)(h0:z 0 [] H)(hz:∀i ys H,z i ys H->ys.length<=i)
  (G:∀i ys H,i<=xs.length->z i ys H->Al K H a xs)
  (L:∀i x ys H,xs[i]? =some x->z i ys H->g x (AO cap σ) H fun D H2=>Keep (AO cap σ) D/\tt D H2 λb I=>br b (te D I λy J=>z (i+1) (ys++[y]) J) (z (i+1) ys I))
  (hd:∀ys H,z xs.length ys H->Q ys H):ER (Fo K a) cap g tt te σ Q H:=
 Fu xs.length z O h0 hz (λi ys H hi p=>⟨⟨xs,xs[i],G i ys H (ZZ hi) p,by simp[hi]⟩,λx H' Z=>by obtain⟨e,y⟩:=Z;subst e;exact L i x ys _ (y xs (G i ys _ (ZZ hi) p)) p⟩)
  λys H p=>⟨⟨xs,G _ ys H (Y5 _) p,Y5 _⟩,hd ys H p⟩
def Gu{lo:Int}{n:Nat}(z:Nat->List V->Hp->Prop)(L:n<=100000)(h0:z 0 [] H)(hz:∀i ys H,z i ys H->ys.length<=i)
  (J:∀i ys H,i<n->z i ys H->g (.int (lo+i)) (AO cap σ) H fun D Z=>Keep (AO cap σ) D/\tt D Z λb G=>br b (te D G λy I=>z (i+1) (ys++[y]) I) (z (i+1) ys G))
  (hd:∀ys H,z n ys H->Q ys H):ER (Dx lo n) cap g tt te σ Q H:=
 Fu n z L h0 hz (λi ys H hi p=>⟨hi,λx H' O=>by obtain⟨e,y⟩:=O;subst e y;exact J i ys _ hi p⟩) λys H p=>⟨Y5 _,hd ys H p⟩
end
section
open AutoSeq1 (wpAny_loadPart')
section
variable{prog:yO}{w:yK}{A:yL}{E:yY}{s:yR}
def RW{it t:yQ}{i:Nat}{items:Array yU}{x:yU}{Q:VSP}(g:s.heap.IsTupleIter it t i)(J:s.heap.IsTuple t items)(L:items[i]? =some x)
  (O:∀h',h'.IsTupleIter it t (i+1)->Heap.SameBut it s.heap h'->Q x { s with heap:=h'}):wpAny (model prog w) A (Builtin.SmallTypes.nextOf (.ref it)) Q E s:=by
 obtain⟨o,z,I,hd⟩:=id g;obtain⟨Z,G,_,nl,D⟩:=J;unfold Builtin.SmallTypes.nextOf;refine Y1 (aj (name:=Str.ofString "__next__") g.typeIs aV (aG aV g.typeIs dw ?_ (dm _)));show wpAny _ _ (field (.ref it) 0>>=_) _ _ s;refine Y1 (ZN z hd (x:= .ref t) rfl ?_);show wpAny _ _ (if (Value.ref t==Value.none)=true then _ else _) _ _ s;rw[YY (show ¬((Value.ref t==Value.none)=true) from YZ)];show wpAny _ _ (field (.ref it) 1>>=_) _ _ s;refine Y1 (ZN z hd (x:= .int i 0) rfl ?_);show wpAny _ _ (seqItems? (.ref t) >>=_) _ _ s;refine Y1 (ZW G D ?_);simp only[ak,L];refine Y1 (wpAny_setField z hd (by simp) (Y4 ⟨x,rfl,Y4 (O _ ?_ (dg ..))⟩));exact⟨_,ZF _ z (Obj.isFreed_of_fields (Obj.data_mapFields hd _)),(Obj.cls_mapFields ..).trans I,by rw[Obj.data_mapFields hd];simp[rawInt]⟩
def RX{it t:yQ}{i:Nat}{items:Array yU}{Q:VSP}(I:A.handled=none)(g:s.heap.IsTupleIter it t i)(J:s.heap.IsTuple t items)(O:items[i]? =none)
  (L:∀h' e,Heap.ExtBut it s.heap h'->(∃o,h'.get? e=some o/\o.cls= .type "StopIteration")->E (.ref e) { s with heap:=h'}):wpAny (model prog w) A (Builtin.SmallTypes.nextOf (.ref it)) Q E s:=by
 obtain⟨o,D,hc,hd⟩:=id g;obtain⟨Z,G,_,nl,z⟩:=J;unfold Builtin.SmallTypes.nextOf;refine Y1 (aj (name:=Str.ofString "__next__") g.typeIs aV (aG aV g.typeIs dw ?_ (dm _)));show wpAny _ _ (field (.ref it) 0>>=_) _ _ s;refine Y1 (ZN D hd (x:= .ref t) rfl ?_);show wpAny _ _ (if (Value.ref t==Value.none)=true then _ else _) _ _ s;rw[YY (show ¬((Value.ref t==Value.none)=true) from YZ)];show wpAny _ _ (field (.ref it) 1>>=_) _ _ s;refine Y1 (ZN D hd (x:= .int i 0) rfl ?_);show wpAny _ _ (seqItems? (.ref t) >>=_) _ _ s;refine Y1 (ZW G z ?_);simp only[ak,O];refine Y1 (bS (Y1 (wpAny_setField D hd (by simp) ?_)));show wpAny _ _ (newExc (.type "StopIteration") [] >>=_) _ _ _;refine Y1 ?_;simp only[newExc,newTuple];refine Y1 (ZG ?_ (by size_fits));refine Y1 (m:=firstArgMember _ _) (bq (a:=Value.none) (by first | rfl | (simp only[firstArgMember];rfl)) ?_);refine ZG ?_ (by size_fits);simp only[raiseNew];refine Y1 (wpAny_handled ?_);first | rw[show A.in1.handled=none from I] | rw[I]
 refine Y1 (Y4 (wpAny_throw ?_));exact L _ _ (((dg ..).extBut.push _).push _) ⟨_,YV _ rfl,rfl⟩
end
structure Bq(P:yO)(w:yK)(K:Fgx) where
 Sq:Hp->yQ->List V->Prop
 It:Heap->yQ->yQ->Nat->Prop
 Is:Heap->yQ->Array yU->Prop
 obj:yQ->Obj
 get:∀ {X:Cx}{ad:PNs}{σ:St}{H:Hp}{s:yR}{a:yQ}{xs:List V},X.K=K->Ac X ad σ H s->Sq H a xs->∃its:yX,At xs its/\Is s.heap a its.toArray/\xs.length<=sizeLine
 inj:∀ {X:Cx}{ad:PNs}{σ:St}{H:Hp}{s:yR}{a:yQ}{xs ys:List V},X.K=K->Ac X ad σ H s->Sq H a xs->Sq H a ys->xs=ys
 draws:∀(A:yL),A.handled=none->∀(it l:yQ),l≠it->∀items:Array yU,Draws P w A it [it,l] items.size (λi v=>items[i]? =some v) (λi h=>It h it l i/\Is h l items)
 ito:∀ {h:Heap}{it l:yQ}{i:Nat},It h it l i->∃o,h.get? it=some o/\∀v,o.data≠ .cell v
 itk:∀ {h h':Heap}{it l:yQ}{i:Nat},It h it l i->(∀o,h.get? it=some o->h'.get? it=some o)->It h' it l i
 isk:∀ {h h':Heap}{l:yQ}{items:Array yU},Is h l items->(∀o,h.get? l=some o->h'.get? l=some o)->Is h' l items
 iso:∀ {h:Heap}{l:yQ}{items:Array yU},Is h l items->∃o,h.get? l=some o
 ok:Prop
 itn:ok->∀(h:Heap) (l:yQ),It (h.push (obj l)) h.objs.size l 0
def ES(P:yO)(w:yK)(K:Fgx):Bq P w K where
 Sq:=λH a G=>Al K H a G
 It:=λh D l i=>h.IsListIter D l i
 Is:=λh l g=>h.IsList l g
 obj:=λl=> { cls:= .type "list_iterator",data:= .fields #[.ref l,.int 0 0]}
 get:=λ{X ad σ H s a G} hK I q=>by subst hK;obtain⟨J,r,p,z⟩:=I.list q;exact⟨J,r,p.isList,z⟩
 inj:=λ{X ad σ H s a G ys} hK I q q'=>by subst hK;exact I.list_inj q q'
 draws:=λA O D l L g=>Draws.list O D l L g
 ito:=λ{h D l i} ⟨o,e,c,d⟩=>⟨o,e,λv z=>by rw[d]at z;cases z⟩
 itk:=λ{h h' D l i} x k=>x.at k
 isk:=λ{h h' l g} x k=>x.at k
 iso:=λ{h l g} ⟨o,e,_⟩=>⟨o,e⟩
 ok:=True
 itn:=λ_ h l=>⟨_,YV _ rfl,rfl,rfl⟩
def C4(P:yO)(w:yK)(K:Fgx):Bq P w K where
  Sq:=λH a L=>Ae K H a L
  It:=λh J l i=>h.IsTupleIter J l i
  Is:=λh l g=>h.IsTuple l g
  obj:=λl=> { cls:= .type "tuple_iterator",data:= .fields #[.ref l,.int 0 0]}
  get:=λ{X ad σ H s a L} hK I q=>by subst hK;obtain⟨O,r,p,z⟩:=I.tuple q;exact⟨O,r,p,z⟩
  inj:=λ{X ad σ H s a L ys} hK I q q'=>by subst hK;exact I.tuple_inj q q'
  draws:=λA hh J l h8 g=>
    { live:=λ_ _ st=>let ⟨o,ho,_⟩:=st.1;⟨o,ho⟩
      frame:=λ_ _ _ st hk=>⟨let ⟨o,e,r⟩:=st.1;⟨o,hk J (by simp) o e,r⟩,let ⟨o,e,r⟩:=st.2;⟨o,hk l (by simp) o e,r⟩⟩
      item:=λi s Q E hi st hQ=>RW st.1 st.2 (x:=g[i]) (by simp[hi]) λZ D G=>hQ _ Z s.toks (by simp[hi]) ⟨D,st.2.extBut G.extBut h8⟩ G
      done:=λs Q E st hE=>RX hh st.1 st.2 (by simp) hE}
  ito:=λ{h J l i} ⟨o,e,c,d⟩=>⟨o,e,λv z=>by rw[d]at z;cases z⟩
  itk:=λ{h Z J l i} ⟨o,e,r⟩ k=>⟨o,k o e,r⟩
  isk:=λ{h Z l g} ⟨o,e,r⟩ k=>⟨o,k o e,r⟩
  iso:=λ{h l g} ⟨o,e,_⟩=>⟨o,e⟩
  ok:=True
  itn:=λ_ h l=>⟨_,YV _ rfl,rfl,rfl⟩
end
section
variable{X:Cx}{ad:List (yQ × Obj)}{σ:St}{H:Hp}{s:yR}{wr:List yQ}{h':Heap}{k:Nat}{p pos pos':Pos}{ta:TA}
open AutoSeq1 (wpAny_loadPart')
def Ac.yielded{tk:Nat}{T:yQ}{vs:List V}{us:yX}(I:Ac X ad σ H s)(G:∀b∈wr,BS X ad H b)
  (k:∀b o,b ∉ wr->s.heap.get? b=some o->h'.get? b=some o) (L:s.heap.objs.size<=T) (Z:IsTup h' T us.toArray) (rv:At vs us) (hz:vs.length<=sizeLine):
  Ac X ad σ (upd H T (.tup vs)) { s with heap:=h',toks:=tk}:=by
 have J:H T=none:=I.hok.fresh L;have nT:∀b u,H b=some u->b≠T:=λb u e=>Bo e J
 have nW:∀b u,H b=some u->b ∉ wr:=λb u e z=>by have:=(G b z).1;rw[e]at this;cases this
 refine I.step (g':=s.gens) (d':=s.drawn) (ch:=wr) (λb D=>let f:=G b D;⟨f.2.2.2.1,f.2.1,f.2.2.2.2.1,f.2.2.2.2.2⟩) (λb o _ _ g e _=>k b o g e) (λb o _ _ g e _=>⟨o.slots,k b o g e⟩)
  (λb o g e n=>?_) (λb o g e=>⟨o,k b o g e⟩) (λb O e=>by rw[Aq (nT b _ e)];exact e) (λb o O e=>by rw[Aq (nT b _ e)];exact e) (λb ps e=>⟨#[],by rw[Aq (nT b _ e),e];simp⟩) (λm hm=>?_) (λb u e=>?_) I.bare
 .rw[Aq (Zc (YX (Y9 e) L))];exact n
 .obtain⟨o,es,ep,ho,r⟩:=hm;exact⟨o,es,ep,k _ o (λz=>(G _ z).2.1 rfl) ho,r⟩
 .by_cases D:b=T
  .subst D;rw[Ag]at e;cases e;exact⟨hz,us,rv,Z⟩
  .rw [Aq D] at e;refine(I.hok b u e).stay (λc v g q=>k c v ?_ q) (λc q=>by rw [Aq (nT c _ q)];exact q) λc O q=>by rw [Aq (nT c _ q)];exact q
   rcases g with z | z
   .rw[z];exact nW b u e
   .exact nW c _ z
def Ac.ended{tk:Nat}(I:Ac X ad σ H s)(D:∀b∈wr,BS X ad H b)
  (k:∀b o,b ∉ wr->s.heap.get? b=some o->h'.get? b=some o):Ac X ad σ H { s with heap:=h',toks:=tk}:=by
 have nW:∀b u,H b=some u->b ∉ wr:=λb u e z=>by have:=(D b z).1;rw[e]at this;cases this
 refine I.step (g':=s.gens) (d':=s.drawn) (ch:=wr) (λb J=>let f:=D b J;⟨f.2.2.2.1,f.2.1,f.2.2.2.2.1,f.2.2.2.2.2⟩) (λb o _ _ g e _=>k b o g e) (λb o _ _ g e _=>⟨o.slots,k b o g e⟩)
  (λb o g e n=>n) (λb o g e=>⟨o,k b o g e⟩) (λb G e=>e) (λb o G e=>e) (λb ps e=>⟨#[],by rw[e];simp⟩) (λm L=>?_) (λb u e=>?_) I.bare
 .obtain⟨o,es,Z,O,r⟩:=L;exact⟨o,es,Z,k _ o (λz=>(D _ z).2.1 rfl) O,r⟩
 .refine(I.hok b u e).stay (λc v g q=>k c v ?_ q) (λc q=>q) λc G q=>q
  rcases g with z | z
  .rw[z];exact nW b u e
  .exact nW c _ z
def ET{P:yO}{w:yK}{K:Fgx}(S:Bq P w K)(a:yQ):It:=
 ⟨λi H=>∃g x,S.Sq H a g/\g[i]? =some x,λi H v z=>∃T,v= .ref T/\H T=none/\∀g x,S.Sq H a g->g[i]? =some x->z=upd H T (.tup [.int i,x]),λi H=>∃g,S.Sq H a g/\g.length=i⟩
def Nq{P:yO}{w:yK}{K:Fgx}(S:Bq P w K){es:List yJ}{k:Nat}{i4:Pos}(a e it:yQ)(J:e≠it)(i0:a≠it)(i7:a≠e):
  Dv P w K (.Tuple es k i4) (ET S a) [e,it] e (λi h=>(∃G,IsEnum h e it (i:Nat) G)/\S.It h it a i) where
 mem:=by simp
 obj:=λi h st b g=>by
  obtain⟨⟨G,he⟩,hi⟩:=st;rcases Z4.mp g with z | g
  .rw[z];exact⟨_,he,λv z=>by
    have z':Data.fields _=Data.cell v:=z;cases z'⟩
  .rw[Z2.mp g];exact S.ito hi
 keep:=λi h h' st kk=>by
  obtain⟨⟨G,he⟩,hi⟩:=st;exact⟨⟨G,kk e (by simp) _ he⟩,S.itk hi λo q=>kk it (by simp) o q⟩
 item:=by
  intro X hP hw hK hc i ad s σ H E I hf st hg;subst hP hw;obtain⟨xs,x,hq,hx⟩:=hg;obtain⟨D,rv,is,hz⟩:=S.get hK I hq;obtain⟨u,hu,ru⟩:=rv.get hx;have W:=WalksT.enumerateD (S.draws X.A.in1 (I.ok.hd hc) it a i0 D.toArray) e J (by simp[J,Zd i7]) (by simp);have hi:i<D.toArray.size:=by have:=(Y3.mp hu).1;simpa using this
  refine W.item i s _ _ hi ⟨st.1,st.2,is⟩ λT i9 h1 tk hp hT i6 L hk=>⟨_,rfl,?_⟩
  obtain⟨t,y,hy,hv⟩:=hp;have ey:y=u:=by
   have q:D.toArray[i]? =some u:=by simpa using hu
   rw[q]at hy;exact(Zb hy).symm
  subst ey hv;refine W.go es k i4 i T { s with heap:=h1,toks:=tk} _ _ L λh2 i5 Z=>?_
  have kk:∀b o,b ∉ [e,it]->s.heap.get? b=some o->h2.get? b=some o:=λb o g q=>Z b o g (hk b o g q)
  have O:IsTup h2 T [Value.int i t,y].toArray:=by
   obtain⟨o,q,r⟩:=i6;exact⟨o,Z T o (W.apart i T h1 L) q,r⟩
  exact⟨.ref T,upd H T (.tup [.int i,x]),I.yielded (tk:=tk) (λb g=>hf b g) kk hT O (.cons ⟨t,rfl⟩ (.cons ru .nil)) (by show 2<=sizeLine;decide),rfl,
   ⟨T, rfl, I.hok.fresh hT, λys z hy hz => by
    rw[S.inj hK I hy hq,hx]at hz;cases hz;rfl⟩,⟨i5.1,i5.2.1⟩,λb g=>by
    have i8:b<s.heap.objs.size:=by
     rcases Z4.mp g with z | g
     .rw[z];obtain⟨G,q⟩:=st.1;exact Y9 q
     .rw[Z2.mp g];obtain⟨o,q,_⟩:=S.ito st.2;exact Y9 q
    rw[Aq (Zc (YX i8 hT))];exact(hf b g).1⟩
 done:=by
  intro X hP hw hK hc i ad s σ H E I hf st hg;subst hP hw;obtain⟨xs,hq,hx⟩:=hg;obtain⟨D,rv,is,hz⟩:=S.get hK I hq;have W:=WalksT.enumerateD (S.draws X.A.in1 (I.ok.hd hc) it a i0 D.toArray) e J (by simp[J,Zd i7]) (by simp);have hn:D.toArray.size=i:=by have:=rv.length;simp;lia
  rw[hn]at W;exact W.done s _ _ ⟨st.1,st.2,is⟩ λh' tk hk=>⟨rfl,I.ended (tk:=tk) (λb g=>hf b g) hk⟩
 self:=λ_ _ _ _ _ st h=>by
  obtain⟨⟨G,he⟩,_⟩:=st;exact dL he h
def RY(l:yQ)(items:Array yU):
    Meets (Builtin.«enumerate.__new__» ⟨[.type "enumerate",.ref l],[]⟩) (λ_ R s=>s.heap.IsTuple l items/\R (.ok (.ret (.ref (s.heap.push { cls:= .type "tuple_iterator",data:= .fields #[.ref l,.int 0 0]}).objs.size)))
        { s with heap:=(s.heap.push { cls:= .type "tuple_iterator",data:= .fields #[.ref l,.int 0 0]}).push { cls:= .type "enumerate",data:= .fields #[.none,.bool false,.ref s.heap.objs.size,rawInt 0,.none,.none]}}):=
  .of_wp λprog w A R s h=>by
    obtain⟨O,g,d,tk,os⟩:=s;obtain⟨J,h⟩:=h;obtain⟨⟨Z,i0,dt,sl⟩,G,z,n,D⟩:=id J;replace z:Z= .type "tuple" :=z;replace D:dt= .seq items n:=D;subst z D;have L:=sub_enumerate;have I:Heap.IsTuple (Shared.heap ⟨O,g,d,tk,os⟩) l items:=⟨_,G,rfl,n,rfl⟩
    wp_walk using ZD G
    refine wpAny_stack_any λst=>Y4 ?_;split
    . rename_i c _ _ _ _ _;cases(c==Value.type "enumerate")
      . wp_walk using ZD G,ac I;exact⟨_,rfl,h⟩
      . wp_walk using ZD G,ac I;exact⟨_,rfl,h⟩
    . wp_walk using ZD G,ac I;exact⟨_,rfl,h⟩
def RZ{prog:yO}{w:yK}{A:yL}{E:VSP}{s:yR}{l:yQ}{items:Array yU}{Q:VSP}(D:s.heap.IsTuple l items)
  (h:∀h',IsEnum h' (s.heap.objs.size+1) s.heap.objs.size 0 .none->h'.IsTupleIter s.heap.objs.size l 0->h'.objs.size=s.heap.objs.size+2->(∀b o,s.heap.get? b=some o->h'.get? b=some o)->Q (.ref (s.heap.objs.size+1)) { s with heap:=h'}):
  wpAny (model prog w) A (call (.type "enumerate") [.ref l]) Q E s:=by
 refine callType_new F.called_enumerate (by decide) (F.typeCall_enumerate_1 _) (F.newCall_enumerate_1 _) (λobj=>F.args_object_init_2 obj _) F.entry_enumerate_new (RY l items) ⟨D,?_⟩;have g:(s.heap.push { cls:= .type "tuple_iterator",data:= .fields #[.ref l,.int 0 0]}).objs.size=s.heap.objs.size+1:=Zp ..;show _/\_;rw[g];have z:IsEnum ((s.heap.push { cls:= .type "tuple_iterator",data:= .fields #[.ref l,.int 0 0]}).push { cls:= .type "enumerate",data:= .fields #[.none,.bool false,.ref s.heap.objs.size,rawInt 0,.none,.none]}) (s.heap.objs.size+1) s.heap.objs.size 0 .none:=by
  have:=YV (s.heap.push { cls:= .type "tuple_iterator",data:= .fields #[.ref l,.int 0 0]}) (o:= { cls:= .type "enumerate",data:= .fields #[.none,.bool false,.ref s.heap.objs.size,rawInt 0,.none,.none]}) rfl;rw[g]at this;exact this
 exact⟨⟨_,z,rfl⟩,h _ z ⟨_,Y2 _ (YV _ rfl),rfl,rfl⟩ (by rw[Zp,g]) λb o x=>Y2 _ (Y2 _ x)⟩
def HX{P:yO}{w:yK}{K:Fgx}(S:Bq P w K)(I:TA):TI:=fun G H R=>I G H λD g=>∃a,D=[.ref a]/\(∃z,S.Sq g a z)/\R (ET S a) g
def R1{es:List yJ}{a:yJ}(hg:Gl X "enumerate")(hm:X.mg "enumerate"=none)(ha:PA X [a] ta)(hs:autoParam (starEach [a] X.env=[(false,eval a X.env)]) m5):
  PI X (.Tuple es k pos') (.Call (.Name "enumerate" p) [a] [] pos) (HX (ES X.prog X.w X.K) ta):=by
 intro ad s O H R I h;refine Call_ (Dd I hg hm boot_enumerate (Zy (Ap (ha pos ad s O H _ I h) λus g zq=>?_) hs rfl));obtain⟨vs,H1,D,r1,q1⟩:=zq;obtain⟨l,e,⟨xs,hq⟩,q⟩:=q1;subst e;obtain⟨u,rfl,ru⟩:=r1.one;cases ru;obtain⟨i0,rv,Z,hz⟩:=D.list hq;obtain⟨ol,L⟩:=(ES X.prog X.w X.K).iso Z.isList;have G:=Y9 L;refine call_enumerate_list Z.isList λh' hE hI i4 hk=>?_
 have I2:Ac X ad O H1 { g with heap:=h'}:=D.kept (t':=g.toks) hk;refine dL hE ⟨g.heap.objs.size+1,[g.heap.objs.size+1,g.heap.objs.size],_,_,H1,rfl,I2,Nq (ES X.prog X.w X.K) l (g.heap.objs.size+1) g.heap.objs.size (cf _) (Zc G) (Zc (ZX G)),⟨⟨_,hE⟩,hI⟩,λb J=>?_,q⟩;rcases Z4.mp J with z | J
 .rw[z];exact D.fpOk (ZB _) (D.hok.fresh (ZB _))
 .rw[Z2.mp J];exact D.fpOk (Y5 _) (D.hok.fresh (Y5 _))
def R3{es:List yJ}{a:yJ}(hg:Gl X "enumerate")(hm:X.mg "enumerate"=none)(ha:PA X [a] ta)(hs:autoParam (starEach [a] X.env=[(false,eval a X.env)]) m5):
  PI X (.Tuple es k pos') (.Call (.Name "enumerate" p) [a] [] pos) (HX (C4 X.prog X.w X.K) ta):=by
 intro ad s σ H R I h;refine Call_ (Dd I hg hm boot_enumerate (Zy (Ap (ha pos ad s σ H _ I h) λus g zq=>?_) hs rfl));obtain⟨vs,H1,D,r1,q1⟩:=zq;obtain⟨l,e,⟨xs,hq⟩,q⟩:=q1;subst e;obtain⟨u,rfl,ru⟩:=r1.one;cases ru;obtain⟨Z,rv,is,hz⟩:=D.tuple hq;obtain⟨ol,L,G⟩:=id is;have J:=Y9 L;refine RZ (items:=Z.toArray) ⟨ol,L,G⟩ λh' hE hI i0 hk=>?_
 have I2:Ac X ad σ H1 { g with heap:=h'}:=D.kept (t':=g.toks) hk;refine dL hE ⟨g.heap.objs.size+1,[g.heap.objs.size+1,g.heap.objs.size],_,_,H1,rfl,I2,Nq (C4 X.prog X.w X.K) l (g.heap.objs.size+1) g.heap.objs.size (cf _) (Zc J) (Zc (ZX J)),⟨⟨_,hE⟩,hI⟩,λb O=>?_,q⟩;rcases Z4.mp O with z | O
 .rw[z];exact D.fpOk (ZB _) (D.hok.fresh (ZB _))
 .rw[Z2.mp O];exact D.fpOk (Y5 _) (D.hok.fresh (Y5 _))
end
section
variable{k:Nat}{z:yQ}{a1 a2:yU}{X:Cx}{p pos pos':Pos}{e1 e2:yJ}{ta:TA}
open AutoSeq1 (wpAny_loadPart')
def Dr{P:yO}{w:yK}{K:Fgx}(S:Bq P w K)(it l:yQ)(xs:Array yU)(k:Nat)(h:Heap):Prop:=S.It h it l k/\S.Is h l xs
def Dr.ext{P:yO}{w:yK}{K:Fgx}{S:Bq P w K}{it l b:yQ}{xs:Array yU}{h h':Heap}(d:Dr S it l xs k h)(e:Heap.ExtBut b h h')(g:it≠b)(z:l≠b):Dr S it l xs k h':=
 ⟨S.itk d.1 λo q=>e it o g q,S.isk d.2 λo q=>e l o z q⟩
abbrev C5(h:Heap)(z TI TO:yQ)(f0 g:yU):Prop:=h.get? z=some { cls:= .type "zip",dict:=none,data:= .fields #[f0,g,.bool false,.ref TI,.ref TO],slots:= #[]}
def HY(h:Heap)(z TI TO:yQ):Prop:=∃f0 g,C5 h z TI TO f0 g/\(f0= .none\/ ∃T:yQ,f0=rawInt T)/\(g= .bool false\/g= .bool true)
def R4{M:Model}{A:yL}{E:VSP}{s:yR}{a:yQ}{Q:Option Obj->yR->Prop}(h:Q (s.heap.get? a) s):wpAny M A (loadIfAlive a) Q E s:=λ_ _ _=>h
def Nr{P:yO}{w:yK}{A:yL}{E:VSP}{s:yR}{TI TO:yQ}{Q:Bool->yR->Prop}(hz:HY s.heap z TI TO)(h1:∀f0 g,C5 s.heap z TI TO f0 g->Q true s)
  (Z:∀D,∀T:yQ,∀g G,C5 s.heap z TI TO (rawInt T) g->C5 D z TI TO (rawInt T) G->(G= .bool false\/G= .bool true)->Heap.SameBut z s.heap D->Q false { s with heap:=D}):
  wpAny (model P w) A (Builtin.SmallTypes.ownedTupleIsFree (.ref z)) Q E s:=by
 obtain⟨f0,g,hz,L,I⟩:=hz;unfold Builtin.SmallTypes.ownedTupleIsFree;refine Y1 (ZN hz rfl (x:=f0) rfl ?_);rcases L with rfl | ⟨T,rfl⟩
 .exact Y4 (h1 _ _ hz)
 .show wpAny _ _ (loadIfAlive T>>=_) _ _ _;refine Y1 (R4 ?_);cases i0:s.heap.get? T with
  |none=>
   simp only[Option.isNone_none,bj];exact Y4 (h1 _ _ hz)
  |some oT=>
   simp only[Option.isNone_some,au,bC];show wpAny _ _ (field (.ref z) 1>>=_) _ _ _;refine Y1 (ZN hz rfl (x:=g) rfl ?_);rcases I with rfl | rfl
   .exact Y1 (aL hz (by simp) λD O J=>Y4 (Z D T _ _ hz O (.inr rfl) J))
   .exact Y1 (Y4 (Y4 (Z s.heap T _ _ hz hz (.inr rfl) ⟨rfl,λ_ _=>rfl⟩)))
structure HZ(z TI TO i1 i2 l1 l2:yQ):Prop where
 TI_z:TI≠z
 TO_z:TO≠z
 TO_TI:TO≠TI
 i1_z:i1≠z
 i1_TI:i1≠TI
 i1_TO:i1≠TO
 i2_z:i2≠z
 i2_TI:i2≠TI
 i2_TO:i2≠TO
 i2_i1:i2≠i1
 l1_z:l1≠z
 l1_TO:l1≠TO
 l1_i1:l1≠i1
 l1_i2:l1≠i2
 l2_z:l2≠z
 l2_TO:l2≠TO
 l2_i1:l2≠i1
 l2_i2:l2≠i2
abbrev B6(h:Heap)(T:yQ)(z g:yU):Prop:=h.get? T=some { cls:= .type "tuple",data:= .seq #[z,g]}
def Nt{prog:yO}{w:yK}{A:yL}{E:VSP}{s:yR}{T:yQ}{x:yU}{Q:Unit->yR->Prop}(g:B6 s.heap T a1 a2)
  (h:∀h',h'.get? T=some { cls:= .type "tuple",data:= .seq ((#[a1,a2]:Array yU).setIfInBounds k x)}->Heap.SameBut T s.heap h'->Q () { s with heap:=h'}):
  wpAny (model prog w) A (updateSeq T (·.setIfInBounds k x)) Q E s:=by
 have got:=ZF (Obj.mapSeq λy=>y.setIfInBounds k x) g rfl;exact aO g rfl (h _ (got.trans (by simp[Obj.mapSeq])) (dg ..))
section
variable{P:yO}{w:yK}{K:Fgx}{A:yL}{E:yY}{s:yR}(S1 S2:Bq P w K)
def R5{z TI TO i1 i2 l1 l2:yQ}{k:Nat}{J L:Array yU}{x1 x2 a1 a2:yU}{Q:VSP}(hh:A.handled=none)(D:HZ z TI TO i1 i2 l1 l2)(hz:HY s.heap z TI TO)(hTI:B6 s.heap TI (.ref i1) (.ref i2))(v7:B6 s.heap TO a1 a2)(h1:Dr S1 i1 l1 J k s.heap)(h2:Dr S2 i2 l2 L k s.heap)(n5:J[k]? =some x1)(u9:L[k]? =some x2)
  (hQ : ∀ h' tk, HY h' z TI TO -> (IsZip h' z TI TO (rawInt s.heap.objs.size) \/ IsZip s.heap z TI TO .none -> IsZip h' z TI TO (rawInt s.heap.objs.size)) -> (∃ a1 a2, B6 h' TO a1 a2) -> Dr S1 i1 l1 J (k + 1) h' -> Dr S2 i2 l2 L (k + 1) h' -> B6 h' s.heap.objs.size x1 x2 -> h'.objs.size = s.heap.objs.size + 1 ->
   (∀c o,c≠z->c≠TO->c≠i1->c≠i2->s.heap.get? c=some o->h'.get? c=some o)->Q (.ref s.heap.objs.size) { s with heap:=h',toks:=tk}):
  wpAny (model P w) A (Builtin.«zip.__next__» ⟨[.ref z],[]⟩) (λfin s'=>∃v,fin= .done (.ret v)/\Q v s') E s:=by
 have v8:k<J.size:=(bE.mp n5).1;have v6:k<L.size:=(bE.mp u9).1;have D1:=fun(A:yL) (hh:A.handled=none)=>S1.draws A hh i1 l1 D.l1_i1 J
 have D2:=fun(A:yL) (hh:A.handled=none)=>S2.draws A hh i2 l2 D.l2_i2 L
 obtain⟨f0',f1',v4,hf0',hf1'⟩:=id hz;show wpAny _ _ (field (.ref z) 2>>=_) _ _ _;refine Y1 (ZN v4 rfl (x:= .bool false) rfl ?_);show wpAny _ _ (field (.ref z) 3>>=_) _ _ _;refine Y1 (ZN v4 rfl (x:= .ref TI) rfl ?_);refine Y1 (ZW hTI rfl ?_);show wpAny _ _ (Builtin.SmallTypes.ownedTupleIsFree (.ref z) >>=_) _ _ _;refine Y1 (Nr hz (λf0 f1 hz=>?_) λg0 T f1 f2 hzs j0 hf2 I=>?_)
 .simp only[bj];refine Y1 (bS ?_);refine Y1 (ZN hz rfl (x:= .ref TO) rfl ?_);refine Y1 (aL hz (by simp) λg0 j0 I=>?_);replace j0:C5 g0 z TI TO .ellipsis f1:=j0;refine Y1 ?_;simp only[List.zipIdx_cons,List.zipIdx_nil,cO,eM];refine Y1 (Y1 (fE ?_));show wpAny _ _ (Builtin.SmallTypes.nextOf (.ref i1) >>=_) _ _ _;refine Y1 ((D1 _ hh).item k _ _ _ v8 (Dr.ext h1 I.extBut D.i1_z D.l1_z) λy1 g1 tk1 j2 u6 G=>Y4 ?_);have o8:y1=x1:=by rw[n5]at j2;exact(Zb j2).symm
  subst o8;have i4:Dr S1 i1 l1 J (k+1) g1:=u6;have w8:B6 g1 TO a1 a2:=(G.extBut _ _ D.i1_TO.symm (I.extBut _ _ D.TO_z v7));refine Y1 (ZW w8 rfl ?_);refine Y1 (Nt w8 λZ n9 g=>?_)
  replace n9:B6 Z TO y1 a2:=n9
  refine Y1 (aK (Y4 ?_));refine Y1 (Y1 (fE ?_));show wpAny _ _ (Builtin.SmallTypes.nextOf (.ref i2) >>=_) _ _ _;refine Y1 ((D2 _ hh).item k _ _ _ v6 (Dr.ext (Dr.ext (Dr.ext h2 I.extBut D.i2_z D.l2_z) G.extBut D.i2_i1 D.l2_i1) g.extBut D.i2_TO D.l2_TO) λy2 g3 w9 i9 o9 j4=>Y4 ?_);have u0:y2=x2:=by rw[u9]at i9;exact(Zb i9).symm
  subst u0;have i5:Dr S2 i2 l2 L (k+1) g3:=o9;have w5:B6 g3 TO y1 a2:=(j4.extBut _ _ D.i2_TO.symm n9);refine Y1 (ZW w5 rfl ?_);refine Y1 (Nt w5 λO j9 j3=>?_)
  replace j9:B6 O TO y1 y2:=j9
  refine Y1 (aK (Y4 (Y4 ?_)));refine Y1 (ZW j9 rfl ?_);refine Y1 (wpAny_newTuple ?_);have i0:O.objs.size=s.heap.objs.size:=by rw[j3.1,j4.1,g.1,G.1,I.1]
  have j6:C5 O z TI TO .ellipsis f1:=(j3.extBut _ _ D.TO_z.symm (j4.extBut _ _ D.i2_z.symm (g.extBut _ _ D.TO_z.symm (G.extBut _ _ D.i1_z.symm j0))));have hk5:∀c o,c≠z->c≠TO->c≠i1->c≠i2->s.heap.get? c=some o->O.get? c=some o:=λc o cz i7 i8 i6 e=>(j3.extBut _ _ i7 (j4.extBut _ _ i6 (g.extBut _ _ i7 (G.extBut _ _ i8 (I.extBut _ _ cz e)))))
  have j7:Dr S1 i1 l1 J (k+1) O:=(Dr.ext (Dr.ext (Dr.ext i4 g.extBut D.i1_TO D.l1_TO) j4.extBut D.i2_i1.symm D.l1_i2) j3.extBut D.i1_TO D.l1_TO);have l6:Dr S2 i2 l2 L (k+1) O:=(Dr.ext i5 j3.extBut D.i2_TO D.l2_TO);have l9:z<O.objs.size:=Y9 j6;show wpAny _ _ (Builtin.SmallTypes.ownedTupleHandOut (.ref z) (.ref O.objs.size) >>=_) _ _ _;refine Y1 ?_;unfold Builtin.SmallTypes.ownedTupleHandOut;have hz6:C5 (O.push { cls:= .type "tuple",data:= .seq #[y1,y2]}) z TI TO .ellipsis f1:=Y2 _ j6;refine Y1 (aL hz6 (by simp) λga u5 u8=>?_);replace u5:C5 ga z TI TO (rawInt O.objs.size) f1:=u5;refine aL u5 (by simp) λgb j5 r8=>?_;replace j5:C5 gb z TI TO (rawInt O.objs.size) (.bool false):=j5
  have up:∀c o,c≠z->O.get? c=some o->gb.get? c=some o:=λc o c1 e=>r8.extBut _ _ c1 (u8.extBut _ _ c1 (Y2 _ e))
  have j8:B6 gb O.objs.size y1 y2:=r8.extBut _ _ (aa l9) (u8.extBut _ _ (aa l9) (YV _ rfl));have l7:gb.objs.size=O.objs.size+1:=by rw[r8.1,u8.1,Zp]
  have v3:Heap.ExtBut z O gb:=λc o c1 e=>up c o c1 e
  rw[i0]at j5 j8 l7;refine Y4 ⟨_,rfl,?_⟩;show Q (.ref O.objs.size) _;rw[i0];exact hQ gb _ ⟨_,_,j5,.inr ⟨_,rfl⟩,.inl rfl⟩ (λ_=>j5) ⟨_,_,up _ _ D.TO_z j9⟩ (j7.ext v3 D.i1_z D.l1_z) (l6.ext v3 D.i2_z D.l2_z) j8 l7 λc o cz i7 i8 i6 e=>up c o cz (hk5 c o cz i7 i8 i6 e)
 .simp only[au,bC];refine Y1 ?_;simp only[<-Array.forIn_toList,cO,eM];refine Y1 (Y1 (Zn ?_));show wpAny _ _ (Builtin.SmallTypes.nextOf (.ref i1) >>=_) _ _ _;refine Y1 ((D1 _ hh).item k _ _ _ v8 (Dr.ext h1 I.extBut D.i1_z D.l1_z) λy1 g1 tk1 j2 u6 G=>Y4 ?_);have o8:y1=x1:=by rw[n5]at j2;exact(Zb j2).symm
  subst o8;have i4:Dr S1 i1 l1 J (k+1) g1:=u6;refine Y4 ?_;refine Y1 (Y1 (Zn ?_));show wpAny _ _ (Builtin.SmallTypes.nextOf (.ref i2) >>=_) _ _ _;refine Y1 ((D2 _ hh).item k _ _ _ v6 (Dr.ext (Dr.ext h2 I.extBut D.i2_z D.l2_z) G.extBut D.i2_i1 D.l2_i1) λy2 Z w9 i9 o9 g=>Y4 ?_);have u0:y2=x2:=by rw[u9]at i9;exact(Zb i9).symm
  subst u0;have i5:Dr S2 i2 l2 L (k+1) Z:=o9;refine Y4 (Y4 ?_);show wpAny _ _ (newTuple [y1,y2] >>=_) _ _ _;refine Y1 (wpAny_newTuple ?_);have i0:Z.objs.size=s.heap.objs.size:=by rw[g.1,G.1,I.1]
  have j6:C5 Z z TI TO (rawInt T) f2:=(g.extBut _ _ D.i2_z.symm (G.extBut _ _ D.i1_z.symm j0));have hT5:B6 Z TO a1 a2:=(g.extBut _ _ D.i2_TO.symm (G.extBut _ _ D.i1_TO.symm (I.extBut _ _ D.TO_z v7)));have j7:Dr S1 i1 l1 J (k+1) Z:=(Dr.ext i4 g.extBut D.i2_i1.symm D.l1_i2);have l6:Dr S2 i2 l2 L (k+1) Z:=i5;have j8:B6 (Z.push { cls:= .type "tuple",data:= .seq #[y1,y2]}) Z.objs.size y1 y2:=YV _ rfl;have hb8:(Z.push { cls:= .type "tuple",data:= .seq #[y1,y2]}).objs.size=Z.objs.size+1:=Zp ..;refine Y4 ⟨_,rfl,?_⟩;show Q (.ref Z.objs.size) _;have res:=hQ (Z.push { cls:= .type "tuple",data:= .seq #[y1,y2]}) w9 ⟨_,_,Y2 _ j6,.inr ⟨_,rfl⟩,hf2⟩ (λc=>c.elim id λc=>absurd (ZI (λo:Obj=>o.data) (Zb (hzs.symm.trans c))) (by simp[rawInt])) ⟨_,_,Y2 _ hT5⟩ ⟨S1.itk j7.1 λo q=>Y2 _ q,S1.isk j7.2 λo q=>Y2 _ q⟩ ⟨S2.itk l6.1 λo q=>Y2 _ q,S2.isk l6.2 λo q=>Y2 _ q⟩ (by rw[<-i0];exact j8) (by rw[hb8,i0]) λc o cz i7 i8 i6 e=>Y2 _ (g.extBut _ _ i6 (G.extBut _ _ i8 (I.extBut _ _ cz e)))
  rw[i0];exact res
def R6{TI TO i1 i2 l1 l2:yQ}{i4 i8:Array yU}{Q:Fin->yR->Prop}(hh:A.handled=none)(D:HZ z TI TO i1 i2 l1 l2)(hz:HY s.heap z TI TO)(j0:B6 s.heap TI (.ref i1) (.ref i2))(l6:B6 s.heap TO a1 a2)(h1:Dr S1 i1 l1 i4 k s.heap)(h2:Dr S2 i2 l2 i8 k s.heap)(Z:k=i4.size)
  (hE:∀h' tk e,(∀c o,c≠z->c≠TO->c≠i1->c≠i2->s.heap.get? c=some o->h'.get? c=some o)->(∃o,h'.get? e=some o/\o.cls= .type "StopIteration")->E (.ref e) { s with heap:=h',toks:=tk}):
  wpAny (model P w) A (Builtin.«zip.__next__» ⟨[.ref z],[]⟩) Q E s:=by
 have D1:=fun(A:yL) (hh:A.handled=none)=>S1.draws A hh i1 l1 D.l1_i1 i4
 have D2:=fun(A:yL) (hh:A.handled=none)=>S2.draws A hh i2 l2 D.l2_i2 i8
 obtain⟨j8,j6,i5,j5,j4⟩:=id hz;show wpAny _ _ (field (.ref z) 2>>=_) _ _ _;refine Y1 (ZN i5 rfl (x:= .bool false) rfl ?_);show wpAny _ _ (field (.ref z) 3>>=_) _ _ _;refine Y1 (ZN i5 rfl (x:= .ref TI) rfl ?_);refine Y1 (ZW j0 rfl ?_);show wpAny _ _ (Builtin.SmallTypes.ownedTupleIsFree (.ref z) >>=_) _ _ _;refine Y1 (Nr hz (λf0 f1 hz=>?_) λg0 T f1 f2 j9 O j7 G=>?_)
 .simp only[bj];refine Y1 (bS ?_);refine Y1 (ZN hz rfl (x:= .ref TO) rfl ?_);refine Y1 (aL hz (by simp) λg0 O G=>?_);replace O:C5 g0 z TI TO .ellipsis f1:=O;refine Y1 ?_;simp only[List.zipIdx_cons,List.zipIdx_nil,cO,eM];refine Y1 (Y1 (fE ?_));show wpAny _ _ (Builtin.SmallTypes.nextOf (.ref i1) >>=_) _ _ _;have I:=(Dr.ext h1 G.extBut D.i1_z D.l1_z);subst Z;refine Y1 ((D1 _ hh).done _ _ _ I λge e J he=>?_);obtain⟨oe,g,L⟩:=he;have i7:C5 ge z TI TO .ellipsis f1:=J _ _ D.i1_z.symm O;have j3:e≠z:=λx=>by subst x;rw[i7]at g;cases g;simp at L
  exact aL i7 (by simp) λgf _ i6=>hE gf _ e (λc o cz j2 i0 i9 x=>i6.extBut _ _ cz (J _ _ i0 (G.extBut _ _ cz x))) ⟨oe,i6.extBut _ _ j3 g,L⟩
 .simp only[au,bC];refine Y1 ?_;simp only[<-Array.forIn_toList,cO,eM];refine Y1 (Y1 (Zn ?_));show wpAny _ _ (Builtin.SmallTypes.nextOf (.ref i1) >>=_) _ _ _;have I:=(Dr.ext h1 G.extBut D.i1_z D.l1_z);subst Z;refine Y1 ((D1 _ hh).done _ _ _ I λge e J he=>?_);obtain⟨oe,g,L⟩:=he;exact hE ge _ e (λc o cz j2 i0 i9 x=>J _ _ i0 (G.extBut _ _ cz x)) ⟨oe,g,L⟩
end
abbrev Ia{P:yO}{w:yK}{K:Fgx}(z D:Bq P w K)(h:Heap)(g G:yQ):Heap:=(h).push (z.obj g)
abbrev Ib{P:yO}{w:yK}{K:Fgx}(G g:Bq P w K)(h:Heap)(D z:yQ):Heap:=(Ia G g h D z).push (g.obj z)
abbrev Id{P:yO}{w:yK}{K:Fgx}(G z:Bq P w K)(h:Heap)(g D:yQ):Heap:=(Ib G z h g D).push { cls:= .type "tuple",data:= .seq #[.ref h.objs.size,.ref (Ia G z h g D).objs.size]}
abbrev Ie{P:yO}{w:yK}{K:Fgx}(G z:Bq P w K)(h:Heap)(g D:yQ):Heap:=(Id G z h g D).push { cls:= .type "tuple",data:= .seq #[.none,.none]}
abbrev DY{P:yO}{w:yK}{K:Fgx}(G z:Bq P w K)(h:Heap)(g D:yQ):Heap:=(Ie G z h g D).push { cls:= .type "zip",data:= .fields #[.none,.bool false,.bool false,.ref (Ib G z h g D).objs.size,.ref (Id G z h g D).objs.size]}
def Ig{P:yO}{w:yK}{K:Fgx}(G z:Bq P w K):Prop:=G.ok/\z.ok/\∀(g D:yQ) (J I:Array yU),
  Meets (Builtin.«zip.__new__» ⟨[.type "zip",.ref g,.ref D],[]⟩) (λ_ R s=>G.Is s.heap g J/\z.Is s.heap D I/\R (.ok (.ret (.ref (Ie G z s.heap g D).objs.size))) { s with heap:=DY G z s.heap g D})
def R7{X:Cx}{p i7:Pos}{e1 O:yJ}{ta:TA}(J G:Bq X.prog X.w X.K)(zn:Ig J G)(hg:Gl X "zip")(hm:X.mg "zip"=none)(ha:PA X [e1,O] ta)(j5:starEach [e1,O] X.env=[(false,eval e1 X.env),(false,eval O X.env)])(i5:starEach [O] X.env=[(false,eval O X.env)])
  {ad:PNs}{s:yR}{σ:St}{H:Hp}{R:yQ->yQ->Hp->Prop} (I:Ac X ad σ H s) (h:ta σ H λvs L=>∃D z,vs=[.ref D,.ref z]/\(∃xs,J.Sq L D xs)/\(∃xs,G.Sq L z xs)/\R D z L):
  wpAny (model X.prog X.w) X.A (eval (.Call (.Name "zip" p) [e1,O] [] i7) X.env) (λv g=>∃D z L,∃m:Nat,v= .ref (m+4)/\R D z L/\Ac X ad σ L g/\IsZip g.heap (m+4) (m+2) (m+3) .none/\B6 g.heap (m+2) (.ref m) (.ref (m+1))/\B6 g.heap (m+3) .none .none/\J.It g.heap m D 0/\G.It g.heap (m+1) z 0/\D<m/\z<m/\(∀b,m<=b->BS X ad L b)/\g.heap.objs.size=m+5) X.xe s:=by
 refine Call_ (Dd I hg hm boot_zip (Zy (Ap (ha i7 ad s σ H _ I h) λus g zq=>?_) (by rw[j5,i5]) (by rw[i5];rfl)));obtain⟨vs,L,I1,r1,q1⟩:=zq;obtain⟨D,z,e,⟨l6,i8⟩,⟨l7,j3⟩,q⟩:=q1;subst e;rcases r1 with _ | ⟨j0,r1⟩
 rcases r1 with _ | ⟨j4,r1⟩
 cases r1;cases j0;cases j4;obtain⟨i0,j9,i4,_⟩:=J.get rfl I1 i8;obtain⟨i6,j8,Z,_⟩:=G.get rfl I1 j3;obtain⟨o1,i9⟩:=J.iso i4;have j7:=Y9 i9;obtain⟨o2,j6⟩:=G.iso Z;have j2:=Y9 j6;refine callType_new F.called_zip (by decide) (F.typeCall_zip_2 _ _) (F.newCall_zip_2 _ _) (λobj=>F.args_object_init_3 obj _ _) F.entry_zip_new (zn.2.2 D z i0.toArray i6.toArray) ⟨i4,Z,?_⟩;have z1:(Ia J G g.heap D z).objs.size=g.heap.objs.size+1:=by rw[Zp]
 have z2:(Ib J G g.heap D z).objs.size=g.heap.objs.size+2:=by rw[Zp,z1]
 have z3:(Id J G g.heap D z).objs.size=g.heap.objs.size+3:=by rw[Zp,z2]
 have z4:(Ie J G g.heap D z).objs.size=g.heap.objs.size+4:=by rw[Zp,z3]
 have zz:(DY J G g.heap D z).objs.size=g.heap.objs.size+5:=by rw[Zp,z4]
 have gz:(DY J G g.heap D z).get? (Ie J G g.heap D z).objs.size=some _:=YV _ rfl;have gO:(DY J G g.heap D z).get? (Id J G g.heap D z).objs.size=some _:=Y2 _ (YV _ rfl);have gI:(DY J G g.heap D z).get? (Ib J G g.heap D z).objs.size=some _:=Y2 _ (Y2 _ (YV _ rfl));have g1:J.It (DY J G g.heap D z) g.heap.objs.size D 0:=J.itk (J.itn zn.1 _ _) λo q=>Y2 _ (Y2 _ (Y2 _ (Y2 _ (q))))
 have g2:G.It (DY J G g.heap D z) (Ia J G g.heap D z).objs.size z 0:=G.itk (G.itn zn.2.1 _ _) λo q=>Y2 _ (Y2 _ (Y2 _ (q)))
 have kk:∀b o,g.heap.get? b=some o->(DY J G g.heap D z).get? b=some o:=λb o x=>Y2 _ (Y2 _ (Y2 _ (Y2 _ (Y2 _ (x)))))
 show _/\_;rw[z2,z3,z4]at gz;rw[z3]at gO;rw[z1,z2]at gI;rw[z4];rw[z1]at g2;generalize DY J G g.heap D z=hE at g1 g2 gI gO gz kk zz ⊢;have I2:Ac X ad σ L { g with heap:=hE}:=I1.kept (t':=g.toks) kk;exact⟨⟨_,gz,rfl⟩,D,z,L,g.heap.objs.size,rfl,q,I2,gz,gI,gO,g1,g2,j7,j2,λb hb=>I1.fpOk hb (I1.hok.fresh hb),zz⟩
set_option maxHeartbeats 8000000 in
def R8(P:yO)(w:yK)(K:Fgx):Ig (C4 P w K) (ES P w K):=⟨trivial,trivial,λZ l2 I L=>
 .of_wp λprog w A R s h=>by
  obtain⟨O,g,d,tk,os⟩:=s;obtain⟨J,G,h⟩:=h;have i0:=sub_zip;have z:Heap.IsTuple (Shared.heap ⟨O,g,d,tk,os⟩) Z I:=J;have D:Heap.IsList (Shared.heap ⟨(O).push { cls:= .type "tuple_iterator",data:= .fields #[.ref Z,.int 0 0]},g,d,tk,os⟩) l2 L:=Heap.IsList.push (G) _
  wp_walk using ac z,aW D
  exact⟨_,rfl,h⟩⟩
set_option maxHeartbeats 8000000 in
def R9(P:yO)(w:yK)(K:Fgx):Ig (C4 P w K) (C4 P w K):=⟨trivial,trivial,λZ l2 I L=>
 .of_wp λprog w A R s h=>by
  obtain⟨O,g,d,tk,os⟩:=s;obtain⟨J,G,h⟩:=h;have i0:=sub_zip;have z:Heap.IsTuple (Shared.heap ⟨O,g,d,tk,os⟩) Z I:=J;have D:Heap.IsTuple (Shared.heap ⟨(O).push { cls:= .type "tuple_iterator",data:= .fields #[.ref Z,.int 0 0]},g,d,tk,os⟩) l2 L:=Heap.IsTuple.push (G) _
  wp_walk using ac z,ac D
  exact⟨_,rfl,h⟩⟩
def Sa{n D G:Nat}(I:D<n)(J:G<n):HZ (n+4) (n+2) (n+3) n (n+1) D G:=by constructor<;>intro z<;>(have g:=z;revert g;intro g;try (change (_:Nat)=_ at g);lia)
def Ih{P:yO}{w:yK}{K:Fgx}(G D:Bq P w K)(a b:yQ):It:=
 ⟨λi H=>∃g z x y,G.Sq H a g/\D.Sq H b z/\g[i]? =some x/\z[i]? =some y,λi H v I=>∃T,v= .ref T/\H T=none/\∀g z x y,G.Sq H a g->D.Sq H b z->g[i]? =some x->z[i]? =some y->I=upd H T (.tup [x,y]),
  λi H=>∃g z,G.Sq H a g/\D.Sq H b z/\g.length=i⟩
def Sb{P:yO}{w:yK}{K:Fgx}(Z L:Bq P w K){es:List yJ}{k:Nat}{j8:Pos}(z TI TO i1 i2 l1 l2:yQ)(D:HZ z TI TO i1 i2 l1 l2):
  Dv P w K (.Tuple es k j8) (Ih Z L l1 l2) [z,TI,TO,i1,i2] z (λi h=>IsZip h z TI TO .none/\B6 h TI (.ref i1) (.ref i2)/\(∃a b,B6 h TO a b)/\Z.It h i1 l1 i/\L.It h i2 l2 i) where
 mem:=by simp
 obj:=λi h st b g=>by
  obtain⟨O,G,⟨a,b',J⟩,h1,h2⟩:=st;simp only[Z4,Zk,Zs]at g;rcases g with e | e | e | e | e<;>rw[e]
  .exact⟨_,O,λv q=>by have q':Data.fields _=Data.cell v:=q;cases q'⟩
  .exact⟨_,G,λv q=>by have q':Data.seq _ _=Data.cell v:=q;cases q'⟩
  .exact⟨_,J,λv q=>by have q':Data.seq _ _=Data.cell v:=q;cases q'⟩
  .exact Z.ito h1
  .exact L.ito h2
 keep:=λi h h' st kk=>by
  obtain⟨O,G,⟨a,b',J⟩,h1,h2⟩:=st;exact⟨kk z (by simp) _ O,kk TI (by simp) _ G,⟨a,b',kk TO (by simp) _ J⟩,Z.itk h1 λo q=>kk i1 (by simp) o q,L.itk h2 λo q=>kk i2 (by simp) o q⟩
 item:=by
  intro X hP hw hK hc i ad s σ H E I hf st hg;subst hP hw;obtain⟨xs,ys,x,y,i0,i4,hx,hy⟩:=hg;obtain⟨j2,i5,i7,j6⟩:=Z.get hK I i0;obtain⟨j0,i6,i8,j7⟩:=L.get hK I i4;obtain⟨u1,l7,j9⟩:=i5.get hx;obtain⟨u2,j4,l6⟩:=i6.get hy;obtain⟨O,G,⟨a,b',J⟩,h1,h2⟩:=st;have hh:=I.ok.hd hc;have hT:s.TypeIs (.ref z) "zip" :=⟨_,O,rfl⟩;unfold pyNext;refine Y1 (wpAny_attempt (aj (name:=Str.ofString "__next__") hT cQ (aG cQ hT F.entry_zip_next
   (R5 Z L (x1:=u1) (x2:=u2) hh D ⟨_,_,O,.inl rfl,.inl rfl⟩ G J ⟨h1,i7⟩ ⟨h2,i8⟩ (by simpa using l7) (by simpa using j4) λh' tk _ az a2 a3 a4 a5 a6 hk=>Y4 ⟨_,rfl,?_⟩) (F.args_zip_next_1 _))))
  obtain⟨b1,b2,a2⟩:=a2;refine wpAny_letOwnedTupleGo_zip (az (.inr O)) λi9 z1 sb=>?_
  have kk:∀b o,b ∉ [z,TI,TO,i1,i2]->s.heap.get? b=some o->i9.get? b=some o:=λb o g q=>sb.extBut b o (λe=>g (by simp[e])) (hk b o (λe=>g (by simp[e])) (λe=>g (by simp[e])) (λe=>g (by simp[e])) (λe=>g (by simp[e])) q)
  have zl:z<s.heap.objs.size:=Y9 O;have ht:IsTup i9 s.heap.objs.size [u1,u2].toArray:=⟨_,sb.extBut _ _ (aa zl) a5,rfl,_,rfl⟩;exact⟨.ref s.heap.objs.size,upd H s.heap.objs.size (.tup [x,y]),I.yielded (tk:=tk) (λb g=>hf b g) kk (Y5 _) ht (.cons j9 (.cons l6 .nil)) (by show 2<=sizeLine;decide),rfl,
   ⟨_, rfl, I.hok.fresh (Y5 _), λn5 n9 x' y' e1 e2 e3 e4 => by
    rw[Z.inj hK I e1 i0,hx]at e3;rw[L.inj hK I e2 i4,hy]at e4;cases e3;cases e4;rfl⟩,
   ⟨z1, sb.extBut _ _ D.TI_z (hk _ _ D.TI_z D.TO_TI.symm D.i1_TI.symm D.i2_TI.symm G), ⟨_, _, sb.extBut _ _ D.TO_z a2⟩, Z.itk a3.1 λo q => sb.extBut _ o D.i1_z q, L.itk a4.1 λo q => sb.extBut _ o D.i2_z q⟩, λb g => by
    have j3:b<s.heap.objs.size:=by
     simp only[Z4,Zk,Zs]at g;rcases g with e | e | e | e | e<;>rw[e]
     .exact zl
     .exact Y9 G
     .exact Y9 J
     .obtain⟨o,q,_⟩:=Z.ito h1;exact Y9 q
     .obtain⟨o,q,_⟩:=L.ito h2;exact Y9 q
    rw[Aq (Zc j3)];exact(hf b g).1⟩
 done:=by
  intro X hP hw hK hc i ad s σ H E I hf st hg;subst hP hw;obtain⟨xs,ys,i0,i4,l9⟩:=hg;obtain⟨j2,i5,i7,j6⟩:=Z.get hK I i0;obtain⟨j0,i6,i8,j7⟩:=L.get hK I i4;obtain⟨O,G,⟨a,b',J⟩,h1,h2⟩:=st;have hh:=I.ok.hd hc;have hT:s.TypeIs (.ref z) "zip" :=⟨_,O,rfl⟩;have e1:=i5.length;have e2:=i6.length;unfold pyNext;refine Y1 (wpAny_attempt (aj (name:=Str.ofString "__next__") hT cQ (aG cQ hT F.entry_zip_next
   (R6 Z L hh D ⟨_,_,O,.inl rfl,.inl rfl⟩ G J ⟨h1,i7⟩ ⟨h2,i8⟩ (by simp;lia) λh' tk e hk he=>?_) (F.args_zip_next_1 _))))
  obtain⟨o,ho,j5⟩:=he;refine Y1 (wpAny_isInstance (T:="StopIteration") (b:=true) ⟨o,ho,j5⟩ isSubtype_stop ?_);exact Y4 ⟨rfl,I.ended (wr:=[z,TI,TO,i1,i2]) (tk:=tk) (λb g=>hf b g) λb o g q=>hk b o (λe=>g (by simp[e])) (λe=>g (by simp[e])) (λe=>g (by simp[e])) (λe=>g (by simp[e])) q⟩
 self:=λ_ _ _ _ _ st h=>wpAny_pyIter_zip st.1 h
def Gv{P:yO}{w:yK}{K:Fgx}(D z:Bq P w K)(O:TA):TI:=fun L H R=>O L H λJ g=>∃a b,J=[.ref a,.ref b]/\(∃G,D.Sq g a G)/\(∃I,z.Sq g b I)/\R (Ih D z a b) g
def Nu{es:List yJ}(z g:Bq X.prog X.w X.K)(zn:Ig z g)(hg:Gl X "zip")(hm:X.mg "zip"=none)(ha:PA X [e1,e2] ta)
  (hs:starEach [e1,e2] X.env=[(false,eval e1 X.env),(false,eval e2 X.env)]) (G:starEach [e2] X.env=[(false,eval e2 X.env)]):PI X (.Tuple es k pos') (.Call (.Name "zip" p) [e1,e2] [] pos) (Gv z g ta):=by
 intro ad s σ H R I h;refine Ap (R7 z g zn (R:=λJ D L=>R (Ih z g J D) L) hg hm ha hs G I h) λv s1 zq=>?_
 obtain⟨J,D,L,m,e,q,I1,Z,gI,gO,g1,g2,h1,h2,fr,_⟩:=zq;subst e;exact wpAny_pyIter_zip Z ⟨_,[m+4,m+2,m+3,m,m+1],_,_,L,rfl,I1,Sb z g _ _ _ _ _ J D (Sa h1 h2),⟨Z,gI,⟨_,_,gO⟩,g1,g2⟩,λb O=>fr b (by
  simp only[Z4,Zk,Zs]at O;rcases O with e | e | e | e | e<;>rw[e]<;>first | exact Y5 _ | exact Nat.le_add_right _ _),q⟩
def Sc{es:List yJ}(z:Gl X "zip")(D:X.mg "zip"=none)(I:PA X [e1,e2] ta)
  (G:autoParam (starEach [e1,e2] X.env=[(false,eval e1 X.env),(false,eval e2 X.env)]) m5) (g:autoParam (starEach [e2] X.env=[(false,eval e2 X.env)]) m5):PI X (.Tuple es k pos') (.Call (.Name "zip" p) [e1,e2] [] pos) (Gv (C4 X.prog X.w X.K) (ES X.prog X.w X.K) ta):=Nu _ _ (R8 _ _ _) z D I G g
def Sd{es:List yJ}(z:Gl X "zip")(D:X.mg "zip"=none)(I:PA X [e1,e2] ta)
  (G:autoParam (starEach [e1,e2] X.env=[(false,eval e1 X.env),(false,eval e2 X.env)]) m5) (g:autoParam (starEach [e2] X.env=[(false,eval e2 X.env)]) m5):PI X (.Tuple es k pos') (.Call (.Name "zip" p) [e1,e2] [] pos) (Gv (C4 X.prog X.w X.K) (C4 X.prog X.w X.K) ta):=Nu _ _ (R9 _ _ _) z D I G g
end
section
variable{C:Int -> Int -> Prop}{g:Int -> Int -> V}{y:V}{H:Hp}{Q:VK}{op op':CmpOp}{r':R2}
section
variable{X:Cx}{e a b c:yJ}{es rest:List yJ}{ta tb tc te:TE}{pos p:Pos}{tA tB':TT}{t u:TS}
def PE.weak{t t':TE}(h:PE X e t)(w:∀g H Q,t' g H Q->t g H Q):PE X e t':=λad s g H Q I q=>h ad s g H Q I (w g H Q q)
def Es(i:Nat):TE:=fun g H Q=>match g[i]? with | some (some v)=>Q v H | _=>False
def cv(i:Nat){x:Str}{g:Pos}(G:autoParam (X.N[i]? =some x) m5)(D:autoParam (Ej X.env.scope x) O')(hd:autoParam ((x==("__debug__" :Str))=false) S7)
  (z:autoParam ((x==("__classdict__" :Str))=false) S7):PE X (.Name x g) (Es i):=(Gf G D hd z).weak fun I H Q q=>by
 unfold Es at q;split at q
 .exact⟨_,by assumption,q⟩
 .exact q.elim
end
section
variable{X:Cx}{e a b c:yJ}{es rest:List yJ}{ta tb tc te:TE}{pos p:Pos}
def Se{x:V}(h:match x,y with | .int i,.int j=>C i j/\Q (g i j) H | _,_=>False):rI C g x y H Q:=by
 split at h
 .exact⟨_,_,rfl,rfl,h.1,h.2⟩
 .exact h.elim
def Sf{x:V}(h:match x,y with | .int i,.int j=>Q (g i j) H | _,_=>False):Dy g x y H Q:=by
 split at h
 .exact⟨_,_,rfl,rfl,h⟩
 .exact h.elim
def mI(C:Int->Int->Prop)(g:Int->Int->V):R2:=λx y H Q=>match x,y with | .int i,.int j=>C i j/\Q (g i j) H | _,_=>False
def mI0(g:Int->Int->V):R2:=λx y H Q=>match x,y with | .int i,.int j=>Q (g i j) H | _,_=>False
def OpR.mI{f:yU->yU->Sem yU}(h:OpR X f (rI C g)):OpR X f (L2.mI C g):=λad s D H x y v u Q I z G q=>h ad s D H x y v u Q I z G (Se q)
def OpR.mI0{f:yU->yU->Sem yU}(h:OpR X f (Dy g)):OpR X f (L2.mI0 g):=λad s D H x y v u Q I z G q=>h ad s D H x y v u Q I z G (Sf q)
def Bg:OpR X (binaryOp .Add) (mI0 λi j=> .int (i+j)):=op_add.mI0
def BL:OpR X (binaryOp .Sub) (mI0 λi j=> .int (i-j)):=op_sub.mI0
def Et:OpR X (binaryOp .Mult) (mI CMul λi j=> .int (i * j)):=op_mul.mI
def KR:OpR X (binaryOp .FloorDiv) (mI Ks λi j=> .int (i / j)):=op_fdiv.mI
def Fv:OpR X (binaryOp .Mod) (mI (λ_ j=>0<j) λi j=> .int (i % j)):=op_mod.mI
def Sg:OpR X (binaryOp .Pow) (mI MH λi j=> .int (i ^ j.toNat)):=op_pow.mI
def Eu:OpR X (compareOp .Lt) (mI0 λi j=> .bl (decide (i<j))):=op_lt.mI0
def Ew:OpR X (compareOp .LtE) (mI0 λi j=> .bl (decide (i<=j))):=op_le.mI0
def Nv:OpR X (compareOp .Gt) (mI0 λi j=> .bl (decide (j<i))):=op_gt.mI0
def Nw:OpR X (compareOp .GtE) (mI0 λi j=> .bl (decide (j<=i))):=op_ge.mI0
def mB(x:V)(Q:Bool->Prop):Prop:=match x with | .bl c=>Q c | _=>False
end
structure Mono(t:TE):Prop where
 m:∀ {σ H}{Q Q':VK},t σ H Q->(∀v H',Q v H'->Q' v H')->t σ H Q'
section
variable{X:Cx}{e a b c:yJ}{es rest:List yJ}{te:TE}{pos p:Pos}
def cB(t:TE):TT:=fun z H Q=>t z H λx g=>match x with | .bl c=>Q c g | _=>False
def BM{t:TE}(h:PE X e t)(L:autoParam (∀g,isTrue e X.env g=(do let v<-g;standAt e.pos;holding [v] (truthy v))) W0):PT X e (cB t):=by
 intro ad s G H Q I D;refine fS (Ap (h ad s G H _ I D) λv s1 Z=>?_) (L _);obtain⟨x,O,J,r1,z⟩:=Z
 try dsimp only at z
 split at z
 .cases r1;exact ZL ⟨O,J,z⟩
 .exact z.elim
def AU{op:CmpOp}{r:R2}{G J:TE}(ho:OpR X (compareOp op) r)(ha:PE X a G)(hb:PE X b J)(hm:behindInMarks op b=false):PT X (.Compare a [op] [b] pos) (cB (HD r G J)):=by
 intro ad s D H Q I h;refine wpAny_isTrue_Compare1 (Ap (ha ad s D H _ I h) λv Z ⟨x,H1,I1,r1,q1⟩=>Ap (hb ad Z D H1 _ I1 q1) λu s2 ⟨y,H2,L,O,q2⟩=>
  Ap (ho ad s2 D H2 x y v u _ L r1 O q2) λc s3 ⟨z,H3,I3,r3,g⟩=>?_) hm
 dsimp only at g;split at g
 .cases r3;exact ZL ⟨H3,I3,g⟩
 .exact g.elim
def Nx(r Z:R2)(ta I J:TE):TE:=fun g H Q=>ta g H λx O=>I g O λy H2=>r x y H2 λz D=>match z with | .bl k=>br k (J g D λL G=>Z y L G Q) (Q (.bl false) D) | _=>False
def Ny{r:R2}{J O L:TE}(ho:OpR X (compareOp op) r)(G:OpR X (compareOp op') r')(ha:PE X a J)(hb:PE X b O)(hc:PE X c L)
  (hm:autoParam (lastMarks [op,op'] [b,c]=false) M'):PE X (.Compare a [op,op'] [b,c] pos) (Nx r r' J O L):=by
 intro ad s D H Q I h;refine Compare_chain (Ap (ha ad s D H _ I h) λv s1 ⟨x,H1,I1,r1,q1⟩=>chain_link (Ap (hb ad s1 D H1 _ I1 q1) λu s2 ⟨y,H2,I2,Z,q2⟩=>
  Ap (ho ad s2 D H2 x y v u _ I2 r1 Z q2) λd s3 ⟨z,H3,I3,r3,g⟩=>?_)) hm
 dsimp only at g;split at g
 .rename_i k;cases r3;refine ZL ?_;cases k with
  |false=>exact ite_ff ⟨.bl false,H3,I3,rfl,g.2 rfl⟩
  |true=>exact ite_tt (chain_last (Ap (hc ad s3 D H3 _ I3 (g.1 rfl)) λw' s4 ⟨z',H4,I4,r4,q4⟩=>G ad s4 D H4 y z' u w' Q I4 Z r4 q4))
 .exact g.elim
def Sh{r:R2}{L Z O:TE}(ho:OpR X (compareOp op) r)(J:OpR X (compareOp op') r')(ha:PE X a L)(hb:PE X b Z)(hc:PE X c O)
  (hm:autoParam (lastMarks [op,op'] [b,c]=false) M'):PT X (.Compare a [op,op'] [b,c] pos) (cB (Nx r r' L Z O)):=by
 intro ad s D H Q I h;refine isTrue_chain (Ap (ha ad s D H _ I h) λv s1 ⟨x,H1,I1,r1,q1⟩=>test_link (Ap (hb ad s1 D H1 _ I1 q1) λu s2 ⟨y,H2,I2,r2,q2⟩=>
  Ap (ho ad s2 D H2 x y v u _ I2 r1 r2 q2) λd s3 ⟨z,H3,I3,r3,g⟩=>?_)) hm
 dsimp only at g;split at g
 .rename_i k;cases r3;refine ZL ?_;cases k with
  |false=>exact ite_ff ⟨H3,I3,g.2 rfl⟩
  |true=>
   refine ite_tt (test_last (Ap (hc ad s3 D H3 _ I3 (g.1 rfl)) λw' s4 ⟨z',H4,I4,r4,q4⟩=>Ap (J ad s4 D H4 y z' u w' _ I4 r2 r4 q4) λd' s5 zq=>?_));obtain⟨z2,H5,I5,r5,G⟩:=zq
   try dsimp only at G
   split at G
   .cases r5;exact ZL ⟨H5,I5,G⟩
   .exact G.elim
 .exact g.elim
def Si(t u:TT):TT:=fun z H Q=>t z H λc g=>br c (u z g Q) (Q false g)
def Sj(t u:TT):TT:=fun z H Q=>t z H λc g=>br c (Q true g) (u z g Q)
def Gw{G g:TT}(ha:PT X a G)(Z:PW X (.BoolOp .And (b::rest) pos) g):PW X (.BoolOp .And (a::b::rest) pos) (Si G g):=by
 intro wh ad s z H Q I h;refine isTrue_and (Ap (ha ad s z H _ I h) λc O zq=>?_);obtain⟨L,D,J⟩:=zq;cases c with
 |true=>exact Z wh ad O z L Q D (J.1 rfl)
 |false=>exact⟨L,D,J.2 rfl⟩
def DZ{G g:TT}(ha:PT X a G)(Z:PW X (.BoolOp .Or (b::rest) pos) g):PW X (.BoolOp .Or (a::b::rest) pos) (Sj G g):=by
 intro wh ad s z H Q I h;refine isTrue_or (Ap (ha ad s z H _ I h) λc O zq=>?_);obtain⟨L,D,J⟩:=zq;cases c with
 |true=>exact⟨L,D,J.1 rfl⟩
 |false=>exact Z wh ad O z L Q D (J.2 rfl)
def Sk(G D:TE):TE:=fun z H Q=>G z H λx g=>match x with | .bl c=>br c (D z g Q) (Q (.bl false) g) | _=>False
def Sl(D:TE):TE:=fun z H Q=>D z H λx g=>match x with | .bl c=>Q (.bl (!c)) g | _=>False
def BG{z G:TE}(ha:PE X a z)(Z:PE X (.BoolOp .And (b::rest) pos) G):PE X (.BoolOp .And (a::b::rest) pos) (Sk z G):=by
 intro ad s D H Q I h;refine BoolOp_and (Ap (ha ad s D H _ I h) λv O zq=>?_);obtain⟨x,L,J,r1,g⟩:=zq
 try dsimp only at g
 split at g
 .rename_i c;cases r1;refine ZL ?_;cases c with
  |true=>exact Z ad O D L Q J (g.1 rfl)
  |false=>exact⟨.bl false,L,J,rfl,g.2 rfl⟩
 .exact g.elim
def Sm{z:TE}(G:PE X a z):PE X (.UnaryOp .Not a pos) (Sl z):=by
 intro ad s D H Q I h;refine UnaryOp_ (Ap (G ad s D H _ I h) λv s1 Z=>?_);obtain⟨x,J,O,L,g⟩:=Z
 try dsimp only at g
 split at g
 .rename_i c;cases L;exact not_of (ZL ⟨.bl (!c),J,O,rfl,g⟩)
 .exact g.elim
def Sn(t:TT)(G D:TE):TE:=fun g H Q=>t g H λc z=>br c (G g z Q) (D g z Q)
def DE{z D:TE}{L:TT}(hc:PT X c L)(ha:PE X a z)(hb:PE X b D):PE X (.IfExp c a b pos) (Sn L z D):=by
 intro ad s g H Q I h;refine wpAny_IfExp (Ap (hc ad s g H _ I h) λd G zq=>?_);obtain⟨Z,J,O⟩:=zq;cases d with
 |true=>exact ha ad G g Z Q J (O.1 rfl)
 |false=>exact hb ad G g Z Q J (O.2 rfl)
def So(c:TT)(t u:TS):TS:=λD g H=>c g H λb z=>br b (t D g z) (u D g z)
def A1{sa z:List Stmt}{G:TT}{t u:TS}(hc:PT X c G)(ha:PSs X sa t)(hb:PSs X z u):PS X (.If c sa z pos) (So G t u):=by
 intro ad s g H D I h;refine wpAny_If (Ap (hc ad s g H _ I h) λd J zq=>?_);obtain⟨Z,L,O⟩:=zq;cases d with
 |true=>exact ha ad J g Z D L (O.1 rfl)
 |false=>exact hb ad J g Z D L (O.2 rfl)
end
section
variable{X:Cx}{es:List yJ}{t:TA}{pos:Pos}
def Bn{n:Nat}(h:Nat.ble n 64=true):n<=sizeLine:=Ze (av h) (by decide)
def Sr(t:TA):TE:=fun D H Q=>t D H λg z=>match Nat.ble g.length 64 with | true=>∀p,z p=none->Q (.ref p) (upd z p (.tup g)) | false=>False
def Ss(t:TA):TE:=fun D H Q=>t D H λg z=>match Nat.ble g.length 64 with | true=>∀p,z p=none->Q (.ref p) (upd z p (.lst g)) | false=>False
def Ce{x1}(h:PA X es t):PE X (.Tuple es x1 pos) (Sr t):=by
 intro ad s Z H Q I L;refine wpAny_Tuple_spliced (Ap (h pos ad s Z H _ I L) λO g zq=>?_);obtain⟨xs,G,D,r,q⟩:=zq
 try dsimp only at q
 split at q
 .rename_i z;refine⟨by rw[<-r.length];exact Bn z,?_⟩;have J:G g.heap.objs.size=none:=D.hok.fresh (Y5 _);refine⟨.ref g.heap.objs.size,upd G g.heap.objs.size (.tup xs),D.laid (t':=g.toks) (λb u e=>Y2 _ e) (Y5 _) ?_,rfl,q _ J⟩;exact⟨Bn z,O,r,⟨_,YV _ rfl,rfl,_,rfl⟩⟩
 .exact q.elim
def Cs(h:PA X es t):PE X (.List es pos) (Ss t):=by
 intro ad s Z H Q I L;refine wpAny_List_spliced (Ap (h pos ad s Z H _ I L) λO g zq=>?_);obtain⟨xs,G,D,r,q⟩:=zq
 try dsimp only at q
 split at q
 .rename_i z;refine⟨by rw[<-r.length];exact Bn z,?_⟩;have J:G g.heap.objs.size=none:=D.hok.fresh (Y5 _);refine⟨.ref g.heap.objs.size,upd G g.heap.objs.size (.lst xs),D.laid (t':=g.toks) (λb u e=>Y2 _ e) (Y5 _) ?_,rfl,q _ J⟩;exact⟨Bn z,O,0,r,YV _ rfl⟩
 .exact q.elim
end
variable{P:yO}{w:yK}{K:Fgx}{mg:Str -> yW}{base:Heap}
structure Fn(P:yO)(w:yK)(K:Fgx)(mg:Str->yW)(base:Heap)(n:Nat)(x:Str)(ps:List Str)(sp:Sp):Prop where
 ex:∃(f:yQ) (fd:FuncData),BK P w K mg base CX0 n f fd ps sp/\mg x=some (.ref f)/\PySem.W.keepIn K (.ref f)=true/\Binds K fd ps []
structure Df(K:Fgx)(mg:Str->yW)(x:Str)(st:Stmt)(ps:List Str):Prop where
 ex:∃(f:yQ) (fd:FuncData),DV K x x st f fd/\mg x=some (.ref f)/\Binds K fd ps []
def Df.fn{x:Str}{st:Stmt}{N z:List Str}{k:Nat}{sp:Sp}(F:Df K mg x st z)(S:As N z (Am st))(len:∀vs H Q E,sp vs H Q E->vs.length=z.length)
  (g : ∀ (f : yQ) (dl : yU) (A : yL) (outer : List Env) (s : yR) (H : Hp) (vs : List V) (Q : VK) (E : XK), AN k (A.deeper (envOfC x (Am st) s.heap.objs.size f dl)) -> sp vs H Q E ->
   ∃t,PSs (BT CX0 P w K mg base N x (Am st) f dl A outer s H E).nox (A9 st) t/\t { nx:=λ_ H'=>Q .non H',rt:=Q} (start N vs) H):Fn P w K mg base (k+1) x z sp:=by
 obtain⟨f,J,D,L,I⟩:=F.ex;exact⟨f,J,D.ok S len λdl A outer s H vs Q E G h=>g f dl A outer s H vs Q E G h,L,D.kp,I⟩
def Nz(sp:Sp)(t:TA):TE:=fun D H Q=>t D H λz g=>sp z g Q E0
def Ao{X:Cx}{n:Nat}{x:Str}{Z:List Str}{sp:Sp}{e:yJ}{es:List yJ}{t:TA}{p z:Pos}(F:Fn X.prog X.w X.K X.mg X.base n x Z sp)(I:AN n X.A)(hg:Gl X x)(ha:PA X (e::es) t)
  (hdb:autoParam ((x==("__debug__" :Str))=false) S7) (O:autoParam (starEach (e::es) X.env=(false,eval e X.env)::starEach es X.env) m5) (D:autoParam ((backTo z (starEach es X.env)).any (·.1)=false) m5):
  PE X (.Call (.Name x p) (e::es) [] z) (Nz sp t):=by
 obtain⟨f,fd,F,hm,G,L⟩:=F.ex;refine(MU (dvs:=[]) (E:=E0) F I hg hm G L .nil Cb ha hdb O D).weak fun J H Q q=>?_
 have e:∀g:List V,g++[]=g:=λg=>aw g
 show t J H λg H1=>sp (g++[]) H1 Q E0
 simp only[e];exact q
def zA{X:Cx}{n:Nat}{x:Str}{Z:List Str}{sp:Sp}{e:yJ}{es:List yJ}{t:TA}{p z:Pos}{m:Nat}(F:Fn X.prog X.w X.K X.mg X.base n x Z sp)(I:AN m X.A)(ha:PA X (e::es) t)(h9:autoParam (n<=m) S7)(h8:autoParam (Gl X x) m5)(hdb:autoParam ((x==("__debug__" :Str))=false) S7)(O:autoParam (starEach (e::es) X.env=(false,eval e X.env)::starEach es X.env) m5)(D:autoParam ((backTo z (starEach es X.env)).any (·.1)=false) m5):
  PE X (.Call (.Name x p) (e::es) [] z) (Nz sp t):=Ao F (I.mono h9) h8 ha hdb O D
end
section
variable{p:yQ}{H H':Hp}{xs:List V}
def DK(kvs:List (yP×yP))(ks:List (AL×V)):Prop:=(kvs=[]/\ks=[])\/(kvs=[(.int 0,.int 1)]/\ks=[(.inl 0,.int 1)])
mutual
def Aa(p:yQ)(H:Hp):yP->V->Prop
 |.none,v=>v= .non
 |.bool b,v=>v= .bl b
 |.int i,v=>v= .int i
 |.str x,v=>v= .str x
 |.tuple ds,v=>∃a xs,v= .ref a/\H a=some (.tup xs)/\Ad p H ds xs
 |.list ds,v=>∃a xs,v= .ref a/\a≠p/\H a=some (.lst xs)/\Ad p H ds xs
 |.dict kvs,v=>∃a ks,v= .ref a/\a≠p/\DK kvs ks/\H a=some (.dK ks)
def Ad(p:yQ)(H:Hp):List yP->List V->Prop
 |[],xs=>xs=[]
 |d::ds,xs=>∃x r,xs=x::r/\Aa p H d x/\Ad p H ds r
end
def Ev(p:yQ)(H H':Hp):Prop:=∀b o,H b=some o->(b=p/\∃g,o= .lst g)\/H' b=some o
def Ev.refl:Ev p H H:=λ_ _ h=> .inr h
def Ev.same(h:Ab H H'):Ev p H H':=λb o q=> .inr (h b o q)
def Ev.trans{z g:Hp}(h:Ev p H z)(h':Ev p z g):Ev p H g:=λb o q=>(h b o q).elim .inl λr=>h' b o r
def Ev.tup{a:yQ}(h:Ev p H H')(q:H a=some (.tup xs)):H' a=some (.tup xs):=(h a _ q).elim (fun⟨_,ys,e⟩=>nomatch e) id
def Ev.lst{a:yQ}(h:Ev p H H')(q:H a=some (.lst xs))(n:a≠p):H' a=some (.lst xs):=(h a _ q).elim (fun⟨e,_⟩=>absurd e n) id
def Ev.dk{a:yQ}{ks:List (AL×V)}(h:Ev p H H')(q:H a=some (.dK ks)):H' a=some (.dK ks):=(h a _ q).elim (fun⟨_,ys,e⟩=>nomatch e) id
def Ev.new{a:yQ}{o:HO}(h:H a=none):Ev p H (upd H a o):=λb u q=> .inr (by rw[Aq (Bo q h)];exact q)
def Ev.pen{o:HO}(h:H p=some (.lst xs)):Ev p H (upd H p o):=λb u q=>by
 by_cases e:b=p
 .subst e;rw[h]at q;cases q;exact .inl ⟨rfl,xs,rfl⟩
 .exact .inr (by rw[Aq e];exact q)
def Ab.new{a:yQ}{o:HO}(h:H a=none):Ab H (upd H a o):=λb u q=>by rw[Aq (Bo q h)];exact q
mutual
theorem Aa.ev(h:Ev p H H'):∀(d:yP) (v:V),Aa p H d v->Aa p H' d v
 |.none,v,q=>q
 |.bool _,v,q=>q
 |.int _,v,q=>q
 |.str _,v,q=>q
 |.tuple ds,v,q=>by
  unfold Aa at q ⊢;obtain⟨a,g,e,r,z⟩:=q;exact⟨a,g,e,h.tup r,Ad.ev h ds g z⟩
 |.list ds,v,q=>by
  unfold Aa at q ⊢;obtain⟨a,g,e,n,r,z⟩:=q;exact⟨a,g,e,n,h.lst r n,Ad.ev h ds g z⟩
 |.dict kvs,v,q=>by
  unfold Aa at q ⊢;obtain⟨a,D,e,n,k,r⟩:=q;exact⟨a,D,e,n,k,h.dk r⟩
theorem Ad.ev(h:Ev p H H'):∀(ds:List yP) (xs:List V),Ad p H ds xs->Ad p H' ds xs
 |[],xs,q=>by unfold Ad at q ⊢;exact q
 |d::ds,xs,q=>by
  unfold Ad at q ⊢;obtain⟨x,r,e,z,g⟩:=q;exact⟨x,r,e,Aa.ev h d x z,Ad.ev h ds r g⟩
end
theorem Ad.len:∀ {ds:List yP}{xs:List V},Ad p H ds xs->ds.length=xs.length
 |[],xs,q=>by unfold Ad at q;subst q;rfl
 |d::ds,xs,q=>by
  unfold Ad at q;obtain⟨x,r,e,z,g⟩:=q;subst e;simp[Ad.len g]
theorem Ad.get{p:yQ}{H:Hp}:∀ {ds:List yP}{xs:List V}{i:Nat}{d:yP},Ad p H ds xs->ds[i]? =some d->∃x,xs[i]? =some x/\Aa p H d x
 |[],xs,i,d,q,e=>by simp at e
 |d::ds,xs,0,d',q,e=>by
  unfold Ad at q;obtain⟨x,r,rfl,z,g⟩:=q;simp at e;subst e;exact⟨x,rfl,z⟩
 |d::ds,xs,i+1,d',q,e=>by
  unfold Ad at q;obtain⟨x,r,rfl,z,g⟩:=q;obtain⟨y,G,D⟩:=Ad.get (i:=i) g (by simpa using e);exact⟨y,by simpa using G,D⟩
theorem Ad.got{p:yQ}{H:Hp}:∀ {ds:List yP}{xs:List V}{i:Nat}{x:V},Ad p H ds xs->xs[i]? =some x->∃d,ds[i]? =some d/\Aa p H d x
 |[],xs,i,x,q,e=>by unfold Ad at q;subst q;simp at e
 |d::ds,xs,0,x',q,e=>by
  unfold Ad at q;obtain⟨x,r,rfl,z,g⟩:=q;simp at e;subst e;exact⟨d,rfl,z⟩
 |d::ds,xs,i+1,x',q,e=>by
  unfold Ad at q;obtain⟨x,r,rfl,z,g⟩:=q;obtain⟨y,G,D⟩:=Ad.got (i:=i) g (by simpa using e);exact⟨y,by simpa using G,D⟩
def Ad.nil:Ad p H [] []:=by unfold Ad;rfl
def Ad.cons{p:yQ}{H:Hp}{d:yP}{ds:List yP}{x:V}{xs:List V}(h:Aa p H d x)(r:Ad p H ds xs):Ad p H (d::ds) (x::xs):=by unfold Ad;exact⟨x,xs,rfl,h,r⟩
theorem Ad.append:∀ {ds es:List yP}{xs ys:List V},Ad p H ds xs->Ad p H es ys->Ad p H (ds++es) (xs++ys)
 |[],_,xs,_,q,r=>by unfold Ad at q;subst q;exact r
 |d::ds,_,xs,_,q,r=>by
  unfold Ad at q;obtain⟨x,t,rfl,z,g⟩:=q;exact .cons z (Ad.append g r)
def Aa.tup{a:yQ}{ds:List yP}(h:H a=some (.tup xs))(r:Ad p H ds xs):Aa p H (.tuple ds) (.ref a):=by unfold Aa;exact⟨a,xs,rfl,h,r⟩
def Aa.lst{a:yQ}{ds:List yP}(n:a≠p)(h:H a=some (.lst xs))(r:Ad p H ds xs):Aa p H (.list ds) (.ref a):=by unfold Aa;exact⟨a,xs,rfl,n,h,r⟩
def Aa.int{i:Int}:Aa p H (.int i) (.int i):=by unfold Aa;rfl
def Aa.str{i:Str}:Aa p H (.str i) (.str i):=by unfold Aa;rfl
def Aa.non:Aa p H .none .non:=by unfold Aa;rfl
def NB(x:V)(H:Hp)(n:String):Prop:=match x with
 |.non=>n="NoneType" | .bl _=>n="bool" | .int _=>n="int" | .str _=>n="str"
 |.ref a=>(n="tuple" /\∃xs,H a=some (.tup xs))\/(n="list" /\∃xs,H a=some (.lst xs))\/(n="dict" /\∃kvs,H a=some (.dK kvs))
 |_=>False
def Su:yP->String
 |.none=> "NoneType" | .bool _=> "bool" | .int _=> "int" | .str _=> "str" | .tuple _=> "tuple" | .list _=> "list" | .dict _=> "dict"
def KS(n T:String):Bool:=n==T || (n=="bool" && T=="int")
theorem Aa.ty{v:V}:∀ {d:yP},Aa p H d v->NB v H (Su d)
 |.none,q=>by unfold Aa at q;subst q;rfl
 |.bool _,q=>by unfold Aa at q;subst q;rfl
 |.int _,q=>by unfold Aa at q;subst q;rfl
 |.str _,q=>by unfold Aa at q;subst q;rfl
 |.tuple ds,q=>by unfold Aa at q;obtain⟨a,g,rfl,h,_⟩:=q;exact .inl ⟨rfl,g,h⟩
 |.list ds,q=>by unfold Aa at q;obtain⟨a,g,rfl,_,h,_⟩:=q;exact .inr (.inl ⟨rfl,g,h⟩)
 |.dict kvs,q=>by unfold Aa at q;obtain⟨a,z,rfl,_,_,h⟩:=q;exact .inr (.inr ⟨rfl,z,h⟩)
def NC:List V->Hp->VK->Prop:=λxs H Q=>match xs with
 |[x,.ty T]=>∃n,NB x H n/\(T="int" \/T="bool" \/T="tuple" \/T="list" \/T="str")/\Q (.bl (KS n T)) H
 |_=>False
variable{X:Cx}
def boot_int:bootBuiltins "int"=some (.type "int"):=by decide+kernel
def boot_bool:bootBuiltins "bool"=some (.type "bool"):=by decide+kernel
def BH:bootBuiltins "tuple"=some (.type "tuple"):=by decide+kernel
def Dh:bootBuiltins "str"=some (.type "str"):=by decide+kernel
def Gx:BF X (.builtin "isinstance") NC:=by
 intro ad s Z H O us Q I r h;unfold NC at h;split at h
 .rename_i x T;obtain⟨n,G,J,q⟩:=h;obtain⟨u,v,rfl,ru,rv⟩:=r.two;cases rv;have z:∀s':yR,Ac X ad Z H s'->KS n T=true->EP X ad Z Q (.bool true) s':=λs' I' e=>⟨.bl true,H,I',rfl,by rw[e]at q;exact q⟩
  have no:KS n T=false->EP X ad Z Q (.bool false) { s with toks:=s.toks+1}:=λe=>⟨.bl false,H,I.tok _,rfl,by rw[e]at q;exact q⟩
  cases x with
  |non=>
   have e:n="NoneType" :=G;subst e;cases ru;rcases J with rfl | rfl | rfl | rfl | rfl
   .exact IsiPair.NoneType_int (no rfl)
   .exact IsiPair.NoneType_bool (no rfl)
   .exact IsiPair.NoneType_tuple (no rfl)
   .exact IsiPair.NoneType_list (no rfl)
   .exact IsiPair.NoneType_str (no rfl)
  |bl k=>
   have e:n="bool" :=G;subst e;cases ru;rcases J with rfl | rfl | rfl | rfl | rfl
   .exact IsiPair.bool_int (z _ I rfl)
   .exact IsiPair.bool_bool (z _ I rfl)
   .exact IsiPair.bool_tuple (no rfl)
   .exact IsiPair.bool_list (no rfl)
   .exact IsiPair.bool_str (no rfl)
  |int k=>
   have e:n="int" :=G;subst e;obtain⟨t,rfl⟩:=ru;rcases J with rfl | rfl | rfl | rfl | rfl
   .exact IsiPair.int_int (z _ I rfl)
   .exact IsiPair.int_bool (no rfl)
   .exact IsiPair.int_tuple (no rfl)
   .exact IsiPair.int_list (no rfl)
   .exact IsiPair.int_str (no rfl)
  |str k=>
   have e:n="str" :=G;subst e;obtain⟨t,rfl⟩:=ru;rcases J with rfl | rfl | rfl | rfl | rfl
   .exact IsiPair.str_int (no rfl)
   .exact IsiPair.str_bool (no rfl)
   .exact IsiPair.str_tuple (no rfl)
   .exact IsiPair.str_list (no rfl)
   .exact IsiPair.str_str (z _ I rfl)
  |ref a=>
   cases ru;have i5:(n="tuple" /\∃O,H a=some (.tup O))\/(n="list" /\∃O,H a=some (.lst O))\/(n="dict" /\∃i0,H a=some (.dK i0)):=G;rcases i5 with⟨e,O,hx⟩ | ⟨e,O,hx⟩ | ⟨e,O,hx⟩
   .subst e;obtain⟨_,i4,_,o,g,L,_⟩:=I.hok a _ hx;rcases J with rfl | rfl | rfl | rfl | rfl
    .exact IsiPair.tuple_int g L (no rfl)
    .exact IsiPair.tuple_bool g L (no rfl)
    .exact IsiPair.tuple_tuple g L (z _ I rfl)
    .exact IsiPair.tuple_list g L (no rfl)
    .exact IsiPair.tuple_str g L (no rfl)
   .subst e;obtain⟨_,i4,k,_,g⟩:=I.hok a _ hx;rcases J with rfl | rfl | rfl | rfl | rfl
    .exact IsiPair.list_int g rfl (no rfl)
    .exact IsiPair.list_bool g rfl (no rfl)
    .exact IsiPair.list_tuple g rfl (no rfl)
    .exact IsiPair.list_list g rfl (z _ I rfl)
    .exact IsiPair.list_str g rfl (no rfl)
   .subst e;obtain⟨_,_,vs,_,o,es,ep,g,L,_⟩:=I.hok a _ hx;have D:o.cls= .type "dict" :=L.1;rcases J with rfl | rfl | rfl | rfl | rfl
    .exact IsiPair.dict_int g D (no rfl)
    .exact IsiPair.dict_bool g D (no rfl)
    .exact IsiPair.dict_tuple g D (no rfl)
    .exact IsiPair.dict_list g D (no rfl)
    .exact IsiPair.dict_str g D (no rfl)
  |byt _=>exact(show False from G).elim
  |flt _=>exact(show False from G).elim
  |ty _=>exact(show False from G).elim
 .exact h.elim
def Ex(hc:X.calm=true):BF X (.builtin "all") (λxs H Q=>∃(p:yQ) (bs:List Bool),xs=[.ref p]/\H p=some (.lst (bs.map V.bl))/\Q (.bl (bs.all id)) H):=by
 intro ad s σ H xs us Q I r h;obtain⟨p,bs,rfl,hp,q⟩:=h;obtain⟨u,rfl,ru⟩:=r.one;cases ru;obtain⟨g,rv,pl,hz⟩:=I.list (Al.of hp);refine call_all_walk (aW pl.isList ?_);obtain⟨ol,_,O,_⟩:=id pl;have L:=Y9 O;refine⟨s.heap.objs.size,_,_,_,_,_,λi=>bs.getD i false,rfl,Walks.list (A:=X.A.in1) (I.ok.hd hc) s.heap.objs.size p (Zc L) g.toArray,⟨⟨_,YV _ rfl,rfl,rfl⟩,?_⟩,λi v s' Q' E' hi J=>?_,λh' tk hk=>?_⟩
 .exact pl.isList.at λo e=>Y2 _ e
 .have D:g[i]? =some v:=by simpa using hi
  have G:=rv.length;have hb:i<bs.length:=by have:=(Y3.mp D).1;simp at G;lia
  obtain⟨u,Z,ru⟩:=rv.get (i:=i) (x:= .bl bs[i]) (by simp[hb]);rw[D]at Z;cases Z;cases ru;dsimp only at J;rw[Y7,Y6 hb]at J;exact ZL J
 .have G:=rv.length;simp at G;have e:(List.range g.toArray.size).all (λi=>bs.getD i false)=bs.all id:=by
   rw[Zl,<-G,bL];simp only[Zx,am,id];constructor
   .intro h x hx;obtain⟨i,hi,e⟩:=cR.mp hx;have:=h i hi;rw[Y7,Y6 hi]at this;rw[<-e];exact this
   .intro h i hi;rw[Y7,Y6 hi];exact h _ (bJ hi)
  rw[e];refine⟨.bl (bs.all id),H,I.kept λb o eb=>hk b o ?_ (Y2 _ eb),rfl,q⟩;intro z;have z':b=s.heap.objs.size:=by simpa using z
  exact absurd (Y9 eb) (by rw[z'];exact Z8 _)
end
section
open AutoSeq1 (wpAny_loadPart')
variable{X:Cx}
def Ii(H:Hp)(xs:List V)(Q:VK):Prop:=∀r g,Ab H g->g r=some (.tup xs)->Q (.ref r) g
def Ac.gotNew{ad:PNs}{g:St}{H:Hp}{s:yR}{Q:VK}{xs:List V}{us:yX}{t':Nat}(I:Ac X ad g H s)(q:Ii H xs Q)(rv:At xs us)(hz:xs.length<=sizeLine):
  EP X ad g Q (.ref s.heap.objs.size) { s with heap:=s.heap.push { cls:= .type "tuple",data:= .seq us.toArray},toks:=t'}:=
 ⟨.ref s.heap.objs.size,_,I.laid (o:= .tup xs) (λb ob e=>Y2 _ e) (Y5 _) ⟨hz,us,rv,IsTup.new _ _⟩,rfl,q _ _ (Ab.new (I.hok.fresh (Y5 _))) Ag⟩
inductive Sv(x y:V)(H:Hp)(Q:VK):Prop
 |mk(a b g z:_)(_:x= .ref a)(_:y= .ref b)(_:H a=some (.tup g))(_:H b=some (.tup z))(_:g.length+z.length<=1000)(_:Ii H (g++z) Q)
def Gy:OpR X (binaryOp .Add) Sv:=by
 intro ad s σ H x y v u Q I rx ry h;obtain⟨a,b,xs,ys,rfl,rfl,ha,hb,hz,q⟩:=h;cases rx;cases ry;obtain⟨z,r1,ht,_⟩:=I.tuple (Ae.of ha);obtain⟨g,r2,i0,_⟩:=I.tuple (Ae.of hb);obtain⟨⟨cls,dd,data,sl⟩,L,hc,n,hd⟩:=id ht;obtain⟨⟨i4,G,data2,J⟩,D,O,n2,Z⟩:=id i0;simp only at hc hd O Z;subst hc hd O Z;have i6:=r1.length;have i5:=r2.length;have hs:(1000:Nat)<=sizeLine:=by decide
 by_cases hv:z=[]
 .have e:xs=[]:=by subst hv;cases r1;rfl
  refine fT ⟨_,L,rfl⟩ ⟨_,D,rfl⟩ dZ fH PySem.F.slot_tuple_add PySem.F.entry_tuple_add (PySem.F.args_tuple_add_2 _ _) (tuple_addW0 a b z.toArray g.toArray n n2 dd G sl J (by simp[hv])) ⟨L,D,?_⟩;exact⟨.ref b,H,I,rfl,q b H (Ab.refl _) (by rw[e];exact hb)⟩
 .by_cases hw:g=[]
  .have e:ys=[]:=by subst hw;cases r2;rfl
   refine fT ⟨_,L,rfl⟩ ⟨_,D,rfl⟩ dZ fH PySem.F.slot_tuple_add PySem.F.entry_tuple_add (PySem.F.args_tuple_add_2 _ _) (tuple_addW1 a b z.toArray g.toArray n n2 dd G sl J (by simpa using hv) (by simp[hw])) ⟨L,D,?_⟩;exact⟨.ref a,H,I,rfl,q a H (Ab.refl _) (by rw[e,aw];exact ha)⟩
  .refine fT ⟨_,L,rfl⟩ ⟨_,D,rfl⟩ dZ fH PySem.F.slot_tuple_add PySem.F.entry_tuple_add (PySem.F.args_tuple_add_2 _ _)
    (tuple_addW2 a b z.toArray g.toArray n n2 dd G sl J (by simpa using hv) (by simpa using hw) (by rw[Zl,Zl];lia)) ⟨L,D,?_⟩
   have e:z.toArray++g.toArray=(z++g).toArray:=by simp
   rw[e];exact I.gotNew (t':=s.toks) q (r1.append r2) (by rw[Zj];lia)
def Sw{t G:yQ}{items:Array yU}{Z O:yU}{lo hi:Option Int}{Q:VSP}{prog:yO}{w:yK}{A:yL}{E:VSP}{s:yR}(g:IsTup s.heap t items)(J:s.heap.IsSliceOf G Z O .none)(pl:IsPart Z lo)(pu:IsPart O hi)
  (L:HT.sIx items.size 0 lo=0/\HT.sIx items.size items.size hi=items.size) (h:Q (.ref t) s):wpAny (model prog w) A (getItem (.ref t) (.ref G)) Q E s:=by
 obtain⟨os,I,D,i0⟩:=id J;have z:s.TypeIs (.ref G) "slice" :=⟨os,I,D⟩;unfold getItem
 try with_reducible refine Zn ?_
 first | refine Y1 (Y4 ?_) | skip
 refine Y1 (wpAny_sequenceKey g.typeIs (by decide) ?_);refine Y1 (aj (name:=Str.ofString "__getitem__") g.typeIs ZV (aG ZV g.typeIs entry_tuple_getitem ?_ (args_tuple_getitem _ _)));show wpAny _ _ (Builtin.Tuple.tupleItemsOf (.ref t) >>=_) _ _ s;refine Y1 (tupleItemsOf_ g ?_);refine Y1 (fP z ?_);rw[Z1 (by decide)];refine Y1 (HT.sliceApplied_gen J pl pu ?_);rw[L.1,L.2];show wpAny _ _ (if (((0:Nat):Int)==0 &&(1:Int)==1 &&(items.size-0)==items.size)=true then _ else _) _ _ s;rw[Z1 (by simp)];refine Y1 (m:=Builtin.Tuple.tupleIsExact _) ?_;unfold Builtin.Tuple.tupleIsExact;refine Y1 (fP g.typeIs (Y4 ?_));rw[Z1 (by decide)];exact Y1 (bS (Y4 ⟨_,rfl,Y4 h⟩))
inductive Sx(x:V)(lo hi:Option Int)(H:Hp)(Q:VK):Prop
 |mk(a g:_)(_:x= .ref a)(_:H a=some (.tup g))(_:Ii H (Bc g lo hi) Q)
def wa2:HM X Sx:=by
 intro ad s σ H x v vl vu lo hi sl Q I rx L pl pu h;obtain⟨a,D,rfl,Z,q⟩:=h;cases rx;obtain⟨z,r,J,O⟩:=I.tuple (Ae.of Z);have g:z.toArray.size=D.length:=by rw[Zl];exact r.length.symm
 refine⟨"tuple",_,ZV.lookup,J.typeIs,?_⟩
 by_cases G:HT.sIx D.length 0 lo=0/\HT.sIx D.length D.length hi=D.length
 .refine Sw J L pl pu (by rw[g];exact G) ⟨.ref a,H,I,rfl,q a H (Ab.refl _) ?_⟩;unfold Bc;rw[G.1,G.2,dy,cT,dq];exact Z
 .refine HT.getItem_tuple_cut J L pl pu (by rw[g];exact G) ?_ (by rw[g];exact O);rw[g];have e:z.toArray.toList=z:=rfl;rw[e];exact I.gotNew (t':=s.toks) q ((r.drop _).take _) (Ze (HN D lo hi) O)
def Sy:List (yP×yP)->Nat | []=>2 | [(.int i,.int j)]=>if i=0/\j=1 then 6 else 10 ^ 9 | _=>10 ^ 9
mutual
def D0:yP->Nat
 |.none=>4 | .bool _=>5 | .int i=>if i.natAbs<10 ^ 31 then 40 else 10 ^ 9 | .str x=>(reprText x).length
 |.tuple ds=>Ey ds+4 | .list ds=>Ey ds+4 | .dict kvs=>Sy kvs
def Ey:List yP->Nat
 |[]=>0
 |d::ds=>D0 d+2+Ey ds
end
end
section
variable{i:Int}{p:yQ}
def Sz(h:i.natAbs<10 ^ 31):(Str.ofString (toString i)).length<=40:=by
 have g:=int_text_length_le10 (a:=i) (k:=31) (by decide) h;have z:(Str.ofString (toString i)).length=(toString i).length:=by rw[PySem.ofString_length]
 lia
def Fw(h:i.natAbs<10 ^ 31):i.natAbs.log2<1920:=by
 by_cases z:i.natAbs=0
 .rw[z];decide
 .exact bv ((Nat.log2_lt z).mpr (bv h (show 10 ^ 31<2 ^ 120 by decide))) (by decide)
variable{X:Cx}{ad:List (yQ × Obj)}{σ:St}{H:Hp}{s:yR}
mutual
theorem Aa.reads(I:Ac X ad σ H s):∀(d:yP) (v:V) (u:yU),d.hasDict=false->Aa p H d v->RelV v u->∃as,Reads s.heap u d as
 |.none,v,u,_,r,q=>by unfold Aa at r;subst r;cases q;exact⟨_,.none⟩
 |.bool b,v,u,_,r,q=>by unfold Aa at r;subst r;cases q;exact⟨_,.bool b⟩
 |.int i,v,u,_,r,q=>by unfold Aa at r;subst r;obtain⟨t,rfl⟩:=q;exact⟨_,.int i t⟩
 |.str x,v,u,_,r,q=>by unfold Aa at r;subst r;obtain⟨t,rfl⟩:=q;exact⟨_,.str x t⟩
 |.tuple ds,v,u,hd,r,q=>by
  unfold Aa at r;obtain⟨a,L,rfl,Z,D⟩:=r;cases q;obtain⟨z,rv,⟨o,O,J,n,g⟩,_⟩:=I.tuple (Ae.of Z);obtain⟨as,G⟩:=Ad.reads I ds L z (by unfold PyData.hasDict at hd;exact hd) D rv;exact⟨as,.tuple O J g G⟩
 |.list ds,v,u,hd,r,q=>by
  unfold Aa at r;obtain⟨a,L,rfl,_,Z,D⟩:=r;cases q;obtain⟨z,rv,⟨o,n,O,J,_,g⟩,_⟩:=I.list (Al.of Z);obtain⟨as,G⟩:=Ad.reads I ds L z (by unfold PyData.hasDict at hd;exact hd) D rv;exact⟨a::as,.list O J g G⟩
 |.dict kvs,v,u,hd,_,_=>by unfold PyData.hasDict at hd;cases hd
theorem Ad.reads(I:Ac X ad σ H s):∀(ds:List yP) (xs:List V) (us:yX),PyData.hasDictAll ds=false->Ad p H ds xs->At xs us->∃as,ReadsAll s.heap us ds as
 |[],xs,us,_,r,q=>by unfold Ad at r;subst r;cases q;exact⟨_,.nil⟩
 |d::ds,xs,us,hd,r,q=>by
  unfold Ad at r;obtain⟨x,t,rfl,G,rt⟩:=r;unfold PyData.hasDictAll at hd;obtain⟨D,J⟩:=cU.mp hd;cases q with
  |cons q1 q2=>
   obtain⟨as,g⟩:=Aa.reads I d x _ D G q1;obtain⟨bs,z⟩:=Ad.reads I ds t _ J rt q2;exact⟨as++bs,.cons g z⟩
end
mutual
def ND:yP->Bool
 |.list _=>false | .tuple ds=>NE ds | .none=>true | .bool _=>true | .int _=>true | .str _=>true | .dict _=>true
def NE:List yP->Bool
 |[]=>true
 |d::ds=>ND d && NE ds
end
structure Nice(d:yP):Prop where
 w:D0 d<=1000000
 dp:d.depth<=20
 nd:d.hasDict=false\/ND d=true
def Ac.big(I:Ac X ad σ H s):sysModules<s.heap.objs.size:=by
 have h:mainGlobals<s.heap.objs.size:=(I.mod.glob.keeps I.bk).lt;exact bv (by decide) h
end
section
variable{X:Cx}{P:yO}{w:yK}
def Bj(K:Fgx)(h:autoParam (X.K=K) m5):Gj X (M7 K):=h ▸ Rk
def Bd(K:Fgx)(h:autoParam (X.K=K) m5):Gj X (M8 K):=h ▸ Rl
def KT(K:Fgx)(h:autoParam (X.K=K) m5):HM X (M9 K):=h ▸ Rq
def Fy(K:Fgx)(h:autoParam (X.K=K) m5):OpR X (compareOp .In) (Nb K false):=h ▸ Rt
def Bh(K:Fgx)(h:autoParam (X.K=K) m5):BF X (.builtin "len") (SB K):=h ▸ Ru
def BN(K:Fgx)(h:autoParam (X.K=K) m5):BF X (.type "tuple") (SC K):=h ▸ Rv
def AK(K:Fgx){es:List yJ}{k:Nat}{t:Du}{n:Nat}{g:Pos}(h:Fl X es t)(I:autoParam (X.K=K) m5)(D:autoParam (X.calm=true) m5)(G:autoParam ((assignEach es X.env).length=n) m5)(z:autoParam ((assignEach es X.env).findIdx? (·.1)=none) m5):
  PG X (.Tuple es k g) (Mr K n t):=I ▸ Qn D h G z
def Cf(K:Fgx){D l:yJ}{g:TE}(z:PE X l g)(h:autoParam (X.K=K) m5):PI X D l (MB K g):=h ▸ Qz z
def Bu(K:Fgx){D l:yJ}{g:TE}(z:PE X l g)(h:autoParam (X.K=K) m5):PI X D l (MC K g):=h ▸ QA z
def SD(P:yO)(w:yK)(K:Fgx){es:List yJ}{k:Nat}{p z g:Pos}{a:yJ}{D:TA}(G:Gl X "enumerate")(hm:X.mg "enumerate"=none)(I:PA X [a] D)(L:autoParam (X.prog=P) m5)(J:autoParam (X.w=w) m5)(O:autoParam (X.K=K) m5)(Z:autoParam (starEach [a] X.env=[(false,eval a X.env)]) m5):
  PI X (.Tuple es k g) (.Call (.Name "enumerate" p) [a] [] z) (HX (ES P w K) D):=by subst L J O;exact R1 G hm I Z
def Gz(P:yO)(w:yK)(K:Fgx){es:List yJ}{k:Nat}{p z g:Pos}{a:yJ}{D:TA}(G:Gl X "enumerate")(hm:X.mg "enumerate"=none)(I:PA X [a] D)(L:autoParam (X.prog=P) m5)(J:autoParam (X.w=w) m5)(O:autoParam (X.K=K) m5)(Z:autoParam (starEach [a] X.env=[(false,eval a X.env)]) m5):
  PI X (.Tuple es k g) (.Call (.Name "enumerate" p) [a] [] z) (HX (C4 P w K) D):=by subst L J O;exact R3 G hm I Z
def SE(P:yO)(w:yK)(K:Fgx){es:List yJ}{k:Nat}{p I z:Pos}{D g:yJ}{J:TA}(hg:Gl X "zip")(hm:X.mg "zip"=none)(ha:PA X [D,g] J)(L:autoParam (X.prog=P) m5)(Z:autoParam (X.w=w) m5)(hK:autoParam (X.K=K) m5)
  (O:autoParam (starEach [D,g] X.env=[(false,eval D X.env),(false,eval g X.env)]) m5) (G:autoParam (starEach [g] X.env=[(false,eval g X.env)]) m5):
  PI X (.Tuple es k z) (.Call (.Name "zip" p) [D,g] [] I) (Gv (C4 P w K) (ES P w K) J):=by subst L Z hK;exact Sc hg hm ha O G
def Ij(P:yO)(w:yK)(K:Fgx){es:List yJ}{k:Nat}{p I z:Pos}{D g:yJ}{J:TA}(hg:Gl X "zip")(hm:X.mg "zip"=none)(ha:PA X [D,g] J)(L:autoParam (X.prog=P) m5)(Z:autoParam (X.w=w) m5)(hK:autoParam (X.K=K) m5)
  (O:autoParam (starEach [D,g] X.env=[(false,eval D X.env),(false,eval g X.env)]) m5) (G:autoParam (starEach [g] X.env=[(false,eval g X.env)]) m5):
  PI X (.Tuple es k z) (.Call (.Name "zip" p) [D,g] [] I) (Gv (C4 P w K) (C4 P w K) J):=by subst L Z hK;exact Sd hg hm ha O G
end
section
variable{X:Cx}
inductive SF(g:List V)(H:Hp)(Q:VK):Prop
 |mk(p:yQ)(ns:yV)(_:g=[.ref p])(_:H p=some (.lst (ns.map V.int)))(_:Q (.int ns.sum) H)
theorem KU:∀ {ns:yV}{us:yX},At (ns.map V.int) us->IntsAre us ns
 |[],us,h=>by cases h;exact .nil
 |n::ns,us,h=>by
  cases h with
  |cons r t=>obtain⟨k,rfl⟩:=r;exact .cons n k (KU t)
def KW(Z:X.calm=true):BF X (.builtin "sum") SF:=by
 intro ad s σ H g us Q I r h;obtain⟨p,ns,rfl,D,q⟩:=h;obtain⟨u,rfl,ru⟩:=r.one;cases ru;obtain⟨i0,rv,pl,hz⟩:=I.list (Al.of D);have hi:=KU rv;obtain⟨g,z⟩:=AllInts.items hi.allInts;have L:s.heap.IsList p (intItems g):=z ▸ pl.isList;refine sum_intListG (I.ok.hd Z) L λh' tk O G=>?_
 have e1:ns=g.toList.map (λx=>x.fst):=by rw[<-nums_intItems,<-z,List.toList_toArray,hi.numsOf]
 have e2:preSum (numAt g) g.size=ns.sum:=by
  rw[preSum_eq,Z0 (by simp),<-e1]
 rw[e2];exact⟨.int ns.sum,H,I.kept λb o J=>G b o J,⟨O,rfl⟩,q⟩
end
def GB(lo st:Int)(n:Nat):It:= { go:=λi _=>i<n,yld:=λi H x g=>g=H/\x= .int (lo+i * st),stop:=λi _=>n<=i}
def SG{P:yO}{w:yK}{K:Fgx}{tg:yJ}(it:yQ)(lo st:Int)(n:Nat):Dv P w K tg (GB lo st n) [it] it (λi h=>IsRangeIter h it (lo+(i:Nat) * st) ((n:Int)-(i:Nat)) st) where
 mem:=by simp
 obj:=λi h g b D=>by
  obtain rfl:b=it:=by simpa using D
  exact⟨_,g,λv z=>by
   have z':Data.fields _=Data.cell v:=z;cases z'⟩
 keep:=λi h J g k=>k it (by simp) _ g
 item:=by
  intro X Z hw hK hc i ad s σ H E I L g hg;subst Z hw hK;obtain⟨f0,O,f2,f3,f4,f5⟩:=L it (by simp);have W:=Walks.range (prog:=X.prog) (w:=X.w) (I.ok.hd hc) it lo st n;refine W.item i s _ _ hg g λv J tk hv G kk=>?_
  obtain⟨t,rfl⟩:=hv;have I1:Ac X ad σ H { s with heap:=J,toks:=tk}:=I.turned (λb o D e=>kk b o (by simpa using D) e) f0 O f3 f4 f5;exact⟨_,rfl,HC (s:= { s with heap:=J,toks:=tk}) (n:="range_iterator") G rfl rfl (by decide) ⟨.int (lo+i * st),H,I1,⟨t,rfl⟩,⟨rfl,rfl⟩,G,λb D=>(L b D).1⟩⟩
 done:=by
  intro X Z hw hK hc i ad s σ H E I L g hg;subst Z hw hK;obtain⟨f0,O,f2,f3,f4,f5⟩:=L it (by simp);exact eS (I.ok.hd hc) g (by have:n<=i:=hg;lia) λJ eb=>⟨rfl,I.turned (t':=s.toks) (λb o D e=>eb b o D e) f0 O f3 f4 f5⟩
 self:=λ_ _ _ _ _ g h=>bW g h
def SH{lo st:Int}{n:Nat}{g:TG}{Z:TS}{D:Db}{z:St}{H:Hp}(G:Nat->St->Hp->Prop)(h0:G 0 z H)
  (hs:∀i z H,i<n->G i z H->g (.int (lo+i * st)) z H fun I L=>Z { D with nx:=G (i+1),ct:=G (i+1),bk:=D.nx} I L) (hd:∀z H,G n z H->D.nx z H):
  ∃W:Nat->Nat->St->Hp->Prop,(∃m,W 0 m z H)/\∀i m z H,W i m z H->
   ((GB lo st n).stop i H/\D.nx z H)\/((GB lo st n).go i H/\∃N:St->Hp->Prop,(∀σ' H',N σ' H'->∃O,O<m/\W (i+1) O σ' H')/\∀x H',(GB lo st n).yld i H x H'->g x z H' fun I L=>Z { D with nx:=N,ct:=N,bk:=D.nx} I L):=by
 refine⟨λi m z H=>m=n-i/\i<=n/\G i z H,⟨n,by simp,Zq _,h0⟩,?_⟩;rintro i m z H ⟨rfl,hi,p⟩
 by_cases J:i<n
 .refine .inr ⟨J,G (i+1),fun σ' H' p'=>⟨n-(i+1),by lia,rfl,J,p'⟩,λx H' zq=>?_⟩;obtain⟨e,y⟩:=zq;subst e y;exact hs i z _ J p
 .obtain rfl:i=n:=by lia
  exact .inl ⟨Y5 _,hd z H p⟩
end L2
namespace MF
open L2
variable{α:Type}{i n k:Nat}{h:Int}{ws:List Bool}{p:yQ}{H:Hp}{xs:List V}
def _root_.L2.walk_enum{P:yO}{w:yK}{K:Fgx}{S:Bq P w K}{a:yQ}{xs:List V}{cap:List (Option Nat)}{g:TG}{O:TT}{J:TE}{G:L2.St}{Q:List V->Hp->Prop}{H:Hp}(z:Nat->List V->Hp->Prop)(hn:xs.length<=100000)(h0:z 0 [] H)(hz:∀i zs H,z i zs H->zs.length<=i)
  (I:∀i zs H,z i zs H->S.Sq H a xs)
  (hs:∀i x zs H T,xs[i]? =some x->z i zs H->H T=none->g (.ref T) (AO cap G) (upd H T (.tup [.int i,x])) fun D H2=>Keep (AO cap G) D/\O D H2 λb L=>br b (J D L λy Z=>z (i+1) (zs++[y]) Z) (z (i+1) zs L))
  (hd:∀zs H,z xs.length zs H->Q zs H):ER (ET S a) cap g O J G Q H:=
 Fu xs.length z hn h0 hz (λi zs H hi p=>by
  have q:=I i zs H p;refine⟨⟨xs,xs[i],q,by simp[hi]⟩,λv H' zq=>?_⟩;obtain⟨T,e,n,y⟩:=zq;subst e;rw[y xs xs[i] q (by simp[hi])];exact hs i xs[i] zs H T (by simp[hi]) p n)
  λzs H p=>⟨⟨xs,I _ zs H p,rfl⟩,hd zs H p⟩
def _root_.L2.for_enum{P:yO}{w:yK}{K:Fgx}{S:Bq P w K}{a:yQ}{xs:List V}{g:TG}{Z:TS}{D:Db}{z:L2.St}{H:Hp}(I:Nat->L2.St->Hp->Prop)(h0:I 0 z H)(hl:∀i z H,I i z H->S.Sq H a xs)
  (hs:∀i x z H T,xs[i]? =some x->I i z H->H T=none->g (.ref T) z (upd H T (.tup [.int i,x])) fun J L=>Z { D with nx:=I (i+1),ct:=I (i+1),bk:=D.nx} J L) (hd:∀z H,I xs.length z H->D.nx z H):
  ∃W:Nat->Nat->L2.St->Hp->Prop,(∃m,W 0 m z H)/\∀i m z H,W i m z H->
   ((ET S a).stop i H/\D.nx z H)\/((ET S a).go i H/\∃N:L2.St->Hp->Prop,(∀σ' H',N σ' H'->∃O,O<m/\W (i+1) O σ' H')/\∀x H',(ET S a).yld i H x H'->g x z H' fun J L=>Z { D with nx:=N,ct:=N,bk:=D.nx} J L):=by
 refine⟨λi m z H=>m=xs.length-i/\i<=xs.length/\I i z H,⟨xs.length,by simp,Zq _,h0⟩,?_⟩;rintro i m z H ⟨rfl,hi,p⟩;have q:=hl i z H p
 by_cases G:i<xs.length
 .refine .inr ⟨⟨xs,xs[i],q,by simp[G]⟩,I (i+1),fun σ' H' p'=>⟨xs.length-(i+1),by lia,rfl,G,p'⟩,λx H' zq=>?_⟩;obtain⟨T,e,n,y⟩:=zq;subst e;rw[y xs xs[i] q (by simp[G])];exact hs i xs[i] z H T (by simp[G]) p n
 .obtain rfl:i=xs.length:=by lia
  exact .inl ⟨⟨xs,q,rfl⟩,hd z H p⟩
structure PL where
 bs:List (Int×Int)
 es:List (Int×Int×Int)
 lo:Int
 hi:Int
 st:Int
abbrev bD(q:Int×Int):yP:= .tuple [.int q.1,.int q.2]
abbrev eD(q:Int×Int×Int):yP:= .tuple [.int q.1,.int q.2.1,.int q.2.2]
def PL.d(P:PL):yP:= .tuple [.tuple (P.bs.map bD),.tuple (P.es.map eD),.tuple [.int P.lo,.int P.hi,.int P.st]]
structure PL.ok(P:PL):Prop where
 b:∀q∈P.bs,1<=q.1/\q.1<=9/\1<=q.2/\q.2<=9
 b1:1<=P.bs.length
 b4:P.bs.length<=4
 e:∀q∈P.es,1<=q.1/\q.1<=9/\0<=q.2.1/\q.2.1<=7/\1<=q.2.2/\q.2.2<=8
 e4:P.es.length<=4
 lo0:0<=P.lo
 ls:P.lo<=P.st
 sh:P.st<=P.hi
 h4:P.hi<=40
structure FT where
 b:Int
 out:Bool
 f:Int
 l:Int
def wS(b:Bool):Str:=if b then"out" else"scaled"
abbrev wV(b:Bool):V:= .str (wS b)
abbrev FT.d(x:FT):yP:= .tuple [.int x.b,.str (wS x.out),.int x.f,.int x.l]
structure SY where
 ex:yV
 fs:List FT
def SY.d(S:SY):yP:= .tuple [.tuple (S.ex.map .int),.tuple (S.fs.map FT.d)]
structure FT.ok(x:FT)(n h:Nat):Prop where
 b0:0<=x.b
 bn:x.b<n
 f0:0<=x.f
 fl:x.f<=x.l
 lh:x.l<h
structure SY.ok(S:SY)(n:Nat):Prop where
 x1:1<=S.ex.length
 x8:S.ex.length<=8
 x:∀u∈S.ex,0<=u/\u<=20
 f4:S.fs.length<=4
 f:∀x∈S.fs,x.ok n S.ex.length
def Cg(ws:List Bool)(m:Int):Int:=if ws.any id then 0 else if ws.any (!·) then m / 2 else m
def Cw(b h:Int)(x:FT):Bool:=x.b==b && decide (x.f<=h) && decide (h<=x.l)
def BI(fs:List FT)(b h:Int):List Bool:=(fs.filter (Cw b h)).map FT.out
def Ba(bs:List (Int×Int))(fs:List FT)(h:Int):yV:=bs.zipIdx.map λq=>Cg (BI fs q.2 h) q.1.1
def caps(P:PL)(S:SY):yZ:=(List.range S.ex.length).map fun(h:Nat)=>Ba P.bs S.fs (h:Int)
def drawn(q:Int×Int×Int)(h:Int):Int:=if h<q.2.1\/(h-q.2.1) % q.2.2≠0 then 0 else q.1
def draws(P:PL)(S:SY):yV:=S.ex.zipIdx.map λq=>q.1+(P.es.map λe=>drawn e q.2).sum
abbrev AS(r:yV):yP:= .tuple (r.map .int)
def EU(P:PL)(S:SY):yP:= .tuple ((caps P S).map AS)
def SI(P:PL)(S:SY):yP:=AS (draws P S)
def ret(H:Hp)(Q:VK)(p:yQ)(d:yP):Prop:=∀v g,Ab H g->Aa p g d v->Q v g
def AY{l:List α}{x:α}(h:l[i]? =some x):l.take (i+1)=l.take i++[x]:=by rw[List.take_add_one,h];rfl
def KY{bs:List (Int×Int)}{fs:List FT}{q:Int×Int}(g:bs[i]? =some q):(Ba bs fs h)[i]? =some (Cg (BI fs i h) q.1):=by
 unfold Ba;rw[YU,List.getElem?_zipIdx,g];simp
def Ez{bs:List (Int×Int)}{fs:List FT}:(Ba bs fs h).length=bs.length:=by unfold Ba;simp
def Br{P:PL}{S:SY}(h:i<S.ex.length):(caps P S)[i]? =some (Ba P.bs S.fs i):=by
 unfold caps;rw[YU,ai h];rfl
def Bs{P:PL}{S:SY}:(caps P S).length=S.ex.length:=by unfold caps;simp
def SJ{P:PL}{S:SY}{u:Int}(g:S.ex[i]? =some u):(draws P S)[i]? =some (u+(P.es.map λe=>drawn e i).sum):=by
 unfold draws;rw[YU,List.getElem?_zipIdx,g];simp
def EA{P:PL}{S:SY}:(draws P S).length=S.ex.length:=by unfold draws;simp
def Ik:C1 (.str "out") (ws.map wV)=ws.any id:=by
 induction ws with
 |nil=>rfl
 |cons b ws ih=>
  unfold C1 at ih ⊢;rw[ZJ,bZ,ih,bZ];cases b<;>rfl
def KZ:C1 (.str "scaled") (ws.map wV)=ws.any (!·):=by
 induction ws with
 |nil=>rfl
 |cons b ws ih=>
  unfold C1 at ih ⊢;rw[ZJ,bZ,ih,bZ];cases b<;>rfl
def Il:(ws.map wV).all DD=true:=by
 rw[fk,Zx];intro b _
 rfl
def SK(b:Bool):C1 (wV b) [.str "out",.str "scaled"]=true:=by cases b<;>rfl
def NF{fs:List FT}{x:FT}{b:Int}(g:fs[i]? =some x):BI (fs.take (i+1)) b h=if Cw b h x then BI (fs.take i) b h++[x.out] else BI (fs.take i) b h:=by
 unfold BI;rw[AY g,fJ]
 by_cases c:Cw b h x=true
 .rw[Z1 c,eH c,YW];rfl
 .rw[YY c,eK c,List.filter_nil,aw]
def Ad.mapGot{f:α->yP}{l:List α}{x:V}(r:Ad p H (l.map f) xs)(h:xs[i]? =some x):∃a,l[i]? =some a/\Aa p H (f a) x:=by
 obtain⟨d,hd,rd⟩:=r.got h;rw[YU]at hd;cases z:l[i]? with
 |none=>rw[z]at hd;cases hd
 |some a=>rw[z]at hd;cases hd;exact⟨a,rfl,rd⟩
theorem Ad.ints:∀ {ns:yV}{xs:List V},Ad p H (ns.map .int) xs->xs=ns.map V.int
 |[],xs,r=>by unfold Ad at r;exact r
 |n::ns,xs,r=>by
  rw[ZJ]at r;unfold Ad at r;obtain⟨x,t,rfl,g,rt⟩:=r;unfold Aa at g;rw[g,Ad.ints rt];rfl
theorem Ad.ofInts:∀ {ns:yV},Ad p H (ns.map .int) (ns.map V.int)
 |[]=> .nil
 |n::ns=> .cons Aa.int Ad.ofInts
def Ad.snoc{ds:List yP}{d:yP}{x:V}(r:Ad p H ds xs)(h:Aa p H d x):Ad p H (ds++[d]) (xs++[x]):=r.append (.cons h .nil)
def Aa.row{a:yQ}{r:yV}(h:H a=some (.tup (r.map V.int))):Aa p H (AS r) (.ref a):=Aa.tup h Ad.ofInts
def Ab.own{H':Hp}{b:yQ}{o:HO}(s:Ab H H')(n:H b=none):Ab H (upd H' b o):=λx u q=>by rw[Aq (Bo q n)];exact s x u q
def Ad.four{a b c d:yP}(r:Ad p H [a,b,c,d] xs):∃x y z w,xs=[x,y,z,w]/\Aa p H a x/\Aa p H b y/\Aa p H c z/\Aa p H d w:=by
 unfold Ad at r;obtain⟨x,s,rfl,g,r⟩:=r;unfold Ad at r;obtain⟨y,s,rfl,G,r⟩:=r;unfold Ad at r;obtain⟨z,s,rfl,I,r⟩:=r;unfold Ad at r;obtain⟨w,s,rfl,D,r⟩:=r;unfold Ad at r;subst r;exact⟨x,y,z,w,rfl,g,G,I,D⟩
def SL{a b:V}(h:(!decide (a=b))=true):a≠b:=by simpa using h
structure EV(n k:Nat)(d:yP):Prop where
 w:D0 d<=n
 dp:d.depth<=k
 nd:d.hasDict=false
theorem NG:∀ {ds:List yP},(∀d∈ds,EV n k d)->Ey ds<=(n+2) * ds.length/\PyData.depthAll ds<=k/\PyData.hasDictAll ds=false
 |[],_=>⟨by unfold Ey;exact Zq _,by unfold PyData.depthAll;exact Zq _,rfl⟩
 |d::ds,h=>by
  obtain⟨a,b,c⟩:=NG λx g=>h x (Z3 _ g)
  have s:=h d Z9;refine⟨?_,?_,?_⟩
  .unfold Ey;rw[ZA,Nat.mul_add];have:=s.w;lia
  .unfold PyData.depthAll;exact Nat.max_le.mpr ⟨s.dp,b⟩
  .unfold PyData.hasDictAll;rw[s.nd,c];rfl
def NH{m:Nat}{ds:List yP}(h:∀d∈ds,EV n k d)(g:(n+2) * ds.length+4<=m):EV m (k+1) (.tuple ds):=by
 obtain⟨a,b,c⟩:=NG h;exact⟨by unfold D0;lia,by unfold PyData.depth;lia,by unfold PyData.hasDict;exact c⟩
def NI{i:Int}(h:i.natAbs<10 ^ 6):EV 40 0 (.int i):=by
 refine⟨?_,Y5 0,rfl⟩;unfold D0;rw[Z1 (bv h (by decide))];exact Y5 _
def SM{ws:List Bool}{m:Int}(h0:0<=m)(g:m<=9):0<=Cg ws m/\Cg ws m<=m:=by
 unfold Cg;split
 .lia
 .split
  .lia
  .lia
def B7{P:PL}{S:SY}(ok:P.ok):∀r∈caps P S,(∀i∈r,0<=i/\i<=9)/\r.length=P.bs.length:=λr g=>by
 unfold caps at g;obtain⟨h,_,rfl⟩:=Zg.mp g;refine⟨λi hi=>?_,Ez⟩;unfold Ba at hi;obtain⟨q,D,rfl⟩:=Zg.mp hi;obtain⟨b1,z,_⟩:=ok.b q.1 (dG D);have:=SM (ws:=BI S.fs q.2 h) (m:=q.1.1) (by lia) z;lia
def SN{q:Int×Int×Int}(g:1<=q.1)(z:q.1<=9):0<=drawn q h/\drawn q h<=9:=by
 unfold drawn;split<;>lia
def NJ{l:yV}(h:∀i∈l,0<=i/\i<=9):0<=l.sum/\l.sum<=9 * l.length:=by
 induction l with
 |nil=>exact⟨ZP _,ZP _⟩
 |cons a l ih=>
  have:=h a Z9;have:=ih λi hi=>h i (Z3 _ hi)
  rw[bP,ZA];lia
def NK{P:PL}{S:SY}(ok:P.ok){n:Nat}(so:S.ok n):∀i∈draws P S,0<=i/\i<=56:=λi hi=>by
 unfold draws at hi;obtain⟨q,z,rfl⟩:=Zg.mp hi;have a:=so.x q.1 (dG z);have b:=NJ (l:=P.es.map λe=>drawn e q.2) λi hi=>by
  obtain⟨e,g,rfl⟩:=Zg.mp hi;obtain⟨D,G,_⟩:=ok.e e g;exact SN D G
 rw[Y0]at b;have:=ok.e4;lia
def K0{l:yV}(h:i<l.length):l[i]? =some (l.getD i 0):=by rw[Y7,Y6 h];rfl
def SO{m:Int}(c:ws.any id=false):m /(1+if ws.any (!·)=true then 1 else 0)=Cg ws m:=by
 unfold Cg;rw[c,YY (by decide:¬(false=true))];cases ws.any (!·) with
 |true=>rfl
 |false=>exact Int.ediv_one _
end MF
namespace L2
variable{X:Cx}
inductive SQ(g:List V)(H:Hp)(Q:VK):Prop
 |mk(p:yQ)(ns:yV)(_:g=[.ref p])(_:(H p=some (.lst (ns.map V.int))\/H p=some (.tup (ns.map V.int))))(_:Q (.int ns.sum) H)
def EW(hc:X.calm=true):BF X (.builtin "sum") SQ:=by
 intro ad s σ H g us Q I r h;obtain⟨p,ns,rfl,D,q⟩:=h;rcases D with D | D
 .exact KW hc ad s σ H _ us Q I r ⟨p,ns,rfl,D,q⟩
 obtain⟨u,rfl,ru⟩:=r.one;cases ru;obtain⟨O,rv,pl,hz⟩:=I.tuple (Ae.of D);have hi:=KU rv;obtain⟨g,hx⟩:=AllInts.items hi.allInts;have e1:ns=g.toList.map (λx=>x.fst):=by rw[<-nums_intItems,<-hx,List.toList_toArray,hi.numsOf]
 have e2:preSum (numAt g) g.size=ns.sum:=by
  rw[preSum_eq,Z0 (by simp),<-e1]
 have J:s.heap.IsTuple p (intItems g):=hx ▸(show s.heap.IsTuple p O.toArray from pl);refine call_sum_walkG (ac J ?_);have G:p<s.heap.objs.size:=by
  obtain⟨o,L,_⟩:=id J;exact Y9 L
 refine⟨s.heap.objs.size,_,_,_,_,_,numAt g,rfl,Walks.tuple (A:=X.A.in1) (I.ok.hd hc) s.heap.objs.size p (Zc G) (intItems g),⟨⟨_,YV _ rfl,rfl,rfl⟩,?_⟩,λb hb=>?_,λi v hv=>intItems_at hv,λh' tk t' hk=>?_⟩
 .obtain⟨o,L,Z⟩:=id J;exact⟨o,Y2 _ L,Z⟩
 .have:b=s.heap.objs.size\/b=p:=by simpa using hb
  rw[show(s.heap.push _).objs.size=s.heap.objs.size+1 from Array.size_push _];rcases this with rfl | rfl
  .exact bg _
  .exact ZX G
 .have e3:(intItems g).size=g.size:=Array.size_map;rw[e3,e2];refine⟨.int ns.sum,H,I.kept λb o eb=>hk b o ?_ (Y2 _ eb),⟨t',rfl⟩,q⟩;intro z;have z':b=s.heap.objs.size:=by simpa using z
  exact absurd (Y9 eb) (by rw[z'];exact Z8 _)
end L2
namespace MF
open L2
section
variable{H H':Hp}{P:PL}{S:SY}{p:yQ}{F:yZ}{v u:V}{i k:Nat}
def _root_.L2.walk_zip{P:yO}{w:yK}{K:Fgx}{S1 L:Bq P w K}{a b:yQ}{xs ys:List V}{cap:List (Option Nat)}{g:TG}{tt:TT}{te:TE}{G:L2.St}{Q:List V->Hp->Prop}{H:Hp}(z:Nat->List V->Hp->Prop)(hn:xs.length<=100000)(he:xs.length=ys.length)(h0:z 0 [] H)(hz:∀i zs H,z i zs H->zs.length<=i)
  (I:∀i zs H,z i zs H->S1.Sq H a xs/\L.Sq H b ys)
  (hs:∀i x y zs H T,xs[i]? =some x->ys[i]? =some y->z i zs H->H T=none->g (.ref T) (AO cap G) (upd H T (.tup [x,y])) fun D H2=>Keep (AO cap G) D/\tt D H2 λb H3=>br b (te D H3 λy H4=>z (i+1) (zs++[y]) H4) (z (i+1) zs H3))
  (hd:∀zs H,z xs.length zs H->Q zs H):ER (Ih S1 L a b) cap g tt te G Q H:=
 Fu xs.length z hn h0 hz (λi zs H hi p=>by
  obtain⟨Z,O⟩:=I i zs H p;have J:i<ys.length:=by lia
  refine⟨⟨xs,ys,xs[i],ys[i],Z,O,by simp[hi],by simp[J]⟩,λv H' zq=>?_⟩;obtain⟨T,e,n,y⟩:=zq;subst e;rw[y xs ys xs[i] ys[i] Z O (by simp[hi]) (by simp[J])];exact hs i xs[i] ys[i] zs H T (by simp[hi]) (by simp[J]) p n)
  λzs H p=>⟨⟨xs,ys,(I _ zs H p).1,(I _ zs H p).2,rfl⟩,hd zs H p⟩
def Ab.evOwn{g:Hp}{R:yQ}(s:Ab H g)(n:H R=none)(e:Ev R g H'):Ab H H':=λb o q=>(e b o (s b o q)).elim (λD=>by obtain⟨z,_⟩:=D;rw[z,n]at q;cases q) id
def FD(F:yZ):yP:= .tuple (F.map AS)
structure FOk(P:PL)(S:SY)(F:yZ):Prop where
 len:F.length=S.ex.length
 row:∀(i:Nat) (r:yV),F[i]? =some r->r.length=P.bs.length
 bd:∀(i:Nat) (r:yV) (j:Nat) (x c:Int),F[i]? =some r->r[j]? =some x->(Ba P.bs S.fs i)[j]? =some c->0<=x/\x<=c
theorem FOk.caps(ok:P.ok):FOk P S (caps P S):=by
 refine⟨Bs,λi r g=>?_,λi r j x c g z D=>?_⟩
 .exact(B7 ok r (Y8 g)).2
 .have hi:i<S.ex.length:=by
   have:=(Y3.mp g).1;rw[Bs]at this;exact this
  rw[Br hi]at g;cases g;rw[z]at D;cases D;have:=(B7 (S:=S) ok _ (Y8 (Br hi))).1 x (Y8 z);lia
structure Tri(p:yQ)(H:Hp)(P:PL)(S:SY)(F:yZ)(v u w:V):Prop where
 ok:P.ok
 so:S.ok P.bs.length
 fo:FOk P S F
 r:Aa p H P.d v
 ru:Aa p H S.d u
 rw:Aa p H (FD F) w
def Tri.ev{w:V}(t:Tri p H P S F v u w)(e:Ev p H H'):Tri p H' P S F v u w:=⟨t.ok,t.so,t.fo,Aa.ev e _ _ t.r,Aa.ev e _ _ t.ru,Aa.ev e _ _ t.rw⟩
def Tri.sm{w:V}(t:Tri p H P S F v u w)(e:Ab H H'):Tri p H' P S F v u w:=t.ev (Ev.same e)
def made(F:yZ)(i:Nat):Int:=(F.getD i []).sum
def D5(P:PL)(S:SY)(i:Nat):Int:=(draws P S).getD i 0
def EX(hi m:Int):Int:=if 0>m-hi then 0 else m-hi
def A5(P:PL)(S:SY)(F:yZ):Nat->Int
 |0=>P.st
 |i+1=>A5 P S F i+(made F i-D5 P S i)-EX P.hi (A5 P S F i+(made F i-D5 P S i))
def Ch(P:PL)(S:SY)(F:yZ)(i:Nat):Int:=A5 P S F i+(made F i-D5 P S i)
def K1:A5 P S F (i+1)=Ch P S F i-EX P.hi (Ch P S F i):=rfl
def GC(P:PL)(S:SY)(F:yZ)(i:Nat):yP:= .tuple [.int (made F i),.int (D5 P S i),.int (EX P.hi (Ch P S F i)),.int (A5 P S F (i+1))]
def Dj(P:PL)(S:SY)(F:yZ)(k:Nat):List yP:=(List.range k).map (GC P S F)
def SR:Dj P S F (k+1)=Dj P S F k++[GC P S F k]:=by unfold Dj;rw[bp,YW];rfl
def K2:(Dj P S F k).length=k:=by unfold Dj;simp
def GE:Option (Int×Int)->yP
 |none=> .none
 |some q=> .tuple [.int q.1,.int q.2]
structure Run(P:PL)(S:SY)(F:yZ)(k:Nat)(s:Option (Int×Int)):Prop where
 le:k<=S.ex.length
 up:∀i,i<k->P.lo<=Ch P S F i
 fin:(s=none/\k=S.ex.length)\/(k<S.ex.length/\Ch P S F k<P.lo/\s=some ((k:Int),P.lo-Ch P S F k))
def Run.uniq{g:Nat}{s s':Option (Int×Int)}(h:Run P S F k s)(h':Run P S F g s'):k=g/\s=s':=by
 have e:k=g:=by
  rcases Nat.lt_trichotomy k g with c | c | c
  .have:=h'.up k c;rcases h.fin with⟨_,z⟩ | ⟨_,z,_⟩
   .have:=h'.le;lia
   .lia
  .exact c
  .have:=h.up g c;rcases h'.fin with⟨_,z⟩ | ⟨_,z,_⟩
   .have:=h.le;lia
   .lia
 subst e;refine⟨rfl,?_⟩;rcases h.fin with⟨a,b⟩ | ⟨a,b,c⟩<;>rcases h'.fin with⟨a',b'⟩ | ⟨a',b',c'⟩
 .rw[a,a']
 .lia
 .lia
 .rw[c,c']
def NL{r:yV}(h:F[i]? =some r):made F i=r.sum:=by unfold made;rw[Y7,h];rfl
def NM{d:Int}(h:(draws P S)[i]? =some d):D5 P S i=d:=by unfold D5;rw[Y7,h];rfl
end
variable{P:PL}{S:SY}{F:yZ}
def FOk.bd9(ok:P.ok)(fo:FOk P S F):∀r∈F,(∀x∈r,0<=x/\x<=9)/\r.length=P.bs.length:=λr G=>by
 obtain⟨i,hi,e⟩:=cR.mp G;have z:F[i]? =some r:=by rw[Y6 hi,e]
 have I:=fo.row i r z;refine⟨λx Z=>?_,I⟩;obtain⟨j,J,L⟩:=cR.mp Z;have hR:r[j]? =some x:=by rw[Y6 J,L]
 have D:j<(Ba P.bs S.fs i).length:=by rw[Ez];lia
 have O:=Y6 D;have:=fo.bd i r j x _ z hR O;have g:i<S.ex.length:=by have:=fo.len;lia
 have b:=(B7 (S:=S) ok _ (Y8 (Br g))).1 _ (bJ D);lia
def NN{P:PL}{S:SY}{F:yZ}(ok:P.ok)(fo:FOk P S F){i:Nat}(hi:i<S.ex.length):0<=made F i/\made F i<=36:=by
 have g:i<F.length:=by have:=fo.len;lia
 have z:F[i]? =some F[i]:=Y6 g;obtain⟨a,b⟩:=FOk.bd9 ok fo _ (Y8 z);rw[NL z];have:=NJ a;have:=ok.b4;lia
def NO{P:PL}{S:SY}(ok:P.ok){n:Nat}(so:S.ok n){i:Nat}(hi:i<S.ex.length):0<=D5 P S i/\D5 P S i<=56:=by
 have g:(draws P S)[i]? =some ((draws P S).getD i 0):=K0 (by rw[EA];exact hi);rw[NM g];exact NK ok so _ (Y8 g)
theorem GF{P:PL}{S:SY}{F:yZ}(ok:P.ok):∀ {k:Nat},(∀i,i<k->P.lo<=Ch P S F i)->P.lo<=A5 P S F k/\A5 P S F k<=P.hi
 |0,_=>⟨ok.ls,ok.sh⟩
 |k+1,up=>by
  have h:=up k (by lia);have g:=ok.ls;have z:=ok.sh;rw[K1];unfold EX;split<;>lia
def small_row4(ok:P.ok){n:Nat}(so:S.ok n)(fo:FOk P S F){k i:Nat}(z:k<=S.ex.length)(up:∀i,i<k->P.lo<=Ch P S F i)(hi:i<k):EV 200 1 (GC P S F i):=by
 have D:=GF ok (k:=i) λj g=>up j (by lia)
 have J:=GF ok (k:=i+1) λj g=>up j (by lia)
 have a:=NN ok fo (i:=i) (by lia);have d:=NO ok so (i:=i) (by lia);have h0:=ok.lo0;have h4:=ok.h4;have G:=up i hi;have I:0<=EX P.hi (Ch P S F i)/\EX P.hi (Ch P S F i)<=100:=by
  unfold EX Ch;split<;>lia
 exact NH (n:=40) (k:=0) (λd hd=>by
  simp only[Z4,Zk,Zs]at hd;rcases hd with rfl | rfl | rfl | rfl<;>exact NI (by lia)) (by simp)
def SS(ok:P.ok){n:Nat}(so:S.ok n)(fo:FOk P S F){k:Nat}{s:Option (Int×Int)}(run:Run P S F k s):EV 200 1 (GE s):=by
 rcases run.fin with⟨e,_⟩ | ⟨hk,hlt,e⟩
 .subst e;exact⟨by unfold GE D0;decide,Zq _,rfl⟩
 .subst e;have g:=GF ok run.up;have a:=NN ok fo hk;have d:=NO ok so hk;have h0:=ok.lo0;have h4:=ok.h4;have D:=ok.ls;have G:=ok.sh;have x8:=so.x8;have z:Ch P S F k=A5 P S F k+(made F k-D5 P S k):=rfl;unfold GE;exact NH (n:=40) (k:=0) (λd hd=>by
   simp only[Z4,Zk,Zs]at hd;rcases hd with rfl | rfl<;>exact NI (by lia)) (by simp)
end MF
namespace L2
section
variable{sc:Scope}
variable{X:Cx}
def Im(g:Scope)(x:Str):Bool:=match g.names.lookup x with | some .local =>true | some .cell=>true | some .free=>true | _=>false
def Io(g:Scope)(x:Str):Bool:=match g.names.lookup x with | some .local =>true | some .cell=>true | _=>false
def Ip(g:Scope)(x:Str):Bool:=match g.names.lookup x with | some .local =>true | _=>false
def ST{x:Str}(h:Im sc x=true):Ej sc x:=by
 unfold Im at h;split at h
 .exact .inl (by assumption)
 .exact .inr (.inl (by assumption))
 .exact .inr (.inr (by assumption))
 .cases h
def AC{x:Str}(h:Io sc x=true):Ek sc x:=by
 unfold Io at h;split at h
 .exact .inl (by assumption)
 .exact .inr (by assumption)
 .cases h
def zB{X:Cx}{pos:Pos}(i:Nat){x:Str}{e:yJ}{z:TE}{g:Pos}(hN:X.N.Nodup)(he:PE X e z)(h9:autoParam (X.N[i]? =some x) m5)(h8:autoParam (Io X.env.scope x=true) m5)(L:autoParam (swapsWith e (some (.Name x g)) pos.line X.env=pure false) m5)(G:autoParam (X.fn x=true\/X.env.scope.names.lookup x=some .local) F'):
  PS X (.Assign [.Name x g] e pos) (Mv z (DS i)):=AE hN h9 (AC h8) he L G
def AA{l:List Str}(h:decide l.Nodup=true):l.Nodup:=Z7 h
def zD{X:Cx}{pos:Pos}(i:Nat){x:Str}{e:yJ}{z:TE}{g:Pos}(he:PE X e z)(h7:autoParam (decide X.N.Nodup=true) m5)(h9:autoParam (X.N[i]? =some x) m5)(h8:autoParam (Io X.env.scope x=true) m5)(L:autoParam (swapsWith e (some (.Name x g)) pos.line X.env=pure false) m5)(G:autoParam (X.fn x=true\/X.env.scope.names.lookup x=some .local) F'):
  PS X (.Assign [.Name x g] e pos) (Mv z (DS i)):=AE (AA h7) h9 (AC h8) he L G
def DF{f:Bool}{x:Str}(h:(f || Ip sc x)=true):f=true\/sc.names.lookup x=some .local :=by
 rcases Bool.or_eq_true_iff.mp h with h | h
 .exact .inl h
 .unfold Ip at h;split at h
  .exact .inr (by assumption)
  .cases h
def cw(i:Nat){x:Str}{g:Pos}(D:X.N[i]? =some x)(z:Im X.env.scope x=true)(hd:(x==("__debug__" :Str) || x==("__classdict__" :Str))=false):PE X (.Name x g) (Es i):=
 cv i D (ST z) (cU.mp hd).1 (cU.mp hd).2
def SU{x:Str}{g:Pos}(i:Nat)(G:X.N.Nodup)(hi:X.N[i]? =some x)(z:Io X.env.scope x=true)(D:(X.fn x || Ip X.env.scope x)=true):PG X (.Name x g) (DS i):=Qk G hi (AC z) (DF D)
def K3(X:Cx)(i:Nat)(x:Str):Bool:=X.N[i]? ==some x &&(Im X.env.scope x && !(x==("__debug__" :Str) || x==("__classdict__" :Str)))
def cx(i:Nat){x:Str}{g:Pos}(h:K3 X i x=true):PE X (.Name x g) (Es i):=by
 obtain⟨D,z⟩:=Z6.mp h;obtain⟨z,G⟩:=Z6.mp z;exact cw i (ao D) z (by simpa using G)
def NP(X:Cx)(i:Nat)(x:Str):Bool:=X.N[i]? ==some x &&(Io X.env.scope x &&(X.fn x || Ip X.env.scope x))
def Fz{x:Str}{g:Pos}(i:Nat)(I:X.N.Nodup)(h:NP X i x=true):PG X (.Name x g) (DS i):=by
 obtain⟨D,z⟩:=Z6.mp h;obtain⟨z,G⟩:=Z6.mp z;exact SU i I (ao D) z G
def nS:yJ->Bool | .Starred _ _=>false | _=>true
def Iq{e:yJ}{es:List yJ}{env:Env}(h:nS e=true):starEach (e::es) env=(false,eval e env)::starEach es env:=by
 cases e<;>first | rfl | exact absurd h YZ
variable{e1 e2 e3 e4:yJ}{t1 t2 t3 t4:TE}
def Cy(g:PE X e1 t1)(z:nS e1=true):PA X [e1] (Bp t1 CF):=Bi g CS (Iq z)
def FB(z:PE X e1 t1)(D:PE X e2 t2)(g:(nS e1 && nS e2)=true):PA X [e1,e2] (Bp t1 (Bp t2 CF)):=Bi z (Cy D (Z6.mp g).2) (Iq (Z6.mp g).1)
def FC(z:PE X e1 t1)(G:PE X e2 t2)(D:PE X e3 t3)(g:(nS e1 &&(nS e2 && nS e3))=true):PA X [e1,e2,e3] (Bp t1 (Bp t2 (Bp t3 CF))):=Bi z (FB G D (Z6.mp g).2) (Iq (Z6.mp g).1)
def EY(z:PE X e1 t1)(G:PE X e2 t2)(D:PE X e3 t3)(h4:PE X e4 t4)(g:(nS e1 &&(nS e2 &&(nS e3 && nS e4)))=true):PA X [e1,e2,e3,e4] (Bp t1 (Bp t2 (Bp t3 (Bp t4 CF)))):=Bi z (FC G D h4 (Z6.mp g).2) (Iq (Z6.mp g).1)
end
variable{X:Cx}
def cy(i:Nat){x:Str}{g:Pos}(h:autoParam (K3 X i x=true) m5):PE X (.Name x g) (Es i):=cx i h
def Af{x:Str}{g:Pos}(i:Nat)(z:X.N.Nodup)(h:autoParam (NP X i x=true) m5):PG X (.Name x g) (DS i):=Fz i z h
def zC{x:Str}{g:Pos}(i:Nat)(h9:autoParam (decide X.N.Nodup=true) m5)(h:autoParam (NP X i x=true) m5):PG X (.Name x g) (DS i):=Af i (AA h9) h
variable{e1 e2 e3 e4:yJ}{t1 t2 t3 t4:TE}
def Ah(g:PE X e1 t1)(z:autoParam (nS e1=true) m5):PA X [e1] (Bp t1 CF):=Cy g z
def Ar(g:PE X e1 t1)(z:PE X e2 t2)(D:autoParam ((nS e1 && nS e2)=true) m5):PA X [e1,e2] (Bp t1 (Bp t2 CF)):=FB g z D
def AH(g:PE X e1 t1)(D:PE X e2 t2)(z:PE X e3 t3)(G:autoParam ((nS e1 &&(nS e2 && nS e3))=true) m5):PA X [e1,e2,e3] (Bp t1 (Bp t2 (Bp t3 CF))):=FC g D z G
def C6(g:PE X e1 t1)(D:PE X e2 t2)(z:PE X e3 t3)(h4:PE X e4 t4)(G:autoParam ((nS e1 &&(nS e2 &&(nS e3 && nS e4)))=true) m5):PA X [e1,e2,e3,e4] (Bp t1 (Bp t2 (Bp t3 (Bp t4 CF)))):=EY g D z h4 G
end L2
namespace L2
abbrev EB(O D J:yJ)(g:List yJ)(I L:yJ)(z:List yJ)(scope:Scope)(G:Pos):yJ:= .ListComp O [⟨D,J,g,0⟩,⟨I,L,z,0⟩] scope G
section
variable{prog:yO}{w:yK}{A:yL}{R:Result -> yR -> Prop}{s:yR}{gi tg1 it1 tg2 it2:yJ}{ifs1 ifs2:List yJ}{scope:Scope}{pos:Pos}{it gh:yU}{env:Env}
def SV(h0:codeAny (model prog w) A (.compLoop (EB gi tg1 it1 ifs1 tg2 it2 ifs2 scope pos) 1 it gh env) R s)
  (h:wpAny (model prog w) A (pyIter it) (λg s'=>codeAny (model prog w) A (.compLoop (EB gi tg1 it1 ifs1 tg2 it2 ifs2 scope pos) 1 g gh env) R s') (notedBy (model prog w) A env λx s'=>R (.error x) s') s):
  codeAny (model prog w) A (.compStart (EB gi tg1 it1 ifs1 tg2 it2 ifs2 scope pos) 1 it gh env) R s:=by
 refine codeAny_of_tree (id (wpAny_notedAt (id (id (Y1 (wpAny_askSetting (wpAny_ite ?_)))))));split
 .exact Y1 (Y4 (Y4 ⟨rfl,h0⟩))
 .exact Y1 (bS (Y1 (ag (Y1 (Zf h (λg s' D=>Y4 ⟨rfl,D⟩) λ_ _ z=>z)))))
end
def Ir(Z:TI)(g2:TG)(L:TT)(te:TE):St->List V->Hp->(List V->Hp->Prop)->Prop:=fun I ys H N=>Z I H λJ H1=>
 ∃W:Nat->Nat->List V->Hp->Prop,(∃m,W 0 m ys H1)/\∀j m z H,W j m z H->
  (J.stop j H/\N z H)\/
  (J.go j H /\ z.length < sizeLine /\ ∃ O : List V -> Hp -> Prop, (∀ G D, O G D -> ∃ m', m' < m /\ W (j + 1) m' G D) /\ ∀ x D, J.yld j H x D -> g2 x I D fun g H2 => Keep I g /\ L g H2 λb H3 =>
   br b (te g H3 λy H4=>O (z++[y]) H4) (O z H3))
def K4(wi:TI)(cap:List (Option Nat))(g:TG)(tt:TT)(Z:TI)(g2:TG)(O:TT)(te:TE):St->Hp->(List V->Hp->Prop)->Prop:=fun L H Q=>wi L H λJ H1=>
 ∃W:Nat->Nat->List V->Hp->Prop,(∃m,W 0 m [] H1)/\∀i m I H,W i m I H->
  (J.stop i H/\Q I H)\/
  (J.go i H /\ ∃ N : List V -> Hp -> Prop, (∀ G D, N G D -> ∃ m', m' < m /\ W (i + 1) m' G D) /\ ∀ x D, J.yld i H x D -> g x (AO cap L) D fun z H2 => Keep (AO cap L) z /\ tt z H2 λb H3 =>
   br b (Ir Z g2 O te z I H3 N) (N I H3))
def NQ{X:Cx}{tg G L D gi:yJ}{O J:List yJ}{scope:Scope}{Z i5:Pos}{wi i4:TI}{g g2:TG}{tt i0:TT}{te:TE}{N':List Str}{cap:List (Option Nat)}{use:Option (yU->Sem Unit)}{Q':VSP}
  {ad:PNs}{s:yR}{σ:St}{H:Hp}{Q:List V->Hp->Prop}
  (hc:X.calm=true) (hi:PI X tg G wi) (B:AB X.env.scope X.N scope N' cap) (hg:∀s H ex C,PG (AQ X N' scope s H ex C) tg g) (ht:∀s H ex C,Cc (AQ X N' scope s H ex C) O tt)
  (i9:∀s H ex C,PI (AQ X N' scope s H ex C) L D i4) (i7:∀s H ex C,PG (AQ X N' scope s H ex C) L g2) (i6:∀s H ex C,Cc (AQ X N' scope s H ex C) J i0) (he:∀s H ex C,PE (AQ X N' scope s H ex C) gi te)
  (hs:∀x,foldedSetIterable G X.env x=pure x) (i8:∀env x,foldedSetIterable D env x=pure x) (I:Ac X ad σ H s) (h:K4 wi cap g tt i4 g2 i0 te σ H Q)
  (fin:∀(gh C:yQ) (H:Hp) (ys:List V) (s':yR),H gh=none->Ac X ad σ (upd H gh (.lst ys)) s'->HU X ad C (upd H gh (.lst ys)) s'->Q ys H->compPost (model X.prog X.w) X.A X.xe use Q' (.ref gh) C (.ok .next) s'):
  wpAny (model X.prog X.w) X.A (comprehension (EB gi tg G O L D J scope Z) scope X.env i5 (newList []) false (eval G X.env) use) Q' X.xe s:=
 No RS (body:=λgg gh env=>KP (EB gi tg G O L D J scope Z) 0 D gg gh env) (Bt:=Nn Nk i4 g2 i0 (KQ te)) (Cd:=λ_=>True) hc hi B hg ht (λ_ _ _=>rfl)
  (λs H ex C a A=>RT (body:=λgg=>HV (EB gi tg G O L D J scope Z) 1 gi gg (.ref a) _) A rfl (i8 _) (λ_=>rfl) SV (i9 s H ex C) (i7 s H ex C) (i6 s H ex C) (Nm A rfl (he s H ex C)) λ_ _ z=>z) (λ_ _ z=>⟨trivial,z⟩) hs I h fin
def SW(J:TI)(cap:List (Option Nat))(g:TG)(L:TT)(D:TI)(g2:TG)(z:TT)(O:TE):TE:=fun Z H Q=>K4 J cap g L D g2 z O Z H λI G=>∀p,G p=none->Q (.ref p) (upd G p (.lst I))
def SX{X:Cx}{tg D J z gi:yJ}{O G:List yJ}{scope:Scope}{i7:Pos}{wi i0:TI}{g g2:TG}{tt Z:TT}{te:TE}(N':List Str)(cap:List (Option Nat))
  (hc:X.calm=true) (hi:PI X tg D wi) (B:AB X.env.scope X.N scope N' cap) (hg:∀s H ex C,PG (AQ X N' scope s H ex C) tg g) (ht:∀s H ex C,Cc (AQ X N' scope s H ex C) O tt)
  (i8:∀s H ex C,PI (AQ X N' scope s H ex C) J z i0) (i5:∀s H ex C,PG (AQ X N' scope s H ex C) J g2) (i4:∀s H ex C,Cc (AQ X N' scope s H ex C) G Z) (he:∀s H ex C,PE (AQ X N' scope s H ex C) gi te)
  (hs:autoParam (∀x,foldedSetIterable D X.env x=pure x) W0) (i6:autoParam (∀env x,foldedSetIterable z env x=pure x) K'):PE X (.ListComp gi [⟨tg,D,O,0⟩,⟨J,z,G,0⟩] scope i7) (SW wi cap g tt i0 g2 Z te):=by
 intro ad s σ H Q I h;rw[eval_ListComp];refine NQ (use:=none) hc hi B hg ht i8 i5 i4 he hs i6 I h λgh C H ys s' hn I' L q=>?_
 obtain⟨m,hm⟩:=L.ns;refine⟨m,hm,λh' i9=>⟨.ref gh,_,I'.turned (t':=s'.toks) (it:=C) (λb o hb e=>i9.extBut b o hb e) L.free L.loc (.inr L.sz) L.cell L.pin,rfl,q gh hn⟩⟩
def NR(J:It)(g2:TG)(I:TT)(te:TE)(O:St)(ys:List V)(N:List V->Hp->Prop)(H1:Hp):Prop:=
 ∃W:Nat->Nat->List V->Hp->Prop,(∃m,W 0 m ys H1)/\∀j m z H,W j m z H->
  (J.stop j H/\N z H)\/
  (J.go j H /\ z.length < sizeLine /\ ∃ L : List V -> Hp -> Prop, (∀ G D, L G D -> ∃ m', m' < m /\ W (j + 1) m' G D) /\ ∀ x D, J.yld j H x D -> g2 x O D fun g H2 => Keep O g /\ I g H2 λb Z =>
   br b (te g Z λy H4=>L (z++[y]) H4) (L z Z))
def SZ{P:yO}{w:yK}{K:Fgx}{S:Bq P w K}{a:yQ}{xs:List V}{g:TG}{O:TT}{J:TE}{I:St}{ys:List V}{Q:List V->Hp->Prop}{H:Hp}(z:Nat->List V->Hp->Prop)(h0:z 0 ys H)(hz:∀i zs H,z i zs H->zs.length<100000)
  (hl:∀i zs H,z i zs H->S.Sq H a xs)
  (hs:∀i x zs H T,xs[i]? =some x->z i zs H->H T=none->g (.ref T) I (upd H T (.tup [.int i,x])) fun G H2=>Keep I G/\O G H2 λb L=>br b (J G L λy Z=>z (i+1) (zs++[y]) Z) (z (i+1) zs L))
  (hd:∀zs H,z xs.length zs H->Q zs H):NR (ET S a) g O J I ys Q H:=by
 refine⟨λi m zs H=>m=xs.length-i/\i<=xs.length/\z i zs H,⟨xs.length,by simp,Zq _,h0⟩,?_⟩;rintro i m zs H ⟨rfl,hi,p⟩;have q:=hl i zs H p
 by_cases D:i<xs.length
 .refine .inr ⟨⟨xs,xs[i],q,by simp[D]⟩,bv (hz i zs H p) (by decide),z (i+1),λi0 H' p'=>⟨xs.length-(i+1),by lia,rfl,D,p'⟩,λv H' zq=>?_⟩;obtain⟨T,e,n,y⟩:=zq;subst e;rw[y xs xs[i] q (by simp[D])];exact hs i xs[i] zs H T (by simp[D]) p n
 .obtain rfl:i=xs.length:=by lia
  exact .inl ⟨⟨xs,q,rfl⟩,hd zs H p⟩
def S6(J:It)(cap:List (Option Nat))(g:TG)(tt:TT)(O:TI)(g2:TG)(L:TT)(te:TE)(Z:St)(Q:List V->Hp->Prop)(H1:Hp):Prop:=
 ∃W:Nat->Nat->List V->Hp->Prop,(∃m,W 0 m [] H1)/\∀i m I H,W i m I H->
  (J.stop i H/\Q I H)\/
  (J.go i H /\ ∃ N : List V -> Hp -> Prop, (∀ G D, N G D -> ∃ m', m' < m /\ W (i + 1) m' G D) /\ ∀ x D, J.yld i H x D -> g x (AO cap Z) D fun z H2 => Keep (AO cap Z) z /\ tt z H2 λb H3 =>
   br b (Ir O g2 L te z I H3 N) (N I H3))
end L2
namespace MF
open L2
def Ct(P:PL)(F:yZ):yV:=(List.range P.bs.length).map λb=>(F.map λr=>r.getD b 0).sum
def coal(P:PL)(F:yZ):Int:=(((Ct P F).zip P.bs).map λq=>q.1 * q.2.2).sum
def S8(h:Nat)(r:yV):List (Int×Int):=(r.zipIdx.filter λq=>q.1==0).map λq=>((h:Int),(q.2:Int))
def bank(F:yZ):List (Int×Int):=(F.zipIdx.map λq=>S8 q.2 q.1).flatten
abbrev Lt(d:yP):List Nat:=d.shown.cps.toList
def tail(c:Nat):List yP->List Nat
 |[]=>[c]
 |d::ds=>44::32::(Lt d++tail c ds)
end MF
namespace L2
variable{n:Nat}{g g2:TG}{tt tt2:TT}{te:TE}{σ:St}{Q:List V -> Hp -> Prop}{H:Hp}{wi2:TI}
def S9{lo:Int}{ys:List V}(z:Nat->List V->Hp->Prop)(h0:z 0 ys H)(hz:∀i zs H,z i zs H->zs.length<100000)
  (L:∀i zs H,i<n->z i zs H->g (.int (lo+i)) σ H fun D H2=>Keep σ D/\tt D H2 λb I=>br b (te D I λy J=>z (i+1) (zs++[y]) J) (z (i+1) zs I))
  (hd:∀zs H,z n zs H->Q zs H):NR (Dx lo n) g tt te σ ys Q H:=by
 refine⟨λi m zs H=>m=n-i/\i<=n/\z i zs H,⟨n,by simp,Zq _,h0⟩,?_⟩;rintro i m zs H ⟨rfl,hi,p⟩
 by_cases G:i<n
 .refine .inr ⟨G,bv (hz i zs H p) (by decide),z (i+1),λi0 H' O=>⟨n-(i+1),by lia,rfl,G,O⟩,λv H' Z=>?_⟩;obtain⟨e,y⟩:=Z;subst e y;exact L i zs _ G p
 .obtain rfl:i=n:=by lia
  exact .inl ⟨Y5 _,hd zs H p⟩
def NS{lo:Int}{cap:List (Option Nat)}(z:Nat->List V->Hp->Prop)(h0:z 0 [] H)
  (J:∀i zs H,i<n->z i zs H->g (.int (lo+i)) (AO cap σ) H fun D H2=>Keep (AO cap σ) D/\tt D H2 λb I=>br b (Ir wi2 g2 tt2 te D zs I (z (i+1))) (z (i+1) zs I))
  (hd:∀zs H,z n zs H->Q zs H):S6 (Dx lo n) cap g tt wi2 g2 tt2 te σ Q H:=by
 refine⟨λi m zs H=>m=n-i/\i<=n/\z i zs H,⟨n,by simp,Zq _,h0⟩,?_⟩;rintro i m zs H ⟨rfl,hi,p⟩
 by_cases G:i<n
 .refine .inr ⟨G,z (i+1),λZ H' L=>⟨n-(i+1),by lia,rfl,G,L⟩,λv H' O=>?_⟩;obtain⟨e,y⟩:=O;subst e y;exact J i zs _ G p
 .obtain rfl:i=n:=by lia
  exact .inl ⟨Y5 _,hd zs H p⟩
def Ta(i:Nat)(O:TI)(cap:List (Option Nat))(g:TG)(Z:TT)(G:TI)(g2:TG)(z:TT)(te:TE):TS:=λD I H=>K4 O cap g Z G g2 z te I H λL J=>∀p,J p=none->D.nx (I.set i (some (.ref p))) (upd J p (.lst L))
def Tb{X:Cx}{i:Nat}{y:Str}{tg J i0 G gi:yJ}{i5 Z:List yJ}{scope:Scope}{i6 O i4:Pos}{wi:TI}(N':List Str)(cap:List (Option Nat))(hN:X.N.Nodup)(i7:X.N[i]? =some y)(hy:Ek X.env.scope y)
  (hc:X.calm=true) (hi:PI X tg J wi) (B:AB X.env.scope X.N scope N' cap) (hg:∀s H ex C,PG (AQ X N' scope s H ex C) tg g) (ht:∀s H ex C,Cc (AQ X N' scope s H ex C) i5 tt)
  (j5:∀s H ex C,PI (AQ X N' scope s H ex C) i0 G wi2) (j0:∀s H ex C,PG (AQ X N' scope s H ex C) i0 g2) (i9:∀s H ex C,Cc (AQ X N' scope s H ex C) Z tt2) (he:∀s H ex C,PE (AQ X N' scope s H ex C) gi te)
  (j4:autoParam (swapsWith (EB gi tg J i5 i0 G Z scope i6) (some (.Name y O)) i4.line X.env=pure true) m5)
  (hf:autoParam (X.fn y=true\/X.env.scope.names.lookup y=some .local) F')
  (hs:autoParam (∀x,foldedSetIterable J X.env x=pure x) W0) (j3:autoParam (∀env x,foldedSetIterable G env x=pure x) K'):PS X (.Assign [.Name y O] (.ListComp gi [⟨tg,J,i5,0⟩,⟨i0,G,Z,0⟩] scope i6) i4) (Ta i wi cap g tt wi2 g2 tt2 te):=by
 intro ad s σ H D I h;rw[fj _ _ _ _ j4];refine Y1 (ag (Y1 ?_));show wpAny _ X.A (do let _<-comprehension (EB gi tg J i5 i0 G Z scope i6) scope X.env _ (newList []) false (eval J X.env) (some (assign (.Name y O) X.env))) _ _ s;refine Y1 (Zf (NQ (use:=some (assign (.Name y O) X.env)) (Q':=λ_ s'=>SP X ad D .next s') hc hi B hg ht j5 j0 i9 he hs j3 I h λgh C H ys s' hn I' L q=>?_) (λ_ s' hq=>Y4 (Y4 hq)) λ_ _ e=>e);obtain⟨m,hm⟩:=L.ns;refine dI (Kl I' hN i7 hy (show RelV (.ref gh) (.ref gh) from rfl) (λj2 i8 zq=>?_) hf);obtain⟨a,sb,ha⟩:=zq;have j7:C≠a:=by
  rcases ha with e | e
  .rw[e];exact L.loc
  .exact λz=>L.cell _ _ e z.symm
 refine⟨m,hm.sameBut sb j7,λh' j6=>?_⟩;exact⟨_,_,i8.turned (t':=j2.toks) (it:=C) (λb o hb e=>j6.extBut b o hb e) L.free L.loc (.inr L.sz) L.cell L.pin,q gh hn⟩
inductive Td_(Q:Bool->Hp->Prop)(x:V)(z:Hp):Prop
 |mk(a g:_)(_:x= .ref a)(_:z a=some (.lst g))(_:Q (!g.isEmpty) z)
def Td(D:TE):TT:=fun G H Q=>D G H λx z=>Td_ Q x z
def K5{X:Cx}{a:yJ}{z:TE}(ha:PE X a z)(O:autoParam (∀g,isTrue a X.env g=(do let v<-g;standAt a.pos;holding [v] (truthy v))) W0):PT X a (Td z):=by
 intro ad s J H Q I h;refine fS (Ap (ha ad s J H _ I h) λv s1 zq=>?_) (O _);obtain⟨x,H1,D,r1,Z⟩:=zq;obtain⟨b,xs,rfl,L,q⟩:=Z;cases r1;obtain⟨i0,r,pl,hz⟩:=D.list (Al.of L);have G:=r.length;have big:sizeLine<2 ^ 63:=by decide
 exact wpAny_truthy_list pl.isList (by simp only[Zl];lia) ⟨H1,D.tok _,by rw[QM r];exact q⟩
def Te(l b:yQ)(es:Array PySem.DictEntry)(ep:Nat)(z:Array yU)(O:Nat)(dd D:Option yQ)(L G:Array (yW)):
  Meets (Builtin.«dict.__eq__» ⟨[.ref l,.ref b],[]⟩) (λ_ R s=>s.heap.get? l=some { cls:= .type "dict",dict:=dd,data:= .dict es ep,slots:=L}/\s.heap.get? b=some { cls:= .type "tuple",dict:=D,data:= .seq z O,slots:=G}/\R (.ok (.ret .notImplemented)) s):=
 .of_wp λprog w A R s h=>by obtain⟨Z,g,d,tk,os⟩:=s;obtain⟨I,J,h⟩:=h;have f1:=F.sub_tuple_dict;wp_walk using af I,af J;exact⟨_,rfl,h⟩
def Tf(l b:yQ)(es:Array PySem.DictEntry)(ep:Nat)(items:Array yU)(n:Nat)(dd z:Option yQ)(J D:Array (yW)):
  Meets (Builtin.«tuple.__eq__» ⟨[.ref l,.ref b],[]⟩) (λ_ R s=>s.heap.get? l=some { cls:= .type "tuple",dict:=dd,data:= .seq items n,slots:=J}/\s.heap.get? b=some { cls:= .type "dict",dict:=z,data:= .dict es ep,slots:=D}/\R (.ok (.ret .notImplemented)) s):=
 .of_wp λprog w A R s h=>by obtain⟨L,g,d,tk,os⟩:=s;obtain⟨G,I,h⟩:=h;have O:=F.sub_dict_tuple;wp_walk using af G,af I;exact⟨_,rfl,h⟩
variable{X:Cx}
inductive Tg(x y:V)(H:Hp)(Q:VK):Prop
 |mk(p d e:_)(_:Aa p H d x)(_:Aa p H e y)(_:e.canLay0=true)(_:e.hasDict=false)(_:e.depth<=20)(_:((d.canLay0=true/\d.hasDict=false/\Q (.bl (PyData.eqv d e)) H)\/(d= .dict []/\(∃es,e= .tuple es)/\Q (.bl false) H)))
def Th{k:Nat}(hr:AN k X.A):OpR X (compareOp .Eq) Tg:=by
 intro ad s σ H x y v u Q I rx ry h;obtain⟨p,d,e,rd,re,ce,he,dp,h⟩:=h;have un:=hr.un;obtain⟨bs,rb⟩:=Aa.reads I e y u he re ry;rcases h with⟨cd,hd,q⟩ | ⟨rfl,⟨es,rfl⟩,q⟩
 .obtain⟨as,ra⟩:=Aa.reads I d x v hd rd rx;exact SeqAt.compareEq_reads ra rb cd ce (by lia) (A4 I q rfl)
 .unfold Aa at rd re;obtain⟨l,ks,rfl,_,_,hb⟩:=rd;obtain⟨b,xs,rfl,G,_⟩:=re;cases rx;cases ry;obtain⟨_,Z,vs,kv,o,i5,ep,ho,hx,O,_⟩:=I.hok l _ hb;obtain⟨i6,rv,⟨o2,g,i0,n2,D⟩,_⟩:=I.tuple (Ae.of G);have Z:l≠b:=by
   intro z;subst z;rw[hb]at G;cases G
  have hc:=hx.1;obtain⟨cls,dd,data,sl⟩:=o;obtain⟨i7,L,data2,i4⟩:=o2;simp only at hc O i0 D;subst hc O i0 D;exact SeqAt.rc_eq_decline_or (k:=false) ⟨_,ho,rfl⟩ ⟨_,g,rfl⟩ (by decide) F.sub_tuple_dict F.slot_dict_eq F.slot_tuple_eq_refl
   (λ_ J=>ah F.slot_dict_eq ⟨_,ho,rfl⟩ F.entry_dict_eq (F.args_dict_eq_2 _ _) (Te l b i5 ep i6.toArray n2 dd L sl i4) ⟨ho,g,J⟩)
   (λ_ J=>ah F.slot_tuple_eq_refl ⟨_,g,rfl⟩ F.entry_tuple_eq (F.args_tuple_eq_2 _ _) (Tf b l i5 ep i6.toArray n2 L dd i4 sl) ⟨g,ho,J⟩)
   (λ_ J=>PySem.wpAny_isSame_ref_other Z ho g (by simp) J) (.inr (by lia)) (A4 I q rfl)
end L2
namespace MF
open L2
variable{n k:Nat}{α:Type}{xs:List α}
structure TM where
 cs:yZ
 co:yV
 ds:yV
 lo:Int
 hi:Int
 st:Int
def TM.d(T:TM):yP:= .tuple [FD T.cs,AS T.co,AS T.ds,.tuple [.int T.lo,.int T.hi,.int T.st]]
def terms(P:PL)(S:SY):TM:=⟨caps P S,P.bs.map (·.2),draws P S,P.lo,P.hi,P.st⟩
structure TM.ok(T:TM):Prop where
 l8:T.ds.length<=8
 lc:T.cs.length=T.ds.length
def NT{P:PL}{S:SY}(so:S.ok n):(terms P S).ok:=⟨by show(draws P S).length<=8;rw[EA];exact so.x8,by show(caps P S).length=(draws P S).length;rw[Bs,EA]⟩
def part{g:Type}(xs:List g)(f l:Nat):List g:=(xs.drop f).take (l+1-f)
def NU{f l:Nat}(h:f<=l)(g:l<xs.length):(part xs f l).length=l+1-f:=by
 unfold part;rw[Za,bG];lia
def Iu{xs:List V}{f l:Nat}(h:f<=l)(g:l<xs.length):Bc xs (some (f:Int)) (some ((l:Int)+1))=part xs f l:=by
 have e:((l:Int)+1)=((l+1:Nat):Int):=by lia
 unfold Bc part;rw[e,HT.sIx_nat,HT.sIx_nat,aP (by lia),aP (by lia)]
def Iv{z:Type}{g:α->z}{f l:Nat}:part (xs.map g) f l=(part xs f l).map g:=by
 unfold part;rw[<-map_drop,<-map_take]
def Ad.part{p:yQ}{H:Hp}:∀ {ds:List yP}{xs:List V},Ad p H ds xs->∀f l,Ad p H (MF.part ds f l) (MF.part xs f l):=by
 have z:∀ {ds:List yP}{xs:List V},Ad p H ds xs->∀f,Ad p H (ds.drop f) (xs.drop f):=by
  intro ds
  induction ds with
  |nil=>intro xs r f;unfold Ad at r;subst r;rw[drop_nil,drop_nil];exact .nil
  |cons d ds ih=>
   intro xs r f;have D:=r;unfold Ad at r;obtain⟨x,t,rfl,g,rt⟩:=r;cases f with
   |zero=>exact D
   |succ f=>exact ih rt f
 have tk:∀ {ds:List yP}{xs:List V},Ad p H ds xs->∀f,Ad p H (ds.take f) (xs.take f):=by
  intro ds
  induction ds with
  |nil=>intro xs r f;unfold Ad at r;subst r;rw[take_nil,take_nil];exact .nil
  |cons d ds ih=>
   intro xs r f;unfold Ad at r;obtain⟨x,t,rfl,g,rt⟩:=r;cases f with
   |zero=>exact .nil
   |succ f=>exact .cons g (ih rt f)
 intro ds xs r f l;exact tk (z r f) _
def most(T:TM)(f l:Nat):Int:=((part T.cs f l).map List.sum).sum
def NV(T:TM)(f l:Nat):Int:=(part T.ds f l).sum
def Dl(T:TM)(f l:Nat):Bool:=decide ((if f=0 then T.st else T.hi)+most T f l<NV T f l+T.lo)
def Dn(f k:Nat):List (Nat×Nat):=(List.range k).map λi=>(f,f+i)
def Cz(n k:Nat):List (Nat×Nat):=((List.range k).map λf=>Dn f (n-f)).flatten
abbrev pD(q:Nat×Nat):yP:= .tuple [.int q.1,.int q.2]
def Ti{f:Nat}:Dn f (k+1)=Dn f k++[(f,f+k)]:=by unfold Dn;rw[bp,YW];rfl
def NW{f:Nat}:(Dn f k).length=k:=by unfold Dn;simp
def NX:Cz n (k+1)=Cz n k++Dn k (n-k):=by unfold Cz;rw[bp,YW,List.flatten_append];simp
def NY:(Cz n k).length<=n * k:=by
 induction k with
 |zero=>exact Y5 _
 |succ k ih=>rw[NX,Zj,NW,Nat.mul_succ];lia
def K6(h:k<=n):∀q∈Cz n k,q.1<=q.2/\q.2<n:=by
 intro q g;unfold Cz at g;obtain⟨l,D,g⟩:=List.mem_flatten.mp g;obtain⟨f,z,rfl⟩:=Zg.mp D;obtain⟨i,hi,rfl⟩:=Zg.mp g;have:=am.mp z;have:=am.mp hi;exact⟨by show f<=f+i;lia,by show f+i<n;lia⟩
def EZ(T:TM):List (Nat×Nat):=(Cz T.ds.length T.ds.length).filter λq=>Dl T q.1 q.2
def BU(T:TM):Option (Nat×Nat):=(EZ T).head?
def K7:Option (Nat×Nat)->yP
 |none=> .none
 |some q=>pD q
def E1(T:TM)(f:Nat):Nat->Int
 |0=>if f=0 then T.st else T.hi
 |k+1=>E1 T f k+(T.cs.getD (f+k) []).sum-T.ds.getD (f+k) 0
def NZ{f:Nat}{x:α}(h:xs[f+k]? =some x):(xs.drop f).take (k+1)=(xs.drop f).take k++[x]:=AY (by rw[dH];exact h)
theorem N0{T:TM}(ok:T.ok){f:Nat}:∀k,f+k<=T.ds.length->E1 T f k=(if f=0 then T.st else T.hi)+(((T.cs.drop f).take k).map List.sum).sum-((T.ds.drop f).take k).sum
 |0,_=>by rw[take_zero,take_zero,map_nil,sum_nil];show(if f=0 then T.st else T.hi)=_;lia
 |k+1,h=>by
  have D:=N0 ok (f:=f) k (by lia);have lc:=ok.lc;have g:T.cs[f+k]? =some (T.cs.getD (f+k) []):=by rw[Y7,Y6 (by lia)];rfl
  have z:T.ds[f+k]? =some (T.ds.getD (f+k) 0):=K0 (by lia);rw[NZ g,NZ z,YW,cV,cV,ZJ,map_nil,bP,sum_nil,bP,sum_nil];show E1 T f k+_-_=_;lia
end MF
namespace L2
section
def AF(x y:Str):List Str:=
 if (decide (x.length<y.length) || decide (Builtin.Str.strKind x<Builtin.Str.strKind y))=true then [x]
 else if (Builtin.Str.occurrences x y 0 x.length (x.length+1)).isEmpty=true then [x]
 else Builtin.Str.partsBetween x (Builtin.Str.occurrences x y 0 x.length (x.length+1)) y.length
def K8(x y:Str):(AF x y).length<=x.length+2:=by
 unfold AF;split
 .exact Nat.le_add_left 1 (x.length+1)
 .split
  .exact Nat.le_add_left 1 (x.length+1)
  .have h:=StrLaws.occ_length_le x y 0 x.length (x.length+1);unfold Builtin.Str.partsBetween;simp only[Y0,dQ,ZA,Zj,List.length_nil];lia
theorem N1:∀(n:Nat) (l:List Str),At (l.map V.str) (strsFrom n l)
 |_,[]=> .nil
 |n,x::l=> .cons ⟨n,rfl⟩ (N1 (n+1) l)
variable{X:Cx}
inductive Tj(x:V)(g:List V)(H:Hp)(Q:VK):Prop
 |mk(t y:_)(_:x= .str t)(_:g=[.str y])(_:(y.length==0)=false)(_:t.length+2<=sizeLine)(_:∀l,H l=none->Q (.ref l) (upd H l (.lst ((AF t y).map V.str))))
def Iw:Gm X "str.split" Tj:=by
 intro ad s σ H x vs v us Q I Z rv h;obtain⟨t,y,rfl,rfl,L,hz,q⟩:=h;obtain⟨z,rfl⟩:=Z;obtain⟨u,rfl,G,rfl⟩:=rv.one;have J:=K8 t y;have g:=q _ I.fresh;have D:=λn=>N1 n (AF t y)
 unfold AF at J g D;split at J
 .rename_i c;rw[Z1 c]at g D;refine ah ef rfl dM (dz _ _) (meets_str_split_cannot_occur t y z G c) ?_;exact⟨.ref _,_,I.lnew (t':=s.toks) (ys:=[V.str t]) (its:=[.str t z]) (.cons ⟨z,rfl⟩ .nil) (by show 1<=sizeLine;decide),rfl,g⟩
 .rename_i c;rw[YY c]at g D;have O:=dN.mpr c;split at J
  .rename_i d;rw[Z1 d]at g D;refine ah ef rfl dM (dz _ _) (meets_str_split_not_found t y z G O L d) ?_;exact⟨.ref _,_,I.lnew (t':=s.toks) (ys:=[V.str t]) (its:=[.str t z]) (.cons ⟨z,rfl⟩ .nil) (by show 1<=sizeLine;decide),rfl,g⟩
  .rename_i d;rw[YY d]at g D;refine ah ef rfl dM (dz _ _) (meets_str_split_sep t y z G O L (dN.mpr d) (by lia) (by lia)) ?_;exact⟨.ref _,_,I.lnew (t':=_) (D s.toks) (by rw[Y0];lia),rfl,g⟩
def CI(sep:Str):List Str->Str
 |[x]=>x
 |l=>Builtin.Str.glued sep l
theorem N3:∀ {g:List Str}{its:yX},At (g.map V.str) its->∃l:List (Str×Tok),its=strValues l/\l.map (·.1)=g
 |[],its,r=>by cases r;exact⟨[],rfl,rfl⟩
 |x::g,its,r=>by
  cases r with
  |cons r1 r2=>
   obtain⟨t,rfl⟩:=r1;obtain⟨l,rfl,rfl⟩:=N3 r2;exact⟨(x,t)::l,rfl,rfl⟩
inductive Tk(x:V)(D:List V)(H:Hp)(Q:VK):Prop
 |mk(g l z:_)(_:x= .str g)(_:D=[.ref l])(_:H l=some (.lst (List.map V.str z)))(_:Builtin.Str.tooLong (z.toArray.foldl (· + ·.length+g.length) 0)=false)(_:(CI g z).length<=sizeLine)(_:Q (.str (CI g z)) H)
def FE:Gm X "str.join" Tk:=by
 intro ad s σ H x vs v us Q I G rv h;obtain⟨z,l,ss,rfl,rfl,hH,J,g,q⟩:=h;obtain⟨O,rfl⟩:=G;obtain⟨u,rfl,ru⟩:=rv.one;cases ru;obtain⟨Z,r,L,_⟩:=I.list (Al.of hH);obtain⟨D,rfl,rfl⟩:=N3 r;refine ah F.slot_str_join rfl F.entry_str_join (F.args_str_join_2 _ _) (meets_str_join_list z O l D J) ⟨L.isList,?_⟩
 match D,g,q with
 |[],g,q=>exact⟨g,.str _,H,I.tok _,⟨_,rfl⟩,q⟩
 |[p],g,q=>exact⟨.str _,H,I,⟨_,rfl⟩,q⟩
 |a::b::r,g,q=>exact⟨g,.str _,H,I.tok _,⟨_,rfl⟩,q⟩
def N4:BF X (.type "int") (λxs H Q=>∃n:Int,xs=[.str (Str.ofString (toString n))]/\0<=n/\n<10 ^ 10/\Q (.int n) H):=by
 intro ad s z H xs D Q I r h;obtain⟨n,rfl,h0,g,q⟩:=h;obtain⟨u,rfl,t,rfl⟩:=EN r;exact PySem.W.KIN.call_num h0 g ⟨.int n,H,I.tok _,⟨_,rfl⟩,q⟩
end
section
open AutoSeq1 (wpAny_loadPart')
structure ZA3(z TI TO i1 i2 i3 l1 l2 l3:yQ):Prop where
 TI_z:TI≠z
 TO_z:TO≠z
 TO_TI:TO≠TI
 i1_z:i1≠z
 i1_TI:i1≠TI
 i1_TO:i1≠TO
 i2_z:i2≠z
 i2_TI:i2≠TI
 i2_TO:i2≠TO
 i2_i1:i2≠i1
 i3_z:i3≠z
 i3_TI:i3≠TI
 i3_TO:i3≠TO
 i3_i1:i3≠i1
 i3_i2:i3≠i2
 l1_z:l1≠z
 l1_TO:l1≠TO
 l1_i1:l1≠i1
 l1_i2:l1≠i2
 l1_i3:l1≠i3
 l2_z:l2≠z
 l2_TO:l2≠TO
 l2_i1:l2≠i1
 l2_i2:l2≠i2
 l2_i3:l2≠i3
 l3_z:l3≠z
 l3_TO:l3≠TO
 l3_i1:l3≠i1
 l3_i2:l3≠i2
 l3_i3:l3≠i3
end
section
variable{X:Cx}
def Tl(a b:TI):TI:=fun g H R=>a g H R\/b g H R
def Tm{g it:yJ}{a b:TI}(G:PI X g it a)(D:PI X g it b):PI X g it (Tl a b):=λad s z H R I h=>h.elim (λq=>G ad s z H R I q) λq=>D ad s z H R I q
end
inductive Tn_(g2:TG)(O:TT)(I:TI)(g3:TG)(Z:TT)(te:TE)(L:St)(ys:List V)(H:Hp)(N:List V->Hp->Prop)(J:It)(H1:Hp):Prop
 |mk(W:Nat->Nat->List V->Hp->Prop)(_:(∃m,W 0 m ys H1))(_:∀j m G H,W j m G H-> (J.stop j H/\N G H)\/ (J.go j H /\ ∃ N2 : List V -> Hp -> Prop, (∀ D z, N2 D z -> ∃ m', m' < m /\ W (j + 1) m' D z) /\ ∀ x z, J.yld j H x z -> g2 x L z fun g H2 => Keep L g /\ O g H2 λb H3 => br b (Ir I g3 Z te g G H3 N2) (N2 G H3)))
def Tn(h8:TI)(g2:TG)(O:TT)(I:TI)(g3:TG)(Z:TT)(te:TE):St->List V->Hp->(List V->Hp->Prop)->Prop:=fun L ys H N=>h8 L H λJ H1=>Tn_ g2 O I g3 Z te L ys H N J H1
def CV(K:Fgx){o e:yJ}{es:List yJ}{to:TE}{t:TA}{name:Str}{D g:Pos}{T id:String}{r:V->List V->Hp->VK->Prop}{X:Cx}(O:PlainAttrs T)(slot:Slot T name id)(L:typeOf (.builtin id)=pure (.type "method_descriptor"))(hm:Gk X id r)(ho:PE X o to)(ha:PA X (e::es) t)(hK:autoParam (X.K=K) m5)
  (G:autoParam (attributeBase o name X.env (eval o X.env)=eval o X.env) m5)
  (J : autoParam (((backTo g (starEach (e :: es) X.env)).all (λx => !x.1) && (backToKw g (keywordEach [] X.env)).all (λx => x.1.isSome)
   && decide ((e::es).length+([]:List Keyword).length+(if ([]:List Keyword).isEmpty then 0 else 1)<30))=true) m5)
  (I:autoParam ((D.endLine==g.line)=true) m5) (Z:autoParam (starEach (e::es) X.env=(false,eval e X.env)::starEach es X.env) m5) (z:autoParam ((backTo g (starEach es X.env)).any (·.1)=false) m5):
  PE X (.Call (.Attribute o name D) (e::es) [] g) (Nd K T r to t):=hK ▸ CU O slot L hm ho ha G J I Z z
def WalkO(J:It)(cap:List (Option Nat))(g:TG)(tt:TT)(h8:TI)(g2:TG)(O:TT)(L:TI)(g3:TG)(Z:TT)(te:TE)(σ:St)(Q:List V->Hp->Prop)(H1:Hp):Prop:=
 ∃W:Nat->Nat->List V->Hp->Prop,(∃m,W 0 m [] H1)/\∀i m I H,W i m I H->
  (J.stop i H/\Q I H)\/
  (J.go i H /\ ∃ N : List V -> Hp -> Prop, (∀ G D, N G D -> ∃ m', m' < m /\ W (i + 1) m' G D) /\ ∀ x D, J.yld i H x D -> g x (AO cap σ) D fun z H2 => Keep (AO cap σ) z /\ tt z H2 λb H3 =>
   br b (Tn h8 g2 O L g3 Z te z I H3 N) (N I H3))
section
variable{X:Cx}
inductive To(x y:V)(H:Hp)(Q:VK):Prop
 |mk(p d e:_)(_:Aa p H d x)(_:Aa p H e y)(_:e.canLay0=true)(_:e.hasDict=false)(_:e.depth<=20)(_:d.canLay0=true)(_:d.hasDict=false)(_:Q (.bl (!PyData.eqv d e)) H)
def D7{k:Nat}(G:AN k X.A):OpR X (compareOp .NotEq) To:=by
 intro ad s σ H x y v u Q I g Z h;obtain⟨p,d,e,rd,z,L,O,dp,cd,hd,q⟩:=h;have un:=G.un;obtain⟨bs,J⟩:=Aa.reads I e y u O z Z;obtain⟨as,D⟩:=Aa.reads I d x v hd rd g;exact SeqAt.compareNe_reads D J cd L (by lia) (A4 I q rfl)
end
section
variable{h:Heap}{α:Type}{M:Model}{t:Sem α}
def KD(h h':Heap):Prop:=∀(b:yQ) (o:Obj),h.objs[b]? =some o->∃g:Obj,h'.objs[b]? =some g/\g.dict=o.dict
def KD.refl(h:Heap):KD h h:=λ_ o e=>⟨o,e,rfl⟩
def KD.trans{a b c:Heap}(x:KD a b)(y:KD b c):KD a c:=λi o e=>by
 obtain⟨o1,z,G⟩:=x i o e;obtain⟨g,D,I⟩:=y i o1 z;exact⟨g,D,I.trans G⟩
def N5{b:yQ}{o:Obj}(e:h.get? b=some o):h.objs[b]? =some o:=by
 unfold Heap.get? at e;split at e
 .cases e
 .exact e
def KD.get{h':Heap}{b:yQ}{o g:Obj}(k:KD h h')(e:h.get? b=some o)(D:h'.get? b=some g):g.dict=o.dict:=by
 obtain⟨G,z,d⟩:=k b o (N5 e);rw[N5 D]at z;cases z;exact d
def KD.push(h:Heap)(o:Obj):KD h (h.push o):=λb u e=>⟨u,by
 have g:=(bE.mp e).1;show(h.objs.push o)[b]? =some u;rw[Array.getElem?_push_lt g,<-e,dR g],rfl⟩
def KD.update(h:Heap)(a:yQ){f:Obj->Obj}(g:∀o,(f o).dict=o.dict):KD h (h.update a f):=λb u e=>by
 by_cases z:a=b
 .exact⟨f u,by show(h.objs.modify a f)[b]? =_;rw[fw,Z1 z,e];rfl,g u⟩
 .exact⟨u,by show(h.objs.modify a f)[b]? =_;rw[fw,YY z,e],rfl⟩
inductive Tame{α:Type}:Sem α->Prop
 |pure (a:α):Tame (.pure a)
 |raise (e:yU):Tame (.raise e)
 |uns (w:String):Tame (.unsupported w)
 |rule {t:String}{k:Unit->Sem α} (h:∀x,Tame (k x)):Tame (.rule t k)
 |load {a:yQ}{p:yW}{k:Obj->Sem α} (h:∀x,Tame (k x)):Tame (.load a p k)
 |update {a:yQ}{p:yW}{f:Obj->Obj}{k:Unit->Sem α} (hf:∀o,(f o).dict=o.dict) (h:∀x,Tame (k x)):Tame (.update a p f k)
 |alloc {o:Obj}{k:yQ->Sem α} (h:∀x,Tame (k x)):Tame (.alloc o k)
 |stack {k:List (Code×Pos)->Sem α} (h:∀x,Tame (k x)):Tame (.stack k)
def Tame.bind{z:Type}{m:Sem α}{f:α->Sem z}(h:Tame m)(g:∀a,Tame (f a)):Tame (m>>=f):=by
 induction h with
 |pure a=>exact g a
 |raise e=>exact .raise e
 |uns w=>exact .uns w
 |rule _ ih=>exact .rule ih
 |load _ ih=>exact .load ih
 |update hf _ ih=>exact .update hf ih
 |alloc _ ih=>exact .alloc ih
 |stack _ ih=>exact .stack ih
def Tame.ite{c:Prop}[Decidable c]{a b:Sem α}(x:Tame a)(y:Tame b):Tame (if c then a else b):=by
 split
 .exact x
 .exact y
def Tame.wp{g:PySem.Ctx}{Q:α->Pos->yR->Prop}{E:yU->Pos->yR->Prop}(T:Tame t){p:Pos}{s:yR}{h0:Heap}(k0:KD h0 s.heap)(h:Sem.wp M g t Q E p s):
  Sem.wp M g t (λa p' s'=>Q a p' s'/\KD h0 s'.heap) E p s:=by
 induction T generalizing p s with
 |pure a=>rw[Sem.wp]at h ⊢;exact⟨h,k0⟩
 |raise e=>rw[Sem.wp]at h ⊢;exact h
 |uns w=>rw[Sem.wp]at h;exact h.elim
 |rule _ ih=>rw[Sem.wp]at h ⊢;exact ih _ k0 h
 |load _ ih=>rw[Sem.wp]at h ⊢;obtain⟨o,e,h⟩:=h;exact⟨o,e,ih _ k0 h⟩
 |update hf _ ih=>rw[Sem.wp]at h ⊢;exact⟨h.1,ih _ (k0.trans (KD.update _ _ hf)) h.2⟩
 |alloc _ ih=>rw[Sem.wp]at h ⊢;exact ih _ (k0.trans (KD.push _ _)) h
 |stack _ ih=>rw[Sem.wp]at h ⊢;exact ih _ k0 h
def Tame.any{A:yL}{Q:α->yR->Prop}{E:VSP}(T:Tame t){s:yR}(h:wpAny M A t Q E s):wpAny M A t (λa s'=>Q a s'/\KD s.heap s'.heap) E s:=
 fun g p hΓ=>T.wp (KD.refl _) (h g p hΓ)
def K9(a:yQ):Tame (load a):= .load λ_=> .pure _
def Tp(v:yU):Tame (fieldsOf v):=by
 unfold fieldsOf;split
 .refine(K9 _).bind λo=>?_
  split
  .exact .pure _
  .exact .uns _
 .exact .uns _
def Ix(v:yU)(i:Nat):Tame (field v i):=by
 unfold field;refine(Tp v).bind λo=>?_
 split
 .exact .pure _
 .exact .uns _
def Tq(o:Obj)(f:Array yU->Array yU):(Obj.mapFields f o).dict=o.dict:=by
 unfold Obj.mapFields;split<;>rfl
def La(v:yU)(i:Nat)(x:yU):Tame (setField v i x):=by
 unfold setField;split
 .unfold updateField;refine(K9 _).bind λo=>?_
  split
  .exact .ite (.update (λo=>Tq o _) λ_=> .pure _) (.uns _)
  .exact .uns _
 .exact .uns _
def Lb(e:yU)(f:Option yQ):Tame (setFlight e f):=by
 unfold setFlight;refine(Ix _ _).bind λo=>?_
 exact .ite (La _ _ _) (.pure _)
theorem N6:∀l,Tame (readyFrames l)
 |[]=> .pure _
 |env::outer=>by
  unfold readyFrames;split
  .refine(K9 _).bind λo=>?_
   refine .ite (.pure _) ?_;refine Tame.bind ?_ λb=>Tame.bind ?_ λv=>Tame.bind (.update (λ_=>rfl) λ_=> .pure _) λ_=>N6 outer
   .unfold behindIsImport;refine .ite (.pure _) (.ite (.pure _) ((Ix _ _).bind λ_=> .pure _))
   .unfold keptBack;split
    .refine .ite (.pure _) ?_;unfold underTheClaimsCaller;exact Tame.bind (Tame.bind (.stack λ_=> .pure _) λ_=> .pure _) λ_=> .pure _
    .exact .pure _
  .exact .uns _
def Tr(env:Env):Tame (PySem.frameOf env):=by
 unfold PySem.frameOf frameEnvs;refine Tame.bind (Tame.bind (.stack λ_=> .pure _) λ_=> .pure _) λl=>?_
 refine Tame.bind ?_ λo=>?_
 .unfold frameObject;split
  .exact .pure _
  .exact(N6 _).bind λ_=> .pure _
 .split
  .exact .pure _
  .exact .uns _
def Tt(f:yQ)(b:Bool):Tame (entryPlaceOf f b):=by
 unfold entryPlaceOf;refine Tame.bind (.stack λ_=> .pure _) λl=>?_
 split
 .exact .pure _
 .exact .pure _
def Tu(a b c d e:yU)(l:yX):Tame (EntryCells.newEntry a b c d e l):=by
 unfold EntryCells.newEntry newFields newObj;dsimp only;refine .ite (.uns _) ?_;unfold newObjAsIs;exact Tame.bind (.alloc λ_=> .pure _) λ_=> .pure _
def N7(e:yU)(env:Env):Tame (noteFrame e env):=by
 unfold noteFrame;split
 .refine(Ix _ _).bind λo=>?_
  refine .ite ((Ix _ _).bind λo=> .ite (.pure _) ((La _ _ _).bind λ_=>?_)) ?_
  all_goals exact(Tr _).bind λ_=>(Tt _ _).bind λ_=>(Tu _ _ _ _ _ _).bind λ_=>La _ _ _
 .exact .uns _
def N8(env:Env)(e:yU):Tame (leaving env e):=(N7 e env).bind λ_=>Lb e none
end
section
def ObjOk.there{P:yO}{w:yK}{H:Hp}{h:Heap}{a:yQ}{o:HO}(x:ObjOk P w H h a o):∃u,h.get? a=some u:=by
 cases o with
 |lst xs=>obtain⟨_,_,_,_,e⟩:=x;exact⟨_,e⟩
 |tup xs=>obtain⟨_,_,_,o,e,_⟩:=x;exact⟨_,e⟩
 |dK kvs=>obtain⟨_,_,_,_,o,_,_,e,_⟩:=x;exact⟨_,e⟩
 |dT kvs=>obtain⟨_,_,_,_,o,_,_,e,_⟩:=x;exact⟨_,e⟩
 |set S n=>obtain⟨o,_,_,_,e,_⟩:=x;exact⟨_,e⟩
 |ins C dx fs=>obtain⟨_,_,_,e,_⟩:=x;exact⟨_,e⟩
 |own y=>obtain⟨_,e⟩:=x;exact⟨_,e⟩
 |xd fs=>obtain⟨_,⟨_,_,_,e,_⟩,_⟩:=x;exact⟨_,e⟩
 |rng lo hi=>obtain⟨_,_,_,e⟩:=x;exact⟨_,e⟩
 |frz ob u=>obtain⟨e,_⟩:=x;exact⟨_,e⟩
 |tbl ps=>exact⟨_,x⟩
 |met f y=>exact⟨_,x⟩
 |ext φ=>obtain⟨_,⟨_,e⟩,_⟩:=x;exact⟨_,e⟩
structure Tv(P:yO)(w:yK)(outer:List Env)(H:Hp)(s:yR)(H':Hp)(C e:yQ)(s':yR):Prop where
 os:s'.os=s.os
 bare:AllBare s'.gens
 un:Un (AD outer) [] H H' s.heap s'.heap
 fly:∃B t,Heap.FlyingW B outer e (.ref C) t s'.heap/\(∀b o,s.heap.get? b=some o->H b=none->b ∉ AD outer->B.get? b=some o)/\
  (∀b o,s.heap.get? b=some o->b ∉ AD outer->∃o',B.get? b=some o')/\HOk P w H' B
def Bm(P:yO)(w:yK):CG:=λouter H s E v g=>∃C e D z,v= .ref e/\Tv P w outer H s D C e g/\(∃G:Obj,g.heap.get? e=some G/\G.dict=z)/\E (.ref C) z D
structure IsDef(X:Cx)(E:XK):Prop where
 stk:X.stack=X.env::X.outer
 fr:X.env.frame=some X.env.locals
 ex:X.ex=[]
 xe:∀e s',wpAny (model X.prog X.w) X.A (leaving X.env e) (λ_ s''=>Bm X.prog X.w X.outer X.H₀ X.s₀ E e s'') (λ_ _=>False) s'->X.xe e s'
variable{X:Cx}{ad:List (yQ × Obj)}{σ:St}{H H':Hp}{s s':yR}{C e:yQ}{E:XK}
def N9{env:Env}{l:List Env}{b L:yQ}(D:env.frame=some L)(h:b∈AD (env::l)):b=L\/b∈AD l:=by
 unfold AD at h ⊢;obtain⟨x,g,z⟩:=ZM.mp h;rcases Z4.mp g with rfl | g
 .rw[D]at z;exact .inl (Zb z).symm
 .exact .inr (ZM.mpr ⟨x,g,z⟩)
def IsDef.un0(D:IsDef X E)(I:Ac X ad σ H s)(u:Un (AD X.stack) [] H H' s.heap s'.heap){B h':Heap}(up:s'.heap.UpToSlots h')(ff:s'.heap.FunFrames B X.stack)(st:B.StaysIn h')
  (i4:∀b o,X.s₀.heap.get? b=some o->X.H₀ b=none->b ∉ AD X.outer->B.get? b=some o) (i5:∀b o,X.s₀.heap.get? b=some o->b ∉ AD X.outer->∃Z,B.get? b=some Z):
  Un (AD X.outer) [] X.H₀ H' X.s₀.heap h':=by
 have nx:∀b,b ∉ X.ex:=λb z=>by rw[D.ex]at z;cases z
 have L:∀b,b∈AD X.outer->∀o,s'.heap.get? b=some o->∀vs,o.data≠ .fields vs:=λb g o eo=>by
  have i0:b∈(X.env::X.outer).filterMap (·.frame):=by
   obtain⟨x,hx,hf⟩:=ZM.mp g;exact ZM.mpr ⟨x,.tail _ hx,hf⟩
  rw[D.stk]at ff;obtain⟨_,Z,O,hd⟩:=ff.mem i0;rw[eo]at O;cases O;exact hd
 have sub:∀b,b∈AD X.outer->b∈AD X.stack:=λb g=>by
  rw[D.stk];obtain⟨x,hx,hf⟩:=ZM.mp g;exact ZM.mpr ⟨x,.tail _ hx,hf⟩
 refine⟨λb o e n g _=>st b o (i4 b o e n g),λb o e n g _=>?_,λb o e n _=>?_,λb o e _=>?_,λb xs q=>u.tups b xs (I.base.tups b xs q),λb Z xs q=>u.frzs b Z xs (I.base.frzs b Z xs q),λb ps q=>?_⟩
 .obtain⟨s1,G⟩:=I.base.slot b o e n g (nx b);obtain⟨s2,J⟩:=u.slot b _ G (I.base.free b o e n (nx b)) (sub b g) (by simp);obtain⟨s3,e3⟩:=up b _ J (L b g _ J);exact⟨s3,e3⟩
 .obtain⟨o1,G⟩:=I.base.there b o e (nx b);exact u.free b o1 G (I.base.free b o e n (nx b)) (by simp)
 .by_cases g:b∈AD X.outer
  .obtain⟨o1,G⟩:=I.base.there b o e (nx b);obtain⟨o2,J⟩:=u.there b o1 G (by simp);obtain⟨s3,e3⟩:=up b _ J (L b g _ J);exact⟨_,e3⟩
  .obtain⟨o1,G⟩:=i5 b o e g;exact⟨o1,st b o1 G⟩
 .obtain⟨m1,G⟩:=I.base.tbls b ps q;obtain⟨m2,J⟩:=u.tbls b _ G;exact⟨m1++m2,by rw[J,Array.append_assoc]⟩
def IsDef.above(D:IsDef X E)(I:Ac X ad σ H s){b:yQ}{o:Obj}(e:X.s₀.heap.get? b=some o)(n:b ∉ AD X.outer):b ∉ AD X.stack:=λz=>by
 rw[D.stk]at z;rcases N9 D.fr z with q | q
 .have:=Y9 e;rw[q]at this;exact absurd (YX this I.ok.above) (Z8 _)
 .exact n q
def IsDef.un(D:IsDef X E)(I:Ac X ad σ H s)(u:Un (AD X.stack) [] H H' s.heap s'.heap){B h':Heap}(up:s'.heap.UpToSlots h')(Z:s'.heap.FunFrames B X.stack)(st:B.StaysIn h')
  (O:∀b o,s.heap.get? b=some o->H b=none->b ∉ AD X.stack->B.get? b=some o) (tB:∀b o,s.heap.get? b=some o->b ∉ AD X.stack->∃G,B.get? b=some G):
  Un (AD X.outer) [] X.H₀ H' X.s₀.heap h'/\(∀b o,X.s₀.heap.get? b=some o->X.H₀ b=none->b ∉ AD X.outer->B.get? b=some o)/\
   (∀b o,X.s₀.heap.get? b=some o->b ∉ AD X.outer->∃G,B.get? b=some G):=by
 have nl:∀b o,X.s₀.heap.get? b=some o->b≠X.env.locals:=λb o e z=>by
  have:=Y9 e;rw[z]at this;exact absurd (YX this I.ok.above) (Z8 _)
 have nx:∀b,b ∉ X.ex:=λb z=>by rw[D.ex]at z;cases z
 have ns:∀b o,X.s₀.heap.get? b=some o->b ∉ AD X.outer->b ∉ AD X.stack:=λb o e n z=>by
  rw[D.stk]at z;rcases N9 D.fr z with q | q
  .exact nl b o e q
  .exact n q
 have g:∀b o,X.s₀.heap.get? b=some o->X.H₀ b=none->b ∉ AD X.outer->B.get? b=some o:=λb o e n L=>
  O b o (I.base.keep b o e n L (nx b)) (I.base.free b o e n (nx b)) (ns b o e L)
 have J:∀b o,X.s₀.heap.get? b=some o->b ∉ AD X.outer->∃G,B.get? b=some G:=λb o e L=>by
  obtain⟨o1,e1⟩:=I.base.there b o e (nx b);exact tB b o1 e1 (ns b o e L)
 exact⟨D.un0 I u up Z st g J,g,J⟩
def IsDef.passes(D:IsDef X E):DB (Bm X.prog X.w) X E:=by
 intro ad σ H s v O I ⟨C,e,H',dx,hv,x,⟨oe,he,hdx⟩,q⟩;subst hv;refine D.xe _ _ ?_;obtain⟨B,t,fl,kB,tB,hB⟩:=x.fly;have ff:=fl.2.2.1;have J:=fl;rw[D.stk]at J;have L:X.A.frames=some (X.env::X.outer):=by rw[<-D.stk];exact I.ok.frames
 refine Zf ((N8 _ _).any (wpAny_leaves_onW (Q:=λ_ Z=>∃G,Z= { O with heap:=G}/\Heap.FlyingW B X.outer e (.ref C) t G/\O.heap.UpToSlots G) L D.fr J λG g up=>⟨G,rfl,g,up⟩)) (λ_ Z z=>?_) λ_ _ z=>z
 obtain⟨⟨G,rfl,g,up⟩,kd⟩:=z;obtain⟨u,k1,k2⟩:=D.un I x.un up ff g.1 kB tB;obtain⟨o2,e2,_⟩:=g.there;exact⟨C,e,H',dx,rfl,⟨x.os.trans I.os,x.bare,u,B,t,g,k1,k2,hB⟩,⟨o2,e2,(kd.get he e2).trans hdx⟩,q⟩
def IsDef.madeD(D:IsDef X E)(I:Ac X ad σ H s){G:Obj}{vs:Array yU}{Z:yU}(n0:X.s₀.heap.get? e=none)(ne:H e=none)(O:s.heap.get? e=some G)(hc:G.cls= .ref C)(hd:G.data= .fields vs)(h1:vs[1]? =some .none)(h0:vs[0]? =some Z)(q:E (.ref C) G.dict H):X.xe (.ref e) s:=by
 refine D.xe _ _ ?_;have i0:X.A.frames=some (X.env::X.outer):=by rw[<-D.stk];exact I.ok.frames
 have i4:∀env∈(X.env::X.outer),∀b,env.frame=some b->b∈e::AD (X.env::X.outer):=λenv O b J=> .tail _ (ZM.mpr ⟨env,O,J⟩)
 have i5:s.heap.FunFrames X.base (X.env::X.outer):=by rw[<-D.stk];exact I.stack
 have ff:=PySem.W.funFrames_hide i5 i4;refine Zf ((N8 _ _).any (wpAny_leaving_firstW (Q:=λ_ s2=>∃h',s2= { s with heap:=h'}/\Heap.LeftW (PySem.W.hideAll s.heap (e::AD (X.env::X.outer))) (X.env::X.outer) e G.cls Z s.heap h') i0 ff D.fr O (λb o q=>PySem.W.of_hideAll _ q) (PySem.W.hideAll_none _ (.head _)) hd h1 h0 λh' z=>⟨h',rfl,z⟩)) (λ_ s2 z=>?_) λ_ _ z=>z
 obtain⟨⟨h',rfl,k1,⟨_,_,k2⟩,k3,k4⟩,kd⟩:=z;have gB:∀b o,s.heap.get? b=some o->b≠e->b ∉ AD X.stack->(PySem.W.hideAll s.heap (e::AD (X.env::X.outer))).get? b=some o:=λb o g m n=>PySem.W.hideAll_get _ g (by
  rw[<-D.stk];intro z;rcases Z4.mp z with q | q
  .exact m q
  .exact n q)
 have nx:∀b,b ∉ X.ex:=λb z=>by rw[D.ex]at z;cases z
 have be:∀b o,X.s₀.heap.get? b=some o->b≠e:=λb o g z=>by rw[z,n0]at g;cases g
 have kB:∀b o,X.s₀.heap.get? b=some o->X.H₀ b=none->b ∉ AD X.outer->(PySem.W.hideAll s.heap (e::AD (X.env::X.outer))).get? b=some o:=λb o g m n=>gB b o (I.base.keep b o g m n (nx b)) (be b o g) (D.above I g n)
 have tB:∀b o,X.s₀.heap.get? b=some o->b ∉ AD X.outer->∃o',(PySem.W.hideAll s.heap (e::AD (X.env::X.outer))).get? b=some o':=λb o g n=>by
  obtain⟨o1,e1⟩:=I.base.there b o g (nx b);exact⟨o1,gB b o1 e1 (be b o g) (D.above I g n)⟩
 have u:=D.un0 (s':=s) (H':=H) (h':=h') (B:=PySem.W.hideAll s.heap (e::AD (X.env::X.outer))) I (Un.kept λ_ _ z=>z) k4 (by rw[D.stk];exact ff) k1 kB tB;have i6:h'.TracedW (PySem.W.hideAll s.heap (e::AD (X.env::X.outer))) e (.ref C) Z:=hc ▸ k3;have fl:Heap.FlyingW (PySem.W.hideAll s.heap (e::AD (X.env::X.outer))) X.outer e (.ref C) Z h':=⟨k1,PySem.W.hideAll_none _ (.head _),k2,i6⟩;obtain⟨o2,e2,_⟩:=fl.there;refine⟨C,e,H,G.dict,rfl,⟨I.os,I.bare,u,_,_,fl,kB,tB,λa o ea=>(I.hok a o ea).stay (λb u J eb=>?_) (λ_ z=>z) λ_ _ z=>z⟩,⟨o2,e2,kd.get O e2⟩,q⟩;have L:H b≠none:=by
  rcases J with rfl | J
  .rw[ea];exact λz=>nomatch z
  .rw[J];exact λz=>nomatch z
 exact gB b u eb (λz=>L (z ▸ ne)) λz=>L (I.stkFree b z)
def IsDef.made(D:IsDef X E)(I:Ac X ad σ H s){J:Heap}{vs:yX}(g:Heap.MadeExcOf s.heap J e (.ref C) vs)(q:E (.ref C) none H):X.xe (.ref e) { s with heap:=J}:=by
 obtain⟨t,Z,_,_⟩:=g.there;have n0:X.s₀.heap.get? e=none:=by
  cases z:X.s₀.heap.get? e with
  |none=>rfl
  |some o=>
   obtain⟨o1,L⟩:=I.base.there e o z (by rw[D.ex];simp);rw[g.new]at L;cases L
 have O:H e=none:=by
  cases z:H e with
  |none=>rfl
  |some o=>
   obtain⟨u,G⟩:=ObjOk.there (I.hok e o z);rw[g.new]at G;cases G
 exact D.madeD (I.kept g.keeps) n0 O Z rfl rfl rfl rfl q
end
section
open PySem PySem.Spec PyProof.Rows PySem.W Builtin Builtin.ObjectAttr Builtin.Getset_descriptor
def ExcAt(h:Heap)(x D:yQ):Prop:=∃g,h.get? x=some g/\g.cls= .ref D
def ExcAt.type{M:Model}{h:Heap}{x D:yQ}(I:ExcAt h x D):Looks M h (typeOf (.ref x)) (.ref D):=
 match I with | ⟨_,g,z⟩=>z ▸(Looks.ld g).andThen .now
structure EC(K:Frag)(D:yQ):Prop where
 ga:findIn K (.ref D) "__getattribute__"=some (some (.builtin "BaseException.__getattribute__"))
 gt:findIn K (.ref D) "__getattr__"=some none
 cl:(clsIn K D).isSome=true
 ca:findIn K (.ref D) "__class__"=some (some (.builtin "object.__class__"))
 cn:specialIn K (.builtin "object.__class__") "__get__"=some (some (.builtin "getset_descriptor.__get__"))
 tk:takesIn K (.builtin "object.__class__")=some true
 ob:mroIn K D (.type "object")=some true
 bx:mroIn K D (.type "BaseException")=some true
variable{prog:yO}{w:yK}{A:yL}{E:yY}{s:yR}{K:Frag}{x D:yQ}
def Ty{M:Model}{T:String}{h:Heap}(X:K.In h)(I:ExcAt h x D)(e:mroIn K D (.type T)=some true):Looks M h (isInstance (.ref x) (.type T)) true:=I.type.andThen (looks_mroIn X e)
def Tz{M:Model}{h:Heap}(O:EC K D)(X:K.In h)(I:ExcAt h x D):Looks M h (Builtin.ObjectAttr.find (.ref x) (.ref D) "__class__") (.bind (.builtin "getset_descriptor.__get__") (.builtin "object.__class__")):=by
 have d:Looks M h (Builtin.ObjectAttr.dataDescriptor? (some (.builtin "object.__class__")) (some (.builtin "getset_descriptor.__get__"))) (some (.builtin "getset_descriptor.__get__",.builtin "object.__class__")):=(looks_takesIn X O.tk).andThen .now;have g:Looks M h (Builtin.ObjectAttr.getOf (some (.builtin "object.__class__"))) (some (.builtin "getset_descriptor.__get__")):=looks_specialIn X O.cn;exact(looks_findIn X O.ca).andThen (g.andThen (d.andThen (Looks.tag .now)))
def TC{R:Result->yR->Prop}{z:yU}(O:EC K D)(X:K.In s.heap)(I:ExcAt s.heap x D)(h:R (.ok (.ret (.ref D))) s):
  codeAny (model prog w) A (.call (.builtin "getset_descriptor.__get__") ⟨[.builtin "object.__class__",.ref x,z],[]⟩) R s:=by
 cases s;have t:=I.type (M:=model prog w);have o:=looks_mroIn (M:=model prog w) X O.ob;have a:=dga_obj (.builtin "object.__class__") z x;have g:=KF.slot_gs;refine ZS g.plain KF.entry_gs (g.check _ _ _ _ _ _ _ _ KF.type_class (KF.args_gs _ _ _) ?_);have G:=KF.owner_class;unfold Builtin.«getset_descriptor.__get__» descrGet descrGetter descrCheckInstance descrNameAndClass isInstance;simp only[a,G]
 repeat (first | with_reducible refine Looks.at (by assumption) ?_ | wp_step)
 simp only[G]
 repeat (first | with_reducible refine Looks.at (by assumption) ?_ | wp_step)
 have q:(Code.builtin "object.__class__" ⟨[.ref x],[]⟩).quiet=true:=dA _ (by decide+kernel);refine⟨q,aQ KF.entry_class ?_⟩;simp only[Builtin.«object.__class__»,shownTypeOf]
 repeat (first | assumption | with_reducible refine Looks.at (by assumption) ?_ | wp_step)
set_option maxHeartbeats 1000000 in
def TD{Q:yW->yR->Prop}(O:EC K D)(X:K.In s.heap)(I:ExcAt s.heap x D)(h:Q (some (.ref D)) { s with toks:=s.toks+1}):wpAny (model prog w) A (getAttr? (.ref x) "__class__") Q E s:=by
 cases s;have L0:=I.type (M:=model prog w);have L:=looks_findIn (M:=model prog w) X O.ga;have L2:=looks_findIn (M:=model prog w) X O.gt;have Z:=Tz (M:=model prog w) O X I;have J:=Ty (M:=model prog w) X I O.bx;have b:=PySem.F.attr_ValueError.ga.bind (.ref x);have n:(Value.builtin "BaseException.__getattribute__"==Value.builtin "object.__getattribute__")=false:=by decide+kernel
 simp only[getAttr?,getAttrBy?,getAttrBy]
 repeat (any_goals (first | assumption | with_reducible refine Looks.at (by assumption) ?_ | wp_step))
 refine ZS PySem.F.attr_ValueError.ga.plain F.entry_bexc_ga ?_;have z:builtinKind "BaseException.__getattribute__"=some .slot:=by decide+kernel
 have G:splitId "BaseException.__getattribute__"=some ("BaseException","__getattribute__"):=by decide+kernel
 have g:=F.args_bexc_ga (.ref x);simp only[checkBuiltinCall,z,G]
 repeat (any_goals (first | assumption | with_reducible refine Looks.at (by assumption) ?_ | exact bq (g _) (Y4 ‹_›) | wp_step))
 refine TC O X I ?_
 repeat (any_goals (first | assumption | wp_step))
def TF(O:EC K D):KitX K (.ref x) (.ref D) (λh=>ExcAt h x D):=by
 obtain⟨cd,g⟩:=ay.mp O.cl;have at_:∃c d L,K.lookup D=some ⟨c,d,.cls cd,L⟩:=by
  unfold clsIn at g;split at g
  .rename_i z;exact⟨_,_,_,by rw[z];cases g;rfl⟩
  .cases g
 obtain⟨c,d,L,z⟩:=at_;refine⟨λ_ _ _ I=>I.type,λ_ _ X _=>?_,λh J dd i0 n i4 X G=>?_,λX I k=>TD O X I k⟩
 .exact(Looks.ld (X _ _ z)).andThen .now
 .cases e:(Value.ref D==Value.ref J)
  .rfl
  .have Z:D=J:=by simpa using e
   have:=X _ _ z;rw[Z,G]at this;cases this
end
section
def TH{K:Fgx}{mg:Str->yW}{base:Heap}(M:Mod K mg base):∃(g:List Str) (D:Str->yW),PySem.W.TopRead default g mg D base:=by
 obtain⟨D,O,z⟩:=M.blt;obtain⟨o,es,ep,ho,hd,I,G⟩:=M.glob;refine⟨es.toList.filterMap (λe=>match e.key with | .str n _=>some n | _=>none),D,⟨⟨o,es,ep,ho,hd,I,G⟩,O,M.nolimit,z,λx _ hx _ _ _=>?_⟩⟩;rw[<-G];unfold nsFind findBy;rw[<-Array.find?_toList];cases q:es.toList.find? (λe=>e.key.isStr x) with
 |none=>rfl
 |some e=>
  exfalso
  have L:=bM q;have J:=List.find?_some q;obtain⟨n,t,Z⟩:=I e (by simpa using L);refine hx (ZM.mpr ⟨e,L,?_⟩);rw[Z]at J ⊢;have:n=x:=by simpa[Value.isStr] using J
  rw[this]
abbrev BV:yX:=[.type "ValueError",.type "Exception",.type "BaseException",.type "object"]
section
variable{X:Cx}{E:XK}{st:Stmt}{rest:List Stmt}{t:TS}
def D8(D:IsDef X E){x:Str}{C:yQ}{a:yJ}{ta:TA}{np g J:Pos}(hc:X.calm=true)(hn:PySem.W.nsIn X.K mainGlobals x=some (some (.ref C)))(q:PySem.W.excIn X.K C BV "ValueError.__new__"=true)(hg:Gl X x)(ha:PA X [a] ta)
  (hdb:autoParam ((x==("__debug__" :Str))=false) S7) (he:autoParam (starEach [a] X.env=(false,eval a X.env)::starEach [] X.env) m5):
  PS X (.Raise (some (.Call (.Name x np) [a] [] g)) none J) (λ_ G H=>ta G H λvs H1=>vs.length<=sizeLine/\E (.ref C) none H1):=by
 intro ad s G H D' I h;obtain⟨Z,mb,T⟩:=TH I.ok.mod;have O:=(PySem.W.own_of_in I.ok.mod.kin T hn q).keeps I.bk;have O0:=O;obtain⟨tl,N,nm,qn,bs,hdct,sn,sub,ab,col,dd,k0,k1,k2,k3,k5,mN,hC,hN,L,TL⟩:=(PySem.W.own_of_in I.ok.mod.kin T hn q).obj;refine wpAny_Raise_call_subT (C:=C) (nm:=nm) (q:=qn) (N:=N) (bs:=bs) (bm:=tl) (hdct:=hdct) (sn:=sn) (sub:=sub) (ab:=ab) (col:=col) (dd:=dd) (k0:=k0) (k1:=k1) (k2:=k2) (k3:=k3) (k5:=k5) PySem.F.excBase_ValueError (mN:=mN)
  (TL.hasType PySem.F.excBase_ValueError.hasBase) (I.ok.hd hc) (by rw[he];rfl) L (DR I hg O.bound ⟨rfl,?_⟩ hdb)
 have hp:=ha g ad s G H _ I h;rw[he]at hp ⊢;refine Calls.evalArgs_plain (Zf hp (λus s2 ⟨vs,H1,z,rv,hl,q1⟩=>⟨rfl,by rw[<-rv.length];exact hl,z.bk _ _ hC,hN.keeps z.bk,TL.keeps z.bk,λh' e hm=>?_⟩) λ_ _ y=>y);exact D.made z hm q1
end
section
variable{P:yO}{w:yK}{K:Fgx}{mg:Str -> yW}{base:Heap}
structure A2(P:yO)(w:yK)(K:Fgx)(mg:Str->yW)(base:Heap)(n:Nat)(x:Str)(ps:List Str)(sp:Sp):Prop where
 ex:∃(f:yQ) (fd:FuncData),BK P w K mg base (Bm P w) n f fd ps sp/\mg x=some (.ref f)/\PySem.W.keepIn K (.ref f)=true/\Binds K fd ps []
def isDef_cx{N:List Str}{qual:Str}{scope:Scope}{f:yQ}{cd:yU}{A:yL}{outer:List Env}{s:yR}{H:Hp}{E:XK}:IsDef (BT (Bm P w) P w K mg base N qual scope f cd A outer s H E) E:=
 ⟨rfl,rfl,rfl,λe g h=>Zf h (λ_ _ z=>z) λ_ _ z=>z.elim⟩
def Df.fnE{x:Str}{st:Stmt}{N z:List Str}{k:Nat}{sp:Sp}(F:Df K mg x st z)(S:As N z (Am st))(len:∀vs H Q E,sp vs H Q E->vs.length=z.length)
  (g : ∀ (f : yQ) (dl : yU) (A : yL) (outer : List Env) (s : yR) (H : Hp) (vs : List V) (Q : VK) (E : XK), AN k (A.deeper (envOfC x (Am st) s.heap.objs.size f dl)) -> sp vs H Q E ->
   ∃t,PSs (BT (Bm P w) P w K mg base N x (Am st) f dl A outer s H E) (A9 st) t/\t { nx:=λ_ H'=>Q .non H',rt:=Q} (start N vs) H):A2 P w K mg base (k+1) x z sp:=by
 obtain⟨f,fd,G,Z,J⟩:=F.ex;have kp:=G.kp;obtain⟨oc,od,kV,i0,pm,an,dl,ct,L,rfl,O,D⟩:=G.ex;exact⟨f,_,HK O D S len λA outer s H vs Q E I h=>g f dl A outer s H vs Q E I h,Z,kp,J⟩
def TJ(sp:Sp)(E:XK)(t:TA):TE:=fun D H Q=>t D H λz g=>sp z g Q E
def FF{X:Cx}{E:XK}(D:IsDef X E){n:Nat}{x:Str}{ps:List Str}{sp:Sp}{e:yJ}{es:List yJ}{t:TA}{p z:Pos}(F:A2 X.prog X.w X.K X.mg X.base n x ps sp)(J:AN n X.A)(hg:Gl X x)(ha:PA X (e::es) t)
  (hdb:autoParam ((x==("__debug__" :Str))=false) S7) (Z:autoParam (starEach (e::es) X.env=(false,eval e X.env)::starEach es X.env) m5) (G:autoParam ((backTo z (starEach es X.env)).any (·.1)=false) m5):
  PE X (.Call (.Name x p) (e::es) [] z) (TJ sp E t):=by
 obtain⟨f,fd,F,hm,I,O⟩:=F.ex;refine(MU (dvs:=[]) (E:=E) F J hg hm I O .nil D.passes ha hdb Z G).weak fun L H Q q=>?_
 have e:∀g:List V,g++[]=g:=λg=>aw g
 show t L H λg H1=>sp (g++[]) H1 Q E
 simp only[e];exact q
end
abbrev FG(qual:Str)(scope:Scope)(L f:yQ)(cd:yU)(cl:List (Str×yQ)):Env:=PySem.W.envX qual scope L f cd cl
def GG(P:yO)(w:yK)(K:Fgx)(mg:Str->yW)(base:Heap)(N:List Str)(qual:Str)(scope:Scope)(f:yQ)(cd:yU)(cl:List (Str×yQ))(A:yL)(outer:List Env)(s:yR)(H:Hp)(E:XK):Cx where
 prog:=P
 w:=w
 K:=K
 mg:=mg
 base:=base
 A:=A.deeper (FG qual scope s.heap.objs.size f cd cl)
 N:=N
 s₀:=s
 H₀:=H
 env:=FG qual scope s.heap.objs.size f cd cl
 outer:=outer
 stack:=FG qual scope s.heap.objs.size f cd cl::outer
 ex:=[]
 calm:=true
 fn:=λ_=>false
 pn:=[]
 xe:=λe D=>wpAny (model P w) (A.deeper (FG qual scope s.heap.objs.size f cd cl)) (leaving (FG qual scope s.heap.objs.size f cd cl) e) (λ_ g=>Bm P w outer H s E e g) (λz g=>Bm P w outer H s E z g) D
def isDef_lam{P:yO}{w:yK}{K:Fgx}{mg:Str->yW}{base:Heap}{N:List Str}{qual:Str}{scope:Scope}{f:yQ}{cd:yU}{cl:List (Str×yQ)}{A:yL}{outer:List Env}{s:yR}{H:Hp}{E:XK}:
  IsDef (GG P w K mg base N qual scope f cd cl A outer s H E) E:=
 ⟨rfl,rfl,rfl,λe g h=>Zf h (λ_ _ z=>z) λ_ _ z=>z.elim⟩
variable{X:Cx}{ad:List (yQ × Obj)}{σ:St}{H:Hp}{s s':yR}{scope:Scope}{N':List Str}{cap:List (Option Nat)}{A:yL}{outer:List Env}{qual:Str}{f:yQ}{cd:yU}{E:XK}
def TK(I:Ac X ad σ H s)(B:AB X.env.scope X.N scope N' cap)(nc:∀x∈scope.names,x.2≠ .cell)(hd:A.handled=none)(e0:CH X.prog X.w X.K X.mg X.base A outer s' H)
  (G:∀x c v,X.env.cells.lookup x=some c->s.heap.IsCell c v->s'.heap.IsCell c v) {h1:Heap}{tk:Nat} (hn:h1.Ns s'.heap.objs.size λ_=>none) (hk:∀b o,s'.heap.get? b=some o->h1.get? b=some o):
  Ac (GG X.prog X.w X.K X.mg X.base N' qual scope f cd (AX X.env.cells scope.names []) A outer s' H E) [] (AO cap σ) H { s' with heap:=h1,toks:=tk}:=by
 have O:∀x c,(AX X.env.cells scope.names []).lookup x=some c->X.env.cells.lookup x=some c:=λx c e=>(Er _ _ e).elim id λz=>nomatch z
 have L:∀b:yQ,b ∉(GG X.prog X.w X.K X.mg X.base N' qual scope f cd (AX X.env.cells scope.names []) A outer s' H E).ex:=λb z=>absurd (show b∈([]:List yQ) from z) (by simp)
 refine⟨⟨e0.mod,B.kind,rfl,rfl,Y5 _,λx y c a b=>I.ok.inj x y c (O x c a) (O y c b),λx hx=>?_,λx c z _=>(nomatch (show false=true from z)),λ_=>hd,cH e0.frames,.inr ⟨rfl,rfl⟩,λb z=>absurd z (L b),e0.bs,e0.bsz,λb _ _=>L b,λb z=>absurd z (L b),e0.funs,e0.frf⟩,
  rfl,e0.bare,Un.kept hk,⟨_,hn,λi x v i5 h2 h3=>?_⟩,λx c h=>?_,e0.hok.fresh (Y5 _),λx c h=>I.freeC x c (O x c h),λp hp=>absurd (show p∈([]:PNs) from hp) (by simp),e0.hok.kept hk,?_⟩
 .have i4:scope.names.lookup x=some .cell\/scope.names.lookup x=some .free:=hx;rcases i4 with z | z
  .exact absurd rfl (nc _ (PySem.mem_of_lookup z))
  .have hm:=PySem.mem_of_lookup z;obtain⟨c,hc⟩:=I.ok.has x (B.free _ hm rfl);exact⟨c,EO hc _ _ hm⟩
 .have g:(AO cap σ)[i]? =some (some v):=h2;unfold AO at g;rw[YU]at g;cases q:cap[i]? with
  |none=>rw[q]at g;cases g
  |some o=>
   rw[q]at g;cases o with
   |none=>exact nomatch Zb g
   |some j=>
    have D:(match σ[j]? with | some v=>v | none=>none)=some v:=Zb g;cases qs:σ[j]? with
    |none=>rw[qs]at D;cases D
    |some v'=>
     rw[qs]at D;have hs:σ[j]? =some (some v):=by rw[qs];exact ZI some D
     obtain⟨x',e1,e2,e3,e4⟩:=B.capt i j q;have i0:N'[i]? =some x:=i5;rw[i0]at e1;cases e1;have Z:=B.free _ e3 rfl;obtain⟨m,hn,hl⟩:=I.loc;obtain⟨u,ru,lk⟩:=hl j x v e2 hs (Z.elim (λz=> .inr (.inl z)) λz=> .inr (.inr z));refine⟨u,ru,?_⟩;rcases lk with⟨lk,_⟩ | ⟨_,c,hc,ic⟩
     .have i6:X.env.scope.names.lookup x=some .local :=lk;have J:X.env.scope.names.lookup x=some .cell\/X.env.scope.names.lookup x=some .free:=Z;rw[i6]at J;rcases J with z | z<;>cases z
     .exact .inr ⟨.inr (B.own _ e3),c,EO hc _ _ e3,(G x c _ hc ic).keeps hk⟩
 .obtain⟨v,z⟩:=I.cell x c (O x c h);exact⟨v,(G x c v (O x c h) z).keeps hk⟩
 .unfold AO;show _=N'.length;rw[Y0];exact B.len
def TN(I:Ac X ad σ H s)(B:AB X.env.scope X.N scope N' cap)(nc:∀x∈scope.names,x.2≠ .cell)(co:scope.isCoroutine=false)(gen:scope.isGenerator=false){k:Nat}(hr:AN k A)(e0:CH X.prog X.w X.K X.mg X.base A outer s' H)
  (G:∀x c v,X.env.cells.lookup x=some c->s.heap.IsCell c v->s'.heap.IsCell c v) {g:Arguments}{body:yJ}{pm O:yU}{L:yQ}{te:TE}{Q:VK}
  (ho:s'.heap.get? f=some (PySem.W.kla_obj "<lambda>" qual g body scope (AX X.env.cells scope.names []) pm L O)) (i6:s'.heap.CodeRec (.ref L) qual)
  (hb:bindArgs (PySem.W.kla_fn "<lambda>" qual g body scope (AX X.env.cells scope.names []) pm (.ref L) O) ⟨[],[]⟩=pure [])
  (D:PE (GG X.prog X.w X.K X.mg X.base N' qual scope f (.ref L) (AX X.env.cells scope.names []) A outer s' H E) body te) (q:te (AO cap σ) H Q):
  codeAny (model X.prog X.w) A (.call (.ref f) ⟨[],[]⟩) (CR (Bm X.prog X.w) outer X.prog X.w H s' Q E) s':=by
 refine PySem.W.kla_callFunE hr.depth ho rfl co gen rfl i6 ?_;rw[hb];refine Y4 (wpAny_newFunctionEnv nc (λx hx=>nomatch hx) (λh1 i0 i5=>?_) B.kind);have hk:∀b o,s'.heap.get? b=some o->h1.get? b=some o:=λb o e=>i5.extBut b o (Zc (Y9 e)) (Y2 _ e)
 have hl:s'.heap.NoLimit:=e0.mod.nolimit.keeps λb o e=>(e0.bs b o e).1
 refine⟨hl.keeps hk,?_⟩;show codeAny _ _ (.expr body (FG qual scope s'.heap.objs.size f (.ref L) (AX X.env.cells scope.names []))) _ _;refine PySem.W.kla_codeExpr ?_;have J:=TK (tk:=s'.toks+([]:List (Str×yU)).length) (qual:=qual) (f:=f) (cd:= .ref L) (E:=E) I B nc hr.hd e0 G i0 hk;refine Zf (D [] _ (AO cap σ) H Q J q) (λv i4 z=>?_) λe i4 z=>z
 obtain⟨v',H',Z,rv,qv⟩:=z;exact⟨v',H',Z.os,Z.bare,Z.base,Z.hok,rv,qv⟩
end
section
variable{M:Model}{E:yY}{k:Nat}
abbrev Cx.hot(X:Cx)(A:yL):Cx:= { X with A:=A,calm:=false,xe:=λ_ _=>False}
section
variable{X:Cx}{ad:List (yQ × Obj)}{σ:St}{H H':Hp}{s s':yR}
def Ac.hot(I:Ac X ad σ H s){A:yL}(g:A.frames=some X.stack):Ac (X.hot A) ad σ H s:=
 ⟨⟨I.ok.mod,I.ok.kind,I.ok.glob,I.ok.blt,I.ok.above,I.ok.inj,I.ok.has,I.ok.cab,λz=>(nomatch (show false=true from z)),g,I.ok.stk,I.ok.exf,I.ok.bs,I.ok.bsz,I.ok.noex,I.ok.exfs,I.ok.funs,I.ok.frf⟩,I.os,I.bare,I.base,I.loc,I.cell,I.free,I.freeC,I.pin,I.hok,I.len⟩
def Ac.cool{A:yL}(ok:X.Ok)(I:Ac (X.hot A) ad σ H s):Ac X ad σ H s:=⟨ok,I.os,I.bare,I.base,I.loc,I.cell,I.free,I.freeC,I.pin,I.hok,I.len⟩
def Oa{outer:List Env}{B h':Heap}(u:Un (AD outer) [] H H' s.heap s'.heap)(kB:∀b o,s.heap.get? b=some o->H b=none->b ∉ AD outer->B.get? b=some o)
  (tB:∀b o,s.heap.get? b=some o->b ∉ AD outer->∃O,B.get? b=some O) (ff:s'.heap.FunFrames B outer) (st:B.StaysIn h') (up:s'.heap.UpToSlots h'):Un (AD outer) [] H H' s.heap h':=by
 have D:∀b,b∈AD outer->∀o,s'.heap.get? b=some o->∀Z,o.data≠ .fields Z:=λb g o eo=>by
  obtain⟨_,O,G,hd⟩:=ff.mem g;rw[eo]at G;cases G;exact hd
 refine⟨λb o e n g _=>st b o (kB b o e n g),λb o e n g J=>?_,u.free,λb o e J=>?_,u.tups,u.frzs,u.tbls⟩
 .obtain⟨s1,z⟩:=u.slot b o e n g J;obtain⟨L,I⟩:=up b _ z (D b g _ z);exact⟨L,I⟩
 .by_cases g:b∈AD outer
  .obtain⟨o1,z⟩:=u.there b o e J;obtain⟨L,I⟩:=up b _ z (D b g _ z);exact⟨_,I⟩
  .obtain⟨o1,z⟩:=tB b o e g;exact⟨o1,st b o1 z⟩
def Ac.track(I:Ac X ad σ H s){a:yQ}{o:HO}(na:a≠X.env.locals)(nc:∀x c,X.env.cells.lookup x=some c->c≠a)(J:∀p∈X.pn++ad,p.1≠a)(G:X.s₀.heap.get? a=none)(O:H a=none)
  (Z:ObjOk X.prog X.w (upd H a o) s.heap a o):Ac X ad σ (upd H a o) s:=by
 have ne:∀b u,H b=some u->b≠a:=λb u e z=>by rw[z,O]at e;cases e
 refine⟨I.ok,I.os,I.bare,⟨I.base.keep,I.base.slot,λb ob e n hx=>?_,I.base.there,λb g q=>?_,λb ob g q=>?_,λb L q=>?_⟩,I.loc,I.cell,?_,λx c e=>?_,λp D=>?_,λb ob e=>?_,I.len⟩
 .rw[Aq (λz=>by rw[z,G]at e;cases e)];exact I.base.free b ob e n hx
 .have:=I.base.tups b g q;rw[Aq (ne b _ this)];exact this
 .have:=I.base.frzs b ob g q;rw[Aq (ne b _ this)];exact this
 .obtain⟨m,e⟩:=I.base.tbls b L q;exact⟨m,by rw[Aq (ne b _ e)];exact e⟩
 .rw[Aq (Zd na)];exact I.free
 .rw[Aq (nc x c e)];exact I.freeC x c e
 .obtain⟨e,n,r⟩:=I.pin p D;exact⟨e,by rw[Aq (J p D)];exact n,r⟩
 .by_cases z:b=a
  .subst z;rw[Ag]at e;cases e;exact Z
  .rw [Aq z] at e;refine(I.hok b ob e).stay (λ_ _ _ q=>q) (λc q=>?_) λc g q=>?_
   .rw[Aq (ne c _ q)];exact q
   .rw[Aq (ne c _ q)];exact q
def TQ{A:yL}{i:Nat}{x:Str}{i4:Pos}{Q:Unit->yR->Prop}(I:Ac X ad σ H s)(hN:X.N.Nodup)(hi:X.N[i]? =some x)(D:X.env.kindOf x=some .local)
  (h:∀s',Ac X ad (σ.set i none) H s'->Q () s'):wpAny M A (do bindName X.env x .none;unbindBehindTheSuite X.env x i4) Q E s:=by
 obtain⟨m,hn,hl⟩:=id I.loc;have L:(X.env.scope.kind== .class || (X.env.scope.kind== .module && X.env.locals !=X.env.globals))=false:=by rw[I.ok.kind];rfl
 have cne:=I.cne;refine wpAny_nameGoes_keeps D hn L λh' v i0 g=>?_
 obtain⟨oL,_,_,i5,_⟩:=id hn;have nl:∀b o,X.s₀.heap.get? b=some o->b≠X.env.locals:=λb o e=>Zc (YX (Y9 e) I.ok.above)
 refine h _ ⟨I.ok,I.os,I.bare,⟨λb o e n hb D=>(g.2 b (nl b o e)).trans (I.base.keep b o e n hb D),λb o e n hb D=>?_,I.base.free,λb o e D=>?_,I.base.tups,I.base.frzs,I.base.tbls⟩,⟨_,i0,λj y v' J Z e3=>?_⟩,λy c e=>?_,I.free,I.freeC,λp hp=>?_,λb ob e=>?_,by simpa using I.len⟩
 .obtain⟨sl,J⟩:=I.base.slot b o e n hb D;exact⟨sl,(g.2 b (nl b o e)).trans J⟩
 .obtain⟨o',J⟩:=I.base.there b o e D;exact⟨o',(g.2 b (nl b o e)).trans J⟩
 .have hj:j≠i:=λz=>by
   subst z;have O:j<σ.length:=by rw[I.len];exact(Y3.mp hi).1
   rw[bV O]at Z;cases Z
  rw[cF (Zd hj)]at Z;obtain⟨u',r',q⟩:=hl j y v' J Z e3;refine⟨u',r',?_⟩;rcases q with⟨k,e⟩ | ⟨k,c,e,z⟩
  .refine .inl ⟨k,?_⟩;have:y≠x:=λe=>hj (J9 hN J (e ▸ hi))
   simp[this,e]
  .exact .inr ⟨k,c,e,z.sameBut g (cne y c e)⟩
 .obtain⟨w',z⟩:=I.cell y c e;exact⟨w',z.sameBut g (cne y c e)⟩
 .obtain⟨e,n,ne,nf,d⟩:=I.pin p hp;exact⟨(g.2 p.1 ne).trans e,n,ne,nf,d⟩
 .refine(I.hok b ob e).stay (λc w' G q=>(g.2 c ?_).trans q) (λ_ q=>q) λ_ _ q=>q
  rintro rfl;rcases G with G | G
  .rw[<-G,I.free]at e;cases e
  .rw[I.free]at G;cases G
end
def TR{A:yL}{s:yR}{K:Fgx}{e C D:yQ}{Q:Bool->yR->Prop}(X:K.In s.heap)(I:ExcAt s.heap e C)(hM:PySem.W.mroIn K C (.ref D)=some true)
  (G:PySem.W.mroIn K D (.type "BaseException")=some true) (Z:PySem.W.typeIn K (.ref D)=some (.type "type")) (J:Q true s):wpAny M A (excMatches (.ref e) (.ref D)) Q E s:=by
 have O:=I.type (M:=M);have L1:=PySem.W.looks_mroIn (M:=M) X hM;have L2:=PySem.W.looks_mroIn (M:=M) X G;have L3:=PySem.W.looks_typeIn (M:=M) X Z;have LI:PySem.W.Looks M s.heap (isType (.ref D)) true:=by
  unfold PySem.W.mroIn at G;obtain⟨cd,z,_⟩:=Option.bind_eq_some_iff.mp G;unfold PySem.W.clsIn at z;split at z
  .rename_i c' d' i0 i4 ho;intro A' Q' E' s' k q;unfold isType loadHead;exact Y1 (fe (k _ _ (X _ _ ho)) (Y4 q))
  .cases z
 have L:PySem.W.Looks M s.heap (isExcClass (.ref D)) true:=LI.andThen L2;obtain⟨hh,g,d,tk,os⟩:=s;unfold excMatches isInstance;refine Y1 (Y1 (L3.at ?_));rw[tc_notTuple];refine Y4 ?_;simp only[au,bC];refine Y1 (Y4 ?_);simp only[cO,eM];refine Y1 (Y1 (Y1 (L.at ?_)));simp only[Bool.not_true,au,bC];refine Y4 (Y4 ?_);refine Y1 (O.at ?_);refine Y1 (Y1 (Y1 (L1.at ?_)));simp only[bj];exact Y4 (Y4 (Y4 J))
structure RoomQ(k:Nat)(A:yL):Prop where
 dp:A.depth+3 * k+5<recursionLimit
 un:A.units+16 * k+200<cLine
 gd:A.guards=some []
def AN.q{A:yL}(r:AN k A):RoomQ k A:=⟨r.dp,r.un,r.gd⟩
def RoomQ.mark{A:yL}(r:RoomQ k A)(h:yW):RoomQ k (A.mark h):=⟨r.dp,r.un,r.gd⟩
def RoomQ.room{A:yL}(r:RoomQ k A):AN k { A with handled:=none}:=⟨rfl,r.dp,r.un,r.gd⟩
def RoomQ.mono{j:Nat}{A:yL}(r:RoomQ k A)(h:j<=k):RoomQ j A:=⟨by have:=r.dp;lia,by have:=r.un;lia,r.gd⟩
def Ob{P:yO}{w:yK}{K:Fgx}{mg:Str->yW}{base:Heap}{f:yQ}{name qual:Str}{g:Arguments}{body:List Stmt}{scope:Scope}{dV kV L pm dl ct oc:yU}{an od:Option yQ}
  {i0:Array (yW)}{N O:List Str} (lk:K.lookup f=some ⟨oc,od,.func (PySem.W.fnOf name qual g body scope dV kV L pm an dl ct),i0⟩) (i4:PySem.W.codeIn K dl qual=true) (S:As N O scope)
  {A:yL}{outer:List Env}{s:yR}{H:Hp}{args:Args}{us:yX}{vs:List V}{R:Result->yR->Prop} (hr:RoomQ (k+1) A) (e0:CH P w K mg base A outer s H)
  (hb:BindsTo s (PySem.W.fnOf name qual g body scope dV kV L pm an dl ct) args (O.zip us)) (r:At vs us) (hl:vs.length=O.length)
  (z : ∀ J, Ac (BT CX0 P w K mg base N qual scope f dl { A with handled := none } outer s H E0) [] (start N vs) H J -> wpAny (model P w) (A.deeper (envOfC qual scope s.heap.objs.size f dl)) (execs body (envOfC qual scope s.heap.objs.size f dl))
   (λfl s'=>match fl with | .ret u=>R (.ok (.ret u)) s' | .next=>R (.ok (.ret .none)) s' | _=>False) (λ_ _=>False) J):
  codeAny (model P w) A (.call (.ref f) args) R s:=by
 have KX:K.In s.heap:=e0.mod.kin.keeps λb o e=>(e0.bs b o e).1
 have Z:s.heap.NoLimit:=e0.mod.nolimit.keeps λb o e=>(e0.bs b o e).1
 have D:∀y∈O.zip us,scope.names.lookup y.1=some .local \/(scope.names.lookup y.1=some .cell/\((cellsFrom (s.heap.objs.size+1) scope.names []).lookup y.1).isSome=true):=fun⟨n,v⟩ hy=>by
  rcases S.par n (bB hy).1 with q | q
  .exact .inl q
  .exact .inr ⟨q,PySem.W.cellsFrom_some _ _ _ (.inl q)⟩
 refine fg hr.room.depth (KX _ _ lk) rfl S.co S.gen rfl (PySem.W.codeRec_of KX i4) (hb _ _ _ _ ?_);refine dF S.kind D λenv he J x=>?_
 subst he;refine⟨Z.keeps x.toInCall.keep,codeAny_func ?_⟩;have e1:CH P w K mg base { A with handled:=none} outer s H:=⟨e0.frames,e0.mod,e0.bs,e0.bsz,e0.funs,e0.frf,e0.hok,e0.bare⟩;have I:Ac (BT CX0 P w K mg base N qual scope f dl { A with handled:=none} outer s H E0) [] (start N vs) H J:=M0 S rfl e1 hl r x;refine Zf (z J I) (λfl s' G=>?_) λe s' G=>G.elim
 cases fl with
 |ret u=>exact G
 |next=>exact G
 |brk=>exact G.elim
 |cont=>exact G.elim
end
def Lc(Q:VK):VK:=λv g=>∀t,g t=none->Q (.ref t) (upd g t (.tup [.str "told",v]))
section
variable{P:yO}{w:yK}{K:Fgx}{mg:Str -> yW}{base:Heap}
structure FH(P:yO)(w:yK)(K:Fgx)(mg:Str->yW)(base:Heap)(n:Nat)(x:Str)(ps:List Str)(sp:Sp):Prop where
 ex:∃(f:yQ) (fd:FuncData),(∀(A:yL) (outer:List Env) (s:yR) (H:Hp) (args:Args) (us:yX) (vs:List V) (Q:VK),RoomQ n A->CH P w K mg base A outer s H->BindsTo s fd args (ps.zip us)->At vs us->sp vs H Q E0->
  codeAny (model P w) A (.call (.ref f) args) (CR CX0 outer P w H s Q E0) s)/\(∀vs H Q E,sp vs H Q E->vs.length=ps.length)/\mg x=some (.ref f)/\PySem.W.keepIn K (.ref f)=true/\Binds K fd ps []
structure GH(P:yO)(w:yK)(K:Fgx)(mg:Str->yW)(base:Heap)(n:Nat)(x:Str)(ps:List Str)(sp:List Env->yR->Sp):Prop where
 ex:∃(f:yQ) (fd:FuncData),(∀(A:yL) (outer:List Env) (s:yR) (H:Hp) (args:Args) (us:yX) (vs:List V) (Q:VK),AN n A->CH P w K mg base A outer s H->BindsTo s fd args (ps.zip us)->At vs us->sp outer s vs H Q E0->
  codeAny (model P w) A (.call (.ref f) args) (CR CX0 outer P w H s Q E0) s)/\mg x=some (.ref f)/\PySem.W.keepIn K (.ref f)=true/\Binds K fd ps []
def Df.fnQ{x:Str}{st:Stmt}{N L:List Str}{k:Nat}{sp:Sp}(F:Df K mg x st L)(S:As N L (Am st))(len:∀vs H Q E,sp vs H Q E->vs.length=L.length)
  (g : ∀ (f : yQ) (dl : yU) (A : yL) (outer : List Env) (s : yR) (H : Hp) (vs : List V) (Q : VK), RoomQ k (A.deeper (envOfC x (Am st) s.heap.objs.size f dl)) -> sp vs H Q E0 ->
   ∃t,PSs ((BT CX0 P w K mg base N x (Am st) f dl { A with handled:=none} outer s H E0).hot (A.deeper (envOfC x (Am st) s.heap.objs.size f dl))) (A9 st) t/\t { nx:=λ_ H'=>Q .non H',rt:=Q} (start N vs) H):
  FH P w K mg base (k+1) x L sp:=by
 obtain⟨f,fd,hF,hm,hb⟩:=F.ex;have kp:=hF.kp;obtain⟨oc,od,kV,i5,pm,an,dl,ct,i4,rfl,lk,i0⟩:=hF.ex;refine⟨f,_,λA outer s H args us vs Q hr e0 O r G=>?_,len,hm,kp,hb⟩;refine Ob lk i0 S hr e0 O r (len _ _ _ _ G) λs1 I=>?_
 have Z:RoomQ k (A.deeper (envOfC x (Am st) s.heap.objs.size f dl)):=have z:=hr.room.deeper (envOfC x (Am st) s.heap.objs.size f dl);⟨z.dp,z.un,z.gd⟩;obtain⟨t,ht,hq⟩:=g f dl A outer s H vs Q Z G;refine Zf (ht [] s1 (start N vs) H _ (I.hot (cH e0.frames)) hq) (λfl s' D=>?_) λe s' D=>D
 cases fl with
 |ret u=>
  obtain⟨v,σ',H',J,rv,q⟩:=D;exact⟨v,H',J.os,J.bare,J.base,J.hok,rv,q⟩
 |next=>
  obtain⟨σ',H',J,q⟩:=D;exact⟨.non,H',J.os,J.bare,J.base,J.hok,rfl,q⟩
 |brk=>obtain⟨_,_,_,q⟩:=D;exact q
 |cont=>obtain⟨_,_,_,q⟩:=D;exact q
def TU{X:Cx}{n:Nat}{x:Str}{ps:List Str}{sp:Sp}{e:yJ}{es:List yJ}{t:TA}{p g:Pos}(F:FH X.prog X.w X.K X.mg X.base n x ps sp)(hr:RoomQ n X.A)(hg:Gl X x)(ha:PA X (e::es) t)
  (hdb:autoParam ((x==("__debug__" :Str))=false) S7) (he:autoParam (starEach (e::es) X.env=(false,eval e X.env)::starEach es X.env) m5) (O:autoParam ((backTo g (starEach es X.env)).any (·.1)=false) m5):
  PE X (.Call (.Name x p) (e::es) [] g) (Nz sp t):=by
 obtain⟨f,fd,F,G,hm,hk,hb⟩:=F.ex;intro ad s σ H Q I h;refine ZH (DR I hg hm ?_ hdb);refine PySem.W.callWith_K (h₀:=X.base) I.ok.mod.kin hk (Ap (ha g ad s σ H _ I h) λJ Z ⟨vs,H1,L,r,q⟩=>⟨L.kIn,?_⟩) he O;have hl:J.length=ps.length:=by rw[<-r.length];exact G _ _ _ _ q
 have D:=hb Z J L.kIn (by rw[aw];exact hl);rw[aw]at D;refine aX (ae (F X.A X.stack Z H1 ⟨J,[]⟩ J vs Q hr L.env0 D r q) λr s' z=>?_);cases r with
 |error e=>exact z.elim
 |ok fl=>
  cases fl with
  |ret u=>exact L.after z
  |next=>exact False.elim z
  |brk=>exact False.elim z
  |cont=>exact False.elim z
end
abbrev Oc(wn:Str)(G J:Nat)(I p2 p3 L Z p6 O p8 p9 g D z:Pos):Stmt:=
 .Try [.Return (some (.Tuple [.Constant (.str "told") G I,.Call (.Name "_law_call" p2) [] [] p3] J L)) Z]
  [.ExceptHandler (some (.Name "MainError" p6)) (some "_law_e") [.Return (some (.Call (.Name wn O) [.Name "_law_e" p8] [] p9)) g] D] [] [] z
def Iy(c:yQ)(q:Str):HO:= .ext λh=>h.CodeRec (.ref c) q
def TabIn(H:Hp)(P:yQ)(q:Str):Prop:=∃z:Array yU,H P=some (.tbl z)/\TriplesOk z.toList/\∀g v,codeAmong g z.toList=some v->∃c,v= .ref c/\H c=some (Iy c q)
def TV{l:yX}{a b:Nat}{c:yU}(h:TriplesOk l):TriplesOk (l++[rawInt a,rawInt b,c]):=by
 fun_induction TriplesOk l with
 |case1=>exact trivial
 |case2 x t y t' z rest ih=>exact ih h
 |case3=>exact h.elim
def TX{l:yX}{a b:Nat}{c:yU}{g:Pos}{v:yU}(h:TriplesOk l)(e:codeAmong g (l++[rawInt a,rawInt b,c])=some v):codeAmong g l=some v\/v=c:=by
 fun_induction TriplesOk l with
 |case1=>
  have D:codeAmong g [rawInt a,rawInt b,c]=some v:=e;unfold codeAmong rawInt at D;dsimp only at D;split at D
  .exact .inr (Zb D).symm
  .unfold codeAmong at D;cases D
 |case2 x t y t' z rest ih=>
  rw[cons_append,cons_append,cons_append]at e;unfold codeAmong at e ⊢;split at e
  .rename_i q;rw[Z1 q];exact .inl e
  .rename_i q;rw[YY q];exact ih h e
 |case3=>exact h.elim
section
variable{X:Cx}{ad:List (yQ × Obj)}{σ:St}{H:Hp}{s:yR}{scope:Scope}{N':List Str}{cap:List (Option Nat)}{P c:yQ}{ql:Str}{params:Arguments}{body:yJ}{pos:Pos}
def TY(I:Ac X ad σ H s)(hT:TabIn H P ql)(Z:X.env.code= .ref c)(hC:PySem.W.CodeHd X.base c P)(n9:X.base.BuiltinsAt X.mg P)(B:AB X.env.scope X.N scope N' cap)
  (hq:X.env.qual++ "<lambda>"=ql) (j6:defaultsOf params X.env=([],[])) {Q:VSP}{E:VSP}
  (h : ∀ s1 J f D pm G, Ac X ad σ J s1 -> TabIn J P ql -> (∀ b o, H b = some o -> b ≠ P -> J b = some o) -> J f = none -> f ∉ AD X.stack ->
   s1.heap.get? f=some (PySem.W.kla_obj "<lambda>" ql params body scope (AX X.env.cells scope.names []) pm D G)->J D=some (Iy D ql)->Q (.ref f) s1):
  wpAny (model X.prog X.w) X.A (eval (.Lambda params body scope pos) X.env) Q E s:=by
 obtain⟨ps,hP,ht,j2⟩:=hT;have i0:s.heap.get? P=some (PySem.W.tabObj ps):=I.hok P _ hP;have l7:closureFor scope X.env=pure (AX X.env.cells scope.names []):=KG λy hy hf=>I.ok.has y.1 (B.free y hy hf)
 have hg:s.heap.Ns mainGlobals X.mg:=I.mod.glob.keeps I.bk;have l6:=hC.keeps I.bk;have n5:mainGlobals≠P:=λq=>by
  obtain⟨o,es,ep,e,hd,_⟩:=hg;rw[q,i0]at e;cases e;cases hd
 obtain⟨bm,ob,b1,b2,b3,b4,b5,b6⟩:=n9;have j0:s.heap.BuiltinsAt X.mg P:=⟨bm,ob,b1,b2,b3,b4,I.bk _ _ b5,b6⟩;have i9:∀b∈AD X.stack,b<s.heap.objs.size:=λb hb=>by
  obtain⟨_,o,ho,_⟩:=I.stack.mem hb;exact Y9 ho
 refine PySem.W.kla_eval j6 ?_;rw[hq];cases hf:codeAmong pos ps.toList with
 |some cv=>
  obtain⟨D,rfl,r8⟩:=j2 pos cv hf;refine PySem.W.kla_makeFunctionHit l7 I.ok.glob hg Z l6 i0 ht hf j0 λG h' tk hk j8=>?_
  have l9:∀b o,s.heap.get? b=some o->(h'.push (PySem.W.kla_obj "<lambda>" ql params body scope (AX X.env.cells scope.names []) ((X.mg "__name__").getD .none) D G)).get? b=some o:=λb o e=>Y2 _ (hk b o e)
  refine h _ H h'.objs.size D _ G (I.kept (t':=tk) l9) ⟨ps,hP,ht,j2⟩ (λb o e _=>e) (I.hok.fresh j8) (λz=>?_) (YV _ rfl) r8;exact absurd (YX (i9 _ z) j8) (Z8 _)
 |none=>
  refine PySem.W.kla_makeFunction l7 I.ok.glob hg Z l6 i0 ht hf n5 j0 λD G h' tk hx O j9 i7 j7=>?_
  have L:s.heap.objs.size<=h'.objs.size:=ZZ (bO O j9);have i5:∀b o,b≠P->s.heap.get? b=some o->(h'.push (PySem.W.kla_obj "<lambda>" ql params body scope (AX X.env.cells scope.names []) ((X.mg "__name__").getD .none) D G)).get? b=some o:=λb o n e=>Y2 _ (hx b o n e)
  have i8:P<s.heap.objs.size:=Y9 i0;have cP:D≠P:=λz=>by rw[z]at O;exact absurd (YX i8 O) (Z8 _)
  have o9:H D=none:=I.hok.fresh O;have ne:∀b o,H b=some o->b≠D:=λb o e z=>by rw[z,o9]at e;cases e
  let ps':Array yU:=ps++ #[rawInt pos.line,rawInt pos.col,.ref D]
  let J:Hp:=upd (upd H P (.tbl ps')) D (Iy D ql)
  have j4:J D=some (Iy D ql):=Ag;have j5:J P=some (.tbl ps'):=by show upd _ D _ P=_;rw[Aq (Zd cP),Ag]
  have i4:∀b,b≠P->b≠D->J b=H b:=λb n m=>by show upd _ D _ b=_;rw[Aq m,Aq n]
  have g:∀b o,H b=some o->b≠P->J b=some o:=λb o e n=>by rw[i4 b n (ne b o e)];exact e
  have un:Un (AD X.stack) [] H J s.heap (h'.push (PySem.W.kla_obj "<lambda>" ql params body scope (AX X.env.cells scope.names []) ((X.mg "__name__").getD .none) D G)):=by
   have nP:∀b,H b=none->b≠P:=λb n z=>by rw[z,hP]at n;cases n
   have o8:∀b o,s.heap.get? b=some o->b≠D:=λb o e z=>by have:=Y9 e;rw[z]at this;exact absurd (YX this O) (Z8 _)
   refine⟨λb o e n _ _=>i5 b o (nP b n) e,λb o e n _ _=>⟨o.slots,i5 b o (nP b n) e⟩,λb o e n _=>by rw[i4 b (nP b n) (o8 b o e)];exact n,λb o e _=>?_,λb xs q=>g b _ q (λz=>by rw[z,hP]at q;cases q),
    λb o' xs q=>g b _ q (λz=>by rw[z,hP]at q;cases q),λb qs q=>?_⟩
   .by_cases z:b=P
    .subst z;exact⟨_,Y2 _ j7⟩
    .exact⟨o,i5 b o z e⟩
   .by_cases z:b=P
    .subst z;rw[hP]at q;cases q;exact⟨_,j5⟩
    .exact⟨#[],by rw[g b _ q z];simp⟩
  have hok:HOk X.prog X.w J (h'.push (PySem.W.kla_obj "<lambda>" ql params body scope (AX X.env.cells scope.names []) ((X.mg "__name__").getD .none) D G)):=λb o e=>by
   by_cases z:b=P
   .subst z;rw[j5]at e;cases e;exact Y2 _ j7
   .by_cases z2:b=D
    .subst z2;rw [j4] at e;cases e;refine⟨i7.push _,?_,λg1 g2 x k=>?_⟩
     .obtain⟨c2,oc,vs,t,e2,j3,_⟩:=i7;cases e2;exact⟨oc,Y2 _ j3⟩
     .obtain⟨c2,oc,vs,t,e2,j3,r⟩:=x;cases e2;exact⟨_,oc,vs,t,rfl,k oc j3,r⟩
    .rw [i4 b z z2] at e;refine(I.hok b o e).stay (λd u hd q=>i5 d u (λy=>?_) q) (λd q=>g d _ q λy=>by rw [y,hP] at q;cases q) λd xs q=>g d _ q λy=>by rw [y,hP] at q;cases q
     rcases hd with hd | hd
     .exact z (hd ▸ y)
     .rw[y,hP]at hd;cases hd
  have I1:Ac X ad σ J { s with heap:=h'.push (PySem.W.kla_obj "<lambda>" ql params body scope (AX X.env.cells scope.names []) ((X.mg "__name__").getD .none) D G),toks:=tk}:=
   I.call' (s':= { s with heap:=h'.push (PySem.W.kla_obj "<lambda>" ql params body scope (AX X.env.cells scope.names []) ((X.mg "__name__").getD .none) D G),toks:=tk}) (ch:=[]) rfl un hok I.bare λb z=>absurd z (by simp)
  refine h _ J h'.objs.size D _ G I1 ⟨ps',j5,?_,λi6 v e=>?_⟩ g ?_ (λz=>?_) (YV _ rfl) j4
  .show TriplesOk (ps++ #[rawInt pos.line,rawInt pos.col,.ref D]).toList;rw[aF];exact TV ht
  .have e':codeAmong i6 (ps++ #[rawInt pos.line,rawInt pos.col,.ref D]).toList=some v:=e;rw [aF] at e';rcases TX ht e' with q | q
   .obtain⟨c2,r1,r2⟩:=j2 i6 v q;exact⟨c2,r1,g c2 _ r2 λy=>by rw[y,hP]at r2;cases r2⟩
   .exact⟨D,q,j4⟩
  .rw[i4 _ (aa (YX i8 L)) (aa j9)];exact I.hok.fresh L
  .exact absurd (YX (i9 _ z) L) (Z8 _)
end
def TZ(a b:Bool):MeetsSeq.EqGives (.bool a) (.bool b) (a==b):=λprog w A E s Q h=>PySem.SeqAt.EqAt.bool_bool a b prog w E Q h
def FI:yU->Bool
 |.bool b=>b
 |_=>false
theorem Ld:∀ {bs:List Bool}{us:yX},At (bs.map V.bl) us->us=bs.map Value.bool
 |[],_,h=>by cases h;rfl
 |b::bs,_,h=>by
  cases h with
  |cons r t=>
   have:=Ld t;subst this;have g:_=Value.bool b:=r;rw[g]
   rfl
def Od{bs:List Bool}:∀y,y∈(bs.map Value.bool).toArray->MeetsSeq.EqGives y (.bool true) (FI y):=λy z=>by
 have g:y∈bs.map Value.bool:=by simpa using z
 obtain⟨b,_,rfl⟩:=Zg.mp g;have:=TZ b true;cases b<;>exact this
section
variable{X:Cx}
inductive T0(x:V)(g:List V)(H:Hp)(Q:VK):Prop
 |mk(l:yQ)(bs:List Bool)(_:x= .ref l)(_:g=[.bl true])(_:H l=some (.lst (bs.map V.bl)))(_:Q (.int (bs.count true:Nat)) H)
def T2:Gk X "list.count" T0:=by
 intro ad s σ H x vs v us Q I G rv h;obtain⟨l,bs,rfl,rfl,hH,q⟩:=h;cases G;obtain⟨u,rfl,ru⟩:=rv.one;have g:u=Value.bool true:=ru;subst g;obtain⟨Z,r,pl,hz⟩:=I.list (Al.of hH);have e:=Ld r;subst e;obtain⟨⟨cls,dd,data,L⟩,D,z,n,hd⟩:=id pl.isList;simp only at z hd;subst z hd;refine ah PySem.F.slot_list_count ⟨_,D,rfl⟩ PySem.F.entry_list_count (PySem.F.args_list_count_2 _ _) (PySem.SeqAt.list_countAt l (bs.map Value.bool).toArray n dd L (.bool true) FI) ⟨D,λy J=>(Od y J).at _ _,?_⟩;have O:(bs.map Value.bool).toArray.toList.countP FI=bs.count true:=by
  rw[show(bs.map Value.bool).toArray.toList=bs.map Value.bool from rfl,List.countP_map];unfold List.count
  congr 1
  funext b
  cases b<;>rfl
 rw[O];exact⟨.int (bs.count true:Nat),H,I.tok _,⟨_,rfl⟩,q⟩
inductive T3(x:V)(g:List V)(H:Hp)(Q:VK):Prop
 |mk(l:yQ)(bs:List Bool)(j:Nat)(_:x= .ref l)(_:g=[.bl true])(_:H l=some (.lst (bs.map V.bl)))(_:bs.length<=1000)(_:bs[j]? =some true)(_:(∀m,m<j->bs[m]? =some false))(_:Q (.int (j:Nat)) H)
def T4:Gk X "list.index" T3:=by
 intro ad s σ H x vs v us Q I rx rv h;obtain⟨l,bs,j,rfl,rfl,hH,hs,O,J,q⟩:=h;cases rx;obtain⟨u,rfl,ru⟩:=rv.one;have D:u=Value.bool true:=ru;subst D;obtain⟨_,i0,n,r,Z⟩:=(show ObjOk X.prog X.w H s.heap l (.lst (bs.map V.bl)) from I.hok l _ hH);have e:=Ld r;subst e;have G:j<bs.length:=(Y3.mp O).1;have z:bs[j]=true:=(Y3.mp O).2;refine ah PySem.F.slot_list_index ⟨_,Z,rfl⟩ PySem.F.entry_list_index (PySem.F.args_list_index_2 _ _) (MeetsSeq.list_index l (bs.map Value.bool).toArray n (.bool true) FI Od j (by simpa using G) (by lia) (by simp[FI,z]) (λm hm L=>?_)) ⟨Z,?_⟩
 .have:=J m L;have g:bs[m]'(by simpa using hm)=false:=(Y3.mp this).2;simp[FI,g]
 .exact⟨.int (j:Nat),H,I.tok _,⟨_,rfl⟩,q⟩
end
def T5:List Str:=["plant","story","firing","hour","boiler","prices","way","set","tanks","pump","feeding","readings","start","shifts","book","amount","deed","line","text"]
def BD(K:Fgx)(M:yQ)(ds:List yQ)(i:Nat):Bool:=
 (PySem.W.findIn K (.ref (ds.getD i 0)) "__getattribute__"==some (some (.builtin "BaseException.__getattribute__"))) &&(PySem.W.findIn K (.ref (ds.getD i 0)) "__getattr__"==some none) &&(PySem.W.clsIn K (ds.getD i 0)).isSome &&
 (PySem.W.findIn K (.ref (ds.getD i 0)) "__class__"==some (some (.builtin "object.__class__"))) &&(PySem.W.specialIn K (.builtin "object.__class__") "__get__"==some (some (.builtin "getset_descriptor.__get__"))) &&(PySem.W.takesIn K (.builtin "object.__class__")==some true) &&
 (PySem.W.mroIn K (ds.getD i 0) (.type "object")==some true) &&(PySem.W.mroIn K (ds.getD i 0) (.type "BaseException")==some true) &&(PySem.W.mroIn K (ds.getD i 0) (.ref M)==some true) &&
 ((List.range 19).all λj=>PySem.W.kitOne K (.ref (ds.getD i 0)) (.ref (ds.getD j 0))==some (j==i)) &&(PySem.W.kitOne K (.ref (ds.getD i 0)) (.type "ValueError")==some true)
structure Wd(K:Fgx)(M:yQ)(ds:List yQ)(C:yQ)(word:Str):Prop where
 ex:∃i,i<19/\C=ds.getD i 0/\T5[i]? =some word/\BD K M ds i=true
section
variable{K:Fgx}{M:yQ}{ds:List yQ}{i:Nat}
def Oe(h:BD K M ds i=true):EC K (ds.getD i 0)/\PySem.W.mroIn K (ds.getD i 0) (.ref M)=some true/\(∀j,j<19->PySem.W.kitOne K (.ref (ds.getD i 0)) (.ref (ds.getD j 0))=some (j==i))/\PySem.W.kitOne K (.ref (ds.getD i 0)) (.type "ValueError")=some true:=by
 unfold BD at h;simp only[Zh,ZR]at h;obtain⟨⟨⟨⟨⟨⟨⟨⟨⟨⟨G,L⟩,I⟩,h4⟩,D⟩,Z⟩,h7⟩,O⟩,J⟩,g⟩,z⟩:=h;refine⟨⟨G,L,I,h4,D,Z,h7,O⟩,J,λj hj=>?_,z⟩;have:=Zx.mp g j (am.mpr hj);exact ZR.mp this
end
def kindWords:List Str:=["plant","story","firing","hour","boiler","prices","way","set","tanks","pump","feeding","readings","start","shifts","book","amount","no deed","line","text"]
structure WdK(K:Fgx)(M:yQ)(ds:List yQ)(C:yQ)(word:Str):Prop where
 ex:∃i,i<18/\C=ds.getD i 0/\kindWords[i]? =some word/\BD K M ds i=true
def A2.fn{P:yO}{w:yK}{K:Fgx}{mg:Str->yW}{base:Heap}{n:Nat}{x:Str}{D:List Str}{sp sp':Sp}(F:A2 P w K mg base n x D sp)(h:∀vs H Q E,sp' vs H Q E->sp vs H Q (λ_ _ _=>False)):Fn P w K mg base n x D sp':=by
 obtain⟨f,fd,F,hm,I,g⟩:=F.ex;refine⟨f,fd,⟨λvs H Q E q=>F.len vs H Q _ (h _ _ _ _ q),λA outer s H args J vs Q E O Z g G L=>?_⟩,hm,I,g⟩;refine ae (F.run A outer s H args J vs Q _ O Z g G (h _ _ _ _ L)) λr s' z=>?_
 unfold CR at z ⊢;cases r with
 |ok fl=>cases fl<;>exact z
 |error e=>obtain⟨_,_,_,_,_,_,_,q⟩:=z;exact q.elim
section
open PySem PySem.Spec PyProof.Rows PySem.W Builtin
abbrev C7(C:yQ)(g:Option yQ)(t:yQ):Obj:= { cls:= .ref C,dict:=g,data:= .fields #[.ref t,.none,.none,.none,.bool false,.none]}
def D9(K:Frag)(C fI:yQ):Bool:=keepIn K (.ref C) && findIn K (.ref C) "__init__"==some (some (.ref fI)) &&(K.lookup C).any λo=>o.cls== .type "type" && match o.data,o.slots with
 |.cls cd,⟨[_,_,_,_,k,_]⟩=>k==some (.builtin "ValueError.__new__") &&(cd.mro== .ref C::cd.mro.tail &&(!cd.hasDel && tailIn K BV cd.mro.tail))
 |_,_=>false
def XLies(K:Frag)(h:Heap)(C D:yQ):Prop:=K.In h/\findIn K (.ref C) "__init__"=some (some (.ref D))/\
 ∃z N nm L bs hd J sub G g dd I k1 k2 k3 O,h.get? C=some (excClassObj nm L C N bs z hd J sub G g dd I k1 k2 k3 O "ValueError.__new__")/\OwnTail h BV z
def T6{K:Frag}{C g:yQ}(q:D9 K C g=true):keepIn K (.ref C)=true:=by
 unfold D9 at q;exact(Z6.mp (Z6.mp q).1).1
def Of{K:Frag}{h:Heap}{C D:yQ}(X:K.In h)(q:D9 K C D=true):XLies K h C D:=by
 unfold D9 at q;obtain⟨q,r⟩:=Z6.mp q;refine⟨X,ao (Z6.mp q).2,?_⟩;obtain⟨o,l,G⟩:=any_some r;obtain⟨c,z⟩:=Z6.mp G;have g:=X _ _ l;rcases o with⟨oc,dd,od,sl⟩
 obtain rfl:oc= .type "type" :=ao c;clear G c l;dsimp only at z;split at z
 .rename_i cd Z k1 k2 k3 k k5;obtain⟨r1,I⟩:=Z6.mp z;obtain⟨L,r7⟩:=Z6.mp I;obtain⟨O,J⟩:=Z6.mp r7;rcases cd with⟨nm,bs,mro,N,qn,hd,sn,sub,ab,col,del⟩
  obtain rfl:=ao r1;obtain rfl:del=false:=by cases del<;>first | rfl | cases O
  have e2:mro= .ref C::mro.tail:=ao L;have T:=tail_of_in X J;dsimp only at T;rw[e2]at g;exact⟨mro.tail,N,nm,qn,bs,hd,sn,sub,ab,col,dd,Z,k1,k2,k3,k5,g,T⟩
 .cases z
structure T7(M:Model)(h:Heap)(C fI:yQ):Prop where
 typ:Looks M h (typeOf (.ref C)) (.type "type")
 mro:∃l,Looks M h (mroOf (.ref C)) (.ref C::l)
 made:Looks M h (Bind.madeBy (.ref C)) (some "ValueError.__new__")
 self:Looks M h (isSubtype (.ref C) (.ref C)) true
 exc:Looks M h (isSubtype (.ref C) (.type "BaseException")) true
 init:Looks M h (typeLookup (.ref C) "__init__") (some (.ref fI))
def XLies.keeps{K:Frag}{h h':Heap}{C z:yQ}(c:XLies K h C z)(k:∀b o,h.get? b=some o->h'.get? b=some o):XLies K h' C z:=by
 obtain⟨X,e,G,N,nm,J,bs,hd,D,sub,L,g,dd,I,k1,k2,k3,Z,O,T⟩:=c;exact⟨λa o l=>k _ _ (X a o l),e,G,N,nm,J,bs,hd,D,sub,L,g,dd,I,k1,k2,k3,Z,k _ _ O,T.keeps k⟩
def XLies.seen{K:Frag}{h:Heap}{C D:yQ}(c:XLies K h C D)(M:Model):T7 M h C D:=by
 obtain⟨X,e,z,N,nm,L,bs,hd,I,sub,O,G,dd,J,k1,k2,k3,Z,g,T⟩:=c;constructor
 .exact(Looks.ld g).andThen .now
 .exact⟨z,λ_ _ _ ⟨_,_,_,_,_⟩ k q=>wpAny_mroOf_exc (k _ _ g) q⟩
 .exact λ_ _ _ ⟨_,_,_,_,_⟩ k q=>wpAny_madeBy_exc (k _ _ g) q
 .exact λ_ _ _ ⟨_,_,_,_,_⟩ k q=>wpAny_isSubtype_exc (k _ _ g) (by rw[List.contains_cons,aJ,Bool.true_or];exact q)
 .exact λ_ _ _ ⟨_,_,_,_,_⟩ k q=>wpAny_isSubtype_exc (k _ _ g) (by rw[show(Value.ref C::z).contains (.type "BaseException")=true from by rw[List.contains_cons,T.hasType PySem.F.excBase_ValueError.hasBase];exact Bool.or_true _];exact q)
 .exact looks_findIn X e
section
variable{M:Model}{A:yL}{E:yY}{s:yR}{env:Env}
def T8(K:Frag)(E:VSP)(v:yU)(s:yR):Prop:=∃e C g z t,v= .ref e/\XLies K s.heap C g/\s.heap.get? e=some (C7 C z t)/\E (.ref e) s
def T9{K:Frag}{e:yJ}{O:Pos}{Q:Flow->yR->Prop}(hh:A.handled=none)(h:wpAny M A (eval e env) (T8 K E) E s):wpAny M A (exec (.Raise (some e) none O) env) Q E s:=by
 rw[arm_exec_Raise];refine Y1 (ag (Y1 (Y1 (Ap h λv s1 z=>Y1 (ag (Y4 ?_))))));obtain⟨x,C,fI,dx,t,rfl,c,Z,hE⟩:=z;have S:=c.seen M;obtain⟨G,g,d,tk,os⟩:=s1;have cls:Looks M G (typeOf (.ref x)) (.ref C):=(Looks.ld Z).andThen .now;have one:Looks M G (isType (.ref x)) false:=(Looks.ld Z).andThen .now;have J:Looks M G (isInstance (.ref x) (.type "BaseException")) true:=cls.andThen S.exc;have bare:Looks M G (field (.ref x) 1) .none:=(Looks.ld Z).andThen .now;have typ:=S.typ;have I:∀m,Looks M G (excFromValue (.ref x) m) (.ref x):=λm=>(one.andThen .now:Looks M G (isExcClass (.ref x)) false).andThen (J.andThen .now)
 have L:Looks M G (raisedInstance (.ref x)) (.ref x):=cls.andThen (typ.andThen .now);have D:Looks M G (setFlight (.ref x) none) ():=bare.andThen .now;show wpAny M A (pure none>>=_) Q E _;refine Y1 (Y4 (Y1 (Zn ((I _).at (Y1 (one.at (Y1 (L.at (Y1 (D.at ?_))))))))));exact wpAny_raiseNew_none hh hE
end
variable{prog:yO}{w:yK}{A:yL}{E:yY}{h:Heap}{g:Array GenState}{d:Drawn}{t:Nat}{os:OsState}{K:Frag}{C fI:yQ}{rest:yX}
def XLies.new{R:Result->yR->Prop}(c:XLies K h C fI)(G:rest.length<=sizeLine)
  (q:∀h' e J,(∀b o,h.get? b=some o->h'.get? b=some o)->h.get? e=none->h'.get? e=some (C7 C none J)->R (.ok (.ret (.ref e))) ⟨h',g,d,t,os⟩):
  codeAny (model prog w) A (.call (.builtin "ValueError.__new__") ⟨.ref C::rest,[]⟩) R ⟨h,g,d,t,os⟩:=by
 obtain⟨-,-,O,N,nm,qn,bs,hd,L,sub,ab,I,dd,Z,k1,k2,k3,k5,D,T⟩:=c;have B:=PySem.F.excBase_ValueError;exact codeAny_call_builtin_code (dA _ B.quiet) (wpAny_check_new_subT B T D (codeAny_exc_new_subT B T D
  (q _ _ h.objs.size (λb o z=>Y2 _ (Y2 _ z)) (Heap.get?_none_of_le (ZB _)) (by heap_get)) G))
def XLies.call{Q:VSP}(c:XLies K h C fI)(O:∃o,h.get? fI=some o/\o.cls= .type "function")(Z:rest.length<=sizeLine)
  (q : ∀ h' e G, (∀ b o, h.get? b = some o -> h'.get? b = some o) -> h.get? e = none -> h'.get? e = some (C7 C none G) ->
   wpAny (model prog w) (A.under (.builtin "type.__call__" ⟨.ref C::rest,[]⟩)) (PySem.call (.ref fI) (.ref e::rest)) (λr s'=>r= .none/\Q (.ref e) s') E ⟨h',g,d,t,os⟩):
  wpAny (model prog w) A (PySem.call (.ref C) rest) Q E ⟨h,g,d,t,os⟩:=by
 have S:=c.seen (model prog w);have made:=S.made;obtain⟨l,mro⟩:=S.mro;have D:Looks (model prog w) h (specialOf (.ref C) "__call__") (some (.builtin "type.__call__")):=S.typ.andThen (.of_pure tc_lookup);obtain⟨-,-,bm,N,nm,qn,bs,hd,sn,sub,ab,i0,dd,k0,k1,k2,k3,k5,L,-⟩:=id c;refine aX (codeAny_of_tree (nd_load L ?_));refine Y1 (Y4 ?_);show wpAny _ _ (specialOf (.ref C) "__call__" >>=_) _ _ _;refine Y1 (D.at (Y1 ((Looks.of_pure (tc_bind _)).at (Y1 (Y4 (Y4 ⟨rfl,?_⟩))))));refine codeAny_call_builtin_at (dA _ (by decide+kernel)) entry_typeCall (wpAny_check_type_call_sub L ?_);show wpAny _ _ (mroOf (.ref C) >>=_) _ _ _;refine Y1 (mro.at ?_);show wpAny _ _ (Bind.madeBy (.ref C) >>=_) _ _ _;refine Y1 (made.at (Y1 (Y4 (Y1 (Zn (aX (c.new Z λh' e G k fr J=>?_)))))));have I:=(c.keeps k).seen (model prog w);have cls:Looks (model prog w) h' (typeOf (.ref e)) (.ref C):=(Looks.ld J).andThen .now;obtain⟨oI,hI,cI⟩:=O;have fn:Looks (model prog w) h' (typeOf (.ref fI)) (.type "function"):=by rw[<-cI];exact(Looks.ld (k _ _ hI)).andThen .now
 have bound:Looks (model prog w) h' (bindSpecial (.ref fI) (.ref e)) (.ref fI,[.ref e]):=by
  unfold bindSpecial;exact fn.andThen (.of_pure (by kernel_rfl))
 refine Y1 ((cls.andThen I.self:Looks _ h' (isInstance (.ref e) (.ref C)) true).at ?_);show wpAny _ _ (holding _ (callSpecial? _ _ _ _) >>=_) _ _ _;refine Y1 (Zn (Y1 ((cls.andThen I.init:Looks _ h' (specialOf (.ref e) "__init__") _).at (Zn (Y1 (bound.at (Y1 (Ap (q h' e G k fr J) λr s1 z=>?_))))))));obtain⟨rfl,z⟩:=z;exact Y4 (Y4 z)
end
def GotL(H:Hp)(xs:List V)(Q:VK):Prop:=∀r g,Ab H g->H r=none->g r=some (.lst xs)->Q (.ref r) g
def GotL.at{H:Hp}{xs:List V}{Q:VK}(q:GotL H xs Q):∀p,H p=none->Q (.ref p) (upd H p (.lst xs)):=λp g=>q p _ (Ab.new g) g Ag
variable{X:Cx}{es:List yJ}{t:TA}{pos:Pos}
def Ua(t:TA):TE:=fun D H Q=>t D H λg z=>match Nat.ble g.length 64 with | true=>Ii z g Q | false=>False
def Ub(t:TA):TE:=fun D H Q=>t D H λg z=>match Nat.ble g.length 64 with | true=>GotL z g Q | false=>False
def Cu{x1}(h:PA X es t):PE X (.Tuple es x1 pos) (Ua t):=by
 intro ad s Z H Q I L;refine wpAny_Tuple_spliced (Ap (h pos ad s Z H _ I L) λO g zq=>?_);obtain⟨xs,G,D,r,q⟩:=zq
 try dsimp only at q
 split at q
 .rename_i z;refine⟨by rw[<-r.length];exact Bn z,?_⟩;have J:G g.heap.objs.size=none:=D.hok.fresh (Y5 _);refine⟨.ref g.heap.objs.size,upd G g.heap.objs.size (.tup xs),D.laid (t':=g.toks) (λb u e=>Y2 _ e) (Y5 _) ?_,rfl,q _ _ (Ab.new J) Ag⟩;exact⟨Bn z,O,r,⟨_,YV _ rfl,rfl,_,rfl⟩⟩
 .exact q.elim
def Ci(h:PA X es t):PE X (.List es pos) (Ub t):=by
 intro ad s Z H Q I L;refine wpAny_List_spliced (Ap (h pos ad s Z H _ I L) λO g zq=>?_);obtain⟨xs,G,D,r,q⟩:=zq
 try dsimp only at q
 split at q
 .rename_i z;refine⟨by rw[<-r.length];exact Bn z,?_⟩;have J:G g.heap.objs.size=none:=D.hok.fresh (Y5 _);refine⟨.ref g.heap.objs.size,upd G g.heap.objs.size (.lst xs),D.laid (t':=g.toks) (λb u e=>Y2 _ e) (Y5 _) ?_,rfl,q.at _ J⟩;exact⟨Bn z,O,0,r,YV _ rfl⟩
 .exact q.elim
inductive Uc(x y:V)(H:Hp)(Q:VK):Prop
 |mk(l b g z:_)(_:x= .ref l)(_:y= .ref b)(_:H l=some (.lst g))(_:H b=some (.lst z))(_:g.length+z.length<=sizeLine)(_:GotL H (g++z) Q)
def E2:OpR X (binaryOp .Add) Uc:=by
 intro ad s D H x y v u Q I g J h;obtain⟨l,b,Z,L,O,e2,h1,z,G,q⟩:=h;exact RG ad s D H x y v u Q I g J ⟨l,b,Z,L,O,e2,h1,z,G,q.at⟩
end L2
namespace MF
open L2
def Ea(p:Int)(q:Int×Int):Int:=if q.2<p then q.1 *(q.2-p) else 0
def spared(r co:yV)(p:Int):Int:=((r.zip co).map (Ea p)).sum
def FJ(lo hi p b:Int):Int:=(p-b) *(if b<p then lo else hi)
def FK(T:TM)(h:Nat)(p b:Int):Int:=p * T.ds.getD h 0+spared (T.cs.getD h []) T.co p+FJ T.lo T.hi p b
def Ud(T:TM)(ns:yV)(k:Nat):Int:=((List.range k).map λh=>FK T h (ns.getD h 0) (ns.getD (h+1) 0)).sum
def Og(T:TM)(ns:yV):Int:=Ud T ns ns.length-ns.getD 0 0 * T.st
structure DG(T:TM):Prop where
 ok:T.ok
 c:∀r∈T.cs,r.length=T.co.length/\∀c∈r,0<=c/\c<=20
 o:T.co.length<=4
 o1:∀c∈T.co,1<=c/\c<=9
 d:∀x∈T.ds,0<=x/\x<=100
 l0:0<=T.lo
 h0:0<=T.hi
 s0:0<=T.st
 l4:T.lo<=100
 h4:T.hi<=100
 s4:T.st<=100
def P'{g:Type}{l:List g}{i:Nat}{d:g}(h:i<l.length):l.getD i d∈l:=by
 rw[Y7,Y6 h];exact bJ h
def Iz{x y:Int}{a b:Nat}(g:x.natAbs<=a)(z:y.natAbs<=b):(x * y).natAbs<=a * b:=by rw[Int.natAbs_mul];exact fA g z
def Oh{x y:Int}{a b:Nat}(g:x.natAbs<=a)(z:y.natAbs<=b):(x+y).natAbs<=a+b:=by lia
theorem Oi{p:Int}{B:Nat}(g:0<=p)(D:p<=B):∀ {l:List (Int×Int)},(∀q∈l,0<=q.1/\q.1<=20/\1<=q.2)->((l.map (Ea p)).sum).natAbs<=l.length *(20 * B)
 |[],_=>by simp
 |q::l,h=>by
  have J:=Oi g D (l:=l) λq z=>h q (Z3 _ z)
  obtain⟨L,I,G⟩:=h q Z9;rw[ZJ,bP,ZA,dX];have:(Ea p q).natAbs<=20 * B:=by
   unfold Ea;split
   .exact Iz (by lia) (by lia)
   .simp
  lia
def Ue{T:TM}(ok:DG T){h:Nat}{p b:Int}{B:Nat}(G:0<=p)(D:p<=B)(Z:0<=b)(L:b<=B):(FK T h p b).natAbs<=B * 100+4 *(20 * B)+B * 100:=by
 unfold FK;refine Oh (Oh (Iz (by lia) ?_) ?_) (Iz (by lia) ?_)
 .by_cases z:h<T.ds.length
  .have:=ok.d _ (P' (d:=0) z);lia
  .rw[Y7,Zu (by lia)];simp
 .unfold spared;refine Ze (Oi G D λq g=>?_) (cW _ ?_)
  .by_cases z:h<T.cs.length
   .have I:=(ok.c _ (P' (d:=[]) z)).2 _ (bB g).1;have J:=ok.o1 _ (bB g).2;lia
   .rw[Y7,Zu (by lia)]at g;simp at g
  .rw[dQ];have:=ok.o;lia
 .have I:=ok.l0;have J:=ok.h0;have O:=ok.l4;have h4:=ok.h4;split<;>lia
def Uf{P:PL}{S:SY}(ok:P.ok){n:Nat}(so:S.ok n):DG (terms P S):=by
 have h0:=ok.lo0;have I:=ok.ls;have L:=ok.sh;have J:=ok.h4;refine⟨NT so,λr z=>⟨by rw[(B7 ok r z).2];show P.bs.length=(P.bs.map (·.2)).length;rw[Y0],λc g=>by have:=(B7 ok r z).1 c g;lia⟩,by show(P.bs.map (·.2)).length<=4;rw[Y0];exact ok.b4,λc g=>?_,λx D=>?_,h0,?_,?_,?_,?_,?_⟩
 .obtain⟨q,G,rfl⟩:=Zg.mp g;have:=ok.b q G;lia
 .have:=NK ok so x D;lia
 .show 0<=P.hi;lia
 .show 0<=P.st;lia
 .show P.lo<=100;lia
 .show P.hi<=100;lia
 .show P.st<=100;lia
structure GI(K:Fgx)(x qual:Str)(st:Stmt)(f:yQ)(fd:FuncData)(c:yQ):Prop where
 ex:∃(oc:yU) (od:Option yQ) (kV doc pm:yU) (an:Option yQ) (ct:yU) (osl:Array (yW)),
  fd=PySem.W.fnOf x qual (BB st) (A9 st) (Am st) .none kV doc pm an (.ref c) ct/\K.lookup f=some ⟨oc,od,.func fd,osl⟩/\PySem.W.codeIn K (.ref c) qual=true
def GI.ok{P:yO}{w:yK}{K:Fgx}{mg:Str->yW}{base:Heap}{x qual:Str}{st:Stmt}{f c:yQ}{I:FuncData}{N D:List Str}{k:Nat}{sp:Sp}(F:GI K x qual st f I c)(S:As N D (Am st))(len:∀vs H Q E,sp vs H Q E->vs.length=D.length)
  (g : ∀ (A : yL) (outer : List Env) (s : yR) (H : Hp) (vs : List V) (Q : VK) (E : XK), AN k (A.deeper (envOfC qual (Am st) s.heap.objs.size f (.ref c))) -> sp vs H Q E ->
   ∃t,PSs (BT CX0 P w K mg base N qual (Am st) f (.ref c) A outer s H E).nox (A9 st) t/\t { nx:=λ_ H'=>Q .non H',rt:=Q} (start N vs) H):BK P w K mg base CX0 (k+1) f I D sp:=by
 obtain⟨oc,od,kV,Z,pm,an,ct,L,rfl,O,G⟩:=F.ex;refine HK O G S len λA outer s H vs Q E J z=>?_
 obtain⟨t,h,q⟩:=g A outer s H vs Q E J z;exact⟨t,h.nox,q⟩
def _root_.L2.TabIn.grow{H H':Hp}{TB:yQ}{D:Str}(t:TabIn H TB D)(e:∀b o,H b=some o->(∀xs,o≠ .lst xs)->H' b=some o):TabIn H' TB D:=by
 obtain⟨L,O,I,Z⟩:=t;refine⟨L,e _ _ O (λxs z=>by cases z),I,λg v G=>?_⟩;obtain⟨c,r1,J⟩:=Z g v G;exact⟨c,r1,e _ _ J (λxs z=>by cases z)⟩
def _root_.L2.TabIn.ev{p:yQ}{H H':Hp}{TB:yQ}{g:Str}(t:TabIn H TB g)(e:Ev p H H'):TabIn H' TB g:=t.grow λb o q n=>(e b o q).elim (fun⟨_,xs,z⟩=>absurd z (n xs)) id
def _root_.L2.TabIn.same{H H':Hp}{TB:yQ}{g:Str}(t:TabIn H TB g)(e:Ab H H'):TabIn H' TB g:=t.grow λb o q _=>e b o q
abbrev GJ:Str:=(("law" :Str)++ ".<locals>.")++ "<lambda>"
def Ug{xs:List V}{i:Nat}:Bc xs none (some (i:Int))=xs.take i:=by
 unfold Bc;rw[HT.sIx_nat];show(xs.drop 0).take (min i xs.length-0)=_;rw[dy,cT]
 by_cases h:i<=xs.length
 .rw[aP h]
 .rw[Nat.min_eq_right (by lia),Z0 (Y5 _),Z0 (by lia)]
def Oj{n:Nat}(h:n<=1000):n<=sizeLine:=ZZ (HQ h)
structure GK(K:Fgx)(mg:Str->yW)(x:Str)(st:Stmt)(ps:List Str)(c:yQ):Prop where
 ex:∃(f:yQ) (fd:FuncData),GI K x x st f fd c/\mg x=some (.ref f)/\PySem.W.keepIn K (.ref f)=true/\Binds K fd ps []
def GK.fn{P:yO}{w:yK}{K:Fgx}{mg:Str->yW}{base:Heap}{x:Str}{st:Stmt}{N z:List Str}{c:yQ}{k:Nat}{sp:Sp}(F:GK K mg x st z c)(S:As N z (Am st))(len:∀vs H Q E,sp vs H Q E->vs.length=z.length)
  (g : ∀ (f : yQ) (A : yL) (outer : List Env) (s : yR) (H : Hp) (vs : List V) (Q : VK) (E : XK), AN k (A.deeper (envOfC x (Am st) s.heap.objs.size f (.ref c))) -> sp vs H Q E ->
   ∃t,PSs (BT CX0 P w K mg base N x (Am st) f (.ref c) A outer s H E).nox (A9 st) t/\t { nx:=λ_ H'=>Q .non H',rt:=Q} (start N vs) H):Fn P w K mg base (k+1) x z sp:=by
 obtain⟨f,J,D,L,kp,I⟩:=F.ex;exact⟨f,J,D.ok S len λA outer s H vs Q E G h=>g f A outer s H vs Q E G h,L,kp,I⟩
def TabIn.not_none{H:Hp}{TB:yQ}{g:Str}(t:TabIn H TB g):H TB≠none:=by
 obtain⟨D,h,_⟩:=t;rw[h];intro z;cases z
variable{qual:Str}{k:Nat}
section
variable{P:yO}{w:yK}{K:Fgx}{mg:Str -> yW}{base:Heap}
structure Dm(K:Fgx)(C:yQ)(m qual:Str)(st:Stmt)(ps:List Str):Prop where
 ex:∃(f:yQ) (fd:FuncData),DV K m qual st f fd/\Fr K C m f/\Binds K fd ps []
structure Mt(CX:CG)(P:yO)(w:yK)(K:Fgx)(mg:Str->yW)(base:Heap)(n:Nat)(C:yQ)(m:Str)(ps:List Str)(sp:Sp):Prop where
 ex:∃(f:yQ) (fd:FuncData),BK P w K mg base CX n f fd ps sp/\Fr K C m f/\Binds K fd ps []
def Dm.fn{C:yQ}{m:Str}{st:Stmt}{N z:List Str}{sp:Sp}(F:Dm K C m qual st z)(S:As N z (Am st))(len:∀vs H Q E,sp vs H Q E->vs.length=z.length)
  (g : ∀ (f : yQ) (dl : yU) (A : yL) (outer : List Env) (s : yR) (H : Hp) (vs : List V) (Q : VK) (E : XK), AN k (A.deeper (envOfC qual (Am st) s.heap.objs.size f dl)) -> sp vs H Q E ->
   ∃t,PSs (BT CX0 P w K mg base N qual (Am st) f dl A outer s H E).nox (A9 st) t/\t { nx:=λ_ H'=>Q .non H',rt:=Q} (start N vs) H):Mt CX0 P w K mg base (k+1) C m z sp:=by
 obtain⟨f,J,D,L,I⟩:=F.ex;exact⟨f,J,D.ok S len λdl A outer s H vs Q E G h=>g f dl A outer s H vs Q E G h,L,I⟩
def Dm.fnE{C:yQ}{m:Str}{st:Stmt}{N z:List Str}{sp:Sp}(F:Dm K C m qual st z)(S:As N z (Am st))(len:∀vs H Q E,sp vs H Q E->vs.length=z.length)
  (g : ∀ (f : yQ) (dl : yU) (A : yL) (outer : List Env) (s : yR) (H : Hp) (vs : List V) (Q : VK) (E : XK), AN k (A.deeper (envOfC qual (Am st) s.heap.objs.size f dl)) -> sp vs H Q E ->
   ∃t,PSs (BT (Bm P w) P w K mg base N qual (Am st) f dl A outer s H E) (A9 st) t/\t { nx:=λ_ H'=>Q .non H',rt:=Q} (start N vs) H):Mt (Bm P w) P w K mg base (k+1) C m z sp:=by
 obtain⟨f,fd,G,Z,J⟩:=F.ex;obtain⟨oc,od,kV,i0,pm,an,dl,ct,L,rfl,O,D⟩:=G.ex;exact⟨f,_,HK O D S len λA outer s H vs Q E I h=>g f dl A outer s H vs Q E I h,Z,J⟩
end
def IA(C:yQ)(m:Str)(sp:Sp)(E:XK)(J:TE)(t:TA):TE:=fun z H Q=>J z H λx g=>∃a D fs,x= .ref a/\g a=some (.ins C D fs)/\fs.lookup m=none/\t z g λG I=>sp (x::G) I Q E
section
variable{X:Cx}{CX:CG}{E:XK}{n:Nat}{C:yQ}{m:Str}{ps:List Str}{sp:Sp}{o e:yJ}{es:List yJ}{ta:TE}{t:TA}{apos pos:Pos}{pl:Sem Bool}
def Cj(hx:DB CX X E)(c:Cls X.K C)(F:Mt CX X.prog X.w X.K X.mg X.base n C m ps sp)(L:AN n X.A)(he:PE X o ta)(ha:PA X (e::es) t)
  (G:autoParam (starEach (e::es) X.env=(false,eval e X.env)::starEach es X.env) m5) (D:autoParam ((backTo pos (starEach es X.env)).any (·.1)=false) m5)
  (ht : autoParam (eval (.Call (.Attribute o m apos) (e :: es) [] pos) X.env = (do
   let ov<-eval o X.env
   standAt apos.atName
   let (f,first)<-holding [ov] (getMethod ov m pl)
   callWith pos f first (backTo pos (starEach (e::es) X.env)) (backToKw pos (keywordEach [] X.env)))) m5):
  PE X (.Call (.Attribute o m apos) (e::es) [] pos) (IA C m sp E ta t):=by
 obtain⟨f,fd,F,hm,Z⟩:=F.ex;refine(Q1 (dvs:=[]) (E:=E) (pl:=pl) he c hm F L Z .nil hx ha G D ht).weak fun I H Q q=>?_
 have z:∀g:List V,g++[]=g:=λg=>aw g
 show ta I H λx J=>∃a O fs,x= .ref a/\J a=some (.ins C O fs)/\fs.lookup m=none/\t I J λg H2=>sp (x::(g++[])) H2 Q E
 simp only[z];exact q
def Eb(g:DB CX X E)(c:Cls X.K C)(F:Mt CX X.prog X.w X.K X.mg X.base n C m ps sp)(z:AN n X.A)(D:PE X o ta)
  (G : autoParam (eval (.Call (.Attribute o m apos) [] [] pos) X.env = (do
   let ov<-eval o X.env
   standAt apos.atName
   let (f,first)<-holding [ov] (getMethod ov m pl)
   callWith pos f first (backTo pos (starEach [] X.env)) (backToKw pos (keywordEach [] X.env)))) m5):
  PE X (.Call (.Attribute o m apos) [] [] pos) (IA C m sp E ta CF):=by
 obtain⟨f,L,F,J,I⟩:=F.ex;exact Q2 (dvs:=[]) (E:=E) (pl:=pl) D c J F z I .nil g G
end
section
variable{P:yO}{w:yK}{K:Fgx}{mg:Str -> yW}{base:Heap}
structure Di(K:Fgx)(mg:Str->yW)(x:Str)(C:yQ)(qual:Str)(st:Stmt)(ps:List Str):Prop where
 ex:∃(f:yQ) (fd:FuncData),DV K "__init__" qual st f fd/\Mk K C f/\Binds K fd ps []
 at_:mg x=some (.ref C)
structure Ms(P:yO)(w:yK)(K:Fgx)(mg:Str->yW)(base:Heap)(n:Nat)(x:Str)(C:yQ)(ps:List Str)(sp:Sp):Prop where
 ex:∃(f:yQ) (fd:FuncData),BK P w K mg base CX0 n f fd ps sp/\Mk K C f/\Binds K fd ps []
 at_:mg x=some (.ref C)
def Di.fn{x:Str}{C:yQ}{st:Stmt}{N z:List Str}{sp:Sp}(F:Di K mg x C qual st z)(S:As N z (Am st))(len:∀vs H Q E,sp vs H Q E->vs.length=z.length)
  (g : ∀ (f : yQ) (dl : yU) (A : yL) (outer : List Env) (s : yR) (H : Hp) (vs : List V) (Q : VK) (E : XK), AN k (A.deeper (envOfC qual (Am st) s.heap.objs.size f dl)) -> sp vs H Q E ->
   ∃t,PSs (BT CX0 P w K mg base N qual (Am st) f dl A outer s H E).nox (A9 st) t/\t { nx:=λ_ H'=>Q .non H',rt:=Q} (start N vs) H):Ms P w K mg base (k+1) x C z sp:=by
 obtain⟨f,J,D,L,I⟩:=F.ex;exact⟨⟨f,J,D.ok S len λdl A outer s H vs Q E G h=>g f dl A outer s H vs Q E G h,L,I⟩,F.at_⟩
end
def Uh(C:yQ)(sp:Sp)(t:TA):TE:=fun G H Q=>t G H λD z=>∀a g,z a=none->z g=none->g≠a->sp (.ref a::D) (upd (upd z g (.own a)) a (.ins C g [])) (λv I=>v= .non/\Q (.ref a) I) E0
def IB{X:Cx}{n:Nat}{x:Str}{C:yQ}{ps:List Str}{sp:Sp}{e:yJ}{es:List yJ}{t:TA}{p D:Pos}(F:Ms X.prog X.w X.K X.mg X.base n x C ps sp)(L:AN (n+1) X.A)(hg:Gl X x)(ha:PA X (e::es) t)
  (hdb:autoParam ((x==("__debug__" :Str))=false) S7) (he:autoParam (starEach (e::es) X.env=(false,eval e X.env)::starEach es X.env) m5) (J:autoParam ((backTo D (starEach es X.env)).any (·.1)=false) m5):
  PE X (.Call (.Name x p) (e::es) [] D) (Uh C sp t):=by
 obtain⟨⟨f,fd,F,M,Z⟩,hm⟩:=F;refine(Q4 (dvs:=[]) (E:=E0) M F L hg hm Z .nil Cb ha hdb he J).weak fun O H Q q=>?_
 have z:∀g:List V,g++[]=g:=λg=>aw g
 show t O H λg I=>∀x G,I x=none->I G=none->G≠x->sp (.ref x::(g++[])) (upd (upd I G (.own x)) x (.ins C G [])) (λv H2=>v= .non/\Q (.ref x) H2) E0
 simp only[z];exact q
end MF
namespace L2
section
open PySem PySem.Spec PyProof.Rows PySem.W Builtin Builtin.ObjectAttr
variable{H:Hp}{t:yQ}{name:Str}{v:yU}{p1 p2 p3 pos:Pos}{ta:TE}
def Cv(e C:yQ)(g:Option yQ):HO:= .ext λh=>∃t,h.get? e=some (C7 C g t)
def Le{P:yO}{w:yK}{h:Heap}{e C:yQ}{g:Option yQ}(x:h.get? e=some (C7 C g t)):ObjOk P w H h e (Cv e C g):=⟨⟨t,x⟩,⟨_,x⟩,λ_ _ ⟨t,y⟩ k=>⟨t,k _ y⟩⟩
structure IC(K:Frag)(C:yQ)(f:Str):Prop where
 sa:findIn K (.ref C) "__setattr__"=some (some (.builtin "object.__setattr__"))
 mro:∃cd M,clsIn K C=some cd/\cd.mro= .ref C:: .ref M::BV/\cd.hasDict=true
 no:findIn K (.ref C) f=some none
section
variable{prog:yO}{w:yK}{A:yL}{E:yY}{s:yR}{K:Frag}{x C:yQ}
def Ui{a:yQ}{tk:Tok}{Q:PySem.Fin->yR->Prop}(e:s.heap.get? a=some { cls:= .type "dict",data:= .dict #[]})
  (q:∀h',h'.Ns1 a (λy=>if y=name then some v else none)->(∀b,b≠a->h'.get? b=s.heap.get? b)->Q (.done (.ret .none)) { s with heap:=h',toks:=s.toks+1}):
  wpAny (model prog w) A (storeInDict a (.str name tk) name v) Q E s:=by
 have g:s.heap.Ns1 a λ_=>none:= .of_empty ⟨_,#[],_,e,rfl,λ_ z=>absurd z (by simp),λ_=>rfl⟩
 simp only[storeInDict,newKeyGuard];exact Y1 (Y4 (Y1 (wpAny_nsSet1 g λh' n same=>(by
  have Bn:=n.count (ns:=[name]) (Within.cons name v Within.nil);obtain⟨o,es,_,G,hd,D⟩:=Bn;have one:es.size<=sizeLine+1:=Ze D (by rw[aZ];exact(by decide:1<=16777217));exact Y1 (wpAny_lookBehind G (hd ▸ pastItsLine_dict one) (Y4 (q h' n same.2)))))))
def Uj{Q:Unit->yR->Prop}(c:IC K C name)(X:K.In s.heap)(D:s.heap.get? x=some (C7 C none t))
  (h:∀h' tk,h'.get? x=some (C7 C (some s.heap.objs.size) t)->h'.Ns1 s.heap.objs.size (λy=>if y=name then some v else none)->(∀b o,b≠x->s.heap.get? b=some o->h'.get? b=some o)->Q () { s with heap:=h',toks:=tk}):
  wpAny (model prog w) A (setAttr (.ref x) name v) Q E s:=by
 obtain⟨cd,M,G,O,hd⟩:=c.mro;have I:InstAt s.heap x (C7 C none t) C none:=⟨D,rfl,rfl,trivial⟩;have line:Looks (model prog w) s.heap (mroOf (.ref C)) cd.mro:=(looks_clsIn X G).andThen .now;have sub:Looks (model prog w) s.heap (isInstance (.ref x) (.type "object")) true:=I.type.andThen (looks_mroIn X (show mroIn K C (.type "object")=some true from by unfold mroIn;rw[G,Option.bind_some,O];rfl));refine set_plain X I c.sa (ZS PySem.F.store_object.slot.plain PySem.F.store_object.entry (@check_slot (model prog w) _ _ { s with toks:=s.toks+1} "object.__setattr__" "object" "__setattr__" (.ref x) [.str name s.toks,v] [] _ PySem.F.store_object.kind PySem.F.store_object.split sub (PySem.F.store_object.args (.ref x) (.str name s.toks) v) ?_));rw[osa_eq,refuse_eq];refine Y1 (Y1 (I.type.at (Y1 (line.at ?_))));rw[O,refuseLoop_ref,refuseLoop_ref,PySem.F.store_ValueError.passes];refine Y4 (Y1 (I.type.at (Y1 ((looks_findIn X c.no).at (Y1 (Y4 ?_))))));show wpAny _ _ (storeInOwnDict _ _ _ _ _ _) _ _ _
 let h1:=s.heap.push { cls:= .type "dict",data:= .dict #[]}
 let h2:=h1.update x λo=> { o with dict:=some s.heap.objs.size}
 have g:∀b o,s.heap.get? b=some o->h1.get? b=some o:=λb o z=>Y2 _ z
 have nx:s.heap.objs.size≠x:=λz=>absurd (Y9 D) (by rw[<-z];exact Z8 _)
 have e2:h2.get? s.heap.objs.size=some { cls:= .type "dict",data:= .dict #[]}:=by rw[<-Heap.get?_push_at (h:=s.heap) (o:= { cls:= .type "dict",data:= .dict #[]}) rfl rfl];exact Zo _ _ nx.symm
 have Z:h2.get? x=some (C7 C (some s.heap.objs.size) t):=ZF _ (g _ _ D) rfl;have got:∀J,wpAny (model prog w) J (instanceDict x true) (λd L=>d=some s.heap.objs.size/\L= { s with heap:=h2,toks:=s.toks+1}) E { s with toks:=s.toks+1}:=λJ=>by
  refine Y1 (fe D (Y1 ((looks_clsIn X G).at ?_)));rw[hd];exact Y1 (wpAny_alloc (Y1 (wpAny_update (g _ _ D) (Y4 ⟨rfl,rfl⟩))))
 refine Y1 (Y4 (Y1 (Zf (got _) (λdx L z=>?_) λ_ _ z=>z)));obtain⟨rfl,rfl⟩:=z;refine Ui e2 λh' n same=>h h' _ ((same x nx.symm).trans Z) n λb o hb z=>?_
 have hs:b≠s.heap.objs.size:=λy=>absurd (Y9 z) (by rw[y];exact Z8 _)
 rw[same b hs,show h2.get? b=h1.get? b from Zo _ _ hb.symm];exact g b o z
set_option maxHeartbeats 1000000 in
def Uk{name:Str}{g:Bool}{Z:Obj}{z:Option Obj}{v:yU}{Q:VSP}(O:EC K C)(X:K.In s.heap)(I:InstAt s.heap x Z C z)(D:findObj K C z name=some (.value v))(G:handedIn v=true)(h:Q v { s with toks:=s.toks+1}):
  wpAny (model prog w) A (getAttr (.ref x) name g) Q E s:=by
 cases s;have L0:=I.type (M:=model prog w);have L1:=looks_findIn (M:=model prog w) X O.ga;have L2:=looks_findIn (M:=model prog w) X O.gt;have L3:=looks_find (M:=model prog w) X I D;have L4:Looks (model prog w) _ (isInstance (.ref x) (.type "BaseException")) true:=I.type.andThen (looks_mroIn X O.bx);have b:=PySem.F.attr_ValueError.ga.bind (.ref x);have n:(Value.builtin "BaseException.__getattribute__"==Value.builtin "object.__getattribute__")=false:=by decide+kernel
 have n2:(g && onTheHeap (Value.builtin "BaseException.__getattribute__"))=false:=bw _;simp only[getAttr,getAttrBy]
 repeat (any_goals (first | assumption | with_reducible refine Looks.at (by assumption) ?_ | wp_step))
 refine ZS PySem.F.attr_ValueError.ga.plain F.entry_bexc_ga ?_;have L:builtinKind "BaseException.__getattribute__"=some .slot:=by decide+kernel
 have J:splitId "BaseException.__getattribute__"=some ("BaseException","__getattribute__"):=by decide+kernel
 have ar:=F.args_bexc_ga (.ref x);simp only[checkBuiltinCall,L,J]
 repeat (any_goals (first | assumption | with_reducible refine Looks.at (by assumption) ?_ | exact bq (ar _) (Y4 ‹_›) | wp_step))
 show wpAny _ _ (handedOut v) _ _ _;rw[handedOut_of G];exact Y4 h
end
variable{X:Cx}
def Ul(c:Str)(z:TE):TE:=fun D H Q=>z D H λv g=>∃n:Int,v= .int n/\n.natAbs<1000/\Q (.str (c++Str.ofString (toString n))) g
def Um{c:Str}{e:yJ}{k:Nat}{g:TE}(hc:c.length<=1000)(O:PE X e g):PE X (.JoinedStr [.Constant (.str c) k p1,.FormattedValue e (-1) none p2] p3) (Ul c g):=by
 intro ad s J H Q I h;refine JoinedStr_many (joinParts_cons (Calls.Constant_str ?_));show(Str.empty++c).length<=sizeLine/\wpAny _ _ (joinParts (Str.empty++c) _) _ _ _;rw[Str.empty_append];refine⟨by rw[aZ];lia,?_⟩;refine joinParts_cons (FormattedValue_plain (Ap (O ad _ J H _ (I.tok _) h) λu s1 zq=>?_));obtain⟨v,Z,L,rv,n,D,hn,q⟩:=zq;subst D;obtain⟨t,rfl⟩:=rv;have G:n.natAbs.log2<10:=by
  rcases Nat.eq_zero_or_pos n.natAbs with z | z
  .rw[z];decide
  .exact(Nat.log2_lt (by lia)).mpr (by lia)
 have hl:(Str.ofString (toString n)).length<=11:=by
  have:=int_text_length_le (k:=10) (by decide) G;rw[PySem.ofString_length];lia
 refine formatField_int_small (by lia) ⟨by rw[bF,aZ];lia,joinParts_nil ⟨.str (c++Str.ofString (toString n)),Z,(L.tok _).tok _,⟨_,rfl⟩,q⟩ (by rw[bF,aZ];lia)⟩
structure Lf(K:Frag)(M:yQ):Prop where
 ga:specialIn K (.ref M) "__getattribute__"=some (some (.builtin "type.__getattribute__"))
 rd:readsIn K M (.type "type")=true
 fc:∃r,findCls K (.ref M) (.type "type") "__init__"=some r/\r= .val (.builtin "ValueError.__init__")
def Uo(K:Frag)(t:TA):TE:=fun G H Q=>t G H λD g=>∃e C z v,D=[.ref e,v]/\g e=some (Cv e C none)/\D9 K C z=true/\Q .non g
def Up{M:yQ}{x:Str}{a b:yJ}{t:TA}{pl:Sem Bool}(hx:Lf X.K M)(hg:Gl X x)(hm:X.mg x=some (.ref M))(ha:PA X [a,b] t)
  (hdb:autoParam ((x==("__debug__" :Str))=false) S7) (i0:autoParam (starEach [a,b] X.env=(false,eval a X.env)::starEach [b] X.env) m5) (i4:autoParam ((backTo p3 (starEach [b] X.env)).any (·.1)=false) m5)
  (ht : autoParam (eval (.Call (.Attribute (.Name x p1) "__init__" p2) [a, b] [] p3) X.env = (do
   let ov<-eval (.Name x p1) X.env
   standAt p2.atName
   let (f,first)<-holding [ov] (getMethod ov "__init__" pl)
   callWith p3 f first (backTo p3 (starEach [a,b] X.env)) (backToKw p3 (keywordEach [] X.env)))) m5):
  PE X (.Call (.Attribute (.Name x p1) "__init__" p2) [a,b] [] p3) (Uo X.K t):=by
 intro ad s σ H Q I h;refine methodCall_KW (pl:=pl) (DR I hg hm ?_ hdb) ht;obtain⟨r,hf,hr⟩:=hx.fc;subst hr;refine method_cls I.kIn hx.ga (cls_value I.kIn hx.rd hf rfl ?_);have I0:=I.tok (s.toks+1);refine cJ (Ap (ha p3 ad _ σ H _ I0 h) λus s1 zq=>?_) i0 i4;obtain⟨vs,L,O,rv,e,C,fI,v,hv,Z,hc,q⟩:=zq;subst hv;obtain⟨u1,u2,rfl,r1,r2⟩:=rv.two;obtain rfl:u1=Value.ref e:=r1;obtain⟨⟨t0,G⟩,_,_⟩:=(show ObjOk X.prog X.w L s1.heap e (Cv e C none) from O.hok e _ Z);refine aX (ZS PySem.F.excBase_ValueError.init.plain PySem.F.excBase_ValueError.initEntry ?_);obtain⟨-,-,bm,N,nm,qn,bs,hd,sn,sub,ab,i5,dd,k0,k1,k2,k3,k5,hC,T⟩:=Of O.kIn hc;obtain⟨D,g,d,tk,os⟩:=s1;refine wpAny_check_init_subT PySem.F.excBase_ValueError T hC G rfl ?_
 wp_walk
 have J:D.get? e=some (C7 C none t0):=G;have hp:(D.push { cls:= .type "tuple",data:= .seq #[u2]}).get? e=some (C7 C none t0):=Y2 _ J;have hw:((D.push { cls:= .type "tuple",data:= .seq #[u2]}).update e (Obj.mapFields λx=>x.setIfInBounds 0 (.ref D.objs.size))).get? e=some (C7 C none D.objs.size):=ZF _ hp rfl;have I2:=O.write (x:=e) (e:=e) (o:=Cv e C none) (t':=tk) (h':=(D.push { cls:= .type "tuple",data:= .seq #[u2]}).update e (Obj.mapFields λx=>x.setIfInBounds 0 (.ref D.objs.size))) (by rw[Z];exact trivial) (.inl rfl)
  (λb o hb g=>(Zo _ _ (Zd hb)).trans (Y2 _ g)) ⟨_,hw⟩ (Le hw)
 have eu:upd L e (Cv e C none)=L:=funext λb=>by
  by_cases z:b=e
  .rw[z,Ag];exact Z.symm
  .exact Aq z
 rw[eu]at I2;exact⟨.non,L,I2,rfl,q⟩
inductive Uq_(K:Frag)(f:Str)(D:Db)(g:L2.St)(y x:V)(z:Hp):Prop
 |mk(e C:_)(_:x= .ref e)(_:z e=some (Cv e C none))(_:IC K C f)(_:∀a,z a=none->D.nx g (upd (upd z e (Cv e C (some a))) a (.xd [(f,y)])))
def Uq(K:Frag)(J I:TE)(f:Str):TS:=λD g H=>I g H λy G=>J g G λx z=>Uq_ K f D g y x z
def Ur{o G:yJ}{f:Str}{L:Pos}{tv:TE}(ha:PE X o ta)(hv:PE X G tv)(hs:swapsWith G (some (.Attribute o f L)) pos.line X.env=pure false)(i0:X.ex=[]):PS X (.Assign [.Attribute o f L] G pos) (Uq X.K ta tv f):=by
 intro ad s σ H D I h;refine cE (Ap (hv ad s σ H _ I h) λu s1 ⟨y,H1,I1,ry,q⟩=>Ap (ha ad s1 σ H1 _ I1 q) λov O zq=>?_) hs;obtain⟨x,H2,J,rx,e,C,ex,he,c,q2⟩:=zq;subst ex;obtain rfl:ov=Value.ref e:=rx;obtain⟨⟨t0,Z⟩,_,_⟩:=(show ObjOk X.prog X.w H2 O.heap e (Cv e C none) from J.hok e _ he);refine Uj c J.kIn Z λh' tk hx hn hk=>?_
 have sz:H2 O.heap.objs.size=none:=J.hok.fresh (Y5 _);have ne:O.heap.objs.size≠e:=aa (Y9 Z);have I3:=J.write (x:=e) (e:=e) (o:=Cv e C (some O.heap.objs.size)) (t':=tk) (h':=h') (by rw[he];exact trivial) (.inl rfl) (λb o hb g=>hk b o hb g) ⟨_,hx⟩ (Le hx);have I4:=I3.track (a:=O.heap.objs.size) (o:= .xd [(f,y)]) ?_ ?_ ?_ ?_ ?_ ?_
 .exact⟨σ,_,I4,q2 _ sz⟩
 .intro z;obtain⟨m,⟨o,_,_,ho,_⟩,_⟩:=J.loc;exact absurd (Y9 ho) (by rw[<-z];exact Z8 _)
 .intro y' c' e' z;obtain⟨v,hv⟩:=J.cell y' c' e';obtain⟨o,ho,_⟩:=hv;exact absurd (Y9 ho) (by rw[z];exact Z8 _)
 .intro p hp z;exact absurd (Y9 (J.pin p hp).1) (by rw[z];exact Z8 _)
 .cases z:X.s₀.heap.get? O.heap.objs.size with
  |none=>rfl
  |some o=>
   obtain⟨o1,e1⟩:=J.base.there _ o z (by rw[i0];simp);exact absurd (Y9 e1) (Z8 _)
 .rw[Aq ne];exact sz
 .refine⟨_,hn,λg=>?_⟩;show RelO (List.lookup g [(f,y)]) (if g=f then some u else none)
  by_cases z:g=f
  .rw[Z1 z,z];simp[List.lookup];exact ry
  .rw [YY z];have:(g==f)=false:=by simpa using z
   simp[List.lookup,this,RelO]
def Ac.untrack{ad:PNs}{L:St}{H':Hp}{s:yR}{e:yQ}{φ:Heap->Prop}(I:Ac X ad L H' s)(O:H e=none)(J:∀b,b≠e->H b=H' b)(G:H' e=some (.ext φ)):Ac X ad L H s:=by
 have no:∀b,H' b=none->H b=none:=λb z=>by
  by_cases q:b=e
  .rw[q];exact O
  .rw[J b q];exact z
 have so:∀b u,b≠e->H' b=some u->H b=some u:=λb u q z=>by rw[J b q];exact z
 refine⟨I.ok,I.os,I.bare,⟨I.base.keep,I.base.slot,λb o g m x=>no b (I.base.free b o g m x),I.base.there,λb D q=>so b _ (λz=>by have:=I.base.tups b D q;rw[z,G]at this;cases this) (I.base.tups b D q),λb o D q=>so b _ (λz=>by have:=I.base.frzs b o D q;rw[z,G]at this;cases this) (I.base.frzs b o D q),λb ps q=>?_⟩,
  I.loc,I.cell,no _ I.free,λy c g=>no _ (I.freeC y c g),λp hp=>?_,λb ob g=>?_,I.len⟩
 .obtain⟨m,z⟩:=I.base.tbls b ps q;exact⟨m,so b _ (λw=>by rw[w,G]at z;cases z) z⟩
 .obtain⟨a1,a2,a3⟩:=I.pin p hp;exact⟨a1,no _ a2,a3⟩
 .have hb:b≠e:=λz=>by rw[z,O]at g;cases g
  have Z:H' b=some ob:=by rw[<-J b hb];exact g
  refine(I.hok b ob Z).stay (λ_ _ _ q=>q) (λc q=>so c _ (λz=>?_) q) λc D q=>so c _ (λz=>?_) q
  .rw[z,G]at q;cases q
  .rw[z,G]at q;cases q
inductive sp_init_(C:yQ)(f:Str)(H:Hp)(Q:VK)(e:yQ)(v:V):Prop
 |mk(_:(∃n:Int,v= .int n/\n.natAbs<1000))(_:H e=some (Cv e C none))(_:∀a,H a=none->Q .non (upd (upd H e (Cv e C (some a))) a (.xd [(f,v)])))
def sp_init(C:yQ)(f:Str):Sp:=λvs H Q _=>zE (sp_init_ C f H Q) vs
structure Xi(P:yO)(w:yK)(K:Frag)(mg:Str->yW)(base:Heap)(n:Nat)(x:Str)(C:yQ)(f:Str):Prop where
 ex:∃(fI:yQ) (fd:FuncData) (ps:List Str),BK P w K mg base CX0 n fI fd ps (sp_init C f)/\D9 K C fI=true/\isFn K (.ref fI)=true/\Binds K fd ps []
 at_:mg x=some (.ref C)
def Lg{E:XK}(D:IsDef X E){n:Nat}{x f:Str}{C:yQ}{a:yJ}{ta:TA}{np O j0:Pos}(hc:X.calm=true)(F:Xi X.prog X.w X.K X.mg X.base n x C f)(hr:AN (n+1) X.A)(hg:Gl X x)(ha:PA X [a] ta)
    (hdb:autoParam ((x==("__debug__" :Str))=false) S7) (j3:autoParam (starEach [a] X.env=(false,eval a X.env)::starEach [] X.env) m5):
    PS X (.Raise (some (.Call (.Name x np) [a] [] O)) none j0) (λ_ Z H=>ta Z H λvs G=>∃n:Int,vs=[.int n]/\n.natAbs<1000/\∀d,G d=none->E (.ref C) (some d) (upd G d (.xd [(f,.int n)]))):=by
  intro ad s Z H D' I h;obtain⟨⟨fI,fd,ps,F,hx,i6,hb⟩,hm⟩:=F;have L:=Of I.ok.mod.kin hx;refine T9 (K:=X.K) (I.ok.hd hc) (ZH (DR I hg hm ?_ hdb));refine callWith_K (h₀:=X.base) I.ok.mod.kin (T6 hx) (Ap (ha O ad s Z H _ I h) λus s2 ⟨vs,G,J,rv,n,hv,hn,q1⟩=>⟨J.kIn,?_⟩) j3 rfl;subst hv;obtain⟨v,i5⟩:∃v,v=V.int n:=⟨_,rfl⟩;rw[<-i5]at rv q1;obtain⟨u,rfl,ru⟩:=rv.one;obtain⟨oI,i8,i9⟩:∃oI,s2.heap.get? fI=some oI/\oI.cls= .type "function" :=by
    obtain⟨oI,l,c⟩:=Zi.mp (ZR.mp i6);exact⟨oI,J.kIn _ _ l,c⟩
  refine(L.keeps J.bk).call ⟨oI,i8,i9⟩ (by show 1<=sizeLine;rw[aZ];lia) λh' e t0 hk hf i7=>?_
  have nH:G e=none:=by
    cases z:G e with
    |none=>rfl
    |some o =>
      obtain⟨w,hw⟩:=ObjOk.there (J.hok e o z);rw[hf]at hw;cases hw
  have n0:X.s₀.heap.get? e=none:=by
    cases z:X.s₀.heap.get? e with
    |none=>rfl
    |some o =>
      obtain⟨o1,e1⟩:=J.base.there e o z (by rw[D.ex];simp);rw[hf]at e1;cases e1
  have I2:Ac X ad Z G { s2 with heap:=h'}:=J.kept hk;have I3:Ac X ad Z (upd G e (Cv e C none)) { s2 with heap:=h'}:=by
    refine I2.track (λz=>?_) (λy c g z=>?_) (λp hp z=>?_) n0 nH (Le i7)
    . obtain⟨m,⟨o,_,_,ho,_⟩,_⟩:=J.loc;rw[<-z,hf]at ho;cases ho
    . obtain⟨w,hw⟩:=J.cell y c g;obtain⟨o,ho,_⟩:=hw;rw[z,hf]at ho;cases ho
    . have:=(J.pin p hp).1;rw[z,hf]at this;cases this
  have i0:sp_init C f [.ref e,v] (upd G e (Cv e C none)) (λr H'=>r= .non/\∃d,d≠e/\G d=none/\H'=upd (upd (upd G e (Cv e C none)) e (Cv e C (some d))) d (.xd [(f,v)])) E0:=
    ⟨⟨n, i5, hn⟩, Ag, λd hd => (have nd : d ≠ e := λz => by rw [z, Ag] at hd; cases hd
      ⟨rfl,d,nd,(Aq nd).symm.trans hd,rfl⟩)⟩
  have r2:At [V.ref e,v] [Value.ref e,u]:= .cons rfl (.cons ru .nil);have hl:([Value.ref e,u]++[]).length=ps.length:=by
    have:=F.len _ _ _ _ i0;exact this
  refine aX (ae (F.run _ X.stack _ _ ⟨[.ref e,u],[]⟩ ([.ref e,u]++[]) _ _ E0 (hr.make C [u] []) (I3.env0.make C [u] []) (hb _ [.ref e,u] I3.kIn hl) r2 i0) λr s3 hq=>?_);cases r with
  |error e=>exact hq.elim
  |ok fl =>
    cases fl with
    |ret u' =>
      obtain⟨v',H',I4,j2,ev,d,nd,hd,rfl⟩:=I3.after hq;subst ev;obtain⟨⟨t1,i4⟩,_,_⟩:=(show ObjOk X.prog X.w _ s3.heap e (Cv e C (some d)) from I4.hok e _ (by rw[Aq (Zd nd),Ag]));refine⟨j2,e,C,fI,some d,t1,rfl,L.keeps I4.bk,i4,?_⟩;have I5:Ac X ad Z (upd G d (.xd [(f,v)])) s3:=I4.untrack (e:=e) (by rw[Aq (Zd nd)];exact nH) (λb hb=>by
        by_cases z:b=d
        . rw[z,Ag,Ag]
        . rw[Aq z,Aq z,Aq hb,Aq hb]) (by rw[Aq (Zd nd),Ag];rfl)
      exact D.madeD I5 n0 (by rw[Aq (Zd nd)];exact nH) i4 rfl rfl rfl rfl (q1 d hd)
    |next=>exact False.elim hq
    |brk=>exact False.elim hq
    |cont=>exact False.elim hq
def ED(a D:yQ)(G:Option yQ):HO:= .ext λh=>∃g z,h.get? a=some g/\g.cls= .ref D/\g.dict=G/\g.data= .fields z
inductive Ol(K:Frag)(g:List V)(H:Hp)(Q:VK):Prop
 |mk(e C:yQ)(z:Option yQ)(v:V)(b:Bool)(_:g=[.ref e,v])(_:H e=some (ED e C z))(_:EC K C)(_:(∀u,RelV v u->PySem.W.kitOne K (.ref C) u=some b))(_:Q (.bl b) H)
def Om(K:Frag)(hK:autoParam (X.K=K) m5):BF X (.builtin "isinstance") (Ol K):=by
 subst hK;intro ad s σ H g us Q I rv h;obtain⟨e,C,G,v,b,rfl,Z,O,k,q⟩:=h;obtain⟨L,u2,rfl,r1,J⟩:=rv.two;obtain rfl:L=Value.ref e:=r1;obtain⟨⟨oe,g,h1,D,_⟩,_,_⟩:=(show ObjOk X.prog X.w H s.heap e (ED e C G) from I.hok e _ Z);exact PySem.W.kia_one (TF O) I.kIn ⟨oe,h1,D⟩ (k u2 J) (λz=>nomatch z) λtk=>⟨.bl b,H,I.tok _,rfl,q⟩
inductive Us_(K:Frag)(f:Str)(Q:VK)(x:V)(g:Hp):Prop
 |mk(e C a fs v:_)(_:x= .ref e)(_:g e=some (ED e C (some a)))(_:g a=some (.xd fs))(_:EC K C)(_:hasDictIn K C=true)(_:findIn K (.ref C) f=some none)(_:fs.lookup f=some v)(_:Q v g)
def Us(K:Frag)(D:TE)(f:Str):TE:=fun z H Q=>D z H λx g=>Us_ K f Q x g
def Ut{e:yJ}{f:Str}(he:PE X e ta)(hb:attributeBase e f X.env (eval e X.env)=eval e X.env):PE X (.Attribute e f pos) (Us X.K ta f):=by
 intro ad s σ H Q I h;refine MS hb (Ap (he ad s σ H _ I h) λu D zq=>?_);obtain⟨x,L,g,Z,e,C,a,fs,v,ex,ea,hx,O,hh,hn,l,q⟩:=zq;subst ex;obtain rfl:u=Value.ref e:=Z;obtain⟨⟨oe,vs,h1,h2,h3,h4⟩,_,_⟩:=(show ObjOk X.prog X.w L D.heap e (ED e C (some a)) from g.hok e _ ea);obtain⟨mA,z,r⟩:=(show ObjOk X.prog X.w L D.heap a (.xd fs) from g.hok a _ hx);obtain⟨u,G,ru⟩:=RelO.some_of (v:=v) (o:=mA f) (by rw[<-l];exact r f);obtain⟨od,ho,hl⟩:=MO z;have J:InstAt D.heap e oe C (some od):=⟨h1,h2,by unfold notCls;rw[h4],by rw[h3];exact ho⟩;refine Uk O g.kIn J (v:=u) (findObj_own hh hn rfl (by rw[hl,G])) (MR ru) ⟨v,L,g.tok _,ru,q⟩
end
section
def GM(W:yQ->Option yQ->Hp->List V->Prop)(Q:VK):XK:=λc G D=>∃C z,c= .ref C/\W C G D z/\∀g t,(∀b o,D b=some o->g b=some o)->g t=some (.tup z)->Q (.ref t) g
def FM(W:yQ->Option yQ->Hp->List V->Prop):Sp:=λvs H Q _=>zJ (λe=>∃C dx ws,H e=some (ED e C dx)/\W C dx H ws/\∀H3 t,(∀b o,H b=some o->H3 b=some o)->H3 t=some (.tup ws)->Q (.ref t) H3) vs
inductive EE_(P:yO)(w:yK)(K:Fgx)(mg:Str->yW)(base:Heap)(k:Nat)(W:yQ->Option yQ->Hp->List V->Prop)(outer:List Env)(s:yR)(H:Hp)(Q:VK)(f:yQ):Prop
 |mk(_:PySem.W.FnAt f s.heap)(_:H f = none)(_:f ∉ AD outer)(_:∀ (A' : yL) (outer' : List Env) (s' : yR), AN k A' -> CH P w K mg base A' outer' s' H -> Un (AD outer) [] H H s.heap s'.heap -> codeAny (model P w) A' (.call (.ref f) ⟨[],[]⟩) (CR (Bm P w) outer' P w H s' (Lc Q) (GM W Q)) s')
def EE(P:yO)(w:yK)(K:Fgx)(mg:Str->yW)(base:Heap)(k:Nat)(W:yQ->Option yQ->Hp->List V->Prop)(outer:List Env)(s:yR):Sp:=λvs H Q _=>zJ (EE_ P w K mg base k W outer s H Q) vs
section
variable{X:Cx}{H:Hp}{f:yQ}{Q:VK}{W:yQ -> Option yQ -> Hp -> List V -> Prop}
def Uu{k:Nat}{L:VSP}{x:Str}{p i0:Pos}(hN:X.N[0]? =some x)(hv:Ej X.env.scope x)(hdb:(x==("__debug__" :Str))=false)(i5:(x==("__classdict__" :Str))=false)(Z:X.ex=[])(h0:X.H₀=H)
  (hr:AN k X.A) (hs:EE X.prog X.w X.K X.mg X.base k W X.outer X.s₀ [.ref f] H Q E0)
  (hW:∀ad z sc v s',Ac X ad z H sc->Bm X.prog X.w X.stack H sc (GM W Q) v s'->L v s'):
  PE (X.wish L) (.Call (.Name x p) [] [] i0) (fun z H' Q'=>z[0]? =some (some (.ref f))/\H'=H/\∀v g,Lc Q v g->Q' v g):=by
 intro ad s z H' Q' I ⟨hσ,e,hq⟩;subst e;obtain⟨hf,hn,O,run⟩:=hs;refine ZH (Ap ((Gf (X:=X.wish L) (i:=0) hN hv hdb i5) ad s z H' (λv g=>v= .ref f/\g=H') I ?_) λu G ⟨v,g,I2,r,q⟩=>?_)
 .exact⟨.ref f,hσ,rfl,rfl⟩
 obtain⟨rfl,rfl⟩:=q;have hu:u= .ref f:=r;subst hu;have I3:Ac X ad z g G:=I2.unwish;have un:Un (AD X.outer) [] g g X.s₀.heap G.heap:=by
  have:=I3.base;rw[Z,h0]at this;exact this
 obtain⟨oc,od,fd,sl,ho⟩:=hf;have i4:=un.keep f _ ho hn O (by simp);refine PySem.W.callWith_F0 ⟨oc,od,fd,sl,i4⟩ ?_;refine aX (ae (run X.A X.stack G hr I3.env0 un) λr s' D=>?_);cases r with
 |error e=>exact hW ad z G e s' I3 D
 |ok fl=>
  cases fl with
  |ret u=>
   obtain⟨v,H3,J,rv,qv⟩:=I2.after D;exact⟨v,H3,J,rv,hq v H3 qv⟩
  |next=>exact False.elim D
  |brk=>exact False.elim D
  |cont=>exact False.elim D
end
section
variable{X:Cx}{H:Hp}{f M:yQ}{Q:VK}{W:yQ -> Option yQ -> Hp -> List V -> Prop}{s1:yR}
def Uv{wn:Str}{k n:Nat}{i1 i2:Nat}{p1 p2 p3 p4 p5 p6 p7 p8 p9 l6 u8 n5:Pos}(stk:X.stack=X.env::X.outer)(fr:X.env.frame=some X.env.locals)(j6:X.ex=[])(v7:X.pn=[])(hc:X.calm=true)(h0:X.H₀=H)(hN:X.N=[("_law_call" :Str),("_law_e" :Str)])
  (k0:X.env.scope.names.lookup ("_law_call" :Str)=some .local) (k1:X.env.scope.names.lookup ("_law_e" :Str)=some .local) (gM:Gl X "MainError") (gw:Gl X wn) (hM:X.mg "MainError"=some (.ref M))
  (hB:PySem.W.mroIn X.K M (.type "BaseException")=some true) (hT:PySem.W.typeIn X.K (.ref M)=some (.type "type")) (hWM:∀C O H ws,W C O H ws->PySem.W.mroIn X.K C (.ref M)=some true) (u6:∀C O H H' ws,W C O H ws->(∀b o,H b=some o->H' b=some o)->W C O H' ws) (Dw:FH X.prog X.w X.K X.mg X.base n wn ["_law_e"] (FM W))
  (hdb:(wn==Str.ofString "__debug__")=false) (hr:AN k X.A) (hn:n<=k) (hs:EE X.prog X.w X.K X.mg X.base k W X.outer X.s₀ [.ref f] H Q E0) (I:Ac X [] [some (.ref f),none] H s1):
  wpAny (model X.prog X.w) X.A (execs [Oc wn i1 i2 p1 p2 p3 p4 p5 p6 p7 p8 p9 l6 u8 n5] X.env) (λfl s'=>match fl with | .ret u=>∃v L H',Ac X [] L H' s'/\RelV v u/\Q v H' | _=>False) (λ_ _=>False) s1:=by
 have l9:X.A.frames=some (X.env::X.outer):=by rw[<-stk];exact I.ok.frames
 refine dU (wpAny_Try_except ?_);have i6:PSs (X.wish λv s'=>∃ad L sc,Ac X ad L H sc/\Bm X.prog X.w X.stack H sc (GM W Q) v s') [.Return (some (.Tuple [.Constant (.str "told") i1 p1,.Call (.Name "_law_call" p2) [] [] p3] i2 p4)) p5] _:=
  An (Av (Ce (Bi Ax (Bi (Uu (k:=k) (by rw[hN];rfl) (.inl k0) (by decide) (by decide) j6 h0 hr hs λad L sc v s' a b=>⟨ad,L,sc,a,b⟩) CS))))
 refine Zf (i6 [] s1 [some (.ref f),none] H { nx:=λ_ _=>False,rt:=Q} (I.wish _) ?_) (λfl s' z=>?_) λv s' z=>?_
 .exact⟨rfl,rfl,λv H2 hq p hp=>hq p hp⟩
 .cases fl with
  |ret u=>
   obtain⟨v,σ',H',J,rv,q⟩:=z;exact⟨v,σ',H',J.unwish,rv,q⟩
  |next=>obtain⟨_,_,_,q⟩:=z;exact q.elim
  |brk=>obtain⟨_,_,_,q⟩:=z;exact q.elim
  |cont=>obtain⟨_,_,_,q⟩:=z;exact q.elim
 obtain⟨ad,L,sc,u0,C,a,H2,O,rfl,x,⟨oe0,v3,v6⟩,C',ws,w9,hw,hq⟩:=z;cases w9;have Ic:Ac X [] L H sc:=u0.pins_of λp hp=>absurd hp (by simp)
 obtain⟨B,t,fl,kB,tB,j3⟩:=x.fly;have ff:=fl.2.2.1;have i7:B.get? a=none:=fl.2.1;have j9:=fl;rw[stk]at j9;refine Zf ((N7 _ _).any (wpAny_looks_onW (Q:=λ_ s2=>∃h4,s2= { s' with heap:=h4}/\Heap.HeldW B (X.env::X.outer) a (.ref C) t X.env.locals h4/\s'.heap.UpToSlots h4) l9 fr j9 λh4 g i5=>⟨h4,rfl,g,i5⟩)) (λ_ s2 z=>?_) λ_ _ z=>z
 obtain⟨⟨h4,rfl,g,i5⟩,v8⟩:=z;refine Zf ((Lb _ _).any (wpAny_landsW (Q:=λ_ s2=>∃Z,s2= { s' with heap:=Z}/\Heap.FlyingW B (X.env::X.outer) a (.ref C) t Z/\h4.UpToSlots Z) g λZ G j2=>⟨Z,rfl,G,j2⟩)) (λ_ s2 z=>?_) λ_ _ z=>z
 obtain⟨⟨Z,rfl,G,j2⟩,r8⟩:=z;have up:=i5.trans j2;have I5:Ac X [] L H2 { s' with heap:=Z}:=Ic.call' (s':= { s' with heap:=Z}) (ch:=[]) x.os (Oa x.un kB tB ff G.1 up) (j3.kept G.1) x.bare λb z=>absurd z (by simp)
 have hA:(X.A.mark (some (.ref a))).frames=some X.stack:=I.ok.frames;have o8:=I5.hot (A:=X.A.mark (some (.ref a))) hA;refine wpAny_handleBy_cons (codeAny_handlers_test ?_) (by intro q;cases q);refine DR (X:=X.hot (X.A.mark (some (.ref a)))) o8 gM hM ?_;have o9:ExcAt Z a C:=by
  obtain⟨oe,vs,h1,h2,_⟩:=G.first
  exact⟨oe,h1,h2⟩
 refine TR I5.kIn o9 (hWM C O H2 ws hw) hB hT ?_;refine codeAny_handlers_suite_as ?_;refine Zf ((Lb _ _).any (lands_againW (Q:=λ_ s2=>∃h6,s2= { s' with heap:=h6}/\Heap.FlyingW B (X.env::X.outer) a (.ref C) t h6/\Z.UpToSlots h6) G λh6 D i8=>⟨h6,rfl,D,i8⟩)) (λ_ s2 z=>?_) λ_ _ z=>z
 obtain⟨⟨h6,rfl,D,i8⟩,u5⟩:=z;have I6:Ac X [] L H2 { s' with heap:=h6}:=Ic.call' (s':= { s' with heap:=h6}) (ch:=[]) x.os (Oa x.un kB tB ff D.1 (up.trans i8)) (j3.kept D.1) x.bare λb z=>absurd z (by simp)
 obtain⟨oe,vs,i0,w8,j7,_⟩:=D.first
 have j8:oe.dict=O:=(((v8.trans r8).trans u5).get v3 i0).trans v6;have j0:H2 a=none:=by
  cases q:H2 a with
  |none=>rfl
  |some o=>
   obtain⟨u,hu⟩:=ObjOk.there (j3 a o q);rw[i7]at hu;cases hu
 have v4:∀b o,sc.heap.get? b=some o->H b=none->b ∉ AD X.stack->b≠a:=λb o e n hb z=>by
  have:=kB b o e n hb;rw[z,i7]at this;cases this
 have i9:a ∉ AD X.stack:=λz=>by
  have f6:=D.2.2.1;rw[<-stk]at f6;obtain⟨_,o',l7,hd⟩:=f6.mem z;rw[i0]at l7;cases l7;exact hd vs j7
 have na:a≠X.env.locals:=λz=>i9 (by rw[stk,z];exact ZM.mpr ⟨X.env,.head _,fr⟩)
 have I7:Ac X [] L (upd H2 a (ED a C O)) { s' with heap:=h6}:=by
  refine I6.track na (λy c e z=>?_) (λp hp z=>?_) ?_ j0 ⟨⟨oe,vs,i0,w8,j8,j7⟩,⟨oe,i0⟩,λh1 h2 ⟨o,vs,e1,e2⟩ k=>⟨o,vs,k o e1,e2⟩⟩
  .obtain⟨v,hv⟩:=Ic.cell y c e;obtain⟨o,ho,hd⟩:=hv;refine v4 c o ho (Ic.freeC y c e) (λhf=>?_) z;rcases Z4.mp (Ic.stkSub c hf) with q | q
   .exact Ic.cne y c e q
   .exact absurd q (z ▸ λq=>i9 (by rw[stk];obtain⟨y',hy,n9⟩:=ZM.mp q;exact ZM.mpr ⟨y',.tail _ hy,n9⟩))
  .rw[v7]at hp;exact absurd hp (by simp)
  .cases q:X.s₀.heap.get? a with
   |none=>rfl
   |some o=>
    exfalso
    obtain⟨o1,e1⟩:=Ic.base.there a o q (by rw[j6];simp);obtain⟨o2,e2⟩:=tB a o1 e1 i9;rw[i7]at e2;cases e2
 have j4:X.N.Nodup:=by rw[hN];decide
 have hi:X.N[1]? =some ("_law_e" :Str):=by rw[hN];rfl
 have w5:=I7.hot (A:=X.A.mark (some (.ref a))) hA;refine Fj (X:=X.hot (X.A.mark (some (.ref a)))) (v:= .ref a) w5 j4 hi (.inl k1) rfl (λs8 I8=>?_) (.inr k1);have i4:PSs (X.hot (X.A.mark (some (.ref a)))) [.Return (some (.Call (.Name wn p7) [.Name "_law_e" p8] [] p9)) l6] _:=
  An (Av (TU (hdb:=hdb) (X:=X.hot (X.A.mark (some (.ref a)))) Dw ((hr.q.mono hn).mark _) gw (Bi (Gf (i:=1) hi (.inl k1) (by decide) (by decide)) CS)))
 have j5:1<L.length:=by rw[Ic.len,hN];decide
 refine Zf (i4 [] s8 (L.set 1 (some (.ref a))) (upd H2 a (ED a C O)) { nx:=λ_ _=>False,rt:=Q} I8 ?_) (λfl s9 z=>?_) λ_ _ z=>z.elim
 .refine⟨.ref a,bV j5,C,O,ws,Ag,u6 _ _ _ _ _ hw (λb o e=>by rw[Aq (λz=>by rw[z,j0]at e;cases e)];exact e),λH3 t3 e3 h3=>?_⟩;exact hq H3 t3 (λb o e=>e3 b o (by rw[Aq (λz=>by rw[z,j0]at e;cases e)];exact e)) h3
 .cases fl with
  |ret u=>
   obtain⟨v,σ',H',J,rv,q⟩:=z;have J':Ac X [] σ' H' s9:=Ac.cool I.ok J;exact TQ J' j4 hi k1 λs10 u9=>⟨v,_,H',u9,rv,q⟩
  |next=>obtain⟨_,_,_,q⟩:=z;exact q.elim
  |brk=>obtain⟨_,_,_,q⟩:=z;exact q.elim
  |cont=>obtain⟨_,_,_,q⟩:=z;exact q.elim
end
def Uw{L:Str}{P:yO}{w:yK}{K:Fgx}{mg:Str->yW}{base:Heap}{st:Stmt}{k n:Nat}{M:yQ}{W:yQ->Option yQ->Hp->List V->Prop}{i1 i2:Nat}{p1 p2 p3 p4 p5 p6 p7 p8 p9 i6 i5 Z:Pos}
  (F:Df K mg "_law_said" st ["_law_call"]) (S:As ["_law_call","_law_e"] ["_law_call"] (Am st)) (hb:A9 st=[Oc L i1 i2 p1 p2 p3 p4 p5 p6 p7 p8 p9 i6 i5 Z])
  (k0:(Am st).names.lookup ("_law_call" :Str)=some .local) (k1:(Am st).names.lookup ("_law_e" :Str)=some .local) (gM:(Am st).names.lookup ("MainError" :Str)=some .globalImplicit) (gw:(Am st).names.lookup L=some .globalImplicit)
  (hM:mg "MainError"=some (.ref M)) (hB:PySem.W.mroIn K M (.type "BaseException")=some true) (hT:PySem.W.typeIn K (.ref M)=some (.type "type")) (i9:∀C G H ws,W C G H ws->PySem.W.mroIn K C (.ref M)=some true) (i4:∀C G H H' ws,W C G H ws->(∀b o,H b=some o->H' b=some o)->W C G H' ws)
  (Dw:FH P w K mg base n L ["_law_e"] (FM W)) (hn:n<=k) (hdb:autoParam ((L==Str.ofString "__debug__")=false) S7):GH P w K mg base (k+1) "_law_said" ["_law_call"] (EE P w K mg base k W):=by
 obtain⟨f,fd,hF,hm,i8⟩:=F.ex;have kp:=hF.kp;obtain⟨oc,od,kV,j0,pm,an,dl,ct,j2,rfl,lk,i7⟩:=hF.ex;refine⟨f,_,λA outer s H args us vs Q hr e0 O r D=>?_,hm,kp,i8⟩;have hl:∃g,vs=[.ref g]:=by
  cases D;exact⟨_,rfl⟩
 obtain⟨g,rfl⟩:=hl;refine Ob lk i7 S hr.q e0 O r rfl λs1 I=>?_
 have eA:({ A with handled:=none}:yL)=A:=by
  obtain⟨h,d,fs,gs,u⟩:=A;have:h=none:=hr.hd;subst this
  rfl
 rw[eA]at I;rw[hb];have i0:=hr.deeper (envOfC "_law_said" (Am st) s.heap.objs.size f dl);have I2:Ac (BT CX0 P w K mg base ["_law_call","_law_e"] "_law_said" (Am st) f dl A outer s H E0) [] [some (.ref g),none] H s1:=I;refine Zf (Uv (X:=BT CX0 P w K mg base ["_law_call","_law_e"] "_law_said" (Am st) f dl A outer s H E0) (k:=k) rfl rfl rfl rfl rfl rfl rfl k0 k1 gM gw hM hB hT i9 i4 Dw hdb i0 hn D I2) (λfl s' z=>?_) λ_ _ z=>z
 cases fl with
 |ret u=>
  obtain⟨v,σ,H',J,rv,q⟩:=z;exact⟨v,H',J.os,J.bare,J.base,J.hok,rv,q⟩
 |next=>exact z.elim
 |brk=>exact z.elim
 |cont=>exact z.elim
variable{X:Cx}{scope:Scope}{N':List Str}{cap:List (Option Nat)}{P c:yQ}{ql:Str}{params:Arguments}{body:yJ}{lpos p pos:Pos}{W:yQ -> Option yQ -> Hp -> List V -> Prop}{k:Nat}{te:XK -> TE}
def On(P:yQ)(z:Str)(W:yQ->Option yQ->Hp->List V->Prop)(cap:List (Option Nat))(D:XK->TE):TE:=fun G H Q=>TabIn H P z/\∀g,TabIn g P z->(∀b o,H b=some o->b≠P->g b=some o)->D (GM W Q) (AO cap G) g (Lc Q)
def FN(F:GH X.prog X.w X.K X.mg X.base (k+1) "_law_said" ["_law_call"] (EE X.prog X.w X.K X.mg X.base k W))(hr:AN (k+1) X.A)(hg:Gl X "_law_said")(i7:∀x,X.fn x=true)(O:X.env.code= .ref c)(hC:PySem.W.CodeHd X.base c P)(j2:X.base.BuiltinsAt X.mg P)
  (B:AB X.env.scope X.N scope N' cap) (nc:∀x∈scope.names,x.2≠ .cell) (co:scope.isCoroutine=false) (gen:scope.isGenerator=false) (G:X.env.qual++ "<lambda>"=ql) (i4:defaultsOf params X.env=([],[]))
  (L:∀i6 pm Z i5,bindArgs (PySem.W.kla_fn "<lambda>" ql params body scope i6 pm (.ref Z) i5) ⟨[],[]⟩=pure [])
  (J:∀(A:yL) (outer:List Env) (s:yR) (H:Hp) (f Z:yQ) (E:XK),AN k A->PE (GG X.prog X.w X.K X.mg X.base N' ql scope f (.ref Z) (AX X.env.cells scope.names []) A outer s H E) body (te E))
  (he:autoParam (starEach [.Lambda params body scope lpos] X.env=(false,eval (.Lambda params body scope lpos) X.env)::starEach [] X.env) m5) (j0:autoParam ((backTo pos (starEach [] X.env)).any (·.1)=false) m5):
  PE X (.Call (.Name "_law_said" p) [.Lambda params body scope lpos] [] pos) (On P ql W cap te):=by
 intro ad s σ H Q I ⟨hT,hqq⟩;obtain⟨f0,fd,run,hm,hk,hb⟩:=F.ex;refine ZH (DR I hg hm ?_ (by decide));refine PySem.W.callWith_K (h₀:=X.base) I.ok.mod.kin hk (spliced_more (TY I hT O hC j2 B G i4 λs1 H1 f Z pm i5 g T1 k1 n1 n2 o1 c1=>spliced_none ⟨g.kIn,?_⟩)) he j0;have i9:=hb s1 [.ref f] g.kIn rfl;refine aX (ae (run X.A X.stack s1 H1 ⟨[.ref f],[]⟩ [.ref f] [.ref f] Q hr g.env0 i9 (.cons rfl .nil) ?_) λr s' G=>?_)
 .refine⟨⟨_,_,_,_,o1⟩,n1,n2,λA' D s' i0 e' un=>?_⟩;refine TN g B nc co gen i0 e' (λx cc v e ic=>?_) (un.keep f _ o1 n1 n2 (by simp)) (e'.hok Z _ c1).1 (L _ _ _ _) (J A' D s' H1 f Z _ i0) (hqq H1 T1 k1);obtain⟨o,ho,hd⟩:=ic;refine⟨o,un.keep cc o ho (g.freeC x cc e) (λz=>?_) (by simp),hd⟩;rcases Z4.mp (g.stkSub cc z) with q | q
  .exact g.cne x cc e q
  .obtain⟨_,o',i8,_⟩:=g.ok.funs.mem q;exact absurd (YX (Y9 i8) (g.ok.cab x cc (i7 x) e)) (Z8 _)
 .cases r with
  |error e=>exact G.elim
  |ok fl=>
   cases fl with
   |ret u=>exact g.after G
   |next=>exact False.elim G
   |brk=>exact False.elim G
   |cont=>exact False.elim G
end
section
variable{X:Cx}{σ:St}{H:Hp}{kvs:List (AL × V)}{te:TE}
def Ux:entryFor table "dict_itemiterator.__iter__"=some Builtin.«dict_keyiterator.__iter__»:=entryFor_alias (id':="dict_keyiterator.__iter__") (by kernel_rfl) rfl (by decide+kernel) (by kernel_rfl)
def Uy{P:yO}{w:yK}{k:AL}{v:yU}(h:(Bz P w).is k v=true):RelV (kV k) v:=by
 rw[P7]at h;rcases Ds h with⟨i,t,rfl,rfl⟩ | ⟨x,t,rfl,rfl⟩
 .exact⟨t,rfl⟩
 .exact⟨t,rfl⟩
theorem KV.get{g:Type}:∀ {ks:List (g×V)}{vs:List (g×yU)}{i:Nat}{q:g×V},KV ks vs->ks[i]? =some q->∃u,vs[i]? =some (q.1,u)/\RelV q.2 u
 |_,_,_,_,.nil,e=>by simp at e
 |_,_,0,_,.cons (b:=b) r _,e=>by
  simp at e;subst e;exact⟨b.2,by rw[r.1];rfl,r.2⟩
 |_,_,i+1,q,.cons _ t,e=>by
  obtain⟨u,z,D⟩:=KV.get (i:=i) (q:=q) t (by simpa using e);exact⟨u,by simpa using z,D⟩
def Ac.dictAt{ad:PNs}{s:yR}{d:yQ}{o:Obj}{es:Array DictEntry}{ep:Nat}(I:Ac X ad σ H s)(h:H d=some (.frz o (.dK kvs)))(z:o.data= .dict es ep):
  ∃vs,KV kvs vs/\s.heap.DictAt (Bz X.prog X.w) d vs ep:=by
 obtain⟨e,_,_,vs,D,L,G,J,g,c,dd,r⟩:=(show ObjOk X.prog X.w H s.heap d (.frz o (.dK kvs)) from I.hok d _ h);rw[e]at g;cases g;rw[z]at dd;cases dd;exact⟨vs,D,o,es,e,c,z,r⟩
def Lh(d:yQ)(o:Obj)(kvs:List (AL×V)):It:=
 ⟨λi H=>H d=some (.frz o (.dK kvs))/\i<kvs.length,λi H v g=>∃T q,v= .ref T/\H T=none/\kvs[i]? =some q/\g=upd H T (.tup [kV q.1,q.2]),λi H=>H d=some (.frz o (.dK kvs))/\kvs.length=i⟩
def Uz{P:yO}{w:yK}{K:Fgx}{es:List yJ}{k:Nat}{i9:Pos}{o:Obj}{kvs:List (AL×V)}{i6:Array DictEntry}{ep:Nat}(d it:yQ)(ho:o.data= .dict i6 ep)(j2:d≠it):
  Dv P w K (.Tuple es k i9) (Lh d o kvs) [it] it (λi h=>∃ok G,IsItemIter h it d i kvs.length ep ok G) where
 mem:=by simp
 obj:=λi h st b g=>by
  obtain⟨ok,G,D⟩:=st;rw[Z2.mp g];exact⟨_,D,λv z=>by
   have z':Data.fields _=Data.cell v:=z;cases z'⟩
 keep:=λi h h' st kk=>by obtain⟨ok,G,D⟩:=st;exact⟨ok,G,kk it (by simp) _ D⟩
 item:=by
  intro X hP hw hK hc i ad s σ H E I hf st hg;subst hP hw;obtain⟨ok,G,D⟩:=st;obtain⟨hd,i5⟩:=hg;obtain⟨vs,kv,hm⟩:=I.dictAt hd ho;have hl:kvs.length=vs.length:=Paired.length kv;have hq:kvs[i]? =some kvs[i]:=by simp[i5]
  obtain⟨u,hu,ru⟩:=kv.get hq;rw[hl]at D;refine wpAny_pyNext_items_item D hm hu λJ h1 L i0 i4 j3 hk=>⟨_,rfl,wpAny_letOwnedTupleGo_items i0 λh2 j0 Z=>?_⟩
  have O:it<s.heap.objs.size:=Y9 D;have kk:∀b ob,b ∉ [it]->s.heap.get? b=some ob->h2.get? b=some ob:=λb ob g q=>Z.extBut b ob (λz=>g (by rw[z];simp)) (hk b ob (λz=>g (by rw[z];simp)) q)
  have i8:IsTup h2 s.heap.objs.size [J,u].toArray:=⟨_,(Z.2 _ (aa O)).trans i4,rfl,_,rfl⟩;exact⟨.ref s.heap.objs.size,upd H s.heap.objs.size (.tup [kV kvs[i].1,kvs[i].2]),I.yielded (tk:=s.toks) (λb g=>hf b g) kk (Y5 _) i8 (.cons (Uy L) (.cons ru .nil)) (by show 2<=sizeLine;decide),rfl,
   ⟨_, kvs[i], rfl, I.hok.fresh (Y5 _), hq, rfl⟩, ⟨J, u, by rw [hl]; exact j0⟩, λb g => by
    rw[Z2.mp g,Aq (Zc O)];exact(hf it (by simp)).1⟩
 done:=by
  intro X hP hw hK hc i ad s σ H E I hf st hg;subst hP hw;obtain⟨ok,G,D⟩:=st;obtain⟨hd,i5⟩:=hg;obtain⟨vs,kv,hm⟩:=I.dictAt hd ho;have hl:kvs.length=vs.length:=Paired.length kv;rw[hl]at D;refine wpAny_pyNext_items_end (I.ok.hd hc) D hm (by rw[Zu];lia) λh' i7=>⟨rfl,I.ended (tk:=s.toks) (λb g=>hf b g) λb ob g q=>i7 b ob (λz=>g (by rw[z];simp)) q⟩
 self:=λA i s Q E st h=>by
  obtain⟨ok,G,D⟩:=st;have hT:s.TypeIs (.ref it) "dict_itemiterator" :=⟨_,D,rfl⟩;refine wpAny_pyIter_slot hT df (aG df hT Ux ?_ (F.args_dict_itemiterator_iter_1 _));show wpAny _ _ (ret (.ref it)) _ _ s;exact Y4 ⟨_,rfl,"dict_itemiterator",_,hT,F.slot_dict_itemiterator_next.lookup,h⟩
def UA(D:TE):TI:=fun G H R=>D G H λx z=>∃d o g,x= .ref d/\z d=some (.frz o (.dK g))/\R (Lh d o g) z
def Oo{es:List yJ}{k:Nat}{i0 G J:Pos}{e:yJ}(he:PE X e te)(L:autoParam (attributeBase e "items" X.env (eval e X.env)=eval e X.env) m5)(O:autoParam ((G.endLine==J.line)=true) m5):
  PI X (.Tuple es k i0) (.Call (.Attribute e "items" G) [] [] J) (UA te):=by
 intro ad s σ H R I h;refine eG L O (Ap (he ad s σ H _ I h) λv z zq=>?_);obtain⟨x,H1,I1,r1,d,o,kvs,ex,hd,q⟩:=zq;subst ex;cases r1;obtain⟨eo,_,i4,g,i7,D⟩:=(show ObjOk X.prog X.w H1 z.heap d (.frz o (.dK kvs)) from I1.hok d _ hd);obtain⟨o',i5,ep,e',c,dd,r⟩:=id D;have i8:o'=o:=by rw[eo]at e';exact(Zb e').symm
 subst i8;refine⟨"dict","dict.items",F.plainAttrs_dict,F.slot_dict_items,F.type_dict_items,D.typeIs,D.mapOf.noDict,?_⟩;refine method_meetsIn F.slot_dict_items F.entry_dict_items rfl (PySem.evalArgs_none ⟨rfl,D.typeIs,F.args_dict_items_1 _,_,meets_dict_items (Bz X.prog X.w) d i4,⟨_,D⟩,?_⟩);have i9:=Y9 eo;have hz:(z.heap.push { cls:= .type "dict_items",data:= .fields #[.ref d]}).objs.size=z.heap.objs.size+1:=Zp ..;have i6:z.heap.DictAt (Bz X.prog X.w) d g ep:=⟨o',i5,eo,c,dd,r⟩;refine wpAny_pyIter_items (knd:=Bz X.prog X.w) (d:=d) (kvs:=g) (ep:=ep) ⟨_,YV _ rfl,rfl,rfl⟩ (i6.push _) ?_;have hl:kvs.length=g.length:=Paired.length i7;dsimp only;have kk:∀b ob,z.heap.get? b=some ob->((z.heap.push { cls:= .type "dict_items",data:= .fields #[.ref d]}).push { cls:= .type "dict_itemiterator",data:= .fields #[.none,.bool false,.ref d,.int 0 0,.int g.length 0,.int ep 0,.none,.none]}).get? b=some ob:=λb ob q=>Y2 _ (Y2 _ q)
 have Z:((z.heap.push { cls:= .type "dict_items",data:= .fields #[.ref d]}).push { cls:= .type "dict_itemiterator",data:= .fields #[.none,.bool false,.ref d,.int 0 0,.int g.length 0,.int ep 0,.none,.none]}).get? (z.heap.objs.size+1)=some { cls:= .type "dict_itemiterator",data:= .fields #[.none,.bool false,.ref d,.int 0 0,.int g.length 0,.int ep 0,.none,.none]}:=by
  rw[<-hz];exact YV _ rfl
 rw[hz];generalize(z.heap.push { cls:= .type "dict_items",data:= .fields #[.ref d]}).push { cls:= .type "dict_itemiterator",data:= .fields #[.none,.bool false,.ref d,.int 0 0,.int g.length 0,.int ep 0,.none,.none]}=h2 at kk Z;refine⟨z.heap.objs.size+1,[z.heap.objs.size+1],_,_,H1,rfl,I1.kept (t':=z.toks) kk,Uz (o:=o') (kvs:=kvs) d (z.heap.objs.size+1) dd (Zc (ZX i9)),⟨.none,.none,by rw[hl];exact Z⟩,λb hb=>?_,q⟩;rw[Z2.mp hb];exact I1.fpOk (ZB _) (I1.hok.fresh (ZB _))
def Op{d:yQ}{o:Obj}{cap:List (Option Nat)}{g:TG}{J:TT}{Q:List V->Hp->Prop}(z:Nat->List V->Hp->Prop)(hn:kvs.length<=100000)(h0:z 0 [] H)(hz:∀i zs H,z i zs H->zs.length<=i)
  (G:∀i zs H,z i zs H->H d=some (.frz o (.dK kvs)))
  (Z:∀i q zs H T,kvs[i]? =some q->z i zs H->H T=none->g (.ref T) (AO cap σ) (upd H T (.tup [kV q.1,q.2])) fun D H2=>Keep (AO cap σ) D/\J D H2 λb I=>br b (te D I λy O=>z (i+1) (zs++[y]) O) (z (i+1) zs I))
  (hd:∀zs H,z kvs.length zs H->Q zs H):ER (Lh d o kvs) cap g J te σ Q H:=
 Fu kvs.length z hn h0 hz (λi zs H hi p=>⟨⟨G i zs H p,hi⟩,λv H' zq=>by
  obtain⟨T,q,e,n,L,y⟩:=zq;subst e y;exact Z i q zs H T L p n⟩)
  λzs H p=>⟨⟨G _ zs H p,rfl⟩,hd zs H p⟩
end
section
variable{k:AL}{v:V}{u:yU}{P:yO}{h:Heap}{vs:List (AL × yU)}{Y:Cx}{PB:List (yQ × Obj)}{σ:St}{H:Hp}
abbrev KL:=List (AL×V)
def CJ(ks:KL)(k:AL)(v:V):KL:=if ks.any (λq=>q.1=k) then ks.map (λq=>if q.1=k then(q.1,v) else q) else ks++[(k,v)]
theorem KV.anyK:∀ {ks:KL}{vs:List (AL×yU)},KV ks vs->ks.any (λq=>q.1=k)=vs.any (λq=>q.1=k)
 |_,_,.nil=>rfl
 |_,_,.cons r t=>by rw[bZ,bZ,KV.anyK t,r.1]
theorem KV.mapK(h:RelV v u):∀ {ks:KL}{vs:List (AL×yU)},KV ks vs->KV (ks.map λq=>if q.1=k then(q.1,v) else q) (vs.map λq=>if q.1=k then(q.1,u) else q)
 |_,_,.nil=> .nil
 |_,_,.cons (a:=a) (b:=b) r t=>by
  rw[ZJ,ZJ];refine .cons ?_ (KV.mapK h t);rw[<-r.1];split
  .exact⟨r.1 ▸ rfl,h⟩
  .exact r
theorem KV.snoc{g:Type}{q:g×V}{p:g×yU}(h:q.1=p.1/\RelV q.2 p.2):∀ {ks:List (g×V)}{vs:List (g×yU)},KV ks vs->KV (ks++[q]) (vs++[p])
 |_,_,.nil=> .cons h .nil
 |_,_,.cons r t=> .cons r (KV.snoc h t)
def KV.put(h:RelV v u){ks:KL}{vs:List (AL×yU)}(r:KV ks vs):KV (CJ ks k v) (stored vs k u):=by
 unfold CJ stored;rw[r.anyK];split
 .exact KV.mapK h r
 .exact KV.snoc ⟨rfl,h⟩ r
def Oq(ks:KL)(k:AL)(v:V):(CJ ks k v).length<=ks.length+1:=by
 unfold CJ;split
 .rw[Y0];lia
 .rw[Zj];simp
def UB(P:yO)(w:yK)(h:RelV (kV k) u):(Bz P w).is k u=true:=by
 cases k with
 |inl i=>obtain⟨t,rfl⟩:=h;exact J0 P w i t
 |inr x=>obtain⟨t,rfl⟩:=h;exact Hx P w x t
section
variable{prog:yO}{w:yK}{A:yL}{R:Result -> yR -> Prop}{s:yR}{kx vx tg it:yJ}{ifs:List yJ}{sc:Scope}{ps:Pos}{gg:yU}{D:yQ}{env:Env}
def UC(ht:∀v,letOwnedTupleGo tg gg v=pure ())(I:Nat->yR->Prop)
  (G : ∀ n s, I n s -> wpAny (model prog w) A (pyNext gg) (λr J => match r with
   |none=>R (.ok .next) J
   |some v => wpAny (model prog w) A (letOwnedTupleGo tg gg v) (λ_ s2 => wpAny (model prog w) A (assign tg env v) (λ_ Z =>
     wpAny (model prog w) A (forIn ifs true λc r=>if r=true then do let ok<-isTrue c env (eval c env);pure (ForInStep.yield ok) else pure (ForInStep.yield r)) (λok s4=>
      if ok=true then wpAny (model prog w) A (eval kx env) (λkv O=>wpAny (model prog w) A (eval vx env) (λvv L=>wpAny (model prog w) A (dictSet D kv vv) (λ_ s7=>∃m,m<n/\I m s7) (λ_ _=>False) L) (λ_ _=>False) O) (λ_ _=>False) s4
      else ∃m,m<n/\I m s4) (λ_ _=>False) Z) (λ_ _=>False) s2) (λ_ _=>False) J) (λ_ _=>False) s)
  (n:Nat) (h:I n s):codeAny (model prog w) A (.compLoop (.DictComp kx vx [⟨tg,it,ifs,0⟩] sc ps) 0 gg (.ref D) env) R s:=by
 refine codeAny_compLoop_testsD I (λm s0 hI=>Zf (G m s0 hI) (λr J h1=>?_) λ_ _ z=>z.elim) n h ht;cases r with
 |none=>exact h1
 |some v=>
  have g:=Y1 h1;rw[ht v,pure_bind]at g;refine Zf g (λ_ Z h3=>Zf h3 (λok s4 h4=>?_) λ_ _ z=>z.elim) λ_ _ z=>z.elim
  cases ok with
  |false=>exact h4
  |true=>exact Zf h4 (λkv O h5=>Zf h5 (λvv L h6=>Zf h6 (λ_ _ z=>z) λ_ _ z=>z.elim) λ_ _ z=>z.elim) λ_ _ z=>z.elim
end
structure GrownD(Y:Cx)(a:yQ)(PB:PNs)(σ:St)(zs:KL)(H:Hp)(s:yR):Prop where
 inv:Ac Y PB σ H s
 no:H a=none
 len:zs.length<=sizeLine
 at':∃o vs,s.heap.get? a=some o/\KV zs vs/\s.heap.DictOf (Bz Y.prog Y.w) a vs
def DictO(P:yO)(w:yK)(o:Obj)(vs:List (AL×yU)):Prop:=∃es g,o.ExactDict/\o.data= .dict es g/\KeysOf (Bz P w) es/\Pairs (Bz P w) es.toList vs/\(vs.map (·.1)).Nodup
def DictO.of{w:yK}{a:yQ}{o:Obj}(d:h.DictOf (Bz P w) a vs)(e:h.get? a=some o):DictO P w o vs:=by
 obtain⟨D,es,z,g,r⟩:=d;rw[e]at g;cases g;exact⟨es,z,r⟩
def DictO.to{w:yK}{a:yQ}{o:Obj}(d:DictO P w o vs)(e:h.get? a=some o):h.DictOf (Bz P w) a vs:=by
 obtain⟨es,g,r⟩:=d;exact⟨o,es,g,e,r⟩
def GrownD.pin{a:yQ}{zs:KL}{s:yR}{o:Obj}(A:DX Y a)(g:GrownD Y a PB σ zs H s)(e:s.heap.get? a=some o)(d:DictO Y.prog Y.w o vs):Ac Y ((a,o)::PB) σ H s:=
 g.inv.pins_of λp D=>by
  rcases Z4.mp D with rfl | D
  .exact⟨e,g.no,A.loc,A.fs,λv z=>by
    obtain⟨es,I,_,dd,_⟩:=d;have G:o.data= .cell v:=z;rw[dd]at G;cases G⟩
  .exact g.inv.pin p (Z5 _ D)
def Ac.grownD{a:yQ}{zs:KL}{s:yR}{o:Obj}(I:Ac Y ((a,o)::PB) σ H s)(hz:zs.length<=sizeLine)(v:KV zs vs)(d:DictO Y.prog Y.w o vs):GrownD Y a PB σ zs H s:=by
 have q:=I.pin (a,o) (Z5 _ Z9);exact⟨I.pins_of λp g=>I.pin p (Z5 _ (Z3 _ g)),q.2.1,hz,o,vs,q.1,v,d.to q.1⟩
def Os(wi:TI)(cap:List (Option Nat))(g:TG)(tt:TT)(tk te:TE):St->Hp->(KL->Hp->Prop)->Prop:=fun L H Q=>wi L H λJ H1=>
 ∃W:Nat->Nat->KL->Hp->Prop,(∃m,W 0 m [] H1)/\∀i m I H,W i m I H->
  (J.stop i H/\Q I H)\/
  (J.go i H /\ I.length < sizeLine /\ ∃ N : KL -> Hp -> Prop, (∀ G D, N G D -> ∃ Z, Z < m /\ W (i + 1) Z G D) /\ ∀ x D, J.yld i H x D -> g x (AO cap L) D fun z H2 => Keep (AO cap L) z /\ tt z H2 λb O =>
   br b (tk z O λk H4=>te z H4 λy H5=>∃kk,k=kV kk/\N (CJ I kk y) H5) (N I O))
def UD{kx vx tg it:yJ}{u8:List yJ}{sc:Scope}{ps:Pos}{m0:Nat}{Y:Cx}{a jt:yQ}{PB:PNs}{g:TG}{tt:TT}{tk te:TE}{fp:List yQ}{tn:Nat->Heap->Prop}{J:It}{W:Nat->Nat->KL->Hp->Prop}{σ:St}{ys:KL}{H:Hp}{s:yR}{N:KL->Hp->Prop}{R:Result->yR->Prop}
  (A:DX Y a) (hnm:∀gg v,letOwnedTupleGo tg gg v=pure ()) (w8:∀p∈PB,p.1≠a) (hx:Y.xe=λ_ _=>False) (hg:PG Y tg g) (htt:Cc Y u8 tt) (hk:PE Y kx tk) (he:PE Y vx te)
  (T:Dv Y.prog Y.w Y.K tg J fp jt tn) (na:∀b∈fp,b≠a) (j3:∀ {o:Obj}{H':Hp},(∀b∈fp,H' b=none)->∀b∈fp,BS Y ((a,o)::PB) H' b) (st:tn 0 s.heap) (gr:GrownD Y a PB σ ys H s) (hn:∀b∈fp,H b=none) (w0:W 0 m0 ys H)
  (n9:∀j m zs H,W j m zs H->(J.stop j H/\N zs H)\/(J.go j H/\zs.length<sizeLine/\(∃N2:KL->Hp->Prop,(∀L H',N2 L H'->∃m',m'<m/\W (j+1) m' L H')/\∀x H',J.yld j H x H'->g x σ H' fun σ3 H2=>Keep σ σ3/\tt σ3 H2 λb H3=>br b (tk σ3 H3 λk H4=>te σ3 H4 λy H5=>∃kk,k=kV kk/\N2 (CJ zs kk y) H5) (N2 zs H3))))
  (u9:∀zs H' s',GrownD Y a PB σ zs H' s'->N zs H'->R (.ok .next) s'):codeAny (model Y.prog Y.w) Y.A (.compLoop (.DictComp kx vx [⟨tg,it,u8,0⟩] sc ps) 0 (.ref jt) (.ref a) Y.env) R s:=by
 refine UC (hnm _) (λn' s'=>∃(j:Nat) (zs:KL) (H':Hp),GrownD Y a PB σ zs H' s'/\tn j s'.heap/\(∀b∈fp,H' b=none)/\W j n' zs H') ?_ m0 ⟨0,ys,H,gr,st,hn,w0⟩;rintro n' o8 ⟨j,zs,i7,O,i8,i9,v8⟩;obtain⟨w5,vs12,v3,i4,d12⟩:=O.at';have I:=DictO.of d12 v3;have u6:=O.pin A v3 I;rcases n9 j n' zs i7 v8 with⟨stop,q⟩ | ⟨go2,hz0⟩
 .refine Ap (T.done Y rfl rfl rfl A.calm j _ o8 _ i7 _ u6 (j3 i9) i8 stop) λr r8 Z=>?_
  obtain⟨hr,v6⟩:=Z;subst hr;exact u9 zs i7 r8 (Ac.grownD v6 O.len i4 I) q
 .obtain⟨hC,N2,v7,j4⟩:=hz0;refine Ap (T.item Y rfl rfl rfl A.calm j _ o8 _ i7 _ u6 (j3 i9) i8 go2) λr r8 Z=>?_
  obtain⟨u2,hr,h13⟩:=Z;subst hr;refine Ap h13 λ_ i5 Z=>?_
  obtain⟨x2,n5,I14,r14,y14,i0,u5⟩:=Z;have v4:=I14.pinned (j3 u5) (T.obj _ _ i0);have j7:=hg _ i5 _ n5 x2 u2 _ v4 r14 (j4 x2 n5 y14);rw[hx]at j7;refine Ap j7 λ_ s15 Z=>?_
  obtain⟨D,H15,I15,o9,q15⟩:=Z;have j6:=htt _ s15 D H15 _ I15 q15;rw[hx]at j6;refine Ap j6 λb2 u0 Z=>?_
  obtain⟨l6,j9,l7⟩:=Z;have pn:∀p∈PB++De fp i5.heap,p.1≠a:=λp hp=>by
   rcases ZQ.mp hp with hp | hp
   .exact w8 p hp
   .exact na p.1 (Kp hp).1
  have i6:∀ {σ':St}{L:KL}{H':Hp}{s':yR},Keep σ σ'->GrownD Y a (PB++De fp i5.heap) σ' L H' s'->N2 L H'->∃m,m<n'/\∃(j:Nat) (zs:KL) (H':Hp),GrownD Y a PB σ zs H' s'/\tn j s'.heap/\(∀b∈fp,H' b=none)/\W j m zs H':=λ{σ' L H' s'} kp G n2=>by
   obtain⟨m',hm,w16⟩:=v7 _ _ n2;refine⟨m',hm,j+1,L,H',⟨(G.inv.pins_of λp hp=>G.inv.pin p (Z5 _ (bK _ hp))).weak (by rw[kp.len]) λi v e=>kp.get e,G.no,G.len,G.at'⟩,T.keep _ _ _ i0 λb hb o e=>(G.inv.pin (b,o) (Z5 _ (Z5 _ (Fp hb e)))).1,λb hb=>?_,w16⟩;obtain⟨o,e,d⟩:=T.obj _ _ i0 b hb;exact(G.inv.pin (b,o) (Z5 _ (Z5 _ (Fp hb e)))).2.1
  have g16:GrownD Y a (PB++De fp i5.heap) D zs l6 u0:=Ac.grownD j9 O.len i4 I;cases b2 with
  |false=>
   rw[YY YZ];exact i6 o9 g16 (l7.2 rfl)
  |true=>
   rw[Z1 rfl];have j8:=hk _ u0 D l6 _ j9 (l7.1 rfl);rw[hx]at j8;refine Ap j8 λkv s17 Z=>?_
   obtain⟨kval,H17,I17,r17,q17⟩:=Z;have j5:=he _ s17 D H17 _ I17 q17;rw[hx]at j5;refine Ap j5 λyv j2 Z=>?_
   obtain⟨y,H18,l9,r18,kk,ek,w9⟩:=Z;subst ek;have j0:=Ac.grownD l9 O.len i4 I;have e18:=(l9.pin (a,w5) (Z5 _ Z9)).1;refine wpAny_dictSet_pairs (hsz:=by rw[<-Paired.length i4];exact O.len) (UB Y.prog Y.w r17) (I.to e18) λh6 d6 hs6=>?_
   have I19:Ac Y (PB++De fp i5.heap) D H18 { j2 with heap:=h6,toks:=j2.toks+1}:=
    j0.inv.turned (t':=j2.toks+1) (it:=a) (λb o hb e=>hs6.extBut b o hb e) j0.no A.loc A.sz A.cell λp hp z=>by
     rw[A.pn,fC]at hp;exact pn p hp z
   obtain⟨o6,es6,ep6,e6,r6⟩:=id d6;exact i6 o9 ⟨I19,j0.no,by have:=Oq zs kk y;lia,o6,_,e6,KV.put r18 i4,d6⟩ w9
def UE{X:Cx}{tg Z kx vx:yJ}{j4:List yJ}{scope:Scope}{j6 j7:Pos}{wi:TI}{g:TG}{tt:TT}{tk te:TE}{N':List Str}{cap:List (Option Nat)}{use:Option (yU->Sem Unit)}{Q':VSP}
  {ad:PNs}{s:yR}{σ:St}{H:Hp}{Q:KL->Hp->Prop}
  (hc:X.calm=true) (hi:PI X tg Z wi) (B:AB X.env.scope X.N scope N' cap) (hg:∀s H ex C,PG (AQ X N' scope s H ex C) tg g) (ht:∀s H ex C,Cc (AQ X N' scope s H ex C) j4 tt)
  (hk:∀s H ex C,PE (AQ X N' scope s H ex C) kx tk) (he:∀s H ex C,PE (AQ X N' scope s H ex C) vx te)
  (o9:∀gg v,letOwnedTupleGo tg gg v=pure ()) (hs:∀x,foldedSetIterable Z X.env x=pure x) (I:Ac X ad σ H s)
  (h:Os wi cap g tt tk te σ H Q)
  (fin:∀(gh C:yQ) (H:Hp) (ys:KL) (o:Obj) (s':yR),H gh=none->Ac X ad σ (upd H gh (.frz o (.dK ys))) s'->HU X ad C (upd H gh (.frz o (.dK ys))) s'->Q ys H->compPost (model X.prog X.w) X.A X.xe use Q' (.ref gh) C (.ok .next) s'):
  wpAny (model X.prog X.w) X.A (comprehension (.DictComp kx vx [⟨tg,Z,j4,0⟩] scope j6) scope X.env j7 newDict false (eval Z X.env) use) Q' X.xe s:=by
 have j3:closureFor scope X.env=pure (AX X.env.cells scope.names []):=KG λy hy hf=>I.ok.has y.1 (B.free y hy hf)
 refine dY (cl:=AX X.env.cells scope.names []) rfl hs j3 B.kind B.names (Ap (hi ad s σ H _ I h) λv s1 h1=>Ap h1 λgg D h2=>?_);obtain⟨it,fp,tn,J,H2,e,I2,T,j9,f2,W,⟨m0,w0⟩,l7⟩:=h2;subst e;refine ZG (Nh ?_);dsimp only;generalize hH3:D.heap.push { cls:= .type "dict",dict:=none,data:= .dict #[]}=h3;have i4:h3.objs.size=D.heap.objs.size+1:=by rw[<-hH3];exact Zp ..
 have l6:∀b o,D.heap.get? b=some o->h3.get? b=some o:=λb o e=>by rw[<-hH3];exact Y2 _ e
 have i8:h3.get? D.heap.objs.size=some { cls:= .type "dict",data:= .dict #[]}:=by rw[<-hH3];exact YV _ rfl
 have j2:∀b∈fp,b<D.heap.objs.size:=λb O=>let ⟨o,e,_⟩:=T.obj _ _ j9 b O;Y9 e
 have I4:=Nj I2 B f2 j2 l6 (by rw[i4];exact ZB _);have n9:(pushCells (h3.push { cls:= .type "dict",data:= .dict #[]}) scope.names).get? D.heap.objs.size=some { cls:= .type "dict",data:= .dict #[]}:=aA _ _ _ _ (Y2 _ i8);have n5:tn 0 (pushCells (h3.push { cls:= .type "dict",data:= .dict #[]}) scope.names):=T.keep _ _ _ j9 λb _ o e=>aA _ _ _ _ (Y2 _ (l6 b o e))
 have j0:(pushCells (h3.push { cls:= .type "dict",data:= .dict #[]}) scope.names).DictOf (Bz X.prog X.w) D.heap.objs.size []:=Heap.DictOf.at (hH3 ▸ Heap.DictOf.new D.heap) λo e=>aA _ _ _ _ (Y2 _ e)
 have j8:D.heap.objs.size≠h3.objs.size:=by rw[i4];exact Zc (bg _)
 have u0:D.heap.objs.size ∉ AD X.stack:=λz=>by
  rcases Z4.mp (I2.stkSub _ z) with q | q
  .exact absurd I2.lt (by rw[<-q];exact Z8 _)
  .exact I2.nofs (Y5 _) q
 have i9:=I4.ok;have r8:∀ {L:PNs}{H':Hp},(∀b∈fp,H' b=none)->(∀p∈L,p.1=D.heap.objs.size)->∀b∈fp,BS (AQ X N' scope D H2 fp h3.objs.size) L H' b:=λ{L H'} hn hp b O=>
  ⟨hn b O, (i9.exf b O).1, i9.exfs b O, .inl O, (i9.exf b O).2, λp z e => by
   have z':p∈L:=z;have:=j2 b O;rw[<-e,hp p z']at this;exact Z8 _ this⟩
 have i6:∀x c,(AQ X N' scope D H2 fp h3.objs.size).env.cells.lookup x=some c->c≠D.heap.objs.size:=λx c ec z=>by
  rcases Ft scope.names (h3.objs.size+1) _ ec with q' | q'
  .rw[z,i4]at q';exact absurd q' (by lia)
  .have u6:X.env.cells.lookup x=some c:=(Er _ _ q').elim id λz=>nomatch z
   obtain⟨_,u5⟩:=I2.cell x c u6;have:=u5.lt;rw[z]at this;exact Z8 _ this
 have i7:∀s4:yR,s4= { D with heap:=pushCells (h3.push { cls:= .type "dict",data:= .dict #[]}) scope.names}->
   codeAny (model X.prog X.w) X.A (.compLoop (.DictComp kx vx [⟨tg,Z,j4,0⟩] scope j6) 0 (.ref it) (.ref D.heap.objs.size) (KN scope X.env h3.objs.size)) (compPost (model X.prog X.w) X.A X.xe use Q' (.ref D.heap.objs.size) h3.objs.size) s4:=by
  rintro s4 rfl;have A0:DX (AQ X N' scope D H2 fp h3.objs.size) D.heap.objs.size:=⟨j8,u0,.inr (Y5 _),i6,rfl,hc⟩;refine UD (Y:=AQ X N' scope D H2 fp h3.objs.size) (PB:=[]) (W:=W) A0 o9 (λp hp=>absurd hp (by simp)) rfl (hg _ _ _ _) (ht _ _ _ _) (hk _ _ _ _) (he _ _ _ _) T (λb O z=>absurd (j2 b O) (by rw[z];exact Z8 _))
   (λ{o H'} hn b O=>r8 hn (λp hp=>by rw[Z2.mp hp]) b O) n5 ⟨I4,I2.hok.fresh (Y5 _),Zq _,_,[],n9,.nil,j0⟩ (λb O=>(f2 b O).1) w0 l7 λys H5 s6 G q=>?_
  obtain⟨o6,o8,e6,v5,d6⟩:=G.at';have j5:(D.heap.objs.size==sysModules)=false:=ZY.mpr (Zd (Zc I2.big));have l9:=G.no;have z5:=G.len;have I6:=G.inv;have i0:∀b u,H5 b=some u->b≠D.heap.objs.size:=λb u q z=>by rw[z,l9]at q;cases q
  have un:Un (AD X.stack) fp H2 (upd H5 D.heap.objs.size (.frz o6 (.dK ys))) D.heap s6.heap:=by
   have u:=I6.base;refine⟨u.keep,u.slot,λb o q n hx=>?_,u.there,λb xs q=>?_,λb o xs q=>?_,λb ps q=>?_⟩
   .rw[Aq (Zc (Y9 q))];exact u.free b o q n hx
   .have z:=u.tups b xs q;rw[Aq (i0 b _ z)];exact z
   .have z:=u.frzs b o xs q;rw[Aq (i0 b _ z)];exact z
   .obtain⟨more,z⟩:=u.tbls b ps q;exact⟨more,by rw[Aq (i0 b _ z)];exact z⟩
  have hok:HOk X.prog X.w (upd H5 D.heap.objs.size (.frz o6 (.dK ys))) s6.heap:=λb u q=>by
   by_cases O:b=D.heap.objs.size
   .subst O;rw[Ag]at q;cases q;exact⟨e6,z5,j5,o8,v5,d6⟩
   .rw[Aq O]at q;have o6:ObjOk X.prog X.w H5 s6.heap b u:=I6.hok b u q;exact o6.stay (λ_ _ _ e=>e) (λc z=>by rw[Aq (i0 c _ z)];exact z) λc xs z=>by rw[Aq (i0 c _ z)];exact z
  have IX:Ac X ad σ (upd H5 D.heap.objs.size (.frz o6 (.dK ys))) s6:=I2.call' (show s6.os=D.os from I6.os) un hok I6.bare λb O=>let f:=f2 b O;⟨f.2.2.2.1,f.2.1,f.2.2.2.2.1,f.2.2.2.2.2⟩
  have i5:D.heap.objs.size<=h3.objs.size:=by rw[i4];exact ZB _
  refine fin _ _ H5 ys o6 s6 l9 IX ⟨let ⟨m,hn,_⟩:=I6.loc;⟨m,hn⟩,?_,?_,Ze I2.sz i5,λx c ec z=>?_,λp hp z=>?_⟩ q
  .rw[Aq (Zd j8)];exact I6.free
  .exact aa (YX I2.lt i5)
  .obtain⟨_,q⟩:=I2.cell x c ec;have:=q.lt;rw[z]at this;exact absurd (YX this i5) (Z8 _)
  .have:=Y9 (I2.pin p hp).1;rw[z]at this;exact absurd (YX this i5) (Z8 _)
 exact codeAny_compStart_dict (i7 _ rfl) (T.self _ 0 _ _ _ n5 (i7 _ rfl))
def UF(G:TI)(cap:List (Option Nat))(g:TG)(I:TT)(tk J:TE):TE:=fun L H Q=>Os G cap g I tk J L H λD z=>∀p o,z p=none->Q (.ref p) (upd z p (.frz o (.dK D)))
def UG{X:Cx}{G z kx vx:yJ}{D:List yJ}{scope:Scope}{J:Pos}{wi:TI}{g:TG}{tt:TT}{tk te:TE}(N':List Str)(cap:List (Option Nat))
  (hc:X.calm=true) (hi:PI X G z wi) (B:AB X.env.scope X.N scope N' cap) (hg:∀s H ex C,PG (AQ X N' scope s H ex C) G g) (ht:∀s H ex C,Cc (AQ X N' scope s H ex C) D tt) (hk:∀s H ex C,PE (AQ X N' scope s H ex C) kx tk) (he:∀s H ex C,PE (AQ X N' scope s H ex C) vx te)
  (O:autoParam (∀gg v,letOwnedTupleGo G gg v=pure ()) K') (hs:autoParam (∀x,foldedSetIterable z X.env x=pure x) W0):PE X (.DictComp kx vx [⟨G,z,D,0⟩] scope J) (UF wi cap g tt tk te):=by
 intro ad s σ H Q I h;rw[arm_eval_DictComp];refine UE (use:=none) hc hi B hg ht hk he O hs I h λgh C H ys o s' hn I' L q=>?_
 obtain⟨m,hm⟩:=L.ns;refine⟨m,hm,λh' Z=>⟨.ref gh,_,I'.turned (t':=s'.toks) (it:=C) (λb o hb e=>Z.extBut b o hb e) L.free L.loc (.inr L.sz) L.cell L.pin,rfl,q gh o hn⟩⟩
end
section
variable{n:Int}{t u v:Tok}{Q:KL -> Hp -> Prop}{pos:Pos}{σ:St}{H:Hp}{te:TE}{cap:List (Option Nat)}{g:TG}{tt:TT}
section
variable{prog:yO}{w:yK}{A:yL}{E:yY}{s:yR}
def UH:isSubtype (.type "range_iterator") (.type "reversed")=pure false:=by rw[isSubtype_type];kernel_rfl
abbrev Ec(n:Int):Obj:= { cls:= .type "range_iterator",data:= .fields #[rawInt (n-1),rawInt n,rawInt (-1)]}
def GN{z:Int}(g: -5000<=z)(D:z<=5000):Builtin.Range.rangeFitsLong z=true:=by
 unfold Builtin.Range.rangeFitsLong;simp only[Zh,bu];lia
def UI(r:yQ)(n:Int)(t u v:Tok)(h0:0<=n)(J:n<=1000):
  Meets (Builtin.«range.__reversed__» ⟨[.ref r],[]⟩) (λ_ R s=>s.heap.get? r=some { cls:= .type "range",dict:=none,data:= .fields #[.int 0 t,.int n u,.int 1 v],slots:= #[]}/\R (.ok (.ret (Value.ref s.heap.objs.size))) { s with heap:=s.heap.push (Ec n),toks:=s.toks}):=
 .of_wp λprog w A R s h=>by
  obtain⟨G,g,d,tk,os⟩:=s;obtain⟨I,h⟩:=h;have D:Builtin.Range.rangeSize 0 n 1=n:=by rw[rangeSize_one];split<;>lia
  have z:(Builtin.Range.rangeFitsLong 0 && Builtin.Range.rangeFitsLong n && Builtin.Range.rangeFitsLong 1 && Builtin.Range.rangeFitsLong (-1) && Builtin.Range.rangeFitsLong (0-1) && Builtin.Range.rangeFitsLong (Builtin.Range.rangeSize 0 n 1))=true:=by
   rw[D,GN (by lia) (by lia),GN (by lia) (by lia),GN (by lia) (by lia),GN (by lia) (by lia),GN (by lia) (by lia)];rfl
  wp_walk
  rw[z,D];have e:(0:Int)+(n-1) * 1=n-1:=by lia
  rw[e];simp only[Bool.not_true,au,bC,bj]
  wp_walk
  exact⟨_,rfl,h⟩
def UJ{l:yQ}{W:VSP}(z:IsRange s.heap l 0 n 1 t u v)(h0:0<=n)(G:n<=1000)
  (h:W (.ref s.heap.objs.size) { s with heap:=s.heap.push (Ec n)}):codeAny (model prog w) A (.call (.builtin "reversed.__new__") ⟨[.type "reversed",.ref l],[]⟩) (wants W E) s:=by
 have ty:s.TypeIs (.ref l) "range" :=⟨_,z,rfl⟩;refine ZS F.plain_reversed_new F.entry_reversed_new (bq (F.newCall_reversed_1 (.ref l)) ?_);have cls:=newClass_reversed (.ref l);have look:=bz.lookup;have bound:=bz.bind (.ref l);unfold Builtin.«reversed.__new__»
 wp_walk using bq cls,eN ty look,bq bound
 refine ae (ZS (R:=λr g=>r= .ok (.ret (.ref s.heap.objs.size))/\g= { s with heap:=s.heap.push (Ec n)}) bz.plain F.entry_range_reversed (bz.check _ _ _ _ _ _ _ _ ty (F.args_range_reversed_1 _) (UI l n t u v h0 G prog w A.in1 (λr g=>r= .ok (.ret (.ref s.heap.objs.size))/\g= { s with heap:=s.heap.push (Ec n)}) s ⟨z,rfl,rfl⟩))) λr g D=>?_
 obtain⟨rfl,rfl⟩:=D;exact Y4 h
def UK{l:yQ}{Q:VSP}(D:IsRange s.heap l 0 n 1 t u v)(h0:0<=n)(z:n<=1000)
  (h:Q (.ref s.heap.objs.size) { s with heap:=s.heap.push (Ec n)}):wpAny (model prog w) A (call (.type "reversed") [.ref l]) Q E s:=by
 refine callType_other (U:="range_iterator") (Q₁:=λobj g=>obj= .ref s.heap.objs.size/\g= { s with heap:=s.heap.push (Ec n)}) (by decide+kernel) F.create_reversed ⟨_,_,F.mro_reversed⟩ F.made_reversed UH (F.typeCall_reversed_1 _) (UJ D h0 z ⟨rfl,rfl⟩) ?_;rintro obj g ⟨rfl,rfl⟩;exact⟨⟨_,YV _ rfl,rfl⟩,h⟩
end
section
variable{X:Cx}{tg:yJ}
def UL(G:TA):TI:=fun D H R=>G D H λz g=>∃n:Int,z=[.int n]/\0<=n/\n<=1000/\R (GB (n-1) (-1) n.toNat) g
def UM{a:yJ}{ta:TA}{p Z z:Pos}(L:Gl X "reversed")(i0:X.mg "reversed"=none)(hg:Gl X "range")(hm:X.mg "range"=none)(ha:PA X [a] ta)
  (G:autoParam (starEach [.Call (.Name "range" Z) [a] [] z] X.env=[(false,eval (.Call (.Name "range" Z) [a] [] z) X.env)]) m5) (hs:autoParam (starEach [a] X.env=[(false,eval a X.env)]) m5):
  PI X tg (.Call (.Name "reversed" p) [.Call (.Name "range" Z) [a] [] z] [] pos) (UL ta):=by
 intro ad s σ H R I h;refine Call_ (Dd I L i0 boot_reversed (Zy (by
  rw[G];refine Calls.spliced_cons (Call_ (Dd I hg hm boot_range (Zy (Ap (ha z ad s σ H _ I h) λus g zq=>?_) hs rfl)));obtain⟨vs,H1,O,r1,q1⟩:=zq;obtain⟨n,e,h0,hn,q⟩:=q1;subst e;cases r1 with
  |cons r rr=>
   cases rr;obtain⟨t,rfl⟩:=r;refine call_range_1 (Calls.spliced_nil ?_);refine UK (IsRange.new ..) h0 hn ?_;dsimp only;have J:(g.heap.push { cls:= .type "range",data:= .fields #[.int 0 g.toks,.int n t,.int 1 (g.toks+1)]}).objs.size=g.heap.objs.size+1:=Zp ..;have kk:∀b ob,g.heap.get? b=some ob->((g.heap.push { cls:= .type "range",data:= .fields #[.int 0 g.toks,.int n t,.int 1 (g.toks+1)]}).push (Ec n)).get? b=some ob:=λb ob q=>Y2 _ (Y2 _ q)
   have D:IsRangeIter ((g.heap.push { cls:= .type "range",data:= .fields #[.int 0 g.toks,.int n t,.int 1 (g.toks+1)]}).push (Ec n)) (g.heap.objs.size+1) (n-1) n (-1):=by
    rw[<-J];exact YV _ rfl
   rw[J];generalize(g.heap.push { cls:= .type "range",data:= .fields #[.int 0 g.toks,.int n t,.int 1 (g.toks+1)]}).push (Ec n)=h2 at kk D;refine bW D ⟨g.heap.objs.size+1,[g.heap.objs.size+1],_,_,H1,rfl,O.kept (t':=_) kk,SG _ (n-1) (-1) n.toNat,?_,λb hb=>?_,q⟩
   .have e1:(n-1)+((0:Nat):Int) *(-1)=n-1:=by lia
    have e2:((n.toNat:Nat):Int)-((0:Nat):Int)=n:=by lia
    rw[e1,e2];exact D
   .rw[Z2.mp hb];exact O.fpOk (ZB _) (O.hok.fresh (ZB _))) G rfl))
def UN(i:Int)(z:TE):TE:=fun D H Q=>z D H λy g=>∀d o,g d=none->Q (.ref d) (upd g d (.frz o (.dK [(.inl i,y)])))
def Ac.trackN{ad:PNs}{s:yR}{a:yQ}{h':Heap}{tk:Nat}{u:HO}(I:Ac X ad σ H s)(D:BS X ad H a)
  (k:∀b o,b≠a->s.heap.get? b=some o->h'.get? b=some o) (ha:∃o,h'.get? a=some o) (ok:ObjOk X.prog X.w (upd H a u) h' a u):Ac X ad σ (upd H a u) { s with heap:=h',toks:=tk}:=by
 have J:H a=none:=D.1;have nT:∀b u,H b=some u->b≠a:=λb u e=>Bo e J
 refine I.step (g':=s.gens) (d':=s.drawn) (ch:=[a]) (λb G=>by rw[Z2.mp G];exact⟨D.2.2.2.1,D.2.1,D.2.2.2.2.1,D.2.2.2.2.2⟩) (λb o _ _ g e _=>k b o (λz=>g (by rw[z];simp)) e) (λb o _ _ g e _=>⟨o.slots,k b o (λz=>g (by rw[z];simp)) e⟩)
  (λb o g e n=>by rw[Aq (λz=>g (by rw[z];simp))];exact n) (λb o g e=>⟨o,k b o (λz=>g (by rw[z];simp)) e⟩) (λb L e=>by rw[Aq (nT b _ e)];exact e) (λb o L e=>by rw[Aq (nT b _ e)];exact e) (λb ps e=>⟨#[],by rw[Aq (nT b _ e),e];simp⟩) (λm O=>?_) (λb v e=>?_) I.bare
 .obtain⟨o,es,ep,Z,r⟩:=O;exact⟨o,es,ep,k _ o (λz=>D.2.1 z.symm) Z,r⟩
 .by_cases G:b=a
  .subst G;rw[Ag]at e;cases e;exact ok
  .rw [Aq G] at e;refine(I.hok b v e).stay (λc v g q=>k c v ?_ q) (λc q=>by rw [Aq (nT c _ q)];exact q) λc L q=>by rw [Aq (nT c _ q)];exact q
   rcases g with z | z
   .rw[z];exact G
   .exact nT c _ z
def UO{i:Int}{e:yJ}{p1:Pos}{j1:Nat}(he:PE X e te):PE X (.Dict [some (.Constant (.int i) j1 p1)] [e] pos) (UN i te):=λad s J H Q I h=>by
 refine wpAny_Dict_walk (knd:=Bz X.prog X.w) rfl rfl (by simp) (by show 1<=15;decide) ?_;refine pairTrees_cons_walk (wpAny_Constant_int ?_);dsimp only;have G:(s.heap.push { cls:= .type "dict",data:= .dict #[]}).get? s.heap.objs.size=some { cls:= .type "dict",data:= .dict #[]}:=YV _ rfl;have f0:BS X ad H s.heap.objs.size:=I.fpOk (Y5 _) (I.hok.fresh (Y5 _));have I0:Ac X ad J H { s with heap:=s.heap.push { cls:= .type "dict",data:= .dict #[]},toks:=s.toks+1}:=I.kept (t':=s.toks+1) λb o q=>Y2 _ q
 have Z:Ac X ((s.heap.objs.size,{ cls:= .type "dict",data:= .dict #[]})::ad) J H { s with heap:=s.heap.push { cls:= .type "dict",data:= .dict #[]},toks:=s.toks+1}:=I0.pins_of λp g=>by
  rcases Z4.mp g with rfl | g
  .exact⟨G,f0.1,f0.2.1,f0.2.2.1,λv z=>by
    have z':Data.dict #[]=Data.cell v:=z;cases z'⟩
  .exact I0.pin p (Z5 _ g)
 refine Ap (he _ _ J H _ Z h) λu s1 ⟨y,H1,L,ry,q⟩=>pairTrees_nil_walk ?_
 have pn:=L.pin (s.heap.objs.size,{ cls:= .type "dict",data:= .dict #[]}) (Z5 _ Z9);have I2:Ac X ad J H1 s1:=L.pins_of λp g=>L.pin p (Z5 _ (Z3 _ g))
 have f1:BS X ad H1 s.heap.objs.size:=⟨pn.2.1,f0.2.1,f0.2.2.1,f0.2.2.2.1,f0.2.2.2.2.1,f0.2.2.2.2.2⟩;have dn:s1.heap.DictOf (Bz X.prog X.w) s.heap.objs.size []:=Heap.DictOf.at (Heap.DictOf.new s.heap) λo D=>by rw[G]at D;cases D;exact pn.1
 refine⟨[(.inl i,u)],⟨J0 _ _ _ _,rfl,trivial⟩,dn,λh' hm O=>?_⟩;obtain⟨o,es,ep,D,r⟩:=id hm;exact⟨.ref s.heap.objs.size,_,I2.trackN (u:= .frz o (.dK [(.inl i,y)])) (tk:=_) f1 (λb ob hb q=>O.extBut b ob hb q) ⟨o,D⟩ ⟨D,by show 1<=sizeLine;decide,ZY.mpr (Zd (Zc I.big)),_,.cons ⟨rfl,ry⟩ .nil,hm⟩,rfl,q _ _ pn.2.1⟩
end
def Ot(J:It)(cap:List (Option Nat))(g:TG)(tt:TT)(tk te:TE)(L:St)(Q:KL->Hp->Prop)(H1:Hp):Prop:=
 ∃W:Nat->Nat->KL->Hp->Prop,(∃m,W 0 m [] H1)/\∀i m I H,W i m I H->
  (J.stop i H/\Q I H)\/
  (J.go i H /\ I.length < sizeLine /\ ∃ N : KL -> Hp -> Prop, (∀ G D, N G D -> ∃ Z, Z < m /\ W (i + 1) Z G D) /\ ∀ x D, J.yld i H x D -> g x (AO cap L) D fun z H2 => Keep (AO cap L) z /\ tt z H2 λb O =>
   br b (tk z O λk H4=>te z H4 λy H5=>∃kk,k=kV kk/\N (CJ I kk y) H5) (N I O))
def UP{J:It}{tk:TE}(n:Nat)(D:Nat->KL->Hp->Prop)(hn:n<=100000)(h0:D 0 [] H)(hz:∀i ys H,D i ys H->ys.length<=i)
  (Z:∀i ys H,i<n->D i ys H->J.go i H/\∀x H',J.yld i H x H'->g x (AO cap σ) H' fun z H2=>Keep (AO cap σ) z/\tt z H2 λb L=>br b (tk z L λk O=>te z O λy H5=>∃I,k=kV I/\D (i+1) (CJ ys I y) H5) (D (i+1) ys L))
  (hd:∀ys H,D n ys H->J.stop n H/\Q ys H):Ot J cap g tt tk te σ Q H:=by
 refine⟨λi m ys H=>m=n-i/\i<=n/\D i ys H,⟨n,by simp,Zq _,h0⟩,?_⟩;rintro i m ys H ⟨rfl,hi,p⟩
 by_cases G:i<n
 .obtain⟨a,b⟩:=Z i ys H G p;refine .inr ⟨a,?_,D (i+1),λi0 H' p'=>⟨n-(i+1),by lia,rfl,G,p'⟩,b⟩;have:=hz i ys H p;have:(100000:Nat)<sizeLine:=by decide
  lia
 .have e:i=n:=by lia
  subst e;exact .inl (hd ys H p)
def UQ{K:Fgx}{a:yQ}{xs:List V}{tk:TE}(D:Nat->KL->Hp->Prop)(hn:xs.length<=100000)(h0:D 0 [] H)(hz:∀i ys H,D i ys H->ys.length<=i)
  (G:∀i ys H,i<=xs.length->D i ys H->Ae K H a xs)
  (O:∀i x ys H,xs[i]? =some x->D i ys H->g x (AO cap σ) H fun z H2=>Keep (AO cap σ) z/\tt z H2 λb J=>br b (tk z J λk L=>te z L λy Z=>∃I,k=kV I/\D (i+1) (CJ ys I y) Z) (D (i+1) ys J))
  (hd:∀ys H,D xs.length ys H->Q ys H):Ot (EM K a) cap g tt tk te σ Q H:=
 UP xs.length D hn h0 hz (λi ys H hi p=>⟨⟨xs,xs[i],G i ys H (ZZ hi) p,by simp[hi]⟩,λx H' zq=>by obtain⟨e,y⟩:=zq;subst e;exact O i x ys _ (y xs (G i ys _ (ZZ hi) p)) p⟩)
  λys H p=>⟨⟨xs,G _ ys H (Y5 _) p,Y5 _⟩,hd ys H p⟩
end
open PySem PySem.Spec PyProof.Rows SeqAt
variable{s:yR}{op:CmpOp}{lp:String}{h:Heap}{X:Cx}{k:Nat}
def OrdAt(op:CmpOp)(A:yL)(s:yR)(y x:yU)(b:Bool):Prop:=
 ∀(P:yO) (w:yK) (E Q:VSP),Q (.bool b) s->wpAny (model P w) A (richCompare op y x) Q E s
inductive Ed(op:CmpOp)(A:yL)(s:yR)(last:Bool):List (yU×yU)->Bool->Prop
 |none:Ed op A s last [] last
 |same {x y:yU}{ps:List (yU×yU)}{r:Bool}:EqAt A s x y true->Ed op A s last ps r->Ed op A s last ((x,y)::ps) r
 |unlike {x y:yU}{ps:List (yU×yU)}{r:Bool}:EqAt A s x y false->OrdAt op A s x y r->Ed op A s last ((x,y)::ps) r
inductive DH:CmpOp->String->String->Prop
 |mx:DH .Gt "max" "max.loop"
 |mn:DH .Lt "min" "min.loop"
def GO(op:CmpOp)(a b:Int):Bool:=match op with
 |.Gt=>decide (a>b)
 |_=>decide (a<b)
def E3(op:CmpOp)(a b:Nat):Bool:=match op with
 |.Gt=>decide (a>b)
 |_=>decide (a<b)
def OrdAt.gtI{A:yL}(a b:Int)(t u:Tok):OrdAt .Gt A s (.int a t) (.int b u) (decide (a>b)):=λP w E Q h=>
 CmpOf.ints_gt (P:=λi v=>v=if i=0 then Value.int a t else Value.int b u) (λi=>if i=0 then a else b) (λi v e=>by
  by_cases z:i=0
  .rw[Z1 z]at e ⊢;exact⟨t,e⟩
  .rw[YY z]at e ⊢;exact⟨u,e⟩) 0 1 _ _ s Q E rfl rfl h
def OrdAt.ltI{A:yL}(a b:Int)(t u:Tok):OrdAt .Lt A s (.int a t) (.int b u) (decide (a<b)):=λP w E Q h=>
 CmpOf.ints_lt (P:=λi v=>v=if i=0 then Value.int a t else Value.int b u) (λi=>if i=0 then a else b) (λi v e=>by
  by_cases z:i=0
  .rw[Z1 z]at e ⊢;exact⟨t,e⟩
  .rw[YY z]at e ⊢;exact⟨u,e⟩) 0 1 _ _ s Q E rfl rfl h
def OrdAt.ofI{nm:String}(g:DH op nm lp){A:yL}{s:yR}(a b:Int)(t u:Tok):OrdAt op A s (.int a t) (.int b u) (GO op a b):=by
 cases g
 .exact OrdAt.gtI a b t u
 .exact OrdAt.ltI a b t u
def Ou{fc:Builtin}(I:(op= .Gt/\fc=Builtin.«tuple.__gt__»)\/(op= .Lt/\fc=Builtin.«tuple.__lt__»))(l b:yQ)(xs ys:Array yU)(n m:Nat)(J d2:Option yQ)(O s2:Array (yW))(r:Bool):
  Meets (fc ⟨[.ref l,.ref b],[]⟩) (λA R s=>s.heap.get? l=some { cls:= .type "tuple",dict:=J,data:= .seq xs n,slots:=O}/\s.heap.get? b=some { cls:= .type "tuple",dict:=d2,data:= .seq ys m,slots:=s2}/\Ed op A.in1 s (E3 op xs.size ys.size) (xs.toList.zip ys.toList) r/\R (.ok (.ret (.bool r))) s):=by
 rcases I with⟨ho,rfl⟩ | ⟨ho,rfl⟩
 all_goals
  refine .of_wp λP w A R s D=>?_
  obtain⟨G,g,d,tk,os⟩:=s;obtain⟨L,Z,told,fin⟩:=D;have tt:=AutoSeq1.sub_tuple_tuple
  wp_walk using af L,af Z,wpAny_forIn_list _ (λleft st z=>st.1=none/\z=⟨G,g,d,tk,os⟩/\Ed op A.in1 ⟨G,g,d,tk,os⟩ (E3 op xs.size ys.size) left r) _
  case turn=>
   rintro⟨x,y⟩ left st z ⟨_,rfl,told⟩;cases told with
   |same e more=>
    refine Y1 (e P w _ _ ?_)
    wp_walk
    exact⟨rfl,rfl,more⟩
   |unlike e o=>
    refine Y1 (e P w _ _ ?_);subst ho;unfold OrdAt at o
    wp_walk using o P w _ _
    exact⟨_,rfl,fin⟩
  case fin=>
   rintro⟨st1,st2⟩ z ⟨hs,rfl,told⟩
   replace hs:st1=_:=hs
   subst hs;cases told;subst ho
   wp_walk
   exact⟨_,rfl,fin⟩
  case h=>exact⟨rfl,rfl,told⟩
def OrdAt.ofT{nm:String}(g:DH op nm lp){A:yL}{s:yR}{l b:yQ}{xs ys:Array yU}{r:Bool}(hl:IsTup s.heap l xs)(hb:IsTup s.heap b ys)(I:A.units<cLine)(told:Ed op A.in1 s (E3 op xs.size ys.size) (xs.toList.zip ys.toList) r):OrdAt op A s (.ref l) (.ref b) r:=λP w E Q h=>by
 obtain⟨⟨c1,G,t1,J⟩,o1,e1,n,Z⟩:=hl;obtain⟨⟨c2,O,t2,L⟩,D,e2,m,f2⟩:=hb;cases e1;cases Z;cases e2;cases f2;cases g
 .exact f7 (op:= .Gt) ⟨_,o1,rfl⟩ ⟨_,D,rfl⟩ F.slot_tuple_gt F.entry_tuple_gt (F.args_tuple_gt_2 _ _) (Ou (.inl ⟨rfl,rfl⟩) l b xs ys n m G O J L r) ⟨o1,D,told,(λz=>nomatch z),h⟩ I
 .exact f7 (op:= .Lt) ⟨_,o1,rfl⟩ ⟨_,D,rfl⟩ F.slot_tuple_lt F.entry_tuple_lt (F.args_tuple_lt_2 _ _) (Ou (.inr ⟨rfl,rfl⟩) l b xs ys n m G O J L r) ⟨o1,D,told,(λz=>nomatch z),h⟩ I
def DJ(bt:yU->yU->Bool):yW->yU->yW
 |none,v=>some v
 |some b,v=>if bt v b then some v else some b
def Li:yW->Array yU
 |none=> #[]
 |some b=> #[b,b]
abbrev Lj(c:Array yU)(k:Nat):Obj:= { cls:= .type "list",dict:=none,data:= .seq c k,slots:= #[]}
def GP(h0 h:Heap):Prop:=∀b o,h0.get? b=some o->h.get? b=some o
def Lk(o:yW):(Li o).size<=sizeLine:=by cases o<;>(first | exact(show 0<=sizeLine by decide) | exact(show 2<=sizeLine by decide))
def UR{bt:yU->yU->Bool}{o:yW}{v:yU}:DJ bt o v≠none:=by
 cases o with
 |none=>intro z;cases z
 |some b=>
  show(if bt v b then some v else some b)≠none;cases bt v b<;>(intro z;cases z)
def US{op:CmpOp}{nm lp:String}(g:DH op nm lp){P:yO}{w:yK}{A:yL}{R:Result->yR->Prop}{I S:yQ}{fp wr:List yQ}{vs:yX}{St:Nat->Heap->Prop}{h0:Heap}{bt:yU->yU->Bool}
  (W:Walks P w A.in1 I fp wr vs.length (λi v=>vs[i]? =some v) St) (nS:S ∉ fp) (oS:h0.get? S=none) (ow:∀b∈wr,h0.get? b=none)
  (i5:∀x y s,x∈vs->y∈vs->GP h0 s.heap->OrdAt op A.in1 s x y (bt x y)):
  ∀(k j:Nat) (s:yR) (D:yW) (c:Nat),vs.length-j=k->j<=vs.length->St j s.heap->GP h0 s.heap->s.heap.get? S=some (Lj (Li D) c)->(∀b,D=some b->b∈vs)->(D=none->j<vs.length)->
   (∀v h tk,(vs.drop j).foldl (DJ bt) D=some v->(∀b o,b ∉ wr->b≠S->s.heap.get? b=some o->h.get? b=some o)->R (.ok (.ret v)) { s with heap:=h,toks:=tk})->
   codeAny (model P w) A (.builtin lp ⟨[.ref I,.none,.ref S],[]⟩) R s:=by
 cases g
 all_goals
  have nw:S ∉ wr:=λz=>nS (W.sub _ z)
  have J:(toString "max" ++toString ".loop" :String)="max.loop" :=by decide
  have G:(toString "min" ++toString ".loop" :String)="min.loop" :=by decide
  have L:∀ {b:yQ}{o:Obj},h0.get? b=some o->b ∉ wr/\b≠S:=λ{b o} e=>⟨λz=>(by rw[ow b z]at e;cases e),λz=>(by rw[z,oS]at e;cases e)⟩
  intro k
  induction k with
  |zero=>
   intro j s D c hk hj st i4 at' mem Z fin;obtain rfl:j=vs.length:=by lia
   cases D with
   |none=>exact absurd (Z rfl) (Z8 _)
   |some b=>
    first | refine aQ F.entry_max_loop ?_ | refine aQ cg ?_
    first | rw[aB bh _] | rw[aB ZE _]
    show wpAny _ A.in1 (seqItems? (.ref S) >>=_) _ _ s;refine Y1 (ZW at' rfl ?_);show wpAny _ A.in1 (tryCatch (pyNext (.ref I)) _>>=_) _ _ s;refine Y1 (bA (W.done s _ _ st λh1 tk kept=>?_));show wpAny _ A.in1 (updateSeq S (λ_=> #[]) >>=_) _ _ _;refine Y1 (aO (hz:=Lk _) (kept S _ nw at') rfl (Y1 (aK (Y4 ?_))));exact fin b _ tk (by rw[List.drop_length];rfl) λa o ha hS e=>(Zo _ _ (Zd hS)).trans (kept a o ha e)
  |succ k ih=>
   intro j s D c hk hj st i4 at' mem Z fin;have lt:j<vs.length:=by lia
   have dr:vs.drop j=vs[j]::vs.drop (j+1):=bN lt
   first | refine aQ F.entry_max_loop ?_ | refine aQ cg ?_
   first | rw[aB bh _] | rw[aB ZE _]
   show wpAny _ A.in1 (seqItems? (.ref S) >>=_) _ _ s;refine Y1 (ZW at' rfl ?_);show wpAny _ A.in1 (tryCatch (pyNext (.ref I)) _>>=_) _ _ s;refine Y1 (bA (W.item j s _ _ lt st λv h1 tk got i6 kept=>?_));have ev:v=vs[j]:=by rw[Y6 lt]at got;exact(Zb got).symm
   have mv:v∈vs:=by rw[ev];exact bJ lt
   have O:=kept S _ nw at';have i0:GP h0 h1:=λb o e=>kept b o (L e).1 (i4 b o e)
   have next:=fun(h2:Heap) (i9 c2:Nat) (i7:h2.get? S=some (Lj (Li (DJ bt D v)) c2)) (k2:∀b o,b≠S->h1.get? b=some o->h2.get? b=some o)=>
    ih (j+1) { s with heap:=h2,toks:=i9} (DJ bt D v) c2 (by lia) lt (W.frame _ _ _ i6 λb hb o e=>k2 b o (λz=>nS (by rw[<-z];exact hb)) e) (λb o e=>k2 b o (L e).2 (i0 b o e)) i7 (λb e=>by
     cases D with
     |none=>cases e;exact mv
     |some b0=>
      have e':(if bt v b0 then some v else some b0)=some b:=e;split at e'
      .cases e';exact mv
      .cases e';exact mem _ rfl) (λe=>absurd e UR) λu h3 i8 e k3=>fin u h3 i8 (by rw[dr,dP,<-ev];exact e) λb o hb hS q=>k3 b o hb hS (k2 b o hS (kept b o hb q))
   cases D with
   |none=>
    show wpAny _ A.in1 (updateSeq S (λ_=> #[v,v]) >>=_) _ _ _;refine Y1 (aO (hz:=Lk _) O rfl ?_)
    first | rw[J] | rw[G]
    exact Y4 ⟨(by first | exact ZT bh _ | exact ZT ZE _),next _ tk _ (ZF _ O rfl) λb o hb e=>(Zo _ _ (Zd hb)).trans e⟩
   |some b=>
    show wpAny _ A.in1 (tryCatch (holding [v,v] (richCompare _ v b>>=_)) _>>=_) _ _ _;refine Y1 (bA (Zn (Y1 (i5 v b _ mv (mem b rfl) i0 P w _ _ ?_))));refine Y1 (Zn (ZL (Y1 (aK (Y4 ?_)))));cases up:bt v b with
    |true=>
     have eb:DJ bt (some b) v=some v:=(show(if bt v b then some v else some b)=_ from by rw[up];rfl);rw[Z1 rfl];refine Y1 (aO (hz:=Lk _) O rfl (Y1 (aK ?_)))
     first | rw[J] | rw[G]
     exact Y4 ⟨(by first | exact ZT bh _ | exact ZT ZE _),next _ tk _ (by rw[eb];exact ZF _ O rfl) λb o hb e=>(Zo _ _ (Zd hb)).trans e⟩
    |false=>
     have eb:DJ bt (some b) v=some b:=(show(if bt v b then some v else some b)=_ from by rw[up];rfl);rw[YY YZ];refine Y1 (aK ?_)
     first | rw[J] | rw[G]
     exact Y4 ⟨(by first | exact ZT bh _ | exact ZT ZE _),next h1 tk c (by rw[eb];exact O) λb o hb e=>e⟩
def UT{op:CmpOp}{nm lp:String}(g:DH op nm lp){P:yO}{w:yK}{A:yL}{E Q:VSP}{s:yR}{l:yQ}{vs:yX}{bt:yU->yU->Bool}(hh:A.handled=none)(O:s.heap.IsList l vs.toArray)(ne:vs≠ [])
  (Z:∀x y s',x∈vs->y∈vs->GP s.heap s'.heap->OrdAt op A.in1 s' x y (bt x y))
  (fin:∀v h tk,vs.foldl (DJ bt) none=some v->(∀b o,s.heap.get? b=some o->h.get? b=some o)->Q v { s with heap:=h,toks:=tk}):wpAny (model P w) A (call (.builtin nm) [.ref l]) Q E s:=by
 cases g
 all_goals
  have I:(toString "max" ++toString ".loop" :String)="max.loop" :=by decide
  have G:(toString "min" ++toString ".loop" :String)="min.loop" :=by decide
  first | refine call_function_tree F.kind_max F.plain_max F.entry_max (F.args_max1 _) ?_ | refine call_function_tree F.kind_min F.plain_min F.entry_min (F.args_min1 _) ?_
  show wpAny _ A.in1 (Builtin.Builtins.bindParams _ ["key","default"] 0 ⟨[],[]⟩ >>=_) _ _ s;refine Y1 (bq (a:=[none,none]) rfl (Y1 (Y4 (Y1 ?_))));obtain⟨ol,L,_⟩:=id O;have lt:=Y9 L;refine aW O (Y1 (ZG ?_))
  first | rw[I] | rw[G]
  dsimp only;have z1:(s.heap.push { cls:= .type "list_iterator",data:= .fields #[.ref l,.int 0 0]}).objs.size=s.heap.objs.size+1:=Zp ..;have D:∀a,s.heap.objs.size<=a->s.heap.get? a=none:=λa ha=>by
   cases e:s.heap.get? a with
   |none=>rfl
   |some o=>exact absurd (Y9 e) (Nat.not_lt.mpr ha)
  have J:∀b o,s.heap.get? b=some o->((s.heap.push { cls:= .type "list_iterator",data:= .fields #[.ref l,.int 0 0]}).push (Lj #[] 0)).get? b=some o:=λb o e=>Y2 _ (Y2 _ e)
  have sz:vs.toArray.size=vs.length:=by simp
  have W:=Walks.list (prog:=P) (w:=w) (A:=A.in1) hh s.heap.objs.size l (Zc lt) vs.toArray;have eP:(fun(i:Nat) (v:yU)=>vs.toArray[i]? =some v)=(λi v=>vs[i]? =some v):=by funext i v;simp
  rw[sz,eP]at W;rw[z1];refine Y4 ⟨(by first | exact ZT bh _ | exact ZT ZE _),US (by constructor) (h0:=s.heap) (bt:=bt) (S:=s.heap.objs.size+1) W (λz=>by
   rcases Z4.mp z with z | z
   .exact absurd z (cf _)
   .exact absurd (Z2.mp z) (aa (ZX lt))) (D _ (ZB _)) (λb hb=>by rw[Z2.mp hb];exact D _ (Y5 _)) Z vs.length 0 _ none 0 rfl (Zq _) ?_ J (by rw[<-z1];exact YV _ rfl) (λb e=>nomatch e) (λ_=>List.length_pos_iff.mpr ne) λv h tk e k2=>fin v h tk e λb o q=>k2 b o (λz=>by rw[Z2.mp z,D _ (Y5 _)]at q;cases q) (λz=>by rw[z,D _ (ZB _)]at q;cases q) (J b o q)⟩
  exact⟨⟨_,Y2 _ (YV _ rfl),rfl,rfl⟩,O.at λo e=>J _ o e⟩
inductive Cmp:yP->yP->Prop
 |int (a b:Int):Cmp (.int a) (.int b)
 |row (as bs:yV):Cmp (.tuple (as.map .int)) (.tuple (bs.map .int))
def Ov:∀(as:yV),PyData.canLayAll0 (as.map .int)=true/\PyData.hasDictAll (as.map .int)=false/\PyData.depthAll (as.map .int)=0
 |[]=>⟨rfl,rfl,rfl⟩
 |a::as=>by
  obtain⟨h1,h2,h3⟩:=Ov as;refine⟨?_,?_,?_⟩
  .show PyData.canLayAll0 (.int a::as.map .int)=true;unfold PyData.canLayAll0;rw[h1];rfl
  .show PyData.hasDictAll (.int a::as.map .int)=false;unfold PyData.hasDictAll;rw[h2];rfl
  .show PyData.depthAll (.int a::as.map .int)=0;unfold PyData.depthAll;rw[h3];rfl
def Cmp.left{d e:yP}(h:Cmp d e):d.canLay0=true/\d.hasDict=false/\d.depth<=1:=by
 cases h with
 |int a b=>exact⟨rfl,rfl,Zq _⟩
 |row as bs=>
  obtain⟨g,D,z⟩:=Ov as;refine⟨?_,?_,?_⟩
  .unfold PyData.canLay0;exact g
  .unfold PyData.hasDict;exact D
  .unfold PyData.depth;rw[z];exact Y5 _
def Cmp.symm{d e:yP}(h:Cmp d e):Cmp e d:=by
 cases h with
 |int a b=>exact .int b a
 |row as bs=>exact .row bs as
theorem GQ:∀ {us:yX}{ds:List yP}{as:List yQ},ReadsAll h us ds as->us.length=ds.length
 |_,_,_,.nil=>rfl
 |_,_,_,.cons _ t=>by rw[ZA,ZA,GQ t]
def FO{u:yU}{ds:List yP}{as:List yQ}(r:Reads h u (.tuple ds) as):∃a vs,u= .ref a/\IsTup h a vs.toArray/\ReadsAll h vs ds as:=by
 cases r with
 |tuple e c d ra=>exact⟨_,_,rfl,⟨_,e,c,_,by rw[d]⟩,ra⟩
theorem Ll{bt:yU->yU->Bool}{f:yU->Int}{S:yU->Prop}(L:∀x y,S x->S y->bt x y=true->f y<=f x)(I:∀x y,S x->S y->bt x y=false->f x<=f y):∀(l:yX) (b v:yU),S b->(∀x∈l,S x)->l.foldl (DJ bt) (some b)=some v->(v=b\/v∈l)/\f b<=f v/\∀x∈l,f x<=f v
 |[],b,v,_,_,e=>by cases e;exact⟨.inl rfl,ZP _,λx g=>nomatch g⟩
 |y::l,b,v,sb,sl,e=>by
  rw[dP]at e;have G:l.foldl (DJ bt) (if bt y b then some y else some b)=some v:=e;have J:=sl y Z9;have D:∀x∈l,S x:=λx g=>sl x (Z3 _ g)
  cases c:bt y b with
  |true=>
   rw[c,Z1 rfl]at G;obtain⟨m,a,q⟩:=Ll L I l y v J D G;refine⟨.inr (m.elim (λz=>by rw[z];exact Z9) λz=>Z3 _ z),et (L y b J sb c) a,λx g=>?_⟩;rcases Z4.mp g with rfl | g
   .exact a
   .exact q x g
  |false=>
   rw[c,YY YZ]at G;obtain⟨m,a,q⟩:=Ll L I l b v sb D G;refine⟨m.elim .inl λz=> .inr (Z3 _ z),a,λx g=>?_⟩;rcases Z4.mp g with rfl | g
   .exact et (I x b J sb c) a
   .exact q x g
def ID(op:CmpOp)(last:Bool):yV->yV->Bool
 |a::as,b::bs=>if a=b then ID op last as bs else GO op a b
 |_,_=>last
theorem Ow{op:CmpOp}{nm z:String}(g:DH op nm z){A:yL}{s:yR}{last:Bool}:∀ {as bs:yV}{us ws:yX}{x y:List yQ},ReadsAll s.heap us (as.map .int) x->ReadsAll s.heap ws (bs.map .int) y->Ed op A s last (us.zip ws) (ID op last as bs)
 |[],_,_,_,_,_,r,_=>by cases r;exact .none
 |_::_,[],_,_,_,_,r,q=>by cases q;rw[List.zip_nil_right];exact .none
 |a::as,b::bs,us,ws,x,y,r,q=>by
  cases r with
  |cons r1 r2=>
   cases q with
   |cons q1 q2=>
    cases r1 with
    |int i t=>
     cases q1 with
     |int j u=>
      rw[List.zip_cons_cons];unfold ID;split
      .rename_i e;subst e;refine .same ?_ (Ow g r2 q2);have:=EqAt.int_int (A:=A) (s:=s) a t a u
       simpa using this
      .rename_i e;refine .unlike ?_ (OrdAt.ofI g a b t u);have:=EqAt.int_int (A:=A) (s:=s) a t b u;rw[show(a==b)=false from by simpa using e]at this;exact this
def Lm(op:CmpOp)(d e:yP):Bool:=match d,e with
 |.int a,.int b=>GO op a b
 |.tuple xs,.tuple ys=>ID op (E3 op xs.length ys.length) (xs.filterMap fun | .int i=>some i | _=>none) (ys.filterMap fun | .int i=>some i | _=>none)
 |_,_=>false
theorem Ln:∀(as:yV),((as.map PyData.int).filterMap fun | .int i=>some i | _=>none)=as
 |[]=>rfl
 |a::as=>by rw[ZJ,dj];simp only;rw[Ln as]
def UU{nm:String}(g:DH op nm lp){A:yL}{s:yR}{d e:yP}{u v:yU}{x y:List yQ}(h:Cmp d e)(r:Reads s.heap u d x)(q:Reads s.heap v e y)(J:A.units<cLine):OrdAt op A s u v (Lm op d e):=by
 cases h with
 |int a b=>
  cases r with
  |int i t=>
   cases q with
   |int j t'=>exact OrdAt.ofI g a b t t'
 |row as bs=>
  obtain⟨a,z,rfl,L,D⟩:=FO r;obtain⟨b,I,rfl,O,G⟩:=FO q;have l1:z.length=as.length:=by have:=GQ D;rw[Y0]at this;exact this
  have Z:I.length=bs.length:=by have:=GQ G;rw[Y0]at this;exact this
  refine OrdAt.ofT g L O J ?_;have:=Ow g (A:=A.in1) (last:=E3 op z.length I.length) D G;unfold Lm;dsimp only;rw[Ln,Ln,Y0,Y0,<-l1,<-Z]
  simpa using this
def FP(op:CmpOp)(last:Bool):List yP->List yP->Bool
 |d::ds,e::es=>if PyData.eqv d e then FP op last ds es else Lm op d e
 |_,_=>last
theorem Ox{op:CmpOp}{nm I:String}(g:DH op nm I){A:yL}{s:yR}{last:Bool}(G:A.units+5<cLine):∀ {ds es:List yP}{us ws:yX}{x y:List yQ},Paired Cmp ds es->ReadsAll s.heap us ds x->ReadsAll s.heap ws es y->Ed op A s last (us.zip ws) (FP op last ds es)
 |_,_,_,_,_,_,.nil,r,q=>by cases r;exact .none
 |d::ds,e::es,us,ws,x,y,.cons c t,r,q=>by
  cases r with
  |cons r1 r2=>
   cases q with
   |cons q1 q2=>
    rw[List.zip_cons_cons];obtain⟨L,Z,O⟩:=c.left;obtain⟨J,e2,e3⟩:=c.symm.left;have D:=eqAt_reads d e A s _ _ _ _ r1 q1 L J (by lia);unfold FP;cases z:PyData.eqv d e with
    |true=>rw[z]at D;exact .same D (Ox g G t r2 q2)
    |false=>rw[z]at D;exact .unlike D (UU g c r1 q1 (by lia))
def Oy(op:CmpOp)(a b:Int):Prop:=match op with
 |.Gt=>a<=b
 |_=>b<=a
def GR(op:CmpOp)(a:Int):Int:=match op with
 |.Gt=>a
 |_=> - a
def Oz{nm:String}(g:DH op nm lp){X:Cx}{k:Nat}(hc:X.calm=true)(hr:AN k X.A):BF X (.builtin nm) (λxs H Q=>∃(p l:yQ) (fs:List (Int×List yP)) (vs:List V),xs=[.ref l]/\H l=some (.lst vs)/\Ad p H (fs.map λq=> .tuple (.int q.1::q.2)) vs/\fs≠ []/\(∀q∈fs,∀q'∈fs,Paired Cmp q.2 q'.2)/\
  ∀(i:Nat) q v,fs[i]? =some q->vs[i]? =some v->(∀q'∈fs,Oy op q'.1 q.1)->Q v H):=by
 intro ad s σ H xs us Q I r h;obtain⟨p,l,fs,vs,rfl,hl,rs,ne,cm,q⟩:=h;obtain⟨u,rfl,ru⟩:=r.one;cases ru;obtain⟨D,rv,pl,hz⟩:=I.list (Al.of hl);have un:=hr.un;have lv:=rv.length;have lf:=rs.len;rw[Y0]at lf;have rd:∀(i:Nat) (x:yU),D[i]? =some x->∃q v as,fs[i]? =some q/\vs[i]? =some v/\RelV v x/\Reads s.heap x (.tuple (.int q.1::q.2)) as:=λi x O=>by
  have hi:=(Y3.mp O).1;have hf:fs[i]? =some fs[i]:=Y6 (by lia);obtain⟨v,hv,rep⟩:=rs.get (i:=i) (d:= .tuple (.int (fs[i]).1::(fs[i]).2)) (by rw[YU,hf];rfl);obtain⟨x',i6,rx⟩:=rv.get hv;rw[O]at i6;cases i6;have mem:=bJ (l:=fs) (n:=i) (by lia);have nd:(PyData.tuple (.int (fs[i]).1::(fs[i]).2)).hasDict=false:=by
   have:=cm _ mem _ mem;generalize(fs[i]).2=ds at this;have all:∀ {ds es:List yP},Paired Cmp ds es->PyData.hasDictAll ds=false:=by
    intro ds es t
    induction t with
    |nil=>rfl
    |cons c _ ih=>unfold PyData.hasDictAll;rw[c.left.2.1,ih];rfl
   unfold PyData.hasDict PyData.hasDictAll;rw[all this];rfl
  obtain⟨as,rr⟩:=Aa.reads I _ v x nd rep rx;exact⟨_,v,as,hf,hv,rx,rr⟩
 have get:∀x∈D,∃q as,q∈fs/\Reads s.heap x (.tuple (.int q.1::q.2)) as:=λx O=>by
  obtain⟨i,hi⟩:=Zz O;obtain⟨q,v,as,hf,_,_,r⟩:=rd i x hi;exact⟨q,as,Y8 hf,r⟩
 have first:∀x,∃n:Int,∀(q:Int) (ds:List yP) (as:List yQ),Reads s.heap x (.tuple (.int q::ds)) as->GR op q=n:=λx=>by
  by_cases z:∃(q:Int) (ds:List yP) (as:List yQ),Reads s.heap x (.tuple (.int q::ds)) as
  .obtain⟨q,ds,as,r⟩:=z;refine⟨GR op q,λq' l6 j8 r'=>?_⟩;obtain⟨a,us,rfl,j3,ra⟩:=FO r;obtain⟨b,ws,e,j0,rb⟩:=FO r';cases e;obtain⟨o1,g1,c1,n1,d1⟩:=j3;obtain⟨o2,g2,c2,n2,d2⟩:=j0;rw [g1] at g2;cases g2;rw [d1] at d2;have:us=ws:=by injection d2 with d2 _;simpa using d2
   subst this;cases ra with
   |cons a1 _=>
    cases rb with
    |cons b1 _=>cases a1;cases b1;rfl
  .exact⟨0,λq ds as r=>absurd ⟨q,ds,as,r⟩ z⟩
 obtain⟨f,hf⟩:=eL first
 have ex:∀z:yU×yU,∃b:Bool,(z.1∈D->z.2∈D->∀s':yR,GP s.heap s'.heap->OrdAt op X.A.in1 s' z.1 z.2 b)/\(b=true->z.1∈D->z.2∈D->f z.2<=f z.1)/\(b=false->z.1∈D->z.2∈D->f z.1<=f z.2):=λz=>by
  by_cases m1:z.1∈D
  .by_cases m2:z.2∈D
   .obtain⟨L,a1,k1,r1⟩:=get _ m1;obtain⟨J,a2,k2,r2⟩:=get _ m2;have e1:=hf z.1 L.1 L.2 a1 r1;have e2:=hf z.2 J.1 J.2 a2 r2;have pc:Paired Cmp (.int L.1::L.2) (.int J.1::J.2):= .cons (.int _ _) (cm L k1 J k2);refine⟨FP op (E3 op (PyData.int L.1::L.2).length (PyData.int J.1::J.2).length) (.int L.1::L.2) (.int J.1::J.2),λ_ _ s' Z=>?_,λb _ _=>?_,λb _ _=>?_⟩
    .obtain⟨c1,us,j4,h1,ra⟩:=FO (Reads.keeps Z r1);obtain⟨c2,ws,i8,h2,rb⟩:=FO (Reads.keeps Z r2);rw [j4,i8];refine OrdAt.ofT g h1 h2 (by simp only [Around.in1_units];lia) ?_;have l1:=GQ ra;have l2:=GQ rb;have:=Ox g (A:=X.A.in1.in1) (s:=s') (last:=E3 op (PyData.int L.1::L.2).length (PyData.int J.1::J.2).length) (by simp only [Around.in1_units];lia) pc ra rb;rw [<-l1,<-l2] at this ⊢
     simpa using this
    .unfold FP at b
     by_cases z:L.1=J.1
     .rw[<-e1,<-e2,z];exact ZP _
     .rw [YY (by unfold PyData.eqv;simpa using z)] at b;have b':GO op L.1 J.1=true:=b;rw [<-e1,<-e2];cases g
      all_goals
       have:=Z7 b';dsimp only[GR];lia
    .unfold FP at b
     by_cases z:L.1=J.1
     .rw[<-e1,<-e2,z];exact ZP _
     .rw [YY (by unfold PyData.eqv;simpa using z)] at b;have b':GO op L.1 J.1=false:=b;rw [<-e1,<-e2];cases g
      all_goals
       have:=Zw b';dsimp only[GR];lia
   .exact⟨true,λ_ m=>absurd m m2,λ_ _ m=>absurd m m2,λz=>nomatch z⟩
  .exact⟨true,λm=>absurd m m1,λ_ m=>absurd m m1,λz=>nomatch z⟩
 obtain⟨bt,i0⟩:=eL ex;have i5:D≠ []:=λz=>ne (Zm (by rw[z]at lv;have l0:vs.length=0:=lv;lia))
 refine UT g (bt:=λx y=>bt (x,y)) (I.ok.hd hc) pl.isList i5 (λx y s' mx my Z=>(i0 (x,y)).1 mx my s' Z) λv h tk e kept=>?_
 obtain⟨b0,rest,G⟩:∃b r,D=b::r:=by
  cases D with
  |nil=>exact absurd rfl i5
  |cons b r=>exact⟨b,r,rfl⟩
 have e':rest.foldl (DJ λx y=>bt (x,y)) (some b0)=some v:=by rw[G,dP]at e;exact e
 have i4:=Ll (S:=λx=>x∈D) (bt:=λx y=>bt (x,y)) (f:=f) (λx y O hy b=>(i0 (x,y)).2.1 b O hy) (λx y O hy b=>(i0 (x,y)).2.2 b O hy) rest b0 v (by rw[G];exact Z9) (λx O=>by rw[G];exact Z3 _ O) e';obtain⟨mv,f0,fr⟩:=i4;have i9:v∈D:=by
  rw[G];rcases mv with z | z
  .rw[z];exact Z9
  .exact Z3 _ z
 have all:∀x∈D,f x<=f v:=λx O=>by
  rw[G]at O;rcases Z4.mp O with rfl | O
  .exact f0
  .exact fr x O
 obtain⟨i,hi⟩:=Zz i9;obtain⟨qq,vv,as,j5,j6,rx,rr⟩:=rd i v hi;refine⟨vv,H,I.kept kept,rx,q i qq vv j5 j6 λq' j2=>?_⟩;obtain⟨j,hj⟩:=Zz j2;have j9:=(Y3.mp hj).1;obtain⟨J,v2,j7,i7,_,_,r2⟩:=rd j D[j] (Y6 (by lia));rw[hj]at i7;cases i7;have:=all D[j] (bJ _);rw[<-hf v qq.1 qq.2 as rr,<-hf D[j] q'.1 q'.2 j7 r2]at this;cases g
 all_goals
  dsimp only[GR]at this;dsimp only[Oy];lia
def OA(D:X.calm=true)(z:AN k X.A):BF X (.builtin "max") (λxs H Q=>∃(p l:yQ) (fs:List (Int×List yP)) (vs:List V),xs=[.ref l]/\H l=some (.lst vs)/\Ad p H (fs.map λq=> .tuple (.int q.1::q.2)) vs/\fs≠ []/\(∀q∈fs,∀g∈fs,Paired Cmp q.2 g.2)/\
  ∀(i:Nat) q v,fs[i]? =some q->vs[i]? =some v->(∀g∈fs,g.1<=q.1)->Q v H):=Oz .mx D z
def UV(D:X.calm=true)(z:AN k X.A):BF X (.builtin "min") (λxs H Q=>∃(p l:yQ) (fs:List (Int×List yP)) (vs:List V),xs=[.ref l]/\H l=some (.lst vs)/\Ad p H (fs.map λq=> .tuple (.int q.1::q.2)) vs/\fs≠ []/\(∀q∈fs,∀g∈fs,Paired Cmp q.2 g.2)/\
  ∀(i:Nat) q v,fs[i]? =some q->vs[i]? =some v->(∀g∈fs,q.1<=g.1)->Q v H):=Oz .mn D z
end L2
namespace MF
open L2
variable{ks:KL}{k:AL}{v:V}
def Lo(T:TM):Nat->yV->Int
 |_,[]=>0
 |h,p::r=>FK T h p (r.headD 0)+Lo T (h+1) r
def IE(T:TM)(g:yV):Prop:=∀x∈g,x∈0::T.co
structure UW(T:TM)(h:Nat)(x f:Int)(ps:yV):Prop where
 len:ps.length=T.ds.length-h
 val:f=Lo T h ps
 hd:ps.headD 0=x
 as:IE T ps
 Aw:∀qs:yV,qs.length=T.ds.length-h->IE T qs->qs.headD 0=x->Lo T h qs<=f
def UX(T:TM)(h:Nat)(x:Int):Prop:=if h=T.ds.length then x=0 else x∈0::T.co
structure HiFl(T:TM)(f:Int)(ps:yV):Prop where
 val:f=Og T ps
 len:ps.length=T.ds.length
 as:IE T ps
 Aw:∀qs:yV,qs.length=T.ds.length->IE T qs->Og T qs<=f
abbrev E4(f:Int)(g:yV):yP:= .tuple [.int f,AS g]
structure TailsAt(p:yQ)(H:Hp)(T:TM)(h:Nat)(kvs:KL):Prop where
 one:∀q∈kvs,∃x f ps,q.1= .inl x/\Aa p H (E4 f ps) q.2/\UW T h x f ps
 all:∀x,UX T h x->∃q∈kvs,q.1= .inl x
def UY{q:AL×V}(h:q∈CJ ks k v):q∈ks\/q=(k,v):=by
 unfold CJ at h;split at h
 .obtain⟨g,h0,e⟩:=Zg.mp h;split at e
  .rename_i z;exact .inr (by rw[<-e,z])
  .exact .inl (by rw[<-e];exact h0)
 .rcases ZQ.mp h with h | h
  .exact .inl h
  .exact .inr (Z2.mp h)
def UZ:(k,v)∈CJ ks k v:=by
 unfold CJ;split
 .rename_i z;obtain⟨q,D,e⟩:=bH.mp z;have g:q.1=k:=Z7 e;exact Zg.mpr ⟨q,D,by rw[Z1 g,g]⟩
 .exact Z5 _ (Z2.mpr rfl)
end MF
namespace MF
open L2
def U0{n f l:Nat}(h:f<=l)(g:l<n):(f,l)∈Cz n n:=by
 unfold Cz;refine List.mem_flatten.mpr ⟨Dn f (n-f),Zg.mpr ⟨f,am.mpr (by lia),rfl⟩,?_⟩;unfold Dn;exact Zg.mpr ⟨l-f,am.mpr (by lia),by show(f,f+(l-f))=(f,l);rw[show f+(l-f)=l by lia]⟩
def no_str{T:TM}:BU T=none↔ ∀f l,f<=l->l<T.ds.length->Dl T f l=false:=by
 unfold BU;rw[List.head?_eq_none_iff];unfold EZ;rw[List.filter_eq_nil_iff];constructor
 .intro h f l g G;have:=h (f,l) (U0 g G)
  simpa using this
 .intro h q z;obtain⟨D,I⟩:=K6 (Y5 _) q z;rw[h q.1 q.2 D I];exact YZ
theorem OB:∀ {xs ys:yV},xs.length=ys.length->(∀i,xs.getD i 0<=ys.getD i 0)->xs.sum<=ys.sum
 |[],[],_,_=>ZP _
 |[],_::_,h,_=>by simp at h
 |_::_,[],h,_=>by simp at h
 |x::xs,y::ys,h,g=>by
  have h0:x<=y:=g 0;have:=OB (xs:=xs) (ys:=ys) (by simpa using h) λi=>g (i+1)
  rw[bP,bP];lia
def Lp{g:Type}{xs:List g}{k i:Nat}{x d:g}(D:k<xs.length):(xs.set k x).getD i d=if i=k then x else xs.getD i d:=by
 rw[Y7,cX,Y7]
 by_cases z:k=i
 .rw[Z1 z,Z1 (by lia),Z1 z.symm];rfl
 .rw[YY z,YY (λe=>z e.symm)]
variable{hour:Nat}{T:TM}
def Ee(x:Int):yV->Int
 |[]=>x
 |y::ys=>if Ee y ys<x then Ee y ys else x
theorem Lq(x:Int):∀ys,Ee x ys∈x::ys
 |[]=>Z9
 |y::ys=>by
  unfold Ee;split
  .exact Z3 _ (Lq y ys)
  .exact Z9
theorem OC(x:Int):∀ys,∀a∈x::ys,Ee x ys<=a
 |[],a,h=>by rw[Z2.mp h];exact ZP _
 |y::ys,a,h=>by
  have l:=OC y ys;unfold Ee;rcases Z4.mp h with rfl | h
  .split<;>lia
  .have:=l a h;split<;>lia
def EF(ms:yV)(hi:Int)(at' hour:Nat):Int:=
 match((ms.take hour).drop at').map (hi- ·) with
 |[]=>hi-ms.getD hour 0
 |x::xs=>Ee x xs
def U1{ms:yV}{hi:Int}{a:Nat}{M:Int}(g:M∈((ms.take hour).drop a).map (hi- ·))(z:∀x∈((ms.take hour).drop a).map (hi- ·),M<=x):M=EF ms hi a hour:=by
 unfold EF;cases e:((ms.take hour).drop a).map (hi- ·) with
 |nil=>rw[e]at g;cases g
 |cons x xs=>
  rw[e]at g z;exact Int.le_antisymm (z _ (Lq x xs)) (OC x xs _ g)
def U2{ms:yV}{hi:Int}{a:Nat}(h:((ms.take hour).drop a).map (hi- ·)=[]):EF ms hi a hour=hi-ms.getD hour 0:=by unfold EF;rw[h]
def U3{ms:yV}{hi:Int}{a:Nat}(L:hour<ms.length)(D:∀k,a<=k->k<hour->ms.getD k 0<hi)(J:ms.getD hour 0<hi):0<EF ms hi a hour:=by
 unfold EF;cases e:((ms.take hour).drop a).map (hi- ·) with
 |nil=>show 0<hi-ms.getD hour 0;lia
 |cons x xs=>
  show 0<Ee x xs;have m:=Lq x xs;rw[<-e]at m;obtain⟨y,G,I⟩:=Zg.mp m;obtain⟨j,z⟩:=Zz G;rw[dH,fK]at z;split at z
  .rename_i lt;have:=D (a+j) (by lia) lt;have g:ms.getD (a+j) 0=y:=by rw [Y7,z];rfl
   rw[g]at this;have O:hi-y=Ee x xs:=I;lia
  .cases z
structure Gr(T:TM)(f:yZ)(ms:yV):Prop where
 lf:f.length=T.ds.length
 row:∀i,i<f.length->(f.getD i []).length=T.co.length
 bd:∀i b,i<f.length->b<T.co.length->0<=(f.getD i []).getD b 0/\(f.getD i []).getD b 0<=(T.cs.getD i []).getD b 0
 lm:ms.length=T.ds.length
 ms:∀k,k<ms.length->ms.getD k 0=(if k=0 then T.st else ms.getD (k-1) 0)+(f.getD k []).sum-T.ds.getD k 0
def FQ(T:TM)(f:yZ)(ms:yV)(g a b:Nat):Prop:=(f.getD a []).getD b 0<(T.cs.getD a []).getD b 0/\0<EF ms T.hi a g
def U4(fl:DG T){f:yZ}{ms:yV}(g:Gr T f ms){a:Nat}(z:a<f.length)(h:∀b,b<T.co.length->¬(f.getD a []).getD b 0<(T.cs.getD a []).getD b 0):(T.cs.getD a []).sum<=(f.getD a []).sum:=by
 have lc:(T.cs.getD a []).length=T.co.length:=(fl.c _ (P' (by rw[fl.ok.lc,<-g.lf];exact z))).1;refine OB (by rw[lc,g.row a z]) λi=>?_
 by_cases hi:i<T.co.length
 .exact Int.not_lt.mp (h i hi)
 .rw[Y7,Zu (by lia),Y7,Zu (by rw[g.row a z];lia)];exact ZP _
def U5(fl:DG T)(lh:T.lo<=T.hi)(no:BU T=none){f:yZ}{ms:yV}(g:Gr T f ms){z:Nat}(O:z<ms.length)(i0:ms.getD z 0<T.lo):∃a b,a<=z/\b<T.co.length/\FQ T f ms z a b:=by
 apply Classical.byContradiction;intro none;have all:∀a,a<=z->(∀k,a<=k->k<z->ms.getD k 0<T.hi)->(T.cs.getD a []).sum<=(f.getD a []).sum:=λa ha D=>U4 fl g (by rw[g.lf,<-g.lm];lia) λb hb lt=>none ⟨a,b,ha,hb,lt,U3 O D (by lia)⟩
 have G:∀n,n<=z->(∀k,n<=k->k<z->ms.getD k 0<T.hi)->∃j,j<=z/\(∀k,j<=k->k<z->ms.getD k 0<T.hi)/\(if j=0 then T.st else T.hi)<=(if j=0 then T.st else ms.getD (j-1) 0):=λn=>by
  induction n with
  |zero=>intro _ D;exact⟨0,Zq _,D,by rw[Z1 rfl,Z1 rfl];exact ZP _⟩
  |succ n ih=>
   intro hn D
   by_cases c:ms.getD n 0<T.hi
   .refine ih (by lia) λk Z I=>?_
    by_cases e:k=n
    .rw[e];exact c
    .exact D k (by lia) I
   .exact⟨n+1,hn,D,by rw[YY (by lia),YY (by lia),Nat.add_sub_cancel];lia⟩
 obtain⟨j,L,D,hp⟩:=G z (Y5 _) (λk Z I=>by lia);have up:∀i,j+i<=z->E1 T j (i+1)<=ms.getD (j+i) 0:=λi=>by
  induction i with
  |zero=>
   intro hi;have e:=g.ms j (by lia);have fu:=all j L D;show E1 T j 0+(T.cs.getD (j+0) []).sum-T.ds.getD (j+0) 0<=ms.getD (j+0) 0;rw[Nat.add_zero,e];have t0:E1 T j 0=(if j=0 then T.st else T.hi):=rfl;lia
  |succ i ih=>
   intro hi;have e:=g.ms (j+(i+1)) (by lia);rw[YY (by lia),show j+(i+1)-1=j+i by lia]at e;have fu:=all (j+(i+1)) hi λk Z I=>D k (by lia) I
   have:=ih (by lia);show E1 T j (i+1)+(T.cs.getD (j+(i+1)) []).sum-T.ds.getD (j+(i+1)) 0<=_;rw[e];lia
 have Aw:=up (z-j) (by lia);rw[show j+(z-j)=z by lia]at Aw;have l1:z<T.ds.length:=by rw[<-g.lm];exact O
 have J:=(no_str.mp no) j z L l1;have te:=N0 fl.ok (f:=j) (z+1-j) (by lia);rw[show z-j+1=z+1-j by lia]at Aw;unfold Dl at J;have:=Zw J;unfold most NV at this;unfold part at this;rw[te]at Aw;lia
def CK(ms:yV)(a e:Nat)(m:Int):yV:=(List.range ms.length).map λk=>if a<=k/\k<e then ms.getD k 0+m else ms.getD k 0
def E5{ms:yV}{a e:Nat}{m:Int}:(CK ms a e m).length=ms.length:=by unfold CK;rw[Y0,ZU]
def GS{ms:yV}{a e:Nat}{m:Int}{k:Nat}(h:k<ms.length):(CK ms a e m).getD k 0=if a<=k/\k<e then ms.getD k 0+m else ms.getD k 0:=by
 unfold CK;rw[Y7,YU,ai h]
 rfl
def U6{ms:yV}{a:Nat}{m:Int}:CK ms a a m=ms:=by
 refine cY λk=>?_
 by_cases h:k<ms.length
 .unfold CK;rw[YU,ai h,Y6 h];show some (if a<=k/\k<a then _ else ms.getD k 0)=_;rw[YY (by lia),Y7,Y6 h];rfl
 .rw[Zu (by rw[E5];lia),Zu (by lia)]
def U7{ms:yV}{a e:Nat}{m:Int}(I:a<=e)(D:e<ms.length):(CK ms a e m).set e ((CK ms a e m).getD e 0+m)=CK ms a (e+1) m:=by
 refine cY λk=>?_
 by_cases h:k<ms.length
 .have G:=GS (a:=a) (e:=e) (m:=m) D;rw[YY (by lia)]at G;rw[cX,E5,G];unfold CK;rw[YU,YU,ai h]
  by_cases c:e=k
  .subst c;rw[Z1 rfl,Z1 D];show some _=some (if _ then _ else _);rw[Z1 ⟨I,by lia⟩]
  .rw [YY c];show some (if _ then _ else _)=some (if _ then _ else _)
   by_cases g:a<=k/\k<e
   .rw[Z1 g,Z1 ⟨g.1,by lia⟩]
   .rw[YY g,YY (λz=>g ⟨z.1,by lia⟩)]
 .rw[Zu (by rw[bT,E5];lia),Zu (by rw[E5];lia)]
def U8{r:yV}:∀ {k:Nat}{x:Int},k<r.length->(r.set k x).sum=r.sum+x-r.getD k 0:=by
 induction r with
 |nil=>intro k x h;exact absurd h (aR _)
 |cons y r ih=>
  intro k x h;cases k with
  |zero=>show x+r.sum=y+r.sum+x-y;lia
  |succ k=>
   have:=ih (k:=k) (x:=x) (Nat.lt_of_succ_lt_succ h);show y+(r.set k x).sum=y+r.sum+x-r.getD k 0;lia
def FR(f:yZ)(a b:Nat)(m:Int):yZ:=f.set a ((f.getD a []).set b ((f.getD a []).getD b 0+m))
def Gr.more{f:yZ}{ms:yV}(g:Gr T f ms){a b:Nat}{m:Int}(I:a<f.length)(O:b<T.co.length)(m0:0<=m)(m1:m<=(T.cs.getD a []).getD b 0-(f.getD a []).getD b 0):Gr T (FR f a b m) (CK ms a ms.length m):=by
 have L:=g.row a I;have D:∀i,(FR f a b m).getD i []=if i=a then(f.getD a []).set b ((f.getD a []).getD b 0+m) else f.getD i []:=λi=>Lp I
 have z:(FR f a b m).length=f.length:=bT;refine⟨by rw[z];exact g.lf,λi hi=>?_,λi c hi hc=>?_,by rw[E5];exact g.lm,λk G=>?_⟩
 .rw[D];split
  .rw[bT];exact L
  .exact g.row i (by rw[<-z];exact hi)
 .rw[D];split
  .rename_i e;subst e;rw [Lp (by rw [L];exact O)];have o:=g.bd i c I hc;have ob:=g.bd i b I O;split
   .rename_i e;subst e;lia
   .exact o
  .exact g.bd i c (by rw[<-z];exact hi) hc
 .rw[E5]at G;have e:=g.ms k G;rw[GS G,D];have sm:((f.getD a []).set b ((f.getD a []).getD b 0+m)).sum=(f.getD a []).sum+m:=by rw[U8 (by rw[L];exact O)];lia
  by_cases k0:k=0
  .subst k0;rw [Z1 rfl] at e ⊢
   by_cases Z:0=a
   .rw[Z1 Z,sm,Z1 ⟨by lia,G⟩,e,<-Z];lia
   .rw[YY Z,YY (by lia),e]
  .rw [YY k0] at e ⊢;rw [GS (by lia:k-1<ms.length)]
   by_cases J:k=a
   .rw[Z1 J,sm,Z1 ⟨by lia,G⟩,YY (by lia),e,<-J];lia
   .rw [YY J]
    by_cases lt:a<=k
    .rw[Z1 ⟨lt,G⟩,Z1 ⟨by lia,by lia⟩,e];lia
    .rw[YY (by lia),YY (by lia),e]
end MF
namespace L2
def U9(P:Nat->yU->Prop)(val:Nat->Int)(j:Nat)(its:Array yU):Prop:=
 (j=0/\its= #[])\/ ∃i v,i<j/\P i v/\its= #[v,v]/\∀k,k<j->val i<=val k
def OD(P:Nat->yU->Prop)(val:Nat->Int)(n:Nat)(d r:yU):Prop:=(n=0/\r=d)\/ ∃i,i<n/\P i r/\∀k,k<n->val i<=val k
section
variable{prog:yO}{w:yK}{A:yL}{R:Result -> yR -> Prop}{I:yQ}{fp wr:List yQ}{n:Nat}{P:Nat -> yU -> Prop}{St:Nat -> Heap -> Prop}
def Va(W:Walks prog w A.in1 I fp wr n P St)(val:Nat->Int)(hv:∀i v,P i v->∃t,v= .int (val i) t)(d:yU)(B:yQ)(nB:B ∉ fp):
  ∀(left j:Nat) (s:yR) (its:Array yU) (c:Nat),j+left=n->St j s.heap->s.heap.get? B=some { cls:= .type "list",dict:=none,data:= .seq its c,slots:= #[]}->U9 P val j its->
  (∀r h' tk,OD P val n d r->(∀b o,b ∉ wr->b≠B->s.heap.get? b=some o->h'.get? b=some o)->R (.ok (.ret r)) { s with heap:=h',toks:=tk})->
  codeAny (model prog w) A (.builtin "min.loop" ⟨[.ref I,.none,.ref B],[("default",d)]⟩) R s:=by
 have nw:B ∉ wr:=λz=>nB (W.sub _ z)
 have nm:(toString "min" ++toString ".loop" :String)="min.loop" :=by decide
 intro left
 induction left with
 |zero=>
  intro j s its c e st L pb k0;have ej:j=n:=by lia
  subst ej;refine aQ cg ?_;rw[aB ZE _];show wpAny _ A.in1 (seqItems? (.ref B) >>=_) _ _ s;refine Y1 (ZW L rfl ?_);show wpAny _ A.in1 (tryCatch (pyNext (.ref I)) _>>=_) _ _ s;refine Y1 (bA (W.done s _ _ st λh1 Z g=>?_));have G:=g B _ nw L;rcases pb with⟨e0,rfl⟩ | ⟨i,v,hi,pv,rfl,le⟩
  .show wpAny _ A.in1 (rule _>>=_) _ _ _;refine Y1 (bS (Y4 (k0 d _ Z (.inl ⟨e0,rfl⟩) λb o b1 O J=>g b o b1 J)))
  .show wpAny _ A.in1 (updateSeq B (λ_=> #[]) >>=_) _ _ _;refine Y1 (aO G rfl (Y1 (aK (Y4 ?_))));exact k0 v _ Z (.inr ⟨i,hi,pv,le⟩) λb o b1 O J=>(Zo _ _ (Zd O)).trans (g b o b1 J)
 |succ left ih=>
  intro j s its c e st L pb k0;refine aQ cg ?_;rw[aB ZE _];show wpAny _ A.in1 (seqItems? (.ref B) >>=_) _ _ s;refine Y1 (ZW L rfl ?_);show wpAny _ A.in1 (tryCatch (pyNext (.ref I)) _>>=_) _ _ s;refine Y1 (bA (W.item j s _ _ (by lia) st λv h1 Z pv i0 g=>?_));have G:=g B _ nw L;have up:∀ {hp:Heap}{f:Obj->Obj},∀b∈fp,∀o,hp.get? b=some o->(hp.update B f).get? b=some o:=λb bf o J=>(Zo _ _ (λz:B=b=>nB (z ▸ bf))).trans J
  rcases pb with⟨e0,rfl⟩ | ⟨i,u,hi,pu,rfl,le⟩
  .show wpAny _ A.in1 (updateSeq B (λ_=> #[v,v]) >>=_) _ _ _;refine Y1 (aO G rfl ?_);rw [nm];refine Y4 ⟨ZT ZE _,ih (j+1) _ #[v,v] _ (by lia) (W.frame _ _ _ i0 up) (ZF _ G rfl) (.inr ⟨j,v,by lia,pv,rfl,λk hk=>?_⟩) λr h' tk t D=>?_⟩
   .have:k=j:=by lia
    rw[this];exact ZP _
   .exact k0 r h' tk t λb o b1 O J=>D b o b1 O ((Zo _ _ (Zd O)).trans (g b o b1 J))
  .show wpAny _ A.in1 (tryCatch (holding [v,v] (richCompare .Lt v u>>=_)) _>>=_) _ _ _;refine Y1 (bA (Zn (Y1 (CmpOf.ints_lt val hv j i v u _ _ _ pv pu ?_))));refine Y1 (Zn (ZL ?_));refine Y1 (aK (Y4 ?_))
   by_cases lt:val j<val i
   .rw [Z1 (show(λi j=>decide (val i<val j)) j i=true from Zv lt)];refine Y1 (aO G rfl (Y1 (aK ?_)));rw [nm];refine Y4 ⟨ZT ZE _,ih (j+1) _ #[v,v] _ (by lia) (W.frame _ _ _ i0 up) (ZF _ G rfl) (.inr ⟨j,v,by lia,pv,rfl,λk hk=>?_⟩) λr h' tk t D=>?_⟩
    .by_cases ek:k=j
     .rw[ek];exact ZP _
     .have:=le k (by lia);lia
    .exact k0 r h' tk t λb o b1 O J=>D b o b1 O ((Zo _ _ (Zd O)).trans (g b o b1 J))
   .rw [YY (show ¬(λi j=>decide (val i<val j)) j i=true from λz=>lt (Z7 z))];refine Y1 (aK ?_);rw [nm];refine Y4 ⟨ZT ZE _,ih (j+1) _ #[u,u] c (by lia) i0 G (.inr ⟨i,u,by lia,pu,rfl,λk hk=>?_⟩) λr h' tk t D=>?_⟩
    .by_cases ek:k=j
     .rw[ek];lia
     .exact le k (by lia)
    .exact k0 r h' tk t λb o b1 O J=>D b o b1 O (g b o b1 J)
end
def Vb(a d:yU):argsOk "min" ⟨[a],[("default",d)]⟩:=by unfold argsOk;kernel_rfl
section
variable{prog:yO}{w:yK}{A:yL}{E:yY}{s:yR}
def Vc{l:yQ}{its:Array yU}{ns:yV}{d:yU}{Q:VSP}(J:A.handled=none)(D:s.heap.IsList l its)(hi:IntsAre its.toList ns)
  (h:∀r h' tk,OD (λi v=>its[i]? =some v) (λi=>ns.getD i 0) its.size d r->(∀b o,s.heap.get? b=some o->h'.get? b=some o)->Q r { s with heap:=h',toks:=tk}):
  wpAny (model prog w) A (call (.builtin "min") [.ref l] [("default",d)]) Q E s:=by
 have lt:l<s.heap.objs.size:=by obtain⟨_,e,_⟩:=D;exact Y9 e
 have nm:(toString "min" ++toString ".loop" :String)="min.loop" :=by decide
 refine aX (ZS F.plain_min F.entry_min ?_);simp only[checkBuiltinCall,F.kind_min];have fin:wpAny (model prog w) A.in1 (Builtin.«min» ⟨[.ref l],[("default",d)]⟩) (λfin g=>match fin with
   |.done f=>(match(Except.ok f:Result) with | .ok (.ret v)=>Q v g | .ok _=>False | .error e=>E e g)
   |.again c'=>c'.quiet=true/\codeAny (model prog w) A c' (λr g=>match r with | .ok (.ret v)=>Q v g | .ok _=>False | .error e=>E e g) g) E s:=by
  show wpAny _ A.in1 (Builtin.Builtins.bindParams "min" ["key","default"] 0 ⟨[],[("default",d)]⟩ >>=_) _ _ s;refine Y1 (bq (show Builtin.Builtins.bindParams "min" ["key","default"] 0 ⟨[],[("default",d)]⟩=pure [none,some d] from rfl) ?_);refine Y1 (Y4 (Y1 (aW D ?_)));refine Y1 (ZG ?_);rw[nm];have G:(s.heap.push { cls:= .type "list_iterator",data:= .fields #[.ref l,.int 0 0]}).objs.size=s.heap.objs.size+1:=Zp ..;refine Y4 ⟨ZT ZE _,Va (Walks.list (A:=A.in1) J s.heap.objs.size l (Zc lt) its) (λi=>ns.getD i 0) (λi v e=>IntsAre.int_at hi i v (by rw[fh];exact e)) d _ (λz=>?_) its.size 0 _ #[] _ (by lia) ?_ (YV _ rfl) (.inl ⟨rfl,rfl⟩) λr h' tk t keep=>?_⟩
  .rw [G] at z;simp only [Z4,Zk,Zs] at z;rcases z with z | z
   .exact absurd (show(s.heap.objs.size+1:Nat)=s.heap.objs.size from z) (cf _)
   .exact absurd (show(s.heap.objs.size+1:Nat)=l from z) (aa (ZX lt))
  .exact⟨⟨_,Y2 _ (YV _ rfl),rfl,rfl⟩,(D.push _).push _⟩
  .refine h r h' tk t λb o e=>keep b o (λz=>?_) ?_ (Y2 _ (Y2 _ e))
   .have:=Y9 e;rw[Z2.mp z]at this;exact Z8 _ this
   .rw[G];exact Zc (ZX (Y9 e))
 cases I:Manifest.signature? "min" with
 |none=>exact Y4 fin
 |some sig=>
  have a:=Vb (.ref l) d;simp only[argsOk,I]at a;show wpAny _ A.in1 (Bind.checkArgs "min" sig ⟨[.ref l],[("default",d)]⟩) _ _ s;rw[show Bind.checkArgs "min" sig ⟨[.ref l],[("default",d)]⟩=pure () from a];exact Y4 fin
end
def Vd(t tk:TA):TE:=fun z H Q=>t z H λI G=>tk z G λD g=>∃(p:yQ) (ns:yV) (d:Int),I=[.ref p]/\g p=some (.lst (ns.map V.int))/\D=[.int d]/\(ns=[]->Q (.int d) g)/\∀M,M∈ns->(∀a∈ns,M<=a)->Q (.int M) g
def Ve{X:Cx}{e:yJ}{z:List Keyword}{t tk:TA}{p g:Pos}(hc:X.calm=true)(hg:Gl X "min")(hm:X.mg "min"=none)(ha:PA X [e] t)(J:PK X z tk)
  (he:autoParam (backTo g (starEach [e] X.env)=(false,eval e X.env)::backTo g (starEach [] X.env)) m5) (Z:autoParam ((backTo g (starEach [e] X.env)).any (·.1)=false) m5)
  (D:autoParam ((backToKw g (keywordEach z X.env)).all (·.1.isSome)=true) m5) (O:autoParam ((backToKw g (keywordEach z X.env)).any (·.1.isNone)=false) m5) (L:autoParam ((backToKw g (keywordEach z X.env)).filterMap (·.1)=[("default" :Str)]) m5):
  PE X (.Call (.Name "min" p) [e] z g) (Vd t tk):=by
 intro ad s σ H Q I h;refine ZH (Dd I hg hm (u:= .builtin "min") rfl ?_ (by decide) (by decide));refine PyProof.Rows.callWith_kw (Ap (ha g ad s σ H _ I h) λus s1 ⟨vs,H1,I1,r,q⟩=>Ap (J g ad s1 σ H1 _ I1 q) λws s2 zq=>?_) he Z D O;obtain⟨zs,H2,G,rz,q2⟩:=zq;obtain⟨l,ns,d,rfl,hp,rfl,q0,q1⟩:=q2;obtain⟨u,rfl,ru⟩:=r.one;cases ru;obtain⟨v,rfl,tv,rfl⟩:=EN rz;rw[L];obtain⟨i0,rv,pl,hz⟩:=G.list (Al.of hp);have hi:IntsAre i0 ns:=Rg rv;refine Vc (G.ok.hd hc) pl.isList (by simpa using hi) λx h' i4 told keep=>?_
 have ln:=IntsAre.length hi;rcases told with⟨e0,rfl⟩ | ⟨i,hi0,e1,le⟩
 .refine⟨.int d,H2,G.kept keep,⟨tv,rfl⟩,q0 ?_⟩;rw[Zl]at e0;exact Zm (by lia)
 .rw[Zl]at hi0 le;obtain⟨tx,rfl⟩:=IntsAre.int_at hi i x (by rw[<-List.getElem?_toArray];exact e1);refine⟨.int (ns.getD i 0),H2,G.kept keep,⟨tx,rfl⟩,q1 _ (getD_mem (by lia)) λa ma=>?_⟩;obtain⟨j,hj,rfl⟩:=mem_getD ma;exact le j (by lia)
def Vf{X:Cx}(J:X.calm=true):BF X (.builtin "min") (λxs H Q=>∃i j k,xs=[.int i,.int j,.int k]/\∀m,(m=i\/m=j\/m=k)->m<=i->m<=j->m<=k->Q (.int m) H):=by
 intro ad s σ H xs Z Q I r h;obtain⟨i,j,k,rfl,q⟩:=h;cases r with
 |cons r1 r=>
 obtain⟨u2,u3,rfl,⟨G,rfl⟩,⟨z,rfl⟩⟩:=HH r;obtain⟨L,rfl⟩:=r1;refine min_three_ints (I.ok.hd J) λO tk keep=>?_
 by_cases D:j<i
 .rw[Z1 D]
  by_cases g:k<j
  .rw[Z1 g];exact⟨.int k,H,I.kept keep,⟨z,rfl⟩,q k (.inr (.inr rfl)) (by lia) (by lia) (by lia)⟩
  .rw[YY g];exact⟨.int j,H,I.kept keep,⟨G,rfl⟩,q j (.inr (.inl rfl)) (by lia) (by lia) (by lia)⟩
 .rw[YY D]
  by_cases g:k<i
  .rw[Z1 g];exact⟨.int k,H,I.kept keep,⟨z,rfl⟩,q k (.inr (.inr rfl)) (by lia) (by lia) (by lia)⟩
  .rw[YY g];exact⟨.int i,H,I.kept keep,⟨L,rfl⟩,q i (.inl rfl) (by lia) (by lia) (by lia)⟩
inductive Vg(o i:V)(H:Hp)(Q:VK):Prop
 |mk(p:yQ)(g:List V)(k:Nat)(z:V)(_:o= .ref p)(_:i= .int (k:Int))(_:H p=some (.lst g))(_:g[k]? =some z)(_:Q z H)
def OE{X:Cx}:Mx X Vg:=by
 intro ad s σ H o i ov iv Q I L J h;obtain⟨p,O,k,z,rfl,rfl,G,g,q⟩:=h;cases L;obtain⟨t,rfl⟩:=J;obtain⟨Z,r,pl,hz⟩:=I.list (Al.of G);obtain⟨u,D,ru⟩:=r.get g;have hn:=Gi;have lt:k<O.length:=(Y3.mp g).1;have hl:=r.length;exact wpAny_getItem_list pl.isList (Int.natCast_nonneg k) (by lia) (by rw[ak];simpa using D) ⟨z,H,I,ru,q⟩
def B8(x y:Str):Str×Str×Str:=match Builtin.Str.occurrences x y 0 x.length 1 with
 |i::_=>(Builtin.Str.strSub x 0 i,y,Builtin.Str.strSub x (i+y.length) x.length)
 |[]=>(x,Str.empty,Str.empty)
section
variable{X:Cx}{tg:yJ}
inductive Vh(x:V)(g:List V)(H:Hp)(Q:VK):Prop
 |mk(t y:_)(_:x= .str t)(_:g=[.str y])(_:(y.length==0)=false)(_:t.length<=sizeLine)(_:∀u,H u=none->Q (.ref u) (upd H u (.tup [.str (B8 t y).1,.str (B8 t y).2.1,.str (B8 t y).2.2])))
def Vi:Gm X "str.partition" Vh:=by
 intro ad s σ H x Z v us Q I J rv h;obtain⟨t,y,rfl,rfl,L,O,q⟩:=h;obtain⟨D,rfl⟩:=J;obtain⟨u,rfl,z,rfl⟩:=rv.one;refine ah F.slot_str_partition rfl F.entry_str_partition (F.args_str_partition_2 _ _) (meets_str_partition t y D z L O) ?_;have g:=q _ I.fresh;have G:∀a b c:V,[a,b,c].length<=sizeLine:=λ_ _ _=>by show 3<=sizeLine;decide
 unfold B8 at g;split
 .rename_i i r e;rw[e]at g;refine⟨.ref _,_,?_,rfl,g⟩;refine I.laid (λb o e=>Y2 _ e) (Y5 _) ⟨G _ _ _,[.str (Builtin.Str.strSub t 0 i) s.toks,.str y z,.str (Builtin.Str.strSub t (i+y.length) t.length) (s.toks+1)],.cons ⟨_,rfl⟩ (.cons ⟨_,rfl⟩ (.cons ⟨_,rfl⟩ .nil)),?_⟩;exact⟨_,YV s.heap rfl,rfl,0,rfl⟩
 .rename_i e;rw[e]at g;refine⟨.ref _,_,?_,rfl,g⟩;refine I.laid (λb o e=>Y2 _ e) (Y5 _) ⟨G _ _ _,[.str t D,.str Str.empty s.toks,.str Str.empty s.toks],.cons ⟨_,rfl⟩ (.cons ⟨_,rfl⟩ (.cons ⟨_,rfl⟩ .nil)),?_⟩;exact⟨_,YV s.heap rfl,rfl,0,rfl⟩
inductive Vj_(Q:Bool->Hp->Prop)(x:V)(D:Hp):Prop
 |mk(t:_)(_:x= .str t)(_:t.length<=sizeLine)(_:Q ((t.length:Int) !=0) D)
def Vj(g:TE):TT:=fun z H Q=>g z H λx D=>Vj_ Q x D
def Vk{a:yJ}{z:TE}(ha:PE X a z)(J:autoParam (∀g,isTrue a X.env g=(do let v<-g;standAt a.pos;holding [v] (truthy v))) W0):PT X a (Vj z):=by
  intro ad s D H Q I h;refine fS (Ap (ha ad s D H _ I h) λv s1 Z=>?_) (J _);obtain⟨x,O,G,r1,L⟩:=Z;obtain⟨t,rfl,hz,q⟩:=L;obtain⟨tk,rfl⟩:=r1;exact PySem.P.truthy_str (by have e:=aZ;lia) ⟨O,G.tok _,q⟩
end
section
variable{κ:Type} [DecidableEq κ]
def Do(kvs:List (κ×V))(k:κ):Option V:=(kvs.find? λg=>decide (g.1=k)).map (·.2)
def Vl{p:κ×V}{r:List (κ×V)}{k:κ}(e:p.1=k):Do (p::r) k=some p.2:=by simp[Do,fD,e]
def Vm{p:κ×V}{r:List (κ×V)}{k:κ}(e:¬p.1=k):Do (p::r) k=Do r k:=by simp[Do,fD,e]
def RelO.isSome_eq{o:Option V}{u:yW}(r:RelO o u):o.isSome=u.isSome:=by
 cases o with
 |none=>cases u with
  |none=>rfl
  |some _=>exact(show False from r).elim
 |some _=>cases u with
  |none=>exact(show False from r).elim
  |some _=>rfl
def KV.val{kvs:List (κ×V)}{vs:List (κ×yU)}(r:KV kvs vs)(k:κ):RelO (Do kvs k) (valueAt vs k):=by
 unfold KV at r
 induction r with
 |nil=>exact True.intro
 |@cons p q ps qs h t ih=>
  obtain⟨D,G⟩:=h
  by_cases e:p.1=k
  .have g:q.1=k:=D.symm.trans e;have b:valueAt (q::qs) k=some q.2:=by simp [valueAt,fD,g]
   rw[Vl e,b];exact G
  .have g:¬q.1=k:=λz=>e (D.trans z)
   have b:valueAt (q::qs) k=valueAt qs k:=by simp[valueAt,fD,g]
   rw[Vm e,b];exact ih
end
def OF{P:yO}{w:yK}{k:AL}{u:yU}(r:RelV (kV k) u):(Bz P w).is k u=true:=by
 cases k with
 |inl i=>obtain⟨t,e⟩:=(show ∃t,u=Value.int i t from r);subst e;exact J0 P w i t
 |inr x=>obtain⟨t,e⟩:=(show ∃t,u=Value.str x t from r);subst e;exact Hx P w x t
def OG(i:yJ):Prop:=∀g z,subscripted i false g z=operate [g,z] (getItem g z)
def Vn{prog:yO}{w:yK}{A:yL}{E:VSP}{s:yR}{env:Env}{z g:yJ}{Z:Pos}{T id:String}{Q:VSP}
  (hl:typeLookup (.type T) "__getitem__"=pure (some (.builtin id))) (hs:OG g)
  (h:wpAny (model prog w) A (eval z env) (λo I=>wpAny (model prog w) A (eval g env) (λi D=>D.TypeIs o T/\wpAny (model prog w) A (getItem o i) Q E D) E I) E s):
  wpAny (model prog w) A (eval (.Subscript z g Z) env) Q E s:=by
 refine Subscript_ (Zf h (λo I L=>Zf L (λi D G=>?_) λ_ _ x=>x) λ_ _ x=>x);obtain⟨hT,G⟩:=G;unfold subscriptTail;refine Y1 ?_;rw[getitemInPython_of_ne hT.not_modules];refine Y1 (eN hT hl ?_);have fin:wpAny (model prog w) A (subscripted g false o i) (λr J=>wpAny (model prog w) A (letTemporaryGo z o r>>=λ_=>pure r) Q E J) E D:=by
  rw[hs o i];exact wpAny_operating (Zf G (λr J O=>Y1 (wpAny_letTemporaryGo (Y4 O))) λ_ _ x=>x)
 first
  |exact Y4 (Y1 fin)
  |exact Y1 (Y4 (Y1 fin))
  |exact Y1 fin
structure M1(X:Cx)(o:yJ)(m:Str)(apos:Pos)(e:yJ)(cpos:Pos):Prop where
 base:attributeBase o m X.env (eval o X.env)=eval o X.env
 Bn:((backTo cpos (starEach [e] X.env)).all (λx=> !x.1) &&(backToKw cpos (keywordEach [] X.env)).all (λx=>x.1.isSome)
  && decide (([e]:List yJ).length+([]:List Keyword).length+(if ([]:List Keyword).isEmpty then 0 else 1)<30))=true
 line:(apos.endLine==cpos.line)=true
 trees:backTo cpos (starEach [e] X.env)=[(false,eval e X.env)]
structure M2(X:Cx)(o:yJ)(m:Str)(apos:Pos)(e f:yJ)(cpos:Pos):Prop where
 base:attributeBase o m X.env (eval o X.env)=eval o X.env
 Bn:((backTo cpos (starEach [e,f] X.env)).all (λx=> !x.1) &&(backToKw cpos (keywordEach [] X.env)).all (λx=>x.1.isSome)
  && decide (([e,f]:List yJ).length+([]:List Keyword).length+(if ([]:List Keyword).isEmpty then 0 else 1)<30))=true
 line:(apos.endLine==cpos.line)=true
 trees:backTo cpos (starEach [e,f] X.env)=[(false,eval e X.env),(false,eval f X.env)]
structure GD(P:yO)(w:yK)(K:Fgx)(a:yQ)(kvs:List (AL×V)):Prop where
 ne:(a==sysModules)=false
 dd:∀h:Heap,K.In h->∃vs,KV kvs vs/\h.DictOf (Bz P w) a vs
def EG:List DictEntry->List (Str×yU)->Bool
 |[],[]=>true
 |e::es,p::ps=>(match e.key with | .str x _=>x==p.1 | _=>false) && e.val==p.2 && EG es ps
 |_,_=>false
def OH{P:yO}{w:yK}{K:Fgx}{a:yQ}{es:Array DictEntry}{ep:Nat}{vs:List (Str×yU)}{kvs:List (AL×V)}(l:K.lookup a=some ⟨.type "dict",none,.dict es ep,#[]⟩)(ne:(a==sysModules)=false)
  (z:EG es.toList vs=true) (I:es.toList.map (·.hash)=vs.map λp=>hashStr w p.1) (nd:(vs.map (·.1)).Nodup) (L:KV kvs (vs.map λp=>((.inr p.1:AL),p.2))):GD P w K a kvs:=by
 refine⟨ne,λh X=>⟨_,L,_,es,ep,X _ _ l,⟨rfl,rfl,rfl⟩,rfl,?_,?_,?_⟩⟩
 .intro e Z;have g:e∈es.toList:=Array.mem_toList_iff.mpr Z;clear l L nd Z;generalize es.toList=G at z I g
  induction G generalizing vs with
  |nil=>cases g
  |cons e0 G ih=>
   cases vs with
   |nil=>cases z
   |cons p ps=>
    unfold EG at z;simp only[Zh]at z;obtain⟨⟨D,_⟩,O⟩:=z;rw[ZJ,ZJ]at I;obtain⟨e1,e2⟩:=bX I;rcases Z4.mp g with rfl | g
    .refine⟨.inr p.1,?_,e1⟩;split at D
     .rename_i x t J;rw[J,ao D];exact Hx P w p.1 t
     .cases D
    .exact ih O e2 g
 .clear l L nd I;generalize es.toList=G at z ⊢
  induction G generalizing vs with
  |nil=>cases vs with
   |nil=>exact .nil
   |cons p ps=>cases z
  |cons e0 G ih=>
   cases vs with
   |nil=>cases z
   |cons p ps=>
    unfold EG at z;simp only[Zh]at z;obtain⟨⟨D,h2⟩,O⟩:=z;refine .cons ?_ (ao h2) (ih O);split at D
    .rename_i x t J;show(Bz P w).is (.inr p.1) e0.key=true;rw[J,ao D];exact Hx P w p.1 t
    .cases D
 .rw[bo];have:(vs.map (Prod.fst∘λp:Str×yU=>((Sum.inr p.1:AL),p.2)))=(vs.map (·.1)).map Sum.inr:=by rw[bo];rfl
  rw[this];exact List.Pairwise.map _ (λa b h e=>h (Sum.inr.inj e)) nd
section
variable{X:Cx}{o i:yJ}{pos:Pos}{ty:TE}{a:yQ}{kvs:List (AL × V)}
inductive OI_(kvs:List (AL×V))(Q:VK)(y:V)(z:Hp):Prop
 |mk(k v:_)(_:y=kV k)(_:Do kvs k=some v)(_:Q v z)
def OI(kvs:List (AL×V))(ty:TE):TE:=fun g H Q=>ty g H λy z=>OI_ kvs Q y z
def OJ(G:GD X.prog X.w X.K a kvs)(ho:PE X o (tC (.ref a)))(hi:PE X i ty)(Z:OG i):PE X (.Subscript o i pos) (OI kvs ty):=by
 intro ad s z H Q I h;refine Vn PySem.F.slot_dict_getitem.lookup Z (Ap (ho ad s z H (λv D=>v= .ref a/\OI kvs ty z D Q) I ⟨rfl,h⟩) λu s1 ⟨x,D,I1,O,ex,q1⟩=>Ap (hi ad s1 z D _ I1 q1) λiv s2 zq=>?_);obtain⟨y,H2,J,ry,k,v,ey,l,q2⟩:=zq;subst ex ey;obtain rfl:u=Value.ref a:=O;obtain⟨L,rel,dd⟩:=G.dd _ J.kIn;obtain⟨w',hw,g⟩:=RelO.some_of (v:=v) (o:=valueAt L k) (by rw[<-l];exact rel.val k);exact⟨dd.mapOf.typeIs,wpAny_getItem_of (OF ry) dd.mapOf hw ⟨v,H2,J.tok _,g,q2⟩⟩
def Vo(G:GD X.prog X.w X.K a kvs):OpR X (compareOp .NotIn) (λx y H Q=>∃k,x=kV k/\y= .ref a/\Q (.bl (!(Do kvs k).isSome)) H):=by
 intro ad s J H x y v u Q I g z h;obtain⟨k,rfl,rfl,q⟩:=h;obtain rfl:u=Value.ref a:=z;obtain⟨D,rel,dd⟩:=G.dd _ I.kIn;refine wpAny_notIn_of (OF g) G.ne dd.mapOf ?_;rw[<-(rel.val k).isSome_eq];exact⟨.bl _,H,I.tok _,rfl,q⟩
end
structure Lr(P:yO)(w:yK)(K:Fgx)(mg:Str->yW)(base:Heap)(k:Nat)(f:yQ)(sp:Sp):Prop where
 ex:∃(n:Nat) (fd:FuncData) (ps:List Str),n<=k/\BK P w K mg base (Bm P w) n f fd ps sp/\PySem.W.keepIn K (.ref f)=true/\Binds K fd ps []
theorem A2.at{P:yO}{w:yK}{K:Fgx}{mg:Str->yW}{base:Heap}{n k:Nat}{x:Str}{g:List Str}{sp:Sp}{f:yQ}(F:A2 P w K mg base n x g sp)(h:mg x=some (.ref f))(J:n<=k):Lr P w K mg base k f sp:=by
 obtain⟨L,I,F,z,D,G⟩:=F.ex;rw[h]at z;cases z;exact⟨n,I,g,J,F,D,G⟩
inductive Vp(P:yO)(w:yK)(K:Fgx)(mg:Str->yW)(base:Heap)(k:Nat)(E:XK)(i:Nat)(t:TA)(g:L2.St)(H:Hp)(Q:VK):Prop
 |mk(f z:_)(_:g[i]? =some (some (.ref f)))(_:Lr P w K mg base k f z)(_:t g H λG D=>z G D Q E)
def Vq{X:Cx}{E:XK}{k i:Nat}{x:Str}{e:yJ}{es:List yJ}{t:TA}{p g:Pos}(D:IsDef X E)(hN:X.N[i]? =some x)(Z:Ej X.env.scope x)(hr:AN k X.A)(ha:PA X (e::es) t)
  (hdb:autoParam ((x==("__debug__" :Str))=false) S7) (J:autoParam ((x==("__classdict__" :Str))=false) S7) (he:autoParam (starEach (e::es) X.env=(false,eval e X.env)::starEach es X.env) m5) (z:autoParam ((backTo g (starEach es X.env)).any (·.1)=false) m5):
  PE X (.Call (.Name x p) (e::es) [] g) (Vp X.prog X.w X.K X.mg X.base k E i t):=by
 intro ad s L H Q I ⟨f,sp,hσ,⟨n,fd,ps,hn,F,hk,hb⟩,q⟩;refine ZH (Ap ((Gf (i:=i) hN Z hdb J) ad s L H (λv G=>v= .ref f/\G=H) I ⟨.ref f,hσ,rfl,rfl⟩) λu s2 zq=>?_);obtain⟨v,G,I2,r,ev,eh⟩:=zq;subst ev eh;obtain rfl:u= .ref f:=r;refine PySem.W.callWith_K (h₀:=X.base) I.ok.mod.kin hk (Ap (ha g ad s2 L G _ I2 q) λus s3 ⟨vs,H1,O,r,q⟩=>⟨O.kIn,?_⟩) he z;exact HJ (ds:=[]) (dvs:=[]) F (hr.mono hn) hb .nil D.passes O r (by rw[aw];exact q)
section
variable{xs:Array yU}
section
variable{P:yO}{w:yK}{A:yL}{E:yY}
def Vr{it l:yQ}(ne:l≠it){n:Nat}:∀ {k:Nat}{s:yR}{Q:yX->yR->Prop},s.heap.IsListIter it l k->s.heap.IsList l xs->k+n=xs.size->
  (∀D,D.IsListIter it l xs.size->D.IsList l xs->Heap.ExtBut it s.heap D->Q (xs.toList.drop k) { s with heap:=D})->wpAny (model P w) A (draw (.ref it) n) Q E s:=by
 induction n with
 |zero=>
  intro k s Q a b c q;have z:xs.toList.drop k=[]:=List.drop_eq_nil_of_le (by rw[ap];lia);have I:=q s.heap (by rw[<-c];exact a) b λ_ _ _ g=>g
  rw[z]at I;unfold draw;exact Y4 I
 |succ n ih=>
  intro k s Q a b c q;have lt:k<xs.size:=by lia
  have z:xs.toList.drop k=xs[k]::xs.toList.drop (k+1):=by rw[bN (by rw[ap];exact lt),Array.getElem_toList]
  rw[z]at q;unfold draw;refine Y1 (eR a b (dR lt) λD a1 G=>Y1 (Zn (ih a1 (b.extBut G.extBut ne) (by lia) λJ O Z L=>?_)));exact Y4 (q J O Z λd o hd g=>L d o hd (G.extBut d o hd g))
def Vs{l:yQ}{G:List (Bool×(yU->Sem Unit))}{Q:Unit->yR->Prop}{s:yR}(hh:A.handled=none)(I:s.heap.IsList l xs)(O:G.length=xs.size)(n2:G.findIdx? (·.1)=none)
  (q:∀L,Heap.ExtBut s.heap.objs.size s.heap L->wpAny (model P w) A (assignInOrder (G.map (·.2)) xs.toList) Q E { s with heap:=L}):wpAny (model P w) A (unpack (.ref l) G) Q E s:=by
 have ne:l≠s.heap.objs.size:=by
  obtain⟨o,g,_⟩:=I;exact λz=>absurd (Y9 g) (by rw[z];exact Z8 _)
 have D:xs.toList.length=xs.size:=ap;unfold unpack unpackItems notIterableAtAll;rw[O,n2];refine Y1 (Zn (Y1 (Y1 (eN I.typeIs F.slot_list_iter.lookup (Y4 ?_)))));refine Y1 (Zn (aW I (Y1 (Zn (Vr ne ⟨_,YV _ rfl,rfl,rfl⟩ (I.push _) (Nat.zero_add _) λL a b eb=>?_)))));rw[dy,YY (by rw[D];exact Z8 _)];refine Y1 (Zn (f9 hh a b (Array.getElem?_eq_none (Y5 _)) λZ J=>Y4 (q Z λd o hd g=>J d o hd (eb d o hd (Y2 _ g)))))
end
variable{X:Cx}
inductive Vt(K:Fgx)(n:Nat)(t:Du)(v:V)(z:L2.St)(H:Hp)(Q:L2.St->Hp->Prop):Prop
 |mk(a g:_)(_:v= .ref a)(_:Al K H a g)(_:g.length=n)(_:t g z H Q)
def Vu(K:Fgx){es:List yJ}{k:Nat}{t:Du}{n:Nat}{z:Pos}(h:Fl X es t)(Z:autoParam (X.calm=true) m5)(hK:autoParam (X.K=K) m5)
  (hn:autoParam ((assignEach es X.env).length=n) m5) (D:autoParam ((assignEach es X.env).findIdx? (·.1)=none) m5):PG X (.Tuple es k z) (Vt K n t):=by
 subst hK;intro ad s G H v u Q I r g;obtain⟨a,xs,rfl,J,L,g⟩:=g;cases r;obtain⟨i0,rv,pl,_⟩:=I.list J;rw[assign_Tuple];refine Y1 (ag (Vs (I.ok.hd Z) pl.isList (by rw[hn,<-L,rv.length,Zl]) D λh1 hx=>?_));have O:Ac X ad G H { s with heap:=h1}:=I.kept (t':=s.toks) λb o e=>hx b o (Zc (Y9 e)) e
 exact h ad _ G H xs _ Q O rv g
end
section
variable{Ts:List (yQ × yQ)}{k:Nat}
def TabsAt(h:Heap)(mg:Str->yW)(g:List (yQ×yQ)):Prop:=∀x∈g,PySem.W.CodeHd h x.1 x.2/\h.BuiltinsAt mg x.2
def BJ(g:List (yQ×yQ))(b:yQ):Bool:=g.any λx=>x.2==b
def Vv{x:yQ×yQ}(h:x∈Ts):BJ Ts x.2=true:=bH.mpr ⟨x,h,by simp⟩
def OK{b:yQ}(h:BJ Ts b=true):∃x∈Ts,x.2=b:=by
 obtain⟨x,g,e⟩:=bH.mp h;exact⟨x,g,by simpa using e⟩
def Vw{P:yO}{w:yK}{K:Fgx}{mg mb:Str->yW}{CX:CG}{fa a:yQ}{fd:FuncData}{x:Str}{sp:Sp}{g:yR}{vs:yX}{ns:yV}
  (KX:K.In g.heap) (j3:g.heap.Ns mainGlobals mg) (D:g.heap.Ns builtinsNs mb) (l7:∀x:Str,x≠ "__name__" ->mb x=bootBuiltins x) (i8:g.heap.NoLimit) (hg:g.gens= #[])
  (ha:g.heap.get? a=some { cls:= .type "list",data:= .seq vs.toArray}) (hi:IntsAre vs ns) (hl:ns.length<=sizeLine) (hr:AN k callerA)
  (tA:TabsAt g.heap mg Ts) (tO:∀x∈Ts,g.heap.get? x.2=some (PySem.W.tabObj #[])) (t3:PySem.W.noTabs K=true)
  (F:∀base:Heap,K.In base->base.Ns mainGlobals mg->TabsAt base mg Ts->BK P w K mg base CX k fa fd [x] sp) (i5:∀(s:yR) (u:yU),BindsTo s fd ⟨[u],[]⟩ [(x,u)])
  (j7:∀H:Hp,(∀x∈Ts,H x.2=some (.tbl #[]))->Al K H a (ns.map V.int)->sp [.ref a] H (λv _=>v= .bl true) λ_ _ _=>False)
  (j8:∀H e s',CX [] H g (λ_ _ _=>False) e s'->False):
  codeAny (model P w) callerA (.call (.ref fa) ⟨[.ref a],[]⟩) (λr s'=>r= .ok (.ret (.bool true))/\OldK g.heap s'.heap/\s'.os=g.os/\AllBare s'.gens) g:=by
 have rv:=Ng hi;have j5:=hi.length;have oT:∀b,BJ Ts b=true->g.heap.get? b=some (PySem.W.tabObj #[]):=λb z=>by
  obtain⟨x,Z,rfl⟩:=OK z;exact tO x Z
 have aT:BJ Ts a=false:=dN.mpr λz=>by
  have:=oT a z;rw[ha]at this;cases this
 have kT:∀b,BJ Ts b=true->K.lookup b=none:=λb z=>by
  cases q:K.lookup b with
  |none=>rfl
  |some o=>
   have e:=KX b o q;rw[oT b z]at e;cases e;have h2:=Zx.mp t3 _ (PySem.W.mem_of_lookupK q);exact absurd (show false=true from h2) YZ
 have i0:∀H:Hp,(∀b,BJ Ts b=true->H b=some (.tbl #[]))->(∀b,BJ Ts b=false->H b=none\/ ∃o xs,H b=some (.frz o (.lst xs)))->Al K H a (ns.map V.int)->HOk P w H g.heap->(∀b,H b≠none->b=a\/BJ Ts b=true)->(H a≠none->K.lookup a=none)->
   codeAny (model P w) callerA (.call (.ref fa) ⟨[.ref a],[]⟩) (λr s'=>r= .ok (.ret (.bool true))/\OldK g.heap s'.heap/\s'.os=g.os/\AllBare s'.gens) g:=by
  intro H i6 hO hS hok hA hK;have G:∀ {b:yQ}{o:Obj},g.heap.get? b=some o->H b=none->(Dt g.heap H).get? b=some o:=λe n=>Qa e n
  have i7:∀ {b:yQ}{o:Obj},g.heap.get? b=some o->(∀xs n,o.data≠ .seq xs n)->(o.cls≠ .none\/ ∃es L,o.data= .dict es L)->H b=none:=λ{b o} e d1 d2=>by
   cases q:H b with
   |none=>rfl
   |some u=>
    rcases hA b (by rw[q];simp) with e' | e'
    .subst e';rw[ha]at e;cases e;exact absurd rfl (d1 _ _)
    .rw [oT b e'] at e;cases e;rcases d2 with d2 | ⟨es,L,d2⟩
     .exact absurd rfl d2
     .have d':Data.fields #[]=Data.dict es L:=d2;cases d'
  have n9:∀ {b:yQ}{o:Obj}{es:Array DictEntry}{L:Nat},g.heap.get? b=some o->o.data= .dict es L->H b=none:=λ{b o es L} e d=>i7 e (λxs n z=>by rw[d]at z;cases z) (.inr ⟨es,L,d⟩)
  have O:∀ {b:yQ}{m:Str->yW},g.heap.Ns b m->(Dt g.heap H).Ns b m:=λ{b m} ⟨o,es,L,e,d,r⟩=>⟨o,es,L,G e (n9 e d),d,r⟩
  have j0:K.In (Dt g.heap H):=λb o e=>G (KX b o e) (by
   cases q:H b with
   |none=>rfl
   |some u=>
    rcases hA b (by rw[q];simp) with e' | e'
    .subst e';rw[hK (by rw[q];simp)]at e;cases e
    .rw[kT b e']at e;cases e)
  have hM:Mod K mg (Dt g.heap H):=⟨j0,O j3,⟨mb,O D,l7⟩,let ⟨mc,h1,h2⟩:=i8;⟨mc,O h1,h2⟩⟩;have e0:CH P w K mg (Dt g.heap H) callerA [] g H:=⟨rfl,hM,λb o e=>Qb e,Nat.le_of_eq (P9 _ _),trivial,λb D=>absurd (show b∈([]:List yQ) from D) (by simp),hok,.of_eq hg⟩;have j6:TabsAt (Dt g.heap H) mg Ts:=λx Z=>by
   obtain⟨t1,t4⟩:=tA x Z;refine⟨?_,?_⟩
   .obtain⟨o,j9,j2,tf,i4,tg,l9,j4,tt,e1,e2,e3,r⟩:=t1;exact⟨o,j9,j2,tf,i4,tg,l9,j4,tt,G e1 (i7 e1 (λxs n q=>by rw[e3]at q;cases q) (.inl λq=>by rw[e2]at q;cases q)),e2,e3,r⟩
   .obtain⟨bm,ob,b1,b2,b3,b4,b5,b6,b7,b8⟩:=t4;exact⟨bm,ob,b1,b2,b3,b4,G b5 (i7 b5 (λxs n q=>by rw[b8]at q;cases q) (.inl λq=>by rw[b6]at q;cases q)),b6,b7,b8⟩
  refine ae ((F _ j0 (O j3) j6).run callerA [] g H ⟨[.ref a],[]⟩ [.ref a] [.ref a] _ _ hr e0 (i5 g (.ref a)) (.cons rfl .nil) (j7 H (λx Z=>i6 _ (Vv Z)) hS)) λr s' h=>?_
  cases r with
  |error e=>exact(j8 H e s' h).elim
  |ok fl=>
   cases fl with
   |next=>exact False.elim h
   |brk=>exact False.elim h
   |cont=>exact False.elim h
   |ret u=>
    obtain⟨v,H',os,bare,un,J,r',q⟩:=h;have q':v= .bl true:=q;subst q';obtain rfl:u=Value.bool true:=r';have I:∀b o,BJ Ts b=false->g.heap.get? b=some o->s'.heap.get? b=some o:=λb o n e=>by
     cases q:H b with
     |none=>exact un.keep b o e q (by intro z;exact absurd (show b∈([]:List yQ) from z) (by simp)) (by simp)
     |some u=>
      rcases hO b n with z | ⟨ob,xs,z⟩
      .rw[q]at z;cases z
      .have z2:=un.frzs b ob _ z;obtain⟨e1,_⟩:=hok b _ z;obtain⟨e2,_⟩:=J b _ z2;rw[e]at e1;cases e1;exact e2
    refine⟨rfl,⟨λb o e=>?_,λb o e=>?_⟩,os,bare⟩
    .cases D:BJ Ts b with
     |false=>exact .inl (I b o D e)
     |true=>
      obtain⟨x,Z,ex⟩:=OK D;obtain⟨more,eT⟩:=un.tbls b #[] (i6 b D);have oN:s'.heap.get? b=some (PySem.W.tabObj (#[]++more)):=J b _ eT;rw[oT b D]at e;cases e;have tc:=((tA x Z).1.tab (tO x Z)).isCodeTable;rw[ex]at tc;exact .inr (.inl ⟨tc,rfl,#[],more,rfl,oN⟩)
    .cases D:BJ Ts b with
     |false=>exact⟨o,I b o D e⟩
     |true=>
      obtain⟨more,eT⟩:=un.tbls b #[] (i6 b D);exact⟨_,J b _ eT⟩
 cases hk:K.lookup a with
 |some o=>
  have e:=KX a o hk;rw[ha]at e;cases e;refine i0 (λb=>if BJ Ts b=true then some (.tbl #[]) else none) (λb z=>Z1 z) (λb n=> .inl (YY (by rw[n];exact YZ))) (.inr ⟨_,vs.toArray,_,hk,rfl,rfl,rfl,by rw[Zl,j5];exact hl,by simpa using rv⟩) (λb u z=>?_) (λb z=>?_) λz=>absurd (YY (by rw[aT];exact YZ)) z
  .by_cases D:BJ Ts b=true
   .have z':=(Z1 D).symm.trans z;cases z';exact oT b D
   .have z':=(YY D).symm.trans z;cases z'
  .by_cases D:BJ Ts b=true
   .exact .inr D
   .exact absurd (YY D) z
 |none=>
  have l6:¬BJ Ts a=true:=by rw[aT];exact YZ
  have n5:(if BJ Ts a=true then some (HO.tbl #[]) else if a=a then some (HO.frz { cls:= .type "list",data:= .seq vs.toArray} (.lst (ns.map V.int))) else none)=some (HO.frz { cls:= .type "list",data:= .seq vs.toArray} (.lst (ns.map V.int))):=by rw[YY l6,Z1 rfl]
  refine i0 (λb=>if BJ Ts b=true then some (.tbl #[]) else if b=a then some (.frz { cls:= .type "list",data:= .seq vs.toArray} (.lst (ns.map V.int))) else none) (λb z=>Z1 z) (λb n=>?_) (.inl (.inr ⟨{ cls:= .type "list",data:= .seq vs.toArray},n5⟩)) (λb u z=>?_) (λb z=>?_) λ_=>hk
  .have n':¬BJ Ts b=true:=by rw [n];exact YZ
   by_cases D:b=a
   .exact .inr ⟨_,_,by rw[YY n',Z1 D]⟩
   .exact .inl (by rw[YY n',YY D])
  .dsimp only at z
   by_cases D:BJ Ts b=true
   .rw[Z1 D]at z;cases z;exact oT b D
   .rw [YY D] at z
    by_cases D:b=a
    .rw[Z1 D]at z;cases z;subst D;exact⟨ha,by rw[Y0];exact hl,vs,_,rv,ha⟩
    .rw[YY D]at z;cases z
  .by_cases D:BJ Ts b=true
   .exact .inr D
   .by_cases i9:b=a
    .exact .inl i9
    .exact absurd (by show(if BJ Ts b=true then _ else _)=none;rw[YY D,YY i9]) z
def Bv(K:Fgx)(x:Str):yQ×yQ:=(PySem.W.tabIn K x).getD (0,0)
def walk_ofN{l:PySem.W.OpenLaw}{n:Nat}{q:yO}{Z:List Str}{XP:(Str->yW)->Heap->Prop}{YP:yK->Heap->Prop}{d:DefRec}{K:Params->Fgx}{CX:yK->CG}{sp:Fgx->Sp}{x:Str}(xs:List Str)
  (hn:l.most=some n) (j3:n<=sizeLine) (j2:d.params.defaults=[]) (hr:AN k callerA)
  (hY:∀(w:yK) (h:Heap),YP w h->(K w.params).In h) (i5:∀y∈xs,∃dT,(recsOf q).find? (λe=>e.name==y)=some dT) (i0:∀w:yK,(xs.all λy=>(PySem.W.tabIn (K w.params) y).isSome)=true) (j4:∀w:yK,PySem.W.noTabs (K w.params)=true)
  (F : ∀ (w : yK) (mg : Str -> yW) (fa : yQ) (h : Heap), (K w.params).In h -> h.Ns mainGlobals mg -> mg d.name = some (.ref fa) ->
   ∃fd:FuncData,(∀(s:yR) (u:yU),BindsTo s fd ⟨[u],[]⟩ [(x,u)])/\
    ∀base:Heap,(K w.params).In base->base.Ns mainGlobals mg->TabsAt base mg (xs.map (Bv (K w.params)))->BK l.prog w (K w.params) mg base (CX w) k fa fd [x] (sp (K w.params)))
  (i7:∀(K:Fgx) (H:Hp) (a:yQ) (ns:yV),ns.length<=n->(∀y∈xs,H (Bv K y).2=some (.tbl #[]))->Al K H a (ns.map V.int)->sp K [.ref a] H (λv _=>v= .bl true) λ_ _ _=>False)
  (i9:∀(w:yK) (H:Hp) (s:yR) (e:yU) (s':yR),CX w [] H s (λ_ _ _=>False) e s'->False):
  PySem.W.WalkO q Z XP YP l.row.toRowW d [] (λf vs=>PySem.call f vs):=by
 refine Att.attach_call hn j2 λw s₀ D mg mb fa o pm cd j5 a vs ns G Y ho hd j6 j0 i4 O I hg=>?_
 have KX:=hY w _ Y;obtain⟨fd,hb,hF⟩:=F w mg fa _ KX G.T.g j0;have J:∀y∈xs,PySem.W.CodeHd D.heap (Bv (K w.params) y).1 (Bv (K w.params) y).2/\D.heap.get? (Bv (K w.params) y).2=some (PySem.W.tabObj #[]):=λy L=>by
  obtain⟨dT,i8⟩:=i5 y L;have z:=Zx.mp (i0 w) y L;obtain⟨⟨c,T⟩,ht⟩:=ay.mp z;have e:Bv (K w.params) y=(c,T):=by unfold Bv;rw[ht];rfl
  rw[e];exact PySem.W.tab_of G.T KX i8 ht
 have tO:∀z∈xs.map (Bv (K w.params)),D.heap.get? z.2=some (PySem.W.tabObj #[]):=λz hz=>by
  obtain⟨y,L,rfl⟩:=Zg.mp hz;exact(J y L).2
 have tA:TabsAt D.heap mg (xs.map (Bv (K w.params))):=λz hz=>by
  have t2:=tO z hz;obtain⟨y,L,rfl⟩:=Zg.mp hz;refine⟨(J y L).1,?_⟩;obtain⟨bm,ob,b1,b2,b3,b4,b5,b6⟩:=G.T.bmain;refine⟨bm,ob,b1,b2,λz=>?_,λz=>?_,b3,b4,b5,b6⟩
  .obtain⟨o,es,ep,e,i6,_⟩:=G.T.g;rw[z,e]at b3;cases b3;rw[i6]at b6;cases b6
  .rw[z,t2]at b3;cases b3;cases b4
 exact Vw KX G.T.g G.T.b G.T.builtins G.T.nolimit hg i4 O (Ze I j3) hr tA tO (j4 w) hF hb (λH h1 h2=>i7 (K w.params) H a ns I (λy L=>h1 _ (Zg.mpr ⟨y,L,rfl⟩)) h2) λH e s'=>i9 w H D e s'
end
variable{M:List yQ}{H H' H1 H2:Hp}{ql:Str}{xs:List V}
def OL(o:HO):Prop:=(∃g,o= .lst g)\/ ∃z,o= .tbl z
def EvX(M:List yQ)(H H':Hp):Prop:=∀b o,H b=some o->(b∈M/\OL o)\/H' b=some o
def EvX.refl:EvX M H H:=λ_ _ h=> .inr h
def EvX.same(h:Ab H H'):EvX M H H':=λb o q=> .inr (h b o q)
def EvX.trans(a:EvX M H H1)(b:EvX M H1 H2):EvX M H H2:=λc o h=>(a c o h).elim .inl λz=>b c o z
def EvX.mono{N:List yQ}(a:EvX M H H')(h:∀b∈M,b∈N):EvX N H H':=λc o z=>(a c o z).imp_left fun⟨m,q⟩=>⟨h c m,q⟩
def EvX.ev{p:yQ}(a:Ev p H H')(h:p∈M):EvX M H H':=λc o z=>(a c o z).imp_left fun⟨m,q⟩=>⟨m ▸ h,.inl q⟩
def EvX.tab{TB:yQ}(t:TabIn H TB ql)(g:∀b o,H b=some o->b≠TB->H' b=some o)(h:TB∈M):EvX M H H':=λb o z=>by
 by_cases e:b=TB
 .obtain⟨G,D,_⟩:=t;rw[e,D]at z;cases z;exact .inl ⟨e ▸ h,.inr ⟨_,rfl⟩⟩
 .exact .inr (g b o z e)
def EvX.keep{b:yQ}{o:HO}(a:EvX M H H')(h:H b=some o)(n:¬OL o):H' b=some o:=(a b o h).elim (λz=>absurd z.2 n) id
def EvX.tup{b:yQ}(a:EvX M H H')(h:H b=some (.tup xs)):H' b=some (.tup xs):=a.keep h λz=>by rcases z with⟨_,z⟩ | ⟨_,z⟩<;>cases z
def EvX.lst{b:yQ}(a:EvX M H H')(h:H b=some (.lst xs))(n:b ∉ M):H' b=some (.lst xs):=(a b _ h).elim (λz=>absurd z.1 n) id
theorem EvX.none{b:yQ}(a:EvX M H H')(h:H' b=none)(n:b ∉ M):H b=none:=by
  cases z:H b with
  |none=>rfl
  |some o=>rcases a b o z with y | y;exact absurd y.1 n;rw[h]at y;cases y
def EvX.sub{N:List yQ}(a:EvX M H H1)(b:EvX N H1 H2)(h:∀c∈N,c∈M\/H c=Option.none):EvX M H H2:=λc o z=>by
 rcases a c o z with y | y
 .exact .inl y
 .rcases b c o y with⟨m,k⟩ | w
  .rcases h c m with q | q
   .exact .inl ⟨q,k⟩
   .rw[q]at z;cases z
  .exact .inr w
def TabIn.evx{TB:yQ}(t:TabIn H TB ql)(e:EvX M H H')(n:TB ∉ M):TabIn H' TB ql:=by
 obtain⟨D,G,L,J⟩:=t;refine⟨D,(e _ _ G).elim (λz=>absurd z.1 n) id,L,λg v I=>?_⟩;obtain⟨c,Z,O⟩:=J g v I;exact⟨c,Z,e.keep O λz=>by rcases z with⟨_,z⟩ | ⟨_,z⟩<;>cases z⟩
def TabIn.ne{TB b:yQ}(t:TabIn H TB ql)(h:H b=some (.lst xs)):b≠TB:=λz=>by
 obtain⟨D,g,_⟩:=t;rw[z,g]at h;cases h
end L2
namespace MF
set_option hygiene false
local macro_rules | `(tactic| k_dat ⟨$n,$v,$r⟩ "h") => `(tactic| first | refine F.fn $n (by intro vs _ _ _ h;first | (cases h;rfl) | ((conv at h=>whnf);split at h;rfl;exact h.elim)) λf dl A outer s H $v Q E $r h=>?_ | refine F.fnE $n (by intro vs _ _ _ h;first | (cases h;rfl) | ((conv at h=>whnf);split at h;rfl;exact h.elim)) λf dl A outer s H $v Q E $r h=>?_)
local macro_rules | `(tactic| k_dat ⟨$n,$v,$r⟩ "g") => `(tactic| k_dat ⟨Az (N:=$n),$v,$r⟩ "h")
local macro_rules | `(tactic| k_dat $n "f") => `(tactic| k_dat ⟨$n,vs,hr⟩ "g")
local macro_rules | `(tactic| k_dat 0 "u") => `(tactic| (cases h;rename_i h))
local macro_rules | `(zF $a $b) => `(AK K (n:=2) (Aj (zC $a) (Aj (zC $b) AJ)))
local macro_rules | `(zF $a $b $c) => `(AK K (n:=3) (Aj (zC $a) (Aj (zC $b) (Aj (zC $c) AJ))))
local macro_rules | `(zF $a $b $c $d) => `(AK K (n:=4) (Aj (zC $a) (Aj (zC $b) (Aj (zC $c) (Aj (zC $d) AJ)))))
local macro_rules | `(zG $a) => `(AG (Bh K) rfl T.b_len PySem.boot_len (Ah $a))
local macro_rules | `(zH $a) => `(@BX _ K _ _ _ _ _ _ T.b_isinstance $a rfl rfl (by rfl) (by decide) rfl)
local macro_rules | `(zI $a $b $c $d) => `(Ls CA DA p TB TL H0 P S v u D1 W1 L1 D2 W2 L2 D3 W3 L3 $a $b $c $d)
local macro_rules | `(tactic| k_dat 0 "t") => `(tactic| (with_reducible first | refine AM λU D=>?_ | (first | refine B9 ?_ | refine Ca ?_);refine AM λU D=>?_))
open L2
section
def Aw(i : Nat): Stmt := PySem.Challenge.pw_mainfires_k95_whole_desks_stand_alone.main.body.getD i (.Pass ⟨0, 0, 0, 0⟩)
abbrev wa5:Stmt:=Aw 22
abbrev wa6:Stmt:=Aw 23
abbrev wa7:Stmt:=Aw 24
abbrev wa8:Stmt:=Aw 25
abbrev wa9:Stmt:=Aw 34
abbrev waa:Stmt:=Aw 35
abbrev wab:Stmt:=Aw 36
abbrev wac:Stmt:=Aw 37
abbrev wad:Stmt:=Aw 38
abbrev wae:Stmt:=Aw 39
abbrev waf:Stmt:=Aw 40
abbrev wag:Stmt:=Aw 41
abbrev wah:Stmt:=Aw 42
abbrev wai:Stmt:=Aw 43
abbrev waj:Stmt:=Aw 44
abbrev wak:Stmt:=Aw 45
abbrev wal:Stmt:=Aw 46
abbrev wam:Stmt:=Aw 47
abbrev wan:Stmt:=Aw 48
abbrev wao:Stmt:=Aw 49
abbrev wap:Stmt:=Aw 50
abbrev waq:Stmt:=Aw 51
abbrev war:Stmt:=Aw 52
abbrev was:Stmt:=Aw 53
abbrev wau:Stmt:=Aw 54
abbrev wav:Stmt:=Aw 55
abbrev wa3:Stmt:=Aw 56
abbrev waw:Stmt:=Aw 58
abbrev wax:Stmt:=Aw 59
abbrev waz:Stmt:=Aw 60
abbrev waA:Stmt:=Aw 61
abbrev waB:Stmt:=Aw 62
abbrev waC:Stmt:=Aw 64
abbrev waD:Stmt:=Aw 65
abbrev waE:Stmt:=Aw 66
abbrev waF:Stmt:=Aw 68
abbrev waG:Stmt:=Aw 69
abbrev waH:Stmt:=Aw 70
abbrev waI:Stmt:=Aw 71
abbrev waJ:Stmt:=Aw 72
abbrev waK:Stmt:=Aw 73
abbrev waL:Stmt:=Aw 74
abbrev waM:Stmt:=Aw 76
abbrev waN:Stmt:=Aw 77
abbrev waO:Stmt:=Aw 78
abbrev waP:Stmt:=Aw 79
abbrev waQ:Stmt:=Aw 86
abbrev waR:Stmt:=Aw 87
abbrev waS:Stmt:=Aw 88
abbrev waT:Stmt:=Aw 89
abbrev waU:Stmt:=Aw 90
abbrev waV:Stmt:=Aw 91
abbrev waW:Stmt:=Aw 92
abbrev waX:Stmt:=Aw 93
abbrev waY:Stmt:=Aw 94
abbrev waZ:Stmt:=Aw 95
abbrev wb0:Stmt:=Aw 96
abbrev wb1:Stmt:=Aw 99
abbrev wb2:Stmt:=Aw 102
abbrev wb3:Stmt:=Aw 103
abbrev wb4:Stmt:=Aw 104
abbrev wb5:Stmt:=Aw 105
abbrev wb6:Stmt:=Aw 106
abbrev wb7:Stmt:=Aw 107
abbrev wb8:Stmt:=Aw 108
abbrev wb9:Stmt:=Aw 109
abbrev wba:Stmt:=Aw 110
abbrev wbb:Stmt:=Aw 111
abbrev wa4:Stmt:=Aw 112
abbrev wbc:Stmt:=Aw 113
abbrev wa1:Stmt:=Aw 114
def DL:Stmt->List Stmt | .ClassDef _ _ _ b _ _ _ _ _ _ _=>b | _=>[]
abbrev s_Watch___init__:Stmt:=(DL (Aw 81)).getD 0 (.Pass ⟨0,0,0,0⟩)
abbrev s_Watch_kept_firing:Stmt:=(DL (Aw 81)).getD 1 (.Pass ⟨0,0,0,0⟩)
abbrev s_Watch_stoke:Stmt:=(DL (Aw 81)).getD 2 (.Pass ⟨0,0,0,0⟩)
abbrev s_Watch_bank:Stmt:=(DL (Aw 81)).getD 3 (.Pass ⟨0,0,0,0⟩)
abbrev s_Watch_put_row:Stmt:=(DL (Aw 81)).getD 4 (.Pass ⟨0,0,0,0⟩)
abbrev s_Watch_take_over:Stmt:=(DL (Aw 81)).getD 5 (.Pass ⟨0,0,0,0⟩)
abbrev s_Watch_undo:Stmt:=(DL (Aw 81)).getD 6 (.Pass ⟨0,0,0,0⟩)
abbrev s_Desk___init__:Stmt:=(DL (Aw 100)).getD 0 (.Pass ⟨0,0,0,0⟩)
abbrev s_Desk_say:Stmt:=(DL (Aw 100)).getD 1 (.Pass ⟨0,0,0,0⟩)
structure Tx(mg:Str->yW):Prop where
 b_ValueError:mg "ValueError"=none
 b_all:mg "all"=none
 b_bool:mg "bool"=none
 b_divmod:mg "divmod"=none
 b_enumerate:mg "enumerate"=none
 b_int:mg "int"=none
 b_isinstance:mg "isinstance"=none
 b_len:mg "len"=none
 b_max:mg "max"=none
 b_min:mg "min"=none
 b_range:mg "range"=none
 b_reversed:mg "reversed"=none
 b_str:mg "str"=none
 b_sum:mg "sum"=none
 b_tuple:mg "tuple"=none
 b_zip:mg "zip"=none
 g_MOST_BOILERS:∃t,mg "MOST_BOILERS"=some (.int 4 t)
 g_MOST_ENGINES:∃t,mg "MOST_ENGINES"=some (.int 4 t)
 g_MOST_FAULTS:∃t,mg "MOST_FAULTS"=some (.int 4 t)
 g_MOST_HOURS:∃t,mg "MOST_HOURS"=some (.int 8 t)
 g_MOST_UNITS:∃t,mg "MOST_UNITS"=some (.int 9 t)
 g_MOST_EXTRA:∃t,mg "MOST_EXTRA"=some (.int 20 t)
 g_MOST_IN_MAIN:∃t,mg "MOST_IN_MAIN"=some (.int 40 t)
 g_DONE:∃t,mg "DONE"=some (.str "ok" t)
 g_NOTHING:∃t,mg "NOTHING"=some (.str "-" t)
 g_MOST_WRITTEN:∃t,mg "MOST_WRITTEN"=some (.int 99 t)
def Vx:yP->Bool | .int _=>true | _=>false
def AT(d:yP)(lo hi:Int):Bool:=match d with | .int i=>decide (lo<=i) && decide (i<=hi) | _=>false
def Bk(d:yP)(lo hi:Int):Bool:=match d with | .tuple ds=>decide (lo<=(ds.length:Int)) && decide ((ds.length:Int)<=hi) | _=>false
def IF:Sp:=λg H Q _=>zK (λv=>∃p d,Aa p H d v/\∀b,b=Vx d->Q (.bl b) H) g
inductive Lu_(H:Hp)(Q:VK)(v:V)(lo hi:Int):Prop
 |mk(p d:_)(_:Aa p H d v)(_:∀b,b=AT d lo hi->Q (.bl b) H)
def Lu:Sp:=λg H Q _=>zL (Lu_ H Q) g
inductive Lv_(H:Hp)(Q:VK)(v:V)(lo hi:Int):Prop
 |mk(p d:_)(_:Aa p H d v)(_:∀b,b=Bk d lo hi->Q (.bl b) H)
def Lv:Sp:=λg H Q _=>zL (Lv_ H Q) g
variable{P:yO}{w:yK}{K:Fgx}{mg:Str -> yW}{base:Heap}
def Vz(F:Df K mg "is_whole" wa5 ["thing"])(T:Tx mg):Fn P w K mg base 1 "is_whole" ["thing"] IF:=by
 k_dat ⟨["thing"],g,z⟩"g"
 refine⟨_,(An (Av (BG (AG Gx rfl T.b_isinstance aS (Ar (cy 0) (Fk (v:= .ty "int") rfl T.b_int L2.boot_int rfl))) (CB (Sm (AG Gx rfl T.b_isinstance aS (Ar (cy 0) (Fk (v:= .ty "bool") rfl T.b_bool L2.boot_bool rfl)))))))),?_⟩;k_dat 0"u"
 .rename_i v;obtain⟨p,d,r,q⟩:=h;refine⟨_,r.ty,.inl rfl,⟨λc=>⟨_,r.ty,.inr (.inl rfl),?_⟩,λc=>?_⟩⟩
  .exact q _ (by cases d<;>first | rfl | cases c)
  .exact q _ (by cases d<;>first | rfl | cases c)
abbrev DM(P:yO)(w:yK)(K:Fgx)(mg:Str->yW)(base:Heap):Prop:=Fn P w K mg base 2 "is_whole_from" ["thing","least","most"] Lu
def VB(F:Df K mg "is_whole_from" wa6 ["thing","least","most"])(T:Tx mg)(g:Fn P w K mg base 1 "is_whole" ["thing"] IF):DM P w K mg base:=by
 k_dat ⟨["thing","least","most"],D,G⟩"g"
 refine⟨_,(An (Av (BG (zA g G (Ah (cy 0))) (CB (Ny Ew Ew (cy 1) (cy 0) (cy 2)))))),?_⟩;k_dat 0"u"
 .rename_i v lo hi;obtain⟨p,d,r,q⟩:=h;refine⟨p,d,r,λb z=>⟨λc=>?_,λc=>?_⟩⟩
  .subst c;cases d<;>first | cases z | skip
   rename_i i;unfold Aa at r;subst r;refine⟨λc=>?_,λc=>?_⟩
   .exact q _ (by unfold AT;dsimp only;rw[c];rfl)
   .exact q _ (by unfold AT;dsimp only;rw[c];rfl)
  .subst c;exact q _ (by cases d<;>first | rfl | cases z)
abbrev Dp(P:yO)(w:yK)(K:Fgx)(mg:Str->yW)(base:Heap):Prop:=Fn P w K mg base 1 "is_tuple_of" ["thing","fewest","most"] Lv
def VD(F:Df K mg "is_tuple_of" wa7 ["thing","fewest","most"])(T:Tx mg):Dp P w K mg base:=by
 k_dat ⟨["thing","fewest","most"],g,I⟩"g"
 refine⟨_,(An (Av (BG (AG Gx rfl T.b_isinstance aS (Ar (cy 0) (Fk (v:= .ty "tuple") rfl T.b_tuple BH rfl))) (CB (Ny Ew Ew (cy 1) (zG (cy 0)) (cy 2)))))),?_⟩;k_dat 0"u"
 .rename_i v lo hi;obtain⟨p,d,r,q⟩:=h;refine⟨_,r.ty,.inr (.inr (.inl rfl)),⟨λc=>?_,λc=>?_⟩⟩
  .cases d<;>first | cases c | skip
   rename_i ds;unfold Aa at r;obtain⟨a,D,rfl,G,z⟩:=r;refine⟨a,D,rfl,.inr (Ae.of G),?_⟩;rw[<-z.len];refine⟨λc=>?_,λc=>?_⟩
   .exact q _ (by unfold Bk;dsimp only;rw[c];rfl)
   .exact q _ (by unfold Bk;dsimp only;rw[c];rfl)
  .exact q _ (by cases d<;>first | rfl | cases c)
end
section
variable{p:yQ}{H:Hp}{xs:List V}
def OM{g z:Type}{ds:List g}{i:Nat}{d:g}(f:g->z)(h:ds[i]? =some d):(ds.take (i+1)).map f=(ds.take i).map f++[f d]:=by
 rw[List.take_add_one,h,YW];rfl
def E6(d:yP):Bool:=match d with | .tuple [a,b]=>AT a 1 9 && AT b 1 9 | _=>false
def EH(d:yP):Bool:=match d with | .tuple [a,b,c]=>AT a 1 9 && AT b 0 7 && AT c 1 8 | _=>false
def E7(d:yP):Bool:=match d with
 |.tuple [a,b,c]=>AT b 0 40 && match b with | .int hi=>AT c 0 hi &&(match c with | .int st=>AT a 0 st | _=>false) | _=>false
 |_=>false
def FS(d:yP):Bool:=match d with | .tuple ds=>Bk d 1 4 && ds.all E6 | _=>false
def FU(d:yP):Bool:=match d with | .tuple ds=>Bk d 0 4 && ds.all EH | _=>false
def FV(d:yP):Bool:=match d with | .tuple [a,b,c]=>FS a && FU b && E7 c | _=>false
inductive CM_(f:yP->Bool)(H:Hp)(Q:VK)(v:V):Prop
 |mk(p d:_)(_:Aa p H d v)(_:∀b g,b=f d->Ab H g->Q (.bl b) g)
def CM(f:yP->Bool):Sp:=λz H Q _=>zK (CM_ f H Q) z
abbrev IG:Sp:=CM E6
abbrev IH:Sp:=CM EH
abbrev II:Sp:=CM E7
abbrev IJ:Sp:=CM FS
abbrev IK:Sp:=CM FU
abbrev IL:Sp:=CM FV
def two{ds:List yP}(h:Bk (.tuple ds) 2 2=true):∃a b,ds=[a,b]:=by
 unfold Bk at h;simp only[Zh,bu]at h
 match ds,h with
 |[a,b],_=>exact⟨a,b,rfl⟩
 |[],h=>simp at h
 |[_],h=>simp at h
 |_::_::_::_,h=>simp at h;lia
def three{ds:List yP}(h:Bk (.tuple ds) 3 3=true):∃a b c,ds=[a,b,c]:=by
 unfold Bk at h;simp only[Zh,bu]at h
 match ds,h with
 |[a,b,c],_=>exact⟨a,b,c,rfl⟩
 |[],h=>simp at h
 |[_],h=>simp at h
 |[_,_],h=>simp at h
 |_::_::_::_::_,h=>simp at h;lia
def FX{d:yP}{lo hi:Int}(h:Bk d lo hi=true):∃ds,d= .tuple ds:=by
 cases d<;>first | exact⟨_,rfl⟩ | cases h
def Aa.shape{ds:List yP}{v:V}(r:Aa p H (.tuple ds) v):∃a xs,v= .ref a/\H a=some (.tup xs)/\Ad p H ds xs:=by unfold Aa at r;exact r
def Ad.two{a b:yP}(r:Ad p H [a,b] xs):∃x y,xs=[x,y]/\Aa p H a x/\Aa p H b y:=by
 unfold Ad at r;obtain⟨x,s,rfl,g,r⟩:=r;unfold Ad at r;obtain⟨y,s,rfl,z,r⟩:=r;unfold Ad at r;subst r;exact⟨x,y,rfl,g,z⟩
def Ad.three{a b c:yP}(r:Ad p H [a,b,c] xs):∃x y z,xs=[x,y,z]/\Aa p H a x/\Aa p H b y/\Aa p H c z:=by
 unfold Ad at r;obtain⟨x,s,rfl,g,r⟩:=r;obtain⟨y,z,rfl,D,G⟩:=Ad.two r;exact⟨x,y,z,rfl,g,D,G⟩
variable{P:yO}{w:yK}{K:Fgx}{mg:Str -> yW}{base:Heap}
def VL(F:Df K mg "is_make_and_coal" wab ["thing"])(T:Tx mg)(G:Dp P w K mg base)(z:DM P w K mg base):Fn P w K mg base 3 "is_make_and_coal" ["thing"] IG:=by
 obtain⟨g,g_MOST_UNITS⟩:=T.g_MOST_UNITS;k_dat ⟨["thing","make","coal"],L,D⟩"g"
 refine⟨_,(Ai (A1 (BR (BM (zA G D (AH (cy 0) Ak Ak)))) (An (Av Cp)) AZ) (Ai (Bb (cy 0) (zF 1 2)) (An (Av (BG (zA z D (AH (cy 1) Ak (BA (v:= .int 9) rfl g_MOST_UNITS ⟨g,rfl⟩))) (CB (zA z D (AH (cy 2) Ak (BA (v:= .int 9) rfl g_MOST_UNITS ⟨g,rfl⟩))))))))),?_⟩;k_dat 0"u"
 .rename_i v;obtain⟨p,d,r,q⟩:=h;refine⟨p,d,r,λb I=>⟨λc=>?_,λc=>?_⟩⟩
  .refine q false H ?_ (Ab.refl _);have e:Bk d 2 2=false:=by rw [<-I];simpa using c
   cases d<;>first | rfl | skip
   rename_i ds
   match ds,e with
   |[a,b],e=>cases e
   |[],_=>rfl
   |[_],_=>rfl
   |_::_::_::_,_=>rfl
  .have e:Bk d 2 2=true:=by rw [<-I];simpa using c
   obtain⟨ds,rfl⟩:=FX e;obtain⟨a,b,rfl⟩:=two e;obtain⟨l,xs,rfl,hl,Z⟩:=Aa.shape r;obtain⟨x,y,rfl,O,ry⟩:=Ad.two Z;refine⟨l,[x,y],rfl,Ae.of hl,rfl,x,[y],rfl,y,[],rfl,rfl,p,a,O,λb1 J=>⟨λc=>⟨p,b,ry,λb2 e2=>?_⟩,λc=>?_⟩⟩
   .exact q _ _ (by unfold E6;dsimp only;rw[e2,<-J,c];rfl) (Ab.refl _)
   .exact q _ _ (by unfold E6;dsimp only;rw[<-J,c];rfl) (Ab.refl _)
def VM(F:Df K mg "is_engine" wad ["thing"])(T:Tx mg)(L:Dp P w K mg base)(G:DM P w K mg base):Fn P w K mg base 3 "is_engine" ["thing"] IH:=by
 obtain⟨g,g_MOST_HOURS⟩:=T.g_MOST_HOURS;obtain⟨D,g_MOST_UNITS⟩:=T.g_MOST_UNITS;k_dat ⟨["thing","draw","first","every"],vs,I⟩"g"
 refine⟨_,(Ai (A1 (BR (BM (zA L I (AH (cy 0) Ak Ak)))) (An (Av Cp)) AZ) (Ai (Bb (cy 0) (zF 1 2 3)) (An (Av (BG (zA G I (AH (cy 1) Ak (BA (v:= .int 9) rfl g_MOST_UNITS ⟨D,rfl⟩))) (BG (zA G I (AH (cy 2) Ak (Ay BL (BA (v:= .int 8) rfl g_MOST_HOURS ⟨g,rfl⟩) Ak))) (CB (zA G I (AH (cy 3) Ak (BA (v:= .int 8) rfl g_MOST_HOURS ⟨g,rfl⟩)))))))))),?_⟩;k_dat 0"u"
 .rename_i v;obtain⟨p,d,r,q⟩:=h;refine⟨p,d,r,λb Z=>⟨λc=>?_,λc=>?_⟩⟩
  .refine q false H ?_ (Ab.refl _);have e:Bk d 3 3=false:=by rw [<-Z];simpa using c
   cases d<;>first | rfl | skip
   rename_i ds
   match ds,e with
   |[a,b,c],e=>cases e
   |[],_=>rfl
   |[_],_=>rfl
   |[_,_],_=>rfl
   |_::_::_::_::_,_=>rfl
  .have e:Bk d 3 3=true:=by rw [<-Z];simpa using c
   obtain⟨ds,rfl⟩:=FX e;obtain⟨a,b,c',rfl⟩:=three e;obtain⟨l,xs,rfl,hl,rs⟩:=Aa.shape r;obtain⟨x,y,z,rfl,rx,ry,rz⟩:=Ad.three rs;refine⟨l,[x,y,z],rfl,Ae.of hl,rfl,x,[y,z],rfl,y,[z],rfl,z,[],rfl,rfl,p,a,rx,λb1 O=>⟨λc=>⟨p,b,ry,λb2 e2=>⟨λJ=>⟨p,c',rz,λb3 e3=>?_⟩,λJ=>?_⟩⟩,λc=>?_⟩⟩
   .exact q _ _ (by unfold EH;dsimp only;rw[e3,<-O,c];rw[show AT b 0 7=true from by rw[<-J,e2];rfl];rfl) (Ab.refl _)
   .exact q _ _ (by unfold EH;dsimp only;rw[<-O,c];rw[show AT b 0 7=false from by rw[<-J,e2];rfl];rfl) (Ab.refl _)
   .exact q _ _ (by unfold EH;dsimp only;rw[<-O,c];rfl) (Ab.refl _)
def VN(F:Df K mg "is_main" wae ["thing"])(T:Tx mg)(O:Dp P w K mg base)(D:DM P w K mg base):Fn P w K mg base 3 "is_main" ["thing"] II:=by
 obtain⟨g,g_MOST_IN_MAIN⟩:=T.g_MOST_IN_MAIN;k_dat ⟨["thing","low","high","start"],vs,I⟩"g"
 refine⟨_,(Ai (A1 (BR (BM (zA O I (AH (cy 0) Ak Ak)))) (An (Av Cp)) AZ) (Ai (Bb (cy 0) (zF 1 2 3)) (An (Av (BG (zA D I (AH (cy 2) Ak (BA (v:= .int 40) rfl g_MOST_IN_MAIN ⟨g,rfl⟩))) (BG (zA D I (AH (cy 3) Ak (cy 2))) (CB (zA D I (AH (cy 1) Ak (cy 3)))))))))),?_⟩;k_dat 0"u"
 .rename_i v;obtain⟨p,d,r,q⟩:=h;refine⟨p,d,r,λb hb=>⟨λc=>?_,λc=>?_⟩⟩
  .refine q false H ?_ (Ab.refl _);have e:Bk d 3 3=false:=by rw [<-hb];simpa using c
   cases d<;>first | rfl | skip
   rename_i ds
   match ds,e with
   |[a,b,c],e=>cases e
   |[],_=>rfl
   |[_],_=>rfl
   |[_,_],_=>rfl
   |_::_::_::_::_,_=>rfl
  .have e:Bk d 3 3=true:=by rw [<-hb];simpa using c
   obtain⟨ds,rfl⟩:=FX e;obtain⟨a,b,c',rfl⟩:=three e;obtain⟨l,xs,rfl,hl,rs⟩:=Aa.shape r;obtain⟨x,y,z,rfl,rx,Z,rz⟩:=Ad.three rs;refine⟨l,[x,y,z],rfl,Ae.of hl,rfl,x,[y,z],rfl,y,[z],rfl,z,[],rfl,rfl,p,b,Z,λb1 G=>⟨λc1=>?_,λc1=>?_⟩⟩
   .rw [c1] at G;cases b<;>first | cases G | skip
    rename_i hi;unfold Aa at Z;subst Z;refine⟨p,c',rz,λb2 J=>⟨λL=>?_,λL=>?_⟩⟩
    .rw [L] at J;cases c'<;>first | cases J | skip
     rename_i st;unfold Aa at rz;subst rz;refine⟨p,a,rx,λb3 e3=>?_⟩;exact q _ _ (by unfold E7;dsimp only;rw[e3];rw[<-G,<-J];rfl) (Ab.refl _)
    .exact q _ _ (by unfold E7;dsimp only;rw[<-G,<-J,L];rfl) (Ab.refl _)
   .exact q _ _ (by unfold E7;dsimp only;rw[<-G,c1];rfl) (Ab.refl _)
def VP(F:Df K mg "are_boilers" waa ["thing"])(T:Tx mg)(L:Fn P w K mg base 3 "is_make_and_coal" ["thing"] IG)(J:Dp P w K mg base):Fn P w K mg base 4 "are_boilers" ["thing"] IJ:=by
 obtain⟨g,g_MOST_BOILERS⟩:=T.g_MOST_BOILERS;k_dat ⟨["thing"],vs,Z⟩"g"
 refine⟨_,(An (Av (BG (zA J Z (AH (cy 0) Ak (BA (v:= .int 4) rfl g_MOST_BOILERS ⟨g,rfl⟩))) (CB (AG (Ex rfl) rfl T.b_all ci (Ah (AW ["part"] [none] rfl (Bu K (cy 0)) (AB.of rfl) (λ_ _ _ _=>(zC 0)) (λ_ _ _ _=>AR) (λ_ _ _ _=>(zA L Z (Ah (cy 0))))))))))),?_⟩;k_dat 0"u"
 .rename_i v;obtain⟨p,d,r,q⟩:=h;refine⟨p,d,r,λb D=>⟨λc=>?_,λc=>?_⟩⟩
  .rw[c]at D;obtain⟨ds,rfl⟩:=FX D.symm;obtain⟨l,xs,rfl,hl,O⟩:=Aa.shape r;have I:=O.len;have i0:ds.length<=4:=by
    have:=D.symm;unfold Bk at this;simp only[Zh,bu]at this;lia
   refine⟨l,rfl,⟨xs,Ae.of hl⟩,BC (xs:=xs) (λi G z=>Ab H z/\G=(ds.take i).map λd=>V.bl (E6 d)) (by lia) ⟨Ab.refl _,rfl⟩ (λi G z h=>by rw[h.2,Y0,Za];lia) (λi G z _ h=>Ae.of (h.1 _ _ hl)) (λi x G z hx h=>?_) λG z h=>?_⟩
   .obtain⟨d,hd,rd⟩:=O.got hx;refine⟨trivial,λ_=>⟨p,d,Aa.ev (Ev.same h.1) d x rd,λb H2 e s2=>⟨h.1.trans s2,?_⟩⟩,λc=>by cases c⟩;rw[h.2,e,OM _ hd]
   .intro m hm;refine⟨m,ds.map E6,rfl,?_,?_⟩
    .rw[Ag,h.2,<-I,dq,bo];rfl
    .refine q _ _ ?_ (h.1.trans (Ab.new hm));unfold FS;dsimp only;rw[<-D,fk,aE];rfl
  .refine q _ _ ?_ (Ab.refl _);have e:Bk d 1 4=false:=by rw [<-D,c]
   unfold FS;cases d<;>first | rfl | skip
   dsimp only;rw[e];rfl
def VR(F:Df K mg "are_engines" wac ["thing"])(T:Tx mg)(J:Fn P w K mg base 3 "is_engine" ["thing"] IH)(L:Dp P w K mg base):Fn P w K mg base 4 "are_engines" ["thing"] IK:=by
 obtain⟨g,g_MOST_ENGINES⟩:=T.g_MOST_ENGINES;k_dat ⟨["thing"],vs,Z⟩"g"
 refine⟨_,(An (Av (BG (zA L Z (AH (cy 0) Ak (BA (v:= .int 4) rfl g_MOST_ENGINES ⟨g,rfl⟩))) (CB (AG (Ex rfl) rfl T.b_all ci (Ah (AW ["part"] [none] rfl (Bu K (cy 0)) (AB.of rfl) (λ_ _ _ _=>(zC 0)) (λ_ _ _ _=>AR) (λ_ _ _ _=>(zA J Z (Ah (cy 0))))))))))),?_⟩;k_dat 0"u"
 .rename_i v;obtain⟨p,d,r,q⟩:=h;refine⟨p,d,r,λb D=>⟨λc=>?_,λc=>?_⟩⟩
  .rw[c]at D;obtain⟨ds,rfl⟩:=FX D.symm;obtain⟨l,xs,rfl,hl,O⟩:=Aa.shape r;have I:=O.len;have i0:ds.length<=4:=by
    have:=D.symm;unfold Bk at this;simp only[Zh,bu]at this;lia
   refine⟨l,rfl,⟨xs,Ae.of hl⟩,BC (xs:=xs) (λi G z=>Ab H z/\G=(ds.take i).map λd=>V.bl (EH d)) (by lia) ⟨Ab.refl _,rfl⟩ (λi G z h=>by rw[h.2,Y0,Za];lia) (λi G z _ h=>Ae.of (h.1 _ _ hl)) (λi x G z hx h=>?_) λG z h=>?_⟩
   .obtain⟨d,hd,rd⟩:=O.got hx;refine⟨trivial,λ_=>⟨p,d,Aa.ev (Ev.same h.1) d x rd,λb H2 e s2=>⟨h.1.trans s2,?_⟩⟩,λc=>by cases c⟩;rw[h.2,e,OM _ hd]
   .intro m hm;refine⟨m,ds.map EH,rfl,?_,?_⟩
    .rw[Ag,h.2,<-I,dq,bo];rfl
    .refine q _ _ ?_ (h.1.trans (Ab.new hm));unfold FU;dsimp only;rw[<-D,fk,aE];rfl
  .refine q _ _ ?_ (Ab.refl _);have e:Bk d 0 4=false:=by rw [<-D,c]
   unfold FU;cases d<;>first | rfl | skip
   dsimp only;rw[e];rfl
def VS(F:Df K mg "is_plant" wa9 ["thing"])(T:Tx mg)(i0:Fn P w K mg base 4 "are_boilers" ["thing"] IJ)(Z:Fn P w K mg base 4 "are_engines" ["thing"] IK)(J:Fn P w K mg base 3 "is_main" ["thing"] II)(I:Dp P w K mg base):Fn P w K mg base 5 "is_plant" ["thing"] IL:=by
 k_dat ⟨["thing","boilers","engines","main"],vs,D⟩"g"
 refine⟨_,(Ai (A1 (BR (BM (zA I D (AH (cy 0) Ak Ak)))) (An (Av Cp)) AZ) (Ai (Bb (cy 0) (zF 1 2 3)) (An (Av (BG (zA i0 D (Ah (cy 1))) (BG (zA Z D (Ah (cy 2))) (CB (zA J D (Ah (cy 3)))))))))),?_⟩;k_dat 0"u"
 .rename_i v;obtain⟨p,d,r,q⟩:=h;refine⟨p,d,r,λb hb=>⟨λc=>?_,λc=>?_⟩⟩
  .refine q false H ?_ (Ab.refl _);have e:Bk d 3 3=false:=by rw [<-hb];simpa using c
   cases d<;>first | rfl | skip
   rename_i ds
   match ds,e with
   |[a,b,c],e=>cases e
   |[],_=>rfl
   |[_],_=>rfl
   |[_,_],_=>rfl
   |_::_::_::_::_,_=>rfl
  .have e:Bk d 3 3=true:=by rw [<-hb];simpa using c
   obtain⟨ds,rfl⟩:=FX e;obtain⟨a,b,c',rfl⟩:=three e;obtain⟨l,xs,rfl,hl,rs⟩:=Aa.shape r;obtain⟨x,y,z,rfl,rx,ry,rz⟩:=Ad.three rs;refine⟨l,[x,y,z],rfl,Ae.of hl,rfl,x,[y,z],rfl,y,[z],rfl,z,[],rfl,rfl,p,a,rx,λb1 H1 O g=>⟨λc=>⟨p,b,Aa.ev (Ev.same g) _ _ ry,λb2 H2 e2 L=>⟨λG=>⟨p,c',Aa.ev (Ev.same (g.trans L)) _ _ rz,λb3 H3 e3 s3=>?_⟩,λG=>?_⟩⟩,λc=>?_⟩⟩
   .exact q _ _ (by unfold FV;dsimp only;rw[e3,<-O,<-e2,c,G];rfl) (g.trans (L.trans s3))
   .exact q _ _ (by unfold FV;dsimp only;rw[<-O,<-e2,c,G];rfl) (g.trans L)
   .exact q _ _ (by unfold FV;dsimp only;rw[<-O,c];rfl) g
end
variable{P:yO}{w:yK}{K:Fgx}{mg:Str->yW}{base:Heap}
section
def A3(p:yQ)(H:Hp):Prop:=∃l f:Int,H p=some (.lst [.int l,.int f])
def A3.new{p a:yQ}{H:Hp}{o:HO}(h:A3 p H)(n:H a=none):A3 p (upd H a o):=by
 obtain⟨l,f,e⟩:=h;exact⟨l,f,by rw[Aq (Bo e n)];exact e⟩
def A3.ne{p a:yQ}{H:Hp}(h:A3 p H)(n:H a=none):a≠p:=by obtain⟨l,f,e⟩:=h;exact Zd (Bo e n)
def A3.same{p:yQ}{H H':Hp}(h:A3 p H)(s:Ab H H'):A3 p H':=by obtain⟨l,f,e⟩:=h;exact⟨l,f,s _ _ e⟩
def IM(K:Fgx):Sp:=λg H Q _=>zM (λa k=>∃ns:yV,Al K H a (ns.map V.int)/\0<=k/\∀i,Q (.int i) H) g
def IN:Sp:=λg H Q _=>match g with | [.int c]=>∀p l f,H p=none->Q (.ref p) (upd H p (.lst [.int l,.int f])) | _=>False
inductive Lw_(H:Hp)(Q:VK)(p:yQ)(m:Int):Prop
 |mk(_:A3 p H)(_:0<m)(_:m<1000)(_:∀g z,0<=g->g<m->Ev p H z->A3 p z->Q (.int g) z)
def Lw:Sp:=λD H Q _=>zM (Lw_ H Q) D
def E8{ns:yV}{g:Int}(h0:0<=g)(D:g<ns.length):∃v∈ns,B5 (ns.map V.int) g=some (.int v):=by
 have z:g.toNat<ns.length:=by lia
 have e:g=((g.toNat:Nat):Int):=by lia
 refine⟨ns[g.toNat],bJ z,?_⟩;have q:B5 (ns.map V.int) ((g.toNat:Nat):Int)=some (.int ns[g.toNat]):=Cr (by simp[z]);rw[<-e]at q;exact q
def VU(F:Df K mg "_law_cell" wb2 ["_law_script","_law_k"])(T:Tx mg):Fn P w K mg base 1 "_law_cell" ["_law_script","_law_k"] (IM K):=by
 k_dat ⟨["_law_script","_law_k"],z,G⟩"g"
 refine⟨_,(Ai (A1 (AU Eu (cy 1) (zG (cy 0)) (AV _)) (An (Av (AI (Bj K) (cy 0) (cy 1) (λ_ _=>rfl)))) AZ) (An (Av Ak))),?_⟩;k_dat 0"u"
 .rename_i a k;obtain⟨ns,g,h0,q⟩:=h;refine⟨a,_,rfl,.inl g,⟨λc=>?_,λc=>q 0⟩⟩;have D:k<(ns.length:Int):=by have:=Z7 c;simpa using this
  obtain⟨v,_,e⟩:=E8 h0 D;exact⟨a,_,k,.int v,rfl,rfl,g,e,q v⟩
def VV(F:Df K mg "_law_pen" wb3 ["_law_cell_here"])(T:Tx mg):Fn P w K mg base 1 "_law_pen" ["_law_cell_here"] IN:=by
 k_dat ⟨["_law_cell_here","_law_left"],z,D⟩"g"
 refine⟨_,(Ai (zD 1 (AG (MM rfl) rfl T.b_max boot_max (Ar (cy 0) (Ay BL Ak (cy 0))))) (An (Av (Cs (Ar (cy 1) (A6 MN rfl T.b_int L2.boot_int (Ah (Fq Nw (cy 1) (Ay Sg Ak Ak) (AV _))))))))),?_⟩;unfold IN at h;split at h
 .rename_i c;refine⟨c,0-c,rfl,?_⟩;exact⟨⟨by decide,by decide,by decide⟩,.inr ⟨_,rfl,λp g=>h p _ _ g⟩⟩
 .exact h.elim
abbrev FY(P:yO)(w:yK)(K:Fgx)(mg:Str->yW)(base:Heap):Prop:=Fn P w K mg base 1 "_law_draw" ["_law_pen_here","_law_many"] Lw
def VW(F:Df K mg "_law_draw" wb4 ["_law_pen_here","_law_many"])(T:Tx mg):FY P w K mg base:=by
 k_dat ⟨["_law_pen_here","_law_many","_law_left","_law_got","_law_stir"],J,hr⟩"g"
 refine⟨_,(Ai (A1 (AU Dz (AI (Bj K) (cy 0) Ak (λ_ _=>rfl)) Ak (AV _)) (Ai (Bb (AG QO rfl T.b_divmod boot_divmod (Ar (AI (Bj K) (cy 0) Ak (λ_ _=>rfl)) (cy 1))) (zF 2 3)) (Ai (Bb (cy 2) (Mu (cy 0) Ak HP)) (An (Av (cy 3))))) AZ) (Ai (zD 4 (Ay Fv (Ay Et (Ay Bg (Ay Fv (AI (Bj K) (cy 0) Ak (λ_ _=>rfl)) Ak) Ak) Ak) Ak)) (Ai (zD 4 (Ay Fv (Ay Bg (Ay Et (cy 4) (cy 4)) Ak) Ak)) (Ai (Bb (Ay Fv (Ay Bg (Ay Et (cy 4) Ak) Ak) Ak) (Mu (cy 0) Ak HP)) (An (Av (Ay Fv (Ay KR (AI (Bj K) (cy 0) Ak (λ_ _=>rfl)) Ak) (cy 1)))))))),?_⟩;k_dat 0"u"
 .rename_i p m;obtain⟨⟨l,f,g⟩,h0,h1,q⟩:=h;refine⟨p,[.int l,.int f],1,.int f,rfl,rfl,Al.of g,rfl,rfl,⟨λc=>?_,λc=>?_⟩⟩
  .refine⟨p,[.int l,.int f],0,.int l,rfl,rfl,Al.of g,rfl,l,m,rfl,⟨h0,by lia⟩,λt G=>?_⟩;have D:p≠t:=Bo g G;have z:upd H t (.tup [.int (l / m),.int (l % m)]) p=some (.lst [.int l,.int f]):=by rw [Aq D];exact g
   refine⟨t,[.int (l / m),.int (l % m)],rfl,Ae.of Ag,rfl,_,_,rfl,_,_,rfl,rfl,?_⟩;refine⟨p,[.int l,.int f],0,0,rfl,rfl,z,rfl,?_⟩;exact q _ _ (eO _ (by lia)) (dB _ h0) ((Ev.new G).trans (Ev.pen z)) ⟨l / m,f,Ag⟩
  .have b1:∀x:Int,-(2 ^ 64)<x % 2147483629:=λx=>Int.lt_of_lt_of_le (by decide) (eO x (by decide))
   have b2:∀x:Int,x % 2147483629<2 ^ 64:=λx=>Int.lt_trans (dB x (by decide)) (by decide)
   have Z:(0:Int)<2147483647:=by decide
   have I:(0:Int)<2147483629:=by decide
   have L:(0:Int)<2147483587:=by decide
   have c1: -(2 ^ 64)<(69621:Int)/\(69621:Int)<2 ^ 64:=by decide
   have O: -(2 ^ 64)<(48271:Int)/\(48271:Int)<2 ^ 64:=by decide
   refine⟨p,[.int l,.int f],0,.int l,rfl,rfl,Al.of g,rfl,Z,.inr c1,I,.inl ⟨b1 _,b2 _⟩,L,.inr O,I,p,[.int l,.int f],0,0,rfl,rfl,g,rfl,?_⟩;refine⟨p,_,0,_,rfl,rfl,Al.of Ag,rfl,⟨by decide,by decide⟩,h0,?_⟩;exact q _ _ (eO _ (by lia)) (dB _ h0) (Ev.pen g) ⟨_,f,Ag⟩
end
section
variable{H H2 H' H3:Hp}{ys zs:List V}{p p' t:yQ}{Good:yP -> Prop}{i:Nat}
mutual
def Ck:yP->Bool
 |.list _=>false | .dict _=>false | .tuple ds=>E9 ds | _=>true
def E9:List yP->Bool
 |[]=>true
 |d::ds=>Ck d && E9 ds
end
def TEv(H H':Hp):Prop:=∀a g,H a=some (.tup g)->H' a=some (.tup g)
def TEv.trans{g:Hp}(a:TEv H g)(b:TEv g H2):TEv H H2:=λc o h=>b c o (a c o h)
def _root_.L2.Ev.tev{p:yQ}{H H':Hp}(h:Ev p H H'):TEv H H':=λa g q=>h.tup q
theorem TEv.upd{a:yQ}(h:H a=some (.lst ys)):TEv H (upd H a (.lst zs)):=λb g q=>by
 rw[Aq (P8 q h (by intro z;cases z))];exact q
mutual
theorem Aa.tev(h:TEv H H'):∀(d:yP) (v:V),Ck d=true->Aa p H d v->Aa p' H' d v
 |.none,v,_,q=>q
 |.bool _,v,_,q=>q
 |.int _,v,_,q=>q
 |.str _,v,_,q=>q
 |.tuple ds,v,n,q=>by
  unfold Aa at q ⊢;obtain⟨a,g,e,r,z⟩:=q;exact⟨a,g,e,h _ _ r,Ad.tev h ds g (by unfold Ck at n;exact n) z⟩
 |.list ds,v,n,q=>by unfold Ck at n;cases n
 |.dict kvs,v,n,q=>by unfold Ck at n;cases n
theorem Ad.tev(h:TEv H H'):∀(ds:List yP) (xs:List V),E9 ds=true->Ad p H ds xs->Ad p' H' ds xs
 |[],xs,_,q=>by unfold Ad at q ⊢;exact q
 |d::ds,xs,n,q=>by
  unfold Ad at q ⊢;unfold E9 at n;obtain⟨g,G⟩:=Z6.mp n;obtain⟨x,r,e,z,D⟩:=q;exact⟨x,r,e,Aa.tev h d x g z,Ad.tev h ds r G D⟩
end
def CN{ds:List yP}(h:∀d∈ds,Ck d=true):E9 ds=true:=by
 induction ds with
 |nil=>rfl
 |cons d ds ih=>unfold E9;rw[h d Z9,ih λx g=>h x (Z3 _ g)];rfl
def _root_.L2.Ev.own{p b:yQ}{H H':Hp}{o:HO}(h:Ev p H H')(n:H b=none):Ev p H (upd H' b o):=λx u q=>(h x u q).elim .inl λr=> .inr (by rw[Aq (Bo q n)];exact r)
def GoodB(d:yP):Prop:=∃m c:Int,d= .tuple [.int m,.int c]/\1<=m/\m<=9/\1<=c/\c<=9
def GoodE(d:yP):Prop:=∃a f e:Int,d= .tuple [.int a,.int f,.int e]/\1<=a/\a<=9/\0<=f/\f<=7/\1<=e/\e<=8
def GoodB.nm{d:yP}(h:GoodB d):Ck d=true:=by obtain⟨m,c,rfl,_⟩:=h;rfl
def GoodE.nm{d:yP}(h:GoodE d):Ck d=true:=by obtain⟨m,c,e,rfl,_⟩:=h;rfl
structure GoodP(bs es:List yP)(lo hi st:Int):Prop where
 b:∀d∈bs,GoodB d
 b1:1<=bs.length
 b4:bs.length<=4
 e:∀d∈es,GoodE d
 e4:es.length<=4
 lo0:0<=lo
 ls:lo<=st
 sh:st<=hi
 h4:hi<=40
def ON(bs es:List yP)(lo hi st:Int):yP:= .tuple [.tuple bs,.tuple es,.tuple [.int lo,.int hi,.int st]]
def IO:Sp:=λz H Q _=>zJ (λp=>A3 p H/\∀v g bs es lo hi st,GoodP bs es lo hi st->Aa p g (ON bs es lo hi st) v->Ev p H g->A3 p g->Q v g) z
structure Filled(Good:yP->Prop)(p b:yQ)(H H2:Hp)(i:Nat):Prop where
 ev:Ev p H H2
 pen:A3 p H2
 ex:∃xs ds,H2 b=some (.lst xs)/\Ad p H2 ds xs/\(∀d∈ds,Good d)/\ds.length=i
def Filled.step{b:yQ}{d:yP}{xs:List V}{ds:List yP}(nm:∀d,Good d->Ck d=true)(L:H2 b=some (.lst xs))(rs:Ad p H2 ds xs)(gd:∀d∈ds,Good d)(hl:ds.length=i)(Z:Ev p H2 H3)(O:b≠p)(hb:H b=none)(ev:Ev p H H3)(pn:A3 p H3)
  (G:H3 t=none) (rd:Aa p (upd H3 t (.tup ys)) d (.ref t)) (g:Good d):Filled Good p b H (upd (upd H3 t (.tup ys)) b (.lst (xs++[.ref t]))) (i+1):=by
 have z:H3 b=some (.lst xs):=Z.lst L O;have I:b≠t:=Bo z G;have D:upd H3 t (.tup ys) b=some (.lst xs):=by rw[Aq I];exact z
 have tv:TEv (upd H3 t (.tup ys)) (upd (upd H3 t (.tup ys)) b (.lst (xs++[.ref t]))):=TEv.upd D;have J:A3 p (upd H3 t (.tup ys)):=pn.new G;refine⟨(ev.trans (Ev.new G)).own hb,?_,xs++[.ref t],ds++[d],Ag,?_,?_,by simp[hl]⟩
 .obtain⟨l,f,e⟩:=J;exact⟨l,f,by rw[Aq (Zd O)];exact e⟩
 .exact(Ad.tev ((Z.trans (Ev.new G)).tev.trans tv) ds xs (CN λd h=>nm d (gd d h)) rs).append (.cons (Aa.tev tv d _ (nm d g) rd) .nil)
 .intro x L;rcases ZQ.mp L with h | h
  .exact gd x h
  .rw[Z2.mp h];exact g
def Filled.done{b:yQ}(f:Filled Good p b H H2 i)(I:b≠p)(g:Ev p H2 H3):∃xs ds,H3 b=some (.lst xs)/\Ad p H3 ds xs/\(∀d∈ds,Good d)/\ds.length=i:=by
 obtain⟨xs,ds,z,G,D,h4⟩:=f.ex;exact⟨xs,ds,g.lst z I,Ad.ev g ds xs G,D,h4⟩
def Filled.other{b e:yQ}{H4 D:Hp}{ws:List V}(nm:∀d,Good d->Ck d=true)(f:Filled Good p b H H4 i)(G:Ev p H4 D)(I:D t=none)(he:D e=some (.lst ys))(Z:H e=none)(nb:b≠p)(J:b≠e)(ne:e≠p)(pn:A3 p D):
  Filled Good p b H (upd (upd D t (.tup zs)) e (.lst ws)) i:=by
 obtain⟨O,ds,h1,h2,h3,h4⟩:=f.ex;have h7:D b=some (.lst O):=G.lst h1 nb;have L:upd D t (.tup zs) e=some (.lst ys):=by rw[Aq (Bo he I)];exact he
 refine⟨((f.ev.trans G).trans (Ev.new I)).own Z,?_,O,ds,?_,?_,h3,h4⟩
 .obtain⟨l,g,z⟩:=pn.new (o:= .tup zs) I;exact⟨l,g,by rw[Aq (Zd ne)];exact z⟩
 .rw[Aq J,Aq (Bo h7 I)];exact h7
 .exact Ad.tev ((G.trans (Ev.new I)).tev.trans (TEv.upd L)) ds O (CN λd h=>nm d (h3 d h)) h2
def Fb{n:Nat}(h:n<=1000):n<sizeLine:=bO h (by decide)
def VX(F:Df K mg "_law_plant" wb5 ["_law_pen_here"])(T:Tx mg)(D:FY P w K mg base):Fn P w K mg base 2 "_law_plant" ["_law_pen_here"] IO:=by
 k_dat ⟨["_law_pen_here","_law_boilers","_law_turn","_law_make","_law_engines","_law_low","_law_high"],vs,J⟩"g"
 refine⟨_,(Ai (zD 1 (Cs CS)) (Ai (B4 Zr rfl (CD rfl T.b_range (Ah (Ay Bg Ak (zA D J (Ar (cy 0) Ak))))) (zC 2) (Ai (zD 3 (AI (Bj K) (Cs (AH Ak Ak (Ay Bg Ak (zA D J (Ar (cy 0) Ak))))) (zA D J (Ar (cy 0) Ak)) (λ_ _=>rfl))) (An (A8 (CU PySem.F.plainAttrs_list PySem.F.slot_list_append PySem.F.type_list_append C2 (cy 1) (Ah (Ce (Ar (cy 3) (Ay Bg Ak (zA D J (Ar (cy 0) (AI (Bj K) (Cs (Ar Ak Ak)) (zA D J (Ar (cy 0) Ak)) (λ_ _=>rfl))))))))))))) (Ai (zD 4 (Cs CS)) (Ai (B4 Zr rfl (CD rfl T.b_range (Ah (zA D J (Ar (cy 0) Ak)))) (zC 2) (An (A8 (CU PySem.F.plainAttrs_list PySem.F.slot_list_append PySem.F.type_list_append C2 (cy 4) (Ah (Ce (AH (Ay Bg Ak (zA D J (Ar (cy 0) Ak))) (zA D J (Ar (cy 0) Ak)) (Ay Bg Ak (zA D J (Ar (cy 0) Ak)))))))))) (Ai (zD 5 (AI (Bj K) (Cs (Ar Ak (zA D J (Ar (cy 0) Ak)))) (zA D J (Ar (cy 0) Ak)) (λ_ _=>rfl))) (Ai (zD 6 (AG (QN rfl) rfl T.b_min boot_min (Ar Ak (Ay Bg (cy 5) (AI (Bj K) (Cs (Bi Ak (C6 Ak Ak Ak (zA D J (Ar (cy 0) Ak))))) (zA D J (Ar (cy 0) Ak)) (λ_ _=>rfl)))))) (An (Av (Ce (AH (A6 (BN K) rfl T.b_tuple BH (Ah (cy 1))) (A6 (BN K) rfl T.b_tuple BH (Ah (cy 4))) (Ce (AH (cy 5) (cy 6) (Ay Bg (cy 5) (zA D J (Ar (cy 0) (Ay Bg (Ay BL (cy 6) (cy 5)) Ak)))))))))))))))),?_⟩;k_dat 0"u"
 .rename_i p;obtain⟨pn,q⟩:=h;refine λb hb=>?_
  have nb:b≠p:=pn.ne hb;refine⟨pn.new hb,by decide,by decide,λg1 H1 a1 b1 e1 pn1=>?_⟩;have ev1:Ev p H H1:=(Ev.new hb).trans e1;have v6:H1 b=some (.lst []):=e1.lst Ag nb;refine⟨1+g1,rfl,by lia,by lia,Em (n:=(1+g1).toNat) (λi σ H2=>∃t m,σ=[some (.ref p),some (.ref b),t,m,none,none,none]/\Filled GoodB p b H H2 i)
   ⟨none,none,rfl,ev1,pn1,[],[],v6,.nil,(λ_ h=>nomatch h),rfl⟩ (λi σ H2 hi hP=>?_) fun σ H2 hP=>?_⟩
  .obtain⟨t,m,rfl,ev,j7,xs,ds,hx,rs,gd,hl⟩:=hP;refine⟨j7,by decide,by decide,λg2 H3 a2 b2 e2 i7 l1 G=>⟨i7.new G,by decide,by decide,λg3 H4 a3 b3 e3 j3=>?_⟩⟩;obtain⟨v,hv,j8⟩:=E8 (ns:=[1,9,1+g2]) a3 (by simpa using b3);have u6:H4 b=some (.lst xs):=e3.lst (by rw [Aq (Bo (e2.lst hx nb) G)];exact e2.lst hx nb) nb;refine⟨l1,_,g3,.int v,rfl,rfl,Al.of (e3.lst Ag (i7.ne G)),j8,.inl ⟨rfl,_,Al.of u6⟩,λl2 I=>⟨j3.new I,by decide,by decide,λg4 H5 a4 b4 e4 L=>?_⟩⟩;obtain⟨v2,w5,i0⟩:=E8 (ns:=[3,9]) a4 (by simpa using b4);have hv2':v2=3\/v2=9:=by simpa using w5
   refine⟨l2,_,g4,.int v2,rfl,rfl,Al.of (e4.lst Ag (j3.ne I)),i0,L,by lia,by lia,λg5 H6 a5 b5 e5 i6 t1 O=>?_⟩;have i9:Ev p H2 H6:=e2.trans ((Ev.new G).trans (e3.trans ((Ev.new I).trans (e4.trans e5))));have hv':v=1\/v=9\/v=1+g2:=by simpa using hv
   refine⟨b,xs,.ref t1,rfl,rfl,by rw[Aq (Bo (i9.lst hx nb) O)];exact i9.lst hx nb,Fb (by rw[<-rs.len,hl];lia),_,_,rfl,?_⟩;exact Filled.step (λd h=>h.nm) hx rs gd hl i9 nb hb (ev.trans i9) i6 O (Aa.tup Ag (.cons Aa.int (.cons Aa.int .nil))) ⟨v,1+g5,rfl,by lia,by lia,by lia,by lia⟩
  obtain⟨t,m,rfl,fb⟩:=hP;refine λe he=>?_
  have ne:e≠p:=fb.pen.ne he;have n5:H e=none:=by
   cases z:H e with
   |none=>rfl
   |some o=>exact((fb.ev e o z).elim (fun⟨x,_⟩=>absurd x ne) λx=>by rw[x]at he;cases he)
  have v4:e≠b:=by
   obtain⟨xs,ds,h1,_⟩:=fb.ex;exact Zd (Bo h1 he)
  refine⟨fb.pen.new he,by decide,by decide,λg6 H3 a6 b6 e6 i7=>?_⟩;have l9:Filled GoodB p b H H3 (1+g1).toNat:=⟨fb.ev.trans ((Ev.new he).trans e6),i7,fb.done nb ((Ev.new he).trans e6)⟩;refine⟨g6,rfl,by lia,by lia,Em (n:=g6.toNat) (λi σ H4=>∃t m,σ=[some (.ref p),some (.ref b),t,m,some (.ref e),none,none]/\Filled GoodB p b H H4 (1+g1).toNat/\Filled GoodE p e H H4 i)
   ⟨_,_,rfl,l9,l9.ev,i7,[],[],e6.lst Ag ne,.nil,(λ_ h=>nomatch h),rfl⟩ (λi σ H4 hi hP=>?_) fun σ H4 hP=>?_⟩
  .obtain⟨t,m,rfl,i8,ev,j7,xs,ds,hx,rs,gd,hl⟩:=hP;refine⟨.inl ⟨rfl,_,Al.of hx⟩,j7,by decide,by decide,λg7 H5 a7 b7 e7 L=>⟨L,by decide,by decide,λg8 H6 a8 b8 e8 i6=>⟨i6,by decide,by decide,λg9 H7 a9 b9 e9 i5 t1 O=>?_⟩⟩⟩;have j0:Ev p H4 H7:=e7.trans (e8.trans e9);have j5:=j0.lst hx ne;refine⟨e,xs,.ref t1,rfl,rfl,by rw [Aq (Bo j5 O)];exact j5,Fb (by rw [<-rs.len,hl];lia),_,_,rfl,?_,?_⟩
   .exact Filled.other (λd h=>h.nm) i8 j0 O j5 n5 nb (Zd v4) ne i5
   .exact Filled.step (λd h=>h.nm) hx rs gd hl j0 ne n5 (ev.trans j0) i5 O (Aa.tup Ag (.cons Aa.int (.cons Aa.int (.cons Aa.int .nil)))) ⟨1+g7,g8,1+g9,rfl,by lia,by lia,by lia,by lia,by lia,by lia⟩
  obtain⟨t,m,rfl,i8,u0⟩:=hP;have j3:=i8.pen;refine⟨j3,by decide,by decide,λg7 H5 a7 b7 e7 L l1 G=>⟨L.new G,by decide,by decide,λg8 H6 a8 b8 e8 i6=>?_⟩⟩;obtain⟨g,n9,j8⟩:=E8 (ns:=[0,g7]) a8 (by simpa using b8);have u9:g=0\/g=g7:=by simpa using n9
  refine⟨l1,_,g8,.int g,rfl,rfl,Al.of (e8.lst Ag (L.ne G)),j8,i6,by decide,by decide,λg9 H7 a9 b9 e9 i5 l2 I=>⟨i5.new I,by decide,by decide,λv7 H8 v3 w9 o9 pn8=>?_⟩⟩;obtain⟨x,hx,i0⟩:=E8 (ns:=[0,3,10,40,g9]) v3 (by simpa using w9);have hx':x=0\/x=3\/x=10\/x=40\/x=g9:=by simpa using hx
  refine⟨l2,_,v7,.int x,rfl,rfl,Al.of (o9.lst Ag (i5.ne I)),i0,40,g+x,rfl,?_⟩;have r8:∃hi:Int,(if g+x<40 then g+x else 40)=hi/\g<=hi/\hi<=40:=by
   by_cases c:g+x<40
   .exact⟨g+x,Z1 c,by lia,by lia⟩
   .exact⟨40,YY c,by lia,by lia⟩
  obtain⟨hi,v8,hi1,u5⟩:=r8;rw[v8];have j9:Ev p H4 H8:=e7.trans ((Ev.new G).trans (e8.trans (e9.trans ((Ev.new I).trans o9))));obtain⟨xs,bs,w8,rb8,gb,lb⟩:=i8.done nb j9;obtain⟨ys,es,o8,re8,ge,le⟩:=u0.done ne j9;refine⟨b,xs,rfl,.inl ⟨Al.of w8,λc1 l7=>⟨e,ys,rfl,.inl ⟨Al.of (by rw[Aq (Bo o8 l7)];exact o8),λc2 j6=>⟨(pn8.new l7).new j6,by lia,by lia,λZ H9 a11 b11 l6 u8 c3 j2 c4 i4=>?_⟩⟩⟩⟩⟩;have j4:Ev p H8 (upd (upd H9 c3 (.tup [.int g,.int hi,.int (g+Z)])) c4 (.tup [.ref c1,.ref c2,.ref c3])):=(Ev.new l7).trans ((Ev.new j6).trans (l6.trans ((Ev.new j2).trans (Ev.new i4))));have t1:upd (upd H9 c3 (.tup [.int g,.int hi,.int (g+Z)])) c4 (.tup [.ref c1,.ref c2,.ref c3]) c1=some (.tup xs):=
   ((Ev.new j6).trans (l6.trans ((Ev.new j2).trans (Ev.new i4)))).tup Ag
  have t2:upd (upd H9 c3 (.tup [.int g,.int hi,.int (g+Z)])) c4 (.tup [.ref c1,.ref c2,.ref c3]) c2=some (.tup ys):=(l6.trans ((Ev.new j2).trans (Ev.new i4))).tup Ag;have t3:upd (upd H9 c3 (.tup [.int g,.int hi,.int (g+Z)])) c4 (.tup [.ref c1,.ref c2,.ref c3]) c3=some (.tup [.int g,.int hi,.int (g+Z)]):=(Ev.new (p:=p) i4).tup Ag;refine q _ _ bs es g hi (g+Z) ⟨gb,by lia,by lia,ge,by lia,by lia,by lia,by lia,u5⟩ ?_ (i8.ev.trans (j9.trans j4)) ((u8.new j2).new i4);exact Aa.tup Ag (.cons (Aa.tup t1 (Ad.ev j4 _ _ rb8)) (.cons (Aa.tup t2 (Ad.ev j4 _ _ re8)) (.cons (Aa.tup t3 (.cons Aa.int (.cons Aa.int (.cons Aa.int .nil)))) .nil)))
end
section
variable{p:yQ}{H:Hp}{v:V}
def CW{i lo hi:Int}(g:lo<=i)(z:i<=hi):AT (.int i) lo hi=true:=by unfold AT;dsimp only;rw[Zv g,Zv z];rfl
def FZ{ds:List yP}{lo hi:Int}(g:lo<=(ds.length:Int))(z:(ds.length:Int)<=hi):Bk (.tuple ds) lo hi=true:=by unfold Bk;dsimp only;rw[Zv g,Zv z];rfl
def VY{P:PL}(h:P.ok):FV P.d=true:=by
 have b1:=h.b1;have b4:=h.b4;have e4:=h.e4;have O:FS (.tuple (P.bs.map bD))=true:=by
  unfold FS;dsimp only;rw[FZ (by rw[Y0];lia) (by rw[Y0];lia),aE,Zx];intro d hd;obtain⟨q,g,rfl⟩:=Zg.mp hd;obtain⟨I,D,z,G⟩:=h.b q g;unfold E6;dsimp only;rw[CW I D,CW z G];rfl
 have he:FU (.tuple (P.es.map eD))=true:=by
  unfold FU;dsimp only;rw[FZ (by rw[Y0];lia) (by rw[Y0];lia),aE,Zx];intro d hd;obtain⟨q,g,rfl⟩:=Zg.mp hd;obtain⟨I,D,z,G,J,Z⟩:=h.e q g;unfold EH;dsimp only;rw[CW I D,CW z G,CW J Z];rfl
 have h0:=h.lo0;have h1:=h.ls;have L:=h.sh;have h3:=h.h4;have hm:E7 (.tuple [.int P.lo,.int P.hi,.int P.st])=true:=by
  unfold E7;dsimp only;rw[CW (by lia) h3,CW (by lia) L,CW h0 h1];rfl
 unfold FV PL.d;dsimp only;rw[O,he,hm];rfl
def IP:Sp:=λz H Q _=>zK (λv=>∃p P,PL.ok P/\Aa p H P.d v/\∀g,Ab H g->Q .non g) z
inductive IQ_(H:Hp)(Q:VK)(v:V)(nb hs:Int):Prop
 |mk(p x n h:_)(_:FT.ok x n h)(_:nb=(n:Int))(_:hs=(h:Int))(_:Aa p H x.d v)(_:∀g,Ab H g->Q (.bl true) g)
def IQ:Sp:=λz H Q _=>zL (IQ_ H Q) z
def IR:Sp:=λz H Q _=>zN (λv u=>∃p P S,PL.ok P/\SY.ok S P.bs.length/\Aa p H P.d v/\Aa p H S.d u/\∀g,Ab H g->Q (.bl true) g) z
inductive GT_(H:Hp)(Q:VK)(v u:V):Prop
 |mk(p P S:_)(_:PL.ok P)(_:SY.ok S P.bs.length)(_:Aa p H P.d v)(_:Aa p H S.d u)(_:∀g,Ab H g->Q .non g)
def GT:Sp:=λz H Q _=>zN (GT_ H Q) z
inductive IS_(H:Hp)(Q:VK)(a:yQ)(m:Int):Prop
 |mk(g:List Bool)(_:H a=some (.lst (g.map wV)))(_:∀z,Ab H z->Q (.int (Cg g m)) z)
def IS:Sp:=λD H Q _=>zM (IS_ H Q) D
def IT:Sp:=λz H Q _=>zL (λv b h=>∃p fs,Aa p H (.tuple (fs.map FT.d)) v/\fs.length<=1000/\∀a g,Ab H g->g a=some (.lst ((BI fs b h).map wV))->Q (.ref a) g) z
def IU:Sp:=λg H Q _=>zO (λv u h=>∃p bs fs,Aa p H (.tuple (bs.map bD)) v/\Aa p H (.tuple (fs.map FT.d)) u/\bs.length<=1000/\fs.length<=1000/\ret H Q p (AS (Ba bs fs h))) g
inductive Lx_(H:Hp)(Q:VK)(v u:V):Prop
 |mk(p P S:_)(_:PL.ok P)(_:SY.ok S P.bs.length)(_:Aa p H P.d v)(_:Aa p H S.d u)(_:ret H Q p (EU P S))
def Lx:Sp:=λg H Q _=>zN (Lx_ H Q) g
def IV:Sp:=λg H Q _=>zP (λv h=>∃p q,Aa p H (eD q) v/\1<=q.2.2/\Q (.int (drawn q h)) H) g
inductive GU_(H:Hp)(Q:VK)(v u:V):Prop
 |mk(p P S:_)(_:PL.ok P)(_:SY.ok S P.bs.length)(_:Aa p H P.d v)(_:Aa p H S.d u)(_:ret H Q p (SI P S))
def GU:Sp:=λg H Q _=>zN (GU_ H Q) g
def Aa.plant{P:PL}(r:Aa p H P.d v):∃A B E M xb xe,v= .ref A/\H A=some (.tup [.ref B,.ref E,.ref M])/\H B=some (.tup xb)/\Ad p H (P.bs.map bD) xb/\H E=some (.tup xe)/\Ad p H (P.es.map eD) xe/\H M=some (.tup [.int P.lo,.int P.hi,.int P.st]):=by
 unfold PL.d at r;obtain⟨A,xs,rfl,hA,L⟩:=Aa.shape r;obtain⟨x,y,z,rfl,I,ry,rz⟩:=Ad.three L;obtain⟨B,xb,rfl,hB,O⟩:=Aa.shape I;obtain⟨E,xe,rfl,hE,J⟩:=Aa.shape ry;obtain⟨M,xm,rfl,hM,Z⟩:=Aa.shape rz;obtain⟨m1,m2,m3,rfl,G,g,D⟩:=Ad.three Z;unfold Aa at G g D;subst G g D;exact⟨A,B,E,M,xb,xe,rfl,hA,hB,O,hE,J,hM⟩
def Aa.story{S:SY}(r:Aa p H S.d v):∃A B E z,v= .ref A/\H A=some (.tup [.ref B,.ref E])/\H B=some (.tup (S.ex.map V.int))/\H E=some (.tup z)/\Ad p H (S.fs.map FT.d) z:=by
 unfold SY.d at r;obtain⟨A,xs,rfl,O,I⟩:=Aa.shape r;obtain⟨x,y,rfl,D,L⟩:=Ad.two I;obtain⟨B,xb,rfl,g,J⟩:=Aa.shape D;obtain⟨E,xe,rfl,Z,G⟩:=Aa.shape L;rw[Ad.ints J]at g;exact⟨A,B,E,xe,rfl,O,g,Z,G⟩
def V0(F:Df K mg "need_plant" waf ["plant"])(T:Tx mg)(g:Fn P w K mg base 5 "is_plant" ["thing"] IL):Fn P w K mg base 6 "need_plant" ["plant"] IP:=by
 k_dat ⟨["plant"],z,D⟩"g"
 refine⟨_,(An (A1 (BR (BM (zA g D (Ah (cy 0))))) (An Km) AZ)),?_⟩;k_dat 0"u"
 .rename_i v;obtain⟨p,P,ok,r,q⟩:=h;refine⟨p,_,r,λb I G s=>⟨λc=>?_,λc=>q I s⟩⟩;rw[G,VY ok]at c;cases c
def V1(F:Df K mg "is_fault" wah ["thing","boilers","hours"])(T:Tx mg)(G:Dp P w K mg base)(g:DM P w K mg base):Fn P w K mg base 3 "is_fault" ["thing","boilers","hours"] IQ:=by
 k_dat ⟨["thing","boilers","hours","boiler","word","first","last"],vs,D⟩"g"
 refine⟨_,(Ai (A1 (BR (BM (zA G D (AH (cy 0) Ak Ak)))) (An (Av Cp)) AZ) (Ai (Bb (cy 0) (zF 3 4 5 6)) (An (Av (BG (zA g D (AH (cy 3) Ak (Ay BL (cy 1) Ak))) (BG (Fq (Fy K) (cy 4) (Ce (Ar Ax Ax)) (by with_unfolding_all rfl)) (BG (zA g D (AH (cy 6) Ak (Ay BL (cy 2) Ak))) (CB (zA g D (AH (cy 5) Ak (cy 6))))))))))),?_⟩;k_dat 0"u"
 .rename_i v nb hs;obtain⟨p,x,n,k,ok,rfl,rfl,r,q⟩:=h;obtain⟨o1,o2,o3,o4,o5⟩:=ok;refine⟨p,_,r,λb hb=>⟨λc=>?_,λc=>?_⟩⟩
  .rw[hb]at c;cases c
  .obtain⟨l,xs,rfl,hl,rs⟩:=Aa.shape r;obtain⟨y1,y2,y3,y4,rfl,r1,J,L,I⟩:=Ad.four rs;unfold Aa at r1 J L I;subst r1 J L I;refine⟨l,_,rfl,Ae.of hl,rfl,_,_,rfl,_,_,rfl,_,_,rfl,_,_,rfl,rfl,p,.int x.b,Aa.int,λb1 O=>⟨λ_=>?_,λc1=>?_⟩⟩
   .refine λt ht=>⟨t,_,rfl,.inr (Ae.of Ag),rfl,rfl,⟨λ_=>?_,λz=>?_⟩⟩
    .refine⟨p,.int x.l,Aa.int,λb2 Z=>⟨λ_=>⟨p,.int x.f,Aa.int,λb3 e3=>?_⟩,λz=>?_⟩⟩
     .rw[CW o3 o4]at e3;subst e3;exact q _ (Ab.new ht)
     .rw[CW (by lia) (by lia)]at Z;rw[Z]at z;cases z
    .rw[YY (by decide)]at z;have:=SK x.out;unfold wV at this;rw[this]at z;cases z
   .rw[CW o1 (by lia)]at O;rw[O]at c1;cases c1
def V2(F:Df K mg "is_story" wag ["plant","thing"])(T:Tx mg)(i4:Fn P w K mg base 3 "is_fault" ["thing","boilers","hours"] IQ)(Z:Dp P w K mg base)(i0:DM P w K mg base)(i6:Fn P w K mg base 6 "need_plant" ["plant"] IP):Fn P w K mg base 7 "is_story" ["plant","thing"] IR:=by
 obtain⟨G,g_MOST_EXTRA⟩:=T.g_MOST_EXTRA;obtain⟨g,g_MOST_FAULTS⟩:=T.g_MOST_FAULTS;obtain⟨D,g_MOST_HOURS⟩:=T.g_MOST_HOURS;k_dat ["plant","thing","extra","faults"]"f"
 refine⟨_,(Ai (A8 (zA i6 hr (Ah (cy 0)))) (Ai (A1 (BR (BM (zA Z hr (AH (cy 1) Ak Ak)))) (An (Av Cp)) AZ) (Ai (Bb (cy 1) (zF 2 3)) (An (Av (BG (zA Z hr (AH (cy 2) Ak (BA (v:= .int 8) rfl g_MOST_HOURS ⟨D,rfl⟩))) (BG (AG (Ex rfl) rfl T.b_all ci (Ah (AW ["units"] [none] rfl (Bu K (cy 2)) (AB.of rfl) (λ_ _ _ _=>(zC 0)) (λ_ _ _ _=>AR) (λ_ _ _ _=>(zA i0 hr (AH (cy 0) Ak (BA (v:= .int 20) rfl g_MOST_EXTRA ⟨G,rfl⟩))))))) (BG (zA Z hr (AH (cy 3) Ak (BA (v:= .int 4) rfl g_MOST_FAULTS ⟨g,rfl⟩))) (CB (AG (Ex rfl) rfl T.b_all ci (Ah (AW ["part","extra","plant"] [none,some 2,some 0] rfl (Bu K (cy 3)) (AB.of rfl) (λ_ _ _ _=>(zC 0)) (λ_ _ _ _=>AR) (λ_ _ _ _=>(zA i4 hr (AH (cy 0) (zG ((AI (Bd K) (cy 2) Ak (λ_ _=>rfl)))) (zG (cy 1))))))))))))))))),?_⟩;k_dat 0"u"
 .rename_i v u;obtain⟨p,P,S,ok,so,r,ru,q⟩:=h;refine⟨p,P,ok,r,λH1 s1=>⟨p,S.d,Aa.ev (Ev.same s1) _ _ ru,λb hb=>⟨λc=>?_,λc=>?_⟩⟩⟩
  .rw[hb]at c;cases c
  .obtain⟨A,B,E,xf,rfl,hA,hB,hE,rf⟩:=Aa.story (Aa.ev (Ev.same s1) _ _ ru);obtain⟨PA,PB,PE,PM,xb,xe,rfl,pA,pB,rb,pE,re,pM⟩:=Aa.plant (Aa.ev (Ev.same s1) _ _ r);have x1:=so.x1;have x8:=so.x8;have f4:=so.f4;have lf:=rf.len;rw [Y0] at lf;have lb:=rb.len;rw [Y0] at lb;refine⟨A,_,rfl,Ae.of hA,rfl,_,_,rfl,_,_,rfl,rfl,p,_,Aa.row hB,λb1 e1=>⟨λ_=>?_,λc1=>?_⟩⟩
   .refine⟨B,rfl,⟨_,Ae.of hB⟩,BC (xs:=S.ex.map V.int) (λi L J=>Ab H1 J/\L=List.replicate i (V.bl true)) (by rw [Y0];lia) ⟨Ab.refl _,rfl⟩ (λi L J h=>by rw [h.2,ZK];lia) (λi L J _ h=>Ae.of (h.1 _ _ hB)) (λi x L J O h=>?_) λL J h=>?_⟩
    .rw [YU] at O;cases z:S.ex[i]? with
     |none=>rw[z]at O;cases O
     |some n=>
      rw[z]at O;cases O;obtain⟨n0,i7⟩:=so.x n (Y8 z);refine⟨trivial,λ_=>⟨p,.int n,Aa.int,λb e=>⟨h.1,?_⟩⟩,λc=>by cases c⟩;rw[CW n0 i7]at e;rw[h.2,e,cZ]
    .intro m hm;refine⟨m,List.replicate S.ex.length true,rfl,by rw [Ag,h.2,Y0,fL],⟨λ_=>?_,λc=>?_⟩⟩
     .have s2:Ab H1 (upd J m (.lst L)):=h.1.trans (Ab.new hm);refine⟨p,_,Aa.tup (s2 _ _ hE) (Ad.ev (Ev.same s2) _ _ rf),λb2 e2=>⟨λ_=>?_,λc2=>?_⟩⟩
      .refine⟨E,rfl,⟨_,Ae.of (s2 _ _ hE)⟩,BC (xs:=xf) (λi zs H2=>Ab H1 H2/\zs=List.replicate i (V.bl true)) (by lia) ⟨s2,rfl⟩ (λi L J h=>by rw [h.2,ZK];lia) (λi L J _ h=>Ae.of (h.1 _ _ hE)) (λi x zs H2 O I=>?_) λzs H2 I=>?_⟩
       .obtain⟨f,hf,rd⟩:=Ad.mapGot rf O;refine⟨⟨rfl,rfl,trivial⟩,λ_=>?_,λc=>by cases c⟩;refine⟨PA,_,0,.ref PB,rfl,rfl,Ae.of (I.1 _ _ pA),rfl,PB,xb,rfl,.inr (Ae.of (I.1 _ _ pB)),B,_,rfl,.inr (Ae.of (I.1 _ _ hB)),?_⟩;refine⟨p,f,P.bs.length,S.ex.length,so.f f (Y8 hf),by rw[lb],by rw[Y0],Aa.ev (Ev.same I.1) _ _ rd,λH3 s3=>⟨I.1.trans s3,?_⟩⟩;rw[I.2,cZ]
       .intro m2 i5;refine⟨m2,List.replicate xf.length true,rfl,by rw [Ag,I.2,fL],?_⟩;have ea:(List.replicate xf.length true).all id=true:=by simp
        rw[ea];exact q _ (s1.trans (I.1.trans (Ab.new i5)))
      .rw[FZ (by rw[Y0];lia) (by rw[Y0];lia)]at e2;rw[e2]at c2;cases c2
     .have ea:(List.replicate S.ex.length true).all id=true:=by simp
      rw[ea]at c;cases c
   .rw[FZ (by rw[Y0];lia) (by rw[Y0];lia)]at e1;rw[e1]at c1;cases c1
def V4(F:Df K mg "need_story" wai ["plant","story"])(T:Tx mg)(g:Fn P w K mg base 7 "is_story" ["plant","thing"] IR):Fn P w K mg base 8 "need_story" ["plant","story"] GT:=by
 k_dat ⟨["plant","story"],z,D⟩"g"
 refine⟨_,(An (A1 (BR (BM (zA g D (Ar (cy 0) (cy 1))))) (An Km) AZ)),?_⟩;k_dat 0"u"
 .rename_i v u;obtain⟨p,P,S,ok,so,r,ru,q⟩:=h;exact⟨p,P,S,ok,so,r,ru,λG s=>⟨λc=>(by cases c),λc=>q G s⟩⟩
def V6(F:Df K mg "cap_under" wam ["words","make"])(T:Tx mg):Fn P w K mg base 1 "cap_under" ["words","make"] IS:=by
 k_dat ⟨["words","make"],G,I⟩"g"
 refine⟨_,(Ai (A1 (AU (Fy K) Ax (cy 0) (by with_unfolding_all rfl)) (An (Av Ak)) AZ) (Ai (A1 (AU (Fy K) Ax (cy 0) (by with_unfolding_all rfl)) (An (Av (Ay KR (cy 1) Ak))) AZ) (An (Av (cy 1))))),?_⟩;k_dat 0"u"
 .rename_i a m;obtain⟨z,D,q⟩:=h;refine⟨a,_,rfl,.inl (Al.of D),rfl,Il,⟨λc=>?_,λc=>?_⟩⟩
  .rw [YY (by decide),Ik] at c;have e:Cg z m=0:=by unfold Cg;rw [Z1 c]
   rw[e]at q;exact q _ (Ab.refl _)
  .rw [YY (by decide),Ik] at c;refine⟨a,_,rfl,.inl (Al.of D),rfl,Il,⟨λg=>?_,λg=>?_⟩⟩
   .rw [YY (by decide),KZ] at g;have e:Cg z m=m / 2:=by unfold Cg;rw [YY (by rw [c];decide),Z1 g]
    rw[e]at q;exact⟨⟨by decide,by decide⟩,q _ (Ab.refl _)⟩
   .rw [YY (by decide),KZ] at g;have e:Cg z m=m:=by unfold Cg;rw [YY (by rw [c];decide),YY (by rw [g];decide)]
    rw[e]at q;exact q _ (Ab.refl _)
def V8(F:Df K mg "words_for" wal ["faults","boiler","hour"])(T:Tx mg):Fn P w K mg base 1 "words_for" ["faults","boiler","hour"] IT:=by
 k_dat ["faults","boiler","hour"]"f"
 refine⟨_,(An (Av (AW ["at","word","first","last","boiler","hour"] [none,none,none,none,some 1,some 2] rfl (Bu K (cy 0)) (AB.of rfl) (λ_ _ _ _=>(zF 0 1 2 3)) (λ_ _ _ _=>(Gn (PW.pt (Gw (AU Dz (cy 0) (cy 4) (AV _)) (HA (Sh Ew Ew (cy 2) (cy 5) (cy 3))))))) (λ_ _ _ _=>(cy 1))))),?_⟩;k_dat 0"u"
 .rename_i v b g;obtain⟨p,fs,r,hl,q⟩:=h;obtain⟨A,xs,rfl,hA,Z⟩:=Aa.shape r;have ln:=Z.len;rw[Y0]at ln;refine⟨A,rfl,⟨xs,Ae.of hA⟩,BC (xs:=xs) (λi G D=>Ab H D/\G=(BI (fs.take i) b g).map wV) (by lia) ⟨Ab.refl _,rfl⟩ (λi G D h=>?_) (λi G D _ h=>Ae.of (h.1 _ _ hA)) (λi x G D hx h=>?_) λG D h=>?_⟩
  .rw[h.2,Y0];unfold BI;rw[Y0];exact Ze (cA _ _) (by rw[Za];lia)
  .obtain⟨f,hf,rd⟩:=Ad.mapGot Z hx;obtain⟨l,zs,rfl,O,rz⟩:=Aa.shape (Aa.ev (Ev.same h.1) _ _ rd);obtain⟨y1,y2,y3,y4,rfl,r1,r2,r3,r4⟩:=Ad.four rz;unfold Aa at r1 r2 r3 r4;subst r1 r2 r3 r4;have nx:=NF (b:=b) (h:=g) hf;have no:Cw b g f=false->Ab H D/\G=(BI (fs.take (i+1)) b g).map wV:=λe=>⟨h.1,by rw [nx,e,YY (by decide)];exact h.2⟩
   refine⟨l,_,rfl,Ae.of O,rfl,_,_,rfl,_,_,rfl,_,_,rfl,_,_,rfl,rfl,⟨rfl,rfl,trivial⟩,rfl,⟨λI=>⟨λL=>⟨λJ=>?_,λJ=>no ?_⟩,λL=>⟨λz=>(by cases z),λ_=>no ?_⟩⟩,λI=>⟨λz=>(by cases z),λ_=>no ?_⟩⟩⟩
   .have e:Cw b g f=true:=by
     rw[En]at I;unfold Cw;rw[I,L,J];rfl
    refine⟨h.1,?_⟩;rw[nx,Z1 e,YW,h.2];rfl
   .unfold Cw;rw[J,bw]
   .unfold Cw;rw[L,bw,aq]
   .rw[En]at I;unfold Cw;rw[I,aq,aq]
  .intro m hm;refine q m _ (h.1.trans (Ab.new hm)) ?_;rw[Ag,h.2,Z0 (by lia)]
def Wa(F:Df K mg "caps_in" wak ["boilers","faults","hour"])(T:Tx mg)(I:Fn P w K mg base 1 "cap_under" ["words","make"] IS)(O:Fn P w K mg base 1 "words_for" ["faults","boiler","hour"] IT):Fn P w K mg base 2 "caps_in" ["boilers","faults","hour"] IU:=by
 k_dat ["boilers","faults","hour"]"f"
 refine⟨_,(An (Av (A6 (BN K) rfl T.b_tuple BH (Ah (AW ["at","make","coal","faults","hour"] [none,none,none,some 1,some 2] rfl (Gz P w K rfl T.b_enumerate (Ah (cy 0))) (AB.of rfl) (λ_ _ _ _=>(AK K (n:=2) (Aj (zC 0) (Aj (zF 1 2) AJ)))) (λ_ _ _ _=>AR) (λ_ _ _ _=>(zA I hr (Ar (zA O hr (AH (cy 3) (cy 0) (cy 4))) (cy 1))))))))),?_⟩;k_dat 0"u"
 .rename_i v u D;obtain⟨p,bs,fs,r,ru,lb,lf,q⟩:=h;obtain⟨A,xs,rfl,hA,Z⟩:=Aa.shape r;have ln:=Z.len;rw[Y0]at ln;refine⟨A,rfl,⟨xs,Ae.of hA⟩,walk_enum (xs:=xs) (λi G g=>Ab H g/\G=((Ba bs fs D).take i).map V.int) (by lia) ⟨Ab.refl _,rfl⟩ (λi G g h=>by rw[h.2,Y0,Za];lia) (λi G g h=>Ae.of (h.1 _ _ hA)) (λi x G g T hx h hT=>?_) λG g h=>?_⟩
  .obtain⟨f,hf,rd⟩:=Ad.mapGot Z hx;have L:Ab H (upd g T (.tup [.int i,x])):=h.1.trans (Ab.new hT);obtain⟨l,zs,rfl,J,rz⟩:=Aa.shape (Aa.ev (Ev.same L) _ _ rd);obtain⟨y1,y2,rfl,r1,r2⟩:=Ad.two rz;unfold Aa at r1 r2;subst r1 r2;refine⟨T,_,rfl,Ae.of Ag,rfl,_,_,rfl,_,_,rfl,l,_,rfl,Ae.of J,rfl,_,_,rfl,_,_,rfl,rfl,rfl,⟨rfl,rfl,trivial⟩,λ_=>?_,λz=>by cases z⟩;refine⟨p,fs,Aa.ev (Ev.same L) _ _ ru,lf,λa H3 s3 ha=>⟨_,ha,λH4 s4=>⟨L.trans (s3.trans s4),?_⟩⟩⟩;rw[AY (KY hf),YW,h.2];rfl
  .intro m hm;refine⟨m,_,rfl,.inl ⟨Al.of Ag,λt ht=>?_⟩⟩;refine q _ _ (h.1.trans ((Ab.new hm).trans (Ab.new ht))) (Aa.row ?_);rw[Ag,h.2,Z0 (by rw[Ez];lia)]
abbrev F5(P:yO)(w:yK)(K:Fgx)(mg:Str->yW)(base:Heap):Prop:=Fn P w K mg base 9 "caps_of" ["plant","story"] Lx
def Wb(F:Df K mg "caps_of" waj ["plant","story"])(T:Tx mg)(J:Fn P w K mg base 2 "caps_in" ["boilers","faults","hour"] IU)(G:Fn P w K mg base 8 "need_story" ["plant","story"] GT):F5 P w K mg base:=by
 k_dat ⟨["plant","story","extra","faults"],vs,L⟩"g"
 refine⟨_,(Ai (A8 (zA G L (Ar (cy 0) (cy 1)))) (Ai (Bb (cy 1) (zF 2 3)) (An (Av (A6 (BN K) rfl T.b_tuple BH (Ah (AW ["hour","faults","plant"] [none,some 3,some 0] rfl (CD rfl T.b_range (Ah (zG (cy 2)))) (AB.of rfl) (λ_ _ _ _=>(zC 0)) (λ_ _ _ _=>AR) (λ_ _ _ _=>(zA J L (AH (AI (Bd K) (cy 2) Ak (λ_ _=>rfl)) (cy 1) (cy 0))))))))))),?_⟩;k_dat 0"u"
 .rename_i v u;obtain⟨p,P,S,ok,so,r,ru,q⟩:=h;refine⟨p,P,S,ok,so,r,ru,λH1 I=>?_⟩;obtain⟨A,B,E,xf,rfl,hA,hB,hE,rf⟩:=Aa.story (Aa.ev (Ev.same I) _ _ ru);obtain⟨PA,PB,PE,PM,xb,xe,rfl,pA,pB,rb,pE,re,pM⟩:=Aa.plant (Aa.ev (Ev.same I) _ _ r);have x8:=so.x8;have f4:=so.f4;have b4:=ok.b4;refine⟨A,_,rfl,Ae.of hA,rfl,_,_,rfl,_,_,rfl,rfl,B,_,rfl,.inr (Ae.of hB),_,rfl,by lia,by rw[Y0];lia,Gu (n:=(S.ex.map V.int).length) (λi g D=>Ab H1 D/\Ad p D (((caps P S).take i).map AS) g) (by rw[Y0];lia) ⟨Ab.refl _,.nil⟩ (λi g D h=>by rw[<-h.2.len,Y0,Za];lia) (λi g D hi h=>?_) λg D h=>?_⟩
  .rw[Y0]at hi;refine⟨⟨rfl,rfl,trivial⟩,λ_=>?_,λz=>by cases z⟩;refine⟨PA,_,0,.ref PB,rfl,rfl,Ae.of (h.1 _ _ pA),rfl,p,P.bs,S.fs,Aa.tup (h.1 _ _ pB) (Ad.ev (Ev.same h.1) _ _ rb),Aa.tup (h.1 _ _ hE) (Ad.ev (Ev.same h.1) _ _ rf),by lia,by lia,λv2 H2 s2 O=>⟨h.1.trans s2,?_⟩⟩;rw[bQ]at O;rw[AY (Br hi),YW];exact Ad.snoc (Ad.ev (Ev.same s2) _ _ h.2) O
  .intro m hm;refine⟨m,_,rfl,.inl ⟨Al.of Ag,λt ht=>?_⟩⟩;have Z:=(Ab.new (o:= .lst g) hm).trans (Ab.new (o:= .tup g) ht);refine q _ _ (I.trans (h.1.trans Z)) (Aa.tup Ag ?_);have r3:=Ad.ev (Ev.same Z) _ _ h.2;rw[Z0 (by rw[Bs,Y0];exact Y5 _)]at r3;exact r3
def We(F:Df K mg "drawn_by" wao ["engine","hour"])(T:Tx mg):Fn P w K mg base 1 "drawn_by" ["engine","hour"] IV:=by
 k_dat ⟨["engine","hour","draw","first","every"],L,hr⟩"g"
 refine⟨_,(Ai (Bb (cy 0) (zF 2 3 4)) (Ai (A1 (PW.pt (DZ (AU Eu (cy 1) (cy 3) (AV _)) (El (AU Kt (Ay Fv (Ay BL (cy 1) (cy 3)) (cy 4)) Ak (AV _))))) (An (Av Ak)) AZ) (An (Av (cy 2))))),?_⟩;k_dat 0"u"
 .rename_i v g;obtain⟨p,e,r,e1,q⟩:=h;obtain⟨A,xs,rfl,Z,O⟩:=Aa.shape r;obtain⟨y1,y2,y3,rfl,J,G,I⟩:=Ad.three O;unfold Aa at J G I;subst J G I;refine⟨A,_,rfl,Ae.of Z,rfl,_,_,rfl,_,_,rfl,_,_,rfl,rfl,⟨λc=>⟨λ_=>?_,λz=>by cases z⟩,λc=>⟨by lia,rfl,⟨λD=>?_,λD=>?_⟩⟩⟩⟩
  .have z:drawn e g=0:=by unfold drawn;rw [Z1 (.inl (Z7 c))]
   rw[z]at q;exact q
  .have z:drawn e g=0:=by
    unfold drawn;exact Z1 (.inr λz=>SL D (ZI V.int z))
   rw[z]at q;exact q
  .have z:drawn e g=e.1:=by
    unfold drawn;rw[YY ?_];rintro(z | z)
    .exact absurd (Zv z) (by rw[c];decide)
    .apply z;have:V.int ((g-e.2.1) % e.2.2)=V.int 0:=by simpa using D
     injection this
   rw[z]at q;exact q
def Wf(F:Df K mg "draws_of" wan ["plant","story"])(T:Tx mg)(i0:Fn P w K mg base 1 "drawn_by" ["engine","hour"] IV)(O:Fn P w K mg base 8 "need_story" ["plant","story"] GT):Fn P w K mg base 9 "draws_of" ["plant","story"] GU:=by
 k_dat ["plant","story","engines"]"f"
 refine⟨_,(Ai (A8 (zA O hr (Ar (cy 0) (cy 1)))) (Ai (zD 2 (AI (Bd K) (cy 0) Ak (λ_ _=>rfl))) (An (Av (A6 (BN K) rfl T.b_tuple BH (Ah (AW ["hour","units","engines"] [none,none,some 2] rfl (Gz P w K rfl T.b_enumerate (Ah (AI (Bd K) (cy 1) Ak (λ_ _=>rfl)))) (AB.of rfl) (λ_ _ _ _=>(zF 0 1)) (λ_ _ _ _=>AR) (λ_ _ _ _=>(Ay Bg (cy 1) (AG (KW rfl) rfl T.b_sum bR (Ah (AW ["engine","hour"] [none,some 0] rfl (Bu K (cy 2)) (AB.of rfl) (λ_ _ _ _=>(zC 0)) (λ_ _ _ _=>AR) (λ_ _ _ _=>(zA i0 hr (Ar (cy 0) (cy 1)))))))))))))))),?_⟩;k_dat 0"u"
 .rename_i v u;obtain⟨p,P,S,ok,so,r,ru,q⟩:=h;refine⟨p,P,S,ok,so,r,ru,λH1 Z=>?_⟩;obtain⟨A,B,E,xf,rfl,hA,hB,hE,rf⟩:=Aa.story (Aa.ev (Ev.same Z) _ _ ru);obtain⟨PA,PB,PE,PM,xb,xe,rfl,pA,pB,rb,pE,re,pM⟩:=Aa.plant (Aa.ev (Ev.same Z) _ _ r);have x8:=so.x8;have e4:=ok.e4;have le:=re.len;rw[Y0]at le;refine⟨PA,_,1,.ref PE,rfl,rfl,Ae.of pA,rfl,A,_,0,.ref B,rfl,rfl,Ae.of hA,rfl,B,rfl,⟨_,Ae.of hB⟩,walk_enum (xs:=S.ex.map V.int) (λi J D=>Ab H1 D/\J=((draws P S).take i).map V.int) (by rw[Y0];lia) ⟨Ab.refl _,rfl⟩ (λi J D h=>by rw[h.2,Y0,Za];lia) (λi J D h=>Ae.of (h.1 _ _ hB)) (λi x J D T g h hT=>?_) λJ D h=>?_⟩
  .rw [YU] at g;cases z:S.ex[i]? with
   |none=>rw[z]at g;cases g
   |some n=>
    rw[z]at g;cases g;have s2:Ab H1 (upd D T (.tup [.int i,.int n])):=h.1.trans (Ab.new hT);refine⟨T,_,rfl,Ae.of Ag,rfl,_,_,rfl,_,_,rfl,rfl,⟨rfl,trivial⟩,λ_=>?_,λz=>by cases z⟩;refine⟨PE,rfl,⟨xe,Ae.of (s2 _ _ pE)⟩,BC (xs:=xe) (λj I L=>Ab H1 L/\I=((P.es.take j).map λe=>drawn e i).map V.int) (by lia) ⟨s2,rfl⟩ (λj I L h=>by rw[h.2,Y0,Y0,Za];lia) (λj I L _ h=>Ae.of (h.1 _ _ pE)) (λj x I L g G=>?_) λI L G=>?_⟩
    .obtain⟨f,hf,rd⟩:=Ad.mapGot re g;refine⟨⟨rfl,trivial⟩,λ_=>⟨p,f,Aa.ev (Ev.same G.1) _ _ rd,(ok.e f (Y8 hf)).2.2.2.2.1,G.1,?_⟩,λz=>by cases z⟩;rw[AY hf,YW,YW,G.2];rfl
    .intro m hm;refine⟨m,P.es.map λe=>drawn e i,rfl,?_,G.1.trans (Ab.new hm),?_⟩
     .rw[Ag,G.2,Z0 (by lia)]
     .rw[AY (SJ z),YW,h.2];rfl
  .intro m hm;refine⟨m,_,rfl,.inl ⟨Al.of Ag,λt ht=>?_⟩⟩;refine q _ _ (Z.trans (h.1.trans ((Ab.new hm).trans (Ab.new ht)))) (Aa.row ?_);rw[Ag,h.2,Z0 (by rw[EA,Y0];lia)]
end
section
theorem OO:∀ {bs:List yP},(∀d∈bs,GoodB d)->∃l:List (Int×Int),bs=l.map bD/\∀q∈l,1<=q.1/\q.1<=9/\1<=q.2/\q.2<=9
 |[],_=>⟨[],rfl,λ_ h=>nomatch h⟩
 |d::ds,h=>by
  obtain⟨l,e,g⟩:=OO λx D=>h x (Z3 _ D)
  obtain⟨m,c,rfl,I,L,J,G⟩:=h d Z9;refine⟨(m,c)::l,by rw[e];rfl,λq z=>?_⟩;rcases Z4.mp z with rfl | z
  .exact⟨I,L,J,G⟩
  .exact g q z
theorem OP:∀ {es:List yP},(∀d∈es,GoodE d)->∃l:List (Int×Int×Int),es=l.map eD/\∀q∈l,1<=q.1/\q.1<=9/\0<=q.2.1/\q.2.1<=7/\1<=q.2.2/\q.2.2<=8
 |[],_=>⟨[],rfl,λ_ h=>nomatch h⟩
 |d::ds,h=>by
  obtain⟨l,e,g⟩:=OP λx O=>h x (Z3 _ O)
  obtain⟨m,c,k,rfl,Z,L,J,I,D,G⟩:=h d Z9;refine⟨(m,c,k)::l,by rw[e];rfl,λq z=>?_⟩;rcases Z4.mp z with rfl | z
  .exact⟨Z,L,J,I,D,G⟩
  .exact g q z
def GoodP.pl{bs es:List yP}{lo hi st:Int}(g:GoodP bs es lo hi st):∃P:PL,P.ok/\ON bs es lo hi st=P.d:=by
 obtain⟨G,rfl,D⟩:=OO g.b;obtain⟨le,rfl,z⟩:=OP g.e;have b1:=g.b1;have b4:=g.b4;have e4:=g.e4;rw[Y0]at b1 b4 e4;exact⟨⟨G,le,lo,hi,st⟩,⟨D,b1,b4,z,e4,g.lo0,g.ls,g.sh,g.h4⟩,rfl⟩
def F6(r:yV):Ck (AS r)=true:=by
 unfold Ck;exact CN λd hd=>by
  obtain⟨i,_,rfl⟩:=Zg.mp hd
  rfl
def Wg(k:Bool):0<(1:Int)+(if k=true then 1 else 0)/\(1:Int)+(if k=true then 1 else 0)<1073741824:=by cases k<;>decide
def GoodF(n h:Nat)(d:yP):Prop:=∃x:FT,d=x.d/\x.ok n h
def GoodF.nm{n h:Nat}{d:yP}(g:GoodF n h d):Ck d=true:=by obtain⟨x,rfl,_⟩:=g;rfl
theorem OQ{n h:Nat}:∀ {es:List yP},(∀d∈es,GoodF n h d)->∃l:List FT,es=l.map FT.d/\∀q∈l,q.ok n h
 |[],_=>⟨[],rfl,λ_ h=>nomatch h⟩
 |d::ds,hh=>by
  obtain⟨l,e,g⟩:=OQ λx D=>hh x (Z3 _ D)
  obtain⟨x,rfl,G⟩:=hh d Z9;refine⟨x::l,by rw[e];rfl,λq z=>?_⟩;rcases Z4.mp z with rfl | z
  .exact G
  .exact g q z
def IW:Sp:=λz H Q _=>zE (λp v=>A3 p H/\∃P,PL.ok P/\Aa p H P.d v/\∀u g S,SY.ok S P.bs.length->Aa p g S.d u->Ev p H g->A3 p g->Q u g) z
def IY:Sp:=λg H Q _=>zN (λv u=>∃p P S,PL.ok P/\SY.ok S P.bs.length/\Aa p H P.d v/\Aa p H S.d u/\ret H Q p (EU P S)) g
section
def Wh(F:Df K mg "_law_story" wb6 ["_law_pen_here","_law_plant_here"])(T:Tx mg)(g:FY P w K mg base):Fn P w K mg base 2 "_law_story" ["_law_pen_here","_law_plant_here"] IW:=by
 k_dat ⟨["_law_pen_here","_law_plant_here","_law_hours","_law_most","_law_faults","_law_turn","_law_first","_law_last"],vs,O⟩"g"
 refine⟨_,(Ai (Bb (Ce (Ar (Ay Bg Ak (zA g O (Ar (cy 0) Ak))) (AI (Bj K) (Cs (C6 Ak Ak Ak Ak)) (zA g O (Ar (cy 0) Ak)) (λ_ _=>rfl)))) (zF 2 3)) (Ai (zD 4 (Cs CS)) (Ai (B4 Zr rfl (CD rfl T.b_range (Ah (zA g O (Ar (cy 0) Ak)))) (zC 5) (Ai (zD 6 (zA g O (Ar (cy 0) (cy 2)))) (Ai (zD 7 (Ay Bg (cy 6) (zA g O (Ar (cy 0) (Ay BL (cy 2) (cy 6)))))) (An (A8 (CU PySem.F.plainAttrs_list PySem.F.slot_list_append PySem.F.type_list_append C2 (cy 4) (Ah (Ce (C6 (zA g O (Ar (cy 0) (zG ((AI (Bd K) (cy 1) Ak (λ_ _=>rfl)))))) (AI (Bj K) (Cs (Ar Ax Ax)) (zA g O (Ar (cy 0) Ak)) (λ_ _=>rfl)) (cy 6) (cy 7)))))))))) (An (Av (Ce (Ar (A6 (BN K) rfl T.b_tuple BH (Ah (AW ["_law_hour","_law_pen_here","_law_most"] [none,some 0,some 3] rfl (CD rfl T.b_range (Ah (cy 2))) (AB.of rfl) (λ_ _ _ _=>(zC 0)) (λ_ _ _ _=>AR) (λ_ _ _ _=>(zA g O (Ar (cy 1) (cy 2))))))) (A6 (BN K) rfl T.b_tuple BH (Ah (cy 4)))))))))),?_⟩;k_dat 0"u"
 .rename_i p v;obtain⟨pn,P,ok,r,q⟩:=h;have b1:=ok.b1;have b4:=ok.b4;refine⟨pn,by decide,by decide,λg1 H1 a1 c1 e1 i9 l1 i4=>⟨i9.new i4,by decide,by decide,λg2 H2 a2 c2 e2 I=>?_⟩⟩;obtain⟨mo,j7,j4⟩:=E8 (ns:=[1,4,9,21]) a2 (by simpa using c2);have l7:1<=mo/\mo<=21:=by
   simp only[Z4,Zk,Zs]at j7;lia
  refine⟨l1,_,g2,.int mo,rfl,rfl,Al.of (e2.lst Ag (i9.ne i4)),j4,λl0 j0=>⟨l0,_,rfl,Ae.of Ag,rfl,_,_,rfl,_,_,rfl,rfl,λb hb=>?_⟩⟩;have eA:Ev p H (upd H2 l0 (.tup [.int (1+g1),.int mo])):=e1.trans ((Ev.new i4).trans (e2.trans (Ev.new j0)))
  replace I:=I.new (o:= .tup [.int (1+g1),.int mo]) j0
  have nb:b≠p:=I.ne hb;have j3:H b=none:=by
   cases z:H b with
   |none=>rfl
   |some o=>exact((eA b o z).elim (fun⟨x,_⟩=>absurd x nb) λx=>by rw[x]at hb;cases hb)
  refine⟨I.new hb,by decide,by decide,λg3 H3 a3 c3 e3 j5=>⟨g3,rfl,by lia,by lia,Em (n:=g3.toNat) (λi σ H4=>∃t f l,σ=[some (.ref p),some v,some (.int (1+g1)),some (.int mo),some (.ref b),t,f,l]/\Filled (GoodF P.bs.length (1+g1).toNat) p b H H4 i)
   ⟨_,_,_,rfl,eA.trans ((Ev.new hb).trans e3),j5,[],[],e3.lst Ag nb,.nil,(λ_ h=>nomatch h),rfl⟩ (λi σ H4 hi hP=>?_) fun σ H4 hP=>?_⟩⟩
  .obtain⟨t,f,l,rfl,ev,l6,xs,ds,hx,rs,gd,hl⟩:=hP;refine⟨l6,by lia,by lia,λf1 L a5 c5 e5 D=>⟨D,by lia,by lia,λf2 H6 a6 c6 e6 i0=>?_⟩⟩;have i5:Ev p H4 H6:=e5.trans e6;obtain⟨PA,PB,PE,PM,xb,xe,rfl,pA,pB,rb,pE,re,pM⟩:=Aa.plant (Aa.ev (ev.trans i5) _ _ r);have lb:=rb.len;rw[Y0]at lb;refine⟨.inl ⟨rfl,_,Al.of (i5.lst hx nb)⟩,PA,_,0,.ref PB,rfl,rfl,Ae.of pA,rfl,PB,xb,rfl,.inr (Ae.of pB),i0,by lia,by lia,λf3 H7 a7 c7 e7 i7 l2 Z=>⟨i7.new Z,by decide,by decide,λg4 H8 a8 c8 e8 j8=>?_⟩⟩;have hw:∃bb:Bool,B5 [V.str "out",.str "scaled"] g4=some (wV bb):=by
    have:g4=0\/g4=1:=by lia
    rcases this with rfl | rfl
    .exact⟨true,rfl⟩
    .exact⟨false,rfl⟩
   obtain⟨bb,hw⟩:=hw;refine⟨l2,_,g4,wV bb,rfl,rfl,Al.of (e8.lst Ag (i7.ne Z)),hw,λt1 G=>?_⟩;have J:Ev p H4 H8:=i5.trans (e7.trans ((Ev.new Z).trans e8));refine⟨b,xs,.ref t1,rfl,rfl,by rw[Aq (Bo (J.lst hx nb) G)];exact J.lst hx nb,Fb (by rw[<-rs.len,hl];lia),_,_,_,rfl,?_⟩;exact Filled.step (λd h=>h.nm) hx rs gd hl J nb j3 (ev.trans J) j8 G (Aa.tup Ag (.cons Aa.int (.cons Aa.str (.cons Aa.int (.cons Aa.int .nil))))) ⟨⟨f3,bb,f1,f1+f2⟩,rfl,⟨a7,by show f3<_;lia,a5,by show f1<=f1+f2;lia,by show f1+f2<_;lia⟩⟩
  .obtain⟨t,f,l,rfl,fb⟩:=hP;refine⟨_,rfl,by lia,by lia,Gu (n:=(1+g1).toNat) (λi ys L=>Ev p H4 L/\A3 p L/\∃ns:yV,ys=ns.map V.int/\ns.length=i/\∀u∈ns,0<=u/\u<=20) (by lia) ⟨Ev.refl,fb.pen,[],rfl,rfl,(λ_ h=>nomatch h)⟩ (λi ys L h=>?_) (λi ys L hi h=>?_) λys L h=>?_⟩
   .obtain⟨_,_,ns,rfl,hn,_⟩:=h;rw[Y0];lia
   .obtain⟨e5,D,ns,rfl,hn,hu⟩:=h;refine⟨⟨rfl,rfl,trivial⟩,λ_=>⟨D,by lia,by lia,λg6 H6 a6 c6 e6 i0=>⟨e5.trans e6,i0,ns++[g6],by rw [YW];rfl,by rw [Zj,hn];rfl,λu j6=>?_⟩⟩,λz=>by cases z⟩;rcases ZQ.mp j6 with h | h
    .exact hu u h
    .rw[Z2.mp h];lia
   .obtain⟨e5,D,ns,rfl,hn,hu⟩:=h;intro m hm;obtain⟨xs,fs,j9,j2,gf,lf⟩:=fb.done nb e5;refine⟨m,_,rfl,.inl ⟨Al.of Ag,λt1 G=>⟨b,xs,rfl,.inl ⟨Al.of ?_,λt2 i8 t3 i6=>?_⟩⟩⟩⟩
    .exact((Ab.new hm).trans (Ab.new G)) _ _ j9
    .obtain⟨lF,rfl,gl⟩:=OQ gf;rw [Y0] at lf;have s5:Ab L (upd (upd (upd (upd L m (.lst (ns.map V.int))) t1 (.tup (ns.map V.int))) t2 (.tup xs)) t3 (.tup [.ref t1,.ref t2])):=(Ab.new hm).trans ((Ab.new G).trans ((Ab.new i8).trans (Ab.new i6)));refine q _ _ ⟨ns,lF⟩ ⟨by show 1<=ns.length;lia,by show ns.length<=8;lia,hu,by show lF.length<=4;lia,λx hx=>?_⟩ ?_ ((fb.ev.trans e5).trans (Ev.same s5)) (D.same s5)
     .show x.ok _ ns.length;rw[hn];exact gl x hx
     .refine Aa.tup Ag (.cons (Aa.row ?_) (.cons (Aa.tup ?_ (Ad.ev (Ev.same s5) _ _ j2)) .nil))
      .exact((Ab.new i8).trans (Ab.new i6)) _ _ Ag
      .exact(Ab.new i6) _ _ Ag
inductive St6(a b c:yQ)(σ:L2.St):Prop
 |mk(x3 x4 x5 x6 x7 x8:_)(_:σ=[some (.ref a),some (.ref b),some (.ref c),x3,x4,x5,x6,x7,x8])
inductive St4(a b c:yQ)(i:Int)(d:yQ)(σ:L2.St):Prop
 |mk(y5 y6 y7 y8:_)(_:σ=[some (.ref a),some (.ref b),some (.ref c),some (.int i),some (.ref d),y5,y6,y7,y8])
def za9:As ["_law_plant_here","_law_story_here","_law_rows","_law_hour","_law_row","_law_boiler","_law_make","_law_coal","_law_words"] ["_law_plant_here","_law_story_here"] (Am wb7):=Az
def Wi(F:Df K mg "_law_caps" wb7 ["_law_plant_here","_law_story_here"])(T:Tx mg):Fn P w K mg base 1 "_law_caps" ["_law_plant_here","_law_story_here"] IY:=by
 k_dat ⟨za9,vs,hr⟩"h"
 refine⟨_,(Ai (zD 2 (Cs CS)) (Ai (B4 Zr rfl (CD rfl T.b_range (Ah (zG ((AI (Bd K) (cy 1) Ak (λ_ _=>rfl)))))) (zC 3) (Ai (zD 4 (Cs CS)) (Ai (B4 Zr rfl (Gz P w K rfl T.b_enumerate (Ah (AI (Bd K) (cy 0) Ak (λ_ _=>rfl)))) (AK K (n:=2) (Aj (zC 5) (Aj (zF 6 7) AJ))) (Ai (Gq (i:=8) ["_law_one","_law_word","_law_first","_law_last","_law_boiler","_law_hour"] [none,none,none,none,some 5,some 3] za9.nd rfl (AC (by rfl)) rfl (Bu K (AI (Bd K) (cy 1) Ak (λ_ _=>rfl))) (AB.of rfl) (λ_ _ _ _=>(zF 0 1 2 3)) (λ_ _ _ _=>(Gn (PW.pt (Gw (AU Dz (cy 0) (cy 4) (AV _)) (Gw (AU Ew (cy 2) (cy 5) (AV _)) (HA (AU Ew (cy 5) (cy 3) (AV _)))))))) (λ_ _ _ _=>(cy 1))) (An (A8 (CU PySem.F.plainAttrs_list PySem.F.slot_list_append PySem.F.type_list_append C2 (cy 4) (Ah (DE (AU (Fy K) Ax (cy 8) (by with_unfolding_all rfl)) Ak (Ay KR (cy 6) (Ay Bg Ak (A6 MN rfl T.b_int L2.boot_int (Ah (Fq (Fy K) Ax (cy 8) (by with_unfolding_all rfl))))))))))))) (An (A8 (CU PySem.F.plainAttrs_list PySem.F.slot_list_append PySem.F.type_list_append C2 (cy 2) (Ah (A6 (BN K) rfl T.b_tuple BH (Ah (cy 4)))))))))) (An (Av (A6 (BN K) rfl T.b_tuple BH (Ah (cy 2))))))),?_⟩;k_dat 0"u"
 .rename_i v u;obtain⟨p,P,S,ok,so,r,ru,q⟩:=h;obtain⟨A,B,E,xf,rfl,hA,hB,hE,rf⟩:=Aa.story ru;obtain⟨PA,PB,PE,PM,xb,xe,rfl,pA,pB,rb,pE,re,pM⟩:=Aa.plant r;have x8:=so.x8;have f4:=so.f4;have b4:=ok.b4;have lb:=rb.len;rw[Y0]at lb;have lf:=rf.len;rw[Y0]at lf;intro R hR;have s0:Ab H (upd H R (.lst [])):=Ab.new hR;refine⟨A,_,0,.ref B,rfl,rfl,Ae.of (s0 _ _ hA),rfl,B,_,rfl,.inr (Ae.of (s0 _ _ hB)),_,rfl,by lia,by rw[Y0];lia,Em (n:=(S.ex.map V.int).length) (λi σ J=>St6 PA A R σ/\Ab H J/\∃xs,J R=some (.lst xs)/\Ad p J (((caps P S).take i).map AS) xs)
   ⟨⟨_,_,_,_,_,_,rfl⟩,s0,[],Ag,.nil⟩ (λi σ J hi hP=>?_) fun σ J hP=>?_⟩
  .obtain⟨⟨x3,x4,x5,x6,x7,i6,rfl⟩,s1,xs,O,G⟩:=hP;rw[Y0]at hi;have lx:=G.len;rw[Y0,Za]at lx;intro b hb;have sb:Ab J (upd J b (.lst [])):=Ab.new hb;refine⟨PA,_,0,.ref PB,rfl,rfl,Ae.of (sb _ _ (s1 _ _ pA)),rfl,PB,rfl,⟨xb,Ae.of (sb _ _ (s1 _ _ pB))⟩,for_enum (xs:=xb) (λj σ I=>St4 PA A R (0+i) b σ/\Ab J I/\I b=some (.lst (((Ba P.bs S.fs i).take j).map V.int)))
    ⟨⟨_,_,_,_,rfl⟩,sb,Ag⟩ (λj σ I h=>Ae.of (h.2.1 _ _ (s1 _ _ pB))) (λj x σ I T hx h hT=>?_) fun σ I h=>?_⟩
   .obtain⟨⟨y5,y6,y7,y8,rfl⟩,s2,L⟩:=h;obtain⟨f,hf,rd⟩:=Ad.mapGot rb hx;have hj:j<xb.length:=(Y3.mp hx).1;have s3:Ab J (upd I T (.tup [.int j,x])):=s2.trans (Ab.new hT);have D:Ab H (upd I T (.tup [.int j,x])):=s1.trans s3;obtain⟨l,zs,rfl,i8,rz⟩:=Aa.shape (Aa.ev (Ev.same D) _ _ rd);obtain⟨z1,z2,rfl,r1,r2⟩:=Ad.two rz;unfold Aa at r1 r2;subst r1 r2;refine⟨T,_,rfl,Ae.of Ag,rfl,_,_,rfl,_,_,rfl,l,_,rfl,Ae.of i8,rfl,_,_,rfl,_,_,rfl,rfl,rfl,?_⟩;refine⟨A,_,1,.ref E,rfl,rfl,Ae.of (D _ _ hA),rfl,E,rfl,⟨xf,Ae.of (D _ _ hE)⟩,BC (xs:=xf) (λk ys H3=>Ab (upd I T (.tup [.int j,.ref l])) H3/\ys=(BI (S.fs.take k) j i).map wV) (by lia) ⟨Ab.refl _,rfl⟩ (λk ys H' h=>?_) (λk ys H' _ h=>Ae.of (h.1 _ _ (D _ _ hE))) (λk x ys H' hx h=>?_) λys H3 h=>?_⟩
    .rw[h.2,Y0];unfold BI;rw[Y0];exact Ze (cA _ _) (by rw[Za];lia)
    .obtain⟨g,hg,rg⟩:=Ad.mapGot rf hx;obtain⟨l2,i9,rfl,i5,i7⟩:=Aa.shape (Aa.ev (Ev.same (D.trans h.1)) _ _ rg);obtain⟨w1,w2,w3,w4,rfl,r1,r2,r3,r4⟩:=Ad.four i7;unfold Aa at r1 r2 r3 r4;subst r1 r2 r3 r4;have nx:=NF (b:=j) (h:=i) hg;have no:Cw j i g=false->Ab (upd I T (.tup [.int j,.ref l])) H'/\ys=(BI (S.fs.take (k+1)) j i).map wV:=λe=>⟨h.1,by rw [nx,e,YY (by decide)];exact h.2⟩
     refine⟨l2,_,rfl,Ae.of i5,rfl,_,_,rfl,_,_,rfl,_,_,rfl,_,_,rfl,rfl,⟨rfl,rfl,trivial⟩,rfl,⟨λc1=>⟨λc2=>⟨λc3=>?_,λc3=>no ?_⟩,λc2=>⟨λz=>(by cases z),λ_=>no ?_⟩⟩,λc1=>⟨λz=>(by cases z),λ_=>no ?_⟩⟩⟩
     .have e:Cw j i g=true:=by
       rw[En]at c1;rw[bQ]at c2 c3;unfold Cw;rw[c1,c2,c3];rfl
      refine⟨h.1,?_⟩;rw[nx,Z1 e,YW,h.2];rfl
     .rw[bQ]at c3;unfold Cw;rw[c3,bw]
     .rw[bQ]at c2;unfold Cw;rw[c2,bw,aq]
     .rw[En]at c1;unfold Cw;rw[c1,aq,aq]
    .intro m hm;have ew:ys=(BI S.fs j i).map wV:=by rw [h.2,Z0 (by lia)]
     subst ew;have s4:Ab I (upd H3 m (.lst ((BI S.fs j i).map wV))):=(Ab.new hT).trans (h.1.trans (Ab.new hm));have i0:=s4 _ _ L;have Z:(((Ba P.bs S.fs i).take j).map V.int).length<sizeLine:=Fb (by rw[Y0,Za];lia);refine⟨.inl ⟨rfl,_,Al.of i0⟩,m,_,rfl,.inl (Al.of Ag),rfl,Il,⟨λc=>?_,λc=>?_⟩⟩
     .rw [YY (by decide),Ik] at c;refine⟨b,_,.int 0,rfl,rfl,i0,Z,⟨_,_,_,_,rfl⟩,Ab.own (s2.trans s4) hb,?_⟩;have e:Cg (BI S.fs j i) f.1=0:=by unfold Cg;rw [Z1 c]
      rw[Ag,AY (KY hf),YW,e];rfl
     .rw [YY (by decide),Ik] at c;refine⟨m,_,rfl,.inl (Al.of Ag),rfl,Il,.inr ⟨_,rfl,?_⟩⟩;have ek:(if (false=true) then !C1 (V.str "scaled") ((BI S.fs j i).map wV) else C1 (V.str "scaled") ((BI S.fs j i).map wV))=(BI S.fs j i).any (!·):=by rw [YY (by decide)];exact KZ
      have e:=SO (m:=f.1) c;refine⟨Wg _,b,_,.int (Cg (BI S.fs j i) f.1),rfl,ZI (λz=>[V.int z]) ((ZI (fun(k:Bool)=>f.1 /(1+if k=true then 1 else 0)) ek).trans e),i0,Z,⟨_,_,_,_,rfl⟩,Ab.own (s2.trans s4) hb,?_⟩;rw[Ag,AY (KY hf),YW];rfl
   .obtain⟨⟨y5,y6,y7,y8,rfl⟩,s2,L⟩:=h;rw[Z0 (by rw[Ez];lia)]at L;refine⟨.inl ⟨rfl,_,Al.of (s2 _ _ O)⟩,b,_,rfl,.inl ⟨Al.of L,λt ht=>?_⟩⟩;have s3:Ab J (upd I t (.tup ((Ba P.bs S.fs i).map V.int))):=s2.trans (Ab.new ht);have i4:=s3 _ _ O;refine⟨R,xs,.ref t,rfl,rfl,i4,Fb (by lia),⟨_,_,_,_,_,_,rfl⟩,Ab.own (s1.trans s3) hR,_,Ag,?_⟩;have tv:=TEv.upd (zs:=xs++[.ref t]) i4;rw[AY (Br hi),YW];refine Ad.snoc (Ad.tev ((Ev.same (p:=p) s3).tev.trans tv) _ _ (CN λd hd=>?_) G) (Aa.tev tv _ _ (F6 _) (Aa.row (p:=p) Ag));obtain⟨rr,_,rfl⟩:=Zg.mp hd;exact F6 rr
  .obtain⟨⟨x3,x4,x5,x6,x7,i6,rfl⟩,s1,xs,O,G⟩:=hP;refine⟨R,xs,rfl,.inl ⟨Al.of O,λt ht=>q _ _ (s1.trans (Ab.new ht)) (Aa.tup Ag ?_)⟩⟩;rw[Z0 (by rw[Bs,Y0];exact Y5 _)]at G;exact Ad.ev (Ev.new ht) _ _ G
end
def CO(d:yP)(cs:yV):Bool:=match d with | .tuple ds=>decide (ds.length=cs.length) &&(List.zipWith (λe c=>AT e 0 c) ds cs).all id | _=>false
def C8(cs:yZ)(d:yP):Bool:=match d with | .tuple ds=>decide (ds.length=cs.length) &&(List.zipWith CO ds cs).all id | _=>false
def OR{d:yP}{n:Nat}(h:Bk d (n:Int) (n:Int)=true):∃ds,d= .tuple ds/\ds.length=n:=by
 cases d with
 |tuple ds=>
  unfold Bk at h;obtain⟨g,z⟩:=Z6.mp h;have g:=Z7 g;have z:=Z7 z;exact⟨ds,rfl,by lia⟩
 |_=>cases h
def Wj{d:yP}{cs:yV}(h:Bk d (cs.length:Int) (cs.length:Int)=false):CO d cs=false:=by
 cases d with
 |tuple ds=>
  unfold CO
  by_cases e:ds.length=cs.length
  .rw[FZ (by lia) (by lia)]at h;cases h
  .simp[e]
 |_=>rfl
def Wk{d:yP}{cs:yZ}(h:Bk d (cs.length:Int) (cs.length:Int)=false):C8 cs d=false:=by
 cases d with
 |tuple ds=>
  unfold C8
  by_cases e:ds.length=cs.length
  .rw[FZ (by lia) (by lia)]at h;cases h
  .simp[e]
 |_=>rfl
def OS{ds:List yP}{cs:yV}(h:ds.length=cs.length):CO (.tuple ds) cs=(List.zipWith (λe c=>AT e 0 c) ds cs).all id:=by
 unfold CO;simp[h]
def OT{ds:List yP}{cs:yZ}(h:ds.length=cs.length):C8 cs (.tuple ds)=(List.zipWith CO ds cs).all id:=by
 unfold C8;simp[h]
def F7{z g:Type}{f:z->g->Bool}{l:List z}{m:List g}{i:Nat}{a:z}{b:g}(D:l[i]? =some a)(G:m[i]? =some b):(List.zipWith f l m)[i]? =some (f a b):=by rw[ck,D,G]
def rowB_is{d:yP}{cs:yV}:CO d cs=true↔ ∃r:yV,d=AS r/\r.length=cs.length/\∀(j:Nat) (x c:Int),r[j]? =some x->cs[j]? =some c->0<=x/\x<=c:=by
 constructor
 .intro h;cases d with
  |tuple ds=>
   unfold CO at h;obtain⟨L,O⟩:=Z6.mp h;have L:=Z7 L;rw[Zx]at O;have hi:∀j (D:j<ds.length),∃x:Int,ds[j]= .int x/\∀c,cs[j]? =some c->0<=x/\x<=c:=λj D=>by
    have g:cs[j]? =some cs[j]:=Y6 (by lia);have J:=F7 (f:=λe c=>AT e 0 c) (Y6 D) g;have:=O _ (Y8 J);cases hd:ds[j] with
    |int x=>
     rw[hd]at this;have this:AT (.int x) 0 cs[j]=true:=this;unfold AT at this;obtain⟨a1,a2⟩:=Z6.mp this;refine⟨x,rfl,λc e=>?_⟩;rw[g]at e;cases e;exact⟨Z7 a1,Z7 a2⟩
    |_=>rw[hd]at this;cases this
   refine⟨ds.map λd=>match d with | .int x=>x | _=>0,?_,by rw[Y0];exact L,λj x c G g=>?_⟩
   .unfold AS
    congr 1
    refine List.ext_getElem (by simp) λj Z g2=>?_
    obtain⟨x,e,_⟩:=hi j Z;simp[e]
   .rw [YU] at G;have D:j<ds.length:=by have:=(Y3.mp g).1;lia
    obtain⟨y,e,b⟩:=hi j D;rw[Y6 D,e]at G;cases G;exact b c g
  |_=>cases h
 .rintro⟨r,rfl,hl,b⟩;unfold AS;rw[OS (by rw[Y0];exact hl),Zx];intro z J;obtain⟨j,D,e⟩:=List.getElem_of_mem J;rw[ba,Y0]at D;have G:r[j]? =some r[j]:=Y6 (by lia);have g:cs[j]? =some cs[j]:=Y6 (by lia);have:=b j _ _ G g;have I:=F7 (f:=λe c=>AT e 0 c) (l:=r.map .int) (a:= .int r[j]) (by rw[YU,G];rfl) g;rw[Y6 (by rw[ba,Y0];lia)]at I;have I:=Zb I;rw[I]at e;rw[<-e];exact CW this.1 this.2
def fireB_is{P:PL}{S:SY}{d:yP}:C8 (caps P S) d=true↔ ∃F,d=FD F/\FOk P S F:=by
 constructor
 .intro h;cases d with
  |tuple ds=>
   unfold C8 at h;obtain⟨G,I⟩:=Z6.mp h;have G:=Z7 G;rw[Zx]at I;have hi:∀i (hi:i<ds.length),∃r:yV,ds[i]=AS r/\r.length=P.bs.length/\∀(j:Nat) (x c:Int),r[j]? =some x->(Ba P.bs S.fs i)[j]? =some c->0<=x/\x<=c:=λi hi=>by
    have hc:=Br (P:=P) (S:=S) (i:=i) (by rw[<-Bs (P:=P) (S:=S)];lia);have Z:=F7 (f:=CO) (Y6 hi) hc;obtain⟨r,e,l,b⟩:=rowB_is.mp (I _ (Y8 Z));exact⟨r,e,by rw[l,Ez],b⟩
   have hF:∃F:yZ,ds=F.map AS/\∀(i:Nat) r,F[i]? =some r->r.length=P.bs.length/\∀(j:Nat) (x c:Int),r[j]? =some x->(Ba P.bs S.fs i)[j]? =some c->0<=x/\x<=c:=by
    clear h I;have L:∀(n:Nat),n<=ds.length->∃F:yZ,ds.take n=F.map AS/\∀(i:Nat) r,F[i]? =some r->r.length=P.bs.length/\∀(j:Nat) (x c:Int),r[j]? =some x->(Ba P.bs S.fs i)[j]? =some c->0<=x/\x<=c:=λn=>by
     induction n with
     |zero=>exact λ_=>⟨[],by simp,λi r h=>by cases h⟩
     |succ n ih=>
      intro hn;obtain⟨F,e,b⟩:=ih (by lia);obtain⟨r,D,b2⟩:=hi n (by lia);have lF:F.length=n:=by have:=ZI List.length e;rw[Za,Y0]at this;lia
      refine⟨F++[r],by rw[AY (Y6 (by lia)),e,D,YW];rfl,λi s J=>?_⟩
      by_cases c:i<F.length
      .rw[aY c]at J;exact b i s J
      .have O:=(Y3.mp J).1;rw [Zj,Zt] at O;obtain rfl:i=n:=by lia
       rw[<-lF,List.getElem?_concat_length]at J;cases J;exact b2
    obtain⟨F,e,b⟩:=L ds.length (Y5 _);exact⟨F,by rw[<-e,dq],b⟩
   obtain⟨F,rfl,b⟩:=hF;refine⟨F,rfl,?_,λi r g=>(b i r g).1,λi r j x c g=>(b i r g).2 j x c⟩;rw[Y0,Bs]at G;exact G
  |_=>cases h
 .rintro⟨F,rfl,fo⟩;unfold FD;have O:(F.map AS).length=(caps P S).length:=by rw[Y0,Bs,fo.len]
  rw[OT O,Zx];intro z Z;obtain⟨i,hi,e⟩:=List.getElem_of_mem Z;rw[ba,Y0]at hi;have g:F[i]? =some F[i]:=Y6 (by lia);have hc:=Br (P:=P) (S:=S) (i:=i) (by rw[<-fo.len];lia);have D:=F7 (f:=CO) (l:=F.map AS) (a:=AS F[i]) (by rw[YU,g];rfl) hc;rw[Y6 (by rw[ba,Y0];lia)]at D;have D:=Zb D;rw[D]at e;rw[<-e];exact rowB_is.mpr ⟨_,rfl,by rw[fo.row i _ g,Ez],λj x c G I=>fo.bd i _ j x c g G I⟩
def IZ:Sp:=λz H Q _=>zN (λv u=>∃p d cs,Aa p H d v/\Aa p H (AS cs) u/\cs.length<=1000/\∀b g,b=CO d cs->Ab H g->Q (.bl b) g) z
inductive GV_(H:Hp)(Q:VK)(v u w:V):Prop
 |mk(p P S d:_)(_:PL.ok P)(_:SY.ok S P.bs.length)(_:Aa p H P.d v)(_:Aa p H S.d u)(_:Aa p H d w)(_:∀b g,b=C8 (caps P S) d->Ab H g->Q (.bl b) g)
def GV:Sp:=λz H Q _=>zQ (GV_ H Q) z
inductive I9_(H:Hp)(Q:VK)(c w:V):Prop
 |mk(p P S d:_)(_:PL.ok P)(_:SY.ok S P.bs.length)(_:Aa p H (EU P S) c)(_:Aa p H d w)(_:∀b g,b=C8 (caps P S) d->Ab H g->Q (.bl b) g)
def I9:Sp:=λz H Q _=>zN (I9_ H Q) z
inductive Ly_(H:Hp)(Q:VK)(v u w:V):Prop
 |mk(p P S F:_)(_:Tri p H P S F v u w)(_:∀g,Ab H g->Q .non g)
def Ly:Sp:=λz H Q _=>zQ (Ly_ H Q) z
inductive GW_(H:Hp)(Q:VK)(v u w:V):Prop
 |mk(p P S F:_)(_:Tri p H P S F v u w)(_:∀t R D g k s z,Run P S F k s->Ab H g->H R=none->g t=some (.tup [.ref R,D])->g R=some (.lst z)->Ad p g (Dj P S F k) z->Aa p g (GE s) D->Q (.ref t) g)
def GW:Sp:=λG H Q _=>zQ (GW_ H Q) G
inductive GX_(H:Hp)(Q:VK)(v u w:V):Prop
 |mk(p P S F:_)(_:Tri p H P S F v u w)(_:∀R g k s z,Run P S F k s->Ab H g->H R=none->g R=some (.lst z)->Ad p g (Dj P S F k) z->Q (.ref R) g)
def GX:Sp:=λD H Q _=>zQ (GX_ H Q) D
def Jf:Sp:=λD H Q _=>zQ (λv u w=>∃p P S F,Tri p H P S F v u w/\∀z g k s,Run P S F k s->Ab H g->Aa p g (GE s) z->Q z g) D
def Ji:Sp:=λg H Q _=>zQ (λv u w=>∃p P S F,Tri p H P S F v u w/\ret H Q p (AS (Ct P F))) g
def Aa.firing{p:yQ}{H:Hp}{F:yZ}{v:V}(r:Aa p H (FD F) v):∃A xs,v= .ref A/\H A=some (.tup xs)/\Ad p H (F.map AS) xs:=Aa.shape r
def Aa.ofRow{p:yQ}{H:Hp}{r:yV}{v:V}(h:Aa p H (AS r) v):∃A,v= .ref A/\H A=some (.tup (r.map V.int)):=by
 obtain⟨A,D,rfl,g,z⟩:=Aa.shape h;rw[Ad.ints z]at g;exact⟨A,rfl,g⟩
section
def Wm(F:Df K mg "is_row" wav ["thing","caps"])(T:Tx mg)(L:Dp P w K mg base)(I:DM P w K mg base):Fn P w K mg base 3 "is_row" ["thing","caps"] IZ:=by
 k_dat ["thing","caps"]"f"
 refine⟨_,(An (Av (BG (zA L hr (AH (cy 0) (zG (cy 1)) (zG (cy 1)))) (CB (AG (Ex rfl) rfl T.b_all ci (Ah (AW ["part","cap"] [none,none] rfl (Ij P w K rfl T.b_zip (Ar (cy 0) (cy 1))) (AB.of rfl) (λ_ _ _ _=>(zF 0 1)) (λ_ _ _ _=>AR) (λ_ _ _ _=>(zA I hr (AH (cy 0) Ak (cy 1))))))))))),?_⟩;k_dat 0"u"
 .rename_i v u;obtain⟨p,d,cs,rv,ru,Z,q⟩:=h;obtain⟨B,rfl,G⟩:=Aa.ofRow ru;refine⟨B,_,rfl,.inr (Ae.of G),B,_,rfl,.inr (Ae.of G),p,d,rv,λb O=>?_⟩;rw[Y0]at O;refine⟨λc=>?_,λc=>q _ H ?_ (Ab.refl _)⟩
  .rw[O]at c;obtain⟨ds,rfl,hl⟩:=OR c;obtain⟨A,xs,rfl,hA,rs⟩:=Aa.shape rv;have lx:=rs.len;refine⟨A,B,rfl,⟨_,Ae.of hA⟩,⟨_,Ae.of G⟩,walk_zip (xs:=xs) (ys:=cs.map V.int) (λi D g=>Ab H g/\D=((List.zipWith (λe c=>AT e 0 c) ds cs).take i).map V.bl) (by lia) (by rw[Y0];lia) ⟨Ab.refl _,rfl⟩
    (λi D g h=>by rw[h.2,Y0,Za];lia) (λi D g h=>⟨Ae.of (h.1 _ _ hA),Ae.of (h.1 _ _ G)⟩) (λi x y D g T hx z h hT=>?_) λD g h=>?_⟩
   .obtain⟨e,he,re⟩:=rs.got hx;rw [YU] at z;cases J:cs[i]? with
    |none=>rw[J]at z;cases z
    |some m=>
     rw[J]at z;cases z;have nT:=Ab.new (o:= .tup [x,.int m]) hT;refine⟨T,_,rfl,Ae.of Ag,rfl,_,_,rfl,_,_,rfl,rfl,trivial,λ_=>⟨p,e,Aa.ev (Ev.same (h.1.trans nT)) _ _ re,λb1 e1=>⟨h.1.trans nT,?_⟩⟩,λc=>by cases c⟩;rw[h.2,AY (F7 (f:=λe c=>AT e 0 c) he J),YW,e1];rfl
   .intro m hm;refine⟨m,List.zipWith (λe c=>AT e 0 c) ds cs,rfl,by rw[Ag,h.2,Z0 (by rw[ba];lia)],?_⟩;exact q _ _ (OS hl).symm (h.1.trans (Ab.new hm))
  .rw[O]at c;exact(Wj c).symm
def Wo(F:Df K mg "is_firing_within" wau ["caps","thing"])(T:Tx mg)(O:Fn P w K mg base 3 "is_row" ["thing","caps"] IZ)(J:Dp P w K mg base):Fn P w K mg base 4 "is_firing_within" ["caps","thing"] I9:=by
 k_dat ["caps","thing"]"f"
 refine⟨_,(An (Av (BG (zA J hr (AH (cy 1) (zG (cy 0)) (zG (cy 0)))) (CB (AG (Ex rfl) rfl T.b_all ci (Ah (AW ["part","row"] [none,none] rfl (Ij P w K rfl T.b_zip (Ar (cy 1) (cy 0))) (AB.of rfl) (λ_ _ _ _=>(zF 0 1)) (λ_ _ _ _=>AR) (λ_ _ _ _=>(zA O hr (Ar (cy 0) (cy 1))))))))))),?_⟩;k_dat 0"u"
 .rename_i c w;obtain⟨p,P,S,d,ok,so,rc,z,q⟩:=h;have x8:=so.x8;have b4:=ok.b4;obtain⟨B,cx,rfl,I,rB⟩:=Aa.firing (F:=caps P S) rc;have lB:=rB.len;rw[Y0]at lB;have lc:(caps P S).length=S.ex.length:=Bs;refine⟨B,_,rfl,.inr (Ae.of I),B,_,rfl,.inr (Ae.of I),p,d,z,λb L=>?_⟩;rw[<-lB]at L;refine⟨λc=>?_,λc=>q _ H ?_ (Ab.refl _)⟩
  .rw[L]at c;obtain⟨ds,rfl,hl⟩:=OR c;obtain⟨A,xs,rfl,hA,Z⟩:=Aa.shape z;have lx:=Z.len;refine⟨A,B,rfl,⟨_,Ae.of hA⟩,⟨_,Ae.of I⟩,walk_zip (xs:=xs) (ys:=cx) (λi D g=>Ab H g/\D=((List.zipWith CO ds (caps P S)).take i).map V.bl) (by lia) (by lia) ⟨Ab.refl _,rfl⟩
    (λi D g h=>by rw[h.2,Y0,Za];lia) (λi D g h=>⟨Ae.of (h.1 _ _ hA),Ae.of (h.1 _ _ I)⟩) (λi x y D g T hx hy h hT=>?_) λD g h=>?_⟩
   .obtain⟨e,he,re⟩:=Z.got hx;obtain⟨m,G,rm⟩:=Ad.mapGot rB hy;have nT:=Ab.new (o:= .tup [x,y]) hT;have hi:i<S.ex.length:=by have:=(Y3.mp G).1;lia
    have lm:m.length<=1000:=by
     have:=Br (P:=P) hi;rw[G]at this;rw[Zb this,Ez];lia
    refine⟨T,_,rfl,Ae.of Ag,rfl,_,_,rfl,_,_,rfl,rfl,trivial,λ_=>⟨p,e,m,Aa.ev (Ev.same (h.1.trans nT)) _ _ re,Aa.ev (Ev.same (h.1.trans nT)) _ _ rm,lm,λb1 H2 e1 s2=>⟨h.1.trans (nT.trans s2),?_⟩⟩,λc=>by cases c⟩;rw[h.2,AY (F7 (f:=CO) he G),YW,e1];rfl
   .intro m G;refine⟨m,List.zipWith CO ds (caps P S),rfl,by rw[Ag,h.2,Z0 (by rw[ba];lia)],?_⟩;exact q _ _ (OT hl).symm (h.1.trans (Ab.new G))
  .rw[L]at c;exact(Wk c).symm
def Wq(F:Df K mg "is_firing" was ["plant","story","thing"])(T:Tx mg)(D:F5 P w K mg base)(z:Fn P w K mg base 4 "is_firing_within" ["caps","thing"] I9):Fn P w K mg base 10 "is_firing" ["plant","story","thing"] GV:=by
 k_dat ⟨["plant","story","thing"],J,G⟩"g"
 refine⟨_,(An (Av (zA z G (Ar (zA D G (Ar (cy 0) (cy 1))) (cy 2))))),?_⟩;k_dat 0"u"
 .rename_i v u w;obtain⟨p,P,S,d,ok,so,rv,ru,g,q⟩:=h;exact⟨p,P,S,ok,so,rv,ru,λv1 H1 I Z=>⟨p,P,S,d,ok,so,Z,Aa.ev (Ev.same I) _ _ g,λb O e L=>q b O e (I.trans L)⟩⟩
def OU:As ["plant","story","firing"] ["plant","story","firing"] (Am wa3):=Az
abbrev Jj(P:yO)(w:yK)(K:Fgx)(mg:Str->yW)(base:Heap):Prop:=Fn P w K mg base 11 "need_firing" ["plant","story","firing"] Ly
def Wr(F:Df K mg "need_firing" wa3 ["plant","story","firing"])(T:Tx mg)(z:Fn P w K mg base 10 "is_firing" ["plant","story","thing"] GV):Jj P w K mg base:=by
 k_dat ⟨OU,D,G⟩"h"
 refine⟨_,(An (A1 (BR (BM (zA z G (AH (cy 0) (cy 1) (cy 2))))) (An Km) AZ)),?_⟩;k_dat 0"u"
 .rename_i v u w;obtain⟨p,P,S,F,g,q⟩:=h;refine⟨p,P,S,FD F,g.ok,g.so,g.r,g.ru,g.rw,λb I e s=>?_⟩;rw[fireB_is.mpr ⟨F,rfl,g.fo⟩]at e;subst e;exact⟨λc=>(by cases c),λc=>q I s⟩
inductive StD(a:yQ)(u:V)(b:yQ)(i j k:Int)(r:yQ)(σ:L2.St):Prop
 |mk(x7 x8 x9 i0:_)(_:σ=[some (.ref a),some u,some (.ref b),some (.int i),some (.int j),some (.int k),some (.ref r),x7,x8,x9,i0])
def za2:As ["plant","story","firing","low","high","main","rows","hour","drawn","made","blown"] ["plant","story","firing"] (Am waw):=Az
def Ws(F:Df K mg "run_day" waw ["plant","story","firing"])(T:Tx mg)(j2:Fn P w K mg base 9 "draws_of" ["plant","story"] GU)(i8:Jj P w K mg base):Fn P w K mg base 12 "run_day" ["plant","story","firing"] GW:=by
 k_dat ⟨za2,vs,hr⟩"h"
 refine⟨_,(Ai (A8 (zA i8 hr (AH (cy 0) (cy 1) (cy 2)))) (Ai (Bb (AI (Bd K) (cy 0) Ak (λ_ _=>rfl)) (zF 3 4 5)) (Ai (zD 6 (Cs CS)) (Ai (B4 Zr rfl (Gz P w K rfl T.b_enumerate (Ah (zA j2 hr (Ar (cy 0) (cy 1))))) (zF 7 8) (Ai (zD 9 (AG (EW rfl) rfl T.b_sum bR (Ah (AI (Bd K) (cy 2) (cy 7) (λ_ _=>rfl))))) (Ai (Mw (i:=5) za2.nd rfl (AC (by rfl)) (Ay BL (cy 9) (cy 8)) Ko) (Ai (A1 (AU Eu (cy 5) (cy 3) (AV _)) (An (Av (Ce (Ar (cy 6) (Ce (Ar (cy 7) (Ay BL (cy 3) (cy 5)))))))) AZ) (Ai (zD 10 (AG (MM rfl) rfl T.b_max boot_max (Ar (Ay BL (cy 5) (cy 4)) Ak))) (Ai (Mw (i:=5) za2.nd rfl (AC (by rfl)) (cy 10) Qt) (An (A8 (CU PySem.F.plainAttrs_list PySem.F.slot_list_append PySem.F.type_list_append C2 (cy 6) (Ah (Ce (C6 (cy 9) (cy 8) (cy 10) (cy 5))))))))))))) (An (Av (Ce (Ar (cy 6) EL)))))))),?_⟩;k_dat 0"u"
 .rename_i v u w;obtain⟨p,P,S,F,tr,q⟩:=h;refine⟨p,P,S,F,tr,λH1 s1=>?_⟩;have t1:=tr.sm s1;have x8:=tr.so.x8;have fl:=tr.fo.len;obtain⟨PA,PB,PE,PM,xb,xe,rfl,pA,pB,rb,pE,re,pM⟩:=Aa.plant t1.r;refine⟨PA,_,2,.ref PM,rfl,rfl,Ae.of pA,rfl,PM,_,rfl,Ae.of pM,rfl,_,_,rfl,_,_,rfl,_,_,rfl,rfl,λR hR=>?_⟩;have sR:Ab H1 (upd H1 R (.lst [])):=Ab.new hR;have O:H R=none:=s1.free hR;have tR:=t1.sm sR;refine⟨p,P,S,tr.ok,tr.so,tR.r,tR.ru,λv1 H2 s2 r2=>?_⟩;obtain⟨D,rfl,hD⟩:=Aa.ofRow (r:=draws P S) r2;have t2:=tR.sm s2;have i7:Ab H H2:=s1.trans (sR.trans s2);obtain⟨FA,fx,rfl,hF,rx⟩:=Aa.firing t2.rw;refine⟨D,rfl,⟨_,Ae.of hD⟩,for_enum (xs:=(draws P S).map V.int) (λi σ J=>StD PA u FA P.lo P.hi (A5 P S F i) R σ/\Ev R H2 J/\(∀j,j<i->P.lo<=Ch P S F j)/\∃xs,J R=some (.lst xs)/\Ad p J (Dj P S F i) xs)
   ⟨⟨_,_,_,_,rfl⟩,Ev.refl,(λj hj=>absurd hj (aR _)),[],s2 _ _ Ag,.nil⟩ (λi σ J h=>Ae.of (h.2.1.tup hD)) (λi x σ J T hx h hT=>?_) fun σ J h=>?_⟩
  .obtain⟨⟨x7,j0,x9,i0,rfl⟩,ev,up,xs,I,g⟩:=h;rw [YU] at hx;cases z:(draws P S)[i]? with
   |none=>rw[z]at hx;cases hx
   |some d=>
    rw[z]at hx;cases hx;have hi:i<S.ex.length:=by
     have:=(Y3.mp z).1;rw[EA]at this;exact this
    have ed:=NM z;obtain⟨r,hr⟩:∃r,F[i]? =some r:=⟨F[i],by simp⟩;have em:=NL hr;obtain⟨y,hy,ry⟩:=rx.get (i:=i) (d:=AS r) (by rw[YU,hr];rfl);have L:Ab J (upd J T (.tup [.int i,.int d])):=Ab.new hT;have Z:Ev R H2 (upd J T (.tup [.int i,.int d])):=ev.trans (Ev.same L);obtain⟨ra,rfl,i9⟩:=Aa.ofRow ry;refine⟨T,_,rfl,Ae.of Ag,rfl,_,_,rfl,_,_,rfl,rfl,?_⟩;refine⟨FA,_,(i:Int),.ref ra,rfl,rfl,Ae.of (Z.tup hF),Cr hy,ra,r,rfl,.inr (Z.tup i9),_,rfl,_,_,rfl,rfl,?_⟩;have G:A5 P S F i+(r.sum-d)=Ch P S F i:=by unfold Ch;rw[em,ed]
    refine⟨λc=>?_,λc=>?_⟩
    .intro t1 j3 t2 i6;have c':=Z7 c;have i4:=(Ab.new (o:= .tup [.int i,.int (P.lo-(A5 P S F i+(r.sum-d)))]) j3).trans (Ab.new (o:= .tup [.ref R,.ref t1]) i6);refine q t2 R (.ref t1) _ i (some ((i:Int),P.lo-Ch P S F i)) xs ⟨ZZ hi,up,.inr ⟨hi,by rw[<-G];exact c',rfl⟩⟩ (Ab.evOwn i7 O (Z.trans (Ev.same i4))) O Ag ((L.trans i4) _ _ I) (Ad.ev (Ev.same (L.trans i4)) _ _ g) ?_;refine Aa.tup ((Ab.new i6) _ _ Ag) ?_;rw[<-G];exact .cons Aa.int (.cons Aa.int .nil)
    .refine⟨_,_,rfl,_,rfl,_,_,rfl,rfl,.inl ⟨rfl,_,Al.of (L _ _ I)⟩,λt ht=>?_⟩;have c':P.lo<=Ch P S F i:=by
      have:=Zw c;have h2:¬A5 P S F i+(r.sum-d)<P.lo:=this;rw[G]at h2;lia
     have lx:=g.len;rw[K2]at lx;have i5:upd (upd J T (.tup [.int i,.int d])) t (.tup [.int r.sum,.int d,.int (if 0>A5 P S F i+(r.sum-d)-P.hi then 0 else A5 P S F i+(r.sum-d)-P.hi),.int (A5 P S F i+(r.sum-d)-if 0>A5 P S F i+(r.sum-d)-P.hi then 0 else A5 P S F i+(r.sum-d)-P.hi)]) R=some (.lst xs):=(L.trans (Ab.new ht)) _ _ I;have j4:A5 P S F i+(r.sum-d)-(if 0>A5 P S F i+(r.sum-d)-P.hi then 0 else A5 P S F i+(r.sum-d)-P.hi)=A5 P S F (i+1):=by rw[K1,<-G];rfl
     refine⟨R,xs,.ref t,rfl,rfl,i5,Fb (by lia),⟨some (.int i),some (.int d),some (.int r.sum),some (.int (if 0>A5 P S F i+(r.sum-d)-P.hi then 0 else A5 P S F i+(r.sum-d)-P.hi)),ZI (λz=>[some (V.ref PA),some u,some (V.ref FA),some (V.int P.lo),some (V.int P.hi),some (V.int z),some (V.ref R),some (V.int i),some (V.int d),some (V.int r.sum),some (V.int (if 0>A5 P S F i+(r.sum-d)-P.hi then 0 else A5 P S F i+(r.sum-d)-P.hi))]) j4⟩,(Z.trans (Ev.new ht)).trans (Ev.pen i5),λj hj=>?_,_,Ag,?_⟩
     .by_cases cj:j=i
      .subst cj;exact c'
      .exact up j (by lia)
     .have tv:=TEv.upd (zs:=xs++[.ref t]) i5;rw [SR];refine Ad.snoc (Ad.tev ((Ev.same (p:=p) (L.trans (Ab.new ht))).tev.trans tv) _ _ (CN λd hd=>?_) g) (Aa.tev (p:=p) tv _ _ rfl (Aa.tup Ag ?_))
      .unfold Dj at hd;obtain⟨k,_,rfl⟩:=Zg.mp hd
       rfl
      .rw[em,ed,K1,<-G];exact .cons Aa.int (.cons Aa.int (.cons Aa.int (.cons Aa.int .nil)))
  .obtain⟨⟨x7,j0,x9,i0,rfl⟩,ev,up,xs,I,g⟩:=h;rw[Y0,EA]at up g;intro t ht;have L:=Ab.new (o:= .tup [.ref R,.non]) ht;exact q t R .non _ S.ex.length none xs ⟨Y5 _,up,.inl ⟨rfl,rfl⟩⟩ (Ab.evOwn i7 O (ev.trans (Ev.same L))) O Ag (L _ _ I) (Ad.ev (Ev.same L) _ _ g) Aa.non
def Wt(F:Df K mg "course" wax ["plant","story","firing"])(T:Tx mg)(z:Fn P w K mg base 12 "run_day" ["plant","story","firing"] GW):Fn P w K mg base 13 "course" ["plant","story","firing"] GX:=by
 k_dat ⟨["plant","story","firing","rows","short"],D,J⟩"g"
 refine⟨_,(Ai (Bb (zA z J (AH (cy 0) (cy 1) (cy 2))) (zF 3 4)) (An (Av (cy 3)))),?_⟩;k_dat 0"u"
 .rename_i v u w;obtain⟨p,P,S,F,I,q⟩:=h;exact⟨p,P,S,F,I,λt R sv H' k s O run sm Z L g G rs=>⟨t,_,rfl,Ae.of L,rfl,_,_,rfl,_,_,rfl,rfl,q R H' k s O run sm Z g G⟩⟩
def Wu(F:Df K mg "falls_at" waz ["plant","story","firing"])(T:Tx mg)(g:Fn P w K mg base 12 "run_day" ["plant","story","firing"] GW):Fn P w K mg base 13 "falls_at" ["plant","story","firing"] Jf:=by
 k_dat ⟨["plant","story","firing","rows","short"],z,J⟩"g"
 refine⟨_,(Ai (Bb (zA g J (AH (cy 0) (cy 1) (cy 2))) (zF 3 4)) (An (Av (cy 4)))),?_⟩;k_dat 0"u"
 .rename_i v u w;obtain⟨p,P,S,F,I,q⟩:=h;exact⟨p,P,S,F,I,λt R O Z k s xs run sm hR L D rx G=>⟨t,_,rfl,Ae.of L,rfl,_,_,rfl,_,_,rfl,rfl,q O Z k s run sm G⟩⟩
def Ww(F:Df K mg "steam_by" waB ["plant","story","firing"])(T:Tx mg)(Z:Jj P w K mg base):Fn P w K mg base 12 "steam_by" ["plant","story","firing"] Ji:=by
 k_dat ⟨["plant","story","firing"],vs,L⟩"g"
 refine⟨_,(Ai (A8 (zA Z L (AH (cy 0) (cy 1) (cy 2)))) (An (Av (A6 (BN K) rfl T.b_tuple BH (Ah (AW ["boiler","firing"] [none,some 2] rfl (CD rfl T.b_range (Ah (zG ((AI (Bd K) (cy 0) Ak (λ_ _=>rfl)))))) (AB.of rfl) (λ_ _ _ _=>(zC 0)) (λ_ _ _ _=>AR) (λ_ _ _ _=>(AG (EW rfl) rfl T.b_sum bR (Ah (AW ["row","boiler"] [none,some 0] rfl (Bu K (cy 1)) (AB.of rfl) (λ_ _ _ _=>(zC 0)) (λ_ _ _ _=>AR) (λ_ _ _ _=>(AI (Bd K) (cy 0) (cy 1) (λ_ _=>rfl))))))))))))),?_⟩;k_dat 0"u"
 .rename_i v u w;obtain⟨p,P,S,F,D,q⟩:=h;refine⟨p,P,S,F,D,λH1 s1=>?_⟩;have t1:=D.sm s1;have x8:=D.so.x8;have b4:=D.ok.b4;have fl:=D.fo.len;obtain⟨PA,PB,PE,PM,xb,xe,rfl,pA,pB,rb,pE,re,pM⟩:=Aa.plant t1.r;obtain⟨FA,fx,rfl,hF,rx⟩:=Aa.firing t1.rw;have lb:=rb.len;rw[Y0]at lb;have lx:=rx.len;rw[Y0]at lx;refine⟨PA,_,0,.ref PB,rfl,rfl,Ae.of pA,rfl,PB,_,rfl,.inr (Ae.of pB),_,rfl,by lia,by lia,Gu (n:=xb.length) (λi O J=>Ab H1 J/\O=((Ct P F).take i).map V.int) (by lia) ⟨Ab.refl _,rfl⟩ (λi O J h=>by rw[h.2,Y0,Za];lia) (λi O J hi h=>?_) λO J h=>?_⟩
  .refine⟨⟨rfl,trivial⟩,λ_=>?_,λz=>by cases z⟩;refine⟨FA,rfl,⟨fx,Ae.of (h.1 _ _ hF)⟩,BC (xs:=fx) (λj G I=>Ab H1 I/\G=((F.take j).map λr=>r.getD i 0).map V.int) (by lia) ⟨h.1,rfl⟩ (λj G I h=>by rw [h.2,Y0,Y0,Za];lia) (λj G I _ h=>Ae.of (h.1 _ _ hF)) (λj x G I hx g=>?_) λG I g=>?_⟩
   .obtain⟨r,L,rr⟩:=Ad.mapGot rx hx;obtain⟨ra,rfl,i0⟩:=Aa.ofRow (Aa.ev (Ev.same g.1) _ _ rr);have i4:=D.fo.row j r L;have hg:r[i]? =some (r.getD i 0):=by rw [Y7,Y6 (by lia)];rfl
    refine⟨⟨rfl,trivial⟩,λ_=>⟨ra,_,_,.int (r.getD i 0),rfl,rfl,Ae.of i0,?_,g.1,?_⟩,λz=>by cases z⟩
    .rw[bQ];exact Cr (by rw[YU,hg];rfl)
    .rw[AY L,YW,YW,g.2];rfl
   .intro m hm;refine⟨m,F.map λr=>r.getD i 0,rfl,.inl ?_,g.1.trans (Ab.new hm),?_⟩
    .rw[Ag,g.2,Z0 (by lia)]
    .have hg:(Ct P F)[i]? =some (F.map λr=>r.getD i 0).sum:=by unfold Ct;rw [YU,ai (by lia)];rfl
     rw[AY hg,YW,h.2];rfl
  .intro m hm;refine⟨m,_,rfl,.inl ⟨Al.of Ag,λt ht=>?_⟩⟩;refine q _ _ (s1.trans (h.1.trans ((Ab.new hm).trans (Ab.new ht)))) (Aa.row ?_);rw[Ag,h.2,Z0 (by unfold Ct;rw[Y0,ZU];lia)]
end
def Wx(r c:yV):Prop:=r.length=c.length/\∀(j:Nat) (x y:Int),r[j]? =some x->c[j]? =some y->0<=x/\x<=y
def Jq:Sp:=λz H Q _=>zE (λp v=>A3 p H/\∃P S,PL.ok P/\SY.ok S P.bs.length/\Aa p H (EU P S) v/\∀w g F,FOk P S F->Aa p g (FD F) w->Ev p H g->A3 p g->Q w g) z
def OV{g:Type}{l:List g}{a x:g}{k:Nat}(h:(l++[a])[k]? =some x):l[k]? =some x\/(k=l.length/\x=a):=by
 by_cases c:k<l.length
 .rw[aY c]at h;exact .inl h
 .rw[aN (by lia)]at h;have:k-l.length=0:=by
   have:=(Y3.mp h).1;simp at this;lia
  rw[this]at h;cases h;exact .inr ⟨by lia,rfl⟩
section
def Wy(F:Df K mg "_law_firing" wb8 ["_law_pen_here","_law_caps_here"])(T:Tx mg)(i0:FY P w K mg base):Fn P w K mg base 2 "_law_firing" ["_law_pen_here","_law_caps_here"] Jq:=by
 k_dat ⟨["_law_pen_here","_law_caps_here","_law_way","_law_rows","_law_row"],vs,G⟩"g"
 refine⟨_,(Ai (Bb (Ce (Ar (zA i0 G (Ar (cy 0) Ak)) (Cs CS))) (zF 2 3)) (Ai (B4 Zr rfl (Bu K (cy 1)) (zC 4) (An (A8 (CU PySem.F.plainAttrs_list PySem.F.slot_list_append PySem.F.type_list_append C2 (cy 3) (Ah (A6 (BN K) rfl T.b_tuple BH (Ah (AW ["_law_cap","_law_way","_law_pen_here"] [none,some 2,some 0] rfl (Bu K (cy 4)) (AB.of rfl) (λ_ _ _ _=>(zC 0)) (λ_ _ _ _=>AR) (λ_ _ _ _=>(AI (Bj K) (Cs (C6 (cy 0) Ak (zA i0 G (Ar (cy 2) (Ay Bg (cy 0) Ak))) (zA i0 G (Ar (cy 2) (Ay Bg (cy 0) Ak))))) (cy 1) (λ_ _=>rfl))))))))))) (An (Av (A6 (BN K) rfl T.b_tuple BH (Ah (cy 3))))))),?_⟩;k_dat 0"u"
 .rename_i p v;obtain⟨pn,P,S,ok,so,r,q⟩:=h;have x8:=so.x8;have b4:=ok.b4;refine⟨pn,by decide,by decide,λD H1 a1 c1 e1 j0 R hR l0 j2=>⟨l0,_,rfl,Ae.of Ag,rfl,_,_,rfl,_,_,rfl,rfl,?_⟩⟩;have nR:R≠p:=j0.ne hR;have l6:H R=none:=by
   cases z:H R with
   |none=>rfl
   |some o=>exact((e1 R o z).elim (fun⟨x,_⟩=>absurd x nR) λx=>by rw[x]at hR;cases hR)
  have s2:Ab H1 (upd (upd H1 R (.lst [])) l0 (.tup [.int D,.ref R])):=(Ab.new hR).trans (Ab.new j2);have O:=(Ab.new (o:= .tup [.int D,.ref R]) j2) _ _ (Ag (H:=H1) (a:=R) (o:= .lst []));unfold EU at r;obtain⟨A,xs,rfl,hA,rx⟩:=Aa.shape (Aa.ev (e1.trans (Ev.same s2)) _ _ r);have lx:=rx.len;rw[Y0,Bs]at lx;refine⟨A,rfl,⟨xs,Ae.of hA⟩,QE (xs:=xs) (λi σ I=>(∃x4,σ=[some (.ref p),some (.ref A),some (.int D),some (.ref R),x4])/\Ev p (upd (upd H1 R (.lst [])) l0 (.tup [.int D,.ref R])) (upd I R (.lst []))/\Ev p H I/\A3 p I/\∃Z F,I R=some (.lst Z)/\Ad p I (F.map AS) Z/\F.length=i/\∀(k:Nat) (r c:yV),F[k]? =some r->(caps P S)[k]? =some c->Wx r c)
   ⟨⟨_,rfl⟩,?_,e1.trans (Ev.same s2),j0.same s2,[],[],O,.nil,rfl,(λk r c h=>by simp at h)⟩ (λi σ I _ h=>?_) (λi x σ I g h=>?_) fun σ I h=>?_⟩
  .intro b o hb
   by_cases z:b=R
   .subst z;rw[O]at hb;cases hb;exact .inr Ag
   .exact .inr (by rw[Aq z];exact hb)
  .have ha:=h.2.1.tup hA;have:A≠R:=by
    intro z;subst z;rw[O]at hA;cases hA
   rw[Aq this]at ha;exact Ae.of ha
  .obtain⟨⟨x4,rfl⟩,i6,ev,i5,Z,F,L,rF,lF,J⟩:=h;obtain⟨cs,i4,j7⟩:=Ad.mapGot rx g;have j3:=(B7 ok cs (Y8 i4)).1;have n9:=(B7 ok cs (Y8 i4)).2;obtain⟨C,rfl,hC⟩:=Aa.ofRow j7;have i8:I C=some (.tup (cs.map V.int)):=by
    have ha:=i6.tup hC;have:C≠R:=by
     intro z;subst z;rw[O]at hC;cases hC
    rw[Aq this]at ha;exact ha
   refine⟨.inl ⟨rfl,_,Al.of L⟩,C,rfl,⟨_,Ae.of i8⟩,BC (xs:=cs.map V.int) (λj zs H3=>Ev p I H3/\A3 p H3/\∃ns:yV,zs=ns.map V.int/\ns.length=j/\∀(k:Nat) (x y:Int),ns[k]? =some x->cs[k]? =some y->0<=x/\x<=y) (by rw[Y0];lia) ⟨Ev.refl,i5,[],rfl,rfl,(λk x y h=>by simp at h)⟩ (λj zs H3 h=>?_) (λj zs H3 _ h=>Ae.of (h.1.tup i8)) (λj x zs H3 g h=>?_) λzs H3 h=>?_⟩
   .obtain⟨_,_,ns,rfl,hn,_⟩:=h;rw[Y0];lia
   .obtain⟨e3,i7,ns,rfl,hn,hb⟩:=h;rw [YU] at g;cases z:cs[j]? with
    |none=>rw[z]at g;cases g
    |some c=>
     rw[z]at g;cases g;have n5:=j3 c (Y8 z);refine⟨⟨rfl,rfl,trivial⟩,λ_=>⟨i7,by lia,by lia,λg1 H4 a4 c4 e4 l9=>⟨l9,by lia,by lia,λg2 H5 a5 c5 e5 j4 l hl=>?_⟩⟩,λz=>by cases z⟩;obtain⟨vv,j6,j8⟩:=E8 (ns:=[c,0,g1,g2]) a1 (by simpa using c1);have j5:0<=vv/\vv<=c:=by
      simp only[Z4,Zk,Zs]at j6;lia
     refine⟨l,_,D,.int vv,rfl,rfl,Al.of Ag,j8,e3.trans (e4.trans (e5.trans (Ev.new hl))),j4.new hl,ns++[vv],by rw[YW];rfl,by rw[Zj,hn];rfl,λk x y g hy=>?_⟩;rcases OV g with h | ⟨h1,h2⟩
     .exact hb k x y h hy
     .subst h2;rw[h1,hn,z]at hy;cases hy;exact j5
   .obtain⟨e3,i7,ns,rfl,hn,hb⟩:=h;rw [Y0] at hn;intro m hm;refine⟨m,_,rfl,.inl ⟨Al.of Ag,λt ht=>?_⟩⟩;have n3:=(Ab.new (o:= .lst (ns.map V.int)) hm).trans (Ab.new (o:= .tup (ns.map V.int)) ht);have i9:=n3 _ _ (e3.lst L nR);have j9:=rF.len;rw [Y0] at j9;have hi:i<xs.length:=(Y3.mp g).1;have tv:=TEv.upd (zs:=Z++[.ref t]) i9;refine⟨R,Z,.ref t,rfl,rfl,i9,Fb (by lia),⟨_,rfl⟩,?_,((ev.trans e3).trans (Ev.same n3)).own l6,?_,Z++[.ref t],F++[ns],Ag,?_,by rw [Zj,lF];rfl,λk r c G hc=>?_⟩
    .intro b o l7;rcases i6 b o l7 with z | z
     .exact .inl z
     .by_cases zb:b=R
      .subst zb;rw[Ag]at z ⊢;exact .inr z
      .rw [Aq zb] at z;rcases(e3.trans (Ev.same n3)) b o z with y | y
       .exact .inl y
       .exact .inr (by rw[Aq zb,Aq zb];exact y)
    .obtain⟨l,f,e⟩:=i7.same n3;exact⟨l,f,by rw[Aq (Zd nR)];exact e⟩
    .rw[YW];refine Ad.snoc (Ad.tev ((e3.trans (Ev.same n3)).tev.trans tv) _ _ (CN λd hd=>?_) rF) (Aa.tev tv _ _ (F6 _) (Aa.row (p:=p) Ag));obtain⟨rr,_,rfl⟩:=Zg.mp hd;exact F6 rr
    .rcases OV G with h | ⟨h1,h2⟩
     .exact J k r c h hc
     .subst h2;rw[h1,lF,i4]at hc;cases hc;exact⟨hn,hb⟩
  .obtain⟨⟨x4,rfl⟩,i6,ev,i5,Z,F,L,rF,lF,J⟩:=h;refine⟨R,Z,rfl,.inl ⟨Al.of L,λt ht=>?_⟩⟩;refine q _ _ F ⟨by lia,λi r G=>?_,λi r j x c G g hc=>?_⟩ (Aa.tup Ag (Ad.ev (Ev.new ht) _ _ rF)) (ev.trans (Ev.new ht)) (i5.new ht)
   .have hi:i<S.ex.length:=by
     have:=(Y3.mp G).1;lia
    have:=(J i r _ G (Br hi)).1;rw[this,Ez]
   .have hi:i<S.ex.length:=by
     have:=(Y3.mp G).1;lia
    exact(J i r _ G (Br hi)).2 j x c g hc
end
def Wz:List yP->yV->Bool
 |[],[]=>true
 |d::ds,j::r=>(match d with | .int i=>i==j | _=>false) && Wz ds r
 |_,_=>false
def Jr:Sp:=λz H Q _=>zQ (λv u w=>∃p P S F,Tri p H P S F v u w/\∀g,Ab H g->Q (.int (coal P F)) g) z
def WA(F:Df K mg "coal_of" waA ["plant","story","firing"])(T:Tx mg)(O:Fn P w K mg base 12 "steam_by" ["plant","story","firing"] Ji):Fn P w K mg base 13 "coal_of" ["plant","story","firing"] Jr:=by
 k_dat ["plant","story","firing","made"]"f"
 refine⟨_,(Ai (zD 3 (zA O hr (AH (cy 0) (cy 1) (cy 2)))) (An (Av (AG (EW rfl) rfl T.b_sum bR (Ah (AW ["units","make","coal"] [none,none,none] rfl (Ij P w K rfl T.b_zip (Ar (cy 3) (AI (Bd K) (cy 0) Ak (λ_ _=>rfl)))) (AB.of rfl) (λ_ _ _ _=>(AK K (n:=2) (Aj (zC 0) (Aj (zF 1 2) AJ)))) (λ_ _ _ _=>AR) (λ_ _ _ _=>(Ay Et (cy 0) (cy 2))))))))),?_⟩;k_dat 0"u"
 .rename_i v u w;obtain⟨p,P,S,F,L,q⟩:=h;have b4:=L.ok.b4;refine⟨p,P,S,F,L,λv1 H1 s1 r1=>?_⟩;obtain⟨PA,PB,PE,PM,xb,xe,rfl,pA,pB,rb,pE,re,pM⟩:=Aa.plant (L.sm s1).r;obtain⟨M,rfl,hM⟩:=Aa.ofRow r1;have lb:=rb.len;rw[Y0]at lb;have ls:(Ct P F).length=P.bs.length:=by unfold Ct;simp
  refine⟨PA,_,0,.ref PB,rfl,rfl,Ae.of pA,rfl,M,PB,rfl,⟨_,Ae.of hM⟩,⟨_,Ae.of pB⟩,walk_zip (xs:=(Ct P F).map V.int) (ys:=xb) (λi I D=>Ab H1 D/\I=((((Ct P F).zip P.bs).take i).map λq=>V.int (q.1 * q.2.2))) (by rw[Y0];lia) (by rw[Y0];lia) ⟨Ab.refl _,rfl⟩
   (λi I D h=>by rw[h.2,Y0,Za];lia) (λi I D h=>⟨Ae.of (h.1 _ _ hM),Ae.of (h.1 _ _ pB)⟩) (λi x y I D T J hy h hT=>?_) λI D h=>?_⟩
  .rw [YU] at J;obtain⟨c,g,rc⟩:=Ad.mapGot rb hy;cases Z:(Ct P F)[i]? with
   |none=>rw[Z]at J;cases J
   |some n=>
    rw[Z]at J;cases J;have s2:=h.1.trans (Ab.new (o:= .tup [.int n,y]) hT);obtain⟨l,i4,rfl,i0,rz⟩:=Aa.shape (Aa.ev (Ev.same s2) _ _ rc);obtain⟨y1,y2,rfl,G,r2⟩:=Ad.two rz;unfold Aa at G r2;subst G r2;have bc:=L.ok.b c (Y8 g);have hz:((Ct P F).zip P.bs)[i]? =some (n,c):=by rw[dS];exact⟨Z,g⟩
    refine⟨T,_,rfl,Ae.of Ag,rfl,_,_,rfl,_,_,rfl,l,_,rfl,Ae.of i0,rfl,_,_,rfl,_,_,rfl,rfl,rfl,trivial,λ_=>⟨.inr ⟨by lia,by lia⟩,s2,?_⟩,λz=>by cases z⟩;rw[h.2,AY hz,YW];rfl
  .intro m hm;refine⟨m,(((Ct P F).zip P.bs).map fun(q:Int×Int×Int)=>q.1 * q.2.2),rfl,.inl ?_,q _ (s1.trans (h.1.trans (Ab.new hm)))⟩;rw[Ag,h.2,Z0 (by rw[dQ,Y0];lia),bo];rfl
end
section
variable{p:yQ}{H:Hp}{v:V}
def isStr(n:Int)(d:yP):Bool:=match d with
 |.tuple [a,b]=>AT b 0 (n-1) &&(match b with | .int l=>AT a 0 l | _=>false)
 |_=>false
def Aa.intE{a b:Int}(h:b=a):Aa p H (.int a) (.int b):=by subst h;exact Aa.int
def Aa.terms{T:TM}(r:Aa p H T.d v):∃A C B D M xc,v= .ref A/\H A=some (.tup [.ref C,.ref B,.ref D,.ref M])/\H C=some (.tup xc)/\Ad p H (T.cs.map AS) xc/\H B=some (.tup (T.co.map V.int))/\H D=some (.tup (T.ds.map V.int))/\H M=some (.tup [.int T.lo,.int T.hi,.int T.st]):=by
 unfold TM.d at r;obtain⟨A,xs,rfl,hA,Z⟩:=Aa.shape r;obtain⟨x,y,z,w,rfl,O,ry,rz,rw⟩:=Ad.four Z;obtain⟨C,xc,rfl,hC,rc⟩:=Aa.shape O;obtain⟨B,xb,rfl,I,rb⟩:=Aa.shape ry;obtain⟨D,xd,rfl,J,rd⟩:=Aa.shape rz;obtain⟨M,xm,rfl,hM,rm⟩:=Aa.shape rw;obtain⟨m1,m2,m3,rfl,L,g,G⟩:=Ad.three rm;unfold Aa at L g G;subst L g G;rw[Ad.ints rb]at I;rw[Ad.ints rd]at J;exact⟨A,C,B,D,M,xc,rfl,hA,hC,rc,I,J,hM⟩
def Aa.pair{q:Nat×Nat}(r:Aa p H (pD q) v):∃A,v= .ref A/\H A=some (.tup [.int q.1,.int q.2]):=by
 obtain⟨A,I,rfl,G,D⟩:=Aa.shape r;obtain⟨x,y,rfl,g,z⟩:=Ad.two D;unfold Aa at g z;subst g z;exact⟨A,rfl,G⟩
def Aa.ofRow'{r:yV}(h:Aa p H (AS r) v):∃A,v= .ref A/\H A=some (.tup (r.map V.int)):=by
 obtain⟨A,D,rfl,g,z⟩:=Aa.shape h;rw[Ad.ints z]at g;exact⟨A,rfl,g⟩
inductive GY_(H:Hp)(Q:VK)(v u:V):Prop
 |mk(p P S:_)(_:PL.ok P)(_:SY.ok S P.bs.length)(_:Aa p H P.d v)(_:Aa p H S.d u)(_:ret H Q p (terms P S).d)
def GY:Sp:=λg H Q _=>zN (GY_ H Q) g
inductive Js_(H:Hp)(Q:VK)(v u:V):Prop
 |mk(p T f l:_)(_:TM.ok T)(_:Aa p H T.d v)(_:Aa p H (pD (f,l)) u)(_:f<=l)(_:l<T.ds.length)(_:∀g,Ab H g->Q (.bl (Dl T f l)) g)
def Js:Sp:=λz H Q _=>zN (Js_ H Q) z
def GZ:Sp:=λg H Q _=>zK (λv=>∃p T,TM.ok T/\Aa p H T.d v/\ret H Q p (K7 (BU T))) g
def Jt:Sp:=λg H Q _=>zN (λv u=>∃p P S,PL.ok P/\SY.ok S P.bs.length/\Aa p H P.d v/\Aa p H S.d u/\ret H Q p (K7 (BU (terms P S)))) g
def WD(F:Df K mg "terms_of" war ["plant","story"])(T:Tx mg)(i0:F5 P w K mg base)(Z:Fn P w K mg base 9 "draws_of" ["plant","story"] GU):Fn P w K mg base 10 "terms_of" ["plant","story"] GY:=by
 k_dat ["plant","story","caps","coals"]"f"
 refine⟨_,(Ai (zD 2 (zA i0 hr (Ar (cy 0) (cy 1)))) (Ai (zD 3 (A6 (BN K) rfl T.b_tuple BH (Ah (AW ["make","coal"] [none,none] rfl (Bu K (AI (Bd K) (cy 0) Ak (λ_ _=>rfl))) (AB.of rfl) (λ_ _ _ _=>(zF 0 1)) (λ_ _ _ _=>AR) (λ_ _ _ _=>(cy 1)))))) (An (Av (Ce (C6 (cy 2) (cy 3) (zA Z hr (Ar (cy 0) (cy 1))) (AI (Bd K) (cy 0) Ak (λ_ _=>rfl)))))))),?_⟩;k_dat 0"u"
 .rename_i v u;obtain⟨p,P,S,ok,so,r,ru,q⟩:=h;refine⟨p,P,S,ok,so,r,ru,λcv H1 J rc=>?_⟩;obtain⟨PA,PB,PE,PM,xb,xe,rfl,pA,pB,rb,pE,re,pM⟩:=Aa.plant (Aa.ev (Ev.same J) _ _ r);have b4:=ok.b4;have lb:=rb.len;rw[Y0]at lb;refine⟨PA,_,0,.ref PB,rfl,rfl,Ae.of pA,rfl,PB,rfl,⟨xb,Ae.of pB⟩,BC (xs:=xb) (λi g G=>Ab H1 G/\g=((P.bs.take i).map λq=>V.int q.2)) (by lia) ⟨Ab.refl _,rfl⟩ (λi g G h=>by rw[h.2,Y0,Za];lia) (λi g G _ h=>Ae.of (h.1 _ _ pB)) (λi x g G hx h=>?_) λg G h=>?_⟩
  .obtain⟨f,hf,rd⟩:=Ad.mapGot rb hx;obtain⟨l,zs,rfl,O,rz⟩:=Aa.shape (Aa.ev (Ev.same h.1) _ _ rd);obtain⟨y1,y2,rfl,r1,r2⟩:=Ad.two rz;unfold Aa at r1 r2;subst r1 r2;refine⟨l,_,rfl,Ae.of O,rfl,_,_,rfl,_,_,rfl,rfl,trivial,λ_=>⟨h.1,?_⟩,λz=>by cases z⟩;rw[AY hf,YW,h.2];rfl
  .intro m hm;refine⟨m,_,rfl,.inl ⟨Al.of Ag,λt ht=>?_⟩⟩;have nt:=Ab.new (o:= .tup g) ht;have s2:=h.1.trans ((Ab.new (o:= .lst g) hm).trans nt);refine⟨p,P,S,ok,so,Aa.ev (Ev.same (J.trans s2)) _ _ r,Aa.ev (Ev.same (J.trans s2)) _ _ ru,λdv H3 s3 rd=>?_⟩;have D:=s2.trans s3;refine⟨PA,_,2,.ref PM,rfl,rfl,Ae.of (D _ _ pA),rfl,λt2 L=>?_⟩;have s4:=Ab.new (o:= .tup [cv,.ref t,dv,.ref PM]) L;have ey:g=(P.bs.map (·.2)).map V.int:=by rw [h.2,Z0 (by lia),bo];rfl
   have I:=(s3.trans s4) _ _ (Ag (H:=upd G m (.lst g)) (a:=t) (o:= .tup g));rw[ey]at I;refine q _ _ (J.trans (D.trans s4)) (Aa.tup Ag (.cons (Aa.ev (Ev.same (D.trans s4)) _ _ rc) (.cons (Aa.row I) (.cons (Aa.ev (Ev.same s4) _ _ rd) (.cons (Aa.tup ((D.trans s4) _ _ pM) (.cons Aa.int (.cons Aa.int (.cons Aa.int .nil)))) .nil)))))
def WE(F:Df K mg "is_too_much" waC ["terms","stretch"])(T:Tx mg):Fn P w K mg base 1 "is_too_much" ["terms","stretch"] Js:=by
 k_dat ["terms","stretch","caps","coals","draws","low","high","start","first","last","ahead","most"]"f"
 refine⟨_,(Ai (Bb (cy 0) (AK K (n:=4) (Aj (zC 2) (Aj (zC 3) (Aj (zC 4) (Aj (zF 5 6 7) AJ)))))) (Ai (Bb (cy 1) (zF 8 9)) (Ai (zD 10 (DE (AU Dz (cy 8) Ak (AV _)) (cy 7) (cy 6))) (Ai (zD 11 (AG (EW rfl) rfl T.b_sum bR (Ah (AW ["row"] [none] rfl (Bu K (Eo wa2 (cy 2) (CY (cy 8)) (CY (Ay Bg (cy 9) Ak)))) (AB.of rfl) (λ_ _ _ _=>(zC 0)) (λ_ _ _ _=>AR) (λ_ _ _ _=>(AG (EW rfl) rfl T.b_sum bR (Ah (cy 0)))))))) (An (Av (Fq Eu (Ay Bg (cy 10) (cy 11)) (Ay Bg (AG (EW rfl) rfl T.b_sum bR (Ah (Eo wa2 (cy 4) (CY (cy 8)) (CY (Ay Bg (cy 9) Ak))))) (cy 5)) (AV _)))))))),?_⟩;k_dat 0"u"
 .rename_i v u;obtain⟨p,T,f,l,ok,r,ru,g,hl,q⟩:=h;obtain⟨A,C,B,D,M,xc,rfl,hA,hC,rc,hB,hD,hM⟩:=Aa.terms r;obtain⟨U,rfl,hU⟩:=Aa.pair ru;have l8:=ok.l8;have lc:=ok.lc;have lx:=rc.len;rw[Y0]at lx;refine⟨A,_,rfl,Ae.of hA,rfl,_,_,rfl,_,_,rfl,_,_,rfl,_,_,rfl,M,_,rfl,Ae.of hM,rfl,_,_,rfl,_,_,rfl,_,_,rfl,rfl,rfl,?_⟩;refine⟨U,_,rfl,Ae.of hU,rfl,_,_,rfl,_,_,rfl,rfl,rfl,⟨λc=>?_,λc=>?_⟩⟩
  .have ea:(if f=0 then T.st else T.hi)=T.st:=by
    rw[En]at c;have:(f:Int)=0:=by simpa using c
    rw[Z1 (by lia)]
   refine⟨(f:Int),rfl,(l:Int)+1,rfl,C,xc,rfl,hC,λR H1 Z k1=>?_⟩;rw[Iu g (by lia)]at k1;have L:=Ad.part (Ad.ev (Ev.same Z) _ _ rc) f l;rw[Iv]at L;have lp:=NU (xs:=T.cs) g (by lia);have lq:=L.len;rw[Y0]at lq;refine⟨R,rfl,⟨_,Ae.of k1⟩,BC (xs:=part xc f l) (λi G I=>Ab H1 I/\G=(((part T.cs f l).take i).map List.sum).map V.int) (by lia) ⟨Ab.refl _,rfl⟩ (λi G I h=>by rw[h.2,Y0,Y0,Za];lia) (λi G I _ h=>Ae.of (h.1 _ _ k1)) (λi x G I hx h=>?_) λG H2 h=>?_⟩
   .obtain⟨r',J,rr⟩:=Ad.mapGot L hx;obtain⟨ra,rfl,O⟩:=Aa.ofRow' rr;refine⟨trivial,λ_=>⟨ra,r',rfl,.inr (h.1 _ _ O),h.1,?_⟩,λz=>by cases z⟩;rw[AY J,YW,YW,h.2];rfl
   .intro m hm;have s2:=Z.trans (h.1.trans (Ab.new (o:= .lst G) hm));refine⟨m,(part T.cs f l).map List.sum,rfl,.inl ?_,?_⟩
    .rw[Ag,h.2,Z0 (by lia)]
    refine⟨(f:Int),rfl,(l:Int)+1,rfl,D,T.ds.map V.int,rfl,s2 _ _ hD,λR2 H3 s3 k3=>?_⟩;rw[Iu g (by rw[Y0];exact hl),Iv]at k3;refine⟨R2,part T.ds f l,rfl,.inr k3,?_⟩;have:=q H3 (s2.trans s3);unfold Dl at this;rw[ea]at this;exact this
  .have ea:(if f=0 then T.st else T.hi)=T.hi:=by
    rw[En]at c;have:(f:Int)≠0:=by simpa using c
    rw[YY (by lia)]
   refine⟨(f:Int),rfl,(l:Int)+1,rfl,C,xc,rfl,hC,λR H1 Z k1=>?_⟩;rw[Iu g (by lia)]at k1;have L:=Ad.part (Ad.ev (Ev.same Z) _ _ rc) f l;rw[Iv]at L;have lp:=NU (xs:=T.cs) g (by lia);have lq:=L.len;rw[Y0]at lq;refine⟨R,rfl,⟨_,Ae.of k1⟩,BC (xs:=part xc f l) (λi G I=>Ab H1 I/\G=(((part T.cs f l).take i).map List.sum).map V.int) (by lia) ⟨Ab.refl _,rfl⟩ (λi G I h=>by rw[h.2,Y0,Y0,Za];lia) (λi G I _ h=>Ae.of (h.1 _ _ k1)) (λi x G I hx h=>?_) λG H2 h=>?_⟩
   .obtain⟨r',J,rr⟩:=Ad.mapGot L hx;obtain⟨ra,rfl,O⟩:=Aa.ofRow' rr;refine⟨trivial,λ_=>⟨ra,r',rfl,.inr (h.1 _ _ O),h.1,?_⟩,λz=>by cases z⟩;rw[AY J,YW,YW,h.2];rfl
   .intro m hm;have s2:=Z.trans (h.1.trans (Ab.new (o:= .lst G) hm));refine⟨m,(part T.cs f l).map List.sum,rfl,.inl ?_,?_⟩
    .rw[Ag,h.2,Z0 (by lia)]
    refine⟨(f:Int),rfl,(l:Int)+1,rfl,D,T.ds.map V.int,rfl,s2 _ _ hD,λR2 H3 s3 k3=>?_⟩;rw[Iu g (by rw[Y0];exact hl),Iv]at k3;refine⟨R2,part T.ds f l,rfl,.inr k3,?_⟩;have:=q H3 (s2.trans s3);unfold Dl at this;rw[ea]at this;exact this
def zaa:As ["terms","caps","coals","draws","main","hours","stretches","found"] ["terms"] (Am waD):=Az
def WF(F:Df K mg "least_stretch" waD ["terms"])(T:Tx mg)(i4:Fn P w K mg base 1 "is_too_much" ["terms","stretch"] Js):Fn P w K mg base 2 "least_stretch" ["terms"] GZ:=by
 k_dat ⟨zaa,vs,hr⟩"h"
 refine⟨_,(Ai (Bb (cy 0) (zF 1 2 3 4)) (Ai (zD 5 (zG (cy 3))) (Ai (Tb (i:=6) ["first","last","hours"] [none,none,some 5] zaa.nd rfl (AC (by rfl)) rfl (CD rfl T.b_range (Ah (cy 5))) (AB.of rfl) (λ_ _ _ _=>(zC 0)) (λ_ _ _ _=>AR) (λ_ _ _ _=>(ME rfl T.b_range (Ar (cy 0) (cy 2)))) (λ_ _ _ _=>(zC 1)) (λ_ _ _ _=>AR) (λ_ _ _ _=>(Ce (Ar (cy 0) (cy 1))))) (Ai (Gq (i:=7) ["stretch","terms"] [none,some 0] zaa.nd rfl (AC (by rfl)) rfl (Cf K (cy 6)) (AB.of rfl) (λ_ _ _ _=>(zC 0)) (λ_ _ _ _=>(Gn (BM (zA i4 hr (Ar (cy 1) (cy 0)))))) (λ_ _ _ _=>(cy 0))) (An (Av (DE (K5 (cy 7)) (AI (Bj K) (cy 7) Ak (λ_ _=>rfl)) EL))))))),?_⟩;k_dat 0"u"
 .rename_i v;obtain⟨p,T,ok,r,q⟩:=h;obtain⟨A,C,B,D,M,xc,rfl,hA,hC,rc,hB,hD,hM⟩:=Aa.terms r;have l8:=ok.l8;refine⟨A,_,rfl,Ae.of hA,rfl,_,_,rfl,_,_,rfl,_,_,rfl,_,_,rfl,rfl,?_⟩;refine⟨D,_,rfl,.inr (Ae.of hD),?_⟩;rw[Y0];refine⟨_,rfl,by lia,by lia,NS (n:=T.ds.length) (λi L J=>Ab H J/\Ad p J ((Cz T.ds.length i).map pD) L) ⟨Ab.refl _,.nil⟩ (λi L H1 hi h=>?_) λL H1 h=>?_⟩
  .refine⟨⟨rfl,trivial⟩,λ_=>?_,λz=>by cases z⟩;have lz:=h.2.len;rw [Y0] at lz;have ls:=NY (n:=T.ds.length) (k:=i);have lm:T.ds.length * i<=8 * 8:=fA l8 (by lia);have e0:((T.ds.length:Int)-(0+(i:Int))).toNat=T.ds.length-i:=by lia
   refine⟨_,_,rfl,⟨by lia,by lia,by lia,by lia⟩,?_⟩;rw[e0];refine S9 (n:=T.ds.length-i) (λj g O=>Ab H O/\Ad p O ((Cz T.ds.length i++Dn i j).map pD) g/\j<=8) ⟨h.1,?_,Zq _⟩ (λj g O h=>?_) (λj g O hj G=>?_) λg O G=>?_
   .have e1:Dn i 0=[]:=rfl;rw[e1,aw];exact h.2
   .have h3:=h.2.1.len;rw[Y0,Zj,NW]at h3;have:=h.2.2;lia
   .refine⟨⟨rfl,rfl,trivial⟩,λ_ t ht=>?_,λz=>by cases z⟩;have nt:=Ab.new (o:= .tup [.int (0+(i:Int)),.int (0+(i:Int)+(j:Int))]) ht;refine⟨G.1.trans nt,?_,by lia⟩;rw[Ti,<-cL,YW];exact Ad.snoc (Ad.ev (Ev.same nt) _ _ G.2.1) (Aa.tup Ag (.cons (Aa.intE (by simp)) (.cons (Aa.intE (by simp)) .nil)))
   .refine⟨G.1,?_⟩;rw[NX];exact G.2.1
  .intro m hm;have s1:=h.1.trans (Ab.new (o:= .lst L) hm);have r1:=Ad.ev (Ev.new (p:=p) (o:= .lst L) hm) _ _ h.2;have lz:=h.2.len;rw [Y0] at lz;have ls:=NY (n:=T.ds.length) (k:=T.ds.length);have lm:T.ds.length * T.ds.length<=8 * 8:=fA l8 l8;refine⟨m,rfl,⟨L,Al.of Ag⟩,C3 (xs:=L) (λi g J=>Ab (upd H1 m (.lst L)) J/\Ad p J ((((Cz T.ds.length T.ds.length).take i).filter λq=>Dl T q.1 q.2).map pD) g) (by lia) ⟨Ab.refl _,.nil⟩ (λi g J h=>?_) (λi g J _ h=>Al.of (h.1 _ _ Ag)) (λi x g J hx h=>?_) λg O G=>?_⟩
   .rw[<-h.2.len,Y0];exact Ze (cA _ _) (by rw[Za];lia)
   .obtain⟨⟨f,l⟩,hf,rd⟩:=Ad.mapGot r1 hx;obtain⟨i5,hl⟩:=K6 (Y5 _) _ (Y8 hf);refine⟨⟨rfl,trivial⟩,p,T,f,l,ok,Aa.ev (Ev.same (s1.trans h.1)) _ _ r,Aa.ev (Ev.same h.1) _ _ rd,i5,hl,λH3 Z=>⟨λc=>?_,λc=>?_⟩⟩
    .refine⟨h.1.trans Z,?_⟩;rw[AY hf,fJ,eH (by exact c),YW];exact Ad.snoc (Ad.ev (Ev.same Z) _ _ h.2) (Aa.ev (Ev.same (h.1.trans Z)) _ _ rd)
    .refine⟨h.1.trans Z,?_⟩;rw[AY hf,fJ,eK (by rw[show Dl T (f,l).1 (f,l).2=false from c];decide),List.filter_nil,aw];exact Ad.ev (Ev.same Z) _ _ h.2
   .intro m2 i0;rw [Z0 (by lia)] at G;have s2:=s1.trans (G.1.trans (Ab.new (o:= .lst g) i0));have I:=Ad.ev (Ev.new (p:=p) (o:= .lst g) i0) _ _ G.2;refine⟨m2,g,rfl,Ag,⟨λc=>?_,λc=>?_⟩⟩
    .cases g with
     |nil=>cases c
     |cons y g=>
      refine⟨m2,_,0,y,rfl,rfl,Al.of Ag,Cr (j:=0) rfl,q _ _ s2 ?_⟩;have eq:EZ T=(Cz T.ds.length T.ds.length).filter λq=>Dl T q.1 q.2:=rfl
      unfold BU;rw[<-eq]at I;cases z:EZ T with
      |nil=>rw[z]at I;have:=I.len;cases this
      |cons a l=>
       rw[z]at I;unfold Ad at I;obtain⟨x,t,e,rx,_⟩:=I;cases e;exact rx
    .cases g with
     |cons y g=>cases c
     |nil=>
      refine q _ _ s2 ?_;have eq:EZ T=(Cz T.ds.length T.ds.length).filter λq=>Dl T q.1 q.2:=rfl
      unfold BU;rw[<-eq]at I;cases z:EZ T with
      |nil=>exact Aa.non
      |cons a l=>rw[z]at I;have:=I.len;cases this
def WH(F:Df K mg "stretch_of" waE ["plant","story"])(T:Tx mg)(z:Fn P w K mg base 2 "least_stretch" ["terms"] GZ)(g:Fn P w K mg base 10 "terms_of" ["plant","story"] GY):Fn P w K mg base 11 "stretch_of" ["plant","story"] Jt:=by
 k_dat ⟨["plant","story"],G,D⟩"g"
 refine⟨_,(An (Av (zA z D (Ah (zA g D (Ar (cy 0) (cy 1))))))),?_⟩;k_dat 0"u"
 .rename_i v u;obtain⟨p,P,S,ok,so,r,ru,q⟩:=h;exact⟨p,P,S,ok,so,r,ru,λt Z J rt=>⟨p,terms P S,NT so,rt,λv O L I=>q v O (J.trans L) I⟩⟩
end
section
abbrev nT(n:Int):Str:=Str.ofString (toString n)
def Bw(r:yV):Str:=CI " " (r.map nT)
def BW(F:yZ):Str:=CI "/" (F.map Bw)
def WI(c:Int):List Str:=(List.range (c+1).toNat).map fun(n:Nat)=>nT (n:Int)
def Bx(c:Int)(w:Str):Bool:=C1 (.str w) ((WI c).map V.str)
def CP(cs:yV)(ws:List Str):Bool:=decide (ws.length=cs.length) &&(List.zipWith Bx cs ws).all id
inductive G9_(H:Hp)(Q:VK)(c:Int)(w:Str):Prop
 |mk(_:0<=c)(_:c<=99)(_:∀b g,b=Bx c w->Ab H g->Q (.bl b) g)
def G9:Sp:=λz H Q _=>zR (G9_ H Q) z
def Ju:Sp:=λz H Q _=>zS (λa t=>∃cs:yV,H a=some (.tup (cs.map V.int))/\cs.length<=4/\(∀c∈cs,0<=c/\c<=9)/\t.length<=200000/\∀b g,b=CP cs (AF t " ")->Ab H g->Q (.bl b) g) z
def Ha:Sp:=λz H Q _=>zQ (λv u w=>∃p P S F,Tri p H P S F v u w/\∀g,Ab H g->Q (.str (BW F)) g) z
def Lz{n:Nat}(h:n<=1000):n.log2<1920:=bO (Nat.log2_le_self n) (by lia)
def WJ(l:List Str):(l.map V.str).all DD=true:=by
 rw[fk];exact Zx.mpr λ_ _=>rfl
theorem OW(sep:Str)(B:Nat):∀(l:List Str) (a:Nat),(∀x∈l,x.length<=B)->l.foldl (λn x=>n+x.length+sep.length) a<=a+l.length *(B+sep.length)
 |[],a,_=>by simp
 |x::l,a,h=>by
  have z:=h x (Z9 ..);have D:=OW sep B l (a+x.length+sep.length) λy g=>h y (Z3 _ g)
  rw[dP,ZA,dX];lia
theorem OX(B:Nat):∀(l:List Str),(∀x∈l,x.length<=B)->(l.map (·.length)).sum<=l.length * B
 |[],_=>by simp
 |x::l,h=>by
  have z:=h x (Z9 ..);have D:=OX B l λy g=>h y (Z3 _ g)
  rw[ZJ,bP,ZA,dX];lia
def Jv{sep:Str}{l:List Str}{B:Nat}(h:∀x∈l,x.length<=B):(CI sep l).length<=l.length *(B+sep.length):=by
 have g:(Builtin.Str.glued sep l).length<=l.length *(B+sep.length):=by
  rw[size_glued,Nat.mul_add];have:=OX B l h;have:=cW sep.length (Nat.sub_le l.length 1);lia
 match l,h,g with
 |[],_,g=>exact g
 |[x],h,_=>exact Ze (h x (Z9 ..)) (by rw[Zt];lia)
 |_::_::_,_,g=>exact g
def F8{sep:Str}{l:List Str}{B:Nat}(h:∀x∈l,x.length<=B)(hz:l.length *(B+sep.length)<=200000):Builtin.Str.tooLong (l.toArray.foldl (· + ·.length+sep.length) 0)=false/\(CI sep l).length<=sizeLine:=by
 have z:(200000:Nat)<=sizeLine:=by decide
 have f:=OW sep B l 0 h;refine⟨?_,Ze (Ze (Jv h) hz) z⟩;unfold Builtin.Str.tooLong;rw[List.foldl_toArray];exact ZC (by lia)
def Jw{n:Int}(h0:0<=n)(g:n<=9):(nT n).length<=11:=by
 have:=PyProof.Rows.len_str_of_int n;unfold nT;lia
def LA{r:yV}(h:∀n∈r,0<=n/\n<=9)(D:r.length<=4):(Bw r).length<=48:=by
 have:=Jv (sep:=" ") (l:=r.map nT) (B:=11) λx z=>by
  obtain⟨n,g,rfl⟩:=Zg.mp z;exact Jw (h n g).1 (h n g).2
 rw[Y0]at this;have e:(Str.ofString " ").length=1:=by decide
 rw[e]at this;unfold Bw;lia
def Hb{n:Nat}(h:n<=200000):n+2<=sizeLine:=Ze (Nat.add_le_add_right h 2) (by decide)
def WM(F:Df K mg "is_number_text" waP ["most","word"])(T:Tx mg):Fn P w K mg base 1 "is_number_text" ["most","word"] G9:=by
 k_dat ⟨["most","word"],G,L⟩"g"
 refine⟨_,(An (Av (Fq (Fy K) (cy 1) (AW ["number"] [none] rfl (CD rfl T.b_range (Ah (Ay Bg (cy 0) Ak))) (AB.of rfl) (λ_ _ _ _=>(zC 0)) (λ_ _ _ _=>AR) (λ_ _ _ _=>(A6 DT rfl T.b_str Dh (Ah (cy 0))))) (by with_unfolding_all rfl)))),?_⟩;k_dat 0"u"
 .rename_i c Z;obtain⟨O,J,q⟩:=h;refine⟨c+1,rfl,by lia,by lia,Gu (n:=(c+1).toNat) (λi g D=>Ab H D/\g=((List.range i).map fun(n:Nat)=>nT (n:Int)).map V.str) (by lia) ⟨Ab.refl _,rfl⟩ (λi g D h=>by rw[h.2,Y0,Y0,ZU];exact Y5 _) (λi g D hi h=>?_) (λg D h=>?_)⟩
  .refine⟨trivial,λ_=>⟨_,rfl,Lz (by lia),h.1,?_⟩,λz=>by cases z⟩;rw[h.2,bp,YW,YW,bQ];rfl
  .intro m I;refine⟨m,_,rfl,.inl (Al.of Ag),rfl,by rw[h.2];exact WJ _,?_⟩;exact q _ _ (by rw[h.2];rfl) (h.1.trans (Ab.new I))
def WN(F:Df K mg "is_row_text" waO ["caps","row"])(T:Tx mg)(i6:Fn P w K mg base 1 "is_number_text" ["most","word"] G9):Fn P w K mg base 2 "is_row_text" ["caps","row"] Ju:=by
 k_dat ["caps","row","words"]"f"
 refine⟨_,(Ai (zD 2 (CV K PySem.F.plainAttrs_str PySem.F.slot_str_split PySem.F.type_str_split Iw (cy 1) (Ah Ax))) (An (Av (BG (Fq Dz (zG (cy 2)) (zG (cy 0)) (AV _)) (CB (AG (Ex rfl) rfl T.b_all ci (Ah (AW ["cap","word"] [none,none] rfl (SE P w K rfl T.b_zip (Ar (cy 0) (cy 2))) (AB.of rfl) (λ_ _ _ _=>(zF 0 1)) (λ_ _ _ _=>AR) (λ_ _ _ _=>(zA i6 hr (Ar (cy 0) (cy 1)))))))))))),?_⟩;k_dat 0"u"
 .rename_i a t;obtain⟨cs,ha,l4,c9,hz,q⟩:=h;refine⟨rfl,t," ",rfl,rfl,by decide,Hb hz,λl hl=>?_⟩;have G:=Ab.new (o:= .lst ((AF t " ").map V.str)) hl;have kl:upd H l (.lst ((AF t " ").map V.str)) l=some (.lst ((AF t " ").map V.str)):=Ag;have sl:=K8 t " ";generalize upd H l (.lst ((AF t " ").map V.str))=H1 at G kl ⊢;refine⟨l,_,rfl,.inl (Al.of kl),a,_,rfl,.inr (Ae.of (G _ _ ha)),rfl,?_⟩;have lw:((AF t " ").map V.str).length=(AF t " ").length:=Y0 _;have i0:(cs.map V.int).length=cs.length:=Y0 _;refine⟨λc=>?_,λc=>?_⟩
  .have e0:=Z7 c;injection e0 with e0
   rw[lw,i0]at e0;have e1:(AF t " ").length=cs.length:=by lia
   refine⟨a,l,rfl,⟨_,Ae.of (G _ _ ha)⟩,⟨_,Al.of kl⟩,walk_zip (xs:=cs.map V.int) (ys:=(AF t " ").map V.str) (λi O I=>Ab H1 I/\O=((List.zipWith Bx cs (AF t " ")).take i).map V.bl) (by lia) (by lia) ⟨Ab.refl _,rfl⟩ (λi O I h=>by rw[h.2,Y0,Za];lia) (λi O I h=>⟨Ae.of (h.1 _ _ (G _ _ ha)),Al.of (h.1 _ _ kl)⟩) (λi x y O I T' Z L h hT=>?_) (λO I h=>?_)⟩
   .rw[YU]at Z L;obtain⟨g,J,rfl⟩:∃g,cs[i]? =some g/\V.int g=x:=by
     cases z:cs[i]? with
     |none=>rw[z]at Z;cases Z
     |some g=>rw[z]at Z;cases Z;exact⟨g,rfl,rfl⟩
    obtain⟨D,i4,rfl⟩:∃D,(AF t " ")[i]? =some D/\V.str D=y:=by
     cases z:(AF t " ")[i]? with
     |none=>rw[z]at L;cases L
     |some D=>rw[z]at L;cases L;exact⟨D,rfl,rfl⟩
    have i5:=Ab.new (o:= .tup [V.int g,V.str D]) hT;obtain⟨b0,b9⟩:=c9 g (Y8 J);refine⟨T',_,rfl,Ae.of Ag,rfl,_,_,rfl,_,_,rfl,rfl,trivial,λ_=>⟨b0,by lia,λb H2 hb s2=>⟨h.1.trans (i5.trans s2),?_⟩⟩,λz=>by cases z⟩;have ez:(List.zipWith Bx cs (AF t " "))[i]? =some (Bx g D):=by rw[ck,J,i4]
    rw[h.2,AY ez,YW,hb];rfl
   .intro m hm;refine⟨m,List.zipWith Bx cs (AF t " "),rfl,?_,?_⟩
    .rw[Ag,h.2,Z0 (by rw[ba];lia)]
    .refine q _ _ ?_ (G.trans (h.1.trans (Ab.new hm)));unfold CP;rw[Zv e1,aE]
  .have e0:=Zw c;refine q _ _ ?_ G;unfold CP;rw[ZC (λz=>e0 (by rw[lw,i0,z])),aq]
def WP(F:Df K mg "firing_text" waM ["plant","story","firing"])(T:Tx mg)(i6:Jj P w K mg base):Fn P w K mg base 12 "firing_text" ["plant","story","firing"] Ha:=by
  k_dat ⟨["plant","story","firing"],vs,J⟩"g"
  refine⟨_,(Ai (A8 (zA i6 J (AH (cy 0) (cy 1) (cy 2)))) (An (Av (CV K PySem.F.plainAttrs_str PySem.F.slot_str_join PySem.F.type_str_join FE Ax (Ah (AW ["row"] [none] rfl (Bu K (cy 2)) (AB.of rfl) (λ_ _ _ _=>(zC 0)) (λ_ _ _ _=>AR) (λ_ _ _ _=>(CV K PySem.F.plainAttrs_str PySem.F.slot_str_join PySem.F.type_str_join FE Ax (Ah (AW ["made"] [none] rfl (Bu K (cy 0)) (AB.of rfl) (λ_ _ _ _=>(zC 0)) (λ_ _ _ _=>AR) (λ_ _ _ _=>(A6 DT rfl T.b_str Dh (Ah (cy 0)))))))))))))),?_⟩;k_dat 0"u"
  . rename_i v u w';obtain⟨p,P,S,F,g,q⟩:=h;refine⟨p,P,S,F,g,λH1 s1=>?_⟩;obtain⟨FA,fx,rfl,i0,i4⟩:=Aa.firing (Aa.ev (Ev.same s1) _ _ g.rw);have x8:=g.so.x8;have b4:=g.ok.b4;have lf:=i4.len;rw[Y0,g.fo.len]at lf;have D:∀(i:Nat) r,F[i]? =some r->(∀n∈r,0<=n/\n<=9)/\r.length<=4:=λi r J=>by
      have l1:=g.fo.row i r J;refine⟨λn O=>?_,by lia⟩;obtain⟨j,hj⟩:=Zz O;have hi:i<S.ex.length:=by have:=(Y3.mp J).1;rw[g.fo.len]at this;exact this
      have cb:=B7 (S:=S) g.ok _ (Y8 (Br hi));obtain⟨c,hc⟩:∃c,(Ba P.bs S.fs i)[j]? =some c:=⟨_,Y6 (by have:=(Y3.mp hj).1;lia)⟩;have b:=g.fo.bd i r j n c J hj hc;have c9:=cb.1 c (Y8 hc);lia
    refine⟨rfl,FA,rfl,⟨_,Ae.of i0⟩,BC (xs:=fx) (λj zs Z=>Ab H1 Z/\zs=((F.take j).map Bw).map V.str) (by lia) ⟨Ab.refl _,rfl⟩ (λj zs Z h=>by rw[h.2,Y0,Y0,Za];lia) (λj zs Z _ h=>Ae.of (h.1 _ _ i0)) (λj x zs Z I h=>?_) (λzs Z h=>?_)⟩
    . obtain⟨r,J,rr⟩:=Ad.mapGot i4 I;obtain⟨RA,rfl,i5⟩:=Aa.ofRow rr;obtain⟨r9,r4⟩:=D j r J;refine⟨trivial,λ_=>⟨rfl,RA,rfl,⟨_,Ae.of (h.1 _ _ i5)⟩,BC (xs:=r.map V.int) (λk ys H2=>Ab Z H2/\ys=((r.take k).map nT).map V.str) (by rw [Y0];lia) ⟨Ab.refl _,rfl⟩ (λk ys H2 L=>by rw [L.2,Y0,Y0,Za];lia) (λk ys H2 _ L=>Ae.of ((h.1.trans L.1) _ _ i5)) (λk x ys H2 I L=>?_) (λys H2 L=>?_)⟩,λz=>by cases z⟩
      . rw[YU]at I;obtain⟨n,O,rfl⟩:∃n,r[k]? =some n/\V.int n=x:=by
          cases z:r[k]? with
          |none=>rw[z]at I;cases I
          |some n=>rw[z]at I;cases I;exact⟨n,rfl,rfl⟩
        obtain⟨m0,m9⟩:=r9 n (Y8 O);refine⟨trivial,λ_=>⟨n,rfl,Lz (by lia),L.1,?_⟩,λz=>by cases z⟩;rw[L.2,AY O,YW,YW];rfl
      . intro m hm;have G:=F8 (sep:=" ") (l:=r.map nT) (B:=11) (λx I=>by
          obtain⟨n,O,rfl⟩:=Zg.mp I;exact Jw (r9 n O).1 (r9 n O).2) (by rw[Y0];have e:(Str.ofString " ").length=1:=(by decide);rw[e];lia)
        refine⟨" ",m,r.map nT,rfl,rfl,?_,G.1,G.2,h.1.trans (L.1.trans (Ab.new hm)),?_⟩
        . rw[Ag,L.2,Y0,Z0 (Y5 _)]
        . rw[h.2,AY J,YW,YW];rfl
    . intro m hm;have G:=F8 (sep:="/") (l:=F.map Bw) (B:=48) (λx I=>by
        obtain⟨r,J,rfl⟩:=Zg.mp I;obtain⟨i,hi⟩:=Zz J;exact LA (D i r hi).1 (D i r hi).2) (by rw[Y0,g.fo.len];have e:(Str.ofString "/").length=1:=(by decide);rw[e];lia)
      refine⟨"/",m,F.map Bw,rfl,rfl,?_,G.1,G.2,q _ (s1.trans (h.1.trans (Ab.new hm)))⟩;rw[Ag,h.2,Z0 (by rw[g.fo.len];lia)]
end
section
variable{p:Nat -> Bool}{n:Nat}{ws:List Str}{C:yQ}{dx:Option yQ}{H:Hp}
abbrev wa0:Stmt:=(DL (Aw 20)).getD 0 (.Pass ⟨0,0,0,0⟩)
structure Tc(K:Fgx)(mg:Str->yW)(M:yQ)(ds:List yQ):Prop where
 c_NoPlant:mg "NoPlant"=some (.ref (ds.getD 0 0))
 c_NoStory:mg "NoStory"=some (.ref (ds.getD 1 0))
 c_NoFiring:mg "NoFiring"=some (.ref (ds.getD 2 0))
 c_NoHour:mg "NoHour"=some (.ref (ds.getD 3 0))
 c_NoBoiler:mg "NoBoiler"=some (.ref (ds.getD 4 0))
 c_NoPrices:mg "NoPrices"=some (.ref (ds.getD 5 0))
 c_NoWay:mg "NoWay"=some (.ref (ds.getD 6 0))
 c_NoSet:mg "NoSet"=some (.ref (ds.getD 7 0))
 c_NoTanks:mg "NoTanks"=some (.ref (ds.getD 8 0))
 c_NoPump:mg "NoPump"=some (.ref (ds.getD 9 0))
 c_NoFeeding:mg "NoFeeding"=some (.ref (ds.getD 10 0))
 c_NoReadings:mg "NoReadings"=some (.ref (ds.getD 11 0))
 c_NoStart:mg "NoStart"=some (.ref (ds.getD 12 0))
 c_NoShifts:mg "NoShifts"=some (.ref (ds.getD 13 0))
 c_NoBook:mg "NoBook"=some (.ref (ds.getD 14 0))
 c_NoAmount:mg "NoAmount"=some (.ref (ds.getD 15 0))
 c_NoDeed:mg "NoDeed"=some (.ref (ds.getD 16 0))
 c_NoLine:mg "NoLine"=some (.ref (ds.getD 17 0))
 c_NoText:mg "NoText"=some (.ref (ds.getD 18 0))
 c_MainError:mg "MainError"=some (.ref M)
 mB:PySem.W.mroIn K M (.type "BaseException")=some true
 mT:PySem.W.typeIn K (.ref M)=some (.type "type")
 n_NoFiring:PySem.W.nsIn K mainGlobals "NoFiring"=some (some (.ref (ds.getD 2 0)))
 x_NoFiring:PySem.W.excIn K (ds.getD 2 0) BV "ValueError.__new__"=true
 w_NoFiring:BD K M ds 2=true
 n_NoHour:PySem.W.nsIn K mainGlobals "NoHour"=some (some (.ref (ds.getD 3 0)))
 x_NoHour:PySem.W.excIn K (ds.getD 3 0) BV "ValueError.__new__"=true
 w_NoHour:BD K M ds 3=true
 n_NoBoiler:PySem.W.nsIn K mainGlobals "NoBoiler"=some (some (.ref (ds.getD 4 0)))
 x_NoBoiler:PySem.W.excIn K (ds.getD 4 0) BV "ValueError.__new__"=true
 w_NoBoiler:BD K M ds 4=true
 n_NoAmount:PySem.W.nsIn K mainGlobals "NoAmount"=some (some (.ref (ds.getD 15 0)))
 x_NoAmount:PySem.W.excIn K (ds.getD 15 0) BV "ValueError.__new__"=true
 w_NoAmount:BD K M ds 15=true
 n_NoDeed:PySem.W.nsIn K mainGlobals "NoDeed"=some (some (.ref (ds.getD 16 0)))
 x_NoDeed:PySem.W.excIn K (ds.getD 16 0) BV "ValueError.__new__"=true
 w_NoDeed:BD K M ds 16=true
 n_NoLine:PySem.W.nsIn K mainGlobals "NoLine"=some (some (.ref (ds.getD 17 0)))
 x_NoLine:PySem.W.excIn K (ds.getD 17 0) BV "ValueError.__new__"=true
 w_NoLine:BD K M ds 17=true
 n_NoWay:PySem.W.nsIn K mainGlobals "NoWay"=some (some (.ref (ds.getD 6 0)))
 x_NoWay:PySem.W.excIn K (ds.getD 6 0) BV "ValueError.__new__"=true
 w_NoWay:BD K M ds 6=true
 w_NoText:BD K M ds 18=true
 hd:PySem.W.hasDictIn K (ds.getD 18 0)=true
 na:PySem.W.findIn K (.ref (ds.getD 18 0)) "at"=some none
 xb:Lf K M
 xc:IC K (ds.getD 18 0) "at"
def Jx{X:Cx}{j:Nat}{p q:Pos}:PE X (.UnaryOp .USub (.Constant (.int 1) j p) q) (tC (.int (-1))):=(QG QI Ak).weak fun g H Q z=>⟨1,rfl,z⟩
def Fd(w:Str):Int:=(((List.range 10).find? fun(n:Nat)=>nT (n:Int)==w).getD 0:Nat)
def F9(cs:yV)(ws:List Str):Option (yV):=if CP cs ws=true then some (ws.map Fd) else none
def BO(C:yZ)(g:List Str)(i:Nat):Option (yV):=if i<C.length then F9 (C.getD i []) (AF (g.getD i Str.empty) " ") else none
def Cm(C:yZ)(ps:List Str):Sum Int (yZ):=match(List.range ps.length).find? (λi=>(BO C ps i).isNone) with
 |some i=> .inl (i:Nat)
 |none=>if ps.length<C.length then .inl (-1) else .inr ((List.range ps.length).map λi=>(BO C ps i).getD [])
def Jy(C:yZ)(d:yP):Sum Int (yZ):=match d with | .str t=>Cm C (AF t "/") | _=> .inl (-1)
def OY:∀ {n i:Nat},i<n->(∀j,j<i->p j=false)->p i=true->(List.range n).find? p=some i:=λ{n i} h1 h2 h3=>by
 rw[List.find?_range_eq_some];exact⟨h3,am.mpr h1,λj g=>by rw[h2 j g];rfl⟩
def OZ(h:∀j,j<n->p j=false):(List.range n).find? p=none:=by
 rw[List.find?_eq_none];intro x g;rw[h x (am.mp g)];exact YZ
def LD{c:Int}{w:Str}(h:Bx c w=true):∃n:Nat,(n:Int)<=c/\w=nT (n:Int):=by
 unfold Bx C1 at h;obtain⟨y,D,e⟩:=bH.mp h;obtain⟨z,I,rfl⟩:=Zg.mp D;obtain⟨n,G,rfl⟩:=Zg.mp I;have g:=am.mp G;refine⟨n,by lia,?_⟩;have:(nT (n:Int)==w)=true:=e;exact(ao this).symm
def WQ{c:Int}(h:(n:Int)<=c):Bx c (nT (n:Int))=true:=by
 unfold Bx C1;refine bH.mpr ⟨.str (nT (n:Int)),Zg.mpr ⟨_,Zg.mpr ⟨n,am.mpr (by lia),rfl⟩,rfl⟩,?_⟩;show(nT (n:Int)==nT (n:Int))=true;exact aJ _
def O1:∀n:Nat,n<10->Fd (nT (n:Int))=(n:Int):=by decide+kernel
def LE{cs:yV}(h:CP cs ws=true):ws.length=cs.length:=by
 unfold CP at h;rw[Zh]at h;exact Z7 h.1
def O2{cs:yV}(h:CP cs ws=true)(D:∀c∈cs,0<=c/\c<=9){i:Nat}{w:Str}(z:ws[i]? =some w):∃n:Nat,n<10/\w=nT (n:Int)/\Fd w=(n:Int)/\∃c,cs[i]? =some c/\(n:Int)<=c:=by
 have J:=LE h;unfold CP at h;rw[Zh]at h;have hi:=(Y3.mp z).1;have g:cs[i]? =some cs[i]:=Y6 (by lia);have I:(List.zipWith Bx cs ws)[i]? =some (Bx cs[i] w):=by rw[ck,g,z]
 have ok:Bx cs[i] w=true:=Zx.mp h.2 _ (Y8 I);obtain⟨n,G,rfl⟩:=LD ok;have:=(D _ (Y8 g)).2;exact⟨n,by lia,rfl,O1 n (by lia),_,g,G⟩
def Hc{C:yZ}{g:List Str}{i:Nat}{r:yV}(h:BO C g i=some r):i<C.length/\CP (C.getD i []) (AF (g.getD i Str.empty) " ")=true/\r=(AF (g.getD i Str.empty) " ").map Fd:=by
 unfold BO F9 at h;split at h
 .rename_i c;split at h
  .rename_i q;cases h;exact⟨c,q,rfl⟩
  .cases h
 .cases h
def WR{x y w:Str}(h:w∈AF x y):w.length<=x.length:=by
 unfold AF at h;split at h
 .rw[Z2.mp h];exact Y5 _
 .split at h
  .rw[Z2.mp h];exact Y5 _
  .unfold Builtin.Str.partsBetween at h;obtain⟨q,_,rfl⟩:=Zg.mp h;exact strSub_length_le ..
inductive He_(CT:yQ)(H:Hp)(Q:VK)(E:XK)(v u x:V):Prop
 |mk(p P S d:_)(_:PL.ok P)(_:SY.ok S P.bs.length)(_:Aa p H P.d v)(_:Aa p H S.d u)(_:Aa p H d x)(_:(∀ t, d = .str t -> t.length <= 200000))(_:(∀n H' a,Jy (caps P S) d= .inl n->Ab H H'->H a=none->H' a=some (.xd [("at",.int n)])->E (.ref CT) (some a) H'))(_:(∀F H' b,Jy (caps P S) d= .inr F->Ab H H'->Aa p H' (FD F) (.ref b)->Q (.ref b) H'))
def He(CT:yQ):Sp:=λvs H Q E=>zQ (He_ CT H Q E) vs
structure WB(K:Fgx)(M:yQ)(ds:List yQ)(C:yQ)(dx:Option yQ)(H:Hp)(ws:List V):Prop where
 ex:∃i word,i<19/\C=ds.getD i 0/\kindWords[i]? =some word/\BD K M ds i=true/\(word≠Str.ofString "text" ->ws=[.str word])/\
  (word=Str.ofString "text" ->∃a v,dx=some a/\PySem.W.hasDictIn K C=true/\PySem.W.findIn K (.ref C) "at"=some none/\H a=some (.xd [("at",v)])/\ws=[.str word,v])
def WB.mro{K:Fgx}{M:yQ}{ds:List yQ}{ws:List V}(h:WB K M ds C dx H ws):PySem.W.mroIn K C (.ref M)=some true:=by
 obtain⟨i,_,_,rfl,_,q,_⟩:=h.ex;exact(Oe q).2.1
def WB.keep{K:Fgx}{M:yQ}{ds:List yQ}{H':Hp}{ws:List V}(h:WB K M ds C dx H ws)(k:∀b o,H b=some o->H' b=some o):WB K M ds C dx H' ws:=by
 obtain⟨i,g,J,D,L,h4,I,G⟩:=h.ex;refine⟨i,g,J,D,L,h4,I,λz=>?_⟩;obtain⟨a,v,k1,k2,k3,O,Z⟩:=G z;exact⟨a,v,k1,k2,k3,k _ _ O,Z⟩
variable{M:yQ}{ds:List yQ}
def WT{f:yQ}{z:FuncData}(F:DV K "__init__" "NoText.__init__" wa0 f z)(C:Tc K mg M ds)(I:D9 K (ds.getD 18 0) f=true):BK P w K mg base CX0 1 f z ["self","at"] (sp_init (ds.getD 18 0) "at"):=by
 refine F.ok (N:=["self","at"]) Az (λD H Q E h=>?_) (λdl A outer s H D Q E J h=>?_)
 .cases h;rfl
 refine⟨_,Ai (A8 (Up C.xb rfl C.c_MainError (Bi (cv 0) (Bi (Um (by decide) (cv 1)) CS)))) (An (Ur (cv 0) (cv 1) rfl rfl)),?_⟩;k_dat 0"u"
 .rename_i e v;obtain⟨⟨n,rfl,G⟩,g,q⟩:=h;refine⟨n,rfl,G,e,_,f,_,rfl,g,I,?_⟩;exact⟨e,_,rfl,g,C.xc,q⟩
def WU(F:Df K mg "firing_read" waN ["plant","story","text"])(T:Tx mg)(C:Tc K mg M ds)(XI:Xi P w K mg base 1 "NoText" (ds.getD 18 0) "at")(j7:F5 P w K mg base)(j5:Fn P w K mg base 2 "is_row_text" ["caps","row"] Ju):A2 P w K mg base 10 "firing_read" ["plant","story","text"] (He (ds.getD 18 0)):=by
 k_dat ⟨["plant","story","text","caps","rows","at","row"],vs,D⟩"g"
 refine⟨_,(Ai (zD 3 (zA j7 D (Ar (cy 0) (cy 1)))) (Ai (A1 (BR (BM (AG Gx rfl T.b_isinstance aS (Ar (cy 2) (Fk (v:= .ty "str") rfl T.b_str Dh rfl))))) (An (Lg isDef_cx rfl XI (D.mono (by decide)) rfl (Ah Jx))) AZ) (Ai (zD 4 (CV K PySem.F.plainAttrs_str PySem.F.slot_str_split PySem.F.type_str_split Iw (cy 2) (Ah Ax))) (Ai (B4 PassesOwn.leaving rfl (SD P w K rfl T.b_enumerate (Ah (cy 4))) (zF 5 6) (An (A1 (PW.pt (DZ (AU Nw (cy 5) (zG (cy 3)) (AV _)) (El (BR (BM (zA j5 D (Ar (AI (Bd K) (cy 3) (cy 5) (λ_ _=>rfl)) (cy 6)))))))) (An (Lg isDef_cx rfl XI (D.mono (by decide)) rfl (Ah (cy 5)))) AZ))) (Ai (A1 (AU Eu (zG (cy 4)) (zG (cy 3)) (AV _)) (An (Lg isDef_cx rfl XI (D.mono (by decide)) rfl (Ah Jx))) AZ) (An (Av (A6 (BN K) rfl T.b_tuple BH (Ah (AW ["row"] [none] rfl (Cf K (cy 4)) (AB.of rfl) (λ_ _ _ _=>(zC 0)) (λ_ _ _ _=>AR) (λ_ _ _ _=>(A6 (BN K) rfl T.b_tuple BH (Ah (AW ["word"] [none] rfl (Cf K (CV K PySem.F.plainAttrs_str PySem.F.slot_str_split PySem.F.type_str_split Iw (cy 0) (Ah Ax))) (AB.of rfl) (λ_ _ _ _=>(zC 0)) (λ_ _ _ _=>AR) (λ_ _ _ _=>(A6 N4 rfl T.b_int L2.boot_int (Ah (cy 0)))))))))))))))))),?_⟩;k_dat 0"u"
 .rename_i v u x;obtain⟨p,P,S,d,ok,so,rv,ru,rd,ht,qE,qF⟩:=h;have x8:=so.x8;have b4:=ok.b4;refine⟨p,P,S,ok,so,rv,ru,λvc H1 s1 rc=>?_⟩;obtain⟨CA,cx,rfl,j8,l7⟩:=Aa.firing rc;have i7:=Aa.ev (Ev.same s1) _ _ rd;refine⟨_,Aa.ty i7,.inr (.inr (.inr (.inr rfl))),⟨λc=>?_,λc=>?_⟩⟩
  .refine⟨-1,rfl,by decide,λa ha=>qE (-1) _ a ?_ (s1.trans (Ab.new ha)) (s1.free ha) Ag⟩;cases d<;>first | rfl | cases c
  .cases d<;>first | cases c | skip
   rename_i t;have tl:=ht t rfl;unfold Aa at i7;subst i7;refine⟨rfl,t,"/",rfl,rfl,by decide,Hb tl,λl hl=>?_⟩;obtain⟨g,i6⟩:∃g,g=AF t "/" :=⟨_,rfl⟩;obtain⟨C,eC⟩:∃C,C=caps P S:=⟨_,rfl⟩;have j6:=K8 t "/";have n5:(200000:Nat)+2<=sizeLine:=by decide
   have j2:∀w∈g,w.length<=200000:=λw hw=>Ze (WR (i6 ▸ hw)) tl
   have lC:C.length=S.ex.length:=by rw[eC];exact Bs
   have C9:∀r∈C,(∀i∈r,0<=i/\i<=9)/\r.length=P.bs.length:=by rw[eC];exact B7 ok
   have rD:Jy (caps P S) (.str t)=Cm C g:=by rw[i6,eC];rfl
   rw[rD]at qE qF;have n1:=Ab.new (o:= .lst ((AF t "/").map V.str)) hl;have kl:upd H1 l (.lst ((AF t "/").map V.str)) l=some (.lst ((AF t "/").map V.str)):=Ag;have s2:=s1.trans n1;have i0:=n1 _ _ j8;have i9:=Ad.ev (Ev.same n1) _ _ l7;have l9:=i9.len;rw[Y0,<-eC]at l9;generalize upd H1 l (.lst ((AF t "/").map V.str))=H2 at n1 kl s2 i0 i9 ⊢;rw[<-i6]at kl j6;refine⟨l,rfl,⟨_,Al.of kl⟩,for_enum (xs:=g.map V.str) (λi σ L=>(∃x5 x6,σ=[some v,some u,some (.str t),some (.ref CA),some (.ref l),x5,x6])/\Ab H2 L/\∀j,j<i->∃r,BO C g j=some r) ⟨⟨_,_,rfl⟩,Ab.refl _,λj hj=>absurd hj (aR _)⟩ (λi σ L h=>Al.of (h.2.1 _ _ kl)) (λi x σ L T hx h hT=>?_) fun σ H5 h=>?_⟩
   .obtain⟨⟨x5,x6,rfl⟩,sh,hj⟩:=h;rw [YU] at hx;obtain⟨I,G,rfl⟩:=Zi.mp hx;have j9:=Ab.new (o:= .tup [V.int (i:Int),V.str I]) hT;have i5:i<g.length:=(Y3.mp G).1;have sT:=sh.trans j9;have wat:g.getD i Str.empty=I:=by rw [Y7,G];rfl
    have n9:i<=C.length:=by
     by_cases z:i=0
     .lia
     .obtain⟨r,D⟩:=hj (i-1) (by lia);have:=(Hc D).1;lia
    have j0:BO C g i=none->∀(H6:Hp),Ab H2 H6->∀a,H6 a=none->E (Value.ref (ds.getD 18 0)) (some a) (upd H6 a (HO.xd [("at",V.int (i:Int))])):=λhb H6 J a ha=>by
     refine qE i _ a ?_ ((s2.trans J).trans (Ab.new ha)) ((s2.trans J).free ha) Ag;unfold Cm;rw[OY i5 (λj Z=>by obtain⟨r,D⟩:=hj j Z;rw[D];rfl) (by rw[hb];rfl)]
    refine⟨T,_,rfl,Ae.of Ag,rfl,_,_,rfl,_,_,rfl,rfl,?_⟩;refine⟨CA,cx,rfl,.inr (Ae.of (sT _ _ i0)),⟨λc=>⟨λ_=>?_,λz=>(by cases z)⟩,λc=>?_⟩⟩
    .have c':=Z7 c;refine⟨i,rfl,by lia,j0 ?_ _ sT⟩;unfold BO;rw[YY (by lia)]
    .have c':=Zw c;have O:i<C.length:=by lia
     have i4:C[i]? =some (C.getD i []):=by rw[Y7,Y6 O];rfl
     obtain⟨y,hy,ry⟩:=i9.get (i:=i) (d:=AS (C.getD i [])) (by rw[YU,<-eC,i4];rfl);obtain⟨RA,rfl,l6⟩:=Aa.ofRow ry;obtain⟨r9,rl⟩:=C9 _ (Y8 i4);refine⟨CA,cx,_,_,rfl,rfl,Ae.of (sT _ _ i0),Cr hy,C.getD i [],sT _ _ l6,by lia,r9,j2 I (Y8 G),λb H6 hb J=>⟨λcc=>?_,λcc=>?_⟩⟩
     .refine⟨i,rfl,by lia,j0 ?_ _ (sT.trans J)⟩;unfold BO F9;rw[Z1 O,wat,YY (by rw[<-hb];intro z;rw[z]at cc;cases cc)]
     .refine⟨⟨_,_,rfl⟩,sT.trans J,λj Z=>?_⟩;rcases Nat.lt_succ_iff_lt_or_eq.mp Z with z | rfl
      .exact hj j z
      .refine⟨(AF I " ").map Fd,?_⟩;unfold BO F9;rw[Z1 O,wat,Z1 (by rw[<-hb];cases b<;>first | rfl | cases cc)]
   .obtain⟨⟨x5,x6,rfl⟩,sh,hj⟩:=h;rw [Y0] at hj;have all:(List.range g.length).find? (λi=>(BO C g i).isNone)=none:=OZ λj Z=>by obtain⟨r,D⟩:=hj j Z;rw [D];rfl
    refine⟨l,_,rfl,.inl (Al.of (sh _ _ kl)),CA,cx,rfl,.inr (Ae.of (sh _ _ i0)),⟨λc=>?_,λc=>?_⟩⟩
    .have c':=Z7 c;rw[Y0]at c';refine⟨-1,rfl,by decide,λa ha=>qE (-1) _ a ?_ ((s2.trans sh).trans (Ab.new ha)) ((s2.trans sh).free ha) Ag⟩;unfold Cm;rw[all];exact Z1 (by lia)
    .have c':=Zw c;rw[Y0]at c';have rF:Cm C g= .inr ((List.range g.length).map λi=>(BO C g i).getD []):=by
      unfold Cm;rw[all];exact YY (by lia)
     have o8:g.length<=8:=by
      by_cases z:g.length=0
      .lia
      .obtain⟨r,D⟩:=hj (g.length-1) (by lia);have:=(Hc D).1;lia
     refine⟨l,rfl,⟨_,Al.of (sh _ _ kl)⟩,C3 (xs:=g.map V.str) (λi zs L=>Ab H5 L/\Ad p L ((List.range i).map λj=>AS ((BO C g j).getD [])) zs) (by rw[Y0];lia) ⟨Ab.refl _,.nil⟩ (λi zs L h=>by have:=h.2.len;rw[Y0,ZU]at this;lia) (λi zs L _ h=>Al.of ((sh.trans h.1) _ _ kl)) (λi x zs L hx h=>?_) λzs H6 h=>?_⟩
     .rw [YU] at hx;obtain⟨I,G,rfl⟩:=Zi.mp hx;obtain⟨h1,h2⟩:=h;have i5:i<g.length:=(Y3.mp G).1;have wat:g.getD i Str.empty=I:=by rw [Y7,G];rfl
      obtain⟨r,D⟩:=hj i i5;obtain⟨O,hok,er⟩:=Hc D;rw[wat]at hok er;have i4:C[i]? =some (C.getD i []):=by rw[Y7,Y6 O];rfl
      obtain⟨r9,rl⟩:=C9 _ (Y8 i4);have lw:=LE hok;refine⟨trivial,λ_=>⟨rfl,I," ",rfl,rfl,by decide,Hb (j2 I (Y8 G)),λl2 j4=>?_⟩,λz=>by cases z⟩;have n3:=Ab.new (o:= .lst ((AF I " ").map V.str)) j4;have k3:upd L l2 (.lst ((AF I " ").map V.str)) l2=some (.lst ((AF I " ").map V.str)):=Ag;generalize upd L l2 (.lst ((AF I " ").map V.str))=H3 at n3 k3 ⊢;generalize AF I " "=ws at hok er lw k3;refine⟨l2,rfl,⟨_,Al.of k3⟩,C3 (xs:=ws.map V.str) (λk ys H4=>Ab H3 H4/\ys=((ws.take k).map Fd).map V.int) (by rw[Y0];lia) ⟨Ab.refl _,rfl⟩ (λk ys H4 h=>by rw[h.2,Y0,Y0,Za];lia) (λk ys H4 _ h=>Al.of (h.1 _ _ k3)) (λk x ys H4 hx h=>?_) λys H4 h=>?_⟩
      .rw[YU]at hx;obtain⟨w1,j3,rfl⟩:=Zi.mp hx;obtain⟨n,hn,rfl,en,_⟩:=O2 hok r9 j3;refine⟨trivial,λ_=>⟨n,rfl,by lia,by lia,h.1,?_⟩,λz=>by cases z⟩;rw[h.2,AY j3,YW,YW,bY,bY,en]
      .intro m hm;refine⟨m,ys,rfl,.inl ⟨Al.of Ag,λl4 i8=>?_⟩⟩;have J:=n3.trans (h.1.trans ((Ab.new (o:= .lst ys) hm).trans (Ab.new (o:= .tup ys) i8)));refine⟨h1.trans J,?_⟩;rw[bp,YW,bY];refine Ad.append (Ad.ev (Ev.same J) _ _ h2) (.cons (Aa.tup Ag ?_) .nil);rw[h.2,D,er,Z0 (by rw[Y0];lia)];exact Ad.ofInts
     .intro m hm;refine⟨m,zs,rfl,.inl ⟨Al.of Ag,λl4 i8=>?_⟩⟩;have J:=(Ab.new (o:= .lst zs) hm).trans (Ab.new (o:= .tup zs) i8);have h2:=h.2;rw[Y0]at h2;refine qF _ _ l4 rF ((s2.trans sh).trans (h.1.trans J)) (Aa.tup Ag ?_);rw[bo];exact Ad.ev (Ev.same J) _ _ h2
def BX{X:Cx}{K:Fgx}{c:Str}{a:yQ}{Z I D z:Pos}(L:X.mg "isinstance"=none)(hc:X.mg c=some (.ref a))(J:Gl X "isinstance")(G:Gl X c)(g:K3 X 0 "_law_e"=true)(nd:(c=="__debug__")=false)(O:X.K=K):PE X (.Call (.Name "isinstance" Z) [.Name "_law_e" I,.Name c D] [] z) (Ky (Ol K) (Bp (Es 0) (Bp (tC (.ref a)) CF))):=
 @AG _ _ _ _ _ _ _ _ _ (Om K O) J L aS (@FB _ _ _ _ _ (@cx _ 0 _ _ g) (@BA _ _ (.ref a) _ _ G hc rfl nd) rfl) (by decide) (by decide) rfl rfl
abbrev wl(i:Nat):List Bool:=(List.range 19).map (· ==i)
def WV:∀i,i<19->(wl i).count true=1:=by decide
def WW:∀i,i<19->(wl i)[i]? =some true:=by decide
def WX:∀i,i<19->∀m,m<i->(wl i)[m]? =some false:=by decide
def za6:As ["_law_e","_law_kinds","_law_words","_law_word"] ["_law_e"] (Am wba):=Az
def WY(F:Df K mg "_law_kind" wba ["_law_e"])(T:Tx mg)(C:Tc K mg M ds):FH P w K mg base 1 "_law_kind" ["_law_e"] (FM (WB K M ds)):=by
 refine F.fnQ za6 (λvs H Q E h=>?_) (λf dl A outer s H vs Q hr h=>?_)
 .cases h;rfl
 refine⟨_,(@Ai _ _ _ _ _ (@AE _ _ (1) _ _ _ _ za6.nd rfl (AC (by rfl)) (@Ci _ _ _ _ (@EY _ _ _ _ _ _ _ _ _ (zH C.c_NoPlant) (zH C.c_NoStory) (zH C.c_NoFiring) (zH C.c_NoHour) (by rfl))) (by rfl) (DF (by rfl))) (@Ai _ _ _ _ _ (@AE _ _ (1) _ _ _ _ za6.nd rfl (AC (by rfl)) (@Ay _ _ _ _ _ _ _ _ (@E2 _) (@cx _ 1 _ _ (by rfl)) (@Ci _ _ _ _ (@EY _ _ _ _ _ _ _ _ _ (zH C.c_NoBoiler) (zH C.c_NoPrices) (zH C.c_NoWay) (zH C.c_NoSet) (by rfl)))) (by rfl) (DF (by rfl))) (@Ai _ _ _ _ _ (@AE _ _ (1) _ _ _ _ za6.nd rfl (AC (by rfl)) (@Ay _ _ _ _ _ _ _ _ (@E2 _) (@cx _ 1 _ _ (by rfl)) (@Ci _ _ _ _ (@FC _ _ _ _ _ _ _ (zH C.c_NoTanks) (zH C.c_NoPump) (zH C.c_NoFeeding) (by rfl)))) (by rfl) (DF (by rfl))) (@Ai _ _ _ _ _ (@AE _ _ (1) _ _ _ _ za6.nd rfl (AC (by rfl)) (@Ay _ _ _ _ _ _ _ _ (@E2 _) (@cx _ 1 _ _ (by rfl)) (@Ci _ _ _ _ (@FC _ _ _ _ _ _ _ (zH C.c_NoReadings) (zH C.c_NoStart) (zH C.c_NoShifts) (by rfl)))) (by rfl) (DF (by rfl))) (@Ai _ _ _ _ _ (@AE _ _ (1) _ _ _ _ za6.nd rfl (AC (by rfl)) (@Ay _ _ _ _ _ _ _ _ (@E2 _) (@cx _ 1 _ _ (by rfl)) (@Ci _ _ _ _ (@EY _ _ _ _ _ _ _ _ _ (zH C.c_NoBook) (zH C.c_NoAmount) (zH C.c_NoDeed) (zH C.c_NoLine) (by rfl)))) (by rfl) (DF (by rfl))) (@Ai _ _ _ _ _ (@A8 _ _ _ _ (@CU _ _ _ _ _ _ _ _ _ _ _ _ PySem.F.plainAttrs_list PySem.F.slot_list_append PySem.F.type_list_append C2 (@cx _ 1 _ _ (by rfl)) (@Cy _ _ _ (zH C.c_NoText) (by rfl)) (by rfl) (by rfl) (by rfl) (by rfl) (by rfl)) (by rfl)) (@Ai _ _ _ _ _ (@A1 _ _ _ _ _ _ _ _ (@PW.pt _ _ _ (@DZ _ _ _ _ _ _ _ (@AU _ _ _ _ _ _ _ _ (@Kt _) (@CV K _ _ _ _ _ _ _ _ _ _ _ _ PySem.F.plainAttrs_list PySem.F.slot_list_count PySem.F.type_list_count T2 (@cx _ 1 _ _ (by rfl)) (@Cy _ _ _ (@Cp _ _ _ _) (by rfl)) (by rfl) (by rfl) (by rfl) (by rfl) (by rfl) (by rfl)) (@Ak _ _ _ _) (AV _)) (@El _ _ _ _ (@BR _ _ _ _ (@BM _ _ _ (@AG _ _ _ _ _ _ _ _ _ (Om K) rfl T.b_isinstance aS (@FB _ _ _ _ _ (@cx _ 0 _ _ (by rfl)) (@Fk _ _ (.ty "ValueError") _ _ rfl T.b_ValueError PyProof.Rows.Boot.«ValueError» rfl (by decide) (by decide)) (by rfl)) (by decide) (by decide) (by rfl) (by rfl)) (by intro _;rfl)))))) (@An _ _ _ (@Av _ _ _ _ (@Cu _ _ _ _ _ (@Cy _ _ _ (@Ax _ _ _ _) (by rfl))))) (@AZ _)) (@Ai _ _ _ _ _ (@AE _ _ (2) _ _ _ _ za6.nd rfl (AC (by rfl)) (@Ci _ _ _ _ (@Bi _ _ _ _ _ (@Ax _ _ _ _) (@Bi _ _ _ _ _ (@Ax _ _ _ _) (@Bi _ _ _ _ _ (@Ax _ _ _ _) (@Bi _ _ _ _ _ (@Ax _ _ _ _) (@Bi _ _ _ _ _ (@Ax _ _ _ _) (@Bi _ _ _ _ _ (@Ax _ _ _ _) (@Bi _ _ _ _ _ (@Ax _ _ _ _) (@EY _ _ _ _ _ _ _ _ _ (@Ax _ _ _ _) (@Ax _ _ _ _) (@Ax _ _ _ _) (@Ax _ _ _ _) (by rfl)) (by rfl)) (by rfl)) (by rfl)) (by rfl)) (by rfl)) (by rfl)) (by rfl))) (by rfl) (DF (by rfl))) (@Ai _ _ _ _ _ (@AE _ _ (2) _ _ _ _ za6.nd rfl (AC (by rfl)) (@Ay _ _ _ _ _ _ _ _ (@E2 _) (@cx _ 2 _ _ (by rfl)) (@Ci _ _ _ _ (@Bi _ _ _ _ _ (@Ax _ _ _ _) (@Bi _ _ _ _ _ (@Ax _ _ _ _) (@Bi _ _ _ _ _ (@Ax _ _ _ _) (@Bi _ _ _ _ _ (@Ax _ _ _ _) (@EY _ _ _ _ _ _ _ _ _ (@Ax _ _ _ _) (@Ax _ _ _ _) (@Ax _ _ _ _) (@Ax _ _ _ _) (by rfl)) (by rfl)) (by rfl)) (by rfl)) (by rfl)))) (by rfl) (DF (by rfl))) (@Ai _ _ _ _ _ (@AE _ _ (3) _ _ _ _ za6.nd rfl (AC (by rfl)) (@AI _ _ _ _ _ _ _ (@Bj _ K (by rfl)) (@cx _ 2 _ _ (by rfl)) (@CV K _ _ _ _ _ _ _ _ _ _ _ _ PySem.F.plainAttrs_list PySem.F.slot_list_index PySem.F.type_list_index T4 (@cx _ 1 _ _ (by rfl)) (@Cy _ _ _ (@Cp _ _ _ _) (by rfl)) (by rfl) (by rfl) (by rfl) (by rfl) (by rfl) (by rfl)) (λ_ _=>rfl)) (by rfl) (DF (by rfl))) (@An _ _ _ (@Av _ _ _ _ (@DE _ _ _ _ _ _ _ _ (@AU _ _ _ _ _ _ _ _ (@Dz _) (@cx _ 3 _ _ (by rfl)) (@Ax _ _ _ _) (AV _)) (@Cu _ _ _ _ _ (@FB _ _ _ _ _ (@cx _ 3 _ _ (by rfl)) (Ut (cv 0) rfl) (by rfl))) (@Cu _ _ _ _ _ (@Cy _ _ _ (@cx _ 3 _ _ (by rfl)) (by rfl)))))))))))))))),?_⟩;k_dat 0"u"
 .rename_i e;obtain⟨C0,dx,ws,G,hw,q⟩:=h;obtain⟨i,D,hi,rfl,i5,hok,hp,i4⟩:=hw.ex;obtain⟨O,_,kj,kV⟩:=Oe hok;have g:∀j,j<19->∀u,RelV (.ref (ds.getD j 0)) u->PySem.W.kitOne K (.ref (ds.getD i 0)) u=some (j==i):=λj hj u r=>by
   cases(show u=Value.ref _ from r);exact kj j hj
  have kv:∀u,RelV (.ty "ValueError") u->PySem.W.kitOne K (.ref (ds.getD i 0)) u=some true:=λu r=>by
   cases(show u=Value.type _ from r);exact kV
  refine⟨e,_,_,_,_,rfl,G,O,g 0 (by decide),⟨e,_,_,_,_,rfl,G,O,g 1 (by decide),⟨e,_,_,_,_,rfl,G,O,g 2 (by decide),⟨e,_,_,_,_,rfl,G,O,g 3 (by decide),λp0 G0 S0 n0 m0=>?_⟩⟩⟩⟩;have e0:=S0 e _ G;refine⟨e,_,_,_,_,rfl,e0,O,g 4 (by decide),⟨e,_,_,_,_,rfl,e0,O,g 5 (by decide),⟨e,_,_,_,_,rfl,e0,O,g 6 (by decide),⟨e,_,_,_,_,rfl,e0,O,g 7 (by decide),λq1 F1 t1 _ u1=>⟨p0,q1,_,_,rfl,rfl,t1 _ _ m0,u1,Bn rfl,λp1 G1 s1 n1 m1=>?_⟩⟩⟩⟩⟩;have S1:=S0.trans (t1.trans s1);have e1:=S1 e _ G;refine⟨e,_,_,_,_,rfl,e1,O,g 8 (by decide),⟨e,_,_,_,_,rfl,e1,O,g 9 (by decide),⟨e,_,_,_,_,rfl,e1,O,g 10 (by decide),λq2 F2 t2 _ u2=>⟨p1,q2,_,_,rfl,rfl,t2 _ _ m1,u2,Bn rfl,λp2 G2 s2 n2 m2=>?_⟩⟩⟩⟩;have S2:=S1.trans (t2.trans s2);have e2:=S2 e _ G;refine⟨e,_,_,_,_,rfl,e2,O,g 11 (by decide),⟨e,_,_,_,_,rfl,e2,O,g 12 (by decide),⟨e,_,_,_,_,rfl,e2,O,g 13 (by decide),λq3 F3 t3 _ u3=>⟨p2,q3,_,_,rfl,rfl,t3 _ _ m2,u3,Bn rfl,λp3 G3 s3 n3 m3=>?_⟩⟩⟩⟩;have S3:=S2.trans (t3.trans s3);have L:=S3 e _ G;refine⟨e,_,_,_,_,rfl,L,O,g 14 (by decide),⟨e,_,_,_,_,rfl,L,O,g 15 (by decide),⟨e,_,_,_,_,rfl,L,O,g 16 (by decide),⟨e,_,_,_,_,rfl,L,O,g 17 (by decide),λq4 F4 t4 _ u4=>⟨p3,q4,_,_,rfl,rfl,t4 _ _ m3,u4,Bn rfl,λI G4 s4 n4 m4=>?_⟩⟩⟩⟩⟩;have S4:=S3.trans (t4.trans s4);have e4:=S4 e _ G;refine⟨.inl ⟨rfl,_,Al.of m4⟩,e,_,_,_,_,rfl,e4,O,g 18 (by decide),I,_,_,rfl,rfl,m4,HQ (av rfl),?_⟩;have i6:e≠I:=λz=>by rw[z,m4]at e4;cases e4
  have f4:H I=none:=(S3.trans t4).free n4;generalize hg:upd G4 I _=GA;have J:GA I=some (.lst ((wl i).map V.bl)):=by rw[<-hg];exact Ag
  have e5:GA e=some (ED e (ds.getD i 0) dx):=by rw[<-hg];exact(Aq i6).trans e4
  have S5:Ab H GA:=by rw[<-hg];exact Ab.evOwn S4 f4 (Ev.pen m4)
  clear hg;refine⟨.inl ⟨rfl,_,Al.of J⟩,I,_,rfl,rfl,J,?_⟩;rw[WV i hi];refine⟨rfl,λc=>absurd c (by decide),λ_=>⟨e,_,_,_,_,rfl,e5,O,kv,λc=>(by cases c),λ_=>?_⟩⟩;refine λw0 G5 s5 _ m6=>λw1 G6 s6 _ m7=>⟨w0,w1,_,_,rfl,rfl,s6 _ _ m6,m7,Bn rfl,λw2 G7 s7 _ m8=>?_⟩
  have m8:G7 w2=some (.lst (kindWords.map V.str)):=m8;have Z:=s5.trans (s6.trans s7);have i0:B5 (kindWords.map V.str) (i:Int)=some (.str D):=by
   rw[Cr];rw[YU,i5]
   rfl
  refine⟨.inl ⟨rfl,_,Al.of (Z _ _ J)⟩,I,_,i,rfl,rfl,Z _ _ J,av rfl,WW i hi,WX i hi,w2,_,_,_,rfl,rfl,Al.of m8,i0,?_⟩;have e7:=Z e _ e5;have SA:=S5.trans Z;refine⟨rfl,λc=>?_,λc t G8 s8 k8=>?_⟩
  .have ew:D=Str.ofString "text" :=V.str.inj (Z7 c);obtain⟨aD,vD,rfl,hd,na,hD,rfl⟩:=i4 ew;exact⟨e,_,_,_,vD,rfl,e7,SA aD _ hD,O,hd,na,rfl,λt G8 s8 k8=>q _ t (SA.trans s8) k8⟩
  .have ew:D≠Str.ofString "text" :=λz=>(Zw c) (by rw [z])
   obtain rfl:=hp ew;exact q _ t (SA.trans s8) k8
def WZ:As ["_law_call","_law_e"] ["_law_call"] (Am wbb):=Az
def W4(F:Df K mg "_law_said" wbb ["_law_call"])(C:Tc K mg M ds)(g:FH P w K mg base 1 "_law_kind" ["_law_e"] (FM (WB K M ds))):GH P w K mg base 18 "_law_said" ["_law_call"] (EE P w K mg base 17 (WB K M ds)):=
 Uw F WZ rfl rfl rfl rfl rfl C.c_MainError C.mB C.mT (λ_ _ _ _ h=>WB.mro h) (λ_ _ _ _ _ h k=>WB.keep h k) g (by decide)
inductive Hf_(ds:List yQ)(H:Hp)(Q:VK)(E:XK)(u h:V):Prop
 |mk(p S n d:_)(_:SY.ok S n)(_:Aa p H S.d u)(_:Aa p H d h)(_:(AT d 0 ((S.ex.length:Int)-1)=false->∀g,Ab H g->E (.ref (ds.getD 3 0)) none g))(_:(AT d 0 ((S.ex.length:Int)-1)=true->∀g,Ab H g->Q .non g))
def Hf(ds:List yQ):Sp:=λz H Q E=>zN (Hf_ ds H Q E) z
def Jz(ds:List yQ):Sp:=λz H Q E=>zN (λv b=>∃p P d,PL.ok P/\Aa p H P.d v/\Aa p H d b/\(AT d 0 ((P.bs.length:Int)-1)=false->∀g,Ab H g->E (.ref (ds.getD 4 0)) none g)/\(AT d 0 ((P.bs.length:Int)-1)=true->∀g,Ab H g->Q .non g)) z
inductive JA_(ds:List yQ)(H:Hp)(Q:VK)(E:XK)(v u w:V):Prop
 |mk(p P S d:_)(_:PL.ok P)(_:SY.ok S P.bs.length)(_:Aa p H P.d v)(_:Aa p H S.d u)(_:Aa p H d w)(_:(C8 (caps P S) d=false->∀g,Ab H g->E (.ref (ds.getD 2 0)) none g))(_:(C8 (caps P S) d=true->∀g,Ab H g->Q .non g))
def JA(ds:List yQ):Sp:=λz H Q E=>zQ (JA_ ds H Q E) z
def W7(F:Df K mg "need_hour" wap ["story","hour"])(T:Tx mg)(C:Tc K mg M ds)(z:DM P w K mg base):A2 P w K mg base 3 "need_hour" ["story","hour"] (Hf ds):=by
 k_dat ⟨["story","hour"],D,G⟩"g"
 k_dat 0"u"
 .rename_i u Z;obtain⟨p,S,n,d,so,ru,rd,J,I⟩:=h;obtain⟨A,B,E,xf,rfl,L,O,hE,rf⟩:=Aa.story ru;refine⟨_,(An (A1 (BR (BM (zA z G (AH (cy 1) Ak (Ay BL (zG ((AI (Bd K) (cy 0) Ak (λ_ _=>rfl)))) Ak))))) (An (D8 isDef_cx rfl C.n_NoHour C.x_NoHour rfl (Ah Ax))) AZ)),?_⟩;refine⟨A,_,0,.ref B,rfl,rfl,Ae.of L,rfl,B,_,rfl,.inr (Ae.of O),p,d,rd,λb g=>⟨λc=>⟨Bn rfl,J ?_ _ (Ab.refl _)⟩,λc=>I ?_ _ (Ab.refl _)⟩⟩
  .rw[Y0]at g;rw[<-g];simpa using c
  .rw[Y0]at g;rw[<-g];simpa using c
def W8(F:Df K mg "need_boiler" waq ["plant","boiler"])(T:Tx mg)(C:Tc K mg M ds)(g:DM P w K mg base):A2 P w K mg base 3 "need_boiler" ["plant","boiler"] (Jz ds):=by
 k_dat ⟨["plant","boiler"],I,J⟩"g"
 k_dat 0"u"
 .rename_i v b';obtain⟨p,P,d,ok,r,rd,Z,O⟩:=h;obtain⟨PA,G,PE,PM,xb,xe,rfl,pA,pB,L,pE,re,pM⟩:=Aa.plant r;have z:=L.len;rw[Y0]at z;refine⟨_,(An (A1 (BR (BM (zA g J (AH (cy 1) Ak (Ay BL (zG ((AI (Bd K) (cy 0) Ak (λ_ _=>rfl)))) Ak))))) (An (D8 isDef_cx rfl C.n_NoBoiler C.x_NoBoiler rfl (Ah Ax))) AZ)),?_⟩;refine⟨PA,_,0,.ref G,rfl,rfl,Ae.of pA,rfl,G,_,rfl,.inr (Ae.of pB),p,d,rd,λb D=>⟨λc=>⟨Bn rfl,Z ?_ _ (Ab.refl _)⟩,λc=>O ?_ _ (Ab.refl _)⟩⟩
  .rw[z,<-D];simpa using c
  .rw[z,<-D];simpa using c
def W9(F:Df K mg "need_firing" wa3 ["plant","story","firing"])(T:Tx mg)(C:Tc K mg M ds)(g:Fn P w K mg base 10 "is_firing" ["plant","story","thing"] GV):A2 P w K mg base 11 "need_firing" ["plant","story","firing"] (JA ds):=by
 k_dat ⟨OU,G,I⟩"h"
 k_dat 0"u"
 .rename_i v u O;obtain⟨p,P,S,d,ok,so,r,ru,rd,L,J⟩:=h;refine⟨_,(An (A1 (BR (BM (zA g I (AH (cy 0) (cy 1) (cy 2))))) (An (D8 isDef_cx rfl C.n_NoFiring C.x_NoFiring rfl (Ah Ax))) AZ)),?_⟩;refine⟨p,P,S,d,ok,so,r,ru,rd,λb Z z D=>⟨λc=>⟨Bn rfl,L ?_ _ D⟩,λc=>J ?_ _ D⟩⟩
  .rw[<-z];simpa using c
  .rw[<-z];simpa using c
end
section
variable{xs:List V}{i:Nat}{p:yQ}{H:Hp}{S:SY}
def Xa(h:i<=xs.length):Bc xs none (some (i:Int))=xs.take i:=by
 unfold Bc HT.sIx;dsimp only;rw[YY (by lia),dy,cT,ak,aP h]
def O3{xs:List V}{x:V}(h:xs[xs.length-1]? =some x):B5 xs (-1)=some x:=by
 have g:xs≠ []:=λz=>by rw[z]at h;simp at h
 have e:=List.dropLast_concat_getLast g;have D:xs.getLast g=x:=by rw[List.getLast_eq_getElem];exact(Y3.mp h).2
 rw[<-e,D];exact Ri _ _
structure Wc(K:Fgx)(CA:yQ):Prop where
 cls:Cls K CA
 nP:NoAttr K CA "plant"
 nS:NoAttr K CA "story"
 nF:NoAttr K CA "firings"
def LF(v u:V)(L:yQ):List (Str×V):=[("plant",v),("story",u),("firings",.ref L)]
def WAt(g:yQ)(H:Hp)(W L:yQ)(v u:V):Prop:=∃z,H W=some (.ins g z (LF v u L))
abbrev FL:=yZ
structure Wat(CA p:yQ)(H:Hp)(W L:yQ)(P:PL)(S:SY)(v u:V)(xs:List V)(Fs:List FL):Prop where
 ok:P.ok
 so:S.ok P.bs.length
 rv:Aa p H P.d v
 ru:Aa p H S.d u
 at_:WAt CA H W L v u
 lst:H L=some (.lst xs)
 reps:Ad p H (Fs.map FD) xs
 fok:∀F∈Fs,FOk P S F
def BY(F:FL)(i j:Nat)(x:Int):FL:=F.set i ((F.getD i []).set j x)
def By(P:PL)(S:SY):FL:=(caps P S).map λr=>r.map λ_=>0
def Hg(F:FL)(i:Nat):FL:=F.set i ((F.getD i []).map λ_=>0)
def Ef(P:PL)(S:SY)(i j:Nat):Int:=((caps P S).getD i []).getD j 0
def Fe(P:PL)(S:SY)(F:FL)(k:Nat):V:=if k=0 then .non else .int (A5 P S F k)
def Dq(F:yZ):Ck (FD F)=true:=CN (ds:=F.map AS) λd hd=>by
 obtain⟨r,_,rfl⟩:=Zg.mp hd;exact F6 r
def LG(P:PL):Ck P.d=true:=CN (ds:=[.tuple (P.bs.map bD),.tuple (P.es.map eD),.tuple [.int P.lo,.int P.hi,.int P.st]]) λd hd=>by
 simp only[Z4,Zk,Zs]at hd;rcases hd with rfl | rfl | rfl
 .exact CN λd hd=>by obtain⟨b,_,rfl⟩:=Zg.mp hd;rfl
 .exact CN λd hd=>by obtain⟨b,_,rfl⟩:=Zg.mp hd;rfl
 .rfl
def LH(S:SY):Ck S.d=true:=CN (ds:=[AS S.ex,.tuple (S.fs.map FT.d)]) λd hd=>by
 simp only[Z4,Zk,Zs]at hd;rcases hd with rfl | rfl
 .exact F6 _
 .exact CN λd hd=>by obtain⟨b,_,rfl⟩:=Zg.mp hd;rfl
def LJ{d:yP}{n:Nat}(h:AT d 0 ((n:Int)-1)=true):∃i:Nat,d= .int i/\i<n:=by
 cases d with
 |int i=>
  unfold AT at h;dsimp only at h;rw[Zh]at h;have h0:=Z7 h.1;have g:=Z7 h.2;exact⟨i.toNat,by rw[Int.toNat_of_nonneg h0],by lia⟩
 |_=>cases h
def Xb{d:yP}{hi:Int}(h:AT d 0 hi=true):∃i:Int,d= .int i/\0<=i/\i<=hi:=by
 cases d with
 |int i=>
  unfold AT at h;dsimp only at h;rw[Zh]at h;exact⟨i,rfl,Z7 h.1,Z7 h.2⟩
 |_=>cases h
theorem LK{d:yP}{x:V}(g:Aa p H d x):∀ {ds:List yP}{xs:List V} (k:Nat),Ad p H ds xs->Ad p H (ds.set k d) (xs.set k x)
 |[],xs,k,r=>by unfold Ad at r;subst r;exact .nil
 |e::ds,xs,0,r=>by
  unfold Ad at r;obtain⟨y,t,rfl,z,rt⟩:=r;exact .cons g rt
 |e::ds,xs,k+1,r=>by
  unfold Ad at r;obtain⟨y,t,rfl,z,rt⟩:=r;exact .cons z (LK g k rt)
def LL{g:List FL}{F:FL}(r:Ad p H (g.map FD) xs)(h:g[g.length-1]? =some F):∃x,xs[xs.length-1]? =some x/\Aa p H (FD F) x:=by
 have l:=r.len;rw[Y0]at l;rw[<-l];exact Ad.get r (by rw[YU,h];rfl)
def JB{P:PL}{F:FL}(fo:FOk P S F){i:Nat}(h:i<S.ex.length):F[i]? =some (F.getD i [])/\(F.getD i []).length=P.bs.length:=by
 have hi:i<F.length:=by rw[fo.len];exact h
 have e:F[i]? =some (F.getD i []):=by rw[Y7,Y6 hi];rfl
 exact⟨e,fo.row i _ e⟩
def O4{P:PL}{F:FL}(fo:FOk P S F){i:Nat}{r:yV}(G:r.length=P.bs.length)(I:∀(j:Nat) (x c:Int),r[j]? =some x->(Ba P.bs S.fs i)[j]? =some c->0<=x/\x<=c):FOk P S (F.set i r):=by
 refine⟨by rw[bT];exact fo.len,λk q g=>?_,λk q j x c g D z=>?_⟩
 .rw[cX]at g;split at g
  .split at g
   .cases g;exact G
   .cases g
  .exact fo.row k q g
 .rw[cX]at g;split at g
  .rename_i e;split at g
   .cases g;rw[<-e]at z;exact I j x c D z
   .cases g
  .exact fo.bd k q j x c g D z
def O5{P:PL}{j:Nat}{c:Int}(hi:i<S.ex.length)(g:(Ba P.bs S.fs i)[j]? =some c):Ef P S i j=c:=by
 unfold Ef;have e:(caps P S).getD i []=Ba P.bs S.fs i:=by rw[Y7,Br hi];rfl
 rw[e,Y7,g];rfl
def O6{P:PL}{F:FL}(fo:FOk P S F){i j:Nat}{x:Int}(hi:i<S.ex.length)(h0:0<=x)(D:x<=Ef P S i j):FOk P S (BY F i j x):=by
 obtain⟨e,l⟩:=JB fo hi;refine O4 fo (by rw[bT];exact l) λk y c g z=>?_
 rw[cX]at g;split at g
 .rename_i G;split at g
  .cases g;rw[<-G]at z;rw[O5 hi z]at D;exact⟨h0,D⟩
  .cases g
 .exact fo.bd i _ k y c e g z
def O7{P:PL}(ok:P.ok){i j:Nat}{c:Int}(hi:i<S.ex.length)(g:(Ba P.bs S.fs i)[j]? =some c):0<=c:=
 ((B7 (S:=S) ok _ (Y8 (Br hi))).1 c (Y8 g)).1
def Xc{P:PL}(ok:P.ok){F:FL}(fo:FOk P S F){i:Nat}(hi:i<S.ex.length):FOk P S (Hg F i):=by
 obtain⟨e,l⟩:=JB fo hi;refine O4 fo (by rw[Y0];exact l) λk y c g D=>?_
 rw[YU]at g;cases z:(F.getD i [])[k]? with
 |none=>rw[z]at g;cases g
 |some q=>rw[z]at g;cases g;exact⟨ZP _,O7 ok hi D⟩
def Xd{P:PL}(ok:P.ok):FOk P S (By P S):=by
 have fo:=FOk.caps (S:=S) ok;refine⟨by unfold By;rw[Y0];exact fo.len,λi r g=>?_,λi r j x c g D G=>?_⟩
 .unfold By at g;rw[YU]at g;cases z:(caps P S)[i]? with
  |none=>rw[z]at g;cases g
  |some q=>rw[z]at g;cases g;rw[Y0];exact fo.row i q z
 .unfold By at g;rw[YU]at g;cases z:(caps P S)[i]? with
  |none=>rw[z]at g;cases g
  |some q=>
   rw[z]at g;cases g;have hi:i<S.ex.length:=by
    have:=(Y3.mp z).1;rw[Bs]at this;exact this
   rw[YU]at D;cases y:q[j]? with
   |none=>rw[y]at D;cases D
   |some b=>rw[y]at D;cases D;exact⟨ZP _,O7 ok hi G⟩
def O8{F:FL}{r:yV}:(F.set i r).map AS=(F.map AS).set i (AS r):=map_set
def Xe{P:PL}{F:FL}{k:Nat}(h:k≠0):Fe P S F k= .int (A5 P S F k):=YY h
def WAt.ev{g G:yQ}{H':Hp}{W L:yQ}{v u:V}(h:WAt g H W L v u)(e:Ev G H H'):WAt g H' W L v u:=by
 obtain⟨D,h⟩:=h;rcases e _ _ h with⟨_,ys,z⟩ | z
 .cases z
 .exact⟨D,z⟩
inductive DN_(D:yQ)(H:Hp)(Q:VK)(W:yQ):Prop
 |mk(L v u g x:_)(_:WAt D H W L v u)(_:H L=some (.lst g))(_:g[g.length-1]? =some x)(_:Q x H)
def DN(D:yQ):Sp:=λz H Q _=>zJ (DN_ D H Q) z
inductive Hh_(CA:yQ)(H:Hp)(Q:VK)(W:yQ)(n:Int)(y:V):Prop
 |mk(L v u xs A as:_)(k:Nat)(_:n=(k:Int))(_:WAt CA H W L v u)(_:H L=some (.lst xs))(_:xs.length<=100)(_:xs[xs.length-1]? =some (.ref A))(_:H A=some (.tup as))(_:k<as.length)(_:as.length<=100)(_:∀B H1,Ab H H1->H1 B=some (.tup (as.set k y))->Q .non (upd H1 L (.lst (xs++[.ref B]))))
def Hh(CA:yQ):Sp:=λvs H Q _=>zT (Hh_ CA H Q) vs
inductive sp_init_(CA:yQ)(H:Hp)(Q:VK)(W:yQ)(v u:V):Prop
 |mk(p P S dx:_)(_:PL.ok P)(_:SY.ok S P.bs.length)(_:Aa p H P.d v)(_:Aa p H S.d u)(_:H W=some (.ins CA dx []))(_:∀L B H',(∀b o,H b=some o->b≠W->H' b=some o)->WAt CA H' W L v u->H L=none->H' L=some (.lst [.ref B])->Aa p H' (FD (By P S)) (.ref B)->Q .non H')
def sp_init(CA:yQ):Sp:=λvs H Q _=>zU (sp_init_ CA H Q) vs
inductive JC_(ds:List yQ)(CA:yQ)(H:Hp)(Q:VK)(E:XK)(W:yQ):Prop
 |mk(L v u xs:_)(_:WAt CA H W L v u)(_:H L=some (.lst xs))(_:1<=xs.length)(_:xs.length<=100)(_:(xs.length=1->E (.ref (ds.getD 16 0)) none H))(_:(1<xs.length->Q .non (upd H L (.lst xs.dropLast))))
def JC(ds:List yQ)(CA:yQ):Sp:=λvs H Q E=>zJ (JC_ ds CA H Q E) vs
inductive Hi_(ds:List yQ)(CA:yQ)(H:Hp)(Q:VK)(E:XK)(W:yQ)(w:V):Prop
 |mk(p L P S v u xs Fs d:_)(_:Wat CA p H W L P S v u xs Fs)(_:xs.length<=100)(_:Aa p H d w)(_:(C8 (caps P S) d=false->∀H',Ab H H'->E (.ref (ds.getD 2 0)) none H'))(_:(C8 (caps P S) d=true->∀H',Ab H H'->Q .non (upd H' L (.lst (xs++[w])))))
def Hi(ds:List yQ)(CA:yQ):Sp:=λvs H Q E=>zE (Hi_ ds CA H Q E) vs
inductive JD_(ds:List yQ)(CA:yQ)(H:Hp)(Q:VK)(E:XK)(W:yQ)(h:V):Prop
 |mk(p L P S v u xs Fs F d:_)(_:Wat CA p H W L P S v u xs Fs)(_:xs.length<=100)(_:Fs[Fs.length-1]? =some F)(_:Aa p H d h)(_:(AT d 0 ((S.ex.length:Int)-1)=false->∀H',Ab H H'->E (.ref (ds.getD 3 0)) none H'))(_:∀i:Nat,d= .int i->i<S.ex.length->∀B H1,Ab H H1->Aa p H1 (FD (Hg F i)) (.ref B)->Q .non (upd H1 L (.lst (xs++[.ref B]))))
def JD(ds:List yQ)(CA:yQ):Sp:=λvs H Q E=>zE (JD_ ds CA H Q E) vs
inductive JE_(ds:List yQ)(CA:yQ)(H:Hp)(Q:VK)(E:XK)(W:yQ)(h b a:V):Prop
 |mk(p L P S v u xs Fs F dh db da:_)(_:Wat CA p H W L P S v u xs Fs)(_:xs.length<=100)(_:Fs[Fs.length-1]? =some F)(_:Aa p H dh h)(_:Aa p H db b)(_:Aa p H da a)(_:(AT dh 0 ((S.ex.length:Int)-1)=false->∀H',Ab H H'->E (.ref (ds.getD 3 0)) none H'))(_:(AT dh 0 ((S.ex.length:Int)-1)=true->AT db 0 ((P.bs.length:Int)-1)=false->∀H',Ab H H'->E (.ref (ds.getD 4 0)) none H'))(_:∀i j:Nat,dh= .int i->db= .int j->i<S.ex.length->j<P.bs.length-> (AT da 0 (Ef P S i j)=false->∀H',Ab H H'->E (.ref (ds.getD 15 0)) none H')/\ (∀x,da= .int x->0<=x->x<=Ef P S i j->∀B k s H',Run P S (BY F i j x) k s->Ev L H H'->H' L=some (.lst (xs++[.ref B]))->Aa p H' (FD (BY F i j x)) (.ref B)->Q (Fe P S (BY F i j x) k) H'))
def JE(ds:List yQ)(CA:yQ):Sp:=λvs H Q E=>zV (JE_ ds CA H Q E) vs
inductive Hj_(H:Hp)(Q:VK)(A:yQ)(n:Int)(y:V):Prop
 |mk(g:_)(k:Nat)(_:n=(k:Int))(_:k<g.length)(_:g.length<=100)(_:H A=some (.tup g))(_:∀B z,Ab H z->z B=some (.tup (g.set k y))->Q (.ref B) z)
def Hj:Sp:=λD H Q _=>zT (Hj_ H Q) D
variable{M:yQ}{ds:List yQ}{CA:yQ}
def Xg(F:Df K mg "replaced" wa8 ["row","at","part"])(T:Tx mg):Fn P w K mg base 1 "replaced" ["row","at","part"] Hj:=by
 k_dat ⟨["row","at","part"],O,hr⟩"g"
 refine⟨_,(An (Av (Ay Gy (Ay Gy (Eo wa2 (cy 0) HL (CY (cy 1))) (Ce (Ah (cy 2)))) (Eo wa2 (cy 0) (CY (Ay Bg (cy 1) Ak)) HL)))),?_⟩;k_dat 0"u"
 .rename_i A n y;obtain⟨g,k,rfl,Z,I,L,q⟩:=h;refine⟨(k:Int),rfl,A,g,rfl,L,λu1 H1 D k1 t ht=>?_⟩;have z:=Ab.new (o:= .tup [y]) ht;rw[Xa (by lia)]at k1;refine⟨u1,t,_,_,rfl,rfl,z _ _ k1,Ag,(by rw[Za,Zt];lia),λu2 H2 J k2=>?_⟩;refine⟨(k:Int)+1,rfl,A,g,rfl,(D.trans (z.trans J)) _ _ L,λu3 H3 G k3=>?_⟩;refine⟨u2,u3,_,_,rfl,rfl,G _ _ k2,k3,?_,λu4 H4 s4 k4=>?_⟩
  .have:=HN g (some ((k:Int)+1)) none;rw[Zj,Za,Zt];lia
  .refine q u4 H4 (D.trans (z.trans (J.trans (G.trans s4)))) ?_;rw [k4]
   congr 2
   have e:Bc g (some ((k:Int)+1)) none=g.drop (k+1):=by
    unfold Bc;rw[show((k:Int)+1)=((k+1:Nat):Int) by lia,HT.sIx_nat,aP (by lia)];show(g.drop (k+1)).take (g.length-(k+1))=_;rw[Z0 (by rw[bG];exact Y5 _)]
   rw[e,List.set_eq_take_append_cons_drop,Z1 Z,cL];rfl
def Xj(F:Dm K CA "kept_firing" "Watch.kept_firing" s_Watch_kept_firing ["self"])(T:Tx mg)(g:Wc K CA):Mt CX0 P w K mg base 1 CA "kept_firing" ["self"] (DN CA):=by
 have z:=g.cls;k_dat ⟨["self"],D,hr⟩"g"
 k_dat 0"u"
 .rename_i W;refine⟨_,(An (Av (AI (Bj K) (Bf (cy 0) rfl) Jx (λ_ _=>rfl)))),?_⟩;obtain⟨L,v,u,O,x,⟨I,G⟩,J,Z,q⟩:=h;exact⟨W,CA,I,_,.ref L,rfl,G,z,g.nF,rfl,L,O,-1,x,rfl,rfl,Al.of J,O3 Z,q⟩
def Xl(F:Dm K CA "put_row" "Watch.put_row" s_Watch_put_row ["self","hour","row"])(T:Tx mg)(J:Wc K CA)(g:Mt CX0 P w K mg base 1 CA "kept_firing" ["self"] (DN CA))(z:Fn P w K mg base 1 "replaced" ["row","at","part"] Hj):Mt CX0 P w K mg base 2 CA "put_row" ["self","hour","row"] (Hh CA):=by
 have O:=J.cls;k_dat ⟨["self","hour","row"],vs,Z⟩"g"
 k_dat 0"u"
 .rename_i W n y;refine⟨_,(An (A8 (CU PySem.F.plainAttrs_list PySem.F.slot_list_append PySem.F.type_list_append C2 (Bf (cy 0) rfl) (Ah (zA z Z (AH (Eb Cb O g (Z.mono (by decide)) (cy 0)) (cy 1) (cy 2))))))),?_⟩;obtain⟨L,v,u,xs,A',as,k,rfl,⟨G,D⟩,I,i0,hx,hA,hk,ha,q⟩:=h;refine⟨W,CA,G,_,.ref L,rfl,D,O,J.nF,rfl,.inl ⟨rfl,_,Al.of I⟩,W,G,_,rfl,D,rfl,L,v,u,xs,_,⟨G,D⟩,I,hx,?_⟩;refine⟨as,k,rfl,hk,ha,hA,λB H' s' hB=>?_⟩;exact⟨L,xs,.ref B,rfl,rfl,s' _ _ I,HQ (by lia),q B H' s' hB⟩
def Xm(F:Di K mg "Watch" CA "Watch.__init__" s_Watch___init__ ["self","plant","story"])(T:Tx mg)(WK:Wc K CA)(i9:F5 P w K mg base):Ms P w K mg base 10 "Watch" CA ["self","plant","story"] (sp_init CA):=by
 have WC:=WK.cls;k_dat ["self","plant","story","nothing"]"f"
 k_dat 0"u"
 .rename_i W v u;obtain⟨p,P,S,g,ok,so,rv,ru,hW,q⟩:=h;refine⟨_,(Ai (zD 3 (A6 (BN K) rfl T.b_tuple BH (Ah (AW ["row"] [none] rfl (Bu K (zA i9 hr (Ar (cy 1) (cy 2)))) (AB.of rfl) (λ_ _ _ _=>(zC 0)) (λ_ _ _ _=>AR) (λ_ _ _ _=>(A6 (BN K) rfl T.b_tuple BH (Ah (AW ["cap"] [none] rfl (Bu K (cy 0)) (AB.of rfl) (λ_ _ _ _=>(zC 0)) (λ_ _ _ _=>AR) (λ_ _ _ _=>Ak))))))))) (Ai (HI (cy 0) (cy 1) rfl) (Ai (HI (cy 0) (cy 2) rfl) (An (HI (cy 0) (Cs (Ah (cy 3))) rfl))))),?_⟩;refine⟨p,P,S,ok,so,rv,ru,λcv H1 s1 rc=>?_⟩;obtain⟨i8,cx,rfl,hC,i5⟩:=Aa.firing (F:=caps P S) rc;have x8:=so.x8;have b4:=ok.b4;have lc:=i5.len;rw[Y0,Bs]at lc;refine⟨i8,rfl,⟨_,Ae.of hC⟩,BC (xs:=cx) (λj D I=>Ab H1 I/\Ad p I (((By P S).take j).map AS) D) (by lia) ⟨Ab.refl _,.nil⟩ (λj D I h=>by have:=h.2.len;rw[Y0,Za]at this;lia) (λj D I _ h=>Ae.of (h.1 _ _ hC)) (λj x D I hx h=>?_) (λD I h=>?_)⟩
  .obtain⟨r,hr,rr⟩:=Ad.mapGot i5 hx;obtain⟨RA,rfl,i4⟩:=Aa.ofRow rr;have lr:=(B7 (S:=S) ok r (Y8 hr)).2;refine⟨trivial,λ_=>?_,λz=>by cases z⟩;refine⟨RA,rfl,⟨_,Ae.of (h.1 _ _ i4)⟩,BC (xs:=r.map V.int) (λk G H2=>Ab I H2/\G=(r.take k).map λ_=>V.int 0) (by rw [Y0];lia) ⟨Ab.refl _,rfl⟩ (λk G H2 J=>by rw [J.2,Y0,Za];lia) (λk G H2 _ J=>Ae.of ((h.1.trans J.1) _ _ i4)) (λk x G H2 hx J=>?_) (λG H2 J=>?_)⟩
   .refine⟨trivial,λ_=>?_,λz=>by cases z⟩;obtain⟨z,hz⟩:∃z,r[k]? =some z:=by
     rw[YU]at hx;cases z:r[k]? with
     |none=>rw[z]at hx;cases hx
     |some q=>exact⟨q,rfl⟩
    exact⟨J.1,by rw[J.2,AY hz,YW];rfl⟩
   .intro m hm;refine⟨m,_,rfl,.inl ⟨Al.of Ag,λt ht=>?_⟩⟩;have s3:=J.1.trans ((Ab.new (o:= .lst G) hm).trans (Ab.new (o:= .tup G) ht));have i6:upd (upd H2 m (.lst G)) t (.tup G) t=some (.tup ((r.map λ_=>(0:Int)).map V.int)):=by
     rw[Ag,J.2,Y0,Z0 (Y5 _),bo];rfl
    refine⟨h.1.trans s3,?_⟩;have ez:(By P S)[j]? =some (r.map λ_=>0):=by unfold By;rw[YU,hr];rfl
    rw[AY ez,YW];exact Ad.snoc (Ad.ev (Ev.same s3) _ _ h.2) (Aa.row i6)
  .intro m hm;refine⟨m,_,rfl,.inl ⟨Al.of Ag,λt ht=>?_⟩⟩;have s3:=(Ab.new (o:= .lst D) hm).trans (Ab.new (o:= .tup D) ht);have rz:Aa p (upd (upd I m (.lst D)) t (.tup D)) (FD (By P S)) (.ref t):=by
    refine Aa.tup Ag ?_;have r3:=Ad.ev (Ev.same (p:=p) s3) _ _ h.2;rw[Z0 (by unfold By;rw[Y0,Bs];lia)]at r3;exact r3
   have s4:=s1.trans (h.1.trans s3);generalize upd (upd I m (.lst D)) t (.tup D)=H3 at s4 rz ⊢;have i0:=s4 _ _ hW;refine⟨W,CA,g,[],rfl,i0,WC,WK.nP,by decide,W,CA,g,[("plant",v)],rfl,Ag,WC,WK.nS,by show(1:Nat)<1000;decide,λl hl=>?_⟩;have O:upd (upd H3 W (.ins CA g [("plant",v)])) W (.ins CA g [("plant",v),("story",u)]) W=some (.ins CA g [("plant",v),("story",u)]):=Ag;have nl:l≠W:=λz=>by rw[z]at hl;have:=O.symm.trans hl;cases this
   have Z:H3 l=none:=by
    have e2:upd (upd H3 W (.ins CA g [("plant",v)])) W (.ins CA g [("plant",v),("story",u)]) l=H3 l:=by rw[Aq nl,Aq nl]
    exact e2.symm.trans hl
   refine⟨W,CA,g,[("plant",v),("story",u)],rfl,(Aq nl.symm).trans O,WC,WK.nF,by show(2:Nat)<1000;decide,?_⟩;have kk:∀b o,H3 b=some o->b≠W->upd (upd (upd (upd H3 W (.ins CA g [("plant",v)])) W (.ins CA g [("plant",v),("story",u)])) l (.lst [.ref t])) W (.ins CA g (LF v u l)) b=some o:=λb o L nb=>by
    have i7:b≠l:=λz=>by rw[z,Z]at L;cases L
    rw[Aq nb,Aq i7,Aq nb,Aq nb];exact L
   refine q l t _ (λb o L nb=>kk b o (s4 _ _ L) nb) ⟨g,Ag⟩ ?_ ((Aq nl).trans Ag) (Aa.tev (p:=p) (λb D L=>kk b _ L (λz=>by rw[z,i0]at L;cases L)) _ _ (Dq _) rz);cases z:H l with
   |none=>rfl
   |some o=>rw[s4 _ _ z]at Z;cases Z
def Xo(F:Dm K CA "undo" "Watch.undo" s_Watch_undo ["self"])(T:Tx mg)(G:Wc K CA)(C:Tc K mg M ds):Mt (Bm P w) P w K mg base 1 CA "undo" ["self"] (JC ds CA):=by
 have J:=G.cls;k_dat ["self"]"f"
 k_dat 0"u"
 .rename_i W;obtain⟨L,v,u,g,⟨Z,O⟩,I,h1,i0,q1,q2⟩:=h;refine⟨_,(Ai (A1 (AU Dz (zG ((Bf (cy 0) rfl))) Ak (AV _)) (An (D8 isDef_cx rfl C.n_NoDeed C.x_NoDeed rfl (Ah Ax))) AZ) (An (A8 (Rx PySem.F.plainAttrs_list PySem.F.slot_list_pop PySem.F.type_list_pop RE (Bf (cy 0) rfl))))),?_⟩;refine⟨W,CA,Z,_,.ref L,rfl,O,J,G.nF,rfl,L,_,rfl,.inl (Al.of I),rfl,⟨λc=>?_,λc=>?_⟩⟩
  .refine⟨Bn rfl,q1 ?_⟩;have D:=Z7 c;injection D with D
   lia
  .have D:=Zw c;have hn:g.length≠1:=λz=>D (by rw [z];rfl)
   obtain⟨y,hy⟩:∃y,g[g.length-1]? =some y:=⟨_,Y6 (by lia)⟩;exact⟨W,CA,Z,_,.ref L,rfl,O,J,G.nF,rfl,.inl ⟨rfl,_,Al.of I⟩,L,g,y,rfl,rfl,I,hy,q2 (by lia)⟩
def Xq(F:Dm K CA "take_over" "Watch.take_over" s_Watch_take_over ["self","firing"])(T:Tx mg)(D:Wc K CA)(i0:A2 P w K mg base 11 "need_firing" ["plant","story","firing"] (JA ds)):Mt (Bm P w) P w K mg base 12 CA "take_over" ["self","firing"] (Hi ds CA):=by
 have G:=D.cls;k_dat ["self","firing"]"f"
 k_dat 0"u"
 .rename_i W w';obtain⟨p,L,P,S,v,u,xs,Fs,d,g,i4,rd,q1,q2⟩:=h;obtain⟨O,J⟩:=g.at_;refine⟨_,(Ai (A8 (FF isDef_cx i0 (hr.mono (by decide)) rfl (AH (Bf (cy 0) rfl) (Bf (cy 0) rfl) (cy 1)))) (An (A8 (CU PySem.F.plainAttrs_list PySem.F.slot_list_append PySem.F.type_list_append C2 (Bf (cy 0) rfl) (Ah (cy 1)))))),?_⟩;refine⟨W,CA,O,_,v,rfl,J,G,D.nP,rfl,W,CA,O,_,u,rfl,J,G,D.nS,rfl,?_⟩;refine⟨p,P,S,d,g.ok,g.so,g.rv,g.ru,rd,q1,λc H1 Z=>?_⟩;have I:=Z _ _ J;have z:=Z _ _ g.lst;exact⟨W,CA,O,_,.ref L,rfl,I,G,D.nF,rfl,.inl ⟨rfl,_,Al.of z⟩,L,xs,w',rfl,rfl,z,HQ (by lia),q2 c H1 Z⟩
def Xs(F:Dm K CA "bank" "Watch.bank" s_Watch_bank ["self","hour"])(T:Tx mg)(WK:Wc K CA)(i9:A2 P w K mg base 3 "need_hour" ["story","hour"] (Hf ds))(i8:Mt CX0 P w K mg base 1 CA "kept_firing" ["self"] (DN CA))(j0:Mt CX0 P w K mg base 2 CA "put_row" ["self","hour","row"] (Hh CA)):Mt (Bm P w) P w K mg base 4 CA "bank" ["self","hour"] (JD ds CA):=by
 have WC:=WK.cls;k_dat ["self","hour"]"f"
 k_dat 0"u"
 .rename_i W h';obtain⟨p,L,P,S,v,u,xs,Fs,F,d,G,i0,hF,rd,q1,q2⟩:=h;obtain⟨dx,hW⟩:=G.at_;refine⟨_,(Ai (A8 (FF isDef_cx i9 (hr.mono (by decide)) rfl (Ar (Bf (cy 0) rfl) (cy 1)))) (An (A8 (Cj Cb WC j0 (hr.mono (by decide)) (cy 0) (Ar (cy 1) (A6 (BN K) rfl T.b_tuple BH (Ah (AW ["made"] [none] rfl (Bu K (AI (Bd K) (Eb Cb WC i8 (hr.mono (by decide)) (cy 0)) (cy 1) (λ_ _=>rfl))) (AB.of rfl) (λ_ _ _ _=>(zC 0)) (λ_ _ _ _=>AR) (λ_ _ _ _=>Ak))))))))),?_⟩;refine⟨W,CA,dx,_,u,rfl,hW,WC,WK.nS,rfl,p,S,P.bs.length,d,G.so,G.ru,rd,q1,λc H1 s1=>?_⟩;obtain⟨i,rfl,hi⟩:=LJ c;unfold Aa at rd;subst rd;have D:=s1 _ _ hW;have i4:=s1 _ _ G.lst;have fo:=G.fok F (Y8 hF);obtain⟨x,O,rx⟩:=LL G.reps hF;obtain⟨FA,fx,rfl,i6,I⟩:=Aa.firing (Aa.ev (Ev.same s1) _ _ rx);obtain⟨er,lr⟩:=JB fo hi;obtain⟨y,hy,ry⟩:=Ad.get (i:=i) I (by rw[YU,er];rfl);obtain⟨RA,rfl,i7⟩:=Aa.ofRow ry;have x8:=G.so.x8;have b4:=G.ok.b4;have lf:=I.len;rw[Y0,fo.len]at lf;refine⟨W,dx,_,rfl,D,rfl,W,dx,_,rfl,D,rfl,L,v,u,xs,_,⟨dx,D⟩,i4,O,FA,fx,(i:Int),_,rfl,rfl,Ae.of i6,Cr hy,RA,rfl,⟨_,Ae.of i7⟩,BC (xs:=(F.getD i []).map V.int) (λj g J=>Ab H1 J/\g=((F.getD i []).take j).map λ_=>V.int 0) (by rw[Y0];lia) ⟨Ab.refl _,rfl⟩ (λj g J h=>by rw[h.2,Y0,Za];lia) (λj g J _ h=>Ae.of (h.1 _ _ i7)) (λj x g J O h=>?_) (λg J h=>?_)⟩
  .refine⟨trivial,λ_=>?_,λz=>by cases z⟩;obtain⟨z,hz⟩:∃z,(F.getD i [])[j]? =some z:=by
    rw[YU]at O;cases z:(F.getD i [])[j]? with
    |none=>rw[z]at O;cases O
    |some q=>exact⟨q,rfl⟩
   exact⟨h.1,by rw[h.2,AY hz,YW];rfl⟩
  .intro m hm;refine⟨m,_,rfl,.inl ⟨Al.of Ag,λt ht=>?_⟩⟩;have Z:=h.1.trans ((Ab.new (o:= .lst g) hm).trans (Ab.new (o:= .tup g) ht));have i5:upd (upd J m (.lst g)) t (.tup g) t=some (.tup (((F.getD i []).map λ_=>(0:Int)).map V.int)):=by
    rw[Ag,h.2,Y0,Z0 (by lia),bo];rfl
   generalize upd (upd J m (.lst g)) t (.tup g)=H3 at Z i5 ⊢;refine⟨L,v,u,xs,FA,fx,i,rfl,⟨dx,Z _ _ D⟩,Z _ _ i4,i0,O,Z _ _ i6,by lia,by lia,λB H4 s4 hB=>?_⟩;refine q2 i rfl hi B H4 (s1.trans (Z.trans s4)) (Aa.tup hB ?_);show Ad p H4 ((Hg F i).map AS) _;unfold Hg;rw[O8];exact LK (Aa.row (s4 _ _ i5)) i (Ad.ev (Ev.same (Z.trans s4)) _ _ I)
def zaC:As ["self","hour","boiler","amount","mains"] ["self","hour","boiler","amount"] (Am s_Watch_stoke):=Az
def Xt(F:Dm K CA "stoke" "Watch.stoke" s_Watch_stoke ["self","hour","boiler","amount"])(T:Tx mg)(WK:Wc K CA)(C:Tc K mg M ds)(u9:A2 P w K mg base 3 "need_hour" ["story","hour"] (Hf ds))(u5:A2 P w K mg base 3 "need_boiler" ["plant","boiler"] (Jz ds))(n9:DM P w K mg base)(ya4:F5 P w K mg base)(r8:Fn P w K mg base 1 "replaced" ["row","at","part"] Hj)(v3:Fn P w K mg base 13 "course" ["plant","story","firing"] GX)(j0:Mt CX0 P w K mg base 1 CA "kept_firing" ["self"] (DN CA))(yak:Mt CX0 P w K mg base 2 CA "put_row" ["self","hour","row"] (Hh CA)):Mt (Bm P w) P w K mg base 14 CA "stoke" ["self","hour","boiler","amount"] (JE ds CA):=by
 have J:=WK.cls;k_dat ⟨zaC,vs,O⟩"h"
 k_dat 0"u"
 .rename_i W h' b' a';obtain⟨p,L,P,S,v,u,xs,Fs,F,dh,db,da,g,j2,hF,rh,rb,ra,q1,q2,q3⟩:=h;obtain⟨dx,hW⟩:=g.at_;refine⟨_,(Ai (A8 (FF isDef_cx u9 (O.mono (by decide)) rfl (Ar (Bf (cy 0) rfl) (cy 1)))) (Ai (A8 (FF isDef_cx u5 (O.mono (by decide)) rfl (Ar (Bf (cy 0) rfl) (cy 2)))) (Ai (A1 (BR (BM (zA n9 O (AH (cy 3) Ak (AI (Bd K) (AI (Bd K) (zA ya4 O (Ar (Bf (cy 0) rfl) (Bf (cy 0) rfl))) (cy 1) (λ_ _=>rfl)) (cy 2) (λ_ _=>rfl)))))) (An (D8 isDef_cx rfl C.n_NoAmount C.x_NoAmount rfl (Ah Ax))) AZ) (Ai (A8 (Cj Cb J yak (O.mono (by decide)) (cy 0) (Ar (cy 1) (zA r8 O (AH (AI (Bd K) (Eb Cb J j0 (O.mono (by decide)) (cy 0)) (cy 1) (λ_ _=>rfl)) (cy 2) (cy 3)))))) (Ai (Gq (i:=4) ["made","drawn","blown","main"] [none,none,none,none] zaC.nd rfl (AC (by rfl)) rfl (Cf K (zA v3 O (AH (Bf (cy 0) rfl) (Bf (cy 0) rfl) (Eb Cb J j0 (O.mono (by decide)) (cy 0))))) (AB.of rfl) (λ_ _ _ _=>(zF 0 1 2 3)) (λ_ _ _ _=>AR) (λ_ _ _ _=>(cy 3))) (An (Av (DE (K5 (cy 4)) (AI (Bj K) (cy 4) Jx (λ_ _=>rfl)) EL)))))))),?_⟩;refine⟨W,CA,dx,_,u,rfl,hW,J,WK.nS,rfl,p,S,P.bs.length,dh,g.so,g.ru,rh,q1,λc H1 s1=>?_⟩;have w5:=s1 _ _ hW;refine⟨W,CA,dx,_,v,rfl,w5,J,WK.nP,rfl,p,P,db,g.ok,Aa.ev (Ev.same s1) _ _ g.rv,Aa.ev (Ev.same s1) _ _ rb,λc2 H2 s2=>q2 c c2 H2 (s1.trans s2),λc2 H2 s2=>?_⟩;have i4:=s1.trans s2;have j3:=i4 _ _ hW;obtain⟨i,rfl,hi⟩:=LJ c;obtain⟨j,rfl,hj⟩:=LJ c2;obtain⟨q4,q5⟩:=q3 i j rfl rfl hi hj;unfold Aa at rh rb;subst rh rb;refine⟨W,CA,dx,_,v,rfl,j3,J,WK.nP,rfl,W,CA,dx,_,u,rfl,j3,J,WK.nS,rfl,p,P,S,g.ok,g.so,Aa.ev (Ev.same i4) _ _ g.rv,Aa.ev (Ev.same i4) _ _ g.ru,λcv H3 s3 rc=>?_⟩;obtain⟨CC,cx,rfl,hC,v8⟩:=Aa.firing (F:=caps P S) rc;obtain⟨y,hy,ry⟩:=Ad.get (i:=i) v8 (by rw[YU,Br hi];rfl);obtain⟨RC,rfl,v7⟩:=Aa.ofRow ry;have lcap:(Ba P.bs S.fs i).length=P.bs.length:=(B7 (S:=S) g.ok _ (Y8 (Br hi))).2;obtain⟨c0,j7⟩:∃c0,(Ba P.bs S.fs i)[j]? =some c0:=⟨_,Y6 (by lia)⟩;have D:=i4.trans s3;refine⟨CC,cx,(i:Int),_,rfl,rfl,Ae.of hC,Cr hy,RC,_,(j:Int),.int c0,rfl,rfl,Ae.of v7,Cr (by rw[YU,j7];rfl),p,da,Aa.ev (Ev.same D) _ _ ra,λb hb=>?_⟩;rw[<-O5 hi j7]at hb;refine⟨λc3=>⟨Bn rfl,q4 (by rw[<-hb];simpa using c3) _ D⟩,λc3=>?_⟩;obtain⟨x,rfl,x0,x1⟩:=Xb (d:=da) (hi:=Ef P S i j) (by rw[<-hb];simpa using c3);unfold Aa at ra;subst ra;have fo:=g.fok F (Y8 hF);have w8:=O6 fo hi x0 x1;obtain⟨fv,hx,rx⟩:=LL g.reps hF;obtain⟨FA,fx,rfl,j9,i7⟩:=Aa.firing (Aa.ev (Ev.same D) _ _ rx);obtain⟨er,lr⟩:=JB fo hi;obtain⟨y2,u8,o8⟩:=Ad.get (i:=i) i7 (by rw[YU,er];rfl);obtain⟨RA,rfl,v4⟩:=Aa.ofRow o8;have x8:=g.so.x8;have b4:=g.ok.b4;have lf:=i7.len;rw[Y0,fo.len]at lf;have Z:=D _ _ hW;have j6:=D _ _ g.lst;refine⟨W,dx,_,rfl,Z,rfl,W,dx,_,rfl,Z,rfl,L,v,u,xs,_,⟨dx,Z⟩,j6,hx,FA,fx,(i:Int),_,rfl,rfl,Ae.of j9,Cr u8,(F.getD i []).map V.int,j,rfl,by rw[Y0];lia,by rw[Y0];lia,v4,λB1 H4 s4 u0=>?_⟩;refine⟨L,v,u,xs,FA,fx,i,rfl,⟨dx,s4 _ _ Z⟩,s4 _ _ j6,j2,hx,s4 _ _ j9,by lia,by lia,λB H5 s5 hB=>?_⟩;have i0:=D.trans (s4.trans s5);have j4:=i0 _ _ g.lst;have rB:Aa p H5 (FD (BY F i j x)) (.ref B):=by
   refine Aa.tup hB ?_;show Ad p H5 ((BY F i j x).map AS) _;unfold BY;rw[O8];have j5:H5 B1=some (.tup (((F.getD i []).set j x).map V.int)):=by rw[s5 _ _ u0,map_set]
   exact LK (Aa.row j5) i (Ad.ev (Ev.same (s4.trans s5)) _ _ i7)
  have tv:TEv H5 (upd H5 L (.lst (xs++[.ref B]))):=TEv.upd j4;have i6:Ev L H (upd H5 L (.lst (xs++[.ref B]))):=(Ev.same i0).trans (Ev.pen j4);have i8:=Aa.tev (p:=p) (p':=p) tv _ _ (Dq _) rB;have l9:=Aa.tev (p:=p) (p':=p) tv _ _ (LG P) (Aa.ev (Ev.same i0) _ _ g.rv);have l7:=Aa.tev (p:=p) (p':=p) tv _ _ (LH S) (Aa.ev (Ev.same i0) _ _ g.ru);have i9:upd H5 L (.lst (xs++[.ref B])) L=some (.lst (xs++[.ref B])):=Ag;obtain⟨i5,G⟩:=g.at_.ev i6;generalize upd H5 L (.lst (xs++[.ref B]))=H6 at tv i6 i8 l9 l7 i9 G ⊢;have v6:(xs++[V.ref B])[(xs++[V.ref B]).length-1]? =some (.ref B):=by rw[Zj,Zt,Nat.add_sub_cancel,aN (Y5 _),fU];rfl
  refine⟨W,CA,i5,_,v,rfl,G,J,WK.nP,rfl,W,CA,i5,_,u,rfl,G,J,WK.nS,rfl,W,i5,_,rfl,G,rfl,L,v,u,_,_,⟨i5,G⟩,i9,v6,p,P,S,BY F i j x,⟨g.ok,g.so,w8,l9,l7,i8⟩,λR H7 k s' ys run s7 hRn hR l6=>?_⟩;have o9:Ev L H H7:=i6.trans (Ev.same s7);have j8:=l6.len;rw[K2]at j8;have rle:=run.le;refine⟨R,rfl,⟨_,Al.of hR⟩,C3 (xs:=ys) (λn I H'=>Ab H7 H'/\I=(List.range n).map λm=>V.int (A5 P S (BY F i j x) (m+1))) (by lia) ⟨Ab.refl _,rfl⟩ (λn I H' h=>by rw[h.2,Y0,ZU];exact Y5 _) (λn I H' _ h=>Al.of (h.1 _ _ hR)) (λn y I H' hy h=>?_) (λI H' h=>?_)⟩
  .obtain⟨d,hd,rd⟩:=Ad.got l6 hy;have hn:n<k:=by have:=(Y3.mp hy).1;lia
   have ed:d=GC P S (BY F i j x) n:=by
    unfold Dj at hd;rw[YU,ai hn]at hd;cases hd;rfl
   subst ed;obtain⟨T',ts,rfl,hT,w9⟩:=Aa.shape rd;obtain⟨y1,y2,y3,y4,rfl,r1,r2,r3,r4⟩:=Ad.four w9;unfold Aa at r1 r2 r3 r4;subst r1 r2 r3 r4;refine⟨T',_,rfl,Ae.of (h.1 _ _ hT),rfl,_,_,rfl,_,_,rfl,_,_,rfl,_,_,rfl,rfl,trivial,λ_=>⟨h.1,?_⟩,λz=>by cases z⟩;rw[h.2,bp,YW];rfl
  .intro m hm;have n8:=Ab.new (o:= .lst I) hm;have u6:Ev L H (upd H' m (.lst I)):=o9.trans (Ev.same (h.1.trans n8));have n5:=s7.trans (h.1.trans n8);have fin:Q (Fe P S (BY F i j x) k) (upd H' m (.lst I)):=q5 x rfl x0 x1 B k s' _ run u6 (n5 _ _ i9) (Aa.ev (Ev.same n5) _ _ i8);have hz:=h.2;rw [<-j8] at hz;refine⟨m,I,rfl,Ag,λc4=>?_,λc4=>?_⟩
   .have k0:k≠0:=λz=>by rw [hz,z] at c4;cases c4
    rw[Xe k0]at fin;refine⟨m,I,-1,_,rfl,rfl,Al.of Ag,O3 (x:= .int (A5 P S (BY F i j x) k)) ?_,fin⟩;rw[hz,Y0,ZU,YU,ai (by lia)];show some (V.int (A5 P S (BY F i j x) (k-1+1)))=_;rw[Nat.sub_add_cancel (by lia)]
   .have k0:k=0:=by
     cases z:k with
     |zero=>rfl
     |succ n=>rw[hz,z,bp,YW]at c4;simp at c4
    have el:Fe P S (BY F i j x) k= .non:=by unfold Fe;rw[Z1 k0]
    rw[el]at fin;exact fin
end
section
def Eg{ns:yV}{i:Nat}(h:i<ns.length):B5 (ns.map V.int) (i:Int)=some (.int (ns.getD i 0)):=by
 refine Cr ?_;rw[YU,Y6 h,Y7,Y6 h];rfl
def JF:Sp:=λz H Q _=>zW (λv h x b=>∃p T n,h=((n:Nat):Int)/\n<T.ds.length/\DG T/\Aa p H T.d v/\∀g,Ab H g->Q (.int (FK T n x b)) g) z
section
def Xu(F:Df K mg "floor_at" waF ["terms","hour","price","behind"])(T:Tx mg):Fn P w K mg base 1 "floor_at" ["terms","hour","price","behind"] JF:=by
 k_dat ["terms","hour","price","behind","caps","coals","draws","low","high","start","spared","kept"]"f"
 refine⟨_,(Ai (Bb (cy 0) (AK K (n:=4) (Aj (zC 4) (Aj (zC 5) (Aj (zC 6) (Aj (zF 7 8 9) AJ)))))) (Ai (zD 10 (AG (KW rfl) rfl T.b_sum bR (Ah (AW ["cap","coal","price"] [none,none,some 2] rfl (Ij P w K rfl T.b_zip (Ar (AI (Bd K) (cy 4) (cy 1) (λ_ _=>rfl)) (cy 5))) (AB.of rfl) (λ_ _ _ _=>(zF 0 1)) (λ_ _ _ _=>(Gn (AU Eu (cy 1) (cy 2) (AV _)))) (λ_ _ _ _=>(Ay Et (cy 0) (Ay BL (cy 1) (cy 2)))))))) (Ai (zD 11 (Ay Et (Ay BL (cy 2) (cy 3)) (DE (AU Nv (cy 2) (cy 3) (AV _)) (cy 7) (cy 8)))) (An (Av (Ay Bg (Ay Bg (Ay Et (cy 2) (AI (Bd K) (cy 6) (cy 1) (λ_ _=>rfl))) (cy 10)) (cy 11))))))),?_⟩;k_dat 0"u"
 .rename_i v hh x b;obtain⟨p,T,n,rfl,hn,ok,r,q⟩:=h;obtain⟨A,C,B,D,M,xc,rfl,hA,hC,rc,hB,hD,hM⟩:=Aa.terms r;have l8:=ok.ok.l8;have lc:=ok.ok.lc;have o4:=ok.o;have g:T.cs[n]? =some (T.cs.getD n []):=by rw[Y7,Y6 (by lia)];rfl
  obtain⟨lr,cr⟩:=ok.c _ (Y8 g);obtain⟨y,hy,ry⟩:=rc.get (i:=n) (d:=AS (T.cs.getD n [])) (by rw[YU,g];rfl);obtain⟨Cn,rfl,I⟩:=Aa.ofRow' ry;have L:∀z,Ab H z->Q (.int (x * T.ds.getD n 0+spared (T.cs.getD n []) T.co x+FJ T.lo T.hi x b)) z:=q;generalize T.cs.getD n []=row at g lr cr I L;refine⟨A,_,rfl,Ae.of hA,rfl,_,_,rfl,_,_,rfl,_,_,rfl,_,_,rfl,M,_,rfl,Ae.of hM,rfl,_,_,rfl,_,_,rfl,_,_,rfl,rfl,rfl,?_⟩;refine⟨C,xc,(n:Int),.ref Cn,rfl,rfl,Ae.of hC,Cr hy,Cn,B,rfl,⟨_,Ae.of I⟩,⟨_,Ae.of hB⟩,walk_zip (xs:=row.map V.int) (ys:=T.co.map V.int) (λi J z=>Ab H z/\∃ns:yV,J=ns.map V.int/\ns.length<=i/\ns.sum=(((row.zip T.co).take i).map (Ea x)).sum) (by rw[Y0];lia) (by rw[Y0,Y0];exact lr) ⟨Ab.refl _,[],rfl,Y5 _,rfl⟩
    (λi J z h=>by obtain⟨_,ns,rfl,Z,_⟩:=h;rw[Y0];exact Z) (λi J z h=>⟨Ae.of (h.1 _ _ I),Ae.of (h.1 _ _ hB)⟩) (λi xx yy J z T' hx hy h hT=>?_) λJ z h=>?_⟩
  .rw [YU] at hx hy;obtain⟨m,hm,rfl⟩:=Zi.mp hx;obtain⟨k,hk,rfl⟩:=Zi.mp hy;obtain⟨s0,ns,rfl,Z,O⟩:=h;have G:=s0.trans (Ab.new (o:= .tup [.int m,.int k]) hT);have hz:(row.zip T.co)[i]? =some (m,k):=by rw [dS];exact⟨hm,hk⟩
   have bm:=cr m (Y8 hm);refine⟨T',_,rfl,Ae.of Ag,rfl,_,_,rfl,_,_,rfl,rfl,⟨rfl,trivial⟩,λc=>?_,λc=>?_⟩
   .refine⟨.inl ⟨by lia,by lia⟩,G,ns++[m *(k-x)],by rw [YW];rfl,by rw [Zj];simp;exact Z,?_⟩;rw [AY hz,YW,cV,cV,O];have e:Ea x (m,k)=m *(k-x):=by unfold Ea;exact Z1 (Z7 c)
    simp[e]
   .refine⟨G,ns,rfl,by lia,?_⟩;rw [AY hz,YW,cV,O];have e:Ea x (m,k)=0:=by unfold Ea;exact YY (Zw c)
    simp[e]
  .obtain⟨s0,ns,rfl,Z,O⟩:=h;intro m hm;have G:=s0.trans (Ab.new (o:= .lst (ns.map V.int)) hm);have es:ns.sum=spared row T.co x:=by rw [O,Z0 (by rw [dQ,Y0];lia)];rfl
   refine⟨m,ns,rfl,Ag,?_⟩;rw[es];have h0:=ok.l0;have h1:=ok.l4;have h2:=ok.h0;have h3:=ok.h4;have bd:=ok.d _ (P' (d:=0) hn);refine⟨λc=>⟨.inr ⟨by lia,by lia⟩,D,_,(n:Int),.int (T.ds.getD n 0),rfl,rfl,Ae.of (G _ _ hD),Eg hn,.inr ⟨by lia,by lia⟩,?_⟩,λc=>⟨.inr ⟨by lia,by lia⟩,D,_,(n:Int),.int (T.ds.getD n 0),rfl,rfl,Ae.of (G _ _ hD),Eg hn,.inr ⟨by lia,by lia⟩,?_⟩⟩
   .have e:FJ T.lo T.hi x b=(x-b) * T.lo:=by unfold FJ;rw [Z1 (Z7 c)]
    rw[e]at L;exact L _ G
   .have e:FJ T.lo T.hi x b=(x-b) * T.hi:=by unfold FJ;rw [YY (Zw c)]
    rw[e]at L;exact L _ G
end
def Aa.tailShape{p:yQ}{H:Hp}{f:Int}{D:yV}{v:V}(r:Aa p H (E4 f D) v):∃a b,v= .ref a/\H a=some (.tup [.int f,.ref b])/\H b=some (.tup (D.map V.int)):=by
 obtain⟨a,O,rfl,L,G⟩:=Aa.shape r;obtain⟨x,y,rfl,g,J⟩:=Ad.two G;unfold Aa at g;subst g;obtain⟨b,Z,rfl,z,I⟩:=Aa.shape J;rw[Ad.ints I]at z;exact⟨a,b,rfl,L,z⟩
def Tw(p:yQ)(H:Hp)(m:Nat)(q:AL×V):Prop:=∃b f g,q.1= .inl b/\(0<=b/\b<=9)/\f.natAbs<=3000 * m/\g.length<=m/\Aa p H (E4 f g) q.2
def TW(p:yQ)(H:Hp)(m:Nat)(kvs:KL):Prop:=kvs≠ []/\kvs.length<=5/\∀q∈kvs,Tw p H m q
inductive JG_(H:Hp)(Q:VK)(v:V)(h:Int)(d:yQ):Prop
 |mk(p T n o z m:_)(_:DG T)(_:h=((n:Nat):Int))(_:n<T.ds.length)(_:Aa p H T.d v)(_:H d=some (.frz o (.dK z)))(_:m<=8)(_:TW p H m z)(_:∀G D I g,Ab H D->D G=some (.frz I (.dK g))->TW p D (m+1) g->Q (.ref G) D)
def JG:Sp:=λJ H Q _=>zX (JG_ H Q) J
def JH:Sp:=λz H Q _=>zK (λv=>∃p T,DG T/\Aa p H T.d v/\∀u g f D,Ab H g->Aa p g (E4 f D) u->f.natAbs<=100000->Q u g) z
def Xv(F:Df K mg "tails_from" waH ["terms","hour","tails"])(T:Tx mg)(l6:Fn P w K mg base 1 "floor_at" ["terms","hour","price","behind"] JF):Fn P w K mg base 2 "tails_from" ["terms","hour","tails"] JG:=by
 k_dat ["terms","hour","tails","caps","coals","draws","main"]"f"
 refine⟨_,(Ai (Bb (cy 0) (zF 3 4 5 6)) (An (Av (UG ["price","terms","hour","tails"] [none,some 0,some 1,some 2] rfl (Bu K (Ay Gy (Cu (Ah Ak)) (cy 4))) (AB.of rfl) (λ_ _ _ _=>(zC 0)) (λ_ _ _ _=>AR) (λ_ _ _ _=>(cy 0)) (λ_ _ _ _=>(AG (OA rfl hr) rfl T.b_max boot_max (Ah (AW ["behind","floor","prices","terms","hour","price"] [none,none,none,some 1,some 2,some 0] rfl (Oo (cy 3)) (AB.of rfl) (λ_ _ _ _=>(AK K (n:=2) (Aj (zC 0) (Aj (zF 1 2) AJ)))) (λ_ _ _ _=>AR) (λ_ _ _ _=>(Cu (Ar (Ay Bg (zA l6 hr (C6 (cy 3) (cy 4) (cy 5) (cy 0))) (cy 1)) (Ay Gy (Cu (Ah (cy 5))) (cy 2))))))))))))),?_⟩;k_dat 0"u"
 .rename_i v hh d;obtain⟨p,T,n,o,j8,m,fl,rfl,hn,r,hd,m8,⟨ne,l5,j2⟩,q⟩:=h;obtain⟨A,C,B,D,M,xc,rfl,hA,hC,rc,hB,hD,hM⟩:=Aa.terms r;have o4:=fl.o;have l8:=fl.ok.l8;refine⟨A,_,rfl,Ae.of hA,rfl,_,_,rfl,_,_,rfl,_,_,rfl,_,_,rfl,rfl,?_⟩;refine λt1 H1 s1 k1=>⟨t1,B,_,_,rfl,rfl,k1,s1 _ _ hB,by rw[Y0];show 1+_<=1000;lia,λt2 H2 s2 k2=>?_⟩
  have ek:[V.int 0]++T.co.map V.int=(0::T.co).map V.int:=rfl;rw[ek]at k2;have j0:=s1.trans s2;have lc:(0::T.co).length<=5:=by rw[ZA];lia
  refine⟨t2,rfl,⟨_,Ae.of k2⟩,UQ (xs:=(0::T.co).map V.int) (λi ks H'=>Ab H2 H'/\ks.length<=i/\(i=0\/ks≠ [])/\∀q∈ks,Tw p H' (m+1) q) (by rw[Y0];lia) ⟨Ab.refl _,Zq _,.inl rfl,λ_ h=>nomatch h⟩ (λi ks H' h=>h.2.1) (λi ks H' _ h=>Ae.of (h.1 _ _ k2)) (λi x ks H' hx h=>?_) λks H' h=>?_⟩
  .rw[YU]at hx;obtain⟨G,l7,rfl⟩:=Zi.mp hx;have I:0<=G/\G<=9:=by
    rcases Z4.mp (Y8 l7) with rfl | z
    .lia
    .have:=fl.o1 G z;lia
   obtain⟨O,lk,_,one⟩:=h;have s0:=j0.trans O;have r0:=Aa.ev (Ev.same (p:=p) s0) _ _ r;refine⟨⟨rfl,rfl,rfl,trivial⟩,λ_=>?_,λz=>by cases z⟩;refine⟨d,o,j8,rfl,s0 _ _ hd,Op (λj zs g=>Ab H' g/\∃fs:List (Int×List yP),Ad p g (fs.map λq=> .tuple (.int q.1::q.2)) zs/\fs.length=j/\∀fq∈fs,∃f Z,fq=(f,[AS Z])/\f.natAbs<=3000 *(m+1)/\Z.length<=m+1) (by lia) ⟨Ab.refl _,[],.nil,rfl,λ_ h=>nomatch h⟩ (λj zs g h=>by obtain⟨_,fs,rs,lf,_⟩:=h;rw[<-rs.len,Y0,lf];exact Y5 _) (λj zs g h=>h.1 _ _ (s0 _ _ hd)) (λj q0 zs g T' hq h hT=>?_) λzs g h=>?_⟩
   .obtain⟨s3,fs,rs,lf,J⟩:=h;obtain⟨b,f,Z,eb,hb,hf,i7,rq⟩:=j2 q0 (Y8 hq);obtain⟨kk,y⟩:=q0;have j4:kk= .inl b:=eb;subst j4;have sT:=Ab.new (o:= .tup [.int b,y]) hT;have s4:=s3.trans sT;have i5:=s0.trans s4;obtain⟨l,bb,ey,hl,j7⟩:=Aa.tailShape (Aa.ev (Ev.same i5) _ _ rq)
    replace ey:y= .ref l:=ey
    subst ey;refine⟨T',_,rfl,Ae.of Ag,rfl,_,_,rfl,_,_,rfl,l,_,rfl,Ae.of hl,rfl,_,_,rfl,_,_,rfl,rfl,rfl,⟨rfl,rfl,rfl,trivial⟩,λ_=>?_,λz=>by cases z⟩;have r4:=Aa.ev (Ev.same (p:=p) i5) _ _ r;refine⟨p,T,n,rfl,hn,fl,r4,λH5 s5=>λt6 H6 s6 k6=>⟨t6,bb,_,_,rfl,rfl,k6,(s5.trans s6) _ _ j7,by rw[Y0];show 1+_<=1000;lia,λt7 H7 s7 k7=>λt8 H8 s8 k8=>?_⟩⟩;have j3:[V.int G]++Z.map V.int=(G::Z).map V.int:=rfl;rw[j3]at k7;have i9:=s5.trans (s6.trans (s7.trans s8));refine⟨s4.trans i9,fs++[(FK T n G b+f,[AS (G::Z)])],?_,by rw[Zj,lf];rfl,λfq h=>?_⟩
    .rw[YW];have j5:Ab g H8:=sT.trans i9;exact Ad.snoc (Ad.ev (Ev.same j5) _ _ rs) (Aa.tup k8 (.cons Aa.int (.cons (Aa.row (s8 _ _ k7)) .nil)))
    .rcases ZQ.mp h with h | h
     .exact J fq h
     .rw[Z2.mp h];have:=Ue fl (h:=n) (p:=G) (b:=b) (B:=9) I.1 I.2 hb.1 hb.2;exact⟨_,_,rfl,by lia,by rw[ZA];lia⟩
   .obtain⟨s3,fs,rs,lf,J⟩:=h;intro L hL;have nL:=Ab.new (o:= .lst zs) hL;have i4:=Ad.ev (Ev.same (p:=p) nL) _ _ rs;refine⟨p,L,fs,zs,rfl,Ag,i4,λz=>ne (Zm (by rw [z] at lf;exact lf.symm)),λq1 h1 q2 h2=>?_,λi' fq v i6 hv _=>?_⟩
    .obtain⟨_,_,rfl,_⟩:=J q1 h1;obtain⟨_,_,rfl,_⟩:=J q2 h2;exact .cons (.row _ _) .nil
    .obtain⟨f,Z,rfl,hf,i7⟩:=J fq (Y8 i6);obtain⟨v',i8,rv⟩:=i4.get (i:=i') (d:=E4 f Z) (by rw[YU,i6];rfl);rw[hv]at i8;cases i8;have nm:CJ ks (.inl G) v≠ []:=λz=>by
      have:=UZ (ks:=ks) (k:= .inl G) (v:=v);rw[z]at this;cases this
     refine⟨.inl G,rfl,O.trans (s3.trans nL),Ze (Oq _ _ _) (by lia),.inr nm,λq1 h1=>?_⟩;rcases UY h1 with h1 | rfl
     .obtain⟨x,f1,i0,e1,c1,g1,l1,r1⟩:=one q1 h1;exact⟨x,f1,i0,e1,c1,g1,l1,Aa.ev (Ev.same (s3.trans nL)) _ _ r1⟩
     .exact⟨G,f,Z,rfl,I,hf,i7,rv⟩
  .obtain⟨O,lk,j9,one⟩:=h;intro d' o' j6;rw[Y0]at lk;have nd:=Ab.new (o:= .frz o' (.dK ks)) j6;refine q d' _ o' ks (j0.trans (O.trans nd)) Ag ⟨j9.resolve_left (by simp),by lia,λq1 h1=>?_⟩;obtain⟨x,f1,i0,e1,c1,g1,l1,r1⟩:=one q1 h1;exact⟨x,f1,i0,e1,c1,g1,l1,Aa.ev (Ev.same nd) _ _ r1⟩
def Xw(F:Df K mg "highest_floor" waG ["terms"])(T:Tx mg)(j8:Fn P w K mg base 2 "tails_from" ["terms","hour","tails"] JG):Fn P w K mg base 3 "highest_floor" ["terms"] JH:=by
 k_dat ["terms","caps","coals","draws","low","high","start","tails","hour"]"f"
 refine⟨_,(Ai (Bb (cy 0) (AK K (n:=4) (Aj (zC 1) (Aj (zC 2) (Aj (zC 3) (Aj (zF 4 5 6) AJ)))))) (Ai (zD 7 (UO (Cu (Ar Ak (Cu CS))))) (Ai (B4 Zr rfl (UM rfl T.b_reversed rfl T.b_range (Ah (zG (cy 3)))) (zC 8) (An (zD 7 (zA j8 hr (AH (cy 0) (cy 8) (cy 7)))))) (An (Av (AG (OA rfl hr) rfl T.b_max boot_max (Ah (AW ["price","floor","prices","start"] [none,none,none,some 6] rfl (Oo (cy 7)) (AB.of rfl) (λ_ _ _ _=>(AK K (n:=2) (Aj (zC 0) (Aj (zF 1 2) AJ)))) (λ_ _ _ _=>AR) (λ_ _ _ _=>(Cu (Ar (Ay BL (cy 1) (Ay Et (cy 0) (cy 3))) (cy 2)))))))))))),?_⟩;k_dat 0"u"
 .rename_i v;obtain⟨p,T,fl,r,q⟩:=h;obtain⟨A,C,B,D,M,xc,rfl,hA,hC,rc,hB,hD,hM⟩:=Aa.terms r;have l8:=fl.ok.l8;refine⟨A,_,rfl,Ae.of hA,rfl,_,_,rfl,_,_,rfl,_,_,rfl,_,_,rfl,M,_,rfl,Ae.of hM,rfl,_,_,rfl,_,_,rfl,_,_,rfl,rfl,rfl,?_⟩;refine λt1 H1 s1 k1=>λt2 H2 s2 k2=>λd0 o0 j3=>?_
  have n0:=Ab.new (o:= .frz o0 (.dK [(.inl 0,.ref t2)])) j3;have r2:Aa p H2 (E4 0 []) (.ref t2):=Aa.tup k2 (.cons Aa.int (.cons (Aa.tup (s2 _ _ k1) .nil) .nil));have i8:TW p (upd H2 d0 (.frz o0 (.dK [(.inl 0,.ref t2)]))) 0 [(.inl 0,.ref t2)]:=⟨by simp,by show 1<=5;decide,λq1 h1=>(by rw[Z2.mp h1];exact⟨0,0,[],rfl,by lia,Y5 _,Y5 _,Aa.ev (Ev.same n0) _ _ r2⟩)⟩;have J:=s1.trans (s2.trans n0);have j0:upd H2 d0 (.frz o0 (.dK [(.inl 0,.ref t2)])) d0=some (.frz o0 (.dK [(.inl 0,.ref t2)])):=Ag;generalize upd H2 d0 (.frz o0 (.dK [(.inl 0,.ref t2)]))=H3 at J i8 j0 ⊢;refine⟨D,_,rfl,.inr (Ae.of (J _ _ hD)),_,rfl,by lia,by rw[Y0];lia,SH (λi σ H'=>∃x8 d o G,σ=[some (.ref A),some (.ref C),some (.ref B),some (.ref D),some (.int T.lo),some (.int T.hi),some (.int T.st),some (.ref d),x8]/\i<=T.ds.length/\Ab H H'/\H' d=some (.frz o (.dK G))/\TW p H' i G) ⟨_,d0,o0,_,rfl,Zq _,J,j0,i8⟩ (λi σ H' hi h=>?_) fun σ H' h=>?_⟩
  .obtain⟨x8,d,o,G,rfl,i6,s',kd,ta⟩:=h;have l6:i<T.ds.length:=by rw [Y0] at hi;lia
   refine⟨p,T,T.ds.length-(i+1),o,G,i,fl,by rw[Y0];lia,by lia,Aa.ev (Ev.same s') _ _ r,kd,by lia,ta,λd' H4 o' i9 s4 j4 j6=>⟨_,d',o',i9,rfl,by lia,s'.trans s4,j4,j6⟩⟩
  .obtain⟨x8,d,o,G,rfl,i6,s',kd,ta⟩:=h;obtain⟨ne,l5,O⟩:=ta;rw [Y0] at O i6;have h0:=fl.s0;have h4:=fl.s4;refine⟨d,o,G,rfl,kd,Op (λj Z g=>Ab H' g/\∃fs:List (Int×List yP),Ad p g (fs.map λq=> .tuple (.int q.1::q.2)) Z/\fs.length=j/\∀fq∈fs,∃f ps,fq=(f,[AS ps])/\f.natAbs<=100000/\ps.length<=8) (by lia) ⟨Ab.refl _,[],.nil,rfl,λ_ h=>nomatch h⟩ (λj Z g h=>by obtain⟨_,fs,rs,lf,_⟩:=h;rw [<-rs.len,Y0,lf];exact Y5 _) (λj Z g h=>h.1 _ _ kd) (λj q0 Z g T' hq h hT=>?_) λZ g h=>?_⟩
   .obtain⟨J,fs,rs,lf,I⟩:=h;obtain⟨b,f,ps,eb,hb,hf,j5,rq⟩:=O q0 (Y8 hq);obtain⟨kk,y⟩:=q0;have j2:kk= .inl b:=eb;subst j2;obtain⟨l,bb,ey,j9,i0⟩:=Aa.tailShape (Aa.ev (Ev.same J) _ _ rq)
    replace ey:y= .ref l:=ey
    subst ey;have sT:=Ab.new (o:= .tup [.int b,.ref l]) hT;have s4:=J.trans sT;have hl:=sT _ _ j9;have j7:=sT _ _ i0;refine⟨T',_,rfl,Ae.of Ag,rfl,_,_,rfl,_,_,rfl,l,_,rfl,Ae.of hl,rfl,_,_,rfl,_,_,rfl,rfl,rfl,⟨rfl,trivial⟩,λ_=>?_,λz=>by cases z⟩;refine⟨.inr ⟨Int.lt_of_lt_of_le (by decide) h0,Int.lt_of_le_of_lt h4 (by decide)⟩,λt8 H8 s8 k8=>?_⟩;refine⟨s4.trans s8,fs++[(f-b * T.st,[AS ps])],?_,by rw[Zj,lf];rfl,λfq h=>?_⟩
    .rw[YW];exact Ad.snoc (Ad.ev (Ev.same (sT.trans s8)) _ _ rs) (Aa.tup k8 (.cons Aa.int (.cons (Aa.row (s8 _ _ j7)) .nil)))
    .rcases ZQ.mp h with h | h
     .exact I fq h
     .rw[Z2.mp h];have:=Iz (x:=b) (y:=T.st) (a:=9) (b:=100) (by lia) (by lia);exact⟨_,_,rfl,by lia,by lia⟩
   .obtain⟨J,fs,rs,lf,I⟩:=h;intro L hL;have nL:=Ab.new (o:= .lst Z) hL;have i4:=Ad.ev (Ev.same (p:=p) nL) _ _ rs;refine⟨p,L,fs,Z,rfl,Ag,i4,λz=>ne (Zm (by rw [z] at lf;exact lf.symm)),λq1 h1 q2 h2=>?_,λi' fq v i5 hv _=>?_⟩
    .obtain⟨_,_,rfl,_⟩:=I q1 h1;obtain⟨_,_,rfl,_⟩:=I q2 h2;exact .cons (.row _ _) .nil
    .obtain⟨f,ps,rfl,hf,j5⟩:=I fq (Y8 i5);obtain⟨v',i7,rv⟩:=i4.get (i:=i') (d:=E4 f ps) (by rw[YU,i5];rfl);rw[hv]at i7;cases i7;exact q _ _ _ ps (s'.trans (J.trans nL)) rv hf
end
section
variable{j n i k hour:Nat}{ras:List yQ}{T:TM}{H0 H H':Hp}{zs:List V}{p:yQ}
structure Ga(H:Hp)(Fa Ma:yQ)(ras:List yQ)(f:yZ)(ms:yV):Prop where
 a:H Fa=some (.lst (ras.map V.ref))
 r:∀i,i<ras.length->H (ras.getD i 0)=some (.lst ((f.getD i []).map V.int))
 l:ras.length=f.length
 nd:∀i j,i<ras.length->j<ras.length->ras.getD i 0=ras.getD j 0->i=j
 m:H Ma=some (.lst (ms.map V.int))
 nm:∀i,i<ras.length->ras.getD i 0≠Ma
 nf:∀i,i<ras.length->ras.getD i 0≠Fa
 fm:Fa≠Ma
def Hk(z:yQ)(g:List yQ)(H H':Hp):Prop:=∀b o,H b=some o->b≠z->b ∉ g->H' b=some o
inductive JI_(H:Hp)(Q:VK)(M:yQ)(hi a h:Int):Prop
 |mk(ms:yV)(z g:Nat)(_:a=(z:Int))(_:h=(g:Int))(_:g<ms.length)(_:ms.length<=8)(_:H M=some (.lst (ms.map V.int)))(_:∀D,Ab H D->Q (.int (EF ms hi z g)) D)
def JI:Sp:=λG H Q _=>zY (JI_ H Q) G
inductive JJ_(H:Hp)(Q:VK)(v:V)(Fa Ma:yQ)(h:Int):Prop
 |mk(p T g f ms D:_)(_:DG T)(_:T.lo<=T.hi)(_:BU T=none)(_:h=((g:Nat):Int))(_:Aa p H T.d v)(_:Ga H Fa Ma D f ms)(_:Gr T f ms)(_:g<ms.length)(_:ms.getD g 0<T.lo)(_:∀G I z,Ga G Fa Ma D I z->Gr T I z->ms.getD g 0<z.getD g 0->(∀k,k<ms.length->ms.getD k 0<=z.getD k 0)->Hk Ma D H G->Q .non G)
def JJ:Sp:=λJ H Q _=>zZ (JJ_ H Q) J
def JK:Sp:=λz H Q _=>zK (λv=>∃p T,DG T/\T.lo<=T.hi/\BU T=none/\Aa p H T.d v/\∀A g f ms,Ab H g->Gr T f ms->(∀k,k<ms.length->T.lo<=ms.getD k 0)->Aa p g (FD f) (.ref A)->Q (.ref A) g) z
def Xx{ms:yV}{a h:Nat}:Bc (ms.map V.int) (some (a:Int)) (some (h:Int))=((ms.take h).drop a).map V.int:=by
 unfold Bc;rw[HT.sIx_nat,HT.sIx_nat,Y0,<-map_drop,<-map_take];refine ZI (List.map V.int) (cY λk=>?_);rw[List.drop_take,fK,fK,dH,dH]
 by_cases c:min a ms.length+k<ms.length
 .by_cases d:a<=ms.length
  .rw [aP d]
   by_cases e:k<h-a
   .rw[Z1 e,Z1 (by lia)]
   .rw[YY e,YY (by lia)]
  .lia
 .have g:ms[min a ms.length+k]? =none:=Zu (by lia);have z:ms[a+k]? =none:=Zu (by lia);rw[g,z];split<;>split<;>rfl
def O9{ms:yV}{g:Int->V}{x:V}(h:(ms.map g)[j]? =some x):∃m,ms[j]? =some m/\x=g m:=by
 rw[YU]at h;cases z:ms[j]? with
 |none=>rw[z]at h;cases h
 |some m=>rw[z]at h;cases h;exact⟨m,rfl,rfl⟩
def Xy{b:yQ}(h:b∈ras):∃k,k<ras.length/\ras.getD k 0=b:=by
 obtain⟨k,g⟩:=Zz h;exact⟨k,(Y3.mp g).1,by rw[Y7,g];rfl⟩
def Hl{g:Type}{x d:g}(h:i<n):(List.replicate n x).getD i d=x:=by
 rw[Y7,eE,Z1 h];rfl
theorem Pa:∀n:Nat,(List.replicate n (0:Int)).sum=0
 |0=>rfl
 |n+1=>by rw[aH,bP,Pa n];rfl
def Xz{ds:yV}(h:k<ds.length):(ds.take (k+1)).sum=(ds.take k).sum+ds.getD k 0:=by
 rw[AY (Y6 h),cV,Y7,Y6 h];show _+(ds[k]+0)=_+ds[k];lia
def EI(T:TM):yV:=(List.range T.ds.length).map λk=>T.st-(T.ds.take (k+1)).sum
def Pb(h:k<T.ds.length):(EI T).getD k 0=T.st-(T.ds.take (k+1)).sum:=by
 unfold EI;rw[Y7,YU,ai h];rfl
def XA(fl:DG T):Gr T (List.replicate T.ds.length (List.replicate T.co.length 0)) (EI T):=by
 have lm:(EI T).length=T.ds.length:=by unfold EI;rw[Y0,ZU]
 refine⟨ZK,λi hi=>?_,λi b hi z=>?_,lm,λk g=>?_⟩
 .rw[ZK]at hi;rw[Hl hi,ZK]
 .rw[ZK]at hi;rw[Hl hi,Hl z];refine⟨ZP _,?_⟩;have c:=fl.c _ (P' (l:=T.cs) (d:=[]) (i:=i) (by rw[fl.ok.lc];exact hi));exact(c.2 _ (P' (by rw[c.1];exact z))).1
 .rw[lm]at g;rw[Pb g,Hl g,Pa,Xz g]
  by_cases D:k=0
  .subst D;rw[Z1 rfl,take_zero,sum_nil];lia
  .rw[YY D,Pb (by lia),show k-1+1=k by lia];lia
structure Rows0(H0 H:Hp)(i n:Nat)(zs:List V):Prop where
 ex:∃ras:List yQ,zs=ras.map V.ref/\ras.length=i/\(∀k,k<i->H0 (ras.getD k 0)=none/\H (ras.getD k 0)=some (.lst ((List.replicate n (0:Int)).map V.int)))/\∀j k,j<i->k<i->ras.getD j 0=ras.getD k 0->j=k
def Rows0.zero:Rows0 H0 H 0 n []:=⟨[],rfl,rfl,λk z=>absurd z (aR _),λj k g=>absurd g (aR _)⟩
def Rows0.len(h:Rows0 H0 H i n zs):zs.length=i:=by
 obtain⟨g,rfl,l,_⟩:=h.ex;rw[Y0,l]
def Rows0.put{L:yQ}(h:Rows0 H0 H i n zs)(s0:Ab H0 H)(s:Ab H H')(Z:H L=none)(k:H' L=some (.lst ((List.replicate n (0:Int)).map V.int))):Rows0 H0 H' (i+1) n (zs++[.ref L]):=by
 obtain⟨g,rfl,l,J,h2⟩:=h.ex;have D:∀c,c<i->(g++[L]).getD c 0=g.getD c 0:=λc I=>by rw[Y7,aY (by lia),Y7]
 have O:(g++[L]).getD i 0=L:=by rw[Y7,aN (by lia),l,fU];rfl
 have ne:∀c,c<i->g.getD c 0≠L:=λc I e=>by
  have:=(J c I).2;rw[e,Z]at this;cases this
 refine⟨g++[L],by rw[YW];rfl,by rw[Zj,l];rfl,λc I=>?_,λa b ha hb e=>?_⟩
 .by_cases e:c=i
  .rw [e,O];refine⟨?_,k⟩;cases z:H0 L with
   |none=>rfl
   |some o=>have:=s0 _ _ z;rw[Z]at this;cases this
  .rw[D c (by lia)];exact⟨(J c (by lia)).1,s _ _ (J c (by lia)).2⟩
 .by_cases ea:a=i
  .by_cases G:b=i
   .rw[ea,G]
   .rw[ea,O,D b (by lia)]at e;exact absurd e.symm (ne b (by lia))
  .by_cases G:b=i
   .rw[G,O,D a (by lia)]at e;exact absurd e (ne a (by lia))
   .rw[D a (by lia),D b (by lia)]at e;exact h2 a b (by lia) (by lia) e
def Pc{ns:yV}{b:Nat}(h:b<ns.length):(ns.map V.int)[b]? =some (.int (ns.getD b 0)):=by
 rw[YU,Y6 h,Y7,Y6 h];rfl
def Pd{b:Nat}(h:b<n):CZ n (b:Int)=some b:=by
 unfold CZ;rw[Z1 (Int.natCast_nonneg b),Z1 (by lia),ak]
def EJ{t:Db->L2.St->Hp->Prop}{D:Db}{g σ':L2.St}(e:g=σ')(h:t D σ' H):t D g H:=by rw[e];exact h
def LO(h:i<ras.length):B5 (ras.map V.ref) (i:Int)=some (.ref (ras.getD i 0)):=by
 refine Cr ?_;rw[YU,Y6 h,Y7,Y6 h];rfl
def Aa.capRow{cs:yZ}{xc:List V}{C:yQ}(D:Ad p H (cs.map AS) xc)(hC:H C=some (.tup xc)){i:Nat}(hi:i<cs.length):∃z,B5 xc (i:Int)=some (.ref z)/\H z=some (.tup ((cs.getD i []).map V.int)):=by
 have L:=D.len;rw[Y0]at L;obtain⟨x,G⟩:∃x,xc[i]? =some x:=⟨xc[i],Y6 (by lia)⟩;obtain⟨g,Z,O⟩:=Ad.mapGot D G;have e:cs.getD i []=g:=by rw[Y7,Z];rfl
 obtain⟨z,xs,rfl,I,J⟩:=Aa.shape O;rw[Ad.ints J]at I;exact⟨z,Cr G,by rw[e];exact I⟩
def Pe(T:TM)(q:Nat×Nat):yP:= .tuple [.int (T.co.getD q.2 0),.int (q.1:Int),.int (q.2:Int)]
structure Cands(T:TM)(f:yZ)(ms:yV)(hour:Nat)(p:yQ)(H:Hp)(i j:Nat)(zs:List V):Prop where
 ex:∃cs:List (Nat×Nat),Ad p H (cs.map (Pe T)) zs/\cs.length<=i * 4+j/\(∀q∈cs,q.1<=hour/\q.2<T.co.length/\FQ T f ms hour q.1 q.2)/\∀a b,(a<i\/(a=i/\b<j))->b<T.co.length->FQ T f ms hour a b->(a,b)∈cs
def Cands.zero{f:yZ}{ms:yV}:Cands T f ms hour p H 0 0 []:=⟨[],.nil,Y5 _,λq g=>(nomatch g),λa b h=>by lia⟩
def Cands.row{f:yZ}{ms:yV}(c:Cands T f ms hour p H i T.co.length zs)(I:T.co.length<=4):Cands T f ms hour p H (i+1) 0 zs:=by
 obtain⟨cs,G,l,g,z⟩:=c.ex;refine⟨cs,G,by lia,g,λa b h D m=>z a b ?_ D m⟩;lia
def Cands.skip{f:yZ}{ms:yV}(c:Cands T f ms hour p H i j zs)(s:Ab H H')(no:¬FQ T f ms hour i j):Cands T f ms hour p H' i (j+1) zs:=by
 obtain⟨cs,G,l,g,z⟩:=c.ex;refine⟨cs,Ad.ev (Ev.same s) _ _ G,by lia,g,λa b h D m=>?_⟩
 by_cases e:a=i/\b=j
 .rw[e.1,e.2]at m;exact absurd m no
 .exact z a b (by lia) D m
def Cands.put{f:yZ}{ms:yV}{u:V}(c:Cands T f ms hour p H i j zs)(s:Ab H H')(hi:i<=hour)(J:j<T.co.length)(m:FQ T f ms hour i j)(ru:Aa p H' (Pe T (i,j)) u):Cands T f ms hour p H' i (j+1) (zs++[u]):=by
 obtain⟨cs,D,l,L,z⟩:=c.ex;refine⟨cs++[(i,j)],by rw[YW];exact Ad.append (Ad.ev (Ev.same s) _ _ D) (.cons ru .nil),by rw[Zj];simp;lia,λq g=>?_,λa b h I G=>?_⟩
 .rcases ZQ.mp g with g | g
  .exact L q g
  .rw[Z2.mp g];exact⟨hi,J,m⟩
 .by_cases e:a=i/\b=j
  .rw[e.1,e.2];exact Z5 _ (Z2.mpr rfl)
  .exact bK _ (z a b (by lia) I G)
def XC(F:Df K mg "room_between" waK ["mains","high","first","hour"])(T:Tx mg):Fn P w K mg base 1 "room_between" ["mains","high","first","hour"] JI:=by
 k_dat ["mains","high","first","hour"]"f"
 refine⟨_,(An (Av (Ve rfl rfl T.b_min (Ah (AW ["main","high"] [none,some 1] rfl (Cf K (Eo (KT K) (cy 0) (CY (cy 2)) (CY (cy 3)))) (AB.of rfl) (λ_ _ _ _=>(zC 0)) (λ_ _ _ _=>AR) (λ_ _ _ _=>(Ay BL (cy 1) (cy 0))))) (Q6 (Ay BL (cy 1) (AI (Bj K) (cy 0) (cy 3) (λ_ _=>rfl))) Q5)))),?_⟩;k_dat 0"u"
 .rename_i M hi a h';obtain⟨ms,g,h0,rfl,rfl,lt,l8,hM,q⟩:=h;refine⟨(g:Int),rfl,(h0:Int),rfl,M,_,rfl,Al.of hM,λL hL=>?_⟩;have nL:=Ab.new (o:= .lst (Bc (ms.map V.int) (some (g:Int)) (some (h0:Int)))) hL;have ec:Bc (ms.map V.int) (some (g:Int)) (some (h0:Int))=((ms.take h0).drop g).map V.int:=Xx;have Z:upd H L (.lst (Bc (ms.map V.int) (some (g:Int)) (some (h0:Int)))) L=some (.lst (((ms.take h0).drop g).map V.int)):=by rw[Ag,ec]
  generalize upd H L (.lst (Bc (ms.map V.int) (some (g:Int)) (some (h0:Int))))=H1 at nL Z ⊢;have ll:((ms.take h0).drop g).length<=8:=by rw[bG,Za];lia
  refine⟨L,rfl,⟨_,Al.of Z⟩,C3 (xs:=((ms.take h0).drop g).map V.int) (λj D G=>Ab H1 G/\D=(((ms.take h0).drop g).take j).map λm=>V.int (hi-m)) (by rw[Y0];lia) ⟨Ab.refl _,rfl⟩ (λj D G h=>by rw[h.2,Y0,Za];lia) (λj D G _ h=>Al.of (h.1 _ _ Z)) (λj x D G hx h=>?_) λD G h=>?_⟩
  .obtain⟨m,O,rfl⟩:=O9 hx;refine⟨⟨rfl,trivial⟩,λ_=>⟨h.1,?_⟩,λz=>by cases z⟩;rw[AY O,YW,h.2];rfl
  intro L2 J;have n2:=Ab.new (o:= .lst D) J;have k2:upd G L2 (.lst D) L2=some (.lst ((((ms.take h0).drop g).map (hi- ·)).map V.int)):=by
   rw[Ag,h.2,Y0,dq,bo];rfl
  have I:=nL.trans (h.1.trans n2);generalize upd G L2 (.lst D)=H2 at n2 k2 I ⊢;refine⟨M,_,(h0:Int),.int (ms.getD h0 0),rfl,rfl,Al.of (I _ _ hM),Eg lt,L2,_,_,rfl,k2,rfl,λe=>?_,λMn O hl=>?_⟩
  .rw[<-U2 e];exact q _ I
  .rw[U1 O hl];exact q _ I
def XD(F:Df K mg "make_cheapest" waJ ["terms","firing","mains","hour"])(T:Tx mg)(j0:Fn P w K mg base 1 "room_between" ["mains","high","first","hour"] JI):Fn P w K mg base 2 "make_cheapest" ["terms","firing","mains","hour"] JJ:=by
 k_dat ["terms","firing","mains","hour","caps","coals","draws","low","high","start","coal","at","boiler","lacking","spare","more","later"]"f"
 refine⟨_,(Ai (Bb (cy 0) (AK K (n:=4) (Aj (zC 4) (Aj (zC 5) (Aj (zC 6) (Aj (zF 7 8 9) AJ)))))) (Ai (Bb (AG (UV rfl hr) rfl T.b_min boot_min (Ah (SX ["at","boiler","coal","mains","high","hour","firing","caps","coals"] [none,none,none,some 2,some 8,some 3,some 1,some 4,some 5] rfl (CD rfl T.b_range (Ah (Ay Bg (cy 3) Ak))) (AB.of rfl) (λ_ _ _ _=>(zC 0)) (λ_ _ _ _=>AR) (λ_ _ _ _=>(Gz P w K rfl T.b_enumerate (Ah (cy 8)))) (λ_ _ _ _=>(zF 1 2)) (λ_ _ _ _=>(Gn (PW.pt (Gw (AU Eu (AI (Bj K) (AI (Bj K) (cy 6) (cy 0) (λ_ _=>rfl)) (cy 1) (λ_ _=>rfl)) (AI (Bd K) (AI (Bd K) (cy 7) (cy 0) (λ_ _=>rfl)) (cy 1) (λ_ _=>rfl)) (AV _)) (HA (AU Nv (zA j0 hr (C6 (cy 3) (cy 4) (cy 0) (cy 5))) Ak (AV _))))))) (λ_ _ _ _=>(Cu (AH (cy 2) (cy 0) (cy 1))))))) (zF 10 11 12)) (Ai (zD 13 (Ay BL (cy 7) (AI (Bj K) (cy 2) (cy 3) (λ_ _=>rfl)))) (Ai (zD 14 (Ay BL (AI (Bd K) (AI (Bd K) (cy 4) (cy 11) (λ_ _=>rfl)) (cy 12) (λ_ _=>rfl)) (AI (Bj K) (AI (Bj K) (cy 1) (cy 11) (λ_ _=>rfl)) (cy 12) (λ_ _=>rfl)))) (Ai (zD 15 (AG (Vf rfl) rfl T.b_min boot_min (AH (cy 13) (cy 14) (zA j0 hr (C6 (cy 2) (cy 8) (cy 11) (cy 3)))))) (Ai (My (AI (Bj K) (cy 1) (cy 11) (λ_ _=>rfl)) (cy 12) OE (cy 15) Ko HP) (An (B4 Zr rfl (ME rfl T.b_range (Ar (cy 11) (zG (cy 2)))) (zC 16) (An (My (cy 2) (cy 16) OE (cy 15) Ko HP)))))))))),?_⟩;k_dat 0"u"
 .rename_i v Fa Z h';obtain⟨p,T,g,f,ms,G,fl,lh,no,rfl,r,J,gr,hh,j7,q⟩:=h;obtain⟨A,C,B,D,M,xc,rfl,hA,hC,rc,hB,hD,hM⟩:=Aa.terms r;have l8:=fl.ok.l8;have o4:=fl.o;have lm:=gr.lm;have lf:=gr.lf;have lc:=fl.ok.lc;have lr:G.length=T.ds.length:=by rw[J.l,lf]
  have lx:=rc.len;rw[Y0]at lx;refine⟨A,_,rfl,Ae.of hA,rfl,_,_,rfl,_,_,rfl,_,_,rfl,_,_,rfl,M,_,rfl,Ae.of hM,rfl,_,_,rfl,_,_,rfl,_,_,rfl,rfl,rfl,?_⟩;refine EJ (σ':=[some (.ref A),some (.ref Fa),some (.ref Z),some (.int (g:Int)),some (.ref C),some (.ref B),some (.ref D),some (.int T.lo),some (.int T.hi),some (.int T.st),none,none,none,none,none,none,none]) rfl ?_;refine⟨_,rfl,by lia,by lia,?_⟩;rw[show((g:Int)+1).toNat=g+1 by lia];refine NS (n:=g+1) (λi zs H'=>Ab H H'/\Cands T f ms g p H' i 0 zs) ⟨Ab.refl _,Cands.zero⟩ (λi zs H1 hi h=>?_) λzs H1 h=>?_
  .refine⟨⟨rfl,rfl,rfl,rfl,rfl,rfl,trivial⟩,λ_=>?_,λz=>by cases z⟩;refine⟨B,rfl,⟨_,Ae.of (h.1 _ _ hB)⟩,SZ (xs:=T.co.map V.int) (λj ys H2=>Ab H H2/\j<=T.co.length/\Cands T f ms g p H2 i j ys) ⟨h.1,Zq _,h.2⟩ (λj ys H2 h2=>?_) (λj ys H2 h2=>Ae.of (h2.1 _ _ hB)) (λj x ys H2 U hx h2 hU=>?_) λys H2 h2=>?_⟩
   .obtain⟨cs,rs,l,_⟩:=h2.2.2.ex;have:=rs.len;rw[Y0]at this;have:i * 4<=7 * 4:=cW 4 (by lia);lia
   .obtain⟨c,hc,rfl⟩:=O9 hx;have hj:j<T.co.length:=(Y3.mp hc).1;have nU:=Ab.new (o:= .tup [.int (j:Int),.int c]) hU;have O:=h2.1.trans nU;have kU:upd H2 U (.tup [.int (j:Int),.int c]) U=some (.tup [.int (j:Int),.int c]):=Ag;generalize upd H2 U (.tup [.int (j:Int),.int c])=H3 at nU O kU ⊢;have I:i<G.length:=by lia
    have i0:i<T.cs.length:=by lia
    have j2:=gr.row i (by lia);have j3:=(fl.c _ (P' (l:=T.cs) (d:=[]) i0)).1;obtain⟨cr,i5,i6⟩:=Aa.capRow rc hC i0;refine⟨U,_,rfl,Ae.of kU,rfl,_,_,rfl,_,_,rfl,rfl,⟨rfl,rfl,rfl,rfl,rfl,rfl,rfl,trivial⟩,?_⟩;rw[show(0+(i:Int))=(i:Int) by lia];refine⟨Fa,_,(i:Int),.ref (G.getD i 0),rfl,rfl,Al.of (O _ _ J.a),LO I,G.getD i 0,_,(j:Int),.int ((f.getD i []).getD j 0),rfl,rfl,Al.of (O _ _ (J.r i I)),Eg (by lia),C,_,(i:Int),.ref cr,rfl,rfl,Ae.of (O _ _ hC),i5,cr,_,(j:Int),.int ((T.cs.getD i []).getD j 0),rfl,rfl,Ae.of (O _ _ i6),Eg (by lia),?_⟩;have ec:T.co.getD j 0=c:=by rw[Y7,hc];rfl
    refine⟨λc1=>?_,λc1=>⟨λz=>(by cases z),λ_=>⟨O,hj,h2.2.2.skip nU λm=>absurd m.1 (Zw c1)⟩⟩⟩;refine⟨ms,i,g,rfl,rfl,hh,by lia,O _ _ J.m,λH4 s4=>⟨λc2=>λu H5 s5 k5=>?_,λc2=>⟨O.trans s4,hj,h2.2.2.skip (nU.trans s4) λm=>absurd m.2 (Zw c2)⟩⟩⟩;refine⟨O.trans (s4.trans s5),hj,h2.2.2.put (nU.trans (s4.trans s5)) (by lia) hj ⟨Z7 c1,Z7 c2⟩ ?_⟩;show Aa p H5 (.tuple [.int (T.co.getD j 0),.int (i:Int),.int (j:Int)]) (.ref u);rw[ec];exact Aa.tup k5 (.cons Aa.int (.cons Aa.int (.cons Aa.int .nil)))
   .refine⟨h2.1,Cands.row ?_ o4⟩;have:=h2.2.2;rw[Y0]at this;exact this
  .intro L hL;obtain⟨cs,rs,l7,h1,h2⟩:=h.2.ex;have nL:=Ab.new (o:= .lst zs) hL;have kL:upd H1 L (.lst zs) L=some (.lst zs):=Ag;have O:=h.1.trans nL;generalize upd H1 L (.lst zs)=H2 at nL kL O ⊢;have j6:=Ad.ev (Ev.same (p:=p) nL) _ _ rs;have j8:Ad p H2 ((cs.map λq=>(T.co.getD q.2 0,[PyData.int (q.1:Int),PyData.int (q.2:Int)])).map λq=> .tuple (.int q.1::q.2)) zs:=by rw [bo];exact j6
   refine⟨p,L,_,_,rfl,kL,j8,?_,?_,λk qq u hq hv le=>?_⟩
   .obtain⟨a,b,ha,hb,m⟩:=U5 fl lh no gr hh j7;intro e;have e2:=di.mp e;have:=h2 a b (.inl (by lia)) hb m;rw[e2]at this;cases this
   .intro q1 m1 q2 m2;obtain⟨_,_,rfl⟩:=Zg.mp m1;obtain⟨_,_,rfl⟩:=Zg.mp m2;exact .cons (.int _ _) (.cons (.int _ _) .nil)
   obtain⟨⟨a,b⟩,hg,rg⟩:=Ad.mapGot j6 hv;obtain⟨i8,j5,i4⟩:=h1 _ (Y8 hg);have ha:a<=g:=i8;have hb:b<T.co.length:=j5;have j4:FQ T f ms g a b:=i4;clear i8 j5 i4;obtain⟨t,xs,rfl,ht,rx⟩:=Aa.shape rg;rw[Ad.ints (ns:=[T.co.getD b 0,(a:Int),(b:Int)]) rx]at ht;have I:a<G.length:=by lia
   have i0:a<T.cs.length:=by lia
   have j2:=gr.row a (by lia);have j3:=(fl.c _ (P' (l:=T.cs) (d:=[]) i0)).1;obtain⟨cr,i5,i6⟩:=Aa.capRow rc hC i0;refine⟨t,_,rfl,Ae.of ht,rfl,_,_,rfl,_,_,rfl,_,_,rfl,rfl,?_⟩;refine EJ (σ':=[some (.ref A),some (.ref Fa),some (.ref Z),some (.int (g:Int)),some (.ref C),some (.ref B),some (.ref D),some (.int T.lo),some (.int T.hi),some (.int T.st),some (.int (T.co.getD b 0)),some (.int (a:Int)),some (.int (b:Int)),none,none,none,none]) rfl ?_;refine⟨Z,_,(g:Int),.int (ms.getD g 0),rfl,rfl,Al.of (O _ _ J.m),Eg hh,?_⟩;dsimp only[mI0,DS];refine EJ (σ':=[some (.ref A),some (.ref Fa),some (.ref Z),some (.int (g:Int)),some (.ref C),some (.ref B),some (.ref D),some (.int T.lo),some (.int T.hi),some (.int T.st),some (.int (T.co.getD b 0)),some (.int (a:Int)),some (.int (b:Int)),some (.int (T.lo-ms.getD g 0)),none,none,none]) rfl ?_;refine⟨C,_,(a:Int),.ref cr,rfl,rfl,Ae.of (O _ _ hC),i5,cr,_,(b:Int),.int ((T.cs.getD a []).getD b 0),rfl,rfl,Ae.of (O _ _ i6),Eg (by lia),Fa,_,(a:Int),.ref (G.getD a 0),rfl,rfl,Al.of (O _ _ J.a),LO I,G.getD a 0,_,(b:Int),.int ((f.getD a []).getD b 0),rfl,rfl,Al.of (O _ _ (J.r a I)),Eg (by lia),?_⟩;dsimp only[mI0,DS];refine EJ (σ':=[some (.ref A),some (.ref Fa),some (.ref Z),some (.int (g:Int)),some (.ref C),some (.ref B),some (.ref D),some (.int T.lo),some (.int T.hi),some (.int T.st),some (.int (T.co.getD b 0)),some (.int (a:Int)),some (.int (b:Int)),some (.int (T.lo-ms.getD g 0)),some (.int ((T.cs.getD a []).getD b 0-(f.getD a []).getD b 0)),none,none]) rfl ?_;refine⟨ms,a,g,rfl,rfl,hh,by lia,O _ _ J.m,λH4 s4=>⟨_,_,_,rfl,λm hm m1 m2 m3=>?_⟩⟩;have s5:=O.trans s4;have m0:0<m:=by
    have:=j4.1;have:=j4.2;rcases hm with rfl | rfl | rfl<;>lia
   have i9:=Pc (ns:=f.getD a []) (b:=b) (by lia);have l6:CZ ((f.getD a []).map V.int).length (b:Int)=some b:=Pd (by rw[Y0];lia);dsimp only[mI0,DS];refine EJ (σ':=[some (.ref A),some (.ref Fa),some (.ref Z),some (.int (g:Int)),some (.ref C),some (.ref B),some (.ref D),some (.int T.lo),some (.int T.hi),some (.int T.st),some (.int (T.co.getD b 0)),some (.int (a:Int)),some (.int (b:Int)),some (.int (T.lo-ms.getD g 0)),some (.int ((T.cs.getD a []).getD b 0-(f.getD a []).getD b 0)),some (.int m),none]) rfl ?_;refine⟨Fa,_,(a:Int),.ref (G.getD a 0),rfl,rfl,Al.of (s5 _ _ J.a),LO I,?_⟩;refine⟨G.getD a 0,_,b,.int ((f.getD a []).getD b 0),rfl,rfl,s5 _ _ (J.r a I),i9,?_⟩;refine⟨_,_,rfl,rfl,?_⟩;refine⟨G.getD a 0,_,(b:Int),b,rfl,rfl,s5 _ _ (J.r a I),l6,?_⟩;have e6:((f.getD a []).map V.int).set b (V.int ((f.getD a []).getD b 0+m))=((f.getD a []).set b ((f.getD a []).getD b 0+m)).map V.int:=by rw[map_set]
   have k6:upd H4 (G.getD a 0) (.lst (((f.getD a []).map V.int).set b (V.int ((f.getD a []).getD b 0+m)))) (G.getD a 0)=some (.lst (((f.getD a []).set b ((f.getD a []).getD b 0+m)).map V.int)):=by rw[Ag,e6]
   have o6:∀c o,H4 c=some o->c≠G.getD a 0->upd H4 (G.getD a 0) (.lst (((f.getD a []).map V.int).set b (V.int ((f.getD a []).getD b 0+m)))) c=some o:=λc o e n=>by rw[Aq n];exact e
   generalize upd H4 (G.getD a 0) (.lst (((f.getD a []).map V.int).set b (V.int ((f.getD a []).getD b 0+m))))=H6 at k6 o6 ⊢;have m6:H6 Z=some (.lst (ms.map V.int)):=o6 _ _ (s5 _ _ J.m) (Zd (J.nm a I));refine⟨Z,_,rfl,.inl (Al.of m6),?_⟩;rw[Y0];refine⟨_,_,rfl,⟨by lia,by lia,by lia,by lia⟩,?_⟩;rw[show((ms.length:Int)-(a:Int)).toNat=ms.length-a by lia];refine Em (n:=ms.length-a) (λe σ H'=>(∃i7,σ=[some (.ref A),some (.ref Fa),some (.ref Z),some (.int (g:Int)),some (.ref C),some (.ref B),some (.ref D),some (.int T.lo),some (.int T.hi),some (.int T.st),some (.int (T.co.getD b 0)),some (.int (a:Int)),some (.int (b:Int)),some (.int (T.lo-ms.getD g 0)),some (.int ((T.cs.getD a []).getD b 0-(f.getD a []).getD b 0)),some (.int m),i7])/\H' Z=some (.lst ((CK ms a (a+e) m).map V.int))/\∀c o,H6 c=some o->c≠Z->H' c=some o) ⟨⟨_,rfl⟩,by rw[Nat.add_zero,U6];exact m6,λc o e n=>e⟩ (λe σ H7 he h7=>?_) fun σ H7 h7=>?_
   .obtain⟨⟨i7,rfl⟩,m7,o7⟩:=h7;have le:=E5 (ms:=ms) (a:=a) (e:=a+e) (m:=m);have hg:=Pc (ns:=CK ms a (a+e) m) (b:=a+e) (by lia);refine⟨Z,_,a+e,_,rfl,by rw [eQ],m7,hg,_,_,rfl,rfl,Z,_,((a+e:Nat):Int),a+e,rfl,by rw [eQ],m7,Pd (by rw [Y0];lia),⟨_,rfl⟩,?_,λc o e1 n=>?_⟩
    .rw[Ag,<-Nat.add_assoc,<-U7 (by lia) (by lia),map_set]
    .rw[Aq n];exact o7 c o e1 n
   obtain⟨⟨i7,rfl⟩,m7,o7⟩:=h7;rw[show a+(ms.length-a)=ms.length by lia]at m7;have j9:∀i,(FR f a b m).getD i []=if i=a then(f.getD a []).set b ((f.getD a []).getD b 0+m) else f.getD i []:=λi=>Lp (by lia)
   refine q H7 (FR f a b m) (CK ms a ms.length m) ⟨o7 _ _ (o6 _ _ (s5 _ _ J.a) (Zd (J.nf a I))) J.fm,λi hi=>?_,by rw[show(FR f a b m).length=f.length from bT];exact J.l,J.nd,m7,J.nm,J.nf,J.fm⟩ (gr.more (by lia) hb (by lia) m2) ?_ (λk hk=>?_) λc o e n1 n2=>?_
   .rw [j9]
    by_cases e:i=a
    .rw[Z1 e,e];exact o7 _ _ k6 (J.nm a I)
    .rw[YY e];exact o7 _ _ (o6 _ _ (s5 _ _ (J.r i hi)) λz=>e (J.nd i a hi I z)) (J.nm i hi)
   .rw[GS hh,Z1 ⟨ha,hh⟩];lia
   .rw[GS hk];split<;>lia
   .refine o7 _ _ (o6 _ _ (s5 _ _ e) λz=>n2 ?_) n1;rw[z];exact P' I
def za5:As ["terms","caps","coals","draws","low","high","start","firing","mains","hour"] ["terms"] (Am waI):=Az
def XE(F:Df K mg "least_firing" waI ["terms"])(T:Tx mg)(l9:Fn P w K mg base 2 "make_cheapest" ["terms","firing","mains","hour"] JJ):Fn P w K mg base 3 "least_firing" ["terms"] JK:=by
 k_dat ⟨za5,vs,hr⟩"h"
 refine⟨_,(Ai (Bb (cy 0) (AK K (n:=4) (Aj (zC 1) (Aj (zC 2) (Aj (zC 3) (Aj (zF 4 5 6) AJ)))))) (Ai (Gq (i:=7) ["row","coals"] [none,some 2] za5.nd rfl (AC (by rfl)) rfl (Bu K (cy 1)) (AB.of rfl) (λ_ _ _ _=>(zC 0)) (λ_ _ _ _=>AR) (λ_ _ _ _=>(AW ["coal"] [none] rfl (Bu K (cy 1)) (AB.of rfl) (λ_ _ _ _=>(zC 0)) (λ_ _ _ _=>AR) (λ_ _ _ _=>Ak)))) (Ai (Gq (i:=8) ["hour","start","draws"] [none,some 6,some 3] za5.nd rfl (AC (by rfl)) rfl (CD rfl T.b_range (Ah (zG (cy 3)))) (AB.of rfl) (λ_ _ _ _=>(zC 0)) (λ_ _ _ _=>AR) (λ_ _ _ _=>(Ay BL (cy 1) (AG (EW rfl) rfl T.b_sum bR (Ah (Eo wa2 (cy 2) HL (CY (Ay Bg (cy 0) Ak)))))))) (Ai (B4 Zr rfl (CD rfl T.b_range (Ah (zG (cy 3)))) (zC 9) (An (Qv Zr (AU Eu (AI (Bj K) (cy 8) (cy 9) (λ_ _=>rfl)) (cy 4) (AV _)) (An (A8 (zA l9 hr (C6 (cy 0) (cy 7) (cy 8) (cy 9)))))))) (An (Av (A6 (BN K) rfl T.b_tuple BH (Ah (AW ["row"] [none] rfl (Cf K (cy 7)) (AB.of rfl) (λ_ _ _ _=>(zC 0)) (λ_ _ _ _=>AR) (λ_ _ _ _=>(A6 (BN K) rfl T.b_tuple BH (Ah (cy 0))))))))))))),?_⟩;k_dat 0"u"
 .rename_i v;obtain⟨p,T,fl,lh,no,r,q⟩:=h;obtain⟨A,C,B,D,M,xc,rfl,hA,hC,rc,hB,hD,hM⟩:=Aa.terms r;have l8:=fl.ok.l8;have o4:=fl.o;have lc:=fl.ok.lc;have lx:=rc.len;rw[Y0]at lx;refine⟨A,_,rfl,Ae.of hA,rfl,_,_,rfl,_,_,rfl,_,_,rfl,_,_,rfl,M,_,rfl,Ae.of hM,rfl,_,_,rfl,_,_,rfl,_,_,rfl,rfl,rfl,?_⟩;refine EJ (σ':=[some (.ref A),some (.ref C),some (.ref B),some (.ref D),some (.int T.lo),some (.int T.hi),some (.int T.st),none,none,none]) rfl ?_;refine⟨C,rfl,⟨xc,Ae.of hC⟩,BC (xs:=xc) (λi J H'=>Ab H H'/\Rows0 H H' i T.co.length J) (by lia) ⟨Ab.refl _,Rows0.zero⟩ (λi J H1 h=>by rw[h.2.len];lia) (λi J H1 _ h=>Ae.of (h.1 _ _ hC)) (λi x J H1 hx h=>?_) λJ H1 h=>?_⟩
  .refine⟨⟨rfl,trivial⟩,λ_=>?_,λz=>by cases z⟩;refine⟨B,rfl,⟨_,Ae.of (h.1 _ _ hB)⟩,BC (xs:=T.co.map V.int) (λj ys H2=>Ab H1 H2/\ys=(List.replicate j (0:Int)).map V.int) (by rw [Y0];lia) ⟨Ab.refl _,rfl⟩ (λj ys H2 h2=>by rw [h2.2,Y0,ZK];lia) (λj ys H2 _ h2=>Ae.of (h2.1 _ _ (h.1 _ _ hB))) (λj y ys H2 hy h2=>?_) λys H2 h2=>?_⟩
   .refine⟨trivial,λ_=>⟨h2.1,?_⟩,λz=>by cases z⟩;rw[h2.2,cZ,YW];rfl
   .intro L hL;rw[Y0]at h2;have nL:=Ab.new (o:= .lst ys) hL;have n1:H1 L=none:=by
     cases z:H1 L with
     |none=>rfl
     |some o=>have:=h2.1 _ _ z;rw[hL]at this;cases this
    exact⟨h.1.trans (h2.1.trans nL),h.2.put h.1 (h2.1.trans nL) n1 (by rw[Ag,h2.2])⟩
  intro Z i6;obtain⟨I,rfl,lr,i7,j5⟩:=h.2.ex;have nF:=Ab.new (o:= .lst (I.map V.ref)) i6;have kF:upd H1 Z (.lst (I.map V.ref)) Z=some (.lst (I.map V.ref)):=Ag;have s2:=h.1.trans nF;have fF:H Z=none:=by
   cases z:H Z with
   |none=>rfl
   |some o=>have:=h.1 _ _ z;rw[i6]at this;cases this
  have l7:∀k,k<I.length->I.getD k 0≠Z:=λk hk e=>by
   have:=(i7 k (by lia)).2;rw[e,i6]at this;cases this
  have i8:∀k,k<I.length->upd H1 Z (.lst (I.map V.ref)) (I.getD k 0)=some (.lst ((List.replicate T.co.length (0:Int)).map V.int)):=λk hk=>nF _ _ (i7 k (by lia)).2
  generalize upd H1 Z (.lst (I.map V.ref))=H2 at nF kF s2 i8 ⊢;refine EJ (σ':=[some (.ref A),some (.ref C),some (.ref B),some (.ref D),some (.int T.lo),some (.int T.hi),some (.int T.st),some (.ref Z),none,none]) rfl ?_;refine⟨D,_,rfl,.inr (Ae.of (s2 _ _ hD)),?_⟩;rw[Y0];refine⟨_,rfl,by lia,by lia,?_⟩;rw[show((T.ds.length:Int)).toNat=T.ds.length by lia];refine Gu (n:=T.ds.length) (λi J H'=>Ab H2 H'/\J=((List.range i).map λk=>T.st-(T.ds.take (k+1)).sum).map V.int) (by lia) ⟨Ab.refl _,rfl⟩ (λi J H' h=>by rw[h.2,Y0,Y0,ZU];lia) (λi J H' hi h=>?_) λJ H3 h3=>?_
  .refine⟨⟨rfl,rfl,trivial⟩,λ_=>?_,λz=>by cases z⟩;have e1:(0+(i:Int))+1=((i+1:Nat):Int):=by lia
   refine⟨(0+(i:Int))+1,rfl,D,_,rfl,h.1 _ _ (s2 _ _ hD),λl H4 s4 k4=>?_⟩;rw[e1,Ug,<-map_take]at k4;refine⟨l,_,rfl,.inr k4,h.1.trans s4,?_⟩;rw[h.2,bp,YW,YW];rfl
  intro O i5;have em:J=(EI T).map V.int:=h3.2;have nM:=Ab.new (o:= .lst J) i5;have kM:upd H3 O (.lst J) O=some (.lst ((EI T).map V.int)):=by rw[Ag,em]
  have s4:=s2.trans (h3.1.trans nM);have fM:H O=none:=by
   cases z:H O with
   |none=>rfl
   |some o=>have:=(s2.trans h3.1) _ _ z;rw[i5]at this;cases this
  have j3:=(h3.1.trans nM) _ _ kF;have j4:=λk hk=>(h3.1.trans nM) _ _ (i8 k hk)
  have n5:Z≠O:=Bo (h3.1 _ _ kF) i5;have j9:∀k,k<I.length->I.getD k 0≠O:=λk hk=>Bo (h3.1 _ _ (i8 k hk)) i5
  generalize upd H3 O (.lst J)=H4 at nM kM s4 j3 j4 ⊢;have j8:I.length=T.ds.length:=by lia
  have j7:Ga H4 Z O I (List.replicate T.ds.length (List.replicate T.co.length 0)) (EI T):=⟨j3,λk hk=>by rw[Hl (by lia)];exact j4 k hk,by rw[ZK];exact j8,λa b ha hb e=>j5 a b (by lia) (by lia) e,kM,j9,l7,n5⟩;have own:∀ {G:Hp},Hk O I H4 G->Ab H G:=λ{G} e b o hb=>by
   refine e b o (s4 _ _ hb) (λz=>by rw[z,fM]at hb;cases hb) λz=>?_
   obtain⟨k,hk,e2⟩:=Xy z;rw[<-e2,(i7 k (by lia)).1]at hb;cases hb
  refine EJ (σ':=[some (.ref A),some (.ref C),some (.ref B),some (.ref D),some (.int T.lo),some (.int T.hi),some (.int T.st),some (.ref Z),some (.ref O),none]) rfl ?_;refine⟨D,_,rfl,.inr (Ae.of (s4 _ _ hD)),?_⟩;rw[Y0];refine⟨_,rfl,by lia,by lia,?_⟩;rw[show((T.ds.length:Int)).toNat=T.ds.length by lia];refine Em (n:=T.ds.length) (λi σ G=>(∃x9,σ=[some (.ref A),some (.ref C),some (.ref B),some (.ref D),some (.int T.lo),some (.int T.hi),some (.int T.st),some (.ref Z),some (.ref O),x9])/\Hk O I H4 G/\∃f ms,Ga G Z O I f ms/\Gr T f ms/\∀k,k<i->T.lo<=ms.getD k 0) ⟨⟨_,rfl⟩,λb o e _ _=>e,_,_,j7,XA fl,λk hk=>absurd hk (aR _)⟩ (λi σ G hi hP=>?_) fun σ G hP=>?_
  .obtain⟨⟨x9,rfl⟩,i4,f,ms,fi,gr,lo⟩:=hP;rw [show(0+(i:Int))=(i:Int) by lia];have j2:∀ {f ms},Gr T f ms->i<ms.length:=λg=>by rw [g.lm];exact hi
   refine⟨λn σ G=>σ=[some (.ref A),some (.ref C),some (.ref B),some (.ref D),some (.int T.lo),some (.int T.hi),some (.int T.st),some (.ref Z),some (.ref O),some (.int (i:Int))]/\Hk O I H4 G/\∃f ms,Ga G Z O I f ms/\Gr T f ms/\(∀k,k<i->T.lo<=ms.getD k 0)/\n=(T.lo-ms.getD i 0).toNat,⟨_,rfl,i4,f,ms,fi,gr,lo,rfl⟩,λn σ G hW=>?_⟩;obtain⟨rfl,i4,f,ms,fi,gr,lo,rfl⟩:=hW;refine⟨O,_,(i:Int),.int (ms.getD i 0),rfl,rfl,Al.of fi.m,Eg (j2 gr),?_⟩
   by_cases c:ms.getD i 0<T.lo
   .show if decide (ms.getD i 0<T.lo)=true then _ else _
    rw[Z1 (Zv c)];have sG:=own i4;refine⟨fun σ G'=>σ=[some (.ref A),some (.ref C),some (.ref B),some (.ref D),some (.int T.lo),some (.int T.hi),some (.int T.st),some (.ref Z),some (.ref O),some (.int (i:Int))]/\Hk O I H4 G'/\∃f' i0,Ga G' Z O I f' i0/\Gr T f' i0/\(∀k,k<i->T.lo<=i0.getD k 0)/\ms.getD i 0<i0.getD i 0,fun σ' G' hN=>?_,?_⟩
    .obtain⟨e1,e2,f',i0,i9,j0,j6,lt⟩:=hN;exact⟨_,by lia,e1,e2,f',i0,i9,j0,j6,rfl⟩
    .refine⟨p,T,i,f,ms,I,fl,lh,no,rfl,Aa.ev (Ev.same sG) _ _ r,fi,gr,j2 gr,c,λG' f' i0 i9 j0 lt mono l6=>⟨rfl,λb o e n1 n2=>l6 b o (i4 b o e n1 n2) n1 n2,f',i0,i9,j0,λk hk=>et (lo k hk) (mono k (by rw[gr.lm];lia)),lt⟩⟩
   .show if decide (ms.getD i 0<T.lo)=true then _ else _
    rw[YY (by rw[ZC c];exact YZ)];refine⟨⟨_,rfl⟩,i4,f,ms,fi,gr,λk hk=>?_⟩
    by_cases e:k=i
    .rw[e];lia
    .exact lo k (by lia)
  obtain⟨⟨x9,rfl⟩,i4,f,ms,fi,gr,lo⟩:=hP;have sG:=own i4;have lf:=gr.lf;refine⟨Z,rfl,⟨_,Al.of fi.a⟩,C3 (xs:=I.map V.ref) (λj J G'=>Ab G G'/\Ad p G' ((f.take j).map AS) J) (by rw[Y0];lia) ⟨Ab.refl _,.nil⟩ (λj J G' h=>?_) (λj J G' _ h=>Al.of (h.1 _ _ fi.a)) (λj x J G' hx h=>?_) λJ G' h=>?_⟩
  .have:=h.2.len;rw[Y0,Za]at this;lia
  .rw[YU]at hx;have hj:j<I.length:=by
    cases z:I[j]? with
    |none=>rw[z]at hx;cases hx
    |some ra=>exact(Y3.mp z).1
   have ex:x= .ref (I.getD j 0):=by
    rw[Y6 hj]at hx;rw[Y7,Y6 hj];exact(Zb hx).symm
   subst ex;refine⟨trivial,λ_=>⟨I.getD j 0,_,rfl,.inl ⟨Al.of (h.1 _ _ (fi.r j hj)),λt ht=>?_⟩⟩,λz=>by cases z⟩;have nt:=Ab.new (o:= .tup ((f.getD j []).map V.int)) ht;have gj:f[j]? =some (f.getD j []):=by rw[Y7,Y6 (by lia)];rfl
   refine⟨h.1.trans nt,?_⟩;rw[AY gj,YW];exact Ad.append (Ad.ev (Ev.same nt) _ _ h.2) (.cons (Aa.row Ag) .nil)
  .intro L hL;refine⟨L,_,rfl,.inl ⟨Al.of Ag,λt ht=>?_⟩⟩;have nL:=Ab.new (o:= .lst J) hL;have nt:=Ab.new (o:= .tup J) ht;have rs:=h.2;rw[Y0,Z0 (by lia)]at rs;refine q t _ f ms (sG.trans (h.1.trans (nL.trans nt))) gr (λk hk=>lo k (by rw[<-gr.lm];exact hk)) ?_;exact Aa.tup Ag (Ad.ev (Ev.same (nL.trans nt)) _ _ rs)
end
section
inductive LP(T:TM):yP->Prop
 |short {q:Nat×Nat} (h:BU T=some q):LP T (.tuple [.str "short",.int q.1,.int q.2])
 |fired {f:yZ}{ms:yV}{c:Int}{ps:yV} (no:BU T=none) (g:Gr T f ms) (lo:∀k,k<ms.length->T.lo<=ms.getD k 0) (hf:c.natAbs<=100000):LP T (.tuple [.str "fired",.int c,FD f,AS ps])
def JL:Sp:=λz H Q _=>zN (λv u=>∃p P S,PL.ok P/\SY.ok S P.bs.length/\Aa p H P.d v/\Aa p H S.d u/\∀x g d,Ab H g->LP (terms P S) d->Aa p g d x->Q x g) z
def XF(F:Df K mg "cheapest" waL ["plant","story"])(T:Tx mg)(J:Fn P w K mg base 3 "highest_floor" ["terms"] JH)(O:Fn P w K mg base 3 "least_firing" ["terms"] JK)(i4:Fn P w K mg base 2 "least_stretch" ["terms"] GZ)(i0:Fn P w K mg base 10 "terms_of" ["plant","story"] GY):Fn P w K mg base 11 "cheapest" ["plant","story"] JL:=by
 k_dat ⟨["plant","story","terms","stretch","coal","prices"],vs,I⟩"g"
 refine⟨_,(Ai (zD 2 (zA i0 I (Ar (cy 0) (cy 1)))) (Ai (zD 3 (zA i4 I (Ah (cy 2)))) (Ai (A1 (AU QL (cy 3) EL (AV _)) (An (Av (Ay Gy (Cu (Ah Ax)) (cy 3)))) AZ) (Ai (Bb (zA J I (Ah (cy 2))) (zF 4 5)) (An (Av (Cu (C6 Ax (cy 4) (zA O I (Ah (cy 2))) (cy 5))))))))),?_⟩;k_dat 0"u"
 .rename_i v u;obtain⟨p,P,S,ok,so,r,ru,q⟩:=h;refine⟨p,P,S,ok,so,r,ru,λtv H1 s1 rt=>?_⟩;have fl:=Uf ok so;refine⟨p,terms P S,fl.ok,rt,λx H2 Z g=>?_⟩;have G:=s1.trans Z;cases z:BU (terms P S) with
  |none=>
   rw[z]at g;have eu:x= .non:=by unfold K7 at g;unfold Aa at g;exact g
   subst eu;refine⟨rfl,⟨λc=>by simp at c,λ_=>?_⟩⟩;refine⟨p,terms P S,fl,Aa.ev (Ev.same Z) _ _ rt,λy H3 c ps D ry hf=>?_⟩;obtain⟨a,b,rfl,ha,hb⟩:=Aa.tailShape ry;refine⟨a,_,rfl,Ae.of ha,rfl,_,_,rfl,_,_,rfl,rfl,?_⟩;refine⟨p,terms P S,fl,(show P.lo<=P.hi from et ok.ls ok.sh),z,Aa.ev (Ev.same (Z.trans D)) _ _ rt,λA H4 f ms s4 gr lo rf=>λt H5 L k5=>?_⟩;exact q (.ref t) H5 _ (G.trans (D.trans (s4.trans L))) (.fired z gr lo hf) (Aa.tup k5 (.cons Aa.str (.cons Aa.int (.cons (Aa.ev (Ev.same L) _ _ rf) (.cons (Aa.row ((s4.trans L) _ _ hb)) .nil)))))
  |some s0=>
   rw[z]at g;obtain⟨A,eA,hA⟩:=Aa.pair g;subst eA;refine⟨rfl,⟨λ_=>?_,λc=>by simp at c⟩⟩;refine λt1 H3 D k3=>⟨t1,A,[.str "short"],_,rfl,rfl,k3,D _ _ hA,by simp,λt4 H4 s4 k4=>?_⟩
   exact q (.ref t4) H4 _ (G.trans (D.trans s4)) (.short z) (Aa.tup k4 (.cons Aa.str (.cons Aa.int (.cons Aa.int .nil))))
end
section
variable{S:SY}{F:yZ}{n:Int}{p L:yQ}{H H':Hp}{xs:List V}{Fs:List FL}{α:Type}{first:Str}{Q:VK}{E:XK}
def Pf{l:yV}{B:Int}(h:∀i∈l,0<=i/\i<=B):0<=l.sum/\l.sum<=B * l.length:=by
 induction l with
 |nil=>exact⟨ZP _,by simp⟩
 |cons a l ih=>
  have g:=h a Z9;have z:=ih λi hi=>h i (Z3 _ hi)
  rw[bP,ZA];have e:B *((l.length+1:Nat):Int)=B * l.length+B:=by rw[eQ,Int.mul_add];simp
  lia
def XG{P:PL}(ok:P.ok)(so:S.ok P.bs.length)(fo:FOk P S F):∀i∈Ct P F,0<=i/\i<=72:=λi hi=>by
 unfold Ct at hi;obtain⟨b,G,rfl⟩:=Zg.mp hi;have I:=am.mp G;have:=Pf (l:=F.map λr=>r.getD b 0) (B:=9) λx g=>by
  obtain⟨r,z,rfl⟩:=Zg.mp g;obtain⟨D,J⟩:=FOk.bd9 ok fo r z;exact D _ (Y8 (K0 (by lia)))
 rw[Y0,fo.len]at this;have:=so.x8;lia
def XH{P:PL}(ok:P.ok)(so:S.ok P.bs.length)(fo:FOk P S F):0<=coal P F/\coal P F<10000:=by
 unfold coal;have:=Pf (l:=((Ct P F).zip P.bs).map λq=>q.1 * q.2.2) (B:=72 * 9) λx D=>by
  obtain⟨q,g,rfl⟩:=Zg.mp D;have z:=XG ok so fo q.1 (bB g).1;have G:=ok.b q.2 (bB g).2;exact⟨Int.mul_nonneg z.1 (by lia),Int.mul_le_mul z.2 G.2.2.2 (by lia) (by lia)⟩
 rw[Y0,dQ]at this;have b4:=ok.b4;lia
abbrev BP:=Sum Str (yV)
def LQ:BP->List V
 |.inl t=>[.str t]
 |.inr ns=>ns.map V.int
def JM(w:Str):Int:=(((List.range 100).find? fun(n:Nat)=>nT (n:Int)==w).getD 0:Nat)
def XJ:∀n:Nat,n<100->JM (nT (n:Int))=(n:Int):=by decide+kernel
def numbersL:List (Str×Int):=[("stoke",3),("bank",1),("undo",0),("least",0),("show",0),("main",0),("falls",0),("coal",0),("stretch",0)]
def DO(s:Str):Option Int:=(numbersL.find? λp=>decide (p.1=s)).map (·.2)
def JN:List (AL×V):=numbersL.map λp=>(.inr p.1,.int p.2)
def LR(s:Str):Do JN (.inr s)=(DO s).map V.int:=by
 unfold Do JN DO;rw[List.find?_map];have e:((λkv:AL×V=>decide (kv.1=Sum.inr s)) ∘λp:Str×Int=>((Sum.inr p.1:AL),V.int p.2))=λp=>decide (p.1=s):=funext λp=>Mm p.1 s
 rw[e];cases numbersL.find? λp=>decide (p.1=s)<;>rfl
def LW(fs:List yQ):List (AL×V):=[(.inr "stoke",.ref (fs.getD 0 0)),(.inr "bank",.ref (fs.getD 1 0)),(.inr "fire",.ref (fs.getD 2 0)),(.inr "undo",.ref (fs.getD 3 0)),(.inr "least",.ref (fs.getD 4 0)),(.inr "show",.ref (fs.getD 5 0)),(.inr "main",.ref (fs.getD 6 0)),(.inr "falls",.ref (fs.getD 7 0)),(.inr "coal",.ref (fs.getD 8 0)),(.inr "stretch",.ref (fs.getD 9 0))]
def BE(t:Str):Option (Str×BP):=
 if (B8 t " ").1=("fire" :Str)/\(B8 t " ").2.1.length≠0 then some ("fire",.inl (B8 t " ").2.2)
 else match DO (B8 t " ").1 with
  |none=>none
  |some k=>if (((AF t " ").drop 1).length:Int)=k/\((AF t " ").drop 1).all (Bx 99)=true then some ((B8 t " ").1,.inr (((AF t " ").drop 1).map JM)) else none
def CQ(d:yP):Option (Str×BP):=match d with | .str t=>BE t | _=>none
def Ff(first:Str)(g:BP):Prop:=(first=("fire" :Str)/\∃t,g= .inl t/\t.length<=200000)\/ ∃k ns,DO first=some k/\g= .inr ns/\(ns.length:Int)=k/\∀n∈ns,0<=n/\n<=99
def Pg{w:Str}(h:Bx 99 w=true):∃n:Nat,n<100/\w=nT (n:Int)/\JM w=(n:Int):=by
 obtain⟨n,g,rfl⟩:=LD h;exact⟨n,by lia,rfl,XJ n (by lia)⟩
def XL(t y:Str):(B8 t y).2.2.length<=t.length:=by
 unfold B8;split
 .exact strSub_length_le ..
 .exact Zq _
def XM{t f:Str}{g:BP}(h:BE t=some (f,g))(G:t.length<=200000):Ff f g:=by
 unfold BE at h;split at h
 .cases h;exact .inl ⟨rfl,_,rfl,Ze (XL _ _) G⟩
 .split at h
  .cases h
  .rename_i k D;split at h
   .rename_i c;cases h;refine .inr ⟨k,_,D,rfl,by rw[Y0];exact c.1,λn I=>?_⟩;obtain⟨w,z,rfl⟩:=Zg.mp I;obtain⟨m,J,_,e⟩:=Pg (Zx.mp c.2 w z);rw[e];lia
   .cases h
def LY(P:PL)(S:SY)(F:FL)(k:Nat):Str:=if k=0 then"-" else nT (A5 P S F k)
def JO(P:PL)(S:SY)(F:FL)(k:Nat):Str:=if k=0 then"none" else Bw ((List.range k).map λi=>A5 P S F (i+1))
def LZ:Option (Int×Int)->Str
 |none=> "-"
 |some q=>Bw [q.1,q.2]
def L5:Option (Nat×Nat)->Str
 |none=> "-"
 |some q=>Bw [(q.1:Int),(q.2:Int)]
inductive Bl(P:PL)(S:SY)(Fs:List FL)(F:FL):Str->BP->Str->List FL->Prop
 |stoke {i j:Nat}{x:Int}{k:Nat}{sg:Option (Int×Int)}:i<S.ex.length->j<P.bs.length->0<=x->x<=Ef P S i j->Run P S (BY F i j x) k sg->Bl P S Fs F "stoke" (.inr [(i:Int),(j:Int),x]) (LY P S (BY F i j x) k) (Fs++[BY F i j x])
 |bank {i:Nat}:i<S.ex.length->Bl P S Fs F "bank" (.inr [(i:Int)]) "ok" (Fs++[Hg F i])
 |fire {t:Str}{G:FL}:Cm (caps P S) (AF t "/")= .inr G->Bl P S Fs F "fire" (.inl t) "ok" (Fs++[G])
 |undo:1<Fs.length->Bl P S Fs F "undo" (.inr []) "ok" Fs.dropLast
 |«show»:Bl P S Fs F "show" (.inr []) (BW F) Fs
 |main {k:Nat}{sg:Option (Int×Int)}:Run P S F k sg->Bl P S Fs F "main" (.inr []) (JO P S F k) Fs
 |falls {k:Nat}{sg:Option (Int×Int)}:Run P S F k sg->Bl P S Fs F "falls" (.inr []) (LZ sg) Fs
 |coal:Bl P S Fs F "coal" (.inr []) (nT (coal P F)) Fs
 |stretch:Bl P S Fs F "stretch" (.inr []) (L5 (BU (terms P S))) Fs
 |least {c:Int}{G:FL}:FOk P S G->BU (terms P S)=none->Bl P S Fs F "least" (.inr []) (nT c) (Fs++[G])
inductive BZ(P:PL)(S:SY)(Fs:List FL):Str->BP->Sum Nat Int->Prop
 |hour {i j x:Int}:0<=i->¬i<S.ex.length->BZ P S Fs "stoke" (.inr [i,j,x]) (.inl 3)
 |boiler {i j x:Int}:0<=i->i<S.ex.length->0<=j->¬j<P.bs.length->BZ P S Fs "stoke" (.inr [i,j,x]) (.inl 4)
 |amount {i j:Nat}{x:Int}:i<S.ex.length->j<P.bs.length->Ef P S i j<x->BZ P S Fs "stoke" (.inr [(i:Int),(j:Int),x]) (.inl 15)
 |bank {i:Int}:0<=i->¬i<S.ex.length->BZ P S Fs "bank" (.inr [i]) (.inl 3)
 |fire {t:Str}{n:Int}:Cm (caps P S) (AF t "/")= .inl n->BZ P S Fs "fire" (.inl t) (.inr n)
 |undo:Fs.length=1->BZ P S Fs "undo" (.inr []) (.inl 16)
 |least:BU (terms P S)≠none->BZ P S Fs "least" (.inr []) (.inl 6)
structure Outs(ds:List yQ)(P:PL)(S:SY)(Fs:List FL)(F:FL)(first:Str)(ps:BP)(p L:yQ)(H:Hp)(Q:VK)(E:XK):Prop where
 no:∀i H',BZ P S Fs first ps (.inl i)->Ab H H'->E (.ref (ds.getD i 0)) none H'
 tx:∀n a H',BZ P S Fs first ps (.inr n)->Ab H H'->H a=none->H' a=some (.xd [("at",.int n)])->E (.ref (ds.getD 18 0)) (some a) H'
 ok:∀s Fs' xs' H',Bl P S Fs F first ps s Fs'->Ev L H H'->H' L=some (.lst xs')->Ad p H' (Fs'.map FD) xs'->Q (.str s) H'
inductive A7_(ds:List yQ)(CA:yQ)(first:Str)(H:Hp)(Q:VK)(E:XK)(W B:yQ):Prop
 |mk(p L P S v u xs Fs F ps:_)(_:Wat CA p H W L P S v u xs Fs)(_:xs.length<=90)(_:Fs[Fs.length-1]? =some F)(_:H B=some (.lst (LQ ps)))(_:Ff first ps)(_:Outs ds P S Fs F first ps p L H Q E)
def A7(ds:List yQ)(CA:yQ)(first:Str):Sp:=λvs H Q E=>xA (A7_ ds CA first H Q E) vs
inductive Gb_(H:Hp)(Q:VK)(a:yQ):Prop
 |mk(ns:yV)(_:(H a=some (.tup (ns.map V.int))\/H a=some (.lst (ns.map V.int))))(_:ns.length<=10)(_:(∀n∈ns,n.natAbs<10 ^ 31))(_:∀g,Ab H g->Q (.str (Bw ns)) g)
def Gb:Sp:=λz H Q _=>zJ (Gb_ H Q) z
def JP(CL:yQ):Sp:=λvs H Q E=>zK (λx=>∃ p d, Aa p H d x /\ (∀ t, d = .str t -> t.length <= 200000) /\ (CQ d = none -> ∀ H', Ab H H' -> E (.ref CL) none H') /\ ∀f ps b c H',CQ d=some (f,ps)->Ab H H'->H c=none->H' b=some (.tup [.str f,.ref c])->H' c=some (.lst (LQ ps))->Q (.ref b) H') vs
structure Gc(K:Fgx)(DA:yQ):Prop where
 cls:Cls K DA
 nW:NoAttr K DA "watch"
inductive Hm_(CA DA:yQ)(H:Hp)(Q:VK)(D:yQ)(v u:V):Prop
 |mk(p P S dx:_)(_:PL.ok P)(_:SY.ok S P.bs.length)(_:Aa p H P.d v)(_:Aa p H S.d u)(_:H D=some (.ins DA dx []))(_:∀W L B H',(∀b o,H b=some o->b≠D->H' b=some o)->(∃dx',H' D=some (.ins DA dx' [("watch",.ref W)]))->WAt CA H' W L v u->H L=none->H' L=some (.lst [.ref B])->Aa p H' (FD (By P S)) (.ref B)->Q .non H')
def Hm(CA DA:yQ):Sp:=λvs H Q _=>zU (Hm_ CA DA H Q) vs
inductive Fg_(ds:List yQ)(CA DA:yQ)(H:Hp)(Q:VK)(E:XK)(D:yQ)(x:V):Prop
 |mk(p L P S v u xs Fs F W d dx:_)(_:H D = some (.ins DA dx [("watch", .ref W)]))(_:Wat CA p H W L P S v u xs Fs)(_:xs.length <= 90)(_:Fs[Fs.length - 1]? = some F)(_:Aa p H d x)(_:(∀ t, d = .str t -> t.length <= 200000))(_:(CQ d=none->∀H',Ab H H'->E (.ref (ds.getD 17 0)) none H'))(_:∀f ps,CQ d=some (f,ps)->Outs ds P S Fs F f ps p L H Q E)
def Fg(ds:List yQ)(CA DA:yQ):Sp:=λvs H Q E=>zE (Fg_ ds CA DA H Q E) vs
def Eh{first:Str}{g:BP}{k:Int}(h:Ff first g)(z:first≠("fire" :Str))(D:DO first=some k):∃ns,g= .inr ns/\(ns.length:Int)=k/\∀n∈ns,0<=n/\n<=99:=by
 rcases h with⟨e,_⟩ | ⟨k',ns,e,rfl,hl,h9⟩
 .exact absurd e z
 .rw[D]at e;cases e;exact⟨ns,rfl,hl,h9⟩
def XN{g:BP}(h:Ff "fire" g):∃t,g= .inl t/\t.length<=200000:=by
 rcases h with⟨_,t,rfl,hl⟩ | ⟨k',ns,e,_⟩
 .exact⟨t,rfl,hl⟩
 .rw[show DO "fire"=none from by decide]at e;cases e
def L6{a:Int}(h:AT (.int a) 0 (n-1)=false)(h0:0<=a):¬a<n:=λz=>by
 unfold AT at h;dsimp only at h;rw[Zv h0,aE,Zv (by lia)]at h;cases h
def XO{a:Int}(h:AT (.int a) 0 (n-1)=true):0<=a/\a<n:=by
 unfold AT at h;dsimp only at h;rw[Zh]at h;have g:=Z7 h.1;have z:=Z7 h.2;lia
def XQ{a:Int}(h:AT (.int a) 0 n=false)(h0:0<=a):n<a:=by
 unfold AT at h;dsimp only at h;rw[Zv h0,aE]at h;have:=Zw h;lia
def Wat.sameD{g:yQ}{W:yQ}{P:PL}{v u:V}(h:Wat g p H W L P S v u xs Fs)(s:Ab H H'):Wat g p H' W L P S v u xs Fs:=by
 obtain⟨D,z⟩:=h.at_;exact⟨h.ok,h.so,Aa.ev (Ev.same s) _ _ h.rv,Aa.ev (Ev.same s) _ _ h.ru,⟨D,s _ _ z⟩,s _ _ h.lst,Ad.ev (Ev.same s) _ _ h.reps,h.fok⟩
def Ph(g:List FL):E9 (g.map FD)=true:=CN λd hd=>by
 obtain⟨G,_,rfl⟩:=Zg.mp hd;exact Dq G
def JQ{F:FL}{x:V}(z:TEv H H')(r:Ad p H (Fs.map FD) xs)(g:Aa p H' (FD F) x):Ad p H' ((Fs++[F]).map FD) (xs++[x]):=by
 rw[YW];exact Ad.append (Ad.tev z _ _ (Ph Fs) r) (.cons g .nil)
def Pi{P:PL}{D:List Str}{G:FL}(ok:P.ok)(h:Cm (caps P S) D= .inr G):FOk P S G:=by
 unfold Cm at h;split at h
 .cases h
 .rename_i hn;have all:∀j,j<D.length->∃r,BO (caps P S) D j=some r:=λj Z=>by
   have:=List.find?_eq_none.mp hn j (am.mpr Z);cases z:BO (caps P S) D j with
   |none=>rw[z]at this;exact absurd rfl this
   |some r=>exact⟨r,rfl⟩
  split at h
  .cases h
  .rename_i hl;cases h;have i0:D.length=S.ex.length:=by
    rw[Bs]at hl
    by_cases z:D.length=0
    .lia
    .obtain⟨r,g⟩:=all (D.length-1) (by lia);have:=(Hc g).1;rw[Bs]at this;lia
   have row:∀i r,((List.range D.length).map λi=>(BO (caps P S) D i).getD [])[i]? =some r->i<S.ex.length/\CP (Ba P.bs S.fs i) (AF (D.getD i Str.empty) " ")=true/\r=(AF (D.getD i Str.empty) " ").map Fd:=λi r g=>by
    rw[YU]at g;obtain⟨j,Z,rfl⟩:=Zi.mp g;obtain⟨I,J⟩:=Y3.mp Z;rw[ZU]at I;rw[List.getElem_range]at J;subst J;obtain⟨r,g⟩:=all i I;obtain⟨O,h2,h3⟩:=Hc g;have e:(caps P S).getD i []=Ba P.bs S.fs i:=by rw[Y7,Br (by rw[Bs]at O;exact O)];rfl
    rw[e]at h2;rw[g];exact⟨by rw[Bs]at O;exact O,h2,h3⟩
   refine⟨by rw[Y0,ZU,i0],λi r g=>?_,λi r j x c g hx hc=>?_⟩
   .obtain⟨hi,ho,rfl⟩:=row i r g;rw[Y0,LE ho];exact(B7 (S:=S) ok _ (Y8 (Br hi))).2
   .obtain⟨hi,ho,rfl⟩:=row i r g;rw[YU]at hx;obtain⟨w,hw,rfl⟩:=Zi.mp hx;obtain⟨n,hn,_,e,c',L,i4⟩:=O2 ho (B7 (S:=S) ok _ (Y8 (Br hi))).1 hw;rw[hc]at L;cases L;rw[e];lia
theorem Ad.takeB:∀ {ds:List yP}{xs:List V} (i:Nat),Ad p H ds xs->Ad p H (ds.take i) (xs.take i)
 |[],xs,i,r=>by unfold Ad at r;subst r;simp;exact .nil
 |d::ds,xs,0,r=>by simp;exact .nil
 |d::ds,xs,i+1,r=>by
  unfold Ad at r;obtain⟨x,t,rfl,g,rt⟩:=r;rw[List.take_succ_cons,List.take_succ_cons];exact .cons g (Ad.takeB i rt)
def XR{l:List α}(h:l.length=3):∃a b c,l=[a,b,c]:=by
 match l,h with
 |[a,b,c],_=>exact⟨a,b,c,rfl⟩
def XS{l:List α}(h:l.length=1):∃a,l=[a]:=by
 match l,h with
 |[a],_=>exact⟨a,rfl⟩
theorem Pj{d:yP}:∀ {ds:List yP},d∈ds->D0 d<=Ey ds
 |e::ds,h=>by
  unfold Ey;rcases Z4.mp h with rfl | h
  .lia
  .have:=Pj h;lia
def XT{n k:Nat}{i:Int}{ds:List yP}(h:EV n k (.tuple ds))(z:n<=1000000)(hi: .int i∈ds):i.natAbs<10 ^ 31:=by
 have w:=h.w;unfold D0 at w;have g:=Pj hi;unfold D0 at g
 by_cases c:i.natAbs<10 ^ 31
 .exact c
 .rw[YY c]at g;have:(10:Nat) ^ 9=1000000000:=by decide
  lia
def XU:Bc xs (some 1) none=xs.drop 1:=by
 unfold Bc;rw[show(1:Int)=((1:Nat):Int) from rfl,HT.sIx_nat];show(xs.drop (min 1 xs.length)).take (xs.length-min 1 xs.length)=_;cases xs with
 |nil=>rfl
 |cons x xs=>
  rw[ZA,aP (by lia)];exact Z0 (by rw[bG,ZA];exact Y5 _)
def XV{a:Str}{k:Int}(h:DO a=some k):0<=k/\k<=3:=by
 unfold DO at h;obtain⟨p,g,rfl⟩:=Zi.mp h;exact(by decide:∀p∈numbersL,0<=p.2/\p.2<=3) p (bM g)
def XW{P:PL}{S:SY}{n:Nat}(so:S.ok n):∀q,BU (terms P S)=some q->q.1<8/\q.2<8:=λq h=>by
 unfold BU EZ at h;have g:=List.mem_of_mem_head? (by rw[h];rfl:q∈((Cz (terms P S).ds.length (terms P S).ds.length).filter λq=>Dl (terms P S) q.1 q.2).head?);obtain⟨z,D⟩:=K6 (Y5 _) _ (mem_filter.mp g).1;have l:(terms P S).ds.length=S.ex.length:=EA;have:=so.x8;lia
def Outs.same{ds:List yQ}{P:PL}{F:FL}{I:BP}(o:Outs ds P S Fs F first I p L H Q E)(s:Ab H H'):Outs ds P S Fs F first I p L H' Q E:=
 ⟨λi g r D=>o.no i g r (s.trans D),λn a g r D O Z=>o.tx n a g r (s.trans D) (s.free O) Z,λt z G g a e J r=>o.ok t z G g a ((Ev.same s).trans e) J r⟩
def XX{f:Str}{z:BP}(h:Ff f z):f∈(["fire","stoke","bank","undo","least","show","main","falls","coal","stretch"]:List Str):=by
 rcases h with⟨rfl,_⟩ | ⟨k,ns,e,_⟩
 .exact Z9 ..
 .unfold DO at e;obtain⟨q,g,_⟩:=Zi.mp e;have D:=bM g;have G:q.1=f:=by have:=List.find?_some g;simpa using this
  rw[<-G];exact Z3 _ ((by decide:∀q∈numbersL,q.1∈(["stoke","bank","undo","least","show","main","falls","coal","stretch"]:List Str)) q D)
def XY{P:PL}{f:yZ}{ms:yV}(g:Gr (terms P S) f ms):FOk P S f:=by
 have D:(terms P S).co.length=P.bs.length:=by show(P.bs.map (·.2)).length=_;rw[Y0]
 have z:(terms P S).ds.length=S.ex.length:=EA;have I:∀(i:Nat) (r:yV),f[i]? =some r->i<f.length/\f.getD i []=r:=λi r h=>⟨(Y3.mp h).1,by rw[Y7,h];rfl⟩
 refine⟨by rw[g.lf,z],λi r h=>?_,λi r j x c h J O=>?_⟩
 .obtain⟨hi,e⟩:=I i r h;have:=g.row i hi;rw[e,D]at this;exact this
 .obtain⟨hi,e⟩:=I i r h;have G:=g.row i hi;rw[e]at G;have L:j<(terms P S).co.length:=by rw[<-G];exact(Y3.mp J).1
  have b:=g.bd i j hi L;have Z:(terms P S).cs.getD i []=Ba P.bs S.fs i:=by
   show(caps P S).getD i []=_;rw[Y7,Br (by rw[<-z,<-g.lf];exact hi)];rfl
  rw[e,Z,Y7,J,Y7,O]at b;exact b
inductive Dsx(ds:List yQ)(Z:yQ)(first:Str)(vs:List V)(H:Hp)(Q:VK)(E:XK):Prop
 |mk(W B p L)(J:PL)(S:SY)(v u:_)(xs:List V)(g:_)(z:yZ)(I dx x:_)(_:vs=[.ref W,.ref B])(_:Wat Z p H W L J S v u xs g)(_:xs.length<=90)(_:g[g.length-1]? =some z)(_:H B=some (.lst (LQ I)))(_:Ff first I)(_:Outs ds J S g z first I p L H Q E)(_:H W=some (.ins Z dx (LF v u L)))(_:FOk J S z)(_:xs[xs.length-1]? =some x)(_:Aa p H (FD z) x)(_:g.length=xs.length)(_:1<=g.length)
def DP{ds:List yQ}{Z:yQ}{vs:List V}(h:A7 ds Z first vs H Q E):Dsx ds Z first vs H Q E:=by
 k_dat 0"u"
 .rename_i W B;obtain⟨p,L,J,S,v,u,xs,g,z,I,D,i0,O,hB,sh,o⟩:=h;obtain⟨dx,hW⟩:=D.at_;have fo:=D.fok z (Y8 O);obtain⟨x,hx,rx⟩:=LL D.reps O;have G:=D.reps.len;rw[Y0]at G;have i4:1<=g.length:=by
   have:=(Y3.mp O).1;lia
  exact⟨W,B,p,L,J,S,v,u,xs,g,z,I,dx,x,rfl,D,i0,O,hB,sh,o,hW,fo,hx,rx,G,i4⟩
structure Dc(P:yO)(w:yK)(K:Fgx)(mg:Str->yW)(NA SA:yQ)(fs:List yQ):Prop where
 g_NUMBERS:mg "NUMBERS"=some (.ref NA)
 g_SAYINGS:mg "SAYINGS"=some (.ref SA)
 gN:GD P w K NA JN
 gS:GD P w K SA (LW fs)
 f_say_stoke:mg "say_stoke"=some (.ref (fs.getD 0 0))
 f_say_bank:mg "say_bank"=some (.ref (fs.getD 1 0))
 f_say_fire:mg "say_fire"=some (.ref (fs.getD 2 0))
 f_say_undo:mg "say_undo"=some (.ref (fs.getD 3 0))
 f_say_least:mg "say_least"=some (.ref (fs.getD 4 0))
 f_say_show:mg "say_show"=some (.ref (fs.getD 5 0))
 f_say_main:mg "say_main"=some (.ref (fs.getD 6 0))
 f_say_falls:mg "say_falls"=some (.ref (fs.getD 7 0))
 f_say_coal:mg "say_coal"=some (.ref (fs.getD 8 0))
 f_say_stretch:mg "say_stretch"=some (.ref (fs.getD 9 0))
variable{M:yQ}{ds:List yQ}{CA DA NA SA:yQ}{fs:List yQ}
def X0(F:Df K mg "numbers_text" wb0 ["numbers"])(T:Tx mg):Fn P w K mg base 1 "numbers_text" ["numbers"] Gb:=by
 k_dat ["numbers"]"f"
 refine⟨_,(An (Av (CV K PySem.F.plainAttrs_str PySem.F.slot_str_join PySem.F.type_str_join FE Ax (Ah (AW ["number"] [none] rfl (Tm (Bu K (cy 0)) (Cf K (cy 0))) (AB.of rfl) (λ_ _ _ _=>(zC 0)) (λ_ _ _ _=>AR) (λ_ _ _ _=>(A6 DT rfl T.b_str Dh (Ah (cy 0))))))))),?_⟩;k_dat 0"u"
 .rename_i a;obtain⟨ns,J,i0,L,q⟩:=h;have O:=F8 (sep:=" ") (l:=ns.map nT) (B:=40) (λx I=>by
   obtain⟨n,Z,rfl⟩:=Zg.mp I;exact Sz (L n Z)) (by
    have e:(Str.ofString " ").length=1:=by decide
    rw[Y0,e];lia)
  have fin:∀(D:List V) g,Ab H g/\D=((ns.take (ns.map V.int).length).map nT).map V.str->∀m,g m=none->Tk (.str " ") [.ref m] (upd g m (.lst D)) Q:=λD g h m hm=>by
   refine⟨" ",m,ns.map nT,rfl,rfl,?_,O.1,O.2,q _ (h.1.trans (Ab.new hm))⟩;rw[Ag,h.2,Y0,Z0 (Y5 _)]
  have G:∀(k:Nat) (x:V) (D:List V) (g:Hp),(ns.map V.int)[k]? =some x->(Ab H g/\D=((ns.take k).map nT).map V.str)->∃n:Int,x= .int n/\n.natAbs.log2<1920/\Ab H g/\D++[V.str (nT n)]=((ns.take (k+1)).map nT).map V.str:=λk x D g I h=>by
   rw[YU]at I;obtain⟨n,Z,rfl⟩:=Zi.mp I;exact⟨n,rfl,Fw (L n (Y8 Z)),h.1,by rw[h.2,AY Z,YW,YW];rfl⟩
  refine⟨rfl,?_⟩;rcases J with J | J
  .refine .inl ⟨a,rfl,⟨_,Ae.of J⟩,BC (xs:=ns.map V.int) (λk D g=>Ab H g/\D=((ns.take k).map nT).map V.str) (by rw[Y0];lia) ⟨Ab.refl _,rfl⟩ (λk D g h=>by rw[h.2,Y0,Y0,Za];lia) (λk D g _ h=>Ae.of (h.1 _ _ J)) (λk x D g I h=>?_) (λD g h=>fin D g h)⟩;obtain⟨n,rfl,q1,q2,q3⟩:=G k x D g I h;exact⟨trivial,λ_=>⟨n,rfl,q1,q2,q3⟩,λz=>by cases z⟩
  .refine .inr ⟨a,rfl,⟨_,Al.of J⟩,C3 (xs:=ns.map V.int) (λk D g=>Ab H g/\D=((ns.take k).map nT).map V.str) (by rw[Y0];lia) ⟨Ab.refl _,rfl⟩ (λk D g h=>by rw[h.2,Y0,Y0,Za];lia) (λk D g _ h=>Al.of (h.1 _ _ J)) (λk x D g I h=>?_) (λD g h=>fin D g h)⟩;obtain⟨n,rfl,q1,q2,q3⟩:=G k x D g I h;exact⟨trivial,λ_=>⟨n,rfl,q1,q2,q3⟩,λz=>by cases z⟩
def X1(F:Df K mg "read_line" wb1 ["line"])(T:Tx mg)(C:Tc K mg M ds)(WK:Wc K CA)(DC:Dc P w K mg NA SA fs)(i6:Fn P w K mg base 1 "is_number_text" ["most","word"] G9):A2 P w K mg base 2 "read_line" ["line"] (JP (ds.getD 17 0)):=by
 have WC:=WK.cls;obtain⟨g,g_MOST_WRITTEN⟩:=T.g_MOST_WRITTEN;k_dat ["line","first","blank","text","words"]"f"
 refine⟨_,(Ai (A1 (BR (BM (AG Gx rfl T.b_isinstance aS (Ar (cy 0) (Fk (v:= .ty "str") rfl T.b_str Dh rfl))))) (An (D8 isDef_cx rfl C.n_NoLine C.x_NoLine rfl (Ah Ax))) AZ) (Ai (Bb (CV K PySem.F.plainAttrs_str PySem.F.slot_str_partition PySem.F.type_str_partition Vi (cy 0) (Ah Ax)) (zF 1 2 3)) (Ai (A1 (PW.pt (Gw (AU Dz (cy 1) Ax (AV _)) (HA (Vk (cy 2))))) (An (Av (Cu (Ar (cy 1) (Ci (Ah (cy 3))))))) AZ) (Ai (zD 4 (Eo (KT K) (CV K PySem.F.plainAttrs_str PySem.F.slot_str_split PySem.F.type_str_split Iw (cy 0) (Ah Ax)) (CY Ak) HL)) (Ai (A1 (PW.pt (DZ (AU (Vo DC.gN) (cy 1) (BA (v:= .ref NA) rfl DC.g_NUMBERS rfl) (by with_unfolding_all rfl)) (El (AU Kt (zG (cy 4)) (OJ DC.gN (BA (v:= .ref NA) rfl DC.g_NUMBERS rfl) (cy 1) (λ_ _=>rfl)) (AV _))))) (An (D8 isDef_cx rfl C.n_NoLine C.x_NoLine rfl (Ah Ax))) AZ) (Ai (A1 (BR (BM (AG (Ex rfl) rfl T.b_all ci (Ah (AW ["word"] [none] rfl (Cf K (cy 4)) (AB.of rfl) (λ_ _ _ _=>(zC 0)) (λ_ _ _ _=>AR) (λ_ _ _ _=>(zA i6 hr (Ar (BA (v:= .int 99) rfl g_MOST_WRITTEN ⟨g,rfl⟩) (cy 0))))))))) (An (D8 isDef_cx rfl C.n_NoLine C.x_NoLine rfl (Ah Ax))) AZ) (An (Av (Cu (Ar (cy 1) (AW ["word"] [none] rfl (Cf K (cy 4)) (AB.of rfl) (λ_ _ _ _=>(zC 0)) (λ_ _ _ _=>AR) (λ_ _ _ _=>(A6 N4 rfl T.b_int L2.boot_int (Ah (cy 0))))))))))))))),?_⟩;k_dat 0"u"
 .rename_i x;obtain⟨p,d,rd,ht,G,I⟩:=h;refine⟨_,Aa.ty rd,.inr (.inr (.inr (.inr rfl))),⟨λc=>?_,λc=>?_⟩⟩
  .refine⟨Bn rfl,G ?_ H (Ab.refl _)⟩;cases d<;>first | rfl | cases c
  .cases d<;>first | cases c | skip
   rename_i t;have tl:=ht t rfl;unfold Aa at rd;subst rd;have pD:CQ (.str t)=BE t:=rfl;rw[pD]at G I;unfold BE at G I;refine⟨rfl,t," ",rfl,rfl,by decide,Ze (Nat.le_add_right _ 2) (Hb tl),λu1 i8=>?_⟩;have bl:(B8 t " ").2.1.length<=sizeLine:=by
    have z:(200000:Nat)+2<=sizeLine:=by decide
    unfold B8;split
    .exact Ze (show(Str.ofString " ").length<=1 by decide) (by lia)
    .exact Zq _
   generalize B8 t " "=pt at G I bl ⊢;obtain⟨a,b,cc⟩:=pt;dsimp only at G I bl ⊢;have n1:=Ab.new (o:= .tup [V.str a,V.str b,V.str cc]) i8;have k1:upd H u1 (.tup [V.str a,V.str b,V.str cc]) u1=some (.tup [V.str a,V.str b,V.str cc]):=Ag;generalize upd H u1 (.tup [V.str a,V.str b,V.str cc])=H1 at n1 k1 ⊢;refine⟨u1,_,rfl,Ae.of k1,rfl,_,_,rfl,_,_,rfl,_,_,rfl,rfl,?_⟩;have e0:decide (V.str a=V.str (Str.ofString "fire"))=decide (a=Str.ofString "fire"):=by
    by_cases z:a=Str.ofString "fire"
    .rw[z];simp
    .rw[ZC z,ZC λy=>z (V.str.inj y)]
   by_cases hf:a=Str.ofString "fire" /\b.length≠0
   .rw [Z1 hf] at G I;obtain⟨rfl,hb⟩:=hf;refine⟨rfl,⟨λ_=>⟨b,rfl,bl,⟨λ_=>?_,λc2=>?_⟩⟩,λc1=>?_⟩⟩
    .intro l H2 s2 hl k2 u2 H3 O k3;exact I _ _ u2 l H3 rfl (n1.trans (s2.trans O)) (n1.free hl) k3 (O _ _ k2)
    .exfalso
     have:(b.length:Int)=0:=by simpa using c2
     lia
    .rw[Zv rfl]at c1;cases c1
   .rw [YY hf] at G I;refine⟨rfl,⟨λc1=>⟨b,rfl,bl,⟨λc2=>?_,λ_=>?_⟩⟩,λ_=>⟨λz=>(by cases z),λ_=>?_⟩⟩⟩
    .exfalso
     rw[e0]at c1;refine hf ⟨Z7 c1,λz=>?_⟩;rw[z]at c2;simp at c2
    all_goals
     refine⟨rfl,t," ",rfl,rfl,by decide,Hb tl,λl hl=>⟨1,rfl,l,_,rfl,Al.of Ag,λl2 i4=>?_⟩⟩;have n2:=(Ab.new (o:= .lst ((AF t " ").map V.str)) hl).trans (Ab.new (o:= .lst (Bc ((AF t " ").map V.str) (some 1) none)) i4);have k2:upd (upd H1 l (.lst ((AF t " ").map V.str))) l2 (.lst (Bc ((AF t " ").map V.str) (some 1) none)) l2=some (.lst (((AF t " ").drop 1).map V.str)):=by rw[Ag,XU,map_drop]
     generalize upd (upd H1 l (.lst ((AF t " ").map V.str))) l2 (.lst (Bc ((AF t " ").map V.str) (some 1) none))=H2 at n2 k2 ⊢;generalize(AF t " ").drop 1=ws at G I k2;have s2:=n1.trans n2;cases hk:DO a with
     |none=>
      rw[hk]at G;refine⟨.inr a,rfl,rfl,⟨λ_=>⟨λ_=>⟨Bn rfl,G rfl H2 s2⟩,λz=>(by cases z)⟩,λz=>?_⟩⟩;rw[LR,hk]at z;cases z
     |some k=>
      rw[hk]at G I;dsimp only at G I;have k3:=XV hk;refine⟨.inr a,rfl,rfl,⟨λz=>?_,λ_=>⟨l2,_,rfl,.inl (Al.of k2),.inr a,.int k,rfl,?_,rfl,⟨λZ=>?_,λZ=>?_⟩⟩⟩⟩
      .rw[LR,hk]at z;cases z
      .rw[LR,hk];rfl
      .refine⟨Bn rfl,G (YY λz=>?_) H2 s2⟩;rw[Y0,z.1]at Z;rw[Zv rfl]at Z;cases Z
      .have lw:(ws.length:Int)=k:=by
        rw[Y0]at Z
        by_cases z:(ws.length:Int)=k
        .exact z
        .rw[ZC λy=>z (by injection y)]at Z;cases Z
       refine⟨l2,rfl,⟨_,Al.of k2⟩,C3 (xs:=ws.map V.str) (λi D J=>Ab H2 J/\D=((ws.take i).map (Bx 99)).map V.bl) (by rw[Y0];lia) ⟨Ab.refl _,rfl⟩ (λi D J h=>by rw[h.2,Y0,Y0,Za];lia) (λi D J _ h=>Al.of (h.1 _ _ k2)) (λi y D J hy h=>?_) (λD J h=>?_)⟩
       .rw[YU]at hy;obtain⟨w0,L,rfl⟩:=Zi.mp hy;refine⟨trivial,λ_=>⟨by decide,by decide,λb' i9 i7 i5=>⟨h.1.trans i5,?_⟩⟩,λz=>by cases z⟩;rw[h.2,AY L,YW,YW,i7];rfl
       .intro m hm;have O:=h.1.trans (Ab.new (o:= .lst D) hm);refine⟨m,ws.map (Bx 99),rfl,by rw [Ag,h.2,Y0,Z0 (Y5 _)],⟨λc5=>?_,λc5=>?_⟩⟩
        .refine⟨Bn rfl,G (YY λz=>?_) _ (s2.trans O)⟩;have:((ws.map (Bx 99)).all id)=true:=by rw [fk];exact z.2
         rw[this]at c5;cases c5
        .have al:ws.all (Bx 99)=true:=by
          have e:((ws.map (Bx 99)).all id)=ws.all (Bx 99):=by rw[fk];rfl
          rw[<-e];revert c5;cases(ws.map (Bx 99)).all id<;>simp
         rw[Z1 ⟨lw,al⟩]at I;have k4:=O _ _ k2;generalize upd J m (.lst D)=H4 at O k4 ⊢;refine⟨l2,rfl,⟨_,Al.of k4⟩,C3 (xs:=ws.map V.str) (λi D J=>Ab H4 J/\D=((ws.take i).map JM).map V.int) (by rw[Y0];lia) ⟨Ab.refl _,rfl⟩ (λi D J h=>by rw[h.2,Y0,Y0,Za];lia) (λi D J _ h=>Al.of (h.1 _ _ k4)) (λi y D J hy h=>?_) (λD J h=>?_)⟩
         .rw[YU]at hy;obtain⟨w0,L,rfl⟩:=Zi.mp hy;obtain⟨n,hn,rfl,en⟩:=Pg (Zx.mp al w0 (Y8 L));refine⟨trivial,λ_=>⟨n,rfl,by lia,by lia,h.1,?_⟩,λz=>by cases z⟩;rw[h.2,AY L,YW,YW,bY,bY,en]
         .intro m2 i0 u2 H5 s5 k5;have n6:=Ab.new (o:= .lst D) i0;have s6:=(s2.trans O).trans (h.1.trans n6);refine I _ _ u2 m2 H5 rfl (s6.trans s5) (((s2.trans O).trans h.1).free i0) k5 (s5 _ _ ?_);rw[Ag,h.2,Y0,Z0 (Y5 _)];rfl
def X2(F:Df K mg "say_stoke" waQ ["watch","parts"])(T:Tx mg)(C:Tc K mg M ds)(WK:Wc K CA)(i0:Mt (Bm P w) P w K mg base 14 CA "stoke" ["self","hour","boiler","amount"] (JE ds CA)):A2 P w K mg base 15 "say_stoke" ["watch","parts"] (A7 ds CA "stoke"):=by
 have WC:=WK.cls;obtain⟨D,g_NOTHING⟩:=T.g_NOTHING;k_dat ["watch","parts","hour","boiler","amount","main"]"f"
 refine⟨_,(Ai (Bb (cy 1) (Vu K (n:=3) (Aj (zC 2) (Aj (zC 3) (Aj (zC 4) AJ))))) (Ai (zD 5 (Cj isDef_cx.passes WC i0 (hr.mono (by decide)) (cy 0) (AH (cy 2) (cy 3) (cy 4)))) (An (Av (DE (AU Ku (cy 5) EL (AV _)) (BA (v:= .str "-") rfl g_NOTHING ⟨D,rfl⟩) (A6 DT rfl T.b_str Dh (Ah (cy 5)))))))),?_⟩
 .obtain⟨W,B,p,L,P0,S,v,u,xs,Fs,F0,ps,dx,x,rfl,J,i4,hF,hB,sh,o,hW,fo,hx,rx,i6,i5⟩:=DP h;obtain⟨ns,rfl,hl,G⟩:=Eh sh (by decide) (k:=3) (by decide);obtain⟨a,b,c,rfl⟩:=XR (show ns.length=3 by lia);have Z:=(G a (by simp)).1;have b0:=(G b (by simp)).1;have c0:=(G c (by simp)).1;refine⟨B,_,rfl,Al.of hB,rfl,_,_,rfl,_,_,rfl,_,_,rfl,rfl,?_⟩;refine⟨W,dx,_,rfl,hW,rfl,p,L,P0,S,v,u,xs,Fs,F0,.int a,.int b,.int c,J,by lia,hF,Aa.int,Aa.int,Aa.int,λw1 I O=>o.no 3 I (.hour Z (L6 w1 Z)) O,λw1 w2 I O=>o.no 4 I (.boiler Z (XO w1).2 b0 (L6 w2 b0)) O,λi j ei ej hi hj=>⟨λw3 I O=>?_,λx ex x0 x1 B' k sg I run e hL rB=>?_⟩⟩
  .cases ei;cases ej;exact o.no 15 I (.amount hi hj (XQ w3 c0)) O
  .cases ei;cases ej;cases ex;have rr:=JQ (λb ys g=>e.tup g) J.reps rB;have fin:=o.ok _ _ _ I (.stoke hi hj x0 x1 run) e hL rr;unfold LY at fin;have mb:=GF J.ok (F:=BY F0 i j c) (S:=S) (k:=k) run.up;generalize elv:Fe P0 S (BY F0 i j c) k=lv;unfold Fe at elv
   by_cases hk:k=0
   .rw[Z1 hk]at elv fin;subst elv;exact⟨rfl,⟨λ_=>fin,λz=>by cases z⟩⟩
   .rw[YY hk]at elv fin;subst elv;refine⟨rfl,⟨λz=>(by cases z),λ_=>⟨_,rfl,?_,fin⟩⟩⟩;have h4:=J.ok.h4;have l0:=J.ok.lo0;exact Fw (YX (show _<1000 by lia) (by decide))
def X4(F:Df K mg "say_bank" waR ["watch","parts"])(T:Tx mg)(C:Tc K mg M ds)(WK:Wc K CA)(I:Mt (Bm P w) P w K mg base 4 CA "bank" ["self","hour"] (JD ds CA)):A2 P w K mg base 5 "say_bank" ["watch","parts"] (A7 ds CA "bank"):=by
 have WC:=WK.cls;obtain⟨z,g_DONE⟩:=T.g_DONE;k_dat ["watch","parts"]"f"
 refine⟨_,(Ai (A8 (Cj isDef_cx.passes WC I (hr.mono (by decide)) (cy 0) (Ah (AI (Bj K) (cy 1) Ak (λ_ _=>rfl))))) (An (Av (BA (v:= .str "ok") rfl g_DONE ⟨z,rfl⟩)))),?_⟩
 .obtain⟨W,B,p,L,P0,S,v,u,xs,Fs,F0,ps,dx,x,rfl,G,i0,hF,hB,sh,o,hW,fo,hx,rx,i5,i4⟩:=DP h;obtain⟨ns,rfl,hl,O⟩:=Eh sh (by decide) (k:=1) (by decide);obtain⟨a,rfl⟩:=XS (show ns.length=1 by lia);have Z:=(O a (by simp)).1;refine⟨W,dx,_,rfl,hW,rfl,B,_,0,.int a,rfl,rfl,Al.of hB,rfl,p,L,P0,S,v,u,xs,Fs,F0,.int a,G,by lia,hF,Aa.int,λw1 H' s'=>o.no 3 H' (.bank Z (L6 w1 Z)) s',λi ei hi B' H1 J rB=>?_⟩;cases ei;have D:=J _ _ G.lst;have tv:TEv H1 (upd H1 L (.lst (xs++[.ref B']))):=TEv.upd D;exact o.ok _ _ _ _ (.bank hi) ((Ev.same J).trans (Ev.pen D)) Ag (JQ (λb ys g=>tv _ _ (J _ _ g)) G.reps (Aa.tev tv _ _ (Dq _) rB))
def X6(F:Df K mg "say_fire" waS ["watch","parts"])(T:Tx mg)(C:Tc K mg M ds)(WK:Wc K CA)(i4:Mt (Bm P w) P w K mg base 12 CA "take_over" ["self","firing"] (Hi ds CA))(i0:A2 P w K mg base 10 "firing_read" ["plant","story","text"] (He (ds.getD 18 0))):A2 P w K mg base 13 "say_fire" ["watch","parts"] (A7 ds CA "fire"):=by
 have WC:=WK.cls;obtain⟨I,g_DONE⟩:=T.g_DONE;k_dat ["watch","parts"]"f"
 refine⟨_,(Ai (A8 (Cj isDef_cx.passes WC i4 (hr.mono (by decide)) (cy 0) (Ah (FF isDef_cx i0 (hr.mono (by decide)) rfl (AH (Bf (cy 0) rfl) (Bf (cy 0) rfl) (AI (Bj K) (cy 1) Ak (λ_ _=>rfl))))))) (An (Av (BA (v:= .str "ok") rfl g_DONE ⟨I,rfl⟩)))),?_⟩
 .obtain⟨W,B,p,L,P0,S,v,u,xs,Fs,F0,ps,dx,x,rfl,J,i5,hF,hB,sh,o,hW,fo,hx,rx,i7,i6⟩:=DP h;obtain⟨t,rfl,tl⟩:=XN sh;refine⟨W,dx,_,rfl,hW,rfl,W,CA,dx,_,v,rfl,hW,WC,WK.nP,rfl,W,CA,dx,_,u,rfl,hW,WC,WK.nS,rfl,B,_,0,.str t,rfl,rfl,Al.of hB,rfl,?_⟩;refine⟨p,P0,S,.str t,J.ok,J.so,J.rv,J.ru,Aa.str,λt' e=>by cases e;exact tl,λn H' a D O ha hx=>o.tx n a H' (.fire D) O ha hx,λG H' b D O rG=>?_⟩;have fG:=Pi J.ok D;refine⟨p,L,P0,S,v,u,xs,Fs,FD G,J.sameD O,by lia,rG,λz=>?_,λ_ H2 s2=>?_⟩
  .rw[fireB_is.mpr ⟨G,rfl,fG⟩]at z;cases z
  .have Z:=s2 _ _ (O _ _ J.lst);have tv:TEv H2 (upd H2 L (.lst (xs++[.ref b]))):=TEv.upd Z;exact o.ok _ _ _ _ (.fire D) ((Ev.same (O.trans s2)).trans (Ev.pen Z)) Ag (JQ (λb ys g=>tv _ _ ((O.trans s2) _ _ g)) J.reps (Aa.tev tv _ _ (Dq _) (Aa.ev (Ev.same s2) _ _ rG)))
def X8(F:Df K mg "say_undo" waT ["watch","parts"])(T:Tx mg)(C:Tc K mg M ds)(WK:Wc K CA)(J:Mt (Bm P w) P w K mg base 1 CA "undo" ["self"] (JC ds CA)):A2 P w K mg base 2 "say_undo" ["watch","parts"] (A7 ds CA "undo"):=by
 have WC:=WK.cls;obtain⟨g,g_DONE⟩:=T.g_DONE;k_dat ["watch","parts"]"f"
 refine⟨_,(Ai (A8 (Eb isDef_cx.passes WC J (hr.mono (by decide)) (cy 0))) (An (Av (BA (v:= .str "ok") rfl g_DONE ⟨g,rfl⟩)))),?_⟩
 .obtain⟨W,B,p,L,P0,S,v,u,z,O,F0,ps,dx,x,rfl,D,i0,hF,hB,sh,o,Z,fo,hx,rx,I,i5⟩:=DP h;obtain⟨ns,rfl,hl,i4⟩:=Eh sh (by decide) (k:=0) (by decide);obtain rfl:ns=[]:=Zm (by lia);refine⟨W,dx,_,rfl,Z,rfl,L,v,u,z,⟨dx,Z⟩,D.lst,by lia,by lia,λe1=>o.no 16 H (.undo (by lia)) (Ab.refl _),λe1=>?_⟩;have tv:TEv H (upd H L (.lst z.dropLast)):=TEv.upd D.lst;refine o.ok _ _ _ _ (.undo (by lia)) (Ev.pen D.lst) Ag ?_;have r:=Ad.tev (p':=p) tv _ _ (CN λd hd=>by
   obtain⟨G,_,rfl⟩:=Zg.mp (de hd);exact Dq G) (Ad.takeB (z.length-1) D.reps)
  rw[<-cC (l:=z)]at r;have e:O.dropLast.map FD=(O.map FD).take (z.length-1):=by rw[List.map_dropLast,cC,Y0,I]
  rw[e];exact r
def X9(F:Df K mg "say_least" waU ["watch","parts"])(T:Tx mg)(C:Tc K mg M ds)(WK:Wc K CA)(i0:Fn P w K mg base 11 "cheapest" ["plant","story"] JL)(i5:Mt (Bm P w) P w K mg base 12 CA "take_over" ["self","firing"] (Hi ds CA)):A2 P w K mg base 13 "say_least" ["watch","parts"] (A7 ds CA "least"):=by
 have WC:=WK.cls;k_dat ["watch","parts","paper","word","coal","firing","prices"]"f"
 refine⟨_,(Ai (zD 2 (zA i0 hr (Ar (Bf (cy 0) rfl) (Bf (cy 0) rfl)))) (Ai (A1 (AU Dz (AI (Bd K) (cy 2) Ak (λ_ _=>rfl)) Ax (AV _)) (An (D8 isDef_cx rfl C.n_NoWay C.x_NoWay rfl (Ah Ax))) AZ) (Ai (Bb (cy 2) (zF 3 4 5 6)) (Ai (A8 (Cj isDef_cx.passes WC i5 (hr.mono (by decide)) (cy 0) (Ah (cy 5)))) (An (Av (A6 DT rfl T.b_str Dh (Ah (cy 4))))))))),?_⟩
 .obtain⟨W,B,p,L,P0,S,v,u,xs,Fs,F0,ps,dx,x,rfl,D,i7,hF,hB,sh,o,hW,fo,hx,rx,j0,i9⟩:=DP h;obtain⟨ns,rfl,hl,i8⟩:=Eh sh (by decide) (k:=0) (by decide);obtain rfl:ns=[]:=Zm (by lia);refine⟨W,CA,dx,_,v,rfl,hW,WC,WK.nP,rfl,W,CA,dx,_,u,rfl,hW,WC,WK.nS,rfl,p,P0,S,D.ok,D.so,D.rv,D.ru,λy H1 d J pd rd=>?_⟩;cases pd with
  |short z=>
   obtain⟨A,ys,rfl,Z,rs⟩:=Aa.shape rd;obtain⟨y1,y2,y3,rfl,I,r2,r3⟩:=Ad.three rs;unfold Aa at I;subst I;refine⟨A,_,0,.str "short",rfl,rfl,Ae.of Z,rfl,rfl,⟨λ_=>⟨(show 1<=sizeLine from by decide),o.no 6 H1 (.least (by rw[z];simp)) J⟩,λc=>by cases c⟩⟩
  |@fired f ms c ps no g lo hf=>
   obtain⟨A,ys,rfl,Z,rs⟩:=Aa.shape rd;obtain⟨y1,y2,y3,y4,rfl,I,r2,r3,r4⟩:=Ad.four rs;unfold Aa at I r2;subst I r2;have fG:=XY g;have w1:=D.sameD J;refine⟨A,_,0,.str "fired",rfl,rfl,Ae.of Z,rfl,rfl,⟨λc=>(by cases c),λ_=>?_⟩⟩;refine⟨A,_,rfl,Ae.of Z,rfl,_,_,rfl,_,_,rfl,_,_,rfl,_,_,rfl,rfl,?_⟩;obtain⟨i4,i6⟩:=w1.at_;refine⟨W,i4,_,rfl,i6,rfl,p,L,P0,S,v,u,xs,Fs,FD f,w1,by lia,r3,λz=>?_,λ_ H2 O=>?_⟩
   .rw[fireB_is.mpr ⟨f,rfl,fG⟩]at z;cases z
   .have G:=O _ _ w1.lst;have tv:TEv H2 (upd H2 L (.lst (xs++[y3]))):=TEv.upd G;exact⟨c,rfl,Fw (YX (show _<1000000 by lia) (by decide)),o.ok _ _ _ _ (.least fG no) ((Ev.same (J.trans O)).trans (Ev.pen G)) Ag (JQ (λb ys g=>tv _ _ ((J.trans O) _ _ g)) D.reps (Aa.tev tv _ _ (Dq _) (Aa.ev (Ev.same O) _ _ r3)))⟩
def Yb(F:Df K mg "say_show" waV ["watch","parts"])(T:Tx mg)(C:Tc K mg M ds)(G:Wc K CA)(J:Mt CX0 P w K mg base 1 CA "kept_firing" ["self"] (DN CA))(O:Fn P w K mg base 12 "firing_text" ["plant","story","firing"] Ha):A2 P w K mg base 13 "say_show" ["watch","parts"] (A7 ds CA "show"):=by
 have I:=G.cls;k_dat ["watch","parts"]"f"
 refine⟨_,(An (Av (zA O hr (AH (Bf (cy 0) rfl) (Bf (cy 0) rfl) (Eb Cb I J (hr.mono (by decide)) (cy 0)))))),?_⟩
 .obtain⟨W,B,p,L,P0,S,v,u,xs,Fs,F0,ps,D,x,rfl,g,i0,hF,hB,sh,o,z,fo,hx,rx,i6,i5⟩:=DP h;obtain⟨ns,rfl,hl,i4⟩:=Eh sh (by decide) (k:=0) (by decide);obtain rfl:ns=[]:=Zm (by lia);exact⟨W,CA,D,_,v,rfl,z,I,G.nP,rfl,W,CA,D,_,u,rfl,z,I,G.nS,rfl,W,D,_,rfl,z,rfl,L,v,u,xs,x,⟨D,z⟩,g.lst,hx,p,P0,S,F0,⟨g.ok,g.so,fo,g.rv,g.ru,rx⟩,λH' Z=>o.ok _ _ _ H' .show (Ev.same Z) (Z _ _ g.lst) (Ad.ev (Ev.same Z) _ _ g.reps)⟩
def Yc(F:Df K mg "say_main" waW ["watch","parts"])(T:Tx mg)(C:Tc K mg M ds)(WK:Wc K CA)(i0:Mt CX0 P w K mg base 1 CA "kept_firing" ["self"] (DN CA))(i5:Fn P w K mg base 13 "course" ["plant","story","firing"] GX)(i4:Fn P w K mg base 1 "numbers_text" ["numbers"] Gb):A2 P w K mg base 14 "say_main" ["watch","parts"] (A7 ds CA "main"):=by
 have WC:=WK.cls;k_dat ["watch","parts","rows"]"f"
 refine⟨_,(Ai (zD 2 (zA i5 hr (AH (Bf (cy 0) rfl) (Bf (cy 0) rfl) (Eb Cb WC i0 (hr.mono (by decide)) (cy 0))))) (An (Av (DE (K5 (cy 2)) (zA i4 hr (Ah (AW ["made","drawn","blown","main"] [none,none,none,none] rfl (Cf K (cy 2)) (AB.of rfl) (λ_ _ _ _=>(zF 0 1 2 3)) (λ_ _ _ _=>AR) (λ_ _ _ _=>(cy 3))))) Ax)))),?_⟩
 .obtain⟨W,B,p,L,O,S,v,u,xs,Fs,G,ps,Z,x,rfl,D,i6,hF,hB,sh,o,hW,fo,hx,rx,j0,i9⟩:=DP h;obtain⟨ns,rfl,hl,i7⟩:=Eh sh (by decide) (k:=0) (by decide);obtain rfl:ns=[]:=Zm (by lia);have x8:=D.so.x8;refine⟨W,CA,Z,_,v,rfl,hW,WC,WK.nP,rfl,W,CA,Z,_,u,rfl,hW,WC,WK.nS,rfl,W,Z,_,rfl,hW,rfl,L,v,u,xs,x,⟨Z,hW⟩,D.lst,hx,p,O,S,G,⟨D.ok,D.so,fo,D.rv,D.ru,rx⟩,λR H1 k sg rs run s1 hR kR rR=>?_⟩;have i8:=run.le;have lr:=rR.len;rw[K2]at lr;have fin:∀g,Ab H g->Q (.str (JO O S G k)) g:=λg J=>o.ok _ _ _ g (.main run) (Ev.same J) (J _ _ D.lst) (Ad.ev (Ev.same J) _ _ D.reps)
  unfold JO at fin;refine⟨R,rs,rfl,kR,⟨λc=>?_,λc=>?_⟩⟩
  .have k0:k≠0:=λz=>by
    have:rs=[]:=Zm (by lia);rw[this]at c;cases c
   rw[YY k0]at fin;refine⟨R,rfl,⟨_,Al.of kR⟩,C3 (xs:=rs) (λi I g=>Ab H1 g/\I=((List.range i).map λi=>A5 O S G (i+1)).map V.int) (by lia) ⟨Ab.refl _,rfl⟩ (λi I g h=>by rw[h.2,Y0,Y0,ZU];exact Y5 _) (λi I g _ h=>Al.of (h.1 _ _ kR)) (λi y I g hy h=>?_) (λI g h=>?_)⟩
   .have hi:i<k:=by have:=(Y3.mp hy).1;lia
    obtain⟨d,hd,rd⟩:=rR.got hy;have ed:d=GC O S G i:=by
     unfold Dj at hd;rw[YU,ai hi]at hd;exact(Zb hd).symm
    subst ed;obtain⟨TA,ts,rfl,hT,rt⟩:=Aa.shape rd;obtain⟨y1,y2,y3,y4,rfl,r1,r2,r3,r4⟩:=Ad.four rt;unfold Aa at r4;subst r4;refine⟨TA,_,rfl,Ae.of (h.1 _ _ hT),rfl,_,_,rfl,_,_,rfl,_,_,rfl,_,_,rfl,rfl,trivial,λ_=>⟨h.1,?_⟩,λz=>by cases z⟩;rw[h.2,bp,YW,YW];rfl
   .intro m hm;refine⟨(List.range k).map λi=>A5 O S G (i+1),.inr ?_,by rw [Y0,ZU];lia,λn hn=>?_,λg J=>fin g (s1.trans (h.1.trans ((Ab.new hm).trans J)))⟩
    .rw[Ag,h.2,<-lr]
    .obtain⟨i,hi,rfl⟩:=Zg.mp hn;have j2:=am.mp hi;have m1:=GF D.ok (F:=G) (S:=S) (k:=i+1) λj hj=>run.up j (by lia)
     have h4:=D.ok.h4;have l0:=D.ok.lo0;exact YX (show _<1000 by lia) (by decide)
  .have k0:k=0:=by
    cases rs with
    |nil=>exact lr
    |cons _ _=>cases c
   rw[Z1 k0]at fin;exact fin H1 s1
def Yd(F:Df K mg "say_falls" waX ["watch","parts"])(T:Tx mg)(C:Tc K mg M ds)(WK:Wc K CA)(Z:Mt CX0 P w K mg base 1 CA "kept_firing" ["self"] (DN CA))(i4:Fn P w K mg base 13 "falls_at" ["plant","story","firing"] Jf)(i0:Fn P w K mg base 1 "numbers_text" ["numbers"] Gb):A2 P w K mg base 14 "say_falls" ["watch","parts"] (A7 ds CA "falls"):=by
 have WC:=WK.cls;obtain⟨g,g_NOTHING⟩:=T.g_NOTHING;k_dat ["watch","parts","fall"]"f"
 refine⟨_,(Ai (zD 2 (zA i4 hr (AH (Bf (cy 0) rfl) (Bf (cy 0) rfl) (Eb Cb WC Z (hr.mono (by decide)) (cy 0))))) (An (Av (DE (AU Ku (cy 2) EL (AV _)) (BA (v:= .str "-") rfl g_NOTHING ⟨g,rfl⟩) (zA i0 hr (Ah (cy 2))))))),?_⟩
 .obtain⟨W,B,p,L,P0,S,v,u,xs,Fs,F0,ps,J,x,rfl,D,i6,hF,hB,sh,o,O,fo,hx,rx,i9,i8⟩:=DP h;obtain⟨ns,rfl,hl,i7⟩:=Eh sh (by decide) (k:=0) (by decide);obtain rfl:ns=[]:=Zm (by lia);refine⟨W,CA,J,_,v,rfl,O,WC,WK.nP,rfl,W,CA,J,_,u,rfl,O,WC,WK.nS,rfl,W,J,_,rfl,O,rfl,L,v,u,xs,x,⟨J,O⟩,D.lst,hx,p,P0,S,F0,⟨D.ok,D.so,fo,D.rv,D.ru,rx⟩,λsv H1 k sg run s1 rs=>?_⟩;have fin:∀G,Ab H G->Q (.str (LZ sg)) G:=λG I=>o.ok _ _ _ G (.falls run) (Ev.same I) (I _ _ D.lst) (Ad.ev (Ev.same I) _ _ D.reps)
  have sm:=SS D.ok D.so fo run;cases sg with
  |none=>
   have i5:sv= .non:=rs;subst i5;exact⟨rfl,⟨λ_=>fin H1 s1,λz=>by cases z⟩⟩
  |some q=>
   obtain⟨q1,q2⟩:=q;obtain⟨TA,ts,rfl,hT,rt⟩:=Aa.shape (ds:=[.int q1,.int q2]) rs;obtain⟨y1,y2,rfl,r1,r2⟩:=Ad.two rt;unfold Aa at r1 r2;subst r1 r2;refine⟨rfl,⟨λz=>(by cases z),λ_=>⟨[q1,q2],.inl hT,(show 2<=10 from by decide),λn hn=>?_,λG I=>fin G (s1.trans I)⟩⟩⟩;refine XT (ds:=[.int q1,.int q2]) sm (by decide) ?_;simp only[Z4,Zk,Zs]at hn ⊢;rcases hn with rfl | rfl
   .exact .inl rfl
   .exact .inr rfl
def Yf(F:Df K mg "say_coal" waY ["watch","parts"])(T:Tx mg)(C:Tc K mg M ds)(G:Wc K CA)(J:Mt CX0 P w K mg base 1 CA "kept_firing" ["self"] (DN CA))(O:Fn P w K mg base 13 "coal_of" ["plant","story","firing"] Jr):A2 P w K mg base 14 "say_coal" ["watch","parts"] (A7 ds CA "coal"):=by
 have I:=G.cls;k_dat ["watch","parts"]"f"
 refine⟨_,(An (Av (A6 DT rfl T.b_str Dh (Ah (zA O hr (AH (Bf (cy 0) rfl) (Bf (cy 0) rfl) (Eb Cb I J (hr.mono (by decide)) (cy 0)))))))),?_⟩
 .obtain⟨W,B,p,L,P0,S,v,u,xs,Fs,F0,ps,D,x,rfl,g,i0,hF,hB,sh,o,z,fo,hx,rx,i6,i5⟩:=DP h;obtain⟨ns,rfl,hl,i4⟩:=Eh sh (by decide) (k:=0) (by decide);obtain rfl:ns=[]:=Zm (by lia);have cb:=XH g.ok g.so fo;exact⟨W,CA,D,_,v,rfl,z,I,G.nP,rfl,W,CA,D,_,u,rfl,z,I,G.nS,rfl,W,D,_,rfl,z,rfl,L,v,u,xs,x,⟨D,z⟩,g.lst,hx,p,P0,S,F0,⟨g.ok,g.so,fo,g.rv,g.ru,rx⟩,λH' Z=>⟨_,rfl,Fw (YX (show _<10000 by lia) (by decide)),o.ok _ _ _ H' .coal (Ev.same Z) (Z _ _ g.lst) (Ad.ev (Ev.same Z) _ _ g.reps)⟩⟩
def Yg(F:Df K mg "say_stretch" waZ ["watch","parts"])(T:Tx mg)(C:Tc K mg M ds)(Z:Wc K CA)(i4:Fn P w K mg base 11 "stretch_of" ["plant","story"] Jt)(i0:Fn P w K mg base 1 "numbers_text" ["numbers"] Gb):A2 P w K mg base 12 "say_stretch" ["watch","parts"] (A7 ds CA "stretch"):=by
 have WC:=Z.cls;obtain⟨g,g_NOTHING⟩:=T.g_NOTHING;k_dat ["watch","parts","stretch"]"f"
 refine⟨_,(Ai (zD 2 (zA i4 hr (Ar (Bf (cy 0) rfl) (Bf (cy 0) rfl)))) (An (Av (DE (AU Ku (cy 2) EL (AV _)) (BA (v:= .str "-") rfl g_NOTHING ⟨g,rfl⟩) (zA i0 hr (Ah (cy 2))))))),?_⟩
 .obtain⟨W,B,p,L,O,S,v,u,xs,Fs,F0,ps,dx,x,rfl,D,i6,hF,hB,sh,o,hW,fo,hx,rx,i9,i8⟩:=DP h;obtain⟨ns,rfl,hl,i7⟩:=Eh sh (by decide) (k:=0) (by decide);obtain rfl:ns=[]:=Zm (by lia);refine⟨W,CA,dx,_,v,rfl,hW,WC,Z.nP,rfl,W,CA,dx,_,u,rfl,hW,WC,Z.nS,rfl,p,O,S,D.ok,D.so,D.rv,D.ru,λsv H1 s1 J=>?_⟩;have fin:∀G,Ab H G->Q (.str (L5 (BU (terms O S)))) G:=λG I=>o.ok _ _ _ G .stretch (Ev.same I) (I _ _ D.lst) (Ad.ev (Ev.same I) _ _ D.reps)
  have bd:=XW D.so (P:=O);cases e:BU (terms O S) with
  |none=>
   rw[e]at J fin;have i5:sv= .non:=J;subst i5;exact⟨rfl,⟨λ_=>fin H1 s1,λz=>by cases z⟩⟩
  |some q=>
   rw[e]at J fin;obtain⟨q1,q2⟩:=q;have b:=bd _ e;obtain⟨TA,ts,rfl,hT,rt⟩:=Aa.shape (ds:=[.int (q1:Int),.int (q2:Int)]) J;obtain⟨y1,y2,rfl,r1,r2⟩:=Ad.two rt;unfold Aa at r1 r2;subst r1 r2;refine⟨rfl,⟨λz=>(by cases z),λ_=>⟨[(q1:Int),(q2:Int)],.inl hT,(show 2<=10 from by decide),λn hn=>?_,λG I=>fin G (s1.trans I)⟩⟩⟩;simp only[Z4,Zk,Zs]at hn;refine YX (show _<1000 from ?_) (by decide);rcases hn with rfl | rfl<;>(dsimp only at b;lia)
def Yi(F:Di K mg "Desk" DA "Desk.__init__" s_Desk___init__ ["self","plant","story"])(T:Tx mg)(DK:Gc K DA)(i7:Ms P w K mg base 10 "Watch" CA ["self","plant","story"] (sp_init CA)):Ms P w K mg base 12 "Desk" DA ["self","plant","story"] (Hm CA DA):=by
 have WC:=DK.cls;k_dat ["self","plant","story"]"f"
 refine⟨_,(An (HI (cy 0) (IB i7 (hr.mono (by decide)) rfl (Ar (cy 1) (cy 2))) rfl)),?_⟩;k_dat 0"u"
 .rename_i D v u;obtain⟨p,P0,S,dx,ok,so,rv,ru,hD,q⟩:=h;intro W G I i4 ne;have s1:Ab H (upd (upd H G (.own W)) W (.ins CA G [])):=(Ab.new i4).trans (Ab.new (by rw[Aq (Zd ne)];exact I));have Z:D≠W:=λz=>by rw[z,I]at hD;cases hD
  refine⟨p,P0,S,G,ok,so,Aa.ev (Ev.same s1) _ _ rv,Aa.ev (Ev.same s1) _ _ ru,Ag,λL B J keep wat i5 hL rB=>⟨rfl,?_⟩⟩;have O:=keep _ _ (s1 _ _ hD) Z;have nL:=s1.free i5;have i6:L≠D:=λz=>by rw[z,hD]at nL;cases nL
  have tv:TEv J (upd J D (.ins DA dx [("watch",.ref W)])):=λb ys g=>by
   rw[Aq (λz=>by rw[z,O]at g;cases g)];exact g
  refine⟨D,DA,dx,[],rfl,O,DK.cls,DK.nW,by decide,q W L B _ (λb o hb i8=>?_) ⟨dx,Ag⟩ ?_ nL ?_ ?_⟩
  .show upd J D _ b=_;rw[Aq i8];exact keep _ _ (s1 _ _ hb) λz=>by rw[z,I]at hb;cases hb
  .obtain⟨i0,h⟩:=wat;refine⟨i0,?_⟩;show upd J D _ W=_;rw[Aq (Zd Z)];exact h
  .show upd J D _ L=_;rw[Aq i6];exact hL
  .exact Aa.tev tv _ _ (Dq _) rB
def Yj(F:Dm K DA "say" "Desk.say" s_Desk_say ["self","line"])(T:Tx mg)(DK:Gc K DA)(C:Tc K mg M ds)(g:Dc P w K mg NA SA fs)(j4:A2 P w K mg base 2 "read_line" ["line"] (JP (ds.getD 17 0)))(i5:A2 P w K mg base 15 "say_stoke" ["watch","parts"] (A7 ds CA "stoke"))(j0:A2 P w K mg base 5 "say_bank" ["watch","parts"] (A7 ds CA "bank"))(i0:A2 P w K mg base 13 "say_fire" ["watch","parts"] (A7 ds CA "fire"))(O:A2 P w K mg base 2 "say_undo" ["watch","parts"] (A7 ds CA "undo"))(i4:A2 P w K mg base 13 "say_least" ["watch","parts"] (A7 ds CA "least"))(i7:A2 P w K mg base 13 "say_show" ["watch","parts"] (A7 ds CA "show"))(Z:A2 P w K mg base 14 "say_main" ["watch","parts"] (A7 ds CA "main"))(j2:A2 P w K mg base 14 "say_falls" ["watch","parts"] (A7 ds CA "falls"))(j3:A2 P w K mg base 14 "say_coal" ["watch","parts"] (A7 ds CA "coal"))(i6:A2 P w K mg base 12 "say_stretch" ["watch","parts"] (A7 ds CA "stretch")):Mt (Bm P w) P w K mg base 16 DA "say" ["self","line"] (Fg ds CA DA):=by
 have WC:=DK.cls;k_dat ["self","line","first","parts","saying"]"f"
 refine⟨_,(Ai (Bb (FF isDef_cx j4 (hr.mono (by decide)) rfl (Ah (cy 1))) (zF 2 3)) (Ai (zD 4 (OJ g.gS (BA (v:= .ref SA) rfl g.g_SAYINGS rfl) (cy 2) (λ_ _=>rfl))) (An (Av (Vq (k:=15) (i:=4) isDef_cx rfl (by first | exact Or.inl rfl | exact Or.inr (Or.inl rfl) | exact Or.inr (Or.inr rfl)) (hr.mono (by decide)) (Ar (Bf (cy 0) rfl) (cy 3))))))),?_⟩;k_dat 0"u"
 .rename_i D x;obtain⟨p,L,P0,S,v,u,xs,Fs,F0,W,d,dx,hD,wa,J,hF,rd,ht,qE,qO⟩:=h;refine⟨p,d,rd,ht,λhn H' G=>qE hn H' G,λf ps b c H' I G hc hb i8=>?_⟩;have sh:Ff f ps:=by
   cases d<;>first | cases I | exact XM I (ht _ rfl)
  have o:=(qO f ps I).same G;have at_:∃z,Do (LW fs) (.inr f)=some (.ref z)/\Lr P w K mg base 15 z (A7 ds CA f):=by
   have hm:=XX sh;simp only[Z4,Zk,Zs]at hm;rcases hm with rfl | rfl | rfl | rfl | rfl | rfl | rfl | rfl | rfl | rfl
   .exact⟨_,rfl,i0.at g.f_say_fire (by decide)⟩
   .exact⟨_,rfl,i5.at g.f_say_stoke (by decide)⟩
   .exact⟨_,rfl,j0.at g.f_say_bank (by decide)⟩
   .exact⟨_,rfl,O.at g.f_say_undo (by decide)⟩
   .exact⟨_,rfl,i4.at g.f_say_least (by decide)⟩
   .exact⟨_,rfl,i7.at g.f_say_show (by decide)⟩
   .exact⟨_,rfl,Z.at g.f_say_main (by decide)⟩
   .exact⟨_,rfl,j2.at g.f_say_falls (by decide)⟩
   .exact⟨_,rfl,j3.at g.f_say_coal (by decide)⟩
   .exact⟨_,rfl,i6.at g.f_say_stretch (by decide)⟩
  obtain⟨z,i9,FA⟩:=at_;exact⟨b,_,rfl,Ae.of hb,rfl,_,_,rfl,_,_,rfl,rfl,.inr f,.ref z,rfl,i9,z,_,rfl,FA,D,DA,dx,_,.ref W,rfl,G _ _ hD,WC,DK.nW,rfl,p,L,P0,S,v,u,xs,Fs,F0,ps,wa.sameD G,J,hF,i8,sh,o⟩
end
section
variable{F:FL}{ps ps':BP}{M:List yQ}{H H':Hp}{first s f' t:Str}{Fs' Fs1:List FL}{i j:Nat}{Q:VK}
def L7(F:yZ):Prop:=F.length<=8/\∀r∈F,r.length<=4/\∀n∈r,0<=n/\n<=9
def JR:Sp:=λz H Q _=>zK (λx=>∃p F,L7 F/\Aa p H (FD F) x/\∀g,Ab H g->Q (.str (BW F)) g) z
theorem L8{F:yZ}(h:L7 F):(BW F).length<=392:=by
 have e:(Str.ofString "/").length=1:=by decide
 have:=Jv (sep:="/") (l:=F.map Bw) (B:=48) λx g=>by
  obtain⟨r,z,rfl⟩:=Zg.mp g;obtain⟨a,b⟩:=h.2 r z;exact LA b a
 rw[Y0,e]at this;have D:=h.1;unfold BW;lia
theorem JS(sep:Str):∀l:List Str,CI sep l=Str.join sep l
 |[]=>by unfold CI;exact fB sep []
 |[x]=>rfl
 |x::y::r=>fB sep (x::y::r)
theorem L9{c:Nat}:∀ {a b u v:List Nat},c ∉ a->c ∉ b->a++c::u=b++c::v->a=b/\u=v
 |[],[],u,v,_,_,h=>⟨rfl,(bX h).2⟩
 |[],y::b,u,v,_,hb,h=>absurd (Z4.mpr (.inl (bX h).1)) hb
 |x::a,[],u,v,ha,_,h=>absurd (Z4.mpr (.inl (bX h).1.symm)) ha
 |x::a,y::b,u,v,ha,hb,h=>by
  obtain⟨g,D⟩:=bX h;obtain⟨G,e4⟩:=L9 (λz=>ha (Z3 _ z)) (λz=>hb (Z3 _ z)) D;exact⟨by rw[g,G],e4⟩
theorem Gd(c:Nat)(x y:Str)(r:List Str):(Str.join ⟨#[c]⟩ (x::y::r)).cps.toList=x.cps.toList++c::(Str.join ⟨#[c]⟩ (y::r)).cps.toList:=by
 show(x.cps++ #[c]++(Str.join ⟨#[c]⟩ (y::r)).cps).toList=_;rw[aF,aF,cL]
 rfl
theorem Pk{c:Nat}:∀ {g D:List Str},g≠ []->D≠ []->(∀p∈g,c ∉ p.cps.toList)->(∀q∈D,c ∉ q.cps.toList)->Str.join ⟨#[c]⟩ g=Str.join ⟨#[c]⟩ D->g=D
 |[],_,h,_,_,_,_=>absurd rfl h
 |_::_,[],_,h,_,_,_=>absurd rfl h
 |[x],[y],_,_,_,_,h=>by rw[show x=y from h]
 |[x],y::z::r,_,_,hp,_,h=>by
  exfalso
  have e:x.cps.toList=y.cps.toList++c::(Str.join ⟨#[c]⟩ (z::r)).cps.toList:=by rw[<-Gd,<-h];rfl
  exact hp x (Z9 ..) (by rw[e];exact Z5 _ (Z9 ..))
 |x::y::r,[z],_,_,_,hq,h=>by
  exfalso
  have e:z.cps.toList=x.cps.toList++c::(Str.join ⟨#[c]⟩ (y::r)).cps.toList:=by rw[<-Gd,h];rfl
  exact hq z (Z9 ..) (by rw[e];exact Z5 _ (Z9 ..))
 |x::y::r,z::w::s,_,_,hp,hq,h=>by
  have e:=ZI (λt:Str=>t.cps.toList) h;have e:(Str.join ⟨#[c]⟩ (x::y::r)).cps.toList=(Str.join ⟨#[c]⟩ (z::w::s)).cps.toList:=e;rw[Gd,Gd]at e;obtain⟨I,J⟩:=L9 (hp x (Z9 ..)) (hq z (Z9 ..)) e;have G:x=z:=Str.ext' (cq.mp I);have e4:Str.join ⟨#[c]⟩ (y::r)=Str.join ⟨#[c]⟩ (w::s):=Str.ext' (cq.mp J);rw[G,Pk (by simp) (by simp) (λp k=>hp p (Z3 _ k)) (λq k=>hq q (Z3 _ k)) e4]
theorem Pl{c:Nat}{g:List Str}(I:g≠ [])(D:∀p∈g,c ∉ p.cps.toList):AF (CI ⟨#[c]⟩ g) ⟨#[c]⟩=g:=by
 rw[JS];refine Pk (c:=c) (λz=>?_) I (λq G=>StrLaws.split_free _ c q G) D (StrLaws.join_split _ _);have h:=StrLaws.join_split (Str.join ⟨#[c]⟩ g) ⟨#[c]⟩;unfold AF at z;split at z
 .cases z
 .split at z
  .cases z
  .unfold Builtin.Str.partsBetween at z;have:=ZI List.length z;simp at this
theorem Pm(t:Str):((32 ∉ t.cps.toList)/\B8 t " "=(t,Str.empty,Str.empty))\/ ∃a b:Str,32 ∉ a.cps.toList/\t.cps.toList=a.cps.toList++32::b.cps.toList/\B8 t " "=(a,Str.ofString " ",b):=by
 have I:Str.ofString " "=⟨#[32]⟩:=by decide
 have J:(⟨#[32]⟩:Str).length=1:=rfl;unfold B8;rw[I];rcases StrLaws.occ_head t ⟨#[32]⟩ 1 (Y5 1) with⟨h0,hn⟩ | ⟨i,r,h0,hA,hn⟩
 .rw[h0];refine .inl ⟨λz=>?_,rfl⟩;obtain⟨j,g⟩:=Zz z;exact hn j ((dO t 32 j).mpr g)
 .rw[h0];have hi:=(dO t 32 i).mp hA;have G:i<t.cps.toList.length:=(Y3.mp hi).1;have L:t.length=t.cps.toList.length:=(ap ..).symm;refine .inr ⟨Builtin.Str.strSub t 0 i,Builtin.Str.strSub t (i+(⟨#[32]⟩:Str).length) t.length,λz=>?_,?_,rfl⟩
  .rw[cD,dy,cT]at z;obtain⟨j,g⟩:=Zz z;have D:j<i:=by
    have:=(Y3.mp g).1;rw[Za]at this;lia
   rw[dW D]at g;exact hn j D ((dO t 32 j).mpr g)
  .rw[cD,cD,dy,cT,J,Z0 (l:=t.cps.toList.drop (i+1)) (by rw[bG,L];exact Y5 _)];have e:t.cps.toList.drop i=32::t.cps.toList.drop (i+1):=by
    rw[bN G]
    congr 1
    exact(Y3.mp hi).2
   rw[<-e,List.take_append_drop]
theorem _root_.L2.EvX.tev{M:List yQ}{H H':Hp}(e:EvX M H H'):TEv H H':=λa g q=>e.tup q
theorem WAt.evx{g:yQ}{W L:yQ}{v u:V}(h:WAt g H W L v u)(e:EvX M H H'):WAt g H' W L v u:=by
 obtain⟨D,h⟩:=h;exact⟨D,e.keep h λz=>by rcases z with⟨_,z⟩ | ⟨_,z⟩<;>cases z⟩
theorem Wat.evx{z p:yQ}{W L:yQ}{P:PL}{S:SY}{v u:V}{xs:List V}{g:List FL}(h:Wat z p H W L P S v u xs g)(e:EvX M H H')(n:L ∉ M):Wat z p H' W L P S v u xs g:=
 ⟨h.ok,h.so,Aa.tev e.tev _ _ (LG P) h.rv,Aa.tev e.tev _ _ (LH S) h.ru,h.at_.evx e,e.lst h.lst n,Ad.tev e.tev _ _ (Ph g) h.reps,h.fok⟩
theorem Mb:Str.ofString " "=⟨#[32]⟩:=by decide
theorem Pn:Str.ofString "/"=⟨#[47]⟩:=by decide
def Ge(x:Str):Prop:=∀c∈x.cps.toList,c<0x110000
theorem BQ(s:String):Ge (Str.ofString s):=λc g=>by
 rw[Str.ofString_eq_toList]at g;obtain⟨z,_,rfl⟩:=Zg.mp g;rcases z.valid with h | h
 .exact bv h (by decide)
 .exact h.2
theorem Da{x:Str}(h:Ge x):PyData.strOk x=true:=by
 unfold PyData.strOk;rw[<-Array.all_toList];exact Zx.mpr λc g=>Zv (h c g)
theorem Mc{c:Nat}(D:c<0x110000):∀ {g:List Str},(∀p∈g,Ge p)->Ge (Str.join ⟨#[c]⟩ g)
 |[],_=>λ_ z=>by cases z
 |[x],h=>h x (Z2.mpr rfl)
 |x::y::r,h=>λd z=>by
  rw[Gd]at z;rcases ZQ.mp z with z | z
  .exact h x (Z9 ..) d z
  .rcases Z4.mp z with z | z
   .rw[z];exact D
   .exact Mc D (λp k=>h p (Z3 _ k)) d z
theorem JT(r:yV):Ge (Bw r):=by
 unfold Bw;rw[Mb,JS];exact Mc (by decide) λp g=>by
  obtain⟨n,_,rfl⟩:=Zg.mp g;exact BQ _
theorem Po(F:FL):Ge (BW F):=by
 unfold BW;rw[Pn,JS];exact Mc (by decide) λp g=>by
  obtain⟨r,_,rfl⟩:=Zg.mp g;exact JT r
theorem Pp{P:PL}(a:Bl P S Fs F first ps s Fs'):PyData.strOk s=true:=by
 refine Da ?_;cases a with
 |stoke=>unfold LY;split<;>exact BQ _
 |bank=>exact BQ _
 |fire=>exact BQ _
 |undo=>exact BQ _
 |«show»=>exact Po F
 |main=>unfold JO;split;exact BQ _;exact JT _
 |falls=>unfold LZ;split;exact BQ _;exact JT _
 |coal=>exact BQ _
 |stretch=>unfold L5;split;exact BQ _;exact JT _
 |least=>exact BQ _
theorem Yk{P:PL}(ok:P.ok)(fok:∀G∈Fs,FOk P S G)(J:Fs[Fs.length-1]? =some F)(a:Bl P S Fs F first ps s Fs'):(∀G∈Fs',FOk P S G)/\1<=Fs'.length/\Fs'.length<=Fs.length+1:=by
 have fo:=fok F (Y8 J);have n:=(Y3.mp J).1;have g:∀G,FOk P S G->(∀I∈Fs++[G],FOk P S I)/\1<=(Fs++[G]).length/\(Fs++[G]).length<=Fs.length+1:=λG D=>⟨λI h=>(ZQ.mp h).elim (fok I) λz=>by rw[Z2.mp z];exact D,by simp,by simp⟩
 cases a with
 |stoke hi hj h0 h1 _=>exact g _ (O6 fo hi h0 h1)
 |bank hi=>exact g _ (Xc ok fo hi)
 |fire h=>exact g _ (Pi ok h)
 |undo h=>exact⟨λG D=>fok G (by rw[cC]at D;exact de D),by rw[cM];lia,by rw[cM];lia⟩
 |«show»=>exact⟨fok,by lia,by lia⟩
 |main _=>exact⟨fok,by lia,by lia⟩
 |falls _=>exact⟨fok,by lia,by lia⟩
 |coal=>exact⟨fok,by lia,by lia⟩
 |stretch=>exact⟨fok,by lia,by lia⟩
 |least D _=>exact g _ D
theorem Pq(w:Str)(h:PyData.strOk w=true):(PyData.tuple [.str w]).canLay0=true/\(PyData.tuple [.str w]).hasDict=false:=by
 have e:(PyData.tuple [.str w]).canLay0=true:=by simp[PyData.canLay0,PyData.canLayAll0,h]
 exact⟨e,aC _ e⟩
theorem Pr(w s:Str)(h:PyData.strOk w=true)(h':PyData.strOk s=true):(PyData.tuple [.str w,.str s]).canLay0=true/\(PyData.tuple [.str w,.str s]).hasDict=false:=by
 have e:(PyData.tuple [.str w,.str s]).canLay0=true:=by simp[PyData.canLay0,PyData.canLayAll0,h,h']
 exact⟨e,aC _ e⟩
theorem Ps(w:Str)(n:Int)(h:PyData.strOk w=true):(PyData.tuple [.str w,.int n]).canLay0=true/\(PyData.tuple [.str w,.int n]).hasDict=false:=by
 have e:(PyData.tuple [.str w,.int n]).canLay0=true:=by simp[PyData.canLay0,PyData.canLayAll0,h]
 exact⟨e,aC _ e⟩
theorem Hn(h:(i:Int)=(j:Int)):i=j:=Int.ofNat.inj h
theorem Ho{a b:yV}(h:(Sum.inr a:BP)= .inr b):a=b:=by cases h;rfl
theorem Pt{P:PL}{S:SY}{J L:List FL}{f s':Str}{z:List FL}(a:Bl P S J F f ps s Fs1)(b:Bl P S L F f' ps' s' z)(g:f=f')(G:ps=ps')(nl:f≠Str.ofString "least"):s=s'/\(J=L->Fs1=z):=by
 cases a with
 |stoke _ _ _ _ r=>
  cases b<;>first | exact absurd g (by decide) | skip
  rename_i D;have e:=Ho G;simp only[aU,cu]at e;obtain⟨O,Z,e3⟩:=e;cases Hn O;cases Hn Z;cases e3;obtain⟨rfl,rfl⟩:=r.uniq D;exact⟨rfl,λe=>by rw[e]⟩
 |bank _=>
  cases b<;>first | exact absurd g (by decide) | skip
  have e:=Ho G;simp only[aU,cu]at e;cases Hn e;exact⟨rfl,λe=>by rw[e]⟩
 |fire h=>
  cases b<;>first | exact absurd g (by decide) | skip
  rename_i I;cases G;rw[h]at I;cases I;exact⟨rfl,λe=>by rw[e]⟩
 |least=>exact absurd rfl nl
 |main r=>
  cases b<;>first | exact absurd g (by decide) | skip
  rename_i D;obtain⟨rfl,rfl⟩:=r.uniq D;exact⟨rfl,id⟩
 |falls r=>
  cases b<;>first | exact absurd g (by decide) | skip
  rename_i D;obtain⟨rfl,rfl⟩:=r.uniq D;exact⟨rfl,id⟩
 |_=>cases b<;>first | exact absurd g (by decide) | exact⟨rfl,λe=>by rw[e]⟩
theorem JU{P:PL}{S:SY}{g:List FL}{f:Str}{i j:Sum Nat Int}(a:BZ P S g f ps i)(b:BZ P S g f' ps' j)(D:f=f')(z:ps=ps'):i=j:=by
  cases a<;>cases b<;>first | exact absurd D (by decide) | rfl | skip
  all_goals first
    |(cases z;simp_all;done)
    |(have e:=Ho z;simp only[aU,cu]at e;lia)
theorem Hq{P:PL}{S:SY}{z:List FL}{f:Str}{j:Sum Nat Int}(a:Bl P S z F f ps s Fs1)(b:BZ P S z f' ps' j)(D:f=f')(g:ps=ps'):False:=by
  cases a<;>cases b<;>first | exact absurd D (by decide) | skip
  all_goals first
    |contradiction
    |lia
    |(cases g;simp_all;done)
    |(have e:=Ho g;simp only[aU,cu]at e;lia)
    |(have e:=Ho g;simp only[aU,cu]at e;obtain⟨G,I,J⟩:=e;cases Hn G;cases Hn I;cases J;lia)
def Hr(ds:List yQ)(D g:yQ):Sp:=λz H Q _=>Fg ds D g z H Q λ_ _ _=>False
inductive Rs(P:PL)(S:SY)(Fs:List FL)(F:FL)(d:yP):yP->List FL->Prop
 |line:CQ d=none->Rs P S Fs F d (.tuple [.str "line"]) Fs
 |word {f w:Str}{ps:BP}{i:Nat}:CQ d=some (f,ps)->BZ P S Fs f ps (.inl i)->kindWords[i]? =some w->Rs P S Fs F d (.tuple [.str w]) Fs
 |text {f:Str}{ps:BP}{n:Int}:CQ d=some (f,ps)->BZ P S Fs f ps (.inr n)->Rs P S Fs F d (.tuple [.str "text",.int n]) Fs
 |told {f s:Str}{ps:BP}{Fs':List FL}:CQ d=some (f,ps)->Bl P S Fs F f ps s Fs'->Rs P S Fs F d (.tuple [.str "told",.str s]) Fs'
theorem Rs.uniq{P:PL}{S:SY}{z g:List FL}{d G D:yP}(a:Rs P S z F d G Fs1)(b:Rs P S z F d D g)(nl:∀f I,CQ d=some (f,I)->f≠Str.ofString "least"):G=D/\Fs1=g:=by
 cases a with
 |line h=>
  cases b with
  |line=>exact⟨rfl,rfl⟩
  |_ h'=>rw[h]at h';cases h'
 |word h r k=>
  cases b with
  |line h'=>rw[h]at h';cases h'
  |word h' r' k'=>rw[h]at h';cases h';cases JU r r' rfl rfl;rw[k]at k';cases k';exact⟨rfl,rfl⟩
  |text h' r'=>rw[h]at h';cases h';cases JU r r' rfl rfl
  |told h' r'=>rw[h]at h';cases h';exact(Hq r' r rfl rfl).elim
 |text h r=>
  cases b with
  |line h'=>rw[h]at h';cases h'
  |word h' r' k'=>rw[h]at h';cases h';cases JU r r' rfl rfl
  |text h' r'=>rw[h]at h';cases h';cases JU r r' rfl rfl;exact⟨rfl,rfl⟩
  |told h' r'=>rw[h]at h';cases h';exact(Hq r' r rfl rfl).elim
 |told h r=>
  cases b with
  |line h'=>rw[h]at h';cases h'
  |word h' r' k'=>rw[h]at h';cases h';exact(Hq r r' rfl rfl).elim
  |text h' r'=>rw[h]at h';cases h';exact(Hq r r' rfl rfl).elim
  |told h' r'=>rw[h]at h';cases h';obtain⟨J,L⟩:=Pt r r' rfl rfl (nl _ _ h);exact⟨by rw[J],L rfl⟩
structure Dk(CA DA p:yQ)(P:PL)(S:SY)(v u:V)(D W L:yQ)(J:Hp)(xs:List V)(Fs:List FL):Prop where
 ins:∃dx,J D=some (.ins DA dx [("watch",.ref W)])
 wat:Wat CA p J W L P S v u xs Fs
 ne:1<=Fs.length
section
variable{CA DA p TB:yQ}{P:PL}{S:SY}{v u:V}{D W L:yQ}{J J':Hp}{xs:List V}{Fs:List FL}
theorem Dk.evx(k:Dk CA DA p P S v u D W L J xs Fs)(e:EvX M J J')(n:L ∉ M):Dk CA DA p P S v u D W L J' xs Fs:=by
 obtain⟨g,G⟩:=k.ins;exact⟨⟨g,e.keep G λz=>by rcases z with⟨_,z⟩ | ⟨_,z⟩<;>cases z⟩,k.wat.evx e n,k.ne⟩
theorem Dk.same(k:Dk CA DA p P S v u D W L J xs Fs)(s:Ab J J'):Dk CA DA p P S v u D W L J' xs Fs:=k.evx (M:=[]) (EvX.same s) (λz=>by cases z)
theorem Dk.last(k:Dk CA DA p P S v u D W L J xs Fs):Fs[Fs.length-1]? =some (Fs.getLastD []):=by
 have n:=k.ne;rw[List.getLastD_eq_getLast?,List.getLast?_eq_getElem?,Y6 (by lia)];rfl
theorem Dk.told{g:List V}(k:Dk CA DA p P S v u D W L J xs Fs)(hF:Fs[Fs.length-1]? =some F)(a:Bl P S Fs F first ps s Fs')(e:Ev L J J')(O:J' L=some (.lst g))(r:Ad p J' (Fs'.map FD) g):Dk CA DA p P S v u D W L J' g Fs'/\Fs'.length<=Fs.length+1:=by
 obtain⟨I,hD⟩:=k.ins;obtain⟨Z,f2,G⟩:=Yk k.wat.ok k.wat.fok hF a;have w:=k.wat;have eX:EvX [L] J J':=EvX.ev e (by simp);exact⟨⟨⟨I,(e _ _ hD).elim (fun⟨_,ys,z⟩=>nomatch z) id⟩,⟨w.ok,w.so,Aa.tev e.tev _ _ (LG P) w.rv,Aa.tev e.tev _ _ (LH S) w.ru,w.at_.evx eX,O,r,Z⟩,f2⟩,G⟩
theorem Dk.say{ds:List yQ}{f:Str}{E:XK}(k:Dk CA DA p P S v u D W L J xs Fs)(hn:Fs.length<=80)(hl:t.length<=200000)(hp:BE t=some (f,ps))(no:∀i,¬BZ P S Fs f ps i)
  (q:∀s g G I,Bl P S Fs (Fs.getLastD []) f ps s g->Dk CA DA p P S v u D W L I G g->g.length<=Fs.length+1->EvX [L] J I->Q (.str s) I):Hr ds CA DA [.ref D,.str t] J Q E:=by
 obtain⟨dx,hD⟩:=k.ins;have lx:=k.wat.reps.len;rw[Y0]at lx;have e:CQ (.str t)=some (f,ps):=hp;refine⟨p,L,P,S,v,u,xs,Fs,_,W,.str t,dx,hD,k.wat,by lia,k.last,Aa.str,λt' z=>by cases z;exact hl,λz=>?_,λf' i0 z=>?_⟩
 .rw[e]at z;cases z
 .rw[e]at z;cases z;exact⟨λi O r _=>no _ r,λn a O r _ _ _=>no _ r,λs g G O a Z hL r=>(by obtain⟨k',l'⟩:=k.told k.last a Z hL r;exact q s g G O a k' l' (EvX.ev Z (by simp)))⟩
theorem Dk.asked{K:Fgx}{mg:Str->yW}{M:yQ}{ds:List yQ}{ql:Str}{cap:List (Option Nat)}{σ:L2.St}(C:Tc K mg M ds)
  (k:Dk CA DA p P S v u D W L J xs Fs) (tb:TabIn J TB ql) (hσ:AO cap σ=[some (.str t),some (.ref D)]) (hn:Fs.length<=80) (hl:t.length<=200000)
  (tail:∀J' r w0 ws dd i4 I,Dk CA DA p P S v u D W L J' i4 I->TabIn J' TB ql->EvX [L,TB] J J'->I.length<=Fs.length+1->Rs P S Fs (Fs.getLastD []) (.str t) (.tuple (.str w0::dd)) I->J' r=some (.tup (.str w0::ws))->Aa p J' (.tuple (.str w0::dd)) (.ref r)->(PyData.tuple (.str w0::dd)).canLay0=true->(PyData.tuple (.str w0::dd)).hasDict=false->w0≠Str.ofString "other" ->Q (.ref r) J'):
  On TB ql (WB K M ds) cap (λE=>IA DA (Str.ofString "say") (Fg ds CA DA) E (Es 1) (Bp (Es 0) CF)) σ J Q:=by
 refine⟨tb,λJ1 T1 g1=>?_⟩;have eT:EvX [TB] J J1:=EvX.tab tb g1 (by simp);have nL:L ∉ [TB]:=λz=>tb.ne k.wat.lst (Z2.mp z)
 have k1:=k.evx eT nL;have i0:EvX [L,TB] J J1:=eT.mono λb z=>by simp[Z2.mp z]
 obtain⟨dx,hD⟩:=k1.ins;show IA DA _ _ _ _ _ (AO cap σ) J1 _;rw[hσ];refine⟨D,dx,_,rfl,hD,rfl,?_⟩;have g:∀i O,(i=3\/i=4\/i=6\/i=15\/i=16\/i=17)->Ab J1 O->(∀w,kindWords[i]? =some w->Rs P S Fs (Fs.getLastD []) (.str t) (.tuple [.str w]) Fs)->GM (WB K M ds) Q (.ref (ds.getD i 0)) none O:=λi O hi Z he=>by
  obtain⟨g,h1,h2,h4,h5,h6⟩:∃g,kindWords[i]? =some g/\BD K M ds i=true/\g≠Str.ofString "text" /\g≠Str.ofString "other" /\PyData.strOk g=true:=by
   rcases hi with rfl | rfl | rfl | rfl | rfl | rfl
   .exact⟨_,rfl,C.w_NoHour,by decide,by decide,Da (BQ _)⟩
   .exact⟨_,rfl,C.w_NoBoiler,by decide,by decide,Da (BQ _)⟩
   .exact⟨_,rfl,C.w_NoWay,by decide,by decide,Da (BQ _)⟩
   .exact⟨_,rfl,C.w_NoAmount,by decide,by decide,Da (BQ _)⟩
   .exact⟨_,rfl,C.w_NoDeed,by decide,by decide,Da (BQ _)⟩
   .exact⟨_,rfl,C.w_NoLine,by decide,by decide,Da (BQ _)⟩
  refine⟨_,[.str g],rfl,⟨i,g,by lia,rfl,h1,h2,λ_=>rfl,λz=>absurd z h4⟩,λJ3 t keep ht=>?_⟩;have G:=Z.trans keep;exact tail J3 t g [] [] xs Fs (k1.same G) (T1.same G) (i0.trans (EvX.same G)) (ZB _) (he _ h1) ht (Aa.tup ht (.cons Aa.str .nil)) (Pq _ h6).1 (Pq _ h6).2 h5
 have lx:=k1.wat.reps.len;rw[Y0]at lx;refine⟨p,L,P,S,v,u,xs,Fs,_,W,.str t,dx,hD,k1.wat,by lia,k1.last,Aa.str,λt' z=>by cases z;exact hl,λe O Z=>g 17 O (by simp) Z λw hw=>?_,λf ps e=>⟨λi O r Z=>g i O ?_ Z λw hw=> .word e r hw,λn a O r Z _ ha=>?_,λs I i4 O a e1 hL r=>?_⟩⟩
 .cases hw;exact .line e
 .cases r<;>simp
 .refine⟨_,[.str "text",.int n],rfl,⟨18,"text",by decide,rfl,rfl,C.w_NoText,λz=>absurd rfl z,λ_=>⟨a,_,rfl,C.hd,C.na,ha,rfl⟩⟩,λJ3 t' keep ht=>?_⟩;have G:=Z.trans keep;exact tail J3 t' "text" [.int n] [.int n] xs Fs (k1.same G) (T1.same G) (i0.trans (EvX.same G)) (ZB _) (.text e r) ht (Aa.tup ht (.cons Aa.str (.cons Aa.int .nil))) (Ps _ _ (Da (BQ _))).1 (Ps _ _ (Da (BQ _))).2 (by decide)
 .intro t' ht;obtain⟨k2,l2⟩:=k1.told k1.last a e1 hL r;have i5:=Pp a;have s3:=Ab.new (o:= .tup [.str "told",.str s]) ht;exact tail _ t' "told" [.str s] [.str s] i4 I (k2.same s3) ((T1.ev e1).same s3) ((i0.trans (EvX.ev e1 (by simp))).trans (EvX.same s3)) l2 (.told e a) Ag (Aa.tup Ag (.cons Aa.str (.cons Aa.str .nil))) (Pr _ _ (Da (BQ _)) i5).1 (Pr _ _ (Da (BQ _)) i5).2 (by decide)
end
abbrev DQ:Str:=(("_law_between" :Str)++ ".<locals>.")++ "<lambda>"
def five:List Str:=["show","main","falls","coal","stretch"]
def Five(P:PL)(S:SY)(F:FL)(z:List Str):Prop:=z.length=5/\∀(i:Nat) (t s:Str),five[i]? =some t->z[i]? =some s->∃f D g,BE t=some (f,.inr [])/\Bl P S D F f (.inr []) s g
theorem Pu(h:five[i]? =some t):BE t=some (t,.inr [])/\t.length<=200000/\t≠Str.ofString "least" /\(t=Str.ofString "show" \/t=Str.ofString "main" \/t=Str.ofString "falls" \/t=Str.ofString "coal" \/t=Str.ofString "stretch"):=by
 have g:=Y8 h;refine⟨(by decide+kernel:∀t∈five,BE t=some (t,.inr [])) t g,(by decide:∀t∈five,t.length<=200000) t g,(by decide:∀t∈five,t≠Str.ofString "least") t g,?_⟩;unfold five at g
 simpa using g
theorem Yl{P:PL}{S:SY}{g:List FL}{f:Str}{i:Sum Nat Int}(h:f=Str.ofString "show" \/f=Str.ofString "main" \/f=Str.ofString "falls" \/f=Str.ofString "coal" \/f=Str.ofString "stretch"):¬BZ P S g f ps i:=λr=>by
 rcases h with h | h | h | h | h<;>(cases r<;>exact absurd h (by decide))
theorem Ym{P:PL}{S:SY}{g:List FL}{f:Str}(h:f=Str.ofString "show" \/f=Str.ofString "main" \/f=Str.ofString "falls" \/f=Str.ofString "coal" \/f=Str.ofString "stretch")(a:Bl P S g F f ps s Fs'):Fs'=g:=by
 rcases h with h | h | h | h | h<;>(cases a<;>first | rfl | exact absurd h (by decide))
theorem Five.uniq{P:PL}{S:SY}{D g:List Str}(a:Five P S F D)(b:Five P S F g):D=g:=by
 refine cY λi=>?_
 by_cases hi:i<5
 .have z:five[i]? =some (five.getD i Str.empty):=by
   rw[Y7,Y6 (show i<five.length from hi)];rfl
  have G:=Y6 (show i<D.length by rw[a.1];exact hi);have L:=Y6 (show i<g.length by rw[b.1];exact hi);obtain⟨f,_,_,I,O⟩:=a.2 i _ _ z G;obtain⟨Z,_,_,J,b1⟩:=b.2 i _ _ z L;have e0:=Pu z;rw[e0.1]at I J;cases I;cases J;rw[G,L,(Pt O b1 rfl rfl e0.2.2.1).1]
 .rw[Zu (by rw[a.1];lia),Zu (by rw[b.1];lia)]
inductive JV_(CA DA:yQ)(H:Hp)(Q:VK)(D:yQ):Prop
 |mk(p P S v u W L xs Fs:_)(_:Dk CA DA p P S v u D W L H xs Fs)(_:Fs.length<=80)(_:∀R H' xs' ss,Dk CA DA p P S v u D W L H' xs' Fs->EvX [L] H H'->H R=none->H' R=some (.lst (ss.map V.str))->Five P S (Fs.getLastD []) ss->Q (.ref R) H')
def JV(CA DA:yQ):Sp:=λvs H Q _=>zJ (JV_ CA DA H Q) vs
inductive JW_(CA DA TB:yQ)(H:Hp)(Q:VK)(p D:yQ):Prop
 |mk(_:A3 p H)(_:TabIn H TB DQ)(P S v u W L xs Fs:_)(_:Dk CA DA p P S v u D W L H xs Fs)(_:L≠p)(_:Fs.length<=60)(_:∀H' xs',Dk CA DA p P S v u D W L H' xs' Fs->EvX [p,L,TB] H H'->A3 p H'->TabIn H' TB DQ->Q (.bl true) H')
def JW(CA DA TB:yQ):Sp:=λvs H Q _=>xA (JW_ CA DA TB H Q) vs
theorem Hs{l:List Str}{x:V}(h:(l.map V.str)[i]? =some x):∃t,l[i]? =some t/\x= .str t:=by
 rw[YU]at h;obtain⟨t,g,rfl⟩:=Zi.mp h;exact⟨t,g,rfl⟩
theorem Rs.inv{P:PL}{S:SY}{g:List FL}{d r:yP}{z:Str}{dd:List yP}(h:Rs P S g F d r Fs')(e:r= .tuple (.str z::dd)):(z=Str.ofString "told" /\∃f D s,CQ d=some (f,D)/\Bl P S g F f D s Fs')\/(z≠Str.ofString "told" /\Fs'=g):=by
 cases h with
 |line h=>cases e;exact .inr ⟨by decide,rfl⟩
 |word h r k=>cases e;exact .inr ⟨(by decide:∀w∈kindWords,w≠Str.ofString "told") _ (Y8 k),rfl⟩
 |text=>cases e;exact .inr ⟨by decide,rfl⟩
 |told h a=>cases e;exact .inl ⟨rfl,_,_,_,h,a⟩
theorem Md{P:PL}{S:SY}{g:List FL}{f:Str}{i:Sum Nat Int}(n:1<g.length)(z:f=Str.ofString "undo"):¬BZ P S g f ps i:=λr=>by
 cases r<;>first | exact absurd z (by decide) | lia
theorem Pw{P:PL}{S:SY}{g:List FL}{f:Str}(a:Bl P S g F f ps s Fs')(z:f=Str.ofString "undo"):Fs'=g.dropLast:=by
 cases a<;>first | rfl | exact absurd z (by decide)
theorem Px:BE "undo"=some (Str.ofString "undo",.inr []):=by decide+kernel
def threeL:List Str:=["bank 0","least","stoke 0 0 0"]
theorem Yn:∀t∈threeL,((BE t).map (·.1)=some (Str.ofString "bank")\/(BE t).map (·.1)=some (Str.ofString "least")\/(BE t).map (·.1)=some (Str.ofString "stoke"))/\t.length<=200000:=by decide+kernel
theorem Yo{P:PL}{S:SY}{g:List FL}{f:Str}(a:Bl P S g F f ps s Fs')(h:f=Str.ofString "bank" \/f=Str.ofString "least" \/f=Str.ofString "stoke"):∃G,Fs'=g++[G]:=by
 rcases h with h | h | h<;>(cases a<;>first | exact⟨_,rfl⟩ | exact absurd h (by decide))
def calmL:List Str:=["show","main","falls","coal","stretch","stoke 9 0 0","stoke 0 9 0","stoke 0 0 99","bank 8","x","fire ","fire a","undo 1"]
def Me:Option (Str×BP)->Prop
 |none=>True
 |some (f,.inr ns)=>(f≠Str.ofString "bank" /\f≠Str.ofString "stoke" /\f≠Str.ofString "fire" /\f≠Str.ofString "undo" /\f≠Str.ofString "least")\/(f=Str.ofString "stoke" /\(ns=[9,0,0]\/ns=[0,9,0]\/ns=[0,0,99]))\/(f=Str.ofString "bank" /\ns=[8])
 |some (f,.inl t)=>f=Str.ofString "fire" /\(t=Str.empty\/t=Str.ofString "a")
instance:∀o:Option (Str×BP),Decidable (Me o)
 |none=> .isTrue trivial
 |some (_,.inr _)=>inferInstanceAs (Decidable (_\/_\/_))
 |some (_,.inl _)=>inferInstanceAs (Decidable (_/\_))
theorem Yp:∀t∈calmL,Me (BE t)/\t.length<=200000:=by decide+kernel
theorem Yq{cs:yV}{w:Str}(g:∀c∈cs,c<=9)(z:∀n:Nat,n<10->w≠nT (n:Int)):CP cs [w]=false:=by
 unfold CP
 match cs,g with
 |[],_=>rfl
 |_::_::_,_=>rw[ZC (by simp),aq]
 |[c],g=>
  cases h:Bx c w with
  |false=>simp[h]
  |true=>
   obtain⟨n,D,e⟩:=LD h;exact absurd e (z n (by have:=g c (Z2.mpr rfl);lia))
theorem Py{P:PL}{S:SY}{G:FL}(ok:P.ok)(so:S.ok P.bs.length)(h:Cm (caps P S) (AF t "/")= .inr G)(z:AF t "/"=[t])(D:AF t " "=[t])(g:∀n:Nat,n<10->t≠nT (n:Int)):False:=by
 have x1:=so.x1;have J:(caps P S).getD 0 []∈caps P S:=P' (by rw[Bs];lia);have e:BO (caps P S) [t] 0=none:=by
  unfold BO F9;rw[Z1 (by rw[Bs];lia),show([t]:List Str).getD 0 Str.empty=t from rfl,D,Yq (λc L=>((B7 ok _ J).1 c L).2) g]
  rfl
 rw[z]at h;unfold Cm at h;rw[show([t]:List Str).length=1 from rfl,OY (i:=0) (by lia) (λj I=>absurd I (aR _)) (by rw[e];rfl)]at h;cases h
theorem Yr{P:PL}{S:SY}(ok:P.ok)(hi:i<S.ex.length)(g:j<P.bs.length):Ef P S i j<=9:=by
 have c:=B7 (S:=S) ok _ (P' (l:=caps P S) (d:=[]) (i:=i) (by rw[Bs];exact hi));exact(c.1 _ (P' (d:=(0:Int)) (by rw[c.2];exact g))).2
theorem calm{P:PL}{S:SY}{g:List FL}{f:Str}(ok:P.ok)(so:S.ok P.bs.length)(h:Me (some (f,ps)))(a:Bl P S g F f ps s Fs'):Fs'=g:=by
 have x8:=so.x8;have b4:=ok.b4;cases a with
 |stoke hi hj h0 hx _=>
  rcases h with⟨_,h,_⟩ | ⟨_,h⟩ | ⟨h,_⟩
  .exact absurd rfl h
  .have:=Yr ok hi hj;simp only[aU,cu]at h;lia
  .exact absurd h (by decide)
 |bank hi=>
  rcases h with⟨h,_⟩ | ⟨h,_⟩ | ⟨_,h⟩
  .exact absurd rfl h
  .exact absurd h (by decide)
  .simp only[aU,cu]at h;lia
 |fire h'=>
  exfalso
  rcases h.2 with rfl | rfl
  .exact Py ok so h' (by decide+kernel) (by decide+kernel) (by decide+kernel)
  .exact Py ok so h' (by decide+kernel) (by decide+kernel) (by decide+kernel)
 |undo _=>
  rcases h with⟨_,_,_,h,_⟩ | ⟨h,_⟩ | ⟨h,_⟩
  .exact absurd rfl h
  .exact absurd h (by decide)
  .exact absurd h (by decide)
 |least _ _=>
  rcases h with⟨_,_,_,_,h⟩ | ⟨h,_⟩ | ⟨h,_⟩
  .exact absurd rfl h
  .exact absurd h (by decide)
  .exact absurd h (by decide)
 |_=>rfl
theorem Ys{w x:Str}{dd:List yP}(h:w≠x):PyData.eqv (.tuple (.str w::dd)) (.tuple [.str x])=false:=by
 cases dd with
 |nil=>
  simp only[PyData.eqv,PyData.eqvAll,fO];exact beq_false_of_ne h
 |cons a l=>simp only[PyData.eqv,PyData.eqvAll,bw]
theorem Fh{p:yQ}{J g:Hp}(pn:A3 p J)(e:EvX M J g)(n:p ∉ M):A3 p g:=by
 obtain⟨l,f,h⟩:=pn;exact⟨l,f,e.lst h n⟩
theorem Yu(F:Df K mg "_law_text" wb9 ["_law_firing_here"])(T:Tx mg):Fn P w K mg base 1 "_law_text" ["_law_firing_here"] JR:=by
  k_dat ⟨["_law_firing_here"],vs,J⟩"g"
  refine⟨_,(@An _ _ _ (@Av _ _ _ _ (@CV K _ _ _ _ _ _ _ _ _ _ _ _ PySem.F.plainAttrs_str PySem.F.slot_str_join PySem.F.type_str_join FE (@Ax _ _ _ _) (@Cy _ _ _ (@AW _ _ _ _ _ _ _ _ _ _ _ ["_law_row"] [none] rfl (@Bu _ K _ _ _ (@cx _ 0 _ _ (by rfl)) (by rfl)) (AB.of rfl) (λ_ _ _ _=>(@Fz _ _ _ 0 (AA (by rfl)) (by rfl))) (λ_ _ _ _=>(@AR _)) (λ_ _ _ _=>(@CV K _ _ _ _ _ _ _ _ _ _ _ _ PySem.F.plainAttrs_str PySem.F.slot_str_join PySem.F.type_str_join FE (@Ax _ _ _ _) (@Cy _ _ _ (@AW _ _ _ _ _ _ _ _ _ _ _ ["_law_steam"] [none] rfl (@Bu _ K _ _ _ (@cx _ 0 _ _ (by rfl)) (by rfl)) (AB.of rfl) (λ_ _ _ _=>(@Fz _ _ _ 0 (AA (by rfl)) (by rfl))) (λ_ _ _ _=>(@AR _)) (λ_ _ _ _=>(@A6 _ _ _ _ _ _ _ _ _ (@DT _) rfl T.b_str Dh (@Cy _ _ _ (@cx _ 0 _ _ (by rfl)) (by rfl)) (by decide) (by decide) (by rfl) (by rfl))) (by intro _;rfl)) (by rfl)) (by rfl) (by rfl) (by rfl) (by rfl) (by rfl) (by rfl))) (by intro _;rfl)) (by rfl)) (by rfl) (by rfl) (by rfl) (by rfl) (by rfl) (by rfl)))),?_⟩;k_dat 0"u"
  . rename_i v;obtain⟨p,F,⟨f8,fr⟩,i4,q⟩:=h;obtain⟨FA,fx,rfl,O,Z⟩:=Aa.firing i4;have lf:=Z.len;rw [Y0] at lf;have g:∀(i:Nat) r,F[i]? =some r->(∀n∈r,0<=n/\n<=9)/\r.length<=4:=λi r J=>⟨(fr r (Y8 J)).2,(fr r (Y8 J)).1⟩
    refine⟨rfl,FA,rfl,⟨_,Ae.of O⟩,BC (xs:=fx) (λj zs L=>Ab H L/\zs=((F.take j).map Bw).map V.str) (by lia) ⟨Ab.refl _,rfl⟩ (λj zs L h=>by rw[h.2,Y0,Y0,Za];lia) (λj zs L _ h=>Ae.of (h.1 _ _ O)) (λj x zs L G h=>?_) (λzs L h=>?_)⟩
    . obtain⟨r,J,rr⟩:=Ad.mapGot Z G;obtain⟨RA,rfl,i0⟩:=Aa.ofRow rr;obtain⟨r9,r4⟩:=g j r J;refine⟨trivial,λ_=>⟨rfl,RA,rfl,⟨_,Ae.of (h.1 _ _ i0)⟩,BC (xs:=r.map V.int) (λk ys H2=>Ab L H2/\ys=((r.take k).map nT).map V.str) (by rw [Y0];lia) ⟨Ab.refl _,rfl⟩ (λk ys H2 I=>by rw [I.2,Y0,Y0,Za];lia) (λk ys H2 _ I=>Ae.of ((h.1.trans I.1) _ _ i0)) (λk x ys H2 G I=>?_) (λys H2 I=>?_)⟩,λz=>by cases z⟩
      . rw[YU]at G;obtain⟨n,hn,rfl⟩:∃n,r[k]? =some n/\V.int n=x:=by
          cases z:r[k]? with
          |none=>rw[z]at G;cases G
          |some n=>rw[z]at G;cases G;exact⟨n,rfl,rfl⟩
        obtain⟨m0,m9⟩:=r9 n (Y8 hn);refine⟨trivial,λ_=>⟨n,rfl,Lz (by lia),I.1,?_⟩,λz=>by cases z⟩;rw[I.2,AY hn,YW,YW];rfl
      . intro m hm;have D:=F8 (sep:=" ") (l:=r.map nT) (B:=11) (λx G=>by
          obtain⟨n,hn,rfl⟩:=Zg.mp G;exact Jw (r9 n hn).1 (r9 n hn).2) (by rw[Y0];have e:(Str.ofString " ").length=1:=(by decide);rw[e];lia)
        refine⟨" ",m,r.map nT,rfl,rfl,?_,D.1,D.2,h.1.trans (I.1.trans (Ab.new hm)),?_⟩
        . rw[Ag,I.2,Y0,Z0 (Y5 _)]
        . rw[h.2,AY J,YW,YW];rfl
    . intro m hm;have D:=F8 (sep:="/") (l:=F.map Bw) (B:=48) (λx G=>by
        obtain⟨r,J,rfl⟩:=Zg.mp G;obtain⟨i,hi⟩:=Zz J;exact LA (g i r hi).1 (g i r hi).2) (by rw[Y0];have e:(Str.ofString "/").length=1:=(by decide);rw[e];lia)
      refine⟨"/",m,F.map Bw,rfl,rfl,?_,D.1,D.2,q _ (h.1.trans (Ab.new hm))⟩;rw[Ag,h.2,Z0 (by lia)]
theorem Yw{ds:List yQ}{CA DA:yQ}(F:Df K mg "_law_answers" wbc ["_law_desk"])(T:Tx mg)(DK:Gc K DA)(i0:Mt CX0 P w K mg base 16 DA "say" ["self","line"] (Hr ds CA DA)):Fn P w K mg base 17 "_law_answers" ["_law_desk"] (JV CA DA):=by
 have WC:=DK.cls;k_dat ["_law_desk"]"f"
 refine⟨_,(An (Av (AW ["_law_word","_law_desk"] [none,some 0] rfl (Cf K (Ci (Bi Ax (C6 Ax Ax Ax Ax)))) (AB.of rfl) (λ_ _ _ _=>(zC 0)) (λ_ _ _ _=>AR) (λ_ _ _ _=>(Cj Cb WC i0 (hr.mono (by decide)) (cy 1) (Ah (cy 0))))))),?_⟩;k_dat 0"u"
 .rename_i D;obtain⟨p,P0,S,v,u,W,L,xs,Fs,k,hn,q⟩:=h;intro LB J1 s1 O kB;have k1:=k.same s1;have nL:LB≠L:=λz=>by rw[z,k.wat.lst]at O;cases O
  refine⟨LB,rfl,⟨_,Al.of kB⟩,C3 (xs:=five.map V.str) (λi ys J=>(∃G,Dk CA DA p P0 S v u D W L J G Fs)/\EvX [L] J1 J/\∃g:List Str,ys=g.map V.str/\g.length=i/\∀(j:Nat) (t s:Str),five[j]? =some t->g[j]? =some s->∃f i5 i4,BE t=some (f,.inr [])/\Bl P0 S i5 (Fs.getLastD []) f (.inr []) s i4) (by decide) ⟨⟨_,k1⟩,EvX.refl,[],rfl,rfl,λj t s _ h=>by simp at h⟩ (λi ys J h=>?_) (λi ys J _ h=>Al.of (h.2.1.lst kB (by simp[nL]))) (λi x ys J hx h=>?_) λys J h=>?_⟩
  .obtain⟨_,_,g,rfl,I,_⟩:=h;rw[Y0,I];exact Y5 _
  .obtain⟨⟨G,Z⟩,eJ,g,rfl,I,hs⟩:=h;obtain⟨t,ht,rfl⟩:=Hs hx;refine⟨⟨rfl,trivial⟩,λ_=>?_,λz=>by cases z⟩;have e0:=Pu ht;obtain⟨dx,hD⟩:=Z.ins;refine⟨D,dx,_,rfl,hD,rfl,Z.say (E:=E0) (by lia) e0.2.1 e0.1 (λi=>Yl e0.2.2.2) λs i7 i6 J2 a k2 l2 e2=>?_⟩;obtain rfl:=Ym e0.2.2.2 a;refine⟨⟨i6,k2⟩,eJ.trans e2,g++[s],by rw [YW];rfl,by rw [Zj,I];rfl,λj t' s' h1 h2=>?_⟩
   by_cases hj:j<i
   .rw[aY (by lia)]at h2;exact hs j t' s' h1 h2
   .have ej:j=i:=by
     have:=(Y3.mp h2).1;rw[Zj,I,Zt]at this;lia
    subst ej;rw[aN (by lia),I,fU]at h2;cases h2;rw[ht]at h1;cases h1;exact⟨_,_,_,e0.1,a⟩
  .obtain⟨⟨G,Z⟩,eJ,g,rfl,I,hs⟩:=h;intro m hm;have sm:=Ab.new (o:= .lst (g.map V.str)) hm;have nm:m ∉ [L]:=λz=>by rw [Z2.mp z,Z.wat.lst] at hm;cases hm
   exact q m _ G g (Z.same sm) ((EvX.same s1).trans (eJ.trans (EvX.same sm))) (s1.free (eJ.none hm nm)) Ag ⟨I,hs⟩
inductive St3(a b:yQ)(σ:L2.St):Prop
 |mk(y2 y3 y4:_)(_:σ=[some (.ref a),some (.ref b),y2,y3,y4])
theorem zak:As ["_law_pen_here","_law_desk","_law_turn","_law_line","_law_some"] ["_law_pen_here","_law_desk"] (Am wa4):=Az
theorem Yx{M:yQ}{ds:List yQ}{c TB CA DA:yQ}(F:GK K mg "_law_between" wa4 ["_law_pen_here","_law_desk"] c)(hC:PySem.W.CodeHd base c TB)(j3:base.BuiltinsAt mg TB)(T:Tx mg)(C:Tc K mg M ds)(DK:Gc K DA)(l7:FY P w K mg base)(j6:GH P w K mg base 18 "_law_said" ["_law_call"] (EE P w K mg base 17 (WB K M ds)))(l9:Mt CX0 P w K mg base 16 DA "say" ["self","line"] (Hr ds CA DA))(j7:Mt (Bm P w) P w K mg base 16 DA "say" ["self","line"] (Fg ds CA DA)):Fn P w K mg base 19 "_law_between" ["_law_pen_here","_law_desk"] (JW CA DA TB):=by
 have WC:=DK.cls;refine F.fn zak (λvs H Q E h=>?_) (λf A outer s H vs Q E hr h=>?_)
 .cases h;rfl
 refine⟨_,(@Ai _ _ _ _ _ (@B4 _ _ _ _ _ _ _ _ Zr rfl (@CD _ _ _ _ _ _ rfl T.b_range (@Cy _ _ _ (@Ao _ _ _ _ _ _ _ _ _ _ l7 (hr.mono (by decide)) rfl (@FB _ _ _ _ _ (@cx _ 0 _ _ (by rfl)) (@Ak _ _ _ _) (by rfl)) (by decide) (by rfl) (by rfl)) (by rfl)) (by rfl)) (@Fz _ _ _ 2 zak.nd (by rfl)) (@Ai _ _ _ _ _ (@B4 _ _ _ _ _ _ _ _ Zr rfl (@Cf _ K _ _ _ (@Ci _ _ _ _ (@FC _ _ _ _ _ _ _ (@Ax _ _ _ _) (@Ax _ _ _ _) (@Ax _ _ _ _) (by rfl))) (by rfl)) (@Fz _ _ _ 3 zak.nd (by rfl)) (@An _ _ _ (@A1 _ _ _ _ _ _ _ _ (@AU _ _ _ _ _ _ _ _ (@Dz _) (@AI _ _ _ _ _ _ _ (@Bd _ K (by rfl)) (FN (N':=["_law_line","_law_desk"]) (cap:=[some 3,some 1]) j6 (hr.mono (by decide)) rfl (λ_=>rfl) rfl hC j3 (AB.of rfl) (by decide) rfl rfl rfl rfl (λ_ _ _ _=>rfl) (λA outer s H f c E j0=>(Cj isDef_lam.passes WC j7 ((j0.deeper _).mono (by decide)) (@cx _ 1 _ _ (by rfl)) (@Cy _ _ _ (@cx _ 0 _ _ (by rfl)) (by rfl))))) (@Ak _ _ _ _) (λ_ _=>rfl)) (@Ax _ _ _ _) (AV _)) (@An _ _ _ (@A8 _ _ _ _ (Cj Cb WC l9 (hr.mono (by decide)) (@cx _ 1 _ _ (by rfl)) (@Cy _ _ _ (@Ax _ _ _ _) (by rfl))) (by rfl))) (@AZ _))) (by intro _;rfl)) (@Ai _ _ _ _ _ (@AE _ _ (4) _ _ _ _ zak.nd rfl (AC (by rfl)) (@Ci _ _ _ _ (@Bi _ _ _ _ _ (@Ax _ _ _ _) (@Bi _ _ _ _ _ (@Ax _ _ _ _) (@Bi _ _ _ _ _ (@Ax _ _ _ _) (@Bi _ _ _ _ _ (@Ax _ _ _ _) (@Bi _ _ _ _ _ (@Ax _ _ _ _) (@Bi _ _ _ _ _ (@Ax _ _ _ _) (@EY _ _ _ _ _ _ _ _ _ (@Ax _ _ _ _) (@Ax _ _ _ _) (@Ax _ _ _ _) (@Ax _ _ _ _) (by rfl)) (by rfl)) (by rfl)) (by rfl)) (by rfl)) (by rfl)) (by rfl))) (by rfl) (DF (by rfl))) (@An _ _ _ (@B4 _ _ _ _ _ _ _ _ Zr rfl (@Cf _ K _ _ _ (@Ay _ _ _ _ _ _ _ _ (@E2 _) (@cx _ 4 _ _ (by rfl)) (@Ci _ _ _ _ (@FC _ _ _ _ _ _ _ (@Ax _ _ _ _) (@Ax _ _ _ _) (@Ax _ _ _ _) (by rfl)))) (by rfl)) (@Fz _ _ _ 3 zak.nd (by rfl)) (@An _ _ _ (@A1 _ _ _ _ _ _ _ _ (@AU _ _ _ _ _ _ _ _ (@Th _ _ hr) (FN (N':=["_law_line","_law_desk"]) (cap:=[some 3,some 1]) j6 (hr.mono (by decide)) rfl (λ_=>rfl) rfl hC j3 (AB.of rfl) (by decide) rfl rfl rfl rfl (λ_ _ _ _=>rfl) (λA outer s H f c E j0=>(Cj isDef_lam.passes WC j7 ((j0.deeper _).mono (by decide)) (@cx _ 1 _ _ (by rfl)) (@Cy _ _ _ (@cx _ 0 _ _ (by rfl)) (by rfl))))) (@Cu _ _ _ _ _ (@Cy _ _ _ (@Ax _ _ _ _) (by rfl))) (AV _)) (@An _ _ _ (@Av _ _ _ _ (@Cp _ _ _ _))) (@AZ _))) (by intro _;rfl))))) (by intro _;rfl)) (@An _ _ _ (@Av _ _ _ _ (@Cp _ _ _ _)))),?_⟩;k_dat 0"u"
 .rename_i p D;obtain⟨pn,tb,P0,S,v,u,W,L,xs,Fs,k,i7,hn,q⟩:=h;have r8:TB≠L:=λz=>tb.ne k.wat.lst z.symm
  have j4:p≠TB:=by obtain⟨_,_,hp⟩:=pn;exact tb.ne hp
  refine⟨pn,by decide,by decide,λg H1 g0 g1 e1 v6=>⟨g,rfl,by lia,by lia,?_⟩⟩;have o9:(∃I,Dk CA DA p P0 S v u D W L H1 I Fs)/\A3 p H1/\TabIn H1 TB DQ/\EvX [p,L,TB] H H1:=⟨⟨xs,k.evx (EvX.ev (M:=[p]) e1 (by simp)) (by simp[i7])⟩,v6,tb.ev e1,EvX.ev e1 (by simp)⟩;refine Em (n:=g.toNat) (λi O J=>St3 p D O/\(∃I,Dk CA DA p P0 S v u D W L J I Fs)/\A3 p J/\TabIn J TB DQ/\EvX [p,L,TB] H J) ⟨⟨_,_,_,rfl⟩,o9⟩ (λi O J hi h=>?_) fun O J h=>?_
  .obtain⟨⟨y2,y3,y4,rfl⟩,⟨v7,k1⟩,p1,t1,e1⟩:=h;intro LB J1 s1 i5 kB;have u8:LB≠p:=p1.ne i5;have l6:LB≠L:=λz=>by rw [z,k1.wat.lst] at i5;cases i5
   have v4:LB≠TB:=λz=>TabIn.not_none t1 (z ▸ i5)
   refine⟨LB,rfl,⟨_,Al.of kB⟩,Gh (xs:=threeL.map V.str) (λ_ O J=>St3 p D O/\((∃I,Dk CA DA p P0 S v u D W L J I Fs)/\A3 p J/\TabIn J TB DQ/\EvX [p,L,TB] H J)/\EvX [p,L,TB] J1 J) ⟨⟨_,_,_,rfl⟩,⟨⟨v7,k1.same s1⟩,p1.same s1,t1.same s1,e1.trans (EvX.same s1)⟩,EvX.refl⟩ (λ_ O J _ h=>Al.of (h.2.2.lst kB (by simp[u8,l6,v4]))) (λ_ x O J hx h=>?_) fun O J h=>?_⟩
   .obtain⟨⟨y2,y3,y4,rfl⟩,⟨⟨j9,k2⟩,p2,t2,e2⟩,eB⟩:=h;obtain⟨t,ht,rfl⟩:=Hs hx;have e0:=Yn t (Y8 ht);refine k2.asked (t:=t) C t2 rfl (by lia) e0.2 λJ3 r w0 ws dd j8 w5 k3 t3 e3 l3 rs hr rr c1 c2 no=>?_
    have p3:A3 p J3:=Fh p2 e3 (by simp[i7.symm,j4]);have i4:EvX [p,L,TB] J J3:=e3.mono λb z=>Z3 _ z
    refine⟨r,_,0,.str w0,rfl,rfl,Ae.of hr,Cr (j:=0) rfl,rfl,⟨λc=>?_,λc=>?_⟩⟩
    .rcases rs.inv rfl with⟨_,f,ps,s,hp,a⟩ | ⟨nz,_⟩
     .have i8:BE t=some (f,ps):=hp;rw [i8] at e0;obtain⟨G,rfl⟩:=Yo a (by simpa using e0.1);obtain⟨v3,n9⟩:=k3.ins;have n1:=k2.ne;refine⟨D,v3,_,rfl,n9,rfl,k3.say (E:=E0) (t:="undo") (by rw [Zj,Zt];lia) (by decide) Px (λi=>Md (by rw [Zj,Zt];lia) rfl) λs4 j5 i9 J4 a4 k4 l4 e4=>?_⟩;have eF:=Pw a4 rfl;rw [List.dropLast_concat] at eF;subst eF;have Z:EvX [p,L,TB] J3 J4:=e4.mono λb z=>by simp [Z2.mp z]
      exact⟨⟨_,_,_,rfl⟩,⟨⟨i9,k4⟩,Fh p3 e4 (by simp[i7.symm]),t3.evx e4 (by simp[r8]),(e2.trans i4).trans Z⟩,(eB.trans i4).trans Z⟩
     .exact absurd (by have:=Z7 c;injection this) nz
    .rcases rs.inv rfl with⟨z,_⟩ | ⟨_,rfl⟩
     .rw[z,Zv rfl]at c;cases c
     .exact⟨⟨_,_,_,rfl⟩,⟨⟨j8,k3⟩,p3,t3,e2.trans i4⟩,eB.trans i4⟩
   .obtain⟨⟨y2,y3,y4,rfl⟩,⟨⟨j9,k2⟩,p2,t2,e2⟩,eB⟩:=h;intro LS J5 s5 v8 kS LT J6 s6 w8 kT;refine⟨LS,LT,_,_,rfl,rfl,s6 _ _ kS,kT,Oj (show 10+3<=1000 from by decide),λLC J7 s7 u0 kC=>?_⟩;have i6:=s5.trans (s6.trans s7);have i0:=(s5.trans s6).free u0;have u6:LC≠p:=p2.ne i0;have n5:LC≠L:=λz=>by rw [z,k2.wat.lst] at i0;cases i0
    have u5:LC≠TB:=λz=>TabIn.not_none t2 (z ▸ i0)
    have j2:J7 LC=some (.lst (calmL.map V.str)):=kC;clear kC kS kT;refine⟨LC,rfl,⟨_,Al.of j2⟩,Gh (xs:=calmL.map V.str) (λ_ O J=>St3 p D O/\((∃I,Dk CA DA p P0 S v u D W L J I Fs)/\A3 p J/\TabIn J TB DQ/\EvX [p,L,TB] H J)/\EvX [p,L,TB] J7 J) ⟨⟨_,_,_,rfl⟩,⟨⟨j9,k2.same i6⟩,p2.same i6,t2.same i6,e2.trans (EvX.same i6)⟩,EvX.refl⟩ (λ_ O J _ h=>Al.of (h.2.2.lst j2 (by simp[u6,n5,u5]))) (λ_ x O J hx h=>?_) fun O J h=>⟨h.1,h.2.1⟩⟩;obtain⟨⟨y2,y3,y4,rfl⟩,⟨⟨j8,k3⟩,p3,t3,e3⟩,eC⟩:=h;obtain⟨t,ht,rfl⟩:=Hs hx;have e0:=Yp t (Y8 ht);refine k3.asked (t:=t) C t3 rfl (by lia) e0.2 λJ4 r w0 ws dd i9 j5 k4 t4 e4 l4 rs hr rr c1 c2 no=>?_
    have p4:A3 p J4:=Fh p3 e4 (by simp[i7.symm,j4]);have Z:EvX [p,L,TB] J J4:=e4.mono λb z=>Z3 _ z
    intro u7 J8 s8 k8;refine⟨p,_,.tuple [.str "other"],Aa.ev (Ev.same s8) _ _ rr,Aa.tup k8 (.cons Aa.str .nil),by decide+kernel,by decide+kernel,by decide+kernel,.inl ⟨c1,c2,?_⟩⟩;rw[Ys no];refine⟨λz=>(by cases z),λ_=>?_⟩;have eF:j5=Fs:=by
     rcases rs.inv rfl with⟨_,f,ps,s,hp,a⟩ | ⟨_,z⟩
     .have i8:BE t=some (f,ps):=hp;rw[i8]at e0;exact calm k3.wat.ok k3.wat.so e0.1 a
     .exact z
    subst eF;exact⟨⟨_,_,_,rfl⟩,⟨⟨i9,k4.same s8⟩,p4.same s8,t4.same s8,(e3.trans Z).trans (EvX.same s8)⟩,(eC.trans Z).trans (EvX.same s8)⟩
  .obtain⟨_,⟨I,k'⟩,o8,u9,e'⟩:=h;exact q J I k' e' o8 u9
end
variable{t s:Str}{D:Db}{σ:L2.St}{H:Hp}{i:Sum Nat Int}{F:FL}{xs:List V}{Fs Fs':List FL}{ps:BP}{ss:List Str}
inductive Ht_(K:Fgx)(TB g:yQ)(H:Hp)(Q:VK)(a:yQ):Prop
 |mk(ns:yV)(_:Al K H a (ns.map V.int))(_:ns.length<=63)(_:H TB=some (.tbl #[]))(_:H g=some (.tbl #[]))(_:∀D,Q (.bl true) D)
def Ht(K:Fgx)(TB g:yQ):Sp:=λz H Q _=>zJ (Ht_ K TB g H Q) z
inductive JX_(H:Hp)(Q:VK)(v u x:V):Prop
 |mk(p P S t F:_)(_:PL.ok P)(_:SY.ok S P.bs.length)(_:Aa p H P.d v)(_:Aa p H S.d u)(_:x= .str t)(_:t.length<=200000)(_:Cm (caps P S) (AF t "/")= .inr F)(_:∀b g,Ab H g->Aa p g (FD F) (.ref b)->Q (.ref b) g)
def JX:Sp:=λz H Q _=>zQ (JX_ H Q) z
theorem Yy{G:yQ}(vs:List V)(H:Hp)(Q:VK)(E:XK)(h:JX vs H Q E):He G vs H Q (λ_ _ _=>False):=by
 k_dat 0"u"
 .obtain⟨p,P,S,t,F,ok,so,rv,ru,rfl,z,D,q⟩:=h;have e0:Jy (caps P S) (.str t)= .inr F:=D;exact⟨p,P,S,.str t,ok,so,rv,ru,Aa.str,λI e=>(by cases e;exact z),λn g a e=>(by rw[e0]at e;cases e),λJ g b e=>(by rw[e0]at e;cases e;exact q b g)⟩
theorem AM{t u:TS}(h:∀U:L2.St->Hp->Prop,U=u D->t { D with nx:=U} σ H):Mq t u D σ H:=h _ rfl
theorem B9{i:Nat}{v:V}{Q:L2.St->Hp->Prop}(h:Q (σ.set i (some v)) H):DS i v σ H Q:=h
theorem Ca(h:D.nx σ H):Mp D σ H:=h
theorem Pz{TB:yQ}{z:Str}(h:H TB=some (.tbl #[])):TabIn H TB z:=⟨#[],h,trivial,λg v e=>(by have:(none:yW)=some v:=e;cases this)⟩
theorem PC{g:Type}(x:g):∀n:Nat,(List.replicate n [x]).flatten=List.replicate n x
 |0=>rfl
 |n+1=>by rw[aH,cK,PC x n,aH];rfl
theorem Yz{cs:yV}{ws:List Str}(z:ws.length=cs.length)(h:∀(i:Nat) w c,ws[i]? =some w->cs[i]? =some c->∃n:Nat,w=nT (n:Int)/\(n:Int)<=c):CP cs ws=true:=by
 unfold CP;rw[Zv z,aE];refine Zx.mpr λb D=>?_
 obtain⟨i,hi⟩:=Zz D;rw[ck]at hi;split at hi
 .rename_i c w I g;cases hi;obtain⟨n,rfl,G⟩:=h i w c g I;exact WQ G
 .cases hi
theorem Hu{P:PL}{S:SY}{F:yZ}(ok:P.ok)(so:S.ok P.bs.length)(fo:FOk P S F):L7 F:=by
 have x8:=so.x8;have b4:=ok.b4;have lf:=fo.len;refine⟨by lia,λr G=>?_⟩;obtain⟨i,hi⟩:=Zz G;have O:=fo.row i r hi;have g:i<S.ex.length:=by have:=(Y3.mp hi).1;lia
 refine⟨by lia,λn J=>?_⟩;obtain⟨j,z⟩:=Zz J;have I:=B7 (S:=S) ok _ (Y8 (Br g));obtain⟨c,D⟩:∃c,(Ba P.bs S.fs i)[j]? =some c:=⟨_,Y6 (by have:=(Y3.mp z).1;lia)⟩;have b:=fo.bd i r j n c hi z D;have L:=I.1 c (Y8 D);lia
theorem PD{c d:Nat}(g:c≠d):∀ {D:List Str},(∀p∈D,d ∉ p.cps.toList)->d ∉(Str.join ⟨#[c]⟩ D).cps.toList
 |[],_=>λz=>by cases z
 |[x],h=>h x (Z2.mpr rfl)
 |x::y::r,h=>λz=>by
  rw[Gd]at z;rcases ZQ.mp z with z | z
  .exact h x (Z9 ..) z
  .rcases Z4.mp z with z | z
   .exact g z.symm
   .exact PD g (λp k=>h p (Z3 _ k)) z
theorem PF{n:Int}(h0:0<=n)(g:n<=9):32 ∉(nT n).cps.toList/\47 ∉(nT n).cps.toList:=by
 obtain⟨k,rfl⟩:=bU h0;exact(by decide+kernel:∀k:Nat,k<10->32 ∉(nT (k:Int)).cps.toList/\47 ∉(nT (k:Int)).cps.toList) k (by lia)
theorem YA{r:yV}(h:∀n∈r,0<=n/\n<=9)(D:r≠ []):AF (Bw r) " "=r.map nT:=by
 unfold Bw;rw[Mb];exact Pl (λz=>D (di.mp z)) λw G=>by
  obtain⟨n,g,rfl⟩:=Zg.mp G;exact(PF (h n g).1 (h n g).2).1
theorem YB{F:yZ}(h:∀r∈F,∀n∈r,0<=n/\n<=9)(J:F≠ []):AF (BW F) "/"=F.map Bw:=by
 unfold BW;rw[Pn];refine Pl (λz=>J (di.mp z)) λw I=>?_
 obtain⟨r,g,rfl⟩:=Zg.mp I;unfold Bw;rw[Mb,JS];exact PD (by decide) λx G=>by
  obtain⟨n,D,rfl⟩:=Zg.mp G;exact(PF (h r g n D).1 (h r g n D).2).2
theorem Mf{P:PL}{S:SY}{F:yZ}(ok:P.ok)(so:S.ok P.bs.length)(fo:FOk P S F):Cm (caps P S) (AF (BW F) "/")= .inr F:=by
 have G:=Hu ok so fo;have x1:=so.x1;have b1:=ok.b1;have lf:=fo.len;rw[YB (λr g=>(G.2 r g).2) (λz=>by rw[z]at lf;have:(0:Nat)=S.ex.length:=lf;lia)];have at_:∀i r,F[i]? =some r->BO (caps P S) (F.map Bw) i=some r:=λi r g=>by
  have hi:i<S.ex.length:=by have:=(Y3.mp g).1;lia
  have hm:=Y8 g;have I:=fo.row i r g;unfold BO;rw[Z1 (by rw[Bs];exact hi)];have Z:(caps P S).getD i []=Ba P.bs S.fs i:=by rw[Y7,Br hi];rfl
  have e2:(F.map Bw).getD i Str.empty=Bw r:=by rw[Y7,YU,g];rfl
  have D:=(G.2 r hm).2;rw[Z,e2,YA D (λz=>by rw[z]at I;have:(0:Nat)=P.bs.length:=I;lia)];unfold F9;have lc:(Ba P.bs S.fs i).length=P.bs.length:=(FOk.caps (S:=S) ok).row i _ (Br hi);rw[Z1 (Yz (by rw[Y0];lia) λj w c J O=>?_)]
  .congr 1
   rw[bo];refine(List.map_congr_left λn hn=>?_).trans (List.map_id r);obtain⟨h0,h9⟩:=D n hn;obtain⟨k,rfl⟩:=bU h0;exact O1 k (by lia)
  .rw[YU]at J;obtain⟨x,hx,rfl⟩:=Zi.mp J;have b:=fo.bd i r j x c g hx O;obtain⟨k,rfl⟩:=bU b.1;exact⟨k,rfl,b.2⟩
 unfold Cm;rw[Y0,OZ λj L=>by rw[at_ j _ (Y6 L)];rfl];dsimp only;rw[YY (by rw[Bs];lia)]
 congr 1
 refine cY λi=>?_
 rw[YU]
 by_cases hi:i<F.length
 .rw[ai hi,Y6 hi];show some ((BO _ _ i).getD [])=_;rw[at_ i _ (Y6 hi)];rfl
 .rw[Zu (by rw[ZU];lia),Zu (by lia)];rfl
theorem YC(t:Str):BE (Str.ofString "fire " ++t)=some (Str.ofString "fire",Sum.inl t):=by
 have D:(Str.ofString "fire ").cps.toList=(Str.ofString "fire").cps.toList++[32]:=by decide
 have g:(Str.ofString "fire " ++t).cps.toList=(Str.ofString "fire").cps.toList++32::t.cps.toList:=by
  show((Str.ofString "fire ").cps++t.cps).toList=_;rw[aF,D,cL];rfl
 have fr:32 ∉(Str.ofString "fire").cps.toList:=by decide
 rcases Pm (Str.ofString "fire " ++t) with⟨hn,_⟩ | ⟨a,b,ha,ht,hp⟩
 .exact absurd (by rw[g];exact Z5 _ (Z9 ..)) hn
 .have e:=L9 fr ha (g.symm.trans ht);have G:a=Str.ofString "fire" :=(Str.ext' (cq.mp e.1)).symm;have z:b=t:=(Str.ext' (cq.mp e.2)).symm;unfold BE;rw[hp,G,z,Z1 ⟨rfl,by show(Str.ofString " ").length≠0;decide⟩]
theorem YD{lo hi:Option Int}{v:V}(h:v∈Bc xs lo hi):v∈xs:=by unfold Bc at h;exact List.mem_of_mem_drop (de h)
theorem PH{P:PL}{S:SY}{f:Str}(a:Bl P S Fs F f ps s Fs')(h:f=Str.ofString "show"):s=BW F/\Fs'=Fs:=by
 cases a<;>first | exact⟨rfl,rfl⟩ | exact absurd h (by decide)
theorem PJ{P:PL}{S:SY}{f:Str}(r:BZ P S Fs f ps i)(h:f=Str.ofString "show"):False:=by
 cases r<;>exact absurd h (by decide)
theorem YE{P:PL}{S:SY}{f:Str}(r:BZ P S Fs f ps i)(h:f=Str.ofString "fire")(e:ps= .inl t):∃n,Cm (caps P S) (AF t "/")= .inl n:=by
 cases r with
 |fire h'=>cases e;exact⟨_,h'⟩
 |_=>first | exact absurd h (by decide) | cases e
def Hd(t:Str):Prop:=t.cps.toList.head? ≠some 108
theorem YF{f:Str}(h:Hd t)(g:BE t=some (f,ps)):f≠("least" :Str):=λz=>by
 have D:(B8 t " ").1=f\/f=("fire" :Str):=by
  unfold BE at g;split at g
  .cases g;exact .inr rfl
  .split at g
   .cases g
   .split at g
    .cases g;exact .inl rfl
    .cases g
 subst z;rcases D with D | D
 .refine h ?_;have G:(Str.ofString "least").cps.toList=108::(Str.ofString "least").cps.toList.tail:=by decide
  rcases Pm t with⟨_,hq⟩ | ⟨a,b,_,ht,hq⟩
  .rw[hq]at D;rw[show t=Str.ofString "least" from D,G];rfl
  .rw[hq]at D;rw[ht,show a=Str.ofString "least" from D,G];rfl
 .revert D;decide
theorem PN:BE "show"=some (Str.ofString "show",Sum.inr []):=by decide+kernel
theorem Mg{a b:Str}{c:Nat}{l:List Nat}(h:a.cps.toList=c::l)(n:c≠108):Hd (a++b):=by
 unfold Hd;show(a.cps++b.cps).toList.head? ≠_;rw[aF,h];exact λz=>n (by simpa using z)
def GL(t:Str):Prop:=Hd t/\t.length<=200000
theorem YG{a:Str}(h:a.length<=100000):GL (Str.ofString "stoke " ++a):=⟨Mg (by decide:(Str.ofString "stoke ").cps.toList=115::(Str.ofString "stoke ").cps.toList.tail) (by decide),by rw[bF];have e:(Str.ofString "stoke ").length=6:=(by decide);lia⟩
theorem YH{a:Str}(h:a.length<=100000):GL (Str.ofString "bank " ++a):=⟨Mg (by decide:(Str.ofString "bank ").cps.toList=98::(Str.ofString "bank ").cps.toList.tail) (by decide),by rw[bF];have e:(Str.ofString "bank ").length=5:=(by decide);lia⟩
theorem YI{a:Str}(h:a.length<=100000):GL (Str.ofString "fire " ++a):=⟨Mg (by decide:(Str.ofString "fire ").cps.toList=102::(Str.ofString "fire ").cps.toList.tail) (by decide),by rw[bF];have e:(Str.ofString "fire ").length=5:=(by decide);lia⟩
theorem gl_undo:GL "undo" :=⟨by unfold Hd;decide,by decide⟩
theorem GL.nl(h:GL t):∀f g,CQ (.str t)=some (f,g)->f≠Str.ofString "least" :=λ_ _ e=>YF h.1 e
theorem YJ{P:PL}{S:SY}{f:Str}(a:Bl P S Fs F f ps s Fs')(g:f=Str.ofString "fire")(z:ps= .inl t):s=Str.ofString "ok" /\∃G,Cm (caps P S) (AF t "/")= .inr G/\Fs'=Fs++[G]:=by
 cases a<;>first | exact absurd g (by decide) | skip
 cases z;exact⟨rfl,_,by assumption,rfl⟩
theorem PP{P:PL}{S:SY}{Z:FL}{d r:yP}(h:Rs P S Fs F d r Fs')(hz:Fs.head? =some Z):Fs'.head? =some Z:=by
 cases h with
 |told _ a=>
  cases Fs with
  |nil=>cases hz
  |cons x l=>
   cases a<;>first | exact hz | skip
   cases l with
   |nil=>rename_i h;exact absurd h (by simp)
   |cons y l=>exact hz
 |_=>exact hz
theorem YK{P:PL}{S:SY}{r:yP}(h:Rs P S Fs F (.str "undo") r Fs')(n:1<=Fs.length):Fs'.length=max 1 (Fs.length-1):=by
 have g:CQ (.str "undo")=some (Str.ofString "undo",.inr []):=Px;cases h with
 |line h=>rw[g]at h;cases h
 |word h r _=>
  rw[g]at h;cases h
  by_cases c:1<Fs.length
  .exact absurd r (Md c rfl)
  .lia
 |text h r=>
  rw[g]at h;cases h
  by_cases c:1<Fs.length
  .exact absurd r (Md c rfl)
  .lia
 |told h a=>
  rw[g]at h;cases h;rw[Pw a rfl,cM]
  by_cases c:1<Fs.length
  .lia
  .exfalso
   have:Fs.length=1:=by lia
   exact Hq a (.undo this) rfl rfl
theorem Rs.nm{P:PL}{S:SY}{d r:yP}(h:Rs P S Fs F d r Fs'):Ck r=true:=by cases h<;>rfl
theorem Rs.flat{P:PL}{S:SY}{d r:yP}(h:Rs P S Fs F d r Fs'):r.depth<=20/\PyData.eqv r r=true:=by
  cases h <;> (constructor; · simp [PyData.depth, PyData.depthAll]
               . simp[PyData.eqv,PyData.eqvAll])
theorem YL{a b c:Str}{g:Int}(h0:0<=g)(z:g<3):∃x,B5 [V.str a,V.str b,V.str c] g=some (.str x)/\(x=a\/x=b\/x=c):=by
 have:g=0\/g=1\/g=2:=by lia
 rcases this with rfl | rfl | rfl
 .exact⟨a,rfl,.inl rfl⟩
 .exact⟨b,rfl,.inr (.inl rfl)⟩
 .exact⟨c,rfl,.inr (.inr rfl)⟩
theorem YM(h:PyData.strOk s=true):(PyData.str s).canLay0=true/\(PyData.str s).hasDict=false/\(PyData.str s).depth<=20/\PyData.eqv (.str s) (.str s)=true:=by
 have e:(PyData.str s).canLay0=true:=by simp[PyData.canLay0,h]
 exact⟨e,aC _ e,by simp[PyData.depth],by simp[PyData.eqv]⟩
theorem Mh(h:∀s∈ss,PyData.strOk s=true):(PyData.list (ss.map .str)).canLay0=true/\(PyData.list (ss.map .str)).hasDict=false/\(PyData.list (ss.map .str)).depth<=20/\PyData.eqv (.list (ss.map .str)) (.list (ss.map .str))=true:=by
 have e:(PyData.list (ss.map .str)).canLay0=true:=by
  simp only[PyData.canLay0]
  induction ss with
  |nil=>rfl
  |cons a l ih=>
   simp only[ZJ,PyData.canLayAll0,PyData.canLay0,h a (Z9 ..),aE];exact ih λs g=>h s (Z3 _ g)
 refine⟨e,aC _ e,?_,?_⟩
 .have:PyData.depthAll (ss.map .str)<=10:=by
   clear e h
   induction ss with
   |nil=>simp[PyData.depthAll]
   |cons a l ih=>simp only[ZJ,PyData.depthAll,PyData.depth];lia
  simp only[PyData.depth];lia
 .simp only[PyData.eqv];clear e h
  induction ss with
  |nil=>rfl
  |cons a l ih=>simp only[ZJ,PyData.eqvAll,PyData.eqv,ih];simp
theorem Five.ok{P:PL}{S:SY}(f:Five P S F ss):∀s∈ss,PyData.strOk s=true:=λs g=>by
 obtain⟨i,hi⟩:=Zz g;have l:=(Y3.mp hi).1;rw[f.1]at l;obtain⟨_,_,_,_,a⟩:=f.2 i _ s (Y6 (show i<five.length from l)) hi;exact Pp a
theorem Ei{p:yQ}:∀g:List Str,Ad p H (g.map .str) (g.map V.str)
 |[]=> .nil
 |a::l=> .cons Aa.str (Ei l)
theorem Dk.make{CA DA p:yQ}{P:PL}{S:SY}{v u:V}{J:Hp}{D g:yQ}{R:Hp->Prop}(ok:P.ok)(so:S.ok P.bs.length)(rv:Aa p J P.d v)(ru:Aa p J S.d u)(hD:J D=none)(i0:J g=none)(ne:g≠D)
  (q:∀W L B J',Ab J J'->J L=none->Dk CA DA p P S v u D W L J' [.ref B] [By P S]->R J'):Hm CA DA [.ref D,v,u] (upd (upd J g (.own D)) D (.ins DA g [])) (λx H2=>x= .non/\R H2) E0:=by
 have Z:Ab J (upd (upd J g (.own D)) D (.ins DA g [])):=(Ab.new i0).trans (Ab.new (by rw[Aq (Zd ne)];exact hD));refine⟨p,P,S,g,ok,so,Aa.ev (Ev.same Z) _ _ rv,Aa.ev (Ev.same Z) _ _ ru,Ag,λW L B H5 keep O wat i5 i4 rB=>⟨rfl,?_⟩⟩;have I:Ab J H5:=λb o z=>keep b o (Z b o z) λy=>by rw[y,hD]at z;cases z
 exact q W L B H5 I (Z.free i5) ⟨O,⟨ok,so,Aa.ev (Ev.same I) _ _ rv,Aa.ev (Ev.same I) _ _ ru,wat,i4,.cons rB .nil,λG hG=>by rw[Z2.mp hG];exact Xd ok⟩,Y5 _⟩
structure Fx(p TB TL L1 L2 L3:yQ)(H0:Hp):Prop where
 nd:[p,TB,TL,L1,L2,L3].Nodup
 fr:∀b∈ [p,L1,L2,L3],H0 b=none
structure Ls(CA DA p TB TL:yQ)(H0:Hp)(P:PL)(S:SY)(v u:V)(D1 W1 L1 D2 W2 L2 D3 W3 L3:yQ)(J:Hp)(F1 F2 F3:List FL):Prop where
 k1:∃xs,Dk CA DA p P S v u D1 W1 L1 J xs F1
 k2:∃xs,Dk CA DA p P S v u D2 W2 L2 J xs F2
 k3:∃xs,Dk CA DA p P S v u D3 W3 L3 J xs F3
 pn:A3 p J
 tB:TabIn J TB DQ
 tL:TabIn J TL GJ
 e0:EvX [TB,TL] H0 J
section
variable{CA DA p TB TL:yQ}{H0:Hp}{P:PL}{S:SY}{v u:V}{D1 W1 L1 D2 W2 L2 D3 W3 L3:yQ}{J J':Hp}{F1 F2 F3 G:List FL}{M:List yQ}
def Ls.free(s:Ls CA DA p TB TL H0 P S v u D1 W1 L1 D2 W2 L2 D3 W3 L3 J F1 F2 F3){b:yQ}(h:J b=none):b ∉ [p,TB,TL,L1,L2,L3]/\H0 b=none:=by
 obtain⟨⟨_,k1⟩,⟨_,k2⟩,⟨_,k3⟩,⟨_,_,pn⟩,tB,tL,e0⟩:=s;have D:b≠TB:=λz=>TabIn.not_none tB (z ▸ h)
 have G:b≠TL:=λz=>TabIn.not_none tL (z ▸ h)
 refine⟨λg=>?_,e0.none h (by simp[D,G])⟩;simp only[Z4,Zk,Zs]at g;rcases g with rfl | g | g | rfl | rfl | rfl
 .rw[pn]at h;cases h
 .exact D g
 .exact G g
 .rw[k1.wat.lst]at h;cases h
 .rw[k2.wat.lst]at h;cases h
 .rw[k3.wat.lst]at h;cases h
variable(s:Ls CA DA p TB TL H0 P S v u D1 W1 L1 D2 W2 L2 D3 W3 L3 J F1 F2 F3)(x:Fx p TB TL L1 L2 L3 H0)
def Ls.rest(e:EvX M J J')(h:∀b∈M,b∈ [p,TB,TL,L1,L2,L3]\/H0 b=none):EvX [TB,TL] H0 J':=s.e0.sub e λb g=>by
 rcases h b g with h | h
 .simp only[Z4,Zk,Zs]at h ⊢;rcases h with h | h | h | h | h | h
  .exact .inr (x.fr b (by simp[h]))
  .exact .inl (.inl h)
  .exact .inl (.inr h)
  .exact .inr (x.fr b (by simp[h]))
  .exact .inr (x.fr b (by simp[h]))
  .exact .inr (x.fr b (by simp[h]))
 .exact .inr h
def Ls.out(e:EvX M J J')(h:∀b∈M,b ∉ [p,TB,TL,L1,L2,L3]/\H0 b=none):zI J' F1 F2 F3:=by
 obtain⟨⟨_,k1⟩,⟨_,k2⟩,⟨_,k3⟩,pn,tB,tL,_⟩:=id s;have n:∀a∈ [p,TB,TL,L1,L2,L3],a ∉ M:=λa D z=>(h a z).1 D
 exact⟨⟨_,k1.evx e (n _ (by simp))⟩,⟨_,k2.evx e (n _ (by simp))⟩,⟨_,k3.evx e (n _ (by simp))⟩,Fh pn e (n _ (by simp)),tB.evx e (n _ (by simp)),tL.evx e (n _ (by simp)),s.rest x e λb g=> .inr (h b g).2⟩
def Ls.same(e:Ab J J'):zI J' F1 F2 F3:=s.out x (M:=[]) (EvX.same e) (λ_ h=>by cases h)
def Ls.pen(e:Ev p J J')(pn:A3 p J'):zI J' F1 F2 F3:=by
 have nd:=x.nd;simp only[ax,Z4,Zk,Zs,bi]at nd;obtain⟨⟨I,L,D,G,z⟩,_⟩:=nd;have g:EvX [p] J J':=EvX.ev e (by simp);obtain⟨⟨_,k1⟩,⟨_,k2⟩,⟨_,k3⟩,_,tB,tL,_⟩:=id s;exact⟨⟨_,k1.evx g (by simp[Zd D])⟩,⟨_,k2.evx g (by simp[Zd G])⟩,⟨_,k3.evx g (by simp[Zd z])⟩,pn,tB.ev e,tL.ev e,s.rest x g (by simp)⟩
def Ls.one(e:EvX [L1,TL] J J')(k:Dk CA DA p P S v u D1 W1 L1 J' xs G)(tL:TabIn J' TL GJ):zI J' G F2 F3:=by
 have nd:=x.nd;simp only[ax,Z4,Zk,Zs,bi]at nd;obtain⟨⟨a1,L,I,a4,a5⟩,⟨b1,O,b3,b4⟩,⟨c1,D,g⟩,⟨z,Z⟩,f1,_⟩:=nd;obtain⟨⟨_,k1⟩,⟨_,k2⟩,⟨_,k3⟩,pn,tB,_,_⟩:=id s;exact⟨⟨_,k⟩,⟨_,k2.evx e (by simp[Zd z,Zd D])⟩,⟨_,k3.evx e (by simp[Zd Z,Zd g])⟩,Fh pn e (by simp[I,L]),tB.evx e (by simp[O,b1]),tL,s.rest x e (by simp)⟩
def Ls.two(e:EvX [L2,TL] J J')(k:Dk CA DA p P S v u D2 W2 L2 J' xs G)(tL:TabIn J' TL GJ):zI J' F1 G F3:=by
 have nd:=x.nd;simp only[ax,Z4,Zk,Zs,bi]at nd;obtain⟨⟨a1,O,a3,I,a5⟩,⟨b1,b2,L,b4⟩,⟨Z,c2,z⟩,⟨D,d2⟩,g,_⟩:=nd;obtain⟨⟨_,k1⟩,⟨_,k2⟩,⟨_,k3⟩,pn,tB,_,_⟩:=id s;exact⟨⟨_,k1.evx e (by simp[D,Zd Z])⟩,⟨_,k⟩,⟨_,k3.evx e (by simp[Zd g,Zd z])⟩,Fh pn e (by simp[I,O]),tB.evx e (by simp[L,b1]),tL,s.rest x e (by simp)⟩
def Ls.three(e:EvX [L3] J J')(k:Dk CA DA p P S v u D3 W3 L3 J' xs G):zI J' F1 F2 G:=by
 have nd:=x.nd;simp only[ax,Z4,Zk,Zs,bi]at nd;obtain⟨⟨a1,a2,a3,O,g⟩,⟨b1,b2,b3,b4⟩,⟨c1,Z,D⟩,⟨L,I⟩,z,_⟩:=nd;obtain⟨⟨_,k1⟩,⟨_,k2⟩,⟨_,k3⟩,pn,tB,tL,_⟩:=id s;exact⟨⟨_,k1.evx e (by simp[I])⟩,⟨_,k2.evx e (by simp[z])⟩,⟨_,k⟩,Fh pn e (by simp[g]),tB.evx e (by simp[b4]),tL.evx e (by simp[D]),s.rest x e (by simp)⟩
def Ls.say1(e:EvX [L1] J J')(k:Dk CA DA p P S v u D1 W1 L1 J' xs G):zI J' G F2 F3:=by
 have nd:=x.nd;simp only[ax,Z4,Zk,Zs,bi]at nd;exact s.one x (e.mono λb z=>by simp[Z2.mp z]) k (s.tL.evx e (by simp[nd.2.2.1.1]))
def Ls.say2(e:EvX [L2] J J')(k:Dk CA DA p P S v u D2 W2 L2 J' xs G):zI J' F1 G F3:=by
 have nd:=x.nd;simp only[ax,Z4,Zk,Zs,bi]at nd;exact s.two x (e.mono λb z=>by simp[Z2.mp z]) k (s.tL.evx e (by simp[nd.2.2.1.2.1]))
def Ls.bet(e:EvX [p,L2,TB] J J')(k:Dk CA DA p P S v u D2 W2 L2 J' xs F2)(pn:A3 p J')(tB:TabIn J' TB DQ):zI J' F1 F2 F3:=by
 have nd:=x.nd;simp only[ax,Z4,Zk,Zs,bi]at nd;obtain⟨⟨a1,L,I,a4,g⟩,⟨b1,O,b3,b4⟩,⟨c1,G,Z⟩,⟨D,d2⟩,z,_⟩:=nd;obtain⟨⟨_,k1⟩,⟨_,k2⟩,⟨_,k3⟩,_,_,tL,_⟩:=id s;exact⟨⟨_,k1.evx e (by simp[Zd I,D,Zd O])⟩,⟨_,k⟩,⟨_,k3.evx e (by simp[Zd g,Zd z,Zd b4])⟩,pn,tB,tL.evx e (by simp[Zd L,G,Zd b1]),s.rest x e (by simp)⟩
end
theorem YN{K TB TL vs H Q E}(h:Ht K TB TL vs H Q E):vs.length=1:=by cases h;rfl
theorem za0:As ["_law_script","_law_cell_here","_law_pen_here","_law_plant_here","_law_story_here","_law_caps_here","_law_one","_law_other","_law_third","_law_lines","_law_first","_law_turn","_law_numbers","_law_some","_law_line","_law_told","_law_text_here","_law_read"] ["_law_script"] (Am wa1):=Az
inductive Sgx(a:yQ)(σ:L2.St):Prop
 |mk(x1 x2 x3 x4 x5 x6 x7 x8 x9 x10 x11 x12 x13 x14 x15 x16 x17:_)(_:σ=[some (.ref a),x1,x2,x3,x4,x5,x6,x7,x8,x9,x10,x11,x12,x13,x14,x15,x16,x17])
inductive Shx(a:yQ)(cell:Int)(p:yQ)(v u:V)(CC D1 D2 D3 LN R:yQ)(z:Option V)(σ:L2.St):Prop
 |mk(x y t b c d:_)(_:σ=[some (.ref a),some (.int cell),some (.ref p),some v,some u,some (.ref CC),some (.ref D1),some (.ref D2),some (.ref D3),some (.ref LN),some (.ref R),x,y,t,b,c,z,d])
theorem YO{M:yQ}{ds:List yQ}{c TB TL CA DA:yQ}{lf:yQ}{lfd:FuncData}(F:GI K "law" "law" wa1 lf lfd c)(hC:PySem.W.CodeHd base c TL)(w9:base.BuiltinsAt mg TL)(nLB:TL≠TB)(T:Tx mg)(C:Tc K mg M ds)(DK:Gc K DA)(j6:Fn P w K mg base 17 "_law_answers" ["_law_desk"] (JV CA DA))(yba:Fn P w K mg base 19 "_law_between" ["_law_pen_here","_law_desk"] (JW CA DA TB))(ybb:Fn P w K mg base 1 "_law_caps" ["_law_plant_here","_law_story_here"] IY)(ybc:Fn P w K mg base 1 "_law_cell" ["_law_script","_law_k"] (IM K))(u9:FY P w K mg base)(ybd:Fn P w K mg base 2 "_law_firing" ["_law_pen_here","_law_caps_here"] Jq)(ybe:Fn P w K mg base 1 "_law_pen" ["_law_cell_here"] IN)(ybf:Fn P w K mg base 2 "_law_plant" ["_law_pen_here"] IO)(ybg:Fn P w K mg base 2 "_law_story" ["_law_pen_here","_law_plant_here"] IW)(ybh:Fn P w K mg base 1 "_law_text" ["_law_firing_here"] JR)(ybi:Fn P w K mg base 10 "firing_read" ["plant","story","text"] JX)(yan:Fn P w K mg base 12 "firing_text" ["plant","story","firing"] Ha)(yao:Ms P w K mg base 12 "Desk" DA ["self","plant","story"] (Hm CA DA))(ya5:Mt CX0 P w K mg base 16 DA "say" ["self","line"] (Hr ds CA DA))(ya7:Mt (Bm P w) P w K mg base 16 DA "say" ["self","line"] (Fg ds CA DA))(ya6:GH P w K mg base 18 "_law_said" ["_law_call"] (EE P w K mg base 17 (WB K M ds))):BK P w K mg base CX0 20 lf lfd ["_law_script"] (Ht K TB TL):=by
 have WC:=DK.cls;refine F.ok za0 (λvs H Q E h=>YN h) (λA outer s H vs Q E I h=>?_);refine⟨_,(Ai (B4 Zr rfl (Cf K (Ay E2 (Ci (Ah (zA ybc I (Ar (cy 0) Ak)))) (Eo (KT K) (cy 0) (CY Ak) (CY Ak)))) (zC 1) (Ai (zD 2 (zA ybe I (Ah (cy 1)))) (Ai (zD 3 (zA ybf I (Ah (cy 2)))) (Ai (zD 4 (zA ybg I (Ar (cy 2) (cy 3)))) (Ai (zD 5 (zA ybb I (Ar (cy 3) (cy 4)))) (Ai (Bb (Cu (AH (IB yao (I.mono (by decide)) rfl (Ar (cy 3) (cy 4))) (IB yao (I.mono (by decide)) rfl (Ar (cy 3) (cy 4))) (IB yao (I.mono (by decide)) rfl (Ar (cy 3) (cy 4))))) (zF 6 7 8)) (Ai (Qq (i:=9) (j:=10) rfl za0.nd rfl rfl (by decide) rfl rfl (Ar (Ci CS) (zA j6 I (Ah (cy 6)))) (by rfl)) (Ai (B4 Zr rfl (CD rfl T.b_range (Ah (Ay Bg Ak (zA u9 I (Ar (cy 2) Ak))))) (zC 11) (Ai (zD 12 (Ci (AH (zA u9 I (Ar (cy 2) (zG (cy 5)))) (zA u9 I (Ar (cy 2) (zG ((AI (Bd K) (cy 5) Ak (λ_ _=>rfl)))))) (zA u9 I (Ar (cy 2) Ak))))) (Ai (A8 (CU PySem.F.plainAttrs_list PySem.F.slot_list_append PySem.F.type_list_append C2 (cy 9) (Ah (Ay HG Ax (CV K PySem.F.plainAttrs_str PySem.F.slot_str_join PySem.F.type_str_join FE Ax (Ah (AW ["_law_number"] [none] rfl (Cf K (cy 12)) (AB.of rfl) (λ_ _ _ _=>(zC 0)) (λ_ _ _ _=>AR) (λ_ _ _ _=>(A6 DT rfl T.b_str Dh (Ah (cy 0))))))))))) (Ai (zD 13 (Ci (AH Ax (Ay HG Ax (A6 DT rfl T.b_str Dh (Ah (AI (Bj K) (cy 12) Ak (λ_ _=>rfl))))) (Ay HG Ax (zA ybh I (Ah (zA ybd I (Ar (cy 2) (cy 5))))))))) (An (A8 (CU PySem.F.plainAttrs_list PySem.F.slot_list_append PySem.F.type_list_append C2 (cy 9) (Ah (AI (Bj K) (cy 13) (zA u9 I (Ar (cy 2) Ak)) (λ_ _=>rfl)))))))))) (Ai (B4 Zr rfl (Cf K (cy 9)) (zC 14) (Ai (zD 15 (FN (N':=["_law_line","_law_one"]) (cap:=[some 14,some 6]) ya6 (I.mono (by decide)) rfl (λ_=>rfl) rfl hC w9 (AB.of rfl) (by decide) rfl rfl rfl rfl (λ_ _ _ _=>rfl) (λA outer s H f c E l6=>(Cj isDef_lam.passes WC ya7 ((l6.deeper _).mono (by decide)) (cy 1) (Ah (cy 0)))))) (An (A1 (PW.pt (DZ (BR (BM (zA yba I (Ar (cy 2) (cy 7))))) (El (AU (D7 I) (FN (N':=["_law_line","_law_other"]) (cap:=[some 14,some 7]) ya6 (I.mono (by decide)) rfl (λ_=>rfl) rfl hC w9 (AB.of rfl) (by decide) rfl rfl rfl rfl (λ_ _ _ _=>rfl) (λA outer s H f c E l6=>(Cj isDef_lam.passes WC ya7 ((l6.deeper _).mono (by decide)) (cy 1) (Ah (cy 0))))) (cy 15) (AV _))))) (An (Av Cp)) AZ)))) (Ai (zD 16 (Cj Cb WC ya5 (I.mono (by decide)) (cy 6) (Ah Ax))) (Ai (zD 17 (zA ybi I (AH (cy 3) (cy 4) (cy 16)))) (Ai (A1 (PW.pt (DZ (AU (D7 I) (Cj Cb WC ya5 (I.mono (by decide)) (cy 8) (Ah (Ay HG Ax (cy 16)))) Ax (AV _)) (El (AU (D7 I) (zA yan I (AH (cy 3) (cy 4) (cy 17))) (cy 16) (AV _))))) (An (Av Cp)) AZ) (Ai (A1 (PW.pt (DZ (AU (D7 I) (zA j6 I (Ah (cy 6))) (zA j6 I (Ah (cy 7))) (AV _)) (El (AU (D7 I) (zA j6 I (Ah (cy 6))) (zA j6 I (Ah (cy 8))) (AV _))))) (An (Av Cp)) AZ) (Ai (B4 Zr rfl (Cf K (Ay RJ (Ci (Ah Ax)) (zG (cy 9)))) (zC 14) (Ai (zD 15 (FN (N':=["_law_line","_law_one"]) (cap:=[some 14,some 6]) ya6 (I.mono (by decide)) rfl (λ_=>rfl) rfl hC w9 (AB.of rfl) (by decide) rfl rfl rfl rfl (λ_ _ _ _=>rfl) (λA outer s H f c E l6=>(Cj isDef_lam.passes WC ya7 ((l6.deeper _).mono (by decide)) (cy 1) (Ah (cy 0)))))) (An (A1 (AU (D7 I) (FN (N':=["_law_line","_law_other"]) (cap:=[some 14,some 7]) ya6 (I.mono (by decide)) rfl (λ_=>rfl) rfl hC w9 (AB.of rfl) (by decide) rfl rfl rfl rfl (λ_ _ _ _=>rfl) (λA outer s H f c E l6=>(Cj isDef_lam.passes WC ya7 ((l6.deeper _).mono (by decide)) (cy 1) (Ah (cy 0))))) (cy 15) (AV _)) (An (Av Cp)) AZ)))) (An (A1 (PW.pt (DZ (AU (D7 I) (zA j6 I (Ah (cy 6))) (cy 10) (AV _)) (DZ (AU (D7 I) (zA j6 I (Ah (cy 7))) (cy 10) (AV _)) (El (AU (D7 I) (Cj Cb WC ya5 (I.mono (by decide)) (cy 8) (Ah Ax)) (cy 16) (AV _)))))) (An (Av Cp)) AZ)))))))))))))))) (An (Av Cp))),?_⟩;k_dat 0"u"
 .rename_i a;obtain⟨ns,hS,hn63,hTB,hTL,q⟩:=h;have tB0:TabIn H TB DQ:=Pz hTB;have tL0:TabIn H TL GJ:=Pz hTL;refine⟨ns,hS,by decide,λc0 l1 H01 s01 hl1 k01=>?_⟩;have hS1:Al K H01 a (ns.map V.int):=s01.seq hS;refine⟨1,rfl,2,rfl,a,_,rfl,hS1,λl2 hl2=>?_⟩;have lc:(Bc (ns.map V.int) (some 1) (some 2)).length<=63:=Ze (HN _ _ _) (by rw[Y0];exact hn63);refine⟨l1,l2,[.int c0],_,rfl,rfl,(Ab.new hl2) _ _ k01,Ag,Oj (by rw[Zt];lia),λL0 H02 s02 hL kL=>?_⟩;have allI:∀v∈ [V.int c0]++Bc (ns.map V.int) (some 1) (some 2),∃i,v= .int i:=λv hv=>by
   rcases ZQ.mp hv with hv | hv
   .exact⟨c0,Z2.mp hv⟩
   .obtain⟨i,_,e⟩:=Zg.mp (YD hv);exact⟨i,e.symm⟩
  have ss2:=s01.trans ((Ab.new (o:= .lst (Bc (ns.map V.int) (some 1) (some 2))) hl2).trans s02);generalize [V.int c0]++Bc (ns.map V.int) (some 1) (some 2)=xs at allI kL;refine⟨L0,rfl,⟨xs,Al.of kL⟩,Gh (xs:=xs) (λi σ H'=>Sgx a σ/\H' L0=some (.lst xs)/\TabIn H' TB DQ/\TabIn H' TL GJ) ⟨⟨_,_,_,_,_,_,_,_,_,_,_,_,_,_,_,_,_,rfl⟩,kL,tB0.same ss2,tL0.same ss2⟩ (λi σ H' _ h=>Al.of h.2.1) (λi x σ H0 hx h=>?_) fun σ H1 h=>q H1⟩;obtain⟨⟨x1,x2,x3,x4,x5,x6,x7,x8,x9,x10,x11,x12,x13,x14,x15,x16,x17,rfl⟩,hL0,tB,tL⟩:=h;obtain⟨cell,rfl⟩:=allI x (Y8 hx)
  k_dat 0"t"
  refine λp l f hp=>?_
  have np:=Ab.new (o:= .lst [.int l,.int f]) hp;have pn1:A3 p (upd H0 p (.lst [.int l,.int f])):=⟨l,f,Ag⟩;generalize upd H0 p (.lst [.int l,.int f])=H1 at np pn1 ⊢;subst D
  k_dat 0"t"
  refine⟨pn1,λv H2 bs es lo hi st gp rv e2 pn2=>?_⟩;obtain⟨P,ok,ed⟩:=gp.pl;rw[ed]at rv;subst D
  k_dat 0"t"
  refine⟨pn2,P,ok,rv,λu H3 S so ru e3 pn3=>?_⟩;have rv3:=Aa.ev e3 _ _ rv;subst D
  k_dat 0"t"
  refine⟨p,P,S,ok,so,rv3,ru,λvc H4 s4 rc=>?_⟩;have e04:EvX [p] H0 H4:=(((EvX.same np).trans (EvX.ev e2 (by simp))).trans (EvX.ev e3 (by simp))).trans (EvX.same s4);have e14:=(e2.trans e3).trans (Ev.same s4);have u0:=pn3.same s4;have tB4:=(tB.same np).ev e14;have tL4:=(tL.same np).ev e14;have rv4:=Aa.ev (Ev.same s4) _ _ rv3;have ru4:=Aa.ev (Ev.same s4) _ _ ru;obtain⟨CC,cx,rfl,hC4,rcx⟩:=Aa.firing (F:=caps P S) rc;have x1:=so.x1;have x8:=so.x8;have b1:=ok.b1;have b4:=ok.b4;have lc:=rcx.len;rw[Y0,Bs]at lc;obtain⟨y0,hy0,ry0⟩:=Ad.get (i:=0) rcx (by rw[YU,Br (by lia)];rfl);obtain⟨R0,rfl,hR04⟩:=Aa.ofRow ry0;have l0:(Ba P.bs S.fs 0).length=P.bs.length:=(B7 (S:=S) ok _ (Y8 (Br (i:=0) (by lia)))).2;have l0':((Ba P.bs S.fs ((0:Nat):Int)).length:Int)=(P.bs.length:Int):=ZI _ l0;have fz:∀ {b:yQ},b≠p->H4 b=none->H0 b=none:=λn z=>e04.none z (by simp[n])
  have nL0:L0 ∉ [TB,TL]:=by simp[tB.ne hL0,tL.ne hL0]
  clear rv ru rv3 e2 e3 pn1 pn2 pn3 np tB tL;subst D
  k_dat 0"t"
  intro D1 d1 v8 hd1 n1;refine Dk.make (p:=p) ok so rv4 ru4 v8 hd1 n1 λW1 L1 B1 J1 s1 hL1 k1=>?_
  intro D2 d2 hD2 hd2 n2;refine Dk.make (p:=p) ok so k1.wat.rv k1.wat.ru hD2 hd2 n2 λW2 L2 B2 J2 s2 hL2 k2=>?_
  intro D3 d3 j7 hd3 n3;refine Dk.make (p:=p) ok so k2.wat.rv k2.wat.ru j7 hd3 n3 λW3 L3 B3 J3 s3 u6 k3=>?_
  have kk1:=k1.same (s2.trans s3);have kk2:=k2.same s3;have nL12:L1≠L2:=λz=>by rw[<-z,k1.wat.lst]at hL2;cases hL2
  have nL13:L1≠L3:=λz=>by rw[<-z,(k1.same s2).wat.lst]at u6;cases u6
  have nL23:L2≠L3:=λz=>by rw[<-z,k2.wat.lst]at u6;cases u6
  have f2:=s1.free hL2;have f3:=(s1.trans s2).free u6;have pL1:L1≠p:=u0.ne hL1;have pL2:L2≠p:=u0.ne f2;have pL3:L3≠p:=u0.ne f3;have l7:=s1.trans (s2.trans s3);have L:Fx p TB TL L1 L2 L3 H0:=by
   obtain⟨_,_,hp4⟩:=u0;have a1:p≠TB:=tB4.ne hp4;have a2:p≠TL:=tL4.ne hp4;have b1:∀ {b:yQ},H4 b=none->b≠TB:=λh z=>TabIn.not_none tB4 (z ▸ h)
   have b2:∀ {b:yQ},H4 b=none->b≠TL:=λh z=>TabIn.not_none tL4 (z ▸ h)
   refine⟨?_,λb hb=>?_⟩
   .simp only[ax,Z4,Zk,Zs,bi,List.nodup_nil,cu,not_false_eq_true];exact⟨⟨a1,a2,pL1.symm,pL2.symm,pL3.symm⟩,⟨nLB.symm,(b1 hL1).symm,(b1 f2).symm,(b1 f3).symm⟩,⟨(b2 hL1).symm,(b2 f2).symm,(b2 f3).symm⟩,⟨nL12,nL13⟩,nL23⟩
   .simp only [Z4,Zk,Zs] at hb;rcases hb with rfl | rfl | rfl | rfl
    .exact hp
    .exact fz pL1 hL1
    .exact fz pL2 f2
    .exact fz pL3 f3
  have ls3:Ls CA DA p TB TL H0 P S v u D1 W1 L1 D2 W2 L2 D3 W3 L3 J3 [By P S] [By P S] [By P S]:=⟨⟨_,kk1⟩,⟨_,kk2⟩,⟨_,k3⟩,u0.same l7,tB4.same l7,tL4.same l7,((EvX.refl (M:=[TB,TL])).sub e04 λc hc=> .inr (by rw[Z2.mp hc];exact hp)).trans (EvX.same l7)⟩;have hC3:=l7 _ _ hC4;have hR03:=l7 _ _ hR04;clear k1 k2 k3 kk1 kk2 tB4 tL4 u0 rv4 ru4 rcx;intro t9 J4 s9 k9;refine⟨t9,_,rfl,Ae.of k9,rfl,_,_,rfl,_,_,rfl,_,_,rfl,rfl,?_⟩;subst D
  k_dat 0"t"
  intro LN J5 s5 hLN kLN;have fN:=(ls3.same L s9).free hLN;have ls5:=(ls3.same L s9).same L s5;obtain⟨xq,kk⟩:=ls5.k1;refine⟨p,P,S,v,u,W1,L1,xq,_,kk,by simp,λR J6 xr ss0 k6 e6 hR kR f50=>⟨_,_,rfl,?_⟩⟩;have fR:=ls5.free hR;have ls6:=ls5.say1 L e6 k6;have nN:=fN.1;have nR:=fR.1;simp only[Z4,Zk,Zs,bi]at nN nR;obtain⟨j4,nNB,nNL,u8,nN2,nN3⟩:=nN;obtain⟨nRp,nRB,nRL,r8,w8,nR3⟩:=nR;have nNR:LN≠R:=λz=>by rw[<-z,kLN]at hR;cases hR
  have kN6:J6 LN=some (.lst []):=e6.lst kLN (by simp[u8]);have hC6:=e6.tup ((s9.trans s5) _ _ hC3);have hR06:=e6.tup ((s9.trans s5) _ _ hR03);have rc6:Aa p J6 (EU P S) (.ref CC):=Aa.tev (p':=p) e6.tev _ _ (Dq _) (Aa.ev (Ev.same (l7.trans (s9.trans s5))) _ _ rc);clear rc;clear kk k6 e6 hR kLN hLN ls5 ls3 hC3 hR03 hC4 hR04 k9 s9 s5 v8 hd1 hD2 hd2 j7 hd3;subst D
  k_dat 0"t"
  refine⟨ls6.pn,by decide,by decide,λg J7 g0 g1 e7 pn7=>⟨_,rfl,by lia,by lia,?_⟩⟩;have ls7:=ls6.pen L e7 pn7;refine Em (n:=(1+g).toNat) (λi σ J=>(∃z,Shx a cell p v u CC D1 D2 D3 LN R z σ)/\zI J [By P S] [By P S] [By P S]/\EvX [p,LN] J6 J/\∃ts:List Str,J LN=some (.lst (ts.map V.str))/\ts.length=2 * i/\∀t∈ts,GL t) ⟨⟨_,_,_,_,_,_,_,rfl⟩,ls7,EvX.ev e7 (by simp),[],e7.lst kN6 j4,rfl,λt h=>by cases h⟩ (λi σ J hi h=>?_) fun σ J h=>?_
  .obtain⟨⟨i4,i5,i6,i8,i0,j3,i7,rfl⟩,i9,eJ,ts,kT,lT,gT⟩:=h;have hCJ:=eJ.tup hC6;have hR0J:=eJ.tup hR06
   k_dat 0"t"
   refine⟨CC,_,rfl,.inr (Ae.of hCJ),i9.pn,by lia,by lia,λga Ka ga0 ga1 ea pna=>?_⟩;refine⟨CC,cx,0,_,rfl,rfl,Ae.of (ea.tup hCJ),(show B5 cx ((0:Nat):Int)=some _ from Cr hy0),R0,_,rfl,.inr (Ae.of (ea.tup hR0J)),pna,?_,?_,λgb Kb gb0 gb1 eb pnb=>?_⟩
   .rw[Y0,l0'];lia
   .rw[Y0,l0'];lia
   refine⟨pnb,by decide,by decide,λgc Kc gc0 gc1 ec pnc=>?_⟩;intro LM Kd sd hLM kLM;have eP:=(ea.trans eb).trans ec;have lsd:=(i9.pen L eP pnc).same L sd;have eJd:EvX [p,LN] J6 Kd:=(eJ.trans (EvX.ev eP (by simp))).trans (EvX.same sd);have kTd:Kd LN=some (.lst (ts.map V.str)):=sd _ _ (eP.lst kT j4);have hC':=eJd.tup hC6;have gb9:gb<=9:=by rw[Y0,l0']at gb1;lia
   have j0:∀n∈ [ga,gb,gc],0<=n/\n<=9:=λn hn=>by
    simp only[Z4,Zk,Zs]at hn;rcases hn with rfl | rfl | rfl<;>lia
   have hnT:∀x∈ [ga,gb,gc].map nT,x.length<=11:=λx hx=>by
    obtain⟨n,hn,rfl⟩:=Zg.mp hx;exact Jw (j0 n hn).1 (j0 n hn).2
   have fit:=F8 (sep:=" ") (B:=11) hnT (by rw[show(Str.ofString " ").length=1 from by decide,Y0];exact av rfl);have sz:(200000:Nat)<=sizeLine:=by decide
   have jl:(CI " " ([ga,gb,gc].map nT)).length<=100:=by
    have:=Jv (sep:=" ") (l:=[ga,gb,gc].map nT) (B:=11) hnT;rw[show(Str.ofString " ").length=1 from by decide,Y0]at this;exact Ze this (av rfl)
   subst D
   k_dat 0"t"
   refine⟨.inl ⟨rfl,_,Al.of kTd⟩,rfl,LM,rfl,⟨_,Al.of kLM⟩,C3 (xs:=[ga,gb,gc].map V.int) (λk ys K=>Ab Kd K/\ys=(([ga,gb,gc].take k).map nT).map V.str) (av rfl) ⟨Ab.refl _,rfl⟩ (λk ys K h=>by rw[h.2,Y0,Y0,Za];lia) (λk ys K _ h=>Al.of (h.1 _ _ kLM)) (λk x ys K hx h=>?_) λys Ke h=>?_⟩
   .rw[YU]at hx;obtain⟨n,hn,rfl⟩:=Zi.mp hx;have b9:=j0 n (Y8 hn);exact⟨trivial,λ_=>⟨n,rfl,Fw (YX (show _<100 by lia) (by decide)),h.1,by rw[h.2,AY hn,YW,YW];rfl⟩,λz=>by cases z⟩
   obtain⟨se,rfl⟩:=h;intro m hm;have sm:=se.trans (Ab.new (o:= .lst ((([ga,gb,gc].take ([ga,gb,gc].map V.int).length).map nT).map V.str)) hm);refine⟨" ",m,[ga,gb,gc].map nT,rfl,rfl,Ag,fit.1,fit.2,Str.ofString "stoke ",_,rfl,rfl,by have e:(Str.ofString "stoke ").length=6:=(by decide);lia,?_⟩;generalize upd Ke m (.lst ((([ga,gb,gc].take ([ga,gb,gc].map V.int).length).map nT).map V.str))=Kf at sm ⊢;have gl1:=YG (a:=CI " " ([ga,gb,gc].map nT)) (by lia);generalize Str.ofString "stoke " ++CI (Str.ofString " ") ([ga,gb,gc].map nT)=t1 at gl1 ⊢;have kTf:=sm _ _ kTd;have big:∀k:Nat,k<=100->k<sizeLine:=λk hk=>by lia
   refine⟨LN,_,.str t1,rfl,rfl,kTf,big _ (by rw[Y0];lia),?_⟩;have eU:EvX [LN] Kf (upd Kf LN (.lst (ts.map V.str++[.str t1]))):=EvX.ev (Ev.pen kTf) (by simp);have kTg:upd Kf LN (.lst (ts.map V.str++[.str t1])) LN=some (.lst ((ts++[t1]).map V.str)):=by rw[Ag,YW];rfl
   generalize upd Kf LN (.lst (ts.map V.str++[.str t1]))=Kg at eU kTg ⊢;have lsg:=(lsd.same L sm).out L eU (λb hb=>by rw[Z2.mp hb];exact fN);have eJg:EvX [p,LN] J6 Kg:=(eJd.trans (EvX.same sm)).trans (eU.mono λb hb=>by simp[Z2.mp hb]);have nML:LM≠LN:=λz=>by
    have:=(eP.lst kT j4);rw[<-z,hLM]at this;cases this
   have kLMg:Kg LM=some (.lst ([ga,gb,gc].map V.int)):=eU.lst (sm _ _ kLM) (by simp[nML]);subst D
   k_dat 0"t"
   have rcg:Aa p Kg (EU P S) (.ref CC):=Aa.tev (p':=p) eJg.tev _ _ (Dq _) rc6;refine⟨LM,_,0,.int ga,rfl,rfl,Al.of kLMg,rfl,ga,rfl,Fw (YX (show _<100 by lia) (by decide)),Str.ofString "bank ",nT ga,rfl,rfl,by have e:(Str.ofString "bank ").length=5:=(by decide);have:=hnT (nT ga) (by simp);lia,?_⟩;refine⟨lsg.pn,P,S,ok,so,rcg,λwv Kh F fo rf eh pnh=>⟨p,F,Hu ok so fo,rf,λKi si=>⟨Str.ofString "fire ",BW F,rfl,rfl,by have e:(Str.ofString "fire ").length=5:=(by decide);have:=L8 (Hu ok so fo);lia,?_⟩⟩⟩;have gl2:=YH (a:=nT ga) (by have:=hnT (nT ga) (by simp);lia);have gl3:=YI (a:=BW F) (by have:=L8 (Hu ok so fo);lia);have gl0:=gl_undo;intro LS Kj sj hLS kLS;have lsj:=((lsg.pen L eh pnh).same L si).same L sj;have nSp:LS≠p:=(((lsg.pen L eh pnh).same L si).pn).ne hLS;have kTj:Kj LN=some (.lst ((ts++[t1]).map V.str)):=sj _ _ (si _ _ (eh.lst kTg j4));have nSN:LS≠LN:=λz=>by
    have:=si _ _ (eh.lst kTg j4);rw[<-z,hLS]at this;cases this
   subst D;refine⟨.inl ⟨rfl,_,Al.of kTj⟩,lsj.pn,by decide,by decide,λgd Kk gd0 gd1 ek pnk=>?_⟩;obtain⟨t2,at2,o2⟩:=YL gd0 gd1;have gl4:GL t2:=by
    rcases o2 with rfl | rfl | rfl
    .exact gl0
    .exact gl2
    .exact gl3
   have kTk:=ek.lst kTj j4;refine⟨LS,_,gd,.str t2,rfl,rfl,Al.of (ek.lst kLS nSp),at2,LN,_,.str t2,rfl,rfl,kTk,big _ (by rw[Y0,Zj,Zt];lia),?_⟩;have eV:EvX [LN] Kk (upd Kk LN (.lst ((ts++[t1]).map V.str++[.str t2]))):=EvX.ev (Ev.pen kTk) (by simp);refine⟨⟨_,_,_,_,_,_,_,rfl⟩,(lsj.pen L ek pnk).out L eV (λb hb=>by rw[Z2.mp hb];exact fN),?_,ts++[t1]++[t2],by rw[Ag];simp,by rw[Zj,Zj,Zt,Zt];lia,λt ht=>?_⟩
   .exact((((eJg.trans (EvX.ev eh (by simp))).trans (EvX.same si)).trans (EvX.same sj)).trans (EvX.ev ek (by simp))).trans (eV.mono λb hb=>by simp[Z2.mp hb])
   .rcases ZQ.mp ht with ht | ht
    .rcases ZQ.mp ht with ht | ht
     .exact gT t ht
     .rw[Z2.mp ht];exact gl1
    .rw[Z2.mp ht];exact gl4
  .obtain⟨⟨i4,i5,i6,i8,i0,j3,i7,rfl⟩,ls8,e8,ts,kT,lT,gT⟩:=h;have n16:ts.length<=16:=by lia
   have kR8:=e8.lst kR (by simp[nRp,nNR.symm]);clear kR e8 ls6 ls7 e7 pn7 kN6 hC6 hR06 rc6;subst D
   k_dat 0"t"
   refine⟨LN,rfl,⟨_,Al.of kT⟩,Gh (xs:=ts.map V.str) (λi σ J=>(∃z,Shx a cell p v u CC D1 D2 D3 LN R z σ)/\(∃Fs,zI J Fs Fs [By P S]/\Fs.head? =some (By P S)/\Fs.length<=i+1)/\J LN=some (.lst (ts.map V.str))/\J R=some (.lst (ss0.map V.str))) ⟨⟨_,_,_,_,_,_,_,rfl⟩,⟨_,ls8,rfl,Y5 _⟩,kT,kR8⟩ (λi σ J _ h=>Al.of h.2.2.1) (λi x σ J hx h=>?_) fun σ J h=>?_⟩
   .obtain⟨⟨i4,i5,i6,i8,i0,j3,i7,rfl⟩,⟨Fs,i9,hd,lF⟩,kTJ,kRJ⟩:=h;obtain⟨t,ht,rfl⟩:=Hs hx;have gt:=gT t (Y8 ht);have hi:=(Y3.mp ht).1;obtain⟨xa,ka⟩:=i9.k1
    k_dat 0"t"
    refine ka.asked (t:=t) C i9.tL rfl (by lia) gt.2 λJa r1 w1 ws1 dd1 xa' Fa k1 t1 e1 l1 Z hr1 rr1 c1 c1' _=>?_
    have j2:=i9.one L e1 k1 t1;subst D;obtain⟨xb,kb⟩:=j2.k2;refine⟨j2.pn,j2.tB,P,S,v,u,W2,L2,xb,Fs,kb,pL2,by lia,λJb xb' kb' eb pnb tBb=>?_⟩;refine⟨λz=>(by cases z),λ_=>?_⟩;have lsb:=j2.bet L eb kb' pnb tBb;refine kb'.asked (t:=t) C lsb.tL rfl (by lia) gt.2 λJc r2 w2 ws2 dd2 xc Fc k2 t2 e2 l2 rs2 hr2 rr2 c2 c2' _=>?_
    have lsc:=lsb.two L e2 k2 t2;obtain⟨er,eF⟩:=rs2.uniq Z gt.nl;subst eF;have rr1':=Aa.tev (p':=p) e2.tev _ _ Z.nm (Aa.tev (p':=p) eb.tev _ _ Z.nm rr1);refine⟨p,_,_,rr2,rr1',c1,c1',Z.flat.1,c2,c2',?_⟩;rw[er,Z.flat.2];refine⟨λz=>(by cases z),λ_=>?_⟩;exact⟨⟨_,_,_,_,_,_,_,rfl⟩,⟨_,lsc,PP Z hd,by lia⟩,e2.lst (eb.lst (e1.lst kTJ (by simp[u8,nNL])) (by simp[j4,nN2,nNB])) (by simp[nN2,nNL]),e2.lst (eb.lst (e1.lst kRJ (by simp[r8,nRL])) (by simp[nRp,w8,nRB])) (by simp[w8,nRL])⟩
   .obtain⟨⟨i4,i5,i6,i8,i0,j3,i7,rfl⟩,⟨Fs,ls9,hd9,lF9⟩,kT9,kR9⟩:=h;rw [Y0] at lF9;obtain⟨xa,ka⟩:=ls9.k1;obtain⟨dx1,v8⟩:=ka.ins;subst D
    k_dat 0"t"
    refine⟨D1,dx1,_,rfl,v8,rfl,ka.say (E:=E0) (by lia) (by decide) PN (λi r=>PJ r rfl) λs10 Fs10 xs10 Ja a10 u5 l10 e10=>?_⟩;obtain⟨rfl,rfl⟩:=PH a10 rfl;have ls10:=ls9.say1 L e10 u5;have fo:=u5.wat.fok _ (Y8 u5.last);generalize eF:Fs10.getLastD []=F at fo ⊢;have ft:=L8 (Hu ok so fo);have f5:(Str.ofString "fire ").length=5:=by decide
    have sz:(200000:Nat)<=sizeLine:=by decide
    subst D
    k_dat 0"t"
    refine⟨p,P,S,_,_,ok,so,u5.wat.rv,u5.wat.ru,rfl,by lia,Mf ok so fo,λb Jb sb rF=>?_⟩;have v3:=ls10.same L sb;obtain⟨xc,kc⟩:=v3.k3;obtain⟨dx3,j7⟩:=kc.ins;subst D
    k_dat 0"t"
    refine⟨D3,dx3,_,rfl,j7,rfl,Str.ofString "fire ",BW F,rfl,rfl,by lia,kc.say (E:=E0) (by simp) (by rw[bF];lia) (YC _) (λi r=>?_) λs12 Fs12 xs12 Jc a12 k12 l12 v7=>?_⟩
    .obtain⟨n,hn⟩:=YE r rfl rfl;rw[Mf ok so fo]at hn;cases hn
    obtain⟨rfl,G,hG,rfl⟩:=YJ a12 rfl rfl;rw[Mf ok so fo]at hG;cases hG;have ls12:=v3.three L v7 k12;refine⟨p,.str (Str.ofString "ok"),.str (Str.ofString "ok"),Aa.str,Aa.str,by decide+kernel,by decide+kernel,by decide+kernel,by decide+kernel,by decide+kernel,λz=>absurd z (by decide+kernel),λ_=>?_⟩;have rF12:=Aa.tev (p':=p) v7.tev _ _ (Dq _) rF;refine⟨p,P,S,F,⟨ok,so,fo,k12.wat.rv,k12.wat.ru,rF12⟩,λJd sd=>?_⟩;have sl:=YM (Da (Po F));refine⟨p,.str (BW F),.str (BW F),Aa.str,Aa.str,sl.1,sl.2.1,sl.2.2.1,sl.1,sl.2.1,λz=>?_,λ_=>?_⟩
    .rw[sl.2.2.2]at z;cases z
    have n9:=ls12.same L sd;have kT13:=sd _ _ (v7.lst (sb _ _ (e10.lst kT9 (by simp[u8]))) (by simp[nN3]));have kR13:=sd _ _ (v7.lst (sb _ _ (e10.lst kR9 (by simp[r8]))) (by simp[nR3]));clear kT9 kR9 ka kc u5 k12 rF rF12 a10 a12 e10 v7 ls9 ls10 v3 ls12 v8 j7;subst D
    k_dat 0"t"
    obtain⟨xd,kd⟩:=n9.k1;refine⟨p,P,S,v,u,W1,L1,xd,_,kd,by lia,λRa Je xe sa ke ee j5 j8 fa=>?_⟩;have na:=(n9.free j5).1;simp only[Z4,Zk,Zs,bi]at na;have o8:=n9.say1 L ee ke;obtain⟨xf,kf⟩:=o8.k2;refine⟨p,P,S,v,u,W2,L2,xf,_,kf,by lia,λRb Jg xg sb' kg eg l9 j9 fb=>?_⟩;have nb:=(o8.free l9).1;simp only[Z4,Zk,Zs,bi]at nb;have n5:=o8.say2 L eg kg;obtain rfl:=fa.uniq fb;have O:=Mh fa.ok;refine⟨p,_,_,Aa.lst na.1 (eg.lst j8 (by simp[na.2.2.2.2.1])) (Ei sa),Aa.lst nb.1 j9 (Ei sa),O.1,O.2.1,O.2.2.1,O.1,O.2.1,λz=>?_,λ_=>?_⟩
    .rw[O.2.2.2]at z;cases z
    have kT15:=eg.lst (ee.lst kT13 (by simp[u8])) (by simp[nN2]);have kR15:=eg.lst (ee.lst kR13 (by simp[r8])) (by simp[w8]);clear kd ke kf kg j5 j8 fb l9 j9 na nb O n9 o8 kT13 kR13 ee eg;obtain⟨xd,kd⟩:=n5.k1;refine⟨p,P,S,v,u,W1,L1,xd,_,kd,by lia,λRa Jh xe sc ke ee j5 j8 fa=>?_⟩;have na:=(n5.free j5).1;simp only[Z4,Zk,Zs,bi]at na;have o9:=n5.say1 L ee ke;obtain⟨xf,kf⟩:=o9.k3;refine⟨p,P,S,v,u,W3,L3,xf,_,kf,by simp,λRb Jk xg sd' kg eg l9 j9 fb=>?_⟩;have nb:=(o9.free l9).1;simp only[Z4,Zk,Zs,bi]at nb;have ls17:=o9.three L eg kg;rw[eF]at fa;obtain rfl:=fa.uniq (show Five P S F sd' from fb);have O:=Mh fa.ok;refine⟨p,_,_,Aa.lst na.1 (eg.lst j8 (by simp[na.2.2.2.2.2])) (Ei sc),Aa.lst nb.1 j9 (Ei sc),O.1,O.2.1,O.2.2.1,O.1,O.2.1,λz=>?_,λ_=>?_⟩
    .rw[O.2.2.2]at z;cases z
    have kT17:=eg.lst (ee.lst kT15 (by simp[u8])) (by simp[nN3]);have kR17:=eg.lst (ee.lst kR15 (by simp[r8])) (by simp[nR3]);clear kd ke kf kg j5 j8 fb l9 j9 na nb O n5 o9 kT15 kR15 ee eg fa;subst D
    k_dat 0"t"
    intro LU Jl sl' hLU kLU;refine⟨LN,_,rfl,.inl (Al.of (sl' _ _ kT17)),LU,_,_,rfl,rfl,kLU,by lia,by rw[Y0];lia,by rw[Y0,Zt,ak];lia,λLV hLV=>?_⟩;have sV:=sl'.trans (Ab.new (o:= .lst (List.replicate ((ts.map V.str).length:Int).toNat [V.str "undo"]).flatten) hLV);have kV:upd Jl LV (.lst (List.replicate ((ts.map V.str).length:Int).toNat [V.str "undo"]).flatten) LV=some (.lst ((List.replicate ts.length (Str.ofString "undo")).map V.str)):=by rw[Ag,PC,fL,ak,Y0]
    generalize upd Jl LV (.lst (List.replicate ((ts.map V.str).length:Int).toNat [V.str "undo"]).flatten)=Jm at sV kV ⊢;have nV:=(ls17.free (sl'.free hLV)).1;simp only[Z4,Zk,Zs,bi]at nV;obtain⟨nVp,nVB,nVL,nV1,nV2,nV3⟩:=nV;refine⟨LV,rfl,⟨_,Al.of kV⟩,Gh (xs:=(List.replicate ts.length (Str.ofString "undo")).map V.str) (λi σ J=>Shx a cell p v u CC D1 D2 D3 LN R (some (.str (BW F))) σ/\(∃Gs,zI J Gs Gs ([By P S]++[F])/\Gs.head? =some (By P S)/\Gs.length<=max 1 (ts.length+1-i))/\J LV=some (.lst ((List.replicate ts.length (Str.ofString "undo")).map V.str))/\J R=some (.lst (ss0.map V.str))) ⟨⟨_,_,_,_,_,_,rfl⟩,⟨_,ls17.same L sV,hd9,by lia⟩,kV,sV _ _ kR17⟩ (λi σ J _ h=>Al.of h.2.2.1) (λi x σ J hx h=>?_) fun σ J h=>?_⟩
    .obtain⟨⟨i4,i5,i6,i8,i0,i7,rfl⟩,⟨Gs,i9,hd,lG⟩,kVJ,kRJ⟩:=h;obtain⟨t,ht,rfl⟩:=Hs hx;have hi:=(Y3.mp ht).1;rw[ZK]at hi;obtain rfl:t=Str.ofString "undo" :=by
      have:=Y8 ht;exact(List.mem_replicate.mp this).2
     obtain⟨xa,ka⟩:=i9.k1
     k_dat 0"t"
     refine ka.asked (t:=Str.ofString "undo") C i9.tL rfl (by lia) (by decide) λJa r1 w1 ws1 dd1 xa' Fa k1 t1 e1 l1 Z hr1 rr1 c1 c1' _=>?_
     have j2:=i9.one L e1 k1 t1;obtain⟨xb,kb⟩:=j2.k2;subst D;refine kb.asked (t:=Str.ofString "undo") C j2.tL rfl (by lia) (by decide) λJc r2 w2 ws2 dd2 xc Fc k2 t2 e2 l2 rs2 hr2 rr2 c2 c2' _=>?_
     have lsc:=j2.two L e2 k2 t2;obtain⟨er,eF⟩:=rs2.uniq Z gl_undo.nl;subst eF;refine⟨p,_,_,rr2,Aa.tev (p':=p) e2.tev _ _ Z.nm rr1,c1,c1',Z.flat.1,c2,c2',?_⟩;rw[er,Z.flat.2];refine⟨λz=>(by cases z),λ_=>?_⟩;have lu:=YK Z ka.ne;exact⟨⟨_,_,_,_,_,_,rfl⟩,⟨_,lsc,PP Z hd,by lia⟩,e2.lst (e1.lst kVJ (by simp[nV1,nVL])) (by simp[nV2,nVL]),e2.lst (e1.lst kRJ (by simp[r8,nRL])) (by simp[w8,nRL])⟩
    .obtain⟨⟨i4,i5,i6,i8,i0,i7,rfl⟩,⟨Gs,v4,hd,lG⟩,_,kR18⟩:=h;rw[Y0,ZK]at lG;obtain rfl:Gs=[By P S]:=by
      match Gs,hd,lG with
      |[z],hd,_=>cases hd;rfl
      |_::_::_,_,lG=>simp at lG
     subst D;obtain⟨xd,kd⟩:=v4.k1;refine⟨p,P,S,v,u,W1,L1,xd,_,kd,by simp,λRa Jn xe sa ke ee j5 j8 fa=>?_⟩;have na:=(v4.free j5).1;simp only[Z4,Zk,Zs,bi]at na;have v6:=v4.say1 L ee ke;obtain rfl:=f50.uniq fa;have O:=Mh f50.ok;have kR19:=ee.lst kR18 (by simp[r8]);refine⟨p,_,_,Aa.lst na.1 j8 (Ei _),Aa.lst nRp kR19 (Ei _),O.1,O.2.1,O.2.2.1,O.1,O.2.1,λz=>?_,λ_=>?_⟩
     .rw[O.2.2.2]at z;cases z
     obtain⟨xf,kf⟩:=v6.k2;refine⟨p,P,S,v,u,W2,L2,xf,_,kf,by simp,λRb Jo xg sb' kg eg l9 j9 fb=>?_⟩;have nb:=(v6.free l9).1;simp only[Z4,Zk,Zs,bi]at nb;have ls20:=v6.say2 L eg kg;obtain rfl:=f50.uniq fb;have kR20:=eg.lst kR19 (by simp[w8]);refine⟨p,_,_,Aa.lst nb.1 j9 (Ei _),Aa.lst nRp kR20 (Ei _),O.1,O.2.1,O.2.2.1,O.1,O.2.1,λz=>?_,λ_=>?_⟩
     .rw[O.2.2.2]at z;cases z
     obtain⟨xh,kh⟩:=ls20.k3;obtain⟨dx3,j7⟩:=kh.ins;refine⟨D3,dx3,_,rfl,j7,rfl,kh.say (E:=E0) (by simp) (by decide) PN (λi r=>PJ r rfl) λs21 Fs21 xs21 Jp a21 k21 l21 e21=>?_⟩;obtain⟨rfl,rfl⟩:=PH a21 rfl;have w5:=ls20.three L e21 k21;refine⟨p,.str (BW F),.str (BW F),Aa.str,Aa.str,sl.1,sl.2.1,sl.2.2.1,sl.1,sl.2.1,λz=>?_,λ_=>?_⟩
     .rw[sl.2.2.2]at z;cases z
     exact⟨⟨_,_,_,_,_,_,_,_,_,_,_,_,_,_,_,_,_,rfl⟩,w5.e0.lst hL0 nL0,w5.tB,w5.tL⟩
end MF
section
namespace MF
open L2
variable{oc dc pm cd:yU}{od an:Option yQ}{sl:Array (yW)}{CA C:yQ}{h:Heap}{ps:List Str}{p0 p1 p2:Str}{P:yO}{ep:Nat}
abbrev D4(K:Fgx)(x:Str)(st:Stmt):Prop:=∃(f:yQ) (L:yU) (z D:Option yQ) (G:Array (yW)) (kV J I g ct:yU),PySem.W.nsIn K mainGlobals x=some (some (.ref f))/\K.lookup f=some ⟨L,z,.func (PySem.W.fnOf x x (BB st) (A9 st) (Am st) .none kV J I D g ct),G⟩/\PySem.W.codeIn K g x=true/\PySem.W.keepIn K (.ref f)=true
theorem d4_mk{K:Fgx}{x:Str}{st:Stmt}{f:yQ}{kV ct:yU}(a:PySem.W.nsIn K mainGlobals x=some (some (.ref f)))(l:K.lookup f=some ⟨oc,od,.func (PySem.W.fnOf x x (BB st) (A9 st) (Am st) .none kV dc pm an cd ct),sl⟩)(c:PySem.W.codeIn K cd x=true)(k:PySem.W.keepIn K (.ref f)=true):D4 K x st:=⟨_,_,_,_,_,_,_,_,_,_,a,l,c,k⟩
abbrev D6(K:Fgx)(J:yQ)(x q:Str)(st:Stmt):Prop:=∃(f:yQ) (O:yU) (z D:Option yQ) (G:Array (yW)) (kV L I g ct:yU),PySem.W.findIn K (.ref J) x=some (some (.ref f))/\PySem.W.isFn K (.ref f)=true/\K.lookup f=some ⟨O,z,.func (PySem.W.fnOf x q (BB st) (A9 st) (Am st) .none kV L I D g ct),G⟩/\PySem.W.codeIn K g q=true/\PySem.W.keepIn K (.ref f)=true
theorem d6_mk{K:Fgx}{x q:Str}{st:Stmt}{f:yQ}{kV ct:yU}(a:PySem.W.findIn K (.ref CA) x=some (some (.ref f)))(b:PySem.W.isFn K (.ref f)=true)(l:K.lookup f=some ⟨oc,od,.func (PySem.W.fnOf x q (BB st) (A9 st) (Am st) .none kV dc pm an cd ct),sl⟩)(c:PySem.W.codeIn K cd q=true)(k:PySem.W.keepIn K (.ref f)=true):D6 K CA x q st:=⟨_,_,_,_,_,_,_,_,_,_,a,b,l,c,k⟩
theorem JY{K:Fgx}{mg:Str->yW}{x:Str}{st:Stmt}(X:K.In h)(G:h.Ns mainGlobals mg)(d:D4 K x st)
  (D:∀(kV g I:yU) (z:Option yQ) (dl ct:yU) (us:yX),us.length=ps.length->bindArgs (PySem.W.fnOf x x (BB st) (A9 st) (Am st) .none kV g I z dl ct) ⟨us,[]⟩=pure (ps.zip us)):Df K mg x st ps:=by
 obtain⟨f,_,_,_,_,_,_,_,_,_,a,l,c,k⟩:=d;exact⟨f,_,DW l c k,PySem.W.mg_of X G a,(DW l c k).binds D⟩
theorem B0{K:Fgx}{mg:Str->yW}{x:Str}{st:Stmt}(X:K.In h)(G:h.Ns mainGlobals mg)(d:D4 K x st)(L:∀(kV g J:yU) (O:Option yQ) (dl ct z:yU),bindArgs (PySem.W.fnOf x x (BB st) (A9 st) (Am st) .none kV g J O dl ct) ⟨[z],[]⟩=pure ([p0].zip [z]):=by intros;rfl):Df K mg x st [p0]:=
 JY X G d λ_ _ _ _ _ _ D I=>match D,I with | [_],_=>L _ _ _ _ _ _ _
theorem Be{K:Fgx}{mg:Str->yW}{x:Str}{st:Stmt}(X:K.In h)(G:h.Ns mainGlobals mg)(d:D4 K x st)(O:∀(kV g Z:yU) (J:Option yQ) (dl ct D z:yU),bindArgs (PySem.W.fnOf x x (BB st) (A9 st) (Am st) .none kV g Z J dl ct) ⟨[D,z],[]⟩=pure ([p0,p1].zip [D,z]):=by intros;rfl):Df K mg x st [p0,p1]:=
 JY X G d λ_ _ _ _ _ _ I L=>match I,L with | [_,_],_=>O _ _ _ _ _ _ _ _
theorem Co{K:Fgx}{mg:Str->yW}{x:Str}{st:Stmt}(X:K.In h)(G:h.Ns mainGlobals mg)(d:D4 K x st)(Z:∀(kV g pm:yU) (L:Option yQ) (dl ct I D z:yU),bindArgs (PySem.W.fnOf x x (BB st) (A9 st) (Am st) .none kV g pm L dl ct) ⟨[I,D,z],[]⟩=pure ([p0,p1,p2].zip [I,D,z]):=by intros;rfl):Df K mg x st [p0,p1,p2]:=
 JY X G d λ_ _ _ _ _ _ J O=>match J,O with | [_,_,_],_=>Z _ _ _ _ _ _ _ _ _
theorem Mi{K:Fgx}{mg:Str->yW}{x:Str}{st:Stmt}{D:Str}(X:K.In h)(G:h.Ns mainGlobals mg)(d:D4 K x st)(hb:∀(kV g pm:yU) (Z:Option yQ) (dl ct L J I z:yU),bindArgs (PySem.W.fnOf x x (BB st) (A9 st) (Am st) .none kV g pm Z dl ct) ⟨[L,J,I,z],[]⟩=pure ([p0,p1,p2,D].zip [L,J,I,z]):=by intros;rfl):Df K mg x st [p0,p1,p2,D]:=
 JY X G d λ_ _ _ _ _ _ O hl=>match O,hl with | [_,_,_,_],_=>hb _ _ _ _ _ _ _ _ _ _
theorem YQ{K:Fgx}{mg:Str->yW}{x:Str}{st:Stmt}{f c:yQ}{kV g ct:yU}(X:K.In h)(G:h.Ns mainGlobals mg)
  (a:PySem.W.nsIn K mainGlobals x=some (some (.ref f))) (l:K.lookup f=some ⟨oc,od,.func (PySem.W.fnOf x x (BB st) (A9 st) (Am st) .none kV g I z (.ref c) ct),sl⟩) (D:PySem.W.codeIn K (.ref c) x=true) (k:PySem.W.keepIn K (.ref f)=true)
  (J:∀(kV g I:yU) (z:Option yQ) (dl ct:yU) (us:yX),us.length=ps.length->bindArgs (PySem.W.fnOf x x (BB st) (A9 st) (Am st) .none kV g I z dl ct) ⟨us,[]⟩=pure (ps.zip us)):GK K mg x st ps c:=
 ⟨⟨f,_,⟨_,_,_,_,_,_,_,_,rfl,l,D⟩,PySem.W.mg_of X G a,k,(DW l D k).binds J⟩⟩
theorem PQ{K:Fgx}{x:Str}{f c T:yQ}{g:FuncData}(a:PySem.W.nsIn K mainGlobals x=some (some (.ref f)))(l:K.lookup f=some ⟨oc,od,.func g,sl⟩)(t:PySem.W.tabIn K x=some (c,T)):g.code= .ref c:=by
 unfold PySem.W.tabIn at t;rw[a]at t;simp only[l]at t;split at t
 .rename_i D G;split at t
  .split at t
   .have z:=Zb t;have e:D=c:=ZI Prod.fst z;rw[G,e]
   .cases t
  .cases t
 .cases t
theorem Fi{K:Fgx}{x q:Str}{st:Stmt}(d:D6 K CA x q st)(D:∀(kV g G:yU) (z:Option yQ) (dl ct:yU) (us:yX),us.length=ps.length->bindArgs (PySem.W.fnOf x q (BB st) (A9 st) (Am st) .none kV g G z dl ct) ⟨us,[]⟩=pure (ps.zip us)):Dm K CA x q st ps:=by
 obtain⟨f,_,_,_,_,_,_,_,_,_,a,b,l,c,k⟩:=d;exact⟨f,_,DW l c k,⟨a,b,k⟩,(DW l c k).binds D⟩
theorem PR{K:Fgx}{mg:Str->yW}{n:Str}{q:Str}{st:Stmt}(at_:mg n=some (.ref CA))(m:PySem.W.makesIn K CA=true)(z:PySem.W.keepIn K (.ref CA)=true)(d:D6 K CA "__init__" q st)(G:∀(kV g I:yU) (D:Option yQ) (dl ct:yU) (us:yX),us.length=ps.length->bindArgs (PySem.W.fnOf "__init__" q (BB st) (A9 st) (Am st) .none kV g I D dl ct) ⟨us,[]⟩=pure (ps.zip us)):Di K mg n CA q st ps:=by
 obtain⟨f,_,_,_,_,_,_,_,_,_,a,b,l,c,k⟩:=d;exact⟨⟨f,_,DW l c k,⟨m,a,b,z⟩,(DW l c k).binds G⟩,at_⟩
theorem PU{K:Fgx}{x:Str}(h:(PySem.W.tabIn K x).isSome=true):PySem.W.tabIn K x=some ((Bv K x).1,(Bv K x).2):=by
 obtain⟨y,e⟩:=ay.mp h;have:Bv K x=y:=by unfold Bv;rw[e];rfl
 rw[this,e]
def Mj(K:Fgx):Bool:=(PySem.W.tabIn K "_law_between").isSome &&(PySem.W.tabIn K "law").isSome &&((Bv K "_law_between").2 !=(Bv K "law").2)
theorem YR{K:Fgx}(h:Mj K=true):(PySem.W.tabIn K "_law_between").isSome=true/\(PySem.W.tabIn K "law").isSome=true/\(Bv K "_law_between").2≠(Bv K "law").2:=by
 unfold Mj at h;simp only[Zh,bne_iff_ne]at h;exact⟨h.1.1,h.1.2,h.2⟩
abbrev DI(K:Fgx)(C:yQ):Prop:=∃(f:yQ) (L:yU) (z D:Option yQ) (G:Array (yW)) (kV J I g ct:yU),PySem.W.findIn K (.ref C) "__init__"=some (some (.ref f))/\D9 K C f=true/\PySem.W.isFn K (.ref f)=true/\K.lookup f=some ⟨L,z,.func (PySem.W.fnOf "__init__" "NoText.__init__" (BB wa0) (A9 wa0) (Am wa0) .none kV J I D g ct),G⟩/\PySem.W.codeIn K g "NoText.__init__"=true/\PySem.W.keepIn K (.ref f)=true
theorem di_mk2{K:Fgx}{f:yQ}{kV ct:yU}(b:PySem.W.findIn K (.ref C) "__init__"=some (some (.ref f)))(e:D9 K C f=true)(h:PySem.W.isFn K (.ref f)=true)(l:K.lookup f=some ⟨oc,od,.func (PySem.W.fnOf "__init__" "NoText.__init__" (BB wa0) (A9 wa0) (Am wa0) .none kV dc pm an cd ct),sl⟩)(c:PySem.W.codeIn K cd "NoText.__init__"=true)(k:PySem.W.keepIn K (.ref f)=true):DI K C:=⟨_,_,_,_,_,_,_,_,_,_,b,e,h,l,c,k⟩
def Ml(K:Fgx)(M C:yQ):Bool:=PySem.W.hasDictIn K C &&(PySem.W.findIn K (.ref C) "at"==some none) &&
 ((PySem.W.specialIn K (.ref M) "__getattribute__"==some (some (.builtin "type.__getattribute__"))) && PySem.W.readsIn K M (.type "type") &&(match PySem.W.findCls K (.ref M) (.type "type") "__init__" with | some (.val (.builtin n))=>n=="ValueError.__init__" | _=>false)) &&
 ((PySem.W.findIn K (.ref C) "__setattr__"==some (some (.builtin "object.__setattr__"))) &&(match PySem.W.clsIn K C with | some g=>(g.mro== .ref C:: .ref M::BV) && g.hasDict | none=>false))
theorem JZ{K:Fgx}{M:yQ}(h:Ml K M C=true):PySem.W.hasDictIn K C=true/\PySem.W.findIn K (.ref C) "at"=some none/\Lf K M/\IC K C "at" :=by
 unfold Ml at h;simp only[Zh,ZR]at h;obtain⟨⟨⟨I,G⟩,⟨J,h4⟩,g⟩,L,D⟩:=h;refine⟨I,G,⟨J,h4,?_⟩,⟨L,?_,G⟩⟩
 .cases z:PySem.W.findCls K (.ref M) (.type "type") "__init__" with
  |none=>rw[z]at g;cases g
  |some r=>
   rw[z]at g;split at g
   .rename_i n e;refine⟨r,rfl,?_⟩;cases e;rw[ao g]
   .cases g
 .cases z:PySem.W.clsIn K C with
  |none=>rw[z]at D;cases D
  |some cd=>
   rw[z]at D;simp only[Zh,ZR]at D;exact⟨cd,M,rfl,D.1,D.2⟩
theorem Mt.plain{w:yK}{K:Fgx}{mg:Str->yW}{base:Heap}{n:Nat}{m:Str}{sp sp':Sp}(F:Mt (Bm P w) P w K mg base n C m ps sp)(h:∀vs H Q E,sp' vs H Q E->sp vs H Q (λ_ _ _=>False)):Mt CX0 P w K mg base n C m ps sp':=by
 obtain⟨f,O,F,Z,g⟩:=F.ex;refine⟨f,O,⟨λvs H Q E q=>F.len vs H Q _ (h _ _ _ _ q),λA outer s H args G vs Q E J L g D I=>?_⟩,Z,g⟩;refine ae (F.run A outer s H args G vs Q _ J L g D (h _ _ _ _ I)) λr s' z=>?_
 unfold CR at z ⊢;cases r with
 |ok fl=>cases fl<;>exact z
 |error e=>obtain⟨_,_,_,_,_,_,_,q⟩:=z;exact q.elim
def Hv:List DictEntry->List (Str×Int)->Bool
 |[],[]=>true
 |e::es,p::ps=>(match e.key,e.val with | .str x _,.int n _=>x==p.1 && n==p.2 | _,_=>false) && Hv es ps
 |_,_=>false
def Hw:List DictEntry->List (Str×yQ)->Bool
 |[],[]=>true
 |e::es,p::ps=>(match e.key,e.val with | .str x _,.ref n=>x==p.1 && n==p.2 | _,_=>false) && Hw es ps
 |_,_=>false
theorem PV:∀ {es:List DictEntry}{l:List (Str×Int)},Hv es l=true->∃vs:List (Str×yU),EG es vs=true/\KV (l.map λp=>((.inr p.1:AL),V.int p.2)) (vs.map λp=>((.inr p.1:AL),p.2))/\vs.map (·.1)=l.map (·.1)
 |[],[],_=>⟨[],rfl,.nil,rfl⟩
 |[],_::_,h=>by cases h
 |_::_,[],h=>by cases h
 |e::es,p::ps,h=>by
  unfold Hv at h;obtain⟨g,G⟩:=Z6.mp h;obtain⟨vs,a,b,c⟩:=PV G;split at g
  .rename_i x t n L D z;obtain⟨I,J⟩:=Z6.mp g;refine⟨(p.1,e.val)::vs,?_,.cons ⟨rfl,?_⟩ b,by rw [ZJ,ZJ,c]⟩
   .unfold EG;rw[D];simp only[I,a,fO,aJ]
   .show L2.RelV (V.int p.2) e.val;rw[z,show p.2=n from(ao J).symm];exact⟨_,rfl⟩
  .cases g
theorem PX:∀ {es:List DictEntry}{l:List (Str×yQ)},Hw es l=true->∃vs:List (Str×yU),EG es vs=true/\KV (l.map λp=>((.inr p.1:AL),V.ref p.2)) (vs.map λp=>((.inr p.1:AL),p.2))/\vs.map (·.1)=l.map (·.1)
 |[],[],_=>⟨[],rfl,.nil,rfl⟩
 |[],_::_,h=>by cases h
 |_::_,[],h=>by cases h
 |e::es,p::ps,h=>by
  unfold Hw at h;obtain⟨g,G⟩:=Z6.mp h;obtain⟨vs,a,b,c⟩:=PX G;split at g
  .rename_i x t n D z;obtain⟨I,J⟩:=Z6.mp g;refine⟨(p.1,e.val)::vs,?_,.cons ⟨rfl,?_⟩ b,by rw [ZJ,ZJ,c]⟩
   .unfold EG;rw[D];simp only[I,a,fO,aJ]
   .show L2.RelV (V.ref p.2) e.val;rw [z,show p.2=n from(ao J).symm]
    rfl
  .cases g
theorem PY{w:yK}{vs:List (Str×yU)}{ks:List Str}(h:vs.map (·.1)=ks):(vs.map λp=>hashStr w p.1)=ks.map (hashStr w):=by rw[<-h,bo];rfl
def sayWs:List Str:=["stoke","bank","fire","undo","least","show","main","falls","coal","stretch"]
def PZ(fs:List yQ):List (Str×yQ):=[("stoke",fs.getD 0 0),("bank",fs.getD 1 0),("fire",fs.getD 2 0),("undo",fs.getD 3 0),("least",fs.getD 4 0),("show",fs.getD 5 0),("main",fs.getD 6 0),("falls",fs.getD 7 0),("coal",fs.getD 8 0),("stretch",fs.getD 9 0)]
theorem YS{w:yK}{K:Fgx}{a:yQ}{es:Array DictEntry}(l:K.lookup a=some ⟨.type "dict",none,.dict es ep,#[]⟩)(ne:(a==sysModules)=false)(c:Hv es.toList numbersL=true)(G:es.toList.map (·.hash)=(numbersL.map (·.1)).map (hashStr w)):GD P w K a JN:=by
 obtain⟨I,z,D,g⟩:=PV c;exact OH l ne z (by rw[PY g];exact G) (by rw[g];decide) D
theorem YT{w:yK}{K:Fgx}{a:yQ}{es:Array DictEntry}{fs:List yQ}(l:K.lookup a=some ⟨.type "dict",none,.dict es ep,#[]⟩)(ne:(a==sysModules)=false)(c:Hw es.toList (PZ fs)=true)(I:es.toList.map (·.hash)=sayWs.map (hashStr w)):GD P w K a (LW fs):=by
 obtain⟨g,z,G,D⟩:=PX c;have h4:g.map (·.1)=sayWs:=D;exact OH l ne z (by rw[PY h4];exact I) (by rw[h4];decide) G
abbrev spN(K:Fgx):Sp:=Ht K (Bv K "_law_between").2 (Bv K "law").2
abbrev FnAt(x:Str)(st:Stmt)(kV D z:yU)(g:Option yQ)(cd ct:yU):FuncData:=PySem.W.fnOf x x (BB st) (A9 st) (Am st) .none kV D z g cd ct
open PySem.W in
theorem all_mk{l:OpenLaw}{w:yK}{K:Frag}{mg:Str->yW}{fa DA:yQ}(X:K.In h)(G:h.Ns mainGlobals mg)(hfa:mg "law"=some (.ref fa))(h3:Mj K=true)(yC:nsIn K mainGlobals "Watch"=some (some (.ref CA)))(yD:nsIn K mainGlobals "Desk"=some (some (.ref DA)))
  {n5 j9:yQ}{R71 N71 R79 N79:Option yQ}{S71 S79:Array (yW)}{O71 V71 U71 W71 l6 Z71 O79 V79 w8 W79 j6 v4:yU}
  (a0:D4 K "cap_under" wam)
  (a1:D4 K "words_for" wal)
  (a2:D4 K "caps_in" wak)
  (a3:D4 K "is_tuple_of" wa7)
  (a4:D4 K "is_whole" wa5)
  (a5:D4 K "is_whole_from" wa6)
  (a6:D4 K "is_fault" wah)
  (a7:D4 K "is_make_and_coal" wab)
  (a8:D4 K "are_boilers" waa)
  (a9:D4 K "is_engine" wad)
  (a10:D4 K "are_engines" wac)
  (a11:D4 K "is_main" wae)
  (a12:D4 K "is_plant" wa9)
  (a13:D4 K "need_plant" waf)
  (a14:D4 K "is_story" wag)
  (a15:D4 K "need_story" wai)
  (a16:D4 K "caps_of" waj)
  (a17:D6 K CA "__init__" "Watch.__init__" s_Watch___init__)
  (a18:D6 K DA "__init__" "Desk.__init__" s_Desk___init__)
  (a19:D4 K "is_number_text" waP)
  (a20:D4 K "read_line" wb1)
  (a21:D6 K CA "kept_firing" "Watch.kept_firing" s_Watch_kept_firing)
  (a22:D4 K "replaced" wa8)
  (a23:D6 K CA "put_row" "Watch.put_row" s_Watch_put_row)
  (a24:D4 K "drawn_by" wao)
  (a25:D4 K "draws_of" wan)
  (a26:D4 K "is_row" wav)
  (a27:D4 K "is_firing_within" wau)
  (a28:D4 K "is_firing" was)
  (a29:D4 K "need_firing" wa3)
  (a30:D4 K "run_day" waw)
  (a31:D4 K "course" wax)
  (a32:D4 K "need_boiler" waq)
  (a33:D4 K "need_hour" wap)
  (a34:D6 K CA "stoke" "Watch.stoke" s_Watch_stoke)
  (a35:D4 K "say_stoke" waQ)
  (a36:D6 K CA "bank" "Watch.bank" s_Watch_bank)
  (a37:D4 K "say_bank" waR)
  (a38:D6 K CA "take_over" "Watch.take_over" s_Watch_take_over)
  (a39:D4 K "is_row_text" waO)
  (a40:D4 K "firing_read" waN)
  (a41:D4 K "say_fire" waS)
  (a42:D6 K CA "undo" "Watch.undo" s_Watch_undo)
  (a43:D4 K "say_undo" waT)
  (a44:D4 K "floor_at" waF)
  (a45:D4 K "tails_from" waH)
  (a46:D4 K "highest_floor" waG)
  (a47:D4 K "room_between" waK)
  (a48:D4 K "make_cheapest" waJ)
  (a49:D4 K "least_firing" waI)
  (a50:D4 K "is_too_much" waC)
  (a51:D4 K "least_stretch" waD)
  (a52:D4 K "terms_of" war)
  (a53:D4 K "cheapest" waL)
  (a54:D4 K "say_least" waU)
  (a55:D4 K "firing_text" waM)
  (a56:D4 K "say_show" waV)
  (a57:D4 K "numbers_text" wb0)
  (a58:D4 K "say_main" waW)
  (a59:D4 K "falls_at" waz)
  (a60:D4 K "say_falls" waX)
  (a61:D4 K "steam_by" waB)
  (a62:D4 K "coal_of" waA)
  (a63:D4 K "say_coal" waY)
  (a64:D4 K "stretch_of" waE)
  (a65:D4 K "say_stretch" waZ)
  (a66:D6 K DA "say" "Desk.say" s_Desk_say)
  (a67:D4 K "_law_answers" wbc)
  (a68:D4 K "_law_draw" wb4)
  (a69:D4 K "_law_kind" wba)
  (a70:D4 K "_law_said" wbb)
  (a71:nsIn K mainGlobals "_law_between"=some (some (.ref n5))) (l71:K.lookup n5=some ⟨O71,R71,.func (FnAt "_law_between" wa4 V71 U71 W71 N71 l6 Z71),S71⟩) (c71:codeIn K l6 "_law_between"=true) (k71:keepIn K (.ref n5)=true)
  (a72:D4 K "_law_caps" wb7)
  (a73:D4 K "_law_cell" wb2)
  (a74:D4 K "_law_firing" wb8)
  (a75:D4 K "_law_pen" wb3)
  (a76:D4 K "_law_plant" wb5)
  (a77:D4 K "_law_story" wb6)
  (a78:D4 K "_law_text" wb9)
  (a79:nsIn K mainGlobals "law"=some (some (.ref j9))) (u8:K.lookup j9=some ⟨O79,R79,.func (FnAt "law" wa1 V79 w8 W79 N79 j6 v4),S79⟩) (c79:codeIn K j6 "law"=true) (k79:keepIn K (.ref j9)=true)
  (v8:plainGet K CA Str.empty=true) (w5:hasDictIn K CA=true) (poCA:plainOver K CA=true) (saCA:findIn K (.ref CA) "__setattr__"=some (some (.builtin "object.__setattr__"))) (mkCA:makesIn K CA=true) (kcCA:keepIn K (.ref CA)=true)
  (i9:findIn K (.ref CA) "plant"=some none)
  (j2:findIn K (.ref CA) "story"=some none)
  (i6:findIn K (.ref CA) "firings"=some none)
  (pgDA:plainGet K DA Str.empty=true) (hdDA:hasDictIn K DA=true) (poDA:plainOver K DA=true) (saDA:findIn K (.ref DA) "__setattr__"=some (some (.builtin "object.__setattr__"))) (v3:makesIn K DA=true) (v7:keepIn K (.ref DA)=true)
  (j0:findIn K (.ref DA) "watch"=some none)
  (z0:nsIn K mainGlobals "ValueError"=some none)
  (z1:nsIn K mainGlobals "all"=some none)
  (z2:nsIn K mainGlobals "bool"=some none)
  (z3:nsIn K mainGlobals "divmod"=some none)
  (z4:nsIn K mainGlobals "enumerate"=some none)
  (z5:nsIn K mainGlobals "int"=some none)
  (z6:nsIn K mainGlobals "isinstance"=some none)
  (z7:nsIn K mainGlobals "len"=some none)
  (z8:nsIn K mainGlobals "max"=some none)
  (z9:nsIn K mainGlobals "min"=some none)
  (z10:nsIn K mainGlobals "range"=some none)
  (z11:nsIn K mainGlobals "reversed"=some none)
  (z12:nsIn K mainGlobals "str"=some none)
  (z13:nsIn K mainGlobals "sum"=some none)
  (z14:nsIn K mainGlobals "tuple"=some none)
  (z15:nsIn K mainGlobals "zip"=some none)
  {t0:Tok} (q0:nsIn K mainGlobals "MOST_BOILERS"=some (some (.int 4 t0)))
  {t1:Tok} (q1:nsIn K mainGlobals "MOST_ENGINES"=some (some (.int 4 t1)))
  {t2:Tok} (q2:nsIn K mainGlobals "MOST_FAULTS"=some (some (.int 4 t2)))
  {t3:Tok} (q3:nsIn K mainGlobals "MOST_HOURS"=some (some (.int 8 t3)))
  {t4:Tok} (q4:nsIn K mainGlobals "MOST_UNITS"=some (some (.int 9 t4)))
  {t5:Tok} (q5:nsIn K mainGlobals "MOST_EXTRA"=some (some (.int 20 t5)))
  {t6:Tok} (q6:nsIn K mainGlobals "MOST_IN_MAIN"=some (some (.int 40 t6)))
  {t7:Tok} (q7:nsIn K mainGlobals "DONE"=some (some (.str "ok" t7)))
  {t8:Tok} (q8:nsIn K mainGlobals "NOTHING"=some (some (.str "-" t8)))
  {t9:Tok} (q9:nsIn K mainGlobals "MOST_WRITTEN"=some (some (.int 99 t9)))
  {M d0 d1 d2 d3 d4 d5 d6 d7 d8 d9 Z i0 O L J D z I g:yQ}
  (y0:nsIn K mainGlobals "NoPlant"=some (some (.ref d0)))
  (y1:nsIn K mainGlobals "NoStory"=some (some (.ref d1)))
  (y2:nsIn K mainGlobals "NoFiring"=some (some (.ref d2)))
  (y3:nsIn K mainGlobals "NoHour"=some (some (.ref d3)))
  (y4:nsIn K mainGlobals "NoBoiler"=some (some (.ref d4)))
  (y5:nsIn K mainGlobals "NoPrices"=some (some (.ref d5)))
  (y6:nsIn K mainGlobals "NoWay"=some (some (.ref d6)))
  (y7:nsIn K mainGlobals "NoSet"=some (some (.ref d7)))
  (y8:nsIn K mainGlobals "NoTanks"=some (some (.ref d8)))
  (y9:nsIn K mainGlobals "NoPump"=some (some (.ref d9)))
  (y10:nsIn K mainGlobals "NoFeeding"=some (some (.ref Z)))
  (y11:nsIn K mainGlobals "NoReadings"=some (some (.ref i0)))
  (y12:nsIn K mainGlobals "NoStart"=some (some (.ref O)))
  (y13:nsIn K mainGlobals "NoShifts"=some (some (.ref L)))
  (y14:nsIn K mainGlobals "NoBook"=some (some (.ref J)))
  (r8:nsIn K mainGlobals "NoAmount"=some (some (.ref D)))
  (u0:nsIn K mainGlobals "NoDeed"=some (some (.ref z)))
  (y17:nsIn K mainGlobals "NoLine"=some (some (.ref I)))
  (w9:nsIn K mainGlobals "NoText"=some (some (.ref g)))
  (yM:nsIn K mainGlobals "MainError"=some (some (.ref M))) (yB:mroIn K M (.type "BaseException")=some true) (yT:typeIn K (.ref M)=some (.type "type"))
  (x2:excIn K d2 BV "ValueError.__new__"=true) (w2:BD K M [d0,d1,d2,d3,d4,d5,d6,d7,d8,d9,Z,i0,O,L,J,D,z,I,g] 2=true)
  (x3:excIn K d3 BV "ValueError.__new__"=true) (w3:BD K M [d0,d1,d2,d3,d4,d5,d6,d7,d8,d9,Z,i0,O,L,J,D,z,I,g] 3=true)
  (x4:excIn K d4 BV "ValueError.__new__"=true) (w4:BD K M [d0,d1,d2,d3,d4,d5,d6,d7,d8,d9,Z,i0,O,L,J,D,z,I,g] 4=true)
  (x15:excIn K D BV "ValueError.__new__"=true) (w15:BD K M [d0,d1,d2,d3,d4,d5,d6,d7,d8,d9,Z,i0,O,L,J,D,z,I,g] 15=true)
  (x16:excIn K z BV "ValueError.__new__"=true) (w16:BD K M [d0,d1,d2,d3,d4,d5,d6,d7,d8,d9,Z,i0,O,L,J,D,z,I,g] 16=true)
  (x17:excIn K I BV "ValueError.__new__"=true) (w17:BD K M [d0,d1,d2,d3,d4,d5,d6,d7,d8,d9,Z,i0,O,L,J,D,z,I,g] 17=true)
  (x6:excIn K d6 BV "ValueError.__new__"=true) (w6:BD K M [d0,d1,d2,d3,d4,d5,d6,d7,d8,d9,Z,i0,O,L,J,D,z,I,g] 6=true)
  (wT:BD K M [d0,d1,d2,d3,d4,d5,d6,d7,d8,d9,Z,i0,O,L,J,D,z,I,g] 18=true) (xk:Ml K M g=true) (aI:DI K g)
  {NA SA:yQ}{o8 n9:Array DictEntry}{epN epS:Nat}{s0 s1 s2 s3 s4 s5 s6 s7 s8 s9:yQ}
  (yN:nsIn K mainGlobals "NUMBERS"=some (some (.ref NA))) (yS:nsIn K mainGlobals "SAYINGS"=some (some (.ref SA)))
  (g0:nsIn K mainGlobals "say_stoke"=some (some (.ref s0)))
  (g1:nsIn K mainGlobals "say_bank"=some (some (.ref s1)))
  (g2:nsIn K mainGlobals "say_fire"=some (some (.ref s2)))
  (g3:nsIn K mainGlobals "say_undo"=some (some (.ref s3)))
  (g4:nsIn K mainGlobals "say_least"=some (some (.ref s4)))
  (g5:nsIn K mainGlobals "say_show"=some (some (.ref s5)))
  (g6:nsIn K mainGlobals "say_main"=some (some (.ref s6)))
  (g7:nsIn K mainGlobals "say_falls"=some (some (.ref s7)))
  (g8:nsIn K mainGlobals "say_coal"=some (some (.ref s8)))
  (g9:nsIn K mainGlobals "say_stretch"=some (some (.ref s9)))
  (lN:K.lookup NA=some ⟨.type "dict",none,.dict o8 epN,#[]⟩) (lS:K.lookup SA=some ⟨.type "dict",none,.dict n9 epS,#[]⟩) (nN:(NA==sysModules)=false) (nS:(SA==sysModules)=false) (cN:Hv o8.toList numbersL=true) (cS:Hw n9.toList (PZ [s0,s1,s2,s3,s4,s5,s6,s7,s8,s9])=true) (hN:o8.toList.map (·.hash)=(numbersL.map (·.1)).map (hashStr w)) (hS:n9.toList.map (·.hash)=sayWs.map (hashStr w))
  :∃fd:FuncData,(∀(s:yR) (v:yU),BindsTo s fd ⟨[v],[]⟩ [("_law_script",v)])/\∀base:Heap,K.In base->base.Ns mainGlobals mg->L2.TabsAt base mg ((["_law_between","law"]:List Str).map (Bv K))->BK l.prog w K mg base CX0 20 fa fd ["_law_script"] (spN K):=by
 have e:=hfa.symm.trans (PySem.W.mg_of X G a79);cases e;have T:Tx mg:=⟨mg_none_of X G z0,mg_none_of X G z1,mg_none_of X G z2,mg_none_of X G z3,mg_none_of X G z4,mg_none_of X G z5,mg_none_of X G z6,mg_none_of X G z7,mg_none_of X G z8,mg_none_of X G z9,mg_none_of X G z10,mg_none_of X G z11,mg_none_of X G z12,mg_none_of X G z13,mg_none_of X G z14,mg_none_of X G z15,⟨_,mg_of X G q0⟩,⟨_,mg_of X G q1⟩,⟨_,mg_of X G q2⟩,⟨_,mg_of X G q3⟩,⟨_,mg_of X G q4⟩,⟨_,mg_of X G q5⟩,⟨_,mg_of X G q6⟩,⟨_,mg_of X G q7⟩,⟨_,mg_of X G q8⟩,⟨_,mg_of X G q9⟩⟩;have C:Tc K mg M [d0,d1,d2,d3,d4,d5,d6,d7,d8,d9,Z,i0,O,L,J,D,z,I,g]:=⟨mg_of X G y0,mg_of X G y1,mg_of X G y2,mg_of X G y3,mg_of X G y4,mg_of X G y5,mg_of X G y6,mg_of X G y7,mg_of X G y8,mg_of X G y9,mg_of X G y10,mg_of X G y11,mg_of X G y12,mg_of X G y13,mg_of X G y14,mg_of X G r8,mg_of X G u0,mg_of X G y17,mg_of X G w9,mg_of X G yM,yB,yT,y2,x2,w2,y3,x3,w3,y4,x4,w4,r8,x15,w15,u0,x16,w16,y17,x17,w17,y6,x6,w6,wT,(JZ xk).1,(JZ xk).2.1,(JZ xk).2.2.1,(JZ xk).2.2.2⟩;obtain⟨fI,ocI,odI,anI,slI,kVI,dcI,pmI,cdI,ctI,bI,eI,hI,lI,cI,kI⟩:=aI;have WK:Wc K CA:=⟨⟨v8,w5,poCA,saCA⟩,i9,j2,i6⟩;have DK:Gc K DA:=⟨⟨pgDA,hdDA,poDA,saDA⟩,j0⟩;have DC:Dc l.prog w K mg NA SA [s0,s1,s2,s3,s4,s5,s6,s7,s8,s9]:=⟨mg_of X G yN,mg_of X G yS,YS lN nN cN hN,YT lS nS cS hS,mg_of X G g0,mg_of X G g1,mg_of X G g2,mg_of X G g3,mg_of X G g4,mg_of X G g5,mg_of X G g6,mg_of X G g7,mg_of X G g8,mg_of X G g9⟩;obtain⟨h1,h2,h4⟩:=YR h3;have i8:=PQ a71 l71 (PU h1);have i8:l6= .ref (Bv K "_law_between").1:=i8;subst i8;have j5:=PQ a79 u8 (PU h2);have j5:j6= .ref (Bv K "law").1:=j5;subst j5;have F17:Di K mg "Watch" CA "Watch.__init__" s_Watch___init__ ["self","plant","story"]:=PR (mg_of X G yC) mkCA kcCA a17 λ_ _ _ _ _ _ us hl=>match us,hl with | [_,_,_],_=>rfl
 have F18:Di K mg "Desk" DA "Desk.__init__" s_Desk___init__ ["self","plant","story"]:=PR (mg_of X G yD) v3 v7 a18 λ_ _ _ _ _ _ us hl=>match us,hl with | [_,_,_],_=>rfl
 have F21:Dm K CA "kept_firing" "Watch.kept_firing" s_Watch_kept_firing ["self"]:=Fi a21 λ_ _ _ _ _ _ us hl=>match us,hl with | [_],_=>rfl
 have F23:Dm K CA "put_row" "Watch.put_row" s_Watch_put_row ["self","hour","row"]:=Fi a23 λ_ _ _ _ _ _ us hl=>match us,hl with | [_,_,_],_=>rfl
 have F34:Dm K CA "stoke" "Watch.stoke" s_Watch_stoke ["self","hour","boiler","amount"]:=Fi a34 λ_ _ _ _ _ _ us hl=>match us,hl with | [_,_,_,_],_=>rfl
 have F36:Dm K CA "bank" "Watch.bank" s_Watch_bank ["self","hour"]:=Fi a36 λ_ _ _ _ _ _ us hl=>match us,hl with | [_,_],_=>rfl
 have F38:Dm K CA "take_over" "Watch.take_over" s_Watch_take_over ["self","firing"]:=Fi a38 λ_ _ _ _ _ _ us hl=>match us,hl with | [_,_],_=>rfl
 have F42:Dm K CA "undo" "Watch.undo" s_Watch_undo ["self"]:=Fi a42 λ_ _ _ _ _ _ us hl=>match us,hl with | [_],_=>rfl
 have F66:Dm K DA "say" "Desk.say" s_Desk_say ["self","line"]:=Fi a66 λ_ _ _ _ _ _ us hl=>match us,hl with | [_,_],_=>rfl
 have F71:GK K mg "_law_between" wa4 ["_law_pen_here","_law_desk"] _:=YQ X G a71 l71 c71 k71 λ_ _ _ _ _ _ us hl=>match us,hl with | [_,_],_=>rfl
 have F79:GI K "law" "law" wa1 fa _ _:=⟨_,_,_,_,_,_,_,_,rfl,u8,c79⟩;refine⟨PySem.W.fnOf "law" "law" (BB wa1) (A9 wa1) (Am wa1) .none V79 w8 W79 N79 (.ref (Bv K "law").1) v4,λs v=> .of_eq rfl,λbase _ _ hTA=>?_⟩;have tB:=hTA _ (List.Mem.head _);have tL:=hTA _ (List.Mem.tail _ (List.Mem.head _));have XI:Xi l.prog w K mg base 1 "NoText" g "at" :=⟨⟨fI,_,["self","at"],WT (DW lI cI kI) C eI,eI,hI,(DW lI cI kI).binds λ_ _ _ _ _ _ us hl=>match us,hl with | [_,_],_=>rfl⟩,mg_of X G w9⟩;have xao:=V6 (P:=l.prog) (w:=w) (base:=base) (Be X G a0) T;have xap:=V8 (P:=l.prog) (w:=w) (base:=base) (Co X G a1) T;have xaq:=Wa (Co X G a2) T xao xap;have i4:=VD (P:=l.prog) (w:=w) (base:=base) (Co X G a3) T;have xar:=Vz (P:=l.prog) (w:=w) (base:=base) (B0 X G a4) T;have i5:=VB (Co X G a5) T xar;have xas:=V1 (Co X G a6) T i4 i5;have xat:=VL (B0 X G a7) T i4 i5;have xau:=VP (B0 X G a8) T xat i4;have xav:=VM (B0 X G a9) T i4 i5;have xaw:=VR (B0 X G a10) T xav i4;have xax:=VN (B0 X G a11) T i4 i5;have xay:=VS (B0 X G a12) T xau xaw xax i4;have xaz:=V0 (B0 X G a13) T xay;have xaA:=V2 (Be X G a14) T xas i4 i5 xaz;have v6:=V4 (Be X G a15) T xaA;have j3:=Wb (Be X G a16) T xaq v6;have xaB:=Xm F17 T WK j3;have xaC:=Yi F18 T DK xaB;have xaa:=WM (P:=l.prog) (w:=w) (base:=base) (Be X G a19) T;have xaD:=X1 (B0 X G a20) T C WK DC xaa;have i7:=Xj (P:=l.prog) (w:=w) (mg:=mg) (base:=base) F21 T WK;have xab:=Xg (P:=l.prog) (w:=w) (base:=base) (Co X G a22) T;have u6:=Xl F23 T WK i7 xab;have xaE:=We (P:=l.prog) (w:=w) (base:=base) (Be X G a24) T;have xad:=Wf (Be X G a25) T xaE v6;have xaF:=Wm (Be X G a26) T i4 i5;have xaG:=Wo (Be X G a27) T xaF i4;have u9:=Wq (Co X G a28) T j3 xaG;have l7:=Wr (Co X G a29) T u9;have xaH:=W9 (Co X G a29) T C u9;have xaf:=Ws (Co X G a30) T xad l7;have o9:=Wt (Co X G a31) T xaf;have xaI:=W8 (Be X G a32) T C i5;have xah:=W7 (Be X G a33) T C i5;have xaJ:=Xt F34 T WK C xah xaI i5 j3 xab o9 i7 u6;have xaK:=X2 (Be X G a35) T C WK xaJ;have xaL:=Xs F36 T WK xah i7 u6;have xaM:=X4 (Be X G a37) T C WK xaL;have u5:=Xq F38 T WK xaH;have xaN:=WN (Be X G a39) T xaa;have xaj:=WU (Co X G a40) T C XI j3 xaN;have xaO:=xaj.fn (sp':=JX) (Yy);have xaP:=X6 (Be X G a41) T C WK u5 xaj;have xaQ:=Xo (P:=l.prog) (w:=w) (mg:=mg) (base:=base) F42 T WK C;have xaR:=X8 (Be X G a43) T C WK xaQ;have xaS:=Xu (P:=l.prog) (w:=w) (base:=base) (Mi X G a44) T;have xaT:=Xv (Co X G a45) T xaS;have xaU:=Xw (B0 X G a46) T xaT;have xaV:=XC (P:=l.prog) (w:=w) (base:=base) (Mi X G a47) T;have xaW:=XD (Mi X G a48) T xaV;have xaX:=XE (B0 X G a49) T xaW;have xaY:=WE (P:=l.prog) (w:=w) (base:=base) (Be X G a50) T;have xak:=WF (B0 X G a51) T xaY;have xal:=WD (Be X G a52) T j3 xad;have xaZ:=XF (Be X G a53) T xaU xaX xak xal;have xb0:=X9 (Be X G a54) T C WK xaZ u5;have xam:=WP (Co X G a55) T l7;have xb1:=Yb (Be X G a56) T C WK i7 xam;have l9:=X0 (P:=l.prog) (w:=w) (base:=base) (B0 X G a57) T;have xb2:=Yc (Be X G a58) T C WK i7 o9 l9;have xb3:=Wu (Co X G a59) T xaf;have xb4:=Yd (Be X G a60) T C WK i7 xb3 l9;have xb5:=Ww (Co X G a61) T l7;have xb6:=WA (Co X G a62) T xb5;have xb7:=Yf (Be X G a63) T C WK i7 xb6;have xb8:=WH (Be X G a64) T xak xal;have xb9:=Yg (Be X G a65) T C WK xb8 l9;have j8:=Yj F66 T DK C DC xaD xaK xaM xaP xaR xb0 xb1 xb2 xb4 xb7 xb9;have j7:Mt CX0 l.prog w K mg base 16 DA "say" ["self","line"] (Hr [d0,d1,d2,d3,d4,d5,d6,d7,d8,d9,Z,i0,O,L,J,D,z,I,g] CA DA):=j8.plain λ_ _ _ _ h=>h
 have xba:=Yw (B0 X G a67) T DK j7;have j4:=VW (P:=l.prog) (w:=w) (base:=base) (Be X G a68) T;have xbb:=WY (P:=l.prog) (w:=w) (base:=base) (B0 X G a69) T C;have xan:=W4 (B0 X G a70) C xbb;have xbc:=Yx F71 tB.1 tB.2 T C DK j4 xan j7 j8;have xbd:=Wi (P:=l.prog) (w:=w) (base:=base) (Be X G a72) T;have xbe:=VU (P:=l.prog) (w:=w) (base:=base) (Be X G a73) T;have xbf:=Wy (Be X G a74) T j4;have xbg:=VV (P:=l.prog) (w:=w) (base:=base) (B0 X G a75) T;have xbh:=VX (B0 X G a76) T j4;have xbi:=Wh (Be X G a77) T j4;have xbj:=Yu (P:=l.prog) (w:=w) (base:=base) (B0 X G a78) T;exact YO F79 tL.1 tL.2 (Zd h4) T C DK xba xbc xbd xbe j4 xbf xbg xbh xbi xbj xaO xam xaC j7 j8 xan
end MF
set_option hygiene false
local macro_rules|`(#check $_:term)=>do
 let c:=`PySem.Challenge.cw_mainfires_k95_whole_desks_stand_alone_holds
 let mut l:=[`PySem.Challenge.pw_mainfires_k95_whole_desks_stand_alone]++(List.range 894).map λn=>c.str s!"o_{n}"
 for n in [38,45,47,63,78,93,108,123,138,153,168,183,198,213,228,243,258,273,288,303,318,333,383,454,535,608,637,696,771,780,782,840,893] do
  for s in ["tree","sts","heap","view"] do l:=l++[c.str s!"{s}_{n}",c.str s!"{s}_{n+1}"]
 return Lean.mkNullNode (←l.toArray.mapM λn=>`(theorem $(Lean.mkIdent (.mkSimple s!"tw{hash n}")):ident:True:=⟨⟩))
namespace PySem.W.Fast
#check 0
end PySem.W.Fast
open PySem PySem.W PyProof.Rows
set_option maxRecDepth 100000 in
set_option maxHeartbeats 0 in
theorem PySem.Challenge.cw_mainfires_k95_whole_desks_stand_alone_holds : PySem.Challenge.rw_mainfires_k95_whole_desks_stand_alone.Holds := by
 w_on;o_law;k_head;(case hw=>w_witness2)
 k_fill
 refine L2.walk_ofN (l := PySem.Challenge.rw_mainfires_k95_whole_desks_stand_alone) (n := 63) (k := 20) (x := "_law_script") (CX := λ_ => L2.CX0) (sp := MF.spN) ["_law_between", "law"] rfl (by decide) rfl ⟨rfl, by decide, by decide, rfl⟩ (λw h Y => PySem.W.km_in_of Y) (λy hy => by simp only [mem_cons, not_mem_nil, or_false] at hy; rcases hy with rfl | rfl <;> exact ⟨_, rfl⟩) (λw => by kernel_rfl) (λw => by kernel_rfl) ?F (λK H a ns hl hT hS => ⟨ns, hS, hl, hT _ (List.Mem.head _), hT _ (List.Mem.tail _ (List.Mem.head _)), λ_ => rfl⟩) (λ_ _ _ _ _ z => z)
 case F=>
  intro w mg fa h KX G hmg;apply MF.all_mk KX G hmg
  all_goals first | refine' MF.d4_mk ?_ ?_ ?_ ?_ | refine' MF.d6_mk ?_ ?_ ?_ ?_ ?_ | refine' MF.di_mk2 ?_ ?_ ?_ ?_ ?_ ?_ | skip
  any_goals k_is
  try any_goals k_exc
  all_goals kernel_rfl
end
