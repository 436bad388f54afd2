import PyProof.Rows.All
import Wide.All
import OpenK.AllK
import Wide.FinOn
import Lean
import PyProof.EqAt
import PyProof.EqKinds
import PyProof.TupleCall
import PyProof.Draws
import PyProof.ZipIter
import PyProof.EnumMake
import PyProof.IsiPairs
import PyProof.IsiHeapPairs
import PyProof.IsiNone
import PyProof.ReprRoads
import PyProof.ConsumeWalk
import PyProof.NeKinds
import PyProof.Rows.SeqMore
import PyProof.Rows.SortWalk
import PyProof.Rows.StrJoinMade
import PyProof.P3Eq
import PyProof.ListRange
import PyProof.CollectIter
import KE.KTryDeep
import PyProof.ExcBaseAll.ValueError
import PyProof.ExcArgsOwn
import PyProof.ExcAttrAll.ValueError
import KE.KLam
import PyProof.DictItemsLoops
import PyProof.DictCompW
import KE.KRevIter
import PyProof.Rows.RowHeap
import PyProof.MinMaxWalk
import PyProof.MaxThree
import PyProof.Rows.CallKwBuiltin
import PyProof.MeetsStr
import PyProof.MeetsStr2
import PyProof.StrLawsOcc
import PyProof.SliceStr2
import PyProof.Rows.StrMadeLen
import KE.KIntText
import PyProof.StrWalks
import PyProof.AutoListH
import KE.KEqDict
import PyProof.FitsReplace
import PyProof.Rows.StrDigits
import PySem.Challenge.RW_mainfires_k34_doors_of_plants_and_firing
set_option bootstrap.genMatcherCode false
set_option compiler.extract_closed false
abbrev yZ:=List (List Int)
abbrev yY:=PySem.Value -> PySem.Shared -> Prop
abbrev yX:=List PySem.Value
abbrev yW:=Option PySem.Value
abbrev yV:=List Int
abbrev yU:=PySem.Value
abbrev yS:=PySem.Shared
abbrev yR:=PySem.Addr
abbrev yQ:=PySem.PyData
abbrev yP:=PySem.Program
abbrev yO:=PySem.Around
abbrev yN:=PySem.World
abbrev yL:=PySem.Expr
open PySem PySem.Spec PyProof.Rows
abbrev Fgx := PySem.W.Frag
abbrev PNs := List (yR × Obj)
abbrev VSP := yU → yS → Prop
open List (mem_filter mem_range filterMap_cons mem_cons_self mem_cons_of_mem mem_cons mem_append mem_append_left getElem?_set_self mem_filterMap mem_append_right length_cons length_nil map_cons length_map append_nil nodup_cons of_mem_zip length_take getElem?_append_right getElem?_append_left getElem?_map mem_of_getElem? length_append length_replicate size_toArray length_drop map_nil length_set all_cons any_cons replicate_succ flatten_cons append_assoc foldl_cons length_singleton nil_append forIn_cons lookup_cons all_eq_true any_eq_true mem_singleton forIn_nil not_mem_nil getD_eq_getElem?_getD getElem?_eq_getElem getElem_mem drop_zero take_length range_succ take_add_one take_of_length_le getElem?_range all_map filter_append map_append mem_map sum_cons length_filter_le map_drop map_take drop_nil take_nil mem_flatten getElem?_drop take_zero sum_nil sum_append cons_append getElem?_eq_none length_zip zip_cons_cons eq_nil_of_length_eq_zero getElem?_of_mem foldl_append getElem?_take length_range ext_getElem? find?_cons map_map length_zipWith map_set)
set_option Elab.async false
set_option linter.all false
set_option maxRecDepth 100000
set_option maxHeartbeats 4000000
def Y0:=@length_map
def Y1:=@wpAny_bind
def Y2:=@Heap.get?_push_of_some
def Y3:=@List.getElem?_eq_some_iff
def Y4:=@Nat.le_refl
def Y5:=@getElem?_eq_getElem
def Y6:=@wpAny_pure
def Y7:=@getD_eq_getElem?_getD
def Y8:=@Heap.lt_size
def Y9:=@Option.some.inj
def YL:=@Heap.get?_push_size
def YM:=@map_append
def YN:=@if_neg
def YO:=@getElem?_map
def YQ:=@Nat.lt_of_lt_of_le
def YR:=@if_pos
def YS:=@take_of_length_le
def YT:=@Bool.false_ne_true
def YU:=@mem_of_getElem?
def YV:=@Nat.le_trans
def YW:=@length_take
def YX:=@Nat.lt_irrefl
def YY:=@mem_cons
def YZ:=@mem_append_right
def Z0:=@Nat.ne_of_lt
def Z1:=@mem_cons_self
def Z2:=@size_toArray
def Z3:=@of_decide_eq_true
def Z4:=@mem_cons_of_mem
def Z5:=@Bool.and_eq_true_iff
def Z6:=@Nat.zero_le
def Z7:=@length_append
def Z8:=@mem_map
def Z9:=@wpAny_mono
def Za:=@boot_isinstance
def Zb:=@Bool.false_and
def Zc:=@mem_singleton
def Ze:=@not_mem_nil
def Zf:=@Heap.size_push
def Zg:=@Bool.and_false
def Zh:=@length_cons
def Zi:=@PyProof.Rows.callWith_type1
def Zj:=@Bool.and_eq_true
def Zk:=@wpAny_loadPart'
def Zl:=@Heap.get?_update_other
def Zm:=@Option.map_eq_some_iff
def Zn:=@getElem?_eq_none
def Zo:=@Ne.symm
def Zp:=@Heap.get?_update_self
def Zq:=@PassesOwn.never
def Zr:=@eq_nil_of_length_eq_zero
def Zs:=@length_drop
def Zt:=@all_eq_true
def Zu:=@decide_eq_false
def Zv:=@congrArg
def Zw:=@length_replicate
def Zx:=@Nat.le_succ
def Zy:=@wpAny_newObj_type
def Zz:=@wpAny_truthy_bool
def ZA:=@map_cons
def ZB:=@wpAny_callSpecial?_slot
def ZC:=@or_false
def ZD:=@wpAny_holding
def ZE:=@decide_eq_true
def ZF:=@length_singleton
def ZG:=@beq_eq_false_iff_ne
def ZH:=@mem_filterMap
def ZI:=@wpAny_seqItems
def ZJ:=@wpAny_field
def ZK:=@lookup_cons
def ZL:=@wpAny_updateSeq
def ZM:=@mem_range
def ZN:=@wpAny_Call_Name_kw
def ZO:=@Nat.le_of_lt
def ZP:=@PyProof.Rows.slot_tuple_getitem
def ZQ:=@replicate_succ
def ZR:=@take_length
def ZS:=@Int.le_refl
def ZT:=@Nat.lt_succ_of_lt
def ZU:=@decide_eq_true_eq
def ZV:=@append_nil
def ZW:=@Nat.min_eq_left
def ZX:=@getElem?_of_mem
def ZY:=@Nat.ne_of_gt
def ZZ:=@wpAny_call_entry
def aa:=@of_decide_eq_false
def ac:=@beq_iff_eq
def ae:=@getElem?_range
def af:=@length_range
def ah:=@plainId_quiet
def aj:=@Bool.true_and
def ak:=@F.plain_min_loop
def al:=@wpAny_pyIter_tuple
def am:=@Bool.false_eq_true
def ao:=@wpAny_letGo
def ap:=@Bool.eq_iff_iff
def aq:=@getElem?_append_left
def au:=@pushCells_keeps
def av:=@F.slot_zip_next
def aw:=@Around.under_plainId
def ay:=@mem_append
def aA:=@call_meets
def aB:=@range_succ
def aC:=@codeAny_mono
def aD:=@Nat.lt_of_le_of_lt
def aE:=@wpAny_setField_rec
def aF:=@wpAny_passesOwn
def aG:=@getElem?_append_right
def aH:=@Nat.le_of_ble_eq_true
def aI:=@codeAny_builtin
def aJ:=@any_cons
def aK:=@F.slot_tuple_iterator_next
def aL:=@wpAny_pyIter_list
def aM:=@codeAny_call_builtin
def aN:=@Nat.lt_succ_self
def aO:=@Option.isSome_iff_exists
def aP:=@flatten_cons
def aQ:=@Int.zero_add
def aR:=@wpAny_standAt
def aS:=@if_true
def aU:=@getElem?_drop
def aV:=@F.slot_int_rmul
def aW:=@boot_sum
def aX:=@Int.toNat_natCast
def aY:=@filterMap_cons
def aZ:=@Nat.lt_trans
def ba:=@F.slot_range_reversed
def bg:=@wpAny_tryCatch
def bh:=@length_zipWith
def bi:=@List.mem_zipIdx_iff_getElem?
def bj:=@of_mem_zip
def bo:=@if_false
def bp:=@Bool.or_eq_false_iff
def bq:=@length_filter_le
def bu:=@Nat.mul_le_mul_right
def bv:=@Array.getElem?_eq_some_iff
def bw:=@wpAny_of_eq
def bz:=@getElem_mem
def bA:=@map_map
def bB:=@Array.toList_append
def bC:=@F.plain_extend_loop
def bE:=@wpAny_binaryOp_repeat_ref
def bF:=@Nat.not_lt_zero
def bG:=@List.getElem?_zip_eq_some
def bH:=@append_assoc
def bI:=@Nat.succ_mul
def bJ:=@AutoSeq1.sub_tuple_tuple
def bK:=@sum_cons
def bL:=@Int.lt_of_le_of_lt
def bM:=@boot_all
def bN:=@mem_filter
def bO:=@typeIs_int
def bP:=@wpAny_rule
def bQ:=@Nat.mul_le_mul
def bR:=@sum_append
def bS:=@List.filter_cons_of_pos
def bT:=@List.filter_cons_of_neg
def bU:=@getElem?_set_self
def bV:=@F.args_zip_next_1
def bW:=@wpAny_pyIter_rangeiter
def bX:=@strLen_append
def bY:=@filter_append
def bZ:=@Nat.succ_ne_self
def cf:=@F.entry_zip_next
def cg:=@F.slot_tuple_mul
def ci:=@all_map
def ck:=@mem_append_left
def cq:=@List.getElem?_set_ne
def cu:=@wpAny_execs_nil
def cC:=@wpAny_call
def cD:=@Around.frames_deeper
def cE:=@nil_append
def cF:=@forIn_cons
def cG:=@List.mem_iff_getElem
def cH:=@take_add_one
def cI:=@wpAny_specialOf
def cJ:=@find?_cons
def cL:=@F.slot_dict_itemiterator_iter
def cM:=@Array.length_toList
def cN:=@Heap.SameBut.update
def cO:=@all_cons
def cQ:=@F.args_tuple_iterator_next_1
def cR:=@SeqAt.EqAt.str_int
def cS:=@Calls.spliced_cons
def cU:=@F.entry_tuple_iterator_next
def cV:=@Int.emod_lt_of_pos
def cW:=@Int.lt_of_lt_of_le
def cX:=@Calls.Name_function_global
def cY:=@Int.fdiv_eq_ediv_of_nonneg
def cZ:=@Int.fmod_eq_emod_of_nonneg
def da:=@wpAny_newFunctionEnv_cells
def db:=@wpAny_attempt
def de:=@List.fst_mem_of_mem_zipIdx
def df:=@wpAny_assign_Name
def dg:=@Calls.spliced_nil
def dh:=@slot_list_getitem
def di:=@F.args_int_rmul_2
def dj:=@Nat.le_of_succ_le
def dm:=@wpAny_pyIter_enum
def dq:=@length_set
def du:=@List.drop_eq_getElem_cons
def dw:=@wpAny_execs_cons
def dy:=@wpAny_typeOf
def dz:=@wpAny_getItem_list_slice
def dA:=@Nat.add_comm
def dB:=@F.slot_int_index
def dC:=@F.entry_int_rmul
def dD:=@beq_self_eq_true
def dE:=@wpAny_comprehension_free
def dF:=@wpAny_pyIter_zip
def dG:=@Nat.le_add_right
def dH:=@noFill_tuple_add
def dI:=@AutoSeq1.wpAny_loadPart'
def dJ:=@F.entry_min_loop
def dL:=@ext_getElem?
def dM:=@Heap.size_update
def dN:=@List.getElem?_replicate
def dO:=@F.fills_int_mul
def dP:=@forIn_nil
def dQ:=@Heap.DictOf.new
def dR:=@Int.emod_nonneg
def dS:=@Int.natCast_add
def dU:=@wpAny_pyNext_range_end
def dW:=@PyProof.noPylong_small
def dX:=@sizeLine_eq
def dY:=@subscriptTail_builtinR
def dZ:=@cons_append
def eg:=@richCompare_meets_room
def el:=@List.zipWith_cons_cons
def et:=@codeAny_call_function
def eB:=@map_nil
def eC:=@exec_Assign_Name_used
def eE:=@List.getElem?_reverse
def eF:=@Array.getElem?_modify
def eG:=@builtinLookup_eq_fast
def eI:=@nodup_cons
def eK:=@Subscript_
def eL:=@foldl_cons
def eM:=@length_zip
def eN:=@boot_max
def eO:=@tupleItemsOf_
def eQ:=@evalPart_none
def eR:=@wpAny_onRaise
def eS:=@seq_tuple_add
def eV:=@zip_cons_cons
def eW:=@getElem?_take
def eX:=@Nat.le_of_eq
def eY:=@Int.ediv_one
def eZ:=@eq_of_beq
def f7:=@seqIndex_neg
def f9:=@concat_meets
def fe:=@Nat.sub_zero
def fg:=@foldl_append
def fh:=@Nat.sub_self
def fj:=@Nat.zero_add
def fk:=@Int.le_trans
theorem L2.Au(I:True:=by rfl)(L:True:=by decide)(O:True:=by intro _;rfl)(J:True:=by first | exact .inl rfl | exact .inr rfl | assumption)(D:True:=by intro _ _;rfl)(c:True:=by intros;rfl)(g:True:=by with_unfolding_all rfl)(G:True:=by intro vs _ _ _ h;first | (cases h;rfl) | (rcases vs with _ | ⟨_,_ | ⟨_,_ | ⟨_,_ | ⟨_,_ | ⟨_,_ | ⟨_,_⟩⟩⟩⟩⟩⟩<;>first | rfl | exact False.elim h))(Z:True:=by first | exact Or.inl rfl | exact Or.inr (Or.inl rfl) | exact Or.inr (Or.inr rfl)):True:=trivial
def zF:Lean.Syntax:=L2.Au._auto_8
def j2:Lean.Syntax:=L2.Au._auto_1
def o3:Lean.Syntax:=L2.Au._auto_2
def o5:Lean.Syntax:=L2.Au._auto_3
def u3:Lean.Syntax:=L2.Au._auto_4
def W0:Lean.Syntax:=L2.Au._auto_5
def B':Lean.Syntax:=L2.Au._auto_6
def F':Lean.Syntax:=L2.Au._auto_7
def K':Lean.Syntax:=L2.Au._auto_9
namespace L2
abbrev AE:=Sum Int Str
def Ee:AE->yU->Bool
 |.inl k,v=>Value.isInt k v
 |.inr x,v=>Value.isStrOf x v
def Pp(w:yN):AE->Int
 |.inl k=>hashInt k
 |.inr x=>hashStr w x
theorem Dc:∀ {k:AE}{v:yU},Ee k v=true->(∃i t,k=Sum.inl i/\v=Value.int i t)\/(∃x t,k=Sum.inr x/\v=Value.str x t)
 |.inl i,v,h=>by
  obtain⟨t,e⟩:=Value.isInt_shape (k:=i) (v:=v) h;exact .inl ⟨i,t,rfl,e⟩
 |.inr x,v,h=>by
  obtain⟨t,e⟩:=Value.isStrOf_shape (x:=x) (v:=v) h;exact .inr ⟨x,t,rfl,e⟩
theorem Pq(i:Int)(t:Tok):Ee (.inl i) (.int i t)=true:=by simp[Ee,Value.isInt]
theorem Pr(x:Str)(t:Tok):Ee (.inr x) (.str x t)=true:=by simp[Ee,Value.isStrOf]
theorem Ps(a b:Int):decide ((Sum.inl a:AE)=Sum.inl b)=(a==b):=by
 by_cases e:a=b
 .subst e;simp
 .have h:¬(Sum.inl a:AE)=Sum.inl b:=λq=>e (Sum.inl.inj q)
  rw[Zu h];exact(ZG.mpr e).symm
theorem Pt(a b:Str):decide ((Sum.inr a:AE)=Sum.inr b)=decide (a=b):=by
 by_cases e:a=b
 .subst e;simp
 .have h:¬(Sum.inr a:AE)=Sum.inr b:=λq=>e (Sum.inr.inj q)
  rw[Zu h,Zu e]
theorem Pu(a:Int)(b:Str):decide ((Sum.inl a:AE)=Sum.inr b)=false:=Zu (λq=>nomatch q)
theorem Pw(a:Str)(b:Int):decide ((Sum.inr a:AE)=Sum.inl b)=false:=Zu (λq=>nomatch q)
def Bm(prog:yP)(w:yN):PySem.KeyKind prog w AE where
 is:=Ee
 hash:=Pp w
 inj:=λv a b G D=>by
  rcases Dc G with⟨i,t,rfl,rfl⟩ | ⟨x,t,rfl,rfl⟩
  .rcases Dc D with⟨j,u,rfl,e⟩ | ⟨y,u,rfl,e⟩
   .injection e with c _;rw[c]
   .exact nomatch e
  .rcases Dc D with⟨j,u,rfl,e⟩ | ⟨y,u,rfl,e⟩
   .exact nomatch e
   .injection e with c _;rw[c]
 byValue:=λk v h=>by
  rcases Dc h with⟨i,t,rfl,rfl⟩ | ⟨x,t,rfl,rfl⟩<;>rfl
 pyHash:=λg h=>by
  rcases Dc g with⟨i,t,rfl,rfl⟩ | ⟨x,t,rfl,rfl⟩
  .exact wpAny_pyHash_int h
  .exact wpAny_pyHash_str h
 eqBool:=λI g h=>by
  rcases Dc I with⟨i,t,rfl,rfl⟩ | ⟨x,t,rfl,rfl⟩
  .rcases Dc g with⟨j,u,rfl,rfl⟩ | ⟨y,u,rfl,rfl⟩
   .rw[Ps]at h;exact wpAny_eqBool_int h
   .rw[Pu]at h;exact SeqAt.EqAt.int_str i t y u _ _ _ _ h
  .rcases Dc g with⟨j,u,rfl,rfl⟩ | ⟨y,u,rfl,rfl⟩
   .rw[Pw]at h;exact cR x t j u _ _ _ _ h
   .rw[Pt]at h;exact wpAny_eqBool_str h
 «strs»:=λk x t v h=>by
  rcases Dc h with⟨i,u,rfl,e⟩ | ⟨y,u,rfl,e⟩
  .exact nomatch e
  .injection e with c _
   subst c;cases v<;>rfl
theorem Px(prog:yP)(w:yN)(k:AE)(v:yU):(Bm prog w).is k v=Ee k v:=rfl
theorem Jd(prog:yP)(w:yN)(i:Int)(t:Tok):(Bm prog w).is (.inl i) (.int i t)=true:=Pq i t
theorem K9(prog:yP)(w:yN)(x:Str)(t:Tok):(Bm prog w).is (.inr x) (.str x t)=true:=Pr x t
inductive V where
 |non | bl (b:Bool) | int (i:Int) | str (x:Str) | byt (b:Array UInt8) | flt (b:UInt64) | ref (a:yR) | ty (n:String)
 deriving DecidableEq
def Az:V->yU->Prop
 |.non,u=>u=Value.none
 |.bl b,u=>u=Value.bool b
 |.int i,u=>∃t,u=Value.int i t
 |.str x,u=>∃t,u=Value.str x t
 |.byt b,u=>∃t,u=Value.bytes b t
 |.flt b,u=>∃t,u=Value.float b t
 |.ref a,u=>u=Value.ref a
 |.ty n,u=>u=Value.type n
abbrev At:List V->yX->Prop:=Paired Az
theorem At.length{xs:List V}{us:yX}(r:At xs us):xs.length=us.length:=Paired.length r
theorem At.get:∀ {xs:List V}{us:yX}{i:Nat}{x:V},At xs us->xs[i]? =some x->∃u,us[i]? =some u/\Az x u
 |_,_,_,_,.nil,e=>by simp at e
 |_,_,0,_,.cons r _,e=>by simp at e;subst e;exact⟨_,rfl,r⟩
 |_,_,i+1,x,.cons _ t,e=>by
  obtain⟨u,g,c⟩:=At.get (i:=i) (x:=x) t (by simpa using e);exact⟨u,by simpa using g,c⟩
theorem At.set{x:V}{u:yU}(r:Az x u):∀ {xs:List V}{us:yX} (i:Nat),At xs us->At (xs.set i x) (us.set i u)
 |_,_,_,.nil=> .nil
 |_,_,0,.cons _ t=> .cons r t
 |_,_,i+1,.cons q t=> .cons q (At.set r i t)
theorem At.append{xs ys:List V}{us ws:yX}(h:At xs us)(s:At ys ws):At (xs++ys) (us++ws):=by
 induction h with
 |nil=>exact s
 |cons r t ih=>exact .cons r ih
theorem At.take:∀ {xs:List V}{us:yX} (n:Nat),At xs us->At (xs.take n) (us.take n)
 |_,_,0,_=> .nil
 |_,_,_+1,.nil=> .nil
 |_,_,n+1,.cons r t=> .cons r (At.take n t)
theorem At.drop:∀ {xs:List V}{us:yX} (n:Nat),At xs us->At (xs.drop n) (us.drop n)
 |_,_,0,r=>r
 |_,_,_+1,.nil=> .nil
 |_,_,n+1,.cons _ t=>At.drop n t
def RelO:Option V->yW->Prop
 |some v,some u=>Az v u
 |none,none=>True
 |_,_=>False
def KV{c:Type}:List (c×V)->List (c×yU)->Prop:=Paired fun(p:c×V) (q:c×yU)=>p.1=q.1/\Az p.2 q.2
def kV:AE->V
 |.inl i=> .int i
 |.inr x=> .str x
inductive HO where
  |lst (xs:List V)
  |tup (xs:List V)
  |dK (kvs:List (AE×V)) | dT (kvs:List (List AE×V))
  |set (S:Int->Bool) (n:Nat)
  |ins (C dx:yR) (fs:List (Str×V))
  |own (x:yR)
  |xd (fs:List (Str×V))
  |met (f x:yR)
  |rng (lo hi:Int)
  |frz (o:Obj) (u:HO)
  |tbl (ps:Array yU)
  |ext (φ:Heap->Prop)
abbrev Hp:=yR->Option HO
def upd(H:Hp)(a:yR)(o:HO):Hp:=λb=>if b=a then some o else H b
theorem Af{H:Hp}{a:yR}{o:HO}:upd H a o a=some o:=by unfold upd;rw[YR rfl]
theorem Ap{H:Hp}{a b:yR}{o:HO}(h:b≠a):upd H a o b=H b:=by unfold upd;rw[YN h]
theorem Py{H:Hp}{a b:yR}{o u:HO}(h:H a=some o)(h':H b=some u)(d:o≠u):a≠b:=by
 intro e;subst e;rw[h]at h';exact d (Y9 h')
theorem BC{H:Hp}{a b:yR}{o:HO}(h:H a=some o)(h':H b=none):a≠b:=by
 intro e;subst e;rw[h]at h';cases h'
section
variable(P:yP)(w:yN)
def ObjOk(H:Hp)(h:Heap)(a:yR):HO->Prop
 |.lst xs=>xs.length<=sizeLine/\∃(its:yX) (n:Nat),At xs its/\h.get? a=some { cls:= .type "list",data:= .seq its.toArray n}
 |.tup xs=>xs.length<=sizeLine/\∃its:yX,At xs its/\IsTup h a its.toArray
 |.dK kvs=>kvs.length<=sizeLine/\(a==sysModules)=false/\∃vs,KV kvs vs/\h.DictOf (Bm P w) a vs
 |.dT kvs => kvs.length <= sizeLine /\ (a == sysModules) = false /\ ∃ xs : List (List AE × yR × yU),
   Paired (fun(p:List AE×V) (q:List AE×yR×yU)=>p.1=q.1/\H q.2.1=some (.tup (p.1.map kV))/\Az p.2 q.2.2) kvs xs/\
   ∃o es ep,h.get? a=some o/\o.ExactDict/\o.data= .dict es ep/\es.toList=xs.map (entryOfKey (tupleKind (Bm P w)))/\(xs.map (·.1)).Nodup
 |.set S n=>h.SetOf (intKind P w) a S n
 |.ins C dx fs => H dx = some (.own a) /\ fs.length <= 1000 /\ dx ≠ a /\ h.get? a = some (PySem.W.instObj C dx) /\
   ∃mA,h.Ns1 dx mA/\(∀f,RelO (fs.lookup f) (mA f))/\PySem.Within mA (fs.map (·.1))
 |.own _=>∃o,h.get? a=some o
 |.xd fs=>∃mA,h.Ns1 a mA/\∀f,RelO (fs.lookup f) (mA f)
 |.rng lo hi=>∃t u v,h.get? a=some { cls:= .type "range",data:= .fields #[.int lo t,.int hi u,.int 1 v]}
 |.frz o u=>h.get? a=some o/\ObjOk H h a u
 |.tbl ps=>h.get? a=some { cls:= .none,data:= .fields ps}
 |.met f x=>h.get? a=some (PySem.W.methodObj (.ref f) (.ref x))
 |.ext φ=>φ h/\(∃o,h.get? a=some o)/\∀h1 h2:Heap,φ h1->(∀o,h1.get? a=some o->h2.get? a=some o)->φ h2
def HOk(H:Hp)(h:Heap):Prop:=∀a o,H a=some o->ObjOk P w H h a o
end
section
variable{P:yP}{w:yN}{H H':Hp}{h h':Heap}{a:yR}{o:HO}
theorem ObjOk.lt(x:ObjOk P w H h a o):a<h.objs.size:=by
 cases o with
 |lst xs=>obtain⟨_,_,_,_,e⟩:=x;exact Y8 e
 |tup xs=>obtain⟨_,_,_,p⟩:=x;exact p.lt
 |dK kvs=>obtain⟨_,_,_,_,o,_,_,e,_⟩:=x;exact Y8 e
 |dT kvs=>obtain⟨_,_,_,_,o,_,_,e,_⟩:=x;exact Y8 e
 |set S n=>obtain⟨o,_,_,_,e,_⟩:=x;exact Y8 e
 |ins C dx fs=>obtain⟨_,_,_,e,_⟩:=x;exact Y8 e
 |own y=>obtain⟨_,e⟩:=x;exact Y8 e
 |xd fs=>obtain⟨_,⟨_,_,_,e,_⟩,_⟩:=x;exact Y8 e
 |rng lo hi=>obtain⟨_,_,_,e⟩:=x;exact Y8 e
 |frz ob u=>obtain⟨e,_⟩:=x;exact Y8 e
 |tbl ps=>exact Y8 (show h.get? a=some _ from x)
 |met f y=>exact Y8 (show h.get? a=some _ from x)
 |ext φ=>obtain⟨_,⟨_,e⟩,_⟩:=x;exact Y8 e
theorem Paired.mapP{I D:Type}{F G:I->D->Prop}{g:List I}{c:List D}(h:Paired F g c)(f:∀a b,F a b->G a b):Paired G g c:=by
 induction h with
 |nil=>exact .nil
 |cons r t ih=>exact .cons (f _ _ r) ih
theorem ObjOk.stay(x:ObjOk P w H h a o)(k:∀b u,(b=a\/H b=some (.own a))->h.get? b=some u->h'.get? b=some u)
  (J:∀b,H b=some (.own a)->H' b=some (.own a)) (L:∀b xs,H b=some (.tup xs)->H' b=some (.tup xs)):ObjOk P w H' h' a o:=by
 induction o with
 |lst xs=>obtain⟨z,D,n,r,e⟩:=x;exact⟨z,D,n,r,k _ _ (.inl rfl) e⟩
 |tup xs=>obtain⟨z,D,r,ob,e,c⟩:=x;exact⟨z,D,r,ob,k _ _ (.inl rfl) e,c⟩
 |dK kvs=>obtain⟨z,y,Z,r,ob,es,g,e,c⟩:=x;exact⟨z,y,Z,r,ob,es,g,k _ _ (.inl rfl) e,c⟩
 |dT kvs=>
  obtain⟨z,y,xs,r,ob,es,g,e,c⟩:=x;exact⟨z,y,xs,Paired.mapP r λp q z=>⟨z.1,L _ _ z.2.1,z.2.2⟩,ob,es,g,k _ _ (.inl rfl) e,c⟩
 |set S n=>obtain⟨ob,es,g,t,e,c⟩:=x;exact⟨ob,es,g,t,k _ _ (.inl rfl) e,c⟩
 |ins C dx fs=>
  obtain⟨d,z,ne,e,G,⟨I,es,g,O,c⟩,r⟩:=x;exact⟨J _ d,z,ne,k _ _ (.inl rfl) e,G,⟨I,es,g,k _ _ (.inr d) O,c⟩,r⟩
 |own y=>obtain⟨ob,e⟩:=x;exact⟨ob,k _ _ (.inl rfl) e⟩
 |xd fs=>obtain⟨G,⟨I,es,g,e,c⟩,r⟩:=x;exact⟨G,⟨I,es,g,k _ _ (.inl rfl) e,c⟩,r⟩
 |rng lo hi=>obtain⟨t,u,v,e⟩:=x;exact⟨t,u,v,k _ _ (.inl rfl) e⟩
 |frz ob u ih=>obtain⟨e,q⟩:=x;exact⟨k _ _ (.inl rfl) e,ih q⟩
 |tbl ps=>
  have e:h.get? a=some { cls:= .none,data:= .fields ps}:=x;show h'.get? a=some { cls:= .none,data:= .fields ps};exact k a _ (.inl rfl) e
 |met f y=>
  have e:h.get? a=some (PySem.W.methodObj (.ref f) (.ref y)):=x;show h'.get? a=some (PySem.W.methodObj (.ref f) (.ref y));exact k a _ (.inl rfl) e
 |ext φ=>obtain⟨p,⟨o,e⟩,st⟩:=x;exact⟨st _ _ p λo q=>k _ _ (.inl rfl) q,⟨o,k _ _ (.inl rfl) e⟩,st⟩
theorem HOk.lt(x:HOk P w H h)(e:H a=some o):a<h.objs.size:=(x a o e).lt
theorem HOk.fresh(x:HOk P w H h)(e:h.objs.size<=a):H a=none:=by
 cases q:H a with
 |none=>rfl
 |some u=>exact absurd (YQ (x.lt q) e) (YX _)
theorem HOk.kept(x:HOk P w H h)(k:∀b u,h.get? b=some u->h'.get? b=some u):HOk P w H h':=λa o e=>
 (x a o e).stay (λb u _ q=>k b u q) (λ_ q=>q) λ_ _ q=>q
theorem HOk.laid(x:HOk P w H h)(k:∀b u,h.get? b=some u->h'.get? b=some u)(G:h.objs.size<=a)(new:ObjOk P w (upd H a o) h' a o):HOk P w (upd H a o) h':=λb u e=>by
 have D:=x.fresh G
 by_cases g:b=a
 .subst g;rw[Af]at e;cases e;exact new
 .rw[Ap g]at e;exact(x b u e).stay (λc v _ q=>k c v q) (λc q=>by rw[Ap (BC q D)];exact q) λc I q=>by rw[Ap (BC q D)];exact q
end
def Rd(H:Hp)(a:yR)(u:HO):Prop:=H a=some u\/ ∃o,H a=some (.frz o u)
theorem Rd.ok{P:yP}{w:yN}{H:Hp}{h:Heap}{a:yR}{u:HO}(r:Rd H a u)(x:HOk P w H h):ObjOk P w H h a u:=by
 rcases r with r | ⟨o,r⟩
 .exact x a u r
 .obtain⟨_,q⟩:=x a _ r;exact q
def FR:Option HO->Prop
 |some (.lst _)=>True
 |some (.dK _)=>True
 |some (.dT _)=>True
 |some (.set _ _)=>True
 |some (.ins _ _ _)=>True
 |some (.ext _)=>True
 |_=>False
section
variable{P:yP}{w:yN}{H:Hp}{h h':Heap}{x e:yR}{o':HO}
theorem HOk.write(ok:HOk P w H h)(I:FR (H x))(he:e=x\/H e=some (.own x))(k:∀b u,b≠e->h.get? b=some u->h'.get? b=some u)(Z:∃u,h'.get? e=some u)
  (new:ObjOk P w (upd H x o') h' x o'):HOk P w (upd H x o') h':=λb u q=>by
 have D:∀c y,H c=some (.own y)->c≠x:=λc y r z=>by subst z;rw[r]at I;exact I
 have G:∀c J,H c=some (.tup J)->c≠x:=λc J r z=>by subst z;rw[r]at I;exact I
 by_cases O:b=x
 .subst O;rw[Af]at q;cases q;exact new
 .rw[Ap O]at q
  by_cases g:b=e
  .have q':H b=some (.own x):=by
    rcases he with z | z
    .exact absurd (g.trans z) O
    .rw[g];exact z
   rw[q]at q';cases q';obtain⟨v,hv⟩:=Z;exact⟨v,by rw[g];exact hv⟩
  .refine(ok b u q).stay (λc v L r=>k c v ?_ r) (λc r=>by rw [Ap (D c b r)];exact r) λc J r=>by rw [Ap (G c J r)];exact r
   rcases L with rfl | L
   .exact g
   .rintro rfl;rcases he with z | z
    .exact D c b L z
    .rw[L]at z;cases z;exact O rfl
end
structure Un(fs ex:List yR)(H H':Hp)(h h':Heap):Prop where
 keep:∀b o,h.get? b=some o->H b=none->b ∉ fs->b ∉ ex->h'.get? b=some o
 slot:∀b o,h.get? b=some o->H b=none->b∈fs->b ∉ ex->∃sl,h'.get? b=some { o with slots:=sl}
 free:∀b o,h.get? b=some o->H b=none->b ∉ ex->H' b=none
 there:∀b o,h.get? b=some o->b ∉ ex->∃o',h'.get? b=some o'
 tups:∀b xs,H b=some (.tup xs)->H' b=some (.tup xs)
 frzs:∀b o u,H b=some (.frz o u)->H' b=some (.frz o u)
 tbls:∀b ps,H b=some (.tbl ps)->∃more,H' b=some (.tbl (ps++more))
section
variable{fs fs' ex ex':List yR}{H H1 H2:Hp}{h h1 h2 h':Heap}{a x e:yR}{o:HO}
theorem Un.any(u:Un fs ex H H1 h h1){b:yR}{ob:Obj}(q:h.get? b=some ob)(n:H b=none)(g:b ∉ ex):∃D,h1.get? b=some { ob with slots:=D}:=by
 by_cases c:b∈fs
 .exact u.slot b ob q n c g
 .exact⟨ob.slots,u.keep b ob q n c g⟩
theorem Un.kept(k:∀b u,h.get? b=some u->h'.get? b=some u):Un fs ex H H h h':=
 ⟨λb ob q _ _ _=>k b ob q,λb ob q _ _ _=>⟨ob.slots,k b ob q⟩,λ_ _ _ n _=>n,λb ob q _=>⟨ob,k b ob q⟩,λ_ _ q=>q,λ_ _ _ q=>q,λ_ c q=>⟨#[],by rw[q];simp⟩⟩
theorem Un.refl:Un fs ex H H h h:=Un.kept λ_ _ q=>q
theorem Un.laid(k:∀b u,h.get? b=some u->h'.get? b=some u)(D:h.objs.size<=a)(c:H a=none):Un fs ex H (upd H a o) h h' where
 keep:=λb u q _ _ _=>k b u q
 slot:=λb u q _ _ _=>⟨u.slots,k b u q⟩
 free:=λb u q n _=>by rw[Ap (Z0 (YQ (Y8 q) D))];exact n
 there:=λb u q _=>⟨u,k b u q⟩
 tups:=λb g q=>by rw[Ap (BC q c)];exact q
 frzs:=λb u g q=>by rw[Ap (BC q c)];exact q
 tbls:=λb G q=>⟨#[],by rw[Ap (BC q c),q];simp⟩
theorem Un.write(g:FR (H x))(O:e=x\/H e=some (.own x))(k:∀b u,b≠e->h.get? b=some u->h'.get? b=some u)(G:∃u,h'.get? e=some u):Un fs ex H (upd H x o) h h':=by
 have J:∀b,H b=none->b≠x:=λb n z=>by subst z;rw[n]at g;exact g
 have I:∀b,H b=none->b≠e:=λb n z=>by
  subst z;rcases O with r | r
  .exact J b n r
  .rw[n]at r;cases r
 have D:∀b u,H b=some u->¬FR (some u)->b≠x:=λb u q nm z=>by subst z;rw[q]at g;exact nm g
 refine⟨λb u q n _ _=>k b u (I b n) q,λb u q n _ _=>⟨u.slots,k b u (I b n) q⟩,λb u q n _=>by rw[Ap (J b n)];exact n,λb u q _=>?_,
  λb L q=>by rw[Ap (D b _ q λz=>z)];exact q,λb u L q=>by rw[Ap (D b _ q λz=>z)];exact q,λb Z q=>⟨#[],by rw[Ap (D b _ q λz=>z),q];simp⟩⟩
 by_cases c:b=e
 .subst c;exact G
 .exact⟨u,k b u c q⟩
end
def GW(h:Heap)(H:Hp):List yR:=(List.range h.objs.size).filter λa=>(H a).isSome
def Dd(h:Heap)(H:Hp):Heap:=PySem.W.hideAll h (GW h H)
theorem Pz(h:Heap)(H:Hp):(Dd h H).objs.size=h.objs.size:=PySem.W.hideAll_size _ _
theorem PC{h:Heap}{H:Hp}{b:yR}{o:Obj}(e:h.get? b=some o)(n:H b=none):(Dd h H).get? b=some o:=
 PySem.W.hideAll_get _ e λc=>by
  have q:(H b).isSome=true:=(bN.mp c).2;rw[n]at q;simp at q
theorem PD{h:Heap}{H:Hp}{b:yR}{o:Obj}(e:(Dd h H).get? b=some o):h.get? b=some o/\H b=none:=by
 have c:h.get? b=some o:=PySem.W.of_hideAll (GW h H) e;refine⟨c,?_⟩;cases q:H b with
 |none=>rfl
 |some x=>
  have g:b∈GW h H:=bN.mpr ⟨ZM.mpr (Y8 c),by simp[q]⟩;have z:(Dd h H).get? b=none:=PySem.W.hideAll_none (GW h H) g;rw[z]at e;cases e
def PF(g h:Heap)(L:yR):PNs:=(List.range h.objs.size).filterMap λa=>if a=L\/(g.get? a).isSome=true then none else(h.get? a).map λo=>(a,o)
def BZ(g h:Heap)(L d:yR):PNs:=(PF g h L).filter λp=>decide (p.1≠d)
variable{g':Array GenState}{t' i:Nat}{d':Drawn}{ch:List yR}{M:Model}{E:yY}{u:yU}{Q:Unit -> yS -> Prop}
structure Mod(K:Fgx)(mg:Str->yW)(base:Heap):Prop where
 kin:K.In base
 glob:base.Ns mainGlobals mg
 blt:∃mb,base.Ns builtinsNs mb/\∀x:Str,x≠ "__name__" ->mb x=bootBuiltins x
 nolimit:base.NoLimit
structure Cx where
 prog:yP
 w:yN
 K:Fgx
 mg:Str->yW
 base:Heap
 A:yO
 N:List Str
 s₀:yS
 H₀:Hp
 env:Env
 outer:List Env
 stack:List Env
 ex:List yR
 fn:Str->Bool
 calm:Bool
 pn:PNs
 xe:VSP
def AG(l:List Env):List yR:=l.filterMap (·.frame)
abbrev Cx.fs(X:Cx):List yR:=AG X.outer
def DL(c:Scope)(x:Str):Prop:=c.names.lookup x=some .local \/c.names.lookup x=some .cell\/c.names.lookup x=some .free
def Ef(c:Scope)(x:Str):Prop:=c.names.lookup x=some .local \/c.names.lookup x=some .cell
def PH(env:Env)(h:Heap)(m:Str->yW)(x:Str)(u:yU):Prop:=
 (env.kindOf x=some .local /\m x=some u)\/((env.kindOf x=some .cell\/env.kindOf x=some .free)/\∃c,env.cells.lookup x=some c/\h.IsCell c (some u))
structure Cx.Ok(X:Cx):Prop where
 mod:Mod X.K X.mg X.base
 kind:X.env.scope.kind= .function
 glob:X.env.globals=mainGlobals
 blt:X.env.builtins=builtinsNs
 above:X.s₀.heap.objs.size<=X.env.locals
 inj:∀x y c,X.env.cells.lookup x=some c->X.env.cells.lookup y=some c->x=y
 has:∀x,(X.env.kindOf x=some .cell\/X.env.kindOf x=some .free)->∃c,X.env.cells.lookup x=some c
 cab:∀x c,X.fn x=true->X.env.cells.lookup x=some c->X.s₀.heap.objs.size<=c
 hd:X.calm=true->X.A.handled=none
 frames:X.A.frames=some X.stack
 stk:X.stack=X.outer\/(X.stack=X.env::X.outer/\X.env.frame=some X.env.locals)
 exf:∀b∈X.ex,b≠X.env.locals/\∀x c,X.env.cells.lookup x=some c->c≠b
 bs:∀b o,X.base.get? b=some o->X.s₀.heap.get? b=some o/\X.H₀ b=none
 bsz:X.base.objs.size<=X.s₀.heap.objs.size
 noex:∀b o,X.base.get? b=some o->b ∉ X.ex
 exfs:∀b∈X.ex,b ∉ X.fs
 funs:X.s₀.heap.FunFrames X.base X.outer
 frf:∀b∈X.fs,X.H₀ b=none
structure Ad(X:Cx)(ad:PNs)(σ:List (Option V))(H:Hp)(s:yS):Prop where
 ok:X.Ok
 os:s.os=X.s₀.os
 bare:AllBare s.gens
 base:Un X.fs X.ex X.H₀ H X.s₀.heap s.heap
 loc:∃m,s.heap.Ns X.env.locals m/\∀(i:Nat) (x:Str) (v:V),X.N[i]? =some x->σ[i]? =some (some v)->DL X.env.scope x->∃u,Az v u/\PH X.env s.heap m x u
 cell:∀x c,X.env.cells.lookup x=some c->∃v,s.heap.IsCell c v
 free:H X.env.locals=none
 freeC:∀x c,X.env.cells.lookup x=some c->H c=none
 pin:∀p∈X.pn++ad,s.heap.get? p.1=some p.2/\H p.1=none/\p.1≠X.env.locals/\p.1 ∉ X.fs/\∀v,p.2.data≠ .cell v
 hok:HOk X.prog X.w H s.heap
 len:σ.length=X.N.length
section
variable{X:Cx}{ad:List (yR × Obj)}{σ:List (Option V)}{H H':Hp}{s:yS}{h':Heap}
theorem Cx.Ok.nofr(ok:X.Ok){b:yR}{o:Obj}(e:X.base.get? b=some o):b ∉ X.fs:=λc=>by
 have:=(ok.funs.mem c).1;rw[e]at this;cases this
theorem Ad.bs(I:Ad X ad σ H s):∀b o,X.base.get? b=some o->s.heap.get? b=some o/\H b=none:=λb o e=>
 ⟨I.base.keep b o (I.ok.bs b o e).1 (I.ok.bs b o e).2 (I.ok.nofr e) (I.ok.noex b o e),I.base.free b o (I.ok.bs b o e).1 (I.ok.bs b o e).2 (I.ok.noex b o e)⟩
theorem Ad.bk(I:Ad X ad σ H s):∀b o,X.base.get? b=some o->s.heap.get? b=some o:=λb o e=>(I.bs b o e).1
theorem Ad.mod(I:Ad X ad σ H s):Mod X.K X.mg X.base:=I.ok.mod
theorem Ad.kIn(I:Ad X ad σ H s):X.K.In s.heap:=I.ok.mod.kin.keeps I.bk
theorem Ad.lt(I:Ad X ad σ H s):X.env.locals<s.heap.objs.size:=let ⟨_,hn,_⟩:=I.loc;hn.lt
theorem Ad.sz(I:Ad X ad σ H s):X.s₀.heap.objs.size<=s.heap.objs.size:=YV I.ok.above (ZO I.lt)
theorem Ad.nofs(I:Ad X ad σ H s){a:yR}(h:s.heap.objs.size<=a):a ∉ X.fs:=λg=>by
 obtain⟨_,o,c,_⟩:=I.ok.funs.mem g;exact absurd (YQ (Y8 c) (YV I.sz h)) (YX _)
theorem Ad.cne(I:Ad X ad σ H s):∀x c,X.env.cells.lookup x=some c->c≠X.env.locals:=λx c e z=>by
 obtain⟨v,o,G,hd⟩:=I.cell x c e;obtain⟨m,⟨L,es,J,g,D,_⟩,_⟩:=I.loc;rw[z,g]at G;cases G;rw[D]at hd;cases hd
theorem Ad.funs(I:Ad X ad σ H s):s.heap.FunFrames X.base X.outer:=by
 have all:∀(l:List Env),(∀b∈AG l,b∈X.fs)->X.s₀.heap.FunFrames X.base l->s.heap.FunFrames X.base l:=by
  intro l
  induction l with
  |nil=>intro _ _;trivial
  |cons env r ih=>
   intro G O;obtain⟨hk,⟨L,o,g,hn,Z,hd⟩,J⟩:=O;have c:L∈X.fs:=G L (by unfold AG;rw[aY,g];exact Z1);obtain⟨sl,e⟩:=I.base.slot L o Z (I.ok.frf L c) c λz=>I.ok.exfs L z c
   exact⟨hk,⟨L,_,g,hn,e,hd⟩,ih (λb D=>G b (by unfold AG;rw[aY,g];exact Z4 _ D)) J⟩
 exact all X.outer (λ_ D=>D) I.ok.funs
theorem Ad.stack(I:Ad X ad σ H s):s.heap.FunFrames X.base X.stack:=by
 rcases I.ok.stk with e | ⟨e,c⟩
 .rw[e];exact I.funs
 .rw[e];obtain⟨m,g,_⟩:=I.loc;refine .cons (by rw[I.ok.kind];decide) c g ?_ I.funs;exact Heap.get?_none_of_le (YV I.ok.bsz I.ok.above)
theorem Ad.stkSub(I:Ad X ad σ H s):∀b∈AG X.stack,b∈X.env.locals::X.fs:=λb c=>by
 rcases I.ok.stk with e | ⟨e,g⟩
 .rw[e]at c;exact Z4 _ c
 .rw[e]at c;unfold AG at c;rw[aY,g]at c;exact c
theorem Ad.stkFree(I:Ad X ad σ H s):∀b∈AG X.stack,H b=none:=λb c=>by
 rcases YY.mp (I.stkSub b c) with e | c
 .rw[e];exact I.free
 .obtain⟨_,o,g,_⟩:=I.ok.funs.mem c;exact I.base.free b o g (I.ok.frf b c) λz=>I.ok.exfs b z c
theorem Ad.step(I:Ad X ad σ H s)
  (D:∀b∈ch,(b∈X.ex\/X.s₀.heap.objs.size<=b)/\b≠X.env.locals/\(∀x c,X.env.cells.lookup x=some c->c≠b)/\∀p∈X.pn++ad,p.1≠b)
  (keep:∀b o,b≠X.env.locals->b ∉ X.fs->b ∉ ch->s.heap.get? b=some o->H b=none->h'.get? b=some o)
  (slot:∀b o,b≠X.env.locals->b∈X.fs->b ∉ ch->s.heap.get? b=some o->H b=none->∃sl,h'.get? b=some { o with slots:=sl}) (free:∀b o,b ∉ ch->s.heap.get? b=some o->H b=none->H' b=none)
  (there:∀b o,b ∉ ch->s.heap.get? b=some o->∃o',h'.get? b=some o')
  (tups:∀b xs,H b=some (.tup xs)->H' b=some (.tup xs)) (frzs:∀b o u,H b=some (.frz o u)->H' b=some (.frz o u)) (tbls:∀b ps,H b=some (.tbl ps)->∃more,H' b=some (.tbl (ps++more)))
  (ns:∀m,s.heap.Ns X.env.locals m->h'.Ns X.env.locals m) (hok:HOk X.prog X.w H' h') (hg:AllBare g'):
  Ad X ad σ H' { s with heap:=h',gens:=g',drawn:=d',toks:=t'}:=by
 have i4:∀b o,X.s₀.heap.get? b=some o->b≠X.env.locals:=λb o e=>Z0 (YQ (Y8 e) I.ok.above)
 have O:∀b o,X.s₀.heap.get? b=some o->b ∉ X.ex->b ∉ ch:=λb o e g Z=>by
  rcases(D b Z).1 with z | z
  .exact g z
  .exact absurd (YQ (Y8 e) z) (YX _)
 have J:∀x c,X.env.cells.lookup x=some c->∀v,s.heap.IsCell c v->h'.IsCell c v:=λx c e v zq=>by
  obtain⟨o,ho,hd⟩:=zq;have G:c ∉ ch:=λz=>(D c z).2.2.1 x c e rfl
  by_cases hc:c∈X.fs
  .obtain⟨sl,q⟩:=slot c o (I.cne x c e) hc G ho (I.freeC x c e);exact⟨_,q,hd⟩
  .exact⟨o,keep c o (I.cne x c e) hc G ho (I.freeC x c e),hd⟩
 refine⟨I.ok,I.os,hg,⟨λb o e n Z g=>?_,λb o e n Z g=>?_,λb o e n g=>?_,λb o e g=>?_,λb xs e=>tups b xs (I.base.tups b xs e),λb o xs e=>frzs b o xs (I.base.frzs b o xs e),λb ps e=>?_⟩,?_,λx c e=>?_,?_,λx c e=>?_,λp hp=>?_,hok,I.len⟩
 .exact keep b o (i4 b o e) Z (O b o e g) (I.base.keep b o e n Z g) (I.base.free b o e n g)
 .obtain⟨sl,L⟩:=I.base.slot b o e n Z g;obtain⟨i5,e2⟩:=slot b _ (i4 b o e) Z (O b o e g) L (I.base.free b o e n g);exact⟨i5,e2⟩
 .obtain⟨o',L⟩:=I.base.there b o e g;exact free b o' (O b o e g) L (I.base.free b o e n g)
 .obtain⟨o',L⟩:=I.base.there b o e g;exact there b o' (O b o e g) L
 .obtain⟨m1,L⟩:=I.base.tbls b ps e;obtain⟨m2,e2⟩:=tbls b _ L;exact⟨m1++m2,by rw[e2,Array.append_assoc]⟩
 .obtain⟨m,hn,hl⟩:=I.loc;refine⟨m,ns m hn,λi x v L e2 e3=>?_⟩;obtain⟨u,r,l⟩:=hl i x v L e2 e3;refine⟨u,r,?_⟩;rcases l with l | ⟨k,c,e,z⟩
  .exact .inl l
  .exact .inr ⟨k,c,e,J x c e _ z⟩
 .obtain⟨v,z⟩:=I.cell x c e;exact⟨v,J x c e v z⟩
 .obtain⟨m,⟨o,_,_,ho,_⟩,_⟩:=I.loc;exact free _ o (λz=>(D _ z).2.1 rfl) ho I.free
 .obtain⟨v,o,ho,hd⟩:=I.cell x c e;exact free c o (λz=>(D c z).2.2.1 x c e rfl) ho (I.freeC x c e)
 .obtain⟨e,n,ne,nf,d⟩:=I.pin p hp;have G:p.1 ∉ ch:=λz=>(D p.1 z).2.2.2 p hp rfl
  exact⟨keep p.1 p.2 ne nf G e n,free p.1 p.2 G e n,ne,nf,d⟩
theorem Ad.un(I:Ad X ad σ H s)(u:Un X.fs [] H H' s.heap h')(hok:HOk X.prog X.w H' h'):Ad X ad σ H' { s with heap:=h',toks:=t'}:=by
 obtain⟨m,⟨o,es,ep,J,r⟩,_⟩:=id I.loc;obtain⟨sl,L⟩:=u.any J I.free (by simp);exact I.step (g':=s.gens) (d':=s.drawn) (ch:=[]) (λ_ z=>nomatch z) (λb o _ G _ e n=>u.keep b o e n G (by simp)) (λb o _ G _ e n=>u.slot b o e n G (by simp)) (λb o _ e n=>u.free b o e n (by simp)) (λb o _ e=>u.there b o e (by simp)) u.tups u.frzs u.tbls (λm' O=>by
  obtain⟨o',g,D,c,Z⟩:=O;rw[J]at c;cases c;exact⟨_,g,D,L,Z⟩) hok I.bare
theorem Ad.call(I:Ad X ad σ H s)(u:Un (AG X.stack) ch H H' s.heap h')(hok:HOk X.prog X.w H' h')(hg:AllBare g')
  (G:∀b∈ch,(b∈X.ex\/X.s₀.heap.objs.size<=b)/\b≠X.env.locals/\(∀x c,X.env.cells.lookup x=some c->c≠b)/\∀p∈X.pn++ad,p.1≠b):
  Ad X ad σ H' { s with heap:=h',gens:=g',drawn:=d',toks:=t'}:=by
 obtain⟨m,⟨o,es,ep,Z,r⟩,_⟩:=id I.loc;obtain⟨sl,J⟩:=u.any Z I.free λz=>(G _ z).2.1 rfl
 exact I.step (ch:=ch) G (λb o J hb g e n=>u.keep b o e n (λz=>(YY.mp (I.stkSub b z)).elim J hb) g) (λb o _ _ g e n=>u.any e n g) (λb o g e n=>u.free b o e n g) (λb o g e=>u.there b o e g) u.tups u.frzs u.tbls (λm' hm=>by
  obtain⟨o',L,O,D,r'⟩:=hm;rw[Z]at D;cases D;exact⟨_,L,O,J,r'⟩) hok hg
theorem Ad.turned{it:yR}(I:Ad X ad σ H s)(k:∀b o,b≠it->s.heap.get? b=some o->h'.get? b=some o)(Z:H it=none)(G:it≠X.env.locals)
  (h1:it∈X.ex\/X.s₀.heap.objs.size<=it) (h2:∀x c,X.env.cells.lookup x=some c->c≠it) (h3:∀p∈X.pn++ad,p.1≠it):Ad X ad σ H { s with heap:=h',toks:=t'}:=by
 have D:∀b u,H b=some u->b≠it:=λb u e z=>by rw[z,Z]at e;cases e
 refine I.step (g':=s.gens) (d':=s.drawn) (ch:=[it]) (λb hb=>?_) (λb o _ _ g e _=>k b o (λz=>g (by simp[z])) e) (λb o _ _ g e _=>⟨o.slots,k b o (λz=>g (by simp[z])) e⟩) (λ_ _ _ _ n=>n)
  (λb o g e=>⟨o,k b o (λz=>g (by simp[z])) e⟩) (λ_ _ e=>e) (λ_ _ _ e=>e) (λb ps e=>⟨#[],by rw[e];simp⟩) (λm J=>?_) (λb u e=>?_) I.bare
 .have e:b=it:=by simpa using hb
  subst e;exact⟨h1,G,h2,h3⟩
 .obtain⟨o,es,L,O,r⟩:=J;exact⟨o,es,L,k _ o (Zo G) O,r⟩
 .refine(I.hok b u e).stay (λc v g q=>k c v ?_ q) (λ_ q=>q) λ_ _ q=>q
  rcases g with z | z
  .rw[z];exact D b u e
  .exact D c _ z
theorem Ad.tok(I:Ad X ad σ H s)(t:Nat):Ad X ad σ H { s with toks:=t}:=I.un (h':=s.heap) (t':=t) Un.refl I.hok
theorem Ad.kept(I:Ad X ad σ H s)(k:∀b u,s.heap.get? b=some u->h'.get? b=some u):Ad X ad σ H { s with heap:=h',toks:=t'}:=I.un (Un.kept k) (I.hok.kept k)
theorem Ad.laid{a:yR}{o:HO}(I:Ad X ad σ H s)(k:∀b u,s.heap.get? b=some u->h'.get? b=some u)(c:s.heap.objs.size<=a)(new:ObjOk X.prog X.w (upd H a o) h' a o):
  Ad X ad σ (upd H a o) { s with heap:=h',toks:=t'}:=I.un (Un.laid k c (I.hok.fresh c)) (I.hok.laid k c new)
theorem Ad.write{x e:yR}{o:HO}(I:Ad X ad σ H s)(g:FR (H x))(D:e=x\/H e=some (.own x))(k:∀b u,b≠e->s.heap.get? b=some u->h'.get? b=some u)(c:∃u,h'.get? e=some u)
  (new:ObjOk X.prog X.w (upd H x o) h' x o):Ad X ad σ (upd H x o) { s with heap:=h',toks:=t'}:=I.un (Un.write g D k c) (I.hok.write g D k c new)
theorem Ad.weak{σ':List (Option V)}(I:Ad X ad σ H s)(G:σ'.length=σ.length)(w:∀(i:Nat) v,σ'[i]? =some (some v)->σ[i]? =some (some v)):Ad X ad σ' H s:=
 ⟨I.ok,I.os,I.bare,I.base,let ⟨m,hn,hl'⟩:=I.loc;⟨m,hn,λi x v c g D=>hl' i x v c (w i v g) D⟩,I.cell,I.free,I.freeC,I.pin,I.hok,G.trans I.len⟩
theorem Ad.pins_of{c:PNs}(I:Ad X ad σ H s)(h:∀p∈c,s.heap.get? p.1=some p.2/\H p.1=none/\p.1≠X.env.locals/\p.1 ∉ X.fs/\∀v,p.2.data≠ .cell v):Ad X c σ H s:=
 ⟨I.ok,I.os,I.bare,I.base,I.loc,I.cell,I.free,I.freeC,λp g=>(ay.mp g).elim (λz=>I.pin p (ck _ z)) (h p),I.hok,I.len⟩
theorem Je{N:List Str}(g:N.Nodup){i j:Nat}{x:Str}(a:N[i]? =some x)(b:N[j]? =some x):i=j:=by
 obtain⟨I,c⟩:=Y3.mp a;obtain⟨G,D⟩:=Y3.mp b;exact(List.getElem_inj g).mp (c.trans D.symm)
theorem Jf{A:yO}{x:Str}{v:V}(I:Ad X ad σ H s)(hN:X.N.Nodup)(hi:X.N[i]? =some x)(L:Ef X.env.scope x)(r:Az v u)
  (h:∀s',Ad X ad (σ.set i (some v)) H s'->(∃a,Heap.SameBut a s.heap s'.heap/\(a=X.env.locals\/X.env.cells.lookup x=some a))->Q () s') (hf:autoParam (X.fn x=true\/X.env.scope.names.lookup x=some .local) u3):wpAny M A (storeName X.env x u) Q E s:=by
 obtain⟨m,hn,hl⟩:=id I.loc;have i7:(X.env.scope.kind== .class || (X.env.scope.kind== .module && X.env.locals !=X.env.globals))=false:=by rw[I.ok.kind];rfl
 have i4:i<σ.length:=by rw[I.len];exact(Y3.mp hi).1
 have cne:=I.cne;have G:∀ {a:yR}{h':Heap},(∃o,s.heap.get? a=some o/\H a=none)->Heap.SameBut a s.heap h'->HOk X.prog X.w H h':=λ{a h'} ha g b ob e=>by
  obtain⟨_,_,O⟩:=ha;refine(I.hok b ob e).stay (λc w' J q=>(g.2 c ?_).trans q) (λ_ q=>q) λ_ _ q=>q
  rintro rfl;rcases J with rfl | J
  .rw[O]at e;cases e
  .rw[O]at J;cases J
 rcases L with hk | hk
 .refine wpAny_storeName_local hk hn (λh' j4 g=>?_) i7;obtain⟨oL,_,_,j3,_⟩:=id hn;refine h _ ⟨I.ok,I.os,I.bare,⟨λb o e n hb L=>?_,λb o e n hb L=>?_,I.base.free,λb o e L=>?_,I.base.tups,I.base.frzs,I.base.tbls⟩,⟨_,j4,λj y v' D Z e3=>?_⟩,λy c e=>?_,I.free,I.freeC,λp hp=>?_,G ⟨oL,j3,I.free⟩ g,by simpa using I.len⟩ ⟨_,g,.inl rfl⟩
  .exact(g.2 b (Z0 (YQ (Y8 e) I.ok.above))).trans (I.base.keep b o e n hb L)
  .obtain⟨sl,D⟩:=I.base.slot b o e n hb L;exact⟨sl,(g.2 b (Z0 (YQ (Y8 e) I.ok.above))).trans D⟩
  .obtain⟨o',D⟩:=I.base.there b o e L;exact⟨o',(g.2 b (Z0 (YQ (Y8 e) I.ok.above))).trans D⟩
  .by_cases hj:j=i
   .subst hj;rw[hi]at D;cases D;rw[bU i4]at Z;cases Z;exact⟨u,r,.inl ⟨hk,by simp⟩⟩
   .rw [cq (Zo hj)] at Z;obtain⟨u',r',q⟩:=hl j y v' D Z e3;refine⟨u',r',?_⟩;rcases q with⟨k,e⟩ | ⟨k,c,e,z⟩
    .refine .inl ⟨k,?_⟩;have:y≠x:=λe=>hj (Je hN D (e ▸ hi))
     simp[this,e]
    .exact .inr ⟨k,c,e,z.sameBut g (cne y c e)⟩
  .obtain⟨w',z⟩:=I.cell y c e;exact⟨w',z.sameBut g (cne y c e)⟩
  .obtain⟨e,n,ne,nf,d⟩:=I.pin p hp;exact⟨(g.2 p.1 ne).trans e,n,ne,nf,d⟩
 .have i5:X.fn x=true:=by
   rcases hf with z | z
   .exact z
   .rw[z]at hk;cases hk
  obtain⟨c,J⟩:=I.ok.has x (.inl hk);obtain⟨w',z⟩:=I.cell x c J;refine wpAny_storeName_cell I.ok.kind hk J z (λh' i9 g=>?_);obtain⟨oc,i8,j0⟩:=id z;refine h { s with heap:=h'} ⟨I.ok,I.os,I.bare,⟨λb o e n hb L=>?_,λb o e n hb L=>?_,I.base.free,λb o e L=>?_,I.base.tups,I.base.frzs,I.base.tbls⟩,⟨m,hn.sameBut g (Zo (cne x c J)),λj y v' D Z e3=>?_⟩,λy c' e=>?_,I.free,I.freeC,λp hp=>?_,G ⟨oc,i8,I.freeC x c J⟩ g,by simpa using I.len⟩ ⟨c,g,.inr J⟩
  .exact(g.2 b (Z0 (YQ (Y8 e) (I.ok.cab x c i5 J)))).trans (I.base.keep b o e n hb L)
  .obtain⟨sl,D⟩:=I.base.slot b o e n hb L;exact⟨sl,(g.2 b (Z0 (YQ (Y8 e) (I.ok.cab x c i5 J)))).trans D⟩
  .obtain⟨o',D⟩:=I.base.there b o e L;exact⟨o',(g.2 b (Z0 (YQ (Y8 e) (I.ok.cab x c i5 J)))).trans D⟩
  .by_cases hj:j=i
   .subst hj;rw[hi]at D;cases D;rw[bU i4]at Z;cases Z;exact⟨u,r,.inr ⟨.inl hk,c,J,i9⟩⟩
   .rw [cq (Zo hj)] at Z;obtain⟨u',r',q⟩:=hl j y v' D Z e3;refine⟨u',r',?_⟩;rcases q with q | ⟨k,c',e,z'⟩
    .exact .inl q
    .refine .inr ⟨k,c',e,z'.sameBut g ?_⟩;rintro rfl;exact hj (Je hN D (I.ok.inj _ _ _ e J ▸ hi))
  .by_cases i6:c'=c
   .subst i6;exact⟨_,i9⟩
   .obtain⟨w2,z2⟩:=I.cell y c' e;exact⟨w2,z2.sameBut g i6⟩
  .obtain⟨e,n,ne,nf,d⟩:=I.pin p hp;refine⟨(g.2 p.1 ?_).trans e,n,ne,nf,d⟩;intro q;rw[q,i8]at e;have q':oc=p.2:=Y9 e;exact d w' (by rw[<-q'];exact j0)
theorem GX{A:yO}{x:Str}{v:V}(I:Ad X ad σ H s)(D:X.N.Nodup)(hi:X.N[i]? =some x)(c:Ef X.env.scope x)(r:Az v u)
  (h:∀s',Ad X ad (σ.set i (some v)) H s'->Q () s') (g:autoParam (X.fn x=true\/X.env.scope.names.lookup x=some .local) u3):wpAny M A (storeName X.env x u) Q E s:=
 Jf I D hi c r (λs' G _=>h s' G) g
theorem Ad.call'{s':yS}(I:Ad X ad σ H s)(D:s'.os=s.os)(u:Un (AG X.stack) ch H H' s.heap s'.heap)(hok:HOk X.prog X.w H' s'.heap)(G:AllBare s'.gens)
  (g:∀b∈ch,(b∈X.ex\/X.s₀.heap.objs.size<=b)/\b≠X.env.locals/\(∀x c,X.env.cells.lookup x=some c->c≠b)/\∀p∈X.pn++ad,p.1≠b):Ad X ad σ H' s':=by
 obtain⟨L,g',d',t',J⟩:=s';have e:J=s.os:=D;subst e;exact I.call (g':=g') (t':=t') (d':=d') u hok G g
end
abbrev XK:=yU->Option yR->Hp->Prop
abbrev St:=List (Option V)
abbrev VK:=V->Hp->Prop
abbrev TE:=St->Hp->VK->Prop
abbrev TT:=St->Hp->(Bool->Hp->Prop)->Prop
abbrev TA:=St->Hp->(List V->Hp->Prop)->Prop
structure Cy where
 nx:St->Hp->Prop
 rt:VK
 bk:St->Hp->Prop:=λ_ _=>False
 ct:St->Hp->Prop:=λ_ _=>False
abbrev TS:=Cy->St->Hp->Prop
def EP(X:Cx)(ad:PNs)(σ:St)(Q:VK)(u:yU)(s':yS):Prop:=∃v c,Ad X ad σ c s'/\Az v u/\Q v c
def TP(X:Cx)(ad:PNs)(σ:St)(Q:Bool->Hp->Prop)(b:Bool)(s':yS):Prop:=∃c,Ad X ad σ c s'/\Q b c
def AP(X:Cx)(ad:PNs)(σ:St)(Q:List V->Hp->Prop)(us:yX)(s':yS):Prop:=∃g c,Ad X ad σ c s'/\At g us/\Q g c
def SP(X:Cx)(ad:PNs)(D:Cy)(f:Flow)(s':yS):Prop:=
 match f with
 |.next=>∃σ' H',Ad X ad σ' H' s'/\D.nx σ' H'
 |.brk=>∃σ' H',Ad X ad σ' H' s'/\D.bk σ' H'
 |.cont=>∃σ' H',Ad X ad σ' H' s'/\D.ct σ' H'
 |.ret u=>∃v σ' H',Ad X ad σ' H' s'/\Az v u/\D.rt v H'
def PE(X:Cx)(e:yL)(t:TE):Prop:=
 ∀(ad:PNs) (s:yS) (c:St) (H:Hp) (Q:VK),Ad X ad c H s->t c H Q->wpAny (model X.prog X.w) X.A (eval e X.env) (EP X ad c Q) X.xe s
def PT(X:Cx)(e:yL)(t:TT):Prop:=
 ∀(ad:PNs) (s:yS) (c:St) (H:Hp) (Q:Bool->Hp->Prop),Ad X ad c H s->t c H Q->wpAny (model X.prog X.w) X.A (isTrue e X.env (eval e X.env)) (TP X ad c Q) X.xe s
def PW(X:Cx)(e:yL)(t:TT):Prop:=
 ∀(c:Sem yU) (ad:PNs) (s:yS) (g:St) (H:Hp) (Q:Bool->Hp->Prop),Ad X ad g H s->t g H Q->wpAny (model X.prog X.w) X.A (isTrue e X.env c) (TP X ad g Q) X.xe s
theorem PW.pt{X:Cx}{e:yL}{t:TT}(h:PW X e t):PT X e t:=h _
def PA(X:Cx)(es:List yL)(t:TA):Prop:=
 ∀(g:Pos) (ad:PNs) (s:yS) (c:St) (H:Hp) (Q:List V->Hp->Prop),Ad X ad c H s->t c H Q->wpAny (model X.prog X.w) X.A (spliced (backTo g (starEach es X.env))) (AP X ad c Q) X.xe s
def PS(X:Cx)(st:Stmt)(t:TS):Prop:=
 ∀(ad:PNs) (s:yS) (c:St) (H:Hp) (D:Cy),Ad X ad c H s->t D c H->wpAny (model X.prog X.w) X.A (exec st X.env) (SP X ad D) X.xe s
def PSs(X:Cx)(st:List Stmt)(t:TS):Prop:=
 ∀(ad:PNs) (s:yS) (c:St) (H:Hp) (D:Cy),Ad X ad c H s->t D c H->wpAny (model X.prog X.w) X.A (execs st X.env) (SP X ad D) X.xe s
theorem An{c:Type}{t:Sem c}{Q Q':c->yS->Prop}{A:yO}{s:yS}(h:wpAny M A t Q E s)(g:∀a s,Q a s->Q' a s):wpAny M A t Q' E s:=Z9 h g λ_ _ x=>x
end L2
namespace L2
variable{E Q:yY}{ad:List (yR × Obj)}{s:yS}{σ:St}{H:Hp}{u:yU}
variable{X:Cx}
def La(i:Nat):TE:=fun c H Q=>∃v,c[i]? =some (some v)/\Q v H
def tC(v:V):TE:=λ_ H Q=>Q v H
theorem FS{i:Nat}{x:Str}{D:Pos}(hN:X.N[i]? =some x)(O:DL X.env.scope x)(hd:autoParam ((x==("__debug__" :Str))=false) o3)(G:autoParam ((x==("__classdict__" :Str))=false) o3):PE X (.Name x D) (La i):=by
 intro ad s Z H Q I h;obtain⟨v,e,h⟩:=h;obtain⟨m,L,J⟩:=I.loc;obtain⟨u,r,l⟩:=J i x v hN e O;have fin:EP X ad Z Q u s:=⟨v,H,I,r,h⟩;rcases l with⟨g,hm⟩ | ⟨g,c,hc,hcell⟩
 .exact wpAny_Name (wpAny_loadName_local I.ok.kind g L hm fin) hd
 .rcases g with g | g
  .exact wpAny_Name (wpAny_loadName_cell I.ok.kind g hc hcell fin) hd
  .exact wpAny_Name (wpAny_loadName_free I.ok.kind g hc hcell fin G) hd
theorem Ag{i j pos}:PE X (.Constant (.int i) j pos) (tC (.int i)):=λ_ _ _ H _ I h=>wpAny_Constant_int ⟨.int i,H,I.tok _,⟨_,rfl⟩,h⟩
theorem Cj{b j pos}:PE X (.Constant (.bool b) j pos) (tC (.bl b)):=λ_ _ _ H _ I h=>Constant_bool ⟨.bl b,H,I,rfl,h⟩
theorem Ck{j pos}:PE X (.Constant .none j pos) (tC .non):=λ_ _ _ H _ I h=>Constant_none ⟨.non,H,I,rfl,h⟩
theorem AF{x j pos}:PE X (.Constant (.str x) j pos) (tC (.str x)):=λ_ _ _ H _ I h=>Calls.Constant_str ⟨.str x,H,I.tok _,⟨_,rfl⟩,h⟩
def Gl(X:Cx)(x:Str):Prop:=X.env.kindOf x=some .globalImplicit
theorem EC{x:Str}{c:Pos}(I:Ad X ad σ H s)(g:Gl X x)(D:X.mg x=some u)(h:Q u s)
  (hd:autoParam ((x==("__debug__" :Str))=false) o3):wpAny (model X.prog X.w) X.A (eval (.Name x c) X.env) Q E s:=
 cX I.ok.kind g (Calls.loadGlobal_global (by rw[I.ok.glob];exact I.mod.glob.keeps I.bk) D h) hd
theorem CN{x:Str}{c:Pos}(I:Ad X ad σ H s)(G:Gl X x)(J:X.mg x=none)(L:bootBuiltins x=some u)(h:Q u s)
  (O:autoParam (x≠ "__name__") o3) (hd:autoParam ((x==("__debug__" :Str))=false) o3):wpAny (model X.prog X.w) X.A (eval (.Name x c) X.env) Q E s:=by
 obtain⟨Z,D,g⟩:=I.mod.blt;exact cX I.ok.kind G (Calls.loadGlobal_builtin (by rw[I.ok.glob];exact I.mod.glob.keeps I.bk) J (by rw[I.ok.blt];exact D.keeps I.bk) ((g x O).trans L) h) hd
theorem AO{x:Str}{v:V}{u:yU}{c:Pos}(g:Gl X x)(D:X.mg x=some u)(r:Az v u)(hd:autoParam ((x==("__debug__" :Str))=false) o3):PE X (.Name x c) (tC v):=
 λ_ _ _ H _ I h=>EC I g D ⟨v,H,I,r,h⟩ hd
theorem FU{x:Str}{v:V}{u:yU}{c:Pos}(g:Gl X x)(D:X.mg x=none)(J:bootBuiltins x=some u)(r:Az v u)(G:autoParam (x≠ "__name__") o3)(hd:autoParam ((x==("__debug__" :Str))=false) o3):PE X (.Name x c) (tC v):=
 λ_ _ _ H _ I h=>CN I g D J ⟨v,H,I,r,h⟩ G hd
variable{a b:yL}{L O:TE}{c:Pos}
theorem PJ(b:yL){op:CmpOp}(h:op≠ .In)(c:op≠ .NotIn):behindInMarks op b=false:=by
 have g:(op==CmpOp.In)=false:=by cases op<;>first | rfl | exact absurd rfl h
 have D:(op==CmpOp.NotIn)=false:=by cases op<;>first | rfl | exact absurd rfl c
 cases b<;>simp[behindInMarks,g,D]
def tB(t:TE):TT:=fun g H Q=>t g H λx G=>∃c,x= .bl c/\Q c G
variable{I D:TT}{BZ:List yL}
def PN(t:TT):TT:=fun g H Q=>t g H λc D=>Q (!c) D
theorem Jg(g:PT X a tA):PW X (.BoolOp .And [a] pos) tA:=by
 intro G ad s D H Q I h;refine isTrue_and (An (g ad s D H Q I h) λc s1 e=>?_);cases c with
 |true=>exact isTrue_and_nil e
 |false=>exact e
theorem Lb(g:PT X a tA):PW X (.BoolOp .Or [a] pos) tA:=by
 intro G ad s D H Q I h;refine isTrue_or (An (g ad s D H Q I h) λc s1 e=>?_);cases c with
 |false=>exact isTrue_or_nil e
 |true=>exact e
theorem Cz(D:PT X a tA):PT X (.UnaryOp .Not a pos) (PN tA):=by
 intro ad s G H Q I h;exact isTrue_not (D ad s G H (λc g=>Q (!c) g) I h)
theorem BM{op}{t:TE}(h:PE X a t):PE X (.BoolOp op [a] pos) t:=λad s g H Q I c=>BoolOp_one (h ad s g H Q I c)
end L2
namespace L2
variable{i:Nat}{tg:yL}{op:Operator}{P:yP}
def Al(K:Fgx)(H:Hp)(a:yR)(xs:List V):Prop:=
 Rd H a (.lst xs)\/
  ∃(o:Obj) (c:Array yU) (n:Nat),K.lookup a=some o/\o.cls= .type "list" /\o.dict=none/\o.data= .seq c n/\c.size<=sizeLine/\At xs c.toList
def Ae(K:Fgx)(H:Hp)(a:yR)(xs:List V):Prop:=
 Rd H a (.tup xs)\/
  ∃(o:Obj) (c:Array yU) (n:Nat),K.lookup a=some o/\o.cls= .type "tuple" /\o.data= .seq c n/\c.size<=sizeLine/\At xs c.toList
def PP:yU->Option V
 |.none=>some .non
 |.bool b=>some (.bl b)
 |.int i _=>some (.int i)
 |.str x _=>some (.str x)
 |.bytes b _=>some (.byt b)
 |.float b _=>some (.flt b)
 |.ref a=>some (.ref a)
 |.type n=>some (.ty n)
 |_=>none
theorem Az.abs{x:V}{u:yU}(r:Az x u):PP u=some x:=by
 cases x with
 |non=>cases r;rfl
 |bl _=>cases r;rfl
 |int _=>obtain⟨t,rfl⟩:=r;rfl
 |str _=>obtain⟨t,rfl⟩:=r;rfl
 |byt _=>obtain⟨t,rfl⟩:=r;rfl
 |flt _=>obtain⟨t,rfl⟩:=r;rfl
 |ref _=>cases r;rfl
 |ty _=>cases r;rfl
theorem Az.inj{x y:V}{u:yU}(r:Az x u)(q:Az y u):x=y:=Y9 (r.abs.symm.trans q.abs)
theorem At.inj{xs ys:List V}{us:yX}(h:At xs us)(k:At ys us):xs=ys:=by
 induction h generalizing ys with
 |nil=>cases k;rfl
 |cons r t ih=>
  cases k with
  |cons r' t'=>rw[r.inj r',ih t']
section
variable{X:Cx}{ad:List (yR × Obj)}{σ:St}{H:Hp}{s:yS}{a:yR}{xs ys:List V}
theorem Al.of{K:Fgx}(h:H a=some (.lst xs)):Al K H a xs:= .inl (.inl h)
theorem Ae.of{K:Fgx}(h:H a=some (.tup xs)):Ae K H a xs:= .inl (.inl h)
theorem Ad.list(I:Ad X ad σ H s)(h:Al X.K H a xs):∃c:yX,At xs c/\PlainL s.heap a c.toArray/\xs.length<=sizeLine:=by
 rcases h with h | ⟨o,c,n,G,g,hd,D,J,r⟩
 .obtain⟨z,c,n,r,e⟩:=h.ok I.hok;exact⟨c,r,⟨_,n,e,rfl,rfl,rfl⟩,z⟩
 .refine⟨c.toList,r,⟨o,n,I.kIn a o G,g,hd,by simpa using D⟩,?_⟩;have e:=r.length;simp only[cM]at e;lia
theorem Ad.tuple(I:Ad X ad σ H s)(h:Ae X.K H a xs):∃c:yX,At xs c/\IsTup s.heap a c.toArray/\xs.length<=sizeLine:=by
 rcases h with h | ⟨o,c,n,G,g,D,J,r⟩
 .obtain⟨z,c,r,p⟩:=h.ok I.hok;exact⟨c,r,p,z⟩
 .refine⟨c.toList,r,⟨o,I.kIn a o G,g,n,by simpa using D⟩,?_⟩;have e:=r.length;simp only[cM]at e;lia
theorem Ad.list_inj(I:Ad X ad σ H s)(h:Al X.K H a xs)(h':Al X.K H a ys):xs=ys:=by
 obtain⟨g,r,⟨o,n,e,_,_,d⟩,_⟩:=I.list h;obtain⟨c,J,⟨Z,O,D,_,_,G⟩,_⟩:=I.list h';rw[e]at D;cases D;rw[d]at G;injection G with L _
 have:g=c:=by simpa using Zv Array.toList L
 subst this;exact r.inj J
theorem Ad.tuple_inj(I:Ad X ad σ H s)(h:Ae X.K H a xs)(h':Ae X.K H a ys):xs=ys:=by
 obtain⟨g,r,⟨o,e,_,n,d⟩,_⟩:=I.tuple h;obtain⟨c,J,⟨Z,D,_,O,G⟩,_⟩:=I.tuple h';rw[e]at D;cases D;rw[d]at G;injection G with L _
 have:g=c:=by simpa using Zv Array.toList L
 subst this;exact r.inj J
end
abbrev Cx.wish(X:Cx)(E:VSP):Cx:= { X with xe:=E}
abbrev Cx.nox(X:Cx):Cx:=X.wish λ_ _=>False
theorem Cx.Ok.wish{X:Cx}(ok:X.Ok)(E:VSP):(X.wish E).Ok:=
 ⟨ok.mod,ok.kind,ok.glob,ok.blt,ok.above,ok.inj,ok.has,ok.cab,ok.hd,ok.frames,ok.stk,ok.exf,ok.bs,ok.bsz,ok.noex,ok.exfs,ok.funs,ok.frf⟩
theorem Cx.Ok.unwish{X:Cx}{E:VSP}(ok:(X.wish E).Ok):X.Ok:=
 ⟨ok.mod,ok.kind,ok.glob,ok.blt,ok.above,ok.inj,ok.has,ok.cab,ok.hd,ok.frames,ok.stk,ok.exf,ok.bs,ok.bsz,ok.noex,ok.exfs,ok.funs,ok.frf⟩
section
variable{X:Cx}{ad:List (yR × Obj)}{σ:St}{H:Hp}{s:yS}{E:yY}
theorem Ad.wish(I:Ad X ad σ H s)(E:VSP):Ad (X.wish E) ad σ H s:=⟨I.ok.wish E,I.os,I.bare,I.base,I.loc,I.cell,I.free,I.freeC,I.pin,I.hok,I.len⟩
theorem Ad.unwish(I:Ad (X.wish E) ad σ H s):Ad X ad σ H s:=⟨I.ok.unwish,I.os,I.bare,I.base,I.loc,I.cell,I.free,I.freeC,I.pin,I.hok,I.len⟩
theorem SP.unwish{D:Cy}{f:Flow}{s':yS}(h:SP (X.wish E) ad D f s'):SP X ad D f s':=by
 cases f with
 |next=>obtain⟨c,g,I,q⟩:=h;exact⟨c,g,I.unwish,q⟩
 |brk=>obtain⟨c,g,I,q⟩:=h;exact⟨c,g,I.unwish,q⟩
 |cont=>obtain⟨c,g,I,q⟩:=h;exact⟨c,g,I.unwish,q⟩
 |ret u=>obtain⟨v,c,g,I,r,q⟩:=h;exact⟨v,c,g,I.unwish,r,q⟩
theorem PSs.nox{st:List Stmt}{t:TS}(h:PSs X.nox st t):PSs X st t:=λad s g H D I c=>
 Z9 (h ad s g H D (I.wish _) c) (λ_ _ q=>q.unwish) λ_ _ z=>False.elim z
end
section
variable{X:Cx}{st:Stmt}{BZ:List Stmt}{t u:TS}{e:yL}{te:TE}{pos:Pos}
def Lc:TS:=λD c H=>D.nx c H
def Jh(t u:TS):TS:=λD c H=>t { D with nx:=u D} c H
theorem Bn:PSs X [] Lc:=λ_ _ c H _ I h=>cu ⟨c,H,I,h⟩
theorem Ak(G:PS X st t)(J:PSs X BZ u):PSs X (st::BZ) (Jh t u):=by
 intro ad s O H D I h;refine dw (An (G ad s O H { D with nx:=u D} I h) λf s1 q=>?_);cases f with
 |next=>
  obtain⟨c,g,L,q⟩:=q;exact J ad s1 c g D L q
 |ret v=>exact q
 |brk=>exact q
 |cont=>exact q
theorem Ao(c:PS X st t):PSs X [st] t:=by
 intro ad s g H D I h;refine dw (An (c ad s g H D I h) λf s1 q=>?_);cases f with
 |next=>exact cu q
 |ret v=>exact q
 |brk=>exact q
 |cont=>exact q
theorem Ad.quiet{ad:PNs}{σ:St}{H:Hp}{s:yS}(I:Ad X ad σ H s):interactive X.env=false:=by simp[interactive,I.ok.kind]
def PQ(G:TE):TS:=λD c H=>G c H λ_ g=>D.nx c g
theorem B7(O:PE X e te)(L:autoParam (swapsWith e none pos.line X.env=pure false) j2):PS X (.Expr e pos) (PQ te):=by
 intro ad s c H D I h;exact wpAny_Expr_any (An (O ad s c H _ I h) λv s1 ⟨x,G,g,Z,J⟩=>⟨c,G,g,J⟩) I.quiet L
def PR(g:TE):TS:=λD c H=>g c H D.rt
theorem Av(O:PE X e te):PS X (.Return (some e) pos) (PR te):=by
 intro ad s c H D I h;exact wpAny_Return_some (An (O ad s c H _ I h) λv s1 ⟨x,J,G,g,L⟩=>⟨x,c,J,G,g,L⟩)
def PU:TS:=λ_ _ _=>False
theorem Ld{c:List Stmt}:PSs X c PU:=λ_ _ _ _ _ _ h=>h.elim
end
abbrev TG:=V->St->Hp->(St->Hp->Prop)->Prop
abbrev Eg:=List V->St->Hp->(St->Hp->Prop)->Prop
def PG(X:Cx)(c:yL)(t:TG):Prop:=
 ∀(ad:PNs) (s:yS) (D:St) (H:Hp) (v:V) (u:yU) (Q:St->Hp->Prop),Ad X ad D H s->Az v u->t v D H Q->
  wpAny (model X.prog X.w) X.A (assign c X.env u) (λ_ I=>∃g G,Ad X ad g G I/\Q g G) X.xe s
def FV(X:Cx)(J:List yL)(t:Eg):Prop:=
 ∀(ad:PNs) (s:yS) (g:St) (H:Hp) (I:List V) (D:yX) (Q:St->Hp->Prop),Ad X ad g H s->At I D->t I g H Q->
  wpAny (model X.prog X.w) X.A (assignInOrder ((assignEach J X.env).map (·.2)) D) (λ_ L=>∃c G,Ad X ad c G L/\Q c G) X.xe s
abbrev FW:=V->V->V->Hp->(Hp->Prop)->Prop
def Ji(X:Cx)(t:FW):Prop:=
 ∀(ad:PNs) (s:yS) (g:St) (H:Hp) (o i v:V) (G c u:yU) (Q:Hp->Prop),Ad X ad g H s->Az o G->Az i c->Az v u->t o i v H Q->
  wpAny (model X.prog X.w) X.A (setItem G c u) (λ_ I=>∃D,Ad X ad g D I/\Q D) X.xe s
abbrev Fd:=V->V->Hp->VK->Prop
def GY(X:Cx)(op:Operator)(t:Fd):Prop:=
 ∀(ad:PNs) (s:yS) (c:St) (H:Hp) (x y:V) (v u:yU) (Q:VK),Ad X ad c H s->Az x v->Az y u->t x y H Q->
  wpAny (model X.prog X.w) X.A (inplaceOp op v u) (EP X ad c Q) X.xe s
section
variable{X:Cx}{pos:Pos}
def Dt(i:Nat):TG:=λv c H Q=>Q (c.set i (some v)) H
theorem PV{x:Str}(g:X.N.Nodup)(hi:X.N[i]? =some x)(c:Ef X.env.scope x)(D:autoParam (X.fn x=true\/X.env.scope.names.lookup x=some .local) u3):PG X (.Name x pos) (Dt i):=by
 intro ad s L H v u Q I r h;exact df (GX I g hi c r (λJ G=>⟨_,H,G,h⟩) D)
def PX:Eg:=λg c H Q=>g=[]/\Q c H
def PY(t:TG)(u:Eg):Eg:=λG g H Q=>∃v r,G=v::r/\t v g H fun c D=>u r c D Q
theorem AK:FV X [] PX:=by
 intro ad s c H g D Q I r h;obtain⟨e,h⟩:=h;subst e;cases r;exact assignInOrder_nil ⟨c,H,I,h⟩
theorem Ai{e:yL}{es:List yL}{t:TG}{u:Eg}(Z:PG X e t)(h2:FV X es u)
  (O:autoParam ((assignEach (e::es) X.env).map (·.2)=assign e X.env::(assignEach es X.env).map (·.2)) j2):FV X (e::es) (PY t u):=by
 intro ad s σ H vs us Q I r h;obtain⟨v,vr,G,h⟩:=h;subst G;cases r with
 |cons r rr=>
  rw[O];refine assignInOrder_cons (An (Z ad s σ H _ _ _ I r h) λ_ s1 J=>?_);obtain⟨c,L,g,D⟩:=J;exact h2 ad s1 c L _ _ Q g rr D
def Le(K:Fgx)(n:Nat)(t:Eg):TG:=λv g H Q=>∃a c,v= .ref a/\Ae K H a c/\c.length=n/\t c g H Q
theorem PZ{es:List yL}{k:Nat}{t:Eg}{n:Nat}(hc:X.calm=true)(h:FV X es t)
  (hn:autoParam ((assignEach es X.env).length=n) j2) (c:autoParam ((assignEach es X.env).findIdx? (·.1)=none) j2):PG X (.Tuple es k pos) (Le X.K n t):=by
 intro ad s G H v u Q I r g;obtain⟨a,O,e1,hq,J,g⟩:=g;subst e1;cases r;obtain⟨i4,D,ht,hz⟩:=I.tuple hq;refine assign_Tuple_tuple (I.ok.hd hc) ht (by simp[hn,<-J,D.length]) c λL hx=>?_
 have Z:Ad X ad G H { s with heap:=L}:=I.kept (t':=s.toks) λb o e=>hx b o (Z0 (Y8 e)) e
 exact h ad _ G H O _ Q Z (by simpa using D) g
def P0(to ti:TE)(t:FW):TG:=λv c H Q=>to c H λo G=>ti c G λi g=>t o i v g λD=>Q c D
theorem Lf{o i:yL}{to ti:TE}{t:FW}(L:PE X o to)(hi:PE X i ti)(hs:Ji X t)
  (J : autoParam (∀ v, assign (.Subscript o i pos) X.env v = (do
   let c<-holding [v] (eval o X.env)
   let D<-holding [v,c] (eval i X.env)
   standAt pos
   holding [v,c,D] (setItem c D v)
   release [v,c,D] [])) o5):PG X (.Subscript o i pos) (P0 to ti t):=by
 intro ad s G H v u Q I r h;rw[J];refine Y1 (ZD (An (L ad s G H _ I h) λc s1 g=>?_));obtain⟨x,H1,Z,O,q1⟩:=g;refine Y1 (ZD (An (hi ad s1 G H1 _ Z q1) λD s2 g=>?_));obtain⟨y,H2,I2,r2,q2⟩:=g;refine Y1 (aR (Y1 (ZD (An (hs ad s2 G H2 x y v c D u _ I2 O r2 r q2) λ_ s3 g=>?_))));obtain⟨H3,I3,q3⟩:=g;exact wpAny_release ⟨G,H3,I3,q3⟩
def Jj(I:TE)(g:TG):TS:=λD c H=>I c H λx G=>g x c G D.nx
theorem Bo{e:yL}{c:TE}{g:TG}(L:PE X e c)(J:PG X tg g)(hs:autoParam (swapsWithSole [tg] e pos.line X.env=pure false) j2)(hw:autoParam (swappedStores [tg] e X.env=pure none) j2)
  (h1:autoParam ((assignEach [tg] X.env).map (·.2)=[assign tg X.env]) j2):PS X (.Assign [tg] e pos) (Jj c g):=by
 intro ad s G H D I h;refine wpAny_Assign_stores (An (L ad s G H _ I h) λv s1 zq=>?_) hs hw;obtain⟨x,H1,Z,O,q1⟩:=zq;rw[h1];exact An (J ad s1 G H1 x v _ Z O q1) λ_ s2 q=>q
theorem AI{i:Nat}{x:Str}{e:yL}{g:TE}{c:Pos}(hN:X.N.Nodup)(hi:X.N[i]? =some x)(hx:Ef X.env.scope x)(G:PE X e g)(hs:autoParam (swapsWith e (some (.Name x c)) pos.line X.env=pure false) j2)(J:autoParam (X.fn x=true\/X.env.scope.names.lookup x=some .local) u3):
  PS X (.Assign [.Name x c] e pos) (Jj g (Dt i)):=by
 intro ad s σ H D I h;refine wpAny_Assign_Name (An (G ad s σ H _ I h) λv s1 zq=>?_) hs;obtain⟨y,H1,O,L,Z⟩:=zq;exact GX O hN hi hx L (λs2 I2=>⟨_,H1,I2,Z⟩) J
def P1(i:Nat)(I:TE)(ti:Fd):TS:=λD c H=>∃x,c[i]? =some (some x)/\I c H λy G=>ti x y G λz g=>D.nx (c.set i (some z)) g
theorem Lg{x:Str}{e:yL}{te:TE}{ti:Fd}{L:Pos}(hN:X.N.Nodup)(hi:X.N[i]? =some x)(hx:Ef X.env.scope x)(he:PE X e te)(ho:GY X op ti)(hf:autoParam (X.fn x=true\/X.env.scope.names.lookup x=some .local) u3):
  PS X (.AugAssign (.Name x L) op e pos) (P1 i te ti):=by
 intro ad s σ H D I h;obtain⟨v,e1,h⟩:=h;obtain⟨m,hn,hl⟩:=I.loc;have O:DL X.env.scope x:=by rcases hx with k | k;exact .inl k;exact .inr (.inl k)
 obtain⟨u,r,l⟩:=hl i x v hi e1 O;refine wpAny_AugAssign_Name ?_;have go:wpAny (model X.prog X.w) X.A (eval e X.env) (λw J=>wpAny (model X.prog X.w) X.A (inplaceOp op u w) (λr G=>wpAny (model X.prog X.w) X.A (storeName X.env x r) (λ_=>SP X ad D .next) X.xe G) X.xe J) X.xe s:=by
  refine An (he ad s σ H _ I h) λw s1 Z=>?_
  obtain⟨y,H1,I1,r1,q1⟩:=Z;refine An (ho ad s1 σ H1 v y u w _ I1 r r1 q1) λz s2 Z=>?_
  obtain⟨zv,H2,I2,r2,q2⟩:=Z;exact GX I2 hN hi hx r2 (λs3 I3=>⟨_,H2,I3,q2⟩) hf
 rcases l with⟨g,hm⟩ | ⟨g,c,hc,hcell⟩
 .exact wpAny_loadName_local I.ok.kind g hn hm go
 .rcases g with g | g
  .exact wpAny_loadName_cell I.ok.kind g hc hcell go
  .rcases hx with k | k
   .have:X.env.scope.names.lookup x=some .free:=g;rw[k]at this;cases this
   .have:X.env.scope.names.lookup x=some .free:=g;rw[k]at this;cases this
def P2(to ti O:TE)(g:V->V->Hp->VK->Prop)(I:Fd)(c:FW):TS:=λD G H=>to G H λo H1=>ti G H1 λi Z=>g o i Z λx J=>O G J λy H4=>I x y H4 λz H5=>c o i z H5 λL=>D.nx G L
def Lh(X:Cx)(t:V->V->Hp->VK->Prop):Prop:=
 ∀(ad:PNs) (s:yS) (g:St) (H:Hp) (o i:V) (D c:yU) (Q:VK),Ad X ad g H s->Az o D->Az i c->t o i H Q->
  wpAny (model X.prog X.w) X.A (getItem D c) (EP X ad g Q) X.xe s
theorem Li{o i e:yL}{to ti te:TE}{G:V->V->Hp->VK->Prop}{i4:Fd}{g:FW}{Z:Pos}(ho:PE X o to)(hi:PE X i ti)(hg:Lh X G)(he:PE X e te)(hp:GY X op i4)(hs:Ji X g)
  (ha:autoParam (∀O L new,augStore i O L new=(do holding [new,O,L] (setItem O L new);release [new,O,L] [];pure .next)) B'):PS X (.AugAssign (.Subscript o i Z) op e pos) (P2 to ti te G i4 g):=by
 intro ad s J H D I h;refine wpAny_AugAssign_SubscriptAny (An (ho ad s J H _ I h) λO s1 c=>?_) ha;obtain⟨x1,H1,I1,r1,q1⟩:=c;refine An (hi ad s1 J H1 _ I1 q1) λL s2 c=>?_
 obtain⟨x2,H2,I2,r2,q2⟩:=c;refine An (hg ad s2 J H2 x1 x2 O L _ I2 r1 r2 q2) λi5 s3 c=>?_
 obtain⟨x3,H3,I3,r3,q3⟩:=c;refine An (he ad s3 J H3 _ I3 q3) λv s4 c=>?_
 obtain⟨x4,H4,I4,r4,q4⟩:=c;refine An (hp ad s4 J H4 x3 x4 i5 v _ I4 r3 r4 q4) λnew s5 c=>?_
 obtain⟨x5,H5,I5,r5,q5⟩:=c;exact An (hs ad s5 J H5 x1 x2 x5 O L new _ I5 r1 r2 r5 q5) λ_ s6 ⟨H6,I6,q6⟩=>⟨J,H6,I6,q6⟩
def Lj(f:Int->Int->Int):Fd:=λx y H Q=>∃i j,x= .int i/\y= .int j/\Q (.int (f i j)) H
theorem Jk:GY X .Add (Lj λi j=>i+j):=by
 intro ad s L H x y v u Q I c G h;obtain⟨i,j,g,D,q⟩:=h;subst g;subst D;obtain⟨t,rfl⟩:=c;obtain⟨J,rfl⟩:=G;exact iadd_int ⟨.int _,H,I.tok _,⟨_,rfl⟩,q⟩
theorem P3:GY X .Sub (Lj λi j=>i-j):=by
 intro ad s L H x y v u Q I c G h;obtain⟨i,j,g,D,q⟩:=h;subst g;subst D;obtain⟨t,rfl⟩:=c;obtain⟨J,rfl⟩:=G;exact isub_int ⟨.int _,H,I.tok _,⟨_,rfl⟩,q⟩
def P4(c:TT)(O:TS):TS:=λD g H=>∃W:Nat->St->Hp->Prop,(∃m,W m g H)/\∀m g H,W m g H->
 c g H λb J=>if b=true then ∃N:St->Hp->Prop,(∀G I,N G I->∃L,L<m/\W L G I)/\O { D with nx:=N,ct:=N,bk:=D.nx} g J else D.nx g J
theorem P5{c:yL}{body:List Stmt}{tc:TT}{tb:TS}(hp:PassesOwn (model X.prog X.w) X.A X.env X.xe)(hc:PT X c tc)(hb:PSs X body tb):PS X (.While c body [] pos) (P4 tc tb):=by
 intro ad s σ H D I h;obtain⟨W,⟨m0,w0⟩,J⟩:=h;refine wpAny_While (codeAny_whileLoop (λn s'=>∃G H',Ad X ad G H' s'/\W n G H') ?_ m0 ⟨σ,H,I,w0⟩);rintro n s1 ⟨σ1,H1,I1,w1⟩;refine aF hp (An (hc ad s1 σ1 H1 _ I1 (J n σ1 H1 w1)) λb s2 zq=>?_);obtain⟨H2,I2,O⟩:=zq;cases b with
 |true=>
  obtain⟨N,hN,O⟩:=O;rw[YR rfl];refine aF hp (An (hb ad s2 σ1 H2 _ I2 O) λf s3 Z=>?_);cases f with
  |next=>
   obtain⟨g,L,I3,n3⟩:=Z;obtain⟨m',hm,w3⟩:=hN g L n3;exact⟨m',hm,g,L,I3,w3⟩
  |cont=>
   obtain⟨g,L,I3,n3⟩:=Z;obtain⟨m',hm,w3⟩:=hN g L n3;exact⟨m',hm,g,L,I3,w3⟩
  |brk=>exact Z
  |ret v=>exact Z
 |false=>
  rw[YN YT];exact cu ⟨σ1,H2,I2,O⟩
end
structure It where
 go:Nat->Hp->Prop
 yld:Nat->Hp->V->Hp->Prop
 stop:Nat->Hp->Prop
def BH(X:Cx)(ad:PNs)(H:Hp)(b:yR):Prop:=
 H b=none/\b≠X.env.locals/\b ∉ X.fs/\(b∈X.ex\/X.s₀.heap.objs.size<=b)/\(∀x c,X.env.cells.lookup x=some c->c≠b)/\∀p∈X.pn++ad,p.1≠b
theorem Ad.fpOk{X:Cx}{ad:PNs}{σ:St}{H H':Hp}{s:yS}{b:yR}(I:Ad X ad σ H s)(g:s.heap.objs.size<=b)(G:H' b=none):BH X ad H' b:=by
 refine⟨G,ZY (YQ I.lt g),I.nofs g,.inr (YV I.sz g),λx c e z=>?_,λp D z=>?_⟩
 .obtain⟨v,q⟩:=I.cell x c e;exact absurd (YQ q.lt (by rw[z];exact g)) (YX _)
 .exact absurd (YQ (Y8 (I.pin p D).1) (by rw[z];exact g)) (YX _)
structure De(P:yP)(w:yN)(K:Fgx)(tg:yL)(J:It)(fp:List yR)(it:yR)(tn:Nat->Heap->Prop):Prop where
 mem:it∈fp
 obj:∀i h,tn i h->∀b∈fp,∃o,h.get? b=some o/\∀v,o.data≠ .cell v
 keep:∀i h h',tn i h->(∀b∈fp,∀o,h.get? b=some o->h'.get? b=some o)->tn i h'
 item:∀(X:Cx),X.prog=P->X.w=w->X.K=K->X.calm=true->∀(i:Nat) (ad:PNs) (s:yS) (σ:St) (H:Hp) (E:VSP),Ad X ad σ H s->(∀b∈fp,BH X ad H b)->tn i s.heap->J.go i H->
  wpAny (model P w) X.A (pyNext (.ref it)) (λr s1=>∃u,r=some u/\
   wpAny (model P w) X.A (letOwnedTupleGo tg (.ref it) u) (λ_ s2=>∃x H',Ad X ad σ H' s2/\Az x u/\J.yld i H x H'/\tn (i+1) s2.heap/\∀b∈fp,H' b=none) E s1) E s
 done:∀(X:Cx),X.prog=P->X.w=w->X.K=K->X.calm=true->∀(i:Nat) (ad:PNs) (s:yS) (σ:St) (H:Hp) (E:VSP),Ad X ad σ H s->(∀b∈fp,BH X ad H b)->tn i s.heap->J.stop i H->
  wpAny (model P w) X.A (pyNext (.ref it)) (λr s1=>r=none/\Ad X ad σ H s1) E s
 self:∀(A:yO) (i:Nat) (s:yS) (Q:VSP) (E:VSP),tn i s.heap->Q (.ref it) s->wpAny (model P w) A (pyIter (.ref it)) Q E s
abbrev TI:=St->Hp->(It->Hp->Prop)->Prop
def Lk(X:Cx)(ad:PNs)(σ:St)(G:yL)(R:It->Hp->Prop)(D:yU)(s2:yS):Prop:=
 ∃(it:yR) (fp:List yR) (g:Nat->Heap->Prop) (J:It) (c:Hp),D= .ref it/\Ad X ad σ c s2/\De X.prog X.w X.K G J fp it g/\g 0 s2.heap/\(∀b∈fp,BH X ad c b)/\R J c
def PI(X:Cx)(D c:yL)(G:TI):Prop:=
 ∀(ad:PNs) (s:yS) (g:St) (H:Hp) (R:It->Hp->Prop),Ad X ad g H s->G g H R->
  wpAny (model X.prog X.w) X.A (eval c X.env) (λv s1=>wpAny (model X.prog X.w) X.A (pyIter v) (Lk X ad g D R) X.xe s1) X.xe s
theorem FX{M:Model}{A:yO}{E:VSP}{s:yS}{g:yL}{it:yR}{u:yU}{o:Obj}{n:String}{vs:Array yU}{Q:Unit->yS->Prop}(D:s.heap.get? it=some o)(G:o.cls= .type n)(hd:o.data= .fields vs)
    (I:["enumerate","zip","dict_itemiterator","dict_reverseitemiterator","odict_iterator","itertools.zip_longest","itertools.pairwise"].contains n=false) (c:Q () s):wpAny M A (letOwnedTupleGo g (.ref it) u) Q E s:=by
  unfold letOwnedTupleGo;cases g<;>first
    |exact Y6 c
    |(cases u<;>first
        |exact Y6 c
        |(refine Y1 (wpAny_load D ?_);rw[G,hd];show wpAny M A (if (["enumerate","zip","dict_itemiterator","dict_reverseitemiterator","odict_iterator","itertools.zip_longest","itertools.pairwise"].contains n && vs[0]? ==some (rawInt _))=true then _ else _) Q E s;rw[YN (by intro h;rw[I,Zb]at h;cases h)];exact Y6 c))
def Fe(K:Fgx)(a:yR):It:=
 ⟨λi H=>∃c x,Al K H a c/\c[i]? =some x,λi H x g=>g=H/\∀c,Al K H a c->c[i]? =some x,λi H=>∃c,Al K H a c/\c.length<=i⟩
def ED(K:Fgx)(a:yR):It:=
 ⟨λi H=>∃c x,Ae K H a c/\c[i]? =some x,λi H x g=>g=H/\∀c,Ae K H a c->c[i]? =some x,λi H=>∃c,Ae K H a c/\c.length<=i⟩
def Du(lo:Int)(n:Nat):It:=⟨λi _=>i<n,λi H x c=>c=H/\x= .int (lo+i),λi _=>n<=i⟩
theorem P6{w:yN}{K:Fgx}(a it:yR):De P w K tg (Fe K a) [it] it (λi h=>h.IsListIter it a i) where
 mem:=by simp
 obj:=λi h st b g=>by
  have e:b=it:=by simpa using g
  subst e;obtain⟨o,e,c,d⟩:=st;exact⟨o,e,λv z=>by rw[d]at z;cases z⟩
 keep:=λi h J st k=>st.at λo e=>k it (by simp) o e
 item:=by
  intro X hP hw Z hc i ad s σ H E I G st O;subst hP hw Z;obtain⟨xs,x,L,hx⟩:=O;obtain⟨i4,rv,p,hz⟩:=I.list L;obtain⟨u,hu,ru⟩:=rv.get hx;obtain⟨f0,f1,f2,f3,f4,f5⟩:=G it (by simp);refine wpAny_pyNext_list_item st p.isList (x:=u) (by simpa using hu) λJ D sb=>?_
  have I1:Ad X ad σ H { s with heap:=J}:=I.turned (t':=s.toks) (λb o g e=>(sb.2 b g).trans e) f0 f1 f3 f4 f5;obtain⟨o,e,c,d⟩:=id D;exact⟨u,rfl,FX (s:= { s with heap:=J}) e c d (by decide) ⟨x,H,I1,ru,⟨rfl,λys hy=>by rw[I.list_inj hy L];exact hx⟩,D,λb g=>(G b g).1⟩⟩
 done:=by
  intro X hP hw Z hc i ad s σ H E I G st O;subst hP hw Z;obtain⟨xs,L,hx⟩:=O;obtain⟨i4,rv,p,hz⟩:=I.list L;obtain⟨f0,f1,f2,f3,f4,f5⟩:=G it (by simp);have hl:=rv.length;exact wpAny_pyNext_list_end (I.ok.hd hc) st p.isList (by simp;lia) λJ eb=>⟨rfl,I.turned (t':=s.toks) (λb o g e=>eb b o g e) f0 f1 f3 f4 f5⟩
 self:=λ_ _ _ _ _ st h=>wpAny_pyIter_listiter st h
theorem P7{w:yN}{K:Fgx}(a it:yR):De P w K tg (ED K a) [it] it (λi h=>h.IsTupleIter it a i) where
 mem:=by simp
 obj:=λi h st b g=>by
  have e:b=it:=by simpa using g
  subst e;obtain⟨o,e,c,d⟩:=st;exact⟨o,e,λv z=>by rw[d]at z;cases z⟩
 keep:=λi h L st k=>st.at λo e=>k it (by simp) o e
 item:=by
  intro X hP hw hK hc i ad s σ H E I J st Z;subst hP hw hK;obtain⟨xs,x,O,hx⟩:=Z;obtain⟨D,rv,p,hz⟩:=I.tuple O;obtain⟨u,hu,ru⟩:=rv.get hx;obtain⟨f0,f1,f2,f3,f4,f5⟩:=J it (by simp);refine wpAny_pyNext_tuple_item st (show s.heap.IsTuple a D.toArray from p) (x:=u) (by simpa using hu) λL G sb=>?_
  have I1:Ad X ad σ H { s with heap:=L}:=I.turned (t':=s.toks) (λb o g e=>(sb.2 b g).trans e) f0 f1 f3 f4 f5;obtain⟨o,e,c,d⟩:=id G;exact⟨u,rfl,FX (s:= { s with heap:=L}) e c d (by decide) ⟨x,H,I1,ru,⟨rfl,λys hy=>by rw[I.tuple_inj hy O];exact hx⟩,G,λb g=>(J b g).1⟩⟩
 done:=by
  intro X hP hw hK hc i ad s σ H E I J st Z;subst hP hw hK;obtain⟨xs,O,hx⟩:=Z;obtain⟨D,rv,p,hz⟩:=I.tuple O;obtain⟨f0,f1,f2,f3,f4,f5⟩:=J it (by simp);have hl:=rv.length;exact wpAny_pyNext_tuple_end (I.ok.hd hc) st (show s.heap.IsTuple a D.toArray from p) (by simp;lia) λL eb=>⟨rfl,I.turned (t':=s.toks) (λb o g e=>eb b o g e) f0 f1 f3 f4 f5⟩
 self:=λ_ _ _ _ _ st h=>wpAny_pyIter_tupleiter st h
theorem P8{w:yN}{K:Fgx}(it:yR)(lo:Int)(n:Nat):De P w K tg (Du lo n) [it] it (λi h=>IsRangeIter h it (lo+(i:Nat) * 1) ((n:Int)-(i:Nat)) 1) where
 mem:=by simp
 obj:=λi h st b c=>by
  have e:b=it:=by simpa using c
  subst e;exact⟨_,st,λv z=>by
   have z':Data.fields _=Data.cell v:=z;cases z'⟩
 keep:=λi h G st k=>k it (by simp) _ st
 item:=by
  intro X hP Z L O i ad s σ H E I D st J;subst hP Z L;obtain⟨f0,f1,f2,f3,f4,f5⟩:=D it (by simp);have W:=Walks.range (prog:=X.prog) (w:=X.w) (I.ok.hd O) it lo 1 n;refine W.item i s _ _ J st λv G tk hv g kk=>?_
  obtain⟨t,rfl⟩:=hv;have I1:Ad X ad σ H { s with heap:=G,toks:=tk}:=I.turned (λb o c e=>kk b o (by simpa using c) e) f0 f1 f3 f4 f5;refine⟨_,rfl,FX (s:= { s with heap:=G,toks:=tk}) (n:="range_iterator") g rfl rfl (by decide) ⟨.int (lo+i),H,I1,⟨t,?_⟩,⟨rfl,rfl⟩,g,λb c=>(D b c).1⟩⟩;rw[Int.mul_one]
 done:=by
  intro X hP Z L O i ad s σ H E I D st J;subst hP Z L;obtain⟨f0,f1,f2,f3,f4,f5⟩:=D it (by simp);exact dU (I.ok.hd O) st (by have:n<=i:=J;lia) λG eb=>⟨rfl,I.turned (t':=s.toks) (λb o c e=>eb b o c e) f0 f1 f3 f4 f5⟩
 self:=λ_ _ _ _ _ st h=>bW st h
end L2
namespace L2
variable{tl:TE}{ad:List (yR × Obj)}{σ:St}{H:Hp}{s:yS}{ta:TA}{p pos:Pos}{h:Heap}{g:TG}{tb:TS}{xs:List V}{D:Cy}
section
variable{X:Cx}{tg:yL}
def Ll(K:Fgx)(D:TE):TI:=fun g H R=>D g H λx c=>∃a,x= .ref a/\(∃G,Al K c a G)/\R (Fe K a) c
def Lm(K:Fgx)(D:TE):TI:=fun g H R=>D g H λx c=>∃a,x= .ref a/\(∃G,Ae K c a G)/\R (ED K a) c
theorem P9{l:yL}(g:PE X l tl):PI X tg l (Ll X.K tl):=by
 intro ad s σ H R I h;refine An (g ad s σ H _ I h) λv s1 J=>?_
 obtain⟨x,Z,c,D,G⟩:=J;obtain⟨a,e,⟨xs,L⟩,q⟩:=G;subst e;cases D;obtain⟨i4,rv,p,hz⟩:=c.list L;refine aL p.isList ?_;refine⟨s1.heap.objs.size,[s1.heap.objs.size],_,_,Z,rfl,c.kept (t':=s1.toks) λb o e=>Y2 _ e,P6 a _,⟨_,YL _ rfl,rfl,rfl⟩,λb O=>?_,q⟩;have e:b=s1.heap.objs.size:=by simpa using O
 subst e;exact c.fpOk (Y4 _) (c.hok.fresh (Y4 _))
theorem Qa{l:yL}(D:PE X l tl):PI X tg l (Lm X.K tl):=by
 intro ad s σ H R I h;refine An (D ad s σ H _ I h) λv s1 L=>?_
 obtain⟨x,H1,c,G,J⟩:=L;obtain⟨a,e,⟨xs,O⟩,q⟩:=J;subst e;cases G;obtain⟨g,rv,p,hz⟩:=c.tuple O;refine al (show s1.heap.IsTuple a g.toArray from p) ?_;refine⟨s1.heap.objs.size,[s1.heap.objs.size],_,_,H1,rfl,c.kept (t':=s1.toks) λb o e=>Y2 _ e,P7 a _,⟨_,YL _ rfl,rfl,rfl⟩,λb Z=>?_,q⟩;have e:b=s1.heap.objs.size:=by simpa using Z
 subst e;exact c.fpOk (Y4 _) (c.hok.fresh (Y4 _))
theorem Ln{R:It->Hp->Prop}{E:VSP}{lo hi:Int}{t u v:Tok}{tk:Nat}(I:Ad X ad σ H s)(L: -(2 ^ 62)<=lo)(O:lo<2 ^ 62)(D: -(2 ^ 62)<=hi)(h4:hi<2 ^ 62)
  (q:R (Du lo (hi-lo).toNat) H):wpAny (model X.prog X.w) X.A (pyIter (.ref s.heap.objs.size)) (Lk X ad σ tg R) E { s with heap:=s.heap.push { cls:= .type "range",data:= .fields #[.int lo t,.int hi u,.int 1 v]},toks:=tk}:=by
 refine wpAny_pyIter_range (IsRange.new ..) (small_one L O D h4) ?_;have c:Ad X ad σ H { s with heap:=s.heap.push { cls:= .type "range",data:= .fields #[.int lo t,.int hi u,.int 1 v]},toks:=tk}:=I.kept λb o e=>Y2 _ e
 refine⟨(s.heap.push { cls:= .type "range",data:= .fields #[.int lo t,.int hi u,.int 1 v]}).objs.size,[(s.heap.push { cls:= .type "range",data:= .fields #[.int lo t,.int hi u,.int 1 v]}).objs.size],_,_,H,rfl,
  c.kept (t':=tk) λb o e=>Y2 _ e,P8 _ lo (hi-lo).toNat,?_,λb G=>?_,q⟩
 .have g:lo+((0:Nat):Int) * 1=lo:=by simp
  have J:(((hi-lo).toNat:Nat):Int)-((0:Nat):Int)=Builtin.Range.rangeSize lo hi 1:=by rw[rangeSize_one];split<;>lia
  show IsRangeIter _ _ (lo+((0:Nat):Int) * 1) ((((hi-lo).toNat:Nat):Int)-((0:Nat):Int)) 1;rw[g,J];exact YL _ rfl
 .have e:b=(s.heap.push { cls:= .type "range",data:= .fields #[.int lo t,.int hi u,.int 1 v]}).objs.size:=by simpa using G
  subst e;exact c.fpOk (Y4 _) (c.hok.fresh (Y4 _))
def Qb(G:TA):TI:=fun c H R=>G c H λD g=>∃j:Int,D=[.int j]/\ -(2 ^ 62)<=j/\j<2 ^ 62/\R (Du 0 j.toNat) g
def Qc(G:TA):TI:=fun c H R=>G c H λD g=>∃i j:Int,D=[.int i,.int j]/\(-(2 ^ 62)<=i/\i<2 ^ 62/\ -(2 ^ 62)<=j/\j<2 ^ 62)/\R (Du i (j-i).toNat) g
theorem CO{a:yL}(g:Gl X "range")(D:X.mg "range"=none)(G:PA X [a] ta)(Z:autoParam (starEach [a] X.env=[(false,eval a X.env)]) j2):PI X tg (.Call (.Name "range" p) [a] [] pos) (Qb ta):=by
 intro ad s σ H R I h;refine Call_ (CN I g D boot_range (Zi (An (G pos ad s σ H _ I h) λus s1 O=>?_) Z rfl));obtain⟨vs,H1,L,J,c⟩:=O;obtain⟨j,e,c,q2,q⟩:=c;subst e;cases J with
 |cons r rr=>
  cases rr;obtain⟨t,rfl⟩:=r;exact call_range_1 (Ln L (by lia) (by lia) c q2 (by simpa using q))
theorem Lp{a b:yL}(D:Gl X "range")(G:X.mg "range"=none)(J:PA X [a,b] ta)(hs:autoParam (starEach [a,b] X.env=[(false,eval a X.env),(false,eval b X.env)]) j2)(c:autoParam (starEach [b] X.env=[(false,eval b X.env)]) j2):
  PI X tg (.Call (.Name "range" p) [a,b] [] pos) (Qc ta):=by
 intro ad s σ H R I h;refine Call_ (CN I D G boot_range (Zi (An (J pos ad s σ H _ I h) λus s1 Z=>?_) (by rw[hs,c]) (by rw[c];rfl)));obtain⟨vs,H1,O,L,g⟩:=Z;obtain⟨i,j,e,⟨g,q2,q3,q4⟩,q⟩:=g;subst e;cases L with
 |cons r rr=>
  cases rr with
  |cons r' rr=>
   cases rr;obtain⟨t,rfl⟩:=r;obtain⟨t',rfl⟩:=r';exact call_range_2 (Ln O g q2 q3 q4 q)
def Qd(wi:TI)(g:TG)(Z:TS):TS:=λD c H=>wi c H λJ H1=>∃W:Nat->Nat->St->Hp->Prop,(∃m,W 0 m c H1)/\∀i m c H,W i m c H->
 (J.stop i H/\D.nx c H)\/(J.go i H/\∃N:St->Hp->Prop,(∀G I,N G I->∃O,O<m/\W (i+1) O G I)/\∀x I,J.yld i H x I->g x c I fun L H2=>Z { D with nx:=N,ct:=N,bk:=D.nx} L H2)
def Dg(fp:List yR)(h:Heap):PNs:=fp.filterMap λb=>(h.get? b).map λo=>(b,o)
theorem Ff{fp:List yR}{b:yR}{o:Obj}(c:b∈fp)(e:h.get? b=some o):(b,o)∈Dg fp h:=ZH.mpr ⟨b,c,by rw[e];rfl⟩
theorem Jl{fp:List yR}{p:yR×Obj}(D:p∈Dg fp h):p.1∈fp/\h.get? p.1=some p.2:=by
 obtain⟨b,g,e⟩:=ZH.mp D;cases q:h.get? b with
 |none=>rw[q]at e;cases e
 |some o=>
  rw[q]at e;have c:(b,o)=p:=Y9 e;subst c;exact⟨g,q⟩
theorem Ad.pinned{fp:List yR}(I:Ad X ad σ H s)(O:∀b∈fp,BH X ad H b)(G:∀b∈fp,∃o,s.heap.get? b=some o/\∀v,o.data≠ .cell v):Ad X (ad++Dg fp s.heap) σ H s:=
 I.pins_of λp L=>(ay.mp L).elim (λz=>I.pin p (YZ _ z)) λz=>by
  obtain⟨g,e⟩:=Jl z;obtain⟨f0,D,J,_⟩:=O p.1 g;obtain⟨o,c,d⟩:=G p.1 g;rw[e]at c;cases c;exact⟨e,f0,D,J,d⟩
theorem Ad.unpinned{pl:PNs}(I:Ad X (ad++pl) σ H s):Ad X ad σ H s:=I.pins_of λp c=>I.pin p (YZ _ (ck _ c))
theorem Cm{L:yL}{body:List Stmt}{wi:TI}(hp:PassesOwn (model X.prog X.w) X.A X.env X.xe)(hc:X.calm=true)(hi:PI X tg L wi)(hg:PG X tg g)(G:PSs X body tb)
  (hs:autoParam (∀x,foldedSetIterable L X.env x=pure x) o5):PS X (.For tg L body [] pos) (Qd wi g tb):=by
 intro ad s σ H D I h;refine wpAny_For (An (hi ad s σ H _ I h) λv s1 h1=>An h1 λfv s2 h2=>?_) hs;obtain⟨it,fp,tn,J,H2,e,I2,T,i7,f2,W,⟨m0,w0⟩,i6⟩:=h2;subst e;have i4:∀ {H':Hp},(∀b∈fp,H' b=none)->∀b∈fp,BH X ad H' b:=λhn b G=>⟨hn b G,(f2 b G).2⟩
 refine codeAny_forLoop_any (λn s'=>∃i O H',Ad X ad O H' s'/\tn i s'.heap/\(∀b∈fp,H' b=none)/\W i n O H') ?_ m0 ⟨0,σ,H2,I2,i7,λb G=>(f2 b G).1,w0⟩;rintro n s3 ⟨i,σ3,H3,I3,st3,fr3,w3⟩;rcases i6 i n σ3 H3 w3 with⟨stop,qn⟩ | ⟨go,N,hN,step⟩
 .refine aF hp (An (T.done X rfl rfl rfl hc i ad s3 σ3 H3 X.xe I3 (i4 fr3) st3 stop) λr s4 zq=>?_);obtain⟨hr,I4⟩:=zq;subst hr;exact cu ⟨σ3,H3,I4,qn⟩
 .refine aF hp (An (T.item X rfl rfl rfl hc i ad s3 σ3 H3 X.xe I3 (i4 fr3) st3 go) λr s4 zq=>?_);obtain⟨u,hr,h4⟩:=zq;subst hr;refine aF hp (An h4 λ_ s5 zq=>?_);obtain⟨x,H5,I5,r5,y5,i5,i8⟩:=zq;have i9:=I5.pinned (i4 i8) (T.obj _ _ i5);refine aF hp (An (hg _ s5 σ3 H5 x u _ i9 r5 (step x H5 y5)) λ_ s6 zq=>?_);obtain⟨σ6,H6,I6,q6⟩:=zq;refine aF hp (An (G _ s6 σ6 H6 _ I6 q6) λf s7 q7=>?_);have again:∀ {c:St}{H7:Hp},Ad X (ad++Dg fp s5.heap) c H7 s7->N c H7->∃m,m<n/\∃i O H',Ad X ad O H' s7/\tn i s7.heap/\(∀b∈fp,H' b=none)/\W i m O H':=λ{c H7} Z n7=>by
   obtain⟨m',hm,w7⟩:=hN c H7 n7;refine⟨m',hm,i+1,c,H7,Z.unpinned,T.keep _ _ _ i5 λb G o e=>(Z.pin (b,o) (YZ _ (YZ _ (Ff G e)))).1,λb G=>?_,w7⟩;obtain⟨o,e,d⟩:=T.obj _ _ i5 b G;exact(Z.pin (b,o) (YZ _ (YZ _ (Ff G e)))).2.1
  cases f with
  |next=>obtain⟨c,H7,Z,n7⟩:=q7;exact again Z n7
  |cont=>obtain⟨c,H7,Z,n7⟩:=q7;exact again Z n7
  |brk=>obtain⟨c,H7,Z,q7⟩:=q7;exact⟨c,H7,Z.unpinned,q7⟩
  |ret v=>obtain⟨x7,c,H7,Z,r7,q7⟩:=q7;exact⟨x7,c,H7,Z.unpinned,r7,q7⟩
end
theorem Qe{K:Fgx}{a:yR}(c:Nat->St->Hp->Prop)(h0:c 0 σ H)(Z:∀i σ H,i<=xs.length->c i σ H->Al K H a xs)
  (hs:∀i x σ H,xs[i]? =some x->c i σ H->g x σ H fun G J=>tb { D with nx:=c (i+1),ct:=c (i+1),bk:=D.nx} G J) (hd:∀σ H,c xs.length σ H->D.nx σ H):
  ∃W:Nat->Nat->St->Hp->Prop,(∃m,W 0 m σ H)/\∀i m σ H,W i m σ H->
   ((Fe K a).stop i H/\D.nx σ H)\/((Fe K a).go i H/\∃N:St->Hp->Prop,(∀σ' H',N σ' H'->∃L,L<m/\W (i+1) L σ' H')/\∀x H',(Fe K a).yld i H x H'->g x σ H' fun G J=>tb { D with nx:=N,ct:=N,bk:=D.nx} G J):=by
 refine⟨λi m σ H=>m=xs.length-i/\i<=xs.length/\c i σ H,⟨xs.length,by simp,Z6 _,h0⟩,?_⟩;rintro i m σ H ⟨rfl,hi,p⟩;have q:=Z i σ H hi p
 by_cases I:i<xs.length
 .refine .inr ⟨⟨xs,xs[i],q,by simp[I]⟩,c (i+1),fun σ' H' O=>⟨xs.length-(i+1),by lia,rfl,I,O⟩,λx H' y=>?_⟩;obtain⟨e,y⟩:=y;subst e;exact hs i x σ _ (y xs q) p
 .have e:i=xs.length:=by lia
  subst e;exact .inl ⟨⟨xs,q,Y4 _⟩,hd σ H p⟩
theorem Qf{K:Fgx}{a:yR}(c:Nat->St->Hp->Prop)(h0:c 0 σ H)(Z:∀i σ H,i<=xs.length->c i σ H->Ae K H a xs)
  (hs:∀i x σ H,xs[i]? =some x->c i σ H->g x σ H fun G J=>tb { D with nx:=c (i+1),ct:=c (i+1),bk:=D.nx} G J) (hd:∀σ H,c xs.length σ H->D.nx σ H):
  ∃W:Nat->Nat->St->Hp->Prop,(∃m,W 0 m σ H)/\∀i m σ H,W i m σ H->
   ((ED K a).stop i H/\D.nx σ H)\/((ED K a).go i H/\∃N:St->Hp->Prop,(∀σ' H',N σ' H'->∃L,L<m/\W (i+1) L σ' H')/\∀x H',(ED K a).yld i H x H'->g x σ H' fun G J=>tb { D with nx:=N,ct:=N,bk:=D.nx} G J):=by
 refine⟨λi m σ H=>m=xs.length-i/\i<=xs.length/\c i σ H,⟨xs.length,by simp,Z6 _,h0⟩,?_⟩;rintro i m σ H ⟨rfl,hi,p⟩;have q:=Z i σ H hi p
 by_cases I:i<xs.length
 .refine .inr ⟨⟨xs,xs[i],q,by simp[I]⟩,c (i+1),fun σ' H' O=>⟨xs.length-(i+1),by lia,rfl,I,O⟩,λx H' y=>?_⟩;obtain⟨e,y⟩:=y;subst e;exact hs i x σ _ (y xs q) p
 .have e:i=xs.length:=by lia
  subst e;exact .inl ⟨⟨xs,q,Y4 _⟩,hd σ H p⟩
theorem EE{lo:Int}{n:Nat}(I:Nat->St->Hp->Prop)(h0:I 0 σ H)
  (Z:∀i σ H,i<n->I i σ H->g (.int (lo+i)) σ H fun G J=>tb { D with nx:=I (i+1),ct:=I (i+1),bk:=D.nx} G J) (hd:∀σ H,I n σ H->D.nx σ H):
  ∃W:Nat->Nat->St->Hp->Prop,(∃m,W 0 m σ H)/\∀i m σ H,W i m σ H->
   ((Du lo n).stop i H/\D.nx σ H)\/((Du lo n).go i H/\∃N:St->Hp->Prop,(∀σ' H',N σ' H'->∃L,L<m/\W (i+1) L σ' H')/\∀x H',(Du lo n).yld i H x H'->g x σ H' fun G J=>tb { D with nx:=N,ct:=N,bk:=D.nx} G J):=by
 refine⟨λi m σ H=>m=n-i/\i<=n/\I i σ H,⟨n,by simp,Z6 _,h0⟩,?_⟩;rintro i m σ H ⟨rfl,hi,p⟩
 by_cases c:i<n
 .refine .inr ⟨c,I (i+1),fun σ' H' O=>⟨n-(i+1),by lia,rfl,c,O⟩,λx H' y=>?_⟩;obtain⟨e,y⟩:=y;subst e y;exact Z i σ _ c p
 .have e:i=n:=by lia
  subst e;exact .inl ⟨Y4 _,hd σ H p⟩
end L2
namespace L2
variable{g:Int -> Int -> Int}{i j:Int}{us:yX}
abbrev R2:=V->V->Hp->VK->Prop
def OpR(X:Cx)(f:yU->yU->Sem yU)(r:R2):Prop:=
 ∀(ad:PNs) (s:yS) (c:St) (H:Hp) (x y:V) (v u:yU) (Q:VK),Ad X ad c H s->Az x v->Az y u->r x y H Q->
  wpAny (model X.prog X.w) X.A (f v u) (EP X ad c Q) X.xe s
def Jm(X:Cx)(f:yU->Sem yU)(r:V->Hp->VK->Prop):Prop:=
 ∀(ad:PNs) (s:yS) (c:St) (H:Hp) (x:V) (v:yU) (Q:VK),Ad X ad c H s->Az x v->r x H Q->
  wpAny (model X.prog X.w) X.A (f v) (EP X ad c Q) X.xe s
def BJ(X:Cx)(f:yU)(r:List V->Hp->VK->Prop):Prop:=
 ∀(ad:PNs) (s:yS) (c:St) (H:Hp) (D:List V) (g:yX) (Q:VK),Ad X ad c H s->At D g->r D H Q->
  wpAny (model X.prog X.w) X.A (call f g) (EP X ad c Q) X.xe s
def Dv(r:R2)(I D:TE):TE:=fun c H Q=>I c H λx G=>D c G λy g=>r x y g Q
def Qg(r:V->Hp->VK->Prop)(D:TE):TE:=fun c H Q=>D c H λx g=>r x g Q
def rI(C:Int->Int->Prop)(g:Int->Int->V):R2:=λx y H Q=>∃i j,x= .int i/\y= .int j/\C i j/\Q (g i j) H
def Dx(g:Int->Int->V):R2:=λx y H Q=>∃i j,x= .int i/\y= .int j/\Q (g i j) H
def rU(g:Int->V):V->Hp->VK->Prop:=λx H Q=>∃i,x= .int i/\Q (g i) H
section
variable{X:Cx}{a b c:yL}{ta tb tc:TE}{pos:Pos}
theorem Jn(L:PE X a ta)(hb:PE X b tb){ad:PNs}{s:yS}{σ:St}{H:Hp}{R:V->V->Hp->Prop}(I:Ad X ad σ H s)
  (h:ta σ H λx J=>tb σ J λy c=>R x y c) {Q:VSP}{f:yU->yU->Sem yU}
  (O:∀v u s2 x y c,Ad X ad σ c s2->Az x v->Az y u->R x y c->wpAny (model X.prog X.w) X.A (f v u) Q X.xe s2):
  wpAny (model X.prog X.w) X.A (eval a X.env) (λv g=>wpAny (model X.prog X.w) X.A (eval b X.env) (λu D=>wpAny (model X.prog X.w) X.A (f v u) Q X.xe D) X.xe g) X.xe s:=by
 refine An (L ad s σ H _ I h) λv s1 G=>?_
 obtain⟨x,J,I1,Z,q1⟩:=G;refine An (hb ad s1 σ J _ I1 q1) λu s2 G=>?_
 obtain⟨y,c,I2,r2,q2⟩:=G;exact O v u s2 x y c I2 Z r2 q2
theorem Ar{op:Operator}{r:R2}(D:OpR X (binaryOp op) r)(g:PE X a ta)(L:PE X b tb):PE X (.BinOp a op b pos) (Dv r ta tb):=by
 intro ad s O H Q I h;exact wpAny_BinOp (Jn g L I h λv u s2 x y Z G J c q=>D ad s2 O Z x y v u Q G J c q)
theorem Qh{op:UnaryOp}{r:V->Hp->VK->Prop}(g:Jm X (unaryOp op) r)(O:PE X a ta):PE X (.UnaryOp op a pos) (Qg r ta):=by
 intro ad s c H Q I h;exact UnaryOp_ (An (O ad s c H _ I h) λv s1 ⟨x,J,G,D,L⟩=>g ad s1 c J x v Q G D L)
theorem GZ{f:yU->yU->Sem yU}{C:Int->Int->Prop}
  (rule:∀(i j:Int) (t u:Tok) (s:yS) (Q:VSP) (E:VSP),C i j->Q (.int (g i j) s.toks) { s with toks:=s.toks+1}->wpAny (model X.prog X.w) X.A (f (.int i t) (.int j u)) Q E s):
  OpR X f (rI C λi j=> .int (g i j)):=by
 intro ad s L H x y v u Q I G c h;obtain⟨i,j,rfl,rfl,J,q⟩:=h;obtain⟨t,rfl⟩:=G;obtain⟨D,rfl⟩:=c;exact rule i j t D s _ _ J ⟨.int (g i j),H,I.tok _,⟨_,rfl⟩,q⟩
theorem Lq{f:yU->yU->Sem yU}
  (rule:∀(i j:Int) (t u:Tok) (s:yS) (Q:VSP) (E:VSP),Q (.int (g i j) s.toks) { s with toks:=s.toks+1}->wpAny (model X.prog X.w) X.A (f (.int i t) (.int j u)) Q E s):
  OpR X f (Dx λi j=> .int (g i j)):=by
 intro ad s J H x y v u Q I G c h;obtain⟨i,j,rfl,rfl,q⟩:=h;obtain⟨t,rfl⟩:=G;obtain⟨D,rfl⟩:=c;exact rule i j t D s _ _ ⟨.int (g i j),H,I.tok _,⟨_,rfl⟩,q⟩
theorem G7{f:yU->yU->Sem yU}{g:Int->Int->Bool}
  (rule:∀(i j:Int) (t u:Tok) (s:yS) (Q:VSP) (E:VSP),Q (.bool (g i j)) s->wpAny (model X.prog X.w) X.A (f (.int i t) (.int j u)) Q E s):
  OpR X f (Dx λi j=> .bl (g i j)):=by
 intro ad s J H x y v u Q I G c h;obtain⟨i,j,rfl,rfl,q⟩:=h;obtain⟨t,rfl⟩:=G;obtain⟨D,rfl⟩:=c;exact rule i j t D s _ _ ⟨.bl (g i j),H,I,rfl,q⟩
def Jo(i j:Int):Prop:=0<j/\j<1073741824
def Lr(i j:Int):Prop:=0<=j/\j<=1000000/\i.natAbs<2 ^ 64
def CMul(i j:Int):Prop:=(-(2 ^ 64)<i/\i<2 ^ 64)\/(-(2 ^ 64)<j/\j<2 ^ 64)
theorem CMul.ok(h:CMul i j):IntMulOk i j:=by
 rcases h with⟨h1,h2⟩ | ⟨h1,h2⟩
 .exact .of_left (intBits_le_64 h1 h2)
 .exact .of_right (intBits_le_64 h1 h2)
theorem op_add:OpR X (binaryOp .Add) (Dx λi j=> .int (i+j)):=Lq λ_ _ _ _ _ _ _ q=>add_int q
theorem op_sub:OpR X (binaryOp .Sub) (Dx λi j=> .int (i-j)):=Lq λ_ _ _ _ _ _ _ q=>sub_int q
theorem op_mul:OpR X (binaryOp .Mult) (rI CMul λi j=> .int (i * j)):=GZ λ_ _ _ _ _ _ _ c q=>mul_int q c.ok
theorem op_fdiv:OpR X (binaryOp .FloorDiv) (rI Jo λi j=> .int (i / j)):=GZ λi j _ _ _ _ _ c q=>by
 have D:(0:Int)<j:=c.1;have g:j<1073741824:=c.2;exact floordiv_int (by lia) (by rw[cY i (by lia)];exact q) (.inl (dW (by lia)))
theorem op_mod:OpR X (binaryOp .Mod) (rI (λ_ j=>0<j) λi j=> .int (i % j)):=GZ λi j _ _ _ _ _ c q=>by
 have g:(0:Int)<j:=c;exact mod_int' (by lia) (by rw[cZ i (by lia)];exact q)
theorem op_pow:OpR X (binaryOp .Pow) (rI Lr λi j=> .int (i ^ j.toNat)):=GZ λ_ _ _ _ _ _ _ c q=>pow_int_small c.1 c.2.1 c.2.2 q
theorem Qi{f:yU->Sem yU}{g:Int->Int}
  (rule:∀(i:Int) (t:Tok) (s:yS) (Q:VSP) (E:VSP),Q (.int (g i) s.toks) { s with toks:=s.toks+1}->wpAny (model X.prog X.w) X.A (f (.int i t)) Q E s):
  Jm X f (rU λi=> .int (g i)):=by
 intro ad s D H x v Q I c h;obtain⟨i,rfl,q⟩:=h;obtain⟨t,rfl⟩:=c;exact rule i t s _ _ ⟨.int (g i),H,I.tok _,⟨_,rfl⟩,q⟩
theorem Qj:Jm X (unaryOp .USub) (rU λi=> .int (-i)):=Qi λ_ _ _ _ _ q=>neg_int q
end
def Ls:V->V->Bool
 |.non,.non=>true | .non,.int _=>true | .int _,.non=>true | .non,.bl _=>true | .bl _,.non=>true | .non,.str _=>true | .str _,.non=>true
 |.int _,.int _=>true | .bl _,.bl _=>true | .str _,.str _=>true | .byt _,.byt _=>true
 |.int _,.str _=>true | .str _,.int _=>true | .bl _,.str _=>true | .str _,.bl _=>true
 |_,_=>false
def Qk:R2:=λx y H Q=>Ls x y=true/\Q (.bl (decide (x=y))) H
def Ql:R2:=λx y H Q=>Ls x y=true/\Q (.bl (!decide (x=y))) H
theorem Dy:decide (V.int i=V.int j)=(i==j):=by
 rw[ap];simp
theorem Lu{i j:Bool}:decide (V.bl i=V.bl j)=(i==j):=by
 rw[ap];simp
theorem Lv{i j:Str}:decide (V.str i=V.str j)=(i==j):=by
 rw[ap];simp
theorem Lw{i j:Array UInt8}:decide (V.byt i=V.byt j)=(i.toList==j.toList):=by
 rw[ap];cases i;cases j;simp
variable{X:Cx}{a b c:yL}{ta tb tc:TE}{pos:Pos}
theorem Bf{ad:PNs}{σ:St}{H:Hp}{s:yS}{Q:VK}{k c:Bool}(I:Ad X ad σ H s)(q:Q (.bl k) H)(e:k=c):EP X ad σ Q (.bool c) s:=by
 subst e;exact⟨.bl k,H,I,rfl,q⟩
theorem CB:OpR X (compareOp .Eq) Qk:=by
 intro ad s J H x y v u Q I G c h;obtain⟨D,q⟩:=h;cases x with
 |non=>
  cases G;cases y with
  |non=>cases c;exact PySem.EqNone.eq_none_none (Bf I q (by simp))
  |bl j=>cases c;exact PySem.EqNone.eq_none_bool (Bf I q (by simp))
  |int j=>obtain⟨g,rfl⟩:=c;exact PySem.EqNone.eq_none_int (Bf I q (by simp))
  |str j=>obtain⟨g,rfl⟩:=c;exact PySem.EqNone.eq_none_str (Bf I q (by simp))
  |_=>exact absurd (show false=true from D) YT
 |bl i=>
  cases G;cases y with
  |non=>cases c;exact PySem.EqNone.eq_bool_none (Bf I q (by simp))
  |bl j=>cases c;exact eq_bool (Bf I q Lu)
  |str j=>obtain⟨g,rfl⟩:=c;exact PySem.EqMixed.eq_bool_str (Bf I q (by simp))
  |_=>exact absurd (show false=true from D) YT
 |int i=>
  obtain⟨t,rfl⟩:=G;cases y with
  |non=>cases c;exact PySem.EqNone.eq_int_none (Bf I q (by simp))
  |int j=>obtain⟨g,rfl⟩:=c;exact eq_int (Bf I q Dy)
  |str j=>obtain⟨g,rfl⟩:=c;exact PySem.EqMixed.eq_int_str (Bf I q (by simp))
  |_=>exact absurd (show false=true from D) YT
 |str i=>
  obtain⟨t,rfl⟩:=G;cases y with
  |non=>cases c;exact PySem.EqNone.eq_str_none (Bf I q (by simp))
  |bl j=>cases c;exact PySem.EqMixed.eq_str_bool (Bf I q (by simp))
  |int j=>obtain⟨g,rfl⟩:=c;exact PySem.EqMixed.eq_str_int (Bf I q (by simp))
  |str j=>obtain⟨g,rfl⟩:=c;exact eq_str (Bf I q Lv)
  |_=>exact absurd (show false=true from D) YT
 |byt i=>
  obtain⟨t,rfl⟩:=G;cases y with
  |byt j=>obtain⟨g,rfl⟩:=c;exact PySem.W.eq_bytes (Bf I q Lw)
  |_=>exact absurd (show false=true from D) YT
 |_=>cases y<;>exact absurd (show false=true from D) YT
theorem Jp:OpR X (compareOp .NotEq) Ql:=by
 intro ad s J H x y v u Q I G c h;obtain⟨D,q⟩:=h;cases x with
 |non=>
  cases G;cases y with
  |non=>cases c;exact PySem.EqNone.ne_none_none (Bf I q (by simp))
  |bl j=>cases c;exact PySem.EqNone.ne_none_bool (Bf I q (by simp))
  |int j=>obtain⟨g,rfl⟩:=c;exact PySem.EqNone.ne_none_int (Bf I q (by simp))
  |str j=>obtain⟨g,rfl⟩:=c;exact PySem.EqNone.ne_none_str (Bf I q (by simp))
  |_=>exact absurd (show false=true from D) YT
 |bl i=>
  cases G;cases y with
  |non=>cases c;exact PySem.EqNone.ne_bool_none (Bf I q (by simp))
  |bl j=>cases c;exact ne_bool (Bf I q (Zv not Lu))
  |str j=>obtain⟨g,rfl⟩:=c;exact PySem.EqMixed.ne_bool_str (Bf I q (by simp))
  |_=>exact absurd (show false=true from D) YT
 |int i=>
  obtain⟨t,rfl⟩:=G;cases y with
  |non=>cases c;exact PySem.EqNone.ne_int_none (Bf I q (by simp))
  |int j=>obtain⟨g,rfl⟩:=c;exact ne_int (Bf I q (Zv not Dy))
  |str j=>obtain⟨g,rfl⟩:=c;exact PySem.EqMixed.ne_int_str (Bf I q (by simp))
  |_=>exact absurd (show false=true from D) YT
 |str i=>
  obtain⟨t,rfl⟩:=G;cases y with
  |non=>cases c;exact PySem.EqNone.ne_str_none (Bf I q (by simp))
  |bl j=>cases c;exact PySem.EqMixed.ne_str_bool (Bf I q (by simp))
  |int j=>obtain⟨g,rfl⟩:=c;exact PySem.EqMixed.ne_str_int (Bf I q (by simp))
  |str j=>obtain⟨g,rfl⟩:=c;exact ne_str (Bf I q (Zv not Lv))
  |_=>exact absurd (show false=true from D) YT
 |byt i=>
  obtain⟨t,rfl⟩:=G;cases y with
  |byt j=>obtain⟨g,rfl⟩:=c;exact PySem.W.ne_bytes (Bf I q (Zv not Lw))
  |_=>exact absurd (show false=true from D) YT
 |_=>cases y<;>exact absurd (show false=true from D) YT
theorem op_lt:OpR X (compareOp .Lt) (Dx λi j=> .bl (decide (i<j))):=G7 λ_ _ _ _ _ _ _ q=>lt_int q
theorem op_le:OpR X (compareOp .LtE) (Dx λi j=> .bl (decide (i<=j))):=G7 λ_ _ _ _ _ _ _ q=>le_int q
theorem op_gt:OpR X (compareOp .Gt) (Dx λi j=> .bl (decide (j<i))):=G7 λ_ _ _ _ _ _ _ q=>gt_int q
theorem op_ge:OpR X (compareOp .GtE) (Dx λi j=> .bl (decide (j<=i))):=G7 λ_ _ _ _ _ _ _ q=>ge_int q
theorem Qm:OpR X (compareOp .Is) (λx y H Q=>y= .non/\Q (.bl (decide (x= .non))) H):=by
  intro ad s D H x y v u Q I c g h;obtain⟨rfl,q⟩:=h;cases g;refine is_none_gen (Bf I q ?_);cases x<;>first
    |(cases c;rfl)
    |(obtain⟨t,rfl⟩:=c;rfl)
theorem Jq:OpR X (compareOp .IsNot) (λx y H Q=>y= .non/\Q (.bl (!decide (x= .non))) H):=by
  intro ad s D H x y v u Q I c g h;obtain⟨rfl,q⟩:=h;cases g;refine isnot_none_gen (Bf I q ?_);cases x<;>first
    |(cases c;rfl)
    |(obtain⟨t,rfl⟩:=c;rfl)
theorem Ba(b:yL){op:CmpOp}(h:autoParam (op≠ .In) o3)(c:autoParam (op≠ .NotIn) o3):behindInMarks op b=false:=by
 have g:(op==CmpOp.In)=false:=by cases op<;>first | rfl | exact absurd rfl h
 have D:(op==CmpOp.NotIn)=false:=by cases op<;>first | rfl | exact absurd rfl c
 cases b<;>simp[behindInMarks,g,D]
theorem Dz{op:CmpOp}{r:R2}(G:OpR X (compareOp op) r)(D:PE X a ta)(O:PE X b tb)(g:behindInMarks op b=false):PE X (.Compare a [op] [b] pos) (Dv r ta tb):=by
 intro ad s Z H Q I h;exact wpAny_Compare1 (Jn D O I h λv u s2 x y H2 J L c q=>G ad s2 Z H2 x y v u Q J L c q) g
theorem Qn{xs:List V}{c:yX}(r:At xs c):(!c.toArray.isEmpty)= !xs.isEmpty:=by
 cases r<;>simp
theorem FY:(sizeLine:Nat)<2 ^ 63:=by rw[dX];decide
theorem EF{x:V}(r:At [x] us):∃u,us=[u]/\Az x u:=by
 cases r with
 |cons r1 r2=>cases r2;exact⟨_,rfl,r1⟩
theorem G8{x y:V}(r:At [x,y] us):∃u c,us=[u,c]/\Az x u/\Az y c:=by
 cases r with
 |cons r1 r2=>
  cases r2 with
  |cons r3 r4=>cases r4;exact⟨_,_,rfl,r1,r3⟩
theorem Jr(g:X.calm=true):BJ X (.builtin "max") (λxs H Q=>∃i j,xs=[.int i,.int j]/\Q (.int (if j>i then j else i)) H):=by
 intro ad s O H xs L Q I r h;obtain⟨i,j,rfl,q⟩:=h;obtain⟨u,J,rfl,⟨t,rfl⟩,⟨G,rfl⟩⟩:=G8 r;refine max_two_ints (I.ok.hd g) λD tk k=>⟨_,H,I.kept k,?_,q⟩
 by_cases c:j>i
 .rw[YR c,YR c];exact⟨_,rfl⟩
 .rw[YN c,YN c];exact⟨_,rfl⟩
theorem Qo(g:X.calm=true):BJ X (.builtin "min") (λxs H Q=>∃i j,xs=[.int i,.int j]/\Q (.int (if j<i then j else i)) H):=by
 intro ad s O H xs L Q I r h;obtain⟨i,j,rfl,q⟩:=h;obtain⟨u,J,rfl,⟨t,rfl⟩,⟨G,rfl⟩⟩:=G8 r;refine min_two_ints (I.ok.hd g) λD tk k=>⟨_,H,I.kept k,?_,q⟩
 by_cases c:j<i
 .rw[YR c,YR c];exact⟨_,rfl⟩
 .rw[YN c,YN c];exact⟨_,rfl⟩
theorem Lx:BJ X (.type "int") (λxs H Q=>(∃i,xs=[.int i]/\Q (.int i) H)\/ ∃k,xs=[.bl k]/\Q (.int (if k then 1 else 0)) H):=by
 intro ad s D H xs g Q I r h;rcases h with⟨i,rfl,q⟩ | ⟨k,rfl,q⟩
 .obtain⟨u,rfl,t,rfl⟩:=EF r;exact call_int_int ⟨.int i,H,I,⟨_,rfl⟩,q⟩
 .obtain⟨u,rfl,c⟩:=EF r;cases c;exact call_int_bool ⟨.int (if k then 1 else 0),H,I.tok _,⟨_,rfl⟩,q⟩
theorem Qp:BJ X (.type "str") (λxs H Q=>∃i,xs=[.int i]/\i.natAbs.log2<1920/\Q (.str (toString i)) H):=by
 intro ad s D H xs g Q I r h;obtain⟨i,rfl,c,q⟩:=h;obtain⟨u,rfl,t,rfl⟩:=EF r;exact PySem.P.str_of_int c ⟨.str _,H,I.tok _,⟨_,rfl⟩,q⟩
theorem Qq:BJ X (.builtin "divmod") (λxs H Q=>∃i j,xs=[.int i,.int j]/\Jo i j/\∀p,H p=none->Q (.ref p) (upd H p (.tup [.int (i / j),.int (i % j)]))):=by
 intro ad s L H xs J Q I r h;obtain⟨i,j,rfl,⟨G,O⟩,q⟩:=h;obtain⟨u,D,rfl,⟨t,rfl⟩,⟨g,rfl⟩⟩:=G8 r;refine divmod_int (by lia) ?_ (.inl (dW (by lia)));rw[cY i (by lia),cZ i (by lia)];have c:H s.heap.objs.size=none:=I.hok.fresh (Y4 _);refine⟨.ref s.heap.objs.size,_,?_,rfl,q _ c⟩;refine I.laid (λb o e=>Y2 _ e) (Y4 _) ⟨by simp only[Zh,length_nil];rw[dX];decide,[.int (i / j) s.toks,.int (i % j) (s.toks+1)],.cons ⟨_,rfl⟩ (.cons ⟨_,rfl⟩ .nil),?_⟩;exact⟨_,YL s.heap rfl,rfl,0,rfl⟩
end L2
namespace L2
structure ObjM(h:Heap)(x dx C:yR)(mA:Str->yW):Prop where
 obj:h.get? x=some (PySem.W.instObj C dx)
 ns:h.Ns1 dx mA
 ne:dx≠x
theorem Qr{h:Heap}{G:yR}{g:Str->yW}(n:h.Ns1 G g):∃D,h.get? G=some D/\∀name,PySem.W.lookIn name D=some (g name):=by
 obtain⟨o,es,ep,L,hd,O,_,I⟩:=n;refine⟨o,L,λname=>?_⟩;have e:=I name;unfold nsFind findBy at e;rw[<-Array.find?_toList]at e;unfold PySem.W.lookIn;rw[hd];dsimp only;split
 .rename_i y q;rw[q]at e;exact Zv some e
 .rename_i q;rw[q]at e;have a:es.toList.any (·.refKey)=false:=by
   rw[List.any_eq_false];intro y Z;obtain⟨z,t,c⟩:=O y (Array.mem_toList_iff.mp Z);simp[DictEntry.refKey,c]
  have J:¬es.toList.any (·.refKey)=true:=by rw[a];exact YT
  rw[YN J];exact Zv some e
theorem ObjM.look{h:Heap}{x D C:yR}{g:Str->yW}(I:ObjM h x D C g):∃c,PySem.W.InstAt h x (PySem.W.instObj C D) C (some c)/\∀name,PySem.W.lookIn name c=some (g name):=
 let ⟨c,ho,hl⟩:=Qr I.ns
 ⟨c,⟨I.obj,rfl,rfl,ho⟩,hl⟩
section
variable{prog:yP}{w:yN}{A:yO}{E:yY}{s:yS}{K:Fgx}{x dx C f:yR}{mA:Str -> yW}{name:Str}{v:yU}
theorem Qs{c:Bool}{Q:VSP}(X:K.In s.heap)(I:ObjM s.heap x dx C mA)(D:PySem.W.plainGet K C name=true)(G:PySem.W.hasDictIn K C=true)
  (L:PySem.W.findIn K (.ref C) name=some none) (Z:mA name=some v) (g:PySem.W.handedIn v=true) (h:Q v { s with toks:=s.toks+1}):
  wpAny (model prog w) A (getAttr (.ref x) name c) Q E s:=by
 obtain⟨od,J,O⟩:=I.look;exact PySem.W.get_value X J (PySem.W.plainGet_of D).1 (PySem.W.findObj_own G L rfl (by rw[O,Z])) g h
theorem Qt{pl:Sem Bool}{Q:yU×yX->yS->Prop}(X:K.In s.heap)(I:ObjM s.heap x dx C mA)(c:PySem.W.plainGet K C name=true)
  (D:PySem.W.findIn K (.ref C) name=some (some (.ref f))) (G:PySem.W.isFn K (.ref f)=true) (O:mA name=none) (h:Q (.ref f,[.ref x]) s):
  wpAny (model prog w) A (getMethod (.ref x) name pl) Q E s:=by
 obtain⟨g,J,L⟩:=I.look;exact PySem.W.method_fn X J (PySem.W.plainGet_of c).1 (PySem.W.plainGet_of c).2 D (ac.mp G) (by show(PySem.W.lookIn name g).map (·.isSome)=some false;rw[L,O];rfl) h
theorem Qu{ns:List Str}{Q:Unit->yS->Prop}(X:K.In s.heap)(I:ObjM s.heap x dx C mA)
  (hs:PySem.W.findIn K (.ref C) "__setattr__"=some (some (.builtin "object.__setattr__"))) (hp:PySem.W.plainOver K C=true) (ht:PySem.W.takerIn K C name=some none) (hh:PySem.W.hasDictIn K C=true)
  (hw:PySem.Within mA ns) (hsz:ns.length<=sizeLine)
  (h:∀h',ObjM h' x dx C (λy=>if y=name then some v else mA y)->Heap.SameBut dx s.heap h'->Q () { s with heap:=h',toks:=s.toks+2}):
  wpAny (model prog w) A (setAttr (.ref x) name v) Q E s:=by
 obtain⟨od,J,hl⟩:=I.look;refine PySem.W.set_plain X J hs (PySem.W.osa_open (s:= { s with toks:=s.toks+1}) (r:=none) X J hp ht λb=>?_);obtain⟨cd,hc,L⟩:=PySem.W.any_some hh;have hx:s.heap.get? x=some ⟨.ref C,some dx,.plain,#[]⟩:=I.obj;refine Y1 (Y6 (Y1 (Y1 (wpAny_loadPart hx (Y1 (PySem.W.Looks.here (s:= { s with toks:=s.toks+1}) (PySem.W.looks_clsIn X hc) ?_))))));rw[L];refine Y6 (a:=some dx) (Y1 (Y6 (Y1 ?_)));refine wpAny_nsSet1 (s:= { s with toks:=s.toks+1}) I.ns λh' g c=>?_
 obtain⟨oD,i4,Z,O,D,G⟩:=g.count (PySem.Within.cons name v hw);refine Y1 (wpAny_lookBehind O (by rw[D];exact pastItsLine_dict (YV G (by rw[Zh];lia))) ?_);exact Y6 (h _ ⟨(c.2 _ (Zo I.ne)).trans I.obj,g,I.ne⟩ c)
theorem Qv{R:Result->yS->Prop}{vs:yX}{c:List (Str×yU)}(X:K.In s.heap)(D:PySem.W.makesIn K C=true)
    (hi:PySem.W.findIn K (.ref C) "__init__"=some (some (.ref f))) (G:PySem.W.typeIn K (.ref f)=some (.type "function"))
    (h:codeAny (model prog w) (A.under (.builtin "type.__call__" ⟨.ref C::vs,c⟩)) (.call (.ref f) ⟨.ref (s.heap.objs.size+1)::vs,c⟩) (PySem.W.InitBack (s.heap.objs.size+1) R)
      { s with heap:=(s.heap.push PySem.W.emptyDict).push (PySem.W.instObj C s.heap.objs.size)}):
    codeAny (model prog w) A (.call (.ref C) ⟨vs,c⟩) R s:=by
  obtain⟨I,g,d,t,os⟩:=s;exact PySem.W.make_core (PySem.W.makes_of X D) (PySem.W.looks_findIn X hi) (λself=>PySem.W.bind_fn X self G) (.inl rfl) h
end
def Cc(f:Str)(v:V):List (Str×V)->List (Str×V)
  |[]=>[(f,v)]
  |(g,x)::r=>if g=f then(g,v)::r else(g,x)::Cc f v r
theorem Ly(f g:Str)(v:V):∀fs:List (Str×V),(Cc f v fs).lookup g=if g=f then some v else fs.lookup g
  |[] => by
    show List.lookup g [(f,v)]=_
    by_cases h:g=f
    . have c:(g==f)=true:=ac.mpr h;simp only[List.lookup,c,YR h]
    . have c:(g==f)=false:=ZG.mpr h;simp only[List.lookup,c,YN h]
  |(k, x) :: r => by
    have G:=Ly f g v r;rw[show Cc f v ((k,x)::r)=(if k=f then(k,v)::r else(k,x)::Cc f v r) from rfl]
    by_cases D:k=f
    . rw [YR D]
      by_cases h:g=k
      . have c:(g==k)=true:=ac.mpr h;simp only[List.lookup,c,YR (h.trans D)]
      . have c:(g==k)=false:=ZG.mpr h;simp only[List.lookup,c,YN (λe:g=f=>h (e.trans D.symm))]
    . rw [YN D]
      by_cases h:g=k
      . have c:(g==k)=true:=ac.mpr h;simp only[List.lookup,c,YN (λe:g=f=>D (h.symm.trans e))]
      . have c:(g==k)=false:=ZG.mpr h;simp only[List.lookup,c];exact G
theorem Js(f:Str)(v:V):∀fs:List (Str×V),f∈(Cc f v fs).map (·.1)/\∀g,g∈fs.map (·.1)->g∈(Cc f v fs).map (·.1)
  |[]=>⟨by simp[Cc],λg h=>by simp at h⟩
  |(k, x) :: r => by
    obtain⟨i1,i2⟩:=Js f v r;rw[show Cc f v ((k,x)::r)=(if k=f then(k,v)::r else(k,x)::Cc f v r) from rfl]
    by_cases c:k=f
    . rw[YR c];subst c;exact⟨by simp,λg h=>by simpa using h⟩
    . rw [YN c];refine⟨?_,λg h=>?_⟩
      . rw[ZA];exact Z4 _ i1
      . rw [ZA] at h ⊢;rcases YY.mp h with e | e
        . exact YY.mpr (.inl e)
        . exact Z4 _ (i2 g e)
theorem Lz(f:Str)(v:V):∀fs:List (Str×V),(Cc f v fs).length<=fs.length+1
  |[]=>by simp[Cc]
  |(k, x) :: r => by
    have g:=Lz f v r;rw[show Cc f v ((k,x)::r)=(if k=f then(k,v)::r else(k,x)::Cc f v r) from rfl]
    by_cases c:k=f
    . rw[YR c,Zh,Zh];lia
    . rw[YN c,Zh,Zh];lia
theorem RelO.some_of{v:V}{o:yW}(r:RelO (some v) o):∃u,o=some u/\Az v u:=by
 cases o with
 |none=>exact(show False from r).elim
 |some u=>exact⟨u,rfl,r⟩
theorem RelO.none_of{o:yW}(r:RelO none o):o=none:=by
 cases o with
 |none=>rfl
 |some u=>exact(show False from r).elim
theorem Qw{v:V}{u:yU}(r:Az v u):PySem.W.handedIn u=true:=by
 cases v with
 |non=>cases(show u=Value.none from r);rfl
 |bl b=>cases(show u=Value.bool b from r);rfl
 |int i=>obtain⟨t,e⟩:=(show ∃t,u=Value.int i t from r);cases e;rfl
 |str x=>obtain⟨t,e⟩:=(show ∃t,u=Value.str x t from r);cases e;rfl
 |byt b=>obtain⟨t,e⟩:=(show ∃t,u=Value.bytes b t from r);cases e;rfl
 |flt b=>obtain⟨t,e⟩:=(show ∃t,u=Value.float b t from r);cases e;rfl
 |ref a=>cases(show u=Value.ref a from r);rfl
 |ty n=>cases(show u=Value.type n from r);rfl
section
variable{P:yP}{w:yN}{H H':Hp}{h h':Heap}{a C dx:yR}{fs fs':List (Str × V)}
theorem Jt(hok:HOk P w H h)(e:H a=some (.ins C dx fs)):∃c,ObjM h a dx C c/\(∀f,RelO (fs.lookup f) (c f))/\PySem.Within c (fs.map (·.1))/\fs.length<=1000/\H dx=some (.own a):=by
 obtain⟨d,z,ne,ob,c,n,r,q⟩:=(show ObjOk P w H h a (.ins C dx fs) from hok a _ e);exact⟨c,⟨ob,n,ne⟩,r,q,z,d⟩
end
structure Cls(K:Fgx)(C:yR):Prop where
 pg:PySem.W.plainGet K C Str.empty=true
 hd:PySem.W.hasDictIn K C=true
 po:PySem.W.plainOver K C=true
 sa:PySem.W.findIn K (.ref C) "__setattr__"=some (some (.builtin "object.__setattr__"))
theorem Cls.get{K:Fgx}{C:yR}(c:Cls K C)(f:Str):PySem.W.plainGet K C f=true:=c.pg
def NoAttr(K:Fgx)(C:yR)(f:Str):Prop:=PySem.W.findIn K (.ref C) f=some none
theorem NoAttr.taker{K:Fgx}{C:yR}{f:Str}(n:NoAttr K C f):PySem.W.takerIn K C f=some none:=by
 unfold PySem.W.takerIn;rw[show PySem.W.findIn K (.ref C) f=some none from n]
 rfl
structure Con(K:Fgx)(C:yR)(f:Str)(v:V)(u:yU):Prop where
 at_:PySem.W.findIn K (.ref C) f=some (some u)
 rel:Az v u
 get:PySem.W.specialIn K u "__get__"=some none
 cp:PySem.W.copiedNames.contains f=false
structure Fg(K:Fgx)(C:yR)(m:Str)(f:yR):Prop where
 at_:PySem.W.findIn K (.ref C) m=some (some (.ref f))
 fn:PySem.W.isFn K (.ref f)=true
 kp:PySem.W.keepIn K (.ref f)=true
section
variable{X:Cx}{ad:List (yR × Obj)}{σ:St}{H:Hp}{s:yS}{a C dx:yR}{fs:List (Str × V)}{f:Str}{v:V}{A:yO}{E:yY}
theorem Qx{b:Bool}{Q:VSP}(I:Ad X ad σ H s)(e:H a=some (.ins C dx fs))(c:Cls X.K C)(n:NoAttr X.K C f)(l:fs.lookup f=some v)
  (h:∀u s',Ad X ad σ H s'->Az v u->Q u s'):wpAny (model X.prog X.w) A (getAttr (.ref a) f b) Q E s:=by
 obtain⟨g,O,r,_,_,_⟩:=Jt I.hok e;obtain⟨u,D,ru⟩:=RelO.some_of (v:=v) (o:=g f) (by rw[<-l];exact r f);exact Qs I.kIn O (c.get f) c.hd n D (Qw ru) (h u _ (I.tok _) ru)
theorem Ju{m:Str}{g:yR}{pl:Sem Bool}{Q:yU×yX->yS->Prop}(I:Ad X ad σ H s)(e:H a=some (.ins C dx fs))(c:Cls X.K C)(k:Fg X.K C m g)(l:fs.lookup m=none)
  (h:Q (.ref g,[.ref a]) s):wpAny (model X.prog X.w) A (getMethod (.ref a) m pl) Q E s:=by
 obtain⟨D,O,r,_,_,_⟩:=Jt I.hok e;have G:D m=none:=RelO.none_of (by rw[<-l];exact r m);exact Qt I.kIn O (c.get m) k.at_ k.fn G h
theorem Qy{y:V}{u:yU}{Q:Unit->yS->Prop}(I:Ad X ad σ H s)(e:H a=some (.ins C dx fs))(c:Cls X.K C)(n:NoAttr X.K C f)(hl:fs.length<1000)(Z:Az y u)
  (h:∀s',Ad X ad σ (upd H a (.ins C dx (Cc f y fs))) s'->Q () s'):wpAny (model X.prog X.w) A (setAttr (.ref a) f u) Q E s:=by
 obtain⟨J,O,r,G,_,L⟩:=Jt I.hok e;have hz:(fs.map (·.1)).length<=sizeLine:=by rw[Y0,dX];lia
 refine Qu I.kIn O c.sa c.po n.taker c.hd G hz λh' D sb=>h _ ?_
 have hd:∃o,h'.get? dx=some o:=let ⟨o,_,_,e',_⟩:=D.ns;⟨o,e'⟩;refine I.write (x:=a) (e:=dx) (by rw[e];exact True.intro) (.inr L) (λb q hb z=>(sb.2 b hb).trans z) hd ?_;refine⟨by rw[Ap O.ne];exact L,?_,O.ne,D.obj,_,D.ns,λg=>?_,λg hg=>?_⟩
 .have:=Lz f y fs;lia
 .show RelO ((Cc f y fs).lookup g) (if g=f then some u else J g);rw[Ly]
  by_cases q:g=f
  .rw[YR q,YR q];exact Z
  .rw[YN q,YN q];exact r g
 .by_cases q:g=f
  .rw[q];exact(Js f y fs).1
  .refine(Js f y fs).2 g (G g λz=>hg ?_);show(if g=f then some u else J g)=none;rw[YN q];exact z
theorem Ad.made(I:Ad X ad σ H s):Ad X ad σ (upd (upd H s.heap.objs.size (.own (s.heap.objs.size+1))) (s.heap.objs.size+1) (.ins C s.heap.objs.size []))
    { s with heap:=(s.heap.push PySem.W.emptyDict).push (PySem.W.instObj C s.heap.objs.size)}:=by
  have c:(s.heap.push PySem.W.emptyDict).get? s.heap.objs.size=some PySem.W.emptyDict:=YL s.heap rfl;have J:((s.heap.push PySem.W.emptyDict).push (PySem.W.instObj C s.heap.objs.size)).get? (s.heap.objs.size+1)=some (PySem.W.instObj C s.heap.objs.size):=by
    have:=YL (s.heap.push PySem.W.emptyDict) (o:=PySem.W.instObj C s.heap.objs.size) rfl
    rwa [Zf]at this
  have L:(s.heap.push PySem.W.emptyDict).Ns s.heap.objs.size (λ_=>none):=⟨PySem.W.emptyDict,#[],_,c,rfl,(λe G=>absurd G (by simp)),λ_=>rfl⟩;have g:=I.laid (a:=s.heap.objs.size) (o:= .own (s.heap.objs.size+1)) (h':=s.heap.push PySem.W.emptyDict) (t':=s.toks) (λb u q=>Y2 _ q) (Y4 _) ⟨_,c⟩;refine g.laid (a:=s.heap.objs.size+1) (o:= .ins C s.heap.objs.size []) (t':=s.toks) (λb u q=>Y2 _ q) (eX (Zf _ _)) ?_;have ne:s.heap.objs.size≠s.heap.objs.size+1:=Z0 (aN _);refine⟨by rw[Ap ne,Af],Z6 _,ne,J,λ_=>none,(Heap.Ns1.of_empty L).at λo q=>Y2 _ q,λ_=>True.intro,λy D=>absurd rfl D⟩
theorem Qz{prog:yP}{w:yN}{env:Env}{e:yL}{f:Str}{g:Pos}{s:yS}{Q:VSP}(D:attributeBase e f env (eval e env)=eval e env)
  (h:wpAny (model prog w) A (eval e env) (λo c=>wpAny (model prog w) A (getAttr o f true) Q E c) E s):wpAny (model prog w) A (eval (.Attribute e f g) env) Q E s:=
 Attribute_any_ h (by rw[arm_eval_Attribute,D])
end
def QA(K:Fgx)(G:TE)(f:Str):TE:=fun g H Q=>G g H λx c=>∃a C D fs v,x= .ref a/\c a=some (.ins C D fs)/\Cls K C/\NoAttr K C f/\fs.lookup f=some v/\Q v c
def QB(K:Fgx)(L J:TE)(f:Str):TS:=λD c H=>J c H λy I=>L c I λx g=>∃a C G fs,x= .ref a/\g a=some (.ins C G fs)/\Cls K C/\NoAttr K C f/\fs.length<1000/\
 D.nx c (upd g a (.ins C G (Cc f y fs)))
section
variable{X:Cx}{o e value:yL}{f:Str}{pos pos' tpos:Pos}{ta tv:TE}
theorem QC(D:PE X e ta)(Z:attributeBase e f X.env (eval e X.env)=eval e X.env):PE X (.Attribute e f pos) (QA X.K ta f):=by
 intro ad s σ H Q I h;refine Qz Z (An (D ad s σ H _ I h) λu s1 O=>?_);obtain⟨x,H1,G,L,a,C,dx,fs,v,ex,g,c,n,l,q⟩:=O;subst ex;obtain rfl:u=Value.ref a:=L;exact Qx G g c n l λu' s2 J ru=>⟨v,H1,J,ru,q⟩
theorem Jv(L:PE X o ta)(hv:PE X value tv)(hs:swapsWith value (some (.Attribute o f pos')) pos.line X.env=pure false):PS X (.Assign [.Attribute o f pos'] value pos) (QB X.K ta tv f):=by
 intro ad s g H D I h;refine plainObj_wpAny_Assign_Attribute (An (hv ad s g H _ I h) λu s1 ⟨y,H1,O,G,q⟩=>An (L ad s1 g H1 _ O q) λov s2 zq=>?_) hs;obtain⟨x,H2,Z,rx,a,C,dx,fs,ex,J,c,n,l,q2⟩:=zq;subst ex;obtain rfl:ov=Value.ref a:=rx;exact Qy Z J c n l G λs3 I3=>⟨g,_,I3,q2⟩
theorem methcall_of{pl:Sem Bool}{m:Str}{D:Pos}{args:List yL}{ad:PNs}{s:yS}{σ:St}{H:Hp}{Q:VSP}{J:TE}(he:PE X e J)(I:Ad X ad σ H s)
  (h : J σ H λx G => ∃ a C O fs g, x = .ref a /\ G a = some (.ins C O fs) /\ Cls X.K C /\ Fg X.K C m g /\ fs.lookup m = none /\
   ∀s1,Ad X ad σ G s1->wpAny (model X.prog X.w) X.A (callWith pos (.ref g) [.ref a] (backTo pos (starEach args X.env)) (backToKw pos (keywordEach [] X.env))) Q X.xe s1)
  (ht : eval (.Call (.Attribute e m D) args [] pos) X.env = (do
   let ov<-eval e X.env
   standAt D.atName
   let (f,first)<-holding [ov] (getMethod ov m pl)
   callWith pos f first (backTo pos (starEach args X.env)) (backToKw pos (keywordEach [] X.env)))):
  wpAny (model X.prog X.w) X.A (eval (.Call (.Attribute e m D) args [] pos) X.env) Q X.xe s:=by
 refine PySem.W.methodCall_KW (pl:=pl) (An (he ad s σ H _ I h) λu s1 zq=>?_) ht;obtain⟨x,G,L,rx,a,C,O,fs,g,ex,Z,c,k,l,q⟩:=zq;subst ex;obtain rfl:u=Value.ref a:=rx;exact Ju L Z c k l (q s1 L)
end
variable{X:Cx}{ad:List (yR × Obj)}{σ:St}{H:Hp}{s:yS}{A:yO}{E:yY}{Q:yY}{c:yU}{b:Bool}
inductive Dh(K:Fgx)(H:Hp):V->yU->Prop where
 |non:Dh K H .non (.type "NoneType")
 |bl (x:Bool):Dh K H (.bl x) (.type "bool")
 |int (i:Int):Dh K H (.int i) (.type "int")
 |str (x:Str):Dh K H (.str x) (.type "str")
 |flt (x:UInt64):Dh K H (.flt x) (.type "float")
 |lst {a:yR}{xs:List V} (e:H a=some (.lst xs)):Dh K H (.ref a) (.type "list")
 |frz {a:yR}{o:Obj}{xs:List V} (e:H a=some (.frz o (.lst xs))):Dh K H (.ref a) (.type "list")
 |tup {a:yR}{xs:List V} (e:H a=some (.tup xs)):Dh K H (.ref a) (.type "tuple")
 |dK {a:yR}{kvs:List (AE×V)} (e:H a=some (.dK kvs)):Dh K H (.ref a) (.type "dict")
 |dT {a:yR}{kvs:List (List AE×V)} (e:H a=some (.dT kvs)):Dh K H (.ref a) (.type "dict")
 |ins {a C dx : yR} {fs : List (Str × V)} (e : H a = some (.ins C dx fs)) (cl : Cls K C) (ha : PySem.W.findIn K (.ref C) "__class__" = some (some (.builtin "object.__class__")))
   (hn:PySem.W.specialIn K (.builtin "object.__class__") "__get__"=some (some (.builtin "getset_descriptor.__get__"))) (htk:PySem.W.takesIn K (.builtin "object.__class__")=some true)
   (hm:PySem.W.mroIn K C (.type "object")=some true):Dh K H (.ref a) (.ref C)
end L2
namespace L2
variable{us:yX}{kw:List (Str × yU)}{P:yP}{Q:VK}{vs:List V}{kindOf:Str -> Option NameKind}{qual:Str}{scope:Scope}
structure AQ(k:Nat)(A:yO):Prop where
 hd:A.handled=none
 dp:A.depth+3 * k+5<recursionLimit
 un:A.units+16 * k+200<cLine
 gd:A.guards=some []
theorem AQ.mono{j k:Nat}{A:yO}(r:AQ k A)(h:j<=k):AQ j A:=⟨r.hd,by have:=r.dp;lia,by have:=r.un;lia,r.gd⟩
theorem AQ.deeper{k:Nat}{A:yO}(r:AQ (k+1) A)(env:Env):AQ k (A.deeper env):=
 ⟨r.hd,by have:=r.dp;show A.depth+1+3 * k+5<_;lia,by have:=r.un;show A.units+3+16 * k+200<_;lia,r.gd⟩
theorem QD{A:yO}{C:yR}:(A.under (.builtin "type.__call__" ⟨.ref C::us,kw⟩)).depth=A.depth+1:=by
 first | rfl | simp[Around.under,Code.weight,Code.isCreation,Code.isGuard,Code.isCaller,Code.frames,Code.isFrame,guardIds]
theorem QE{A:yO}{C:yR}:(A.under (.builtin "type.__call__" ⟨.ref C::us,kw⟩)).units=A.units+1:=by
 first | rfl | simp[Around.under,Code.cUnits,Code.frames,Code.isFrame]
theorem AQ.make{k:Nat}{A:yO}(r:AQ (k+1) A)(C:yR)(us:yX)(c:List (Str×yU)):AQ k (A.under (.builtin "type.__call__" ⟨.ref C::us,c⟩)):=
 ⟨r.hd,by have:=r.dp;rw[QD];lia,by have:=r.un;rw[QE];lia,by first | exact r.gd | simpa[Around.under,Code.isGuard,guardIds] using r.gd⟩
theorem AQ.depth{k:Nat}{A:yO}(r:AQ k A):A.depth<recursionLimit:=by have:=r.dp;lia
theorem AQ.units0{k:Nat}{A:yO}(r:AQ k A):A.units<cLine:=by have:=r.un;lia
def CC:TA:=λ_ H Q=>Q [] H
def BD(J:TE)(I:TA):TA:=fun c H Q=>J c H λx G=>I c G λD g=>Q (x::D) g
section
variable{X:Cx}{e:yL}{es:List yL}{te:TE}{t:TA}{pos:Pos}
theorem BE:PA X [] CC:=λ_ _ _ _ H Q I h=>dg ⟨[],H,I,.nil,h⟩
theorem Bc(G:PE X e te)(D:PA X es t)(hs:autoParam (starEach (e::es) X.env=(false,eval e X.env)::starEach es X.env) j2):PA X (e::es) (BD te t):=by
 intro c ad s g H Q I h;rw[hs];show wpAny _ _ (spliced ((false,eval e X.env)::backTo c (starEach es X.env))) _ _ s;refine cS (An (G ad s g H _ I h) λu s1 zq=>?_);obtain⟨x,H1,O,L,Z⟩:=zq;exact An (D c ad s1 g H1 _ O Z) λus s2 ⟨J,H2,I2,r2,q2⟩=>⟨x::J,H2,I2,.cons L r2,q2⟩
end
abbrev Sp:=List V->Hp->VK->XK->Prop
inductive zG(p:yR->Prop):List V->Prop|mk{a}(h:p a):zG p [.ref a]
inductive zH(p:V->Prop):List V->Prop|mk{a}(h:p a):zH p [a]
inductive zI(p:V->Int->Int->Prop):List V->Prop|mk{a b c}(h:p a b c):zI p [a,.int b,.int c]
inductive zJ(p:yR->Int->Prop):List V->Prop|mk{a b}(h:p a b):zJ p [.ref a,.int b]
inductive zK(p:V->V->Int->Prop):List V->Prop|mk{a b c}(h:p a b c):zK p [a,b,.int c]
inductive zL(p:V->Int->Prop):List V->Prop|mk{a b}(h:p a b):zL p [a,.int b]
inductive zM(p:yR->V->Prop):List V->Prop|mk{a b}(h:p a b):zM p [.ref a,b]
inductive zN(p:V->V->Prop):List V->Prop|mk{a b}(h:p a b):zN p [a,b]
inductive zO(p:V->Int->Int->Int->Prop):List V->Prop|mk{a b c d}(h:p a b c d):zO p [a,.int b,.int c,.int d]
inductive zP(p:V->Int->yR->Prop):List V->Prop|mk{a b c}(h:p a b c):zP p [a,.int b,.ref c]
inductive zQ(p:yR->Int->Int->Int->Prop):List V->Prop|mk{a b c d}(h:p a b c d):zQ p [.ref a,.int b,.int c,.int d]
inductive zR(p:V->yR->yR->Int->Prop):List V->Prop|mk{a b c d}(h:p a b c d):zR p [a,.ref b,.ref c,.int d]
inductive zS(p:Int->V->Prop):List V->Prop|mk{a b}(h:p a b):zS p [.int a,b]
inductive zT(p:V->V->V->Prop):List V->Prop|mk{a b c}(h:p a b c):zT p [a,b,c]
inductive zU(p:yR->yR->Prop):List V->Prop|mk{a b}(h:p a b):zU p [.ref a,.ref b]
inductive zV(p:yR->Str->yR->Prop):List V->Prop|mk{a b c}(h:p a b c):zV p [.ref a,.str b,.ref c]
inductive zW(p:yR->yR->yR->yR->Prop):List V->Prop|mk{a b c d}(h:p a b c d):zW p [.ref a,.ref b,.ref c,.ref d]
abbrev CD:=List Env->Hp->yS->XK->VSP
structure CF(P:yP)(w:yN)(K:Fgx)(mg:Str->yW)(base:Heap)(A:yO)(outer:List Env)(s:yS)(H:Hp):Prop where
 frames:A.frames=some outer
 mod:Mod K mg base
 bs:∀b o,base.get? b=some o->s.heap.get? b=some o/\H b=none
 bsz:base.objs.size<=s.heap.objs.size
 funs:s.heap.FunFrames base outer
 frf:∀b∈AG outer,H b=none
 hok:HOk P w H s.heap
 bare:AllBare s.gens
def CE(outer:List Env)(P:yP)(w:yN)(H:Hp)(s:yS)(Q:VK)(u:yU)(s':yS):Prop:=
 ∃v c,s'.os=s.os/\AllBare s'.gens/\Un (AG outer) [] H c s.heap s'.heap/\HOk P w c s'.heap/\Az v u/\Q v c
def CR(CX:CD)(outer:List Env)(P:yP)(w:yN)(H:Hp)(s:yS)(Q:VK)(E:XK)(r:Result)(s':yS):Prop:=
 match r with
 |.ok (.ret u)=>CE outer P w H s Q u s'
 |.ok _=>False
 |.error e=>CX outer H s E e s'
structure BV(P:yP)(w:yN)(K:Fgx)(mg:Str->yW)(base:Heap)(CX:CD)(k:Nat)(f:yR)(fd:FuncData)(ps:List Str)(sp:Sp):Prop where
 len:∀vs H Q E,sp vs H Q E->vs.length=ps.length
 run:∀(A:yO) (outer:List Env) (s:yS) (H:Hp) (args:Args) (us:yX) (vs:List V) (Q:VK) (E:XK),AQ k A->CF P w K mg base A outer s H->BindsTo s fd args (ps.zip us)->At vs us->sp vs H Q E->
  codeAny (model P w) A (.call (.ref f) args) (CR CX outer P w H s Q E) s
theorem CF.make{w:yN}{K:Fgx}{mg:Str->yW}{base:Heap}{A:yO}{outer:List Env}{s:yS}{H:Hp}(e:CF P w K mg base A outer s H)(C:yR)(us:yX)(c:List (Str×yU)):
  CF P w K mg base (A.under (.builtin "type.__call__" ⟨.ref C::us,c⟩)) outer s H:=⟨by first | exact e.frames | (simpa[Around.under,Code.envs,Code.isFrame,pushEnvs] using e.frames),e.mod,e.bs,e.bsz,e.funs,e.frf,e.hok,e.bare⟩
section
variable{X:Cx}{ad:List (yR × Obj)}{σ:St}{H:Hp}{s s':yS}
theorem Ad.env0(I:Ad X ad σ H s):CF X.prog X.w X.K X.mg X.base X.A X.stack s H:=
 ⟨I.ok.frames,I.ok.mod,I.bs,YV I.ok.bsz I.sz,I.stack,I.stkFree,I.hok,I.bare⟩
theorem Ad.after{u:yU}(I:Ad X ad σ H s)(h:CE X.stack X.prog X.w H s Q u s'):EP X ad σ Q u s':=by
 obtain⟨v,D,os,bare,un,hok,r,q⟩:=h;obtain⟨G,g,d,t,c⟩:=s';obtain rfl:c=s.os:=os;exact⟨v,D,I.call (h':=G) (g':=g) (d':=d) (t':=t) (ch:=[]) un hok bare (λb z=>absurd z (by simp)),r,q⟩
end
def QF(sp:Sp)(dvs:List V)(E:XK)(t:TA):TE:=fun c H Q=>t c H λD g=>sp (D++dvs) g Q E
def LC(C:yR)(m:Str)(sp:Sp)(dvs:List V)(E:XK)(J:TE)(t:TA):TE:=fun c H Q=>J c H λx g=>∃a G fs,x= .ref a/\g a=some (.ins C G fs)/\fs.lookup m=none/\
 t c g λI D=>sp (x::(I++dvs)) D Q E
def QG(C:yR)(sp:Sp)(dvs:List V)(E:XK)(t:TA):TE:=fun D H Q=>t D H λI g=>∀x c,g x=none->g c=none->c≠x->
 sp (.ref x::(I++dvs)) (upd (upd g c (.own x)) x (.ins C c [])) (λv G=>v= .non/\Q (.ref x) G) E
def Binds(K:Fgx)(D:FuncData)(g:List Str)(ds:yX):Prop:=
 ∀(s:yS) (c:yX),K.In s.heap->(c++ds).length=g.length->BindsTo s D ⟨c,[]⟩ (g.zip (c++ds))
theorem Binds.all{K:Fgx}{g:FuncData}{c:List Str}(h:∀us:yX,us.length=c.length->bindArgs g ⟨us,[]⟩=pure (c.zip us)):Binds K g c []:=λs us _ D=>by
 rw[ZV]at D ⊢;exact .of_eq (h us D)
def DA(CX:CD)(X:Cx)(E:XK):Prop:=∀(ad:PNs) (g:St) (H:Hp) (s:yS) (e:yU) (c:yS),Ad X ad g H s->CX X.stack H s E e c->X.xe e c
section
variable{X:Cx}{CX:CD}{k:Nat}{f C:yR}{fd:FuncData}{ps:List Str}{sp:Sp}{dvs:List V}{ds:yX}{E:XK}{x m:Str}{p pos apos:Pos}{e o:yL}{es:List yL}{ta:TE}{t:TA}
theorem G9{ad:PNs}{σ:St}{H:Hp}{s:yS}{Q:VK}{us:yX}{vs:List V}(F:BV X.prog X.w X.K X.mg X.base CX k f fd ps sp)(D:AQ k X.A)(L:Binds X.K fd ps ds)(hd:At dvs ds)(O:DA CX X E)
  (I:Ad X ad σ H s) (r:At vs us) (h:sp (vs++dvs) H Q E):wpAny (model X.prog X.w) X.A (call (.ref f) us) (EP X ad σ Q) X.xe s:=by
 have g:At (vs++dvs) (us++ds):=r.append hd;have G:(us++ds).length=ps.length:=by rw[<-g.length];exact F.len _ _ _ _ h
 refine cC (aC (F.run X.A X.stack s H ⟨us,[]⟩ (us++ds) (vs++dvs) Q E D I.env0 (L s us I.kIn G) g h) λr J c=>?_);cases r with
 |error e=>exact O ad σ H s e J I c
 |ok fl=>
  cases fl with
  |ret u=>exact I.after c
  |next=>exact False.elim c
  |brk=>exact False.elim c
  |cont=>exact False.elim c
theorem LD(F:BV X.prog X.w X.K X.mg X.base CX k f fd ps sp)(D:AQ k X.A)(G:Gl X x)(J:X.mg x=some (.ref f))(hk:PySem.W.keepIn X.K (.ref f)=true)(Z:Binds X.K fd ps ds)(hd:At dvs ds)(hx:DA CX X E)
  (O:PA X (e::es) t) (hdb:autoParam ((x==("__debug__" :Str))=false) o3) (L:autoParam (starEach (e::es) X.env=(false,eval e X.env)::starEach es X.env) j2) (c:autoParam ((backTo pos (starEach es X.env)).any (·.1)=false) j2):
  PE X (.Call (.Name x p) (e::es) [] pos) (QF sp dvs E t):=by
 intro ad s σ H Q I h;refine ZN (EC I G J ?_ hdb);refine PySem.W.callWith_K (h₀:=X.base) I.ok.mod.kin hk (An (O pos ad s σ H _ I h) λus s1 ⟨vs,H1,g,r,q⟩=>⟨g.kIn,?_⟩) L c;exact G9 F D Z hd hx g r q
theorem QH{pl:Sem Bool}(he:PE X o ta)(c:Cls X.K C)(G:Fg X.K C m f)(F:BV X.prog X.w X.K X.mg X.base CX k f fd ps sp)(Z:AQ k X.A)(hb:Binds X.K fd ps ds)(hd:At dvs ds)(hx:DA CX X E)(ha:PA X (e::es) t)
  (g:autoParam (starEach (e::es) X.env=(false,eval e X.env)::starEach es X.env) j2) (D:autoParam ((backTo pos (starEach es X.env)).any (·.1)=false) j2)
  (ht : autoParam (eval (.Call (.Attribute o m apos) (e :: es) [] pos) X.env = (do
   let ov<-eval o X.env
   standAt apos.atName
   let (f,first)<-holding [ov] (getMethod ov m pl)
   callWith pos f first (backTo pos (starEach (e::es) X.env)) (backToKw pos (keywordEach [] X.env)))) j2):
  PE X (.Call (.Attribute o m apos) (e::es) [] pos) (LC C m sp dvs E ta t):=by
 intro ad s O H Q I h;refine PySem.W.methodCall_KW (pl:=pl) (An (he ad s O H _ I h) λu s1 zq=>?_) ht;obtain⟨x,H1,J,rx,a,dx,fs,ex,ea,l,q⟩:=zq;subst ex;obtain rfl:u=Value.ref a:=rx;refine Ju J ea c G l ?_;refine PySem.W.callWith_K (first:=[.ref a]) (h₀:=X.base) I.ok.mod.kin G.kp (An (ha pos ad s1 O H1 _ J q) λus s2 ⟨vs,H2,L,r,q2⟩=>⟨L.kIn,?_⟩) g D;exact G9 (us:= .ref a::us) (vs:= .ref a::vs) F Z hb hd hx L (.cons rfl r) q2
theorem QI{pl:Sem Bool}(L:PE X o ta)(c:Cls X.K C)(D:Fg X.K C m f)(F:BV X.prog X.w X.K X.mg X.base CX k f fd ps sp)(G:AQ k X.A)(hb:Binds X.K fd ps ds)(hd:At dvs ds)(hx:DA CX X E)
  (ht : autoParam (eval (.Call (.Attribute o m apos) [] [] pos) X.env = (do
   let ov<-eval o X.env
   standAt apos.atName
   let (f,first)<-holding [ov] (getMethod ov m pl)
   callWith pos f first (backTo pos (starEach [] X.env)) (backToKw pos (keywordEach [] X.env)))) j2):
  PE X (.Call (.Attribute o m apos) [] [] pos) (LC C m sp dvs E ta CC):=by
 intro ad s σ H Q I h;refine PySem.W.methodCall_KW (pl:=pl) (An (L ad s σ H _ I h) λu s1 Z=>?_) ht;obtain⟨x,H1,g,O,a,dx,fs,ex,J,l,q⟩:=Z;subst ex;obtain rfl:u=Value.ref a:=O;refine Ju g J c D l ?_;exact PySem.W.callWith_K0 (first:=[.ref a]) g.kIn D.kp (G9 (us:=[.ref a]) (vs:=[.ref a]) F G hb hd hx g (.cons rfl .nil) q)
structure Mk(K:Fgx)(C f:yR):Prop where
 makes:PySem.W.makesIn K C=true
 init:PySem.W.findIn K (.ref C) "__init__"=some (some (.ref f))
 fn:PySem.W.isFn K (.ref f)=true
 kp:PySem.W.keepIn K (.ref C)=true
theorem QJ{ad:PNs}{σ:St}{H:Hp}{s:yS}(M:Mk X.K C f)(F:BV X.prog X.w X.K X.mg X.base CX k f fd ps sp)(L:AQ (k+1) X.A)(hb:Binds X.K fd ps ds)(hd:At dvs ds)
  (hx:DA CX X E) (I:Ad X ad σ H s) (r:At vs us)
  (h:∀x D,H x=none->H D=none->D≠x->sp (.ref x::(vs++dvs)) (upd (upd H D (.own x)) x (.ins C D [])) (λv H2=>v= .non/\Q (.ref x) H2) E):
  wpAny (model X.prog X.w) X.A (call (.ref C) us) (EP X ad σ Q) X.xe s:=by
 have G:=h (s.heap.objs.size+1) s.heap.objs.size (I.hok.fresh (Zx _)) (I.hok.fresh (Y4 _)) (Z0 (aN _));have g:=Ad.made (C:=C) I;have J:At (V.ref (s.heap.objs.size+1)::(vs++dvs)) (Value.ref (s.heap.objs.size+1)::(us++ds)):= .cons rfl (r.append hd);have O:(Value.ref (s.heap.objs.size+1)::us++ds).length=ps.length:=by
  have e:=J.length;rw[F.len _ _ _ _ G]at e;exact e.symm
 refine cC (Qv (f:=f) I.kIn M.makes M.init (ac.mp M.fn) (aC (F.run _ X.stack _ _ ⟨Value.ref (s.heap.objs.size+1)::us,[]⟩ (Value.ref (s.heap.objs.size+1)::(us++ds)) _ _ E (L.make C us [])
  (g.env0.make C us []) (hb _ (Value.ref (s.heap.objs.size+1)::us) g.kIn O) J G) λr s' c=>?_))
 cases r with
 |error e=>exact hx ad σ _ _ e s' g c
 |ok fl=>
  cases fl with
  |ret u=>
   obtain⟨v,H',I3,Z,ev,q3⟩:=g.after c;subst ev;exact⟨Z,⟨V.ref (s.heap.objs.size+1),H',I3,rfl,q3⟩⟩
  |next=>exact False.elim c
  |brk=>exact False.elim c
  |cont=>exact False.elim c
theorem QK(M:Mk X.K C f)(F:BV X.prog X.w X.K X.mg X.base CX k f fd ps sp)(D:AQ (k+1) X.A)(G:Gl X x)(J:X.mg x=some (.ref C))(Z:Binds X.K fd ps ds)(hd:At dvs ds)(hx:DA CX X E)
  (O:PA X (e::es) t) (hdb:autoParam ((x==("__debug__" :Str))=false) o3) (L:autoParam (starEach (e::es) X.env=(false,eval e X.env)::starEach es X.env) j2) (c:autoParam ((backTo pos (starEach es X.env)).any (·.1)=false) j2):
  PE X (.Call (.Name x p) (e::es) [] pos) (QG C sp dvs E t):=by
 intro ad s σ H Q I h;refine ZN (EC I G J ?_ hdb);refine PySem.W.callWith_K (h₀:=X.base) I.ok.mod.kin M.kp (An (O pos ad s σ H _ I h) λus s1 ⟨vs,H1,g,r,q⟩=>⟨g.kIn,?_⟩) L c;exact QJ M F D Z hd hx g r q
end
def PK(X:Cx)(c:List Keyword)(t:TA):Prop:=
 ∀(D:Pos) (ad:PNs) (s:yS) (g:St) (H:Hp) (Q:List V->Hp->Prop),Ad X ad g H s->t g H Q->wpAny (model X.prog X.w) X.A (evalAll ((backToKw D (keywordEach c X.env)).map (·.2))) (AP X ad g Q) X.xe s
section
variable{X:Cx}{CX:CD}{k:Nat}{f C:yR}{fd:FuncData}{ps ks:List Str}{sp:Sp}{E:XK}{x m:Str}{p pos apos kpos:Pos}{e o:yL}{es:List yL}{kws:List Keyword}{te ta:TE}{t tk:TA}{nm:Option Str}
theorem QL:PK X [] CC:=λ_ _ _ _ H Q I h=>wpAny_evalAll_nil ⟨[],H,I,.nil,h⟩
theorem QM(G:PE X e te)(D:PK X kws t):PK X (⟨nm,e,kpos⟩::kws) (BD te t):=by
 intro c ad s g H Q I h;show wpAny _ _ (evalAll ((do let v<-eval e X.env;standAt c;pure v)::(backToKw c (keywordEach kws X.env)).map (·.2))) _ _ s;refine wpAny_evalAll_cons (Y1 (An (G ad s g H _ I h) λu s1 ⟨x,H1,O,L,Z⟩=>Y1 (aR (Y6 ?_))));exact An (D c ad s1 g H1 _ O Z) λus s2 ⟨J,H2,I2,r2,q2⟩=>⟨x::J,H2,I2,.cons L r2,q2⟩
structure KBinds(K:Fgx)(fd:FuncData)(ps ks:List Str)(g:yX->yX->yX)(gV:List V->List V->List V):Prop where
 to:∀(s:yS) (us ws:yX),K.In s.heap->(g us ws).length=ps.length->BindsTo s fd ⟨us,ks.zip ws⟩ (ps.zip (g us ws))
 rel:∀ {vs:List V}{us:yX}{zs:List V}{ws:yX},At vs us->At zs ws->At (gV vs zs) (g us ws)
variable{g:yX -> yX -> yX}{gV:List V -> List V -> List V}
end
structure Aw(N P:List Str)(sc:Scope):Prop where
 kind:sc.kind= .function
 co:sc.isCoroutine=false
 gen:sc.isGenerator=false
 nd:N.Nodup
 pre:N.take P.length=P
 par:∀x∈P,sc.names.lookup x=some .local \/sc.names.lookup x=some .cell
 nofree:∀y∈sc.names,y.2≠ .free
theorem AB{N P:List Str}{D:Scope}(a:D.kind= .function:=by rfl)(b:D.isCoroutine=false:=by rfl)(c:D.isGenerator=false:=by rfl)(d:N.Nodup:=by decide+kernel)(e:N.take P.length=P:=by rfl)(f:∀x∈P,D.names.lookup x=some .local \/D.names.lookup x=some .cell:=by decide+kernel)(g:∀y∈D.names,y.2≠ .free:=by decide+kernel):Aw N P D:=⟨a,b,c,d,e,f,g⟩
theorem LE{x:Str}:∀ {binds:List (Str×yU)}{m:Str->yW},(∀v,(x,v) ∉ binds)->bindL kindOf binds m x=m x
  |[],_,_=>rfl
  |(n, v) :: r, m, h => by
    unfold bindL;rw[LE λw c=>h w (Z4 _ c)];split
    . have:x≠n:=by rintro rfl;exact h v Z1
      simp[this]
    . rfl
theorem LF{x:Str}:∀ {binds:List (Str×yU)}{m:Str->yW},(∀v,(x,v) ∉ binds)->bindC kindOf binds m x=m x
  |[],_,_=>rfl
  |(n, v) :: r, m, h => by
    unfold bindC;rw[LF λw c=>h w (Z4 _ c)];split
    . rfl
    . have:x≠n:=by rintro rfl;exact h v Z1
      simp[this]
theorem LG{kindOf:Str->Option NameKind}{x:Str}{v:yU}:∀ {P:List Str}{vs:yX}{i:Nat}{m:Str->yW},P.Nodup->P[i]? =some x->vs[i]? =some v->kindOf x=some .local ->
  bindL kindOf (P.zip vs) m x=some v
 |[],_,_,_,_,h,_,_=>by simp at h
 |_::_,[],_,_,_,_,h,_=>by simp at h
 |p::P,w::vs,0,m,nd,h1,h2,hk=>by
  simp at h1 h2;subst h1;subst h2;show bindL kindOf ((p,w)::P.zip vs) m p=_;unfold bindL;rw[LE λv c=>(eI.mp nd).1 (bj c).1,YR hk];simp
 |p::P,w::vs,i+1,m,nd,h1,h2,hk=>by
  show bindL kindOf ((p,w)::P.zip vs) m x=_;unfold bindL;exact LG (i:=i) (eI.mp nd).2 (by simpa using h1) (by simpa using h2) hk
theorem LH{kindOf:Str->Option NameKind}{x:Str}{v:yU}:∀ {P:List Str}{vs:yX}{i:Nat}{m:Str->yW},P.Nodup->P[i]? =some x->vs[i]? =some v->kindOf x≠some .local ->
  bindC kindOf (P.zip vs) m x=some v
 |[],_,_,_,_,h,_,_=>by simp at h
 |_::_,[],_,_,_,_,h,_=>by simp at h
 |p::P,w::vs,0,m,nd,h1,h2,hk=>by
  simp at h1 h2;subst h1;subst h2;show bindC kindOf ((p,w)::P.zip vs) m p=_;unfold bindC;rw[LF λv c=>(eI.mp nd).1 (bj c).1,YN hk];simp
 |p::P,w::vs,i+1,m,nd,h1,h2,hk=>by
  show bindC kindOf ((p,w)::P.zip vs) m x=_;unfold bindC;exact LH (i:=i) (eI.mp nd).2 (by simpa using h1) (by simpa using h2) hk
def start(N:List Str)(vs:List V):St:=vs.map some++List.replicate (N.length-vs.length) none
def B0(CX:CD)(P:yP)(w:yN)(K:Fgx)(mg:Str->yW)(base:Heap)(N:List Str)(qual:Str)(scope:Scope)(f:yR)(cd:yU)(A:yO)(outer:List Env)(s:yS)(H:Hp)(E:XK):Cx where
 prog:=P
 w:=w
 K:=K
 mg:=mg
 base:=base
 A:=A.deeper (envOfC qual scope s.heap.objs.size f cd)
 N:=N
 s₀:=s
 H₀:=H
 env:=envOfC qual scope s.heap.objs.size f cd
 outer:=outer
 stack:=envOfC qual scope s.heap.objs.size f cd::outer
 ex:=[]
 calm:=true
 fn:=λ_=>true
 pn:=[]
 xe:=λe D=>wpAny (model P w) (A.deeper (envOfC qual scope s.heap.objs.size f cd)) (leaving (envOfC qual scope s.heap.objs.size f cd) e) (λ_ c=>CX outer H s E e c) (λg c=>CX outer H s E g c) D
theorem LJ{g:Scope}{n:Nat}{x:Str}(h:g.names.lookup x=some .cell):∃c,(cellsFrom n g.names []).lookup x=some c:=by
 have q:=PySem.W.cellsFrom_some g.names n [] (.inl h);exact aO.mp q
theorem LK{CX:CD}{w:yN}{K:Fgx}{mg:Str->yW}{base:Heap}{N G:List Str}{f:yR}{cd:yU}{A:yO}{outer:List Env}{s s1:yS}{H:Hp}{E:XK}
  (S:Aw N G scope) (hd:A.handled=none) (D:CF P w K mg base A outer s H) (hl:vs.length=G.length) (r:At vs us)
  (x:InCallC s s.heap.objs.size (bindL (envOfC qual scope s.heap.objs.size f cd).kindOf (G.zip us) λ_=>none) (cellsFrom (s.heap.objs.size+1) scope.names []) (bindC (envOfC qual scope s.heap.objs.size f cd).kindOf (G.zip us) λ_=>none) s1):
  Ad (B0 CX P w K mg base N qual scope f cd A outer s H E) [] (start N vs) H s1:=by
 have i4:G.length<=N.length:=by have:=Zv List.length S.pre;rw[YW]at this;lia
 obtain⟨Z,tk,rfl,hk⟩:=x.done;have I:∀b:yR,b ∉(B0 CX P w K mg base N qual scope f cd A outer s H E).ex:=λb z=>absurd (show b∈([]:List yR) from z) (by simp)
 refine⟨⟨D.mod,S.kind,rfl,rfl,Y4 _,λy z c Z g=>?_,λy J=>?_,λy c _ h=>?_,λ_=>hd,cD D.frames,.inr ⟨rfl,rfl⟩,λb z=>absurd z (I b),D.bs,D.bsz,λb _ _=>I b,λb z=>absurd z (I b),D.funs,D.frf⟩,
  rfl,D.bare,Un.kept hk,⟨_,x.toInCall.ns,λi y v Z g h3=>?_⟩,λy c h=>⟨_,x.cell y c h⟩,D.hok.fresh (Y4 _),λy c h=>?_,λp L=>absurd (show p∈([]:PNs) from L) (by simp),D.hok.kept hk,?_⟩
 .exact name_of_addr x.apart (PySem.mem_of_lookup Z) (PySem.mem_of_lookup g)
 .have J:scope.names.lookup y=some .cell\/scope.names.lookup y=some .free:=J;rcases J with J | J
  .exact LJ J
  .exact absurd rfl (S.nofree _ (PySem.mem_of_lookup J))
 .exact ZO (x.above y c (PySem.mem_of_lookup h))
 .have hi:i<vs.length:=by
   unfold start at g
   by_cases hi:i<vs.length
   .exact hi
   .rw[aG (by simpa using hi)]at g;rw[dN]at g;split at g<;>cases g
  have ha:vs[i]? =some v:=by
   unfold start at g;rw[aq (by simpa using hi),YO]at g;cases e:vs[i]? with
   |none=>rw[e]at g;cases g
   |some a=>rw[e]at g;cases g;rfl
  obtain⟨u,hu,rv⟩:=r.get ha;have L:G[i]? =some y:=by
   rw[<-S.pre,List.getElem?_take_of_lt (by lia)];exact Z
  have O:G.Nodup:=by rw[<-S.pre];exact S.nd.sublist (List.take_sublist _ _)
  refine⟨u,rv,?_⟩;rcases S.par y (YU L) with k | k
  .exact .inl ⟨k,LG O L hu k⟩
  .obtain⟨c,e⟩:=LJ (n:=s.heap.objs.size+1) k;refine .inr ⟨.inl k,c,e,?_⟩;have q:=x.cell y c e;rw[LH O L hu (by show scope.names.lookup y≠_;rw[k];decide)]at q;exact q
 .exact D.hok.fresh (ZO (x.above y c (PySem.mem_of_lookup h)))
 .unfold start;show _=N.length;rw[Z7,Y0,Zw];lia
theorem Ha{CX:CD}{w:yN}{K:Fgx}{mg:Str->yW}{base:Heap}{k:Nat}{f:yR}{name:Str}{c:Arguments}{body:List Stmt}{dV kV O pm dl ct oc:yU}{an od:Option yR}
  {i6:Array (yW)}{N ps:List Str}{sp:Sp} (lk:K.lookup f=some ⟨oc,od,.func (PySem.W.fnOf name qual c body scope dV kV O pm an dl ct),i6⟩) (i5:PySem.W.codeIn K dl qual=true) (S:Aw N ps scope)
  (len:∀vs H Q E,sp vs H Q E->vs.length=ps.length)
  (D : ∀ (A : yO) (outer : List Env) (s : yS) (H : Hp) (vs : List V) (Q : VK) (E : XK), AQ k (A.deeper (envOfC qual scope s.heap.objs.size f dl)) -> sp vs H Q E ->
   ∃t,PSs (B0 CX P w K mg base N qual scope f dl A outer s H E) body t/\t { nx:=λ_ H'=>Q .non H',rt:=Q} (start N vs) H):
  BV P w K mg base CX (k+1) f (PySem.W.fnOf name qual c body scope dV kV O pm an dl ct) ps sp:=by
 refine⟨len,λA outer s H args us vs Q E hr Z hb r i4=>?_⟩;have hl:=len _ _ _ _ i4;have KX:K.In s.heap:=Z.mod.kin.keeps λb o e=>(Z.bs b o e).1
 have i7:s.heap.NoLimit:=Z.mod.nolimit.keeps λb o e=>(Z.bs b o e).1
 have G:∀y∈ps.zip us,scope.names.lookup y.1=some .local \/(scope.names.lookup y.1=some .cell/\((cellsFrom (s.heap.objs.size+1) scope.names []).lookup y.1).isSome=true):=fun⟨n,v⟩ hy=>by
  rcases S.par n (bj hy).1 with q | q
  .exact .inl q
  .exact .inr ⟨q,PySem.W.cellsFrom_some _ _ _ (.inl q)⟩
 refine et hr.depth (KX _ _ lk) rfl S.co S.gen rfl (PySem.W.codeRec_of KX i5) (hb _ _ _ _ ?_);refine da S.kind G λenv he s1 x=>?_
 subst he;refine⟨i7.keeps x.toInCall.keep,codeAny_func ?_⟩;obtain⟨t,ht,hq⟩:=D A outer s H vs Q E (hr.deeper _) i4;have I:Ad (B0 CX P w K mg base N qual scope f dl A outer s H E) [] (start N vs) H s1:=LK S hr.hd Z hl r x;refine Z9 (ht [] s1 (start N vs) H _ I hq) (λfl s' L=>?_) λe s' L=>L
 have fin:∀ {g:St}{H':Hp}{v:V}{u:yU},Ad (B0 CX P w K mg base N qual scope f dl A outer s H E) [] g H' s'->Az v u->Q v H'->CE outer P w H s Q u s':=
  λ{g H' v u} J rv q=>⟨v,H',J.os,J.bare,J.base,J.hok,rv,q⟩
 cases fl with
 |ret u=>
  obtain⟨v,g,H',J,rv,q⟩:=L;exact fin J rv q
 |next=>
  obtain⟨g,H',J,q⟩:=L;exact fin (v:=V.non) (u:=Value.none) J rfl q
 |brk=>
  obtain⟨_,_,_,q⟩:=L;exact False.elim q
 |cont=>
  obtain⟨_,_,_,q⟩:=L;exact False.elim q
end L2
namespace L2
variable{X:Cx}{x:Str}{p pos:Pos}{e:yL}{es:List yL}{t:TA}{id T:String}{r:List V -> Hp -> VK -> Prop}
def Jw(r:List V->Hp->VK->Prop)(t:TA):TE:=fun c H Q=>t c H λD g=>r D g Q
theorem Ax(hc:BJ X (.builtin id) r)(D:Gl X x)(G:X.mg x=none)(hv:bootBuiltins x=some (.builtin id))(L:PA X (e::es) t)(hn:autoParam (x≠ "__name__") o3)(hdb:autoParam ((x==("__debug__" :Str))=false) o3)
  (J:autoParam (starEach (e::es) X.env=(false,eval e X.env)::starEach es X.env) j2) (c:autoParam ((backTo pos (starEach es X.env)).any (·.1)=false) j2):PE X (.Call (.Name x p) (e::es) [] pos) (Jw r t):=by
 intro ad s g H Q I h;refine ZN (CN I D G hv ?_ hn hdb);exact PyProof.Rows.callWith_builtin1 (An (L pos ad s g H _ I h) λus s1 ⟨vs,H1,Z,O,q1⟩=>hc ad s1 g H1 vs us Q Z O q1) J c
theorem BI(hc:BJ X (.type T) r)(D:Gl X x)(G:X.mg x=none)(hv:bootBuiltins x=some (.type T))(L:PA X (e::es) t)(hn:autoParam (x≠ "__name__") o3)(hdb:autoParam ((x==("__debug__" :Str))=false) o3)
  (J:autoParam (starEach (e::es) X.env=(false,eval e X.env)::starEach es X.env) j2) (c:autoParam ((backTo pos (starEach es X.env)).any (·.1)=false) j2):PE X (.Call (.Name x p) (e::es) [] pos) (Jw r t):=by
 intro ad s g H Q I h;refine ZN (CN I D G hv ?_ hn hdb);exact Zi (An (L pos ad s g H _ I h) λus s1 ⟨vs,H1,Z,O,q1⟩=>hc ad s1 g H1 vs us Q Z O q1) J c
end L2
namespace HT
open PySem PyProof.Rows
variable{sl:yR}{vl vu:yU}
variable{prog:yP}{w:yN}{A:yO}{E:yY}{s:yS}
def sIx(n d:Nat):Option Int->Nat
 |none=>d
 |some v=>if v<0 then(v+(n:Int)).toNat else min v.toNat n
theorem sIx_none(n d:Nat):sIx n d none=d:=rfl
theorem sIx_nat(n d k:Nat):sIx n d (some (k:Int))=min k n:=by
 show(if (k:Int)<0 then((k:Int)+(n:Int)).toNat else min (k:Int).toNat n)=min k n;rw[YN (by lia),aX]
theorem QN(n d:Nat)(hd:d<=n)(o:Option Int):sIx n d o<=n:=by
 cases o with
 |none=>exact hd
 |some v=>
  show(if v<0 then(v+(n:Int)).toNat else min v.toNat n)<=n
  by_cases c:v<0
  .rw[YR c];lia
  .rw[YN c];exact Nat.min_le_right _ _
theorem LL(v:Int)(n d:Nat):(if v<0 then max (v+(n:Int)) 0 else min v (n:Int))=((sIx n d (some v):Nat):Int):=by
 show(if v<0 then max (v+(n:Int)) 0 else min v (n:Int))=(((if v<0 then(v+(n:Int)).toNat else min v.toNat n):Nat):Int)
 by_cases c:v<0
 .simp only[YR c];lia
 .simp only[YN c];lia
theorem QO(lo hi:Option Int)(n:Nat):Builtin.Slice.sliceAdjust lo hi 1 (n:Int)=(((sIx n 0 lo:Nat):Int),((sIx n n hi:Nat):Int)):=by
 have c:¬((1:Int)<0):=by lia
 unfold Builtin.Slice.sliceAdjust;simp only[c,bo];refine Prod.ext ?_ ?_
 .cases lo with
  |none=>rfl
  |some v=>exact LL v n 0
 .cases hi with
  |none=>rfl
  |some v=>exact LL v n n
theorem QP(i j:Nat):Builtin.Slice.slicePlaces (i:Int) (j:Int) 1=j-i:=by
 unfold Builtin.Slice.slicePlaces;have c:(1:Int) >0:=by lia
 simp only[c,aS,eY];split<;>lia
theorem LM{v:yU}{o:Option Int}{Q:Option Int->yS->Prop}(p:IsPart v o)(h:Q o s):wpAny (model prog w) A (Builtin.Slice.slicePartIndex v) Q E s:=by
 cases p with
 |none=>exact slicePart_none h
 |int i t=>exact slicePart_int h
theorem sliceApplied_gen{lo hi:Option Int}{n:Nat}{Q:Int×Int×Nat->yS->Prop}(G:s.heap.IsSliceOf sl vl vu .none)(pl:IsPart vl lo)(D:IsPart vu hi)
  (h:Q (((sIx n 0 lo:Nat):Int),1,sIx n n hi-sIx n 0 lo) s):wpAny (model prog w) A (Builtin.Slice.sliceApplied (.ref sl) (pure (n:Int))) Q E s:=by
 obtain⟨os,c,I,g⟩:=id G;unfold Builtin.Slice.sliceApplied Builtin.Slice.sliceFields;refine Y1 (Y1 (ZJ c g (x:=vl) rfl (Y1 (ZJ c g (x:=vu) rfl (Y1 (ZJ c g (x:= .none) rfl (Y6 ?_)))))));refine Y1 (slicePart_none ?_);show wpAny _ _ (if ((1:Int)==0)=true then _ else _) _ _ s;rw[YN (by decide)];refine Y1 (LM pl (Y1 (LM D (Y1 (Y6 ?_)))));show wpAny _ _ (match Builtin.Slice.sliceAdjust lo hi 1 (n:Int) with | (lo,hi)=>pure (lo,(1:Int),Builtin.Slice.slicePlaces lo hi 1)) _ _ s;rw[QO lo hi n];show wpAny _ _ (pure (((sIx n 0 lo:Nat):Int),(1:Int),Builtin.Slice.slicePlaces ((sIx n 0 lo:Nat):Int) ((sIx n n hi:Nat):Int) 1)) _ _ s;rw[QP];exact Y6 h
theorem QQ(xs:Array yU)(i k:Nat):((List.range k).filterMap fun(m:Nat)=>xs[((i:Int)+(m:Int) * 1).toNat]?).toArray=((xs.toList.drop i).take k).toArray:=by
 have e:(fun(m:Nat)=>xs[((i:Int)+(m:Int) * 1).toNat]?)=λm=>xs[i+m]? :=by
  funext m
  have:((i:Int)+(m:Int) * 1).toNat=i+m:=by lia
  rw[this]
 rw[e];have:=pick_run xs i k;rw[List.filterMap_map]at this;have c:((λx=>xs[x]?) ∘λx=>i+x)=λm=>xs[i+m]? :=rfl
 rw[c]at this;rw[this]
theorem getItem_tuple_cut{t:yR}{items:Array yU}{lo hi:Option Int}{Q:VSP}(g:IsTup s.heap t items)(L:s.heap.IsSliceOf sl vl vu .none)(pl:IsPart vl lo)(Z:IsPart vu hi)
  (hw:¬(sIx items.size 0 lo=0/\sIx items.size items.size hi=items.size))
  (h:Q (.ref s.heap.objs.size) { s with heap:=s.heap.push { cls:= .type "tuple",data:= .seq ((items.toList.drop (sIx items.size 0 lo)).take (sIx items.size items.size hi-sIx items.size 0 lo)).toArray}})
  (hsz:items.size<=sizeLine):wpAny (model prog w) A (getItem (.ref t) (.ref sl)) Q E s:=by
 have c:sizeOk (.seq ((items.toList.drop (sIx items.size 0 lo)).take (sIx items.size items.size hi-sIx items.size 0 lo)).toArray):=by
  show((items.toList.drop (sIx items.size 0 lo)).take (sIx items.size items.size hi-sIx items.size 0 lo)).toArray.size<=sizeLine;rw[Z2,YW,Zs,cM];lia
 have hj:sIx items.size items.size hi<=items.size:=QN _ _ (Y4 _) hi;obtain⟨os,I,D,O⟩:=id L;have G:s.TypeIs (.ref sl) "slice" :=⟨os,I,D⟩;unfold getItem
 try with_reducible refine ZD ?_
 first | refine Y1 (Y6 ?_) | skip
 refine Y1 (wpAny_sequenceKey g.typeIs (by decide) ?_);refine Y1 (ZB (name:=Str.ofString "__getitem__") g.typeIs ZP
  (ZZ ZP g.typeIs entry_tuple_getitem ?_ (args_tuple_getitem _ _)))
 show wpAny _ _ (Builtin.Tuple.tupleItemsOf (.ref t) >>=_) _ _ s;refine Y1 (eO g ?_);refine Y1 (dy G ?_);rw[YR (by decide)];refine Y1 (sliceApplied_gen L pl Z ?_);have J:¬((((sIx items.size 0 lo:Nat):Int)==0 &&(1:Int)==1 &&(sIx items.size items.size hi-sIx items.size 0 lo)==items.size)=true):=by
  intro q;rw[Zj,Zj]at q;have q1:((sIx items.size 0 lo:Nat):Int)=0:=eZ q.1.1;have q2:sIx items.size items.size hi-sIx items.size 0 lo=items.size:=eZ q.2;exact hw ⟨by lia,by lia⟩
 show wpAny _ _ (if (((sIx items.size 0 lo:Nat):Int)==0 &&(1:Int)==1 &&(sIx items.size items.size hi-sIx items.size 0 lo)==items.size)=true then _ else _) _ _ s;rw[YN J,QQ]
 first
  |exact Y1 (m:=Builtin.Tuple.tupleExact _) (Zy (Y6 ⟨_,rfl,Y6 h⟩) c)
  |exact Y1 (m:=Builtin.Tuple.tupleExact _) (Zy (Y1 (Y6 (Y6 ⟨_,rfl,Y6 h⟩))) c)
  |exact Y1 (Y1 (m:=Builtin.Tuple.tupleExact _) (Zy (Y6 (Y6 ⟨_,rfl,Y6 h⟩)) c))
  |exact Y1 (Y1 (m:=Builtin.Tuple.tupleExact _) (Zy (Y6 ⟨_,rfl,Y6 h⟩) c))
end HT
namespace L2
abbrev TO:=St->Hp->(Option Int->Hp->Prop)->Prop
def PO(X:Cx)(e:Option yL)(t:TO):Prop:=
 ∀(ad:PNs) (s:yS) (c:St) (H:Hp) (Q:Option Int->Hp->Prop),Ad X ad c H s->t c H Q->
  wpAny (model X.prog X.w) X.A (evalPart e X.env) (λu D=>∃o g,Ad X ad c g D/\IsPart u o/\Q o g) X.xe s
def LN:TO:=λ_ H Q=>Q none H
def LO(t:TE):TO:=fun c H Q=>t c H λx g=>∃i,x= .int i/\Q (some i) g
theorem QR{ns:yV}:∀ {us:yX},At (ns.map V.int) us->IntsAre us ns:=by
 induction ns with
 |nil=>intro us r;rw[eB]at r;cases r;exact .nil
 |cons n ns ih=>
  intro us r;rw[ZA]at r;cases r with
  |cons r1 r2=>
   obtain⟨t,e⟩:=r1;subst e;exact .cons n t (ih r2)
variable{X:Cx}{e:yL}{te:TE}{lo hi:Option yL}{tl th:TO}{pos p2:Pos}
theorem EG:PO X none LN:=by
 intro ad s c H Q I h;rw[eQ];exact Y6 ⟨none,H,I,.none,h⟩
theorem Co(h:PE X e te):PO X (some e) (LO te):=by
 intro ad s O H Q I L;rw[evalPart_some];refine An (h ad s O H _ I L) λu s1 G=>?_
 obtain⟨x,J,g,c,D⟩:=G;obtain⟨i,rfl,q⟩:=D;obtain⟨t,rfl⟩:=c;exact⟨some i,J,g,.int i t,q⟩
def Hb(X:Cx)(r:V->Option Int->Option Int->Hp->VK->Prop):Prop:=
 ∀(ad:PNs) (s:yS) (c:St) (H:Hp) (x:V) (v G g:yU) (lo hi:Option Int) (D:yR) (Q:VK),Ad X ad c H s->Az x v->s.heap.IsSliceOf D G g .none->IsPart G lo->IsPart g hi->r x lo hi H Q->
  ∃T id,typeLookup (.type T) "__getitem__"=pure (some (.builtin id))/\s.TypeIs v T/\wpAny (model X.prog X.w) X.A (getItem v (.ref D)) (EP X ad c Q) X.xe s
def LP(r:V->Option Int->Option Int->Hp->VK->Prop)(L:TE)(D I:TO):TE:=fun c H Q=>L c H λx J=>D c J λl g=>I c g λu G=>r x l u G Q
theorem Dj{r:V->Option Int->Option Int->Hp->VK->Prop}(O:Hb X r)(he:PE X e te)(hl:PO X lo tl)(hu:PO X hi th):PE X (.Subscript e (.Slice lo hi none p2) pos) (LP r te tl th):=by
 intro ad s g H Q I h;refine eK (An (he ad s g H _ I h) λv s1 J=>?_);obtain⟨x,H1,I1,r1,q1⟩:=J;refine wpAny_Slice (An (hl ad s1 g H1 _ I1 q1) λG s2 ⟨l,H2,I2,pl,q2⟩=>An (hu ad s2 g H2 _ I2 q2) λD c J=>?_);obtain⟨u,L,I3,pu,q3⟩:=J;rw[eQ];refine Y6 ?_;have I4:Ad X ad g L { c with heap:=c.heap.push { cls:= .type "slice",data:= .fields #[G,D,.none]}}:=I3.kept (t':=c.toks) λb ob q=>Y2 _ q
 obtain⟨T,id,hT,ht,Z⟩:=O ad { c with heap:=c.heap.push { cls:= .type "slice",data:= .fields #[G,D,.none]}} g L x v G D l u c.heap.objs.size Q I4 r1 (Heap.IsSliceOf.new ..) pl pu q3;show wpAny (model X.prog X.w) X.A (subscriptTail e (.Slice lo hi none p2) v (.ref c.heap.objs.size)) (EP X ad g Q) X.xe { c with heap:=c.heap.push { cls:= .type "slice",data:= .fields #[G,D,.none]}};exact tail_any (ops:=[.ref c.heap.objs.size,v]) ht hT Z (by with_unfolding_all rfl)
def A4(xs:List V)(lo hi:Option Int):List V:=(xs.drop (HT.sIx xs.length 0 lo)).take (HT.sIx xs.length xs.length hi-HT.sIx xs.length 0 lo)
theorem Jx(xs:List V)(lo hi:Option Int):(A4 xs lo hi).length<=xs.length:=by
 unfold A4;rw[YW,Zs];lia
end L2
namespace L2
variable{i:Int}{j:Nat}{α:Type}{xs:List α}{ad:List (yR × Obj)}{σ:St}{H:Hp}{s:yS}{p:yR}{y:V}{u:yU}
def CW(n:Nat)(i:Int):Option Nat:=if 0<=i then(if i<n then some i.toNat else none) else if -(n:Int)<=i then some (i+n).toNat else none
def Ce{c:Type}(xs:List c)(i:Int):Option c:=(CW xs.length i).bind λj=>xs[j]?
theorem LQ{n:Nat}(h:CW n i=some j):seqIndex? i n=some j/\j<n/\ -(n:Int)<=i/\i<n:=by
 unfold CW at h
 by_cases h0:0<=i
 .rw[YR h0]at h
  by_cases c:i<n
  .rw[YR c]at h;have e:i.toNat=j:=Y9 h;exact⟨by rw[seqIndex_of h0 c,e],by lia,by lia,c⟩
  .rw[YN c]at h;cases h
 .rw[YN h0]at h
  by_cases c: -(n:Int)<=i
  .rw[YR c]at h;have e:(i+n).toNat=j:=Y9 h;exact⟨by rw[f7 (by lia) c,e],by lia,c,by lia⟩
  .rw[YN c]at h;cases h
theorem LR{v:α}(h:Ce xs i=some v):∃j,seqIndex? i xs.length=some j/\xs[j]? =some v/\j<xs.length/\ -(xs.length:Int)<=i/\i<xs.length:=by
 unfold Ce at h;cases e:CW xs.length i with
 |none=>rw[e]at h;cases h
 |some j=>
  rw[e]at h;obtain⟨D,g,c,h4⟩:=LQ e;exact⟨j,D,h,g,c,h4⟩
theorem DB{v:α}(h:xs[j]? =some v):Ce xs (j:Int)=some v:=by
 have c:j<xs.length:=(Y3.mp h).1;have e:CW xs.length (j:Int)=some j:=by
  unfold CW;rw[YR (by lia),YR (by lia)];simp
 unfold Ce;rw[e];exact h
theorem LS(xs:List α)(v:α):Ce (xs++[v]) (-1)=some v:=by
 have c:(xs++[v]).length=xs.length+1:=by simp
 have e:CW (xs++[v]).length (-1)=some xs.length:=by
  unfold CW;rw[c,YN (by decide),YR (by lia)]
  congr 1
  lia
 unfold Ce;rw[e];show(xs++[v])[xs.length]? =some v;simp
def QS(b:yL):Prop:=∀o i,subscripted b false o i=operate [o,i] (getItem o i)
def FZ(X:Cx)(r:R2):Prop:=
 ∀(g c:yL) (ad:PNs) (s:yS) (D:St) (H:Hp) (x y:V) (v u:yU) (Q:VK),Ad X ad D H s->Az x v->Az y u->r x y H Q->
  subscripted c false v u=operate [v,u] (getItem v u)->wpAny (model X.prog X.w) X.A (subscriptTail g c v u) (EP X ad D Q) X.xe s
def Hc(X:Cx)(id:String)(r:V->List V->Hp->VK->Prop):Prop:=
 ∀(ad:PNs) (s:yS) (c:St) (H:Hp) (x:V) (D:List V) (v:yU) (g:yX) (Q:VK),Ad X ad c H s->Az x v->At D g->r x D H Q->
  wpAny (model X.prog X.w) X.A (call (.builtin id) (v::g)) (EP X ad c Q) X.xe s
variable{X:Cx}{a b:yL}{ta tb:TE}{pos:Pos}
theorem AH{r:R2}(g:FZ X r)(D:PE X a ta)(L:PE X b tb)(O:QS b):PE X (.Subscript a b pos) (Dv r ta tb):=by
 intro ad s Z H Q I h;exact eK (Jn D L I h λv u s2 x y H2 G J c q=>g a b ad s2 Z H2 x y v u Q G J c q (O _ _))
def Jy(K:Fgx):R2:=λx y H Q=>∃p c i v,x= .ref p/\y= .int i/\Al K H p c/\Ce c i=some v/\Q v H
def LT(K:Fgx):R2:=λx y H Q=>∃p c i v,x= .ref p/\y= .int i/\Ae K H p c/\Ce c i=some v/\Q v H
theorem QT:FZ X (Jy X.K):=by
 intro D L ad s Z H x y v u Q I rx ry h O;obtain⟨p,xs,i,z,rfl,rfl,hq,he,q⟩:=h;cases rx;obtain⟨t,rfl⟩:=ry;obtain⟨J,r,pl,hz⟩:=I.list hq;obtain⟨j,c,h2,h3,h4,h5⟩:=LR he;obtain⟨w,ew,G⟩:=r.get h2;have hl:=r.length;have hn:=FY;have fin:EP X ad Z Q w s:=⟨z,H,I,G,q⟩
 by_cases h0:0<=i
 .have g:i.toNat=j:=by
   rw[seqIndex_of h0 h5]at c;exact Y9 c
  exact item_listR pl.isList h0 (by lia) (by rw[g];simpa using ew) fin O
 .have g:(i+(J.toArray.size:Int)).toNat=j:=by
   rw[f7 (by lia) h4]at c;rw[Z2,<-hl];exact Y9 c
  exact dY (x:=w) pl.isList.typeIs dh.lookup
   (wpAny_getItem_list_neg (Q:=λr s'=>r=w/\EP X ad Z Q r s') pl.isList (by lia) (by rw[Z2]<;>lia) (by lia) (by rw[g];simpa using ew) ⟨rfl,fin⟩) O
theorem QU:FZ X (LT X.K):=by
 intro c D ad s G H x y v u Q I rx J h hs;obtain⟨p,xs,i,z,rfl,rfl,hq,L,q⟩:=h;cases rx;obtain⟨t,rfl⟩:=J;obtain⟨i4,r,pl,hz⟩:=I.tuple hq;obtain⟨j,h1,h2,h3,h4,h5⟩:=LR L;obtain⟨w,ew,g⟩:=r.get h2;have O:=r.length;have hn:=FY;have fin:EP X ad G Q w s:=⟨z,H,I,g,q⟩;exact dY (x:=w) pl.typeIs slot_tuple_getitem.lookup
  (getItem_tuple (j:=j) (Q:=λr Z=>r=w/\EP X ad G Q r Z) pl (by lia) (by lia) (by rw[Z2,<-O];exact h1) (by simpa using ew) ⟨rfl,fin⟩) hs
theorem QV(c:yX)(n j:Nat)(u:yU):Obj.mapSeq (·.setIfInBounds j u) { cls:= .type "list",data:= .seq c.toArray n}= { cls:= .type "list",data:= .seq (c.set j u).toArray n}:=by
 simp[Obj.mapSeq]
theorem Ad.lst{xs:List V}(I:Ad X ad σ H s)(h:H p=some (.lst xs)):
  ∃(c:yX) (n:Nat),At xs c/\s.heap.get? p=some { cls:= .type "list",data:= .seq c.toArray n}/\xs.length<=sizeLine:=by
 obtain⟨z,c,n,r,e⟩:=I.hok p _ h;exact⟨c,n,r,e,z⟩
theorem Ad.lstUpd{xs ys:List V}{c its':yX}{n g:Nat}{f:Obj->Obj}(I:Ad X ad σ H s)(h:H p=some (.lst xs))
  (G:s.heap.get? p=some { cls:= .type "list",data:= .seq c.toArray n}) (D:f { cls:= .type "list",data:= .seq c.toArray n}= { cls:= .type "list",data:= .seq its'.toArray g}) (r:At ys its') (hz:ys.length<=sizeLine) (t:Nat):
  Ad X ad σ (upd H p (.lst ys)) { s with heap:=s.heap.update p f,toks:=t}:=by
 have e:(s.heap.update p f).get? p=some { cls:= .type "list",data:= .seq its'.toArray g}:=by
  rw[Zp f G (by rw[D]<;>rfl),D]
 refine I.write (x:=p) (e:=p) (by rw[h];trivial) (.inl rfl) (λb u J q=>(Zl _ _ (Zo J)).trans q) ⟨_,e⟩ ?_;exact⟨hz,its',g,r,e⟩
def QW:V->V->V->Hp->(Hp->Prop)->Prop:=λo i v H Q=>∃p c k j,o= .ref p/\i= .int k/\H p=some (.lst c)/\CW c.length k=some j/\Q (upd H p (.lst (c.set j v)))
theorem Hd:Ji X QW:=by
 intro ad s σ H o i v ov iv u Q I ro ri rv h;obtain⟨p,xs,k,j,rfl,rfl,L,hj,q⟩:=h;cases ro;obtain⟨t,rfl⟩:=ri;obtain⟨c,n,r,G,hz⟩:=I.lst L;obtain⟨g,h2,O,h4⟩:=LQ hj;have D:=r.length;have hn:=FY;have Z:Ad X ad σ (upd H p (.lst (xs.set j v))) { s with heap:=s.heap.update p (Obj.mapSeq (·.setIfInBounds j u))}:=
  I.lstUpd L G (QV c n j u) (r.set rv j) (by rw[dq];exact hz) s.toks
 by_cases h0:0<=k
 .have J:k.toNat=j:=by
   rw[seqIndex_of h0 h4]at g;exact Y9 g
  exact PySem.W.ki_setAt G h0 (by lia) (by rw[Z2,<-D];exact h4) (by rw[J];exact⟨_,Z,q⟩)
 .have J:(k+(c.toArray.size:Int)).toNat=j:=by
   rw[f7 (by lia) O]at g;rw[Z2,<-D];exact Y9 g
  exact PySem.W.ki_setBack G (by lia) (by rw[Z2,<-D];exact O) (by lia) (by rw[J];exact⟨_,Z,q⟩)
theorem QX(lo hi:Option Int)(n:Nat):(sliceBounds lo hi none n).1=((HT.sIx n 0 lo:Nat):Int)/\(sliceBounds lo hi none n).2.1=((HT.sIx n n hi:Nat):Int)/\(sliceBounds lo hi none n).2.2=1:=by
 refine⟨?_,?_,rfl⟩
 .cases lo with
  |none=>simp[sliceBounds,HT.sIx]
  |some i=>
   simp only[sliceBounds,HT.sIx,Option.getD_none,show(1:Int) >0 by decide,aS]
   by_cases h:i<0
   .simp only[h,aS]<;>lia
   .simp only[h,bo]<;>lia
 .cases hi with
  |none=>simp[sliceBounds,HT.sIx]
  |some i=>
   simp only[sliceBounds,HT.sIx,Option.getD_none,show(1:Int) >0 by decide,aS]
   by_cases h:i<0
   .simp only[h,aS]<;>lia
   .simp only[h,bo]<;>lia
theorem QY(c:yX)(lo hi:Option Int):slicePick c.toArray lo hi none=((c.drop (HT.sIx c.length 0 lo)).take (HT.sIx c.length c.length hi-HT.sIx c.length 0 lo)).toArray:=by
 obtain⟨G,D,g⟩:=QX lo hi c.toArray.size;unfold slicePick;rw[G,D,g];simp only[sliceRange_one,pick_run,Z2]<;>rfl
def LU(K:Fgx):V->Option Int->Option Int->Hp->VK->Prop:=λx lo hi H Q=>∃a c,x= .ref a/\Al K H a c/\∀p,H p=none->Q (.ref p) (upd H p (.lst (A4 c lo hi)))
theorem QZ:Hb X (LU X.K):=by
 intro ad s σ H x v vl vu lo hi sl Q I G L pl J h;obtain⟨a,c,rfl,O,q⟩:=h;cases G;obtain⟨Z,r,D,hz⟩:=I.list O;have g:=r.length;refine⟨"list",_,dh.lookup,D.isList.typeIs,?_⟩;refine dz D.isList L pl J .none (by simp) ?_ (by rw[Z2]<;>lia);rw[QY,<-g];refine⟨.ref s.heap.objs.size,_,I.laid (t':=s.toks) (o:= .lst (A4 c lo hi)) (λb ob q=>Y2 _ q) (Y4 _) ?_,rfl,q _ (I.hok.fresh (Y4 _))⟩;exact⟨YV (Jx c lo hi) hz,_,0,(r.drop (HT.sIx c.length 0 lo)).take (HT.sIx c.length c.length hi-HT.sIx c.length 0 lo),YL _ rfl⟩
def DM:V->Bool
 |.non=>true
 |.bl _=>true
 |.int _=>true
 |.str _=>true
 |_=>false
def Eh:V->V->Bool
 |.non,.non=>true
 |.bl a,.bl b=>a==b
 |.bl a,.int b=>(if a then 1 else 0)==b
 |.int a,.bl b=>a==(if b then 1 else 0)
 |.int a,.int b=>a==b
 |.str a,.str b=>a==b
 |_,_=>false
theorem Q0{A:yO}{x:V}{v:yU}(D:Az y u)(c:Az x v)(I:DM y=true)(G:DM x=true):SeqAt.EqAt A s u v (Eh y x):=by
 cases y with
 |non=>
  cases D;cases x with
  |non=>cases c;exact SeqAt.EqAt.same _
  |bl b=>cases c;exact SeqAt.EqAt.none_bool b
  |int b=>obtain⟨t,rfl⟩:=c;exact SeqAt.EqAt.none_int b t
  |str b=>obtain⟨t,rfl⟩:=c;exact SeqAt.EqAt.none_str b t
  |_=>exact absurd (show false=true from G) YT
 |bl a=>
  cases D;cases x with
  |non=>cases c;exact SeqAt.EqAt.bool_none a
  |bl b=>cases c;exact SeqAt.EqAt.bool_bool a b
  |int b=>obtain⟨t,rfl⟩:=c;exact SeqAt.EqAt.bool_int a b t
  |str b=>obtain⟨t,rfl⟩:=c;exact SeqAt.EqAt.bool_str a b t
  |_=>exact absurd (show false=true from G) YT
 |int a=>
  obtain⟨g,rfl⟩:=D;cases x with
  |non=>cases c;exact SeqAt.EqAt.int_none a g
  |bl b=>cases c;exact SeqAt.EqAt.int_bool a g b
  |int b=>obtain⟨t,rfl⟩:=c;exact SeqAt.EqAt.int_int a g b t
  |str b=>obtain⟨t,rfl⟩:=c;exact SeqAt.EqAt.int_str a g b t
  |_=>exact absurd (show false=true from G) YT
 |str a=>
  obtain⟨g,rfl⟩:=D;cases x with
  |non=>cases c;exact SeqAt.EqAt.str_none a g
  |bl b=>cases c;exact SeqAt.EqAt.str_bool a g b
  |int b=>obtain⟨t,rfl⟩:=c;exact cR a g b t
  |str b=>obtain⟨t,rfl⟩:=c;exact SeqAt.EqAt.str_str a g b t
  |_=>exact absurd (show false=true from G) YT
 |_=>exact absurd (show false=true from I) YT
def DN(x:V)(u:yU):Bool:=match u with
 |.none=>Eh .non x
 |.bool b=>Eh (.bl b) x
 |.int i _=>Eh (.int i) x
 |.str z _=>Eh (.str z) x
 |_=>false
theorem LV{x:V}(r:Az y u)(f:DM y=true):DN x u=Eh y x:=by
 cases y with
 |non=>cases r;rfl
 |bl b=>cases r;rfl
 |int i=>obtain⟨t,rfl⟩:=r;rfl
 |str z=>obtain⟨t,rfl⟩:=r;rfl
 |_=>exact absurd (show false=true from f) YT
theorem Jz{x:V}:∀ {xs:List V}{us:yX},At xs us->xs.all DM=true->us.any (DN x)=xs.any λy=>Eh y x
 |_,_,.nil,_=>rfl
 |y::xs,u::us,.cons r t,f=>by
  rw[cO,Zj]at f;rw[aJ,aJ,LV r f.1,Jz t f.2]
theorem JA{A:yO}{x:V}{v:yU}(D:Az x v)(g:DM x=true):∀ {xs:List V}{us:yX},At xs us->xs.all DM=true->∀u∈us,SeqAt.EqAt A s u v (DN x u)
 |_,_,.nil,_=>λu c=>by cases c
 |y::xs,u::us,.cons r t,f=>λG c=>by
  rw[cO,Zj]at f;rcases YY.mp c with rfl | c
  .rw[LV r f.1];exact Q0 r D f.1 g
  .exact JA D g t f.2 G c
def Ei(x:V)(xs:List V):Bool:=xs.any λy=>Eh y x
def LW(K:Fgx)(g:Bool):R2:=λx y H Q=>∃p c,y= .ref p/\(Al K H p c\/Ae K H p c)/\DM x=true/\c.all DM=true/\Q (.bl (if g then !Ei x c else Ei x c)) H
theorem Q1:OpR X (compareOp .In) (LW X.K false):=by
 intro ad s σ H x y v u Q I J L h;obtain⟨p,Z,rfl,g,G,fs,q⟩:=h;cases L;rcases g with g | g
 .obtain⟨c,r,pl,O⟩:=I.list g;refine SeqAt.in_listAt (DN x) pl.isList (λw D=>JA J G r fs w (by simpa using D)) ⟨.bl _,H,I,rfl,?_⟩;rw[show c.toArray.any (DN x)=c.any (DN x) by simp,Jz r fs];exact q
 .obtain⟨c,r,pl,O⟩:=I.tuple g;refine SeqAt.in_tupleAt (DN x) pl (λw D=>JA J G r fs w (by simpa using D)) ⟨.bl _,H,I,rfl,?_⟩;rw[show c.toArray.any (DN x)=c.any (DN x) by simp,Jz r fs];exact q
theorem Q2:BJ X (.builtin "len") (λxs H Q=>∃p ys,xs=[.ref p]/\(Al X.K H p ys\/Ae X.K H p ys)/\Q (.int ys.length) H):=by
 intro ad s σ H xs Z Q I r h;obtain⟨p,ys,rfl,g,q⟩:=h;obtain⟨u,rfl,J⟩:=EF r;cases J;have O:=FY;rcases g with g | g
 .obtain⟨D,G,pl,L⟩:=I.list g;have c:=G.length;exact Calls.call_len_list pl.isList (by simp only[Z2]<;>lia) ⟨.int ys.length,H,I.tok _,⟨s.toks+1,by rw[Z2,c]⟩,q⟩
 .obtain⟨D,G,pl,L⟩:=I.tuple g;have c:=G.length;exact len_tuple pl (by simp only[Z2]<;>lia) ⟨.int ys.length,H,I.tok _,⟨s.toks+1,by rw[Z2,c]⟩,q⟩
theorem Q3:BJ X (.type "list") (λxs H Q=>∃p ys,xs=[.ref p]/\(Al X.K H p ys\/Ae X.K H p ys)/\∀l,H l=none->Q (.ref l) (upd H l (.lst ys))):=by
 intro ad s σ H xs us Q I r h;obtain⟨p,ys,rfl,J,q⟩:=h;obtain⟨u,rfl,rx⟩:=EF r;cases rx;have fin:∀(c:yX),At ys c->ys.length<=sizeLine->∀(g:Heap) (D:Nat),(∀b o',s.heap.get? b=some o'->g.get? b=some o')->
   g.get? s.heap.objs.size=some { cls:= .type "list",dict:=none,data:= .seq c.toArray D,slots:= #[]}->EP X ad σ Q (.ref s.heap.objs.size) { s with heap:=g}:=λc G O g D kp e=>
  ⟨.ref s.heap.objs.size,_,I.laid (t':=s.toks) kp (Y4 _) (show ObjOk X.prog X.w _ g _ (.lst ys) from⟨O,c,D,G,e⟩),rfl,q _ (I.hok.fresh (Y4 _))⟩
 rcases J with J | J
 .obtain⟨c,G,pl,O⟩:=I.list J;have L:=G.length;obtain⟨o,Z,hc,n,hd⟩:=pl.isList;exact call_list_seq p (.inl rfl) Z hc hd (λg D kp e=>fin c G O g D kp e) (by simp only[Z2]<;>lia)
 .obtain⟨c,G,pl,O⟩:=I.tuple J;have L:=G.length;obtain⟨o,Z,hc,n,hd⟩:=pl;exact call_list_seq p (.inr rfl) Z hc hd (λg D kp e=>fin c G O g D kp e) (by simp only[Z2]<;>lia)
theorem Q4:BJ X (.type "tuple") (λxs H Q=>∃p ys,xs=[.ref p]/\((Al X.K H p ys/\∀l,H l=none->Q (.ref l) (upd H l (.tup ys)))\/(Ae X.K H p ys/\Q (.ref p) H))):=by
 intro ad s L H xs us Q I r h;obtain⟨p,ys,rfl,h⟩:=h;obtain⟨u,rfl,rx⟩:=EF r;cases rx;rcases h with⟨hq,q⟩ | ⟨hq,q⟩
 .obtain⟨c,D,pl,O⟩:=I.list hq;have J:=D.length;refine call_tuple_list pl.isList (λg kp=>?_) (by simp only[Z2]<;>lia);have G:Ad X ad L H { s with heap:=g}:=I.kept (t':=s.toks) kp;have Z:Ad X ad L (upd H g.objs.size (.tup ys)) { s with heap:=g.push { cls:= .type "tuple",data:= .seq c.toArray}}:=
   G.laid (t':=s.toks) (λb o e=>Y2 _ e) (Y4 _) (show ObjOk X.prog X.w _ _ _ (.tup ys) from⟨O,c,D,IsTup.new _ _⟩)
  exact⟨.ref g.objs.size,_,Z,rfl,q _ (G.hok.fresh (Y4 _))⟩
 .obtain⟨c,D,pl,O⟩:=I.tuple hq;exact call_tuple_same pl ⟨.ref p,H,I,rfl,q⟩
def LY(K:Fgx)(T:String)(x:V)(H:Hp):Prop:=match x with
 |.str _=>T="str"
 |.int _=>T="int"
 |.ref p => (T = "list" /\ ∃ xs, Al K H p xs) \/ (T = "tuple" /\ ∃ o, K.lookup p = some o /\ o.cls = .type "tuple" /\ o.dict = none) \/
   (T="dict" /\((∃kvs,H p=some (.dK kvs))\/ ∃kvs,H p=some (.dT kvs)))\/(T="set" /\∃S n,H p=some (.set S n))
 |_=>False
theorem Q5{T:String}{x:V}{v:yU}(I:Ad X ad σ H s)(r:Az x v)(ty:LY X.K T x H):
  s.TypeIs v T/\∀a,v= .ref a->∃ob,s.heap.get? a=some ob/\ob.dict=none:=by
 cases x with
 |str z=>
  obtain⟨t,rfl⟩:=r;cases(show T="str" from ty);exact⟨typeIs_str s z t,λ_ e=>nomatch e⟩
 |int i=>
  obtain⟨t,rfl⟩:=r;cases(show T="int" from ty);exact⟨bO s i t,λ_ e=>nomatch e⟩
 |ref p=>
  cases r;rcases ty with⟨rfl,xs,hq⟩ | ⟨rfl,o,hk,hc,hd⟩ | ⟨rfl,hk⟩ | ⟨rfl,S,n,hk⟩
  .obtain⟨D,_,pl,_⟩:=I.list hq;refine⟨pl.isList.typeIs,λa e=>?_⟩;cases e;obtain⟨o,n,e,c,hd,_⟩:=pl;exact⟨o,e,hd⟩
  .refine⟨⟨o,I.kIn p o hk,hc⟩,λa e=>?_⟩;cases e;exact⟨o,I.kIn _ o hk,hd⟩
  .have z:∃o,s.heap.get? p=some o/\o.ExactDict:=by
    rcases hk with⟨kvs,hk⟩ | ⟨kvs,hk⟩
    .obtain⟨_,_,_,_,o,_,_,e,ex,_⟩:=I.hok p _ hk;exact⟨o,e,ex⟩
    .obtain⟨_,_,_,_,o,_,_,e,ex,_⟩:=I.hok p _ hk;exact⟨o,e,ex⟩
   obtain⟨o,e,ex⟩:=z;refine⟨⟨o,e,ex.1⟩,λa g=>?_⟩;cases g;exact⟨o,e,ex.2.1⟩
  .obtain⟨o,_,_,_,e,ex,_⟩:=I.hok p _ hk;refine⟨⟨o,e,ex.1⟩,λa g=>?_⟩;cases g;exact⟨o,e,ex.2.1⟩
 |_=>exact False.elim ty
def LZ(K:Fgx)(T:String)(r:V->List V->Hp->VK->Prop)(to:TE)(t:TA):TE:=fun c H Q=>to c H λx G=>LY K T x G/\t c G λL J=>r x L J Q
variable{o e:yL}{es:List yL}{to:TE}{t:TA}{g:Str}{I D:Pos}{T id:String}{r:V -> List V -> Hp -> VK -> Prop}
theorem DC(pa:PlainAttrs T)(slot:Slot T name id)(J:typeOf (.builtin id)=pure (.type "method_descriptor"))(hm:Hc X id r)(ho:PE X o to)(ha:PA X (e::es) t)
  (g:autoParam (attributeBase o name X.env (eval o X.env)=eval o X.env) j2)
  (G : autoParam (((backTo cpos (starEach (e :: es) X.env)).all (λx => !x.1) && (backToKw cpos (keywordEach [] X.env)).all (λx => x.1.isSome)
   && decide ((e::es).length+([]:List Keyword).length+(if ([]:List Keyword).isEmpty then 0 else 1)<30))=true) j2)
  (D:autoParam ((apos.endLine==cpos.line)=true) j2) (hs:autoParam (starEach (e::es) X.env=(false,eval e X.env)::starEach es X.env) j2) (c:autoParam ((backTo cpos (starEach es X.env)).any (·.1)=false) j2):
  PE X (.Call (.Attribute o name apos) (e::es) [] cpos) (LZ X.K T r to t):=by
 intro ad s L H Q I h;refine wpAny_Call_method_late g G D rfl (An (ho ad s L H _ I h) λv s1 zq=>?_);obtain⟨x,H1,I1,Z,ty,q1⟩:=zq;obtain⟨h1,h2⟩:=Q5 I1 Z ty;refine⟨T,id,pa,slot,J,h1,h2,?_⟩;have O:=ha cpos ad s1 L H1 _ I1 q1;rw[hs]at O ⊢;refine Calls.callWith_builtin (by show(false || (backTo cpos (starEach es X.env)).any (·.1))=false;rw[c]<;>rfl) (Calls.evalArgs_plain ?_);exact An O λus s2 ⟨vs,H2,I2,r2,q2⟩=>hm ad s2 L H2 x vs v us Q I2 Z r2 q2
end L2
namespace L2
variable{us its:yX}{t':Nat}
def L5(X:Cx)(id:String)(r:V->List V->Hp->VK->Prop):Prop:=
 ∀(ad:PNs) (s:yS) (c:St) (H:Hp) (x:V) (D:List V) (v:yU) (g:yX) (Q:VK),Ad X ad c H s->Az x v->At D g->r x D H Q->
  wpAny (model X.prog X.w) X.A (call (.builtin id) (v::g)) (EP X ad c Q) X.xe s
theorem At.zero(h:At [] us):us=[]:=by cases h;rfl
theorem At.one{x:V}(h:At [x] us):∃u,us=[u]/\Az x u:=by
 cases h with
 |cons r t=>exact⟨_,by rw[At.zero t],r⟩
theorem At.two{x y:V}(h:At [x,y] us):∃u v,us=[u,v]/\Az x u/\Az y v:=by
 cases h with
 |cons r t=>
  obtain⟨v,e,q⟩:=At.one t;exact⟨_,v,by rw[e],r,q⟩
theorem At.dropLast{xs:List V}(h:At xs us):At xs.dropLast us.dropLast:=by
 induction h with
 |nil=>exact .nil
 |cons r t ih=>
  cases t with
  |nil=>exact .nil
  |cons q t'=>exact .cons r ih
theorem At.reverse{xs:List V}(h:At xs us):At xs.reverse us.reverse:=by
 induction h with
 |nil=>exact .nil
 |cons r t ih=>rw[List.reverse_cons,List.reverse_cons];exact At.append ih (.cons r .nil)
theorem At.rep{xs:List V}(h:At xs us):∀k:Nat,At (List.replicate k xs).flatten (List.replicate k us).flatten
 |0=> .nil
 |k+1=>by
  rw[ZQ,ZQ,aP,aP];exact At.append h (At.rep h k)
theorem JB(c:yX):∀(k:Nat) (g:yX),
  List.foldl (λx1 x2=>x1++x2) g.toArray (List.replicate k c.toArray)=(g++(List.replicate k c).flatten).toArray
 |0,g=>by simp
 |k+1,g=>by
  have e:g.toArray++c.toArray=(g++c).toArray:=by simp
  have D:(g++c)++(List.replicate k c).flatten=g++(List.replicate (k+1) c).flatten:=by
   rw[ZQ,aP,bH]
  rw[<-D,<-JB c k (g++c),<-e,ZQ,eL]
section
variable{X:Cx}{ad:List (yR × Obj)}{σ:St}{H:Hp}{s:yS}{l b:yR}{xs ys zs:List V}
theorem Ad.lset{its':yX}{n:Nat}{f:Array yU->Array yU}(I:Ad X ad σ H s)(c:H l=some (.lst xs))
  (e:s.heap.get? l=some { cls:= .type "list",data:= .seq its.toArray n}) (G:f its.toArray=its'.toArray) (J:At ys its') (hz:ys.length<=sizeLine):
  Ad X ad σ (upd H l (.lst ys)) { s with heap:=s.heap.update l (Obj.mapSeq f),toks:=t'}:=by
 have q:=PySem.IsL.update e f;rw[G]at q;refine I.write (x:=l) (e:=l) (by rw[c];exact trivial) (.inl rfl) (λL u g D=>(Zl s.heap (Obj.mapSeq f) (Zo g)).trans D) ⟨_,q⟩ ?_;exact⟨hz,its',_,J,q⟩
theorem Ad.lnew(I:Ad X ad σ H s)(c:At ys its)(hz:ys.length<=sizeLine):
  Ad X ad σ (upd H s.heap.objs.size (.lst ys)) { s with heap:=s.heap.push { cls:= .type "list",data:= .seq its.toArray},toks:=t'}:=
 I.laid (λ_ _ q=>Y2 _ q) (Y4 _) ⟨hz,its,0,c,YL _ rfl⟩
theorem Ad.fresh(I:Ad X ad σ H s):H s.heap.objs.size=none:=I.hok.fresh (Y4 _)
theorem Ad.lstM(I:Ad X ad σ H s)(g:H l=some (.lst xs)):xs.length<=sizeLine/\∃(c:yX) (n:Nat),At xs c/\xs.length=c.length/\s.heap.get? l=some { cls:= .type "list",data:= .seq c.toArray n}:=by
 obtain⟨z,c,n,r,e⟩:=I.hok l _ g;exact⟨z,c,n,r,r.length,e⟩
theorem Q6{n:Nat}(h:n<=sizeLine):Builtin.List.listTooLong n=false:=by
 unfold Builtin.List.listTooLong;exact Zu (by lia)
end
variable{X:Cx}
def Q7:V->List V->Hp->VK->Prop:=λx g H Q=>∃l c y,x= .ref l/\g=[y]/\H l=some (.lst c)/\c.length<sizeLine/\Q .non (upd H l (.lst (c++[y])))
theorem DO:L5 X "list.append" Q7:=by
 intro ad s Z H x vs v O Q I G D h;obtain⟨l,L,y,rfl,rfl,g,hz,q⟩:=h;cases G;obtain⟨u,rfl,ru⟩:=D.one;obtain⟨z,c,n,r,J,e⟩:=I.lstM g;refine aA F.slot_list_append ⟨_,e,rfl⟩ F.entry_list_append (F.args_list_append_2 _ _) (PySem.list_append l c.toArray n u (by rw[Z2];lia)) ⟨e,?_⟩;refine⟨.non,_,I.lset (its':=c++[u]) g e (by simp) (r.append (.cons ru .nil)) ?_,rfl,q⟩;rw[Z7,ZF];lia
def Q8:R2:=λx y H Q=>∃l b c g,x= .ref l/\y= .ref b/\H l=some (.lst c)/\H b=some (.lst g)/\c.length+g.length<=sizeLine/\∀p,H p=none->Q (.ref p) (upd H p (.lst (c++g)))
theorem Cf:OpR X (binaryOp .Add) Q8:=by
 intro ad s σ H x y v u Q I L D h;obtain⟨l,b,xs,zs,rfl,rfl,O,hB,hz,q⟩:=h;cases L;cases D;obtain⟨z,g,n,r,hl,e⟩:=I.lstM O;obtain⟨z2,c,n2,r2,J,Z⟩:=I.lstM hB;refine PySem.P.add_list e Z ?_ (by rw[Z2,Z2];lia);have G:g.toArray++c.toArray=(g++c).toArray:=by simp
 rw[G];exact⟨.ref _,_,I.lnew (t':=s.toks) (r.append r2) (by rw[Z7];lia),rfl,q _ I.fresh⟩
def L6:R2:=λx y H Q=>∃l k c,x= .ref l/\y= .int k/\H l=some (.lst c)/\ -(2 ^ 63)<=k/\k<2 ^ 63/\c.length * k.toNat<=sizeLine/\
 ∀p,H p=none->Q (.ref p) (upd H p (.lst (List.replicate k.toNat c).flatten))
theorem JC{c:Type}(xs:List c)(k:Nat):(List.replicate k xs).flatten.length=k * xs.length:=by
 induction k with
 |zero=>simp
 |succ k ih=>rw[ZQ,aP,Z7,ih,bI,dA]
theorem F0:OpR X (binaryOp .Mult) L6:=by
 intro ad s σ H x y v u Q I rx ry h;obtain⟨l,k,xs,rfl,rfl,hH,h1,h2,Z,q⟩:=h;cases rx;obtain⟨t,rfl⟩:=ry;obtain⟨z,c,n,r,hl,e⟩:=I.lstM hH;have G:c.toArray.size * k.toNat<=sizeLine:=by rw[Z2,<-hl];exact Z
 have J:¬c.toArray.size * k.toNat>(2 ^ 63-1)/ 8:=by
  have:(sizeLine:Nat)<=(2 ^ 63-1)/ 8:=by decide
  lia
 have L:¬(!Builtin.List.listFitsIndex k)=true:=by
  rw[fitsIndex_both h1 h2];exact YT
 have g:¬Builtin.List.listTooLong (c.toArray.size * k.toNat)=true:=by
  rw[Q6 G];exact YT
 have D:List.foldl (λx1 O=>x1++O) #[] (List.replicate (if c.toArray.isEmpty=true then 0 else k.toNat) c.toArray)=(List.replicate k.toNat c).flatten.toArray:=by
  have f0:∀m:Nat,List.foldl (λx1 O=>x1++O) #[] (List.replicate m c.toArray)=(List.replicate m c).flatten.toArray:=λm=>by
   have:=JB c m [];rw[cE]at this;exact this
  rw[f0];cases c with
  |nil=>simp
  |cons a r'=>rw[YN (by simp)]
 refine bE (T:="list") (U:="int") (by decide) ⟨_,e,rfl⟩ (λs'=>bO s' k t) noFill_list_mul dO aV repeat_list dB.lookup
  (aA aV (bO s k t) dC (di _ _) (int___rmul___int_list k t l c.toArray n)
   ⟨e,rfl,⟨_,e,rfl⟩,aA F.slot_list_mul ⟨_,e,rfl⟩ F.entry_list_mul (F.args_list_mul_2 _ _) (AutoListH.list___mul___list_int_3 l c.toArray n k t L J g) ⟨e,?_⟩⟩)
 rw[D];exact⟨.ref _,_,I.lnew (t':=s.toks) (r.rep k.toNat) (by rw[JC,Nat.mul_comm];exact Z),rfl,q _ I.fresh⟩
end L2
namespace Att
open PySem PySem.W PySem.Calls PyProof.Rows
theorem Q9{P:Params}{h:Heap}:∀(ns:yV) (vs:yX),WellAll P h vs (ns.map WData.int)->IntsAre vs ns:=by
 intro ns
 induction ns with
 |nil=>
  intro vs w;rw[eB]at w;cases w;exact .nil
 |cons n ns ih=>
  intro vs w;rw[ZA]at w;cases w with
  |cons a b=>
   cases a;exact .cons _ _ (ih _ b)
theorem Ra{l:OpenLaw}{n:Nat}(O:l.most=some n){P:Params}{h:Heap}{args:List WData}{c:yX}
    (g:l.row.toRowW.claim.pre args=true) (J:WellAll P h c args):
    ∃a vs ns,c=[Value.ref a]/\args=[WData.list (ns.map WData.int)]/\h.get? a=some { cls:= .type "list",data:= .seq vs.toArray}/\IntsAre vs ns/\ns.length<=n:=by
  have I:WShape.hasAll [] args [.list .int]=true:=(pre_splitW g).1;have L:l.pre.holds [] { args:=args}=true:=(pre_splitW g).2;obtain⟨d,r,rfl,h1,h2⟩:=hasAllW_cons I;obtain rfl:=hasAllW_nil h2;obtain⟨xs,rfl,Z⟩:=hasW_list h1;obtain⟨ns,rfl⟩:=items_int Z;have D:ns.length<=n:=by
    unfold OpenLaw.pre at L;have h4:(WTm.not (.lt (.lit (.int (n:Int))) (.len (.arg 0)))).holds [] { args:=[.list (ns.map .int)]}=true:=by
      have h4:=(holds_andW L).1;rw[O]at h4;exact h4
    have G:=condW_of h4 (w_not (w_lt w_lit (w_len_list (w_arg rfl))));rw[Y0]at G;refine Nat.le_of_not_lt λq=>?_
    have q':(n:Int)<((ns.length:Nat):Int):=by lia
    first
      |(rw[ZE q']at G;exact absurd G (by decide))
      |(simp at G;lia)
  cases J with
  |cons w1 w2 =>
    cases w2;cases w1 with
    |list ho hall=>exact⟨_,_,ns,rfl,rfl,ho,Q9 ns _ hall,D⟩
theorem Rb(l:OpenLaw)(args:List WData):l.row.toRowW.claim.post args (.bool true) args=true:=
 postW_of (r:=l.row.toRowW) (X:=(true==true))
  (show WShape.has [] (.bool true) .bool=true by first | rfl | decide | simp[WShape.has,WShape.arms,WShape.armsAll])
  (show(WTm.eq .res (.lit (.bool true))).value [] { args:=args,res:=some (.bool true),after:=args}=some (.bool (true==true)) from w_eq_bool (w_res rfl) w_lit) rfl
theorem attach_call{l:OpenLaw}{n:Nat}{q:yP}{g:List Str}{XP:(Str->yW)->Heap->Prop}{YP:yN->Heap->Prop}{d:DefRec}
  (hn:l.most=some n) (i7:d.params.defaults=[])
  (call : ∀ (w : yN) (s₀ c : yS) (mg mb : Str -> yW) (L : yR) (o : Obj) (pm cd I : yU) (a : yR) (vs : yX) (ns : yV),
   Ground q g [] XP w s₀ mg mb c.heap->YP w c.heap->
   c.heap.get? L=some o->o.data= .func (docDef d.name d.params d.body d.scope pm cd I)->c.heap.CodeRec cd d.name->mg d.name=some (.ref L)->
   c.heap.get? a=some { cls:= .type "list",data:= .seq vs.toArray}->IntsAre vs ns->ns.length<=n->c.gens= #[]->
   codeAny (model l.prog w) callerA (.call (.ref L) ⟨[.ref a],[]⟩) (λr s'=>r= .ok (.ret (.bool true))/\OldK c.heap s'.heap/\s'.os=c.os/\AllBare s'.gens) c):
  WalkO q g XP YP l.row.toRowW d [] (λf vs=>PySem.call f vs):=by
 intro w s₀ c mg mb G Y L o pm cd I dV kV ho hd i6 hD i5 hg args i8 as O i9 j3 i4 j0;obtain rfl:dV= .none:=Dflts.none hD i7;obtain rfl:kV= .none:=Dflts.noKw hD;obtain⟨a,vs,ns,rfl,rfl,Z,D,J⟩:=Ra hn O i4;refine enter_call (aC (call w s₀ c mg mb L o pm cd I a vs ns G Y ho (fd_plain hd) i6 i5 Z D J hg) λr s' hq=>?_);obtain⟨rfl,h2,h3,h4⟩:=hq;exact⟨.inl ⟨.bool true,.bool true,[],rfl,λ_=>rfl,.bool true,Rb l _,λ_=>⟨List.Pairwise.nil,λ_ hm=>(nomatch hm)⟩⟩,h2,h3,h4⟩
end Att
namespace L2
theorem L7:∀ {vs:yX}{ns:yV},IntsAre vs ns->At (ns.map V.int) vs
 |_,_,.nil=> .nil
 |_,_,.cons n t h=> .cons ⟨t,rfl⟩ (L7 h)
variable{qual:Str}{fd:FuncData}{ps:List Str}{H H':Hp}
def BR(s:Stmt):Arguments:=match s with
 |.FunctionDef _ a _ _ _ _ _ _ _ _=>a
 |_=> { posonlyargs:=[],args:=[],vararg:=none,kwonlyargs:=[],kw_defaults:=[],kwarg:=none,defaults:=[]}
def Br(s:Stmt):List Stmt:=match s with
 |.FunctionDef _ _ b _ _ _ _ _ _ _=>b
 |_=>[]
def Am(s:Stmt):Scope:=match s with
 |.FunctionDef _ _ _ _ _ _ sc _ _ _=>sc
 |_=> { kind:= .function,names:=[],isGenerator:=false,isCoroutine:=false}
abbrev CX0:CD:=λ_ _ _ _ _ _=>False
abbrev E0:XK:=λ_ _ _=>False
theorem L8{X:Cx}:DA CX0 X E0:=λ_ _ _ _ _ _ _ h=>h.elim
structure DP(K:Fgx)(x qual:Str)(st:Stmt)(f:yR)(fd:FuncData):Prop where
 ex:∃(oc:yU) (od:Option yR) (kV doc pm:yU) (an:Option yR) (dl ct:yU) (osl:Array (yW)),
  fd=PySem.W.fnOf x qual (BR st) (Br st) (Am st) .none kV doc pm an dl ct/\K.lookup f=some ⟨oc,od,.func fd,osl⟩/\PySem.W.codeIn K dl qual=true
 kp:PySem.W.keepIn K (.ref f)=true
section
variable{P:yP}{w:yN}{K:Fgx}{mg:Str -> yW}{base:Heap}
theorem DP.ok{x:Str}{st:Stmt}{f:yR}{N:List Str}{k:Nat}{sp:Sp}(F:DP K x qual st f fd)(S:Aw N ps (Am st))(len:∀vs H Q E,sp vs H Q E->vs.length=ps.length)
  (c : ∀ (dl : yU) (A : yO) (outer : List Env) (s : yS) (H : Hp) (vs : List V) (Q : VK) (E : XK), AQ k (A.deeper (envOfC qual (Am st) s.heap.objs.size f dl)) -> sp vs H Q E ->
   ∃t,PSs (B0 CX0 P w K mg base N qual (Am st) f dl A outer s H E).nox (Br st) t/\t { nx:=λ_ H'=>Q .non H',rt:=Q} (start N vs) H):BV P w K mg base CX0 (k+1) f fd ps sp:=by
 obtain⟨Z,od,kV,L,O,an,dl,ct,J,rfl,I,g⟩:=F.ex;refine Ha I g S len λA outer s H vs Q E G D=>?_
 obtain⟨t,h,q⟩:=c dl A outer s H vs Q E G D;exact⟨t,h.nox,q⟩
theorem DP.binds{x:Str}{st:Stmt}{f:yR}(F:DP K x qual st f fd)
  (h:∀(kV c g:yU) (D:Option yR) (dl ct:yU) (us:yX),us.length=ps.length->bindArgs (PySem.W.fnOf x qual (BR st) (Br st) (Am st) .none kV c g D dl ct) ⟨us,[]⟩=pure (ps.zip us)):Binds K fd ps []:=by
 obtain⟨J,O,kV,c,g,D,dl,ct,G,rfl,L,I⟩:=F.ex;exact .all (h kV c g D dl ct)
theorem Ej{x:Str}{st:Stmt}{f:yR}{J:yU}{L I:Option yR}{D:Array (yW)}{kV g G dl ct:yU}(l:K.lookup f=some ⟨J,L,.func (PySem.W.fnOf x qual (BR st) (Br st) (Am st) .none kV g G I dl ct),D⟩)
  (c:PySem.W.codeIn K dl qual=true) (k:PySem.W.keepIn K (.ref f)=true):DP K x qual st f (PySem.W.fnOf x qual (BR st) (Br st) (Am st) .none kV g G I dl ct):=⟨⟨J,L,kV,g,G,I,dl,ct,D,rfl,l,c⟩,k⟩
end
theorem Rc{n:Nat}(h:n<=1000):n<sizeLine:=aD h (by decide)
section
variable{X:Cx}
theorem pv(i:Nat){x:Str}{c:Pos}(D:autoParam (X.N[i]? =some x) j2)(G:autoParam (DL X.env.scope x) K')(hd:autoParam ((x==("__debug__" :Str))=false) o3)
  (g:autoParam ((x==("__classdict__" :Str))=false) o3):PE X (.Name x c) (La i):=FS D G hd g
end
def Ab(H H':Hp):Prop:=∀b o,H b=some o->H' b=some o
theorem Ab.refl(H:Hp):Ab H H:=λ_ _ h=>h
theorem Ab.trans{D g:Hp}(a:Ab H D)(b:Ab D g):Ab H g:=λc o h=>b c o (a c o h)
theorem Ab.free(e:Ab H H'){l:yR}(h:H' l=Option.none):H l=Option.none:=by
 cases q:H l with
 |none=>rfl
 |some o=>
  rw[e l o q]at h;cases h
theorem Ab.seq{K:Fgx}{a:yR}{xs:List V}(e:Ab H H')(h:Al K H a xs):Al K H' a xs:=by
 rcases h with(h | ⟨o,h⟩) | h
 .exact .inl (.inl (e _ _ h))
 .exact .inl (.inr ⟨o,e _ _ h⟩)
 .exact .inr h
end L2
namespace L2
section
def A9(cs:List (Str×yR)):List (Str×NameKind)->List (Str×yR)->List (Str×yR)
  |[],fw=>fw
  |(n,k)::r,fw=>if k== .free then(match cs.lookup n with | some a=>A9 cs r ((n,a)::fw) | none=>A9 cs r fw) else A9 cs r fw
theorem JD{env:Env}:∀(names:List (Str×NameKind)) (g:List (Str×yR)),(∀y∈names,y.2= .free->∃c,env.cells.lookup y.1=some c)->
    (forIn names g (fun(p:Str×NameKind) (cs:List (Str×yR))=>do
      if (p.2==NameKind.free)=true then do
        let a<-cellOf env p.1
        pure (ForInStep.yield ((p.1,a)::cs))
      else pure (ForInStep.yield cs)):Sem (List (Str×yR)))=pure (A9 env.cells names g)
  |[],g,_=>rfl
  |(n, k) :: r, g, h => by
    rw[cF]
    by_cases I:(k==NameKind.free)=true
    . obtain⟨c,L⟩:=h (n,k) Z1 (by simpa using I);have D:env.cells.lookup n=some c:=L;simp only[I,aS,cellOf,D,A9];exact JD r _ λy G=>h y (Z4 _ G)
    . have J:(k==NameKind.free)=false:=by simpa using I
      simp only[J,am,bo,A9];exact JD r _ λy G=>h y (Z4 _ G)
theorem JE{env:Env}{scope:Scope}(h:∀y∈scope.names,y.2= .free->∃c,env.cells.lookup y.1=some c):closureFor scope env=pure (A9 env.cells scope.names []):=by
 have q:=JD (env:=env) scope.names [] h;unfold closureFor;simp only[];have e:(forIn scope.names ([]:List (Str×yR)) (fun(p:Str×NameKind) (cs:List (Str×yR))=>do
   if (p.2==NameKind.free)=true then do
    let a<-cellOf env p.1
    pure (ForInStep.yield ((p.1,a)::cs))
   else pure (ForInStep.yield cs)):Sem (List (Str×yR))) >>=(λcs=>pure cs)=pure (A9 env.cells scope.names []):=by rw[q];rfl
 exact e
theorem Ek{cs:List (Str×yR)}{x:Str}{c:yR}:∀(names:List (Str×NameKind)) (g:List (Str×yR)),(A9 cs names g).lookup x=some c->cs.lookup x=some c\/g.lookup x=some c
  |[],_,h=> .inr h
  |(n, k) :: r, g, h => by
    unfold A9 at h;split at h
    . cases D:cs.lookup n with
      |none=>rw[D]at h;exact Ek r g h
      |some a =>
        rw[D]at h;rcases Ek r _ h with q | q
        . exact .inl q
        . rw [ZK] at q;cases G:x==n with
          |true=>rw[G]at q;rw[ac.mp G,D];exact .inl q
          |false=>rw[G]at q;exact .inr q
    . exact Ek r g h
theorem He{cs:List (Str×yR)}{x:Str}{c:yR}(g:cs.lookup x=some c):∀(names:List (Str×NameKind)) (D:List (Str×yR)),D.lookup x=some c->(A9 cs names D).lookup x=some c
  |[],_,h=>h
  |(n, k) :: r, D, h => by
    unfold A9;split
    . cases I:cs.lookup n with
      |none=>exact He g r D h
      |some a =>
        refine He g r _ ?_;rw[ZK];cases G:x==n with
        |true=>rw[ac.mp G,I]at g;exact g
        |false=>exact h
    . exact He g r D h
theorem EH{cs:List (Str×yR)}{x:Str}{c:yR}(g:cs.lookup x=some c):∀(names:List (Str×NameKind)) (D:List (Str×yR)),(x,NameKind.free)∈names->(A9 cs names D).lookup x=some c
  |[],_,h=>nomatch h
  |(n, k) :: r, D, h => by
    unfold A9;rcases YY.mp h with e | h
    . cases e;simp only[dD,aS,g];exact He g r _ (by simp[ZK])
    . split
      . cases G:cs.lookup n with
        |none=>exact EH g r D h
        |some a=>exact EH g r _ h
      . exact EH g r D h
theorem Fh{x:Str}{c:yR}:∀(names:List (Str×NameKind)) (n:Nat) (g:List (Str×yR)),(cellsFrom n names g).lookup x=some c->n<=c\/g.lookup x=some c
  |[],_,_,h=> .inr h
  |(y, k) :: r, n, g, h => by
    unfold cellsFrom at h;split at h
    . rcases Fh r (n+1) _ h with q | q
      . exact .inl (by lia)
      . rw [ZK] at q;cases D:x==y with
        |true=>rw[D]at q;cases q;exact .inl (Y4 _)
        |false=>rw[D]at q;exact .inr q
    . exact Fh r n g h
theorem JF{x:Str}{c:yR}{lo:Nat}:∀(names:List (Str×NameKind)) (n:Nat) (D:List (Str×yR)),lo<=n->((x,NameKind.cell)∈names\/ ∀c,D.lookup x=some c->lo<=c)->(cellsFrom n names D).lookup x=some c->lo<=c
  |[],_,_,_,g,h=>g.elim (λz=>nomatch z) λz=>z c h
  |(y, k) :: r, n, D, hl, g, h => by
    unfold cellsFrom at h;split at h
    . rename_i J;refine JF r (n+1) _ (by lia) ?_ h
      by_cases G:x=y
      . refine .inr λI q=>?_
        rw[ZK,G,dD]at q;cases q;exact hl
      . rcases g with g | g
        . rcases YY.mp g with e | g
          . cases e;exact absurd rfl G
          . exact .inl g
        . refine .inr λI q=>g I ?_
          rw[ZK,ZG.mpr G]at q;exact q
    . rename_i J;refine JF r n D hl ?_ h;rcases g with g | g
      . rcases YY.mp g with e | g
        . cases e;exact absurd rfl J
        . exact .inl g
      . exact .inr g
theorem JG{x:Str}{c:yR}:∀(names:List (Str×NameKind)) (n:Nat) (D:List (Str×yR)),(x,NameKind.cell) ∉ names->D.lookup x=some c->(cellsFrom n names D).lookup x=some c
  |[],_,_,_,h=>h
  |(y, k) :: r, n, D, hm, h => by
    have g:(x,NameKind.cell) ∉ r:=λz=>hm (Z4 _ z)
    unfold cellsFrom;split
    . rename_i J;refine JG r (n+1) _ g ?_;rw [ZK];cases G:x==y with
      |true =>
        have I:k=NameKind.cell:=by simpa using J
        exact absurd (by rw[ac.mp G,I];exact Z1) hm
      |false=>exact h
    . exact JG r n D g h
theorem JH{x:Str}:∀(names:List (Str×NameKind)) (n:Nat) (D:List (Str×yR)),((x,NameKind.cell)∈names\/ ∃c,D.lookup x=some c)->∃c,(cellsFrom n names D).lookup x=some c
  |[],_,_,g=>g.elim (λz=>nomatch z) λz=>z
  |(y, k) :: r, n, D, g => by
    unfold cellsFrom;split
    . rename_i I;refine JH r (n+1) _ ?_
      by_cases G:x=y
      . exact .inr ⟨n,by rw[G,ZK,dD]⟩
      . rcases g with g | ⟨c,g⟩
        . rcases YY.mp g with e | g
          . cases e;exact absurd rfl G
          . exact .inl g
        . exact .inr ⟨c,by rw[ZK,ZG.mpr G];exact g⟩
    . rename_i I;refine JH r n D ?_;rcases g with g | g
      . rcases YY.mp g with e | g
        . cases e;exact absurd rfl I
        . exact .inl g
      . exact .inr g
theorem JI:∀(names:List (Str×NameKind)) (n:Nat) (D:List (Str×yR)),(∀x c,D.lookup x=some c->c<n)->(∀x y c,D.lookup x=some c->D.lookup y=some c->x=y)->
    ∀x y c,(cellsFrom n names D).lookup x=some c->(cellsFrom n names D).lookup y=some c->x=y
  |[],_,_,_,hi=>hi
  |(z, k) :: r, n, D, hb, hi => by
    unfold cellsFrom;split
    . refine JI r (n+1) _ (λx c q=>?_) λx y c q g=>?_
      . rw [ZK] at q;cases G:x==z with
        |true=>rw[G]at q;cases q;exact aN _
        |false=>rw[G]at q;exact ZT (hb x c q)
      . rw [ZK] at q g;cases G:x==z with
        |true =>
          rw[G]at q;cases q;cases I:y==z with
          |true=>rw[ac.mp G,ac.mp I]
          |false=>rw[I]at g;exact absurd (hb y _ g) (YX _)
        |false =>
          rw[G]at q;cases I:y==z with
          |true=>rw[I]at g;cases g;exact absurd (hb x _ q) (YX _)
          |false=>rw[I]at g;exact hi x y c q g
    . exact JI r n D hb hi
theorem JJ:∀(names:List (Str×NameKind)) (h:Heap) (g:List (Str×yR)) {x:Str}{c:yR},(cellsFrom h.objs.size names g).lookup x=some c->(pushCells h names).IsCell c none\/g.lookup x=some c
  |[],_,_,_,_,q=> .inr q
  |(z, k) :: r, h, g, x, c, q => by
    unfold cellsFrom at q;unfold pushCells;split at q
    . rename_i D;rw [YR D];have e:(h.push { cls:= .type "cell",data:= .cell none}).objs.size=h.objs.size+1:=Zf ..;rw [<-e] at q;rcases JJ r _ _ q with q | q
      . exact .inl q
      . rw [ZK] at q;cases G:x==z with
        |true =>
          rw[G]at q;cases q;refine .inl ?_;have w:(h.push { cls:= .type "cell",data:= .cell none}).IsCell h.objs.size none:=⟨_,YL _ rfl,rfl⟩;exact w.keeps (au r _)
        |false=>rw[G]at q;exact .inr q
    . rename_i D;rw[YN D];exact JJ r h g q
def JK(scope:Scope)(env:Env)(C:yR):Env:=
  { scope:=relabel scope env,locals:=C,globals:=env.globals,cells:=cellsFrom (C+1) scope.names (A9 env.cells scope.names []),qual:=env.qual,func:=none,code:=env.code,frame:=env.frame,builtins:=env.builtins}
theorem L9{M:Model}{A:yO}{E:VSP}{s:yS}{scope:Scope}{env:Env}{cl:List (Str×yR)}{Q:Env->yS->Prop}
    (h:Q { scope:=scope,locals:=s.heap.objs.size,globals:=env.globals,cells:=cellsFrom (s.heap.objs.size+1) scope.names cl,qual:=env.qual,func:=none,code:=env.code,frame:=env.frame,builtins:=env.builtins}
      { s with heap:=pushCells (s.heap.push { cls:= .type "dict",data:= .dict #[]}) scope.names}):
    wpAny M A (newFunctionEnv scope env.globals cl [] env.qual none .none (some env)) Q E s:=by
  have Ay:({ s with heap:=s.heap.push { cls:= .type "dict",data:= .dict #[]}}:yS).heap.objs.size=s.heap.objs.size+1:=Zf ..;rw[<-Ay]at h;unfold newFunctionEnv;simp only[Option.isSome_some,aS];exact Y1 (wpAny_alloc (Y1 (wpAny_layCells _ (λn k cs=>by by_cases c:(k==NameKind.cell)=true<;>simp[c]) _ _ _ _ (Y1 (Y6 (Y6 h))))))
structure AJ(sc:Scope)(N:List Str)(scope:Scope)(N':List Str)(cap:List (Option Nat)):Prop where
 kind:scope.kind= .function
 free:∀y∈scope.names,y.2= .free->sc.names.lookup y.1=some .cell\/sc.names.lookup y.1=some .free
 len:cap.length=N'.length
 capt:∀(i j:Nat),cap[i]? =some (some j)->∃x:Str,N'[i]? =some x/\N[j]? =some x/\(x,NameKind.free)∈scope.names/\(x,NameKind.cell) ∉ scope.names
 names:∀y∈scope.names,y.2= .local ->scope.names.lookup y.1=some .local
 own:∀y∈scope.names,scope.names.lookup y.1=some y.2
def Mb(c:Scope)(N:List Str)(scope:Scope)(N':List Str)(cap:List (Option Nat)):Bool:=
  scope.kind== .function &&(scope.names.all λy=>y.2 != .free || c.names.lookup y.1==some .cell || c.names.lookup y.1==some .free) && cap.length==N'.length &&
    ((List.range cap.length).all λi => match cap[i]? with
      |some (some j) => (match N'[i]?, N[j]? with
        |some x,some y=>x==y && scope.names.any (λz=>z.1==x && z.2== .free) && scope.names.all (λz=> !(z.1==x && z.2== .cell))
        |_,_=>false)
      |_=>true) && scope.names.all λy=>scope.names.lookup y.1==some y.2
theorem AJ.of{D:Scope}{N:List Str}{scope:Scope}{N':List Str}{cap:List (Option Nat)}(h:Mb D N scope N' cap=true):AJ D N scope N' cap:=by
 unfold Mb at h;simp only[Zj]at h;obtain⟨⟨⟨⟨h1,h2⟩,h3⟩,h4⟩,h5⟩:=h;have own:∀y∈scope.names,scope.names.lookup y.1=some y.2:=λy c=>by
  have:=Zt.mp h5 y c
  simpa using this
 refine⟨by simpa using h1,λy c L=>?_,by simpa using h3,λi j e=>?_,λy c O=>by rw[own y c,O],own⟩
 .have:=Zt.mp h2 y c;rw[L]at this
  simpa using this
 .have hi:i<cap.length:=(Y3.mp e).1;have:=Zt.mp h4 i (ZM.mpr hi);rw[e]at this;dsimp only at this;cases g:N'[i]? with
  |none=>rw[g]at this;simp at this
  |some x=>
   cases c:N[j]? with
   |none=>rw[g,c]at this;simp at this
   |some y=>
    rw[g,c]at this;simp only[Zj]at this;obtain⟨⟨I,J⟩,t3⟩:=this;have e1:x=y:=by simpa using I
    subst e1;obtain⟨z,hz,t⟩:=any_eq_true.mp J;simp only[Zj]at t;have z1:z.1=x:=by simpa using t.1
    have Z:z.2= .free:=by simpa using t.2
    have ez:z=(x,NameKind.free):=by rw[<-z1,<-Z]
    refine⟨x,rfl,rfl,ez ▸ hz,λG=>?_⟩;have:=Zt.mp t3 _ G;simp at this
def AR(cap:List (Option Nat))(σ:St):St:=cap.map λo=>match o with | some j=>(match σ[j]? with | some v=>v | none=>none) | none=>none
def B8(X:Cx)(cs:List yL)(t:TT):Prop:=
 ∀(ad:PNs) (s:yS) (g:St) (H:Hp) (Q:Bool->Hp->Prop),Ad X ad g H s->t g H Q->
  wpAny (model X.prog X.w) X.A (forIn cs true λc r=>if r=true then do let ok<-isTrue c X.env (eval c X.env);pure (ForInStep.yield ok) else pure (ForInStep.yield r)) (TP X ad g Q) X.xe s
def Re:TT:=λ_ H Q=>Q true H
theorem A8{X:Cx}:B8 X [] Re:=λ_ _ c H Q I h=>wpAny_tests_nil ⟨H,I,h⟩
theorem Fi{X:Cx}{c:yL}{t:TT}(h:PT X c t):B8 X [c] t:=λad s g H Q I q=>wpAny_tests_one (h ad s g H Q I q)
def AS(X:Cx)(N':List Str)(scope:Scope)(s:yS)(H:Hp)(ex:List yR)(C:yR):Cx:=
  { X with N:=N',s₀:=s,H₀:=H,env:=JK scope X.env C,outer:=X.stack,ex:=ex,fn:=λx=>scope.names.any λz=>z.1==x && z.2== .cell,pn:=[],xe:=λ_ _=>False}
theorem Hf{env:Env}{x:Str}:∀(names:List (Str×NameKind)),(names.map fun(n,k)=>if (k==NameKind.free && env.scope.kind== .function && env.kindOf n==some .cell) then(n,NameKind.cell) else(n,k)).lookup x=
    (names.lookup x).map λk=>if (k==NameKind.free && env.scope.kind== .function && env.kindOf x==some .cell) then NameKind.cell else k
  |[]=>rfl
  |(n, k) :: r => by
    have g:=Hf (env:=env) (x:=x) r;show List.lookup x ((if (k==NameKind.free && env.scope.kind== .function && env.kindOf n==some .cell)=true then(n,NameKind.cell) else(n,k))::_)=_;cases c:x==n with
    |true =>
      have e:x=n:=ac.mp c;subst e;split<;>simp_all[ZK]
    |false =>
      have e:(List.lookup x ((n,k)::r))=r.lookup x:=by rw[ZK,c]
      rw[e,<-g];split<;>simp[ZK,c]
variable{X:Cx}{ad:List (yR × Obj)}{σ:St}{H:Hp}{s:yS}{scope:Scope}{N':List Str}{cap:List (Option Nat)}{fp:List yR}
theorem Rf(I:Ad X ad σ H s)(B:AJ X.env.scope X.N scope N' cap)(hf:∀b∈fp,BH X ad H b)(J:∀b∈fp,b<s.heap.objs.size){C:yR}(G:s.heap.objs.size<=C):
  (AS X N' scope s H fp C).Ok:=by
 have i4:∀x c,X.env.cells.lookup x=some c->c<s.heap.objs.size:=λx c e=>let ⟨_,q⟩:=I.cell x c e;q.lt
 have O:∀x c,(A9 X.env.cells scope.names []).lookup x=some c->X.env.cells.lookup x=some c:=λx c e=>(Ek _ _ e).elim id λz=>nomatch z
 refine⟨I.ok.mod,B.kind,I.ok.glob,I.ok.blt,G,λx y c h1 h2=>?_,λx hx=>?_,λx c hx h=>?_,I.ok.hd,I.ok.frames,.inl rfl,λb D=>⟨?_,λx c h e=>?_⟩,I.bs,YV I.ok.bsz I.sz,λb o e D=>?_,λb D z=>?_,I.stack,I.stkFree⟩
 .exact JI scope.names (C+1) _ (λx c e=>ZT (YQ (i4 x c (O x c e)) G)) (λx y c e e'=>I.ok.inj x y c (O x c e) (O y c e')) x y c h1 h2
 .have g:(relabel scope X.env).names.lookup x=some .cell\/(relabel scope X.env).names.lookup x=some .free:=hx;have hl:(scope.names.lookup x).isSome=true:=by
   unfold relabel at g;rw[Hf]at g;cases q:scope.names.lookup x with
   |none=>rw[q]at g;rcases g with z | z<;>cases z
   |some k=>rfl
  obtain⟨k,hk⟩:=aO.mp hl;have Z:=PySem.mem_of_lookup hk;refine JH scope.names (C+1) _ ?_;cases k with
  |cell=>exact .inl Z
  |free=>
   refine .inr ?_;obtain⟨c,hc⟩:=I.ok.has x (B.free _ Z rfl);exact⟨c,EH hc _ _ Z⟩
  |_=>
   unfold relabel at g;rw[Hf,hk]at g;rcases g with z | z<;>simp at z
 .have g:(scope.names.any λz=>z.1==x && z.2== .cell)=true:=hx;obtain⟨z,hz,t⟩:=any_eq_true.mp g;simp only[Zj]at t;have z1:z.1=x:=by simpa using t.1
  have z2:z.2= .cell:=by simpa using t.2
  have ez:z=(x,NameKind.cell):=by rw[<-z1,<-z2]
  have:=JF (lo:=C+1) scope.names (C+1) _ (Y4 _) (.inl (ez ▸ hz)) h;exact YV G (dj this)
 .exact Z0 (YQ (J b D) G)
 .rcases Fh scope.names (C+1) _ h with q | q
  .have:=J b D;rw[<-e]at this;exact absurd (YQ this (YV G (dj q))) (YX _)
  .exact(hf b D).2.2.2.2.1 x c (O x c q) e
 .obtain⟨_,_,_,L,_⟩:=hf b D;rcases L with L | L
  .exact I.ok.noex b o e L
  .exact absurd (YQ (Y8 e) (YV I.ok.bsz L)) (YX _)
 .obtain⟨_,f1,f2,_⟩:=hf b D;rcases YY.mp (I.stkSub b z) with q | q
  .exact f1 q
  .exact f2 q
theorem Mc(I:Ad X ad σ H s)(B:AJ X.env.scope X.N scope N' cap)(hf:∀b∈fp,BH X ad H b)(i4:∀b∈fp,b<s.heap.objs.size){G:Heap}(hk:∀b o,s.heap.get? b=some o->G.get? b=some o)(hsz:s.heap.objs.size<=G.objs.size):
  Ad (AS X N' scope s H fp G.objs.size) [] (AR cap σ) H { s with heap:=pushCells (G.push { cls:= .type "dict",data:= .dict #[]}) scope.names}:=by
 have fw:∀x c,(A9 X.env.cells scope.names []).lookup x=some c->X.env.cells.lookup x=some c:=λx c e=>(Ek _ _ e).elim id λz=>nomatch z
 have i7:∀b o,G.get? b=some o->(pushCells (G.push { cls:= .type "dict",data:= .dict #[]}) scope.names).get? b=some o:=λb o e=>au _ _ b o (Y2 _ e)
 have J:∀b o,s.heap.get? b=some o->(pushCells (G.push { cls:= .type "dict",data:= .dict #[]}) scope.names).get? b=some o:=λb o e=>i7 b o (hk b o e)
 refine⟨Rf I B hf i4 hsz,rfl,I.bare,Un.kept J,⟨λ_=>none,(Heap.Ns.new G (.type "dict")).keeps (au _ _),λi x v h1 h2 h4=>?_⟩,λx c h=>?_,?_,λx c h=>?_,λp hp=>absurd (show p∈([]:PNs) from hp) (by simp),I.hok.kept J,?_⟩
 .have g:(AR cap σ)[i]? =some (some v):=h2;unfold AR at g;rw[YO]at g;cases q:cap[i]? with
  |none=>rw[q]at g;cases g
  |some o=>
   rw[q]at g;cases o with
   |none=>exact nomatch Y9 g
   |some j=>
    have D:(match σ[j]? with | some v=>v | none=>none)=some v:=Y9 g;cases qs:σ[j]? with
    |none=>rw[qs]at D;cases D
    |some v'=>
     rw[qs]at D;have hs:σ[j]? =some (some v):=by rw[qs];exact Zv some D
     obtain⟨x',e1,e2,e3,e4⟩:=B.capt i j q;have i6:N'[i]? =some x:=h1;rw[i6]at e1;cases e1;have O:=B.free _ e3 rfl;obtain⟨m,hn,hl⟩:=I.loc;obtain⟨u,ru,Z⟩:=hl j x v e2 hs (O.elim (λz=> .inr (.inl z)) λz=> .inr (.inr z));refine⟨u,ru,?_⟩;rcases Z with⟨Z,_⟩ | ⟨_,c,hc,ic⟩
     .have i5:X.env.scope.names.lookup x=some .local :=Z;have L:X.env.scope.names.lookup x=some .cell\/X.env.scope.names.lookup x=some .free:=O;rw[i5]at L;rcases L with z | z<;>cases z
     .refine .inr ⟨?_,c,JG _ _ _ e4 (EH hc _ _ e3),ic.keeps J⟩;have:(relabel scope X.env).names.lookup x=some .cell\/(relabel scope X.env).names.lookup x=some .free:=by
       unfold relabel;rw[Hf,B.own _ e3];dsimp only[Option.map];split
       .exact .inl rfl
       .exact .inr rfl
      exact this
 .have h':(cellsFrom (G.objs.size+1) scope.names (A9 X.env.cells scope.names [])).lookup x=some c:=h;have e:(G.push { cls:= .type "dict",data:= .dict #[]}).objs.size=G.objs.size+1:=Zf ..;rw[<-e]at h';rcases JJ _ _ _ h' with q | q
  .exact⟨_,q⟩
  .obtain⟨v,z⟩:=I.cell x c (fw x c q);exact⟨v,z.keeps J⟩
 .exact I.hok.fresh hsz
 .rcases Fh scope.names (G.objs.size+1) _ h with q | q
  .exact I.hok.fresh (YV hsz (dj q))
  .exact I.freeC x c (fw x c q)
 .show(AR cap σ).length=N'.length;unfold AR;rw[Y0];exact B.len
end
section
variable{E iter:yL}{Y X:Cx}{PB:List (yR × Obj)}{σ:St}{zs xs:List V}{H:Hp}{its:yX}{te:TE}{wi:TI}{g:TG}{tt:TT}{scope:Scope}{pos:Pos}{cap:List (Option Nat)}{Q:List V -> Hp -> Prop}
def Keep:St->St->Prop
 |[],[]=>True
 |none::r,_::r'=>Keep r r'
 |some v::r,o::r'=>o=some v/\Keep r r'
 |_,_=>False
theorem Keep.len:∀ {a b:St},Keep a b->a.length=b.length
 |[],[],_=>rfl
 |none::r,_::r',h=>by have c:Keep r r':=h;simp[Keep.len c]
 |some v::r,o::r',h=>by have c:o=some v/\Keep r r':=h;simp[Keep.len c.2]
theorem Keep.get:∀ {a b:St}{i:Nat}{v:V},Keep a b->a[i]? =some (some v)->b[i]? =some (some v)
 |[],[],_,_,_,e=>by simp at e
 |none::r,_::r',0,v,h,e=>by simp at e
 |none::r,_::r',i+1,v,h,e=>by
  have c:Keep r r':=h
  simpa using Keep.get (i:=i) c (by simpa using e)
 |some v::r,o::r',0,w,h,e=>by
  have c:o=some v/\Keep r r':=h;simp at e;simp[c.1,e]
 |some v::r,o::r',i+1,w,h,e=>by
  have c:o=some v/\Keep r r':=h
  simpa using Keep.get (i:=i) c.2 (by simpa using e)
def br(c:Bool)(A B:Prop):Prop:=(c=true->A)/\(c=false->B)
def JL(wi:TI)(cap:List (Option Nat))(g:TG)(tt:TT)(te:TE):St->Hp->(List V->Hp->Prop)->Prop:=fun L H Q=>wi L H λJ H1=>
 ∃W:Nat->Nat->List V->Hp->Prop,(∃m,W 0 m [] H1)/\∀i m G H,W i m G H->
  (J.stop i H/\Q G H)\/
  (J.go i H /\ G.length < sizeLine /\ ∃ N : List V -> Hp -> Prop, (∀ I D, N I D -> ∃ Z, Z < m /\ W (i + 1) Z I D) /\ ∀ x D, J.yld i H x D -> g x (AR cap L) D fun c H2 => Keep (AR cap L) c /\ tt c H2 λb O =>
   br b (te c O λy H4=>N (G++[y]) H4) (N G O))
structure Hg(X:Cx)(ad:PNs)(C:yR)(H:Hp)(s:yS):Prop where
 ns:∃m,s.heap.Ns C m
 free:H C=none
 loc:C≠X.env.locals
 sz:X.s₀.heap.objs.size<=C
 cell:∀x c,X.env.cells.lookup x=some c->c≠C
 pin:∀p∈X.pn++ad,p.1≠C
abbrev TB:=St->List V->Hp->(List V->Hp->Prop)->Prop
def F1(E:yL)(d:Nat)(G it:yL)(D:List yL)(body:Sem PySem.Fin)(g I:yU)(env:Env):Sem PySem.Fin:=do
  standAt it.pos
  let r<-pyNext g
  match r with
   |none=>pure (Fin.done Flow.next)
   |some v=>do
    letOwnedTupleGo G g v
    assign G env v
    let ok<-forIn D true λc r=>if r=true then do let ok<-PySem.isTrue c env (eval c env);pure (ForInStep.yield ok) else pure (ForInStep.yield r)
    if ok=true then body else again (Code.compLoop E d g I env)
def Hh(E:yL)(d:Nat)(D:yL)(g c:yU)(env:Env):Sem PySem.Fin:=do
  let _<-(do
   let x<-eval D env
   let _<-call (Value.builtin "list.append") [c,x]
   pure ())
  again (Code.compLoop E d g c env)
def JM(E:yL)(d:Nat)(c:yL)(D g:yU)(env:Env):Sem PySem.Fin:=do
  let x<-eval c env
  standAt c.pos
  let x<-foldedSetIterable c env x
  let j<-holding [x] (pyIter x)
  let _<-runOwn (Code.compStart E (d+1) j g env) env
  again (Code.compLoop E d D g env)
abbrev Hi(M:Model)(A:yO)(E:yL)(d:Nat)(c g:yU)(env:Env)(body:Sem PySem.Fin)(P:yS->Prop)(s:yS):Prop:=wpAny M A body (λfin D=>fin= .again (.compLoop E d c g env)/\P D) (λ_ _=>False) s
section
variable{prog:yP}{w:yN}{A:yO}{R:Result -> yS -> Prop}{s:yS}{e0 tg it fz it2:yL}{gs:List Comprehension}{ifs:List yL}{sc:Scope}{ps:Pos}{fv fw:yU}{env:Env}{d:Nat}{body:Sem PySem.Fin}{P:yS -> Prop}
theorem Rg(h:wpAny (model prog w) A (eval fz env) (λx g=>wpAny (model prog w) A (call (.builtin "list.append") [fw,x]) (λ_ c=>P c) (λ_ _=>False) g) (λ_ _=>False) s):Hi (model prog w) A E d fv fw env (Hh E d fz fv fw env) P s:=
 Y1 (Y1 (Z9 h (λx g D=>Y1 (Z9 D (λ_ c G=>Y6 (Y6 ⟨rfl,G⟩)) λ_ _ I=>I.elim)) λ_ _ I=>I.elim))
theorem Rh(O:∀x,foldedSetIterable it2 env x=pure x)(h:wpAny (model prog w) A (eval it2 env) (λx D=>wpAny (model prog w) A (pyIter x) (λj g=>codeAny (model prog w) (A.mark none) (.compStart E (d+1) j fw env) (λr G=>r= .ok .next/\P G) g) (λ_ _=>False) D) (λ_ _=>False) s):Hi (model prog w) A E d fv fw env (JM E d it2 fv fw env) P s:=by
 refine Y1 (Z9 h (λx D I=>Y1 (aR ?_)) λ_ _ L=>L.elim);rw[O];refine Y1 (Y6 (Y1 (ZD (Z9 I (λj g J=>?_) λ_ _ L=>L.elim))));refine Y1 (wpAny_runOwn (aC J λr G c=>?_));obtain⟨rfl,c⟩:=c;exact Y6 ⟨rfl,c⟩
theorem Ri(ht:compTurn (.ListComp e0 gs sc ps) d fv fw env=F1 (.ListComp e0 gs sc ps) d tg it ifs body fv fw env)(I:Nat->yS->Prop)
  (i5 : ∀ n s, I n s -> wpAny (model prog w) A (pyNext fv) (λr G => match r with
   |none=>R (.ok .next) G
   |some v => wpAny (model prog w) A (letOwnedTupleGo tg fv v) (λ_ D => wpAny (model prog w) A (assign tg env v) (λ_ O =>
     wpAny (model prog w) A (forIn ifs true λc r=>if r=true then do let ok<-isTrue c env (eval c env);pure (ForInStep.yield ok) else pure (ForInStep.yield r)) (λok g=>
      if ok=true then Hi (model prog w) A (.ListComp e0 gs sc ps) d fv fw env body (λZ=>∃m,m<n/\I m Z) g
      else ∃m,m<n/\I m g) (λ_ _=>False) O) (λ_ _=>False) D) (λ_ _=>False) G) (λ_ _=>False) s)
  (n:Nat) (h:I n s):codeAny (model prog w) A (.compLoop (.ListComp e0 gs sc ps) d fv fw env) R s:=by
 refine codeAny_loop rfl I (λn s hI=>?_) n h;show wpAny _ A ((compTurn (.ListComp e0 gs sc ps) d fv fw env).onRaise (λx=>do noteFrame x env;theTreesLotGoes x)) _ _ s;refine wpAny_noted ?_;rw[ht];unfold F1;refine Y1 (aR (Y1 (Z9 (i5 n s hI) (λr G h₁=>?_) λ_ _ J=>J.elim)));cases r with
 |none=>exact Y6 h₁
 |some v=>
  refine Y1 (Z9 h₁ (λ_ D i4=>?_) λ_ _ J=>J.elim);refine Y1 (Z9 i4 (λ_ O h₂=>Y1 (Z9 h₂ (λok g L=>?_) λ_ _ J=>J.elim)) λ_ _ J=>J.elim);cases ok with
  |false=>exact Y6 ⟨rfl,L⟩
  |true=>exact Z9 L (λfin Z zq=>by obtain⟨e,q⟩:=zq;subst e;exact⟨rfl,q⟩) λ_ _ J=>J.elim
end
structure DQ(Y:Cx)(a:yR):Prop where
 loc:a≠Y.env.locals
 fs:a ∉ Y.fs
 sz:a∈Y.ex\/Y.s₀.heap.objs.size<=a
 cell:∀x c,Y.env.cells.lookup x=some c->c≠a
 pn:Y.pn=[]
 calm:Y.calm=true
abbrev EI(c:yX)(k:Nat):Obj:= { cls:= .type "list",data:= .seq c.toArray k}
structure Grown(Y:Cx)(a:yR)(PB:PNs)(σ:St)(zs:List V)(H:Hp)(s:yS):Prop where
 inv:Ad Y PB σ H s
 no:H a=none
 len:zs.length<=sizeLine
 at':∃its k,s.heap.get? a=some (EI its k)/\At zs its
theorem Grown.pin{a:yR}{s:yS}{k:Nat}(A:DQ Y a)(g:Grown Y a PB σ zs H s)(e:s.heap.get? a=some (EI its k)):Ad Y ((a,EI its k)::PB) σ H s:=
 g.inv.pins_of λp c=>by
  rcases YY.mp c with rfl | c
  .exact⟨e,g.no,A.loc,A.fs,λv z=>by
    have D:Data.seq its.toArray k=Data.cell v:=z;cases D⟩
  .exact g.inv.pin p (YZ _ c)
theorem Ad.grown{a:yR}{s:yS}{k:Nat}(I:Ad Y ((a,EI its k)::PB) σ H s)(hz:zs.length<=sizeLine)(v:At zs its):Grown Y a PB σ zs H s:=by
 have q:=I.pin (a,EI its k) (YZ _ Z1);exact⟨I.pins_of λp c=>I.pin p (YZ _ (Z4 _ c)),q.2.1,hz,its,k,q.1,v⟩
def Md:List V->Prop->Prop:=λc p=>c.length<sizeLine/\p
def Rj:List V->Prop->Prop:=λ_ p=>p
def F2(Y:Cx)(a:yR)(E:yL)(d:Nat)(body:yU->Sem PySem.Fin)(C:List V->Prop)(B:TB):Prop:=
 ∀(I:yU) (G:PNs) (g:St) (D:List V) (H:Hp) (s:yS) (N:List V->Hp->Prop) (P:yS->Prop),(∀p∈G,p.1≠a)->Grown Y a G g D H s->C D->B g D H N->(∀c J L,Grown Y a G g c J L->N c J->P L)->Hi (model Y.prog Y.w) Y.A E d I (.ref a) Y.env (body I) P s
theorem Me{e0 tg it:yL}{gs:List Comprehension}{j3:List yL}{sc:Scope}{ps:Pos}{d m0:Nat}{Y:Cx}{a jt:yR}{PB:PNs}{g:TG}{tt:TT}{B:TB}{C:List V->Prop}{Z:List V->Prop->Prop}{body:yU->Sem PySem.Fin}{fp:List yR}{tn:Nat->Heap->Prop}{J:It}{W:Nat->Nat->List V->Hp->Prop}{σ:St}{ys:List V}{H:Hp}{s:yS}{N:List V->Hp->Prop}{R:Result->yS->Prop}
  (A:DQ Y a) (v3:∀p∈PB,p.1≠a) (ht:∀fv,compTurn (.ListComp e0 gs sc ps) d fv (.ref a) Y.env=F1 (.ListComp e0 gs sc ps) d tg it j3 (body fv) fv (.ref a) Y.env) (hx:Y.xe=λ_ _=>False) (hg:PG Y tg g) (w9:B8 Y j3 tt) (hb:F2 Y a (.ListComp e0 gs sc ps) d body C B) (hZ:∀zs p,Z zs p->C zs/\p)
  (T:De Y.prog Y.w Y.K tg J fp jt tn) (na:∀b∈fp,b≠a) (i9:∀ {o:Obj}{H':Hp},(∀b∈fp,H' b=none)->∀b∈fp,BH Y ((a,o)::PB) H' b) (st:tn 0 s.heap) (gr:Grown Y a PB σ ys H s) (hn:∀b∈fp,H b=none) (w0:W 0 m0 ys H)
  (o8:∀j m zs H,W j m zs H->(J.stop j H/\N zs H)\/(J.go j H/\Z zs (∃N2:List V->Hp->Prop,(∀c H',N2 c H'->∃m',m'<m/\W (j+1) m' c H')/\∀x H',J.yld j H x H'->g x σ H' fun σ3 H2=>Keep σ σ3/\tt σ3 H2 λb H3=>br b (B σ3 zs H3 N2) (N2 zs H3))))
  (back:∀zs H' s',Grown Y a PB σ zs H' s'->N zs H'->R (.ok .next) s'):codeAny (model Y.prog Y.w) Y.A (.compLoop (.ListComp e0 gs sc ps) d (.ref jt) (.ref a) Y.env) R s:=by
 refine Ri (ht _) (λn' s'=>∃(j:Nat) (zs:List V) (H':Hp),Grown Y a PB σ zs H' s'/\tn j s'.heap/\(∀b∈fp,H' b=none)/\W j n' zs H') ?_ m0 ⟨0,ys,H,gr,st,hn,w0⟩;rintro n' k9 ⟨j,zs,O,L,i7,i6,v6⟩;obtain⟨its',k',r8,l7⟩:=L.at';have j4:=L.pin A r8;rcases o8 j n' zs O v6 with⟨stop,q⟩ | ⟨go2,hz0⟩
 .refine An (T.done Y rfl rfl rfl A.calm j _ k9 _ O _ j4 (i9 i6) i7 stop) λr j5 zq=>?_
  obtain⟨hr,w6⟩:=zq;subst hr;exact back zs O j5 (Ad.grown w6 L.len l7) q
 .obtain⟨hC,N2,u9,i8⟩:=hZ _ _ hz0;refine An (T.item Y rfl rfl rfl A.calm j _ k9 _ O _ j4 (i9 i6) i7 go2) λr j5 zq=>?_
  obtain⟨u2,hr,w8⟩:=zq;subst hr;refine An w8 λ_ i4 zq=>?_
  obtain⟨x2,l9,I14,u4,u5,I,j9⟩:=zq;have l6:=I14.pinned (i9 j9) (T.obj _ _ I);have j6:=hg _ i4 _ l9 x2 u2 _ l6 u4 (i8 x2 l9 u5);rw[hx]at j6;refine An j6 λ_ u8 zq=>?_
  obtain⟨i5,u7,I15,j7,v7⟩:=zq;have j8:=w9 _ u8 i5 u7 _ I15 v7;rw[hx]at j8;refine An j8 λb2 u6 zq=>?_
  obtain⟨v8,q8,o9⟩:=zq;have pn:∀p∈PB++Dg fp i4.heap,p.1≠a:=λp hp=>by
   rcases ay.mp hp with hp | hp
   .exact v3 p hp
   .exact na p.1 (Jl hp).1
  have D:∀ {σ':St}{c:List V}{H':Hp}{s':yS},Keep σ σ'->Grown Y a (PB++Dg fp i4.heap) σ' c H' s'->N2 c H'->∃m,m<n'/\∃(j:Nat) (zs:List V) (H':Hp),Grown Y a PB σ zs H' s'/\tn j s'.heap/\(∀b∈fp,H' b=none)/\W j m zs H':=λ{σ' c H' s'} kp G n2=>by
   obtain⟨m',hm,q9⟩:=u9 _ _ n2;refine⟨m',hm,j+1,c,H',⟨(G.inv.pins_of λp hp=>G.inv.pin p (YZ _ (ck _ hp))).weak (by rw[kp.len]) λi v e=>kp.get e,G.no,G.len,G.at'⟩,T.keep _ _ _ I λb hb o e=>(G.inv.pin (b,o) (YZ _ (YZ _ (Ff hb e)))).1,λb hb=>?_,q9⟩;obtain⟨o,e,d⟩:=T.obj _ _ I b hb;exact(G.inv.pin (b,o) (YZ _ (YZ _ (Ff hb e)))).2.1
  have j0:Grown Y a (PB++Dg fp i4.heap) i5 zs v8 u6:=Ad.grown q8 L.len l7;cases b2 with
  |false=>
   rw[YN YT];exact D j7 j0 (o9.2 rfl)
  |true=>
   rw[YR rfl];exact hb _ _ _ _ _ _ _ _ pn j0 hC (o9.1 rfl) λc H' s' G n2=>D j7 G n2
def JN(G:TE):TB:=fun g D H N=>G g H λy c=>N (D++[y]) c
theorem Mf{a:yR}{fz:yL}{d:Nat}(A:DQ Y a)(hx:Y.xe=λ_ _=>False)(he:PE Y fz te):F2 Y a E d (λjt=>Hh E d fz jt (.ref a) Y.env) (λzs=>zs.length<sizeLine) (JN te):=by
 intro jt PB σ zs H s N P i5 O j0 h back;obtain⟨c,k',i7,D⟩:=O.at';have Z:=O.pin A i7;have I:=he _ s σ H _ Z h;rw[hx]at I;refine Rg (An I λG g zq=>?_);obtain⟨y,L,J,i4,i9⟩:=zq;have gI:=Ad.grown J O.len D;have b4:=(J.pin (a,EI c k') (YZ _ Z1)).1;have hl:=D.length;refine aA F.slot_list_append ⟨_,b4,rfl⟩ F.entry_list_append (F.args_list_append_2 _ _) (PySem.list_append a c.toArray k' G (by rw[Z2];lia)) ⟨b4,?_⟩;have q:=PySem.IsL.update b4 (λa=>a.push G);have i6:c.toArray.push G=(c++[G]).toArray:=by simp
 rw[i6]at q;have i8:Ad Y PB σ L { g with heap:=g.heap.update a (Obj.mapSeq λa=>a.push G),toks:=g.toks}:=
  gI.inv.turned (it:=a) (λb o hb e=>(Zl g.heap _ (Zo hb)).trans e) gI.no A.loc A.sz A.cell λp hp z=>by
   rw[A.pn,cE]at hp;exact i5 p hp z
 exact back (zs++[y]) L _ ⟨i8,gI.no,by rw[Z7,ZF];lia,c++[G],_,q,D.append (.cons i4 .nil)⟩ i9
def Mg(Z:List V->Prop->Prop)(wi:TI)(g:TG)(tt:TT)(B:TB):TB:=fun L ys H N=>wi L H λJ H1=>∃W:Nat->Nat->List V->Hp->Prop,(∃m,W 0 m ys H1)/\∀j m G H,W j m G H->
  (J.stop j H/\N G H)\/(J.go j H/\Z G (∃O:List V->Hp->Prop,(∀I D,O I D->∃m',m'<m/\W (j+1) m' I D)/\∀x D,J.yld j H x D->g x L D fun c H2=>Keep L c/\tt c H2 λb H3=>br b (B c G H3 O) (O G H3)))
theorem Rk{L tg it:yL}{gs:List Comprehension}{i7:List yL}{D:Scope}{I:Pos}{d:Nat}{a:yR}{B:TB}{C:List V->Prop}{Z:List V->Prop->Prop}{body:yU->Sem PySem.Fin}(A:DQ Y a)(hx:Y.xe=λ_ _=>False)(hs:∀x,foldedSetIterable it Y.env x=pure x)
  (ht:∀fv,compTurn (.ListComp L gs D I) (d+1) fv (.ref a) Y.env=F1 (.ListComp L gs D I) (d+1) tg it i7 (body fv) fv (.ref a) Y.env)
  (i9:∀ {R:Result->yS->Prop}{s:yS}{j:yU},codeAny (model Y.prog Y.w) Y.A (.compLoop (.ListComp L gs D I) (d+1) j (.ref a) Y.env) R s->wpAny (model Y.prog Y.w) Y.A (pyIter j) (λj' s'=>codeAny (model Y.prog Y.w) Y.A (.compLoop (.ListComp L gs D I) (d+1) j' (.ref a) Y.env) R s') (notedBy (model Y.prog Y.w) Y.A Y.env λx s'=>R (.error x) s') s->codeAny (model Y.prog Y.w) Y.A (.compStart (.ListComp L gs D I) (d+1) j (.ref a) Y.env) R s)
  (hi:PI Y tg it wi) (hg:PG Y tg g) (l6:B8 Y i7 tt) (c:F2 Y a (.ListComp L gs D I) (d+1) body C B) (hZ:∀zs p,Z zs p->C zs/\p):F2 Y a (.ListComp L gs D I) d (λjt=>JM (.ListComp L gs D I) d it jt (.ref a) Y.env) (λ_=>True) (Mg Z wi g tt B):=by
 intro l9 PB σ ys H s N P j8 gr _ h back;obtain⟨j7,k,ee,v0⟩:=gr.at';have I0:=gr.pin A ee;have base:=hi _ s σ H _ I0 h;rw[hx]at base;refine Rh hs (An base λv9 s9 h9=>An h9 λl7 j0 k9=>?_);obtain⟨jt,fp,tn,J,o8,j9,j5,T,O,i5,W,⟨m2,w2⟩,i8⟩:=k9;subst j9;have j6:=Ad.grown j5 gr.len v0;have i6:∀b∈fp,b≠a/\∀p∈PB,p.1≠b:=λb c=>by
  obtain⟨_,_,_,_,_,f5⟩:=i5 b c;exact⟨λz=>f5 (a,EI j7 k) (YZ _ Z1) z.symm,λp hp=>f5 p (YZ _ (Z4 _ hp))⟩
 have j3:∀ {o:Obj}{H':Hp},(∀b∈fp,H' b=none)->∀b∈fp,BH Y ((a,o)::PB) H' b:=λ{o H'} hn b c=>by
  obtain⟨_,f1,j4,f3,f4,_⟩:=i5 b c;refine⟨hn b c,f1,j4,f3,f4,λp hp e=>?_⟩;rw[A.pn,cE]at hp;rcases YY.mp hp with rfl | hp
  .exact(i6 b c).1 e.symm
  .exact(i6 b c).2 p hp e
 have i4:codeAny (model Y.prog Y.w) Y.A (.compLoop (.ListComp L gs D I) (d+1) (.ref jt) (.ref a) Y.env) (λr s₆=>r= .ok .next/\P s₆) j0:=
  Me A j8 ht hx hg l6 c hZ T (λb c=>(i6 b c).1) j3 O j6 (λb c=>(i5 b c).1) w2 i8 λzs H' s' G n=>⟨rfl,back zs H' s' G n⟩
 exact i9 i4 (T.self _ 0 _ _ _ O i4)
theorem Mh{X:Cx}{tg D e0:yL}{gs:List Comprehension}{i5:List yL}{scope:Scope}{i7 j7:Pos}{wi:TI}{g:TG}{tt:TT}{Bt:TB}{Cd:List V->Prop}(Z:List V->Prop->Prop){N':List Str}{cap:List (Option Nat)}{use:Option (yU->Sem Unit)}{Q':VSP}{body:yU->yU->Env->Sem PySem.Fin}
  {ad:PNs}{s:yS}{σ:St}{H:Hp}{Q:List V->Hp->Prop}
  (hc:X.calm=true) (hi:PI X tg D wi) (B:AJ X.env.scope X.N scope N' cap) (hg:∀s H ex C,PG (AS X N' scope s H ex C) tg g) (ht:∀s H ex C,B8 (AS X N' scope s H ex C) i5 tt)
  (u7:∀fv fw env,compTurn (.ListComp e0 (⟨tg,D,i5,0⟩::gs) scope i7) 0 fv fw env=F1 (.ListComp e0 (⟨tg,D,i5,0⟩::gs) scope i7) 0 tg D i5 (body fv fw env) fv fw env)
  (q9:∀s H ex C a,DQ (AS X N' scope s H ex C) a->F2 (AS X N' scope s H ex C) a (.ListComp e0 (⟨tg,D,i5,0⟩::gs) scope i7) 0 (λfv=>body fv (.ref a) (AS X N' scope s H ex C).env) Cd Bt) (hZ:∀zs p,Z zs p->Cd zs/\p)
  (hs:∀x,foldedSetIterable D X.env x=pure x) (I:Ad X ad σ H s)
  (h:wi σ H λJ H1=>∃W:Nat->Nat->List V->Hp->Prop,(∃m,W 0 m [] H1)/\∀i m ys H,W i m ys H->(J.stop i H/\Q ys H)\/(J.go i H/\Z ys (∃N:List V->Hp->Prop,(∀l6 H',N l6 H'->∃m',m'<m/\W (i+1) m' l6 H')/\∀x H',J.yld i H x H'->g x (AR cap σ) H' fun σ2 H2=>Keep (AR cap σ) σ2/\tt σ2 H2 λb H3=>br b (Bt σ2 ys H3 N) (N ys H3))))
  (fin:∀(fw C:yR) (H:Hp) (ys:List V) (s':yS),H fw=none->Ad X ad σ (upd H fw (.lst ys)) s'->Hg X ad C (upd H fw (.lst ys)) s'->Q ys H->compPost (model X.prog X.w) X.A X.xe use Q' (.ref fw) C (.ok .next) s'):
  wpAny (model X.prog X.w) X.A (comprehension (.ListComp e0 (⟨tg,D,i5,0⟩::gs) scope i7) scope X.env j7 (newList []) false (eval D X.env) use) Q' X.xe s:=by
 have j6:closureFor scope X.env=pure (A9 X.env.cells scope.names []):=JE λy hy hf=>I.ok.has y.1 (B.free y hy hf)
 refine dE (cl:=A9 X.env.cells scope.names []) rfl hs j6 B.kind B.names (An (hi ad s σ H _ I h) λv s1 h1=>An h1 λfv s2 h2=>?_);obtain⟨it,fp,tn,J,H2,e,I2,T,j8,f2,W,⟨m0,w0⟩,l7⟩:=h2;subst e;refine Zy (L9 ?_);dsimp only;generalize hH3:s2.heap.push { cls:= .type "list",dict:=none,data:= .seq ([]:yX).toArray}=h3;have i6:h3.objs.size=s2.heap.objs.size+1:=by rw[<-hH3];exact Zf ..
 have l9:∀b o,s2.heap.get? b=some o->h3.get? b=some o:=λb o e=>by rw[<-hH3];exact Y2 _ e
 have j4:h3.get? s2.heap.objs.size=some { cls:= .type "list",data:= .seq ([]:yX).toArray}:=by rw[<-hH3];exact YL _ rfl
 have j5:∀b∈fp,b<s2.heap.objs.size:=λb L=>let ⟨o,e,_⟩:=T.obj _ _ j8 b L;Y8 e
 have I4:=Mc I2 B f2 j5 l9 (by rw[i6];exact Zx _);have o9:(pushCells (h3.push { cls:= .type "dict",data:= .dict #[]}) scope.names).get? s2.heap.objs.size=some { cls:= .type "list",data:= .seq ([]:yX).toArray}:=au _ _ _ _ (Y2 _ j4);have k9:tn 0 (pushCells (h3.push { cls:= .type "dict",data:= .dict #[]}) scope.names):=T.keep _ _ _ j8 λb _ o e=>au _ _ _ _ (Y2 _ (l9 b o e))
 have o8:s2.heap.objs.size≠h3.objs.size:=by rw[i6];exact Z0 (aN _)
 have q8:s2.heap.objs.size ∉ AG X.stack:=λz=>by
  rcases YY.mp (I2.stkSub _ z) with q | q
  .exact absurd I2.lt (by rw[<-q];exact YX _)
  .exact I2.nofs (Y4 _) q
 have j3:=I4.ok;have r8:∀ {O:PNs}{H':Hp},(∀b∈fp,H' b=none)->(∀p∈O,p.1=s2.heap.objs.size)->∀b∈fp,BH (AS X N' scope s2 H2 fp h3.objs.size) O H' b:=λ{O H'} hn hp b L=>
  ⟨hn b L, (j3.exf b L).1, j3.exfs b L, .inl L, (j3.exf b L).2, λp z e => by
   have z':p∈O:=z;have:=j5 b L;rw[<-e,hp p z']at this;exact YX _ this⟩
 have i9:∀x c,(AS X N' scope s2 H2 fp h3.objs.size).env.cells.lookup x=some c->c≠s2.heap.objs.size:=λx c ec z=>by
  rcases Fh scope.names (h3.objs.size+1) _ ec with q' | q'
  .rw[z,i6]at q';exact absurd q' (by lia)
  .have u4:X.env.cells.lookup x=some c:=(Ek _ _ q').elim id λz=>nomatch z
   obtain⟨_,u5⟩:=I2.cell x c u4;have:=u5.lt;rw[z]at this;exact YX _ this
 have j0:∀s4:yS,s4= { s2 with heap:=pushCells (h3.push { cls:= .type "dict",data:= .dict #[]}) scope.names}->
   codeAny (model X.prog X.w) X.A (.compLoop (.ListComp e0 (⟨tg,D,i5,0⟩::gs) scope i7) 0 (.ref it) (.ref s2.heap.objs.size) (JK scope X.env h3.objs.size)) (compPost (model X.prog X.w) X.A X.xe use Q' (.ref s2.heap.objs.size) h3.objs.size) s4:=by
  rintro s4 rfl;have A0:DQ (AS X N' scope s2 H2 fp h3.objs.size) s2.heap.objs.size:=⟨o8,q8,.inr (Y4 _),i9,rfl,hc⟩;refine Me (Y:=AS X N' scope s2 H2 fp h3.objs.size) (PB:=[]) (W:=W) A0 (λp hp=>absurd hp (by simp)) (λ_=>u7 _ _ _) rfl (hg _ _ _ _) (ht _ _ _ _) (q9 _ _ _ _ _ A0) hZ T (λb L z=>absurd (j5 b L) (by rw[z];exact YX _))
   (λ{o H'} hn b L=>r8 hn (λp hp=>by rw[Zc.mp hp]) b L) k9 ⟨I4,I2.hok.fresh (Y4 _),Z6 _,[],0,o9,.nil⟩ (λb L=>(f2 b L).1) w0 l7 λys H5 s6 G q=>?_
  obtain⟨u6,k,e6,v5⟩:=G.at';have j9:=G.no;have z5:=G.len;have I6:=G.inv;have i4:∀b u,H5 b=some u->b≠s2.heap.objs.size:=λb u q z=>by rw[z,j9]at q;cases q
  have un:Un (AG X.stack) fp H2 (upd H5 s2.heap.objs.size (.lst ys)) s2.heap s6.heap:=by
   have u:=I6.base;refine⟨u.keep,u.slot,λb o q n hx=>?_,u.there,λb xs q=>?_,λb o xs q=>?_,λb ps q=>?_⟩
   .rw[Ap (Z0 (Y8 q))];exact u.free b o q n hx
   .have z:=u.tups b xs q;rw[Ap (i4 b _ z)];exact z
   .have z:=u.frzs b o xs q;rw[Ap (i4 b _ z)];exact z
   .obtain⟨more,z⟩:=u.tbls b ps q;exact⟨more,by rw[Ap (i4 b _ z)];exact z⟩
  have hok:HOk X.prog X.w (upd H5 s2.heap.objs.size (.lst ys)) s6.heap:=λb u q=>by
   by_cases L:b=s2.heap.objs.size
   .subst L;rw[Af]at q;cases q;exact⟨z5,u6,k,v5,e6⟩
   .rw[Ap L]at q;have o6:ObjOk X.prog X.w H5 s6.heap b u:=I6.hok b u q;exact o6.stay (λ_ _ _ e=>e) (λc z=>by rw[Ap (i4 c _ z)];exact z) λc xs z=>by rw[Ap (i4 c _ z)];exact z
  have IX:Ad X ad σ (upd H5 s2.heap.objs.size (.lst ys)) s6:=I2.call' (show s6.os=s2.os from I6.os) un hok I6.bare λb L=>let f:=f2 b L;⟨f.2.2.2.1,f.2.1,f.2.2.2.2.1,f.2.2.2.2.2⟩
  have i8:s2.heap.objs.size<=h3.objs.size:=by rw[i6];exact Zx _
  refine fin _ _ H5 ys s6 j9 IX ⟨let ⟨m,hn,_⟩:=I6.loc;⟨m,hn⟩,?_,?_,YV I2.sz i8,λx c ec z=>?_,λp hp z=>?_⟩ q
  .rw[Ap (Zo o8)];exact I6.free
  .exact ZY (YQ I2.lt i8)
  .obtain⟨_,q⟩:=I2.cell x c ec;have:=q.lt;rw[z]at this;exact absurd (YQ this i8) (YX _)
  .have:=Y8 (I2.pin p hp).1;rw[z]at this;exact absurd (YQ this i8) (YX _)
 exact codeAny_compStart_list (j0 _ rfl) (T.self _ 0 _ _ _ k9 (j0 _ rfl))
theorem Mi{X:Cx}{Z c O:yL}{D:List yL}{scope:Scope}{J L:Pos}{wi:TI}{g:TG}{tt:TT}{te:TE}{N':List Str}{cap:List (Option Nat)}{use:Option (yU->Sem Unit)}{Q':VSP}
  {ad:PNs}{s:yS}{σ:St}{H:Hp}{Q:List V->Hp->Prop}
  (hc:X.calm=true) (hi:PI X Z c wi) (B:AJ X.env.scope X.N scope N' cap) (hg:∀s H ex C,PG (AS X N' scope s H ex C) Z g) (ht:∀s H ex C,B8 (AS X N' scope s H ex C) D tt) (he:∀s H ex C,PE (AS X N' scope s H ex C) O te)
  (hs:∀x,foldedSetIterable c X.env x=pure x) (I:Ad X ad σ H s) (h:JL wi cap g tt te σ H Q)
  (fin:∀(G C:yR) (H:Hp) (ys:List V) (s':yS),H G=none->Ad X ad σ (upd H G (.lst ys)) s'->Hg X ad C (upd H G (.lst ys)) s'->Q ys H->compPost (model X.prog X.w) X.A X.xe use Q' (.ref G) C (.ok .next) s'):
  wpAny (model X.prog X.w) X.A (comprehension (.ListComp O [⟨Z,c,D,0⟩] scope J) scope X.env L (newList []) false (eval c X.env) use) Q' X.xe s:=
 Mh Md (body:=λfv G env=>Hh (.ListComp O [⟨Z,c,D,0⟩] scope J) 0 O fv G env) (Bt:=JN te) hc hi B hg ht (λ_ _ _=>rfl) (λs H ex C a A=>Mf A rfl (he s H ex C)) (λ_ _ z=>z) hs I h fin
def Rl(I:TI)(cap:List (Option Nat))(g:TG)(J:TT)(L:TE):TE:=fun D H Q=>JL I cap g J L D H λG c=>∀p,c p=none->Q (.ref p) (upd c p (.lst G))
theorem Bh{G O:yL}{c:List yL}(N':List Str)(cap:List (Option Nat))
  (hc:X.calm=true) (hi:PI X G iter wi) (B:AJ X.env.scope X.N scope N' cap) (Z:∀s H ex C,PG (AS X N' scope s H ex C) G g) (ht:∀s H ex C,B8 (AS X N' scope s H ex C) c tt) (he:∀s H ex C,PE (AS X N' scope s H ex C) O te)
  (hs:autoParam (∀x,foldedSetIterable iter X.env x=pure x) o5):PE X (.ListComp O [⟨G,iter,c,0⟩] scope pos) (Rl wi cap g tt te):=by
 intro ad s σ H Q I h;rw[eval_ListComp];refine Mi (use:=none) hc hi B Z ht he hs I h λJ C H ys s' hn I' L q=>?_
 obtain⟨m,hm⟩:=L.ns;refine⟨m,hm,λh' D=>⟨.ref J,_,I'.turned (t':=s'.toks) (it:=C) (λb o hb e=>D.extBut b o hb e) L.free L.loc (.inr L.sz) L.cell L.pin,rfl,q J hn⟩⟩
def Rm(i:Nat)(L:TI)(cap:List (Option Nat))(g:TG)(J:TT)(O:TE):TS:=λD c H=>JL L cap g J O c H λI G=>∀p,G p=none->D.nx (c.set i (some (.ref p))) (upd G p (.lst I))
theorem Fj{i:Nat}{y:Str}{O Z:yL}{J:List yL}{c G:Pos}(N':List Str)(cap:List (Option Nat))(hN:X.N.Nodup)(i9:X.N[i]? =some y)(hy:Ef X.env.scope y)
  (hc:X.calm=true) (hi:PI X O iter wi) (B:AJ X.env.scope X.N scope N' cap) (hg:∀s H ex C,PG (AS X N' scope s H ex C) O g) (ht:∀s H ex C,B8 (AS X N' scope s H ex C) J tt) (he:∀s H ex C,PE (AS X N' scope s H ex C) Z te)
  (i6:autoParam (swapsWith (.ListComp Z [⟨O,iter,J,0⟩] scope pos) (some (.Name y c)) G.line X.env=pure true) j2)
  (hf:autoParam (X.fn y=true\/X.env.scope.names.lookup y=some .local) u3)
  (hs:autoParam (∀x,foldedSetIterable iter X.env x=pure x) o5):PS X (.Assign [.Name y c] (.ListComp Z [⟨O,iter,J,0⟩] scope pos) G) (Rm i wi cap g tt te):=by
 intro ad s σ H D I h;rw[eC _ _ _ _ i6];refine Y1 (aR (Y1 ?_));show wpAny _ X.A (do let _<-comprehension (.ListComp Z [⟨O,iter,J,0⟩] scope pos) scope X.env _ (newList []) false (eval iter X.env) (some (assign (.Name y c) X.env))) _ _ s;refine Y1 (Z9 (Mi (use:=some (assign (.Name y c) X.env)) (Q':=λ_ s'=>SP X ad D .next s') hc hi B hg ht he hs I h λfw C H ys s' hn I' L q=>?_) (λ_ s' hq=>Y6 (Y6 hq)) λ_ _ e=>e);obtain⟨m,hm⟩:=L.ns;refine df (Jf I' hN i9 hy (show Az (.ref fw) (.ref fw) from rfl) (λi8 i7 zq=>?_) hf);obtain⟨a,sb,ha⟩:=zq;have i5:C≠a:=by
  rcases ha with e | e
  .rw[e];exact L.loc
  .exact λz=>L.cell _ _ e z.symm
 refine⟨m,hm.sameBut sb i5,λh' i4=>?_⟩;exact⟨_,_,i7.turned (t':=i8.toks) (it:=C) (λb o hb e=>i4.extBut b o hb e) L.free L.loc (.inr L.sz) L.cell L.pin,q fw hn⟩
def EJ(J:It)(cap:List (Option Nat))(g:TG)(tt:TT)(Z:TE)(σ:St)(Q:List V->Hp->Prop)(H1:Hp):Prop:=
 ∃W:Nat->Nat->List V->Hp->Prop,(∃m,W 0 m [] H1)/\∀i m G H,W i m G H->
  (J.stop i H/\Q G H)\/
  (J.go i H /\ G.length < sizeLine /\ ∃ N : List V -> Hp -> Prop, (∀ I D, N I D -> ∃ O, O < m /\ W (i + 1) O I D) /\ ∀ x D, J.yld i H x D -> g x (AR cap σ) D fun c H2 => Keep (AR cap σ) c /\ tt c H2 λb L =>
   br b (Z c L λy H4=>N (G++[y]) H4) (N G L))
theorem Fk{J:It}(n:Nat)(c:Nat->List V->Hp->Prop)(hn:n<=100000)(h0:c 0 [] H)(hz:∀i ys H,c i ys H->ys.length<=i)
  (Z:∀i ys H,i<n->c i ys H->J.go i H/\∀x H',J.yld i H x H'->g x (AR cap σ) H' fun D H2=>Keep (AR cap σ) D/\tt D H2 λb I=>br b (te D I λy H4=>c (i+1) (ys++[y]) H4) (c (i+1) ys I))
  (hd:∀ys H,c n ys H->J.stop n H/\Q ys H):EJ J cap g tt te σ Q H:=by
 refine⟨λi m ys H=>m=n-i/\i<=n/\c i ys H,⟨n,by simp,Z6 _,h0⟩,?_⟩;rintro i m ys H ⟨rfl,hi,p⟩
 by_cases G:i<n
 .obtain⟨a,b⟩:=Z i ys H G p;refine .inr ⟨a,?_,c (i+1),λO H' L=>⟨n-(i+1),by lia,rfl,G,L⟩,b⟩;have:=hz i ys H p;have:(100000:Nat)<sizeLine:=by decide
  lia
 .have e:i=n:=by lia
  subst e;exact .inl (hd ys H p)
theorem BS{K:Fgx}{a:yR}(c:Nat->List V->Hp->Prop)(L:xs.length<=100000)(h0:c 0 [] H)(hz:∀i ys H,c i ys H->ys.length<=i)
  (G:∀i ys H,i<=xs.length->c i ys H->Ae K H a xs)
  (O:∀i x ys H,xs[i]? =some x->c i ys H->g x (AR cap σ) H fun D Z=>Keep (AR cap σ) D/\tt D Z λb I=>br b (te D I λy H4=>c (i+1) (ys++[y]) H4) (c (i+1) ys I))
  (hd:∀ys H,c xs.length ys H->Q ys H):EJ (ED K a) cap g tt te σ Q H:=
 Fk xs.length c L h0 hz (λi ys H hi p=>⟨⟨xs,xs[i],G i ys H (ZO hi) p,by simp[hi]⟩,λx H' J=>by obtain⟨e,y⟩:=J;subst e;exact O i x ys _ (y xs (G i ys _ (ZO hi) p)) p⟩)
  λys H p=>⟨⟨xs,G _ ys H (Y4 _) p,Y4 _⟩,hd ys H p⟩
theorem F3{K:Fgx}{a:yR}(c:Nat->List V->Hp->Prop)(L:xs.length<=100000)(h0:c 0 [] H)(hz:∀i ys H,c i ys H->ys.length<=i)
  (G:∀i ys H,i<=xs.length->c i ys H->Al K H a xs)
  (O:∀i x ys H,xs[i]? =some x->c i ys H->g x (AR cap σ) H fun D Z=>Keep (AR cap σ) D/\tt D Z λb I=>br b (te D I λy H4=>c (i+1) (ys++[y]) H4) (c (i+1) ys I))
  (hd:∀ys H,c xs.length ys H->Q ys H):EJ (Fe K a) cap g tt te σ Q H:=
 Fk xs.length c L h0 hz (λi ys H hi p=>⟨⟨xs,xs[i],G i ys H (ZO hi) p,by simp[hi]⟩,λx H' J=>by obtain⟨e,y⟩:=J;subst e;exact O i x ys _ (y xs (G i ys _ (ZO hi) p)) p⟩)
  λys H p=>⟨⟨xs,G _ ys H (Y4 _) p,Y4 _⟩,hd ys H p⟩
theorem F4{lo:Int}{n:Nat}(D:Nat->List V->Hp->Prop)(J:n<=100000)(h0:D 0 [] H)(hz:∀i ys H,D i ys H->ys.length<=i)
  (L:∀i ys H,i<n->D i ys H->g (.int (lo+i)) (AR cap σ) H fun c O=>Keep (AR cap σ) c/\tt c O λb G=>br b (te c G λy Z=>D (i+1) (ys++[y]) Z) (D (i+1) ys G))
  (hd:∀ys H,D n ys H->Q ys H):EJ (Du lo n) cap g tt te σ Q H:=
 Fk n D J h0 hz (λi ys H hi p=>⟨hi,λx H' I=>by obtain⟨e,y⟩:=I;subst e y;exact L i ys _ hi p⟩) λys H p=>⟨Y4 _,hd ys H p⟩
end
section
open AutoSeq1 (wpAny_loadPart')
section
variable{prog:yP}{w:yN}{A:yO}{E:yY}{s:yS}
theorem Rn{it t:yR}{i:Nat}{items:Array yU}{x:yU}{Q:VSP}(c:s.heap.IsTupleIter it t i)(L:s.heap.IsTuple t items)(O:items[i]? =some x)
  (I:∀h',h'.IsTupleIter it t (i+1)->Heap.SameBut it s.heap h'->Q x { s with heap:=h'}):wpAny (model prog w) A (Builtin.SmallTypes.nextOf (.ref it)) Q E s:=by
 obtain⟨o,g,J,hd⟩:=id c;obtain⟨ol,G,_,Z,D⟩:=L;unfold Builtin.SmallTypes.nextOf;refine Y1 (ZB (name:=Str.ofString "__next__") c.typeIs aK (ZZ aK c.typeIs cU ?_ (cQ _)));show wpAny _ _ (field (.ref it) 0>>=_) _ _ s;refine Y1 (ZJ g hd (x:= .ref t) rfl ?_);show wpAny _ _ (if (Value.ref t==Value.none)=true then _ else _) _ _ s;rw[YN (show ¬((Value.ref t==Value.none)=true) from YT)];show wpAny _ _ (field (.ref it) 1>>=_) _ _ s;refine Y1 (ZJ g hd (x:= .int i 0) rfl ?_);show wpAny _ _ (seqItems? (.ref t) >>=_) _ _ s;refine Y1 (ZI G D ?_);simp only[aX,O];refine Y1 (wpAny_setField g hd (by simp) (Y6 ⟨x,rfl,Y6 (I _ ?_ (cN ..))⟩));exact⟨_,Zp _ g (Obj.isFreed_of_fields (Obj.data_mapFields hd _)),(Obj.cls_mapFields ..).trans J,by rw[Obj.data_mapFields hd];simp[rawInt]⟩
theorem Ro{it t:yR}{i:Nat}{items:Array yU}{Q:VSP}(I:A.handled=none)(c:s.heap.IsTupleIter it t i)(L:s.heap.IsTuple t items)(O:items[i]? =none)
  (J:∀h' e,Heap.ExtBut it s.heap h'->(∃o,h'.get? e=some o/\o.cls= .type "StopIteration")->E (.ref e) { s with heap:=h'}):wpAny (model prog w) A (Builtin.SmallTypes.nextOf (.ref it)) Q E s:=by
 obtain⟨o,g,hc,hd⟩:=id c;obtain⟨ol,G,_,Z,D⟩:=L;unfold Builtin.SmallTypes.nextOf;refine Y1 (ZB (name:=Str.ofString "__next__") c.typeIs aK (ZZ aK c.typeIs cU ?_ (cQ _)));show wpAny _ _ (field (.ref it) 0>>=_) _ _ s;refine Y1 (ZJ g hd (x:= .ref t) rfl ?_);show wpAny _ _ (if (Value.ref t==Value.none)=true then _ else _) _ _ s;rw[YN (show ¬((Value.ref t==Value.none)=true) from YT)];show wpAny _ _ (field (.ref it) 1>>=_) _ _ s;refine Y1 (ZJ g hd (x:= .int i 0) rfl ?_);show wpAny _ _ (seqItems? (.ref t) >>=_) _ _ s;refine Y1 (ZI G D ?_);simp only[aX,O];refine Y1 (bP (Y1 (wpAny_setField g hd (by simp) ?_)));show wpAny _ _ (newExc (.type "StopIteration") [] >>=_) _ _ _;refine Y1 ?_;simp only[newExc,newTuple];refine Y1 (Zy ?_ (by size_fits));refine Y1 (m:=firstArgMember _ _) (bw (a:=Value.none) (by first | rfl | (simp only[firstArgMember];rfl)) ?_);refine Zy ?_ (by size_fits);simp only[raiseNew];refine Y1 (wpAny_handled ?_);first | rw[show A.in1.handled=none from I] | rw[I]
 refine Y1 (Y6 (wpAny_throw ?_));exact J _ _ (((cN ..).extBut.push _).push _) ⟨_,YL _ rfl,rfl⟩
end
structure Bk(P:yP)(w:yN)(K:Fgx) where
 Sq:Hp->yR->List V->Prop
 It:Heap->yR->yR->Nat->Prop
 Is:Heap->yR->Array yU->Prop
 obj:yR->Obj
 get:∀ {X:Cx}{ad:PNs}{σ:St}{H:Hp}{s:yS}{a:yR}{xs:List V},X.K=K->Ad X ad σ H s->Sq H a xs->∃its:yX,At xs its/\Is s.heap a its.toArray/\xs.length<=sizeLine
 inj:∀ {X:Cx}{ad:PNs}{σ:St}{H:Hp}{s:yS}{a:yR}{xs ys:List V},X.K=K->Ad X ad σ H s->Sq H a xs->Sq H a ys->xs=ys
 draws:∀(A:yO),A.handled=none->∀(it l:yR),l≠it->∀items:Array yU,Draws P w A it [it,l] items.size (λi v=>items[i]? =some v) (λi h=>It h it l i/\Is h l items)
 ito:∀ {h:Heap}{it l:yR}{i:Nat},It h it l i->∃o,h.get? it=some o/\∀v,o.data≠ .cell v
 itk:∀ {h h':Heap}{it l:yR}{i:Nat},It h it l i->(∀o,h.get? it=some o->h'.get? it=some o)->It h' it l i
 isk:∀ {h h':Heap}{l:yR}{items:Array yU},Is h l items->(∀o,h.get? l=some o->h'.get? l=some o)->Is h' l items
 iso:∀ {h:Heap}{l:yR}{items:Array yU},Is h l items->∃o,h.get? l=some o
 ok:Prop
 itn:ok->∀(h:Heap) (l:yR),It (h.push (obj l)) h.objs.size l 0
def DD(P:yP)(w:yN)(K:Fgx):Bk P w K where
 Sq:=λH a G=>Al K H a G
 It:=λh it l i=>h.IsListIter it l i
 Is:=λh l g=>h.IsList l g
 obj:=λl=> { cls:= .type "list_iterator",data:= .fields #[.ref l,.int 0 0]}
 get:=λ{X ad σ H s a G} hK I q=>by subst hK;obtain⟨J,r,p,z⟩:=I.list q;exact⟨J,r,p.isList,z⟩
 inj:=λ{X ad σ H s a G ys} hK I q q'=>by subst hK;exact I.list_inj q q'
 draws:=λA L it l D g=>Draws.list L it l D g
 ito:=λ{h it l i} ⟨o,e,c,d⟩=>⟨o,e,λv z=>by rw[d]at z;cases z⟩
 itk:=λ{h h' it l i} x k=>x.at k
 isk:=λ{h h' l g} x k=>x.at k
 iso:=λ{h l g} ⟨o,e,_⟩=>⟨o,e⟩
 ok:=True
 itn:=λ_ h l=>⟨_,YL _ rfl,rfl,rfl⟩
def Dk(P:yP)(w:yN)(K:Fgx):Bk P w K where
  Sq:=λH a O=>Ae K H a O
  It:=λh it l i=>h.IsTupleIter it l i
  Is:=λh l g=>h.IsTuple l g
  obj:=λl=> { cls:= .type "tuple_iterator",data:= .fields #[.ref l,.int 0 0]}
  get:=λ{X ad σ H s a O} hK I q=>by subst hK;obtain⟨Z,r,p,z⟩:=I.tuple q;exact⟨Z,r,p,z⟩
  inj:=λ{X ad σ H s a O ys} hK I q q'=>by subst hK;exact I.tuple_inj q q'
  draws:=λA hh it l J g=>
    { live:=λ_ _ st=>let ⟨o,ho,_⟩:=st.1;⟨o,ho⟩
      frame:=λ_ _ _ st hk=>⟨let ⟨o,e,r⟩:=st.1;⟨o,hk it (by simp) o e,r⟩,let ⟨o,e,r⟩:=st.2;⟨o,hk l (by simp) o e,r⟩⟩
      item:=λi s Q E hi st hQ=>Rn st.1 st.2 (x:=g[i]) (by simp[hi]) λL D G=>hQ _ L s.toks (by simp[hi]) ⟨D,st.2.extBut G.extBut J⟩ G
      done:=λs Q E st hE=>Ro hh st.1 st.2 (by simp) hE}
  ito:=λ{h it l i} ⟨o,e,c,d⟩=>⟨o,e,λv z=>by rw[d]at z;cases z⟩
  itk:=λ{h L it l i} ⟨o,e,r⟩ k=>⟨o,k o e,r⟩
  isk:=λ{h L l g} ⟨o,e,r⟩ k=>⟨o,k o e,r⟩
  iso:=λ{h l g} ⟨o,e,_⟩=>⟨o,e⟩
  ok:=True
  itn:=λ_ h l=>⟨_,YL _ rfl,rfl,rfl⟩
end
section
variable{X:Cx}{ad:List (yR × Obj)}{σ:St}{H:Hp}{s:yS}{wr:List yR}{h':Heap}{p pos pos':Pos}{ta:TA}
open AutoSeq1 (wpAny_loadPart')
theorem Ad.yielded{tk:Nat}{T:yR}{vs:List V}{us:yX}(I:Ad X ad σ H s)(G:∀b∈wr,BH X ad H b)
  (k:∀b o,b ∉ wr->s.heap.get? b=some o->h'.get? b=some o) (Z:s.heap.objs.size<=T) (ht:IsTup h' T us.toArray) (rv:At vs us) (hz:vs.length<=sizeLine):
  Ad X ad σ (upd H T (.tup vs)) { s with heap:=h',toks:=tk}:=by
 have J:H T=none:=I.hok.fresh Z;have nT:∀b u,H b=some u->b≠T:=λb u e=>BC e J
 have L:∀b u,H b=some u->b ∉ wr:=λb u e z=>by have:=(G b z).1;rw[e]at this;cases this
 refine I.step (g':=s.gens) (d':=s.drawn) (ch:=wr) (λb D=>let f:=G b D;⟨f.2.2.2.1,f.2.1,f.2.2.2.2.1,f.2.2.2.2.2⟩) (λb o _ _ g e _=>k b o g e) (λb o _ _ g e _=>⟨o.slots,k b o g e⟩)
  (λb o g e n=>?_) (λb o g e=>⟨o,k b o g e⟩) (λb O e=>by rw[Ap (nT b _ e)];exact e) (λb o O e=>by rw[Ap (nT b _ e)];exact e) (λb ps e=>⟨#[],by rw[Ap (nT b _ e),e];simp⟩) (λm hm=>?_) (λb u e=>?_) I.bare
 .rw[Ap (Z0 (YQ (Y8 e) Z))];exact n
 .obtain⟨o,es,ep,ho,r⟩:=hm;exact⟨o,es,ep,k _ o (λz=>(G _ z).2.1 rfl) ho,r⟩
 .by_cases D:b=T
  .subst D;rw[Af]at e;cases e;exact⟨hz,us,rv,ht⟩
  .rw [Ap D] at e;refine(I.hok b u e).stay (λc v g q=>k c v ?_ q) (λc q=>by rw [Ap (nT c _ q)];exact q) λc O q=>by rw [Ap (nT c _ q)];exact q
   rcases g with z | z
   .rw[z];exact L b u e
   .exact L c _ z
theorem Ad.ended{tk:Nat}(I:Ad X ad σ H s)(D:∀b∈wr,BH X ad H b)
  (k:∀b o,b ∉ wr->s.heap.get? b=some o->h'.get? b=some o):Ad X ad σ H { s with heap:=h',toks:=tk}:=by
 have G:∀b u,H b=some u->b ∉ wr:=λb u e z=>by have:=(D b z).1;rw[e]at this;cases this
 refine I.step (g':=s.gens) (d':=s.drawn) (ch:=wr) (λb hb=>let f:=D b hb;⟨f.2.2.2.1,f.2.1,f.2.2.2.2.1,f.2.2.2.2.2⟩) (λb o _ _ g e _=>k b o g e) (λb o _ _ g e _=>⟨o.slots,k b o g e⟩)
  (λb o g e n=>n) (λb o g e=>⟨o,k b o g e⟩) (λb J e=>e) (λb o J e=>e) (λb ps e=>⟨#[],by rw[e];simp⟩) (λm L=>?_) (λb u e=>?_) I.bare
 .obtain⟨o,es,O,Z,r⟩:=L;exact⟨o,es,O,k _ o (λz=>(D _ z).2.1 rfl) Z,r⟩
 .refine(I.hok b u e).stay (λc v g q=>k c v ?_ q) (λc q=>q) λc J q=>q
  rcases g with z | z
  .rw[z];exact G b u e
  .exact G c _ z
def El{P:yP}{w:yN}{K:Fgx}(S:Bk P w K)(a:yR):It:=
 ⟨λi H=>∃c x,S.Sq H a c/\c[i]? =some x,λi H v g=>∃T,v= .ref T/\H T=none/\∀c x,S.Sq H a c->c[i]? =some x->g=upd H T (.tup [.int i,x]),λi H=>∃c,S.Sq H a c/\c.length=i⟩
theorem Mj{P:yP}{w:yN}{K:Fgx}(S:Bk P w K){es:List yL}{k:Nat}{O:Pos}(a e it:yR)(G:e≠it)(i4:a≠it)(i6:a≠e):
  De P w K (.Tuple es k O) (El S a) [e,it] e (λi h=>(∃g,IsEnum h e it (i:Nat) g)/\S.It h it a i) where
 mem:=by simp
 obj:=λi h st b c=>by
  obtain⟨⟨g,he⟩,hi⟩:=st;rcases YY.mp c with z | c
  .rw[z];exact⟨_,he,λv z=>by
    have z':Data.fields _=Data.cell v:=z;cases z'⟩
  .rw[Zc.mp c];exact S.ito hi
 keep:=λi h h' st kk=>by
  obtain⟨⟨g,he⟩,hi⟩:=st;exact⟨⟨g,kk e (by simp) _ he⟩,S.itk hi λo q=>kk it (by simp) o q⟩
 item:=by
  intro X hP hw hK hc i ad s σ H E I hf st hg;subst hP hw;obtain⟨xs,x,hq,hx⟩:=hg;obtain⟨D,rv,is,hz⟩:=S.get hK I hq;obtain⟨u,hu,ru⟩:=rv.get hx;have W:=WalksT.enumerateD (S.draws X.A.in1 (I.ok.hd hc) it a i4 D.toArray) e G (by simp[G,Zo i6]) (by simp);have hi:i<D.toArray.size:=by have:=(Y3.mp hu).1;simpa using this
  refine W.item i s _ _ hi ⟨st.1,st.2,is⟩ λT i9 h1 tk hp hT i5 J hk=>⟨_,rfl,?_⟩
  obtain⟨t,y,hy,hv⟩:=hp;have ey:y=u:=by
   have q:D.toArray[i]? =some u:=by simpa using hu
   rw[q]at hy;exact(Y9 hy).symm
  subst ey hv;refine W.go es k O i T { s with heap:=h1,toks:=tk} _ _ J λh2 Z i7=>?_
  have kk:∀b o,b ∉ [e,it]->s.heap.get? b=some o->h2.get? b=some o:=λb o c q=>i7 b o c (hk b o c q)
  have L:IsTup h2 T [Value.int i t,y].toArray:=by
   obtain⟨o,q,r⟩:=i5;exact⟨o,i7 T o (W.apart i T h1 J) q,r⟩
  exact⟨.ref T,upd H T (.tup [.int i,x]),I.yielded (tk:=tk) (λb c=>hf b c) kk hT L (.cons ⟨t,rfl⟩ (.cons ru .nil)) (by show 2<=sizeLine;decide),rfl,
   ⟨T, rfl, I.hok.fresh hT, λys z hy hz => by
    rw[S.inj hK I hy hq,hx]at hz;cases hz;rfl⟩,⟨Z.1,Z.2.1⟩,λb c=>by
    have i8:b<s.heap.objs.size:=by
     rcases YY.mp c with z | c
     .rw[z];obtain⟨g,q⟩:=st.1;exact Y8 q
     .rw[Zc.mp c];obtain⟨o,q,_⟩:=S.ito st.2;exact Y8 q
    rw[Ap (Z0 (YQ i8 hT))];exact(hf b c).1⟩
 done:=by
  intro X hP hw hK hc i ad s σ H E I hf st hg;subst hP hw;obtain⟨xs,hq,hx⟩:=hg;obtain⟨D,rv,is,hz⟩:=S.get hK I hq;have W:=WalksT.enumerateD (S.draws X.A.in1 (I.ok.hd hc) it a i4 D.toArray) e G (by simp[G,Zo i6]) (by simp);have hn:D.toArray.size=i:=by have:=rv.length;simp;lia
  rw[hn]at W;exact W.done s _ _ ⟨st.1,st.2,is⟩ λh' tk hk=>⟨rfl,I.ended (tk:=tk) (λb c=>hf b c) hk⟩
 self:=λ_ _ _ _ _ st h=>by
  obtain⟨⟨g,he⟩,_⟩:=st;exact dm he h
theorem Rp(l:yR)(items:Array yU):
    Meets (Builtin.«enumerate.__new__» ⟨[.type "enumerate",.ref l],[]⟩) (λ_ R s=>s.heap.IsTuple l items/\R (.ok (.ret (.ref (s.heap.push { cls:= .type "tuple_iterator",data:= .fields #[.ref l,.int 0 0]}).objs.size)))
        { s with heap:=(s.heap.push { cls:= .type "tuple_iterator",data:= .fields #[.ref l,.int 0 0]}).push { cls:= .type "enumerate",data:= .fields #[.none,.bool false,.ref s.heap.objs.size,rawInt 0,.none,.none]}}):=
  .of_wp λprog w A R s h=>by
    obtain⟨hp,g,d,tk,os⟩:=s;obtain⟨L,h⟩:=h;obtain⟨⟨Z,i4,dt,sl⟩,I,G,n,D⟩:=id L;replace G:Z= .type "tuple" :=G;replace D:dt= .seq items n:=D;subst G D;have O:=sub_enumerate;have J:Heap.IsTuple (Shared.heap ⟨hp,g,d,tk,os⟩) l items:=⟨_,I,rfl,n,rfl⟩
    wp_walk using Zk I
    refine wpAny_stack_any λst=>Y6 ?_;split
    . rename_i c _ _ _ _ _;cases(c==Value.type "enumerate")
      . wp_walk using Zk I,al J;exact⟨_,rfl,h⟩
      . wp_walk using Zk I,al J;exact⟨_,rfl,h⟩
    . wp_walk using Zk I,al J;exact⟨_,rfl,h⟩
theorem Rq{prog:yP}{w:yN}{A:yO}{E:VSP}{s:yS}{l:yR}{items:Array yU}{Q:VSP}(D:s.heap.IsTuple l items)
  (h:∀h',IsEnum h' (s.heap.objs.size+1) s.heap.objs.size 0 .none->h'.IsTupleIter s.heap.objs.size l 0->h'.objs.size=s.heap.objs.size+2->(∀b o,s.heap.get? b=some o->h'.get? b=some o)->Q (.ref (s.heap.objs.size+1)) { s with heap:=h'}):
  wpAny (model prog w) A (call (.type "enumerate") [.ref l]) Q E s:=by
 refine callType_new F.called_enumerate (by decide) (F.typeCall_enumerate_1 _) (F.newCall_enumerate_1 _) (λobj=>F.args_object_init_2 obj _) F.entry_enumerate_new (Rp l items) ⟨D,?_⟩;have c:(s.heap.push { cls:= .type "tuple_iterator",data:= .fields #[.ref l,.int 0 0]}).objs.size=s.heap.objs.size+1:=Zf ..;show _/\_;rw[c];have g:IsEnum ((s.heap.push { cls:= .type "tuple_iterator",data:= .fields #[.ref l,.int 0 0]}).push { cls:= .type "enumerate",data:= .fields #[.none,.bool false,.ref s.heap.objs.size,rawInt 0,.none,.none]}) (s.heap.objs.size+1) s.heap.objs.size 0 .none:=by
  have:=YL (s.heap.push { cls:= .type "tuple_iterator",data:= .fields #[.ref l,.int 0 0]}) (o:= { cls:= .type "enumerate",data:= .fields #[.none,.bool false,.ref s.heap.objs.size,rawInt 0,.none,.none]}) rfl;rw[c]at this;exact this
 exact⟨⟨_,g,rfl⟩,h _ g ⟨_,Y2 _ (YL _ rfl),rfl,rfl⟩ (by rw[Zf,c]) λb o x=>Y2 _ (Y2 _ x)⟩
def Hj{P:yP}{w:yN}{K:Fgx}(S:Bk P w K)(I:TA):TI:=fun g H R=>I g H λG c=>∃a,G=[.ref a]/\(∃D,S.Sq c a D)/\R (El S a) c
theorem Rr{es:List yL}{k:Nat}{a:yL}(hg:Gl X "enumerate")(hm:X.mg "enumerate"=none)(ha:PA X [a] ta)(hs:autoParam (starEach [a] X.env=[(false,eval a X.env)]) j2):
  PI X (.Tuple es k pos') (.Call (.Name "enumerate" p) [a] [] pos) (Hj (DD X.prog X.w X.K) ta):=by
 intro ad s Z H R I h;refine Call_ (CN I hg hm boot_enumerate (Zi (An (ha pos ad s Z H _ I h) λus s1 zq=>?_) hs rfl));obtain⟨vs,O,c,r1,q1⟩:=zq;obtain⟨l,e,⟨xs,hq⟩,q⟩:=q1;subst e;obtain⟨u,rfl,ru⟩:=r1.one;cases ru;obtain⟨i5,rv,J,hz⟩:=c.list hq;obtain⟨ol,G⟩:=(DD X.prog X.w X.K).iso J.isList;have g:=Y8 G;refine call_enumerate_list J.isList λh' L hI i4 hk=>?_
 have I2:Ad X ad Z O { s1 with heap:=h'}:=c.kept (t':=s1.toks) hk;refine dm L ⟨s1.heap.objs.size+1,[s1.heap.objs.size+1,s1.heap.objs.size],_,_,O,rfl,I2,Mj (DD X.prog X.w X.K) l (s1.heap.objs.size+1) s1.heap.objs.size (bZ _) (Z0 g) (Z0 (ZT g)),⟨⟨_,L⟩,hI⟩,λb D=>?_,q⟩;rcases YY.mp D with z | D
 .rw[z];exact c.fpOk (Zx _) (c.hok.fresh (Zx _))
 .rw[Zc.mp D];exact c.fpOk (Y4 _) (c.hok.fresh (Y4 _))
theorem Rt{es:List yL}{k:Nat}{a:yL}(hg:Gl X "enumerate")(hm:X.mg "enumerate"=none)(ha:PA X [a] ta)(hs:autoParam (starEach [a] X.env=[(false,eval a X.env)]) j2):
  PI X (.Tuple es k pos') (.Call (.Name "enumerate" p) [a] [] pos) (Hj (Dk X.prog X.w X.K) ta):=by
 intro ad s σ H R I h;refine Call_ (CN I hg hm boot_enumerate (Zi (An (ha pos ad s σ H _ I h) λus s1 zq=>?_) hs rfl));obtain⟨vs,Z,c,r1,q1⟩:=zq;obtain⟨l,e,⟨xs,hq⟩,q⟩:=q1;subst e;obtain⟨u,rfl,ru⟩:=r1.one;cases ru;obtain⟨L,rv,is,hz⟩:=c.tuple hq;obtain⟨ol,G,D⟩:=id is;have g:=Y8 G;refine Rq (items:=L.toArray) ⟨ol,G,D⟩ λh' O hI i4 hk=>?_
 have I2:Ad X ad σ Z { s1 with heap:=h'}:=c.kept (t':=s1.toks) hk;refine dm O ⟨s1.heap.objs.size+1,[s1.heap.objs.size+1,s1.heap.objs.size],_,_,Z,rfl,I2,Mj (Dk X.prog X.w X.K) l (s1.heap.objs.size+1) s1.heap.objs.size (bZ _) (Z0 g) (Z0 (ZT g)),⟨⟨_,O⟩,hI⟩,λb J=>?_,q⟩;rcases YY.mp J with z | J
 .rw[z];exact c.fpOk (Zx _) (c.hok.fresh (Zx _))
 .rw[Zc.mp J];exact c.fpOk (Y4 _) (c.hok.fresh (Y4 _))
end
section
variable{a1 a2:yU}{X:Cx}{p pos pos':Pos}{e1 e2:yL}{ta:TA}
open AutoSeq1 (wpAny_loadPart')
def Dr{P:yP}{w:yN}{K:Fgx}(S:Bk P w K)(it l:yR)(xs:Array yU)(k:Nat)(h:Heap):Prop:=S.It h it l k/\S.Is h l xs
theorem Dr.ext{P:yP}{w:yN}{K:Fgx}{S:Bk P w K}{it l b:yR}{xs:Array yU}{k:Nat}{h h':Heap}(d:Dr S it l xs k h)(e:Heap.ExtBut b h h')(g:it≠b)(c:l≠b):Dr S it l xs k h':=
 ⟨S.itk d.1 λo q=>e it o g q,S.isk d.2 λo q=>e l o c q⟩
abbrev CY(h:Heap)(z TI TO:yR)(f0 c:yU):Prop:=h.get? z=some { cls:= .type "zip",dict:=none,data:= .fields #[f0,c,.bool false,.ref TI,.ref TO],slots:= #[]}
def F5(h:Heap)(z TI TO:yR):Prop:=∃f0 c,CY h z TI TO f0 c/\(f0= .none\/ ∃T:yR,f0=rawInt T)/\(c= .bool false\/c= .bool true)
theorem Ru{M:Model}{A:yO}{E:VSP}{s:yS}{a:yR}{Q:Option Obj->yS->Prop}(h:Q (s.heap.get? a) s):wpAny M A (loadIfAlive a) Q E s:=λ_ _ _=>h
theorem Ml{P:yP}{w:yN}{A:yO}{E:VSP}{s:yS}{z TI TO:yR}{Q:Bool->yS->Prop}(hz:F5 s.heap z TI TO)(O:∀f0 g,CY s.heap z TI TO f0 g->Q true s)
  (Z:∀c,∀T:yR,∀g D,CY s.heap z TI TO (rawInt T) g->CY c z TI TO (rawInt T) D->(D= .bool false\/D= .bool true)->Heap.SameBut z s.heap c->Q false { s with heap:=c}):
  wpAny (model P w) A (Builtin.SmallTypes.ownedTupleIsFree (.ref z)) Q E s:=by
 obtain⟨f0,g,hz,G,I⟩:=hz;unfold Builtin.SmallTypes.ownedTupleIsFree;refine Y1 (ZJ hz rfl (x:=f0) rfl ?_);rcases G with rfl | ⟨T,rfl⟩
 .exact Y6 (O _ _ hz)
 .show wpAny _ _ (loadIfAlive T>>=_) _ _ _;refine Y1 (Ru ?_);cases i4:s.heap.get? T with
  |none=>
   simp only[Option.isNone_none,aS];exact Y6 (O _ _ hz)
  |some oT=>
   simp only[Option.isNone_some,am,bo];show wpAny _ _ (field (.ref z) 1>>=_) _ _ _;refine Y1 (ZJ hz rfl (x:=g) rfl ?_);rcases I with rfl | rfl
   .exact Y1 (aE hz (by simp) λc L J=>Y6 (Z c T _ _ hz L (.inr rfl) J))
   .exact Y1 (Y6 (Y6 (Z s.heap T _ _ hz hz (.inr rfl) ⟨rfl,λ_ _=>rfl⟩)))
structure F6(z TI TO i1 i2 l1 l2:yR):Prop where
 TI_z:TI≠z
 TO_z:TO≠z
 TO_TI:TO≠TI
 i1_z:i1≠z
 i1_TI:i1≠TI
 i1_TO:i1≠TO
 i2_z:i2≠z
 i2_TI:i2≠TI
 i2_TO:i2≠TO
 i2_i1:i2≠i1
 l1_z:l1≠z
 l1_TO:l1≠TO
 l1_i1:l1≠i1
 l1_i2:l1≠i2
 l2_z:l2≠z
 l2_TO:l2≠TO
 l2_i1:l2≠i1
 l2_i2:l2≠i2
abbrev BK(h:Heap)(T:yR)(g c:yU):Prop:=h.get? T=some { cls:= .type "tuple",data:= .seq #[g,c]}
theorem Mm{prog:yP}{w:yN}{A:yO}{E:VSP}{s:yS}{T:yR}{x:yU}{k:Nat}{Q:Unit->yS->Prop}(c:BK s.heap T a1 a2)
  (h:∀h',h'.get? T=some { cls:= .type "tuple",data:= .seq ((#[a1,a2]:Array yU).setIfInBounds k x)}->Heap.SameBut T s.heap h'->Q () { s with heap:=h'}):
  wpAny (model prog w) A (updateSeq T (·.setIfInBounds k x)) Q E s:=by
 have got:=Zp (Obj.mapSeq λy=>y.setIfInBounds k x) c rfl;exact ZL c rfl (h _ (got.trans (by simp[Obj.mapSeq])) (cN ..))
section
variable{P:yP}{w:yN}{K:Fgx}{A:yO}{E:yY}{s:yS}(S1 S2:Bk P w K)
theorem Mo{z TI TO i1 i2 l1 l2:yR}{k:Nat}{L J:Array yU}{x1 x2 a1 a2:yU}{Q:VSP}(hh:A.handled=none)(D:F6 z TI TO i1 i2 l1 l2)(hz:F5 s.heap z TI TO)(hTI:BK s.heap TI (.ref i1) (.ref i2))(w8:BK s.heap TO a1 a2)(h1:Dr S1 i1 l1 L k s.heap)(h2:Dr S2 i2 l2 J k s.heap)(u4:L[k]? =some x1)(u9:J[k]? =some x2)
  (hQ : ∀ h' tk, F5 h' z TI TO -> (IsZip h' z TI TO (rawInt s.heap.objs.size) \/ IsZip s.heap z TI TO .none -> IsZip h' z TI TO (rawInt s.heap.objs.size)) -> (∃ a1 a2, BK h' TO a1 a2) -> Dr S1 i1 l1 L (k + 1) h' -> Dr S2 i2 l2 J (k + 1) h' -> BK h' s.heap.objs.size x1 x2 -> h'.objs.size = s.heap.objs.size + 1 ->
   (∀c o,c≠z->c≠TO->c≠i1->c≠i2->s.heap.get? c=some o->h'.get? c=some o)->Q (.ref s.heap.objs.size) { s with heap:=h',toks:=tk}):
  wpAny (model P w) A (Builtin.«zip.__next__» ⟨[.ref z],[]⟩) (λfin s'=>∃v,fin= .done (.ret v)/\Q v s') E s:=by
 have v7:k<L.size:=(bv.mp u4).1;have v3:k<J.size:=(bv.mp u9).1;have D1:=fun(A:yO) (hh:A.handled=none)=>S1.draws A hh i1 l1 D.l1_i1 L
 have D2:=fun(A:yO) (hh:A.handled=none)=>S2.draws A hh i2 l2 D.l2_i2 J
 obtain⟨f0',f1',v8,hf0',hf1'⟩:=id hz;show wpAny _ _ (field (.ref z) 2>>=_) _ _ _;refine Y1 (ZJ v8 rfl (x:= .bool false) rfl ?_);show wpAny _ _ (field (.ref z) 3>>=_) _ _ _;refine Y1 (ZJ v8 rfl (x:= .ref TI) rfl ?_);refine Y1 (ZI hTI rfl ?_);show wpAny _ _ (Builtin.SmallTypes.ownedTupleIsFree (.ref z) >>=_) _ _ _;refine Y1 (Ml hz (λf0 f1 hz=>?_) λg0 T f1 f2 hzs j5 hf2 I=>?_)
 .simp only[aS];refine Y1 (bP ?_);refine Y1 (ZJ hz rfl (x:= .ref TO) rfl ?_);refine Y1 (aE hz (by simp) λg0 j5 I=>?_);replace j5:CY g0 z TI TO .ellipsis f1:=j5;refine Y1 ?_;simp only[List.zipIdx_cons,List.zipIdx_nil,cF,dP];refine Y1 (Y1 (eR ?_));show wpAny _ _ (Builtin.SmallTypes.nextOf (.ref i1) >>=_) _ _ _;refine Y1 ((D1 _ hh).item k _ _ _ v7 (Dr.ext h1 I.extBut D.i1_z D.l1_z) λy1 g1 tk1 i6 u8 g=>Y6 ?_);have u7:y1=x1:=by rw[u4]at i6;exact(Y9 i6).symm
  subst u7;have j4:Dr S1 i1 l1 L (k+1) g1:=u8;have hT1:BK g1 TO a1 a2:=(g.extBut _ _ D.i1_TO.symm (I.extBut _ _ D.TO_z w8));refine Y1 (ZI hT1 rfl ?_);refine Y1 (Mm hT1 λZ o9 G=>?_)
  replace o9:BK Z TO y1 a2:=o9
  refine Y1 (ao (Y6 ?_));refine Y1 (Y1 (eR ?_));show wpAny _ _ (Builtin.SmallTypes.nextOf (.ref i2) >>=_) _ _ _;refine Y1 ((D2 _ hh).item k _ _ _ v3 (Dr.ext (Dr.ext (Dr.ext h2 I.extBut D.i2_z D.l2_z) g.extBut D.i2_i1 D.l2_i1) G.extBut D.i2_TO D.l2_TO) λy2 g3 w9 j6 r8 j0=>Y6 ?_);have u5:y2=x2:=by rw[u9]at j6;exact(Y9 j6).symm
  subst u5;have i7:Dr S2 i2 l2 J (k+1) g3:=r8;have w6:BK g3 TO y1 a2:=(j0.extBut _ _ D.i2_TO.symm o9);refine Y1 (ZI w6 rfl ?_);refine Y1 (Mm w6 λO l6 i9=>?_)
  replace l6:BK O TO y1 y2:=l6
  refine Y1 (ao (Y6 (Y6 ?_)));refine Y1 (ZI l6 rfl ?_);refine Y1 (wpAny_newTuple ?_);have i4:O.objs.size=s.heap.objs.size:=by rw[i9.1,j0.1,G.1,g.1,I.1]
  have k9:CY O z TI TO .ellipsis f1:=(i9.extBut _ _ D.TO_z.symm (j0.extBut _ _ D.i2_z.symm (G.extBut _ _ D.TO_z.symm (g.extBut _ _ D.i1_z.symm j5))));have hk5:∀c o,c≠z->c≠TO->c≠i1->c≠i2->s.heap.get? c=some o->O.get? c=some o:=λc o cz i5 i8 j7 e=>(i9.extBut _ _ i5 (j0.extBut _ _ j7 (G.extBut _ _ i5 (g.extBut _ _ i8 (I.extBut _ _ cz e)))))
  have j9:Dr S1 i1 l1 L (k+1) O:=(Dr.ext (Dr.ext (Dr.ext j4 G.extBut D.i1_TO D.l1_TO) j0.extBut D.i2_i1.symm D.l1_i2) i9.extBut D.i1_TO D.l1_TO);have j8:Dr S2 i2 l2 J (k+1) O:=(Dr.ext i7 i9.extBut D.i2_TO D.l2_TO);have o8:z<O.objs.size:=Y8 k9;show wpAny _ _ (Builtin.SmallTypes.ownedTupleHandOut (.ref z) (.ref O.objs.size) >>=_) _ _ _;refine Y1 ?_;unfold Builtin.SmallTypes.ownedTupleHandOut;have hz6:CY (O.push { cls:= .type "tuple",data:= .seq #[y1,y2]}) z TI TO .ellipsis f1:=Y2 _ k9;refine Y1 (aE hz6 (by simp) λga q9 q8=>?_);replace q9:CY ga z TI TO (rawInt O.objs.size) f1:=q9;refine aE q9 (by simp) λgb j3 u6=>?_;replace j3:CY gb z TI TO (rawInt O.objs.size) (.bool false):=j3
  have up:∀c o,c≠z->O.get? c=some o->gb.get? c=some o:=λc o c1 e=>u6.extBut _ _ c1 (q8.extBut _ _ c1 (Y2 _ e))
  have l7:BK gb O.objs.size y1 y2:=u6.extBut _ _ (ZY o8) (q8.extBut _ _ (ZY o8) (YL _ rfl));have l9:gb.objs.size=O.objs.size+1:=by rw[u6.1,q8.1,Zf]
  have v6:Heap.ExtBut z O gb:=λc o c1 e=>up c o c1 e
  rw[i4]at j3 l7 l9;refine Y6 ⟨_,rfl,?_⟩;show Q (.ref O.objs.size) _;rw[i4];exact hQ gb _ ⟨_,_,j3,.inr ⟨_,rfl⟩,.inl rfl⟩ (λ_=>j3) ⟨_,_,up _ _ D.TO_z l6⟩ (j9.ext v6 D.i1_z D.l1_z) (j8.ext v6 D.i2_z D.l2_z) l7 l9 λc o cz i5 i8 j7 e=>up c o cz (hk5 c o cz i5 i8 j7 e)
 .simp only[am,bo];refine Y1 ?_;simp only[<-Array.forIn_toList,cF,dP];refine Y1 (Y1 (ZD ?_));show wpAny _ _ (Builtin.SmallTypes.nextOf (.ref i1) >>=_) _ _ _;refine Y1 ((D1 _ hh).item k _ _ _ v7 (Dr.ext h1 I.extBut D.i1_z D.l1_z) λy1 g1 tk1 i6 u8 g=>Y6 ?_);have u7:y1=x1:=by rw[u4]at i6;exact(Y9 i6).symm
  subst u7;have j4:Dr S1 i1 l1 L (k+1) g1:=u8;refine Y6 ?_;refine Y1 (Y1 (ZD ?_));show wpAny _ _ (Builtin.SmallTypes.nextOf (.ref i2) >>=_) _ _ _;refine Y1 ((D2 _ hh).item k _ _ _ v3 (Dr.ext (Dr.ext h2 I.extBut D.i2_z D.l2_z) g.extBut D.i2_i1 D.l2_i1) λy2 Z w9 j6 r8 G=>Y6 ?_);have u5:y2=x2:=by rw[u9]at j6;exact(Y9 j6).symm
  subst u5;have i7:Dr S2 i2 l2 J (k+1) Z:=r8;refine Y6 (Y6 ?_);show wpAny _ _ (newTuple [y1,y2] >>=_) _ _ _;refine Y1 (wpAny_newTuple ?_);have i4:Z.objs.size=s.heap.objs.size:=by rw[G.1,g.1,I.1]
  have k9:CY Z z TI TO (rawInt T) f2:=(G.extBut _ _ D.i2_z.symm (g.extBut _ _ D.i1_z.symm j5));have hT5:BK Z TO a1 a2:=(G.extBut _ _ D.i2_TO.symm (g.extBut _ _ D.i1_TO.symm (I.extBut _ _ D.TO_z w8)));have j9:Dr S1 i1 l1 L (k+1) Z:=(Dr.ext j4 G.extBut D.i2_i1.symm D.l1_i2);have j8:Dr S2 i2 l2 J (k+1) Z:=i7;have l7:BK (Z.push { cls:= .type "tuple",data:= .seq #[y1,y2]}) Z.objs.size y1 y2:=YL _ rfl;have hb8:(Z.push { cls:= .type "tuple",data:= .seq #[y1,y2]}).objs.size=Z.objs.size+1:=Zf ..;refine Y6 ⟨_,rfl,?_⟩;show Q (.ref Z.objs.size) _;have res:=hQ (Z.push { cls:= .type "tuple",data:= .seq #[y1,y2]}) w9 ⟨_,_,Y2 _ k9,.inr ⟨_,rfl⟩,hf2⟩ (λc=>c.elim id λc=>absurd (Zv (λo:Obj=>o.data) (Y9 (hzs.symm.trans c))) (by simp[rawInt])) ⟨_,_,Y2 _ hT5⟩ ⟨S1.itk j9.1 λo q=>Y2 _ q,S1.isk j9.2 λo q=>Y2 _ q⟩ ⟨S2.itk j8.1 λo q=>Y2 _ q,S2.isk j8.2 λo q=>Y2 _ q⟩ (by rw[<-i4];exact l7) (by rw[hb8,i4]) λc o cz i5 i8 j7 e=>Y2 _ (G.extBut _ _ j7 (g.extBut _ _ i8 (I.extBut _ _ cz e)))
  rw[i4];exact res
theorem Mp{z TI TO i1 i2 l1 l2:yR}{k:Nat}{i4 i8:Array yU}{Q:Fin->yS->Prop}(hh:A.handled=none)(D:F6 z TI TO i1 i2 l1 l2)(hz:F5 s.heap z TI TO)(j3:BK s.heap TI (.ref i1) (.ref i2))(l7:BK s.heap TO a1 a2)(h1:Dr S1 i1 l1 i4 k s.heap)(h2:Dr S2 i2 l2 i8 k s.heap)(Z:k=i4.size)
  (hE:∀h' tk e,(∀c o,c≠z->c≠TO->c≠i1->c≠i2->s.heap.get? c=some o->h'.get? c=some o)->(∃o,h'.get? e=some o/\o.cls= .type "StopIteration")->E (.ref e) { s with heap:=h',toks:=tk}):
  wpAny (model P w) A (Builtin.«zip.__next__» ⟨[.ref z],[]⟩) Q E s:=by
 have D1:=fun(A:yO) (hh:A.handled=none)=>S1.draws A hh i1 l1 D.l1_i1 i4
 have D2:=fun(A:yO) (hh:A.handled=none)=>S2.draws A hh i2 l2 D.l2_i2 i8
 obtain⟨l6,k9,i9,j6,j7⟩:=id hz;show wpAny _ _ (field (.ref z) 2>>=_) _ _ _;refine Y1 (ZJ i9 rfl (x:= .bool false) rfl ?_);show wpAny _ _ (field (.ref z) 3>>=_) _ _ _;refine Y1 (ZJ i9 rfl (x:= .ref TI) rfl ?_);refine Y1 (ZI j3 rfl ?_);show wpAny _ _ (Builtin.SmallTypes.ownedTupleIsFree (.ref z) >>=_) _ _ _;refine Y1 (Ml hz (λf0 f1 hz=>?_) λg0 T f1 f2 j8 O j9 G=>?_)
 .simp only[aS];refine Y1 (bP ?_);refine Y1 (ZJ hz rfl (x:= .ref TO) rfl ?_);refine Y1 (aE hz (by simp) λg0 O G=>?_);replace O:CY g0 z TI TO .ellipsis f1:=O;refine Y1 ?_;simp only[List.zipIdx_cons,List.zipIdx_nil,cF,dP];refine Y1 (Y1 (eR ?_));show wpAny _ _ (Builtin.SmallTypes.nextOf (.ref i1) >>=_) _ _ _;have I:=(Dr.ext h1 G.extBut D.i1_z D.l1_z);subst Z;refine Y1 ((D1 _ hh).done _ _ _ I λge e J he=>?_);obtain⟨oe,g,L⟩:=he;have i6:CY ge z TI TO .ellipsis f1:=J _ _ D.i1_z.symm O;have j4:e≠z:=λx=>by subst x;rw[i6]at g;cases g;simp at L
  exact aE i6 (by simp) λgf _ i7=>hE gf _ e (λc o cz j0 i5 j5 x=>i7.extBut _ _ cz (J _ _ i5 (G.extBut _ _ cz x))) ⟨oe,i7.extBut _ _ j4 g,L⟩
 .simp only[am,bo];refine Y1 ?_;simp only[<-Array.forIn_toList,cF,dP];refine Y1 (Y1 (ZD ?_));show wpAny _ _ (Builtin.SmallTypes.nextOf (.ref i1) >>=_) _ _ _;have I:=(Dr.ext h1 G.extBut D.i1_z D.l1_z);subst Z;refine Y1 ((D1 _ hh).done _ _ _ I λge e J he=>?_);obtain⟨oe,g,L⟩:=he;exact hE ge _ e (λc o cz j0 i5 j5 x=>J _ _ i5 (G.extBut _ _ cz x)) ⟨oe,g,L⟩
end
abbrev Hk{P:yP}{w:yN}{K:Fgx}(S1 S2:Bk P w K)(h:Heap)(l1 l2:yR):Heap:=(h).push (S1.obj l1)
abbrev Hl{P:yP}{w:yN}{K:Fgx}(S1 S2:Bk P w K)(h:Heap)(l1 l2:yR):Heap:=(Hk S1 S2 h l1 l2).push (S2.obj l2)
abbrev Hm{P:yP}{w:yN}{K:Fgx}(S1 S2:Bk P w K)(h:Heap)(l1 l2:yR):Heap:=(Hl S1 S2 h l1 l2).push { cls:= .type "tuple",data:= .seq #[.ref h.objs.size,.ref (Hk S1 S2 h l1 l2).objs.size]}
abbrev Hn{P:yP}{w:yN}{K:Fgx}(S1 S2:Bk P w K)(h:Heap)(l1 l2:yR):Heap:=(Hm S1 S2 h l1 l2).push { cls:= .type "tuple",data:= .seq #[.none,.none]}
abbrev DR{P:yP}{w:yN}{K:Fgx}(S1 S2:Bk P w K)(h:Heap)(l1 l2:yR):Heap:=(Hn S1 S2 h l1 l2).push { cls:= .type "zip",data:= .fields #[.none,.bool false,.bool false,.ref (Hl S1 S2 h l1 l2).objs.size,.ref (Hm S1 S2 h l1 l2).objs.size]}
def F7{P:yP}{w:yN}{K:Fgx}(S1 S2:Bk P w K):Prop:=S1.ok/\S2.ok/\∀(g c:yR) (G D:Array yU),
  Meets (Builtin.«zip.__new__» ⟨[.type "zip",.ref g,.ref c],[]⟩) (λ_ R s=>S1.Is s.heap g G/\S2.Is s.heap c D/\R (.ok (.ret (.ref (Hn S1 S2 s.heap g c).objs.size))) { s with heap:=DR S1 S2 s.heap g c})
theorem Mq{X:Cx}{p Z:Pos}{e1 g:yL}{ta:TA}(S1 S2:Bk X.prog X.w X.K)(zn:F7 S1 S2)(hg:Gl X "zip")(hm:X.mg "zip"=none)(ha:PA X [e1,g] ta)(i9:starEach [e1,g] X.env=[(false,eval e1 X.env),(false,eval g X.env)])(i4:starEach [g] X.env=[(false,eval g X.env)])
  {ad:PNs}{s:yS}{σ:St}{H:Hp}{R:yR->yR->Hp->Prop} (I:Ad X ad σ H s) (h:ta σ H λvs c=>∃l1 l2,vs=[.ref l1,.ref l2]/\(∃xs,S1.Sq c l1 xs)/\(∃xs,S2.Sq c l2 xs)/\R l1 l2 c):
  wpAny (model X.prog X.w) X.A (eval (.Call (.Name "zip" p) [e1,g] [] Z) X.env) (λv s1=>∃l1 l2 c,∃m:Nat,v= .ref (m+4)/\R l1 l2 c/\Ad X ad σ c s1/\IsZip s1.heap (m+4) (m+2) (m+3) .none/\BK s1.heap (m+2) (.ref m) (.ref (m+1))/\BK s1.heap (m+3) .none .none/\S1.It s1.heap m l1 0/\S2.It s1.heap (m+1) l2 0/\l1<m/\l2<m/\(∀b,m<=b->BH X ad c b)/\s1.heap.objs.size=m+5) X.xe s:=by
 refine Call_ (CN I hg hm boot_zip (Zi (An (ha Z ad s σ H _ I h) λus s1 zq=>?_) (by rw[i9,i4]) (by rw[i4];rfl)));obtain⟨vs,c,L,J,q1⟩:=zq;obtain⟨l1,l2,e,⟨j8,i8⟩,⟨k9,j4⟩,q⟩:=q1;subst e;rcases J with _ | ⟨j5,J⟩
 rcases J with _ | ⟨j3,J⟩
 cases J;cases j5;cases j3;obtain⟨i5,j9,D,_⟩:=S1.get rfl L i8;obtain⟨O,j7,G,_⟩:=S2.get rfl L j4;obtain⟨o1,j6⟩:=S1.iso D;have i7:=Y8 j6;obtain⟨o2,j0⟩:=S2.iso G;have i6:=Y8 j0;refine callType_new F.called_zip (by decide) (F.typeCall_zip_2 _ _) (F.newCall_zip_2 _ _) (λobj=>F.args_object_init_3 obj _ _) F.entry_zip_new (zn.2.2 l1 l2 i5.toArray O.toArray) ⟨D,G,?_⟩;have z1:(Hk S1 S2 s1.heap l1 l2).objs.size=s1.heap.objs.size+1:=by rw[Zf]
 have z2:(Hl S1 S2 s1.heap l1 l2).objs.size=s1.heap.objs.size+2:=by rw[Zf,z1]
 have z3:(Hm S1 S2 s1.heap l1 l2).objs.size=s1.heap.objs.size+3:=by rw[Zf,z2]
 have z4:(Hn S1 S2 s1.heap l1 l2).objs.size=s1.heap.objs.size+4:=by rw[Zf,z3]
 have zz:(DR S1 S2 s1.heap l1 l2).objs.size=s1.heap.objs.size+5:=by rw[Zf,z4]
 have gz:(DR S1 S2 s1.heap l1 l2).get? (Hn S1 S2 s1.heap l1 l2).objs.size=some _:=YL _ rfl;have gO:(DR S1 S2 s1.heap l1 l2).get? (Hm S1 S2 s1.heap l1 l2).objs.size=some _:=Y2 _ (YL _ rfl);have gI:(DR S1 S2 s1.heap l1 l2).get? (Hl S1 S2 s1.heap l1 l2).objs.size=some _:=Y2 _ (Y2 _ (YL _ rfl));have g1:S1.It (DR S1 S2 s1.heap l1 l2) s1.heap.objs.size l1 0:=S1.itk (S1.itn zn.1 _ _) λo q=>Y2 _ (Y2 _ (Y2 _ (Y2 _ (q))))
 have g2:S2.It (DR S1 S2 s1.heap l1 l2) (Hk S1 S2 s1.heap l1 l2).objs.size l2 0:=S2.itk (S2.itn zn.2.1 _ _) λo q=>Y2 _ (Y2 _ (Y2 _ (q)))
 have kk:∀b o,s1.heap.get? b=some o->(DR S1 S2 s1.heap l1 l2).get? b=some o:=λb o x=>Y2 _ (Y2 _ (Y2 _ (Y2 _ (Y2 _ (x)))))
 show _/\_;rw[z2,z3,z4]at gz;rw[z3]at gO;rw[z1,z2]at gI;rw[z4];rw[z1]at g2;generalize DR S1 S2 s1.heap l1 l2=hE at g1 g2 gI gO gz kk zz ⊢;have I2:Ad X ad σ c { s1 with heap:=hE}:=L.kept (t':=s1.toks) kk;exact⟨⟨_,gz,rfl⟩,l1,l2,c,s1.heap.objs.size,rfl,q,I2,gz,gI,gO,g1,g2,i7,i6,λb hb=>L.fpOk hb (L.hok.fresh hb),zz⟩
set_option maxHeartbeats 8000000 in
theorem Mr(P:yP)(w:yN)(K:Fgx):F7 (Dk P w K) (Dk P w K):=⟨trivial,trivial,λZ l2 G I=>
 .of_wp λprog w A R s h=>by
  obtain⟨O,g,d,tk,os⟩:=s;obtain⟨D,c,h⟩:=h;have i4:=sub_zip;have J:Heap.IsTuple (Shared.heap ⟨O,g,d,tk,os⟩) Z G:=D;have L:Heap.IsTuple (Shared.heap ⟨(O).push { cls:= .type "tuple_iterator",data:= .fields #[.ref Z,.int 0 0]},g,d,tk,os⟩) l2 I:=Heap.IsTuple.push (c) _
  wp_walk using al J,al L
  exact⟨_,rfl,h⟩⟩
set_option maxHeartbeats 8000000 in
theorem Rv(P:yP)(w:yN)(K:Fgx):F7 (DD P w K) (DD P w K):=⟨trivial,trivial,λZ l2 G I=>
 .of_wp λprog w A R s h=>by
  obtain⟨O,g,d,tk,os⟩:=s;obtain⟨D,c,h⟩:=h;have i4:=sub_zip;have J:Heap.IsList (Shared.heap ⟨O,g,d,tk,os⟩) Z G:=D;have L:Heap.IsList (Shared.heap ⟨(O).push { cls:= .type "list_iterator",data:= .fields #[.ref Z,.int 0 0]},g,d,tk,os⟩) l2 I:=Heap.IsList.push (c) _
  wp_walk using aL J,aL L
  exact⟨_,rfl,h⟩⟩
theorem Mu{n l1 l2:Nat}(D:l1<n)(g:l2<n):F6 (n+4) (n+2) (n+3) n (n+1) l1 l2:=by constructor<;>intro z<;>(have c:=z;revert c;intro c;try (change (_:Nat)=_ at c);lia)
def EK{P:yP}{w:yN}{K:Fgx}(S1 S2:Bk P w K)(a b:yR):It:=
 ⟨λi H=>∃c g x y,S1.Sq H a c/\S2.Sq H b g/\c[i]? =some x/\g[i]? =some y,λi H v D=>∃T,v= .ref T/\H T=none/\∀c g x y,S1.Sq H a c->S2.Sq H b g->c[i]? =some x->g[i]? =some y->D=upd H T (.tup [x,y]),
  λi H=>∃c g,S1.Sq H a c/\S2.Sq H b g/\c.length=i⟩
theorem Rw{P:yP}{w:yN}{K:Fgx}(S1 S2:Bk P w K){es:List yL}{k:Nat}{j4:Pos}(z TI TO i1 i2 l1 l2:yR)(D:F6 z TI TO i1 i2 l1 l2):
  De P w K (.Tuple es k j4) (EK S1 S2 l1 l2) [z,TI,TO,i1,i2] z (λi h=>IsZip h z TI TO .none/\BK h TI (.ref i1) (.ref i2)/\(∃a b,BK h TO a b)/\S1.It h i1 l1 i/\S2.It h i2 l2 i) where
 mem:=by simp
 obj:=λi h st b c=>by
  obtain⟨J,g,⟨a,b',G⟩,Z,h2⟩:=st;simp only[YY,Ze,ZC]at c;rcases c with e | e | e | e | e<;>rw[e]
  .exact⟨_,J,λv q=>by have q':Data.fields _=Data.cell v:=q;cases q'⟩
  .exact⟨_,g,λv q=>by have q':Data.seq _ _=Data.cell v:=q;cases q'⟩
  .exact⟨_,G,λv q=>by have q':Data.seq _ _=Data.cell v:=q;cases q'⟩
  .exact S1.ito Z
  .exact S2.ito h2
 keep:=λi h h' st kk=>by
  obtain⟨J,g,⟨a,b',G⟩,Z,h2⟩:=st;exact⟨kk z (by simp) _ J,kk TI (by simp) _ g,⟨a,b',kk TO (by simp) _ G⟩,S1.itk Z λo q=>kk i1 (by simp) o q,S2.itk h2 λo q=>kk i2 (by simp) o q⟩
 item:=by
  intro X hP hw hK hc i ad s σ H E I hf st hg;subst hP hw;obtain⟨xs,ys,x,y,L,O,hx,hy⟩:=hg;obtain⟨i9,i7,i5,k9⟩:=S1.get hK I L;obtain⟨i8,i4,i6,j5⟩:=S2.get hK I O;obtain⟨u1,j9,l6⟩:=i7.get hx;obtain⟨u2,j8,j7⟩:=i4.get hy;obtain⟨J,g,⟨a,b',G⟩,Z,h2⟩:=st;have hh:=I.ok.hd hc;have hT:s.TypeIs (.ref z) "zip" :=⟨_,J,rfl⟩;unfold pyNext;refine Y1 (db (ZB (name:=Str.ofString "__next__") hT av (ZZ av hT cf
   (Mo S1 S2 (x1:=u1) (x2:=u2) hh D ⟨_,_,J,.inl rfl,.inl rfl⟩ g G ⟨Z,i5⟩ ⟨h2,i6⟩ (by simpa using j9) (by simpa using j8) λh' tk _ az a2 a3 a4 a5 a6 hk=>Y6 ⟨_,rfl,?_⟩) (bV _))))
  obtain⟨b1,b2,a2⟩:=a2;refine wpAny_letOwnedTupleGo_zip (az (.inr J)) λj0 z1 sb=>?_
  have kk:∀b o,b ∉ [z,TI,TO,i1,i2]->s.heap.get? b=some o->j0.get? b=some o:=λb o c q=>sb.extBut b o (λe=>c (by simp[e])) (hk b o (λe=>c (by simp[e])) (λe=>c (by simp[e])) (λe=>c (by simp[e])) (λe=>c (by simp[e])) q)
  have zl:z<s.heap.objs.size:=Y8 J;have ht:IsTup j0 s.heap.objs.size [u1,u2].toArray:=⟨_,sb.extBut _ _ (ZY zl) a5,rfl,_,rfl⟩;exact⟨.ref s.heap.objs.size,upd H s.heap.objs.size (.tup [x,y]),I.yielded (tk:=tk) (λb c=>hf b c) kk (Y4 _) ht (.cons l6 (.cons j7 .nil)) (by show 2<=sizeLine;decide),rfl,
   ⟨_, rfl, I.hok.fresh (Y4 _), λl9 o8 x' y' e1 e2 e3 e4 => by
    rw[S1.inj hK I e1 L,hx]at e3;rw[S2.inj hK I e2 O,hy]at e4;cases e3;cases e4;rfl⟩,
   ⟨z1, sb.extBut _ _ D.TI_z (hk _ _ D.TI_z D.TO_TI.symm D.i1_TI.symm D.i2_TI.symm g), ⟨_, _, sb.extBut _ _ D.TO_z a2⟩, S1.itk a3.1 λo q => sb.extBut _ o D.i1_z q, S2.itk a4.1 λo q => sb.extBut _ o D.i2_z q⟩, λb c => by
    have j6:b<s.heap.objs.size:=by
     simp only[YY,Ze,ZC]at c;rcases c with e | e | e | e | e<;>rw[e]
     .exact zl
     .exact Y8 g
     .exact Y8 G
     .obtain⟨o,q,_⟩:=S1.ito Z;exact Y8 q
     .obtain⟨o,q,_⟩:=S2.ito h2;exact Y8 q
    rw[Ap (Z0 j6)];exact(hf b c).1⟩
 done:=by
  intro X hP hw hK hc i ad s σ H E I hf st hg;subst hP hw;obtain⟨xs,ys,L,O,l7⟩:=hg;obtain⟨i9,i7,i5,k9⟩:=S1.get hK I L;obtain⟨i8,i4,i6,j5⟩:=S2.get hK I O;obtain⟨J,g,⟨a,b',G⟩,Z,h2⟩:=st;have hh:=I.ok.hd hc;have hT:s.TypeIs (.ref z) "zip" :=⟨_,J,rfl⟩;have e1:=i7.length;have e2:=i4.length;unfold pyNext;refine Y1 (db (ZB (name:=Str.ofString "__next__") hT av (ZZ av hT cf
   (Mp S1 S2 hh D ⟨_,_,J,.inl rfl,.inl rfl⟩ g G ⟨Z,i5⟩ ⟨h2,i6⟩ (by simp;lia) λh' tk e hk he=>?_) (bV _))))
  obtain⟨o,ho,j3⟩:=he;refine Y1 (wpAny_isInstance (T:="StopIteration") (b:=true) ⟨o,ho,j3⟩ isSubtype_stop ?_);exact Y6 ⟨rfl,I.ended (wr:=[z,TI,TO,i1,i2]) (tk:=tk) (λb c=>hf b c) λb o c q=>hk b o (λe=>c (by simp[e])) (λe=>c (by simp[e])) (λe=>c (by simp[e])) (λe=>c (by simp[e])) q⟩
 self:=λ_ _ _ _ _ st h=>dF st.1 h
def F8{P:yP}{w:yN}{K:Fgx}(S1 S2:Bk P w K)(J:TA):TI:=fun g H R=>J g H λI c=>∃a b,I=[.ref a,.ref b]/\(∃D,S1.Sq c a D)/\(∃G,S2.Sq c b G)/\R (EK S1 S2 a b) c
theorem Mv{es:List yL}{k:Nat}(S1 S2:Bk X.prog X.w X.K)(zn:F7 S1 S2)(O:Gl X "zip")(Z:X.mg "zip"=none)(ha:PA X [e1,e2] ta)
  (hs:starEach [e1,e2] X.env=[(false,eval e1 X.env),(false,eval e2 X.env)]) (g:starEach [e2] X.env=[(false,eval e2 X.env)]):PI X (.Tuple es k pos') (.Call (.Name "zip" p) [e1,e2] [] pos) (F8 S1 S2 ta):=by
 intro ad s σ H R I h;refine An (Mq S1 S2 zn (R:=λD c G=>R (EK S1 S2 D c) G) O Z ha hs g I h) λv s1 zq=>?_
 obtain⟨D,c,G,m,e,q,I1,L,gI,gO,g1,g2,h1,h2,fr,_⟩:=zq;subst e;exact dF L ⟨_,[m+4,m+2,m+3,m,m+1],_,_,G,rfl,I1,Rw S1 S2 _ _ _ _ _ D c (Mu h1 h2),⟨L,gI,⟨_,_,gO⟩,g1,g2⟩,λb J=>fr b (by
  simp only[YY,Ze,ZC]at J;rcases J with e | e | e | e | e<;>rw[e]<;>first | exact Y4 _ | exact dG _ _),q⟩
theorem Rx{es:List yL}{k:Nat}(g:Gl X "zip")(D:X.mg "zip"=none)(I:PA X [e1,e2] ta)
  (G:autoParam (starEach [e1,e2] X.env=[(false,eval e1 X.env),(false,eval e2 X.env)]) j2) (c:autoParam (starEach [e2] X.env=[(false,eval e2 X.env)]) j2):PI X (.Tuple es k pos') (.Call (.Name "zip" p) [e1,e2] [] pos) (F8 (Dk X.prog X.w X.K) (Dk X.prog X.w X.K) ta):=Mv _ _ (Mr _ _ _) g D I G c
theorem Ry{es:List yL}{k:Nat}(g:Gl X "zip")(D:X.mg "zip"=none)(I:PA X [e1,e2] ta)
  (G:autoParam (starEach [e1,e2] X.env=[(false,eval e1 X.env),(false,eval e2 X.env)]) j2) (c:autoParam (starEach [e2] X.env=[(false,eval e2 X.env)]) j2):PI X (.Tuple es k pos') (.Call (.Name "zip" p) [e1,e2] [] pos) (F8 (DD X.prog X.w X.K) (DD X.prog X.w X.K) ta):=Mv _ _ (Rv _ _ _) g D I G c
end
section
variable{C:Int -> Int -> Prop}{g:Int -> Int -> V}{y:V}{H:Hp}{Q:VK}{op op':CmpOp}{r':R2}
section
variable{X:Cx}{e a b c:yL}{es BZ:List yL}{ta tb tc te:TE}{pos p:Pos}{tA tB':TT}{t u:TS}
theorem PE.weak{t t':TE}(h:PE X e t)(w:∀σ H Q,t' σ H Q->t σ H Q):PE X e t':=λad s σ H Q I q=>h ad s σ H Q I (w σ H Q q)
def DS(i:Nat):TE:=fun c H Q=>match c[i]? with | some (some v)=>Q v H | _=>False
theorem cv(i:Nat){x:Str}{c:Pos}(D:autoParam (X.N[i]? =some x) j2)(G:autoParam (DL X.env.scope x) K')(hd:autoParam ((x==("__debug__" :Str))=false) o3)
  (g:autoParam ((x==("__classdict__" :Str))=false) o3):PE X (.Name x c) (DS i):=(FS D G hd g).weak fun I H Q q=>by
 unfold DS at q;split at q
 .exact⟨_,by assumption,q⟩
 .exact q.elim
end
section
variable{X:Cx}{e a b c:yL}{es BZ:List yL}{ta tb tc te:TE}{pos p:Pos}
theorem Rz{x:V}(h:match x,y with | .int i,.int j=>C i j/\Q (g i j) H | _,_=>False):rI C g x y H Q:=by
 split at h
 .exact⟨_,_,rfl,rfl,h⟩
 .exact h.elim
theorem RB{x:V}(h:match x,y with | .int i,.int j=>Q (g i j) H | _,_=>False):Dx g x y H Q:=by
 split at h
 .exact⟨_,_,rfl,rfl,h⟩
 .exact h.elim
def mI(C:Int->Int->Prop)(g:Int->Int->V):R2:=λx y H Q=>match x,y with | .int i,.int j=>C i j/\Q (g i j) H | _,_=>False
def mI0(g:Int->Int->V):R2:=λx y H Q=>match x,y with | .int i,.int j=>Q (g i j) H | _,_=>False
theorem OpR.mI{f:yU->yU->Sem yU}(h:OpR X f (rI C g)):OpR X f (L2.mI C g):=λad s G H x y v u Q I D c q=>h ad s G H x y v u Q I D c (Rz q)
theorem OpR.mI0{f:yU->yU->Sem yU}(h:OpR X f (Dx g)):OpR X f (L2.mI0 g):=λad s G H x y v u Q I D c q=>h ad s G H x y v u Q I D c (RB q)
theorem Bs:OpR X (binaryOp .Add) (mI0 λi j=> .int (i+j)):=op_add.mI0
theorem BL:OpR X (binaryOp .Sub) (mI0 λi j=> .int (i-j)):=op_sub.mI0
theorem DT:OpR X (binaryOp .Mult) (mI CMul λi j=> .int (i * j)):=op_mul.mI
theorem JO:OpR X (binaryOp .FloorDiv) (mI Jo λi j=> .int (i / j)):=op_fdiv.mI
theorem Fl:OpR X (binaryOp .Mod) (mI (λ_ j=>0<j) λi j=> .int (i % j)):=op_mod.mI
theorem RC:OpR X (binaryOp .Pow) (mI Lr λi j=> .int (i ^ j.toNat)):=op_pow.mI
theorem EL:OpR X (compareOp .Lt) (mI0 λi j=> .bl (decide (i<j))):=op_lt.mI0
theorem Em:OpR X (compareOp .LtE) (mI0 λi j=> .bl (decide (i<=j))):=op_le.mI0
theorem Mw:OpR X (compareOp .Gt) (mI0 λi j=> .bl (decide (j<i))):=op_gt.mI0
theorem Mx:OpR X (compareOp .GtE) (mI0 λi j=> .bl (decide (j<=i))):=op_ge.mI0
def mB(x:V)(Q:Bool->Prop):Prop:=match x with | .bl c=>Q c | _=>False
end
structure Mono(t:TE):Prop where
 m:∀ {σ H}{Q Q':VK},t σ H Q->(∀v H',Q v H'->Q' v H')->t σ H Q'
section
variable{X:Cx}{e a b c:yL}{es BZ:List yL}{te:TE}{pos p:Pos}
def cB(t:TE):TT:=fun g H Q=>t g H λx D=>match x with | .bl c=>Q c D | _=>False
theorem Cp{t:TE}(h:PE X e t)(D:autoParam (∀c,isTrue e X.env c=(do let v<-c;standAt e.pos;holding [v] (truthy v))) o5):PT X e (cB t):=by
 intro ad s σ H Q I Z;refine isTrue_plain (An (h ad s σ H _ I Z) λv s1 L=>?_) (D _);obtain⟨x,O,J,G,g⟩:=L
 try dsimp only at g
 split at g
 .cases G;exact Zz ⟨O,J,g⟩
 .exact g.elim
theorem Bi{op:CmpOp}{r:R2}{J G:TE}(Z:OpR X (compareOp op) r)(O:PE X a J)(hb:PE X b G)(L:behindInMarks op b=false):PT X (.Compare a [op] [b] pos) (cB (Dv r J G)):=by
 intro ad s D H Q I h;refine wpAny_isTrue_Compare1 (An (O ad s D H _ I h) λv s1 ⟨x,H1,I1,r1,q1⟩=>An (hb ad s1 D H1 _ I1 q1) λu s2 ⟨y,H2,I2,r2,q2⟩=>
  An (Z ad s2 D H2 x y v u _ I2 r1 r2 q2) λc s3 ⟨z,H3,I3,r3,g⟩=>?_) L
 dsimp only at g;split at g
 .cases r3;exact Zz ⟨H3,I3,g⟩
 .exact g.elim
def My(r J:R2)(ta I L:TE):TE:=fun c H Q=>ta c H λx O=>I c O λy G=>r x y G λz g=>match z with | .bl k=>br k (L c g λZ D=>J y Z D Q) (Q (.bl false) g) | _=>False
theorem Mz{r:R2}{O L J:TE}(ho:OpR X (compareOp op) r)(G:OpR X (compareOp op') r')(ha:PE X a O)(hb:PE X b L)(hc:PE X c J)
  (hm:autoParam (lastMarks [op,op'] [b,c]=false) F'):PE X (.Compare a [op,op'] [b,c] pos) (My r r' O L J):=by
 intro ad s g H Q I h;refine Compare_chain (An (ha ad s g H _ I h) λv s1 ⟨x,H1,I1,r1,q1⟩=>chain_link (An (hb ad s1 g H1 _ I1 q1) λu s2 ⟨y,H2,I2,r2,q2⟩=>
  An (ho ad s2 g H2 x y v u _ I2 r1 r2 q2) λd s3 ⟨z,Z,I3,r3,D⟩=>?_)) hm
 dsimp only at D;split at D
 .rename_i k;cases r3;refine Zz ?_;cases k with
  |false=>exact ite_ff ⟨.bl false,Z,I3,rfl,D.2 rfl⟩
  |true=>exact ite_tt (chain_last (An (hc ad s3 g Z _ I3 (D.1 rfl)) λw' s4 ⟨z',H4,I4,r4,q4⟩=>G ad s4 g H4 y z' u w' Q I4 r2 r4 q4))
 .exact D.elim
theorem RD{r:R2}{Z O L:TE}(ho:OpR X (compareOp op) r)(J:OpR X (compareOp op') r')(ha:PE X a Z)(hb:PE X b O)(hc:PE X c L)
  (hm:autoParam (lastMarks [op,op'] [b,c]=false) F'):PT X (.Compare a [op,op'] [b,c] pos) (cB (My r r' Z O L)):=by
 intro ad s g H Q I h;refine isTrue_chain (An (ha ad s g H _ I h) λv s1 ⟨x,H1,I1,r1,q1⟩=>test_link (An (hb ad s1 g H1 _ I1 q1) λu s2 ⟨y,H2,I2,r2,q2⟩=>
  An (ho ad s2 g H2 x y v u _ I2 r1 r2 q2) λd s3 ⟨z,H3,I3,r3,D⟩=>?_)) hm
 dsimp only at D;split at D
 .rename_i k;cases r3;refine Zz ?_;cases k with
  |false=>exact ite_ff ⟨H3,I3,D.2 rfl⟩
  |true=>
   refine ite_tt (test_last (An (hc ad s3 g H3 _ I3 (D.1 rfl)) λw' s4 ⟨z',H4,I4,r4,q4⟩=>An (J ad s4 g H4 y z' u w' _ I4 r2 r4 q4) λd' s5 zq=>?_));obtain⟨z2,H5,I5,r5,G⟩:=zq
   try dsimp only at G
   split at G
   .cases r5;exact Zz ⟨H5,I5,G⟩
   .exact G.elim
 .exact D.elim
def RE(t u:TT):TT:=fun g H Q=>t g H λc D=>br c (u g D Q) (Q false D)
def RF(t u:TT):TT:=fun g H Q=>t g H λc D=>br c (Q true D) (u g D Q)
theorem Ho{O g:TT}(Z:PT X a O)(hb:PW X (.BoolOp .And (b::BZ) pos) g):PW X (.BoolOp .And (a::b::BZ) pos) (RE O g):=by
 intro wh ad s L H Q I h;refine isTrue_and (An (Z ad s L H _ I h) λc s1 zq=>?_);obtain⟨J,D,G⟩:=zq;cases c with
 |true=>exact hb wh ad s1 L J Q D (G.1 rfl)
 |false=>exact⟨J,D,G.2 rfl⟩
theorem MA{O g:TT}(Z:PT X a O)(hb:PW X (.BoolOp .Or (b::BZ) pos) g):PW X (.BoolOp .Or (a::b::BZ) pos) (RF O g):=by
 intro wh ad s L H Q I h;refine isTrue_or (An (Z ad s L H _ I h) λc s1 zq=>?_);obtain⟨J,D,G⟩:=zq;cases c with
 |true=>exact⟨J,D,G.1 rfl⟩
 |false=>exact hb wh ad s1 L J Q D (G.2 rfl)
def RG(I G:TE):TE:=fun g H Q=>I g H λx D=>match x with | .bl c=>br c (G g D Q) (Q (.bl false) D) | _=>False
def RH(I G:TE):TE:=fun g H Q=>I g H λx D=>match x with | .bl c=>br c (Q (.bl true) D) (G g D Q) | _=>False
def RI(G:TE):TE:=fun g H Q=>G g H λx D=>match x with | .bl c=>Q (.bl (!c)) D | _=>False
theorem Bp{L G:TE}(Z:PE X a L)(hb:PE X (.BoolOp .And (b::BZ) pos) G):PE X (.BoolOp .And (a::b::BZ) pos) (RG L G):=by
 intro ad s O H Q I h;refine BoolOp_and (An (Z ad s O H _ I h) λv s1 zq=>?_);obtain⟨x,J,D,r1,g⟩:=zq
 try dsimp only at g
 split at g
 .rename_i c;cases r1;refine Zz ?_;cases c with
  |true=>exact hb ad s1 O J Q D (g.1 rfl)
  |false=>exact⟨.bl false,J,D,rfl,g.2 rfl⟩
 .exact g.elim
theorem RJ{L G:TE}(Z:PE X a L)(hb:PE X (.BoolOp .Or (b::BZ) pos) G):PE X (.BoolOp .Or (a::b::BZ) pos) (RH L G):=by
 intro ad s O H Q I h;refine BoolOp_or (An (Z ad s O H _ I h) λv s1 zq=>?_);obtain⟨x,J,D,r1,g⟩:=zq
 try dsimp only at g
 split at g
 .rename_i c;cases r1;refine Zz ?_;cases c with
  |false=>exact hb ad s1 O J Q D (g.2 rfl)
  |true=>exact⟨.bl true,J,D,rfl,g.1 rfl⟩
 .exact g.elim
theorem RK{D:TE}(O:PE X a D):PE X (.UnaryOp .Not a pos) (RI D):=by
 intro ad s σ H Q I h;refine UnaryOp_ (An (O ad s σ H _ I h) λv s1 Z=>?_);obtain⟨x,L,J,G,g⟩:=Z
 try dsimp only at g
 split at g
 .rename_i c;cases G;exact not_of (Zz ⟨.bl (!c),L,J,rfl,g⟩)
 .exact g.elim
def RL(t:TT)(I G:TE):TE:=fun g H Q=>t g H λc D=>br c (I g D Q) (G g D Q)
theorem Fm{O J:TE}{Z:TT}(hc:PT X c Z)(ha:PE X a O)(hb:PE X b J):PE X (.IfExp c a b pos) (RL Z O J):=by
 intro ad s g H Q I h;refine wpAny_IfExp (An (hc ad s g H _ I h) λd s1 zq=>?_);obtain⟨L,D,G⟩:=zq;cases d with
 |true=>exact ha ad s1 g L Q D (G.1 rfl)
 |false=>exact hb ad s1 g L Q D (G.2 rfl)
def RM(c:TT)(t u:TS):TS:=λD g H=>c g H λb G=>br b (t D g G) (u D g G)
theorem Bq{sa G:List Stmt}{O:TT}{t u:TS}(hc:PT X c O)(ha:PSs X sa t)(hb:PSs X G u):PS X (.If c sa G pos) (RM O t u):=by
 intro ad s g H D I h;refine wpAny_If (An (hc ad s g H _ I h) λd s1 zq=>?_);obtain⟨Z,J,L⟩:=zq;cases d with
 |true=>exact ha ad s1 g Z D J (L.1 rfl)
 |false=>exact hb ad s1 g Z D J (L.2 rfl)
end
section
variable{X:Cx}{es:List yL}{t:TA}{pos:Pos}
theorem BW{n:Nat}(h:Nat.ble n 64=true):n<=sizeLine:=YV (aH h) (by decide)
def RN(t:TA):TE:=fun D H Q=>t D H λc g=>match Nat.ble c.length 64 with | true=>∀p,g p=none->Q (.ref p) (upd g p (.tup c)) | false=>False
def RO(t:TA):TE:=fun D H Q=>t D H λc g=>match Nat.ble c.length 64 with | true=>∀p,g p=none->Q (.ref p) (upd g p (.lst c)) | false=>False
theorem BF{x1}(h:PA X es t):PE X (.Tuple es x1 pos) (RN t):=by
 intro ad s Z H Q I L;refine wpAny_Tuple_spliced (An (h pos ad s Z H _ I L) λO s1 J=>?_);obtain⟨G,g,c,r,q⟩:=J
 try dsimp only at q
 split at q
 .rename_i z;refine⟨by rw[<-r.length];exact BW z,?_⟩;have D:g s1.heap.objs.size=none:=c.hok.fresh (Y4 _);refine⟨.ref s1.heap.objs.size,upd g s1.heap.objs.size (.tup G),c.laid (t':=s1.toks) (λb u e=>Y2 _ e) (Y4 _) ?_,rfl,q _ D⟩;exact⟨BW z,O,r,⟨_,YL _ rfl,rfl,_,rfl⟩⟩
 .exact q.elim
theorem A5(h:PA X es t):PE X (.List es pos) (RO t):=by
 intro ad s Z H Q I L;refine wpAny_List_spliced (An (h pos ad s Z H _ I L) λO s1 J=>?_);obtain⟨G,g,c,r,q⟩:=J
 try dsimp only at q
 split at q
 .rename_i z;refine⟨by rw[<-r.length];exact BW z,?_⟩;have D:g s1.heap.objs.size=none:=c.hok.fresh (Y4 _);refine⟨.ref s1.heap.objs.size,upd g s1.heap.objs.size (.lst G),c.laid (t':=s1.toks) (λb u e=>Y2 _ e) (Y4 _) ?_,rfl,q _ D⟩;exact⟨BW z,O,0,r,YL _ rfl⟩
 .exact q.elim
end
variable{P:yP}{w:yN}{K:Fgx}{mg:Str -> yW}{base:Heap}
structure Fn(P:yP)(w:yN)(K:Fgx)(mg:Str->yW)(base:Heap)(n:Nat)(x:Str)(ps:List Str)(sp:Sp):Prop where
 ex:∃(f:yR) (fd:FuncData),BV P w K mg base CX0 n f fd ps sp/\mg x=some (.ref f)/\PySem.W.keepIn K (.ref f)=true/\Binds K fd ps []
structure Df(K:Fgx)(mg:Str->yW)(x:Str)(st:Stmt)(ps:List Str):Prop where
 ex:∃(f:yR) (fd:FuncData),DP K x x st f fd/\mg x=some (.ref f)/\Binds K fd ps []
theorem Df.fn{x:Str}{st:Stmt}{N g:List Str}{k:Nat}{sp:Sp}(F:Df K mg x st g)(S:Aw N g (Am st))(len:∀vs H Q E,sp vs H Q E->vs.length=g.length)
  (c : ∀ (f : yR) (dl : yU) (A : yO) (outer : List Env) (s : yS) (H : Hp) (vs : List V) (Q : VK) (E : XK), AQ k (A.deeper (envOfC x (Am st) s.heap.objs.size f dl)) -> sp vs H Q E ->
   ∃t,PSs (B0 CX0 P w K mg base N x (Am st) f dl A outer s H E).nox (Br st) t/\t { nx:=λ_ H'=>Q .non H',rt:=Q} (start N vs) H):Fn P w K mg base (k+1) x g sp:=by
 obtain⟨f,J,D,I,L⟩:=F.ex;exact⟨f,J,D.ok S len λdl A outer s H vs Q E G h=>c f dl A outer s H vs Q E G h,I,D.kp,L⟩
theorem Df.fm{x:Str}{st:Stmt}{N g:List Str}{k:Nat}{sp:Sp}(F:Df K mg x st g)(S:Aw N g (Am st))
  (c : ∀ (f : yR) (dl : yU) (A : yO) (outer : List Env) (s : yS) (H : Hp) (vs : List V) (Q : VK) (E : XK), AQ k (A.deeper (envOfC x (Am st) s.heap.objs.size f dl)) -> sp vs H Q E ->
   ∃t,PSs (B0 CX0 P w K mg base N x (Am st) f dl A outer s H E).nox (Br st) t/\t { nx:=λ_ H'=>Q .non H',rt:=Q} (start N vs) H)(len:autoParam (∀vs H Q E,sp vs H Q E->vs.length=g.length) zF):Fn P w K mg base (k+1) x g sp:=F.fn S len c
def MB(sp:Sp)(t:TA):TE:=fun c H Q=>t c H λD g=>sp D g Q E0
theorem Aq{X:Cx}{n:Nat}{x:Str}{L:List Str}{sp:Sp}{e:yL}{es:List yL}{t:TA}{p g:Pos}(F:Fn X.prog X.w X.K X.mg X.base n x L sp)(G:AQ n X.A)(I:Gl X x)(Z:PA X (e::es) t)
  (hdb:autoParam ((x==("__debug__" :Str))=false) o3) (O:autoParam (starEach (e::es) X.env=(false,eval e X.env)::starEach es X.env) j2) (D:autoParam ((backTo g (starEach es X.env)).any (·.1)=false) j2):
  PE X (.Call (.Name x p) (e::es) [] g) (MB sp t):=by
 obtain⟨f,fd,F,J,hk,hb⟩:=F.ex;refine(LD (dvs:=[]) (E:=E0) F G I J hk hb .nil L8 Z hdb O D).weak fun σ H Q q=>?_
 have e:∀c:List V,c++[]=c:=λc=>ZV c
 show t σ H λc H1=>sp (c++[]) H1 Q E0
 simp only[e];exact q
theorem zB{X:Cx}{n:Nat}{x:Str}{L:List Str}{sp:Sp}{e:yL}{es:List yL}{t:TA}{p g:Pos}{m:Nat}(F:Fn X.prog X.w X.K X.mg X.base n x L sp)(G:AQ m X.A)(Z:PA X (e::es) t)(h9:autoParam (n<=m) o3)(h8:autoParam (Gl X x) j2)(hdb:autoParam ((x==("__debug__" :Str))=false) o3)(O:autoParam (starEach (e::es) X.env=(false,eval e X.env)::starEach es X.env) j2)(D:autoParam ((backTo g (starEach es X.env)).any (·.1)=false) j2):
  PE X (.Call (.Name x p) (e::es) [] g) (MB sp t):=Aq F (G.mono h9) h8 Z hdb O D
end
section
variable{p:yR}{H H':Hp}{xs:List V}
def DK(kvs:List (yQ×yQ))(ks:List (AE×V)):Prop:=(kvs=[]/\ks=[])\/(kvs=[(.int 0,.int 1)]/\ks=[(.inl 0,.int 1)])
mutual
def Aa(p:yR)(H:Hp):yQ->V->Prop
 |.none,v=>v= .non
 |.bool b,v=>v= .bl b
 |.int i,v=>v= .int i
 |.str x,v=>v= .str x
 |.tuple ds,v=>∃a xs,v= .ref a/\H a=some (.tup xs)/\Ac p H ds xs
 |.list ds,v=>∃a xs,v= .ref a/\a≠p/\H a=some (.lst xs)/\Ac p H ds xs
 |.dict kvs,v=>∃a ks,v= .ref a/\a≠p/\DK kvs ks/\H a=some (.dK ks)
def Ac(p:yR)(H:Hp):List yQ->List V->Prop
 |[],xs=>xs=[]
 |d::ds,xs=>∃x r,xs=x::r/\Aa p H d x/\Ac p H ds r
end
def Ev(p:yR)(H H':Hp):Prop:=∀b o,H b=some o->(b=p/\∃c,o= .lst c)\/H' b=some o
theorem Ev.refl:Ev p H H:=λ_ _ h=> .inr h
theorem Ev.same(h:Ab H H'):Ev p H H':=λb o q=> .inr (h b o q)
theorem Ev.trans{g c:Hp}(h:Ev p H g)(h':Ev p g c):Ev p H c:=λb o q=>(h b o q).elim .inl λr=>h' b o r
theorem Ev.tup{a:yR}(h:Ev p H H')(q:H a=some (.tup xs)):H' a=some (.tup xs):=(h a _ q).elim (fun⟨_,ys,e⟩=>nomatch e) id
theorem Ev.lst{a:yR}(h:Ev p H H')(q:H a=some (.lst xs))(n:a≠p):H' a=some (.lst xs):=(h a _ q).elim (fun⟨e,_⟩=>absurd e n) id
theorem Ev.dk{a:yR}{ks:List (AE×V)}(h:Ev p H H')(q:H a=some (.dK ks)):H' a=some (.dK ks):=(h a _ q).elim (fun⟨_,ys,e⟩=>nomatch e) id
theorem Ev.new{a:yR}{o:HO}(h:H a=none):Ev p H (upd H a o):=λb u q=> .inr (by rw[Ap (BC q h)];exact q)
theorem Ev.pen{o:HO}(h:H p=some (.lst xs)):Ev p H (upd H p o):=λb u q=>by
 by_cases e:b=p
 .subst e;rw[h]at q;cases q;exact .inl ⟨rfl,xs,rfl⟩
 .exact .inr (by rw[Ap e];exact q)
theorem Ab.new{a:yR}{o:HO}(h:H a=none):Ab H (upd H a o):=λb u q=>by rw[Ap (BC q h)];exact q
mutual
theorem Aa.ev(h:Ev p H H'):∀(d:yQ) (v:V),Aa p H d v->Aa p H' d v
 |.none,v,q=>q
 |.bool _,v,q=>q
 |.int _,v,q=>q
 |.str _,v,q=>q
 |.tuple ds,v,q=>by
  unfold Aa at q ⊢;obtain⟨a,c,e,r,z⟩:=q;exact⟨a,c,e,h.tup r,Ac.ev h ds c z⟩
 |.list ds,v,q=>by
  unfold Aa at q ⊢;obtain⟨a,c,e,n,r,z⟩:=q;exact⟨a,c,e,n,h.lst r n,Ac.ev h ds c z⟩
 |.dict kvs,v,q=>by
  unfold Aa at q ⊢;obtain⟨a,g,e,n,k,r⟩:=q;exact⟨a,g,e,n,k,h.dk r⟩
theorem Ac.ev(h:Ev p H H'):∀(ds:List yQ) (xs:List V),Ac p H ds xs->Ac p H' ds xs
 |[],xs,q=>by unfold Ac at q ⊢;exact q
 |d::ds,xs,q=>by
  unfold Ac at q ⊢;obtain⟨x,r,e,z,c⟩:=q;exact⟨x,r,e,Aa.ev h d x z,Ac.ev h ds r c⟩
end
theorem Ac.len:∀ {ds:List yQ}{xs:List V},Ac p H ds xs->ds.length=xs.length
 |[],xs,q=>by unfold Ac at q;subst q;rfl
 |d::ds,xs,q=>by
  unfold Ac at q;obtain⟨x,r,e,z,c⟩:=q;subst e;simp[Ac.len c]
theorem Ac.get{p:yR}{H:Hp}:∀ {ds:List yQ}{xs:List V}{i:Nat}{d:yQ},Ac p H ds xs->ds[i]? =some d->∃x,xs[i]? =some x/\Aa p H d x
 |[],xs,i,d,q,e=>by simp at e
 |d::ds,xs,0,d',q,e=>by
  unfold Ac at q;obtain⟨x,r,rfl,z,c⟩:=q;simp at e;subst e;exact⟨x,rfl,z⟩
 |d::ds,xs,i+1,d',q,e=>by
  unfold Ac at q;obtain⟨x,r,rfl,z,c⟩:=q;obtain⟨y,D,g⟩:=Ac.get (i:=i) c (by simpa using e);exact⟨y,by simpa using D,g⟩
theorem Ac.got{p:yR}{H:Hp}:∀ {ds:List yQ}{xs:List V}{i:Nat}{x:V},Ac p H ds xs->xs[i]? =some x->∃d,ds[i]? =some d/\Aa p H d x
 |[],xs,i,x,q,e=>by unfold Ac at q;subst q;simp at e
 |d::ds,xs,0,x',q,e=>by
  unfold Ac at q;obtain⟨x,r,rfl,z,c⟩:=q;simp at e;subst e;exact⟨d,rfl,z⟩
 |d::ds,xs,i+1,x',q,e=>by
  unfold Ac at q;obtain⟨x,r,rfl,z,c⟩:=q;obtain⟨y,D,g⟩:=Ac.got (i:=i) c (by simpa using e);exact⟨y,by simpa using D,g⟩
theorem Ac.nil:Ac p H [] []:=by unfold Ac;rfl
theorem Ac.cons{p:yR}{H:Hp}{d:yQ}{ds:List yQ}{x:V}{xs:List V}(h:Aa p H d x)(r:Ac p H ds xs):Ac p H (d::ds) (x::xs):=by unfold Ac;exact⟨x,xs,rfl,h,r⟩
theorem Ac.append:∀ {ds es:List yQ}{xs ys:List V},Ac p H ds xs->Ac p H es ys->Ac p H (ds++es) (xs++ys)
 |[],_,xs,_,q,r=>by unfold Ac at q;subst q;exact r
 |d::ds,_,xs,_,q,r=>by
  unfold Ac at q;obtain⟨x,t,rfl,z,c⟩:=q;exact .cons z (Ac.append c r)
theorem Aa.tup{a:yR}{ds:List yQ}(h:H a=some (.tup xs))(r:Ac p H ds xs):Aa p H (.tuple ds) (.ref a):=by unfold Aa;exact⟨a,xs,rfl,h,r⟩
theorem Aa.int{i:Int}:Aa p H (.int i) (.int i):=by unfold Aa;rfl
theorem Aa.str{i:Str}:Aa p H (.str i) (.str i):=by unfold Aa;rfl
theorem Aa.non:Aa p H .none .non:=by unfold Aa;rfl
def MC(x:V)(H:Hp)(n:String):Prop:=match x with
 |.non=>n="NoneType" | .bl _=>n="bool" | .int _=>n="int" | .str _=>n="str"
 |.ref a=>(n="tuple" /\∃xs,H a=some (.tup xs))\/(n="list" /\∃xs,H a=some (.lst xs))\/(n="dict" /\∃kvs,H a=some (.dK kvs))
 |_=>False
def RP:yQ->String
 |.none=> "NoneType" | .bool _=> "bool" | .int _=> "int" | .str _=> "str" | .tuple _=> "tuple" | .list _=> "list" | .dict _=> "dict"
def JP(n T:String):Bool:=n==T || (n=="bool" && T=="int")
theorem Aa.ty{v:V}:∀ {d:yQ},Aa p H d v->MC v H (RP d)
 |.none,q=>by unfold Aa at q;subst q;rfl
 |.bool _,q=>by unfold Aa at q;subst q;rfl
 |.int _,q=>by unfold Aa at q;subst q;rfl
 |.str _,q=>by unfold Aa at q;subst q;rfl
 |.tuple ds,q=>by unfold Aa at q;obtain⟨a,c,rfl,h,_⟩:=q;exact .inl ⟨rfl,c,h⟩
 |.list ds,q=>by unfold Aa at q;obtain⟨a,c,rfl,_,h,_⟩:=q;exact .inr (.inl ⟨rfl,c,h⟩)
 |.dict kvs,q=>by unfold Aa at q;obtain⟨a,g,rfl,_,_,h⟩:=q;exact .inr (.inr ⟨rfl,g,h⟩)
def MD:List V->Hp->VK->Prop:=λxs H Q=>match xs with
 |[x,.ty T]=>∃n,MC x H n/\(T="int" \/T="bool" \/T="tuple" \/T="list" \/T="str")/\Q (.bl (JP n T)) H
 |_=>False
variable{X:Cx}
theorem boot_int:bootBuiltins "int"=some (.type "int"):=by decide+kernel
theorem boot_bool:bootBuiltins "bool"=some (.type "bool"):=by decide+kernel
theorem BT:bootBuiltins "tuple"=some (.type "tuple"):=by decide+kernel
theorem ME:bootBuiltins "list"=some (.type "list"):=by decide+kernel
theorem RQ:bootBuiltins "str"=some (.type "str"):=by decide+kernel
theorem Hq:BJ X (.builtin "isinstance") MD:=by
 intro ad s σ H J us Q I r h;unfold MD at h;split at h
 .rename_i x T;obtain⟨n,G,O,q⟩:=h;obtain⟨u,v,rfl,ru,rv⟩:=r.two;cases rv;have g:∀s':yS,Ad X ad σ H s'->JP n T=true->EP X ad σ Q (.bool true) s':=λs' I' e=>⟨.bl true,H,I',rfl,by rw[e]at q;exact q⟩
  have no:JP n T=false->EP X ad σ Q (.bool false) { s with toks:=s.toks+1}:=λe=>⟨.bl false,H,I.tok _,rfl,by rw[e]at q;exact q⟩
  cases x with
  |non=>
   have e:n="NoneType" :=G;subst e;cases ru;rcases O with rfl | rfl | rfl | rfl | rfl
   .exact IsiPair.NoneType_int (no rfl)
   .exact IsiPair.NoneType_bool (no rfl)
   .exact IsiPair.NoneType_tuple (no rfl)
   .exact IsiPair.NoneType_list (no rfl)
   .exact IsiPair.NoneType_str (no rfl)
  |bl k=>
   have e:n="bool" :=G;subst e;cases ru;rcases O with rfl | rfl | rfl | rfl | rfl
   .exact IsiPair.bool_int (g _ I rfl)
   .exact IsiPair.bool_bool (g _ I rfl)
   .exact IsiPair.bool_tuple (no rfl)
   .exact IsiPair.bool_list (no rfl)
   .exact IsiPair.bool_str (no rfl)
  |int k=>
   have e:n="int" :=G;subst e;obtain⟨t,rfl⟩:=ru;rcases O with rfl | rfl | rfl | rfl | rfl
   .exact IsiPair.int_int (g _ I rfl)
   .exact IsiPair.int_bool (no rfl)
   .exact IsiPair.int_tuple (no rfl)
   .exact IsiPair.int_list (no rfl)
   .exact IsiPair.int_str (no rfl)
  |str k=>
   have e:n="str" :=G;subst e;obtain⟨t,rfl⟩:=ru;rcases O with rfl | rfl | rfl | rfl | rfl
   .exact IsiPair.str_int (no rfl)
   .exact IsiPair.str_bool (no rfl)
   .exact IsiPair.str_tuple (no rfl)
   .exact IsiPair.str_list (no rfl)
   .exact IsiPair.str_str (g _ I rfl)
  |ref a=>
   cases ru;have Z:(n="tuple" /\∃J,H a=some (.tup J))\/(n="list" /\∃J,H a=some (.lst J))\/(n="dict" /\∃i4,H a=some (.dK i4)):=G;rcases Z with⟨e,J,hx⟩ | ⟨e,J,hx⟩ | ⟨e,J,hx⟩
   .subst e;obtain⟨_,i5,_,o,c,L,_⟩:=I.hok a _ hx;rcases O with rfl | rfl | rfl | rfl | rfl
    .exact IsiPair.tuple_int c L (no rfl)
    .exact IsiPair.tuple_bool c L (no rfl)
    .exact IsiPair.tuple_tuple c L (g _ I rfl)
    .exact IsiPair.tuple_list c L (no rfl)
    .exact IsiPair.tuple_str c L (no rfl)
   .subst e;obtain⟨_,i5,k,_,c⟩:=I.hok a _ hx;rcases O with rfl | rfl | rfl | rfl | rfl
    .exact IsiPair.list_int c rfl (no rfl)
    .exact IsiPair.list_bool c rfl (no rfl)
    .exact IsiPair.list_tuple c rfl (no rfl)
    .exact IsiPair.list_list c rfl (g _ I rfl)
    .exact IsiPair.list_str c rfl (no rfl)
   .subst e;obtain⟨_,_,vs,_,o,es,ep,c,L,_⟩:=I.hok a _ hx;have D:o.cls= .type "dict" :=L.1;rcases O with rfl | rfl | rfl | rfl | rfl
    .exact IsiPair.dict_int c D (no rfl)
    .exact IsiPair.dict_bool c D (no rfl)
    .exact IsiPair.dict_tuple c D (no rfl)
    .exact IsiPair.dict_list c D (no rfl)
    .exact IsiPair.dict_str c D (no rfl)
  |byt _=>exact(show False from G).elim
  |flt _=>exact(show False from G).elim
  |ty _=>exact(show False from G).elim
 .exact h.elim
theorem DU(hc:X.calm=true):BJ X (.builtin "all") (λxs H Q=>∃(p:yR) (bs:List Bool),xs=[.ref p]/\H p=some (.lst (bs.map V.bl))/\Q (.bl (bs.all id)) H):=by
 intro ad s σ H xs us Q I r h;obtain⟨p,bs,rfl,hp,q⟩:=h;obtain⟨u,rfl,ru⟩:=r.one;cases ru;obtain⟨c,G,pl,hz⟩:=I.list (Al.of hp);refine call_all_walk (aL pl.isList ?_);obtain⟨ol,_,O,_⟩:=id pl;have J:=Y8 O;refine⟨s.heap.objs.size,_,_,_,_,_,λi=>bs.getD i false,rfl,Walks.list (A:=X.A.in1) (I.ok.hd hc) s.heap.objs.size p (Z0 J) c.toArray,⟨⟨_,YL _ rfl,rfl,rfl⟩,?_⟩,λi v s' Q' E' hi L=>?_,λh' tk hk=>?_⟩
 .exact pl.isList.at λo e=>Y2 _ e
 .have g:c[i]? =some v:=by simpa using hi
  have D:=G.length;have hb:i<bs.length:=by have:=(Y3.mp g).1;simp at D;lia
  obtain⟨u,hu,ru⟩:=G.get (i:=i) (x:= .bl bs[i]) (by simp[hb]);rw[g]at hu;cases hu;cases ru;dsimp only at L;rw[Y7,Y5 hb]at L;exact Zz L
 .have D:=G.length;simp at D;have e:(List.range c.toArray.size).all (λi=>bs.getD i false)=bs.all id:=by
   rw[Z2,<-D,ap];simp only[Zt,ZM,id];constructor
   .intro h x hx;obtain⟨i,hi,e⟩:=cG.mp hx;have:=h i hi;rw[Y7,Y5 hi]at this;rw[<-e];exact this
   .intro h i hi;rw[Y7,Y5 hi];exact h _ (bz hi)
  rw[e];refine⟨.bl (bs.all id),H,I.kept λb o Z=>hk b o ?_ (Y2 _ Z),rfl,q⟩;intro z;have z':b=s.heap.objs.size:=by simpa using z
  exact absurd (Y8 Z) (by rw[z'];exact YX _)
end
section
open AutoSeq1 (wpAny_loadPart')
variable{X:Cx}
def Fo(H:Hp)(xs:List V)(Q:VK):Prop:=∀r c,Ab H c->c r=some (.tup xs)->Q (.ref r) c
theorem Ad.gotNew{ad:PNs}{σ:St}{H:Hp}{s:yS}{Q:VK}{xs:List V}{us:yX}{t':Nat}(I:Ad X ad σ H s)(q:Fo H xs Q)(c:At xs us)(hz:xs.length<=sizeLine):
  EP X ad σ Q (.ref s.heap.objs.size) { s with heap:=s.heap.push { cls:= .type "tuple",data:= .seq us.toArray},toks:=t'}:=
 ⟨.ref s.heap.objs.size,_,I.laid (o:= .tup xs) (λb ob e=>Y2 _ e) (Y4 _) ⟨hz,us,c,IsTup.new _ _⟩,rfl,q _ _ (Ab.new (I.hok.fresh (Y4 _))) Af⟩
def MG:R2:=λx y H Q=>∃a b c g,x= .ref a/\y= .ref b/\H a=some (.tup c)/\H b=some (.tup g)/\c.length+g.length<=1000/\Fo H (c++g) Q
theorem F9:OpR X (binaryOp .Add) MG:=by
 intro ad s σ H x y v u Q I rx ry h;obtain⟨a,b,xs,ys,rfl,rfl,ha,hb,hz,q⟩:=h;cases rx;cases ry;obtain⟨D,r1,ht,_⟩:=I.tuple (Ae.of ha);obtain⟨c,r2,i4,_⟩:=I.tuple (Ae.of hb);obtain⟨⟨cls,dd,data,sl⟩,L,hc,n,hd⟩:=id ht;obtain⟨⟨i5,G,data2,J⟩,g,Z,n2,O⟩:=id i4;simp only at hc hd Z O;subst hc hd Z O;have i7:=r1.length;have i6:=r2.length;have hs:(1000:Nat)<=sizeLine:=by decide
 by_cases hv:D=[]
 .have e:xs=[]:=by subst hv;cases r1;rfl
  refine f9 ⟨_,L,rfl⟩ ⟨_,g,rfl⟩ dH eS PySem.F.slot_tuple_add PySem.F.entry_tuple_add (PySem.F.args_tuple_add_2 _ _) (tuple_addW0 a b D.toArray c.toArray n n2 dd G sl J (by simp[hv])) ⟨L,g,?_⟩;exact⟨.ref b,H,I,rfl,q b H (Ab.refl _) (by rw[e];exact hb)⟩
 .by_cases hw:c=[]
  .have e:ys=[]:=by subst hw;cases r2;rfl
   refine f9 ⟨_,L,rfl⟩ ⟨_,g,rfl⟩ dH eS PySem.F.slot_tuple_add PySem.F.entry_tuple_add (PySem.F.args_tuple_add_2 _ _) (tuple_addW1 a b D.toArray c.toArray n n2 dd G sl J (by simpa using hv) (by simp[hw])) ⟨L,g,?_⟩;exact⟨.ref a,H,I,rfl,q a H (Ab.refl _) (by rw[e,ZV];exact ha)⟩
  .refine f9 ⟨_,L,rfl⟩ ⟨_,g,rfl⟩ dH eS PySem.F.slot_tuple_add PySem.F.entry_tuple_add (PySem.F.args_tuple_add_2 _ _)
    (tuple_addW2 a b D.toArray c.toArray n n2 dd G sl J (by simpa using hv) (by simpa using hw) (by rw[Z2,Z2];lia)) ⟨L,g,?_⟩
   have e:D.toArray++c.toArray=(D++c).toArray:=by simp
   rw[e];exact I.gotNew (t':=s.toks) q (r1.append r2) (by rw[Z7];lia)
theorem RR{t g:yR}{items:Array yU}{Z O:yU}{lo hi:Option Int}{Q:VSP}{prog:yP}{w:yN}{A:yO}{E:VSP}{s:yS}(c:IsTup s.heap t items)(L:s.heap.IsSliceOf g Z O .none)(pl:IsPart Z lo)(pu:IsPart O hi)
  (J:HT.sIx items.size 0 lo=0/\HT.sIx items.size items.size hi=items.size) (h:Q (.ref t) s):wpAny (model prog w) A (getItem (.ref t) (.ref g)) Q E s:=by
 obtain⟨os,I,D,i4⟩:=id L;have G:s.TypeIs (.ref g) "slice" :=⟨os,I,D⟩;unfold getItem
 try with_reducible refine ZD ?_
 first | refine Y1 (Y6 ?_) | skip
 refine Y1 (wpAny_sequenceKey c.typeIs (by decide) ?_);refine Y1 (ZB (name:=Str.ofString "__getitem__") c.typeIs ZP (ZZ ZP c.typeIs entry_tuple_getitem ?_ (args_tuple_getitem _ _)));show wpAny _ _ (Builtin.Tuple.tupleItemsOf (.ref t) >>=_) _ _ s;refine Y1 (eO c ?_);refine Y1 (dy G ?_);rw[YR (by decide)];refine Y1 (HT.sliceApplied_gen L pl pu ?_);rw[J.1,J.2];show wpAny _ _ (if (((0:Nat):Int)==0 &&(1:Int)==1 &&(items.size-0)==items.size)=true then _ else _) _ _ s;rw[YR (by simp)];refine Y1 (m:=Builtin.Tuple.tupleIsExact _) ?_;unfold Builtin.Tuple.tupleIsExact;refine Y1 (dy c.typeIs (Y6 ?_));rw[YR (by decide)];exact Y1 (bP (Y6 ⟨_,rfl,Y6 h⟩))
def MH:V->Option Int->Option Int->Hp->VK->Prop:=λx lo hi H Q=>∃a c,x= .ref a/\H a=some (.tup c)/\Fo H (A4 c lo hi) Q
theorem wa0:Hb X MH:=by
 intro ad s σ H x v vl vu lo hi sl Q I rx Z pl O h;obtain⟨a,D,rfl,L,q⟩:=h;cases rx;obtain⟨g,r,J,hz⟩:=I.tuple (Ae.of L);have c:g.toArray.size=D.length:=by rw[Z2];exact r.length.symm
 refine⟨"tuple",_,ZP.lookup,J.typeIs,?_⟩
 by_cases G:HT.sIx D.length 0 lo=0/\HT.sIx D.length D.length hi=D.length
 .refine RR J Z pl O (by rw[c];exact G) ⟨.ref a,H,I,rfl,q a H (Ab.refl _) ?_⟩;unfold A4;rw[G.1,G.2,drop_zero,fe,ZR];exact L
 .refine HT.getItem_tuple_cut J Z pl O (by rw[c];exact G) ?_ (by rw[c];exact hz);rw[c];have e:g.toArray.toList=g:=rfl;rw[e];exact I.gotNew (t':=s.toks) q ((r.drop _).take _) (YV (Jx D lo hi) hz)
theorem MI:fillsNumberSlot (.type "tuple") "mul"=pure false:=
 PySem.fillsNumberSlot_seq (id:="tuple.__mul__") (r:=some (.builtin "tuple.__rmul__")) cg.lookup (by decide+kernel) F.slot_tuple_rmul.lookup (by decide+kernel)
theorem MJ:seqRepeat? (.type "tuple")=pure (some (.builtin "tuple.__mul__")):=by
 unfold seqRepeat?;rw[PySem.seqSlot_of (T:="tuple") (name:="__mul__") (id:="tuple.__mul__") cg.lookup (by decide+kernel),PySem.seqSlot_of (T:="tuple") (name:="__rmul__") (id:="tuple.__rmul__") F.slot_tuple_rmul.lookup (by decide+kernel)];rfl
theorem MK(a:Int)(t:Tok)(l:yR)(items:Array yU)(n:Nat)(dd:Option yR)(c:Array (yW)):
  Meets (Builtin.«int.__rmul__» ⟨[.int a t,.ref l],[]⟩) (λ_ R s=>s.heap.get? l=some { cls:= .type "tuple",dict:=dd,data:= .seq items n,slots:=c}/\R (.ok (.ret Value.notImplemented)) s):=
 .of_wp λprog w A R s h=>by obtain⟨G,g,d,tk,os⟩:=s;obtain⟨D,h⟩:=h;wp_walk using Zk D;exact⟨_,rfl,h⟩
theorem RS(l:yR)(items:Array yU)(n:Nat)(dd:Option yR)(O:Array (yW))(x:Int)(u:Tok)(D:¬(decide (x< -(2 ^ 63)) || decide (x≥2 ^ 63))=true)(G:¬(items.isEmpty || x==1)=true)(J:¬(decide (x<=0) || items.isEmpty)=true)
  (I:¬(items.size:Int) * x>(2 ^ 63-1)/ 8) (c:¬Builtin.Tuple.tupleTooMany ((items.size:Int) * x)=true) (hsz:sizeOk (.seq ((List.replicate x.toNat items).foldl (λa b=>a++b) #[]))):
  Meets (Builtin.«tuple.__mul__» ⟨[.ref l,.int x u],[]⟩) (λ_ R s=>s.heap.get? l=some { cls:= .type "tuple",dict:=dd,data:= .seq items n,slots:=O}/\R (.ok (.ret (Value.ref s.heap.objs.size))) { s with heap:=s.heap.push { cls:=Value.type "tuple",data:=Data.seq ((List.replicate x.toNat items).foldl (λa b=>a++b) #[])}}):=
 .of_wp λprog w A R s h=>by
  obtain⟨hp,g,d,tk,os⟩:=s;obtain⟨L,h⟩:=h;have f1:=AutoSeq1.idx_int;have Z:=bJ
  wp_walk using Zk L
  rw[YN D];refine Y1 (eO (items:=items) ⟨_,L,rfl,n,rfl⟩ ?_);dsimp only;rw[YN G,YN J,YN I,YN c];exact Y1 (m:=Builtin.Tuple.tupleExact _) (Zy (Y6 ⟨_,rfl,h⟩) hsz)
def ML:R2:=λx y H Q=>∃a k c,x= .ref a/\y= .int k/\H a=some (.tup c)/\c≠ []/\2<=k/\k<=100/\c.length<=100/\Fo H (List.replicate k.toNat c).flatten Q
theorem MM:OpR X (binaryOp .Mult) ML:=by
  intro ad s σ H x y v u Q I rx Z h;obtain⟨a,k,xs,rfl,rfl,ha,hx,h1,h2,h3,q⟩:=h;cases rx;obtain⟨t,rfl⟩:=Z;obtain⟨c,r,ht,hz⟩:=I.tuple (Ae.of ha);obtain⟨⟨cls,dd,data,J⟩,g,L,n,hd⟩:=id ht;simp only at L hd;subst L hd;have hl:=r.length;refine bE (T:="tuple") (U:="int") (by decide) ⟨_,g,rfl⟩ (λs'=>bO s' k t) MI dO aV MJ dB.lookup
    (aA aV (bO s k t) dC (di _ _) (MK k t a c.toArray n dd J) ⟨g,rfl,⟨_,g,rfl⟩,?_⟩)
  have G:¬c.toArray.isEmpty=true:=by
    intro z;have z':c=[]:=by simpa using z
    subst z';cases r;exact hx rfl
  have fl:(List.replicate k.toNat c.toArray).foldl (λa b=>a++b) #[]=(List.replicate k.toNat c).flatten.toArray:=by
    have:=JB c k.toNat [];rw[cE]at this;exact this
  have i4:(c.length:Int) * k<=100 * 100:=Int.mul_le_mul (by lia) (by lia) (by lia) (by lia);have D:(List.replicate k.toNat c).flatten.length<=10000:=by
    rw[JC];have:k.toNat * c.length<=100 * 100:=bQ (by lia) (by lia);lia
  have O:(10000:Nat)<=sizeLine:=by decide
  refine aA cg ⟨_,g,rfl⟩ F.entry_tuple_mul (F.args_tuple_mul_2 _ _) (RS a c.toArray n dd J k t (by simp;lia) (by simp only[G,Bool.false_or];simp;lia) (by simp only[G,Bool.or_false];simp;lia) (by rw[Z2];lia)
    (by unfold Builtin.Tuple.tupleTooMany; rw [Z2]; simp; have : (sizeLine : Int) = 16777216 := by decide
        lia) (by rw[fl];show(List.replicate k.toNat c).flatten.toArray.size<=sizeLine;rw[Z2];lia)) ⟨g,?_⟩
  rw[fl];exact I.gotNew (t':=s.toks) q (r.rep k.toNat) (by rw[JC]at D ⊢;rw[hl];lia)
theorem MN{c G:Type}{f g:c->Option G}:∀(l:List c),(∀k∈l,f k=g k)->l.filterMap f=l.filterMap g
 |[],_=>rfl
 |a::l,h=>by
  rw[aY,aY,h a Z1,MN l λk D=>h k (Z4 _ D)]
theorem RT(xs:yX):((List.range xs.length).filterMap fun(k:Nat)=>xs.toArray[(((xs.length:Int)-1)+(k:Int) *(-1)).toNat]?).toArray=xs.reverse.toArray:=by
 have e:∀k∈List.range xs.length,(fun(k:Nat)=>xs.toArray[(((xs.length:Int)-1)+(k:Int) *(-1)).toNat]?) k=xs.reverse[k]? :=λk g=>by
  have c:=ZM.mp g;have:(((xs.length:Int)-1)+(k:Int) *(-1)).toNat=xs.length-1-k:=by lia
  dsimp only;rw[this,eE c];simp
 rw[MN _ e]
 congr 1
 have gen:∀(l:yX) (n:Nat),n<=l.length->(List.range n).filterMap (λk=>l[k]?)=l.take n:=λl n=>by
  induction n with
  |zero=>intro _;simp
  |succ n ih=>
   intro D;rw[aB,List.filterMap_append,ih (by lia),cH];rw[Y5 (by lia)];simp[Y5 (show n<l.length by lia)]
 have this:∀(l:yX),(List.range l.length).filterMap (λk=>l[k]?)=l:=λl=>by rw[gen l l.length (Y4 _),ZR]
 have:=this xs.reverse;rw[List.length_reverse]at this;exact this
def MO:List (yQ×yQ)->Nat | []=>2 | [(.int i,.int j)]=>if i=0/\j=1 then 6 else 10 ^ 9 | _=>10 ^ 9
mutual
def BN:yQ->Nat
 |.none=>4 | .bool _=>5 | .int i=>if i.natAbs<10 ^ 31 then 40 else 10 ^ 9 | .str x=>(reprText x).length
 |.tuple ds=>DV ds+4 | .list ds=>DV ds+4 | .dict kvs=>MO kvs
def DV:List yQ->Nat
 |[]=>0
 |d::ds=>BN d+2+DV ds
end
end
section
variable{i:Int}{p:yR}
theorem MP:∀(g:List Str) (k:Nat) (c:Str),(textFrom k c g).length<=c.length+piled g
 |[],k,c=>by show c.length<=_;lia
 |t::g,k,c=>by
  have D:=MP g;unfold textFrom;rw[PySem.piled_cons];refine YV (D _ _) ?_;have e:(c++(if k>0 then", " else"" :String)++t).length=c.length+(if k>0 then 2 else 0)+t.length:=by
   rw[bX,bX];split<;>rfl
  rw[e];split<;>lia
theorem RU(c:List Str):(listText c).length<=piled c+2:=by
 unfold listText;rw[bX];have:=MP c 0 "[";have D:(Str.ofString "[").length=1:=rfl;have g:(Str.ofString "]").length=1:=rfl;lia
theorem RV(c:List Str):(tupleText c).length<=piled c+4:=by
 unfold tupleText;rw[bX,bX];have g:(Str.ofString "(").length=1:=rfl;have D:(Str.ofString (if (c.length==1)=true then",)" else")")).length<=2:=by
  split
  .exact Y4 2
  .exact Zx 1
 have G:(Str.join (Str.ofString ", ") c).length<=piled c:=by
  cases c with
  |nil=>exact Z6 _
  |cons a r=>have:=join_length_add (a::r) (by simp);lia
 lia
theorem RW(h:i.natAbs<10 ^ 31):(Str.ofString (toString i)).length<=40:=by
 have c:=int_text_length_le10 (a:=i) (k:=31) (by decide) h;have g:(Str.ofString (toString i)).length=(toString i).length:=by rw[PySem.ofString_length]
 lia
theorem RX(h:i.natAbs<10 ^ 31):i.natAbs.log2<1920:=by
 by_cases z:i.natAbs=0
 .rw[z];decide
 .exact aZ ((Nat.log2_lt z).mpr (aZ h (show 10 ^ 31<2 ^ 120 by decide))) (by decide)
mutual
theorem MQ:∀d:yQ,BN d<10 ^ 9->d.showable=true/\d.shown.length<=BN d
 |.none,_=>⟨rfl,by show 4<=4;decide⟩
 |.bool b,_=>⟨rfl,by cases b<;>(unfold PyData.shown BN;decide)⟩
 |.int i,h=>by
  unfold BN at h ⊢
  by_cases c:i.natAbs<10 ^ 31
  .rw [YR c];refine⟨?_,?_⟩
   .unfold PyData.showable;exact ZE (RX c)
   .unfold PyData.shown;exact RW c
  .rw[YN c]at h;exact absurd h (YX _)
 |.str x,h=>⟨rfl,by unfold PyData.shown BN;exact Y4 _⟩
 |.tuple ds,h=>by
  unfold BN at h ⊢;obtain⟨a,b⟩:=JQ ds (by lia);refine⟨by unfold PyData.showable;exact a,?_⟩;unfold PyData.shown;exact YV (RV _) (by lia)
 |.list ds,h=>by
  unfold BN at h ⊢;obtain⟨a,b⟩:=JQ ds (by lia);refine⟨by unfold PyData.showable;exact a,?_⟩;unfold PyData.shown;exact YV (RU _) (by lia)
 |.dict kvs,h=>by
  unfold BN at h;unfold MO at h;split at h
  .exact⟨rfl,by decide+kernel⟩
  .split at h
   .rename_i i j c;obtain⟨rfl,rfl⟩:=c;exact⟨by decide+kernel,by decide+kernel⟩
   .exact absurd h (YX _)
  .exact absurd h (YX _)
theorem JQ:∀ds:List yQ,DV ds<10 ^ 9->PyData.showableAll ds=true/\piled (PyData.shownAll ds)<=DV ds
 |[],_=>⟨rfl,by decide⟩
 |d::ds,h=>by
  unfold DV at h ⊢;obtain⟨a,b⟩:=MQ d (by lia);obtain⟨c,g⟩:=JQ ds (by lia);refine⟨by unfold PyData.showableAll;rw[a,c];rfl,?_⟩;unfold PyData.shownAll;rw[PySem.piled_cons];lia
end
variable{X:Cx}{ad:List (yR × Obj)}{σ:St}{H:Hp}{s:yS}
mutual
theorem Aa.reads(I:Ad X ad σ H s):∀(d:yQ) (v:V) (u:yU),d.hasDict=false->Aa p H d v->Az v u->∃as,Reads s.heap u d as
 |.none,v,u,_,r,q=>by unfold Aa at r;subst r;cases q;exact⟨_,.none⟩
 |.bool b,v,u,_,r,q=>by unfold Aa at r;subst r;cases q;exact⟨_,.bool b⟩
 |.int i,v,u,_,r,q=>by unfold Aa at r;subst r;obtain⟨t,rfl⟩:=q;exact⟨_,.int i t⟩
 |.str x,v,u,_,r,q=>by unfold Aa at r;subst r;obtain⟨t,rfl⟩:=q;exact⟨_,.str x t⟩
 |.tuple ds,v,u,hd,r,q=>by
  unfold Aa at r;obtain⟨a,O,rfl,G,rs⟩:=r;cases q;obtain⟨g,J,⟨o,L,Z,n,c⟩,_⟩:=I.tuple (Ae.of G);obtain⟨as,D⟩:=Ac.reads I ds O g (by unfold PyData.hasDict at hd;exact hd) rs J;exact⟨as,.tuple L Z c D⟩
 |.list ds,v,u,hd,r,q=>by
  unfold Aa at r;obtain⟨a,O,rfl,_,G,rs⟩:=r;cases q;obtain⟨g,J,⟨o,n,L,Z,_,c⟩,_⟩:=I.list (Al.of G);obtain⟨as,D⟩:=Ac.reads I ds O g (by unfold PyData.hasDict at hd;exact hd) rs J;exact⟨a::as,.list L Z c D⟩
 |.dict kvs,v,u,hd,_,_=>by unfold PyData.hasDict at hd;cases hd
theorem Ac.reads(I:Ad X ad σ H s):∀(ds:List yQ) (xs:List V) (us:yX),PyData.hasDictAll ds=false->Ac p H ds xs->At xs us->∃as,ReadsAll s.heap us ds as
 |[],xs,us,_,r,q=>by unfold Ac at r;subst r;cases q;exact⟨_,.nil⟩
 |d::ds,xs,us,hd,r,q=>by
  unfold Ac at r;obtain⟨x,t,rfl,G,rt⟩:=r;unfold PyData.hasDictAll at hd;obtain⟨J,g⟩:=bp.mp hd;cases q with
  |cons q1 q2=>
   obtain⟨as,c⟩:=Aa.reads I d x _ J G q1;obtain⟨bs,D⟩:=Ac.reads I ds t _ g rt q2;exact⟨as++bs,.cons c D⟩
end
mutual
def Ga:yQ->Bool
 |.list _=>false | .tuple ds=>Hr ds | .none=>true | .bool _=>true | .int _=>true | .str _=>true | .dict _=>true
def Hr:List yQ->Bool
 |[]=>true
 |d::ds=>Ga d && Hr ds
end
mutual
theorem Aa.readsD(I:Ad X ad σ H s):∀(d:yQ) (v:V) (u:yU),Ga d=true->Aa p H d v->Az v u->∃as,Reads s.heap u d as/\¬sysModules∈as
 |.none,v,u,_,r,q=>by unfold Aa at r;subst r;cases q;exact⟨_,.none,Ze⟩
 |.bool b,v,u,_,r,q=>by unfold Aa at r;subst r;cases q;exact⟨_,.bool b,Ze⟩
 |.int i,v,u,_,r,q=>by unfold Aa at r;subst r;obtain⟨t,rfl⟩:=q;exact⟨_,.int i t,Ze⟩
 |.str x,v,u,_,r,q=>by unfold Aa at r;subst r;obtain⟨t,rfl⟩:=q;exact⟨_,.str x t,Ze⟩
 |.tuple ds,v,u,hd,r,q=>by
  unfold Aa at r;obtain⟨a,xs,rfl,ha,rs⟩:=r;cases q;obtain⟨i7,rv,⟨o,O,hc,n,g⟩,_⟩:=I.tuple (Ae.of ha);obtain⟨as,ra,hn⟩:=Ac.readsD I ds xs i7 (by unfold Ga at hd;exact hd) rs rv;exact⟨as,.tuple O hc g ra,hn⟩
 |.list ds,v,u,hd,r,q=>by unfold Ga at hd;cases hd
 |.dict kvs,v,u,hd,r,q=>by
  unfold Aa at r;obtain⟨a,ks,rfl,_,dk,hb⟩:=r;cases q;obtain⟨_,G,vs,kv,o,es,ep,O,hx,g,i9,L,i8⟩:=I.hok a _ hb;have D:sysModules≠a:=λe=>by rw[<-e]at G;simp at G
  rcases dk with⟨rfl,rfl⟩ | ⟨rfl,rfl⟩
  .cases kv;have c:es.toList=[]:=by
    generalize es.toList=l at L;cases L;rfl
   exact⟨a::[]++[],.dict O hx.1 g (by rw[c];exact .nil) (by rw[c];exact .nil),by simpa using D⟩
  .cases kv with
   |cons h1 Z=>
    cases Z;obtain⟨e1,e2⟩:=h1;generalize c:es.toList=l at L;cases L with
    |cons k1 k2 k3=>
     cases k3;rename_i J e;have i5:Ee (.inl 0) e.key=true:=by
      have i6:(Sum.inl 0:AE)=J.1:=e1;rw[i6];exact k1
     obtain⟨t,ht⟩:∃t,e.key=Value.int 0 t:=by
      rcases Dc i5 with⟨i,t,h,h'⟩ | ⟨x,t,h,_⟩
      .cases h;exact⟨t,h'⟩
      .cases h
     obtain⟨Z,i4⟩:∃t,J.2=Value.int 1 t:=e2;refine⟨a::([]++[])++([]++[]),.dict (kvs:=[(.int 0,.int 1)]) O hx.1 g ?_ ?_,by simpa using D⟩
     .rw[c];show ReadsAll _ [e.key] [.int 0] _;rw[ht];exact .cons (.int 0 t) .nil
     .rw[c];show ReadsAll _ [e.val] [.int 1] _;rw[k2,i4];exact .cons (.int 1 Z) .nil
theorem Ac.readsD(I:Ad X ad σ H s):∀(ds:List yQ) (xs:List V) (us:yX),Hr ds=true->Ac p H ds xs->At xs us->∃as,ReadsAll s.heap us ds as/\¬sysModules∈as
 |[],xs,us,_,r,q=>by unfold Ac at r;subst r;cases q;exact⟨_,.nil,Ze⟩
 |d::ds,xs,us,hd,r,q=>by
  unfold Ac at r;obtain⟨x,t,rfl,L,rt⟩:=r;unfold Hr at hd;obtain⟨O,g⟩:=(Zj _ _).mp hd;cases q with
  |cons q1 q2=>
   obtain⟨as,c,J⟩:=Aa.readsD I d x _ O L q1;obtain⟨bs,D,G⟩:=Ac.readsD I ds t _ g rt q2;exact⟨as++bs,.cons c D,λz=>(ay.mp z).elim J G⟩
end
structure MR(d:yQ):Prop where
 w:BN d<=1000000
 dp:d.depth<=20
 nd:d.hasDict=false\/Ga d=true
def MS:List V->Hp->VK->Prop:=λc H Q=>match c with | [v]=>∃p d,Aa p H d v/\MR d/\Q (.str d.shown) H | _=>False
theorem MT{k:Nat}(hr:AQ k X.A):BJ X (.builtin "repr") MS:=by
 intro ad s σ H xs us Q I r h;unfold MS at h;split at h
 .rename_i v;obtain⟨p,d,D,nd,q⟩:=h;obtain⟨u,rfl,ru⟩:=r.one;obtain⟨sh,sl⟩:=MQ d (aD nd.w (by decide));have big:(1000000:Nat)<=sizeLine:=by decide
  have G:d.shown.length<=sizeLine:=YV sl (YV nd.w big);have un:=hr.un;have fin:∀J tk t,(∀b o,s.heap.get? b=some o->J.get? b=some o)->EP X ad σ Q (.str d.shown t) { s with heap:=J,toks:=tk}:=λJ tk t L=>⟨.str d.shown,H,I.kept L,⟨t,rfl⟩,q⟩
  have g:∀a,u= .ref a->wpAny (model X.prog X.w) X.A (call (.builtin "repr") [u]) (EP X ad σ Q) X.xe s:=λa e=>by
   subst e;have O:X.A.units+(d.depth+1)<cLine:=by have:=nd.dp;lia
   rcases nd.nd with hd | hd
   .obtain⟨as,Z⟩:=Aa.reads I d v _ hd D ru;exact repr_of_reads' Z sh (PyData.noDict_hsm hd) hr.gd O (λ_ _ e=>e) (λJ t tk L=>fin J tk t L) G
   .obtain⟨as,Z,hm⟩:=Aa.readsD I d v _ hd D ru;exact repr_of_reads' Z sh (λ_=>hm) hr.gd O (λ_ _ e=>e) (λJ t tk L=>fin J tk t L) G
  cases d with
  |none=>unfold Aa at D;subst D;cases ru;exact PySem.P.repr_of_none (fin s.heap _ _ λ_ _ e=>e)
  |bool b=>unfold Aa at D;subst D;cases ru;exact PySem.P.repr_of_bool (by have:=fin s.heap (s.toks+1) s.toks λ_ _ e=>e;unfold PyData.shown at this;exact this)
  |int i=>
   unfold Aa at D;subst D;obtain⟨t,rfl⟩:=ru;refine PySem.P.repr_of_int ?_ (by have:=fin s.heap (s.toks+1) s.toks λ_ _ e=>e;unfold PyData.shown at this;exact this);unfold PyData.showable at sh;exact Z3 sh
  |str x=>
   unfold Aa at D;subst D;obtain⟨t,rfl⟩:=ru;exact PySem.P.repr_of_str (by have:=fin s.heap (s.toks+1) s.toks λ_ _ e=>e;unfold PyData.shown at this;exact this) (by unfold PyData.shown at G;exact G)
  |tuple ds=>have c:=D;unfold Aa at c;obtain⟨a,xs,rfl,_⟩:=c;exact g a ru
  |list ds=>have c:=D;unfold Aa at c;obtain⟨a,xs,rfl,_⟩:=c;exact g a ru
  |dict kvs=>have c:=D;unfold Aa at c;obtain⟨a,ks,rfl,_⟩:=c;exact g a ru
 .exact h.elim
theorem Ad.big(I:Ad X ad σ H s):sysModules<s.heap.objs.size:=by
 have h:mainGlobals<s.heap.objs.size:=(I.mod.glob.keeps I.bk).lt;exact aZ (by decide) h
end
section
variable{X:Cx}{P:yP}{w:yN}
theorem Bb(K:Fgx)(h:autoParam (X.K=K) j2):FZ X (Jy K):=h ▸ QT
theorem Bw(K:Fgx)(h:autoParam (X.K=K) j2):FZ X (LT K):=h ▸ QU
theorem Hs(K:Fgx)(h:autoParam (X.K=K) j2):Hb X (LU K):=h ▸ QZ
theorem Ht(K:Fgx)(h:autoParam (X.K=K) j2):OpR X (compareOp .In) (LW K false):=h ▸ Q1
def MU(K:Fgx):List V->Hp->VK->Prop:=λg H Q=>∃p c,g=[.ref p]/\(Al K H p c\/Ae K H p c)/\Q (.int (c:List V).length) H
theorem Bl(K:Fgx)(h:autoParam (X.K=K) j2):BJ X (.builtin "len") (MU K):=h ▸ Q2
def RY(K:Fgx):List V->Hp->VK->Prop:=λg H Q=>∃p c,g=[.ref p]/\(Al K H p c\/Ae K H p c)/\∀l,H l=none->Q (.ref l) (upd H l (.lst c))
theorem RZ(K:Fgx)(h:autoParam (X.K=K) j2):BJ X (.type "list") (RY K):=h ▸ Q3
def R0(K:Fgx):List V->Hp->VK->Prop:=λg H Q=>∃p c,g=[.ref p]/\((Al K H p c/\∀l,H l=none->Q (.ref l) (upd H l (.tup c)))\/(Ae K H p c/\Q (.ref p) H))
theorem BX(K:Fgx)(h:autoParam (X.K=K) j2):BJ X (.type "tuple") (R0 K):=h ▸ Q4
theorem AL(K:Fgx){es:List yL}{k:Nat}{t:Eg}{n:Nat}{g:Pos}(h:FV X es t)(G:autoParam (X.K=K) j2)(D:autoParam (X.calm=true) j2)(I:autoParam ((assignEach es X.env).length=n) j2)(c:autoParam ((assignEach es X.env).findIdx? (·.1)=none) j2):
  PG X (.Tuple es k g) (Le K n t):=G ▸ PZ D h I c
theorem Fp(K:Fgx){g l:yL}{c:TE}(D:PE X l c)(h:autoParam (X.K=K) j2):PI X g l (Ll K c):=h ▸ P9 D
theorem BO(K:Fgx){g l:yL}{c:TE}(D:PE X l c)(h:autoParam (X.K=K) j2):PI X g l (Lm K c):=h ▸ Qa D
theorem R5(P:yP)(w:yN)(K:Fgx){es:List yL}{k:Nat}{p g c:Pos}{a:yL}{D:TA}(I:Gl X "enumerate")(J:X.mg "enumerate"=none)(Z:PA X [a] D)(G:autoParam (X.prog=P) j2)(L:autoParam (X.w=w) j2)(hK:autoParam (X.K=K) j2)(O:autoParam (starEach [a] X.env=[(false,eval a X.env)]) j2):
  PI X (.Tuple es k c) (.Call (.Name "enumerate" p) [a] [] g) (Hj (DD P w K) D):=by subst G L hK;exact Rr I J Z O
theorem EM(P:yP)(w:yN)(K:Fgx){es:List yL}{k:Nat}{p g c:Pos}{a:yL}{D:TA}(I:Gl X "enumerate")(J:X.mg "enumerate"=none)(Z:PA X [a] D)(G:autoParam (X.prog=P) j2)(L:autoParam (X.w=w) j2)(hK:autoParam (X.K=K) j2)(O:autoParam (starEach [a] X.env=[(false,eval a X.env)]) j2):
  PI X (.Tuple es k c) (.Call (.Name "enumerate" p) [a] [] g) (Hj (Dk P w K) D):=by subst G L hK;exact Rt I J Z O
theorem Hu(P:yP)(w:yN)(K:Fgx){es:List yL}{k:Nat}{p G g:Pos}{D c:yL}{J:TA}(L:Gl X "zip")(O:X.mg "zip"=none)(Z:PA X [D,c] J)(hP:autoParam (X.prog=P) j2)(hw:autoParam (X.w=w) j2)(hK:autoParam (X.K=K) j2)
  (hs:autoParam (starEach [D,c] X.env=[(false,eval D X.env),(false,eval c X.env)]) j2) (I:autoParam (starEach [c] X.env=[(false,eval c X.env)]) j2):
  PI X (.Tuple es k g) (.Call (.Name "zip" p) [D,c] [] G) (F8 (Dk P w K) (Dk P w K) J):=by subst hP hw hK;exact Rx L O Z hs I
theorem MV(P:yP)(w:yN)(K:Fgx){es:List yL}{k:Nat}{p G g:Pos}{D c:yL}{J:TA}(L:Gl X "zip")(O:X.mg "zip"=none)(Z:PA X [D,c] J)(hP:autoParam (X.prog=P) j2)(hw:autoParam (X.w=w) j2)(hK:autoParam (X.K=K) j2)
  (hs:autoParam (starEach [D,c] X.env=[(false,eval D X.env),(false,eval c X.env)]) j2) (I:autoParam (starEach [c] X.env=[(false,eval c X.env)]) j2):
  PI X (.Tuple es k g) (.Call (.Name "zip" p) [D,c] [] G) (F8 (DD P w K) (DD P w K) J):=by subst hP hw hK;exact Ry L O Z hs I
end
section
variable{X:Cx}
def R6:List V->Hp->VK->Prop:=λc H Q=>∃(p:yR) (ns:yV),c=[.ref p]/\H p=some (.lst (ns.map V.int))/\Q (.int ns.sum) H
theorem JR:∀ {ns:yV}{us:yX},At (ns.map V.int) us->IntsAre us ns
 |[],us,h=>by cases h;exact .nil
 |n::ns,us,h=>by
  cases h with
  |cons r t=>obtain⟨k,rfl⟩:=r;exact .cons n k (JR t)
theorem Hv(hc:X.calm=true):BJ X (.builtin "sum") R6:=by
 intro ad s σ H c us Q I r h;obtain⟨p,ns,rfl,O,q⟩:=h;obtain⟨u,rfl,ru⟩:=r.one;cases ru;obtain⟨i4,G,pl,hz⟩:=I.list (Al.of O);have hi:=JR G;obtain⟨c,g⟩:=AllInts.items hi.allInts;have J:s.heap.IsList p (intItems c):=g ▸ pl.isList;refine sum_intListG (I.ok.hd hc) J λh' tk L hk=>?_
 have Z:ns=c.toList.map (λx=>x.fst):=by rw[<-nums_intItems,<-g,List.toList_toArray,hi.numsOf]
 have e2:preSum (numAt c) c.size=ns.sum:=by
  rw[preSum_eq,YS (by simp),<-Z]
 rw[e2];exact⟨.int ns.sum,H,I.kept λb o D=>hk b o D,⟨L,rfl⟩,q⟩
end
def Gb(lo st:Int)(n:Nat):It:= { go:=λi _=>i<n,yld:=λi H x c=>c=H/\x= .int (lo+i * st),stop:=λi _=>n<=i}
theorem R7{P:yP}{w:yN}{K:Fgx}{tg:yL}(it:yR)(lo st:Int)(n:Nat):De P w K tg (Gb lo st n) [it] it (λi h=>IsRangeIter h it (lo+(i:Nat) * st) ((n:Int)-(i:Nat)) st) where
 mem:=by simp
 obj:=λi h c b g=>by
  obtain rfl:b=it:=by simpa using g
  exact⟨_,c,λv z=>by
   have z':Data.fields _=Data.cell v:=z;cases z'⟩
 keep:=λi h J c k=>k it (by simp) _ c
 item:=by
  intro X hP hw O Z i ad s σ H E I G c L;subst hP hw O;obtain⟨f0,f1,f2,f3,f4,f5⟩:=G it (by simp);have W:=Walks.range (prog:=X.prog) (w:=X.w) (I.ok.hd Z) it lo st n;refine W.item i s _ _ L c λv J tk hv D kk=>?_
  obtain⟨t,rfl⟩:=hv;have I1:Ad X ad σ H { s with heap:=J,toks:=tk}:=I.turned (λb o g e=>kk b o (by simpa using g) e) f0 f1 f3 f4 f5;exact⟨_,rfl,FX (s:= { s with heap:=J,toks:=tk}) (n:="range_iterator") D rfl rfl (by decide) ⟨.int (lo+i * st),H,I1,⟨t,rfl⟩,⟨rfl,rfl⟩,D,λb g=>(G b g).1⟩⟩
 done:=by
  intro X hP hw O Z i ad s σ H E I G c L;subst hP hw O;obtain⟨f0,f1,f2,f3,f4,f5⟩:=G it (by simp);exact dU (I.ok.hd Z) c (by have:n<=i:=L;lia) λJ eb=>⟨rfl,I.turned (t':=s.toks) (λb o g e=>eb b o g e) f0 f1 f3 f4 f5⟩
 self:=λ_ _ _ _ _ c h=>bW c h
theorem R8{lo st:Int}{n:Nat}{g:TG}{O:TS}{D:Cy}{σ:St}{H:Hp}(I:Nat->St->Hp->Prop)(h0:I 0 σ H)
  (hs:∀i σ H,i<n->I i σ H->g (.int (lo+i * st)) σ H fun G J=>O { D with nx:=I (i+1),ct:=I (i+1),bk:=D.nx} G J) (hd:∀σ H,I n σ H->D.nx σ H):
  ∃W:Nat->Nat->St->Hp->Prop,(∃m,W 0 m σ H)/\∀i m σ H,W i m σ H->
   ((Gb lo st n).stop i H/\D.nx σ H)\/((Gb lo st n).go i H/\∃N:St->Hp->Prop,(∀σ' H',N σ' H'->∃L,L<m/\W (i+1) L σ' H')/\∀x H',(Gb lo st n).yld i H x H'->g x σ H' fun G J=>O { D with nx:=N,ct:=N,bk:=D.nx} G J):=by
 refine⟨λi m σ H=>m=n-i/\i<=n/\I i σ H,⟨n,by simp,Z6 _,h0⟩,?_⟩;rintro i m σ H ⟨rfl,hi,p⟩
 by_cases c:i<n
 .refine .inr ⟨c,I (i+1),fun σ' H' Z=>⟨n-(i+1),by lia,rfl,c,Z⟩,λx H' zq=>?_⟩;obtain⟨e,y⟩:=zq;subst e y;exact hs i σ _ c p
 .obtain rfl:i=n:=by lia
  exact .inl ⟨Y4 _,hd σ H p⟩
end L2
namespace MF
open L2
variable{α:Type}{i:Nat}{h:Int}{ws:List Bool}{p:yR}{H:Hp}{xs:List V}
theorem _root_.L2.walk_enum{P:yP}{w:yN}{K:Fgx}{S:Bk P w K}{a:yR}{xs:List V}{cap:List (Option Nat)}{g:TG}{L:TT}{G:TE}{σ:L2.St}{Q:List V->Hp->Prop}{H:Hp}(c:Nat->List V->Hp->Prop)(Z:xs.length<=100000)(h0:c 0 [] H)(hz:∀i zs H,c i zs H->zs.length<=i)
  (I:∀i zs H,c i zs H->S.Sq H a xs)
  (hs:∀i x zs H T,xs[i]? =some x->c i zs H->H T=none->g (.ref T) (AR cap σ) (upd H T (.tup [.int i,x])) fun D H2=>Keep (AR cap σ) D/\L D H2 λb J=>br b (G D J λy H4=>c (i+1) (zs++[y]) H4) (c (i+1) zs J))
  (hd:∀zs H,c xs.length zs H->Q zs H):EJ (El S a) cap g L G σ Q H:=
 Fk xs.length c Z h0 hz (λi zs H hi p=>by
  have q:=I i zs H p;refine⟨⟨xs,xs[i],q,by simp[hi]⟩,λv H' O=>?_⟩;obtain⟨T,e,n,y⟩:=O;subst e;rw[y xs xs[i] q (by simp[hi])];exact hs i xs[i] zs H T (by simp[hi]) p n)
  λzs H p=>⟨⟨xs,I _ zs H p,rfl⟩,hd zs H p⟩
theorem _root_.L2.for_enum{P:yP}{w:yN}{K:Fgx}{S:Bk P w K}{a:yR}{xs:List V}{g:TG}{O:TS}{D:Cy}{σ:L2.St}{H:Hp}(G:Nat->L2.St->Hp->Prop)(h0:G 0 σ H)(hl:∀i σ H,G i σ H->S.Sq H a xs)
  (hs:∀i x σ H T,xs[i]? =some x->G i σ H->H T=none->g (.ref T) σ (upd H T (.tup [.int i,x])) fun I J=>O { D with nx:=G (i+1),ct:=G (i+1),bk:=D.nx} I J) (hd:∀σ H,G xs.length σ H->D.nx σ H):
  ∃W:Nat->Nat->L2.St->Hp->Prop,(∃m,W 0 m σ H)/\∀i m σ H,W i m σ H->
   ((El S a).stop i H/\D.nx σ H)\/((El S a).go i H/\∃N:L2.St->Hp->Prop,(∀σ' H',N σ' H'->∃L,L<m/\W (i+1) L σ' H')/\∀x H',(El S a).yld i H x H'->g x σ H' fun I J=>O { D with nx:=N,ct:=N,bk:=D.nx} I J):=by
 refine⟨λi m σ H=>m=xs.length-i/\i<=xs.length/\G i σ H,⟨xs.length,by simp,Z6 _,h0⟩,?_⟩;rintro i m σ H ⟨rfl,hi,p⟩;have q:=hl i σ H p
 by_cases c:i<xs.length
 .refine .inr ⟨⟨xs,xs[i],q,by simp[c]⟩,G (i+1),fun σ' H' Z=>⟨xs.length-(i+1),by lia,rfl,c,Z⟩,λx H' zq=>?_⟩;obtain⟨T,e,n,y⟩:=zq;subst e;rw[y xs xs[i] q (by simp[c])];exact hs i xs[i] σ H T (by simp[c]) p n
 .obtain rfl:i=xs.length:=by lia
  exact .inl ⟨⟨xs,q,rfl⟩,hd σ H p⟩
structure PL where
 bs:List (Int×Int)
 es:List (Int×Int×Int)
 lo:Int
 hi:Int
 st:Int
abbrev bD(q:Int×Int):yQ:= .tuple [.int q.1,.int q.2]
abbrev eD(q:Int×Int×Int):yQ:= .tuple [.int q.1,.int q.2.1,.int q.2.2]
def PL.d(P:PL):yQ:= .tuple [.tuple (P.bs.map bD),.tuple (P.es.map eD),.tuple [.int P.lo,.int P.hi,.int P.st]]
structure PL.ok(P:PL):Prop where
 b:∀q∈P.bs,1<=q.1/\q.1<=9/\1<=q.2/\q.2<=9
 b1:1<=P.bs.length
 b4:P.bs.length<=4
 e:∀q∈P.es,1<=q.1/\q.1<=9/\0<=q.2.1/\q.2.1<=7/\1<=q.2.2/\q.2.2<=8
 e4:P.es.length<=4
 lo0:0<=P.lo
 ls:P.lo<=P.st
 sh:P.st<=P.hi
 h4:P.hi<=40
structure FT where
 b:Int
 out:Bool
 f:Int
 l:Int
def wS(b:Bool):Str:=if b then"out" else"scaled"
abbrev wV(b:Bool):V:= .str (wS b)
abbrev FT.d(x:FT):yQ:= .tuple [.int x.b,.str (wS x.out),.int x.f,.int x.l]
structure SY where
 ex:yV
 fs:List FT
def SY.d(S:SY):yQ:= .tuple [.tuple (S.ex.map .int),.tuple (S.fs.map FT.d)]
structure FT.ok(x:FT)(n h:Nat):Prop where
 b0:0<=x.b
 bn:x.b<n
 f0:0<=x.f
 fl:x.f<=x.l
 lh:x.l<h
structure SY.ok(S:SY)(n:Nat):Prop where
 x1:1<=S.ex.length
 x8:S.ex.length<=8
 x:∀u∈S.ex,0<=u/\u<=20
 f4:S.fs.length<=4
 f:∀x∈S.fs,x.ok n S.ex.length
def B9(ws:List Bool)(m:Int):Int:=if ws.any id then 0 else if ws.any (!·) then m / 2 else m
def Cq(b h:Int)(x:FT):Bool:=x.b==b && decide (x.f<=h) && decide (h<=x.l)
def BP(fs:List FT)(b h:Int):List Bool:=(fs.filter (Cq b h)).map FT.out
def BY(bs:List (Int×Int))(fs:List FT)(h:Int):yV:=bs.zipIdx.map λq=>B9 (BP fs q.2 h) q.1.1
def caps(P:PL)(S:SY):yZ:=(List.range S.ex.length).map fun(h:Nat)=>BY P.bs S.fs (h:Int)
def drawn(q:Int×Int×Int)(h:Int):Int:=if h<q.2.1\/(h-q.2.1) % q.2.2≠0 then 0 else q.1
def draws(P:PL)(S:SY):yV:=S.ex.zipIdx.map λq=>q.1+(P.es.map λe=>drawn e q.2).sum
abbrev AN(r:yV):yQ:= .tuple (r.map .int)
def EN(P:PL)(S:SY):yQ:= .tuple ((caps P S).map AN)
def JS(P:PL)(S:SY):yQ:=AN (draws P S)
def ret(H:Hp)(Q:VK)(p:yR)(d:yQ):Prop:=∀v c,Ab H c->Aa p c d v->Q v c
theorem A6{l:List α}{x:α}(h:l[i]? =some x):l.take (i+1)=l.take i++[x]:=by rw[cH,h];rfl
theorem JT{bs:List (Int×Int)}{fs:List FT}{q:Int×Int}(c:bs[i]? =some q):(BY bs fs h)[i]? =some (B9 (BP fs i h) q.1):=by
 unfold BY;rw[YO,List.getElem?_zipIdx,c];simp
theorem En{bs:List (Int×Int)}{fs:List FT}:(BY bs fs h).length=bs.length:=by unfold BY;simp
theorem CZ{P:PL}{S:SY}(h:i<S.ex.length):(caps P S)[i]? =some (BY P.bs S.fs i):=by
 unfold caps;rw[YO,ae h];rfl
theorem Cr{P:PL}{S:SY}:(caps P S).length=S.ex.length:=by unfold caps;simp
theorem R9{P:PL}{S:SY}{u:Int}(c:S.ex[i]? =some u):(draws P S)[i]? =some (u+(P.es.map λe=>drawn e i).sum):=by
 unfold draws;rw[YO,List.getElem?_zipIdx,c];simp
theorem Cs{P:PL}{S:SY}:(draws P S).length=S.ex.length:=by unfold draws;simp
theorem Hw:Ei (.str "out") (ws.map wV)=ws.any id:=by
 induction ws with
 |nil=>rfl
 |cons b ws ih=>
  unfold Ei at ih ⊢;rw[ZA,aJ,ih,aJ];cases b<;>rfl
theorem JU:Ei (.str "scaled") (ws.map wV)=ws.any (!·):=by
 induction ws with
 |nil=>rfl
 |cons b ws ih=>
  unfold Ei at ih ⊢;rw[ZA,aJ,ih,aJ];cases b<;>rfl
theorem Hx:(ws.map wV).all DM=true:=by
 rw[ci,Zt];intro b _
 rfl
theorem MW{fs:List FT}{x:FT}{b:Int}(g:fs[i]? =some x):BP (fs.take (i+1)) b h=if Cq b h x then BP (fs.take i) b h++[x.out] else BP (fs.take i) b h:=by
 unfold BP;rw[A6 g,bY]
 by_cases c:Cq b h x=true
 .rw[YR c,bS c,YM];rfl
 .rw[YN c,bT c,List.filter_nil,ZV]
theorem Ac.mapGot{f:α->yQ}{l:List α}{x:V}(r:Ac p H (l.map f) xs)(h:xs[i]? =some x):∃a,l[i]? =some a/\Aa p H (f a) x:=by
 obtain⟨d,hd,c⟩:=r.got h;rw[YO]at hd;cases z:l[i]? with
 |none=>rw[z]at hd;cases hd
 |some a=>rw[z]at hd;cases hd;exact⟨a,rfl,c⟩
theorem Ac.ints:∀ {ns:yV}{xs:List V},Ac p H (ns.map .int) xs->xs=ns.map V.int
 |[],xs,r=>by unfold Ac at r;exact r
 |n::ns,xs,r=>by
  rw[ZA]at r;unfold Ac at r;obtain⟨x,t,rfl,c,rt⟩:=r;unfold Aa at c;rw[c,Ac.ints rt];rfl
theorem Ac.ofInts:∀ {ns:yV},Ac p H (ns.map .int) (ns.map V.int)
 |[]=> .nil
 |n::ns=> .cons Aa.int Ac.ofInts
theorem Ac.snoc{ds:List yQ}{d:yQ}{x:V}(r:Ac p H ds xs)(h:Aa p H d x):Ac p H (ds++[d]) (xs++[x]):=r.append (.cons h .nil)
theorem Aa.row{a:yR}{r:yV}(h:H a=some (.tup (r.map V.int))):Aa p H (AN r) (.ref a):=Aa.tup h Ac.ofInts
theorem Ab.own{H':Hp}{b:yR}{o:HO}(s:Ab H H')(n:H b=none):Ab H (upd H' b o):=λx u q=>by rw[Ap (BC q n)];exact s x u q
theorem Ac.four{a b c d:yQ}(r:Ac p H [a,b,c,d] xs):∃x y z w,xs=[x,y,z,w]/\Aa p H a x/\Aa p H b y/\Aa p H c z/\Aa p H d w:=by
 unfold Ac at r;obtain⟨x,s,rfl,I,r⟩:=r;unfold Ac at r;obtain⟨y,s,rfl,D,r⟩:=r;unfold Ac at r;obtain⟨z,s,rfl,G,r⟩:=r;unfold Ac at r;obtain⟨w,s,rfl,g,r⟩:=r;unfold Ac at r;subst r;exact⟨x,y,z,w,rfl,I,D,G,g⟩
theorem Sa{a b:V}(h:(!decide (a=b))=true):a≠b:=by simpa using h
theorem MX{a b:V}(h:decide (a=b)=true):a=b:=Z3 h
theorem MY{a b:V}(h:decide (a=b)=false):a≠b:=aa h
structure Small(n k:Nat)(d:yQ):Prop where
 w:BN d<=n
 dp:d.depth<=k
 nd:d.hasDict=false
theorem JV{n k:Nat}:∀ {ds:List yQ},(∀d∈ds,Small n k d)->DV ds<=(n+2) * ds.length/\PyData.depthAll ds<=k/\PyData.hasDictAll ds=false
 |[],_=>⟨by unfold DV;exact Z6 _,by unfold PyData.depthAll;exact Z6 _,rfl⟩
 |d::ds,h=>by
  obtain⟨a,b,c⟩:=JV λx g=>h x (Z4 _ g)
  have s:=h d Z1;refine⟨?_,?_,?_⟩
  .unfold DV;rw[Zh,Nat.mul_add];have:=s.w;lia
  .unfold PyData.depthAll;exact Nat.max_le.mpr ⟨s.dp,b⟩
  .unfold PyData.hasDictAll;rw[s.nd,c];rfl
theorem EO{n k m:Nat}{ds:List yQ}(h:∀d∈ds,Small n k d)(g:(n+2) * ds.length+4<=m):Small m (k+1) (.tuple ds):=by
 obtain⟨a,b,c⟩:=JV h;exact⟨by unfold BN;lia,by unfold PyData.depth;lia,by unfold PyData.hasDict;exact c⟩
theorem MZ{n k m:Nat}{ds:List yQ}(h:∀d∈ds,Small n k d)(g:(n+2) * ds.length+4<=m):Small m (k+1) (.list ds):=by
 obtain⟨a,b,c⟩:=JV h;exact⟨by unfold BN;lia,by unfold PyData.depth;lia,by unfold PyData.hasDict;exact c⟩
theorem Small.mono{n c k g:Nat}{d:yQ}(h:Small n k d)(D:n<=c)(G:k<=g):Small c g d:=⟨YV h.w D,YV h.dp G,h.nd⟩
theorem DW{i:Int}(h:i.natAbs<10 ^ 6):Small 40 0 (.int i):=by
 refine⟨?_,Y4 0,rfl⟩;unfold BN;rw[YR (aZ h (by decide))];exact Y4 _
theorem EQ{r:yV}(h:∀i∈r,i.natAbs<10 ^ 6)(c:r.length<=20):Small 1000 1 (AN r):=EO (n:=40) (k:=0) (λd hd=>by
 obtain⟨i,hi,rfl⟩:=Z8.mp hd;exact DW (h i hi)) (by rw[Y0];lia)
theorem JW{rs:yZ}(h:∀r∈rs,(∀i∈r,i.natAbs<10 ^ 6)/\r.length<=20)(c:rs.length<=20):Small 30000 2 (.tuple (rs.map AN)):=EO (n:=1000) (k:=1) (λd hd=>by
 obtain⟨i,hi,rfl⟩:=Z8.mp hd;exact EQ (h i hi).1 (h i hi).2) (by rw[Y0];lia)
theorem Sb{ws:List Bool}{m:Int}(h0:0<=m)(c:m<=9):0<=B9 ws m/\B9 ws m<=m:=by
 unfold B9;split
 .lia
 .split
  .lia
  .lia
theorem CP{P:PL}{S:SY}(ok:P.ok):∀r∈caps P S,(∀i∈r,0<=i/\i<=9)/\r.length=P.bs.length:=λr c=>by
 unfold caps at c;obtain⟨h,_,rfl⟩:=Z8.mp c;refine⟨λi hi=>?_,En⟩;unfold BY at hi;obtain⟨q,D,rfl⟩:=Z8.mp hi;obtain⟨b1,g,_⟩:=ok.b q.1 (de D);have:=Sb (ws:=BP S.fs q.2 h) (m:=q.1.1) (by lia) g;lia
theorem Sc{P:PL}{S:SY}(ok:P.ok){n:Nat}(so:S.ok n):Small 30000 2 (EN P S):=JW (λr c=>by
 obtain⟨a,b⟩:=CP ok r c;have:=ok.b4;exact⟨λi hi=>by have:=a i hi;lia,by lia⟩) (by rw[Cr];have:=so.x8;lia)
theorem Sd{q:Int×Int×Int}(c:1<=q.1)(g:q.1<=9):0<=drawn q h/\drawn q h<=9:=by
 unfold drawn;split<;>lia
theorem M0{l:yV}(h:∀i∈l,0<=i/\i<=9):0<=l.sum/\l.sum<=9 * l.length:=by
 induction l with
 |nil=>exact⟨ZS _,ZS _⟩
 |cons a l ih=>
  have:=h a Z1;have:=ih λi hi=>h i (Z4 _ hi)
  rw[bK,Zh];lia
theorem JX{P:PL}{S:SY}(ok:P.ok){n:Nat}(so:S.ok n):∀i∈draws P S,0<=i/\i<=56:=λi hi=>by
 unfold draws at hi;obtain⟨q,G,rfl⟩:=Z8.mp hi;have a:=so.x q.1 (de G);have b:=M0 (l:=P.es.map λe=>drawn e q.2) λi hi=>by
  obtain⟨e,c,rfl⟩:=Z8.mp hi;obtain⟨g,D,_⟩:=ok.e e c;exact Sd g D
 rw[Y0]at b;have:=ok.e4;lia
theorem Se{P:PL}{S:SY}(ok:P.ok){n:Nat}(so:S.ok n):Small 1000 1 (JS P S):=EQ (λi hi=>by have:=JX ok so i hi;lia) (by rw[Cs];have:=so.x8;lia)
theorem JY{l:yV}(h:i<l.length):l[i]? =some (l.getD i 0):=by rw[Y7,Y5 h];rfl
theorem Sf{m:Int}(c:ws.any id=false):m /(1+if ws.any (!·)=true then 1 else 0)=B9 ws m:=by
 unfold B9;rw[c,YN (by decide:¬(false=true))];cases ws.any (!·) with
 |true=>rfl
 |false=>exact eY _
end MF
namespace L2
variable{X:Cx}
def Sg:List V->Hp->VK->Prop:=λc H Q=>∃(p:yR) (ns:yV),c=[.ref p]/\(H p=some (.lst (ns.map V.int))\/H p=some (.tup (ns.map V.int)))/\Q (.int ns.sum) H
theorem Eo(hc:X.calm=true):BJ X (.builtin "sum") Sg:=by
 intro ad s σ H c us Q I r h;obtain⟨p,ns,rfl,D,q⟩:=h;rcases D with D | D
 .exact Hv hc ad s σ H _ us Q I r ⟨p,ns,rfl,D,q⟩
 obtain⟨u,rfl,ru⟩:=r.one;cases ru;obtain⟨O,rv,pl,hz⟩:=I.tuple (Ae.of D);have hi:=JR rv;obtain⟨c,hx⟩:=AllInts.items hi.allInts;have e1:ns=c.toList.map (λx=>x.fst):=by rw[<-nums_intItems,<-hx,List.toList_toArray,hi.numsOf]
 have e2:preSum (numAt c) c.size=ns.sum:=by
  rw[preSum_eq,YS (by simp),<-e1]
 have G:s.heap.IsTuple p (intItems c):=hx ▸(show s.heap.IsTuple p O.toArray from pl);refine call_sum_walkG (al G ?_);have g:p<s.heap.objs.size:=by
  obtain⟨o,J,_⟩:=id G;exact Y8 J
 refine⟨s.heap.objs.size,_,_,_,_,_,numAt c,rfl,Walks.tuple (A:=X.A.in1) (I.ok.hd hc) s.heap.objs.size p (Z0 g) (intItems c),⟨⟨_,YL _ rfl,rfl,rfl⟩,?_⟩,λb hb=>?_,λi v hv=>intItems_at hv,λh' tk t' hk=>?_⟩
 .obtain⟨o,J,L⟩:=id G;exact⟨o,Y2 _ J,L⟩
 .have:b=s.heap.objs.size\/b=p:=by simpa using hb
  rw[show(s.heap.push _).objs.size=s.heap.objs.size+1 from Array.size_push _];rcases this with rfl | rfl
  .exact aN _
  .exact ZT g
 .have e3:(intItems c).size=c.size:=Array.size_map;rw[e3,e2];refine⟨.int ns.sum,H,I.kept λb o Z=>hk b o ?_ (Y2 _ Z),⟨t',rfl⟩,q⟩;intro z;have z':b=s.heap.objs.size:=by simpa using z
  exact absurd (Y8 Z) (by rw[z'];exact YX _)
end L2
namespace MF
open L2
section
variable{H H':Hp}{P:PL}{S:SY}{p:yR}{F:yZ}{u:V}{i:Nat}
theorem _root_.L2.walk_zip{P:yP}{w:yN}{K:Fgx}{S1 S2:Bk P w K}{a b:yR}{xs ys:List V}{cap:List (Option Nat)}{g:TG}{tt:TT}{J:TE}{σ:L2.St}{Q:List V->Hp->Prop}{H:Hp}(c:Nat->List V->Hp->Prop)(hn:xs.length<=100000)(he:xs.length=ys.length)(h0:c 0 [] H)(hz:∀i zs H,c i zs H->zs.length<=i)
  (G:∀i zs H,c i zs H->S1.Sq H a xs/\S2.Sq H b ys)
  (hs:∀i x y zs H T,xs[i]? =some x->ys[i]? =some y->c i zs H->H T=none->g (.ref T) (AR cap σ) (upd H T (.tup [x,y])) fun D H2=>Keep (AR cap σ) D/\tt D H2 λb Z=>br b (J D Z λy H4=>c (i+1) (zs++[y]) H4) (c (i+1) zs Z))
  (hd:∀zs H,c xs.length zs H->Q zs H):EJ (EK S1 S2 a b) cap g tt J σ Q H:=
 Fk xs.length c hn h0 hz (λi zs H hi p=>by
  obtain⟨L,O⟩:=G i zs H p;have I:i<ys.length:=by lia
  refine⟨⟨xs,ys,xs[i],ys[i],L,O,by simp[hi],by simp[I]⟩,λv H' zq=>?_⟩;obtain⟨T,e,n,y⟩:=zq;subst e;rw[y xs ys xs[i] ys[i] L O (by simp[hi]) (by simp[I])];exact hs i xs[i] ys[i] zs H T (by simp[hi]) (by simp[I]) p n)
  λzs H p=>⟨⟨xs,ys,(G _ zs H p).1,(G _ zs H p).2,rfl⟩,hd zs H p⟩
theorem Ab.evOwn{c:Hp}{R:yR}(s:Ab H c)(n:H R=none)(e:Ev R c H'):Ab H H':=λb o q=>(e b o (s b o q)).elim (λg=>by obtain⟨z,_⟩:=g;rw[z,n]at q;cases q) id
def FD(F:yZ):yQ:= .tuple (F.map AN)
structure FOk(P:PL)(S:SY)(F:yZ):Prop where
 len:F.length=S.ex.length
 row:∀(i:Nat) (r:yV),F[i]? =some r->r.length=P.bs.length
 bd:∀(i:Nat) (r:yV) (j:Nat) (x c:Int),F[i]? =some r->r[j]? =some x->(BY P.bs S.fs i)[j]? =some c->0<=x/\x<=c
theorem FOk.caps(ok:P.ok):FOk P S (caps P S):=by
 refine⟨Cr,λi r g=>?_,λi r j x c g G D=>?_⟩
 .exact(CP ok r (YU g)).2
 .have hi:i<S.ex.length:=by
   have:=(Y3.mp g).1;rw[Cr]at this;exact this
  rw[CZ hi]at g;cases g;rw[G]at D;cases D;have:=(CP (S:=S) ok _ (YU (CZ hi))).1 x (YU G);lia
structure Tri(p:yR)(H:Hp)(P:PL)(S:SY)(F:yZ)(v u w:V):Prop where
 ok:P.ok
 so:S.ok P.bs.length
 fo:FOk P S F
 r:Aa p H P.d v
 ru:Aa p H S.d u
 rw:Aa p H (FD F) w
theorem Tri.ev{v w:V}(t:Tri p H P S F v u w)(e:Ev p H H'):Tri p H' P S F v u w:=⟨t.ok,t.so,t.fo,Aa.ev e _ _ t.r,Aa.ev e _ _ t.ru,Aa.ev e _ _ t.rw⟩
theorem Tri.sm{v w:V}(t:Tri p H P S F v u w)(e:Ab H H'):Tri p H' P S F v u w:=t.ev (Ev.same e)
def made(F:yZ)(i:Nat):Int:=(F.getD i []).sum
def Ct(P:PL)(S:SY)(i:Nat):Int:=(draws P S).getD i 0
def C3(hi m:Int):Int:=if 0>m-hi then 0 else m-hi
def Be(P:PL)(S:SY)(F:yZ):Nat->Int
 |0=>P.st
 |i+1=>Be P S F i+(made F i-Ct P S i)-C3 P.hi (Be P S F i+(made F i-Ct P S i))
def Bx(P:PL)(S:SY)(F:yZ)(i:Nat):Int:=Be P S F i+(made F i-Ct P S i)
theorem Ep:Be P S F (i+1)=Bx P S F i-C3 P.hi (Bx P S F i):=rfl
def Hy(P:PL)(S:SY)(F:yZ)(i:Nat):yQ:= .tuple [.int (made F i),.int (Ct P S i),.int (C3 P.hi (Bx P S F i)),.int (Be P S F (i+1))]
def C4(P:PL)(S:SY)(F:yZ)(k:Nat):List yQ:=(List.range k).map (Hy P S F)
theorem Sh{k:Nat}:C4 P S F (k+1)=C4 P S F k++[Hy P S F k]:=by unfold C4;rw[aB,YM];rfl
theorem JZ{k:Nat}:(C4 P S F k).length=k:=by unfold C4;simp
def DX:Option (Int×Int)->yQ
 |none=> .none
 |some q=> .tuple [.int q.1,.int q.2]
structure Run(P:PL)(S:SY)(F:yZ)(k:Nat)(s:Option (Int×Int)):Prop where
 le:k<=S.ex.length
 up:∀i,i<k->P.lo<=Bx P S F i
 fin:(s=none/\k=S.ex.length)\/(k<S.ex.length/\Bx P S F k<P.lo/\s=some ((k:Int),P.lo-Bx P S F k))
theorem Run.uniq{k g:Nat}{s s':Option (Int×Int)}(h:Run P S F k s)(h':Run P S F g s'):k=g/\s=s':=by
 have e:k=g:=by
  rcases Nat.lt_trichotomy k g with c | c | c
  .have:=h'.up k c;rcases h.fin with⟨_,z⟩ | ⟨_,z,_⟩
   .have:=h'.le;lia
   .lia
  .exact c
  .have:=h.up g c;rcases h'.fin with⟨_,z⟩ | ⟨_,z,_⟩
   .have:=h.le;lia
   .lia
 subst e;refine⟨rfl,?_⟩;rcases h.fin with⟨a,b⟩ | ⟨a,b,c⟩<;>rcases h'.fin with⟨a',b'⟩ | ⟨a',b',c'⟩
 .rw[a,a']
 .lia
 .lia
 .rw[c,c']
theorem M3{r:yV}(h:F[i]? =some r):made F i=r.sum:=by unfold made;rw[Y7,h];rfl
theorem M4{d:Int}(h:(draws P S)[i]? =some d):Ct P S i=d:=by unfold Ct;rw[Y7,h];rfl
end
variable{P:PL}{S:SY}{F:yZ}
theorem FOk.bd9(ok:P.ok)(fo:FOk P S F):∀r∈F,(∀x∈r,0<=x/\x<=9)/\r.length=P.bs.length:=λr G=>by
 obtain⟨i,hi,e⟩:=cG.mp G;have g:F[i]? =some r:=by rw[Y5 hi,e]
 have L:=fo.row i r g;refine⟨λx hx=>?_,L⟩;obtain⟨j,J,Z⟩:=cG.mp hx;have O:r[j]? =some x:=by rw[Y5 J,Z]
 have D:j<(BY P.bs S.fs i).length:=by rw[En];lia
 have I:=Y5 D;have:=fo.bd i r j x _ g O I;have c:i<S.ex.length:=by have:=fo.len;lia
 have b:=(CP (S:=S) ok _ (YU (CZ c))).1 _ (bz D);lia
theorem M5{P:PL}{S:SY}{F:yZ}(ok:P.ok)(fo:FOk P S F){i:Nat}(hi:i<S.ex.length):0<=made F i/\made F i<=36:=by
 have c:i<F.length:=by have:=fo.len;lia
 have g:F[i]? =some F[i]:=Y5 c;obtain⟨a,b⟩:=FOk.bd9 ok fo _ (YU g);rw[M3 g];have:=M0 a;have:=ok.b4;lia
theorem M6{P:PL}{S:SY}(ok:P.ok){n:Nat}(so:S.ok n){i:Nat}(hi:i<S.ex.length):0<=Ct P S i/\Ct P S i<=56:=by
 have c:(draws P S)[i]? =some ((draws P S).getD i 0):=JY (by rw[Cs];exact hi);rw[M4 c];exact JX ok so _ (YU c)
theorem ER{P:PL}{S:SY}{F:yZ}(ok:P.ok):∀ {k:Nat},(∀i,i<k->P.lo<=Bx P S F i)->P.lo<=Be P S F k/\Be P S F k<=P.hi
 |0,_=>⟨ok.ls,ok.sh⟩
 |k+1,up=>by
  have h:=up k (by lia);have g:=ok.ls;have c:=ok.sh;rw[Ep];unfold C3;split<;>lia
theorem Si(ok:P.ok){n:Nat}(so:S.ok n)(fo:FOk P S F){k i:Nat}(I:k<=S.ex.length)(up:∀i,i<k->P.lo<=Bx P S F i)(hi:i<k):Small 200 1 (Hy P S F i):=by
 have g:=ER ok (k:=i) λj c=>up j (by lia)
 have J:=ER ok (k:=i+1) λj c=>up j (by lia)
 have a:=M5 ok fo (i:=i) (by lia);have d:=M6 ok so (i:=i) (by lia);have h0:=ok.lo0;have h4:=ok.h4;have D:=up i hi;have G:0<=C3 P.hi (Bx P S F i)/\C3 P.hi (Bx P S F i)<=100:=by
  unfold C3 Bx;split<;>lia
 exact EO (n:=40) (k:=0) (λd hd=>by
  simp only[YY,Ze,ZC]at hd;rcases hd with rfl | rfl | rfl | rfl<;>exact DW (by lia)) (by simp)
theorem Sj{P:PL}{S:SY}{F:yZ}(ok:P.ok){n:Nat}(so:S.ok n)(fo:FOk P S F){k:Nat}{s:Option (Int×Int)}(run:Run P S F k s):Small 3000 2 (.list (C4 P S F k)):=MZ (n:=200) (k:=1) (λd hd=>by
 unfold C4 at hd;obtain⟨i,hi,rfl⟩:=Z8.mp hd;exact Si ok so fo run.le run.up (ZM.mp hi)) (by rw[JZ];have:=run.le;have:=so.x8;lia)
theorem Sk(ok:P.ok){n:Nat}(so:S.ok n)(fo:FOk P S F){k:Nat}{s:Option (Int×Int)}(run:Run P S F k s):Small 200 1 (DX s):=by
 rcases run.fin with⟨e,_⟩ | ⟨hk,hlt,e⟩
 .subst e;exact⟨by unfold DX BN;decide,Z6 _,rfl⟩
 .subst e;have g:=ER ok run.up;have a:=M5 ok fo hk;have d:=M6 ok so hk;have h0:=ok.lo0;have h4:=ok.h4;have c:=ok.ls;have D:=ok.sh;have x8:=so.x8;have G:Bx P S F k=Be P S F k+(made F k-Ct P S k):=rfl;unfold DX;exact EO (n:=40) (k:=0) (λd hd=>by
   simp only[YY,Ze,ZC]at hd;rcases hd with rfl | rfl<;>exact DW (by lia)) (by simp)
end MF
namespace L2
section
variable{sc:Scope}{pos:Pos}
variable{X:Cx}
def Hz(c:Scope)(x:Str):Bool:=match c.names.lookup x with | some .local =>true | some .cell=>true | some .free=>true | _=>false
def HA(c:Scope)(x:Str):Bool:=match c.names.lookup x with | some .local =>true | some .cell=>true | _=>false
def HB(c:Scope)(x:Str):Bool:=match c.names.lookup x with | some .local =>true | _=>false
theorem Sl{x:Str}(h:Hz sc x=true):DL sc x:=by
 unfold Hz at h;split at h
 .exact .inl (by assumption)
 .exact .inr (.inl (by assumption))
 .exact .inr (.inr (by assumption))
 .cases h
theorem AC{x:Str}(h:HA sc x=true):Ef sc x:=by
 unfold HA at h;split at h
 .exact .inl (by assumption)
 .exact .inr (by assumption)
 .cases h
theorem zC{X:Cx}{pos:Pos}(i:Nat){x:Str}{e:yL}{g:TE}{c:Pos}(hN:X.N.Nodup)(G:PE X e g)(h9:autoParam (X.N[i]? =some x) j2)(h8:autoParam (HA X.env.scope x=true) j2)(hs:autoParam (swapsWith e (some (.Name x c)) pos.line X.env=pure false) j2)(J:autoParam (X.fn x=true\/X.env.scope.names.lookup x=some .local) u3):
  PS X (.Assign [.Name x c] e pos) (Jj g (Dt i)):=AI hN h9 (AC h8) G hs J
theorem AD{l:List Str}(h:decide l.Nodup=true):l.Nodup:=Z3 h
theorem zE{X:Cx}{pos:Pos}(i:Nat){x:Str}{e:yL}{g:TE}{c:Pos}(G:PE X e g)(h7:autoParam (decide X.N.Nodup=true) j2)(h9:autoParam (X.N[i]? =some x) j2)(h8:autoParam (HA X.env.scope x=true) j2)(hs:autoParam (swapsWith e (some (.Name x c)) pos.line X.env=pure false) j2)(J:autoParam (X.fn x=true\/X.env.scope.names.lookup x=some .local) u3):
  PS X (.Assign [.Name x c] e pos) (Jj g (Dt i)):=AI (AD h7) h9 (AC h8) G hs J
theorem CG{f:Bool}{x:Str}(h:(f || HB sc x)=true):f=true\/sc.names.lookup x=some .local :=by
 rcases Bool.or_eq_true_iff.mp h with h | h
 .exact .inl h
 .unfold HB at h;split at h
  .exact .inr (by assumption)
  .cases h
theorem cw(i:Nat){x:Str}{c:Pos}(g:X.N[i]? =some x)(D:Hz X.env.scope x=true)(hd:(x==("__debug__" :Str) || x==("__classdict__" :Str))=false):PE X (.Name x c) (DS i):=
 cv i g (Sl D) (bp.mp hd).1 (bp.mp hd).2
theorem Sm{x:Str}(i:Nat)(g:X.N.Nodup)(hi:X.N[i]? =some x)(D:HA X.env.scope x=true)(c:(X.fn x || HB X.env.scope x)=true):PG X (.Name x pos) (Dt i):=PV g hi (AC D) (CG c)
def M7(X:Cx)(i:Nat)(x:Str):Bool:=X.N[i]? ==some x &&(Hz X.env.scope x && !(x==("__debug__" :Str) || x==("__classdict__" :Str)))
theorem cx(i:Nat){x:Str}{g:Pos}(h:M7 X i x=true):PE X (.Name x g) (DS i):=by
 obtain⟨G,c⟩:=Z5.mp h;obtain⟨c,D⟩:=Z5.mp c;exact cw i (eZ G) c (by simpa using D)
def M8(X:Cx)(i:Nat)(x:Str):Bool:=X.N[i]? ==some x &&(HA X.env.scope x &&(X.fn x || HB X.env.scope x))
theorem Sn{x:Str}(i:Nat)(D:X.N.Nodup)(h:M8 X i x=true):PG X (.Name x pos) (Dt i):=by
 obtain⟨G,c⟩:=Z5.mp h;obtain⟨c,g⟩:=Z5.mp c;exact Sm i D (eZ G) c g
def nS:yL->Bool | .Starred _ _=>false | _=>true
theorem HC{e:yL}{es:List yL}{env:Env}(h:nS e=true):starEach (e::es) env=(false,eval e env)::starEach es env:=by
 cases e<;>first | rfl | exact absurd h YT
variable{e1 e2 e3 e4:yL}{t1 t2 t3 t4:TE}
theorem By(c:PE X e1 t1)(g:nS e1=true):PA X [e1] (BD t1 CC):=Bc c BE (HC g)
theorem Bj(g:PE X e1 t1)(D:PE X e2 t2)(c:(nS e1 && nS e2)=true):PA X [e1,e2] (BD t1 (BD t2 CC)):=Bc g (By D (Z5.mp c).2) (HC (Z5.mp c).1)
theorem DE(g:PE X e1 t1)(G:PE X e2 t2)(D:PE X e3 t3)(c:(nS e1 &&(nS e2 && nS e3))=true):PA X [e1,e2,e3] (BD t1 (BD t2 (BD t3 CC))):=Bc g (Bj G D (Z5.mp c).2) (HC (Z5.mp c).1)
theorem Dl(G:PE X e1 t1)(D:PE X e2 t2)(g:PE X e3 t3)(h4:PE X e4 t4)(c:(nS e1 &&(nS e2 &&(nS e3 && nS e4)))=true):PA X [e1,e2,e3,e4] (BD t1 (BD t2 (BD t3 (BD t4 CC)))):=Bc G (DE D g h4 (Z5.mp c).2) (HC (Z5.mp c).1)
end
variable{X:Cx}
theorem cy(i:Nat){x:Str}{c:Pos}(h:autoParam (M7 X i x=true) j2):PE X (.Name x c) (DS i):=cx i h
theorem Ah{x:Str}{c:Pos}(i:Nat)(g:X.N.Nodup)(h:autoParam (M8 X i x=true) j2):PG X (.Name x c) (Dt i):=Sn i g h
theorem zD{x:Str}{c:Pos}(i:Nat)(h9:autoParam (decide X.N.Nodup=true) j2)(h:autoParam (M8 X i x=true) j2):PG X (.Name x c) (Dt i):=Ah i (AD h9) h
variable{e1 e2 e3 e4:yL}{t1 t2 t3 t4:TE}
theorem Aj(c:PE X e1 t1)(g:autoParam (nS e1=true) j2):PA X [e1] (BD t1 CC):=By c g
theorem As(c:PE X e1 t1)(D:PE X e2 t2)(g:autoParam ((nS e1 && nS e2)=true) j2):PA X [e1,e2] (BD t1 (BD t2 CC)):=Bj c D g
theorem AM(g:PE X e1 t1)(G:PE X e2 t2)(D:PE X e3 t3)(c:autoParam ((nS e1 &&(nS e2 && nS e3))=true) j2):PA X [e1,e2,e3] (BD t1 (BD t2 (BD t3 CC))):=DE g G D c
theorem B3(G:PE X e1 t1)(g:PE X e2 t2)(c:PE X e3 t3)(h4:PE X e4 t4)(D:autoParam ((nS e1 &&(nS e2 &&(nS e3 && nS e4)))=true) j2):PA X [e1,e2,e3,e4] (BD t1 (BD t2 (BD t3 (BD t4 CC)))):=Dl G g c h4 D
end L2
namespace L2
abbrev Er(O L D:yL)(g:List yL)(G J:yL)(c:List yL)(scope:Scope)(I:Pos):yL:= .ListComp O [⟨L,D,g,0⟩,⟨G,J,c,0⟩] scope I
section
variable{prog:yP}{w:yN}{A:yO}{R:Result -> yS -> Prop}{s:yS}{fz tg1 it1 tg2 it2:yL}{ifs1 ifs2:List yL}{scope:Scope}{pos:Pos}{it fw:yU}{env:Env}
theorem Sr(h0:codeAny (model prog w) A (.compLoop (Er fz tg1 it1 ifs1 tg2 it2 ifs2 scope pos) 1 it fw env) R s)
  (h:wpAny (model prog w) A (pyIter it) (λc s'=>codeAny (model prog w) A (.compLoop (Er fz tg1 it1 ifs1 tg2 it2 ifs2 scope pos) 1 c fw env) R s') (notedBy (model prog w) A env λx s'=>R (.error x) s') s):
  codeAny (model prog w) A (.compStart (Er fz tg1 it1 ifs1 tg2 it2 ifs2 scope pos) 1 it fw env) R s:=by
 refine codeAny_of_tree (id (wpAny_notedAt (id (id (Y1 (wpAny_askSetting (wpAny_ite ?_)))))));split
 .exact Y1 (Y6 (Y6 ⟨rfl,h0⟩))
 .exact Y1 (bP (Y1 (aR (Y1 (Z9 h (λc s' g=>Y6 ⟨rfl,g⟩) λ_ _ z=>z)))))
end
def Gc(L:TI)(g2:TG)(O:TT)(te:TE):St->List V->Hp->(List V->Hp->Prop)->Prop:=fun I ys H N=>L I H λJ H1=>
 ∃W:Nat->Nat->List V->Hp->Prop,(∃m,W 0 m ys H1)/\∀j m D H,W j m D H->
  (J.stop j H/\N D H)\/
  (J.go j H /\ D.length < sizeLine /\ ∃ Z : List V -> Hp -> Prop, (∀ G g, Z G g -> ∃ m', m' < m /\ W (j + 1) m' G g) /\ ∀ x g, J.yld j H x g -> g2 x I g fun c H2 => Keep I c /\ O c H2 λb H3 =>
   br b (te c H3 λy H4=>Z (D++[y]) H4) (Z D H3))
def Ka(wi:TI)(cap:List (Option Nat))(g:TG)(tt:TT)(O:TI)(g2:TG)(Z:TT)(te:TE):St->Hp->(List V->Hp->Prop)->Prop:=fun L H Q=>wi L H λJ H1=>
 ∃W:Nat->Nat->List V->Hp->Prop,(∃m,W 0 m [] H1)/\∀i m I H,W i m I H->
  (J.stop i H/\Q I H)\/
  (J.go i H /\ ∃ N : List V -> Hp -> Prop, (∀ G D, N G D -> ∃ m', m' < m /\ W (i + 1) m' G D) /\ ∀ x D, J.yld i H x D -> g x (AR cap L) D fun c H2 => Keep (AR cap L) c /\ tt c H2 λb H3 =>
   br b (Gc O g2 Z te c I H3 N) (N I H3))
theorem M9{X:Cx}{tg D J c fz:yL}{L G:List yL}{scope:Scope}{Z i5:Pos}{wi O:TI}{g g2:TG}{tt i4:TT}{te:TE}{N':List Str}{cap:List (Option Nat)}{use:Option (yU->Sem Unit)}{Q':VSP}
  {ad:PNs}{s:yS}{σ:St}{H:Hp}{Q:List V->Hp->Prop}
  (hc:X.calm=true) (hi:PI X tg D wi) (B:AJ X.env.scope X.N scope N' cap) (hg:∀s H ex C,PG (AS X N' scope s H ex C) tg g) (ht:∀s H ex C,B8 (AS X N' scope s H ex C) L tt)
  (i8:∀s H ex C,PI (AS X N' scope s H ex C) J c O) (i7:∀s H ex C,PG (AS X N' scope s H ex C) J g2) (i9:∀s H ex C,B8 (AS X N' scope s H ex C) G i4) (he:∀s H ex C,PE (AS X N' scope s H ex C) fz te)
  (hs:∀x,foldedSetIterable D X.env x=pure x) (i6:∀env x,foldedSetIterable c env x=pure x) (I:Ad X ad σ H s) (h:Ka wi cap g tt O g2 i4 te σ H Q)
  (fin:∀(fw C:yR) (H:Hp) (ys:List V) (s':yS),H fw=none->Ad X ad σ (upd H fw (.lst ys)) s'->Hg X ad C (upd H fw (.lst ys)) s'->Q ys H->compPost (model X.prog X.w) X.A X.xe use Q' (.ref fw) C (.ok .next) s'):
  wpAny (model X.prog X.w) X.A (comprehension (Er fz tg D L J c G scope Z) scope X.env i5 (newList []) false (eval D X.env) use) Q' X.xe s:=
 Mh Rj (body:=λfv fw env=>JM (Er fz tg D L J c G scope Z) 0 c fv fw env) (Bt:=Mg Md O g2 i4 (JN te)) (Cd:=λ_=>True) hc hi B hg ht (λ_ _ _=>rfl)
  (λs H ex C a A=>Rk (body:=λfv=>Hh (Er fz tg D L J c G scope Z) 1 fz fv (.ref a) _) A rfl (i6 _) (λ_=>rfl) Sr (i8 s H ex C) (i7 s H ex C) (i9 s H ex C) (Mf A rfl (he s H ex C)) λ_ _ z=>z) (λ_ _ z=>⟨trivial,z⟩) hs I h fin
def Ss(L:TI)(cap:List (Option Nat))(g:TG)(Z:TT)(c:TI)(g2:TG)(D:TT)(O:TE):TE:=fun I H Q=>Ka L cap g Z c g2 D O I H λJ G=>∀p,G p=none->Q (.ref p) (upd G p (.lst J))
theorem Na{X:Cx}{tg D J c fz:yL}{O G:List yL}{scope:Scope}{i6:Pos}{wi Z:TI}{g g2:TG}{tt i4:TT}{te:TE}(N':List Str)(cap:List (Option Nat))
  (hc:X.calm=true) (hi:PI X tg D wi) (B:AJ X.env.scope X.N scope N' cap) (hg:∀s H ex C,PG (AS X N' scope s H ex C) tg g) (ht:∀s H ex C,B8 (AS X N' scope s H ex C) O tt)
  (i9:∀s H ex C,PI (AS X N' scope s H ex C) J c Z) (i8:∀s H ex C,PG (AS X N' scope s H ex C) J g2) (j0:∀s H ex C,B8 (AS X N' scope s H ex C) G i4) (he:∀s H ex C,PE (AS X N' scope s H ex C) fz te)
  (hs:autoParam (∀x,foldedSetIterable D X.env x=pure x) o5) (i7:autoParam (∀env x,foldedSetIterable c env x=pure x) W0):PE X (.ListComp fz [⟨tg,D,O,0⟩,⟨J,c,G,0⟩] scope i6) (Ss wi cap g tt Z g2 i4 te):=by
 intro ad s σ H Q I h;rw[eval_ListComp];refine M9 (use:=none) hc hi B hg ht i9 i8 j0 he hs i7 I h λfw C H ys s' hn I' L q=>?_
 obtain⟨m,hm⟩:=L.ns;refine⟨m,hm,λh' i5=>⟨.ref fw,_,I'.turned (t':=s'.toks) (it:=C) (λb o hb e=>i5.extBut b o hb e) L.free L.loc (.inr L.sz) L.cell L.pin,rfl,q fw hn⟩⟩
variable{P:yP}{xs:List V}{g:TG}{tt:TT}{te:TE}{σ:St}{Q:List V -> Hp -> Prop}{H:Hp}
section
variable{X:Cx}
theorem Su(hu:X.A.units<cLine):OpR X (compareOp .Eq) (λx y H Q=>∃(a b:yR) (ns ms:yV),x= .ref a/\y= .ref b/\H a=some (.tup (ns.map V.int))/\H b=some (.tup (ms.map V.int))/\ns.length=ms.length/\Q (.bl (decide (ns=ms))) H):=by
 intro ad s σ H x y v u Q I rx ry h;obtain⟨a,b,ns,ms,rfl,rfl,ha,hb,hn,q⟩:=h;cases rx;cases ry;obtain⟨g,G,p1,_⟩:=I.tuple (Ae.of ha);obtain⟨c,Z,p2,_⟩:=I.tuple (Ae.of hb);have l1:=G.length;have l2:=Z.length;rw[Y0]at l1 l2;refine SeqAt.RcAt.tuples (e:=λj=>ns.getD j 0==ms.getD j 0) (items:=g.toArray) (items2:=c.toArray) p1 p2 hu (λj D O=>?_) _ _ _ _ (Bf I q ?_)
 .have J:j<ns.length:=by simp at D;lia
  have L:j<ms.length:=by lia
  obtain⟨u1,e1,q1⟩:=G.get (i:=j) (x:= .int ns[j]) (by simp[J]);obtain⟨u2,e2,q2⟩:=Z.get (i:=j) (x:= .int ms[j]) (by simp[L]);obtain⟨t1,rfl⟩:=q1;obtain⟨t2,rfl⟩:=q2;have g1:g.toArray[j]=Value.int ns[j] t1:=by have:=(Y3.mp e1).2;simpa using this
  have g2:c.toArray[j]=Value.int ms[j] t2:=by have:=(Y3.mp e2).2;simpa using this
  rw[g1,g2,Y7,Y7,Y5 J,Y5 L];exact λprog w E Q hq=>wpAny_eqBool_int hq
 .have ez:min g.toArray.size c.toArray.size=ns.length:=by simp;lia
  have es:(g.toArray.size==c.toArray.size)=true:=by simp;lia
  rw[ez,es,Bool.and_true,ap];simp only[Zt,ZM,ac,ZU];constructor
  .intro h i _;rw[h]
  .intro h;apply List.ext_getElem hn;intro i D O;have:=h i D;rw[Y7,Y7,Y5 D,Y5 O]at this;exact this
end
def Nb(J:It)(g2:TG)(I:TT)(te:TE)(σ:St)(ys:List V)(N:List V->Hp->Prop)(H1:Hp):Prop:=
 ∃W:Nat->Nat->List V->Hp->Prop,(∃m,W 0 m ys H1)/\∀j m D H,W j m D H->
  (J.stop j H/\N D H)\/
  (J.go j H /\ D.length < sizeLine /\ ∃ L : List V -> Hp -> Prop, (∀ G g, L G g -> ∃ Z, Z < m /\ W (j + 1) Z G g) /\ ∀ x g, J.yld j H x g -> g2 x σ g fun c H2 => Keep σ c /\ I c H2 λb O =>
   br b (te c O λy H4=>L (D++[y]) H4) (L D O))
theorem Nd{w:yN}{K:Fgx}{S:Bk P w K}{a:yR}{ys:List V}(D:Nat->List V->Hp->Prop)(h0:D 0 ys H)(hz:∀i zs H,D i zs H->zs.length<100000)
  (O:∀i zs H,D i zs H->S.Sq H a xs)
  (hs:∀i x zs H T,xs[i]? =some x->D i zs H->H T=none->g (.ref T) σ (upd H T (.tup [.int i,x])) fun G H2=>Keep σ G/\tt G H2 λb I=>br b (te G I λy H4=>D (i+1) (zs++[y]) H4) (D (i+1) zs I))
  (hd:∀zs H,D xs.length zs H->Q zs H):Nb (El S a) g tt te σ ys Q H:=by
 refine⟨λi m zs H=>m=xs.length-i/\i<=xs.length/\D i zs H,⟨xs.length,by simp,Z6 _,h0⟩,?_⟩;rintro i m zs H ⟨rfl,hi,p⟩;have q:=O i zs H p
 by_cases c:i<xs.length
 .refine .inr ⟨⟨xs,xs[i],q,by simp[c]⟩,aZ (hz i zs H p) (by decide),D (i+1),λL Z J=>⟨xs.length-(i+1),by lia,rfl,c,J⟩,λv Z zq=>?_⟩;obtain⟨T,e,n,y⟩:=zq;subst e;rw[y xs xs[i] q (by simp[c])];exact hs i xs[i] zs H T (by simp[c]) p n
 .obtain rfl:i=xs.length:=by lia
  exact .inl ⟨⟨xs,q,rfl⟩,hd zs H p⟩
def Nf(J:It)(cap:List (Option Nat))(g:TG)(tt:TT)(L:TI)(g2:TG)(O:TT)(te:TE)(σ:St)(Q:List V->Hp->Prop)(H1:Hp):Prop:=
 ∃W:Nat->Nat->List V->Hp->Prop,(∃m,W 0 m [] H1)/\∀i m I H,W i m I H->
  (J.stop i H/\Q I H)\/
  (J.go i H /\ ∃ N : List V -> Hp -> Prop, (∀ G D, N G D -> ∃ m', m' < m /\ W (i + 1) m' G D) /\ ∀ x D, J.yld i H x D -> g x (AR cap σ) D fun c H2 => Keep (AR cap σ) c /\ tt c H2 λb Z =>
   br b (Gc L g2 O te c I Z N) (N I Z))
theorem Sv{w:yN}{K:Fgx}{S:Bk P w K}{a:yR}{cap:List (Option Nat)}{I:TI}{L:TG}{J:TT}(D:Nat->List V->Hp->Prop)(h0:D 0 [] H)
  (hl:∀i zs H,D i zs H->S.Sq H a xs)
  (hs:∀i x zs H T,xs[i]? =some x->D i zs H->H T=none->g (.ref T) (AR cap σ) (upd H T (.tup [.int i,x])) fun G H2=>Keep (AR cap σ) G/\tt G H2 λb O=>br b (Gc I L J te G zs O (D (i+1))) (D (i+1) zs O))
  (hd:∀zs H,D xs.length zs H->Q zs H):Nf (El S a) cap g tt I L J te σ Q H:=by
 refine⟨λi m zs H=>m=xs.length-i/\i<=xs.length/\D i zs H,⟨xs.length,by simp,Z6 _,h0⟩,?_⟩;rintro i m zs H ⟨rfl,hi,p⟩;have q:=hl i zs H p
 by_cases c:i<xs.length
 .refine .inr ⟨⟨xs,xs[i],q,by simp[c]⟩,D (i+1),λi4 H' Z=>⟨xs.length-(i+1),by lia,rfl,c,Z⟩,λv H' zq=>?_⟩;obtain⟨T,e,n,y⟩:=zq;subst e;rw[y xs xs[i] q (by simp[c])];exact hs i xs[i] zs H T (by simp[c]) p n
 .obtain rfl:i=xs.length:=by lia
  exact .inl ⟨⟨xs,q,rfl⟩,hd zs H p⟩
end L2
namespace MF
open L2
variable{h i:Nat}
def B4(P:PL)(F:yZ):yV:=(List.range P.bs.length).map λb=>(F.map λr=>r.getD b 0).sum
def coal(P:PL)(F:yZ):Int:=(((B4 P F).zip P.bs).map λq=>q.1 * q.2.2).sum
abbrev Ge(q:Int×Int):yQ:= .tuple [.int q.1,.int q.2]
def CH(h:Nat)(r:yV):List (Int×Int):=(r.zipIdx.filter λq=>q.1==0).map λq=>((h:Int),(q.2:Int))
def CI(F:yZ):List (Int×Int):=(F.zipIdx.map λq=>CH q.2 q.1).flatten
theorem Sx{r:yV}{x:Int}(g:r[i]? =some x):CH h (r.take (i+1))=if x==0 then CH h (r.take i)++[((h:Int),(i:Int))] else CH h (r.take i):=by
 unfold CH;have hi:i<r.length:=(Y3.mp g).1;rw[A6 g,List.zipIdx_append,bY,YM];have e:(List.zipIdx [x] (0+(r.take i).length))=[(x,i)]:=by
  rw[YW,ZW (ZO hi)];simp
 rw[e]
 by_cases c:(x==0)=true
 .rw[YR c,bS (by simpa using c)];rfl
 .rw[YN c,bT (by simpa using c)];simp
theorem Sy{F:yZ}{r:yV}(c:F[i]? =some r):CI (F.take (i+1))=CI (F.take i)++CH i r:=by
 unfold CI;have hi:i<F.length:=(Y3.mp c).1;rw[A6 c,List.zipIdx_append,YM,List.flatten_append];have e:(List.zipIdx [r] (0+(F.take i).length))=[(r,i)]:=by
  rw[YW,ZW (ZO hi)];simp
 rw[e];simp
theorem Ng{r:yV}:(CH h r).length<=r.length:=by
 unfold CH;rw[Y0];exact YV (bq _ _) (by simp)
end MF
namespace MF
open L2
abbrev Lt(d:yQ):List Nat:=d.shown.cps.toList
def tail(c:Nat):List yQ->List Nat
 |[]=>[c]
 |d::ds=>44::32::(Lt d++tail c ds)
end MF
namespace L2
theorem Sz{P:yP}{w:yN}{K:Fgx}{S1 S2:Bk P w K}{a b:yR}{xs ys:List V}{g:TG}{tb:TS}{D:Cy}{σ:St}{H:Hp}(G:Nat->St->Hp->Prop)(he:xs.length=ys.length)(h0:G 0 σ H)(hl:∀i σ H,G i σ H->S1.Sq H a xs/\S2.Sq H b ys)
  (hs:∀i x y σ H T,xs[i]? =some x->ys[i]? =some y->G i σ H->H T=none->g (.ref T) σ (upd H T (.tup [x,y])) fun I O=>tb { D with nx:=G (i+1),ct:=G (i+1),bk:=D.nx} I O) (hd:∀σ H,G xs.length σ H->D.nx σ H):
  ∃W:Nat->Nat->St->Hp->Prop,(∃m,W 0 m σ H)/\∀i m σ H,W i m σ H->
   ((EK S1 S2 a b).stop i H/\D.nx σ H)\/((EK S1 S2 a b).go i H/\∃N:St->Hp->Prop,(∀σ' H',N σ' H'->∃m',m'<m/\W (i+1) m' σ' H')/\∀x H',(EK S1 S2 a b).yld i H x H'->g x σ H' fun I O=>tb { D with nx:=N,ct:=N,bk:=D.nx} I O):=by
 refine⟨λi m σ H=>m=xs.length-i/\i<=xs.length/\G i σ H,⟨xs.length,by simp,Z6 _,h0⟩,?_⟩;rintro i m σ H ⟨rfl,hi,p⟩;obtain⟨J,L⟩:=hl i σ H p
 by_cases c:i<xs.length
 .have Z:i<ys.length:=by lia
  refine .inr ⟨⟨xs,ys,xs[i],ys[i],J,L,by simp[c],by simp[Z]⟩,G (i+1),fun σ' H' p'=>⟨xs.length-(i+1),by lia,rfl,c,p'⟩,λv H' zq=>?_⟩;obtain⟨T,e,n,y⟩:=zq;subst e;rw[y xs ys xs[i] ys[i] J L (by simp[c]) (by simp[Z])];exact hs i xs[i] ys[i] σ H T (by simp[c]) (by simp[Z]) p n
 .obtain rfl:i=xs.length:=by lia
  exact .inl ⟨⟨xs,ys,J,L,rfl⟩,hd σ H p⟩
variable{X:Cx}
theorem SC(xs:yX):slicePick xs.toArray none none (some (-1))=xs.reverse.toArray:=by
 rw[<-RT];unfold slicePick;have e:sliceRange (sliceBounds none none (some (-1)) xs.toArray.size).fst (sliceBounds none none (some (-1)) xs.toArray.size).snd.fst (sliceBounds none none (some (-1)) xs.toArray.size).snd.snd=(List.range xs.length).map fun(k:Nat)=>(((xs.length:Int)-1)+(k:Int) *(-1)).toNat:=by
  have b:sliceBounds none none (some (-1)) xs.toArray.size=((xs.length:Int)-1,-1,-1):=by
   rw[Z2]
   rfl
  rw[b];unfold sliceRange;dsimp only;rw[YN (by decide)];have c:(if (xs.length:Int)-1> -1 then((xs.length:Int)-1- -1- -1-1)/ - -1 else 0)=(xs.length:Int):=by
   split
   .rw[show(- -1:Int)=1 from rfl,eY];lia
   .lia
  rw[c];apply List.map_congr_left;intro k _
  congr 1
  lia
 rw[e,List.filterMap_map]
 rfl
def SD(G:TE):TE:=fun D H Q=>G D H λx c=>∃a g,x= .ref a/\c a=some (.lst g)/\∀l,c l=none->Q (.ref l) (upd c l (.lst g.reverse))
theorem SF{e st:yL}{Z:TE}{p2 J:Pos}(he:PE X e Z)(G:PE X st (tC (.int (-1)))):PE X (.Subscript e (.Slice none none (some st) p2) J) (SD Z):=by
 intro ad s D H Q I h;refine eK (An (he ad s D H _ I h) λv s1 L=>?_);obtain⟨x,H1,I1,r1,a,xs,ex,ha,q⟩:=L;subst ex;cases r1;refine wpAny_Slice ?_;rw[eQ];refine Y6 (Y6 ?_);rw[evalPart_some];refine An (G ad s1 D H1 (λv H'=>v= .int (-1)/\H'=H1) I1 ⟨rfl,rfl⟩) λu c L=>?_
 obtain⟨y,H3,I3,r3,ey,eH⟩:=L;subst ey eH;obtain⟨t,rfl⟩:=r3;have g:Ad X ad D H3 { c with heap:=c.heap.push { cls:= .type "slice",data:= .fields #[.none,.none,.int (-1) t]}}:=I3.kept (t':=c.toks) λb ob q=>Y2 _ q
 generalize hs4:({ c with heap:=c.heap.push { cls:= .type "slice",data:= .fields #[.none,.none,.int (-1) t]}}:yS)=s4 at g;have O:s4.heap.IsSliceOf c.heap.objs.size .none .none (.int (-1) t):=by rw[<-hs4];exact Heap.IsSliceOf.new ..
 obtain⟨i5,r,ht,hz⟩:=g.list (Al.of ha);have i4:=r.length;show wpAny (model X.prog X.w) X.A (subscriptTail e (.Slice none none (some st) p2) (.ref a) (.ref c.heap.objs.size)) (EP X ad D Q) X.xe s4;refine tail_any (ops:=[.ref a,.ref c.heap.objs.size]) ht.isList.typeIs dh.lookup ?_ (by with_unfolding_all rfl);refine dz ht.isList O .none .none (.int _ _) (by simp) ?_ (by rw[Z2]<;>lia);rw[SC];refine⟨.ref s4.heap.objs.size,_,g.laid (t':=s4.toks) (o:= .lst xs.reverse) (λb ob q=>Y2 _ q) (Y4 _) ?_,rfl,q _ (g.hok.fresh (Y4 _))⟩;exact⟨by rw[List.length_reverse];exact hz,_,0,r.reverse,YL _ rfl⟩
end L2
namespace L2
variable{g g2:TG}{tt tt2:TT}{te:TE}{σ:St}{Q:List V -> Hp -> Prop}{H:Hp}{wi2:TI}
theorem SG{lo:Int}{n:Nat}{ys:List V}(c:Nat->List V->Hp->Prop)(h0:c 0 ys H)(hz:∀i zs H,c i zs H->zs.length<100000)
  (hs:∀i zs H,i<n->c i zs H->g (.int (lo+i)) σ H fun G H2=>Keep σ G/\tt G H2 λb I=>br b (te G I λy H4=>c (i+1) (zs++[y]) H4) (c (i+1) zs I))
  (hd:∀zs H,c n zs H->Q zs H):Nb (Du lo n) g tt te σ ys Q H:=by
 refine⟨λi m zs H=>m=n-i/\i<=n/\c i zs H,⟨n,by simp,Z6 _,h0⟩,?_⟩;rintro i m zs H ⟨rfl,hi,p⟩
 by_cases D:i<n
 .refine .inr ⟨D,aZ (hz i zs H p) (by decide),c (i+1),λL O J=>⟨n-(i+1),by lia,rfl,D,J⟩,λv O Z=>?_⟩;obtain⟨e,y⟩:=Z;subst e y;exact hs i zs _ D p
 .obtain rfl:i=n:=by lia
  exact .inl ⟨Y4 _,hd zs H p⟩
theorem Nh{lo:Int}{n:Nat}{cap:List (Option Nat)}(G:Nat->List V->Hp->Prop)(h0:G 0 [] H)
  (hs:∀i zs H,i<n->G i zs H->g (.int (lo+i)) (AR cap σ) H fun D H2=>Keep (AR cap σ) D/\tt D H2 λb I=>br b (Gc wi2 g2 tt2 te D zs I (G (i+1))) (G (i+1) zs I))
  (hd:∀zs H,G n zs H->Q zs H):Nf (Du lo n) cap g tt wi2 g2 tt2 te σ Q H:=by
 refine⟨λi m zs H=>m=n-i/\i<=n/\G i zs H,⟨n,by simp,Z6 _,h0⟩,?_⟩;rintro i m zs H ⟨rfl,hi,p⟩
 by_cases c:i<n
 .refine .inr ⟨c,G (i+1),λL O J=>⟨n-(i+1),by lia,rfl,c,J⟩,λv O Z=>?_⟩;obtain⟨e,y⟩:=Z;subst e y;exact hs i zs _ c p
 .obtain rfl:i=n:=by lia
  exact .inl ⟨Y4 _,hd zs H p⟩
def SH(i:Nat)(wi:TI)(cap:List (Option Nat))(g:TG)(Z:TT)(c:TI)(g2:TG)(G:TT)(O:TE):TS:=λD I H=>Ka wi cap g Z c g2 G O I H λL J=>∀p,J p=none->D.nx (I.set i (some (.ref p))) (upd J p (.lst L))
theorem SI{X:Cx}{i:Nat}{y:Str}{tg G Z c fz:yL}{i5 O:List yL}{scope:Scope}{i6 J i4:Pos}{wi:TI}(N':List Str)(cap:List (Option Nat))(hN:X.N.Nodup)(j8:X.N[i]? =some y)(hy:Ef X.env.scope y)
  (hc:X.calm=true) (hi:PI X tg G wi) (B:AJ X.env.scope X.N scope N' cap) (hg:∀s H ex C,PG (AS X N' scope s H ex C) tg g) (ht:∀s H ex C,B8 (AS X N' scope s H ex C) i5 tt)
  (j6:∀s H ex C,PI (AS X N' scope s H ex C) Z c wi2) (j5:∀s H ex C,PG (AS X N' scope s H ex C) Z g2) (j7:∀s H ex C,B8 (AS X N' scope s H ex C) O tt2) (he:∀s H ex C,PE (AS X N' scope s H ex C) fz te)
  (i9:autoParam (swapsWith (Er fz tg G i5 Z c O scope i6) (some (.Name y J)) i4.line X.env=pure true) j2)
  (hf:autoParam (X.fn y=true\/X.env.scope.names.lookup y=some .local) u3)
  (hs:autoParam (∀x,foldedSetIterable G X.env x=pure x) o5) (j4:autoParam (∀env x,foldedSetIterable c env x=pure x) W0):PS X (.Assign [.Name y J] (.ListComp fz [⟨tg,G,i5,0⟩,⟨Z,c,O,0⟩] scope i6) i4) (SH i wi cap g tt wi2 g2 tt2 te):=by
 intro ad s σ H D I h;rw[eC _ _ _ _ i9];refine Y1 (aR (Y1 ?_));show wpAny _ X.A (do let _<-comprehension (Er fz tg G i5 Z c O scope i6) scope X.env _ (newList []) false (eval G X.env) (some (assign (.Name y J) X.env))) _ _ s;refine Y1 (Z9 (M9 (use:=some (assign (.Name y J) X.env)) (Q':=λ_ s'=>SP X ad D .next s') hc hi B hg ht j6 j5 j7 he hs j4 I h λfw C H ys s' hn I' L q=>?_) (λ_ s' hq=>Y6 (Y6 hq)) λ_ _ e=>e);obtain⟨m,hm⟩:=L.ns;refine df (Jf I' hN j8 hy (show Az (.ref fw) (.ref fw) from rfl) (λj3 j0 zq=>?_) hf);obtain⟨a,sb,ha⟩:=zq;have i8:C≠a:=by
  rcases ha with e | e
  .rw[e];exact L.loc
  .exact λz=>L.cell _ _ e z.symm
 refine⟨m,hm.sameBut sb i8,λh' i7=>?_⟩;exact⟨_,_,j0.turned (t':=j3.toks) (it:=C) (λb o hb e=>i7.extBut b o hb e) L.free L.loc (.inr L.sz) L.cell L.pin,q fw hn⟩
def SJ(G:TE):TT:=fun D H Q=>G D H λx c=>∃a g,x= .ref a/\c a=some (.lst g)/\Q (!g.isEmpty) c
theorem SK{X:Cx}{a:yL}{G:TE}(L:PE X a G)(J:autoParam (∀c,isTrue a X.env c=(do let v<-c;standAt a.pos;holding [v] (truthy v))) o5):PT X a (SJ G):=by
 intro ad s σ H Q I h;refine isTrue_plain (An (L ad s σ H _ I h) λv s1 zq=>?_) (J _);obtain⟨x,H1,g,O,Z⟩:=zq;obtain⟨b,xs,rfl,hb,q⟩:=Z;cases O;obtain⟨i4,r,pl,hz⟩:=g.list (Al.of hb);have D:=r.length;have big:sizeLine<2 ^ 63:=by decide
 exact wpAny_truthy_list pl.isList (by simp only[Z2];lia) ⟨H1,g.tok _,by rw[Qn r];exact q⟩
end L2
namespace MF
open L2
variable{α:Type}{xs:List α}
structure TM where
 cs:yZ
 co:yV
 ds:yV
 lo:Int
 hi:Int
 st:Int
def TM.d(T:TM):yQ:= .tuple [FD T.cs,AN T.co,AN T.ds,.tuple [.int T.lo,.int T.hi,.int T.st]]
def terms(P:PL)(S:SY):TM:=⟨caps P S,P.bs.map (·.2),draws P S,P.lo,P.hi,P.st⟩
structure TM.ok(T:TM):Prop where
 l8:T.ds.length<=8
 lc:T.cs.length=T.ds.length
theorem Gf{P:PL}{S:SY}{n:Nat}(so:S.ok n):(terms P S).ok:=⟨by show(draws P S).length<=8;rw[Cs];exact so.x8,by show(caps P S).length=(draws P S).length;rw[Cr,Cs]⟩
def part{c:Type}(xs:List c)(f l:Nat):List c:=(xs.drop f).take (l+1-f)
theorem Ni{f l:Nat}(h:f<=l)(c:l<xs.length):(part xs f l).length=l+1-f:=by
 unfold part;rw[YW,Zs];lia
theorem HE{xs:List V}{f l:Nat}(h:f<=l)(c:l<xs.length):A4 xs (some (f:Int)) (some ((l:Int)+1))=part xs f l:=by
 have e:((l:Int)+1)=((l+1:Nat):Int):=by lia
 unfold A4 part;rw[e,HT.sIx_nat,HT.sIx_nat,ZW (by lia),ZW (by lia)]
theorem HF{c:Type}{g:α->c}{f l:Nat}:part (xs.map g) f l=(part xs f l).map g:=by
 unfold part;rw[<-map_drop,<-map_take]
theorem Ac.part{p:yR}{H:Hp}:∀ {ds:List yQ}{xs:List V},Ac p H ds xs->∀f l,Ac p H (MF.part ds f l) (MF.part xs f l):=by
 have D:∀ {ds:List yQ}{xs:List V},Ac p H ds xs->∀f,Ac p H (ds.drop f) (xs.drop f):=by
  intro ds
  induction ds with
  |nil=>intro xs r f;unfold Ac at r;subst r;rw[drop_nil,drop_nil];exact .nil
  |cons d ds ih=>
   intro xs r f;have g:=r;unfold Ac at r;obtain⟨x,t,rfl,c,rt⟩:=r;cases f with
   |zero=>exact g
   |succ f=>exact ih rt f
 have tk:∀ {ds:List yQ}{xs:List V},Ac p H ds xs->∀f,Ac p H (ds.take f) (xs.take f):=by
  intro ds
  induction ds with
  |nil=>intro xs r f;unfold Ac at r;subst r;rw[take_nil,take_nil];exact .nil
  |cons d ds ih=>
   intro xs r f;unfold Ac at r;obtain⟨x,t,rfl,c,rt⟩:=r;cases f with
   |zero=>exact .nil
   |succ f=>exact .cons c (ih rt f)
 intro ds xs r f l;exact tk (D r f) _
def most(T:TM)(f l:Nat):Int:=((part T.cs f l).map List.sum).sum
def Kb(T:TM)(f l:Nat):Int:=(part T.ds f l).sum
def C5(T:TM)(f l:Nat):Bool:=decide ((if f=0 then T.st else T.hi)+most T f l<Kb T f l+T.lo)
def Dn(f k:Nat):List (Nat×Nat):=(List.range k).map λi=>(f,f+i)
def Cg(n k:Nat):List (Nat×Nat):=((List.range k).map λf=>Dn f (n-f)).flatten
abbrev pD(q:Nat×Nat):yQ:= .tuple [.int q.1,.int q.2]
theorem SL{f k:Nat}:Dn f (k+1)=Dn f k++[(f,f+k)]:=by unfold Dn;rw[aB,YM];rfl
theorem Nj{f k:Nat}:(Dn f k).length=k:=by unfold Dn;simp
theorem Nk{n k:Nat}:Cg n (k+1)=Cg n k++Dn k (n-k):=by unfold Cg;rw[aB,YM,List.flatten_append];simp
theorem Nl{n k:Nat}:(Cg n k).length<=n * k:=by
 induction k with
 |zero=>exact Y4 _
 |succ k ih=>rw[Nk,Z7,Nj,Nat.mul_succ];lia
theorem HG{n k:Nat}(h:k<=n):∀q∈Cg n k,q.1<=q.2/\q.2<n:=by
 intro q c;unfold Cg at c;obtain⟨l,D,c⟩:=mem_flatten.mp c;obtain⟨f,g,rfl⟩:=Z8.mp D;obtain⟨i,hi,rfl⟩:=Z8.mp c;have:=ZM.mp g;have:=ZM.mp hi;exact⟨by show f<=f+i;lia,by show f+i<n;lia⟩
def C6(T:TM):List (Nat×Nat):=(Cg T.ds.length T.ds.length).filter λq=>C5 T q.1 q.2
def Bz(T:TM):Option (Nat×Nat):=(C6 T).head?
def ES:Option (Nat×Nat)->yQ
 |none=> .none
 |some q=>pD q
def B5(T:TM)(f:Nat):Nat->Int
 |0=>if f=0 then T.st else T.hi
 |k+1=>B5 T f k+(T.cs.getD (f+k) []).sum-T.ds.getD (f+k) 0
theorem Nm{f k:Nat}{x:α}(h:xs[f+k]? =some x):(xs.drop f).take (k+1)=(xs.drop f).take k++[x]:=A6 (by rw[aU];exact h)
theorem Kc{T:TM}(ok:T.ok){f:Nat}:∀k,f+k<=T.ds.length->B5 T f k=(if f=0 then T.st else T.hi)+(((T.cs.drop f).take k).map List.sum).sum-((T.ds.drop f).take k).sum
 |0,_=>by rw[take_zero,take_zero,eB,sum_nil];show(if f=0 then T.st else T.hi)=_;lia
 |k+1,h=>by
  have D:=Kc ok (f:=f) k (by lia);have lc:=ok.lc;have g:T.cs[f+k]? =some (T.cs.getD (f+k) []):=by rw[Y7,Y5 (by lia)];rfl
  have c:T.ds[f+k]? =some (T.ds.getD (f+k) 0):=JY (by lia);rw[Nm g,Nm c,YM,bR,bR,ZA,eB,bK,sum_nil,bK,sum_nil];show B5 T f k+_-_=_;lia
def HH(T:TM)(f l:Nat):Bool:=decide (B5 T f (l+1-f)<T.lo)
theorem Nn{T:TM}(ok:T.ok){f l:Nat}(h:f<=l)(c:l<T.ds.length):HH T f l=C5 T f l:=by
 unfold HH C5 most Kb part;rw[Kc ok _ (by lia),ap,ZU,ZU];lia
end MF
namespace L2
section
variable{X:Cx}
def HI(d:yQ)(c:List Str):Bool:=match d with | .str z=>c.any (λy=>y==z) | _=>false
def Gg(d:yQ)(u:yU):Bool:=match d with | .str z=>(match u with | .str a _=>a==z | _=>false) | _=>false
theorem No{d:yQ}:∀ {c:List Str}{us:yX},At (c.map V.str) us->us.any (Gg d)=HI d c
 |[],us,h=>by cases h;cases d<;>rfl
 |a::c,us,h=>by
  cases h with
  |cons r t=>
   obtain⟨k,rfl⟩:=r;rw[aJ,No t];cases d<;>first | rfl | (simp[HI,Gg])
theorem Np:∀ {g:List Str}{us:yX},At (g.map V.str) us->∀u∈us,∃a t,u=Value.str a t
 |[],us,h=>by cases h;intro u c;cases c
 |a::g,us,h=>by
  cases h with
  |cons r t=>
   intro u c;rcases YY.mp c with rfl | c
   .obtain⟨k,rfl⟩:=r;exact⟨_,_,rfl⟩
   .exact Np t u c
end
section
open AutoSeq1 (wpAny_loadPart')
structure ZA3(z TI TO i1 i2 i3 l1 l2 l3:yR):Prop where
 TI_z:TI≠z
 TO_z:TO≠z
 TO_TI:TO≠TI
 i1_z:i1≠z
 i1_TI:i1≠TI
 i1_TO:i1≠TO
 i2_z:i2≠z
 i2_TI:i2≠TI
 i2_TO:i2≠TO
 i2_i1:i2≠i1
 i3_z:i3≠z
 i3_TI:i3≠TI
 i3_TO:i3≠TO
 i3_i1:i3≠i1
 i3_i2:i3≠i2
 l1_z:l1≠z
 l1_TO:l1≠TO
 l1_i1:l1≠i1
 l1_i2:l1≠i2
 l1_i3:l1≠i3
 l2_z:l2≠z
 l2_TO:l2≠TO
 l2_i1:l2≠i1
 l2_i2:l2≠i2
 l2_i3:l2≠i3
 l3_z:l3≠z
 l3_TO:l3≠TO
 l3_i1:l3≠i1
 l3_i2:l3≠i2
 l3_i3:l3≠i3
def KpBut(a:yR)(g g':Heap):Prop:=∀b o,b≠a->g.get? b=some o->g'.get? b=some o
theorem KpBut.trans{a:yR}{g g' c:Heap}(x:KpBut a g g')(y:KpBut a g' c):KpBut a g c:=λb o n e=>y b o n (x b o n e)
theorem KpBut.upd{a:yR}{g:Heap}(f:Obj->Obj):KpBut a g (g.update a f):=λb o n e=>by rw[Heap.get?_update_ne _ _ _ _ n];exact e
end
def SM(O:TI)(g2:TG)(Z:TT)(L:TI)(g3:TG)(f8:TT)(te:TE):St->List V->Hp->(List V->Hp->Prop)->Prop:=fun I ys H N=>O I H λJ H1=>
 ∃W:Nat->Nat->List V->Hp->Prop,(∃m,W 0 m ys H1)/\∀j m G H,W j m G H->
  (J.stop j H/\N G H)\/
  (J.go j H /\ ∃ N2 : List V -> Hp -> Prop, (∀ D g, N2 D g -> ∃ m', m' < m /\ W (j + 1) m' D g) /\ ∀ x g, J.yld j H x g -> g2 x I g fun c H2 => Keep I c /\ Z c H2 λb H3 =>
   br b (Gc L g3 f8 te c G H3 N2) (N2 G H3))
theorem HJ(K:Fgx){o e:yL}{es:List yL}{to:TE}{t:TA}{name:Str}{D c:Pos}{T id:String}{r:V->List V->Hp->VK->Prop}{X:Cx}(pa:PlainAttrs T)(slot:Slot T name id)(L:typeOf (.builtin id)=pure (.type "method_descriptor"))(O:Hc X id r)(ho:PE X o to)(Z:PA X (e::es) t)(hK:autoParam (X.K=K) j2)
  (G:autoParam (attributeBase o name X.env (eval o X.env)=eval o X.env) j2)
  (J : autoParam (((backTo c (starEach (e :: es) X.env)).all (λx => !x.1) && (backToKw c (keywordEach [] X.env)).all (λx => x.1.isSome)
   && decide ((e::es).length+([]:List Keyword).length+(if ([]:List Keyword).isEmpty then 0 else 1)<30))=true) j2)
  (I:autoParam ((D.endLine==c.line)=true) j2) (hs:autoParam (starEach (e::es) X.env=(false,eval e X.env)::starEach es X.env) j2) (g:autoParam ((backTo c (starEach es X.env)).any (·.1)=false) j2):
  PE X (.Call (.Attribute o name D) (e::es) [] c) (LZ K T r to t):=hK ▸ DC pa slot L O ho Z G J I hs g
def WalkO(J:It)(cap:List (Option Nat))(g:TG)(tt:TT)(O:TI)(g2:TG)(Z:TT)(L:TI)(g3:TG)(f8:TT)(te:TE)(σ:St)(Q:List V->Hp->Prop)(H1:Hp):Prop:=
 ∃W:Nat->Nat->List V->Hp->Prop,(∃m,W 0 m [] H1)/\∀i m I H,W i m I H->
  (J.stop i H/\Q I H)\/
  (J.go i H /\ ∃ N : List V -> Hp -> Prop, (∀ G D, N G D -> ∃ m', m' < m /\ W (i + 1) m' G D) /\ ∀ x D, J.yld i H x D -> g x (AR cap σ) D fun c H2 => Keep (AR cap σ) c /\ tt c H2 λb H3 =>
   br b (SM O g2 Z L g3 f8 te c I H3 N) (N I H3))
section
variable{X:Cx}
def SN:R2:=λx y H Q=>∃p d e,Aa p H d x/\Aa p H e y/\e.canLay0=true/\e.hasDict=false/\e.depth<=20/\d.canLay0=true/\d.hasDict=false/\Q (.bl (!PyData.eqv d e)) H
theorem Nq{k:Nat}(D:AQ k X.A):OpR X (compareOp .NotEq) SN:=by
 intro ad s σ H x y v u Q I L c h;obtain⟨p,d,e,rd,Z,ce,G,dp,O,hd,q⟩:=h;have un:=D.un;obtain⟨bs,J⟩:=Aa.reads I e y u G Z c;obtain⟨as,g⟩:=Aa.reads I d x v hd rd L;exact SeqAt.compareNe_reads g J O ce (by lia) (Bf I q rfl)
end
section
variable{h:Heap}{α:Type}{M:Model}
def KD(h h':Heap):Prop:=∀(b:yR) (o:Obj),h.objs[b]? =some o->∃c:Obj,h'.objs[b]? =some c/\c.dict=o.dict
theorem KD.refl(h:Heap):KD h h:=λ_ o e=>⟨o,e,rfl⟩
theorem KD.trans{a b c:Heap}(x:KD a b)(y:KD b c):KD a c:=λi o e=>by
 obtain⟨o1,G,I⟩:=x i o e;obtain⟨g,J,D⟩:=y i o1 G;exact⟨g,J,D.trans I⟩
theorem Nr{b:yR}{o:Obj}(e:h.get? b=some o):h.objs[b]? =some o:=by
 unfold Heap.get? at e;split at e
 .cases e
 .exact e
theorem KD.get{h':Heap}{b:yR}{o g:Obj}(k:KD h h')(e:h.get? b=some o)(D:h'.get? b=some g):g.dict=o.dict:=by
 obtain⟨G,c,d⟩:=k b o (Nr e);rw[Nr D]at c;cases c;exact d
theorem KD.push(h:Heap)(o:Obj):KD h (h.push o):=λb u e=>⟨u,by
 have c:=(bv.mp e).1;show(h.objs.push o)[b]? =some u;rw[Array.getElem?_push_lt c,<-e,Array.getElem?_eq_getElem c],rfl⟩
theorem KD.update(h:Heap)(a:yR){f:Obj->Obj}(c:∀o,(f o).dict=o.dict):KD h (h.update a f):=λb u e=>by
 by_cases z:a=b
 .exact⟨f u,by show(h.objs.modify a f)[b]? =_;rw[eF,YR z,e];rfl,c u⟩
 .exact⟨u,by show(h.objs.modify a f)[b]? =_;rw[eF,YN z,e],rfl⟩
inductive Tame{α:Type}:Sem α->Prop
 |pure (a:α):Tame (.pure a)
 |raise (e:yU):Tame (.raise e)
 |uns (w:String):Tame (.unsupported w)
 |rule {t:String}{k:Unit->Sem α} (h:∀x,Tame (k x)):Tame (.rule t k)
 |load {a:yR}{p:yW}{k:Obj->Sem α} (h:∀x,Tame (k x)):Tame (.load a p k)
 |update {a:yR}{p:yW}{f:Obj->Obj}{k:Unit->Sem α} (hf:∀o,(f o).dict=o.dict) (h:∀x,Tame (k x)):Tame (.update a p f k)
 |alloc {o:Obj}{k:yR->Sem α} (h:∀x,Tame (k x)):Tame (.alloc o k)
 |stack {k:List (Code×Pos)->Sem α} (h:∀x,Tame (k x)):Tame (.stack k)
theorem Tame.bind{c:Type}{m:Sem α}{f:α->Sem c}(h:Tame m)(g:∀a,Tame (f a)):Tame (m>>=f):=by
 induction h with
 |pure a=>exact g a
 |raise e=>exact .raise e
 |uns w=>exact .uns w
 |rule _ ih=>exact .rule ih
 |load _ ih=>exact .load ih
 |update hf _ ih=>exact .update hf ih
 |alloc _ ih=>exact .alloc ih
 |stack _ ih=>exact .stack ih
theorem Tame.ite{c:Prop}[Decidable c]{a b:Sem α}(x:Tame a)(y:Tame b):Tame (if c then a else b):=by
 split
 .exact x
 .exact y
theorem Tame.wp{c:PySem.Ctx}{t:Sem α}{Q:α->Pos->yS->Prop}{E:yU->Pos->yS->Prop}(T:Tame t){p:Pos}{s:yS}{h0:Heap}(k0:KD h0 s.heap)(h:Sem.wp M c t Q E p s):
  Sem.wp M c t (λa g s'=>Q a g s'/\KD h0 s'.heap) E p s:=by
 induction T generalizing p s with
 |pure a=>rw[Sem.wp]at h ⊢;exact⟨h,k0⟩
 |raise e=>rw[Sem.wp]at h ⊢;exact h
 |uns w=>rw[Sem.wp]at h;exact h.elim
 |rule _ ih=>rw[Sem.wp]at h ⊢;exact ih _ k0 h
 |load _ ih=>rw[Sem.wp]at h ⊢;obtain⟨o,e,h⟩:=h;exact⟨o,e,ih _ k0 h⟩
 |update hf _ ih=>rw[Sem.wp]at h ⊢;exact⟨h.1,ih _ (k0.trans (KD.update _ _ hf)) h.2⟩
 |alloc _ ih=>rw[Sem.wp]at h ⊢;exact ih _ (k0.trans (KD.push _ _)) h
 |stack _ ih=>rw[Sem.wp]at h ⊢;exact ih _ k0 h
theorem Tame.any{A:yO}{t:Sem α}{Q:α->yS->Prop}{E:VSP}(T:Tame t){s:yS}(h:wpAny M A t Q E s):wpAny M A t (λa s'=>Q a s'/\KD s.heap s'.heap) E s:=
 fun c p hΓ=>T.wp (KD.refl _) (h c p hΓ)
theorem Kd(a:yR):Tame (load a):= .load λ_=> .pure _
theorem SO(v:yU):Tame (fieldsOf v):=by
 unfold fieldsOf;split
 .refine(Kd _).bind λo=>?_
  split
  .exact .pure _
  .exact .uns _
 .exact .uns _
theorem HK(v:yU)(i:Nat):Tame (field v i):=by
 unfold field;refine(SO v).bind λo=>?_
 split
 .exact .pure _
 .exact .uns _
theorem SQ(o:Obj)(f:Array yU->Array yU):(Obj.mapFields f o).dict=o.dict:=by
 unfold Obj.mapFields;split<;>rfl
theorem Ke(v:yU)(i:Nat)(x:yU):Tame (setField v i x):=by
 unfold setField;split
 .unfold updateField;refine(Kd _).bind λo=>?_
  split
  .exact .ite (.update (λo=>SQ o _) λ_=> .pure _) (.uns _)
  .exact .uns _
 .exact .uns _
theorem SR(e:yU)(f:Option yR):Tame (setFlight e f):=by
 unfold setFlight;refine(HK _ _).bind λo=>?_
 exact .ite (Ke _ _ _) (.pure _)
theorem Nt:∀l,Tame (readyFrames l)
 |[]=> .pure _
 |env::outer=>by
  unfold readyFrames;split
  .refine(Kd _).bind λo=>?_
   refine .ite (.pure _) ?_;refine Tame.bind ?_ λb=>Tame.bind ?_ λv=>Tame.bind (.update (λ_=>rfl) λ_=> .pure _) λ_=>Nt outer
   .unfold behindIsImport;refine .ite (.pure _) (.ite (.pure _) ((HK _ _).bind λ_=> .pure _))
   .unfold keptBack;split
    .refine .ite (.pure _) ?_;unfold underTheClaimsCaller;exact Tame.bind (Tame.bind (.stack λ_=> .pure _) λ_=> .pure _) λ_=> .pure _
    .exact .pure _
  .exact .uns _
theorem SS(env:Env):Tame (PySem.frameOf env):=by
 unfold PySem.frameOf frameEnvs;refine Tame.bind (Tame.bind (.stack λ_=> .pure _) λ_=> .pure _) λl=>?_
 refine Tame.bind ?_ λo=>?_
 .unfold frameObject;split
  .exact .pure _
  .exact(Nt _).bind λ_=> .pure _
 .split
  .exact .pure _
  .exact .uns _
theorem ST(f:yR)(b:Bool):Tame (entryPlaceOf f b):=by
 unfold entryPlaceOf;refine Tame.bind (.stack λ_=> .pure _) λl=>?_
 split
 .exact .pure _
 .exact .pure _
theorem SU(a b c d e:yU)(l:yX):Tame (EntryCells.newEntry a b c d e l):=by
 unfold EntryCells.newEntry newFields newObj;dsimp only;refine .ite (.uns _) ?_;unfold newObjAsIs;exact Tame.bind (.alloc λ_=> .pure _) λ_=> .pure _
theorem SV(e:yU)(env:Env):Tame (noteFrame e env):=by
 unfold noteFrame;split
 .refine(HK _ _).bind λo=>?_
  refine .ite ((HK _ _).bind λo=> .ite (.pure _) ((Ke _ _ _).bind λ_=>?_)) ?_
  all_goals exact(SS _).bind λ_=>(ST _ _).bind λ_=>(SU _ _ _ _ _ _).bind λ_=>Ke _ _ _
 .exact .uns _
theorem Nu(env:Env)(e:yU):Tame (leaving env e):=(SV e env).bind λ_=>SR e none
end
section
theorem ObjOk.there{P:yP}{w:yN}{H:Hp}{h:Heap}{a:yR}{o:HO}(x:ObjOk P w H h a o):∃u,h.get? a=some u:=by
 cases o with
 |lst xs=>obtain⟨_,_,_,_,e⟩:=x;exact⟨_,e⟩
 |tup xs=>obtain⟨_,_,_,o,e,_⟩:=x;exact⟨_,e⟩
 |dK kvs=>obtain⟨_,_,_,_,o,_,_,e,_⟩:=x;exact⟨_,e⟩
 |dT kvs=>obtain⟨_,_,_,_,o,_,_,e,_⟩:=x;exact⟨_,e⟩
 |set S n=>obtain⟨o,_,_,_,e,_⟩:=x;exact⟨_,e⟩
 |ins C dx fs=>obtain⟨_,_,_,e,_⟩:=x;exact⟨_,e⟩
 |own y=>obtain⟨_,e⟩:=x;exact⟨_,e⟩
 |xd fs=>obtain⟨_,⟨_,_,_,e,_⟩,_⟩:=x;exact⟨_,e⟩
 |rng lo hi=>obtain⟨_,_,_,e⟩:=x;exact⟨_,e⟩
 |frz ob u=>obtain⟨e,_⟩:=x;exact⟨_,e⟩
 |tbl ps=>exact⟨_,x⟩
 |met f y=>exact⟨_,x⟩
 |ext φ=>obtain⟨_,⟨_,e⟩,_⟩:=x;exact⟨_,e⟩
structure SW(P:yP)(w:yN)(outer:List Env)(H:Hp)(s:yS)(H':Hp)(C e:yR)(s':yS):Prop where
 os:s'.os=s.os
 bare:AllBare s'.gens
 un:Un (AG outer) [] H H' s.heap s'.heap
 fly:∃B t,Heap.FlyingW B outer e (.ref C) t s'.heap/\(∀b o,s.heap.get? b=some o->H b=none->b ∉ AG outer->B.get? b=some o)/\
  (∀b o,s.heap.get? b=some o->b ∉ AG outer->∃o',B.get? b=some o')/\HOk P w H' B
def CJ(P:yP)(w:yN):CD:=λouter H s E v D=>∃C e c g,v= .ref e/\SW P w outer H s c C e D/\(∃G:Obj,D.heap.get? e=some G/\G.dict=g)/\E (.ref C) g c
structure IsDef(X:Cx)(E:XK):Prop where
 stk:X.stack=X.env::X.outer
 fr:X.env.frame=some X.env.locals
 ex:X.ex=[]
 xe:∀e s',wpAny (model X.prog X.w) X.A (leaving X.env e) (λ_ s''=>CJ X.prog X.w X.outer X.H₀ X.s₀ E e s'') (λ_ _=>False) s'->X.xe e s'
variable{X:Cx}{ad:List (yR × Obj)}{σ:St}{H H':Hp}{s s':yS}{C e:yR}{E:XK}
theorem Nv{env:Env}{l:List Env}{b L:yR}(D:env.frame=some L)(h:b∈AG (env::l)):b=L\/b∈AG l:=by
 unfold AG at h ⊢;obtain⟨x,g,c⟩:=ZH.mp h;rcases YY.mp g with rfl | g
 .rw[D]at c;exact .inl (Y9 c).symm
 .exact .inr (ZH.mpr ⟨x,g,c⟩)
theorem IsDef.un0(D:IsDef X E)(I:Ad X ad σ H s)(u:Un (AG X.stack) [] H H' s.heap s'.heap){B h':Heap}(up:s'.heap.UpToSlots h')(ff:s'.heap.FunFrames B X.stack)(st:B.StaysIn h')
  (i7:∀b o,X.s₀.heap.get? b=some o->X.H₀ b=none->b ∉ AG X.outer->B.get? b=some o) (i6:∀b o,X.s₀.heap.get? b=some o->b ∉ AG X.outer->∃Z,B.get? b=some Z):
  Un (AG X.outer) [] X.H₀ H' X.s₀.heap h':=by
 have nx:∀b,b ∉ X.ex:=λb z=>by rw[D.ex]at z;cases z
 have L:∀b,b∈AG X.outer->∀o,s'.heap.get? b=some o->∀vs,o.data≠ .fields vs:=λb c o eo=>by
  have i4:b∈(X.env::X.outer).filterMap (·.frame):=by
   obtain⟨x,hx,hf⟩:=ZH.mp c;exact ZH.mpr ⟨x,.tail _ hx,hf⟩
  rw[D.stk]at ff;obtain⟨_,Z,J,hd⟩:=ff.mem i4;rw[eo]at J;cases J;exact hd
 have i5:∀b,b∈AG X.outer->b∈AG X.stack:=λb c=>by
  rw[D.stk];obtain⟨x,hx,hf⟩:=ZH.mp c;exact ZH.mpr ⟨x,.tail _ hx,hf⟩
 refine⟨λb o e n c _=>st b o (i7 b o e n c),λb o e n c _=>?_,λb o e n _=>?_,λb o e _=>?_,λb O q=>u.tups b O (I.base.tups b O q),λb Z O q=>u.frzs b Z O (I.base.frzs b Z O q),λb ps q=>?_⟩
 .obtain⟨s1,g⟩:=I.base.slot b o e n c (nx b);obtain⟨s2,G⟩:=u.slot b _ g (I.base.free b o e n (nx b)) (i5 b c) (by simp);obtain⟨s3,e3⟩:=up b _ G (L b c _ G);exact⟨s3,e3⟩
 .obtain⟨o1,g⟩:=I.base.there b o e (nx b);exact u.free b o1 g (I.base.free b o e n (nx b)) (by simp)
 .by_cases c:b∈AG X.outer
  .obtain⟨o1,g⟩:=I.base.there b o e (nx b);obtain⟨o2,G⟩:=u.there b o1 g (by simp);obtain⟨s3,e3⟩:=up b _ G (L b c _ G);exact⟨_,e3⟩
  .obtain⟨o1,g⟩:=i6 b o e c;exact⟨o1,st b o1 g⟩
 .obtain⟨m1,g⟩:=I.base.tbls b ps q;obtain⟨m2,G⟩:=u.tbls b _ g;exact⟨m1++m2,by rw[G,Array.append_assoc]⟩
theorem IsDef.above(D:IsDef X E)(I:Ad X ad σ H s){b:yR}{o:Obj}(e:X.s₀.heap.get? b=some o)(n:b ∉ AG X.outer):b ∉ AG X.stack:=λz=>by
 rw[D.stk]at z;rcases Nv D.fr z with q | q
 .have:=Y8 e;rw[q]at this;exact absurd (YQ this I.ok.above) (YX _)
 .exact n q
theorem IsDef.un(D:IsDef X E)(I:Ad X ad σ H s)(u:Un (AG X.stack) [] H H' s.heap s'.heap){B h':Heap}(up:s'.heap.UpToSlots h')(Z:s'.heap.FunFrames B X.stack)(st:B.StaysIn h')
  (kB:∀b o,s.heap.get? b=some o->H b=none->b ∉ AG X.stack->B.get? b=some o) (tB:∀b o,s.heap.get? b=some o->b ∉ AG X.stack->∃c,B.get? b=some c):
  Un (AG X.outer) [] X.H₀ H' X.s₀.heap h'/\(∀b o,X.s₀.heap.get? b=some o->X.H₀ b=none->b ∉ AG X.outer->B.get? b=some o)/\
   (∀b o,X.s₀.heap.get? b=some o->b ∉ AG X.outer->∃c,B.get? b=some c):=by
 have L:∀b o,X.s₀.heap.get? b=some o->b≠X.env.locals:=λb o e z=>by
  have:=Y8 e;rw[z]at this;exact absurd (YQ this I.ok.above) (YX _)
 have nx:∀b,b ∉ X.ex:=λb z=>by rw[D.ex]at z;cases z
 have ns:∀b o,X.s₀.heap.get? b=some o->b ∉ AG X.outer->b ∉ AG X.stack:=λb o e n z=>by
  rw[D.stk]at z;rcases Nv D.fr z with q | q
  .exact L b o e q
  .exact n q
 have G:∀b o,X.s₀.heap.get? b=some o->X.H₀ b=none->b ∉ AG X.outer->B.get? b=some o:=λb o e n J=>
  kB b o (I.base.keep b o e n J (nx b)) (I.base.free b o e n (nx b)) (ns b o e J)
 have g:∀b o,X.s₀.heap.get? b=some o->b ∉ AG X.outer->∃c,B.get? b=some c:=λb o e J=>by
  obtain⟨o1,O⟩:=I.base.there b o e (nx b);exact tB b o1 O (ns b o e J)
 exact⟨D.un0 I u up Z st G g,G,g⟩
theorem IsDef.passes(D:IsDef X E):DA (CJ X.prog X.w) X E:=by
 intro ad σ H s v L I ⟨C,e,H',dx,hv,x,⟨oe,he,hdx⟩,q⟩;subst hv;refine D.xe _ _ ?_;obtain⟨B,t,fl,kB,tB,hB⟩:=x.fly;have ff:=fl.2.2.1;have G:=fl;rw[D.stk]at G;have J:X.A.frames=some (X.env::X.outer):=by rw[<-D.stk];exact I.ok.frames
 refine Z9 ((Nu _ _).any (wpAny_leaves_onW (Q:=λ_ s2=>∃g,s2= { L with heap:=g}/\Heap.FlyingW B X.outer e (.ref C) t g/\L.heap.UpToSlots g) J D.fr G λg c up=>⟨g,rfl,c,up⟩)) (λ_ s2 z=>?_) λ_ _ z=>z
 obtain⟨⟨g,rfl,c,up⟩,Z⟩:=z;obtain⟨u,k1,k2⟩:=D.un I x.un up ff c.1 kB tB;obtain⟨o2,O,_⟩:=c.there;exact⟨C,e,H',dx,rfl,⟨x.os.trans I.os,x.bare,u,B,t,c,k1,k2,hB⟩,⟨o2,O,(Z.get he O).trans hdx⟩,q⟩
theorem IsDef.madeD(D:IsDef X E)(I:Ad X ad σ H s){c:Obj}{vs:Array yU}{O:yU}(n0:X.s₀.heap.get? e=none)(ne:H e=none)(L:s.heap.get? e=some c)(hc:c.cls= .ref C)(hd:c.data= .fields vs)(h1:vs[1]? =some .none)(h0:vs[0]? =some O)(q:E (.ref C) c.dict H):X.xe (.ref e) s:=by
 refine D.xe _ _ ?_;have i4:X.A.frames=some (X.env::X.outer):=by rw[<-D.stk];exact I.ok.frames
 have i6:∀env∈(X.env::X.outer),∀b,env.frame=some b->b∈e::AG (X.env::X.outer):=λenv L b J=> .tail _ (ZH.mpr ⟨env,L,J⟩)
 have Z:s.heap.FunFrames X.base (X.env::X.outer):=by rw[<-D.stk];exact I.stack
 have ff:=PySem.W.funFrames_hide Z i6;refine Z9 ((Nu _ _).any (wpAny_leaving_firstW (Q:=λ_ s2=>∃h',s2= { s with heap:=h'}/\Heap.LeftW (PySem.W.hideAll s.heap (e::AG (X.env::X.outer))) (X.env::X.outer) e c.cls O s.heap h') i4 ff D.fr L (λb o q=>PySem.W.of_hideAll _ q) (PySem.W.hideAll_none _ (.head _)) hd h1 h0 λh' z=>⟨h',rfl,z⟩)) (λ_ s2 z=>?_) λ_ _ z=>z
 obtain⟨⟨h',rfl,k1,⟨_,_,k2⟩,k3,k4⟩,kd⟩:=z;have gB:∀b o,s.heap.get? b=some o->b≠e->b ∉ AG X.stack->(PySem.W.hideAll s.heap (e::AG (X.env::X.outer))).get? b=some o:=λb o g m n=>PySem.W.hideAll_get _ g (by
  rw[<-D.stk];intro z;rcases YY.mp z with q | q
  .exact m q
  .exact n q)
 have nx:∀b,b ∉ X.ex:=λb z=>by rw[D.ex]at z;cases z
 have be:∀b o,X.s₀.heap.get? b=some o->b≠e:=λb o g z=>by rw[z,n0]at g;cases g
 have kB:∀b o,X.s₀.heap.get? b=some o->X.H₀ b=none->b ∉ AG X.outer->(PySem.W.hideAll s.heap (e::AG (X.env::X.outer))).get? b=some o:=λb o g m n=>gB b o (I.base.keep b o g m n (nx b)) (be b o g) (D.above I g n)
 have tB:∀b o,X.s₀.heap.get? b=some o->b ∉ AG X.outer->∃o',(PySem.W.hideAll s.heap (e::AG (X.env::X.outer))).get? b=some o':=λb o g n=>by
  obtain⟨o1,e1⟩:=I.base.there b o g (nx b);exact⟨o1,gB b o1 e1 (be b o g) (D.above I g n)⟩
 have u:=D.un0 (s':=s) (H':=H) (h':=h') (B:=PySem.W.hideAll s.heap (e::AG (X.env::X.outer))) I (Un.kept λ_ _ z=>z) k4 (by rw[D.stk];exact ff) k1 kB tB;have i5:h'.TracedW (PySem.W.hideAll s.heap (e::AG (X.env::X.outer))) e (.ref C) O:=hc ▸ k3;have fl:Heap.FlyingW (PySem.W.hideAll s.heap (e::AG (X.env::X.outer))) X.outer e (.ref C) O h':=⟨k1,PySem.W.hideAll_none _ (.head _),k2,i5⟩;obtain⟨o2,e2,_⟩:=fl.there;refine⟨C,e,H,c.dict,rfl,⟨I.os,I.bare,u,_,_,fl,kB,tB,λa o ea=>(I.hok a o ea).stay (λb u J eb=>?_) (λ_ z=>z) λ_ _ z=>z⟩,⟨o2,e2,kd.get L e2⟩,q⟩;have G:H b≠none:=by
  rcases J with rfl | J
  .rw[ea];exact λz=>nomatch z
  .rw[J];exact λz=>nomatch z
 exact gB b u eb (λz=>G (z ▸ ne)) λz=>G (I.stkFree b z)
theorem IsDef.made(D:IsDef X E)(I:Ad X ad σ H s){J:Heap}{vs:yX}(c:Heap.MadeExcOf s.heap J e (.ref C) vs)(q:E (.ref C) none H):X.xe (.ref e) { s with heap:=J}:=by
 obtain⟨t,O,_,_⟩:=c.there;have Z:X.s₀.heap.get? e=none:=by
  cases z:X.s₀.heap.get? e with
  |none=>rfl
  |some o=>
   obtain⟨o1,G⟩:=I.base.there e o z (by rw[D.ex];simp);rw[c.new]at G;cases G
 have L:H e=none:=by
  cases z:H e with
  |none=>rfl
  |some o=>
   obtain⟨u,g⟩:=ObjOk.there (I.hok e o z);rw[c.new]at g;cases g
 exact D.madeD (I.kept c.keeps) Z L O rfl rfl rfl rfl q
end
section
open PySem PySem.Spec PyProof.Rows PySem.W Builtin Builtin.ObjectAttr Builtin.Getset_descriptor
def ExcAt(h:Heap)(x D:yR):Prop:=∃c,h.get? x=some c/\c.cls= .ref D
theorem ExcAt.type{M:Model}{h:Heap}{x D:yR}(I:ExcAt h x D):Looks M h (typeOf (.ref x)) (.ref D):=
 match I with | ⟨_,g,c⟩=>c ▸(Looks.ld g).andThen .now
structure ET(K:Frag)(D:yR):Prop where
 ga:findIn K (.ref D) "__getattribute__"=some (some (.builtin "BaseException.__getattribute__"))
 gt:findIn K (.ref D) "__getattr__"=some none
 cl:(clsIn K D).isSome=true
 ca:findIn K (.ref D) "__class__"=some (some (.builtin "object.__class__"))
 cn:specialIn K (.builtin "object.__class__") "__get__"=some (some (.builtin "getset_descriptor.__get__"))
 tk:takesIn K (.builtin "object.__class__")=some true
 ob:mroIn K D (.type "object")=some true
 bx:mroIn K D (.type "BaseException")=some true
section
variable{prog:yP}{w:yN}{A:yO}{E:yY}{s:yS}{K:Frag}{x D:yR}
theorem SX{M:Model}{T:String}{h:Heap}(X:K.In h)(I:ExcAt h x D)(e:mroIn K D (.type T)=some true):Looks M h (isInstance (.ref x) (.type T)) true:=I.type.andThen (looks_mroIn X e)
theorem SZ{M:Model}{h:Heap}(O:ET K D)(X:K.In h)(I:ExcAt h x D):Looks M h (Builtin.ObjectAttr.find (.ref x) (.ref D) "__class__") (.bind (.builtin "getset_descriptor.__get__") (.builtin "object.__class__")):=by
 have d:Looks M h (Builtin.ObjectAttr.dataDescriptor? (some (.builtin "object.__class__")) (some (.builtin "getset_descriptor.__get__"))) (some (.builtin "getset_descriptor.__get__",.builtin "object.__class__")):=(looks_takesIn X O.tk).andThen .now;have g:Looks M h (Builtin.ObjectAttr.getOf (some (.builtin "object.__class__"))) (some (.builtin "getset_descriptor.__get__")):=looks_specialIn X O.cn;exact(looks_findIn X O.ca).andThen (g.andThen (d.andThen (Looks.tag .now)))
theorem S7{R:Result->yS->Prop}{g:yU}(O:ET K D)(X:K.In s.heap)(I:ExcAt s.heap x D)(h:R (.ok (.ret (.ref D))) s):
  codeAny (model prog w) A (.call (.builtin "getset_descriptor.__get__") ⟨[.builtin "object.__class__",.ref x,g],[]⟩) R s:=by
 cases s;have t:=I.type (M:=model prog w);have o:=looks_mroIn (M:=model prog w) X O.ob;have a:=dga_obj (.builtin "object.__class__") g x;have c:=KF.slot_gs;refine aM c.plain KF.entry_gs (c.check _ _ _ _ _ _ _ _ KF.type_class (KF.args_gs _ _ _) ?_);have G:=KF.owner_class;unfold Builtin.«getset_descriptor.__get__» descrGet descrGetter descrCheckInstance descrNameAndClass isInstance;simp only[a,G]
 repeat (first | with_reducible refine Looks.at (by assumption) ?_ | wp_step)
 simp only[G]
 repeat (first | with_reducible refine Looks.at (by assumption) ?_ | wp_step)
 have q:(Code.builtin "object.__class__" ⟨[.ref x],[]⟩).quiet=true:=Code.quiet_builtin _ (by decide+kernel);refine⟨q,aI KF.entry_class ?_⟩;simp only[Builtin.«object.__class__»,shownTypeOf]
 repeat (first | assumption | with_reducible refine Looks.at (by assumption) ?_ | wp_step)
set_option maxHeartbeats 1000000 in
theorem S8{Q:yW->yS->Prop}(O:ET K D)(X:K.In s.heap)(I:ExcAt s.heap x D)(h:Q (some (.ref D)) { s with toks:=s.toks+1}):wpAny (model prog w) A (getAttr? (.ref x) "__class__") Q E s:=by
 cases s;have Z:=I.type (M:=model prog w);have L:=looks_findIn (M:=model prog w) X O.ga;have L2:=looks_findIn (M:=model prog w) X O.gt;have J:=SZ (M:=model prog w) O X I;have L4:=SX (M:=model prog w) X I O.bx;have b:=PySem.F.attr_ValueError.ga.bind (.ref x);have n:(Value.builtin "BaseException.__getattribute__"==Value.builtin "object.__getattribute__")=false:=by decide+kernel
 simp only[getAttr?,getAttrBy?,getAttrBy]
 repeat (any_goals (first | assumption | with_reducible refine Looks.at (by assumption) ?_ | wp_step))
 refine aM PySem.F.attr_ValueError.ga.plain F.entry_bexc_ga ?_;have c:builtinKind "BaseException.__getattribute__"=some .slot:=by decide+kernel
 have G:splitId "BaseException.__getattribute__"=some ("BaseException","__getattribute__"):=by decide+kernel
 have g:=F.args_bexc_ga (.ref x);simp only[checkBuiltinCall,c,G]
 repeat (any_goals (first | assumption | with_reducible refine Looks.at (by assumption) ?_ | exact bw (g _) (Y6 ‹_›) | wp_step))
 refine S7 O X I ?_
 repeat (any_goals (first | assumption | wp_step))
theorem S9(O:ET K D):KitX K (.ref x) (.ref D) (λh=>ExcAt h x D):=by
 obtain⟨cd,G⟩:=aO.mp O.cl;have at_:∃c d L,K.lookup D=some ⟨c,d,.cls cd,L⟩:=by
  unfold clsIn at G;split at G
  .rename_i g;exact⟨_,_,_,by rw[g];cases G;rfl⟩
  .cases G
 obtain⟨c,d,L,g⟩:=at_;refine⟨λ_ _ _ I=>I.type,λ_ _ X _=>?_,λh Z dd i5 n i4 X J=>?_,λX I k=>S8 O X I k⟩
 .exact(Looks.ld (X _ _ g)).andThen .now
 .cases e:(Value.ref D==Value.ref Z)
  .rfl
  .have e':D=Z:=by simpa using e
   have:=X _ _ g;rw[e',J]at this;cases this
end
def EU(a D:yR):HO:= .ext λh=>∃c,h.get? a=some c/\c.cls= .ref D
variable{X:Cx}{ad:List (yR × Obj)}{σ:St}{H:Hp}{s:yS}{A:yO}{E:yY}{Q:yY}{c:yU}{b:Bool}{a D:yR}
theorem Ta(I:Ad X ad σ H s)(e:H a=some (EU a D))(O:ET X.K D)(k:PySem.W.kitOne X.K (.ref D) c=some b)(h:∀tk,Q (.bool b) { s with toks:=tk}):
  wpAny (model X.prog X.w) A (call (.builtin "isinstance") [.ref a,c]) Q E s:=by
 obtain⟨g,_,_⟩:=(show ObjOk X.prog X.w H s.heap a (EU a D) from I.hok a _ e);exact PySem.W.kia_one (S9 O) I.kIn g k (λz=>nomatch z) h
end
section
theorem Tb{K:Fgx}{mg:Str->yW}{base:Heap}(M:Mod K mg base):∃(c:List Str) (D:Str->yW),PySem.W.TopRead default c mg D base:=by
 obtain⟨D,hb,g⟩:=M.blt;obtain⟨o,es,O,Z,hd,L,I⟩:=M.glob;refine⟨es.toList.filterMap (λe=>match e.key with | .str n _=>some n | _=>none),D,⟨⟨o,es,O,Z,hd,L,I⟩,hb,M.nolimit,g,λx _ hx _ _ _=>?_⟩⟩;rw[<-I];unfold nsFind findBy;rw[<-Array.find?_toList];cases q:es.toList.find? (λe=>e.key.isStr x) with
 |none=>rfl
 |some e=>
  exfalso
  have G:=List.mem_of_find?_eq_some q;have J:=List.find?_some q;obtain⟨n,t,hn⟩:=L e (by simpa using G);refine hx (ZH.mpr ⟨e,G,?_⟩);rw[hn]at J ⊢;have:n=x:=by simpa[Value.isStr] using J
  rw[this]
abbrev DY:yX:=[.type "ValueError",.type "Exception",.type "BaseException",.type "object"]
section
variable{X:Cx}{E:XK}{st:Stmt}{BZ:List Stmt}{t:TS}
theorem HL(D:IsDef X E){x:Str}{C:yR}{a:yL}{ta:TA}{np c J:Pos}(hc:X.calm=true)(hn:PySem.W.nsIn X.K mainGlobals x=some (some (.ref C)))(q:PySem.W.excIn X.K C DY "ValueError.__new__"=true)(hg:Gl X x)(ha:PA X [a] ta)
  (hdb:autoParam ((x==("__debug__" :Str))=false) o3) (Z:autoParam (starEach [a] X.env=(false,eval a X.env)::starEach [] X.env) j2):
  PS X (.Raise (some (.Call (.Name x np) [a] [] c)) none J) (λ_ σ H=>ta σ H λvs H1=>vs.length<=sizeLine/\E (.ref C) none H1):=by
 intro ad s σ H D' I h;obtain⟨G,mb,T⟩:=Tb I.ok.mod;have O:=(PySem.W.own_of_in I.ok.mod.kin T hn q).keeps I.bk;have O0:=O;obtain⟨tl,N,nm,qn,bs,hdct,sn,sub,ab,col,dd,k0,k1,k2,k3,k5,mN,hC,hN,L,TL⟩:=(PySem.W.own_of_in I.ok.mod.kin T hn q).obj;refine wpAny_Raise_call_subT (C:=C) (nm:=nm) (q:=qn) (N:=N) (bs:=bs) (bm:=tl) (hdct:=hdct) (sn:=sn) (sub:=sub) (ab:=ab) (col:=col) (dd:=dd) (k0:=k0) (k1:=k1) (k2:=k2) (k3:=k3) (k5:=k5) PySem.F.excBase_ValueError (mN:=mN)
  (TL.hasType PySem.F.excBase_ValueError.hasBase) (I.ok.hd hc) (by rw[Z];rfl) L (EC I hg O.bound ⟨rfl,?_⟩ hdb)
 have hp:=ha c ad s σ H _ I h;rw[Z]at hp ⊢;refine Calls.evalArgs_plain (Z9 hp (λus s2 ⟨vs,H1,g,rv,hl,q1⟩=>⟨rfl,by rw[<-rv.length];exact hl,g.bk _ _ hC,hN.keeps g.bk,TL.keeps g.bk,λh' e hm=>?_⟩) λ_ _ y=>y);exact D.made g hm q1
end
section
variable{P:yP}{w:yN}{K:Fgx}{mg:Str -> yW}{base:Heap}
structure AX(P:yP)(w:yN)(K:Fgx)(mg:Str->yW)(base:Heap)(n:Nat)(x:Str)(ps:List Str)(sp:Sp):Prop where
 ex:∃(f:yR) (fd:FuncData),BV P w K mg base (CJ P w) n f fd ps sp/\mg x=some (.ref f)/\PySem.W.keepIn K (.ref f)=true/\Binds K fd ps []
theorem Bg{N:List Str}{qual:Str}{scope:Scope}{f:yR}{cd:yU}{A:yO}{outer:List Env}{s:yS}{H:Hp}{E:XK}:IsDef (B0 (CJ P w) P w K mg base N qual scope f cd A outer s H E) E:=
 ⟨rfl,rfl,rfl,λe c h=>Z9 h (λ_ _ z=>z) λ_ _ z=>z.elim⟩
theorem Df.fnE{x:Str}{st:Stmt}{N g:List Str}{k:Nat}{sp:Sp}(F:Df K mg x st g)(S:Aw N g (Am st))(len:∀vs H Q E,sp vs H Q E->vs.length=g.length)
  (c : ∀ (f : yR) (dl : yU) (A : yO) (outer : List Env) (s : yS) (H : Hp) (vs : List V) (Q : VK) (E : XK), AQ k (A.deeper (envOfC x (Am st) s.heap.objs.size f dl)) -> sp vs H Q E ->
   ∃t,PSs (B0 (CJ P w) P w K mg base N x (Am st) f dl A outer s H E) (Br st) t/\t { nx:=λ_ H'=>Q .non H',rt:=Q} (start N vs) H):AX P w K mg base (k+1) x g sp:=by
 obtain⟨f,fd,G,L,O⟩:=F.ex;have kp:=G.kp;obtain⟨oc,od,kV,i4,pm,an,dl,ct,Z,rfl,J,D⟩:=G.ex;exact⟨f,_,Ha J D S len λA outer s H vs Q E I h=>c f dl A outer s H vs Q E I h,L,kp,O⟩
theorem Df.fmE{x:Str}{st:Stmt}{N g:List Str}{k:Nat}{sp:Sp}(F:Df K mg x st g)(S:Aw N g (Am st))
  (c : ∀ (f : yR) (dl : yU) (A : yO) (outer : List Env) (s : yS) (H : Hp) (vs : List V) (Q : VK) (E : XK), AQ k (A.deeper (envOfC x (Am st) s.heap.objs.size f dl)) -> sp vs H Q E ->
   ∃t,PSs (B0 (CJ P w) P w K mg base N x (Am st) f dl A outer s H E) (Br st) t/\t { nx:=λ_ H'=>Q .non H',rt:=Q} (start N vs) H)(len:autoParam (∀vs H Q E,sp vs H Q E->vs.length=g.length) zF):AX P w K mg base (k+1) x g sp:=F.fnE S len c
def Td(sp:Sp)(E:XK)(t:TA):TE:=fun c H Q=>t c H λD g=>sp D g Q E
theorem Bu{X:Cx}{E:XK}(D:IsDef X E){n:Nat}{x:Str}{O:List Str}{sp:Sp}{e:yL}{es:List yL}{t:TA}{p g:Pos}(F:AX X.prog X.w X.K X.mg X.base n x O sp)(I:AQ n X.A)(J:Gl X x)(ha:PA X (e::es) t)
  (hdb:autoParam ((x==("__debug__" :Str))=false) o3) (Z:autoParam (starEach (e::es) X.env=(false,eval e X.env)::starEach es X.env) j2) (G:autoParam ((backTo g (starEach es X.env)).any (·.1)=false) j2):
  PE X (.Call (.Name x p) (e::es) [] g) (Td sp E t):=by
 obtain⟨f,fd,F,L,hk,hb⟩:=F.ex;refine(LD (dvs:=[]) (E:=E) F I J L hk hb .nil D.passes ha hdb Z G).weak fun σ H Q q=>?_
 have e:∀c:List V,c++[]=c:=λc=>ZV c
 show t σ H λc H1=>sp (c++[]) H1 Q E
 simp only[e];exact q
end
abbrev Fq(qual:Str)(scope:Scope)(L f:yR)(cd:yU)(cl:List (Str×yR)):Env:=PySem.W.envX qual scope L f cd cl
def Gh(P:yP)(w:yN)(K:Fgx)(mg:Str->yW)(base:Heap)(N:List Str)(qual:Str)(scope:Scope)(f:yR)(cd:yU)(cl:List (Str×yR))(A:yO)(outer:List Env)(s:yS)(H:Hp)(E:XK):Cx where
 prog:=P
 w:=w
 K:=K
 mg:=mg
 base:=base
 A:=A.deeper (Fq qual scope s.heap.objs.size f cd cl)
 N:=N
 s₀:=s
 H₀:=H
 env:=Fq qual scope s.heap.objs.size f cd cl
 outer:=outer
 stack:=Fq qual scope s.heap.objs.size f cd cl::outer
 ex:=[]
 calm:=true
 fn:=λ_=>false
 pn:=[]
 xe:=λe D=>wpAny (model P w) (A.deeper (Fq qual scope s.heap.objs.size f cd cl)) (leaving (Fq qual scope s.heap.objs.size f cd cl) e) (λ_ c=>CJ P w outer H s E e c) (λg c=>CJ P w outer H s E g c) D
theorem Kf{P:yP}{w:yN}{K:Fgx}{mg:Str->yW}{base:Heap}{N:List Str}{qual:Str}{scope:Scope}{f:yR}{cd:yU}{cl:List (Str×yR)}{A:yO}{outer:List Env}{s:yS}{H:Hp}{E:XK}:
  IsDef (Gh P w K mg base N qual scope f cd cl A outer s H E) E:=
 ⟨rfl,rfl,rfl,λe c h=>Z9 h (λ_ _ z=>z) λ_ _ z=>z.elim⟩
variable{X:Cx}{ad:List (yR × Obj)}{σ:St}{H:Hp}{s s':yS}{scope:Scope}{N':List Str}{cap:List (Option Nat)}{A:yO}{outer:List Env}{qual:Str}{f:yR}{cd:yU}{E:XK}
theorem Te(I:Ad X ad σ H s)(B:AJ X.env.scope X.N scope N' cap)(nc:∀x∈scope.names,x.2≠ .cell)(hd:A.handled=none)(J:CF X.prog X.w X.K X.mg X.base A outer s' H)
  (G:∀x c v,X.env.cells.lookup x=some c->s.heap.IsCell c v->s'.heap.IsCell c v) {h1:Heap}{tk:Nat} (hn:h1.Ns s'.heap.objs.size λ_=>none) (hk:∀b o,s'.heap.get? b=some o->h1.get? b=some o):
  Ad (Gh X.prog X.w X.K X.mg X.base N' qual scope f cd (A9 X.env.cells scope.names []) A outer s' H E) [] (AR cap σ) H { s' with heap:=h1,toks:=tk}:=by
 have Z:∀x c,(A9 X.env.cells scope.names []).lookup x=some c->X.env.cells.lookup x=some c:=λx c e=>(Ek _ _ e).elim id λz=>nomatch z
 have O:∀b:yR,b ∉(Gh X.prog X.w X.K X.mg X.base N' qual scope f cd (A9 X.env.cells scope.names []) A outer s' H E).ex:=λb z=>absurd (show b∈([]:List yR) from z) (by simp)
 refine⟨⟨J.mod,B.kind,rfl,rfl,Y4 _,λx y c a b=>I.ok.inj x y c (Z x c a) (Z y c b),λx hx=>?_,λx c z _=>(nomatch (show false=true from z)),λ_=>hd,cD J.frames,.inr ⟨rfl,rfl⟩,λb z=>absurd z (O b),J.bs,J.bsz,λb _ _=>O b,λb z=>absurd z (O b),J.funs,J.frf⟩,
  rfl,J.bare,Un.kept hk,⟨_,hn,λi x v i7 h2 h3=>?_⟩,λx c h=>?_,J.hok.fresh (Y4 _),λx c h=>I.freeC x c (Z x c h),λp hp=>absurd (show p∈([]:PNs) from hp) (by simp),J.hok.kept hk,?_⟩
 .have i8:scope.names.lookup x=some .cell\/scope.names.lookup x=some .free:=hx;rcases i8 with z | z
  .exact absurd rfl (nc _ (PySem.mem_of_lookup z))
  .have hm:=PySem.mem_of_lookup z;obtain⟨c,hc⟩:=I.ok.has x (B.free _ hm rfl);exact⟨c,EH hc _ _ hm⟩
 .have g:(AR cap σ)[i]? =some (some v):=h2;unfold AR at g;rw[YO]at g;cases q:cap[i]? with
  |none=>rw[q]at g;cases g
  |some o=>
   rw[q]at g;cases o with
   |none=>exact nomatch Y9 g
   |some j=>
    have D:(match σ[j]? with | some v=>v | none=>none)=some v:=Y9 g;cases qs:σ[j]? with
    |none=>rw[qs]at D;cases D
    |some v'=>
     rw[qs]at D;have hs:σ[j]? =some (some v):=by rw[qs];exact Zv some D
     obtain⟨x',e1,e2,e3,e4⟩:=B.capt i j q;have i5:N'[i]? =some x:=i7;rw[i5]at e1;cases e1;have i4:=B.free _ e3 rfl;obtain⟨m,hn,hl⟩:=I.loc;obtain⟨u,ru,lk⟩:=hl j x v e2 hs (i4.elim (λz=> .inr (.inl z)) λz=> .inr (.inr z));refine⟨u,ru,?_⟩;rcases lk with⟨lk,_⟩ | ⟨_,c,hc,ic⟩
     .have i6:X.env.scope.names.lookup x=some .local :=lk;have L:X.env.scope.names.lookup x=some .cell\/X.env.scope.names.lookup x=some .free:=i4;rw[i6]at L;rcases L with z | z<;>cases z
     .exact .inr ⟨.inr (B.own _ e3),c,EH hc _ _ e3,(G x c _ hc ic).keeps hk⟩
 .obtain⟨v,z⟩:=I.cell x c (Z x c h);exact⟨v,(G x c v (Z x c h) z).keeps hk⟩
 .unfold AR;show _=N'.length;rw[Y0];exact B.len
theorem Tf(I:Ad X ad σ H s)(B:AJ X.env.scope X.N scope N' cap)(nc:∀x∈scope.names,x.2≠ .cell)(co:scope.isCoroutine=false)(gen:scope.isGenerator=false){k:Nat}(hr:AQ k A)(e0:CF X.prog X.w X.K X.mg X.base A outer s' H)
  (G:∀x c v,X.env.cells.lookup x=some c->s.heap.IsCell c v->s'.heap.IsCell c v) {g:Arguments}{body:yL}{pm O:yU}{L:yR}{te:TE}{Q:VK}
  (ho:s'.heap.get? f=some (PySem.W.kla_obj "<lambda>" qual g body scope (A9 X.env.cells scope.names []) pm L O)) (i6:s'.heap.CodeRec (.ref L) qual)
  (hb:bindArgs (PySem.W.kla_fn "<lambda>" qual g body scope (A9 X.env.cells scope.names []) pm (.ref L) O) ⟨[],[]⟩=pure [])
  (D:PE (Gh X.prog X.w X.K X.mg X.base N' qual scope f (.ref L) (A9 X.env.cells scope.names []) A outer s' H E) body te) (q:te (AR cap σ) H Q):
  codeAny (model X.prog X.w) A (.call (.ref f) ⟨[],[]⟩) (CR (CJ X.prog X.w) outer X.prog X.w H s' Q E) s':=by
 refine PySem.W.kla_callFunE hr.depth ho rfl co gen rfl i6 ?_;rw[hb];refine Y6 (wpAny_newFunctionEnv nc (λx hx=>nomatch hx) (λh1 i7 i4=>?_) B.kind);have hk:∀b o,s'.heap.get? b=some o->h1.get? b=some o:=λb o e=>i4.extBut b o (Z0 (Y8 e)) (Y2 _ e)
 have hl:s'.heap.NoLimit:=e0.mod.nolimit.keeps λb o e=>(e0.bs b o e).1
 refine⟨hl.keeps hk,?_⟩;show codeAny _ _ (.expr body (Fq qual scope s'.heap.objs.size f (.ref L) (A9 X.env.cells scope.names []))) _ _;refine PySem.W.kla_codeExpr ?_;have J:=Te (tk:=s'.toks+([]:List (Str×yU)).length) (qual:=qual) (f:=f) (cd:= .ref L) (E:=E) I B nc hr.hd e0 G i7 hk;refine Z9 (D [] _ (AR cap σ) H Q J q) (λv i5 z=>?_) λe i5 z=>z
 obtain⟨v',H',Z,rv,qv⟩:=z;exact⟨v',H',Z.os,Z.bare,Z.base,Z.hok,rv,qv⟩
end
section
variable{M:Model}{E:yY}
abbrev Cx.hot(X:Cx)(A:yO):Cx:= { X with A:=A,calm:=false,xe:=λ_ _=>False}
section
variable{X:Cx}{ad:List (yR × Obj)}{σ:St}{H H':Hp}{s s':yS}
theorem Ad.hot(I:Ad X ad σ H s){A:yO}(c:A.frames=some X.stack):Ad (X.hot A) ad σ H s:=
 ⟨⟨I.ok.mod,I.ok.kind,I.ok.glob,I.ok.blt,I.ok.above,I.ok.inj,I.ok.has,I.ok.cab,λz=>(nomatch (show false=true from z)),c,I.ok.stk,I.ok.exf,I.ok.bs,I.ok.bsz,I.ok.noex,I.ok.exfs,I.ok.funs,I.ok.frf⟩,I.os,I.bare,I.base,I.loc,I.cell,I.free,I.freeC,I.pin,I.hok,I.len⟩
theorem Ad.cool{A:yO}(ok:X.Ok)(I:Ad (X.hot A) ad σ H s):Ad X ad σ H s:=⟨ok,I.os,I.bare,I.base,I.loc,I.cell,I.free,I.freeC,I.pin,I.hok,I.len⟩
theorem Nw{outer:List Env}{B h':Heap}(u:Un (AG outer) [] H H' s.heap s'.heap)(kB:∀b o,s.heap.get? b=some o->H b=none->b ∉ AG outer->B.get? b=some o)
  (tB:∀b o,s.heap.get? b=some o->b ∉ AG outer->∃L,B.get? b=some L) (O:s'.heap.FunFrames B outer) (st:B.StaysIn h') (up:s'.heap.UpToSlots h'):Un (AG outer) [] H H' s.heap h':=by
 have G:∀b,b∈AG outer->∀o,s'.heap.get? b=some o->∀Z,o.data≠ .fields Z:=λb c o eo=>by
  obtain⟨_,L,D,hd⟩:=O.mem c;rw[eo]at D;cases D;exact hd
 refine⟨λb o e n c _=>st b o (kB b o e n c),λb o e n c J=>?_,u.free,λb o e J=>?_,u.tups,u.frzs,u.tbls⟩
 .obtain⟨s1,g⟩:=u.slot b o e n c J;obtain⟨s2,I⟩:=up b _ g (G b c _ g);exact⟨s2,I⟩
 .by_cases c:b∈AG outer
  .obtain⟨o1,g⟩:=u.there b o e J;obtain⟨s2,I⟩:=up b _ g (G b c _ g);exact⟨_,I⟩
  .obtain⟨o1,g⟩:=tB b o e c;exact⟨o1,st b o1 g⟩
theorem Ad.track(I:Ad X ad σ H s){a:yR}{o:HO}(na:a≠X.env.locals)(nc:∀x c,X.env.cells.lookup x=some c->c≠a)(Z:∀p∈X.pn++ad,p.1≠a)(L:X.s₀.heap.get? a=none)(O:H a=none)
  (J:ObjOk X.prog X.w (upd H a o) s.heap a o):Ad X ad σ (upd H a o) s:=by
 have ne:∀b u,H b=some u->b≠a:=λb u e z=>by rw[z,O]at e;cases e
 refine⟨I.ok,I.os,I.bare,⟨I.base.keep,I.base.slot,λb ob e n hx=>?_,I.base.there,λb g q=>?_,λb ob g q=>?_,λb G q=>?_⟩,I.loc,I.cell,?_,λx c e=>?_,λp D=>?_,λb ob e=>?_,I.len⟩
 .rw[Ap (λz=>by rw[z,L]at e;cases e)];exact I.base.free b ob e n hx
 .have:=I.base.tups b g q;rw[Ap (ne b _ this)];exact this
 .have:=I.base.frzs b ob g q;rw[Ap (ne b _ this)];exact this
 .obtain⟨m,e⟩:=I.base.tbls b G q;exact⟨m,by rw[Ap (ne b _ e)];exact e⟩
 .rw[Ap (Zo na)];exact I.free
 .rw[Ap (nc x c e)];exact I.freeC x c e
 .obtain⟨e,n,r⟩:=I.pin p D;exact⟨e,by rw[Ap (Z p D)];exact n,r⟩
 .by_cases z:b=a
  .subst z;rw[Af]at e;cases e;exact J
  .rw [Ap z] at e;refine(I.hok b ob e).stay (λ_ _ _ q=>q) (λc q=>?_) λc g q=>?_
   .rw[Ap (ne c _ q)];exact q
   .rw[Ap (ne c _ q)];exact q
theorem Tg{A:yO}{i:Nat}{x:Str}{i4:Pos}{Q:Unit->yS->Prop}(I:Ad X ad σ H s)(hN:X.N.Nodup)(hi:X.N[i]? =some x)(D:X.env.kindOf x=some .local)
  (h:∀s',Ad X ad (σ.set i none) H s'->Q () s'):wpAny M A (do bindName X.env x .none;unbindBehindTheSuite X.env x i4) Q E s:=by
 obtain⟨m,hn,hl⟩:=id I.loc;have O:(X.env.scope.kind== .class || (X.env.scope.kind== .module && X.env.locals !=X.env.globals))=false:=by rw[I.ok.kind];rfl
 have cne:=I.cne;refine wpAny_nameGoes_keeps D hn O λh' v i5 g=>?_
 obtain⟨oL,_,_,i6,_⟩:=id hn;have nl:∀b o,X.s₀.heap.get? b=some o->b≠X.env.locals:=λb o e=>Z0 (YQ (Y8 e) I.ok.above)
 refine h _ ⟨I.ok,I.os,I.bare,⟨λb o e n hb D=>(g.2 b (nl b o e)).trans (I.base.keep b o e n hb D),λb o e n hb D=>?_,I.base.free,λb o e D=>?_,I.base.tups,I.base.frzs,I.base.tbls⟩,⟨_,i5,λj y v' G Z e3=>?_⟩,λy c e=>?_,I.free,I.freeC,λp hp=>?_,λb ob e=>?_,by simpa using I.len⟩
 .obtain⟨sl,G⟩:=I.base.slot b o e n hb D;exact⟨sl,(g.2 b (nl b o e)).trans G⟩
 .obtain⟨o',G⟩:=I.base.there b o e D;exact⟨o',(g.2 b (nl b o e)).trans G⟩
 .have hj:j≠i:=λz=>by
   subst z;have L:j<σ.length:=by rw[I.len];exact(Y3.mp hi).1
   rw[bU L]at Z;cases Z
  rw[cq (Zo hj)]at Z;obtain⟨u',r',q⟩:=hl j y v' G Z e3;refine⟨u',r',?_⟩;rcases q with⟨k,e⟩ | ⟨k,c,e,z⟩
  .refine .inl ⟨k,?_⟩;have:y≠x:=λe=>hj (Je hN G (e ▸ hi))
   simp[this,e]
  .exact .inr ⟨k,c,e,z.sameBut g (cne y c e)⟩
 .obtain⟨w',z⟩:=I.cell y c e;exact⟨w',z.sameBut g (cne y c e)⟩
 .obtain⟨e,n,ne,nf,d⟩:=I.pin p hp;exact⟨(g.2 p.1 ne).trans e,n,ne,nf,d⟩
 .refine(I.hok b ob e).stay (λc w' J q=>(g.2 c ?_).trans q) (λ_ q=>q) λ_ _ q=>q
  rintro rfl;rcases J with J | J
  .rw[<-J,I.free]at e;cases e
  .rw[I.free]at J;cases J
end
theorem Th{A:yO}{s:yS}{K:Fgx}{e C D:yR}{Q:Bool->yS->Prop}(X:K.In s.heap)(I:ExcAt s.heap e C)(hM:PySem.W.mroIn K C (.ref D)=some true)
  (G:PySem.W.mroIn K D (.type "BaseException")=some true) (hT:PySem.W.typeIn K (.ref D)=some (.type "type")) (hq:Q true s):wpAny M A (excMatches (.ref e) (.ref D)) Q E s:=by
 have L0:=I.type (M:=M);have L1:=PySem.W.looks_mroIn (M:=M) X hM;have L2:=PySem.W.looks_mroIn (M:=M) X G;have L3:=PySem.W.looks_typeIn (M:=M) X hT;have Z:PySem.W.Looks M s.heap (isType (.ref D)) true:=by
  unfold PySem.W.mroIn at G;obtain⟨cd,c,_⟩:=Option.bind_eq_some_iff.mp G;unfold PySem.W.clsIn at c;split at c
  .rename_i c' d' O J L;intro A' Q' E' s' k q;unfold isType loadHead;exact Y1 (wpAny_loadPart (k _ _ (X _ _ L)) (Y6 q))
  .cases c
 have LX:PySem.W.Looks M s.heap (isExcClass (.ref D)) true:=Z.andThen L2;obtain⟨hh,g,d,tk,os⟩:=s;unfold excMatches isInstance;refine Y1 (Y1 (L3.at ?_));rw[tc_notTuple];refine Y6 ?_;simp only[am,bo];refine Y1 (Y6 ?_);simp only[cF,dP];refine Y1 (Y1 (Y1 (LX.at ?_)));simp only[Bool.not_true,am,bo];refine Y6 (Y6 ?_);refine Y1 (L0.at ?_);refine Y1 (Y1 (Y1 (L1.at ?_)));simp only[aS];exact Y6 (Y6 (Y6 hq))
structure RoomQ(k:Nat)(A:yO):Prop where
 dp:A.depth+3 * k+5<recursionLimit
 un:A.units+16 * k+200<cLine
 gd:A.guards=some []
theorem AQ.q{k:Nat}{A:yO}(r:AQ k A):RoomQ k A:=⟨r.dp,r.un,r.gd⟩
theorem RoomQ.mark{k:Nat}{A:yO}(r:RoomQ k A)(h:yW):RoomQ k (A.mark h):=⟨r.dp,r.un,r.gd⟩
theorem RoomQ.room{k:Nat}{A:yO}(r:RoomQ k A):AQ k { A with handled:=none}:=⟨rfl,r.dp,r.un,r.gd⟩
theorem RoomQ.mono{j k:Nat}{A:yO}(r:RoomQ k A)(h:j<=k):RoomQ j A:=⟨by have:=r.dp;lia,by have:=r.un;lia,r.gd⟩
theorem Ny{P:yP}{w:yN}{K:Fgx}{mg:Str->yW}{base:Heap}{k:Nat}{f:yR}{name qual:Str}{c:Arguments}{body:List Stmt}{scope:Scope}{dV kV L pm dl ct oc:yU}{an od:Option yR}
  {i4:Array (yW)}{N O:List Str} (lk:K.lookup f=some ⟨oc,od,.func (PySem.W.fnOf name qual c body scope dV kV L pm an dl ct),i4⟩) (Z:PySem.W.codeIn K dl qual=true) (S:Aw N O scope)
  {A:yO}{outer:List Env}{s:yS}{H:Hp}{args:Args}{us:yX}{vs:List V}{R:Result->yS->Prop} (hr:RoomQ (k+1) A) (g:CF P w K mg base A outer s H)
  (hb:BindsTo s (PySem.W.fnOf name qual c body scope dV kV L pm an dl ct) args (O.zip us)) (r:At vs us) (hl:vs.length=O.length)
  (D : ∀ s1, Ad (B0 CX0 P w K mg base N qual scope f dl { A with handled := none } outer s H E0) [] (start N vs) H s1 -> wpAny (model P w) (A.deeper (envOfC qual scope s.heap.objs.size f dl)) (execs body (envOfC qual scope s.heap.objs.size f dl))
   (λfl s'=>match fl with | .ret u=>R (.ok (.ret u)) s' | .next=>R (.ok (.ret .none)) s' | _=>False) (λ_ _=>False) s1):
  codeAny (model P w) A (.call (.ref f) args) R s:=by
 have KX:K.In s.heap:=g.mod.kin.keeps λb o e=>(g.bs b o e).1
 have i5:s.heap.NoLimit:=g.mod.nolimit.keeps λb o e=>(g.bs b o e).1
 have G:∀y∈O.zip us,scope.names.lookup y.1=some .local \/(scope.names.lookup y.1=some .cell/\((cellsFrom (s.heap.objs.size+1) scope.names []).lookup y.1).isSome=true):=fun⟨n,v⟩ hy=>by
  rcases S.par n (bj hy).1 with q | q
  .exact .inl q
  .exact .inr ⟨q,PySem.W.cellsFrom_some _ _ _ (.inl q)⟩
 refine et hr.room.depth (KX _ _ lk) rfl S.co S.gen rfl (PySem.W.codeRec_of KX Z) (hb _ _ _ _ ?_);refine da S.kind G λenv he s1 x=>?_
 subst he;refine⟨i5.keeps x.toInCall.keep,codeAny_func ?_⟩;have e1:CF P w K mg base { A with handled:=none} outer s H:=⟨g.frames,g.mod,g.bs,g.bsz,g.funs,g.frf,g.hok,g.bare⟩;have I:Ad (B0 CX0 P w K mg base N qual scope f dl { A with handled:=none} outer s H E0) [] (start N vs) H s1:=LK S rfl e1 hl r x;refine Z9 (D s1 I) (λfl s' J=>?_) λe s' J=>J.elim
 cases fl with
 |ret u=>exact J
 |next=>exact J
 |brk=>exact J.elim
 |cont=>exact J.elim
end
section
variable{ps:List Str}{sp:Sp}{p pos:Pos}
def HM(Q:VK):VK:=λv c=>∀t,c t=none->Q (.ref t) (upd c t (.tup [.str "told",v]))
def Gi(W:yR->Str->Prop)(Q:VK):XK:=λc _ G=>∃C g,c= .ref C/\W C g/\∀D t,(∀b o,G b=some o->D b=some o)->D t=some (.tup [.str g])->Q (.ref t) D
def Fr(W:yR->Str->Prop):Sp:=λvs H Q _=>zG (λe=>∃C word,H e=some (EU e C)/\W C word/\∀H3 t,(∀b o,H b=some o->H3 b=some o)->H3 t=some (.tup [.str word])->Q (.ref t) H3) vs
def EV(P:yP)(w:yN)(K:Fgx)(mg:Str->yW)(base:Heap)(k:Nat)(W:yR->Str->Prop)(outer:List Env)(s:yS):Sp:=λvs H Q _=>zG (λf=>PySem.W.FnAt f s.heap /\ H f = none /\ f ∉ AG outer /\ ∀ (A' : yO) (outer' : List Env) (s' : yS), AQ k A' -> CF P w K mg base A' outer' s' H -> Un (AG outer) [] H H s.heap s'.heap -> codeAny (model P w) A' (.call (.ref f) ⟨[],[]⟩) (CR (CJ P w) outer' P w H s' (HM Q) (Gi W Q)) s') vs
section
variable{P:yP}{w:yN}{K:Fgx}{mg:Str -> yW}{base:Heap}
structure Fs(P:yP)(w:yN)(K:Fgx)(mg:Str->yW)(base:Heap)(n:Nat)(x:Str)(ps:List Str)(sp:Sp):Prop where
 ex:∃(f:yR) (fd:FuncData),(∀(A:yO) (outer:List Env) (s:yS) (H:Hp) (args:Args) (us:yX) (vs:List V) (Q:VK),RoomQ n A->CF P w K mg base A outer s H->BindsTo s fd args (ps.zip us)->At vs us->sp vs H Q E0->
  codeAny (model P w) A (.call (.ref f) args) (CR CX0 outer P w H s Q E0) s)/\(∀vs H Q E,sp vs H Q E->vs.length=ps.length)/\mg x=some (.ref f)/\PySem.W.keepIn K (.ref f)=true/\Binds K fd ps []
structure HN(P:yP)(w:yN)(K:Fgx)(mg:Str->yW)(base:Heap)(n:Nat)(x:Str)(ps:List Str)(sp:List Env->yS->Sp):Prop where
 ex:∃(f:yR) (fd:FuncData),(∀(A:yO) (outer:List Env) (s:yS) (H:Hp) (args:Args) (us:yX) (vs:List V) (Q:VK),AQ n A->CF P w K mg base A outer s H->BindsTo s fd args (ps.zip us)->At vs us->sp outer s vs H Q E0->
  codeAny (model P w) A (.call (.ref f) args) (CR CX0 outer P w H s Q E0) s)/\mg x=some (.ref f)/\PySem.W.keepIn K (.ref f)=true/\Binds K fd ps []
theorem Df.fnQ{x:Str}{st:Stmt}{N:List Str}{k:Nat}(F:Df K mg x st ps)(S:Aw N ps (Am st))(len:∀vs H Q E,sp vs H Q E->vs.length=ps.length)
  (c : ∀ (f : yR) (dl : yU) (A : yO) (outer : List Env) (s : yS) (H : Hp) (vs : List V) (Q : VK), RoomQ k (A.deeper (envOfC x (Am st) s.heap.objs.size f dl)) -> sp vs H Q E0 ->
   ∃t,PSs ((B0 CX0 P w K mg base N x (Am st) f dl { A with handled:=none} outer s H E0).hot (A.deeper (envOfC x (Am st) s.heap.objs.size f dl))) (Br st) t/\t { nx:=λ_ H'=>Q .non H',rt:=Q} (start N vs) H):
  Fs P w K mg base (k+1) x ps sp:=by
 obtain⟨f,fd,hF,hm,hb⟩:=F.ex;have kp:=hF.kp;obtain⟨oc,od,kV,i5,pm,an,dl,ct,i4,rfl,lk,L⟩:=hF.ex;refine⟨f,_,λA outer s H args us vs Q hr e0 Z r D=>?_,len,hm,kp,hb⟩;refine Ny lk L S hr e0 Z r (len _ _ _ _ D) λs1 I=>?_
 have O:RoomQ k (A.deeper (envOfC x (Am st) s.heap.objs.size f dl)):=have z:=hr.room.deeper (envOfC x (Am st) s.heap.objs.size f dl);⟨z.dp,z.un,z.gd⟩;obtain⟨t,ht,hq⟩:=c f dl A outer s H vs Q O D;refine Z9 (ht [] s1 (start N vs) H _ (I.hot (cD e0.frames)) hq) (λfl s' g=>?_) λe s' g=>g
 cases fl with
 |ret u=>
  obtain⟨v,G,H',J,rv,q⟩:=g;exact⟨v,H',J.os,J.bare,J.base,J.hok,rv,q⟩
 |next=>
  obtain⟨G,H',J,q⟩:=g;exact⟨.non,H',J.os,J.bare,J.base,J.hok,rfl,q⟩
 |brk=>obtain⟨_,_,_,q⟩:=g;exact q
 |cont=>obtain⟨_,_,_,q⟩:=g;exact q
theorem Ti{X:Cx}{n:Nat}{x:Str}{e:yL}{es:List yL}{t:TA}(F:Fs X.prog X.w X.K X.mg X.base n x ps sp)(O:RoomQ n X.A)(Z:Gl X x)(ha:PA X (e::es) t)
  (hdb:autoParam ((x==("__debug__" :Str))=false) o3) (he:autoParam (starEach (e::es) X.env=(false,eval e X.env)::starEach es X.env) j2) (L:autoParam ((backTo pos (starEach es X.env)).any (·.1)=false) j2):
  PE X (.Call (.Name x p) (e::es) [] pos) (MB sp t):=by
 obtain⟨f,fd,F,D,hm,hk,hb⟩:=F.ex;intro ad s σ H Q I h;refine ZN (EC I Z hm ?_ hdb);refine PySem.W.callWith_K (h₀:=X.base) I.ok.mod.kin hk (An (ha pos ad s σ H _ I h) λJ s1 ⟨vs,H1,G,r,q⟩=>⟨G.kIn,?_⟩) he L;have hl:J.length=ps.length:=by rw[<-r.length];exact D _ _ _ _ q
 have g:=hb s1 J G.kIn (by rw[ZV];exact hl);rw[ZV]at g;refine cC (aC (F X.A X.stack s1 H1 ⟨J,[]⟩ J vs Q O G.env0 g r q) λr s' c=>?_);cases r with
 |error e=>exact c.elim
 |ok fl=>
  cases fl with
  |ret u=>exact G.after c
  |next=>exact False.elim c
  |brk=>exact False.elim c
  |cont=>exact False.elim c
end
variable{X:Cx}{H:Hp}{f:yR}{Q:VK}{W:yR -> Str -> Prop}
theorem Tj{k:Nat}{L:VSP}{x:Str}(hN:X.N[0]? =some x)(hv:DL X.env.scope x)(hdb:(x==("__debug__" :Str))=false)(G:(x==("__classdict__" :Str))=false)(Z:X.ex=[])(h0:X.H₀=H)
  (hr:AQ k X.A) (hs:EV X.prog X.w X.K X.mg X.base k W X.outer X.s₀ [.ref f] H Q E0)
  (hW:∀ad σ sc v s',Ad X ad σ H sc->CJ X.prog X.w X.stack H sc (Gi W Q) v s'->L v s'):
  PE (X.wish L) (.Call (.Name x p) [] [] pos) (fun σ H' Q'=>σ[0]? =some (some (.ref f))/\H'=H/\∀v c,HM Q v c->Q' v c):=by
 intro ad s σ H' Q' I ⟨hσ,e,hq⟩;subst e;obtain⟨hf,hn,D,run⟩:=hs;refine ZN (An ((FS (X:=X.wish L) (i:=0) hN hv hdb G) ad s σ H' (λv c=>v= .ref f/\c=H') I ?_) λu s2 ⟨v,c,I2,r,q⟩=>?_)
 .exact⟨.ref f,hσ,rfl,rfl⟩
 obtain⟨rfl,rfl⟩:=q;have hu:u= .ref f:=r;subst hu;have O:Ad X ad σ c s2:=I2.unwish;have un:Un (AG X.outer) [] c c X.s₀.heap s2.heap:=by
  have:=O.base;rw[Z,h0]at this;exact this
 obtain⟨oc,od,fd,sl,ho⟩:=hf;have i4:=un.keep f _ ho hn D (by simp);refine PySem.W.callWith_F0 ⟨oc,od,fd,sl,i4⟩ ?_;refine cC (aC (run X.A X.stack s2 hr O.env0 un) λr s' g=>?_);cases r with
 |error e=>exact hW ad σ s2 e s' O g
 |ok fl=>
  cases fl with
  |ret u=>
   obtain⟨v,H3,J,rv,qv⟩:=I2.after g;exact⟨v,H3,J,rv,hq v H3 qv⟩
  |next=>exact False.elim g
  |brk=>exact False.elim g
  |cont=>exact False.elim g
end
abbrev Nz(O:Str)(i1 i2:Nat)(p1 L I p4 J Z p7 G p9 c D g:Pos):Stmt:=
 .Try [.Return (some (.Tuple [.Constant (.str "told") i1 p1,.Call (.Name "_law_call_here" L) [] [] I] i2 p4)) J]
  [.ExceptHandler (some (.Name "MainError" Z)) (some "_law_e") [.Return (some (.Call (.Name O p7) [.Name "_law_e" G] [] p9)) c] D] [] [] g
section
variable{X:Cx}{H:Hp}{f M:yR}{Q:VK}{W:yR -> Str -> Prop}{s1:yS}
theorem Tk{wn:Str}{k n:Nat}{i1 i2:Nat}{p1 p2 p3 p4 p5 p6 p7 p8 p9 j7 r8 u6:Pos}(stk:X.stack=X.env::X.outer)(fr:X.env.frame=some X.env.locals)(j4:X.ex=[])(l7:X.pn=[])(hc:X.calm=true)(h0:X.H₀=H)(hN:X.N=[("_law_call_here" :Str),("_law_e" :Str)])
  (k0:X.env.scope.names.lookup ("_law_call_here" :Str)=some .local) (k1:X.env.scope.names.lookup ("_law_e" :Str)=some .local) (gM:Gl X "MainError") (gw:Gl X wn) (hM:X.mg "MainError"=some (.ref M))
  (hB:PySem.W.mroIn X.K M (.type "BaseException")=some true) (hT:PySem.W.typeIn X.K (.ref M)=some (.type "type")) (j9:∀C w,W C w->PySem.W.mroIn X.K C (.ref M)=some true) (Dw:Fs X.prog X.w X.K X.mg X.base n wn ["_law_e"] (Fr W))
  (hdb:(wn==Str.ofString "__debug__")=false) (hr:AQ k X.A) (hn:n<=k) (hs:EV X.prog X.w X.K X.mg X.base k W X.outer X.s₀ [.ref f] H Q E0) (I:Ad X [] [some (.ref f),none] H s1):
  wpAny (model X.prog X.w) X.A (execs [Nz wn i1 i2 p1 p2 p3 p4 p5 p6 p7 p8 p9 j7 r8 u6] X.env) (λfl s'=>match fl with | .ret u=>∃v σ H',Ad X [] σ H' s'/\Az v u/\Q v H' | _=>False) (λ_ _=>False) s1:=by
 have u8:X.A.frames=some (X.env::X.outer):=by rw[<-stk];exact I.ok.frames
 refine dw (wpAny_Try_except ?_);have i5:PSs (X.wish λv s'=>∃ad σ sc,Ad X ad σ H sc/\CJ X.prog X.w X.stack H sc (Gi W Q) v s') [.Return (some (.Tuple [.Constant (.str "told") i1 p1,.Call (.Name "_law_call_here" p2) [] [] p3] i2 p4)) p5] _:=
  Ao (Av (BF (Bc AF (Bc (Tj (k:=k) (by rw[hN];rfl) (.inl k0) (by decide) (by decide) j4 h0 hr hs λad σ sc v s' a b=>⟨ad,σ,sc,a,b⟩) BE))))
 refine Z9 (i5 [] s1 [some (.ref f),none] H { nx:=λ_ _=>False,rt:=Q} (I.wish _) ?_) (λfl s' z=>?_) λv s' z=>?_
 .exact⟨rfl,rfl,λv H2 hq p hp=>hq p hp⟩
 .cases fl with
  |ret u=>
   obtain⟨v,σ',H',J,rv,q⟩:=z;exact⟨v,σ',H',J.unwish,rv,q⟩
  |next=>obtain⟨_,_,_,q⟩:=z;exact q.elim
  |brk=>obtain⟨_,_,_,q⟩:=z;exact q.elim
  |cont=>obtain⟨_,_,_,q⟩:=z;exact q.elim
 obtain⟨ad,σ,sc,u5,C,a,H2,dx,rfl,x,_,C',O,u9,hw,hq⟩:=z;cases u9;have L:Ad X [] σ H sc:=u5.pins_of λp hp=>absurd hp (by simp)
 obtain⟨B,t,fl,kB,tB,i8⟩:=x.fly;have ff:=fl.2.2.1;have Z:B.get? a=none:=fl.2.1;have i9:=fl;rw[stk]at i9;refine wpAny_looks_onW u8 fr i9 λh4 i7 u7=>?_
 refine wpAny_landsW i7 λh5 D j8=>?_
 have up:=u7.trans j8;have I5:Ad X [] σ H2 { s' with heap:=h5}:=L.call' (s':= { s' with heap:=h5}) (ch:=[]) x.os (Nw x.un kB tB ff D.1 up) (i8.kept D.1) x.bare λb z=>absurd z (by simp)
 have hA:(X.A.mark (some (.ref a))).frames=some X.stack:=I.ok.frames;have k9:=I5.hot (A:=X.A.mark (some (.ref a))) hA;refine wpAny_handleBy_cons (codeAny_handlers_test ?_) (by intro q;cases q);refine EC (X:=X.hot (X.A.mark (some (.ref a)))) k9 gM hM ?_;have v3:ExcAt h5 a C:=by
  obtain⟨oe,vs,h1,h2,_⟩:=D.first
  exact⟨oe,h1,h2⟩
 refine Th I5.kIn v3 (j9 C O hw) hB hT ?_;refine codeAny_handlers_suite_as ?_;refine lands_againW D λh6 g o9=>?_
 have I6:Ad X [] σ H2 { s' with heap:=h6}:=L.call' (s':= { s' with heap:=h6}) (ch:=[]) x.os (Nw x.un kB tB ff g.1 (up.trans o9)) (i8.kept g.1) x.bare λb z=>absurd z (by simp)
 obtain⟨oe,vs,i4,l6,q9,_⟩:=g.first
 have j6:H2 a=none:=by
  cases q:H2 a with
  |none=>rfl
  |some o=>
   obtain⟨u,hu⟩:=ObjOk.there (i8 a o q);rw[Z]at hu;cases hu
 have l9:∀b o,sc.heap.get? b=some o->H b=none->b ∉ AG X.stack->b≠a:=λb o e n hb z=>by
  have:=kB b o e n hb;rw[z,Z]at this;cases this
 have i6:a ∉ AG X.stack:=λz=>by
  have f6:=g.2.2.1;rw[<-stk]at f6;obtain⟨_,o',j5,hd⟩:=f6.mem z;rw[i4]at j5;cases j5;exact hd vs q9
 have na:a≠X.env.locals:=λz=>i6 (by rw[stk,z];exact ZH.mpr ⟨X.env,.head _,fr⟩)
 have I7:Ad X [] σ (upd H2 a (EU a C)) { s' with heap:=h6}:=by
  refine I6.track na (λy c e z=>?_) (λp hp z=>?_) ?_ j6 ⟨⟨oe,i4,l6⟩,⟨oe,i4⟩,λh1 h2 ⟨o,e1,e2⟩ k=>⟨o,k o e1,e2⟩⟩
  .obtain⟨v,hv⟩:=L.cell y c e;obtain⟨o,ho,hd⟩:=hv;refine l9 c o ho (L.freeC y c e) (λhf=>?_) z;rcases YY.mp (L.stkSub c hf) with q | q
   .exact L.cne y c e q
   .exact absurd q (z ▸ λq=>i6 (by rw[stk];obtain⟨y',hy,q8⟩:=ZH.mp q;exact ZH.mpr ⟨y',.tail _ hy,q8⟩))
  .rw[l7]at hp;exact absurd hp (by simp)
  .cases q:X.s₀.heap.get? a with
   |none=>rfl
   |some o=>
    exfalso
    obtain⟨o1,e1⟩:=L.base.there a o q (by rw[j4];simp);obtain⟨o2,e2⟩:=tB a o1 e1 i6;rw[Z]at e2;cases e2
 have j0:X.N.Nodup:=by rw[hN];decide
 have hi:X.N[1]? =some ("_law_e" :Str):=by rw[hN];rfl
 have u4:=I7.hot (A:=X.A.mark (some (.ref a))) hA;refine GX (X:=X.hot (X.A.mark (some (.ref a)))) (v:= .ref a) u4 j0 hi (.inl k1) rfl (λs8 I8=>?_) (.inr k1);have G:PSs (X.hot (X.A.mark (some (.ref a)))) [.Return (some (.Call (.Name wn p7) [.Name "_law_e" p8] [] p9)) j7] _:=
  Ao (Av (Ti (hdb:=hdb) (X:=X.hot (X.A.mark (some (.ref a)))) Dw ((hr.q.mono hn).mark _) gw (Bc (FS (i:=1) hi (.inl k1) (by decide) (by decide)) BE)))
 have j3:1<σ.length:=by rw[L.len,hN];decide
 refine Z9 (G [] s8 (σ.set 1 (some (.ref a))) (upd H2 a (EU a C)) { nx:=λ_ _=>False,rt:=Q} I8 ?_) (λfl s9 z=>?_) λ_ _ z=>z.elim
 .refine⟨.ref a,bU j3,C,O,Af,hw,λH3 t3 e3 h3=>?_⟩;exact hq H3 t3 (λb o e=>e3 b o (by rw[Ap (λz=>by rw[z,j6]at e;cases e)];exact e)) h3
 .cases fl with
  |ret u=>
   obtain⟨v,σ',H',J,rv,q⟩:=z;have J':Ad X [] σ' H' s9:=Ad.cool I.ok J;exact Tg J' j0 hi k1 λv6 o8=>⟨v,_,H',o8,rv,q⟩
  |next=>obtain⟨_,_,_,q⟩:=z;exact q.elim
  |brk=>obtain⟨_,_,_,q⟩:=z;exact q.elim
  |cont=>obtain⟨_,_,_,q⟩:=z;exact q.elim
end
theorem Tl{D:Str}{P:yP}{w:yN}{K:Fgx}{mg:Str->yW}{base:Heap}{st:Stmt}{k n:Nat}{M:yR}{W:yR->Str->Prop}{i1 i2:Nat}{p1 p2 p3 p4 p5 p6 p7 p8 p9 i6 i4 i5:Pos}
  (F:Df K mg "_law_said" st ["_law_call_here"]) (S:Aw ["_law_call_here","_law_e"] ["_law_call_here"] (Am st)) (hb:Br st=[Nz D i1 i2 p1 p2 p3 p4 p5 p6 p7 p8 p9 i6 i4 i5])
  (k0:(Am st).names.lookup ("_law_call_here" :Str)=some .local) (k1:(Am st).names.lookup ("_law_e" :Str)=some .local) (gM:(Am st).names.lookup ("MainError" :Str)=some .globalImplicit) (gw:(Am st).names.lookup D=some .globalImplicit)
  (hM:mg "MainError"=some (.ref M)) (hB:PySem.W.mroIn K M (.type "BaseException")=some true) (hT:PySem.W.typeIn K (.ref M)=some (.type "type")) (G:∀C w,W C w->PySem.W.mroIn K C (.ref M)=some true)
  (Dw:Fs P w K mg base n D ["_law_e"] (Fr W)) (hn:n<=k) (hdb:autoParam ((D==Str.ofString "__debug__")=false) o3):HN P w K mg base (k+1) "_law_said" ["_law_call_here"] (EV P w K mg base k W):=by
 obtain⟨f,fd,hF,hm,L⟩:=F.ex;have kp:=hF.kp;obtain⟨oc,od,kV,i9,pm,an,dl,ct,i8,rfl,lk,O⟩:=hF.ex;refine⟨f,_,λA outer s H args us vs Q hr e0 Z r c=>?_,hm,kp,L⟩;have hl:∃g,vs=[.ref g]:=by
  cases c;exact⟨_,rfl⟩
 obtain⟨g,rfl⟩:=hl;refine Ny lk O S hr.q e0 Z r rfl λs1 I=>?_
 have eA:({ A with handled:=none}:yO)=A:=by
  obtain⟨h,d,fs,gs,u⟩:=A;have:h=none:=hr.hd;subst this
  rfl
 rw[eA]at I;rw[hb];have i7:=hr.deeper (envOfC "_law_said" (Am st) s.heap.objs.size f dl);have I2:Ad (B0 CX0 P w K mg base ["_law_call_here","_law_e"] "_law_said" (Am st) f dl A outer s H E0) [] [some (.ref g),none] H s1:=I;refine Z9 (Tk (X:=B0 CX0 P w K mg base ["_law_call_here","_law_e"] "_law_said" (Am st) f dl A outer s H E0) (k:=k) rfl rfl rfl rfl rfl rfl rfl k0 k1 gM gw hM hB hT G Dw hdb i7 hn c I2) (λfl s' z=>?_) λ_ _ z=>z
 cases fl with
 |ret u=>
  obtain⟨v,σ,H',J,rv,q⟩:=z;exact⟨v,H',J.os,J.bare,J.base,J.hok,rv,q⟩
 |next=>exact z.elim
 |brk=>exact z.elim
 |cont=>exact z.elim
def HP(c:yR)(q:Str):HO:= .ext λh=>h.CodeRec (.ref c) q
def TabIn(H:Hp)(P:yR)(q:Str):Prop:=∃D:Array yU,H P=some (.tbl D)/\TriplesOk D.toList/\∀g v,codeAmong g D.toList=some v->∃c,v= .ref c/\H c=some (HP c q)
theorem Tm{l:yX}{a b:Nat}{c:yU}(h:TriplesOk l):TriplesOk (l++[rawInt a,rawInt b,c]):=by
 fun_induction TriplesOk l with
 |case1=>exact trivial
 |case2 x t y t' z BZ ih=>exact ih h
 |case3=>exact h.elim
theorem Tn{l:yX}{a b:Nat}{c:yU}{g:Pos}{v:yU}(h:TriplesOk l)(e:codeAmong g (l++[rawInt a,rawInt b,c])=some v):codeAmong g l=some v\/v=c:=by
 fun_induction TriplesOk l with
 |case1=>
  have D:codeAmong g [rawInt a,rawInt b,c]=some v:=e;unfold codeAmong rawInt at D;dsimp only at D;split at D
  .exact .inr (Y9 D).symm
  .unfold codeAmong at D;cases D
 |case2 x t y t' z BZ ih=>
  rw[dZ,dZ,dZ]at e;unfold codeAmong at e ⊢;split at e
  .rename_i q;rw[YR q];exact .inl e
  .rename_i q;rw[YN q];exact ih h e
 |case3=>exact h.elim
section
variable{X:Cx}{ad:List (yR × Obj)}{σ:St}{H:Hp}{s:yS}{scope:Scope}{N':List Str}{cap:List (Option Nat)}{P c:yR}{ql:Str}{params:Arguments}{body:yL}{pos:Pos}
theorem To(I:Ad X ad σ H s)(hT:TabIn H P ql)(O:X.env.code= .ref c)(hC:PySem.W.CodeHd X.base c P)(q8:X.base.BuiltinsAt X.mg P)(B:AJ X.env.scope X.N scope N' cap)
  (hq:X.env.qual++ "<lambda>"=ql) (l7:defaultsOf params X.env=([],[])) {Q:VSP}{E:VSP}
  (h : ∀ s1 J f D pm G, Ad X ad σ J s1 -> TabIn J P ql -> (∀ b o, H b = some o -> b ≠ P -> J b = some o) -> J f = none -> f ∉ AG X.stack ->
   s1.heap.get? f=some (PySem.W.kla_obj "<lambda>" ql params body scope (A9 X.env.cells scope.names []) pm D G)->J D=some (HP D ql)->Q (.ref f) s1):
  wpAny (model X.prog X.w) X.A (eval (.Lambda params body scope pos) X.env) Q E s:=by
 obtain⟨ps,hP,ht,j4⟩:=hT;have i5:s.heap.get? P=some (PySem.W.tabObj ps):=I.hok P _ hP;have j9:closureFor scope X.env=pure (A9 X.env.cells scope.names []):=JE λy hy hf=>I.ok.has y.1 (B.free y hy hf)
 have hg:s.heap.Ns mainGlobals X.mg:=I.mod.glob.keeps I.bk;have l9:=hC.keeps I.bk;have q9:mainGlobals≠P:=λq=>by
  obtain⟨o,es,ep,e,hd,_⟩:=hg;rw[q,i5]at e;cases e;cases hd
 obtain⟨bm,ob,b1,b2,b3,b4,b5,b6⟩:=q8;have i8:s.heap.BuiltinsAt X.mg P:=⟨bm,ob,b1,b2,b3,b4,I.bk _ _ b5,b6⟩;have i9:∀b∈AG X.stack,b<s.heap.objs.size:=λb hb=>by
  obtain⟨_,o,ho,_⟩:=I.stack.mem hb;exact Y8 ho
 refine PySem.W.kla_eval l7 ?_;rw[hq];cases hf:codeAmong pos ps.toList with
 |some cv=>
  obtain⟨D,rfl,o9⟩:=j4 pos cv hf;refine PySem.W.kla_makeFunctionHit j9 I.ok.glob hg O l9 i5 ht hf i8 λG h' tk hk l6=>?_
  have r8:∀b o,s.heap.get? b=some o->(h'.push (PySem.W.kla_obj "<lambda>" ql params body scope (A9 X.env.cells scope.names []) ((X.mg "__name__").getD .none) D G)).get? b=some o:=λb o e=>Y2 _ (hk b o e)
  refine h _ H h'.objs.size D _ G (I.kept (t':=tk) r8) ⟨ps,hP,ht,j4⟩ (λb o e _=>e) (I.hok.fresh l6) (λz=>?_) (YL _ rfl) o9;exact absurd (YQ (i9 _ z) l6) (YX _)
 |none=>
  refine PySem.W.kla_makeFunction j9 I.ok.glob hg O l9 i5 ht hf q9 i8 λD G h' tk hx L k9 j3 j8=>?_
  have Z:s.heap.objs.size<=h'.objs.size:=ZO (aD L k9);have i6:∀b o,b≠P->s.heap.get? b=some o->(h'.push (PySem.W.kla_obj "<lambda>" ql params body scope (A9 X.env.cells scope.names []) ((X.mg "__name__").getD .none) D G)).get? b=some o:=λb o n e=>Y2 _ (hx b o n e)
  have j0:P<s.heap.objs.size:=Y8 i5;have cP:D≠P:=λz=>by rw[z]at L;exact absurd (YQ j0 L) (YX _)
  have o8:H D=none:=I.hok.fresh L;have ne:∀b o,H b=some o->b≠D:=λb o e z=>by rw[z,o8]at e;cases e
  let ps':Array yU:=ps++ #[rawInt pos.line,rawInt pos.col,.ref D]
  let J:Hp:=upd (upd H P (.tbl ps')) D (HP D ql)
  have j7:J D=some (HP D ql):=Af;have j6:J P=some (.tbl ps'):=by show upd _ D _ P=_;rw[Ap (Zo cP),Af]
  have i4:∀b,b≠P->b≠D->J b=H b:=λb n m=>by show upd _ D _ b=_;rw[Ap m,Ap n]
  have g:∀b o,H b=some o->b≠P->J b=some o:=λb o e n=>by rw[i4 b n (ne b o e)];exact e
  have un:Un (AG X.stack) [] H J s.heap (h'.push (PySem.W.kla_obj "<lambda>" ql params body scope (A9 X.env.cells scope.names []) ((X.mg "__name__").getD .none) D G)):=by
   have nP:∀b,H b=none->b≠P:=λb n z=>by rw[z,hP]at n;cases n
   have u4:∀b o,s.heap.get? b=some o->b≠D:=λb o e z=>by have:=Y8 e;rw[z]at this;exact absurd (YQ this L) (YX _)
   refine⟨λb o e n _ _=>i6 b o (nP b n) e,λb o e n _ _=>⟨o.slots,i6 b o (nP b n) e⟩,λb o e n _=>by rw[i4 b (nP b n) (u4 b o e)];exact n,λb o e _=>?_,λb xs q=>g b _ q (λz=>by rw[z,hP]at q;cases q),
    λb o' xs q=>g b _ q (λz=>by rw[z,hP]at q;cases q),λb qs q=>?_⟩
   .by_cases z:b=P
    .subst z;exact⟨_,Y2 _ j8⟩
    .exact⟨o,i6 b o z e⟩
   .by_cases z:b=P
    .subst z;rw[hP]at q;cases q;exact⟨_,j6⟩
    .exact⟨#[],by rw[g b _ q z];simp⟩
  have hok:HOk X.prog X.w J (h'.push (PySem.W.kla_obj "<lambda>" ql params body scope (A9 X.env.cells scope.names []) ((X.mg "__name__").getD .none) D G)):=λb o e=>by
   by_cases z:b=P
   .subst z;rw[j6]at e;cases e;exact Y2 _ j8
   .by_cases z2:b=D
    .subst z2;rw [j7] at e;cases e;refine⟨j3.push _,?_,λg1 g2 x k=>?_⟩
     .obtain⟨c2,oc,vs,t,e2,j5,_⟩:=j3;cases e2;exact⟨oc,Y2 _ j5⟩
     .obtain⟨c2,oc,vs,t,e2,j5,r⟩:=x;cases e2;exact⟨_,oc,vs,t,rfl,k oc j5,r⟩
    .rw [i4 b z z2] at e;refine(I.hok b o e).stay (λd u hd q=>i6 d u (λy=>?_) q) (λd q=>g d _ q λy=>by rw [y,hP] at q;cases q) λd xs q=>g d _ q λy=>by rw [y,hP] at q;cases q
     rcases hd with hd | hd
     .exact z (hd ▸ y)
     .rw[y,hP]at hd;cases hd
  have I1:Ad X ad σ J { s with heap:=h'.push (PySem.W.kla_obj "<lambda>" ql params body scope (A9 X.env.cells scope.names []) ((X.mg "__name__").getD .none) D G),toks:=tk}:=
   I.call' (s':= { s with heap:=h'.push (PySem.W.kla_obj "<lambda>" ql params body scope (A9 X.env.cells scope.names []) ((X.mg "__name__").getD .none) D G),toks:=tk}) (ch:=[]) rfl un hok I.bare λb z=>absurd z (by simp)
  refine h _ J h'.objs.size D _ G I1 ⟨ps',j6,?_,λi7 v e=>?_⟩ g ?_ (λz=>?_) (YL _ rfl) j7
  .show TriplesOk (ps++ #[rawInt pos.line,rawInt pos.col,.ref D]).toList;rw[bB];exact Tm ht
  .have e':codeAmong i7 (ps++ #[rawInt pos.line,rawInt pos.col,.ref D]).toList=some v:=e;rw [bB] at e';rcases Tn ht e' with q | q
   .obtain⟨c2,r1,r2⟩:=j4 i7 v q;exact⟨c2,r1,g c2 _ r2 λy=>by rw[y,hP]at r2;cases r2⟩
   .exact⟨D,q,j7⟩
  .rw[i4 _ (ZY (YQ j0 Z)) (ZY k9)];exact I.hok.fresh Z
  .exact absurd (YQ (i9 _ z) Z) (YX _)
end
section
variable{X:Cx}{scope:Scope}{N':List Str}{cap:List (Option Nat)}{P c:yR}{ql:Str}{params:Arguments}{body:yL}{lpos p pos:Pos}{W:yR -> Str -> Prop}{k:Nat}{te:XK -> TE}
def Tp(P:yR)(g:Str)(W:yR->Str->Prop)(cap:List (Option Nat))(G:XK->TE):TE:=fun D H Q=>TabIn H P g/\∀c,TabIn c P g->(∀b o,H b=some o->b≠P->c b=some o)->G (Gi W Q) (AR cap D) c (HM Q)
theorem Kg(F:HN X.prog X.w X.K X.mg X.base (k+1) "_law_said" ["_law_call_here"] (EV X.prog X.w X.K X.mg X.base k W))(hr:AQ (k+1) X.A)(hg:Gl X "_law_said")(j0:∀x,X.fn x=true)(G:X.env.code= .ref c)(hC:PySem.W.CodeHd X.base c P)(j4:X.base.BuiltinsAt X.mg P)
  (B:AJ X.env.scope X.N scope N' cap) (nc:∀x∈scope.names,x.2≠ .cell) (co:scope.isCoroutine=false) (gen:scope.isGenerator=false) (O:X.env.qual++ "<lambda>"=ql) (i4:defaultsOf params X.env=([],[]))
  (J:∀i7 pm Z i6,bindArgs (PySem.W.kla_fn "<lambda>" ql params body scope i7 pm (.ref Z) i6) ⟨[],[]⟩=pure [])
  (L:∀(A:yO) (outer:List Env) (s:yS) (H:Hp) (f Z:yR) (E:XK),AQ k A->PE (Gh X.prog X.w X.K X.mg X.base N' ql scope f (.ref Z) (A9 X.env.cells scope.names []) A outer s H E) body (te E))
  (he:autoParam (starEach [.Lambda params body scope lpos] X.env=(false,eval (.Lambda params body scope lpos) X.env)::starEach [] X.env) j2) (j3:autoParam ((backTo pos (starEach [] X.env)).any (·.1)=false) j2):
  PE X (.Call (.Name "_law_said" p) [.Lambda params body scope lpos] [] pos) (Tp P ql W cap te):=by
 intro ad s σ H Q I ⟨hT,hqq⟩;obtain⟨f0,fd,run,hm,hk,hb⟩:=F.ex;refine ZN (EC I hg hm ?_ (by decide));refine PySem.W.callWith_K (h₀:=X.base) I.ok.mod.kin hk (spliced_more (To I hT G hC j4 B O i4 λs1 H1 f Z pm i6 g T1 k1 n1 n2 o1 c1=>spliced_none ⟨g.kIn,?_⟩)) he j3;have i9:=hb s1 [.ref f] g.kIn rfl;refine cC (aC (run X.A X.stack s1 H1 ⟨[.ref f],[]⟩ [.ref f] [.ref f] Q hr g.env0 i9 (.cons rfl .nil) ?_) λr s' O=>?_)
 .refine⟨⟨_,_,_,_,o1⟩,n1,n2,λA' D s' i5 e' un=>?_⟩;refine Tf g B nc co gen i5 e' (λx cc v e ic=>?_) (un.keep f _ o1 n1 n2 (by simp)) (e'.hok Z _ c1).1 (J _ _ _ _) (L A' D s' H1 f Z _ i5) (hqq H1 T1 k1);obtain⟨o,ho,hd⟩:=ic;refine⟨o,un.keep cc o ho (g.freeC x cc e) (λz=>?_) (by simp),hd⟩;rcases YY.mp (g.stkSub cc z) with q | q
  .exact g.cne x cc e q
  .obtain⟨_,o',i8,_⟩:=g.ok.funs.mem q;exact absurd (YQ (Y8 i8) (g.ok.cab x cc (j0 x) e)) (YX _)
 .cases r with
  |error e=>exact O.elim
  |ok fl=>
   cases fl with
   |ret u=>exact g.after O
   |next=>exact False.elim O
   |brk=>exact False.elim O
   |cont=>exact False.elim O
end
theorem Tq(a b:Bool):MeetsSeq.EqGives (.bool a) (.bool b) (a==b):=λprog w A E s Q h=>PySem.SeqAt.EqAt.bool_bool a b prog w E Q h
def Ft:yU->Bool
 |.bool b=>b
 |_=>false
theorem Kh:∀ {bs:List Bool}{us:yX},At (bs.map V.bl) us->us=bs.map Value.bool
 |[],_,h=>by cases h;rfl
 |b::bs,_,h=>by
  cases h with
  |cons r t=>
   have:=Kh t;subst this;have c:_=Value.bool b:=r;rw[c]
   rfl
theorem NA{bs:List Bool}:∀y,y∈(bs.map Value.bool).toArray->MeetsSeq.EqGives y (.bool true) (Ft y):=λy g=>by
 have c:y∈bs.map Value.bool:=by simpa using g
 obtain⟨b,_,rfl⟩:=Z8.mp c;have:=Tq b true;cases b<;>exact this
section
variable{X:Cx}
def Tr:V->List V->Hp->VK->Prop:=λx c H Q=>∃(l:yR) (bs:List Bool),x= .ref l/\c=[.bl true]/\H l=some (.lst (bs.map V.bl))/\Q (.int (bs.count true:Nat)) H
theorem Tt:Hc X "list.count" Tr:=by
 intro ad s σ H x vs v us Q I O J h;obtain⟨l,bs,rfl,rfl,Z,q⟩:=h;cases O;obtain⟨u,rfl,ru⟩:=J.one;have c:u=Value.bool true:=ru;subst c;obtain⟨i4,r,pl,hz⟩:=I.list (Al.of Z);have e:=Kh r;subst e;obtain⟨⟨cls,dd,data,G⟩,g,D,n,hd⟩:=id pl.isList;simp only at D hd;subst D hd;refine aA PySem.F.slot_list_count ⟨_,g,rfl⟩ PySem.F.entry_list_count (PySem.F.args_list_count_2 _ _) (PySem.SeqAt.list_countAt l (bs.map Value.bool).toArray n dd G (.bool true) Ft) ⟨g,λy hy=>(NA y hy).at _ _,?_⟩;have L:(bs.map Value.bool).toArray.toList.countP Ft=bs.count true:=by
  rw[show(bs.map Value.bool).toArray.toList=bs.map Value.bool from rfl,List.countP_map];unfold List.count
  congr 1
  funext b
  cases b<;>rfl
 rw[L];exact⟨.int (bs.count true:Nat),H,I.tok _,⟨_,rfl⟩,q⟩
def Tu:V->List V->Hp->VK->Prop:=λx c H Q=>∃(l:yR) (bs:List Bool) (j:Nat),x= .ref l/\c=[.bl true]/\H l=some (.lst (bs.map V.bl))/\bs.length<=1000/\bs[j]? =some true/\(∀m,m<j->bs[m]? =some false)/\Q (.int (j:Nat)) H
theorem Tv:Hc X "list.index" Tu:=by
 intro ad s σ H x vs v us Q I rx rv h;obtain⟨l,bs,j,rfl,rfl,hH,hs,O,L,q⟩:=h;cases rx;obtain⟨u,rfl,ru⟩:=rv.one;have c:u=Value.bool true:=ru;subst c;obtain⟨_,i4,n,r,Z⟩:=(show ObjOk X.prog X.w H s.heap l (.lst (bs.map V.bl)) from I.hok l _ hH);have e:=Kh r;subst e;have J:j<bs.length:=(Y3.mp O).1;have g:bs[j]=true:=(Y3.mp O).2;refine aA PySem.F.slot_list_index ⟨_,Z,rfl⟩ PySem.F.entry_list_index (PySem.F.args_list_index_2 _ _) (MeetsSeq.list_index l (bs.map Value.bool).toArray n (.bool true) Ft NA j (by simpa using J) (by lia) (by simp[Ft,g]) (λm hm D=>?_)) ⟨Z,?_⟩
 .have:=L m D;have G:bs[m]'(by simpa using hm)=false:=(Y3.mp this).2;simp[Ft,G]
 .exact⟨.int (j:Nat),H,I.tok _,⟨_,rfl⟩,q⟩
def Ty(K:Fgx):List V->Hp->VK->Prop:=λc H Q=>∃(e C:yR) (v:V) (b:Bool),c=[.ref e,v]/\H e=some (EU e C)/\ET K C/\(∀u,Az v u->PySem.W.kitOne K (.ref C) u=some b)/\Q (.bl b) H
theorem BU(K:Fgx)(G:autoParam (X.K=K) j2):BJ X (.builtin "isinstance") (Ty K):=by
 subst G;intro ad s σ H vs us Q I J h;obtain⟨e,C,v,b,rfl,D,O,k,q⟩:=h;obtain⟨Z,g,rfl,L,r2⟩:=J.two;have c:Z=Value.ref e:=L;subst c;exact Ta I D O (k g r2) λtk=>⟨.bl b,H,I.tok _,rfl,q⟩
end
def Tz:List Str:=["plant","story","firing","hour","boiler","prices","way","set","tanks","pump","feeding","readings","start","shifts","book","amount","deed","line","text"]
def C7(K:Fgx)(M:yR)(ds:List yR)(i:Nat):Bool:=
 (PySem.W.findIn K (.ref (ds.getD i 0)) "__getattribute__"==some (some (.builtin "BaseException.__getattribute__"))) &&(PySem.W.findIn K (.ref (ds.getD i 0)) "__getattr__"==some none) &&(PySem.W.clsIn K (ds.getD i 0)).isSome &&
 (PySem.W.findIn K (.ref (ds.getD i 0)) "__class__"==some (some (.builtin "object.__class__"))) &&(PySem.W.specialIn K (.builtin "object.__class__") "__get__"==some (some (.builtin "getset_descriptor.__get__"))) &&(PySem.W.takesIn K (.builtin "object.__class__")==some true) &&
 (PySem.W.mroIn K (ds.getD i 0) (.type "object")==some true) &&(PySem.W.mroIn K (ds.getD i 0) (.type "BaseException")==some true) &&(PySem.W.mroIn K (ds.getD i 0) (.ref M)==some true) &&
 ((List.range 19).all λj=>PySem.W.kitOne K (.ref (ds.getD i 0)) (.ref (ds.getD j 0))==some (j==i)) &&(PySem.W.kitOne K (.ref (ds.getD i 0)) (.type "ValueError")==some true)
structure Wd(K:Fgx)(M:yR)(ds:List yR)(C:yR)(word:Str):Prop where
 ex:∃i,i<19/\C=ds.getD i 0/\Tz[i]? =some word/\C7 K M ds i=true
section
variable{K:Fgx}{M:yR}{ds:List yR}{i:Nat}
theorem NB(h:C7 K M ds i=true):ET K (ds.getD i 0)/\PySem.W.mroIn K (ds.getD i 0) (.ref M)=some true/\(∀j,j<19->PySem.W.kitOne K (.ref (ds.getD i 0)) (.ref (ds.getD j 0))=some (j==i))/\PySem.W.kitOne K (.ref (ds.getD i 0)) (.type "ValueError")=some true:=by
 unfold C7 at h;simp only[Zj,ac]at h;obtain⟨⟨⟨⟨⟨⟨⟨⟨⟨⟨h1,G⟩,I⟩,h4⟩,J⟩,L⟩,D⟩,O⟩,h9⟩,g⟩,c⟩:=h;refine⟨⟨h1,G,I,h4,J,L,D,O⟩,h9,λj Z=>?_,c⟩;have:=Zt.mp g j (ZM.mpr Z);exact ac.mp this
end
theorem TC{P:yP}{w:yN}{K:Fgx}{mg mb:Str->yW}{CX:CD}{k:Nat}{fa a c T:yR}{fd:FuncData}{x:Str}{sp:Sp}{g:yS}{vs:yX}{ns:yV}
  (KX:K.In g.heap) (j8:g.heap.Ns mainGlobals mg) (G:g.heap.Ns builtinsNs mb) (o8:∀x:Str,x≠ "__name__" ->mb x=bootBuiltins x) (i6:g.heap.NoLimit) (hg:g.gens= #[])
  (ha:g.heap.get? a=some { cls:= .type "list",data:= .seq vs.toArray}) (hi:IntsAre vs ns) (hl:ns.length<=sizeLine) (hr:AQ k callerA)
  (t1:PySem.W.CodeHd g.heap c T) (t2:g.heap.get? T=some (PySem.W.tabObj #[])) (t3:PySem.W.noTabs K=true) (t4:g.heap.BuiltinsAt mg T)
  (F:∀base:Heap,K.In base->base.Ns mainGlobals mg->PySem.W.CodeHd base c T->base.BuiltinsAt mg T->BV P w K mg base CX k fa fd [x] sp) (i9:∀(s:yS) (u:yU),BindsTo s fd ⟨[u],[]⟩ [(x,u)])
  (o9:∀H:Hp,H T=some (.tbl #[])->Al K H a (ns.map V.int)->sp [.ref a] H (λv _=>v= .bl true) λ_ _ _=>False)
  (l6:∀H e s',CX [] H g (λ_ _ _=>False) e s'->False):
  codeAny (model P w) callerA (.call (.ref fa) ⟨[.ref a],[]⟩) (λr s'=>r= .ok (.ret (.bool true))/\OldK g.heap s'.heap/\s'.os=g.os/\AllBare s'.gens) g:=by
 have rv:=L7 hi;have j5:=hi.length;have aT:a≠T:=λz=>by rw[z,t2]at ha;cases ha
 have kT:K.lookup T=none:=by
  cases q:K.lookup T with
  |none=>rfl
  |some o=>
   have e:=KX T o q;rw[t2]at e;cases e;have h2:=Zt.mp t3 _ (PySem.W.mem_of_lookupK q);exact absurd (show false=true from h2) YT
 have q8:T≠cStatics:=λz=>by
  obtain⟨mc,⟨o,es,ep,e,hd,_⟩,_⟩:=i6;rw[<-z,t2]at e;cases e;cases hd
 have i7:∀H:Hp,H T=some (.tbl #[])->(∀b,b≠T->H b=none\/ ∃o xs,H b=some (.frz o (.lst xs)))->Al K H a (ns.map V.int)->HOk P w H g.heap->(∀b,H b≠none->b=a\/b=T)->(H a≠none->K.lookup a=none)->
   codeAny (model P w) callerA (.call (.ref fa) ⟨[.ref a],[]⟩) (λr s'=>r= .ok (.ret (.bool true))/\OldK g.heap s'.heap/\s'.os=g.os/\AllBare s'.gens) g:=by
  intro H j6 hO hS hok hA hK;have D:∀ {b:yR}{o:Obj},g.heap.get? b=some o->H b=none->(Dd g.heap H).get? b=some o:=λe n=>PC e n
  have j3:∀ {b:yR}{o:Obj},g.heap.get? b=some o->(∀xs n,o.data≠ .seq xs n)->o.cls≠ .none->H b=none:=λ{b o} e d1 d2=>by
   cases q:H b with
   |none=>rfl
   |some u=>
    rcases hA b (by rw[q];simp) with L | L
    .subst L;rw[ha]at e;cases e;exact absurd rfl (d1 _ _)
    .subst L;rw[t2]at e;cases e;exact absurd rfl d2
  have l9:∀ {b:yR}{o:Obj}{es:Array DictEntry}{ep:Nat},g.heap.get? b=some o->o.data= .dict es ep->H b=none:=λ{b o es ep} e d=>by
   cases q:H b with
   |none=>rfl
   |some u=>
    rcases hA b (by rw[q];simp) with L | L
    .subst L;rw[ha]at e;cases e;have d':Data.seq vs.toArray _=Data.dict es ep:=d;cases d'
    .subst L;rw[t2]at e;cases e;have d':Data.fields #[]=Data.dict es ep:=d;cases d'
  have i4:∀ {b:yR}{m:Str->yW},g.heap.Ns b m->(Dd g.heap H).Ns b m:=λ{b m} ⟨o,es,ep,e,d,r⟩=>⟨o,es,ep,D e (l9 e d),d,r⟩
  have j4:K.In (Dd g.heap H):=λb o e=>D (KX b o e) (by
   cases q:H b with
   |none=>rfl
   |some u=>
    rcases hA b (by rw[q];simp) with L | L
    .subst L;rw[hK (by rw[q];simp)]at e;cases e
    .subst L;rw[kT]at e;cases e)
  have hM:Mod K mg (Dd g.heap H):=⟨j4,i4 j8,⟨mb,i4 G,o8⟩,let ⟨mc,h1,h2⟩:=i6;⟨mc,i4 h1,h2⟩⟩;have e0:CF P w K mg (Dd g.heap H) callerA [] g H:=⟨rfl,hM,λb o e=>PD e,eX (Pz _ _),trivial,λb G=>absurd (show b∈([]:List yR) from G) (by simp),hok,.of_eq hg⟩;have k9:PySem.W.CodeHd (Dd g.heap H) c T:=by
   obtain⟨o,j0,O,tf,I,tg,i8,Z,tt,e1,e2,e3,r⟩:=t1;exact⟨o,j0,O,tf,I,tg,i8,Z,tt,D e1 (j3 e1 (λxs n q=>by rw[e3]at q;cases q) (λq=>by rw[e2]at q;cases q)),e2,e3,r⟩
  have l7:(Dd g.heap H).BuiltinsAt mg T:=by
   obtain⟨bm,ob,b1,b2,b3,b4,b5,b6,b7,b8⟩:=t4;exact⟨bm,ob,b1,b2,b3,b4,D b5 (j3 b5 (λxs n q=>by rw[b8]at q;cases q) (λq=>by rw[b6]at q;cases q)),b6,b7,b8⟩
  refine aC ((F _ j4 (i4 j8) k9 l7).run callerA [] g H ⟨[.ref a],[]⟩ [.ref a] [.ref a] _ _ hr e0 (i9 g (.ref a)) (.cons rfl .nil) (o9 H j6 hS)) λr s' h=>?_
  cases r with
  |error e=>exact(l6 H e s' h).elim
  |ok fl=>
   cases fl with
   |next=>exact False.elim h
   |brk=>exact False.elim h
   |cont=>exact False.elim h
   |ret u=>
    obtain⟨v,H',os,bare,un,i5,r',q⟩:=h;have q':v= .bl true:=q;subst q';obtain rfl:u=Value.bool true:=r';have J:∀b o,b≠T->g.heap.get? b=some o->s'.heap.get? b=some o:=λb o n e=>by
     cases q:H b with
     |none=>exact un.keep b o e q (by intro z;exact absurd (show b∈([]:List yR) from z) (by simp)) (by simp)
     |some u=>
      rcases hO b n with z | ⟨ob,xs,z⟩
      .rw[q]at z;cases z
      .have z2:=un.frzs b ob _ z;obtain⟨e1,_⟩:=hok b _ z;obtain⟨e2,_⟩:=i5 b _ z2;rw[e]at e1;cases e1;exact e2
    obtain⟨more,eT⟩:=un.tbls T #[] j6;have oT:s'.heap.get? T=some (PySem.W.tabObj (#[]++more)):=i5 T _ eT;have cT:PySem.W.CodeHd s'.heap c T:=by
     obtain⟨o,j0,O,tf,I,tg,i8,Z,tt,e1,e2,e3,e4,e5,e6,e7,e8,e9,j7⟩:=t1;exact⟨o,j0,O,tf,I,tg,i8,Z,tt,J c o j7 e1,e2,e3,e4,e5,e6,e7,e8,e9,j7⟩
    exact⟨rfl,OldK.step_table (OldK.refl _) (t1.tab t2) (t1.tab t2) (cT.tab oT) (λb o n e=>J b o n e) q8,os,bare⟩
 cases hk:K.lookup a with
 |some o=>
  have e:=KX a o hk;rw[ha]at e;cases e;refine i7 (λb=>if b=T then some (.tbl #[]) else none) (YR rfl) (λb n=> .inl (YN n)) (.inr ⟨_,vs.toArray,_,hk,rfl,rfl,rfl,by rw[Z2,j5];exact hl,by simpa using rv⟩) (λb u z=>?_) (λb z=>?_) λz=>absurd (YN aT) z
  .by_cases G:b=T
   .have z':=(YR G).symm.trans z;cases z';subst G;exact t2
   .have z':=(YN G).symm.trans z;cases z'
  .by_cases G:b=T
   .exact .inr G
   .exact absurd (YN G) z
 |none=>
  have q9:(if a=T then some (HO.tbl #[]) else if a=a then some (HO.frz { cls:= .type "list",data:= .seq vs.toArray} (.lst (ns.map V.int))) else none)=some (HO.frz { cls:= .type "list",data:= .seq vs.toArray} (.lst (ns.map V.int))):=by rw[YN aT,YR rfl]
  refine i7 (λb=>if b=T then some (.tbl #[]) else if b=a then some (.frz { cls:= .type "list",data:= .seq vs.toArray} (.lst (ns.map V.int))) else none) (YR rfl) (λb n=>?_) (.inl (.inr ⟨{ cls:= .type "list",data:= .seq vs.toArray},q9⟩)) (λb u z=>?_) (λb z=>?_) λ_=>hk
  .by_cases G:b=a
   .exact .inr ⟨_,_,by rw[YN n,YR G]⟩
   .exact .inl (by rw[YN n,YN G])
  .dsimp only at z
   by_cases G:b=T
   .rw[YR G]at z;cases z;subst G;exact t2
   .rw [YN G] at z
    by_cases G:b=a
    .rw[YR G]at z;cases z;subst G;exact⟨ha,by rw[Y0];exact hl,vs,_,rv,ha⟩
    .rw[YN G]at z;cases z
  .by_cases G:b=T
   .exact .inr G
   .by_cases j9:b=a
    .exact .inl j9
    .exact absurd (by show(if b=T then _ else _)=none;rw[YN G,YN j9]) z
theorem walk_ofT{l:PySem.W.OpenLaw}{n k:Nat}{q:yP}{J:List Str}{XP:(Str->yW)->Heap->Prop}{YP:yN->Heap->Prop}{d dT:DefRec}{K:Params->Fgx}{CX:yN->CD}{sp:Fgx->yR->Sp}{x xT:Str}
  (hn:l.most=some n) (j3:n<=sizeLine) (i9:d.params.defaults=[]) (hr:AQ k callerA)
  (hY:∀(w:yN) (h:Heap),YP w h->(K w.params).In h) (i4:(recsOf q).find? (λe=>e.name==xT)=some dT) (O:∀w:yN,(PySem.W.tabIn (K w.params) xT).isSome=true) (i8:∀w:yN,PySem.W.noTabs (K w.params)=true)
  (F : ∀ (w : yN) (mg : Str -> yW) (fa : yR) (h : Heap) (c T : yR), (K w.params).In h -> h.Ns mainGlobals mg -> mg d.name = some (.ref fa) -> PySem.W.tabIn (K w.params) xT = some (c, T) ->
   ∃fd:FuncData,(∀(s:yS) (u:yU),BindsTo s fd ⟨[u],[]⟩ [(x,u)])/\
    ∀base:Heap,(K w.params).In base->base.Ns mainGlobals mg->PySem.W.CodeHd base c T->base.BuiltinsAt mg T->BV l.prog w (K w.params) mg base (CX w) k fa fd [x] (sp (K w.params) T))
  (j4:∀(K:Fgx) (H:Hp) (a T:yR) (ns:yV),ns.length<=n->H T=some (.tbl #[])->Al K H a (ns.map V.int)->sp K T [.ref a] H (λv _=>v= .bl true) λ_ _ _=>False)
  (i7:∀(w:yN) (H:Hp) (s:yS) (e:yU) (s':yS),CX w [] H s (λ_ _ _=>False) e s'->False):
  PySem.W.WalkO q J XP YP l.row.toRowW d [] (λf vs=>PySem.call f vs):=by
 refine Att.attach_call hn i9 λw s₀ I mg mb fa o pm cd j6 a vs ns G Y ho hd j5 i6 i5 L D hg=>?_
 have KX:=hY w _ Y;obtain⟨⟨c,T⟩,ht⟩:=aO.mp (O w);obtain⟨t1,t2⟩:=PySem.W.tab_of G.T KX i4 ht;obtain⟨fd,hb,hF⟩:=F w mg fa _ c T KX G.T.g i6 ht;have t4:I.heap.BuiltinsAt mg T:=by
  obtain⟨bm,ob,b1,b2,Z,b4,b5,b6⟩:=G.T.bmain;refine⟨bm,ob,b1,b2,λz=>?_,λz=>?_,Z,b4,b5,b6⟩
  .obtain⟨o,es,ep,e,j0,_⟩:=G.T.g;rw[z,e]at Z;cases Z;rw[j0]at b6;cases b6
  .rw[z,t2]at Z;cases Z;cases b4
 exact TC KX G.T.g G.T.b G.T.builtins G.T.nolimit hg i5 L (YV D j3) hr t1 t2 (i8 w) t4 hF hb (λH h1 h2=>j4 (K w.params) H a T ns D h1 h2) λH e s'=>i7 w H I e s'
theorem Ki{X:Cx}{e:yL}:PE X e (λ_ _ _=>False):=λ_ _ _ _ _ _ h=>h.elim
def kindWords:List Str:=["plant","story","firing","hour","boiler","prices","way","set","tanks","pump","feeding","readings","start","shifts","book","amount","no deed","line","text"]
structure WdK(K:Fgx)(M:yR)(ds:List yR)(C:yR)(word:Str):Prop where
 ex:∃i,i<18/\C=ds.getD i 0/\kindWords[i]? =some word/\C7 K M ds i=true
theorem WdK.mro{K:Fgx}{M:yR}{ds:List yR}{C:yR}{c:Str}(h:WdK K M ds C c):PySem.W.mroIn K C (.ref M)=some true:=by
 obtain⟨i,_,rfl,_,q⟩:=h.ex;exact(NB q).2.1
theorem TD{i:Nat}{c:Str}(hi:i<18)(h:kindWords[i]? =some c):kindWords[i]? =some c/\c≠ "text" :=by
 have g:∀i,i<18->kindWords[i]? ≠some (Str.ofString "text"):=by decide+kernel
 exact⟨h,λz=>g i hi (h.trans (Zv some z))⟩
section
variable{X:Cx}
def TF(K:Fgx):R2:=λx y H Q=>∃p q g d,y= .ref q/\Ae K H q (List.map V.str g)/\Aa p H d x/\(∀c,d≠ .dict c)/\Q (.bl (HI d g)) H
theorem TH{k:Nat}(K:Fgx)(hr:AQ k X.A)(hK:autoParam (X.K=K) j2):OpR X (compareOp .In) (TF K):=by
 subst hK;intro ad s σ H x y v u Q I D Z h;obtain⟨p,qa,ss,d,rfl,hq,c,nd,q⟩:=h;cases Z;have un:=hr.un;have i4:X.A.in1.units<=X.A.units+1:=by first | exact Y4 _ | exact Zx _ | (unfold PySem.Around.in1;simp)
 obtain⟨J,r,pl,hz⟩:=I.tuple hq;refine SeqAt.in_tupleAt (Gg d) pl (λw hw=>?_) ⟨.bl _,H,I,rfl,?_⟩
 .obtain⟨a,t,rfl⟩:=Np r w (by simpa using hw);cases d with
  |none=>unfold Aa at c;subst c;cases D;exact SeqAt.EqAt.str_none a t
  |bool b=>unfold Aa at c;subst c;cases D;exact SeqAt.EqAt.str_bool a t b
  |int i=>unfold Aa at c;subst c;obtain⟨L,rfl⟩:=D;exact cR a t i L
  |str z=>unfold Aa at c;subst c;obtain⟨L,rfl⟩:=D;exact SeqAt.EqAt.str_str a t z L
  |tuple ds=>
   unfold Aa at c;obtain⟨b,xs,rfl,O,_⟩:=c;cases D;obtain⟨G,rv,g,_⟩:=I.tuple (Ae.of O);exact SeqAt.EqAt.str_tuple a t g (by lia)
  |list ds=>
   unfold Aa at c;obtain⟨b,xs,rfl,_,O,_⟩:=c;cases D;obtain⟨G,rv,g,_⟩:=I.list (Al.of O);exact SeqAt.EqAt.str_list a t g.isList (by lia)
  |dict kvs=>exact absurd rfl (nd kvs)
 .rw[show J.toArray.any (Gg d)=J.any (Gg d) by simp,No r];exact q
end
def GotL(H:Hp)(xs:List V)(Q:VK):Prop:=∀r c,Ab H c->H r=none->c r=some (.lst xs)->Q (.ref r) c
theorem GotL.at{H:Hp}{xs:List V}{Q:VK}(q:GotL H xs Q):∀p,H p=none->Q (.ref p) (upd H p (.lst xs)):=λp c=>q p _ (Ab.new c) c Af
variable{X:Cx}{es:List yL}{t:TA}{pos:Pos}
def NC(t:TA):TE:=fun g H Q=>t g H λc D=>match Nat.ble c.length 64 with | true=>Fo D c Q | false=>False
def ND(t:TA):TE:=fun g H Q=>t g H λc D=>match Nat.ble c.length 64 with | true=>GotL D c Q | false=>False
theorem AT{x1}(h:PA X es t):PE X (.Tuple es x1 pos) (NC t):=by
 intro ad s Z H Q I L;refine wpAny_Tuple_spliced (An (h pos ad s Z H _ I L) λO s1 J=>?_);obtain⟨G,g,c,r,q⟩:=J
 try dsimp only at q
 split at q
 .rename_i z;refine⟨by rw[<-r.length];exact BW z,?_⟩;have D:g s1.heap.objs.size=none:=c.hok.fresh (Y4 _);refine⟨.ref s1.heap.objs.size,upd g s1.heap.objs.size (.tup G),c.laid (t':=s1.toks) (λb u e=>Y2 _ e) (Y4 _) ?_,rfl,q _ _ (Ab.new D) Af⟩;exact⟨BW z,O,r,⟨_,YL _ rfl,rfl,_,rfl⟩⟩
 .exact q.elim
theorem DZ(h:PA X es t):PE X (.List es pos) (ND t):=by
 intro ad s Z H Q I L;refine wpAny_List_spliced (An (h pos ad s Z H _ I L) λO s1 J=>?_);obtain⟨G,g,c,r,q⟩:=J
 try dsimp only at q
 split at q
 .rename_i z;refine⟨by rw[<-r.length];exact BW z,?_⟩;have D:g s1.heap.objs.size=none:=c.hok.fresh (Y4 _);refine⟨.ref s1.heap.objs.size,upd g s1.heap.objs.size (.lst G),c.laid (t':=s1.toks) (λb u e=>Y2 _ e) (Y4 _) ?_,rfl,q.at _ D⟩;exact⟨BW z,O,0,r,YL _ rfl⟩
 .exact q.elim
def NE:R2:=λx y H Q=>∃l b c g,x= .ref l/\y= .ref b/\H l=some (.lst c)/\H b=some (.lst g)/\c.length+g.length<=sizeLine/\GotL H (c++g) Q
theorem TJ:OpR X (binaryOp .Add) NE:=by
 intro ad s O H x y v u Q I G c h;obtain⟨l,b,g,zs,D,J,L,Z,hz,q⟩:=h;exact Cf ad s O H x y v u Q I G c ⟨l,b,g,zs,D,J,L,Z,hz,q.at⟩
def NF(K:Fgx):List V->Hp->VK->Prop:=λg H Q=>∃p c,g=[.ref p]/\(Al K H p c\/Ae K H p c)/\GotL H c Q
theorem TK(K:Fgx)(h:autoParam (X.K=K) j2):BJ X (.type "list") (NF K):=by
 intro ad s L H c G Q I r J;obtain⟨p,g,e,D,q⟩:=J;exact RZ K h ad s L H c G Q I r ⟨p,g,e,D,q.at⟩
end L2
namespace MF
open L2
def D0(p:Int)(q:Int×Int):Int:=if q.2<p then q.1 *(q.2-p) else 0
def spared(r co:yV)(p:Int):Int:=((r.zip co).map (D0 p)).sum
def Fu(lo hi p b:Int):Int:=(p-b) *(if b<p then lo else hi)
def Do(T:TM)(h:Nat)(p b:Int):Int:=p * T.ds.getD h 0+spared (T.cs.getD h []) T.co p+Fu T.lo T.hi p b
def Fv(T:TM)(ns:yV)(k:Nat):Int:=((List.range k).map λh=>Do T h (ns.getD h 0) (ns.getD (h+1) 0)).sum
def Fw(T:TM)(ns:yV):Int:=Fv T ns ns.length-ns.getD 0 0 * T.st
theorem TN{T:TM}{ns:yV}{k:Nat}:Fv T ns (k+1)=Fv T ns k+Do T k (ns.getD k 0) (ns.getD (k+1) 0):=by
 unfold Fv;rw[aB,YM,bR];simp
structure CQ(T:TM):Prop where
 ok:T.ok
 c:∀r∈T.cs,r.length=T.co.length/\∀c∈r,0<=c/\c<=20
 o:T.co.length<=4
 o1:∀c∈T.co,1<=c/\c<=9
 d:∀x∈T.ds,0<=x/\x<=100
 l0:0<=T.lo
 h0:0<=T.hi
 s0:0<=T.st
 l4:T.lo<=100
 h4:T.hi<=100
 s4:T.st<=100
theorem getD_mem{c:Type}{l:List c}{i:Nat}{d:c}(h:i<l.length):l.getD i d∈l:=by
 rw[Y7,Y5 h];exact bz h
theorem Gj{x y:Int}{a b:Nat}(g:x.natAbs<=a)(c:y.natAbs<=b):(x * y).natAbs<=a * b:=by rw[Int.natAbs_mul];exact bQ g c
theorem Kj{x y:Int}{a b:Nat}(g:x.natAbs<=a)(c:y.natAbs<=b):(x+y).natAbs<=a+b:=by lia
theorem NG{p:Int}{B:Nat}(g:0<=p)(c:p<=B):∀ {l:List (Int×Int)},(∀q∈l,0<=q.1/\q.1<=20/\1<=q.2)->((l.map (D0 p)).sum).natAbs<=l.length *(20 * B)
 |[],_=>by simp
 |q::l,h=>by
  have I:=NG g c (l:=l) λq D=>h q (Z4 _ D)
  obtain⟨J,L,G⟩:=h q Z1;rw[ZA,bK,Zh,bI];have:(D0 p q).natAbs<=20 * B:=by
   unfold D0;split
   .exact Gj (by lia) (by lia)
   .simp
  lia
theorem NH{T:TM}(ok:CQ T){h:Nat}{p b:Int}{B:Nat}(I:0<=p)(D:p<=B)(Z:0<=b)(J:b<=B):(Do T h p b).natAbs<=B * 100+4 *(20 * B)+B * 100:=by
 unfold Do;refine Kj (Kj (Gj (by lia) ?_) ?_) (Gj (by lia) ?_)
 .by_cases z:h<T.ds.length
  .have:=ok.d _ (getD_mem (d:=0) z);lia
  .rw[Y7,Zn (by lia)];simp
 .unfold spared;refine YV (NG I D λq g=>?_) (bu _ ?_)
  .by_cases z:h<T.cs.length
   .have L:=(ok.c _ (getD_mem (d:=[]) z)).2 _ (bj g).1;have G:=ok.o1 _ (bj g).2;lia
   .rw[Y7,Zn (by lia)]at g;simp at g
  .rw[eM];have:=ok.o;lia
 .have L:=ok.l0;have G:=ok.h0;have O:=ok.l4;have h4:=ok.h4;split<;>lia
theorem TQ{T:TM}(ok:CQ T){ns:yV}{B:Nat}(D:ns.length<=8)(I:∀n∈ns,0<=n/\n<=(B:Int)):(Fw T ns).natAbs<=8 *(B * 100+4 *(20 * B)+B * 100)+B * 100:=by
 have g:∀i,0<=ns.getD i 0/\ns.getD i 0<=(B:Int):=λi=>by
  by_cases z:i<ns.length
  .exact I _ (getD_mem z)
  .rw[Y7,Zn (by lia)];simp
 have f:∀k,k<=8->(Fv T ns k).natAbs<=k *(B * 100+4 *(20 * B)+B * 100):=λk=>by
  induction k with
  |zero=>intro _;simp[Fv]
  |succ k ih=>
   intro L;have G:=ih (by lia);have c:=NH ok (h:=k) (g k).1 (g k).2 (g (k+1)).1 (g (k+1)).2;rw[TN,bI];exact Kj G c
 unfold Fw;have G:=f _ D;have c:ns.length *(B * 100+4 *(20 * B)+B * 100)<=8 *(B * 100+4 *(20 * B)+B * 100):=bu _ D;have J:(ns.getD 0 0 * T.st).natAbs<=B * 100:=Gj (by have:=g 0;lia) (by have:=ok.s0;have:=ok.s4;lia);lia
def HQ(d:yQ):Bool:=match d with | .int i=>decide (0<=i) | _=>false
theorem HR{P:PL}{S:SY}(ok:P.ok){n:Nat}(so:S.ok n):CQ (terms P S):=by
 have h0:=ok.lo0;have J:=ok.ls;have L:=ok.sh;have O:=ok.h4;refine⟨Gf so,λr D=>⟨by rw[(CP ok r D).2];show P.bs.length=(P.bs.map (·.2)).length;rw[Y0],λc g=>by have:=(CP ok r D).1 c g;lia⟩,by show(P.bs.map (·.2)).length<=4;rw[Y0];exact ok.b4,λc g=>?_,λx I=>?_,h0,?_,?_,?_,?_,?_⟩
 .obtain⟨q,G,rfl⟩:=Z8.mp g;have:=ok.b q G;lia
 .have:=JX ok so x I;lia
 .show 0<=P.hi;lia
 .show 0<=P.st;lia
 .show P.lo<=100;lia
 .show P.hi<=100;lia
 .show P.st<=100;lia
theorem Kk{xs:List V}:A4 xs (some 1) none=xs.drop 1:=by
 have g:HT.sIx xs.length xs.length none=xs.length:=rfl;have c:HT.sIx xs.length 0 (some 1)=min 1 xs.length:=HT.sIx_nat _ _ 1;unfold A4;rw[g,c];cases xs with
 |nil=>rfl
 |cons a l=>rw[ZW (by simp)];simp
end MF
namespace L2
section
variable{X:Cx}{σ:St}{H:Hp}{kvs:List (AE × V)}{te:TE}
theorem TR:entryFor table "dict_itemiterator.__iter__"=some Builtin.«dict_keyiterator.__iter__»:=entryFor_alias (id':="dict_keyiterator.__iter__") (by kernel_rfl) rfl (by decide+kernel) (by kernel_rfl)
theorem TU{P:yP}{w:yN}{k:AE}{v:yU}(h:(Bm P w).is k v=true):Az (kV k) v:=by
 rw[Px]at h;rcases Dc h with⟨i,t,rfl,rfl⟩ | ⟨x,t,rfl,rfl⟩
 .exact⟨t,rfl⟩
 .exact⟨t,rfl⟩
theorem KV.get{c:Type}:∀ {ks:List (c×V)}{vs:List (c×yU)}{i:Nat}{q:c×V},KV ks vs->ks[i]? =some q->∃u,vs[i]? =some (q.1,u)/\Az q.2 u
 |_,_,_,_,.nil,e=>by simp at e
 |_,_,0,_,.cons (b:=b) r _,e=>by
  simp at e;subst e;exact⟨b.2,by rw[r.1];rfl,r.2⟩
 |_,_,i+1,q,.cons _ t,e=>by
  obtain⟨u,D,g⟩:=KV.get (i:=i) (q:=q) t (by simpa using e);exact⟨u,by simpa using D,g⟩
theorem Ad.dictAt{ad:PNs}{s:yS}{d:yR}{o:Obj}{es:Array DictEntry}{ep:Nat}(I:Ad X ad σ H s)(h:H d=some (.frz o (.dK kvs)))(D:o.data= .dict es ep):
  ∃vs,KV kvs vs/\s.heap.DictAt (Bm X.prog X.w) d vs ep:=by
 obtain⟨e,_,_,vs,J,O,G,L,g,c,dd,r⟩:=(show ObjOk X.prog X.w H s.heap d (.frz o (.dK kvs)) from I.hok d _ h);rw[e]at g;cases g;rw[D]at dd;cases dd;exact⟨vs,J,o,es,e,c,D,r⟩
def Kl(d:yR)(o:Obj)(kvs:List (AE×V)):It:=
 ⟨λi H=>H d=some (.frz o (.dK kvs))/\i<kvs.length,λi H v c=>∃T q,v= .ref T/\H T=none/\kvs[i]? =some q/\c=upd H T (.tup [kV q.1,q.2]),λi H=>H d=some (.frz o (.dK kvs))/\kvs.length=i⟩
theorem TV{P:yP}{w:yN}{K:Fgx}{es:List yL}{k:Nat}{i7:Pos}{o:Obj}{kvs:List (AE×V)}{i6:Array DictEntry}{ep:Nat}(d it:yR)(ho:o.data= .dict i6 ep)(j4:d≠it):
  De P w K (.Tuple es k i7) (Kl d o kvs) [it] it (λi h=>∃ok D,IsItemIter h it d i kvs.length ep ok D) where
 mem:=by simp
 obj:=λi h st b g=>by
  obtain⟨ok,D,c⟩:=st;rw[Zc.mp g];exact⟨_,c,λv z=>by
   have z':Data.fields _=Data.cell v:=z;cases z'⟩
 keep:=λi h h' st kk=>by obtain⟨ok,D,c⟩:=st;exact⟨ok,D,kk it (by simp) _ c⟩
 item:=by
  intro X hP hw hK hc i ad s σ H E I hf st hg;subst hP hw;obtain⟨ok,D,c⟩:=st;obtain⟨hd,L⟩:=hg;obtain⟨vs,kv,hm⟩:=I.dictAt hd ho;have hl:kvs.length=vs.length:=Paired.length kv;have hq:kvs[i]? =some kvs[i]:=by simp[L]
  obtain⟨u,hu,ru⟩:=kv.get hq;rw[hl]at c;refine wpAny_pyNext_items_item c hm hu λG h1 O Z i5 j3 hk=>⟨_,rfl,wpAny_letOwnedTupleGo_items Z λh2 i8 i4=>?_⟩
  have J:it<s.heap.objs.size:=Y8 c;have kk:∀b ob,b ∉ [it]->s.heap.get? b=some ob->h2.get? b=some ob:=λb ob g q=>i4.extBut b ob (λz=>g (by rw[z];simp)) (hk b ob (λz=>g (by rw[z];simp)) q)
  have i9:IsTup h2 s.heap.objs.size [G,u].toArray:=⟨_,(i4.2 _ (ZY J)).trans i5,rfl,_,rfl⟩;exact⟨.ref s.heap.objs.size,upd H s.heap.objs.size (.tup [kV kvs[i].1,kvs[i].2]),I.yielded (tk:=s.toks) (λb g=>hf b g) kk (Y4 _) i9 (.cons (TU O) (.cons ru .nil)) (by show 2<=sizeLine;decide),rfl,
   ⟨_, kvs[i], rfl, I.hok.fresh (Y4 _), hq, rfl⟩, ⟨G, u, by rw [hl]; exact i8⟩, λb g => by
    rw[Zc.mp g,Ap (Z0 J)];exact(hf it (by simp)).1⟩
 done:=by
  intro X hP hw hK hc i ad s σ H E I hf st hg;subst hP hw;obtain⟨ok,D,c⟩:=st;obtain⟨hd,L⟩:=hg;obtain⟨vs,kv,hm⟩:=I.dictAt hd ho;have hl:kvs.length=vs.length:=Paired.length kv;rw[hl]at c;refine wpAny_pyNext_items_end (I.ok.hd hc) c hm (by rw[Zn];lia) λh' j0=>⟨rfl,I.ended (tk:=s.toks) (λb g=>hf b g) λb ob g q=>j0 b ob (λz=>g (by rw[z];simp)) q⟩
 self:=λA i s Q E st h=>by
  obtain⟨ok,D,c⟩:=st;have hT:s.TypeIs (.ref it) "dict_itemiterator" :=⟨_,c,rfl⟩;refine wpAny_pyIter_slot hT cL (ZZ cL hT TR ?_ (F.args_dict_itemiterator_iter_1 _));show wpAny _ _ (ret (.ref it)) _ _ s;exact Y6 ⟨_,rfl,"dict_itemiterator",_,hT,F.slot_dict_itemiterator_next.lookup,h⟩
def TX(G:TE):TI:=fun D H R=>G D H λx g=>∃d o c,x= .ref d/\g d=some (.frz o (.dK c))/\R (Kl d o c) g
theorem NI{es:List yL}{k:Nat}{i4 G J:Pos}{e:yL}(he:PE X e te)(L:autoParam (attributeBase e "items" X.env (eval e X.env)=eval e X.env) j2)(O:autoParam ((G.endLine==J.line)=true) j2):
  PI X (.Tuple es k i4) (.Call (.Attribute e "items" G) [] [] J) (TX te):=by
 intro ad s σ H R I h;refine wpAny_Call_method0_late L O (An (he ad s σ H _ I h) λv s1 zq=>?_);obtain⟨x,H1,I1,r1,d,o,kvs,ex,hd,q⟩:=zq;subst ex;cases r1;obtain⟨eo,_,Z,g,i6,D⟩:=(show ObjOk X.prog X.w H1 s1.heap d (.frz o (.dK kvs)) from I1.hok d _ hd);obtain⟨o',i7,ep,e',c,dd,r⟩:=id D;have i9:o'=o:=by rw[eo]at e';exact(Y9 e').symm
 subst i9;refine⟨"dict","dict.items",F.plainAttrs_dict,F.slot_dict_items,F.type_dict_items,D.typeIs,D.mapOf.noDict,?_⟩;refine method_meetsIn F.slot_dict_items F.entry_dict_items rfl (PySem.evalArgs_none ⟨rfl,D.typeIs,F.args_dict_items_1 _,_,meets_dict_items (Bm X.prog X.w) d Z,⟨_,D⟩,?_⟩);have i8:=Y8 eo;have hz:(s1.heap.push { cls:= .type "dict_items",data:= .fields #[.ref d]}).objs.size=s1.heap.objs.size+1:=Zf ..;have j0:s1.heap.DictAt (Bm X.prog X.w) d g ep:=⟨o',i7,eo,c,dd,r⟩;refine wpAny_pyIter_items (knd:=Bm X.prog X.w) (d:=d) (kvs:=g) (ep:=ep) ⟨_,YL _ rfl,rfl,rfl⟩ (j0.push _) ?_;have hl:kvs.length=g.length:=Paired.length i6;dsimp only;have kk:∀b ob,s1.heap.get? b=some ob->((s1.heap.push { cls:= .type "dict_items",data:= .fields #[.ref d]}).push { cls:= .type "dict_itemiterator",data:= .fields #[.none,.bool false,.ref d,.int 0 0,.int g.length 0,.int ep 0,.none,.none]}).get? b=some ob:=λb ob q=>Y2 _ (Y2 _ q)
 have i5:((s1.heap.push { cls:= .type "dict_items",data:= .fields #[.ref d]}).push { cls:= .type "dict_itemiterator",data:= .fields #[.none,.bool false,.ref d,.int 0 0,.int g.length 0,.int ep 0,.none,.none]}).get? (s1.heap.objs.size+1)=some { cls:= .type "dict_itemiterator",data:= .fields #[.none,.bool false,.ref d,.int 0 0,.int g.length 0,.int ep 0,.none,.none]}:=by
  rw[<-hz];exact YL _ rfl
 rw[hz];generalize(s1.heap.push { cls:= .type "dict_items",data:= .fields #[.ref d]}).push { cls:= .type "dict_itemiterator",data:= .fields #[.none,.bool false,.ref d,.int 0 0,.int g.length 0,.int ep 0,.none,.none]}=h2 at kk i5;refine⟨s1.heap.objs.size+1,[s1.heap.objs.size+1],_,_,H1,rfl,I1.kept (t':=s1.toks) kk,TV (o:=o') (kvs:=kvs) d (s1.heap.objs.size+1) dd (Z0 (ZT i8)),⟨.none,.none,by rw[hl];exact i5⟩,λb hb=>?_,q⟩;rw[Zc.mp hb];exact I1.fpOk (Zx _) (I1.hok.fresh (Zx _))
theorem NJ{d:yR}{o:Obj}{cap:List (Option Nat)}{g:TG}{J:TT}{Q:List V->Hp->Prop}(c:Nat->List V->Hp->Prop)(Z:kvs.length<=100000)(h0:c 0 [] H)(hz:∀i zs H,c i zs H->zs.length<=i)
  (G:∀i zs H,c i zs H->H d=some (.frz o (.dK kvs)))
  (hs:∀i q zs H T,kvs[i]? =some q->c i zs H->H T=none->g (.ref T) (AR cap σ) (upd H T (.tup [kV q.1,q.2])) fun D H2=>Keep (AR cap σ) D/\J D H2 λb I=>br b (te D I λy H4=>c (i+1) (zs++[y]) H4) (c (i+1) zs I))
  (hd:∀zs H,c kvs.length zs H->Q zs H):EJ (Kl d o kvs) cap g J te σ Q H:=
 Fk kvs.length c Z h0 hz (λi zs H hi p=>⟨⟨G i zs H p,hi⟩,λv H' L=>by
  obtain⟨T,q,e,n,O,y⟩:=L;subst e y;exact hs i q zs H T O p n⟩)
  λzs H p=>⟨⟨G _ zs H p,rfl⟩,hd zs H p⟩
end
section
variable{u:yU}{P:yP}{h:Heap}{vs:List (AE × yU)}{Y:Cx}{PB:List (yR × Obj)}{σ:St}{H:Hp}
abbrev KL:=List (AE×V)
def CK(ks:KL)(k:AE)(v:V):KL:=if ks.any (λq=>q.1=k) then ks.map (λq=>if q.1=k then(q.1,v) else q) else ks++[(k,v)]
theorem KV.anyK{k:AE}:∀ {ks:KL}{vs:List (AE×yU)},KV ks vs->ks.any (λq=>q.1=k)=vs.any (λq=>q.1=k)
 |_,_,.nil=>rfl
 |_,_,.cons r t=>by rw[aJ,aJ,KV.anyK t,r.1]
theorem KV.mapK{k:AE}{v:V}(h:Az v u):∀ {ks:KL}{vs:List (AE×yU)},KV ks vs->KV (ks.map λq=>if q.1=k then(q.1,v) else q) (vs.map λq=>if q.1=k then(q.1,u) else q)
 |_,_,.nil=> .nil
 |_,_,.cons (a:=a) (b:=b) r t=>by
  rw[ZA,ZA];refine .cons ?_ (KV.mapK h t);rw[<-r.1];split
  .exact⟨r.1 ▸ rfl,h⟩
  .exact r
theorem KV.snoc{c:Type}{q:c×V}{p:c×yU}(h:q.1=p.1/\Az q.2 p.2):∀ {ks:List (c×V)}{vs:List (c×yU)},KV ks vs->KV (ks++[q]) (vs++[p])
 |_,_,.nil=> .cons h .nil
 |_,_,.cons r t=> .cons r (KV.snoc h t)
theorem KV.put{k:AE}{v:V}(h:Az v u){ks:KL}{vs:List (AE×yU)}(r:KV ks vs):KV (CK ks k v) (stored vs k u):=by
 unfold CK stored;rw[r.anyK];split
 .exact KV.mapK h r
 .exact KV.snoc ⟨rfl,h⟩ r
theorem NK(ks:KL)(k:AE)(v:V):(CK ks k v).length<=ks.length+1:=by
 unfold CK;split
 .rw[Y0];lia
 .rw[Z7];simp
theorem TY{k:AE}(P:yP)(w:yN)(h:Az (kV k) u):(Bm P w).is k u=true:=by
 cases k with
 |inl i=>obtain⟨t,rfl⟩:=h;exact Jd P w i t
 |inr x=>obtain⟨t,rfl⟩:=h;exact K9 P w x t
section
variable{prog:yP}{w:yN}{A:yO}{R:Result -> yS -> Prop}{s:yS}{kx vx tg it:yL}{ifs:List yL}{sc:Scope}{ps:Pos}{fv:yU}{D:yR}{env:Env}
theorem TZ(ht:∀v,letOwnedTupleGo tg fv v=pure ())(I:Nat->yS->Prop)
  (G : ∀ n s, I n s -> wpAny (model prog w) A (pyNext fv) (λr s1 => match r with
   |none=>R (.ok .next) s1
   |some v => wpAny (model prog w) A (letOwnedTupleGo tg fv v) (λ_ s2 => wpAny (model prog w) A (assign tg env v) (λ_ O =>
     wpAny (model prog w) A (forIn ifs true λc r=>if r=true then do let ok<-isTrue c env (eval c env);pure (ForInStep.yield ok) else pure (ForInStep.yield r)) (λok s4=>
      if ok=true then wpAny (model prog w) A (eval kx env) (λZ s5=>wpAny (model prog w) A (eval vx env) (λJ L=>wpAny (model prog w) A (dictSet D Z J) (λ_ s7=>∃m,m<n/\I m s7) (λ_ _=>False) L) (λ_ _=>False) s5) (λ_ _=>False) s4
      else ∃m,m<n/\I m s4) (λ_ _=>False) O) (λ_ _=>False) s2) (λ_ _=>False) s1) (λ_ _=>False) s)
  (n:Nat) (h:I n s):codeAny (model prog w) A (.compLoop (.DictComp kx vx [⟨tg,it,ifs,0⟩] sc ps) 0 fv (.ref D) env) R s:=by
 refine codeAny_compLoop_testsD I (λm s0 hI=>Z9 (G m s0 hI) (λr s1 h1=>?_) λ_ _ z=>z.elim) n h ht;cases r with
 |none=>exact h1
 |some v=>
  have g:=Y1 h1;rw[ht v,pure_bind]at g;refine Z9 g (λ_ O h3=>Z9 h3 (λok s4 h4=>?_) λ_ _ z=>z.elim) λ_ _ z=>z.elim
  cases ok with
  |false=>exact h4
  |true=>exact Z9 h4 (λZ s5 h5=>Z9 h5 (λJ L h6=>Z9 h6 (λ_ _ z=>z) λ_ _ z=>z.elim) λ_ _ z=>z.elim) λ_ _ z=>z.elim
end
structure GrownD(Y:Cx)(a:yR)(PB:PNs)(σ:St)(zs:KL)(H:Hp)(s:yS):Prop where
 inv:Ad Y PB σ H s
 no:H a=none
 len:zs.length<=sizeLine
 at':∃o vs,s.heap.get? a=some o/\KV zs vs/\s.heap.DictOf (Bm Y.prog Y.w) a vs
def DictO(P:yP)(w:yN)(o:Obj)(vs:List (AE×yU)):Prop:=∃es c,o.ExactDict/\o.data= .dict es c/\KeysOf (Bm P w) es/\Pairs (Bm P w) es.toList vs/\(vs.map (·.1)).Nodup
theorem DictO.of{w:yN}{a:yR}{o:Obj}(d:h.DictOf (Bm P w) a vs)(e:h.get? a=some o):DictO P w o vs:=by
 obtain⟨D,es,g,c,r⟩:=d;rw[e]at c;cases c;exact⟨es,g,r⟩
theorem DictO.to{w:yN}{a:yR}{o:Obj}(d:DictO P w o vs)(e:h.get? a=some o):h.DictOf (Bm P w) a vs:=by
 obtain⟨es,c,r⟩:=d;exact⟨o,es,c,e,r⟩
theorem GrownD.pin{a:yR}{zs:KL}{s:yS}{o:Obj}(A:DQ Y a)(g:GrownD Y a PB σ zs H s)(e:s.heap.get? a=some o)(d:DictO Y.prog Y.w o vs):Ad Y ((a,o)::PB) σ H s:=
 g.inv.pins_of λp c=>by
  rcases YY.mp c with rfl | c
  .exact⟨e,g.no,A.loc,A.fs,λv z=>by
    obtain⟨es,G,_,dd,_⟩:=d;have D:o.data= .cell v:=z;rw[dd]at D;cases D⟩
  .exact g.inv.pin p (YZ _ c)
theorem Ad.grownD{a:yR}{zs:KL}{s:yS}{o:Obj}(I:Ad Y ((a,o)::PB) σ H s)(hz:zs.length<=sizeLine)(v:KV zs vs)(d:DictO Y.prog Y.w o vs):GrownD Y a PB σ zs H s:=by
 have q:=I.pin (a,o) (YZ _ Z1);exact⟨I.pins_of λp c=>I.pin p (YZ _ (Z4 _ c)),q.2.1,hz,o,vs,q.1,v,d.to q.1⟩
def NL(wi:TI)(cap:List (Option Nat))(g:TG)(tt:TT)(tk te:TE):St->Hp->(KL->Hp->Prop)->Prop:=fun L H Q=>wi L H λJ H1=>
 ∃W:Nat->Nat->KL->Hp->Prop,(∃m,W 0 m [] H1)/\∀i m G H,W i m G H->
  (J.stop i H/\Q G H)\/
  (J.go i H /\ G.length < sizeLine /\ ∃ N : KL -> Hp -> Prop, (∀ I D, N I D -> ∃ m', m' < m /\ W (i + 1) m' I D) /\ ∀ x D, J.yld i H x D -> g x (AR cap L) D fun c H2 => Keep (AR cap L) c /\ tt c H2 λb Z =>
   br b (tk c Z λk H4=>te c H4 λy H5=>∃O,k=kV O/\N (CK G O y) H5) (N G Z))
theorem T5{kx vx tg it:yL}{j7:List yL}{sc:Scope}{ps:Pos}{m0:Nat}{Y:Cx}{a jt:yR}{PB:PNs}{g:TG}{tt:TT}{tk te:TE}{fp:List yR}{tn:Nat->Heap->Prop}{J:It}{W:Nat->Nat->KL->Hp->Prop}{σ:St}{ys:KL}{H:Hp}{s:yS}{N:KL->Hp->Prop}{R:Result->yS->Prop}
  (A:DQ Y a) (hnm:∀fv v,letOwnedTupleGo tg fv v=pure ()) (hPB:∀p∈PB,p.1≠a) (hx:Y.xe=λ_ _=>False) (hg:PG Y tg g) (htt:B8 Y j7 tt) (hk:PE Y kx tk) (he:PE Y vx te)
  (T:De Y.prog Y.w Y.K tg J fp jt tn) (na:∀b∈fp,b≠a) (j4:∀ {o:Obj}{H':Hp},(∀b∈fp,H' b=none)->∀b∈fp,BH Y ((a,o)::PB) H' b) (st:tn 0 s.heap) (gr:GrownD Y a PB σ ys H s) (hn:∀b∈fp,H b=none) (w0:W 0 m0 ys H)
  (u8:∀j m zs H,W j m zs H->(J.stop j H/\N zs H)\/(J.go j H/\zs.length<sizeLine/\(∃N2:KL->Hp->Prop,(∀I H',N2 I H'->∃m',m'<m/\W (j+1) m' I H')/\∀x H',J.yld j H x H'->g x σ H' fun σ3 H2=>Keep σ σ3/\tt σ3 H2 λb H3=>br b (tk σ3 H3 λk H4=>te σ3 H4 λy H5=>∃kk,k=kV kk/\N2 (CK zs kk y) H5) (N2 zs H3))))
  (back:∀zs H' s',GrownD Y a PB σ zs H' s'->N zs H'->R (.ok .next) s'):codeAny (model Y.prog Y.w) Y.A (.compLoop (.DictComp kx vx [⟨tg,it,j7,0⟩] sc ps) 0 (.ref jt) (.ref a) Y.env) R s:=by
 refine TZ (hnm _) (λn' s'=>∃(j:Nat) (zs:KL) (H':Hp),GrownD Y a PB σ zs H' s'/\tn j s'.heap/\(∀b∈fp,H' b=none)/\W j n' zs H') ?_ m0 ⟨0,ys,H,gr,st,hn,w0⟩;rintro n' u4 ⟨j,zs,i7,L,i9,i8,w12⟩;obtain⟨o12,vs12,j9,i6,d12⟩:=L.at';have c:=DictO.of d12 j9;have j8:=L.pin A j9 c;rcases u8 j n' zs i7 w12 with⟨stop,q⟩ | ⟨go2,hz0⟩
 .refine An (T.done Y rfl rfl rfl A.calm j _ u4 _ i7 _ j8 (j4 i8) i9 stop) λr k9 O=>?_
  obtain⟨hr,I13⟩:=O;subst hr;exact back zs i7 k9 (Ad.grownD I13 L.len i6 c) q
 .obtain⟨hC,N2,hN2,j0⟩:=hz0;refine An (T.item Y rfl rfl rfl A.calm j _ u4 _ i7 _ j8 (j4 i8) i9 go2) λr k9 O=>?_
  obtain⟨u2,hr,h13⟩:=O;subst hr;refine An h13 λ_ i4 O=>?_
  obtain⟨x2,u7,I14,w8,w9,i5,r8⟩:=O;have u5:=I14.pinned (j4 r8) (T.obj _ _ i5);have l7:=hg _ i4 _ u7 x2 u2 _ u5 w8 (j0 x2 u7 w9);rw[hx]at l7;refine An l7 λ_ s15 O=>?_
  obtain⟨D,H15,I15,l9,q15⟩:=O;have q9:=htt _ s15 D H15 _ I15 q15;rw[hx]at q9;refine An q9 λb2 o8 O=>?_
  obtain⟨u6,j6,u9⟩:=O;have pn:∀p∈PB++Dg fp i4.heap,p.1≠a:=λp hp=>by
   rcases ay.mp hp with hp | hp
   .exact hPB p hp
   .exact na p.1 (Jl hp).1
  have Z:∀ {σ':St}{I:KL}{H':Hp}{s':yS},Keep σ σ'->GrownD Y a (PB++Dg fp i4.heap) σ' I H' s'->N2 I H'->∃m,m<n'/\∃(j:Nat) (zs:KL) (H':Hp),GrownD Y a PB σ zs H' s'/\tn j s'.heap/\(∀b∈fp,H' b=none)/\W j m zs H':=λ{σ' I H' s'} kp G n2=>by
   obtain⟨m',hm,v8⟩:=hN2 _ _ n2;refine⟨m',hm,j+1,I,H',⟨(G.inv.pins_of λp hp=>G.inv.pin p (YZ _ (ck _ hp))).weak (by rw[kp.len]) λi v e=>kp.get e,G.no,G.len,G.at'⟩,T.keep _ _ _ i5 λb hb o e=>(G.inv.pin (b,o) (YZ _ (YZ _ (Ff hb e)))).1,λb hb=>?_,v8⟩;obtain⟨o,e,d⟩:=T.obj _ _ i5 b hb;exact(G.inv.pin (b,o) (YZ _ (YZ _ (Ff hb e)))).2.1
  have v6:GrownD Y a (PB++Dg fp i4.heap) D zs u6 o8:=Ad.grownD j6 L.len i6 c;cases b2 with
  |false=>
   rw[YN YT];exact Z l9 v6 (u9.2 rfl)
  |true=>
   rw[YR rfl];have o9:=hk _ o8 D u6 _ j6 (u9.1 rfl);rw[hx]at o9;refine An o9 λkv s17 O=>?_
   obtain⟨kval,H17,w6,r17,q17⟩:=O;have q8:=he _ s17 D H17 _ w6 q17;rw[hx]at q8;refine An q8 λyv j3 O=>?_
   obtain⟨y,v7,l6,r18,kk,ek,n18⟩:=O;subst ek;have j5:=Ad.grownD l6 L.len i6 c;have e18:=(l6.pin (a,o12) (YZ _ Z1)).1;refine wpAny_dictSet_pairs (hsz:=by rw[<-Paired.length i6];exact L.len) (TY Y.prog Y.w r17) (c.to e18) λh6 d6 hs6=>?_
   have v3:Ad Y (PB++Dg fp i4.heap) D v7 { j3 with heap:=h6,toks:=j3.toks+1}:=
    j5.inv.turned (t':=j3.toks+1) (it:=a) (λb o hb e=>hs6.extBut b o hb e) j5.no A.loc A.sz A.cell λp hp z=>by
     rw[A.pn,cE]at hp;exact pn p hp z
   obtain⟨o6,es6,ep6,e6,r6⟩:=id d6;exact Z l9 ⟨v3,j5.no,by have:=NK zs kk y;lia,o6,_,e6,KV.put r18 i6,d6⟩ n18
theorem T6{X:Cx}{tg O kx vx:yL}{i8:List yL}{scope:Scope}{j6 j8:Pos}{wi:TI}{g:TG}{tt:TT}{tk te:TE}{N':List Str}{cap:List (Option Nat)}{use:Option (yU->Sem Unit)}{Q':VSP}
  {ad:PNs}{s:yS}{σ:St}{H:Hp}{Q:KL->Hp->Prop}
  (hc:X.calm=true) (hi:PI X tg O wi) (B:AJ X.env.scope X.N scope N' cap) (hg:∀s H ex C,PG (AS X N' scope s H ex C) tg g) (ht:∀s H ex C,B8 (AS X N' scope s H ex C) i8 tt)
  (hk:∀s H ex C,PE (AS X N' scope s H ex C) kx tk) (he:∀s H ex C,PE (AS X N' scope s H ex C) vx te)
  (u6:∀fv v,letOwnedTupleGo tg fv v=pure ()) (hs:∀x,foldedSetIterable O X.env x=pure x) (I:Ad X ad σ H s)
  (h:NL wi cap g tt tk te σ H Q)
  (fin:∀(fw C:yR) (H:Hp) (ys:KL) (o:Obj) (s':yS),H fw=none->Ad X ad σ (upd H fw (.frz o (.dK ys))) s'->Hg X ad C (upd H fw (.frz o (.dK ys))) s'->Q ys H->compPost (model X.prog X.w) X.A X.xe use Q' (.ref fw) C (.ok .next) s'):
  wpAny (model X.prog X.w) X.A (comprehension (.DictComp kx vx [⟨tg,O,i8,0⟩] scope j6) scope X.env j8 newDict false (eval O X.env) use) Q' X.xe s:=by
 have j4:closureFor scope X.env=pure (A9 X.env.cells scope.names []):=JE λy hy hf=>I.ok.has y.1 (B.free y hy hf)
 refine dE (cl:=A9 X.env.cells scope.names []) rfl hs j4 B.kind B.names (An (hi ad s σ H _ I h) λv s1 h1=>An h1 λfv s2 h2=>?_);obtain⟨it,fp,tn,J,H2,e,I2,T,j7,f2,W,⟨m0,w0⟩,l7⟩:=h2;subst e;refine Zy (L9 ?_);dsimp only;generalize hH3:s2.heap.push { cls:= .type "dict",dict:=none,data:= .dict #[]}=h3;have i4:h3.objs.size=s2.heap.objs.size+1:=by rw[<-hH3];exact Zf ..
 have l9:∀b o,s2.heap.get? b=some o->h3.get? b=some o:=λb o e=>by rw[<-hH3];exact Y2 _ e
 have j0:h3.get? s2.heap.objs.size=some { cls:= .type "dict",data:= .dict #[]}:=by rw[<-hH3];exact YL _ rfl
 have j3:∀b∈fp,b<s2.heap.objs.size:=λb D=>let ⟨o,e,_⟩:=T.obj _ _ j7 b D;Y8 e
 have I4:=Mc I2 B f2 j3 l9 (by rw[i4];exact Zx _);have o9:(pushCells (h3.push { cls:= .type "dict",data:= .dict #[]}) scope.names).get? s2.heap.objs.size=some { cls:= .type "dict",data:= .dict #[]}:=au _ _ _ _ (Y2 _ j0);have l6:tn 0 (pushCells (h3.push { cls:= .type "dict",data:= .dict #[]}) scope.names):=T.keep _ _ _ j7 λb _ o e=>au _ _ _ _ (Y2 _ (l9 b o e))
 have j5:(pushCells (h3.push { cls:= .type "dict",data:= .dict #[]}) scope.names).DictOf (Bm X.prog X.w) s2.heap.objs.size []:=Heap.DictOf.at (hH3 ▸ dQ s2.heap) λo e=>au _ _ _ _ (Y2 _ e)
 have o8:s2.heap.objs.size≠h3.objs.size:=by rw[i4];exact Z0 (aN _)
 have q8:s2.heap.objs.size ∉ AG X.stack:=λz=>by
  rcases YY.mp (I2.stkSub _ z) with q | q
  .exact absurd I2.lt (by rw[<-q];exact YX _)
  .exact I2.nofs (Y4 _) q
 have i9:=I4.ok;have r8:∀ {L:PNs}{H':Hp},(∀b∈fp,H' b=none)->(∀p∈L,p.1=s2.heap.objs.size)->∀b∈fp,BH (AS X N' scope s2 H2 fp h3.objs.size) L H' b:=λ{L H'} hn hp b D=>
  ⟨hn b D, (i9.exf b D).1, i9.exfs b D, .inl D, (i9.exf b D).2, λp z e => by
   have z':p∈L:=z;have:=j3 b D;rw[<-e,hp p z']at this;exact YX _ this⟩
 have i6:∀x c,(AS X N' scope s2 H2 fp h3.objs.size).env.cells.lookup x=some c->c≠s2.heap.objs.size:=λx c ec z=>by
  rcases Fh scope.names (h3.objs.size+1) _ ec with q' | q'
  .rw[z,i4]at q';exact absurd q' (by lia)
  .have u4:X.env.cells.lookup x=some c:=(Ek _ _ q').elim id λz=>nomatch z
   obtain⟨_,u5⟩:=I2.cell x c u4;have:=u5.lt;rw[z]at this;exact YX _ this
 have i7:∀s4:yS,s4= { s2 with heap:=pushCells (h3.push { cls:= .type "dict",data:= .dict #[]}) scope.names}->
   codeAny (model X.prog X.w) X.A (.compLoop (.DictComp kx vx [⟨tg,O,i8,0⟩] scope j6) 0 (.ref it) (.ref s2.heap.objs.size) (JK scope X.env h3.objs.size)) (compPost (model X.prog X.w) X.A X.xe use Q' (.ref s2.heap.objs.size) h3.objs.size) s4:=by
  rintro s4 rfl;have A0:DQ (AS X N' scope s2 H2 fp h3.objs.size) s2.heap.objs.size:=⟨o8,q8,.inr (Y4 _),i6,rfl,hc⟩;refine T5 (Y:=AS X N' scope s2 H2 fp h3.objs.size) (PB:=[]) (W:=W) A0 u6 (λp hp=>absurd hp (by simp)) rfl (hg _ _ _ _) (ht _ _ _ _) (hk _ _ _ _) (he _ _ _ _) T (λb D z=>absurd (j3 b D) (by rw[z];exact YX _))
   (λ{o H'} hn b D=>r8 hn (λp hp=>by rw[Zc.mp hp]) b D) l6 ⟨I4,I2.hok.fresh (Y4 _),Z6 _,_,[],o9,.nil,j5⟩ (λb D=>(f2 b D).1) w0 l7 λys H5 s6 G q=>?_
  obtain⟨o6,q9,e6,v5,d6⟩:=G.at';have k9:(s2.heap.objs.size==sysModules)=false:=ZG.mpr (Zo (Z0 I2.big));have j9:=G.no;have z5:=G.len;have I6:=G.inv;have Z:∀b u,H5 b=some u->b≠s2.heap.objs.size:=λb u q z=>by rw[z,j9]at q;cases q
  have un:Un (AG X.stack) fp H2 (upd H5 s2.heap.objs.size (.frz o6 (.dK ys))) s2.heap s6.heap:=by
   have u:=I6.base;refine⟨u.keep,u.slot,λb o q n hx=>?_,u.there,λb xs q=>?_,λb o xs q=>?_,λb ps q=>?_⟩
   .rw[Ap (Z0 (Y8 q))];exact u.free b o q n hx
   .have z:=u.tups b xs q;rw[Ap (Z b _ z)];exact z
   .have z:=u.frzs b o xs q;rw[Ap (Z b _ z)];exact z
   .obtain⟨more,z⟩:=u.tbls b ps q;exact⟨more,by rw[Ap (Z b _ z)];exact z⟩
  have hok:HOk X.prog X.w (upd H5 s2.heap.objs.size (.frz o6 (.dK ys))) s6.heap:=λb u q=>by
   by_cases D:b=s2.heap.objs.size
   .subst D;rw[Af]at q;cases q;exact⟨e6,z5,k9,q9,v5,d6⟩
   .rw[Ap D]at q;have o6:ObjOk X.prog X.w H5 s6.heap b u:=I6.hok b u q;exact o6.stay (λ_ _ _ e=>e) (λc z=>by rw[Ap (Z c _ z)];exact z) λc xs z=>by rw[Ap (Z c _ z)];exact z
  have IX:Ad X ad σ (upd H5 s2.heap.objs.size (.frz o6 (.dK ys))) s6:=I2.call' (show s6.os=s2.os from I6.os) un hok I6.bare λb D=>let f:=f2 b D;⟨f.2.2.2.1,f.2.1,f.2.2.2.2.1,f.2.2.2.2.2⟩
  have i5:s2.heap.objs.size<=h3.objs.size:=by rw[i4];exact Zx _
  refine fin _ _ H5 ys o6 s6 j9 IX ⟨let ⟨m,hn,_⟩:=I6.loc;⟨m,hn⟩,?_,?_,YV I2.sz i5,λx c ec z=>?_,λp hp z=>?_⟩ q
  .rw[Ap (Zo o8)];exact I6.free
  .exact ZY (YQ I2.lt i5)
  .obtain⟨_,q⟩:=I2.cell x c ec;have:=q.lt;rw[z]at this;exact absurd (YQ this i5) (YX _)
  .have:=Y8 (I2.pin p hp).1;rw[z]at this;exact absurd (YQ this i5) (YX _)
 exact codeAny_compStart_dict (i7 _ rfl) (T.self _ 0 _ _ _ l6 (i7 _ rfl))
def T7(I:TI)(cap:List (Option Nat))(g:TG)(J:TT)(tk L:TE):TE:=fun D H Q=>NL I cap g J tk L D H λG c=>∀p o,c p=none->Q (.ref p) (upd c p (.frz o (.dK G)))
theorem T8{X:Cx}{G c kx vx:yL}{D:List yL}{scope:Scope}{O:Pos}{wi:TI}{g:TG}{tt:TT}{tk te:TE}(N':List Str)(cap:List (Option Nat))
  (hc:X.calm=true) (hi:PI X G c wi) (B:AJ X.env.scope X.N scope N' cap) (hg:∀s H ex C,PG (AS X N' scope s H ex C) G g) (ht:∀s H ex C,B8 (AS X N' scope s H ex C) D tt) (hk:∀s H ex C,PE (AS X N' scope s H ex C) kx tk) (he:∀s H ex C,PE (AS X N' scope s H ex C) vx te)
  (Z:autoParam (∀fv v,letOwnedTupleGo G fv v=pure ()) W0) (hs:autoParam (∀x,foldedSetIterable c X.env x=pure x) o5):PE X (.DictComp kx vx [⟨G,c,D,0⟩] scope O) (T7 wi cap g tt tk te):=by
 intro ad s σ H Q I h;rw[arm_eval_DictComp];refine T6 (use:=none) hc hi B hg ht hk he Z hs I h λfw C H ys o s' hn I' L q=>?_
 obtain⟨m,hm⟩:=L.ns;refine⟨m,hm,λh' J=>⟨.ref fw,_,I'.turned (t':=s'.toks) (it:=C) (λb o hb e=>J.extBut b o hb e) L.free L.loc (.inr L.sz) L.cell L.pin,rfl,q fw o hn⟩⟩
end
section
variable{u:Tok}{Q:KL -> Hp -> Prop}{pos:Pos}{σ:St}{H:Hp}{te:TE}{cap:List (Option Nat)}{g:TG}{tt:TT}
section
variable{prog:yP}{w:yN}{A:yO}{E:yY}{s:yS}
theorem T9:isSubtype (.type "range_iterator") (.type "reversed")=pure false:=by rw[isSubtype_type];kernel_rfl
abbrev D3(n:Int):Obj:= { cls:= .type "range_iterator",data:= .fields #[rawInt (n-1),rawInt n,rawInt (-1)]}
theorem Gk{z:Int}(g: -5000<=z)(c:z<=5000):Builtin.Range.rangeFitsLong z=true:=by
 unfold Builtin.Range.rangeFitsLong;simp only[Zj,ZU];lia
theorem Ua(r:yR)(n:Int)(t u v:Tok)(h0:0<=n)(J:n<=1000):
  Meets (Builtin.«range.__reversed__» ⟨[.ref r],[]⟩) (λ_ R s=>s.heap.get? r=some { cls:= .type "range",dict:=none,data:= .fields #[.int 0 t,.int n u,.int 1 v],slots:= #[]}/\R (.ok (.ret (Value.ref s.heap.objs.size))) { s with heap:=s.heap.push (D3 n),toks:=s.toks}):=
 .of_wp λprog w A R s h=>by
  obtain⟨I,g,d,tk,os⟩:=s;obtain⟨G,h⟩:=h;have D:Builtin.Range.rangeSize 0 n 1=n:=by rw[rangeSize_one];split<;>lia
  have c:(Builtin.Range.rangeFitsLong 0 && Builtin.Range.rangeFitsLong n && Builtin.Range.rangeFitsLong 1 && Builtin.Range.rangeFitsLong (-1) && Builtin.Range.rangeFitsLong (0-1) && Builtin.Range.rangeFitsLong (Builtin.Range.rangeSize 0 n 1))=true:=by
   rw[D,Gk (by lia) (by lia),Gk (by lia) (by lia),Gk (by lia) (by lia),Gk (by lia) (by lia),Gk (by lia) (by lia)];rfl
  wp_walk
  rw[c,D];have e:(0:Int)+(n-1) * 1=n-1:=by lia
  rw[e];simp only[Bool.not_true,am,bo,aS]
  wp_walk
  exact⟨_,rfl,h⟩
theorem Ub{l:yR}{n:Int}{t v:Tok}{W:VSP}(g:IsRange s.heap l 0 n 1 t u v)(h0:0<=n)(G:n<=1000)
  (h:W (.ref s.heap.objs.size) { s with heap:=s.heap.push (D3 n)}):codeAny (model prog w) A (.call (.builtin "reversed.__new__") ⟨[.type "reversed",.ref l],[]⟩) (wants W E) s:=by
 have ty:s.TypeIs (.ref l) "range" :=⟨_,g,rfl⟩;refine aM F.plain_reversed_new F.entry_reversed_new (bw (F.newCall_reversed_1 (.ref l)) ?_);have cls:=newClass_reversed (.ref l);have look:=ba.lookup;have bound:=ba.bind (.ref l);unfold Builtin.«reversed.__new__»
 wp_walk using bw cls,cI ty look,bw bound
 refine aC (aM (R:=λr c=>r= .ok (.ret (.ref s.heap.objs.size))/\c= { s with heap:=s.heap.push (D3 n)}) ba.plain F.entry_range_reversed (ba.check _ _ _ _ _ _ _ _ ty (F.args_range_reversed_1 _) (Ua l n t u v h0 G prog w A.in1 (λr c=>r= .ok (.ret (.ref s.heap.objs.size))/\c= { s with heap:=s.heap.push (D3 n)}) s ⟨g,rfl,rfl⟩))) λr c D=>?_
 obtain⟨rfl,rfl⟩:=D;exact Y6 h
theorem Uc{l:yR}{n:Int}{t v:Tok}{Q:VSP}(D:IsRange s.heap l 0 n 1 t u v)(h0:0<=n)(g:n<=1000)
  (h:Q (.ref s.heap.objs.size) { s with heap:=s.heap.push (D3 n)}):wpAny (model prog w) A (call (.type "reversed") [.ref l]) Q E s:=by
 refine callType_other (U:="range_iterator") (Q₁:=λobj c=>obj= .ref s.heap.objs.size/\c= { s with heap:=s.heap.push (D3 n)}) (by decide+kernel) F.create_reversed ⟨_,_,F.mro_reversed⟩ F.made_reversed T9 (F.typeCall_reversed_1 _) (Ub D h0 g ⟨rfl,rfl⟩) ?_;rintro obj c ⟨rfl,rfl⟩;exact⟨⟨_,YL _ rfl,rfl⟩,h⟩
end
section
variable{X:Cx}{tg:yL}
def Ud(G:TA):TI:=fun c H R=>G c H λD g=>∃n:Int,D=[.int n]/\0<=n/\n<=1000/\R (Gb (n-1) (-1) n.toNat) g
theorem Ue{a:yL}{ta:TA}{p O c:Pos}(J:Gl X "reversed")(Z:X.mg "reversed"=none)(hg:Gl X "range")(hm:X.mg "range"=none)(ha:PA X [a] ta)
  (G:autoParam (starEach [.Call (.Name "range" O) [a] [] c] X.env=[(false,eval (.Call (.Name "range" O) [a] [] c) X.env)]) j2) (hs:autoParam (starEach [a] X.env=[(false,eval a X.env)]) j2):
  PI X tg (.Call (.Name "reversed" p) [.Call (.Name "range" O) [a] [] c] [] pos) (Ud ta):=by
 intro ad s σ H R I h;refine Call_ (CN I J Z boot_reversed (Zi (by
  rw[G];refine cS (Call_ (CN I hg hm boot_range (Zi (An (ha c ad s σ H _ I h) λus s1 zq=>?_) hs rfl)));obtain⟨vs,H1,L,r1,q1⟩:=zq;obtain⟨n,e,h0,hn,q⟩:=q1;subst e;cases r1 with
  |cons r rr=>
   cases rr;obtain⟨t,rfl⟩:=r;refine call_range_1 (dg ?_);refine Uc (IsRange.new ..) h0 hn ?_;dsimp only;have D:(s1.heap.push { cls:= .type "range",data:= .fields #[.int 0 s1.toks,.int n t,.int 1 (s1.toks+1)]}).objs.size=s1.heap.objs.size+1:=Zf ..;have kk:∀b ob,s1.heap.get? b=some ob->((s1.heap.push { cls:= .type "range",data:= .fields #[.int 0 s1.toks,.int n t,.int 1 (s1.toks+1)]}).push (D3 n)).get? b=some ob:=λb ob q=>Y2 _ (Y2 _ q)
   have g:IsRangeIter ((s1.heap.push { cls:= .type "range",data:= .fields #[.int 0 s1.toks,.int n t,.int 1 (s1.toks+1)]}).push (D3 n)) (s1.heap.objs.size+1) (n-1) n (-1):=by
    rw[<-D];exact YL _ rfl
   rw[D];generalize(s1.heap.push { cls:= .type "range",data:= .fields #[.int 0 s1.toks,.int n t,.int 1 (s1.toks+1)]}).push (D3 n)=h2 at kk g;refine bW g ⟨s1.heap.objs.size+1,[s1.heap.objs.size+1],_,_,H1,rfl,L.kept (t':=_) kk,R7 _ (n-1) (-1) n.toNat,?_,λb hb=>?_,q⟩
   .have e1:(n-1)+((0:Nat):Int) *(-1)=n-1:=by lia
    have e2:((n.toNat:Nat):Int)-((0:Nat):Int)=n:=by lia
    rw[e1,e2];exact g
   .rw[Zc.mp hb];exact L.fpOk (Zx _) (L.hok.fresh (Zx _))) G rfl))
def Uf(i:Int)(D:TE):TE:=fun g H Q=>D g H λy c=>∀d o,c d=none->Q (.ref d) (upd c d (.frz o (.dK [(.inl i,y)])))
theorem Ad.trackN{ad:PNs}{s:yS}{a:yR}{h':Heap}{tk:Nat}{u:HO}(I:Ad X ad σ H s)(D:BH X ad H a)
  (k:∀b o,b≠a->s.heap.get? b=some o->h'.get? b=some o) (ha:∃o,h'.get? a=some o) (ok:ObjOk X.prog X.w (upd H a u) h' a u):Ad X ad σ (upd H a u) { s with heap:=h',toks:=tk}:=by
 have J:H a=none:=D.1;have nT:∀b u,H b=some u->b≠a:=λb u e=>BC e J
 refine I.step (g':=s.gens) (d':=s.drawn) (ch:=[a]) (λb G=>by rw[Zc.mp G];exact⟨D.2.2.2.1,D.2.1,D.2.2.2.2.1,D.2.2.2.2.2⟩) (λb o _ _ g e _=>k b o (λz=>g (by rw[z];simp)) e) (λb o _ _ g e _=>⟨o.slots,k b o (λz=>g (by rw[z];simp)) e⟩)
  (λb o g e n=>by rw[Ap (λz=>g (by rw[z];simp))];exact n) (λb o g e=>⟨o,k b o (λz=>g (by rw[z];simp)) e⟩) (λb L e=>by rw[Ap (nT b _ e)];exact e) (λb o L e=>by rw[Ap (nT b _ e)];exact e) (λb ps e=>⟨#[],by rw[Ap (nT b _ e),e];simp⟩) (λm O=>?_) (λb v e=>?_) I.bare
 .obtain⟨o,es,Z,ho,r⟩:=O;exact⟨o,es,Z,k _ o (λz=>D.2.1 z.symm) ho,r⟩
 .by_cases G:b=a
  .subst G;rw[Af]at e;cases e;exact ok
  .rw [Ap G] at e;refine(I.hok b v e).stay (λc v g q=>k c v ?_ q) (λc q=>by rw [Ap (nT c _ q)];exact q) λc L q=>by rw [Ap (nT c _ q)];exact q
   rcases g with z | z
   .rw[z];exact G
   .exact nT c _ z
theorem Ug{i:Int}{e:yL}{p1:Pos}{j1:Nat}(he:PE X e te):PE X (.Dict [some (.Constant (.int i) j1 p1)] [e] pos) (Uf i te):=λad s G H Q I h=>by
 refine wpAny_Dict_walk (knd:=Bm X.prog X.w) rfl rfl (by simp) (by show 1<=15;decide) ?_;refine pairTrees_cons_walk (wpAny_Constant_int ?_);dsimp only;have c:(s.heap.push { cls:= .type "dict",data:= .dict #[]}).get? s.heap.objs.size=some { cls:= .type "dict",data:= .dict #[]}:=YL _ rfl;have f0:BH X ad H s.heap.objs.size:=I.fpOk (Y4 _) (I.hok.fresh (Y4 _));have I0:Ad X ad G H { s with heap:=s.heap.push { cls:= .type "dict",data:= .dict #[]},toks:=s.toks+1}:=I.kept (t':=s.toks+1) λb o q=>Y2 _ q
 have O:Ad X ((s.heap.objs.size,{ cls:= .type "dict",data:= .dict #[]})::ad) G H { s with heap:=s.heap.push { cls:= .type "dict",data:= .dict #[]},toks:=s.toks+1}:=I0.pins_of λp g=>by
  rcases YY.mp g with rfl | g
  .exact⟨c,f0.1,f0.2.1,f0.2.2.1,λv z=>by
    have z':Data.dict #[]=Data.cell v:=z;cases z'⟩
  .exact I0.pin p (YZ _ g)
 refine An (he _ _ G H _ O h) λu s1 ⟨y,H1,L,ry,q⟩=>pairTrees_nil_walk ?_
 have pn:=L.pin (s.heap.objs.size,{ cls:= .type "dict",data:= .dict #[]}) (YZ _ Z1);have I2:Ad X ad G H1 s1:=L.pins_of λp g=>L.pin p (YZ _ (Z4 _ g))
 have f1:BH X ad H1 s.heap.objs.size:=⟨pn.2.1,f0.2.1,f0.2.2.1,f0.2.2.2.1,f0.2.2.2.2.1,f0.2.2.2.2.2⟩;have dn:s1.heap.DictOf (Bm X.prog X.w) s.heap.objs.size []:=Heap.DictOf.at (dQ s.heap) λo D=>by rw[c]at D;cases D;exact pn.1
 refine⟨[(.inl i,u)],⟨Jd _ _ _ _,rfl,trivial⟩,dn,λh' Z J=>?_⟩;obtain⟨o,es,ep,D,r⟩:=id Z;exact⟨.ref s.heap.objs.size,_,I2.trackN (u:= .frz o (.dK [(.inl i,y)])) (tk:=_) f1 (λb ob hb q=>J.extBut b ob hb q) ⟨o,D⟩ ⟨D,by show 1<=sizeLine;decide,ZG.mpr (Zo (Z0 I.big)),_,.cons ⟨rfl,ry⟩ .nil,Z⟩,rfl,q _ _ pn.2.1⟩
end
def NM(J:It)(cap:List (Option Nat))(g:TG)(tt:TT)(tk te:TE)(σ:St)(Q:KL->Hp->Prop)(H1:Hp):Prop:=
 ∃W:Nat->Nat->KL->Hp->Prop,(∃m,W 0 m [] H1)/\∀i m G H,W i m G H->
  (J.stop i H/\Q G H)\/
  (J.go i H /\ G.length < sizeLine /\ ∃ N : KL -> Hp -> Prop, (∀ I D, N I D -> ∃ Z, Z < m /\ W (i + 1) Z I D) /\ ∀ x D, J.yld i H x D -> g x (AR cap σ) D fun c H2 => Keep (AR cap σ) c /\ tt c H2 λb O =>
   br b (tk c O λk H4=>te c H4 λy H5=>∃L,k=kV L/\N (CK G L y) H5) (N G O))
theorem Uh{J:It}{tk:TE}(n:Nat)(D:Nat->KL->Hp->Prop)(hn:n<=100000)(h0:D 0 [] H)(hz:∀i ys H,D i ys H->ys.length<=i)
  (hs:∀i ys H,i<n->D i ys H->J.go i H/\∀x H',J.yld i H x H'->g x (AR cap σ) H' fun c H2=>Keep (AR cap σ) c/\tt c H2 λb L=>br b (tk c L λk H4=>te c H4 λy H5=>∃I,k=kV I/\D (i+1) (CK ys I y) H5) (D (i+1) ys L))
  (hd:∀ys H,D n ys H->J.stop n H/\Q ys H):NM J cap g tt tk te σ Q H:=by
 refine⟨λi m ys H=>m=n-i/\i<=n/\D i ys H,⟨n,by simp,Z6 _,h0⟩,?_⟩;rintro i m ys H ⟨rfl,hi,p⟩
 by_cases G:i<n
 .obtain⟨a,b⟩:=hs i ys H G p;refine .inr ⟨a,?_,D (i+1),λZ H' O=>⟨n-(i+1),by lia,rfl,G,O⟩,b⟩;have:=hz i ys H p;have:(100000:Nat)<sizeLine:=by decide
  lia
 .have e:i=n:=by lia
  subst e;exact .inl (hd ys H p)
theorem Ui{K:Fgx}{a:yR}{xs:List V}{tk:TE}(D:Nat->KL->Hp->Prop)(Z:xs.length<=100000)(h0:D 0 [] H)(hz:∀i ys H,D i ys H->ys.length<=i)
  (G:∀i ys H,i<=xs.length->D i ys H->Ae K H a xs)
  (hs:∀i x ys H,xs[i]? =some x->D i ys H->g x (AR cap σ) H fun c H2=>Keep (AR cap σ) c/\tt c H2 λb J=>br b (tk c J λk H4=>te c H4 λy L=>∃I,k=kV I/\D (i+1) (CK ys I y) L) (D (i+1) ys J))
  (hd:∀ys H,D xs.length ys H->Q ys H):NM (ED K a) cap g tt tk te σ Q H:=
 Uh xs.length D Z h0 hz (λi ys H hi p=>⟨⟨xs,xs[i],G i ys H (ZO hi) p,by simp[hi]⟩,λx H' O=>by obtain⟨e,y⟩:=O;subst e;exact hs i x ys _ (y xs (G i ys _ (ZO hi) p)) p⟩)
  λys H p=>⟨⟨xs,G _ ys H (Y4 _) p,Y4 _⟩,hd ys H p⟩
end
open PySem PySem.Spec PyProof.Rows SeqAt
variable{s:yS}{op:CmpOp}{lp:String}{h:Heap}
def OrdAt(op:CmpOp)(A:yO)(s:yS)(y x:yU)(b:Bool):Prop:=
 ∀(P:yP) (w:yN) (E Q:VSP),Q (.bool b) s->wpAny (model P w) A (richCompare op y x) Q E s
inductive D5(op:CmpOp)(A:yO)(s:yS)(last:Bool):List (yU×yU)->Bool->Prop
 |none:D5 op A s last [] last
 |same {x y:yU}{ps:List (yU×yU)}{r:Bool}:EqAt A s x y true->D5 op A s last ps r->D5 op A s last ((x,y)::ps) r
 |unlike {x y:yU}{ps:List (yU×yU)}{r:Bool}:EqAt A s x y false->OrdAt op A s x y r->D5 op A s last ((x,y)::ps) r
inductive BOp:CmpOp->String->String->Prop
 |mx:BOp .Gt "max" "max.loop"
 |mn:BOp .Lt "min" "min.loop"
def Km(op:CmpOp)(a b:Int):Bool:=match op with
 |.Gt=>decide (a>b)
 |_=>decide (a<b)
def EW(op:CmpOp)(a b:Nat):Bool:=match op with
 |.Gt=>decide (a>b)
 |_=>decide (a<b)
theorem OrdAt.gtI{A:yO}(a b:Int)(t u:Tok):OrdAt .Gt A s (.int a t) (.int b u) (decide (a>b)):=λP w E Q h=>
 CmpOf.ints_gt (P:=λi v=>v=if i=0 then Value.int a t else Value.int b u) (λi=>if i=0 then a else b) (λi v e=>by
  by_cases z:i=0
  .rw[YR z]at e ⊢;exact⟨t,e⟩
  .rw[YN z]at e ⊢;exact⟨u,e⟩) 0 1 _ _ s Q E rfl rfl h
theorem OrdAt.ltI{A:yO}(a b:Int)(t u:Tok):OrdAt .Lt A s (.int a t) (.int b u) (decide (a<b)):=λP w E Q h=>
 CmpOf.ints_lt (P:=λi v=>v=if i=0 then Value.int a t else Value.int b u) (λi=>if i=0 then a else b) (λi v e=>by
  by_cases z:i=0
  .rw[YR z]at e ⊢;exact⟨t,e⟩
  .rw[YN z]at e ⊢;exact⟨u,e⟩) 0 1 _ _ s Q E rfl rfl h
theorem OrdAt.ofI{nm:String}(g:BOp op nm lp){A:yO}{s:yS}(a b:Int)(t u:Tok):OrdAt op A s (.int a t) (.int b u) (Km op a b):=by
 cases g
 .exact OrdAt.gtI a b t u
 .exact OrdAt.ltI a b t u
theorem NN{I:Builtin}(L:(op= .Gt/\I=Builtin.«tuple.__gt__»)\/(op= .Lt/\I=Builtin.«tuple.__lt__»))(l b:yR)(xs ys:Array yU)(n m:Nat)(O d2:Option yR)(s1 s2:Array (yW))(r:Bool):
  Meets (I ⟨[.ref l,.ref b],[]⟩) (λA R s=>s.heap.get? l=some { cls:= .type "tuple",dict:=O,data:= .seq xs n,slots:=s1}/\s.heap.get? b=some { cls:= .type "tuple",dict:=d2,data:= .seq ys m,slots:=s2}/\D5 op A.in1 s (EW op xs.size ys.size) (xs.toList.zip ys.toList) r/\R (.ok (.ret (.bool r))) s):=by
 rcases L with⟨ho,rfl⟩ | ⟨ho,rfl⟩
 all_goals
  refine .of_wp λP w A R s D=>?_
  obtain⟨J,g,d,tk,os⟩:=s;obtain⟨Z,hb,c,fin⟩:=D;have tt:=bJ
  wp_walk using dI Z,dI hb,wpAny_forIn_list _ (λleft st G=>st.1=none/\G=⟨J,g,d,tk,os⟩/\D5 op A.in1 ⟨J,g,d,tk,os⟩ (EW op xs.size ys.size) left r) _
  case turn=>
   rintro⟨x,y⟩ left st G ⟨_,rfl,c⟩;cases c with
   |same e more=>
    refine Y1 (e P w _ _ ?_)
    wp_walk
    exact⟨rfl,rfl,more⟩
   |unlike e o=>
    refine Y1 (e P w _ _ ?_);subst ho;unfold OrdAt at o
    wp_walk using o P w _ _
    exact⟨_,rfl,fin⟩
  case fin=>
   rintro⟨st1,st2⟩ G ⟨hs,rfl,c⟩
   replace hs:st1=_:=hs
   subst hs;cases c;subst ho
   wp_walk
   exact⟨_,rfl,fin⟩
  case h=>exact⟨rfl,rfl,c⟩
theorem OrdAt.ofT{nm:String}(g:BOp op nm lp){A:yO}{s:yS}{l b:yR}{xs ys:Array yU}{r:Bool}(L:IsTup s.heap l xs)(hb:IsTup s.heap b ys)(I:A.units<cLine)(c:D5 op A.in1 s (EW op xs.size ys.size) (xs.toList.zip ys.toList) r):OrdAt op A s (.ref l) (.ref b) r:=λP w E Q h=>by
 obtain⟨⟨c1,G,t1,s1⟩,o1,Z,n,f1⟩:=L;obtain⟨⟨c2,J,t2,s2⟩,D,e2,m,O⟩:=hb;cases Z;cases f1;cases e2;cases O;cases g
 .exact eg (op:= .Gt) ⟨_,o1,rfl⟩ ⟨_,D,rfl⟩ F.slot_tuple_gt F.entry_tuple_gt (F.args_tuple_gt_2 _ _) (NN (.inl ⟨rfl,rfl⟩) l b xs ys n m G J s1 s2 r) ⟨o1,D,c,(λz=>nomatch z),h⟩ I
 .exact eg (op:= .Lt) ⟨_,o1,rfl⟩ ⟨_,D,rfl⟩ F.slot_tuple_lt F.entry_tuple_lt (F.args_tuple_lt_2 _ _) (NN (.inr ⟨rfl,rfl⟩) l b xs ys n m G J s1 s2 r) ⟨o1,D,c,(λz=>nomatch z),h⟩ I
def DG(bt:yU->yU->Bool):yW->yU->yW
 |none,v=>some v
 |some b,v=>if bt v b then some v else some b
def Kn:yW->Array yU
 |none=> #[]
 |some b=> #[b,b]
abbrev Ko(c:Array yU)(k:Nat):Obj:= { cls:= .type "list",dict:=none,data:= .seq c k,slots:= #[]}
def HS(h0 h:Heap):Prop:=∀b o,h0.get? b=some o->h.get? b=some o
theorem Kp(o:yW):(Kn o).size<=sizeLine:=by cases o<;>(first | exact(show 0<=sizeLine by decide) | exact(show 2<=sizeLine by decide))
theorem Uj{bt:yU->yU->Bool}{o:yW}{v:yU}:DG bt o v≠none:=by
 cases o with
 |none=>intro z;cases z
 |some b=>
  show(if bt v b then some v else some b)≠none;cases bt v b<;>(intro z;cases z)
theorem Uk{op:CmpOp}{nm lp:String}(g:BOp op nm lp){P:yP}{w:yN}{A:yO}{R:Result->yS->Prop}{I S:yR}{fp wr:List yR}{vs:yX}{St:Nat->Heap->Prop}{h0:Heap}{bt:yU->yU->Bool}
  (W:Walks P w A.in1 I fp wr vs.length (λi v=>vs[i]? =some v) St) (nS:S ∉ fp) (oS:h0.get? S=none) (ow:∀b∈wr,h0.get? b=none)
  (i5:∀x y s,x∈vs->y∈vs->HS h0 s.heap->OrdAt op A.in1 s x y (bt x y)):
  ∀(k j:Nat) (s:yS) (D:yW) (c:Nat),vs.length-j=k->j<=vs.length->St j s.heap->HS h0 s.heap->s.heap.get? S=some (Ko (Kn D) c)->(∀b,D=some b->b∈vs)->(D=none->j<vs.length)->
   (∀v h tk,(vs.drop j).foldl (DG bt) D=some v->(∀b o,b ∉ wr->b≠S->s.heap.get? b=some o->h.get? b=some o)->R (.ok (.ret v)) { s with heap:=h,toks:=tk})->
   codeAny (model P w) A (.builtin lp ⟨[.ref I,.none,.ref S],[]⟩) R s:=by
 cases g
 case' mx=>
  have pl:=F.plain_max_loop;have ag:(toString "max" ++toString ".loop" :String)="max.loop" :=by decide
  have ek:=F.entry_max_loop
 case' mn=>
  have pl:=ak;have ag:(toString "min" ++toString ".loop" :String)="min.loop" :=by decide
  have ek:=dJ
 all_goals
  have nw:S ∉ wr:=λz=>nS (W.sub _ z)
  have L:∀ {b:yR}{o:Obj},h0.get? b=some o->b ∉ wr/\b≠S:=λ{b o} e=>⟨λz=>(by rw[ow b z]at e;cases e),λz=>(by rw[z,oS]at e;cases e)⟩
  intro k
  induction k with
  |zero=>
   intro j s D c hk hj st Z at' mem G fin;obtain rfl:j=vs.length:=by lia
   cases D with
   |none=>exact absurd (G rfl) (YX _)
   |some b=>
    refine aI ek ?_;rw[aw pl _];show wpAny _ A.in1 (seqItems? (.ref S) >>=_) _ _ s;refine Y1 (ZI at' rfl ?_);show wpAny _ A.in1 (tryCatch (pyNext (.ref I)) _>>=_) _ _ s;refine Y1 (bg (W.done s _ _ st λh1 tk kept=>?_));show wpAny _ A.in1 (updateSeq S (λ_=> #[]) >>=_) _ _ _;refine Y1 (ZL (hz:=Kp _) (kept S _ nw at') rfl (Y1 (ao (Y6 ?_))));exact fin b _ tk (by rw[List.drop_length];rfl) λa o ha hS e=>(Zl _ _ (Zo hS)).trans (kept a o ha e)
  |succ k ih=>
   intro j s D c hk hj st Z at' mem G fin;have lt:j<vs.length:=by lia
   have dr:vs.drop j=vs[j]::vs.drop (j+1):=du lt;refine aI ek ?_;rw[aw pl _];show wpAny _ A.in1 (seqItems? (.ref S) >>=_) _ _ s;refine Y1 (ZI at' rfl ?_);show wpAny _ A.in1 (tryCatch (pyNext (.ref I)) _>>=_) _ _ s;refine Y1 (bg (W.item j s _ _ lt st λv h1 tk got i4 kept=>?_));have ev:v=vs[j]:=by rw[Y5 lt]at got;exact(Y9 got).symm
   have mv:v∈vs:=by rw[ev];exact bz lt
   have at1:=kept S _ nw at';have J:HS h0 h1:=λb o e=>kept b o (L e).1 (Z b o e)
   have next:=fun(h2:Heap) (i8 c2:Nat) (i7:h2.get? S=some (Ko (Kn (DG bt D v)) c2)) (k2:∀b o,b≠S->h1.get? b=some o->h2.get? b=some o)=>
    ih (j+1) { s with heap:=h2,toks:=i8} (DG bt D v) c2 (by lia) lt (W.frame _ _ _ i4 λb O o e=>k2 b o (λz=>nS (by rw[<-z];exact O)) e) (λb o e=>k2 b o (L e).2 (J b o e)) i7 (λb e=>by
     cases D with
     |none=>cases e;exact mv
     |some b0=>
      have e':(if bt v b0 then some v else some b0)=some b:=e;split at e'
      .cases e';exact mv
      .cases e';exact mem _ rfl) (λe=>absurd e Uj) λu h3 i6 e k3=>fin u h3 i6 (by rw[dr,eL,<-ev];exact e) λb o O hS q=>k3 b o O hS (k2 b o hS (kept b o O q))
   cases D with
   |none=>
    show wpAny _ A.in1 (updateSeq S (λ_=> #[v,v]) >>=_) _ _ _;refine Y1 (ZL (hz:=Kp _) at1 rfl ?_);rw[ag];exact Y6 ⟨ah pl _,next _ tk _ (Zp _ at1 rfl) λb o O e=>(Zl _ _ (Zo O)).trans e⟩
   |some b=>
    show wpAny _ A.in1 (tryCatch (holding [v,v] (richCompare _ v b>>=_)) _>>=_) _ _ _;refine Y1 (bg (ZD (Y1 (i5 v b _ mv (mem b rfl) J P w _ _ ?_))));refine Y1 (ZD (Zz (Y1 (ao (Y6 ?_)))));cases up:bt v b with
    |true=>
     have eb:DG bt (some b) v=some v:=(show(if bt v b then some v else some b)=_ from by rw[up];rfl);rw[YR rfl];refine Y1 (ZL (hz:=Kp _) at1 rfl (Y1 (ao ?_)));rw[ag];exact Y6 ⟨ah pl _,next _ tk _ (by rw[eb];exact Zp _ at1 rfl) λb o O e=>(Zl _ _ (Zo O)).trans e⟩
    |false=>
     have eb:DG bt (some b) v=some b:=(show(if bt v b then some v else some b)=_ from by rw[up];rfl);rw[YN YT];refine Y1 (ao ?_);rw[ag];exact Y6 ⟨ah pl _,next h1 tk c (by rw[eb];exact at1) λb o O e=>e⟩
theorem Ul{nm:String}(g:BOp op nm lp){P:yP}{w:yN}{A:yO}{E Q:VSP}{s:yS}{l:yR}{vs:yX}{bt:yU->yU->Bool}(hh:A.handled=none)(G:s.heap.IsList l vs.toArray)(ne:vs≠ [])
  (I:∀x y s',x∈vs->y∈vs->HS s.heap s'.heap->OrdAt op A.in1 s' x y (bt x y))
  (fin:∀v h tk,vs.foldl (DG bt) none=some v->(∀b o,s.heap.get? b=some o->h.get? b=some o)->Q v { s with heap:=h,toks:=tk}):wpAny (model P w) A (call (.builtin nm) [.ref l]) Q E s:=by
 cases g
 case' mx=>
  have pl:=F.plain_max_loop;have Z:(toString "max" ++toString ".loop" :String)="max.loop" :=by decide
  have k1:=F.kind_max;have D:=F.plain_max;have k3:=F.entry_max;have O:=λx=>F.args_max1 x
 case' mn=>
  have pl:=ak;have Z:(toString "min" ++toString ".loop" :String)="min.loop" :=by decide
  have k1:=F.kind_min;have D:=F.plain_min;have k3:=F.entry_min;have O:=λx=>F.args_min1 x
 all_goals
  refine call_function_tree k1 D k3 (O _) ?_;show wpAny _ A.in1 (Builtin.Builtins.bindParams _ ["key","default"] 0 ⟨[],[]⟩ >>=_) _ _ s;refine Y1 (bw (a:=[none,none]) rfl (Y1 (Y6 (Y1 ?_))));obtain⟨ol,J,_⟩:=id G;have lt:=Y8 J;refine aL G (Y1 (Zy ?_));rw[Z];dsimp only;have z1:(s.heap.push { cls:= .type "list_iterator",data:= .fields #[.ref l,.int 0 0]}).objs.size=s.heap.objs.size+1:=Zf ..;have c:∀a,s.heap.objs.size<=a->s.heap.get? a=none:=λa ha=>by
   cases e:s.heap.get? a with
   |none=>rfl
   |some o=>exact absurd (Y8 e) (Nat.not_lt.mpr ha)
  have L:∀b o,s.heap.get? b=some o->((s.heap.push { cls:= .type "list_iterator",data:= .fields #[.ref l,.int 0 0]}).push (Ko #[] 0)).get? b=some o:=λb o e=>Y2 _ (Y2 _ e)
  have sz:vs.toArray.size=vs.length:=by simp
  have W:=Walks.list (prog:=P) (w:=w) (A:=A.in1) hh s.heap.objs.size l (Z0 lt) vs.toArray;have eP:(fun(i:Nat) (v:yU)=>vs.toArray[i]? =some v)=(λi v=>vs[i]? =some v):=by funext i v;simp
  rw[sz,eP]at W;rw[z1];refine Y6 ⟨ah pl _,Uk (by constructor) (h0:=s.heap) (bt:=bt) (S:=s.heap.objs.size+1) W (λz=>by
   rcases YY.mp z with z | z
   .exact absurd z (bZ _)
   .exact absurd (Zc.mp z) (ZY (ZT lt))) (c _ (Zx _)) (λb hb=>by rw[Zc.mp hb];exact c _ (Y4 _)) I vs.length 0 _ none 0 rfl (Z6 _) ?_ L (by rw[<-z1];exact YL _ rfl) (λb e=>nomatch e) (λ_=>List.length_pos_iff.mpr ne) λv h tk e D=>fin v h tk e λb o q=>D b o (λz=>by rw[Zc.mp z,c _ (Y4 _)]at q;cases q) (λz=>by rw[z,c _ (Zx _)]at q;cases q) (L b o q)⟩
  exact⟨⟨_,Y2 _ (YL _ rfl),rfl,rfl⟩,G.at λo e=>L _ o e⟩
inductive Cmp:yQ->yQ->Prop
 |int (a b:Int):Cmp (.int a) (.int b)
 |row (as bs:yV):Cmp (.tuple (as.map .int)) (.tuple (bs.map .int))
def NO:∀(as:yV),PyData.canLayAll0 (as.map .int)=true/\PyData.hasDictAll (as.map .int)=false/\PyData.depthAll (as.map .int)=0
 |[]=>⟨rfl,rfl,rfl⟩
 |a::as=>by
  obtain⟨h1,h2,h3⟩:=NO as;refine⟨?_,?_,?_⟩
  .show PyData.canLayAll0 (.int a::as.map .int)=true;unfold PyData.canLayAll0;rw[h1];rfl
  .show PyData.hasDictAll (.int a::as.map .int)=false;unfold PyData.hasDictAll;rw[h2];rfl
  .show PyData.depthAll (.int a::as.map .int)=0;unfold PyData.depthAll;rw[h3];rfl
theorem Cmp.left{d e:yQ}(h:Cmp d e):d.canLay0=true/\d.hasDict=false/\d.depth<=1:=by
 cases h with
 |int a b=>exact⟨rfl,rfl,Z6 _⟩
 |row as bs=>
  obtain⟨D,g,c⟩:=NO as;refine⟨?_,?_,?_⟩
  .unfold PyData.canLay0;exact D
  .unfold PyData.hasDict;exact g
  .unfold PyData.depth;rw[c];exact Y4 _
theorem Cmp.symm{d e:yQ}(h:Cmp d e):Cmp e d:=by
 cases h with
 |int a b=>exact .int b a
 |row as bs=>exact .row bs as
theorem Gm:∀ {us:yX}{ds:List yQ}{as:List yR},ReadsAll h us ds as->us.length=ds.length
 |_,_,_,.nil=>rfl
 |_,_,_,.cons _ t=>by rw[Zh,Zh,Gm t]
theorem Es{u:yU}{ds:List yQ}{as:List yR}(r:Reads h u (.tuple ds) as):∃a vs,u= .ref a/\IsTup h a vs.toArray/\ReadsAll h vs ds as:=by
 cases r with
 |tuple e c d ra=>exact⟨_,_,rfl,⟨_,e,c,_,by rw[d]⟩,ra⟩
def HU(op:CmpOp)(last:Bool):yV->yV->Bool
 |a::as,b::bs=>if a=b then HU op last as bs else Km op a b
 |_,_=>last
theorem NP{op:CmpOp}{nm c:String}(g:BOp op nm c){A:yO}{s:yS}{last:Bool}:∀ {as bs:yV}{us ws:yX}{x y:List yR},ReadsAll s.heap us (as.map .int) x->ReadsAll s.heap ws (bs.map .int) y->D5 op A s last (us.zip ws) (HU op last as bs)
 |[],_,_,_,_,_,r,_=>by cases r;exact .none
 |_::_,[],_,_,_,_,r,q=>by cases q;rw[List.zip_nil_right];exact .none
 |a::as,b::bs,us,ws,x,y,r,q=>by
  cases r with
  |cons r1 r2=>
   cases q with
   |cons q1 q2=>
    cases r1 with
    |int i t=>
     cases q1 with
     |int j u=>
      rw[eV];unfold HU;split
      .rename_i e;subst e;refine .same ?_ (NP g r2 q2);have:=EqAt.int_int (A:=A) (s:=s) a t a u
       simpa using this
      .rename_i e;refine .unlike ?_ (OrdAt.ofI g a b t u);have:=EqAt.int_int (A:=A) (s:=s) a t b u;rw[show(a==b)=false from by simpa using e]at this;exact this
def Kq(op:CmpOp)(d e:yQ):Bool:=match d,e with
 |.int a,.int b=>Km op a b
 |.tuple xs,.tuple ys=>HU op (EW op xs.length ys.length) (xs.filterMap fun | .int i=>some i | _=>none) (ys.filterMap fun | .int i=>some i | _=>none)
 |_,_=>false
theorem Kr:∀(as:yV),((as.map PyData.int).filterMap fun | .int i=>some i | _=>none)=as
 |[]=>rfl
 |a::as=>by rw[ZA,aY];simp only;rw[Kr as]
theorem Um{nm:String}(g:BOp op nm lp){A:yO}{s:yS}{d e:yQ}{u v:yU}{x y:List yR}(h:Cmp d e)(r:Reads s.heap u d x)(q:Reads s.heap v e y)(O:A.units<cLine):OrdAt op A s u v (Kq op d e):=by
 cases h with
 |int a b=>
  cases r with
  |int i t=>
   cases q with
   |int j t'=>exact OrdAt.ofI g a b t t'
 |row as bs=>
  obtain⟨a,I,rfl,J,c⟩:=Es r;obtain⟨b,D,rfl,hb,G⟩:=Es q;have Z:I.length=as.length:=by have:=Gm c;rw[Y0]at this;exact this
  have L:D.length=bs.length:=by have:=Gm G;rw[Y0]at this;exact this
  refine OrdAt.ofT g J hb O ?_;have:=NP g (A:=A.in1) (last:=EW op I.length D.length) c G;unfold Kq;dsimp only;rw[Kr,Kr,Y0,Y0,<-Z,<-L]
  simpa using this
def HV(op:CmpOp)(last:Bool):List yQ->List yQ->Bool
 |d::ds,e::es=>if PyData.eqv d e then HV op last ds es else Kq op d e
 |_,_=>last
theorem NQ{nm:String}(g:BOp op nm lp){A:yO}{s:yS}{last:Bool}(I:A.units+5<cLine):∀ {ds es:List yQ}{us ws:yX}{x y:List yR},Paired Cmp ds es->ReadsAll s.heap us ds x->ReadsAll s.heap ws es y->D5 op A s last (us.zip ws) (HV op last ds es)
 |_,_,_,_,_,_,.nil,r,q=>by cases r;exact .none
 |d::ds,e::es,us,ws,x,y,.cons c t,r,q=>by
  cases r with
  |cons r1 r2=>
   cases q with
   |cons q1 q2=>
    rw[eV];obtain⟨G,L,Z⟩:=c.left;obtain⟨J,O,e3⟩:=c.symm.left;have D:=eqAt_reads d e A s _ _ _ _ r1 q1 G J (by lia);unfold HV;cases z:PyData.eqv d e with
    |true=>rw[z]at D;exact .same D (NQ g I t r2 q2)
    |false=>rw[z]at D;exact .unlike D (Um g c r1 q1 (by lia))
end L2
namespace MF
open L2
def Ks(T:TM):Nat->yV->Int
 |_,[]=>0
 |h,p::r=>Do T h p (r.headD 0)+Ks T (h+1) r
def HW(T:TM)(c:yV):Prop:=∀x∈c,x∈0::T.co
structure Uo(T:TM)(h:Nat)(x f:Int)(ps:yV):Prop where
 len:ps.length=T.ds.length-h
 val:f=Ks T h ps
 hd:ps.headD 0=x
 as:HW T ps
 Ay:∀qs:yV,qs.length=T.ds.length-h->HW T qs->qs.headD 0=x->Ks T h qs<=f
def Up(T:TM)(h:Nat)(x:Int):Prop:=if h=T.ds.length then x=0 else x∈0::T.co
structure HiFl(T:TM)(f:Int)(ps:yV):Prop where
 val:f=Fw T ps
 len:ps.length=T.ds.length
 as:HW T ps
 Ay:∀qs:yV,qs.length=T.ds.length->HW T qs->Fw T qs<=f
abbrev EX(f:Int)(c:yV):yQ:= .tuple [.int f,AN c]
structure TailsAt(p:yR)(H:Hp)(T:TM)(h:Nat)(kvs:KL):Prop where
 one:∀q∈kvs,∃x f ps,q.1= .inl x/\Aa p H (EX f ps) q.2/\Uo T h x f ps
 all:∀x,Up T h x->∃q∈kvs,q.1= .inl x
theorem Uq{ks:KL}{k:AE}{v:V}:(k,v)∈CK ks k v:=by
 unfold CK;split
 .rename_i z;obtain⟨q,g,e⟩:=any_eq_true.mp z;have c:q.1=k:=Z3 e;exact Z8.mpr ⟨q,g,by rw[YR c,c]⟩
 .exact YZ _ (Zc.mpr rfl)
end MF
namespace L2
variable{h:Heap}
def C8(op:CmpOp)(q c:Int×List yQ):Bool:=HV op (EW op (PyData.int q.1::q.2).length (PyData.int c.1::c.2).length) (.int q.1::q.2) (.int c.1::c.2)
def Gn(op:CmpOp)(fs:List (Int×List yQ)):Option (Int×List yQ):=fs.foldl (λb q=>match b with | none=>some q | some c=>if C8 op q c=true then some q else some c) none
theorem NR:∀ {us:yX}{as bs:yV}{x y:List yR},ReadsAll h us (as.map .int) x->ReadsAll h us (bs.map .int) y->as=bs
 |us,[],[],_,_,_,_=>rfl
 |us,[],b::bs,_,_,r,q=>by
  cases us with
  |nil=>cases q
  |cons u us=>cases r
 |us,a::as,[],_,_,r,q=>by
  cases us with
  |nil=>cases r
  |cons u us=>cases q
 |us,a::as,b::bs,_,_,r,q=>by
  cases r with
  |cons r1 r2=>
   cases q with
   |cons q1 q2=>
    cases r1;cases q1;rw[NR r2 q2]
theorem Ur{u:yU}{d e:yQ}{x y:List yR}(c:∃d',Cmp d d')(D:∃g,Cmp e g)(r:Reads h u d x)(q:Reads h u e y):d=e:=by
 obtain⟨d',c⟩:=c;obtain⟨g,D⟩:=D;cases c with
 |int a _=>
  cases r with
  |int i t=>
   cases D with
   |int b _=>cases q;rfl
   |row bs _=>cases q
 |row as _=>
  obtain⟨l,us,rfl,hl,L⟩:=Es r;cases D with
  |int b _=>cases q
  |row bs _=>
   obtain⟨l',O,g,I,rb⟩:=Es q;cases g;obtain⟨o1,g1,c1,n1,Z⟩:=hl;obtain⟨o2,J,c2,n2,G⟩:=I;rw[g1]at J;cases J;rw[Z]at G;have e1:us=O:=by injection G with G _;simpa using G
   subst e1;rw[NR L rb]
theorem NS:∀ {us:yX}{ds es fs gs:List yQ}{x y:List yR},Paired Cmp ds fs->Paired Cmp es gs->ReadsAll h us ds x->ReadsAll h us es y->ds=es
 |[],ds,es,_,_,x,y,c,c',r,q=>by cases r;cases q;rfl
 |u::us,ds,es,_,_,x,y,c,c',r,q=>by
  cases r with
  |cons r1 r2=>
   cases q with
   |cons q1 q2=>
    cases c with
    |cons c1 c2=>
     cases c' with
     |cons d1 d2=>rw[Ur ⟨_,c1⟩ ⟨_,d1⟩ r1 q1,NS c2 d2 r2 q2]
theorem Kt{op:CmpOp}{nm lp:String}(g:BOp op nm lp){X:Cx}{k:Nat}(hc:X.calm=true)(hr:AQ k X.A):BJ X (.builtin nm) (λxs H Q=>∃(p l:yR) (fs:List (Int×List yQ)) (vs:List V),xs=[.ref l]/\H l=some (.lst vs)/\Ac p H (fs.map λq=> .tuple (.int q.1::q.2)) vs/\fs≠ []/\(∀q∈fs,∀q'∈fs,Paired Cmp q.2 q'.2)/\
  ∀(i:Nat) q v,fs[i]? =some q->vs[i]? =some v->Gn op fs=some q->Q v H):=by
 intro ad s σ H xs us Q I r h;obtain⟨p,l,fs,vs,rfl,hl,rs,ne,cm,q⟩:=h;obtain⟨u,rfl,ru⟩:=r.one;cases ru;obtain⟨D,rv,pl,hz⟩:=I.list (Al.of hl);have un:=hr.un;have lv:=rv.length;have lf:=rs.len;rw[Y0]at lf;have O:∀(i:Nat) (x:yU),D[i]? =some x->∃q v as,fs[i]? =some q/\vs[i]? =some v/\Az v x/\Reads s.heap x (.tuple (.int q.1::q.2)) as:=λi x hx=>by
  have hi:=(Y3.mp hx).1;have G:fs[i]? =some fs[i]:=Y5 (by lia);obtain⟨v,hv,rep⟩:=rs.get (i:=i) (d:= .tuple (.int (fs[i]).1::(fs[i]).2)) (by rw[YO,G];rfl);obtain⟨x',i7,rx⟩:=rv.get hv;rw[hx]at i7;cases i7;have mem:=bz (l:=fs) (n:=i) (by lia);have nd:(PyData.tuple (.int (fs[i]).1::(fs[i]).2)).hasDict=false:=by
   have:=cm _ mem _ mem;generalize(fs[i]).2=ds at this;have all:∀ {ds es:List yQ},Paired Cmp ds es->PyData.hasDictAll ds=false:=by
    intro ds es t
    induction t with
    |nil=>rfl
    |cons c _ ih=>unfold PyData.hasDictAll;rw[c.left.2.1,ih];rfl
   unfold PyData.hasDict PyData.hasDictAll;rw[all this];rfl
  obtain⟨as,rr⟩:=Aa.reads I _ v x nd rep rx;exact⟨_,v,as,G,hv,rx,rr⟩
 have one:∀x:yU,∃q:Int×List yQ,∀(i:Nat) q',D[i]? =some x->fs[i]? =some q'->q'=q:=λx=>by
  by_cases z:∃i:Nat,D[i]? =some x
  .obtain⟨i,hi⟩:=z;obtain⟨q,v,as,G,_,_,r⟩:=O i x hi;refine⟨q,λj q' hj i5=>?_⟩;obtain⟨L,v2,j6,i6,_,_,r2⟩:=O j x hj;rw [i5] at i6;cases i6;obtain⟨a,us,rfl,i9,ra⟩:=Es r;obtain⟨b,ws,e,i8,rb⟩:=Es r2;cases e;obtain⟨o1,g1,c1,n1,d1⟩:=i9;obtain⟨o2,g2,c2,n2,d2⟩:=i8;rw [g1] at g2;cases g2;rw [d1] at d2;have e1:us=ws:=by injection d2 with d2 _;simpa using d2
   subst e1;have m1:=YU G;have m2:=YU i5;have:=NS (.cons (.int _ 0) (cm _ m2 _ m2)) (.cons (.int _ 0) (cm _ m1 _ m1)) rb ra;injection this with t1 t2
   injection t1 with t1
   exact Prod.ext t1 t2
  .exact⟨(0,[]),λi _ h=>absurd ⟨i,h⟩ z⟩
 obtain⟨f,G⟩:=Classical.axiomOfChoice one;have j5:D≠ []:=λz=>ne (Zr (by rw[z]at lv;have l0:vs.length=0:=lv;lia))
 refine Ul g (bt:=λx y=>C8 op (f x) (f y)) (I.ok.hd hc) pl.isList j5 (λx y s' mx my J=>?_) λv h tk e kept=>?_
 .obtain⟨i,hi⟩:=ZX mx;obtain⟨j,hj⟩:=ZX my;obtain⟨q1,_,a1,f1,_,_,r1⟩:=O i x hi;obtain⟨L,_,a2,f2,_,_,r2⟩:=O j y hj;rw[<-G x i q1 hi f1,<-G y j L hj f2];have pc:Paired Cmp (.int q1.1::q1.2) (.int L.1::L.2):= .cons (.int _ _) (cm q1 (YU f1) L (YU f2));obtain⟨c1,us,j4,h1,ra⟩:=Es (Reads.keeps J r1);obtain⟨c2,ws,j3,h2,rb⟩:=Es (Reads.keeps J r2);rw[j4,j3];refine OrdAt.ofT g h1 h2 (by simp only[Around.in1_units];lia) ?_;have l1:=Gm ra;have l2:=Gm rb;have:=NQ g (A:=X.A.in1.in1) (s:=s') (last:=EW op (PyData.int q1.1::q1.2).length (PyData.int L.1::L.2).length) (by simp only[Around.in1_units];lia) pc ra rb;unfold C8;rw[<-l1,<-l2]at this ⊢
  simpa using this
 have go:∀(n:Nat) (hn:n<=D.length),∃o:Option Nat,((D.take n).foldl (DG λx y=>C8 op (f x) (f y)) none=o.bind λi=>D[i]?)/\((fs.take n).foldl (λb q=>match b with | none=>some q | some c=>if C8 op q c=true then some q else some c) none=o.bind λi=>fs[i]?)/\∀i,o=some i->i<D.length:=by
  intro n
  induction n with
  |zero=>intro _;exact⟨none,rfl,rfl,λi h=>by cases h⟩
  |succ n ih=>
   intro hn;obtain⟨o,h1,h2,h3⟩:=ih (by lia);have gi:D[n]? =some D[n]:=Y5 (by lia);obtain⟨qn,vn,an,fn,_,_,_⟩:=O n D[n] gi;have en:=G D[n] n qn gi fn;rw[cH,gi,cH,fn,fg,fg,h1,h2];cases o with
   |none=>exact⟨some n,gi.symm,fn.symm,λi h=>by cases h;lia⟩
   |some i=>
    have li:=h3 i rfl;have ki:D[i]? =some D[i]:=Y5 li;obtain⟨Z,vi,ai,fi,_,_,_⟩:=O i D[i] ki;have ei:=G D[i] i Z ki fi;show ∃o:Option Nat,_;simp only[Option.bind_some,ki,fi]
    by_cases c:C8 op qn Z=true
    .refine⟨some n,?_,?_,λj h=>by cases h;lia⟩
     .show DG (λx y=>C8 op (f x) (f y)) (some D[i]) D[n]=D[n]?;rw[gi];show(if C8 op (f D[n]) (f D[i])=true then some D[n] else some D[i])=_;rw[<-en,<-ei,YR c]
     .show(if C8 op qn Z=true then some qn else some Z)=fs[n]?;rw[YR c,fn]
    .refine⟨some i,?_,?_,λj h=>by cases h;exact li⟩
     .show DG (λx y=>C8 op (f x) (f y)) (some D[i]) D[n]=D[i]?;rw[ki];show(if C8 op (f D[n]) (f D[i])=true then some D[n] else some D[i])=_;rw[<-en,<-ei,YN c]
     .show(if C8 op qn Z=true then some qn else some Z)=fs[i]?;rw[YN c,fi]
 obtain⟨o,g1,g2,g3⟩:=go D.length (Y4 _);rw[ZR]at g1;rw[YS (by lia)]at g2;rw[g1]at e;cases o with
 |none=>cases e
 |some i=>
  have e':D[i]? =some v:=e;obtain⟨qq,vv,as,i4,j0,rx,rr⟩:=O i v e';exact⟨vv,H,I.kept kept,rx,q i qq vv i4 j0 (g2.trans i4)⟩
end L2
namespace MF
open L2
theorem Us{n f l:Nat}(h:f<=l)(c:l<n):(f,l)∈Cg n n:=by
 unfold Cg;refine mem_flatten.mpr ⟨Dn f (n-f),Z8.mpr ⟨f,ZM.mpr (by lia),rfl⟩,?_⟩;unfold Dn;exact Z8.mpr ⟨l-f,ZM.mpr (by lia),by show(f,f+(l-f))=(f,l);rw[show f+(l-f)=l by lia]⟩
theorem no_str{T:TM}:Bz T=none↔ ∀f l,f<=l->l<T.ds.length->C5 T f l=false:=by
 unfold Bz;rw[List.head?_eq_none_iff];unfold C6;rw[List.filter_eq_nil_iff];constructor
 .intro h f l D G;have:=h (f,l) (Us D G)
  simpa using this
 .intro h q I;obtain⟨c,g⟩:=HG (Y4 _) q I;rw[h q.1 q.2 c g];exact YT
theorem NT:∀ {xs ys:yV},xs.length=ys.length->(∀i,xs.getD i 0<=ys.getD i 0)->xs.sum<=ys.sum
 |[],[],_,_=>ZS _
 |[],_::_,h,_=>by simp at h
 |_::_,[],h,_=>by simp at h
 |x::xs,y::ys,h,g=>by
  have h0:x<=y:=g 0;have:=NT (xs:=xs) (ys:=ys) (by simpa using h) λi=>g (i+1)
  rw[bK,bK];lia
theorem Ku{c:Type}{xs:List c}{k i:Nat}{x d:c}(g:k<xs.length):(xs.set k x).getD i d=if i=k then x else xs.getD i d:=by
 rw[Y7,List.getElem?_set,Y7]
 by_cases z:k=i
 .rw[YR z,YR (by lia),YR z.symm];rfl
 .rw[YN z,YN (λe=>z e.symm)]
theorem Ut{P:PL}{S:SY}(ok:P.ok)(so:S.ok P.bs.length){f:Nat}:∀k,f+k<=S.ex.length->Be P S (caps P S) (f+k)<=B5 (terms P S) f k:=λk=>by
 induction k with
 |zero=>
  intro _;show Be P S (caps P S) (f+0)<=(if f=0 then P.st else P.hi);cases f with
  |zero=>exact ZS _
  |succ f=>
   rw[YN (by lia)];show Be P S (caps P S) (f+1)<=P.hi;rw[Ep];unfold C3;split<;>lia
 |succ k ih=>
  intro c;have g:=ih (by lia);have e:B5 (terms P S) f (k+1)=B5 (terms P S) f k+made (caps P S) (f+k)-Ct P S (f+k):=rfl;rw[e,show f+(k+1)=f+k+1 by lia,Ep];unfold Bx C3;split<;>lia
theorem Uu{P:PL}{S:SY}:∀l,∃f,f<=l/\Be P S (caps P S) l=B5 (terms P S) f (l-f):=λl=>by
 induction l with
 |zero=>exact⟨0,Y4 _,rfl⟩
 |succ l ih=>
  obtain⟨f,g,e⟩:=ih
  by_cases z:0>Bx P S (caps P S) l-P.hi
  .refine⟨f,by lia,?_⟩;have c:B5 (terms P S) f (l-f+1)=B5 (terms P S) f (l-f)+made (caps P S) (f+(l-f))-Ct P S (f+(l-f)):=rfl;rw[Ep,show l+1-f=l-f+1 by lia,c,<-e,show f+(l-f)=l by lia];unfold C3;rw[YR z];unfold Bx;lia
  .refine⟨l+1,Y4 _,?_⟩;rw[fh];show _=(if l+1=0 then P.st else P.hi);rw[YN (by lia),Ep];unfold C3;rw[YN z];lia
theorem Uv{P:PL}{S:SY}(ok:P.ok)(so:S.ok P.bs.length):(∀i,i<S.ex.length->P.lo<=Bx P S (caps P S) i) ↔Bz (terms P S)=none:=by
 have tk:=Gf (P:=P) so;have ld:(terms P S).ds.length=S.ex.length:=Cs;rw[no_str];constructor
 .intro h f l G c;rw[ld]at c;rw[<-Nn tk G (by rw[ld];exact c)];unfold HH;refine Zu ?_;have g:=h l c;have D:=Ut ok so (f:=f) (l-f) (by lia);rw[show f+(l-f)=l by lia]at D;have I:B5 (terms P S) f (l-f+1)=B5 (terms P S) f (l-f)+made (caps P S) (f+(l-f))-Ct P S (f+(l-f)):=rfl;rw[show l+1-f=l-f+1 by lia,I,show f+(l-f)=l by lia];unfold Bx at g;show ¬_<P.lo;lia
 .intro h l c;obtain⟨f,G,e⟩:=Uu (P:=P) (S:=S) l;have g:=h f l G (by rw[ld];exact c);rw[<-Nn tk G (by rw[ld];exact c)]at g;unfold HH at g;have D:=aa g;have I:B5 (terms P S) f (l-f+1)=B5 (terms P S) f (l-f)+made (caps P S) (f+(l-f))-Ct P S (f+(l-f)):=rfl;rw[show l+1-f=l-f+1 by lia,I,show f+(l-f)=l by lia,<-e]at D;unfold Bx;have:¬_<P.lo:=D;lia
variable{hour:Nat}{T:TM}
def D7(x:Int):yV->Int
 |[]=>x
 |y::ys=>if D7 y ys<x then D7 y ys else x
theorem Kv(x:Int):∀ys,D7 x ys∈x::ys
 |[]=>Z1
 |y::ys=>by
  unfold D7;split
  .exact Z4 _ (Kv y ys)
  .exact Z1
theorem NU(x:Int):∀ys,∀a∈x::ys,D7 x ys<=a
 |[],a,h=>by rw[Zc.mp h];exact ZS _
 |y::ys,a,h=>by
  have l:=NU y ys;unfold D7;rcases YY.mp h with rfl | h
  .split<;>lia
  .have:=l a h;split<;>lia
def DH(ms:yV)(hi:Int)(at' hour:Nat):Int:=
 match((ms.take hour).drop at').map (hi- ·) with
 |[]=>hi-ms.getD hour 0
 |x::xs=>D7 x xs
theorem Uw{ms:yV}{hi:Int}{a:Nat}{M:Int}(c:M∈((ms.take hour).drop a).map (hi- ·))(g:∀x∈((ms.take hour).drop a).map (hi- ·),M<=x):M=DH ms hi a hour:=by
 unfold DH;cases e:((ms.take hour).drop a).map (hi- ·) with
 |nil=>rw[e]at c;cases c
 |cons x xs=>
  rw[e]at c g;exact Int.le_antisymm (g _ (Kv x xs)) (NU x xs _ c)
theorem Ux{ms:yV}{hi:Int}{a:Nat}(h:((ms.take hour).drop a).map (hi- ·)=[]):DH ms hi a hour=hi-ms.getD hour 0:=by unfold DH;rw[h]
theorem Uy{ms:yV}{hi:Int}{a:Nat}(L:hour<ms.length)(D:∀k,a<=k->k<hour->ms.getD k 0<hi)(J:ms.getD hour 0<hi):0<DH ms hi a hour:=by
 unfold DH;cases e:((ms.take hour).drop a).map (hi- ·) with
 |nil=>show 0<hi-ms.getD hour 0;lia
 |cons x xs=>
  show 0<D7 x xs;have m:=Kv x xs;rw[<-e]at m;obtain⟨y,G,I⟩:=Z8.mp m;obtain⟨j,c⟩:=ZX G;rw[aU,eW]at c;split at c
  .rename_i lt;have:=D (a+j) (by lia) lt;have g:ms.getD (a+j) 0=y:=by rw [Y7,c];rfl
   rw[g]at this;have O:hi-y=D7 x xs:=I;lia
  .cases c
structure Gr(T:TM)(f:yZ)(ms:yV):Prop where
 lf:f.length=T.ds.length
 row:∀i,i<f.length->(f.getD i []).length=T.co.length
 bd:∀i b,i<f.length->b<T.co.length->0<=(f.getD i []).getD b 0/\(f.getD i []).getD b 0<=(T.cs.getD i []).getD b 0
 lm:ms.length=T.ds.length
 ms:∀k,k<ms.length->ms.getD k 0=(if k=0 then T.st else ms.getD (k-1) 0)+(f.getD k []).sum-T.ds.getD k 0
def CS(T:TM)(f:yZ)(ms:yV)(c a b:Nat):Prop:=(f.getD a []).getD b 0<(T.cs.getD a []).getD b 0/\0<DH ms T.hi a c
theorem Uz(fl:CQ T){f:yZ}{ms:yV}(g:Gr T f ms){a:Nat}(D:a<f.length)(h:∀b,b<T.co.length->¬(f.getD a []).getD b 0<(T.cs.getD a []).getD b 0):(T.cs.getD a []).sum<=(f.getD a []).sum:=by
 have lc:(T.cs.getD a []).length=T.co.length:=(fl.c _ (getD_mem (by rw[fl.ok.lc,<-g.lf];exact D))).1;refine NT (by rw[lc,g.row a D]) λi=>?_
 by_cases hi:i<T.co.length
 .exact Int.not_lt.mp (h i hi)
 .rw[Y7,Zn (by lia),Y7,Zn (by rw[g.row a D];lia)];exact ZS _
theorem UA(fl:CQ T)(lh:T.lo<=T.hi)(no:Bz T=none){f:yZ}{ms:yV}(g:Gr T f ms){D:Nat}(hh:D<ms.length)(i4:ms.getD D 0<T.lo):∃a b,a<=D/\b<T.co.length/\CS T f ms D a b:=by
 apply Classical.byContradiction;intro none;have all:∀a,a<=D->(∀k,a<=k->k<D->ms.getD k 0<T.hi)->(T.cs.getD a []).sum<=(f.getD a []).sum:=λa ha G=>Uz fl g (by rw[g.lf,<-g.lm];lia) λb hb lt=>none ⟨a,b,ha,hb,lt,Uy hh G (by lia)⟩
 have I:∀n,n<=D->(∀k,n<=k->k<D->ms.getD k 0<T.hi)->∃j,j<=D/\(∀k,j<=k->k<D->ms.getD k 0<T.hi)/\(if j=0 then T.st else T.hi)<=(if j=0 then T.st else ms.getD (j-1) 0):=λn=>by
  induction n with
  |zero=>intro _ G;exact⟨0,Z6 _,G,by rw[YR rfl,YR rfl];exact ZS _⟩
  |succ n ih=>
   intro hn G
   by_cases c:ms.getD n 0<T.hi
   .refine ih (by lia) λk Z J=>?_
    by_cases e:k=n
    .rw[e];exact c
    .exact G k (by lia) J
   .exact⟨n+1,hn,G,by rw[YN (by lia),YN (by lia),Nat.add_sub_cancel];lia⟩
 obtain⟨j,O,G,hp⟩:=I D (Y4 _) (λk Z J=>by lia);have up:∀i,j+i<=D->B5 T j (i+1)<=ms.getD (j+i) 0:=λi=>by
  induction i with
  |zero=>
   intro hi;have e:=g.ms j (by lia);have fu:=all j O G;show B5 T j 0+(T.cs.getD (j+0) []).sum-T.ds.getD (j+0) 0<=ms.getD (j+0) 0;rw[Nat.add_zero,e];have t0:B5 T j 0=(if j=0 then T.st else T.hi):=rfl;lia
  |succ i ih=>
   intro hi;have e:=g.ms (j+(i+1)) (by lia);rw[YN (by lia),show j+(i+1)-1=j+i by lia]at e;have fu:=all (j+(i+1)) hi λk Z J=>G k (by lia) J
   have:=ih (by lia);show B5 T j (i+1)+(T.cs.getD (j+(i+1)) []).sum-T.ds.getD (j+(i+1)) 0<=_;rw[e];lia
 have Ay:=up (D-j) (by lia);rw[show j+(D-j)=D by lia]at Ay;have l1:D<T.ds.length:=by rw[<-g.lm];exact hh
 have L:=(no_str.mp no) j D O l1;have te:=Kc fl.ok (f:=j) (D+1-j) (by lia);rw[show D-j+1=D+1-j by lia]at Ay;unfold C5 at L;have:=aa L;unfold most Kb at this;unfold part at this;rw[te]at Ay;lia
def Cu(ms:yV)(a e:Nat)(m:Int):yV:=(List.range ms.length).map λk=>if a<=k/\k<e then ms.getD k 0+m else ms.getD k 0
theorem EY{ms:yV}{a e:Nat}{m:Int}:(Cu ms a e m).length=ms.length:=by unfold Cu;rw[Y0,af]
theorem Go{ms:yV}{a e:Nat}{m:Int}{k:Nat}(h:k<ms.length):(Cu ms a e m).getD k 0=if a<=k/\k<e then ms.getD k 0+m else ms.getD k 0:=by
 unfold Cu;rw[Y7,YO,ae h]
 rfl
theorem UB{ms:yV}{a:Nat}{m:Int}:Cu ms a a m=ms:=by
 refine dL λk=>?_
 by_cases h:k<ms.length
 .unfold Cu;rw[YO,ae h,Y5 h];show some (if a<=k/\k<a then _ else ms.getD k 0)=_;rw[YN (by lia),Y7,Y5 h];rfl
 .rw[Zn (by rw[EY];lia),Zn (by lia)]
theorem UC{ms:yV}{a e:Nat}{m:Int}(I:a<=e)(D:e<ms.length):(Cu ms a e m).set e ((Cu ms a e m).getD e 0+m)=Cu ms a (e+1) m:=by
 refine dL λk=>?_
 by_cases h:k<ms.length
 .have G:=Go (a:=a) (e:=e) (m:=m) D;rw[YN (by lia)]at G;rw[List.getElem?_set,EY,G];unfold Cu;rw[YO,YO,ae h]
  by_cases c:e=k
  .subst c;rw[YR rfl,YR D];show some _=some (if _ then _ else _);rw[YR ⟨I,by lia⟩]
  .rw [YN c];show some (if _ then _ else _)=some (if _ then _ else _)
   by_cases g:a<=k/\k<e
   .rw[YR g,YR ⟨g.1,by lia⟩]
   .rw[YN g,YN (λz=>g ⟨z.1,by lia⟩)]
 .rw[Zn (by rw[dq,EY];lia),Zn (by rw[EY];lia)]
theorem UD{r:yV}:∀ {k:Nat}{x:Int},k<r.length->(r.set k x).sum=r.sum+x-r.getD k 0:=by
 induction r with
 |nil=>intro k x h;exact absurd h (bF _)
 |cons y r ih=>
  intro k x h;cases k with
  |zero=>show x+r.sum=y+r.sum+x-y;lia
  |succ k=>
   have:=ih (k:=k) (x:=x) (Nat.lt_of_succ_lt_succ h);show y+(r.set k x).sum=y+r.sum+x-r.getD k 0;lia
def EZ(f:yZ)(a b:Nat)(m:Int):yZ:=f.set a ((f.getD a []).set b ((f.getD a []).getD b 0+m))
theorem Gr.more{f:yZ}{ms:yV}(g:Gr T f ms){a b:Nat}{m:Int}(I:a<f.length)(Z:b<T.co.length)(m0:0<=m)(m1:m<=(T.cs.getD a []).getD b 0-(f.getD a []).getD b 0):Gr T (EZ f a b m) (Cu ms a ms.length m):=by
 have J:=g.row a I;have at1:∀i,(EZ f a b m).getD i []=if i=a then(f.getD a []).set b ((f.getD a []).getD b 0+m) else f.getD i []:=λi=>Ku I
 have D:(EZ f a b m).length=f.length:=dq;refine⟨by rw[D];exact g.lf,λi hi=>?_,λi c hi hc=>?_,by rw[EY];exact g.lm,λk G=>?_⟩
 .rw[at1];split
  .rw[dq];exact J
  .exact g.row i (by rw[<-D];exact hi)
 .rw[at1];split
  .rename_i e;subst e;rw [Ku (by rw [J];exact Z)];have o:=g.bd i c I hc;have ob:=g.bd i b I Z;split
   .rename_i e;subst e;lia
   .exact o
  .exact g.bd i c (by rw[<-D];exact hi) hc
 .rw[EY]at G;have e:=g.ms k G;rw[Go G,at1];have sm:((f.getD a []).set b ((f.getD a []).getD b 0+m)).sum=(f.getD a []).sum+m:=by rw[UD (by rw[J];exact Z)];lia
  by_cases k0:k=0
  .subst k0;rw [YR rfl] at e ⊢
   by_cases L:0=a
   .rw[YR L,sm,YR ⟨by lia,G⟩,e,<-L];lia
   .rw[YN L,YN (by lia),e]
  .rw [YN k0] at e ⊢;rw [Go (by lia:k-1<ms.length)]
   by_cases O:k=a
   .rw[YR O,sm,YR ⟨by lia,G⟩,YN (by lia),e,<-O];lia
   .rw [YN O]
    by_cases lt:a<=k
    .rw[YR ⟨lt,G⟩,YR ⟨by lia,by lia⟩,e];lia
    .rw[YN (by lia),YN (by lia),e]
end MF
namespace L2
def UE(P:Nat->yU->Prop)(val:Nat->Int)(j:Nat)(c:Array yU):Prop:=
 (j=0/\c= #[])\/ ∃i v,i<j/\P i v/\c= #[v,v]/\∀k,k<j->val i<=val k
def NV(P:Nat->yU->Prop)(val:Nat->Int)(n:Nat)(d r:yU):Prop:=(n=0/\r=d)\/ ∃i,i<n/\P i r/\∀k,k<n->val i<=val k
section
variable{prog:yP}{w:yN}{A:yO}{R:Result -> yS -> Prop}{I:yR}{fp wr:List yR}{n:Nat}{P:Nat -> yU -> Prop}{St:Nat -> Heap -> Prop}
theorem UF(W:Walks prog w A.in1 I fp wr n P St)(val:Nat->Int)(hv:∀i v,P i v->∃t,v= .int (val i) t)(d:yU)(B:yR)(nB:B ∉ fp):
  ∀(left j:Nat) (s:yS) (O:Array yU) (c:Nat),j+left=n->St j s.heap->s.heap.get? B=some { cls:= .type "list",dict:=none,data:= .seq O c,slots:= #[]}->UE P val j O->
  (∀r h' tk,NV P val n d r->(∀b o,b ∉ wr->b≠B->s.heap.get? b=some o->h'.get? b=some o)->R (.ok (.ret r)) { s with heap:=h',toks:=tk})->
  codeAny (model prog w) A (.builtin "min.loop" ⟨[.ref I,.none,.ref B],[("default",d)]⟩) R s:=by
 have nw:B ∉ wr:=λz=>nB (W.sub _ z)
 have nm:(toString "min" ++toString ".loop" :String)="min.loop" :=by decide
 intro left
 induction left with
 |zero=>
  intro j s O c e st G pb k0;have ej:j=n:=by lia
  subst ej;refine aI dJ ?_;rw[aw ak _];show wpAny _ A.in1 (seqItems? (.ref B) >>=_) _ _ s;refine Y1 (ZI G rfl ?_);show wpAny _ A.in1 (tryCatch (pyNext (.ref I)) _>>=_) _ _ s;refine Y1 (bg (W.done s _ _ st λh1 i4 g=>?_));have at1:=g B _ nw G;rcases pb with⟨e0,rfl⟩ | ⟨i,v,hi,pv,rfl,le⟩
  .show wpAny _ A.in1 (rule _>>=_) _ _ _;refine Y1 (bP (Y6 (k0 d _ i4 (.inl ⟨e0,rfl⟩) λb o b1 L J=>g b o b1 J)))
  .show wpAny _ A.in1 (updateSeq B (λ_=> #[]) >>=_) _ _ _;refine Y1 (ZL at1 rfl (Y1 (ao (Y6 ?_))));exact k0 v _ i4 (.inr ⟨i,hi,pv,le⟩) λb o b1 L J=>(Zl _ _ (Zo L)).trans (g b o b1 J)
 |succ left ih=>
  intro j s O c e st G pb k0;refine aI dJ ?_;rw[aw ak _];show wpAny _ A.in1 (seqItems? (.ref B) >>=_) _ _ s;refine Y1 (ZI G rfl ?_);show wpAny _ A.in1 (tryCatch (pyNext (.ref I)) _>>=_) _ _ s;refine Y1 (bg (W.item j s _ _ (by lia) st λv h1 i4 pv Z g=>?_));have at1:=g B _ nw G;have up:∀ {hp:Heap}{f:Obj->Obj},∀b∈fp,∀o,hp.get? b=some o->(hp.update B f).get? b=some o:=λb bf o J=>(Zl _ _ (λz:B=b=>nB (z ▸ bf))).trans J
  rcases pb with⟨e0,rfl⟩ | ⟨i,u,hi,pu,rfl,le⟩
  .show wpAny _ A.in1 (updateSeq B (λ_=> #[v,v]) >>=_) _ _ _;refine Y1 (ZL at1 rfl ?_);rw [nm];refine Y6 ⟨ah ak _,ih (j+1) _ #[v,v] _ (by lia) (W.frame _ _ _ Z up) (Zp _ at1 rfl) (.inr ⟨j,v,by lia,pv,rfl,λk hk=>?_⟩) λr h' tk t D=>?_⟩
   .have:k=j:=by lia
    rw[this];exact ZS _
   .exact k0 r h' tk t λb o b1 L J=>D b o b1 L ((Zl _ _ (Zo L)).trans (g b o b1 J))
  .show wpAny _ A.in1 (tryCatch (holding [v,v] (richCompare .Lt v u>>=_)) _>>=_) _ _ _;refine Y1 (bg (ZD (Y1 (CmpOf.ints_lt val hv j i v u _ _ _ pv pu ?_))));refine Y1 (ZD (Zz ?_));refine Y1 (ao (Y6 ?_))
   by_cases lt:val j<val i
   .rw [YR (show(λi j=>decide (val i<val j)) j i=true from ZE lt)];refine Y1 (ZL at1 rfl (Y1 (ao ?_)));rw [nm];refine Y6 ⟨ah ak _,ih (j+1) _ #[v,v] _ (by lia) (W.frame _ _ _ Z up) (Zp _ at1 rfl) (.inr ⟨j,v,by lia,pv,rfl,λk hk=>?_⟩) λr h' tk t D=>?_⟩
    .by_cases ek:k=j
     .rw[ek];exact ZS _
     .have:=le k (by lia);lia
    .exact k0 r h' tk t λb o b1 L J=>D b o b1 L ((Zl _ _ (Zo L)).trans (g b o b1 J))
   .rw [YN (show ¬(λi j=>decide (val i<val j)) j i=true from λz=>lt (Z3 z))];refine Y1 (ao ?_);rw [nm];refine Y6 ⟨ah ak _,ih (j+1) _ #[u,u] c (by lia) Z at1 (.inr ⟨i,u,by lia,pu,rfl,λk hk=>?_⟩) λr h' tk t D=>?_⟩
    .by_cases ek:k=j
     .rw[ek];lia
     .exact le k (by lia)
    .exact k0 r h' tk t λb o b1 L J=>D b o b1 L (g b o b1 J)
end
theorem UG(a d:yU):argsOk "min" ⟨[a],[("default",d)]⟩:=by unfold argsOk;kernel_rfl
section
variable{prog:yP}{w:yN}{A:yO}{E:yY}{s:yS}
theorem UH{l:yR}{c:Array yU}{ns:yV}{d:yU}{Q:VSP}(J:A.handled=none)(D:s.heap.IsList l c)(hi:IntsAre c.toList ns)
  (h:∀r h' tk,NV (λi v=>c[i]? =some v) (λi=>ns.getD i 0) c.size d r->(∀b o,s.heap.get? b=some o->h'.get? b=some o)->Q r { s with heap:=h',toks:=tk}):
  wpAny (model prog w) A (call (.builtin "min") [.ref l] [("default",d)]) Q E s:=by
 have lt:l<s.heap.objs.size:=by obtain⟨_,e,_⟩:=D;exact Y8 e
 have nm:(toString "min" ++toString ".loop" :String)="min.loop" :=by decide
 refine cC (aM F.plain_min F.entry_min ?_);simp only[checkBuiltinCall,F.kind_min];have fin:wpAny (model prog w) A.in1 (Builtin.«min» ⟨[.ref l],[("default",d)]⟩) (λfin g=>match fin with
   |.done f=>(match(Except.ok f:Result) with | .ok (.ret v)=>Q v g | .ok _=>False | .error e=>E e g)
   |.again c'=>c'.quiet=true/\codeAny (model prog w) A c' (λr g=>match r with | .ok (.ret v)=>Q v g | .ok _=>False | .error e=>E e g) g) E s:=by
  show wpAny _ A.in1 (Builtin.Builtins.bindParams "min" ["key","default"] 0 ⟨[],[("default",d)]⟩ >>=_) _ _ s;refine Y1 (bw (show Builtin.Builtins.bindParams "min" ["key","default"] 0 ⟨[],[("default",d)]⟩=pure [none,some d] from rfl) ?_);refine Y1 (Y6 (Y1 (aL D ?_)));refine Y1 (Zy ?_);rw[nm];have G:(s.heap.push { cls:= .type "list_iterator",data:= .fields #[.ref l,.int 0 0]}).objs.size=s.heap.objs.size+1:=Zf ..;refine Y6 ⟨ah ak _,UF (Walks.list (A:=A.in1) J s.heap.objs.size l (Z0 lt) c) (λi=>ns.getD i 0) (λi v e=>IntsAre.int_at hi i v (by rw[Array.getElem?_toList];exact e)) d _ (λz=>?_) c.size 0 _ #[] _ (by lia) ?_ (YL _ rfl) (.inl ⟨rfl,rfl⟩) λr h' tk t keep=>?_⟩
  .rw [G] at z;simp only [YY,Ze,ZC] at z;rcases z with z | z
   .exact absurd (show(s.heap.objs.size+1:Nat)=s.heap.objs.size from z) (bZ _)
   .exact absurd (show(s.heap.objs.size+1:Nat)=l from z) (ZY (ZT lt))
  .exact⟨⟨_,Y2 _ (YL _ rfl),rfl,rfl⟩,(D.push _).push _⟩
  .refine h r h' tk t λb o e=>keep b o (λz=>?_) ?_ (Y2 _ (Y2 _ e))
   .have:=Y8 e;rw[Zc.mp z]at this;exact YX _ this
   .rw[G];exact Z0 (ZT (Y8 e))
 cases I:Manifest.signature? "min" with
 |none=>exact Y6 fin
 |some sig=>
  have a:=UG (.ref l) d;simp only[argsOk,I]at a;show wpAny _ A.in1 (Bind.checkArgs "min" sig ⟨[.ref l],[("default",d)]⟩) _ _ s;rw[show Bind.checkArgs "min" sig ⟨[.ref l],[("default",d)]⟩=pure () from a];exact Y6 fin
end
def UI(t tk:TA):TE:=fun g H Q=>t g H λI D=>tk g D λG c=>∃(p:yR) (ns:yV) (d:Int),I=[.ref p]/\c p=some (.lst (ns.map V.int))/\G=[.int d]/\(ns=[]->Q (.int d) c)/\∀M,M∈ns->(∀a∈ns,M<=a)->Q (.int M) c
theorem UJ{X:Cx}{e:yL}{g:List Keyword}{t tk:TA}{p c:Pos}(hc:X.calm=true)(hg:Gl X "min")(hm:X.mg "min"=none)(ha:PA X [e] t)(L:PK X g tk)
  (he:autoParam (backTo c (starEach [e] X.env)=(false,eval e X.env)::backTo c (starEach [] X.env)) j2) (Z:autoParam ((backTo c (starEach [e] X.env)).any (·.1)=false) j2)
  (D:autoParam ((backToKw c (keywordEach g X.env)).all (·.1.isSome)=true) j2) (i5:autoParam ((backToKw c (keywordEach g X.env)).any (·.1.isNone)=false) j2) (O:autoParam ((backToKw c (keywordEach g X.env)).filterMap (·.1)=[("default" :Str)]) j2):
  PE X (.Call (.Name "min" p) [e] g c) (UI t tk):=by
 intro ad s σ H Q I h;refine ZN (CN I hg hm (u:= .builtin "min") rfl ?_ (by decide) (by decide));refine PyProof.Rows.callWith_kw (An (ha c ad s σ H _ I h) λus s1 ⟨vs,H1,I1,r,q⟩=>An (L c ad s1 σ H1 _ I1 q) λws s2 zq=>?_) he Z D i5;obtain⟨zs,H2,J,rz,q2⟩:=zq;obtain⟨l,ns,d,rfl,hp,rfl,q0,q1⟩:=q2;obtain⟨u,rfl,ru⟩:=r.one;cases ru;obtain⟨v,rfl,tv,rfl⟩:=EF rz;rw[O];obtain⟨i4,rv,pl,hz⟩:=J.list (Al.of hp);have hi:IntsAre i4 ns:=QR rv;refine UH (J.ok.hd hc) pl.isList (by simpa using hi) λx h' i6 G keep=>?_
 have ln:=IntsAre.length hi;rcases G with⟨e0,rfl⟩ | ⟨i,hi0,e1,le⟩
 .refine⟨.int d,H2,J.kept keep,⟨tv,rfl⟩,q0 ?_⟩;rw[Z2]at e0;exact Zr (by lia)
 .rw[Z2]at hi0 le;obtain⟨tx,rfl⟩:=IntsAre.int_at hi i x (by rw[<-List.getElem?_toArray];exact e1);refine⟨.int (ns.getD i 0),H2,J.kept keep,⟨tx,rfl⟩,q1 _ (getD_mem (by lia)) λa ma=>?_⟩;obtain⟨j,hj,rfl⟩:=mem_getD ma;exact le j (by lia)
theorem UK{X:Cx}(L:X.calm=true):BJ X (.builtin "min") (λxs H Q=>∃i j k,xs=[.int i,.int j,.int k]/\∀m,(m=i\/m=j\/m=k)->m<=i->m<=j->m<=k->Q (.int m) H):=by
 intro ad s σ H xs us Q I r h;obtain⟨i,j,k,rfl,q⟩:=h;cases r with
 |cons r1 r=>
 obtain⟨O,Z,rfl,⟨J,rfl⟩,⟨D,rfl⟩⟩:=G8 r;obtain⟨G,rfl⟩:=r1;refine min_three_ints (I.ok.hd L) λh' tk keep=>?_
 by_cases g:j<i
 .rw[YR g]
  by_cases c:k<j
  .rw[YR c];exact⟨.int k,H,I.kept keep,⟨D,rfl⟩,q k (.inr (.inr rfl)) (by lia) (by lia) (by lia)⟩
  .rw[YN c];exact⟨.int j,H,I.kept keep,⟨J,rfl⟩,q j (.inr (.inl rfl)) (by lia) (by lia) (by lia)⟩
 .rw[YN g]
  by_cases c:k<i
  .rw[YR c];exact⟨.int k,H,I.kept keep,⟨D,rfl⟩,q k (.inr (.inr rfl)) (by lia) (by lia) (by lia)⟩
  .rw[YN c];exact⟨.int i,H,I.kept keep,⟨G,rfl⟩,q i (.inl rfl) (by lia) (by lia) (by lia)⟩
def UL:V->V->Hp->VK->Prop:=λo i H Q=>∃(p:yR) (c:List V) (k:Nat) (z:V),o= .ref p/\i= .int (k:Int)/\H p=some (.lst c)/\c[k]? =some z/\Q z H
theorem NW{X:Cx}:Lh X UL:=by
 intro ad s σ H o i ov iv Q I L G h;obtain⟨p,D,k,z,rfl,rfl,J,c,q⟩:=h;cases L;obtain⟨t,rfl⟩:=G;obtain⟨O,r,pl,hz⟩:=I.list (Al.of J);obtain⟨u,g,ru⟩:=r.get c;have hn:=FY;have lt:k<D.length:=(Y3.mp c).1;have Z:=r.length;exact wpAny_getItem_list pl.isList (Int.natCast_nonneg k) (by lia) (by rw[aX];simpa using g) ⟨z,H,I,ru,q⟩
end L2
namespace MF
open L2
structure Kw(K:Fgx)(x qual:Str)(st:Stmt)(f:yR)(fd:FuncData)(c:yR):Prop where
 ex:∃(oc:yU) (od:Option yR) (kV doc pm:yU) (an:Option yR) (ct:yU) (osl:Array (yW)),
  fd=PySem.W.fnOf x qual (BR st) (Br st) (Am st) .none kV doc pm an (.ref c) ct/\K.lookup f=some ⟨oc,od,.func fd,osl⟩/\PySem.W.codeIn K (.ref c) qual=true
theorem Kw.ok{P:yP}{w:yN}{K:Fgx}{mg:Str->yW}{base:Heap}{x qual:Str}{st:Stmt}{f c:yR}{J:FuncData}{N D:List Str}{k:Nat}{sp:Sp}(F:Kw K x qual st f J c)(S:Aw N D (Am st))(len:∀vs H Q E,sp vs H Q E->vs.length=D.length)
  (g : ∀ (A : yO) (outer : List Env) (s : yS) (H : Hp) (vs : List V) (Q : VK) (E : XK), AQ k (A.deeper (envOfC qual (Am st) s.heap.objs.size f (.ref c))) -> sp vs H Q E ->
   ∃t,PSs (B0 CX0 P w K mg base N qual (Am st) f (.ref c) A outer s H E).nox (Br st) t/\t { nx:=λ_ H'=>Q .non H',rt:=Q} (start N vs) H):BV P w K mg base CX0 (k+1) f J D sp:=by
 obtain⟨oc,od,kV,i4,pm,an,ct,Z,rfl,O,G⟩:=F.ex;refine Ha O G S len λA outer s H vs Q E L I=>?_
 obtain⟨t,h,q⟩:=g A outer s H vs Q E L I;exact⟨t,h.nox,q⟩
theorem _root_.L2.TabIn.grow{H H':Hp}{TB:yR}{D:Str}(t:TabIn H TB D)(e:∀b o,H b=some o->(∀xs,o≠ .lst xs)->H' b=some o):TabIn H' TB D:=by
 obtain⟨G,O,Z,J⟩:=t;refine⟨G,e _ _ O (λxs z=>by cases z),Z,λg v L=>?_⟩;obtain⟨c,I,r2⟩:=J g v L;exact⟨c,I,e _ _ r2 (λxs z=>by cases z)⟩
theorem _root_.L2.TabIn.ev{p:yR}{H H':Hp}{TB:yR}{c:Str}(t:TabIn H TB c)(e:Ev p H H'):TabIn H' TB c:=t.grow λb o q n=>(e b o q).elim (fun⟨_,xs,z⟩=>absurd z (n xs)) id
theorem _root_.L2.TabIn.same{H H':Hp}{TB:yR}{c:Str}(t:TabIn H TB c)(e:Ab H H'):TabIn H' TB c:=t.grow λb o q _=>e b o q
theorem UM{xs:List V}{i:Nat}:A4 xs none (some (i:Int))=xs.take i:=by
 unfold A4;rw[HT.sIx_nat];show(xs.drop 0).take (min i xs.length-0)=_;rw[drop_zero,fe]
 by_cases h:i<=xs.length
 .rw[ZW h]
 .rw[Nat.min_eq_right (by lia),YS (Y4 _),YS (by lia)]
def mx(a b:Int):Int:=if a<b then b else a
def Fx(T:TM):Nat->Int
 |0=>T.lo
 |j+1=>mx T.lo (Fx T j+T.ds.getD (T.ds.length-1-j) 0-(T.cs.getD (T.ds.length-1-j) []).sum)
def lz(T:TM)(j:Nat):Int:=Fx T (T.ds.length-j)
def Fy(T:TM):yV:=(List.range T.ds.length).map λk=>lz T (k+1)
theorem UN{T:TM}:lz T T.ds.length=T.lo:=by unfold lz;rw[fh];rfl
theorem UO{T:TM}{j:Nat}(h:j<T.ds.length):lz T j=mx T.lo (lz T (j+1)+T.ds.getD j 0-(T.cs.getD j []).sum):=by
 unfold lz;rw[show T.ds.length-j=(T.ds.length-(j+1))+1 from by lia];show mx T.lo _=_;rw[show T.ds.length-1-(T.ds.length-(j+1))=j from by lia]
theorem UP{a b:Int}:a<=mx a b:=by unfold mx;split<;>lia
theorem UQ{a b c:Int}(D:a<=c)(g:b<=c):mx a b<=c:=by unfold mx;split<;>lia
theorem UR{T:TM}:∀ {j:Nat},T.lo<=lz T j:=by
 intro j;unfold lz;cases T.ds.length-j with
 |zero=>exact ZS _
 |succ k=>exact UP
theorem US{P:PL}{S:SY}{F:yZ}{i:Nat}:Be P S F (i+1)<=Bx P S F i/\Be P S F (i+1)<=P.hi:=by
 rw[Ep];unfold C3;split<;>lia
theorem UT{T:TM}{P:PL}{S:SY}{F:yZ}{o:Nat}(ok:P.ok)(lo:P.lo=T.lo)(hd:∀i,o+i<T.ds.length->Ct P S i=T.ds.getD (o+i) 0)(g:∀i,o+i<T.ds.length->made F i<=(T.cs.getD (o+i) []).sum)
  (up:∀i,o+i<T.ds.length->P.lo<=Bx P S F i):∀k i,o+i+k=T.ds.length->lz T (o+i)<=Be P S F i:=by
 intro k
 induction k with
 |zero=>
  intro i e;rw[show o+i=T.ds.length from by lia,UN,<-lo];exact(ER ok (λj c=>up j (by lia))).1
 |succ k ih=>
  intro i e;have h:=ih (i+1) (by lia);rw[UO (by lia)];have D:=(ER (S:=S) (F:=F) ok (k:=i) (λj c=>up j (by lia))).1;have G:=(US (P:=P) (S:=S) (F:=F) (i:=i)).1;have J:Bx P S F i=Be P S F i+(made F i-Ct P S i):=rfl;have L:=hd i (by lia);have I:=g i (by lia);rw[show o+(i+1)=o+i+1 from rfl]at h;exact UQ (by lia) (by lia)
theorem UU{P:PL}{S:SY}{F:yZ}(ok:P.ok)(c:∀i,made F i<=made (caps P S) i)(up:∀i,i<S.ex.length->P.lo<=Bx P S F i){i:Nat}(hi:i<=S.ex.length):lz (terms P S) i<=Be P S F i:=by
 have g:(terms P S).ds.length=S.ex.length:=Cs;have:=UT (T:=terms P S) (P:=P) (S:=S) (F:=F) (o:=0) ok rfl (λi _=>by rw[fj];rfl) (λi _=>by rw[fj];exact c i) (λi h=>up i (by lia)) (S.ex.length-i) i (by lia);rw[fj]at this;exact this
theorem UV{P:PL}{S:SY}(ok:P.ok)(so:S.ok P.bs.length)(no:Bz (terms P S)=none){j:Nat}(c:j<=S.ex.length):lz (terms P S) j<=P.hi:=by
 have up:=(Uv ok so).mpr no;have h:=UU (F:=caps P S) ok (λ_=>ZS _) up c;have:=(ER ok (k:=j) (λi hi=>up i (by lia))).2;lia
end MF
namespace L2
section
variable{X:Cx}{p pos:Pos}{ta:TA}{H:Hp}{xs:List V}{tg:yL}
theorem UW:typeLookup (.type "zip") "__len__"=pure none:=by rw[typeLookup_type,eG];kernel_rfl
theorem UX:typeLookup (.type "zip") "__length_hint__"=pure none:=by rw[typeLookup_type,eG];kernel_rfl
def Zd(H:Hp)(c:List yR)(xs ys:List V):Prop:=∀(j:Nat) (T:yR) (x y:V),c[j]? =some T->xs[j]? =some x->ys[j]? =some y->H T=some (.tup [x,y])
structure UY{X:Cx}(S1 S2:Bk X.prog X.w X.K)(ad:PNs)(σ:St)(z TI TO i1 i2 l1 l2 S:yR)(xs ys:List V)(i:Nat)(s:yS)(H:Hp)(Ts:List yR)(c:Nat):Prop where
 I:Ad X ad σ H s
 fp:∀b∈ [z,TI,TO,i1,i2,S],BH X ad H b
 z:F5 s.heap z TI TO
 ti:BK s.heap TI (.ref i1) (.ref i2)
 to:∃a b,BK s.heap TO a b
 i1:S1.It s.heap i1 l1 i
 i2:S2.It s.heap i2 l2 i
 s1:S1.Sq H l1 xs
 s2:S2.Sq H l2 ys
 l:s.heap.get? S=some { cls:= .type "list",dict:=none,data:= .seq (Ts.map Value.ref).toArray c,slots:= #[]}
 n:Ts.length=i
 zd:Zd H Ts xs ys
theorem UZ{X:Cx}{S1 S2:Bk X.prog X.w X.K}{A:yO}{ad:PNs}{σ:St}{R:Result->yS->Prop}{z TI TO i1 i2 l1 l2 S:yR}{xs ys:List V}{res:yU}(hh:A.handled=none)(D:F6 z TI TO i1 i2 l1 l2)
  (hS:S ∉ [z,TI,TO,i1,i2]) (k1:∀H H':Hp,Ab H H'->S1.Sq H l1 xs->S1.Sq H' l1 xs) (k2:∀H H':Hp,Ab H H'->S2.Sq H l2 ys->S2.Sq H' l2 ys) (hl:xs.length<=ys.length) (hn:xs.length<=1000):
  ∀(k i:Nat) (s:yS) (H:Hp) (Ts:List yR) (c:Nat),xs.length-i=k->i<=xs.length->UY S1 S2 ad σ z TI TO i1 i2 l1 l2 S xs ys i s H Ts c->
   (∀s' H' Z c',Ad X ad σ H' s'->Ab H H'->BH X ad H' S->s'.heap.get? S=some { cls:= .type "list",dict:=none,data:= .seq (Z.map Value.ref).toArray c',slots:= #[]}->Z.length=xs.length->Zd H' Z xs ys->R (.ok (.ret res)) s')->
   codeAny (model X.prog X.w) A (.builtin "list.extend.loop" ⟨[.ref S,.ref z,res],[]⟩) R s:=by
 intro k
 induction k with
 |zero=>
  intro i s H Ts c hk hi L fin;obtain⟨a,b,i4⟩:=L.to;obtain⟨j6,i9,i7,u6⟩:=S1.get rfl L.I L.s1;obtain⟨j3,j4,i8,l6⟩:=S2.get rfl L.I L.s2;have e1:=i9.length;have hT:s.TypeIs (.ref z) "zip" :=by obtain⟨f0,f1,hz,_⟩:=L.z;exact⟨_,hz,rfl⟩
  refine aI F.entry_extend_loop ?_;rw[aw bC _];show wpAny _ A.in1 (pyNext (.ref z) >>=_) _ _ s;refine Y1 ?_;unfold pyNext;refine Y1 (db (ZB (name:=Str.ofString "__next__") hT av (ZZ av hT cf
   (Mp S1 S2 hh D L.z L.ti i4 ⟨L.i1,i7⟩ ⟨L.i2,i8⟩ (by simp;lia) λh' tk e O he=>?_) (bV _))))
  obtain⟨o,ho,j9⟩:=he;refine Y1 (wpAny_isInstance (T:="StopIteration") (b:=true) ⟨o,ho,j9⟩ isSubtype_stop ?_);refine Y6 (Y6 ?_);have g:=hS;simp only[YY,Ze,ZC,not_or]at g;refine fin _ H Ts c (L.I.ended (wr:=[z,TI,TO,i1,i2]) (tk:=tk) (λb G=>L.fp b (by simp only[YY,Ze,ZC]at G ⊢;rcases G with e | e | e | e | e<;>simp[e])) λb o G q=>O b o (λe=>G (by simp[e])) (λe=>G (by simp[e])) (λe=>G (by simp[e])) (λe=>G (by simp[e])) q) (Ab.refl _) (L.fp S (by simp)) (O S _ g.1 g.2.2.1 g.2.2.2.1 g.2.2.2.2 L.l) (by have:=L.n;lia) L.zd
 |succ k ih=>
  intro i s H Ts c hk hi L fin;have j5:i<xs.length:=by lia
  obtain⟨a,b,i4⟩:=L.to;obtain⟨j6,i9,i7,u6⟩:=S1.get rfl L.I L.s1;obtain⟨j3,j4,i8,l6⟩:=S2.get rfl L.I L.s2;have hx:xs[i]? =some xs[i]:=by simp[j5]
  have hy:ys[i]? =some (ys[i]'(by lia)):=by rw[Y5 (by lia)]
  obtain⟨u1,r8,u9⟩:=i9.get hx;obtain⟨u2,q9,q8⟩:=j4.get hy;have hT:s.TypeIs (.ref z) "zip" :=by obtain⟨f0,f1,hz,_⟩:=L.z;exact⟨_,hz,rfl⟩
  refine aI F.entry_extend_loop ?_;rw[aw bC _];show wpAny _ A.in1 (pyNext (.ref z) >>=_) _ _ s;refine Y1 ?_;unfold pyNext;refine Y1 (db (ZB (name:=Str.ofString "__next__") hT av (ZZ av hT cf
   (Mo S1 S2 (x1:=u1) (x2:=u2) hh D L.z L.ti i4 ⟨L.i1,i7⟩ ⟨L.i2,i8⟩ (by simpa using r8) (by simpa using q9) λh' tk o9 _ a2 a3 a4 a5 a6 O=>Y6 ?_) (bV _))))
  have g:=hS;simp only[YY,Ze,ZC,not_or]at g;have l7:∀b∈ [z,TI,TO,i1,i2],BH X ad H b:=λb G=>L.fp b (by simp only[YY,Ze,ZC]at G ⊢;rcases G with e | e | e | e | e<;>simp[e])
  have j7:=O S _ g.1 g.2.2.1 g.2.2.2.1 g.2.2.2.2 L.l;have kk:∀b o,b ∉ [z,TI,TO,i1,i2]->s.heap.get? b=some o->h'.get? b=some o:=λb o G q=>O b o (λe=>G (by simp[e])) (λe=>G (by simp[e])) (λe=>G (by simp[e])) (λe=>G (by simp[e])) q
  have ht:IsTup h' s.heap.objs.size [u1,u2].toArray:=⟨_,a5,rfl,_,rfl⟩;have u5:BK s.heap TI (.ref i1) (.ref i2)->BK h' TI (.ref i1) (.ref i2):=λq=>O _ _ D.TI_z D.TO_TI.symm D.i1_TI.symm D.i2_TI.symm q
  have l9:H s.heap.objs.size=none:=L.I.hok.fresh (Y4 _);have I1:Ad X ad σ (upd H s.heap.objs.size (.tup [xs[i],ys[i]'(by lia)])) { s with heap:=h',toks:=tk}:=L.I.yielded (tk:=tk) l7 kk (Y4 _) ht (.cons u9 (.cons q8 .nil)) (by show 2<=sizeLine;decide);have sm:Ab H (upd H s.heap.objs.size (.tup [xs[i],ys[i]'(by lia)])):=Ab.new l9;have i5:∀b∈ [z,TI,TO,i1,i2,S],BH X ad (upd H s.heap.objs.size (.tup [xs[i],ys[i]'(by lia)])) b:=λb G=>by
   have f:=L.fp b G;refine⟨?_,f.2⟩;have o8:b<s.heap.objs.size:=by
    simp only[YY,Ze,ZC]at G;rcases G with e | e | e | e | e | e<;>rw[e]
    .obtain⟨f0,f1,hz,_⟩:=L.z;exact Y8 hz
    .exact Y8 L.ti
    .exact Y8 i4
    .obtain⟨o,q,_⟩:=S1.ito L.i1;exact Y8 q
    .obtain⟨o,q,_⟩:=S2.ito L.i2;exact Y8 q
    .exact Y8 L.l
   rw[Ap (Z0 o8)];exact f.1
  have j8:upd H s.heap.objs.size (.tup [xs[i],ys[i]'(by lia)]) s.heap.objs.size=some (.tup [xs[i],ys[i]'(by lia)]):=Af;generalize upd H s.heap.objs.size (.tup [xs[i],ys[i]'(by lia)])=H2 at I1 sm i5 j8;show wpAny _ A.in1 (updateSeq S (·.push (.ref s.heap.objs.size)) >>=_) _ _ _;have hU:=Zp (Obj.mapSeq (·.push (Value.ref s.heap.objs.size))) j7 rfl;have J:∀b o,b≠S->h'.get? b=some o->(h'.update S (Obj.mapSeq (·.push (Value.ref s.heap.objs.size)))).get? b=some o:=λb o G e=>(Zl _ _ (Zo G)).trans e
  have eU:(Obj.mapSeq (·.push (Value.ref s.heap.objs.size)) { cls:= .type "list",dict:=none,data:= .seq (Ts.map Value.ref).toArray c,slots:= #[]}:Obj)= { cls:= .type "list",dict:=none,data:= .seq ((Ts++[s.heap.objs.size]).map Value.ref).toArray (match(Obj.mapSeq (·.push (Value.ref s.heap.objs.size)) { cls:= .type "list",dict:=none,data:= .seq (Ts.map Value.ref).toArray c,slots:= #[]}:Obj).data with | .seq _ n=>n | _=>0),slots:= #[]}:=by
   simp[Obj.mapSeq]
  rw[eU]at hU;obtain⟨b1,b2,a2⟩:=a2;refine Y1 (ZL j7 rfl (Y6 ⟨ah bC _,ih (i+1) _ H2 (Ts++[s.heap.objs.size]) _ (by lia) j5 ⟨I1.ended (wr:=[S]) (tk:=tk) (λb G=>i5 b (by rw[Zc.mp G];simp)) λb o G q=>J b o (λe=>G (by simp[e])) q,i5,?_,J _ _ (λe=>g.2.1 e.symm) (u5 L.ti),⟨_,_,J _ _ (λe=>g.2.2.1 e.symm) a2⟩,S1.itk a3.1 λo q=>J _ o (λe=>g.2.2.2.1 e.symm) q,S2.itk a4.1 λo q=>J _ o (λe=>g.2.2.2.2 e.symm) q,k1 _ _ sm L.s1,k2 _ _ sm L.s2,hU,by rw[Z7,L.n];rfl,?_⟩ λk9 H' Z c' I' u7 f' l' n' u4=>fin k9 H' Z c' I' (sm.trans u7) f' l' n' u4⟩) (by have:=L.n;have:(1000:Nat)<sizeLine:=(by decide);simp;lia) (by have:=L.n;have:(1000:Nat)<sizeLine:=(by decide);simp;lia))
  .obtain⟨f0,f1,hz,r⟩:=o9;exact⟨f0,f1,J _ _ (λe=>g.1 e.symm) hz,r⟩
  .intro j T x y hj j0 i6
   by_cases u8:j<Ts.length
   .rw[aq u8]at hj;exact sm _ _ (L.zd j T x y hj j0 i6)
   .have ej:j=i:=by
     have:=(Y3.mp hj).1;rw[Z7,ZF]at this;have:=L.n;lia
    subst ej;rw[aG (by lia)]at hj;have v3:=L.n;rw[show j-Ts.length=0 from by lia]at hj;rw[hx]at j0;rw[hy]at i6;cases hj;cases j0;cases i6;exact j8
section
variable{prog:yP}{w:yN}{A:yO}{s:yS}{R:Result -> yS -> Prop}{E:yY}
structure E1(S:yR)(g g':Heap):Prop where
 it:∃c,g'.get? S=some { cls:= .type "list",dict:=none,data:= .seq #[] c,slots:= #[]}
 kp:KpBut S g g'
 sz:g'.objs.size=g.objs.size
theorem U0{S:yR}{g g':Heap}(n:E1 S g g'){f:Array yU->Array yU}(G:f #[]= #[]){Q:Unit->yS->Prop}(h:∀D,E1 S g D->Q () { s with heap:=D}):wpAny (model prog w) A (updateSeq S f) Q E { s with heap:=g'}:=by
 obtain⟨c,e⟩:=n.it;have I:(g'.update S (Obj.mapSeq f)).get? S=some { cls:= .type "list",dict:=none,data:= .seq #[] c,slots:= #[]}:=by
  rw[Zp _ e rfl];simp[Obj.mapSeq,G]
 exact ZL (s:= { s with heap:=g'}) e rfl (h _ ⟨⟨c,I⟩,n.kp.trans (KpBut.upd _),(dM ..).trans n.sz⟩) (Z6 _) (by rw[G];exact Z6 _)
theorem U1{S:yR}{g g':Heap}(n:E1 S g g'){Q:Unit->yS->Prop}(h:∀D,E1 S g D->Q () { s with heap:=D}):wpAny (model prog w) A (Builtin.List.listTouch (.ref S)) Q E { s with heap:=g'}:=by
 obtain⟨c,e⟩:=n.it;refine Y1 (ZL (s:= { s with heap:=g'}) e rfl ?_ (Z6 _) (by decide));have G:=Zp (Obj.mapSeq λx=>x.push Value.none) e rfl;refine ZL (s:= { s with heap:=g'.update S (Obj.mapSeq λx=>x.push Value.none)}) G rfl (h _ ⟨⟨_,Zp _ G rfl⟩,n.kp.trans ((KpBut.upd _).trans (KpBut.upd _)),?_⟩) (by decide) (by decide);rw[dM,dM];exact n.sz
def U2(prog:yP)(w:yN)(A:yO)(R:Result->yS->Prop):PySem.Fin->yS->Prop
 |.done f,s'=>R (.ok f) s'
 |.again c',s'=>c'.quiet=true/\codeAny (model prog w) A c' R s'
theorem U3{z S TI TO:yR}{res:yU}{f0:yU}{g g':Heap}(n:E1 S g g')(hz:IsZip g' z TI TO f0)(D:S≠z)
  (I:∀c,E1 S g c->codeAny (model prog w) A (.builtin "list.extend.loop" ⟨[.ref S,.ref z,res],[]⟩) R { s with heap:=c}):
  wpAny (model prog w) A.in1 (Builtin.List.listExtendWith (.ref S) (.ref z) res) (U2 prog w A R) E { s with heap:=g'}:=by
 have ty:Shared.TypeIs { s with heap:=g'} (.ref z) "zip" :=⟨_,hz,rfl⟩;have plain:(Builtin.List.listSameRef (.ref S) (.ref z) || Value.type "zip"==Value.type "list" || Value.type "zip"==Value.type "tuple")=false:=by
  rw[show Builtin.List.listSameRef (.ref S) (.ref z)=false from by simp[Builtin.List.listSameRef,D]];decide
 refine Y1 (dy ty ?_);rw[plain];refine Y1 (dF (s:= { s with heap:=g'}) hz (Y1 (ZD (Y1 (cI ty UW (Y1 (cI ty UX (Y6 ?_))))))));exact Y1 (bP (Y1 (U1 n λc G=>Y6 ⟨ah bC _,I c G⟩)))
theorem U4{z TI TO:yR}{f0:yU}{Q:VSP}(hz:IsZip s.heap z TI TO f0)
  (h:∀h' O,h'.get? s.heap.objs.size=some { cls:= .type "list",dict:=none,data:= .seq #[] O,slots:= #[]}->(∀b o,s.heap.get? b=some o->h'.get? b=some o)->h'.objs.size=s.heap.objs.size+1->codeAny (model prog w) A.in1 (.builtin "list.extend.loop" ⟨[.ref s.heap.objs.size,.ref z,.none],[]⟩) (wants (λr g=>r= .none/\Q (.ref s.heap.objs.size) g) E) { s with heap:=h'}):
  wpAny (model prog w) A (call (.type "list") [.ref z]) Q E s:=by
 have J:z<s.heap.objs.size:=Y8 hz;refine callType_codes (Q₁:=λv t=>v= .ref s.heap.objs.size/\t= { s with heap:=s.heap.push { cls:= .type "list",data:= .seq #[]}}) F.called_list (F.typeCall_list_1 _) F.entry_list_init (code_list_new _ ⟨rfl,rfl⟩) λv t Z=>?_
 obtain⟨rfl,rfl⟩:=Z;have I:E1 s.heap.objs.size (s.heap.push { cls:= .type "list",data:= .seq #[]}) (s.heap.push { cls:= .type "list",data:= .seq #[]}):=⟨⟨0,YL _ rfl⟩,λ_ _ _ e=>e,rfl⟩;obtain⟨c,e⟩:=I.it;refine⟨⟨_,e,rfl⟩,F.args_list_init_2 _ _,Y1 (Y1 (ZI e rfl (Y6 ?_)))⟩;refine Y1 (U0 (s:=s) I rfl λg1 G=>Y1 (ao ?_));refine Z9 (M:=model prog w) (t:=Builtin.List.listExtendWith (.ref s.heap.objs.size) (.ref z) .none) (U3 (s:=s) (A:=A.in1) (R:=wants (λr g=>r= .none/\Q (.ref s.heap.objs.size) g) E) G (G.kp z _ (Z0 J) (Y2 _ hz)) (ZY J) λL D=>?_) (λfin t q=>by cases fin<;>exact q) λ_ _ q=>q
 obtain⟨c2,e2⟩:=D.it;exact h L c2 e2 (λb o q=>D.kp b o (Z0 (Y8 q)) (Y2 _ q)) (D.sz.trans (by simp[Zf]))
end
def NX{P:yP}{w:yN}{K:Fgx}(S1 S2:Bk P w K)(Z:TA):TE:=fun J H Q=>Z J H λO g=>∃a b,O=[.ref a,.ref b]/\(∃c,S1.Sq g a c)/\(∃c,S2.Sq g b c)/\∃c G,S1.Sq g a c/\S2.Sq g b G/\c.length<=G.length/\c.length<=1000/\∀(L:yR) (D:Hp) (I:List yR),Ab g D->g L=none->D L=some (.lst (I.map V.ref))->I.length=c.length->Zd D I c G->Q (.ref L) D
theorem NY:∀c:List yR,At (c.map V.ref) (c.map Value.ref)
 |[]=> .nil
 |_::r=> .cons rfl (NY r)
theorem U5{p2 g:Pos}{O G:yL}(S1 S2:Bk X.prog X.w X.K)(zn:F7 S1 S2)(k1:∀(l:yR) (xs:List V) (H H':Hp),Ab H H'->S1.Sq H l xs->S1.Sq H' l xs)(k2:∀(l:yR) (xs:List V) (H H':Hp),Ab H H'->S2.Sq H l xs->S2.Sq H' l xs)
  (i6:Gl X "list") (i9:X.mg "list"=none) (hg:Gl X "zip") (hm:X.mg "zip"=none) (ha:PA X [O,G] ta) (hc:X.calm=true)
  (i4:starEach [.Call (.Name "zip" p2) [O,G] [] g] X.env=[(false,eval (.Call (.Name "zip" p2) [O,G] [] g) X.env)]) (hs:starEach [O,G] X.env=[(false,eval O X.env),(false,eval G X.env)]) (i8:starEach [G] X.env=[(false,eval G X.env)]):
  PE X (.Call (.Name "list" p) [.Call (.Name "zip" p2) [O,G] [] g] [] pos) (NX S1 S2 ta):=by
 intro ad s σ H Q I h;refine Call_ (CN I i6 i9 boot_list (Zi (by
  rw[i4];refine cS (An (Mq S1 S2 zn (R:=λl1 l2 J=>∃xs ys,S1.Sq J l1 xs/\S2.Sq J l2 ys/\xs.length<=ys.length/\xs.length<=1000/\∀(L:yR) (H2:Hp) (D:List yR),Ab J H2->J L=none->H2 L=some (.lst (D.map V.ref))->D.length=xs.length->Zd H2 D xs ys->Q (.ref L) H2) hg hm ha hs i8 I h) λv s1 zq=>?_);obtain⟨l1,l2,J,m,e,⟨xs,ys,q1,q2,hl,hn,q⟩,I1,gz,gI,gO,g1,g2,h1,h2,fr,i7⟩:=zq;subst e;refine dg (U4 gz λh' c' hL kp j4=>?_);rw[i7]at hL ⊢;have I2:Ad X ad σ J { s1 with heap:=h'}:=I1.kept (t':=s1.toks) kp;have nS:(m+5:Nat) ∉ [m+4,m+2,m+3,m,m+1]:=by simp
  refine UZ (A:=X.A.in1) (S:=m+5) (xs:=xs) (ys:=ys) (ad:=ad) (σ:=σ) (S1:=S1) (S2:=S2) (z:=m+4) (TI:=m+2) (TO:=m+3) (i1:=m) (i2:=m+1) (l1:=l1) (l2:=l2) (I1.ok.hd hc) (Mu h1 h2) nS (k1 l1 xs) (k2 l2 ys) hl hn _ 0 { s1 with heap:=h'} J [] c' rfl (Z6 _)
   ⟨I2, λb hb => fr b (by
    simp only[YY,Ze,ZC]at hb;rcases hb with e | e | e | e | e | e<;>rw[e]<;>first | exact Y4 _ | exact dG _ _),⟨_,_,kp _ _ gz,.inl rfl,.inl rfl⟩,kp _ _ gI,⟨_,_,kp _ _ gO⟩,S1.itk g1 λo q=>kp _ o q,S2.itk g2 λo q=>kp _ o q,q1,q2,hL,rfl,λj T x y hj _ _=>by simp at hj⟩ λs' H' D c2 I' j3 f' l' n' j0=>?_
  have i5:J (m+5)=none:=(fr (m+5) (dG _ _)).1;have ok:ObjOk X.prog X.w (upd H' (m+5) (.lst (D.map V.ref))) s'.heap (m+5) (.lst (D.map V.ref)):=⟨by rw[Y0,n'];have:(1000:Nat)<sizeLine:=(by decide);lia,_,c2,NY D,l'⟩;have Z:Ab H' (upd H' (m+5) (.lst (D.map V.ref))):=Ab.new f'.1;exact⟨rfl,.ref (m+5),_,I'.trackN (tk:=s'.toks) (h':=s'.heap) f' (λb o _ e=>e) ⟨_,l'⟩ ok,rfl,q (m+5) _ D (j3.trans Z) i5 Af n' λj T x y a b c=>Z _ _ (j0 j T x y a b c)⟩) i4 rfl))
theorem Ab.sqT{K:Fgx}{H':Hp}{a:yR}(e:Ab H H')(h:Ae K H a xs):Ae K H' a xs:=by
 rcases h with(h | ⟨o,h⟩) | h
 .exact .inl (.inl (e _ _ h))
 .exact .inl (.inr ⟨o,e _ _ h⟩)
 .exact .inr h
theorem U6(P:yP)(w:yN)(K:Fgx){X:Cx}{p I L c:Pos}{D g:yL}{ta:TA}(G:Gl X "list")(O:X.mg "list"=none)(hg:Gl X "zip")(hm:X.mg "zip"=none)(ha:PA X [D,g] ta)(hP:autoParam (X.prog=P) j2)(hw:autoParam (X.w=w) j2)(hK:autoParam (X.K=K) j2)(hc:autoParam (X.calm=true) j2)
  (Z:autoParam (starEach [.Call (.Name "zip" L) [D,g] [] c] X.env=[(false,eval (.Call (.Name "zip" L) [D,g] [] c) X.env)]) j2) (hs:autoParam (starEach [D,g] X.env=[(false,eval D X.env),(false,eval g X.env)]) j2) (J:autoParam (starEach [g] X.env=[(false,eval g X.env)]) j2):
  PE X (.Call (.Name "list" p) [.Call (.Name "zip" L) [D,g] [] c] [] I) (NX (Dk P w K) (Dk P w K) ta):=by
 subst hP hw hK;exact U5 _ _ (Mr _ _ _) (λ_ _ _ _ e q=>e.sqT q) (λ_ _ _ _ e q=>e.sqT q) G O hg hm ha hc Z hs J
def Gp(K:Fgx)(a:yR)(xs:List V):It:=⟨λi H=>Al K H a xs/\i<xs.length,λi H v c=>c=H/\xs[xs.length-1-i]? =some v,λi H=>Al K H a xs/\i=xs.length⟩
theorem U7{P:yP}{w:yN}{K:Fgx}(a it:yR)(xs:List V):De P w K tg (Gp K a xs) [it] it (λi h=>h.IsRevIter it a ((xs.length:Int)-1-(i:Int))) where
 mem:=by simp
 obj:=λi h st b D=>by
  have e:b=it:=by simpa using D
  subst e;obtain⟨o,e,c,d⟩:=st;exact⟨o,e,λv z=>by rw[d]at z;cases z⟩
 keep:=λi h J st k=>st.at λo e=>k it (by simp) o e
 item:=by
  intro X hP Z O hc i ad s σ H E I G st L;subst hP Z O;obtain⟨hq,hi⟩:=L;obtain⟨i4,rv,p,hz⟩:=I.list hq;have hx:xs[xs.length-1-i]? =some (xs[xs.length-1-i]'(by lia)):=Y5 _;obtain⟨u,hu,ru⟩:=rv.get hx;obtain⟨f0,f1,f2,f3,f4,f5⟩:=G it (by simp);have e0:(xs.length:Int)-1-(i:Int)=((xs.length-1-i:Nat):Int):=by lia
  rw[e0]at st;refine wpAny_pyNext_rev_item st p.isList (x:=u) (by simpa using hu) λJ g sb=>?_
  have e2:((xs.length-1-i:Nat):Int)-1=(xs.length:Int)-1-((i+1:Nat):Int):=by lia
  rw[e2]at g;have I1:Ad X ad σ H { s with heap:=J}:=I.turned (t':=s.toks) (λb o D e=>(sb.2 b D).trans e) f0 f1 f3 f4 f5;obtain⟨o,e,c,d⟩:=id g;exact⟨u,rfl,FX (s:= { s with heap:=J}) e c d (by decide) ⟨_,H,I1,ru,⟨rfl,hx⟩,g,λb D=>(G b D).1⟩⟩
 done:=by
  intro X hP Z O hc i ad s σ H E I G st L;subst hP Z O;obtain⟨hq,rfl⟩:=L;obtain⟨f0,f1,f2,f3,f4,f5⟩:=G it (by simp);have e0:(xs.length:Int)-1-(xs.length:Int)= -1:=by lia
  rw[e0]at st;exact wpAny_pyNext_rev_end (I.ok.hd hc) st λJ eb=>⟨rfl,I.turned (t':=s.toks) (λb o D e=>eb b o D e) f0 f1 f3 f4 f5⟩
 self:=λ_ _ _ _ _ st h=>wpAny_pyIter_revIter st h
def NZ(K:Fgx)(I:TA):TI:=fun D H R=>I D H λG g=>∃a c,G=[.ref a]/\Al K g a c/\R (Gp K a c) g
theorem U8{a:yL}(G:Gl X "reversed")(L:X.mg "reversed"=none)(ha:PA X [a] ta)(hs:starEach [a] X.env=[(false,eval a X.env)]):
  PI X tg (.Call (.Name "reversed" p) [a] [] pos) (NZ X.K ta):=by
 intro ad s σ H R I h;refine Call_ (CN I G L boot_reversed (Zi (An (ha pos ad s σ H _ I h) λus s1 zq=>?_) hs rfl));obtain⟨vs,H1,D,r1,q1⟩:=zq;obtain⟨l,J,e,hq,q⟩:=q1;subst e;cases r1 with
 |cons r rr=>
  cases rr;cases r;obtain⟨c,rv,pl,hz⟩:=D.list hq;have O:=rv.length;refine call_reversed_list pl.isList ?_;have Z:∀b ob,s1.heap.get? b=some ob->(s1.heap.push (revObj l ((c.toArray.size:Int)-1))).get? b=some ob:=λb ob q=>Y2 _ q
  have g:(s1.heap.push (revObj l ((c.toArray.size:Int)-1))).IsRevIter s1.heap.objs.size l ((J.length:Int)-1-((0:Nat):Int)):=by
   refine⟨_,YL _ rfl,rfl,?_⟩;have e:((c.toArray.size:Nat):Int)-1=(J.length:Int)-1-((0:Nat):Int):=by simp;lia
   rw[e];rfl
  generalize s1.heap.push (revObj l ((c.toArray.size:Int)-1))=h2 at Z g;refine wpAny_pyIter_revIter g ⟨s1.heap.objs.size,[s1.heap.objs.size],_,_,H1,rfl,D.kept (t':=_) Z,U7 l _ J,g,λb hb=>?_,q⟩;rw[Zc.mp hb];exact D.fpOk (Y4 _) (D.hok.fresh (Y4 _))
theorem U9(K:Fgx){X:Cx}{I a:yL}{G:TA}{p D:Pos}(g:Gl X "reversed")(c:X.mg "reversed"=none)(L:PA X [a] G)(O:autoParam (X.K=K) j2)(J:autoParam (starEach [a] X.env=[(false,eval a X.env)]) j2):
  PI X I (.Call (.Name "reversed" p) [a] [] D) (NZ K G):=by subst O;exact U8 g c L J
theorem Va{K:Fgx}{a:yR}{g:TG}{O:TS}{D:Cy}{σ:St}(c:Nat->St->Hp->Prop)(h0:c 0 σ H)(hl:∀i σ H,i<=xs.length->c i σ H->Al K H a xs)
  (hs:∀i x σ H,i<xs.length->xs[xs.length-1-i]? =some x->c i σ H->g x σ H fun I J=>O { D with nx:=c (i+1),ct:=c (i+1),bk:=D.nx} I J) (hd:∀σ H,c xs.length σ H->D.nx σ H):
  ∃W:Nat->Nat->St->Hp->Prop,(∃m,W 0 m σ H)/\∀i m σ H,W i m σ H->
   ((Gp K a xs).stop i H/\D.nx σ H)\/((Gp K a xs).go i H/\∃N:St->Hp->Prop,(∀σ' H',N σ' H'->∃L,L<m/\W (i+1) L σ' H')/\∀x H',(Gp K a xs).yld i H x H'->g x σ H' fun I J=>O { D with nx:=N,ct:=N,bk:=D.nx} I J):=by
 refine⟨λi m σ H=>m=xs.length-i/\i<=xs.length/\c i σ H,⟨xs.length,by simp,Z6 _,h0⟩,?_⟩;rintro i m σ H ⟨rfl,hi,p⟩;have q:=hl i σ H hi p
 by_cases G:i<xs.length
 .refine .inr ⟨⟨q,G⟩,c (i+1),fun σ' H' Z=>⟨xs.length-(i+1),by lia,rfl,G,Z⟩,λx H' y=>?_⟩;obtain⟨e,y⟩:=y;subst e;exact hs i x σ _ G y p
 .have e:i=xs.length:=by lia
  subst e;exact .inl ⟨⟨q,rfl⟩,hd _ _ p⟩
end
variable{X:Cx}
def E2(sep:Str):List Str->Str
 |[x]=>x
 |l=>Builtin.Str.glued sep l
theorem N0:∀ {g:List Str}{c:yX},At (g.map V.str) c->∃l:List (Str×Tok),c=strValues l/\l.map (·.1)=g
 |[],c,r=>by cases r;exact⟨[],rfl,rfl⟩
 |x::g,c,r=>by
  cases r with
  |cons r1 r2=>
   obtain⟨t,rfl⟩:=r1;obtain⟨l,rfl,rfl⟩:=N0 r2;exact⟨(x,t)::l,rfl,rfl⟩
def Vb:V->List V->Hp->VK->Prop:=λx D H Q=>∃c l g,x= .str c/\D=[.ref l]/\H l=some (.lst (List.map V.str g))/\Builtin.Str.tooLong (g.toArray.foldl (· + ·.length+c.length) 0)=false/\(E2 c g).length<=sizeLine/\Q (.str (E2 c g)) H
theorem N3:L5 X "str.join" Vb:=by
 intro ad s σ H x vs v us Q I O L h;obtain⟨g,l,ss,rfl,rfl,hH,J,c,q⟩:=h;obtain⟨G,rfl⟩:=O;obtain⟨u,rfl,ru⟩:=L.one;cases ru;obtain⟨i4,r,Z,_⟩:=I.list (Al.of hH);obtain⟨D,rfl,rfl⟩:=N0 r;refine aA F.slot_str_join rfl F.entry_str_join (F.args_str_join_2 _ _) (meets_str_join_list g G l D J) ⟨Z.isList,?_⟩
 match D,c,q with
 |[],c,q=>exact⟨c,.str _,H,I.tok _,⟨_,rfl⟩,q⟩
 |[p],c,q=>exact⟨.str _,H,I,⟨_,rfl⟩,q⟩
 |a::b::r,c,q=>exact⟨c,.str _,H,I.tok _,⟨_,rfl⟩,q⟩
end L2
namespace MF
open L2
structure Gq(K:Fgx)(mg:Str->yW)(x:Str)(st:Stmt)(ps:List Str)(c:yR):Prop where
 ex:∃(f:yR) (fd:FuncData),Kw K x x st f fd c/\mg x=some (.ref f)/\PySem.W.keepIn K (.ref f)=true/\Binds K fd ps []
theorem Gq.fn{P:yP}{w:yN}{K:Fgx}{mg:Str->yW}{base:Heap}{x:Str}{st:Stmt}{N D:List Str}{c:yR}{k:Nat}{sp:Sp}(F:Gq K mg x st D c)(S:Aw N D (Am st))(len:∀vs H Q E,sp vs H Q E->vs.length=D.length)
  (g : ∀ (f : yR) (A : yO) (outer : List Env) (s : yS) (H : Hp) (vs : List V) (Q : VK) (E : XK), AQ k (A.deeper (envOfC x (Am st) s.heap.objs.size f (.ref c))) -> sp vs H Q E ->
   ∃t,PSs (B0 CX0 P w K mg base N x (Am st) f (.ref c) A outer s H E).nox (Br st) t/\t { nx:=λ_ H'=>Q .non H',rt:=Q} (start N vs) H):Fn P w K mg base (k+1) x D sp:=by
 obtain⟨f,L,J,I,kp,O⟩:=F.ex;exact⟨f,L,J.ok S len λA outer s H vs Q E G h=>g f A outer s H vs Q E G h,I,kp,O⟩
theorem TabIn.not_none{H:Hp}{TB:yR}{c:Str}(t:TabIn H TB c):H TB≠none:=by
 obtain⟨g,h,_⟩:=t;rw[h];intro z;cases z
section
variable{P:yP}{w:yN}{K:Fgx}{mg:Str -> yW}{base:Heap}
structure Dm(K:Fgx)(C:yR)(m qual:Str)(st:Stmt)(ps:List Str):Prop where
 ex:∃(f:yR) (fd:FuncData),DP K m qual st f fd/\Fg K C m f/\Binds K fd ps []
structure Mt(CX:CD)(P:yP)(w:yN)(K:Fgx)(mg:Str->yW)(base:Heap)(n:Nat)(C:yR)(m:Str)(ps:List Str)(sp:Sp):Prop where
 ex:∃(f:yR) (fd:FuncData),BV P w K mg base CX n f fd ps sp/\Fg K C m f/\Binds K fd ps []
theorem Dm.fn{C:yR}{m qual:Str}{st:Stmt}{N g:List Str}{k:Nat}{sp:Sp}(F:Dm K C m qual st g)(S:Aw N g (Am st))(len:∀vs H Q E,sp vs H Q E->vs.length=g.length)
  (c : ∀ (f : yR) (dl : yU) (A : yO) (outer : List Env) (s : yS) (H : Hp) (vs : List V) (Q : VK) (E : XK), AQ k (A.deeper (envOfC qual (Am st) s.heap.objs.size f dl)) -> sp vs H Q E ->
   ∃t,PSs (B0 CX0 P w K mg base N qual (Am st) f dl A outer s H E).nox (Br st) t/\t { nx:=λ_ H'=>Q .non H',rt:=Q} (start N vs) H):Mt CX0 P w K mg base (k+1) C m g sp:=by
 obtain⟨f,J,I,G,L⟩:=F.ex;exact⟨f,J,I.ok S len λdl A outer s H vs Q E D h=>c f dl A outer s H vs Q E D h,G,L⟩
end
def N4(C:yR)(m:Str)(sp:Sp)(E:XK)(J:TE)(t:TA):TE:=fun c H Q=>J c H λx g=>∃a G fs,x= .ref a/\g a=some (.ins C G fs)/\fs.lookup m=none/\t c g λI D=>sp (x::I) D Q E
section
variable{X:Cx}{CX:CD}{E:XK}{n:Nat}{C:yR}{m:Str}{ps:List Str}{sp:Sp}{o e:yL}{es:List yL}{ta:TE}{t:TA}{apos pos:Pos}{pl:Sem Bool}
theorem m_call(hx:DA CX X E)(c:Cls X.K C)(F:Mt CX X.prog X.w X.K X.mg X.base n C m ps sp)(L:AQ n X.A)(Z:PE X o ta)(ha:PA X (e::es) t)
  (D:autoParam (starEach (e::es) X.env=(false,eval e X.env)::starEach es X.env) j2) (G:autoParam ((backTo pos (starEach es X.env)).any (·.1)=false) j2)
  (ht : autoParam (eval (.Call (.Attribute o m apos) (e :: es) [] pos) X.env = (do
   let ov<-eval o X.env
   standAt apos.atName
   let (f,first)<-holding [ov] (getMethod ov m pl)
   callWith pos f first (backTo pos (starEach (e::es) X.env)) (backToKw pos (keywordEach [] X.env)))) j2):
  PE X (.Call (.Attribute o m apos) (e::es) [] pos) (N4 C m sp E ta t):=by
 obtain⟨f,fd,F,O,hb⟩:=F.ex;refine(QH (dvs:=[]) (E:=E) (pl:=pl) Z c O F L hb .nil hx ha D G ht).weak fun J H Q q=>?_
 have z:∀g:List V,g++[]=g:=λg=>ZV g
 show ta J H λx I=>∃a dx fs,x= .ref a/\I a=some (.ins C dx fs)/\fs.lookup m=none/\t J I λg H2=>sp (x::(g++[])) H2 Q E
 simp only[z];exact q
theorem Vc(L:DA CX X E)(c:Cls X.K C)(F:Mt CX X.prog X.w X.K X.mg X.base n C m ps sp)(g:AQ n X.A)(I:PE X o ta)
  (J : autoParam (eval (.Call (.Attribute o m apos) [] [] pos) X.env = (do
   let ov<-eval o X.env
   standAt apos.atName
   let (f,first)<-holding [ov] (getMethod ov m pl)
   callWith pos f first (backTo pos (starEach [] X.env)) (backToKw pos (keywordEach [] X.env)))) j2):
  PE X (.Call (.Attribute o m apos) [] [] pos) (N4 C m sp E ta CC):=by
 obtain⟨f,O,F,G,D⟩:=F.ex;exact QI (dvs:=[]) (E:=E) (pl:=pl) I c G F g D .nil L J
end
section
variable{P:yP}{w:yN}{K:Fgx}{mg:Str -> yW}{base:Heap}
structure Di(K:Fgx)(mg:Str->yW)(x:Str)(C:yR)(qual:Str)(st:Stmt)(ps:List Str):Prop where
 ex:∃(f:yR) (fd:FuncData),DP K "__init__" qual st f fd/\Mk K C f/\Binds K fd ps []
 at_:mg x=some (.ref C)
structure Ms(P:yP)(w:yN)(K:Fgx)(mg:Str->yW)(base:Heap)(n:Nat)(x:Str)(C:yR)(ps:List Str)(sp:Sp):Prop where
 ex:∃(f:yR) (fd:FuncData),BV P w K mg base CX0 n f fd ps sp/\Mk K C f/\Binds K fd ps []
 at_:mg x=some (.ref C)
structure HX(P:yP)(w:yN)(K:Fgx)(mg:Str->yW)(base:Heap)(n:Nat)(x:Str)(C:yR)(ps:List Str)(sp:Sp):Prop where
 ex:∃(f:yR) (fd:FuncData),BV P w K mg base (CJ P w) n f fd ps sp/\Mk K C f/\Binds K fd ps []
 at_:mg x=some (.ref C)
theorem Di.fnE{x qual:Str}{C:yR}{st:Stmt}{N g:List Str}{k:Nat}{sp:Sp}(F:Di K mg x C qual st g)(S:Aw N g (Am st))(len:∀vs H Q E,sp vs H Q E->vs.length=g.length)
  (c : ∀ (f : yR) (dl : yU) (A : yO) (outer : List Env) (s : yS) (H : Hp) (vs : List V) (Q : VK) (E : XK), AQ k (A.deeper (envOfC qual (Am st) s.heap.objs.size f dl)) -> sp vs H Q E ->
   ∃t,PSs (B0 (CJ P w) P w K mg base N qual (Am st) f dl A outer s H E) (Br st) t/\t { nx:=λ_ H'=>Q .non H',rt:=Q} (start N vs) H):HX P w K mg base (k+1) x C g sp:=by
 obtain⟨f,fd,L,J,O⟩:=F.ex;obtain⟨oc,od,kV,i4,pm,an,dl,ct,Z,rfl,I,D⟩:=L.ex;exact⟨⟨f,_,Ha I D S len λA outer s H vs Q E G h=>c f dl A outer s H vs Q E G h,J,O⟩,F.at_⟩
end
def Vd(C:yR)(sp:Sp)(E:XK)(t:TA):TE:=fun D H Q=>t D H λI g=>∀a c,g a=none->g c=none->c≠a->sp (.ref a::I) (upd (upd g c (.own a)) a (.ins C c [])) (λv G=>v= .non/\Q (.ref a) G) E
theorem Ve{X:Cx}{E:XK}(D:IsDef X E){n:Nat}{x:Str}{C:yR}{ps:List Str}{sp:Sp}{e:yL}{es:List yL}{t:TA}{p g:Pos}(F:HX X.prog X.w X.K X.mg X.base n x C ps sp)(L:AQ (n+1) X.A)(O:Gl X x)(ha:PA X (e::es) t)
  (hdb:autoParam ((x==("__debug__" :Str))=false) o3) (he:autoParam (starEach (e::es) X.env=(false,eval e X.env)::starEach es X.env) j2) (J:autoParam ((backTo g (starEach es X.env)).any (·.1)=false) j2):
  PE X (.Call (.Name x p) (e::es) [] g) (Vd C sp E t):=by
 obtain⟨⟨f,fd,F,M,hb⟩,Z⟩:=F;refine(QK (dvs:=[]) (E:=E) M F L O Z hb .nil D.passes ha hdb he J).weak fun σ H Q q=>?_
 have z:∀c:List V,c++[]=c:=λc=>ZV c
 show t σ H λc I=>∀x G,I x=none->I G=none->G≠x->sp (.ref x::(c++[])) (upd (upd I G (.own x)) x (.ins C G [])) (λv H2=>v= .non/\Q (.ref x) H2) E
 simp only[z];exact q
end MF
namespace L2
section
variable{Q:yY}{h':Heap}{trs:List (TE × TE)}
section
variable{κ:Type} [DecidableEq κ]
def D8(kvs:List (κ×V))(k:κ):Option V:=(kvs.find? λc=>decide (c.1=k)).map (·.2)
def Et(kvs:List (κ×V))(k:κ)(v:V):List (κ×V):=
 if (kvs.any λc=>decide (c.1=k))=true then kvs.map (λc=>if c.1=k then(c.1,v) else c) else kvs++[(k,v)]
theorem N5{p:κ×V}{r:List (κ×V)}{k:κ}(e:p.1=k):D8 (p::r) k=some p.2:=by simp[D8,cJ,e]
theorem N6{p:κ×V}{r:List (κ×V)}{k:κ}(e:¬p.1=k):D8 (p::r) k=D8 r k:=by simp[D8,cJ,e]
theorem Vf(kvs:List (κ×V))(k:κ)(v:V):(Et kvs k v).length<=kvs.length+1:=by
 unfold Et;split
 .rw[Y0];lia
 .rw[Z7,Zh,length_nil];lia
theorem KV.val{kvs:List (κ×V)}{vs:List (κ×yU)}(r:KV kvs vs)(k:κ):RelO (D8 kvs k) (valueAt vs k):=by
 unfold KV at r
 induction r with
 |nil=>exact True.intro
 |@cons p q ps qs h t ih=>
  obtain⟨g,D⟩:=h
  by_cases e:p.1=k
  .have c:q.1=k:=g.symm.trans e;have b:valueAt (q::qs) k=some q.2:=by simp [valueAt,cJ,c]
   rw[N5 e,b];exact D
  .have c:¬q.1=k:=λz=>e (g.trans z)
   have b:valueAt (q::qs) k=valueAt qs k:=by simp[valueAt,cJ,c]
   rw[N6 e,b];exact ih
theorem KV.any{kvs:List (κ×V)}{vs:List (κ×yU)}(r:KV kvs vs)(k:κ):(kvs.any λc=>decide (c.1=k))=vs.any λc=>decide (c.1=k):=by
 unfold KV at r
 induction r with
 |nil=>rfl
 |cons h t ih=>rw[aJ,aJ,ih,h.1]
theorem KV.repl{kvs:List (κ×V)}{vs:List (κ×yU)}(r:KV kvs vs)(k:κ){y:V}{u:yU}(D:Az y u):
  KV (kvs.map λc=>if c.1=k then(c.1,y) else c) (vs.map λc=>if c.1=k then(c.1,u) else c):=by
 unfold KV at r ⊢
 induction r with
 |nil=>exact .nil
 |@cons p q ps qs h t ih=>
  rw[ZA,ZA];refine .cons ?_ ih;obtain⟨g,G⟩:=h
  by_cases e:p.1=k
  .rw[YR e,YR (g.symm.trans e)];exact⟨g,D⟩
  .rw[YN e,YN (λz=>e (g.trans z))];exact⟨g,G⟩
theorem KV.putX{kvs:List (κ×V)}{vs:List (κ×yU)}(r:KV kvs vs)(k:κ){y:V}{u:yU}(c:Az y u):KV (Et kvs k y) (stored vs k u):=by
 unfold Et stored;rw[r.any k]
 by_cases e:(vs.any λg=>decide (g.1=k))=true
 .rw[YR e,YR e];exact r.repl k c
 .rw[YN e,YN e];exact Paired.snoc r ⟨rfl,c⟩
end
theorem Kx{P:yP}{w:yN}{k:AE}{u:yU}(r:Az (kV k) u):(Bm P w).is k u=true:=by
 cases k with
 |inl i=>obtain⟨t,e⟩:=(show ∃t,u=Value.int i t from r);subst e;exact Jd P w i t
 |inr x=>obtain⟨t,e⟩:=(show ∃t,u=Value.str x t from r);subst e;exact K9 P w x t
theorem N7{P:yP}{w:yN}:∀ {ks:List AE}{us:yX},At (ks.map kV) us->ItemsAre (Bm P w) ks us
 |[],_,r=>by rw[eB]at r;cases r;exact .nil
 |k::ks,_,r=>by
  rw[ZA]at r;cases r with
  |cons h t=>exact .cons (Kx h) (N7 t)
abbrev KT(H:Hp):List (List AE×V)->List (List AE×yR×yU)->Prop:=Paired λp q=>p.1=q.1/\H q.2.1=some (.tup (p.1.map kV))/\Az p.2 q.2.2
theorem KT.val{H:Hp}{kvs:List (List AE×V)}{xs:List (List AE×yR×yU)}(r:KT H kvs xs)(k:List AE):RelO (D8 kvs k) ((atKey xs k).map (·.2)):=by
 induction r with
 |nil=>exact True.intro
 |@cons p q ps qs h t ih=>
  obtain⟨g,_,D⟩:=h
  by_cases e:p.1=k
  .have c:q.1=k:=g.symm.trans e;have b:atKey (q::qs) k=some q.2:=by simp [atKey,cJ,c]
   rw[N5 e,b];exact D
  .have c:¬q.1=k:=λz=>e (g.trans z)
   have b:atKey (q::qs) k=atKey qs k:=by simp[atKey,cJ,c]
   rw[N6 e,b];exact ih
section
variable{P:yP}{w:yN}{H:Hp}{h:Heap}{a:yR}
theorem N8{u:HO}(ok:HOk P w H h)(e:Rd H a u):ObjOk P w H h a u:=e.ok ok
theorem Ky{kvs:List (AE×V)}(ok:HOk P w H h)(e:Rd H a (.dK kvs)):kvs.length<=sizeLine/\(a==sysModules)=false/\∃vs,KV kvs vs/\h.DictOf (Bm P w) a vs:=
 show ObjOk P w H h a (.dK kvs) from N8 ok e
theorem Vg{kvs:List (AE×V)}(ok:HOk P w H h)(e:H a=some (.dK kvs)):kvs.length<=sizeLine/\(a==sysModules)=false/\∃vs,KV kvs vs/\h.DictOf (Bm P w) a vs:=Ky ok (.inl e)
theorem N9{ks:List AE}(ok:HOk P w H h)(e:H a=some (.tup (ks.map kV))):(tupleKind (Bm P w)).is h ks a:=by
 obtain⟨_,c,r,o,G,g,n,D⟩:=(show ObjOk P w H h a (.tup (ks.map kV)) from ok a _ e);exact⟨o,c.toArray,n,G,g,D,by simpa using N7 r⟩
theorem Oa{kvs:List (List AE×V)}(ok:HOk P w H h)(e:Rd H a (.dT kvs)):kvs.length<=sizeLine/\(a==sysModules)=false/\
  ∃xs,KT H kvs xs/\h.DictOfH (tupleKind (Bm P w)) a xs:=by
 obtain⟨z,y,xs,r,o,es,g,I,J,G,h4,D⟩:=(show ObjOk P w H h a (.dT kvs) from N8 ok e);refine⟨z,y,xs,r,o,es,g,I,J,G,h4,λx c=>?_,D⟩;have all:∀ {l:List (List AE×V)}{m:List (List AE×yR×yU)},KT H l m->∀x∈m,(tupleKind (Bm P w)).is h x.1 x.2.1:=by
  intro l m q
  induction q with
  |nil=>intro x c;exact nomatch c
  |@cons p q ps qs hq t ih=>
   intro x c;rcases YY.mp c with e | c
   .subst e;exact N9 ok (by rw[<-hq.1];exact hq.2.1)
   .exact ih x c
 exact all r x c
end
def Kz(H:Hp)(a:yR)(y:V)(r:Option V):Prop:=
 (∃c k,Rd H a (.dK c)/\y=kV k/\r=D8 c k)\/ ∃c k b,Rd H a (.dT c)/\y= .ref b/\H b=some (.tup (k.map kV))/\r=D8 c k
section
variable{X:Cx}{ad:List (yR × Obj)}{σ:St}{H:Hp}{s:yS}{a:yR}{y v:V}{u r:yU}{o:Option V}{A:yO}{E:yY}
theorem Ad.bigX(I:Ad X ad σ H s):sysModules<s.heap.objs.size:=by
 have h:mainGlobals<s.heap.objs.size:=(I.mod.glob.keeps I.bk).lt;exact aZ (by decide) h
theorem Vh(hu:A.units+1<cLine)(I:Ad X ad σ H s)(g:Kz H a y (some v))(L:Az y u)(h:∀D s',Ad X ad σ H s'->Az v D->Q D s'):
  wpAny (model X.prog X.w) A (getItem (.ref a) u) Q E s:=by
 rcases g with⟨kvs,k,e,ey,l⟩ | ⟨kvs,k,b,e,ey,eb,l⟩
 .subst ey;obtain⟨z,hd,O,rel,dd⟩:=Ky I.hok e;obtain⟨D,J,c⟩:=RelO.some_of (v:=v) (o:=valueAt O k) (by rw[l];exact rel.val k);exact wpAny_getItem_of (Kx L) dd.mapOf J (h D _ (I.tok _) c)
 .subst ey;cases(show u=Value.ref b from L);obtain⟨z,hd,Z,rel,dd⟩:=Oa I.hok e;obtain⟨D,J,c⟩:=RelO.some_of (v:=v) (o:=(atKey Z k).map (·.2)) (by rw[l];exact rel.val k);obtain⟨p,hp,G⟩:=Zm.mp J;refine wpAny_getItem_heap (tupleKind_room_in1 hu) (N9 I.hok eb) dd hp ?_;rw[G];exact h D _ (I.tok _) c
theorem Vi{t':Nat}{ob:HO}(I:Ad X ad σ H s)(c:FR (H a))(D:Heap.SameBut a s.heap h')(G:∃q,h'.get? a=some q)(new:ObjOk X.prog X.w (upd H a ob) h' a ob):
  Ad X ad σ (upd H a ob) { s with heap:=h',toks:=t'}:=
 I.write (x:=a) (e:=a) c (.inl rfl) (λb q g z=>(D.2 b g).trans z) G new
theorem Vj{P:yP}{w:yN}{H':Hp}{kvs:List (AE×V)}{vs:List (AE×yU)}(z:kvs.length<=sizeLine)(hd:(a==sysModules)=false)(rel:KV kvs vs)(dd:h'.DictOf (Bm P w) a vs):
  ObjOk P w H' h' a (.dK kvs):=⟨z,hd,vs,rel,dd⟩
end
def Ob(i:yL):Prop:=∀g c,subscripted i false g c=operate [g,c] (getItem g c)
theorem Vk{prog:yP}{w:yN}{A:yO}{E:VSP}{s:yS}{env:Env}{g c:yL}{Z:Pos}{T id:String}
  (hl:typeLookup (.type T) "__getitem__"=pure (some (.builtin id))) (hs:Ob c)
  (h:wpAny (model prog w) A (eval g env) (λo J=>wpAny (model prog w) A (eval c env) (λi D=>D.TypeIs o T/\wpAny (model prog w) A (getItem o i) Q E D) E J) E s):
  wpAny (model prog w) A (eval (.Subscript g c Z) env) Q E s:=by
 refine eK (Z9 h (λo J O=>Z9 O (λi D G=>?_) λ_ _ x=>x) λ_ _ x=>x);obtain⟨hT,G⟩:=G;unfold subscriptTail;refine Y1 ?_;rw[getitemInPython_of_ne hT.not_modules];refine Y1 (cI hT hl ?_);have fin:wpAny (model prog w) A (subscripted c false o i) (λr I=>wpAny (model prog w) A (letTemporaryGo g o r>>=λ_=>pure r) Q E I) E D:=by
  rw[hs o i];exact wpAny_operating (Z9 G (λr I L=>Y1 (wpAny_letTemporaryGo (Y6 L))) λ_ _ x=>x)
 first
  |exact Y6 (Y1 fin)
  |exact Y1 (Y6 (Y1 fin))
  |exact Y1 fin
theorem Vl{X:Cx}{ad:PNs}{σ:St}{H:Hp}{s:yS}{a:yR}{y:V}{o:Option V}(I:Ad X ad σ H s)(g:Kz H a y o):s.TypeIs (.ref a) "dict" :=by
 rcases g with⟨kvs,k,e,_,_⟩ | ⟨kvs,k,b,e,_,_,_⟩
 .obtain⟨_,_,c,_,dd⟩:=Ky I.hok e;exact dd.typeIs
 .obtain⟨_,_,D,_,dd⟩:=Oa I.hok e;exact dd.typeIs
def Vm(G ty:TE):TE:=fun c H Q=>G c H λx D=>ty c D λy g=>∃a v,x= .ref a/\Kz g a y (some v)/\Q v g
section
variable{X:Cx}{o i e value:yL}{pos pos' tpos:Pos}{td ty tv:TE}
theorem KA(hu:X.A.units+1<cLine)(L:PE X o td)(hi:PE X i ty)(hs:Ob i):PE X (.Subscript o i pos) (Vm td ty):=by
 intro ad s G H Q I h;refine Vk PySem.F.slot_dict_getitem.lookup hs (An (L ad s G H _ I h) λu s1 ⟨x,H1,O,rx,Z⟩=>An (hi ad s1 G H1 _ O Z) λiv s2 zq=>?_);obtain⟨y,H2,D,J,a,v,ex,g,q2⟩:=zq;subst ex;obtain rfl:u=Value.ref a:=rx;exact⟨Vl D g,Vh hu D g J λw' s3 I3 c=>⟨v,H2,I3,c,q2⟩⟩
end
theorem Vn{P:yP}{w:yN}{H:Hp}(h:Heap)(c:sysModules<h.objs.size):ObjOk P w H (h.push { cls:= .type "dict",data:= .dict #[]}) h.objs.size (.dK []):=
 ⟨Z6 _,ZG.mpr (Zo (Z0 c)),[],.nil,dQ h⟩
def KB:List (TE×TE)->St->Hp->(List (V×V)->Hp->Prop)->Prop
  |[],_,H,Q=>Q [] H
  |(tk,tv)::r,σ,H,Q=>tk σ H λx D=>tv σ D λy c=>KB r σ c λG g=>Q ((x,y)::G) g
abbrev VV:List (V×V)->List (yU×yU)->Prop:=Paired λp q=>Az p.1 q.1/\Az p.2 q.2
def HY(X:Cx)(G:Pos)(g:List (Option yL))(c:List yL)(I:List (TE×TE)):Prop:=
 ∀(ad:PNs) (s:yS) (D:St) (H:Hp) (Q:List (V×V)->Hp->Prop),Ad X ad D H s->KB I D H Q->
  wpAny (model X.prog X.w) X.A (evalPairs (pairTrees g c X.env G)) (λO Z=>∃L J,Ad X ad D J Z/\VV L O/\Q L J) X.xe s
theorem Vo{X:Cx}{c:Pos}:HY X c [] [] []:=λad s g H Q I h=>pairTrees_nil_walk ⟨[],H,I,.nil,h⟩
theorem Gs{X:Cx}{c:Pos}{k v:yL}{ks:List (Option yL)}{vs:List yL}{tk D:TE}(hk:PE X k tk)(hv:PE X v D)(J:HY X c ks vs trs):
  HY X c (some k::ks) (v::vs) ((tk,D)::trs):=λad s g H Q I h=>
 pairTrees_cons_walk (An (hk ad s g H _ I h) λu s1 ⟨x,H1,O,rx,Z⟩=>An (hv ad s1 g H1 _ O Z) λw2 s2 ⟨y,H2,I2,G,q2⟩=>
  An (J ad s2 g H2 _ I2 q2) λws s3 ⟨L,H3,I3,rel,q3⟩=>⟨(x,y)::L,H3,I3,.cons ⟨rx,G⟩ rel,q3⟩)
def D9(kvs more:List (AE×V)):List (AE×V):=more.foldl (λg c=>Et g c.1 c.2) kvs
theorem KV.merge:∀ {more:List (AE×V)}{rs:List (AE×yU)}{kvs:List (AE×V)}{vs:List (AE×yU)},KV more rs->KV kvs vs->KV (D9 kvs more) (merged vs rs):=by
 intro more rs kvs vs r;unfold KV at r
 induction r generalizing kvs vs with
 |nil=>intro q;exact q
 |@cons p q ps qs h t ih=>
  intro c;have e:KV (Et kvs p.1 p.2) (stored vs q.1 q.2):=by
   have:=c.putX p.1 h.2;rw[<-h.1];exact this
  exact ih e
theorem Oc:∀(more kvs:List (AE×V)),(D9 kvs more).length<=kvs.length+more.length
 |[],kvs=>by show kvs.length<=kvs.length+0;lia
 |p::r,kvs=>by
  have c:=Oc r (Et kvs p.1 p.2);have g:=Vf kvs p.1 p.2;show(D9 (Et kvs p.1 p.2) r).length<=_;rw[Zh];lia
theorem Od{P:yP}{w:yN}:∀ {kvs:List (AE×V)}{ws:List (yU×yU)},VV (kvs.map λg=>(kV g.1,g.2)) ws->∃rs,Carries (Bm P w) ws rs/\KV kvs rs
 |[],_,r=>by rw[eB]at r;cases r;exact⟨[],True.intro,.nil⟩
 |p::kvs,_,r=>by
  rw[ZA]at r;cases r with
  |@cons a b as bs h t=>
   obtain⟨rs,c,q⟩:=Od (P:=P) (w:=w) t;obtain⟨b1,D⟩:=b;exact⟨(p.1,D)::rs,⟨Kx h.1,rfl,c⟩,.cons ⟨rfl,h.2⟩ q⟩
def Vp(g:List (TE×TE)):TE:=fun I H Q=>∀p,H p=none->KB g I (upd H p (.dK [])) λJ D=>D p=some (.dK [])/\∃c:List (AE×V),J=c.map (λG=>(kV G.1,G.2))/\c.length<=15/\Q (.ref p) (upd D p (.dK (D9 [] c)))
theorem Vq{X:Cx}{L:Pos}{g:List (Option yL)}{D:List yL}(h:HY X L g D trs)(G:g.all (·.isSome)=true)(hl:g.length=D.length)(h0:g≠ [])
  (Z:g.length<=15):PE X (.Dict g D L) (Vp trs):=by
 intro ad s σ H Q I q;have hn:=I.hok.fresh (Y4 s.heap.objs.size);have I1:=I.laid (a:=s.heap.objs.size) (o:= .dK []) (h':=s.heap.push { cls:= .type "dict",data:= .dict #[]}) (t':=s.toks) (λ_ _ q=>Y2 _ q) (Y4 _) (Vn s.heap I.bigX);refine wpAny_Dict_walk (knd:=Bm X.prog X.w) G hl h0 Z (An (h ad _ σ _ _ I1 (q _ hn)) λws s2 zq=>?_);obtain⟨ps,H2,I2,rel,e,J,ep,lk,q2⟩:=zq;subst ep;obtain⟨rs,c,rk⟩:=Od (P:=X.prog) (w:=X.w) rel;obtain⟨z,hd,i4,r0,dd⟩:=Vg I2.hok e;cases r0;refine⟨rs,c,dd,λh' O hs=>⟨.ref s.heap.objs.size,_,?_,rfl,q2⟩⟩;have hz:(D9 [] J).length<=sizeLine:=by
  have h1:=Oc J [];rw[length_nil]at h1;rw[dX];lia
 have he:∃q,h'.get? s.heap.objs.size=some q:=let ⟨q,_,_,hq,_⟩:=O;⟨q,hq⟩;exact Vi I2 (by rw[e];exact True.intro) hs he (Vj hz hd (rk.merge .nil) O)
structure M1(X:Cx)(o:yL)(m:Str)(apos:Pos)(e:yL)(cpos:Pos):Prop where
 base:attributeBase o m X.env (eval o X.env)=eval o X.env
 BW:((backTo cpos (starEach [e] X.env)).all (λx=> !x.1) &&(backToKw cpos (keywordEach [] X.env)).all (λx=>x.1.isSome)
  && decide (([e]:List yL).length+([]:List Keyword).length+(if ([]:List Keyword).isEmpty then 0 else 1)<30))=true
 line:(apos.endLine==cpos.line)=true
 trees:backTo cpos (starEach [e] X.env)=[(false,eval e X.env)]
structure M2(X:Cx)(o:yL)(m:Str)(apos:Pos)(e f:yL)(cpos:Pos):Prop where
 base:attributeBase o m X.env (eval o X.env)=eval o X.env
 BW:((backTo cpos (starEach [e,f] X.env)).all (λx=> !x.1) &&(backToKw cpos (keywordEach [] X.env)).all (λx=>x.1.isSome)
  && decide (([e,f]:List yL).length+([]:List Keyword).length+(if ([]:List Keyword).isEmpty then 0 else 1)<30))=true
 line:(apos.endLine==cpos.line)=true
 trees:backTo cpos (starEach [e,f] X.env)=[(false,eval e X.env),(false,eval f X.env)]
end
structure GD(P:yP)(w:yN)(K:Fgx)(a:yR)(kvs:List (AE×V)):Prop where
 ne:(a==sysModules)=false
 dd:∀h:Heap,K.In h->∃vs,KV kvs vs/\h.DictOf (Bm P w) a vs
structure Fz(P:yP)(w:yN)(K:Fgx)(mg:Str->yW)(base:Heap)(k:Nat)(f:yR)(sp:Sp):Prop where
 ex:∃(n:Nat) (fd:FuncData) (ps:List Str),n<=k/\BV P w K mg base (CJ P w) n f fd ps sp/\PySem.W.keepIn K (.ref f)=true/\Binds K fd ps []
theorem AX.at{P:yP}{w:yN}{K:Fgx}{mg:Str->yW}{base:Heap}{n k:Nat}{x:Str}{g:List Str}{sp:Sp}{f:yR}(F:AX P w K mg base n x g sp)(h:mg x=some (.ref f))(D:n<=k):Fz P w K mg base k f sp:=by
 obtain⟨L,G,F,c,J,I⟩:=F.ex;rw[h]at c;cases c;exact⟨n,G,g,D,F,J,I⟩
def Oe(P:yP)(w:yN)(K:Fgx)(mg:Str->yW)(base:Heap)(k:Nat)(E:XK)(i:Nat)(t:TA):TE:=fun c H Q=>∃f g,c[i]? =some (some (.ref f))/\Fz P w K mg base k f g/\t c H λG D=>g G D Q E
theorem Vr{X:Cx}{E:XK}{k i:Nat}{x:Str}{e:yL}{es:List yL}{t:TA}{p c:Pos}(D:IsDef X E)(hN:X.N[i]? =some x)(hv:DL X.env.scope x)(Z:AQ k X.A)(ha:PA X (e::es) t)
  (hdb:autoParam ((x==("__debug__" :Str))=false) o3) (g:autoParam ((x==("__classdict__" :Str))=false) o3) (he:autoParam (starEach (e::es) X.env=(false,eval e X.env)::starEach es X.env) j2) (J:autoParam ((backTo c (starEach es X.env)).any (·.1)=false) j2):
  PE X (.Call (.Name x p) (e::es) [] c) (Oe X.prog X.w X.K X.mg X.base k E i t):=by
 intro ad s O H Q I ⟨f,sp,hσ,⟨n,fd,ps,hn,F,hk,hb⟩,q⟩;refine ZN (An ((FS (i:=i) hN hv hdb g) ad s O H (λv G=>v= .ref f/\G=H) I ⟨.ref f,hσ,rfl,rfl⟩) λu s2 zq=>?_);obtain⟨v,G,I2,r,ev,eh⟩:=zq;subst ev eh;obtain rfl:u= .ref f:=r;refine PySem.W.callWith_K (h₀:=X.base) I.ok.mod.kin hk (An (ha c ad s2 O G _ I2 q) λus s3 ⟨vs,H1,L,r,q⟩=>⟨L.kIn,?_⟩) he J;exact G9 (ds:=[]) (dvs:=[]) F (Z.mono hn) hb .nil D.passes L r (by rw[ZV];exact q)
section
open AutoSeq1 (wpAny_loadPart')
variable{X:Cx}
theorem mul_one(l:yR)(items:Array yU)(n:Nat)(dd:Option yR)(c:Array (yW))(u:Tok):
  Meets (Builtin.«tuple.__mul__» ⟨[.ref l,.int 1 u],[]⟩) (λ_ R s=>s.heap.get? l=some { cls:= .type "tuple",dict:=dd,data:= .seq items n,slots:=c}/\R (.ok (.ret (Value.ref l))) s):=
 .of_wp λprog w A R s h=>by
  obtain⟨I,g,d,tk,os⟩:=s;obtain⟨D,h⟩:=h;have J:=AutoSeq1.idx_int;have G:=bJ
  wp_walk using Zk D
  exact⟨_,rfl,h⟩
def Of:R2:=λx y H Q=>∃a k c,x= .ref a/\y= .int k/\H a=some (.tup c)/\c≠ []/\1<=k/\k<=100/\c.length<=100/\Fo H (List.replicate k.toNat c).flatten Q
theorem FB:OpR X (binaryOp .Mult) Of:=by
 intro ad s σ H x y v u Q I L G h;obtain⟨a,k,Z,rfl,rfl,D,hx,h1,h2,h3,q⟩:=h
 by_cases z:k=1
 .subst z;cases L;obtain⟨t,rfl⟩:=G;obtain⟨g,r,ht,hz⟩:=I.tuple (Ae.of D);obtain⟨⟨cls,dd,data,J⟩,c,O,n,hd⟩:=id ht;simp only at O hd;subst O hd;refine bE (T:="tuple") (U:="int") (by decide) ⟨_,c,rfl⟩ (λs'=>bO s' 1 t) MI dO aV MJ dB.lookup
   (aA aV (bO s 1 t) dC (di _ _) (MK 1 t a g.toArray n dd J) ⟨c,rfl,⟨_,c,rfl⟩,?_⟩)
  refine aA cg ⟨_,c,rfl⟩ F.entry_tuple_mul (F.args_tuple_mul_2 _ _) (mul_one a g.toArray n dd J t) ⟨c,?_⟩;exact⟨.ref a,_,I,rfl,q _ _ (Ab.refl _) (by rw[D];simp)⟩
 .exact MM ad s σ H (.ref a) (.int k) v u Q I L G ⟨a,k,Z,rfl,rfl,D,hx,by lia,h2,h3,q⟩
end
theorem KC{k:Nat}{A:yO}(c:AQ k A):A.units+1<cLine:=by have:=c.un;lia
def Vs(G:TE):TE:=fun D H Q=>G D H λx g=>∃d c,x= .ref d/\g d=some (.dK c)/\∀o,Q x (upd g d (.frz o (.dK c)))
theorem Vt{X:Cx}{e:yL}{D:TE}(L:PE X e D):PE X e (Vs D):=by
 intro ad s σ H Q I h;refine An (L ad s σ H _ I h) λv s1 zq=>?_
 obtain⟨x,H1,G,Z,d,g,ex,hd,q⟩:=zq;subst ex;obtain⟨hz,c,vs,O,dd⟩:=(show ObjOk X.prog X.w H1 s1.heap d (.dK g) from G.hok d _ hd);obtain⟨o,es,ep,J,r⟩:=id dd;exact⟨.ref d,_,G.write (x:=d) (e:=d) (o:= .frz o (.dK g)) (t':=s1.toks) (by rw[hd];trivial) (.inl rfl) (λb u _ q=>q) ⟨o,J⟩ ⟨J,hz,c,vs,O,dd⟩,Z,q o⟩
end L2
namespace MF
open L2
variable{i:Int}{H:Hp}{xs:List V}
def BB(p:yR)(H0:Hp)(σ:L2.St)(g:TE)(d:yQ):Prop:=∀H Q,Ab H0 H->(∀v c,Ab H c->Aa p c d v->Q v c)->g σ H Q
def Gu(p:yR)(H0:Hp)(σ:L2.St)(D:TA)(ds:List yQ):Prop:=∀H Q,Ab H0 H->(∀g c,Ab H c->Ac p c ds g->Q g c)->D σ H Q
variable{p:yR}{H0:Hp}{σ:L2.St}{te tb:TE}{ta:TA}{d:yQ}{ds es:List yQ}{K:Fgx}
theorem BG:BB p H0 σ (tC (.int i)) (.int i):=λH Q _ q=>q _ _ (Ab.refl _) Aa.int
theorem Gv:BB p H0 σ (tC .non) .none:=λH Q _ q=>q _ _ (Ab.refl _) Aa.non
theorem Vu{s:Str}:BB p H0 σ (tC (.str s)) (.str s):=λH Q _ q=>q _ _ (Ab.refl _) Aa.str
theorem Vv{b:Bool}:BB p H0 σ (tC (.bl b)) (.bool b):=λH Q _ q=>q _ _ (Ab.refl _) (by unfold Aa;rfl)
theorem FC{i:Nat}{v:V}(h:σ[i]? =some (some v))(r:Aa p H0 d v):BB p H0 σ (DS i) d:=λH Q s q=>by
 unfold DS;rw[h];exact q _ _ (Ab.refl _) (Aa.ev (Ev.same s) _ _ r)
theorem AU:Gu p H0 σ CC []:=λH Q _ q=>q _ _ (Ab.refl _) .nil
theorem AA(h:BB p H0 σ te d)(t:Gu p H0 σ ta ds):Gu p H0 σ (BD te ta) (d::ds):=λH Q s q=>
 h H _ s λv c s1 r=>t c _ (s.trans s1) λD g s2 rs=>q _ _ (s1.trans s2) (.cons (Aa.ev (Ev.same s2) _ _ r) rs)
theorem A7(h:Gu p H0 σ ta ds)(l:Nat.ble ds.length 64=true):BB p H0 σ (NC ta) (.tuple ds):=λH Q s q=>
 h H _ s λg D s1 rs=>by
  rw[<-rs.len,l];exact λt c s2 k=>q _ _ (s1.trans s2) (Aa.tup k (Ac.ev (Ev.same s2) _ _ rs))
theorem Aa.ls{a:yR}(n:a≠p)(h:H a=some (.lst xs))(r:Ac p H ds xs):Aa p H (.list ds) (.ref a):=by
 unfold Aa;exact⟨a,xs,rfl,n,h,r⟩
theorem HZ{a:yR}(g:∃o,H0 p=some o)(s:Ab H0 H)(n:H a=none):a≠p:=λz=>by
 obtain⟨o,c⟩:=g;have:=s _ _ c;rw[z,this]at n;cases n
theorem Eu(c:∃o,H0 p=some o)(h:Gu p H0 σ ta ds)(l:Nat.ble ds.length 64=true):BB p H0 σ (ND ta) (.list ds):=λH Q s q=>
 h H _ s λD G s1 rs=>by
  rw[<-rs.len,l];exact λt g s2 n k=>q _ _ (s1.trans s2) (Aa.ls (HZ c (s.trans s1) n) k (Ac.ev (Ev.same s2) _ _ rs))
theorem Aa.untup{v:V}(r:Aa p H (.tuple ds) v):∃a xs,v= .ref a/\H a=some (.tup xs)/\Ac p H ds xs:=by unfold Aa at r;exact r
theorem Aa.unls{v:V}(r:Aa p H (.list ds) v):∃a xs,v= .ref a/\a≠p/\H a=some (.lst xs)/\Ac p H ds xs:=by
 unfold Aa at r;exact r
theorem Vw(O:∃o,H0 p=some o)(h:BB p H0 σ te (.list ds))(g:BB p H0 σ tb (.list es))(l:ds.length+es.length<=64):BB p H0 σ (Dv NE te tb) (.list (ds++es)):=λH Q s q=>
 h H _ s λv H1 s1 r=>g H1 _ (s.trans s1) λu H2 s2 ru=>by
  obtain⟨a,D,rfl,n1,L,G⟩:=Aa.unls (Aa.ev (Ev.same s2) _ _ r);obtain⟨b,I,rfl,n2,Z,J⟩:=Aa.unls ru;have e1:=G.len;have e2:=J.len;refine⟨a,b,D,I,rfl,rfl,L,Z,YV (by lia:D.length+I.length<=64) (by decide),λt H3 c n k=>?_⟩;exact q _ _ (s1.trans (s2.trans c)) (Aa.ls (HZ O (s.trans (s1.trans s2)) n) k (Ac.ev (Ev.same c) _ _ (Ac.append G J)))
theorem Ia{k:Nat}(h:BB p H0 σ te (.list ds))(J:σ[k]? =some (some (.int i)))(h0:0<=i)(h1:i<ds.length){H:Hp}{Q:VK}(s:Ab H0 H)(q:∀d∈ds,∀v H',Ab H H'->Aa p H' d v->Q v H'):Dv (Jy K) te (DS k) σ H Q:=
 h H _ s λv H1 s1 r=>by
  obtain⟨a,G,rfl,O,D,c⟩:=Aa.unls r;have Z:=c.len;obtain⟨j,rfl⟩:∃j:Nat,i=j:=⟨i.toNat,by lia⟩;have g:j<ds.length:=by lia
  obtain⟨x,L,I⟩:=c.get (i:=j) (d:=ds[j]) (Y5 g);unfold DS;rw[J];exact⟨a,G,j,x,rfl,rfl,Al.of D,DB L,q _ (bz _) _ _ s1 I⟩
theorem Gw(r:Ac p H ds xs):∀n:Nat,Ac p H (List.replicate n ds).flatten (List.replicate n xs).flatten
 |0=> .nil
 |n+1=>by
  rw[ZQ,ZQ,aP,aP];exact Ac.append r (Gw r n)
theorem Gx{k:Int}(h:BB p H0 σ te (.tuple ds))(ne:ds≠ [])(l:ds.length<=100)(k1:1<=k)(k2:k<=100)(g:∀H Q,Ab H0 H->(∀H',Ab H H'->Q (.int k) H')->tb σ H Q):BB p H0 σ (Dv Of te tb) (.tuple (List.replicate k.toNat ds).flatten):=λH Q s q=>
 h H _ s λv O s1 r=>g O _ (s.trans s1) λH2 s2=>by
  obtain⟨a,J,rfl,L,G⟩:=Aa.untup (Aa.ev (Ev.same s2) _ _ r);have D:=G.len;refine⟨a,k,J,rfl,rfl,L,λz=>ne (Zr (by rw[z]at D;exact D)),k1,k2,by lia,λt Z c I=>?_⟩;exact q _ _ (s1.trans (s2.trans c)) (Aa.tup I (Ac.ev (Ev.same c) _ _ (Gw G _)))
theorem Vx{k:Int}(L:∃o,H0 p=some o)(h:BB p H0 σ te (.list ds))(l:ds.length<=100)(k1:0<=k)(k2:k<=100)(g:∀H Q,Ab H0 H->(∀H',Ab H H'->Q (.int k) H')->tb σ H Q):BB p H0 σ (Dv L6 te tb) (.list (List.replicate k.toNat ds).flatten):=λH Q s q=>
 h H _ s λv O s1 r=>g O _ (s.trans s1) λH2 s2=>by
  obtain⟨a,c,rfl,Z,J,D⟩:=Aa.unls (Aa.ev (Ev.same s2) _ _ r);have e1:=D.len;have b1:c.length * k.toNat<=100 * 100:=bQ (by lia) (by lia);refine⟨a,k,c,rfl,rfl,J,fk (by decide) k1,bL k2 (by decide),YV b1 (by decide),λt G=>?_⟩;have I:=Ab.new (o:= .lst (List.replicate k.toNat c).flatten) G;exact q _ _ (s1.trans (s2.trans I)) (Aa.ls (HZ L (s.trans (s1.trans s2)) G) Af (Ac.ev (Ev.same I) _ _ (Gw D _)))
theorem Vy(h:BB p H0 σ te (.tuple ds))(g:BB p H0 σ tb (.tuple es))(l:ds.length+es.length<=1000):BB p H0 σ (Dv MG te tb) (.tuple (ds++es)):=λH Q s q=>
 h H _ s λv Z s1 r=>g Z _ (s.trans s1) λu H2 s2 ru=>by
  obtain⟨a,J,rfl,I,D⟩:=Aa.untup (Aa.ev (Ev.same s2) _ _ r);obtain⟨b,L,rfl,O,G⟩:=Aa.untup ru;have e1:=D.len;have e2:=G.len;exact⟨a,b,J,L,rfl,rfl,I,O,by lia,λt H3 c k=>q _ _ (s1.trans (s2.trans c)) (Aa.tup k (Ac.ev (Ev.same c) _ _ (Ac.append D G)))⟩
end MF
namespace L2
variable{M:List yR}{H H':Hp}{ql:Str}{xs:List V}
def Og(o:HO):Prop:=(∃c,o= .lst c)\/ ∃g,o= .tbl g
def EvX(M:List yR)(H H':Hp):Prop:=∀b o,H b=some o->(b∈M/\Og o)\/H' b=some o
theorem EvX.refl:EvX M H H:=λ_ _ h=> .inr h
theorem EvX.same(h:Ab H H'):EvX M H H':=λb o q=> .inr (h b o q)
theorem EvX.trans{D g:Hp}(a:EvX M H D)(b:EvX M D g):EvX M H g:=λc o h=>(a c o h).elim .inl λz=>b c o z
theorem EvX.ev{p:yR}(a:Ev p H H')(h:p∈M):EvX M H H':=λc o z=>(a c o z).imp_left fun⟨m,q⟩=>⟨m ▸ h,.inl q⟩
theorem EvX.tab{TB:yR}(t:TabIn H TB ql)(g:∀b o,H b=some o->b≠TB->H' b=some o)(h:TB∈M):EvX M H H':=λb o z=>by
 by_cases e:b=TB
 .obtain⟨D,c,_⟩:=t;rw[e,c]at z;cases z;exact .inl ⟨e ▸ h,.inr ⟨_,rfl⟩⟩
 .exact .inr (g b o z e)
theorem EvX.keep{b:yR}{o:HO}(a:EvX M H H')(h:H b=some o)(n:¬Og o):H' b=some o:=(a b o h).elim (λz=>absurd z.2 n) id
theorem EvX.tup{b:yR}(a:EvX M H H')(h:H b=some (.tup xs)):H' b=some (.tup xs):=a.keep h λz=>by rcases z with⟨_,z⟩ | ⟨_,z⟩<;>cases z
theorem EvX.lst{b:yR}(a:EvX M H H')(h:H b=some (.lst xs))(n:b ∉ M):H' b=some (.lst xs):=(a b _ h).elim (λz=>absurd z.1 n) id
theorem TabIn.ne{TB b:yR}(t:TabIn H TB ql)(h:H b=some (.lst xs)):b≠TB:=λz=>by
 obtain⟨g,c,_⟩:=t;rw[z,c]at h;cases h
end L2
namespace MF
open L2
section
def Ay(i : Nat): Stmt := PySem.Challenge.pw_mainfires_k34_doors_of_plants_and_firing.main.body.getD i (.Pass ⟨0, 0, 0, 0⟩)
abbrev wa3:Stmt:=Ay 23
abbrev wa4:Stmt:=Ay 24
abbrev wa5:Stmt:=Ay 25
abbrev wa6:Stmt:=Ay 26
abbrev wa7:Stmt:=Ay 35
abbrev wa8:Stmt:=Ay 36
abbrev wa9:Stmt:=Ay 37
abbrev waa:Stmt:=Ay 38
abbrev wab:Stmt:=Ay 39
abbrev wac:Stmt:=Ay 40
abbrev wad:Stmt:=Ay 41
abbrev wae:Stmt:=Ay 42
abbrev waf:Stmt:=Ay 43
abbrev wag:Stmt:=Ay 44
abbrev wah:Stmt:=Ay 45
abbrev wai:Stmt:=Ay 46
abbrev waj:Stmt:=Ay 47
abbrev wak:Stmt:=Ay 48
abbrev wal:Stmt:=Ay 49
abbrev wam:Stmt:=Ay 50
abbrev wan:Stmt:=Ay 51
abbrev wao:Stmt:=Ay 52
abbrev wap:Stmt:=Ay 53
abbrev waq:Stmt:=Ay 54
abbrev war:Stmt:=Ay 55
abbrev was:Stmt:=Ay 56
abbrev wau:Stmt:=Ay 58
abbrev wav:Stmt:=Ay 59
abbrev waw:Stmt:=Ay 60
abbrev wax:Stmt:=Ay 61
abbrev waz:Stmt:=Ay 63
abbrev waA:Stmt:=Ay 64
abbrev waB:Stmt:=Ay 65
abbrev waC:Stmt:=Ay 66
abbrev waD:Stmt:=Ay 67
abbrev waE:Stmt:=Ay 69
abbrev waF:Stmt:=Ay 70
abbrev waG:Stmt:=Ay 71
abbrev waH:Stmt:=Ay 72
abbrev waI:Stmt:=Ay 73
abbrev waJ:Stmt:=Ay 74
abbrev waK:Stmt:=Ay 75
abbrev waL:Stmt:=Ay 76
abbrev waM:Stmt:=Ay 77
abbrev waN:Stmt:=Ay 78
abbrev waO:Stmt:=Ay 80
abbrev waP:Stmt:=Ay 81
abbrev waQ:Stmt:=Ay 82
abbrev waR:Stmt:=Ay 83
abbrev waS:Stmt:=Ay 84
abbrev waT:Stmt:=Ay 85
abbrev waU:Stmt:=Ay 86
abbrev waV:Stmt:=Ay 87
abbrev waW:Stmt:=Ay 88
abbrev waX:Stmt:=Ay 89
abbrev waY:Stmt:=Ay 90
abbrev waZ:Stmt:=Ay 92
abbrev wb0:Stmt:=Ay 94
abbrev wb1:Stmt:=Ay 98
abbrev wb2:Stmt:=Ay 99
abbrev wb3:Stmt:=Ay 100
abbrev wb4:Stmt:=Ay 101
abbrev wb5:Stmt:=Ay 102
abbrev wb6:Stmt:=Ay 103
abbrev wb7:Stmt:=Ay 104
abbrev wb8:Stmt:=Ay 105
abbrev wb9:Stmt:=Ay 106
abbrev wba:Stmt:=Ay 107
abbrev wa2:Stmt:=Ay 108
abbrev wbb:Stmt:=Ay 109
abbrev wbc:Stmt:=Ay 110
abbrev wa1:Stmt:=Ay 111
def Oh:Stmt->List Stmt | .ClassDef _ _ _ b _ _ _ _ _ _ _=>b | _=>[]
abbrev s_Watch___init__:Stmt:=(Oh (Ay 96)).getD 0 (.Pass ⟨0,0,0,0⟩)
abbrev s_Watch_kept_firing:Stmt:=(Oh (Ay 96)).getD 1 (.Pass ⟨0,0,0,0⟩)
structure Tx(mg:Str->yW):Prop where
 b_ValueError:mg "ValueError"=none
 b_all:mg "all"=none
 b_bool:mg "bool"=none
 b_divmod:mg "divmod"=none
 b_enumerate:mg "enumerate"=none
 b_int:mg "int"=none
 b_isinstance:mg "isinstance"=none
 b_len:mg "len"=none
 b_list:mg "list"=none
 b_max:mg "max"=none
 b_min:mg "min"=none
 b_range:mg "range"=none
 b_repr:mg "repr"=none
 b_reversed:mg "reversed"=none
 b_str:mg "str"=none
 b_sum:mg "sum"=none
 b_tuple:mg "tuple"=none
 b_zip:mg "zip"=none
 g_MOST_BOILERS:∃t,mg "MOST_BOILERS"=some (.int 4 t)
 g_MOST_ENGINES:∃t,mg "MOST_ENGINES"=some (.int 4 t)
 g_MOST_FAULTS:∃t,mg "MOST_FAULTS"=some (.int 4 t)
 g_MOST_HOURS:∃t,mg "MOST_HOURS"=some (.int 8 t)
 g_MOST_UNITS:∃t,mg "MOST_UNITS"=some (.int 9 t)
 g_MOST_EXTRA:∃t,mg "MOST_EXTRA"=some (.int 20 t)
 g_MOST_IN_MAIN:∃t,mg "MOST_IN_MAIN"=some (.int 40 t)
def Gy:yQ->Bool | .int _=>true | _=>false
def AZ(d:yQ)(lo hi:Int):Bool:=match d with | .int i=>decide (lo<=i) && decide (i<=hi) | _=>false
def AV(d:yQ)(lo hi:Int):Bool:=match d with | .tuple ds=>decide (lo<=(ds.length:Int)) && decide ((ds.length:Int)<=hi) | _=>false
def FE:Sp:=λc H Q _=>zH (λv=>∃p d,Aa p H d v/\∀b,b=Gy d->Q (.bl b) H) c
def KG:Sp:=λc H Q _=>zI (λv lo hi=>∃p d,Aa p H d v/\∀b,b=AZ d lo hi->Q (.bl b) H) c
def KH:Sp:=λc H Q _=>zI (λv lo hi=>∃p d,Aa p H d v/\∀b,b=AV d lo hi->Q (.bl b) H) c
variable{P:yP}{w:yN}{K:Fgx}{mg:Str -> yW}{base:Heap}
theorem VA(F:Df K mg "is_whole" wa3 ["thing"])(T:Tx mg):Fn P w K mg base 1 "is_whole" ["thing"] FE:=by
 refine F.fm (N:=["thing"]) AB λf dl A outer s H g Q E D h=>?_
 refine⟨_,(Ao (Av (Bp (Ax Hq rfl T.b_isinstance Za (As (cy 0) (FU (v:= .ty "int") rfl T.b_int L2.boot_int rfl))) (BM (RK (Ax Hq rfl T.b_isinstance Za (As (cy 0) (FU (v:= .ty "bool") rfl T.b_bool L2.boot_bool rfl)))))))),?_⟩;cases h;rename_i h
 .rename_i v;obtain⟨p,d,r,q⟩:=h;refine⟨_,r.ty,.inl rfl,⟨λc=>⟨_,r.ty,.inr (.inl rfl),?_⟩,λc=>?_⟩⟩
  .exact q _ (by cases d<;>first | rfl | cases c)
  .exact q _ (by cases d<;>first | rfl | cases c)
abbrev E3(P:yP)(w:yN)(K:Fgx)(mg:Str->yW)(base:Heap):Prop:=Fn P w K mg base 2 "is_whole_from" ["thing","least","most"] KG
theorem VC(F:Df K mg "is_whole_from" wa4 ["thing","least","most"])(T:Tx mg)(g:Fn P w K mg base 1 "is_whole" ["thing"] FE):E3 P w K mg base:=by
 refine F.fn (N:=["thing","least","most"]) AB (λI H Q E h=>?_) (λf dl A outer s H I Q E G h=>?_)
 .cases h;rfl
 refine⟨_,(Ao (Av (Bp (zB g G (Aj (cy 0))) (BM (Mz Em Em (cy 1) (cy 0) (cy 2)))))),?_⟩;cases h;rename_i h
 .rename_i v lo hi;obtain⟨p,d,r,q⟩:=h;refine⟨p,d,r,λb D=>⟨λc=>?_,λc=>?_⟩⟩
  .subst c;cases d<;>first | cases D | skip
   rename_i i;unfold Aa at r;subst r;refine⟨λc=>?_,λc=>?_⟩
   .exact q _ (by unfold AZ;dsimp only;rw[c];rfl)
   .exact q _ (by unfold AZ;dsimp only;rw[c];rfl)
  .subst c;exact q _ (by cases d<;>first | rfl | cases D)
abbrev Ch(P:yP)(w:yN)(K:Fgx)(mg:Str->yW)(base:Heap):Prop:=Fn P w K mg base 1 "is_tuple_of" ["thing","fewest","most"] KH
theorem VE(F:Df K mg "is_tuple_of" wa5 ["thing","fewest","most"])(T:Tx mg):Ch P w K mg base:=by
 refine F.fn (N:=["thing","fewest","most"]) AB (λG H Q E h=>?_) (λf dl A outer s H G Q E I h=>?_)
 .cases h;rfl
 refine⟨_,(Ao (Av (Bp (Ax Hq rfl T.b_isinstance Za (As (cy 0) (FU (v:= .ty "tuple") rfl T.b_tuple BT rfl))) (BM (Mz Em Em (cy 1) (Ax (Bl K) rfl T.b_len PySem.boot_len (Aj (cy 0))) (cy 2)))))),?_⟩;cases h;rename_i h
 .rename_i v lo hi;obtain⟨p,d,r,q⟩:=h;refine⟨_,r.ty,.inr (.inr (.inl rfl)),⟨λc=>?_,λc=>?_⟩⟩
  .cases d<;>first | cases c | skip
   rename_i ds;unfold Aa at r;obtain⟨a,D,rfl,g,rs⟩:=r;refine⟨a,D,rfl,.inr (Ae.of g),?_⟩;rw[<-rs.len];refine⟨λc=>?_,λc=>?_⟩
   .exact q _ (by unfold AV;dsimp only;rw[c];rfl)
   .exact q _ (by unfold AV;dsimp only;rw[c];rfl)
  .exact q _ (by cases d<;>first | rfl | cases c)
end
section
variable{p:yR}{H:Hp}{xs:List V}
theorem Oi{c g:Type}{ds:List c}{i:Nat}{d:c}(f:c->g)(h:ds[i]? =some d):(ds.take (i+1)).map f=(ds.take i).map f++[f d]:=by
 rw[cH,h,YM];rfl
def E4(d:yQ):Bool:=match d with | .tuple [a,b]=>AZ a 1 9 && AZ b 1 9 | _=>false
def Ew(d:yQ):Bool:=match d with | .tuple [a,b,c]=>AZ a 1 9 && AZ b 0 7 && AZ c 1 8 | _=>false
def E5(d:yQ):Bool:=match d with
 |.tuple [a,b,c]=>AZ b 0 40 && match b with | .int hi=>AZ c 0 hi &&(match c with | .int st=>AZ a 0 st | _=>false) | _=>false
 |_=>false
def FF(d:yQ):Bool:=match d with | .tuple ds=>AV d 1 4 && ds.all E4 | _=>false
def FG(d:yQ):Bool:=match d with | .tuple ds=>AV d 0 4 && ds.all Ew | _=>false
def CT(d:yQ):Bool:=match d with | .tuple [a,b,c]=>FF a && FG b && E5 c | _=>false
def CL(f:yQ->Bool):Sp:=λg H Q _=>zH (λv=>∃p d,Aa p H d v/\∀b c,b=f d->Ab H c->Q (.bl b) c) g
theorem FH{f:yQ->Bool}{vs H Q E}(h:CL f vs H Q E):vs.length=1:=by cases h;rfl
abbrev Ib:Sp:=CL E4
abbrev Id:Sp:=CL Ew
abbrev Ie:Sp:=CL E5
abbrev Ig:Sp:=CL FF
abbrev Ih:Sp:=CL FG
abbrev Ii:Sp:=CL CT
theorem VF{vs H Q E}(h:Ib vs H Q E):vs.length=1:=FH h
theorem VG{vs H Q E}(h:Id vs H Q E):vs.length=1:=FH h
theorem VH{vs H Q E}(h:Ie vs H Q E):vs.length=1:=FH h
theorem VI{vs H Q E}(h:Ig vs H Q E):vs.length=1:=FH h
theorem VJ{vs H Q E}(h:Ih vs H Q E):vs.length=1:=FH h
theorem VL{vs H Q E}(h:Ii vs H Q E):vs.length=1:=FH h
theorem two{ds:List yQ}(h:AV (.tuple ds) 2 2=true):∃a b,ds=[a,b]:=by
 unfold AV at h;simp only[Zj,ZU]at h
 match ds,h with
 |[a,b],_=>exact⟨a,b,rfl⟩
 |[],h=>simp at h
 |[_],h=>simp at h
 |_::_::_::_,h=>simp at h;lia
theorem three{ds:List yQ}(h:AV (.tuple ds) 3 3=true):∃a b c,ds=[a,b,c]:=by
 unfold AV at h;simp only[Zj,ZU]at h
 match ds,h with
 |[a,b,c],_=>exact⟨a,b,c,rfl⟩
 |[],h=>simp at h
 |[_],h=>simp at h
 |[_,_],h=>simp at h
 |_::_::_::_::_,h=>simp at h;lia
theorem E6{d:yQ}{lo hi:Int}(h:AV d lo hi=true):∃ds,d= .tuple ds:=by
 cases d<;>first | exact⟨_,rfl⟩ | cases h
theorem Aa.shape{ds:List yQ}{v:V}(r:Aa p H (.tuple ds) v):∃a xs,v= .ref a/\H a=some (.tup xs)/\Ac p H ds xs:=by unfold Aa at r;exact r
theorem Ac.two{a b:yQ}(r:Ac p H [a,b] xs):∃x y,xs=[x,y]/\Aa p H a x/\Aa p H b y:=by
 unfold Ac at r;obtain⟨x,s,rfl,g,r⟩:=r;unfold Ac at r;obtain⟨y,s,rfl,c,r⟩:=r;unfold Ac at r;subst r;exact⟨x,y,rfl,g,c⟩
theorem Ac.three{a b c:yQ}(r:Ac p H [a,b,c] xs):∃x y z,xs=[x,y,z]/\Aa p H a x/\Aa p H b y/\Aa p H c z:=by
 unfold Ac at r;obtain⟨x,s,rfl,G,r⟩:=r;obtain⟨y,z,rfl,g,D⟩:=Ac.two r;exact⟨x,y,z,rfl,G,g,D⟩
variable{P:yP}{w:yN}{K:Fgx}{mg:Str -> yW}{base:Heap}
theorem VM(F:Df K mg "is_make_and_coal" wa9 ["thing"])(T:Tx mg)(I:Ch P w K mg base)(D:E3 P w K mg base):Fn P w K mg base 3 "is_make_and_coal" ["thing"] Ib:=by
 obtain⟨g,g_MOST_UNITS⟩:=T.g_MOST_UNITS;refine F.fn (N:=["thing","make","coal"]) AB (λvs H Q E h=>?_) (λf dl A outer s H vs Q E G h=>?_)
 .exact VF h
 refine⟨_,(Ak (Bq (Cz (Cp (zB I G (AM (cy 0) Ag Ag)))) (Ao (Av Cj)) Bn) (Ak (Bo (cy 0) (AL K (n:=2) (Ai (zD 1) (Ai (zD 2) AK)))) (Ao (Av (Bp (zB D G (AM (cy 1) Ag (AO (v:= .int 9) rfl g_MOST_UNITS ⟨g,rfl⟩))) (BM (zB D G (AM (cy 2) Ag (AO (v:= .int 9) rfl g_MOST_UNITS ⟨g,rfl⟩))))))))),?_⟩;cases h;rename_i h
 .rename_i v;obtain⟨p,d,r,q⟩:=h;refine⟨p,d,r,λb L=>⟨λc=>?_,λc=>?_⟩⟩
  .refine q false H ?_ (Ab.refl _);have e:AV d 2 2=false:=by rw [<-L];simpa using c
   cases d<;>first | rfl | skip
   rename_i ds
   match ds,e with
   |[a,b],e=>cases e
   |[],_=>rfl
   |[_],_=>rfl
   |_::_::_::_,_=>rfl
  .have e:AV d 2 2=true:=by rw [<-L];simpa using c
   obtain⟨ds,rfl⟩:=E6 e;obtain⟨a,b,rfl⟩:=two e;obtain⟨l,xs,rfl,Z,rs⟩:=Aa.shape r;obtain⟨x,y,rfl,rx,O⟩:=Ac.two rs;refine⟨l,[x,y],rfl,Ae.of Z,rfl,x,[y],rfl,y,[],rfl,rfl,p,a,rx,λb1 J=>⟨λc=>⟨p,b,O,λb2 e2=>?_⟩,λc=>?_⟩⟩
   .exact q _ _ (by unfold E4;dsimp only;rw[e2,<-J,c];rfl) (Ab.refl _)
   .exact q _ _ (by unfold E4;dsimp only;rw[<-J,c];rfl) (Ab.refl _)
theorem VN(F:Df K mg "is_engine" wab ["thing"])(T:Tx mg)(L:Ch P w K mg base)(G:E3 P w K mg base):Fn P w K mg base 3 "is_engine" ["thing"] Id:=by
 obtain⟨g,g_MOST_HOURS⟩:=T.g_MOST_HOURS;obtain⟨D,g_MOST_UNITS⟩:=T.g_MOST_UNITS;refine F.fn (N:=["thing","draw","first","every"]) AB (λvs H Q E h=>?_) (λf dl A outer s H vs Q E I h=>?_)
 .exact VG h
 refine⟨_,(Ak (Bq (Cz (Cp (zB L I (AM (cy 0) Ag Ag)))) (Ao (Av Cj)) Bn) (Ak (Bo (cy 0) (AL K (n:=3) (Ai (zD 1) (Ai (zD 2) (Ai (zD 3) AK))))) (Ao (Av (Bp (zB G I (AM (cy 1) Ag (AO (v:= .int 9) rfl g_MOST_UNITS ⟨D,rfl⟩))) (Bp (zB G I (AM (cy 2) Ag (Ar BL (AO (v:= .int 8) rfl g_MOST_HOURS ⟨g,rfl⟩) Ag))) (BM (zB G I (AM (cy 3) Ag (AO (v:= .int 8) rfl g_MOST_HOURS ⟨g,rfl⟩)))))))))),?_⟩;cases h;rename_i h
 .rename_i v;obtain⟨p,d,r,q⟩:=h;refine⟨p,d,r,λb Z=>⟨λc=>?_,λc=>?_⟩⟩
  .refine q false H ?_ (Ab.refl _);have e:AV d 3 3=false:=by rw [<-Z];simpa using c
   cases d<;>first | rfl | skip
   rename_i ds
   match ds,e with
   |[a,b,c],e=>cases e
   |[],_=>rfl
   |[_],_=>rfl
   |[_,_],_=>rfl
   |_::_::_::_::_,_=>rfl
  .have e:AV d 3 3=true:=by rw [<-Z];simpa using c
   obtain⟨ds,rfl⟩:=E6 e;obtain⟨a,b,c',rfl⟩:=three e;obtain⟨l,xs,rfl,hl,rs⟩:=Aa.shape r;obtain⟨x,y,z,rfl,rx,ry,rz⟩:=Ac.three rs;refine⟨l,[x,y,z],rfl,Ae.of hl,rfl,x,[y,z],rfl,y,[z],rfl,z,[],rfl,rfl,p,a,rx,λb1 J=>⟨λc=>⟨p,b,ry,λb2 e2=>⟨λO=>⟨p,c',rz,λb3 e3=>?_⟩,λO=>?_⟩⟩,λc=>?_⟩⟩
   .exact q _ _ (by unfold Ew;dsimp only;rw[e3,<-J,c];rw[show AZ b 0 7=true from by rw[<-O,e2];rfl];rfl) (Ab.refl _)
   .exact q _ _ (by unfold Ew;dsimp only;rw[<-J,c];rw[show AZ b 0 7=false from by rw[<-O,e2];rfl];rfl) (Ab.refl _)
   .exact q _ _ (by unfold Ew;dsimp only;rw[<-J,c];rfl) (Ab.refl _)
theorem VO(F:Df K mg "is_main" wac ["thing"])(T:Tx mg)(i4:Ch P w K mg base)(D:E3 P w K mg base):Fn P w K mg base 3 "is_main" ["thing"] Ie:=by
 obtain⟨g,g_MOST_IN_MAIN⟩:=T.g_MOST_IN_MAIN;refine F.fn (N:=["thing","low","high","start"]) AB (λvs H Q E h=>?_) (λf dl A outer s H vs Q E I h=>?_)
 .exact VH h
 refine⟨_,(Ak (Bq (Cz (Cp (zB i4 I (AM (cy 0) Ag Ag)))) (Ao (Av Cj)) Bn) (Ak (Bo (cy 0) (AL K (n:=3) (Ai (zD 1) (Ai (zD 2) (Ai (zD 3) AK))))) (Ao (Av (Bp (zB D I (AM (cy 2) Ag (AO (v:= .int 40) rfl g_MOST_IN_MAIN ⟨g,rfl⟩))) (Bp (zB D I (AM (cy 3) Ag (cy 2))) (BM (zB D I (AM (cy 1) Ag (cy 3)))))))))),?_⟩;cases h;rename_i h
 .rename_i v;obtain⟨p,d,r,q⟩:=h;refine⟨p,d,r,λb hb=>⟨λc=>?_,λc=>?_⟩⟩
  .refine q false H ?_ (Ab.refl _);have e:AV d 3 3=false:=by rw [<-hb];simpa using c
   cases d<;>first | rfl | skip
   rename_i ds
   match ds,e with
   |[a,b,c],e=>cases e
   |[],_=>rfl
   |[_],_=>rfl
   |[_,_],_=>rfl
   |_::_::_::_::_,_=>rfl
  .have e:AV d 3 3=true:=by rw [<-hb];simpa using c
   obtain⟨ds,rfl⟩:=E6 e;obtain⟨a,b,c',rfl⟩:=three e;obtain⟨l,xs,rfl,hl,rs⟩:=Aa.shape r;obtain⟨x,y,z,rfl,rx,L,O⟩:=Ac.three rs;refine⟨l,[x,y,z],rfl,Ae.of hl,rfl,x,[y,z],rfl,y,[z],rfl,z,[],rfl,rfl,p,b,L,λb1 G=>⟨λZ=>?_,λZ=>?_⟩⟩
   .rw [Z] at G;cases b<;>first | cases G | skip
    rename_i hi;unfold Aa at L;subst L;refine⟨p,c',O,λb2 J=>⟨λc2=>?_,λc2=>?_⟩⟩
    .rw [c2] at J;cases c'<;>first | cases J | skip
     rename_i st;unfold Aa at O;subst O;refine⟨p,a,rx,λb3 e3=>?_⟩;exact q _ _ (by unfold E5;dsimp only;rw[e3];rw[<-G,<-J];rfl) (Ab.refl _)
    .exact q _ _ (by unfold E5;dsimp only;rw[<-G,<-J,c2];rfl) (Ab.refl _)
   .exact q _ _ (by unfold E5;dsimp only;rw[<-G,Z];rfl) (Ab.refl _)
theorem VQ(F:Df K mg "are_boilers" wa8 ["thing"])(T:Tx mg)(L:Fn P w K mg base 3 "is_make_and_coal" ["thing"] Ib)(O:Ch P w K mg base):Fn P w K mg base 4 "are_boilers" ["thing"] Ig:=by
 obtain⟨g,g_MOST_BOILERS⟩:=T.g_MOST_BOILERS;refine F.fn (N:=["thing"]) AB (λvs H Q E h=>?_) (λf dl A outer s H vs Q E Z h=>?_)
 .exact VI h
 refine⟨_,(Ao (Av (Bp (zB O Z (AM (cy 0) Ag (AO (v:= .int 4) rfl g_MOST_BOILERS ⟨g,rfl⟩))) (BM (Ax (DU rfl) rfl T.b_all bM (Aj (Bh ["part"] [none] rfl (BO K (cy 0)) (AJ.of rfl) (λ_ _ _ _=>(zD 0)) (λ_ _ _ _=>A8) (λ_ _ _ _=>(zB L Z (Aj (cy 0))))))))))),?_⟩;cases h;rename_i h
 .rename_i v;obtain⟨p,d,r,q⟩:=h;refine⟨p,d,r,λb J=>⟨λc=>?_,λc=>?_⟩⟩
  .rw[c]at J;obtain⟨ds,rfl⟩:=E6 J.symm;obtain⟨l,xs,rfl,hl,rs⟩:=Aa.shape r;have I:=rs.len;have i4:ds.length<=4:=by
    have:=J.symm;unfold AV at this;simp only[Zj,ZU]at this;lia
   refine⟨l,rfl,⟨xs,Ae.of hl⟩,BS (xs:=xs) (λi G D=>Ab H D/\G=(ds.take i).map λd=>V.bl (E4 d)) (by lia) ⟨Ab.refl _,rfl⟩ (λi G D h=>by rw[h.2,Y0,YW];lia) (λi G D _ h=>Ae.of (h.1 _ _ hl)) (λi x G D hx h=>?_) λG D h=>?_⟩
   .obtain⟨d,hd,rd⟩:=rs.got hx;refine⟨trivial,λ_=>⟨p,d,Aa.ev (Ev.same h.1) d x rd,λb H2 e s2=>⟨h.1.trans s2,?_⟩⟩,λc=>by cases c⟩;rw[h.2,e,Oi _ hd]
   .intro m hm;refine⟨m,ds.map E4,rfl,?_,?_⟩
    .rw[Af,h.2,<-I,ZR,bA];rfl
    .refine q _ _ ?_ (h.1.trans (Ab.new hm));unfold FF;dsimp only;rw[<-J,ci,aj];rfl
  .refine q _ _ ?_ (Ab.refl _);have e:AV d 1 4=false:=by rw [<-J,c]
   unfold FF;cases d<;>first | rfl | skip
   dsimp only;rw[e];rfl
theorem VS(F:Df K mg "are_engines" waa ["thing"])(T:Tx mg)(L:Fn P w K mg base 3 "is_engine" ["thing"] Id)(O:Ch P w K mg base):Fn P w K mg base 4 "are_engines" ["thing"] Ih:=by
 obtain⟨g,g_MOST_ENGINES⟩:=T.g_MOST_ENGINES;refine F.fn (N:=["thing"]) AB (λvs H Q E h=>?_) (λf dl A outer s H vs Q E Z h=>?_)
 .exact VJ h
 refine⟨_,(Ao (Av (Bp (zB O Z (AM (cy 0) Ag (AO (v:= .int 4) rfl g_MOST_ENGINES ⟨g,rfl⟩))) (BM (Ax (DU rfl) rfl T.b_all bM (Aj (Bh ["part"] [none] rfl (BO K (cy 0)) (AJ.of rfl) (λ_ _ _ _=>(zD 0)) (λ_ _ _ _=>A8) (λ_ _ _ _=>(zB L Z (Aj (cy 0))))))))))),?_⟩;cases h;rename_i h
 .rename_i v;obtain⟨p,d,r,q⟩:=h;refine⟨p,d,r,λb J=>⟨λc=>?_,λc=>?_⟩⟩
  .rw[c]at J;obtain⟨ds,rfl⟩:=E6 J.symm;obtain⟨l,xs,rfl,hl,rs⟩:=Aa.shape r;have I:=rs.len;have i4:ds.length<=4:=by
    have:=J.symm;unfold AV at this;simp only[Zj,ZU]at this;lia
   refine⟨l,rfl,⟨xs,Ae.of hl⟩,BS (xs:=xs) (λi G D=>Ab H D/\G=(ds.take i).map λd=>V.bl (Ew d)) (by lia) ⟨Ab.refl _,rfl⟩ (λi G D h=>by rw[h.2,Y0,YW];lia) (λi G D _ h=>Ae.of (h.1 _ _ hl)) (λi x G D hx h=>?_) λG D h=>?_⟩
   .obtain⟨d,hd,rd⟩:=rs.got hx;refine⟨trivial,λ_=>⟨p,d,Aa.ev (Ev.same h.1) d x rd,λb H2 e s2=>⟨h.1.trans s2,?_⟩⟩,λc=>by cases c⟩;rw[h.2,e,Oi _ hd]
   .intro m hm;refine⟨m,ds.map Ew,rfl,?_,?_⟩
    .rw[Af,h.2,<-I,ZR,bA];rfl
    .refine q _ _ ?_ (h.1.trans (Ab.new hm));unfold FG;dsimp only;rw[<-J,ci,aj];rfl
  .refine q _ _ ?_ (Ab.refl _);have e:AV d 0 4=false:=by rw [<-J,c]
   unfold FG;cases d<;>first | rfl | skip
   dsimp only;rw[e];rfl
theorem VT(F:Df K mg "is_plant" wa7 ["thing"])(T:Tx mg)(G:Fn P w K mg base 4 "are_boilers" ["thing"] Ig)(O:Fn P w K mg base 4 "are_engines" ["thing"] Ih)(L:Fn P w K mg base 3 "is_main" ["thing"] Ie)(I:Ch P w K mg base):Fn P w K mg base 5 "is_plant" ["thing"] Ii:=by
 refine F.fn (N:=["thing","boilers","engines","main"]) AB (λvs H Q E h=>?_) (λf dl A outer s H vs Q E g h=>?_)
 .exact VL h
 refine⟨_,(Ak (Bq (Cz (Cp (zB I g (AM (cy 0) Ag Ag)))) (Ao (Av Cj)) Bn) (Ak (Bo (cy 0) (AL K (n:=3) (Ai (zD 1) (Ai (zD 2) (Ai (zD 3) AK))))) (Ao (Av (Bp (zB G g (Aj (cy 1))) (Bp (zB O g (Aj (cy 2))) (BM (zB L g (Aj (cy 3)))))))))),?_⟩;cases h;rename_i h
 .rename_i v;obtain⟨p,d,r,q⟩:=h;refine⟨p,d,r,λb Z=>⟨λc=>?_,λc=>?_⟩⟩
  .refine q false H ?_ (Ab.refl _);have e:AV d 3 3=false:=by rw [<-Z];simpa using c
   cases d<;>first | rfl | skip
   rename_i ds
   match ds,e with
   |[a,b,c],e=>cases e
   |[],_=>rfl
   |[_],_=>rfl
   |[_,_],_=>rfl
   |_::_::_::_::_,_=>rfl
  .have e:AV d 3 3=true:=by rw [<-Z];simpa using c
   obtain⟨ds,rfl⟩:=E6 e;obtain⟨a,b,c',rfl⟩:=three e;obtain⟨l,xs,rfl,hl,rs⟩:=Aa.shape r;obtain⟨x,y,z,rfl,rx,ry,rz⟩:=Ac.three rs;refine⟨l,[x,y,z],rfl,Ae.of hl,rfl,x,[y,z],rfl,y,[z],rfl,z,[],rfl,rfl,p,a,rx,λb1 H1 D s1=>⟨λc=>⟨p,b,Aa.ev (Ev.same s1) _ _ ry,λb2 H2 e2 s2=>⟨λJ=>⟨p,c',Aa.ev (Ev.same (s1.trans s2)) _ _ rz,λb3 H3 e3 s3=>?_⟩,λJ=>?_⟩⟩,λc=>?_⟩⟩
   .exact q _ _ (by unfold CT;dsimp only;rw[e3,<-D,<-e2,c,J];rfl) (s1.trans (s2.trans s3))
   .exact q _ _ (by unfold CT;dsimp only;rw[<-D,<-e2,c,J];rfl) (s1.trans s2)
   .exact q _ _ (by unfold CT;dsimp only;rw[<-D,c];rfl) s1
end
section
def Bd(p:yR)(H:Hp):Prop:=∃l f:Int,H p=some (.lst [.int l,.int f])
theorem Bd.new{p a:yR}{H:Hp}{o:HO}(h:Bd p H)(n:H a=none):Bd p (upd H a o):=by
 obtain⟨l,f,e⟩:=h;exact⟨l,f,by rw[Ap (BC e n)];exact e⟩
theorem Bd.ne{p a:yR}{H:Hp}(h:Bd p H)(n:H a=none):a≠p:=by obtain⟨l,f,e⟩:=h;exact Zo (BC e n)
theorem Bd.same{p:yR}{H H':Hp}(h:Bd p H)(s:Ab H H'):Bd p H':=by obtain⟨l,f,e⟩:=h;exact⟨l,f,s _ _ e⟩
def Ij(K:Fgx):Sp:=λc H Q _=>zJ (λa k=>∃ns:yV,Al K H a (ns.map V.int)/\0<=k/\∀i,Q (.int i) H) c
def Ik:Sp:=λg H Q _=>match g with | [.int c]=>∀p l f,H p=none->Q (.ref p) (upd H p (.lst [.int l,.int f])) | _=>False
def KI:Sp:=λD H Q _=>zJ (λp m=>Bd p H/\0<m/\m<1000/\∀g c,0<=g->g<m->Ev p H c->Bd p c->Q (.int g) c) D
theorem E7{ns:yV}{g:Int}(h0:0<=g)(D:g<ns.length):∃v∈ns,Ce (ns.map V.int) g=some (.int v):=by
 have c:g.toNat<ns.length:=by lia
 have e:g=((g.toNat:Nat):Int):=by lia
 refine⟨ns[g.toNat],bz c,?_⟩;have q:Ce (ns.map V.int) ((g.toNat:Nat):Int)=some (.int ns[g.toNat]):=DB (by simp[c]);rw[<-e]at q;exact q
variable{P:yP}{w:yN}{K:Fgx}{mg:Str -> yW}{base:Heap}
theorem VW(F:Df K mg "_law_cell" wb1 ["_law_script","_law_k"])(T:Tx mg):Fn P w K mg base 1 "_law_cell" ["_law_script","_law_k"] (Ij K):=by
 refine F.fn (N:=["_law_script","_law_k"]) AB (λG H Q E h=>?_) (λf dl A outer s H G Q E I h=>?_)
 .cases h;rfl
 refine⟨_,(Ak (Bq (Bi EL (cy 1) (Ax (Bl K) rfl T.b_len PySem.boot_len (Aj (cy 0))) (Ba _)) (Ao (Av (AH (Bb K) (cy 0) (cy 1) (λ_ _=>rfl)))) Bn) (Ao (Av Ag))),?_⟩;cases h;rename_i h
 .rename_i a k;obtain⟨ns,g,h0,q⟩:=h;refine⟨a,_,rfl,.inl g,⟨λc=>?_,λc=>q 0⟩⟩;have D:k<(ns.length:Int):=by have:=Z3 c;simpa using this
  obtain⟨v,_,e⟩:=E7 h0 D;exact⟨a,_,k,.int v,rfl,rfl,g,e,q v⟩
theorem VX(F:Df K mg "_law_pen" wb2 ["_law_cell_here"])(T:Tx mg):Fn P w K mg base 1 "_law_pen" ["_law_cell_here"] Ik:=by
 refine F.fn (N:=["_law_cell_here","_law_left"]) AB (λg H Q E h=>?_) (λf dl A outer s H g Q E G h=>?_)
 .unfold Ik at h;split at h;rfl;exact h.elim
 refine⟨_,(Ak (zE 1 (Ax (Jr rfl) rfl T.b_max eN (As (cy 0) (Ar BL Ag (cy 0))))) (Ao (Av (A5 (As (cy 1) (BI Lx rfl T.b_int L2.boot_int (Aj (Dz Mx (cy 1) (Ar RC Ag Ag) (Ba _))))))))),?_⟩;unfold Ik at h;split at h
 .rename_i c;refine⟨c,0-c,rfl,?_⟩;exact⟨⟨by decide,by decide,by decide⟩,.inr ⟨_,rfl,λp D=>h p _ _ D⟩⟩
 .exact h.elim
abbrev Gz(P:yP)(w:yN)(K:Fgx)(mg:Str->yW)(base:Heap):Prop:=Fn P w K mg base 1 "_law_draw" ["_law_pen_here","_law_many"] KI
theorem VY(F:Df K mg "_law_draw" wb3 ["_law_pen_here","_law_many"])(T:Tx mg):Gz P w K mg base:=by
 refine F.fn (N:=["_law_pen_here","_law_many","_law_left","_law_got","_law_stir"]) AB (λvs H Q E h=>?_) (λf dl A outer s H vs Q E hr h=>?_)
 .cases h;rfl
 refine⟨_,(Ak (Bq (Bi CB (AH (Bb K) (cy 0) Ag (λ_ _=>rfl)) Ag (Ba _)) (Ak (Bo (Ax Qq rfl T.b_divmod boot_divmod (As (AH (Bb K) (cy 0) Ag (λ_ _=>rfl)) (cy 1))) (AL K (n:=2) (Ai (zD 2) (Ai (zD 3) AK)))) (Ak (Bo (cy 2) (Lf (cy 0) Ag Hd)) (Ao (Av (cy 3))))) Bn) (Ak (zE 4 (Ar Fl (Ar DT (Ar Bs (Ar Fl (AH (Bb K) (cy 0) Ag (λ_ _=>rfl)) Ag) Ag) Ag) Ag)) (Ak (zE 4 (Ar Fl (Ar Bs (Ar DT (cy 4) (cy 4)) Ag) Ag)) (Ak (Bo (Ar Fl (Ar Bs (Ar DT (cy 4) Ag) Ag) Ag) (Lf (cy 0) Ag Hd)) (Ao (Av (Ar Fl (Ar JO (AH (Bb K) (cy 0) Ag (λ_ _=>rfl)) Ag) (cy 1)))))))),?_⟩;cases h;rename_i h
 .rename_i p m;obtain⟨⟨l,f,g⟩,h0,h1,q⟩:=h;refine⟨p,[.int l,.int f],1,.int f,rfl,rfl,Al.of g,rfl,rfl,⟨λc=>?_,λc=>?_⟩⟩
  .refine⟨p,[.int l,.int f],0,.int l,rfl,rfl,Al.of g,rfl,l,m,rfl,⟨h0,by lia⟩,λt J=>?_⟩;have G:p≠t:=BC g J;have D:upd H t (.tup [.int (l / m),.int (l % m)]) p=some (.lst [.int l,.int f]):=by rw [Ap G];exact g
   refine⟨t,[.int (l / m),.int (l % m)],rfl,Ae.of Af,rfl,_,_,rfl,_,_,rfl,rfl,?_⟩;refine⟨p,[.int l,.int f],0,0,rfl,rfl,D,rfl,?_⟩;exact q _ _ (dR _ (by lia)) (cV _ h0) ((Ev.new J).trans (Ev.pen D)) ⟨l / m,f,Af⟩
  .have b1:∀x:Int,-(2 ^ 64)<x % 2147483629:=λx=>cW (by decide) (dR x (by decide))
   have b2:∀x:Int,x % 2147483629<2 ^ 64:=λx=>Int.lt_trans (cV x (by decide)) (by decide)
   have Z:(0:Int)<2147483647:=by decide
   have I:(0:Int)<2147483629:=by decide
   have L:(0:Int)<2147483587:=by decide
   have O: -(2 ^ 64)<(69621:Int)/\(69621:Int)<2 ^ 64:=by decide
   have c2: -(2 ^ 64)<(48271:Int)/\(48271:Int)<2 ^ 64:=by decide
   refine⟨p,[.int l,.int f],0,.int l,rfl,rfl,Al.of g,rfl,Z,.inr O,I,.inl ⟨b1 _,b2 _⟩,L,.inr c2,I,p,[.int l,.int f],0,0,rfl,rfl,g,rfl,?_⟩;refine⟨p,_,0,_,rfl,rfl,Al.of Af,rfl,⟨by decide,by decide⟩,h0,?_⟩;exact q _ _ (dR _ (by lia)) (cV _ h0) (Ev.pen g) ⟨_,f,Af⟩
end
section
variable{H H2 H' H3:Hp}{ys zs:List V}{p p':yR}{Good:yQ -> Prop}{i:Nat}
mutual
def Ca:yQ->Bool
 |.list _=>false | .dict _=>false | .tuple ds=>FI ds | _=>true
def FI:List yQ->Bool
 |[]=>true
 |d::ds=>Ca d && FI ds
end
def TEv(H H':Hp):Prop:=∀a c,H a=some (.tup c)->H' a=some (.tup c)
theorem TEv.trans{g:Hp}(a:TEv H g)(b:TEv g H2):TEv H H2:=λc o h=>b c o (a c o h)
theorem _root_.L2.Ev.tev{p:yR}{H H':Hp}(h:Ev p H H'):TEv H H':=λa c q=>h.tup q
theorem TEv.upd{a:yR}(h:H a=some (.lst ys)):TEv H (upd H a (.lst zs)):=λb c q=>by
 rw[Ap (Py q h (by intro z;cases z))];exact q
mutual
theorem Aa.tev(h:TEv H H'):∀(d:yQ) (v:V),Ca d=true->Aa p H d v->Aa p' H' d v
 |.none,v,_,q=>q
 |.bool _,v,_,q=>q
 |.int _,v,_,q=>q
 |.str _,v,_,q=>q
 |.tuple ds,v,n,q=>by
  unfold Aa at q ⊢;obtain⟨a,c,e,r,z⟩:=q;exact⟨a,c,e,h _ _ r,Ac.tev h ds c (by unfold Ca at n;exact n) z⟩
 |.list ds,v,n,q=>by unfold Ca at n;cases n
 |.dict kvs,v,n,q=>by unfold Ca at n;cases n
theorem Ac.tev(h:TEv H H'):∀(ds:List yQ) (xs:List V),FI ds=true->Ac p H ds xs->Ac p' H' ds xs
 |[],xs,_,q=>by unfold Ac at q ⊢;exact q
 |d::ds,xs,n,q=>by
  unfold Ac at q ⊢;unfold FI at n;obtain⟨g,c⟩:=Z5.mp n;obtain⟨x,r,e,z,D⟩:=q;exact⟨x,r,e,Aa.tev h d x g z,Ac.tev h ds r c D⟩
end
theorem C9{ds:List yQ}(h:∀d∈ds,Ca d=true):FI ds=true:=by
 induction ds with
 |nil=>rfl
 |cons d ds ih=>unfold FI;rw[h d Z1,ih λx c=>h x (Z4 _ c)];rfl
theorem _root_.L2.Ev.own{p b:yR}{H H':Hp}{o:HO}(h:Ev p H H')(n:H b=none):Ev p H (upd H' b o):=λx u q=>(h x u q).elim .inl λr=> .inr (by rw[Ap (BC q n)];exact r)
def GoodB(d:yQ):Prop:=∃m c:Int,d= .tuple [.int m,.int c]/\1<=m/\m<=9/\1<=c/\c<=9
def GoodE(d:yQ):Prop:=∃a f e:Int,d= .tuple [.int a,.int f,.int e]/\1<=a/\a<=9/\0<=f/\f<=7/\1<=e/\e<=8
theorem GoodB.nm{d:yQ}(h:GoodB d):Ca d=true:=by obtain⟨m,c,rfl,_⟩:=h;rfl
theorem GoodE.nm{d:yQ}(h:GoodE d):Ca d=true:=by obtain⟨m,c,e,rfl,_⟩:=h;rfl
structure GoodP(bs es:List yQ)(lo hi st:Int):Prop where
 b:∀d∈bs,GoodB d
 b1:1<=bs.length
 b4:bs.length<=4
 e:∀d∈es,GoodE d
 e4:es.length<=4
 lo0:0<=lo
 ls:lo<=st
 sh:st<=hi
 h4:hi<=40
def Oj(bs es:List yQ)(lo hi st:Int):yQ:= .tuple [.tuple bs,.tuple es,.tuple [.int lo,.int hi,.int st]]
def Il:Sp:=λg H Q _=>zG (λp=>Bd p H/\∀v c bs es lo hi st,GoodP bs es lo hi st->Aa p c (Oj bs es lo hi st) v->Ev p H c->Bd p c->Q v c) g
structure Filled(Good:yQ->Prop)(p b:yR)(H H2:Hp)(i:Nat):Prop where
 ev:Ev p H H2
 pen:Bd p H2
 ex:∃xs ds,H2 b=some (.lst xs)/\Ac p H2 ds xs/\(∀d∈ds,Good d)/\ds.length=i
theorem Filled.step{b t:yR}{d:yQ}{xs:List V}{ds:List yQ}(nm:∀d,Good d->Ca d=true)(J:H2 b=some (.lst xs))(rs:Ac p H2 ds xs)(gd:∀d∈ds,Good d)(hl:ds.length=i)(e3:Ev p H2 H3)(O:b≠p)(hb:H b=none)(ev:Ev p H H3)(pn:Bd p H3)
  (G:H3 t=none) (rd:Aa p (upd H3 t (.tup ys)) d (.ref t)) (g:Good d):Filled Good p b H (upd (upd H3 t (.tup ys)) b (.lst (xs++[.ref t]))) (i+1):=by
 have c:H3 b=some (.lst xs):=e3.lst J O;have L:b≠t:=BC c G;have D:upd H3 t (.tup ys) b=some (.lst xs):=by rw[Ap L];exact c
 have Z:TEv (upd H3 t (.tup ys)) (upd (upd H3 t (.tup ys)) b (.lst (xs++[.ref t]))):=TEv.upd D;have I:Bd p (upd H3 t (.tup ys)):=pn.new G;refine⟨(ev.trans (Ev.new G)).own hb,?_,xs++[.ref t],ds++[d],Af,?_,?_,by simp[hl]⟩
 .obtain⟨l,f,e⟩:=I;exact⟨l,f,by rw[Ap (Zo O)];exact e⟩
 .exact(Ac.tev ((e3.trans (Ev.new G)).tev.trans Z) ds xs (C9 λd h=>nm d (gd d h)) rs).append (.cons (Aa.tev Z d _ (nm d g) rd) .nil)
 .intro x J;rcases ay.mp J with h | h
  .exact gd x h
  .rw[Zc.mp h];exact g
theorem Filled.done{b:yR}(f:Filled Good p b H H2 i)(I:b≠p)(c:Ev p H2 H3):∃xs ds,H3 b=some (.lst xs)/\Ac p H3 ds xs/\(∀d∈ds,Good d)/\ds.length=i:=by
 obtain⟨xs,ds,G,D,g,h4⟩:=f.ex;exact⟨xs,ds,c.lst G I,Ac.ev c ds xs D,g,h4⟩
theorem Filled.other{b e t:yR}{H4 D:Hp}{ws:List V}(nm:∀d,Good d->Ca d=true)(f:Filled Good p b H H4 i)(c:Ev p H4 D)(G:D t=none)(Z:D e=some (.lst ys))(O:H e=none)(nb:b≠p)(J:b≠e)(ne:e≠p)(pn:Bd p D):
  Filled Good p b H (upd (upd D t (.tup zs)) e (.lst ws)) i:=by
 obtain⟨L,ds,h1,h2,h3,h4⟩:=f.ex;have h7:D b=some (.lst L):=c.lst h1 nb;have I:upd D t (.tup zs) e=some (.lst ys):=by rw[Ap (BC Z G)];exact Z
 refine⟨((f.ev.trans c).trans (Ev.new G)).own O,?_,L,ds,?_,?_,h3,h4⟩
 .obtain⟨l,g,z⟩:=pn.new (o:= .tup zs) G;exact⟨l,g,by rw[Ap (Zo ne)];exact z⟩
 .rw[Ap J,Ap (BC h7 G)];exact h7
 .exact Ac.tev ((c.trans (Ev.new G)).tev.trans (TEv.upd I)) ds L (C9 λd h=>nm d (h3 d h)) h2
theorem Ex{n:Nat}(h:n<=1000):n<sizeLine:=aD h (by decide)
variable{P:yP}{w:yN}{K:Fgx}{mg:Str -> yW}{base:Heap}
theorem VZ(F:Df K mg "_law_plant" wb4 ["_law_pen_here"])(T:Tx mg)(D:Gz P w K mg base):Fn P w K mg base 2 "_law_plant" ["_law_pen_here"] Il:=by
 refine F.fn (N:=["_law_pen_here","_law_boilers","_law_turn","_law_make","_law_engines","_law_low","_law_high"]) AB (λvs H Q E h=>?_) (λf dl A outer s H vs Q E J h=>?_)
 .cases h;rfl
 refine⟨_,(Ak (zE 1 (A5 BE)) (Ak (Cm Zq rfl (CO rfl T.b_range (Aj (Ar Bs Ag (zB D J (As (cy 0) Ag))))) (zD 2) (Ak (zE 3 (AH (Bb K) (A5 (AM Ag Ag (Ar Bs Ag (zB D J (As (cy 0) Ag))))) (zB D J (As (cy 0) Ag)) (λ_ _=>rfl))) (Ao (B7 (DC PySem.F.plainAttrs_list PySem.F.slot_list_append PySem.F.type_list_append DO (cy 1) (Aj (BF (As (cy 3) (Ar Bs Ag (zB D J (As (cy 0) (AH (Bb K) (A5 (As Ag Ag)) (zB D J (As (cy 0) Ag)) (λ_ _=>rfl))))))))))))) (Ak (zE 4 (A5 BE)) (Ak (Cm Zq rfl (CO rfl T.b_range (Aj (zB D J (As (cy 0) Ag)))) (zD 2) (Ao (B7 (DC PySem.F.plainAttrs_list PySem.F.slot_list_append PySem.F.type_list_append DO (cy 4) (Aj (BF (AM (Ar Bs Ag (zB D J (As (cy 0) Ag))) (zB D J (As (cy 0) Ag)) (Ar Bs Ag (zB D J (As (cy 0) Ag)))))))))) (Ak (zE 5 (AH (Bb K) (A5 (As Ag (zB D J (As (cy 0) Ag)))) (zB D J (As (cy 0) Ag)) (λ_ _=>rfl))) (Ak (zE 6 (Ax (Qo rfl) rfl T.b_min boot_min (As Ag (Ar Bs (cy 5) (AH (Bb K) (A5 (Bc Ag (B3 Ag Ag Ag (zB D J (As (cy 0) Ag))))) (zB D J (As (cy 0) Ag)) (λ_ _=>rfl)))))) (Ao (Av (BF (AM (BI (BX K) rfl T.b_tuple BT (Aj (cy 1))) (BI (BX K) rfl T.b_tuple BT (Aj (cy 4))) (BF (AM (cy 5) (cy 6) (Ar Bs (cy 5) (zB D J (As (cy 0) (Ar Bs (Ar BL (cy 6) (cy 5)) Ag)))))))))))))))),?_⟩;cases h;rename_i h
 .rename_i p;obtain⟨pn,q⟩:=h;refine λb hb=>?_
  have nb:b≠p:=pn.ne hb;refine⟨pn.new hb,by decide,by decide,λg1 H1 a1 b1 e1 pn1=>?_⟩;have ev1:Ev p H H1:=(Ev.new hb).trans e1;have w6:H1 b=some (.lst []):=e1.lst Af nb;refine⟨1+g1,rfl,by lia,by lia,EE (n:=(1+g1).toNat) (λi σ H2=>∃t m,σ=[some (.ref p),some (.ref b),t,m,none,none,none]/\Filled GoodB p b H H2 i)
   ⟨none,none,rfl,ev1,pn1,[],[],w6,.nil,(λ_ h=>nomatch h),rfl⟩ (λi σ H2 hi hP=>?_) fun σ H2 hP=>?_⟩
  .obtain⟨t,m,rfl,ev,j7,xs,ds,hx,rs,gd,hl⟩:=hP;refine⟨j7,by decide,by decide,λg2 H3 a2 b2 e2 i8 l1 G=>⟨i8.new G,by decide,by decide,λg3 H4 a3 b3 e3 j5=>?_⟩⟩;obtain⟨v,hv,j6⟩:=E7 (ns:=[1,9,1+g2]) a3 (by simpa using b3);have u8:H4 b=some (.lst xs):=e3.lst (by rw [Ap (BC (e2.lst hx nb) G)];exact e2.lst hx nb) nb;refine⟨l1,_,g3,.int v,rfl,rfl,Al.of (e3.lst Af (i8.ne G)),j6,.inl ⟨rfl,_,Al.of u8⟩,λl2 I=>⟨j5.new I,by decide,by decide,λg4 H5 a4 b4 e4 L=>?_⟩⟩;obtain⟨v2,u9,i9⟩:=E7 (ns:=[3,9]) a4 (by simpa using b4);have hv2':v2=3\/v2=9:=by simpa using u9
   refine⟨l2,_,g4,.int v2,rfl,rfl,Al.of (e4.lst Af (j5.ne I)),i9,L,by lia,by lia,λg5 H6 a5 b5 e5 i6 t1 O=>?_⟩;have j0:Ev p H2 H6:=e2.trans ((Ev.new G).trans (e3.trans ((Ev.new I).trans (e4.trans e5))));have hv':v=1\/v=9\/v=1+g2:=by simpa using hv
   refine⟨b,xs,.ref t1,rfl,rfl,by rw[Ap (BC (j0.lst hx nb) O)];exact j0.lst hx nb,Ex (by rw[<-rs.len,hl];lia),_,_,rfl,?_⟩;exact Filled.step (λd h=>h.nm) hx rs gd hl j0 nb hb (ev.trans j0) i6 O (Aa.tup Af (.cons Aa.int (.cons Aa.int .nil))) ⟨v,1+g5,rfl,by lia,by lia,by lia,by lia⟩
  obtain⟨t,m,rfl,fb⟩:=hP;refine λe he=>?_
  have ne:e≠p:=fb.pen.ne he;have o8:H e=none:=by
   cases z:H e with
   |none=>rfl
   |some o=>exact((fb.ev e o z).elim (fun⟨x,_⟩=>absurd x ne) λx=>by rw[x]at he;cases he)
  have neb:e≠b:=by
   obtain⟨xs,ds,h1,_⟩:=fb.ex;exact Zo (BC h1 he)
  refine⟨fb.pen.new he,by decide,by decide,λg6 H3 a6 b6 e6 i8=>?_⟩;have o9:Filled GoodB p b H H3 (1+g1).toNat:=⟨fb.ev.trans ((Ev.new he).trans e6),i8,fb.done nb ((Ev.new he).trans e6)⟩;refine⟨g6,rfl,by lia,by lia,EE (n:=g6.toNat) (λi σ H4=>∃t m,σ=[some (.ref p),some (.ref b),t,m,some (.ref e),none,none]/\Filled GoodB p b H H4 (1+g1).toNat/\Filled GoodE p e H H4 i)
   ⟨_,_,rfl,o9,o9.ev,i8,[],[],e6.lst Af ne,.nil,(λ_ h=>nomatch h),rfl⟩ (λi σ H4 hi hP=>?_) fun σ H4 hP=>?_⟩
  .obtain⟨t,m,rfl,i5,ev,j7,xs,ds,hx,rs,gd,hl⟩:=hP;refine⟨.inl ⟨rfl,_,Al.of hx⟩,j7,by decide,by decide,λg7 H5 a7 b7 e7 L=>⟨L,by decide,by decide,λg8 H6 a8 b8 e8 i6=>⟨i6,by decide,by decide,λg9 H7 a9 b9 e9 i4 t1 O=>?_⟩⟩⟩;have j4:Ev p H4 H7:=e7.trans (e8.trans e9);have k9:=j4.lst hx ne;refine⟨e,xs,.ref t1,rfl,rfl,by rw [Ap (BC k9 O)];exact k9,Ex (by rw [<-rs.len,hl];lia),_,_,rfl,?_,?_⟩
   .exact Filled.other (λd h=>h.nm) i5 j4 O k9 o8 nb (Zo neb) ne i4
   .exact Filled.step (λd h=>h.nm) hx rs gd hl j4 ne o8 (ev.trans j4) i4 O (Aa.tup Af (.cons Aa.int (.cons Aa.int (.cons Aa.int .nil)))) ⟨1+g7,g8,1+g9,rfl,by lia,by lia,by lia,by lia,by lia,by lia⟩
  obtain⟨t,m,rfl,i5,v7⟩:=hP;have j5:=i5.pen;refine⟨j5,by decide,by decide,λg7 H5 a7 b7 e7 L l1 G=>⟨L.new G,by decide,by decide,λg8 H6 a8 b8 e8 i6=>?_⟩⟩;obtain⟨g,r8,j6⟩:=E7 (ns:=[0,g7]) a8 (by simpa using b8);have u6:g=0\/g=g7:=by simpa using r8
  refine⟨l1,_,g8,.int g,rfl,rfl,Al.of (e8.lst Af (L.ne G)),j6,i6,by decide,by decide,λg9 H7 a9 b9 e9 i4 l2 I=>⟨i4.new I,by decide,by decide,λv3 H8 u5 w9 q8 pn8=>?_⟩⟩;obtain⟨x,hx,i9⟩:=E7 (ns:=[0,3,10,40,g9]) u5 (by simpa using w9);have hx':x=0\/x=3\/x=10\/x=40\/x=g9:=by simpa using hx
  refine⟨l2,_,v3,.int x,rfl,rfl,Al.of (q8.lst Af (i4.ne I)),i9,40,g+x,rfl,?_⟩;have v8:∃hi:Int,(if g+x<40 then g+x else 40)=hi/\g<=hi/\hi<=40:=by
   by_cases c:g+x<40
   .exact⟨g+x,YR c,by lia,by lia⟩
   .exact⟨40,YN c,by lia,by lia⟩
  obtain⟨hi,u4,hi1,hi2⟩:=v8;rw[u4];have j9:Ev p H4 H8:=e7.trans ((Ev.new G).trans (e8.trans (e9.trans ((Ev.new I).trans q8))));obtain⟨xs,bs,hb8,u7,gb,lb⟩:=i5.done nb j9;obtain⟨ys,es,q9,v6,ge,le⟩:=v7.done ne j9;refine⟨b,xs,rfl,.inl ⟨Al.of hb8,λc1 l6=>⟨e,ys,rfl,.inl ⟨Al.of (by rw[Ap (BC q9 l6)];exact q9),λc2 l9=>⟨(pn8.new l6).new l9,by lia,by lia,λZ H9 a11 b11 l7 w8 c3 j3 c4 i7=>?_⟩⟩⟩⟩⟩;have j8:Ev p H8 (upd (upd H9 c3 (.tup [.int g,.int hi,.int (g+Z)])) c4 (.tup [.ref c1,.ref c2,.ref c3])):=(Ev.new l6).trans ((Ev.new l9).trans (l7.trans ((Ev.new j3).trans (Ev.new i7))));have t1:upd (upd H9 c3 (.tup [.int g,.int hi,.int (g+Z)])) c4 (.tup [.ref c1,.ref c2,.ref c3]) c1=some (.tup xs):=
   ((Ev.new l9).trans (l7.trans ((Ev.new j3).trans (Ev.new i7)))).tup Af
  have t2:upd (upd H9 c3 (.tup [.int g,.int hi,.int (g+Z)])) c4 (.tup [.ref c1,.ref c2,.ref c3]) c2=some (.tup ys):=(l7.trans ((Ev.new j3).trans (Ev.new i7))).tup Af;have t3:upd (upd H9 c3 (.tup [.int g,.int hi,.int (g+Z)])) c4 (.tup [.ref c1,.ref c2,.ref c3]) c3=some (.tup [.int g,.int hi,.int (g+Z)]):=(Ev.new (p:=p) i7).tup Af;refine q _ _ bs es g hi (g+Z) ⟨gb,by lia,by lia,ge,by lia,by lia,by lia,by lia,hi2⟩ ?_ (i5.ev.trans (j9.trans j8)) ((w8.new j3).new i7);exact Aa.tup Af (.cons (Aa.tup t1 (Ac.ev j8 _ _ u7)) (.cons (Aa.tup t2 (Ac.ev j8 _ _ v6)) (.cons (Aa.tup t3 (.cons Aa.int (.cons Aa.int (.cons Aa.int .nil)))) .nil)))
end
section
variable{p:yR}{H:Hp}
theorem CU{i lo hi:Int}(g:lo<=i)(c:i<=hi):AZ (.int i) lo hi=true:=by unfold AZ;dsimp only;rw[ZE g,ZE c];rfl
theorem Ea{ds:List yQ}{lo hi:Int}(g:lo<=(ds.length:Int))(c:(ds.length:Int)<=hi):AV (.tuple ds) lo hi=true:=by unfold AV;dsimp only;rw[ZE g,ZE c];rfl
theorem V0{P:PL}(h:P.ok):CT P.d=true:=by
 have b1:=h.b1;have b4:=h.b4;have e4:=h.e4;have hb:FF (.tuple (P.bs.map bD))=true:=by
  unfold FF;dsimp only;rw[Ea (by rw[Y0];lia) (by rw[Y0];lia),aj,Zt];intro d hd;obtain⟨q,g,rfl⟩:=Z8.mp hd;obtain⟨c,G,I,D⟩:=h.b q g;unfold E4;dsimp only;rw[CU c G,CU I D];rfl
 have L:FG (.tuple (P.es.map eD))=true:=by
  unfold FG;dsimp only;rw[Ea (by rw[Y0];lia) (by rw[Y0];lia),aj,Zt];intro d hd;obtain⟨q,g,rfl⟩:=Z8.mp hd;obtain⟨c,G,I,D,O,q6⟩:=h.e q g;unfold Ew;dsimp only;rw[CU c G,CU I D,CU O q6];rfl
 have h0:=h.lo0;have h1:=h.ls;have h2:=h.sh;have Z:=h.h4;have J:E5 (.tuple [.int P.lo,.int P.hi,.int P.st])=true:=by
  unfold E5;dsimp only;rw[CU (by lia) Z,CU (by lia) h2,CU h0 h1];rfl
 unfold CT PL.d;dsimp only;rw[hb,L,J];rfl
def sp_need_plant:Sp:=λg H Q _=>zH (λv=>∃p P,PL.ok P/\Aa p H P.d v/\∀c,Ab H c->Q .non c) g
def sp_is_fault:Sp:=λg H Q _=>zI (λv nb hs=>∃p x n h,FT.ok x n h/\nb=(n:Int)/\hs=(h:Int)/\Aa p H x.d v/\∀c,Ab H c->Q (.bl true) c) g
def Im:Sp:=λD H Q _=>zJ (λa m=>∃g:List Bool,H a=some (.lst (g.map wV))/\∀c,Ab H c->Q (.int (B9 g m)) c) D
def Io:Sp:=λg H Q _=>zI (λv b h=>∃p fs,Aa p H (.tuple (fs.map FT.d)) v/\fs.length<=1000/\∀a c,Ab H c->c a=some (.lst ((BP fs b h).map wV))->Q (.ref a) c) g
def Ip:Sp:=λc H Q _=>zK (λv u h=>∃p bs fs,Aa p H (.tuple (bs.map bD)) v/\Aa p H (.tuple (fs.map FT.d)) u/\bs.length<=1000/\fs.length<=1000/\ret H Q p (AN (BY bs fs h))) c
def Iq:Sp:=λc H Q _=>zL (λv h=>∃p q,Aa p H (eD q) v/\1<=q.2.2/\Q (.int (drawn q h)) H) c
theorem Aa.plant{P:PL}{v:V}(r:Aa p H P.d v):∃A B E M c xe,v= .ref A/\H A=some (.tup [.ref B,.ref E,.ref M])/\H B=some (.tup c)/\Ac p H (P.bs.map bD) c/\H E=some (.tup xe)/\Ac p H (P.es.map eD) xe/\H M=some (.tup [.int P.lo,.int P.hi,.int P.st]):=by
 unfold PL.d at r;obtain⟨A,xs,rfl,O,rs⟩:=Aa.shape r;obtain⟨x,y,z,rfl,rx,I,L⟩:=Ac.three rs;obtain⟨B,c,rfl,hB,Z⟩:=Aa.shape rx;obtain⟨E,xe,rfl,hE,re⟩:=Aa.shape I;obtain⟨M,xm,rfl,hM,J⟩:=Aa.shape L;obtain⟨m1,m2,m3,rfl,g,G,D⟩:=Ac.three J;unfold Aa at g G D;subst g G D;exact⟨A,B,E,M,c,xe,rfl,O,hB,Z,hE,re,hM⟩
theorem Aa.story{S:SY}{v:V}(r:Aa p H S.d v):∃A B E g,v= .ref A/\H A=some (.tup [.ref B,.ref E])/\H B=some (.tup (S.ex.map V.int))/\H E=some (.tup g)/\Ac p H (S.fs.map FT.d) g:=by
 unfold SY.d at r;obtain⟨A,xs,rfl,G,rs⟩:=Aa.shape r;obtain⟨x,y,rfl,J,D⟩:=Ac.two rs;obtain⟨B,Z,rfl,c,I⟩:=Aa.shape J;obtain⟨E,xe,rfl,L,O⟩:=Aa.shape D;rw[Ac.ints I]at c;exact⟨A,B,E,xe,rfl,G,c,L,O⟩
variable{P:yP}{w:yN}{K:Fgx}{mg:Str -> yW}{base:Heap}
theorem V4(F:Df K mg "cap_under" wak ["words","make"])(T:Tx mg):Fn P w K mg base 1 "cap_under" ["words","make"] Im:=by
 refine F.fn (N:=["words","make"]) AB (λI H Q E h=>?_) (λf dl A outer s H I Q E J h=>?_)
 .cases h;rfl
 refine⟨_,(Ak (Bq (Bi (Ht K) AF (cy 0) (by with_unfolding_all rfl)) (Ao (Av Ag)) Bn) (Ak (Bq (Bi (Ht K) AF (cy 0) (by with_unfolding_all rfl)) (Ao (Av (Ar JO (cy 1) Ag))) Bn) (Ao (Av (cy 1))))),?_⟩;cases h;rename_i h
 .rename_i a m;obtain⟨D,G,q⟩:=h;refine⟨a,_,rfl,.inl (Al.of G),rfl,Hx,⟨λc=>?_,λc=>?_⟩⟩
  .rw [YN (by decide),Hw] at c;have e:B9 D m=0:=by unfold B9;rw [YR c]
   rw[e]at q;exact q _ (Ab.refl _)
  .rw [YN (by decide),Hw] at c;refine⟨a,_,rfl,.inl (Al.of G),rfl,Hx,⟨λg=>?_,λg=>?_⟩⟩
   .rw [YN (by decide),JU] at g;have e:B9 D m=m / 2:=by unfold B9;rw [YN (by rw [c];decide),YR g]
    rw[e]at q;exact⟨⟨by decide,by decide⟩,q _ (Ab.refl _)⟩
   .rw [YN (by decide),JU] at g;have e:B9 D m=m:=by unfold B9;rw [YN (by rw [c];decide),YN (by rw [g];decide)]
    rw[e]at q;exact q _ (Ab.refl _)
theorem V6(F:Df K mg "words_for" waj ["faults","boiler","hour"])(T:Tx mg):Fn P w K mg base 1 "words_for" ["faults","boiler","hour"] Io:=by
 refine F.fn (N:=["faults","boiler","hour"]) AB (λvs H Q E h=>?_) (λf dl A outer s H vs Q E hr h=>?_)
 .cases h;rfl
 refine⟨_,(Ao (Av (Bh ["at","word","first","last","boiler","hour"] [none,none,none,none,some 1,some 2] rfl (BO K (cy 0)) (AJ.of rfl) (λ_ _ _ _=>(AL K (n:=4) (Ai (zD 0) (Ai (zD 1) (Ai (zD 2) (Ai (zD 3) AK)))))) (λ_ _ _ _=>(Fi (PW.pt (Ho (Bi CB (cy 0) (cy 4) (Ba _)) (Jg (RD Em Em (cy 2) (cy 5) (cy 3))))))) (λ_ _ _ _=>(cy 1))))),?_⟩;cases h;rename_i h
 .rename_i v b c;obtain⟨p,fs,r,hl,q⟩:=h;obtain⟨A,xs,rfl,O,rs⟩:=Aa.shape r;have ln:=rs.len;rw[Y0]at ln;refine⟨A,rfl,⟨xs,Ae.of O⟩,BS (xs:=xs) (λi D g=>Ab H g/\D=(BP (fs.take i) b c).map wV) (by lia) ⟨Ab.refl _,rfl⟩ (λi D g h=>?_) (λi D g _ h=>Ae.of (h.1 _ _ O)) (λi x D g hx h=>?_) λD g h=>?_⟩
  .rw[h.2,Y0];unfold BP;rw[Y0];exact YV (bq _ _) (by rw[YW];lia)
  .obtain⟨f,hf,rd⟩:=Ac.mapGot rs hx;obtain⟨l,zs,rfl,L,rz⟩:=Aa.shape (Aa.ev (Ev.same h.1) _ _ rd);obtain⟨y1,y2,y3,y4,rfl,r1,r2,r3,Z⟩:=Ac.four rz;unfold Aa at r1 r2 r3 Z;subst r1 r2 r3 Z;have nx:=MW (b:=b) (h:=c) hf;have no:Cq b c f=false->Ab H g/\D=(BP (fs.take (i+1)) b c).map wV:=λe=>⟨h.1,by rw [nx,e,YN (by decide)];exact h.2⟩
   refine⟨l,_,rfl,Ae.of L,rfl,_,_,rfl,_,_,rfl,_,_,rfl,_,_,rfl,rfl,⟨rfl,rfl,trivial⟩,rfl,⟨λG=>⟨λI=>⟨λJ=>?_,λJ=>no ?_⟩,λI=>⟨λz=>(by cases z),λ_=>no ?_⟩⟩,λG=>⟨λz=>(by cases z),λ_=>no ?_⟩⟩⟩
   .have e:Cq b c f=true:=by
     rw[Dy]at G;unfold Cq;rw[G,I,J];rfl
    refine⟨h.1,?_⟩;rw[nx,YR e,YM,h.2];rfl
   .unfold Cq;rw[J,Zg]
   .unfold Cq;rw[I,Zg,Zb]
   .rw[Dy]at G;unfold Cq;rw[G,Zb,Zb]
  .intro m hm;refine q m _ (h.1.trans (Ab.new hm)) ?_;rw[Af,h.2,YS (by lia)]
theorem V8(F:Df K mg "caps_in" wai ["boilers","faults","hour"])(T:Tx mg)(I:Fn P w K mg base 1 "cap_under" ["words","make"] Im)(G:Fn P w K mg base 1 "words_for" ["faults","boiler","hour"] Io):Fn P w K mg base 2 "caps_in" ["boilers","faults","hour"] Ip:=by
 refine F.fn (N:=["boilers","faults","hour"]) AB (λvs H Q E h=>?_) (λf dl A outer s H vs Q E L h=>?_)
 .cases h;rfl
 refine⟨_,(Ao (Av (BI (BX K) rfl T.b_tuple BT (Aj (Bh ["at","make","coal","faults","hour"] [none,none,none,some 1,some 2] rfl (EM P w K rfl T.b_enumerate (Aj (cy 0))) (AJ.of rfl) (λ_ _ _ _=>(AL K (n:=2) (Ai (zD 0) (Ai (AL K (n:=2) (Ai (zD 1) (Ai (zD 2) AK))) AK)))) (λ_ _ _ _=>A8) (λ_ _ _ _=>(zB I L (As (zB G L (AM (cy 3) (cy 0) (cy 4))) (cy 1))))))))),?_⟩;cases h;rename_i h
 .rename_i v u D;obtain⟨p,bs,fs,r,ru,lb,lf,q⟩:=h;obtain⟨A,xs,rfl,O,rs⟩:=Aa.shape r;have ln:=rs.len;rw[Y0]at ln;refine⟨A,rfl,⟨xs,Ae.of O⟩,walk_enum (xs:=xs) (λi g c=>Ab H c/\g=((BY bs fs D).take i).map V.int) (by lia) ⟨Ab.refl _,rfl⟩ (λi g c h=>by rw[h.2,Y0,YW];lia) (λi g c h=>Ae.of (h.1 _ _ O)) (λi x g c T hx h hT=>?_) λg c h=>?_⟩
  .obtain⟨f,hf,rd⟩:=Ac.mapGot rs hx;have s2:Ab H (upd c T (.tup [.int i,x])):=h.1.trans (Ab.new hT);obtain⟨l,zs,rfl,J,rz⟩:=Aa.shape (Aa.ev (Ev.same s2) _ _ rd);obtain⟨y1,y2,rfl,Z,r2⟩:=Ac.two rz;unfold Aa at Z r2;subst Z r2;refine⟨T,_,rfl,Ae.of Af,rfl,_,_,rfl,_,_,rfl,l,_,rfl,Ae.of J,rfl,_,_,rfl,_,_,rfl,rfl,rfl,⟨rfl,rfl,trivial⟩,λ_=>?_,λz=>by cases z⟩;refine⟨p,fs,Aa.ev (Ev.same s2) _ _ ru,lf,λa H3 s3 ha=>⟨_,ha,λH4 s4=>⟨s2.trans (s3.trans s4),?_⟩⟩⟩;rw[A6 (JT hf),YM,h.2];rfl
  .intro m hm;refine⟨m,_,rfl,.inl ⟨Al.of Af,λt ht=>?_⟩⟩;refine q _ _ (h.1.trans ((Ab.new hm).trans (Ab.new ht))) (Aa.row ?_);rw[Af,h.2,YS (by rw[En];lia)]
theorem V9(F:Df K mg "drawn_by" wam ["engine","hour"])(T:Tx mg):Fn P w K mg base 1 "drawn_by" ["engine","hour"] Iq:=by
 refine F.fn (N:=["engine","hour","draw","first","every"]) AB (λO H Q E h=>?_) (λf dl A outer s H O Q E Z h=>?_)
 .cases h;rfl
 refine⟨_,(Ak (Bo (cy 0) (AL K (n:=3) (Ai (zD 2) (Ai (zD 3) (Ai (zD 4) AK))))) (Ak (Bq (PW.pt (MA (Bi EL (cy 1) (cy 3) (Ba _)) (Lb (Bi Jp (Ar Fl (Ar BL (cy 1) (cy 3)) (cy 4)) Ag (Ba _))))) (Ao (Av Ag)) Bn) (Ao (Av (cy 2))))),?_⟩;cases h;rename_i h
 .rename_i v g;obtain⟨p,e,r,e1,q⟩:=h;obtain⟨A,xs,rfl,L,rs⟩:=Aa.shape r;obtain⟨y1,y2,y3,rfl,G,J,I⟩:=Ac.three rs;unfold Aa at G J I;subst G J I;refine⟨A,_,rfl,Ae.of L,rfl,_,_,rfl,_,_,rfl,_,_,rfl,rfl,⟨λc=>⟨λ_=>?_,λz=>by cases z⟩,λc=>⟨by lia,rfl,⟨λD=>?_,λD=>?_⟩⟩⟩⟩
  .have z:drawn e g=0:=by unfold drawn;rw [YR (.inl (Z3 c))]
   rw[z]at q;exact q
  .have z:drawn e g=0:=by
    unfold drawn;exact YR (.inr λz=>Sa D (Zv V.int z))
   rw[z]at q;exact q
  .have z:drawn e g=e.1:=by
    unfold drawn;rw[YN ?_];rintro(z | z)
    .exact absurd (ZE z) (by rw[c];decide)
    .apply z;have:V.int ((g-e.2.1) % e.2.2)=V.int 0:=by simpa using D
     injection this
   rw[z]at q;exact q
end
section
theorem Ol:∀ {bs:List yQ},(∀d∈bs,GoodB d)->∃l:List (Int×Int),bs=l.map bD/\∀q∈l,1<=q.1/\q.1<=9/\1<=q.2/\q.2<=9
 |[],_=>⟨[],rfl,λ_ h=>nomatch h⟩
 |d::ds,h=>by
  obtain⟨l,e,g⟩:=Ol λx O=>h x (Z4 _ O)
  obtain⟨m,c,rfl,G,J,L,I⟩:=h d Z1;refine⟨(m,c)::l,by rw[e];rfl,λq D=>?_⟩;rcases YY.mp D with rfl | D
  .exact⟨G,J,L,I⟩
  .exact g q D
theorem Om:∀ {es:List yQ},(∀d∈es,GoodE d)->∃l:List (Int×Int×Int),es=l.map eD/\∀q∈l,1<=q.1/\q.1<=9/\0<=q.2.1/\q.2.1<=7/\1<=q.2.2/\q.2.2<=8
 |[],_=>⟨[],rfl,λ_ h=>nomatch h⟩
 |d::ds,h=>by
  obtain⟨l,e,g⟩:=Om λx Z=>h x (Z4 _ Z)
  obtain⟨m,c,k,rfl,I,J,O,a4,L,G⟩:=h d Z1;refine⟨(m,c,k)::l,by rw[e];rfl,λq D=>?_⟩;rcases YY.mp D with rfl | D
  .exact⟨I,J,O,a4,L,G⟩
  .exact g q D
theorem GoodP.pl{bs es:List yQ}{lo hi st:Int}(g:GoodP bs es lo hi st):∃P:PL,P.ok/\Oj bs es lo hi st=P.d:=by
 obtain⟨D,rfl,c⟩:=Ol g.b;obtain⟨le,rfl,G⟩:=Om g.e;have b1:=g.b1;have b4:=g.b4;have e4:=g.e4;rw[Y0]at b1 b4 e4;exact⟨⟨D,le,lo,hi,st⟩,⟨c,b1,b4,G,e4,g.lo0,g.ls,g.sh,g.h4⟩,rfl⟩
theorem E8(r:yV):Ca (AN r)=true:=by
 unfold Ca;exact C9 λd hd=>by
  obtain⟨i,_,rfl⟩:=Z8.mp hd
  rfl
theorem Wb(k:Bool):0<(1:Int)+(if k=true then 1 else 0)/\(1:Int)+(if k=true then 1 else 0)<1073741824:=by cases k<;>decide
def GoodF(n h:Nat)(d:yQ):Prop:=∃x:FT,d=x.d/\x.ok n h
theorem GoodF.nm{n h:Nat}{d:yQ}(g:GoodF n h d):Ca d=true:=by obtain⟨x,rfl,_⟩:=g;rfl
theorem On{n h:Nat}:∀ {es:List yQ},(∀d∈es,GoodF n h d)->∃l:List FT,es=l.map FT.d/\∀q∈l,q.ok n h
 |[],_=>⟨[],rfl,λ_ h=>nomatch h⟩
 |d::ds,hh=>by
  obtain⟨l,e,g⟩:=On λx G=>hh x (Z4 _ G)
  obtain⟨x,rfl,D⟩:=hh d Z1;refine⟨x::l,by rw[e];rfl,λq c=>?_⟩;rcases YY.mp c with rfl | c
  .exact D
  .exact g q c
def Ir:Sp:=λg H Q _=>zM (λp v=>Bd p H/\∃P,PL.ok P/\Aa p H P.d v/\∀u c S,SY.ok S P.bs.length->Aa p c S.d u->Ev p H c->Bd p c->Q u c) g
def Iu:Sp:=λc H Q _=>zN (λv u=>∃p P S,PL.ok P/\SY.ok S P.bs.length/\Aa p H P.d v/\Aa p H S.d u/\ret H Q p (EN P S)) c
variable{P:yP}{w:yN}{K:Fgx}{mg:Str -> yW}{base:Heap}
theorem We(F:Df K mg "_law_story" wb5 ["_law_pen_here","_law_plant_here"])(T:Tx mg)(c:Gz P w K mg base):Fn P w K mg base 2 "_law_story" ["_law_pen_here","_law_plant_here"] Ir:=by
 refine F.fn (N:=["_law_pen_here","_law_plant_here","_law_hours","_law_most","_law_faults","_law_turn","_law_first","_law_last"]) AB (λvs H Q E h=>?_) (λf dl A outer s H vs Q E J h=>?_)
 .cases h;rfl
 refine⟨_,(Ak (Bo (BF (As (Ar Bs Ag (zB c J (As (cy 0) Ag))) (AH (Bb K) (A5 (B3 Ag Ag Ag Ag)) (zB c J (As (cy 0) Ag)) (λ_ _=>rfl)))) (AL K (n:=2) (Ai (zD 2) (Ai (zD 3) AK)))) (Ak (zE 4 (A5 BE)) (Ak (Cm Zq rfl (CO rfl T.b_range (Aj (zB c J (As (cy 0) Ag)))) (zD 5) (Ak (zE 6 (zB c J (As (cy 0) (cy 2)))) (Ak (zE 7 (Ar Bs (cy 6) (zB c J (As (cy 0) (Ar BL (cy 2) (cy 6)))))) (Ao (B7 (DC PySem.F.plainAttrs_list PySem.F.slot_list_append PySem.F.type_list_append DO (cy 4) (Aj (BF (B3 (zB c J (As (cy 0) (Ax (Bl K) rfl T.b_len PySem.boot_len (Aj (AH (Bw K) (cy 1) Ag (λ_ _=>rfl)))))) (AH (Bb K) (A5 (As AF AF)) (zB c J (As (cy 0) Ag)) (λ_ _=>rfl)) (cy 6) (cy 7)))))))))) (Ao (Av (BF (As (BI (BX K) rfl T.b_tuple BT (Aj (Bh ["_law_hour","_law_pen_here","_law_most"] [none,some 0,some 3] rfl (CO rfl T.b_range (Aj (cy 2))) (AJ.of rfl) (λ_ _ _ _=>(zD 0)) (λ_ _ _ _=>A8) (λ_ _ _ _=>(zB c J (As (cy 1) (cy 2))))))) (BI (BX K) rfl T.b_tuple BT (Aj (cy 4)))))))))),?_⟩;cases h;rename_i h
 .rename_i p v;obtain⟨pn,P,ok,r,q⟩:=h;have b1:=ok.b1;have b4:=ok.b4;refine⟨pn,by decide,by decide,λg1 H1 a1 c1 e1 j0 l1 Z=>⟨j0.new Z,by decide,by decide,λg2 H2 a2 c2 e2 G=>?_⟩⟩;obtain⟨mo,j6,j3⟩:=E7 (ns:=[1,4,9,21]) a2 (by simpa using c2);have l7:1<=mo/\mo<=21:=by
   simp only[YY,Ze,ZC]at j6;lia
  refine⟨l1,_,g2,.int mo,rfl,rfl,Al.of (e2.lst Af (j0.ne Z)),j3,λl0 i8=>⟨l0,_,rfl,Ae.of Af,rfl,_,_,rfl,_,_,rfl,rfl,λb hb=>?_⟩⟩;have eA:Ev p H (upd H2 l0 (.tup [.int (1+g1),.int mo])):=e1.trans ((Ev.new Z).trans (e2.trans (Ev.new i8)))
  replace G:=G.new (o:= .tup [.int (1+g1),.int mo]) i8
  have nb:b≠p:=G.ne hb;have k9:H b=none:=by
   cases z:H b with
   |none=>rfl
   |some o=>exact((eA b o z).elim (fun⟨x,_⟩=>absurd x nb) λx=>by rw[x]at hb;cases hb)
  refine⟨G.new hb,by decide,by decide,λg3 H3 a3 c3 e3 j5=>⟨g3,rfl,by lia,by lia,EE (n:=g3.toNat) (λi σ H4=>∃t f l,σ=[some (.ref p),some v,some (.int (1+g1)),some (.int mo),some (.ref b),t,f,l]/\Filled (GoodF P.bs.length (1+g1).toNat) p b H H4 i)
   ⟨_,_,_,rfl,eA.trans ((Ev.new hb).trans e3),j5,[],[],e3.lst Af nb,.nil,(λ_ h=>nomatch h),rfl⟩ (λi σ H4 hi hP=>?_) fun σ H4 hP=>?_⟩⟩
  .obtain⟨t,f,l,rfl,ev,j8,xs,ds,hx,rs,gd,hl⟩:=hP;refine⟨j8,by lia,by lia,λf1 L a5 c5 e5 g=>⟨g,by lia,by lia,λf2 H6 a6 c6 e6 i4=>?_⟩⟩;have i6:Ev p H4 H6:=e5.trans e6;obtain⟨PA,PB,PE,PM,xb,xe,rfl,pA,pB,rb,pE,re,pM⟩:=Aa.plant (Aa.ev (ev.trans i6) _ _ r);have lb:=rb.len;rw[Y0]at lb;refine⟨.inl ⟨rfl,_,Al.of (i6.lst hx nb)⟩,PA,_,0,.ref PB,rfl,rfl,Ae.of pA,rfl,PB,xb,rfl,.inr (Ae.of pB),i4,by lia,by lia,λf3 H7 a7 c7 e7 i7 l2 O=>⟨i7.new O,by decide,by decide,λg4 H8 a8 c8 e8 j9=>?_⟩⟩;have hw:∃bb:Bool,Ce [V.str "out",.str "scaled"] g4=some (wV bb):=by
    have:g4=0\/g4=1:=by lia
    rcases this with rfl | rfl
    .exact⟨true,rfl⟩
    .exact⟨false,rfl⟩
   obtain⟨bb,hw⟩:=hw;refine⟨l2,_,g4,wV bb,rfl,rfl,Al.of (e8.lst Af (i7.ne O)),hw,λt1 D=>?_⟩;have I:Ev p H4 H8:=i6.trans (e7.trans ((Ev.new O).trans e8));refine⟨b,xs,.ref t1,rfl,rfl,by rw[Ap (BC (I.lst hx nb) D)];exact I.lst hx nb,Ex (by rw[<-rs.len,hl];lia),_,_,_,rfl,?_⟩;exact Filled.step (λd h=>h.nm) hx rs gd hl I nb k9 (ev.trans I) j9 D (Aa.tup Af (.cons Aa.int (.cons Aa.str (.cons Aa.int (.cons Aa.int .nil))))) ⟨⟨f3,bb,f1,f1+f2⟩,rfl,⟨a7,by show f3<_;lia,a5,by show f1<=f1+f2;lia,by show f1+f2<_;lia⟩⟩
  .obtain⟨t,f,l,rfl,fb⟩:=hP;refine⟨_,rfl,by lia,by lia,F4 (n:=(1+g1).toNat) (λi ys L=>Ev p H4 L/\Bd p L/\∃ns:yV,ys=ns.map V.int/\ns.length=i/\∀u∈ns,0<=u/\u<=20) (by lia) ⟨Ev.refl,fb.pen,[],rfl,rfl,(λ_ h=>nomatch h)⟩ (λi ys L h=>?_) (λi ys L hi h=>?_) λys L h=>?_⟩
   .obtain⟨_,_,ns,rfl,hn,_⟩:=h;rw[Y0];lia
   .obtain⟨e5,g,ns,rfl,hn,hu⟩:=h;refine⟨⟨rfl,rfl,trivial⟩,λ_=>⟨g,by lia,by lia,λg6 H6 a6 c6 e6 i4=>⟨e5.trans e6,i4,ns++[g6],by rw [YM];rfl,by rw [Z7,hn];rfl,λu j4=>?_⟩⟩,λz=>by cases z⟩;rcases ay.mp j4 with h | h
    .exact hu u h
    .rw[Zc.mp h];lia
   .obtain⟨e5,g,ns,rfl,hn,hu⟩:=h;intro m hm;obtain⟨xs,fs,j7,l6,gf,lf⟩:=fb.done nb e5;refine⟨m,_,rfl,.inl ⟨Al.of Af,λt1 D=>⟨b,xs,rfl,.inl ⟨Al.of ?_,λt2 i9 t3 i5=>?_⟩⟩⟩⟩
    .exact((Ab.new hm).trans (Ab.new D)) _ _ j7
    .obtain⟨lF,rfl,gl⟩:=On gf;rw [Y0] at lf;have s5:Ab L (upd (upd (upd (upd L m (.lst (ns.map V.int))) t1 (.tup (ns.map V.int))) t2 (.tup xs)) t3 (.tup [.ref t1,.ref t2])):=(Ab.new hm).trans ((Ab.new D).trans ((Ab.new i9).trans (Ab.new i5)));refine q _ _ ⟨ns,lF⟩ ⟨by show 1<=ns.length;lia,by show ns.length<=8;lia,hu,by show lF.length<=4;lia,λx hx=>?_⟩ ?_ ((fb.ev.trans e5).trans (Ev.same s5)) (g.same s5)
     .show x.ok _ ns.length;rw[hn];exact gl x hx
     .refine Aa.tup Af (.cons (Aa.row ?_) (.cons (Aa.tup ?_ (Ac.ev (Ev.same s5) _ _ l6)) .nil))
      .exact((Ab.new i9).trans (Ab.new i5)) _ _ Af
      .exact(Ab.new i5) _ _ Af
theorem zaa:Aw ["_law_plant_here","_law_story_here","_law_rows","_law_hour","_law_row","_law_boiler","_law_make","_law_coal","_law_words"] ["_law_plant_here","_law_story_here"] (Am wb6):=AB
theorem Wf(F:Df K mg "_law_caps" wb6 ["_law_plant_here","_law_story_here"])(T:Tx mg):Fn P w K mg base 1 "_law_caps" ["_law_plant_here","_law_story_here"] Iu:=by
 refine F.fm zaa λf dl A outer s H vs Q E hr h=>?_
 refine⟨_,(Ak (zE 2 (A5 BE)) (Ak (Cm Zq rfl (CO rfl T.b_range (Aj (Ax (Bl K) rfl T.b_len PySem.boot_len (Aj (AH (Bw K) (cy 1) Ag (λ_ _=>rfl)))))) (zD 3) (Ak (zE 4 (A5 BE)) (Ak (Cm Zq rfl (EM P w K rfl T.b_enumerate (Aj (AH (Bw K) (cy 0) Ag (λ_ _=>rfl)))) (AL K (n:=2) (Ai (zD 5) (Ai (AL K (n:=2) (Ai (zD 6) (Ai (zD 7) AK))) AK))) (Ak (Fj (i:=8) ["_law_one","_law_word","_law_first","_law_last","_law_boiler","_law_hour"] [none,none,none,none,some 5,some 3] zaa.nd rfl (AC (by rfl)) rfl (BO K (AH (Bw K) (cy 1) Ag (λ_ _=>rfl))) (AJ.of rfl) (λ_ _ _ _=>(AL K (n:=4) (Ai (zD 0) (Ai (zD 1) (Ai (zD 2) (Ai (zD 3) AK)))))) (λ_ _ _ _=>(Fi (PW.pt (Ho (Bi CB (cy 0) (cy 4) (Ba _)) (Ho (Bi Em (cy 2) (cy 5) (Ba _)) (Jg (Bi Em (cy 5) (cy 3) (Ba _)))))))) (λ_ _ _ _=>(cy 1))) (Ao (B7 (DC PySem.F.plainAttrs_list PySem.F.slot_list_append PySem.F.type_list_append DO (cy 4) (Aj (Fm (Bi (Ht K) AF (cy 8) (by with_unfolding_all rfl)) Ag (Ar JO (cy 6) (Ar Bs Ag (BI Lx rfl T.b_int L2.boot_int (Aj (Dz (Ht K) AF (cy 8) (by with_unfolding_all rfl))))))))))))) (Ao (B7 (DC PySem.F.plainAttrs_list PySem.F.slot_list_append PySem.F.type_list_append DO (cy 2) (Aj (BI (BX K) rfl T.b_tuple BT (Aj (cy 4)))))))))) (Ao (Av (BI (BX K) rfl T.b_tuple BT (Aj (cy 2))))))),?_⟩;cases h;rename_i h
 .rename_i v u;obtain⟨p,P,S,ok,so,r,ru,q⟩:=h;obtain⟨A,B,E,xf,rfl,hA,hB,hE,rf⟩:=Aa.story ru;obtain⟨PA,PB,PE,PM,xb,xe,rfl,pA,pB,rb,pE,re,pM⟩:=Aa.plant r;have x8:=so.x8;have f4:=so.f4;have b4:=ok.b4;have lb:=rb.len;rw[Y0]at lb;have lf:=rf.len;rw[Y0]at lf;intro R hR;have s0:Ab H (upd H R (.lst [])):=Ab.new hR;refine⟨A,_,0,.ref B,rfl,rfl,Ae.of (s0 _ _ hA),rfl,B,_,rfl,.inr (Ae.of (s0 _ _ hB)),_,rfl,by lia,by rw[Y0];lia,EE (n:=(S.ex.map V.int).length) (λi σ J=>(∃x3 x4 x5 x6 x7 x8,σ=[some (.ref PA),some (.ref A),some (.ref R),x3,x4,x5,x6,x7,x8])/\Ab H J/\∃xs,J R=some (.lst xs)/\Ac p J (((caps P S).take i).map AN) xs)
   ⟨⟨_,_,_,_,_,_,rfl⟩,s0,[],Af,.nil⟩ (λi σ J hi hP=>?_) fun σ J hP=>?_⟩
  .obtain⟨⟨x3,x4,x5,x6,x7,i7,rfl⟩,s1,xs,L,I⟩:=hP;rw[Y0]at hi;have lx:=I.len;rw[Y0,YW]at lx;intro b hb;have sb:Ab J (upd J b (.lst [])):=Ab.new hb;refine⟨PA,_,0,.ref PB,rfl,rfl,Ae.of (sb _ _ (s1 _ _ pA)),rfl,PB,rfl,⟨xb,Ae.of (sb _ _ (s1 _ _ pB))⟩,for_enum (xs:=xb) (λj σ G=>(∃y5 y6 y7 y8,σ=[some (.ref PA),some (.ref A),some (.ref R),some (.int (0+i)),some (.ref b),y5,y6,y7,y8])/\Ab J G/\G b=some (.lst (((BY P.bs S.fs i).take j).map V.int)))
    ⟨⟨_,_,_,_,rfl⟩,sb,Af⟩ (λj σ G h=>Ae.of (h.2.1 _ _ (s1 _ _ pB))) (λj x σ G T hx h hT=>?_) fun σ G h=>?_⟩
   .obtain⟨⟨y5,y6,y7,y8,rfl⟩,s2,O⟩:=h;obtain⟨f,hf,rd⟩:=Ac.mapGot rb hx;have hj:j<xb.length:=(Y3.mp hx).1;have s3:Ab J (upd G T (.tup [.int j,x])):=s2.trans (Ab.new hT);have D:Ab H (upd G T (.tup [.int j,x])):=s1.trans s3;obtain⟨l,zs,rfl,i8,rz⟩:=Aa.shape (Aa.ev (Ev.same D) _ _ rd);obtain⟨z1,z2,rfl,r1,r2⟩:=Ac.two rz;unfold Aa at r1 r2;subst r1 r2;refine⟨T,_,rfl,Ae.of Af,rfl,_,_,rfl,_,_,rfl,l,_,rfl,Ae.of i8,rfl,_,_,rfl,_,_,rfl,rfl,rfl,?_⟩;refine⟨A,_,1,.ref E,rfl,rfl,Ae.of (D _ _ hA),rfl,E,rfl,⟨xf,Ae.of (D _ _ hE)⟩,BS (xs:=xf) (λk ys H3=>Ab (upd G T (.tup [.int j,.ref l])) H3/\ys=(BP (S.fs.take k) j i).map wV) (by lia) ⟨Ab.refl _,rfl⟩ (λk ys H' h=>?_) (λk ys H' _ h=>Ae.of (h.1 _ _ (D _ _ hE))) (λk x ys H' hx h=>?_) λys H3 h=>?_⟩
    .rw[h.2,Y0];unfold BP;rw[Y0];exact YV (bq _ _) (by rw[YW];lia)
    .obtain⟨g,hg,rg⟩:=Ac.mapGot rf hx;obtain⟨l2,j0,rfl,i6,i9⟩:=Aa.shape (Aa.ev (Ev.same (D.trans h.1)) _ _ rg);obtain⟨w1,w2,w3,w4,rfl,r1,r2,r3,r4⟩:=Ac.four i9;unfold Aa at r1 r2 r3 r4;subst r1 r2 r3 r4;have nx:=MW (b:=j) (h:=i) hg;have no:Cq j i g=false->Ab (upd G T (.tup [.int j,.ref l])) H'/\ys=(BP (S.fs.take (k+1)) j i).map wV:=λe=>⟨h.1,by rw [nx,e,YN (by decide)];exact h.2⟩
     refine⟨l2,_,rfl,Ae.of i6,rfl,_,_,rfl,_,_,rfl,_,_,rfl,_,_,rfl,rfl,⟨rfl,rfl,trivial⟩,rfl,⟨λc1=>⟨λc2=>⟨λc3=>?_,λc3=>no ?_⟩,λc2=>⟨λz=>(by cases z),λ_=>no ?_⟩⟩,λc1=>⟨λz=>(by cases z),λ_=>no ?_⟩⟩⟩
     .have e:Cq j i g=true:=by
       rw[Dy]at c1;rw[aQ]at c2 c3;unfold Cq;rw[c1,c2,c3];rfl
      refine⟨h.1,?_⟩;rw[nx,YR e,YM,h.2];rfl
     .rw[aQ]at c3;unfold Cq;rw[c3,Zg]
     .rw[aQ]at c2;unfold Cq;rw[c2,Zg,Zb]
     .rw[Dy]at c1;unfold Cq;rw[c1,Zb,Zb]
    .intro m hm;have ew:ys=(BP S.fs j i).map wV:=by rw [h.2,YS (by lia)]
     subst ew;have s4:Ab G (upd H3 m (.lst ((BP S.fs j i).map wV))):=(Ab.new hT).trans (h.1.trans (Ab.new hm));have i4:=s4 _ _ O;have Z:(((BY P.bs S.fs i).take j).map V.int).length<sizeLine:=Ex (by rw[Y0,YW];lia);refine⟨.inl ⟨rfl,_,Al.of i4⟩,m,_,rfl,.inl (Al.of Af),rfl,Hx,⟨λc=>?_,λc=>?_⟩⟩
     .rw [YN (by decide),Hw] at c;refine⟨b,_,.int 0,rfl,rfl,i4,Z,⟨_,_,_,_,rfl⟩,Ab.own (s2.trans s4) hb,?_⟩;have e:B9 (BP S.fs j i) f.1=0:=by unfold B9;rw [YR c]
      rw[Af,A6 (JT hf),YM,e];rfl
     .rw [YN (by decide),Hw] at c;refine⟨m,_,rfl,.inl (Al.of Af),rfl,Hx,.inr ⟨_,rfl,?_⟩⟩;have ek:(if (false=true) then !Ei (V.str "scaled") ((BP S.fs j i).map wV) else Ei (V.str "scaled") ((BP S.fs j i).map wV))=(BP S.fs j i).any (!·):=by rw [YN (by decide)];exact JU
      have e:=Sf (m:=f.1) c;refine⟨Wb _,b,_,.int (B9 (BP S.fs j i) f.1),rfl,Zv (λz=>[V.int z]) ((Zv (fun(k:Bool)=>f.1 /(1+if k=true then 1 else 0)) ek).trans e),i4,Z,⟨_,_,_,_,rfl⟩,Ab.own (s2.trans s4) hb,?_⟩;rw[Af,A6 (JT hf),YM];rfl
   .obtain⟨⟨y5,y6,y7,y8,rfl⟩,s2,O⟩:=h;rw[YS (by rw[En];lia)]at O;refine⟨.inl ⟨rfl,_,Al.of (s2 _ _ L)⟩,b,_,rfl,.inl ⟨Al.of O,λt ht=>?_⟩⟩;have s3:Ab J (upd G t (.tup ((BY P.bs S.fs i).map V.int))):=s2.trans (Ab.new ht);have i5:=s3 _ _ L;refine⟨R,xs,.ref t,rfl,rfl,i5,Ex (by lia),⟨_,_,_,_,_,_,rfl⟩,Ab.own (s1.trans s3) hR,_,Af,?_⟩;have tv:=TEv.upd (zs:=xs++[.ref t]) i5;rw[A6 (CZ hi),YM];refine Ac.snoc (Ac.tev ((Ev.same (p:=p) s3).tev.trans tv) _ _ (C9 λd hd=>?_) I) (Aa.tev tv _ _ (E8 _) (Aa.row (p:=p) Af));obtain⟨rr,_,rfl⟩:=Z8.mp hd;exact E8 rr
  .obtain⟨⟨x3,x4,x5,x6,x7,i7,rfl⟩,s1,xs,L,I⟩:=hP;refine⟨R,xs,rfl,.inl ⟨Al.of L,λt ht=>q _ _ (s1.trans (Ab.new ht)) (Aa.tup Af ?_)⟩⟩;rw[YS (by rw[Cr,Y0];exact Y4 _)]at I;exact Ac.ev (Ev.new ht) _ _ I
end
section
variable{p:yR}{H:Hp}
def B6(d:yQ)(cs:yV):Bool:=match d with | .tuple ds=>decide (ds.length=cs.length) &&(List.zipWith (λe c=>AZ e 0 c) ds cs).all id | _=>false
def Cv(cs:yZ)(d:yQ):Bool:=match d with | .tuple ds=>decide (ds.length=cs.length) &&(List.zipWith B6 ds cs).all id | _=>false
theorem Oo{d:yQ}{n:Nat}(h:AV d (n:Int) (n:Int)=true):∃ds,d= .tuple ds/\ds.length=n:=by
 cases d with
 |tuple ds=>
  unfold AV at h;obtain⟨g,c⟩:=Z5.mp h;have g:=Z3 g;have c:=Z3 c;exact⟨ds,rfl,by lia⟩
 |_=>cases h
theorem Wg{d:yQ}{cs:yV}(h:AV d (cs.length:Int) (cs.length:Int)=false):B6 d cs=false:=by
 cases d with
 |tuple ds=>
  unfold B6
  by_cases e:ds.length=cs.length
  .rw[Ea (by lia) (by lia)]at h;cases h
  .simp[e]
 |_=>rfl
theorem Wh{d:yQ}{cs:yZ}(h:AV d (cs.length:Int) (cs.length:Int)=false):Cv cs d=false:=by
 cases d with
 |tuple ds=>
  unfold Cv
  by_cases e:ds.length=cs.length
  .rw[Ea (by lia) (by lia)]at h;cases h
  .simp[e]
 |_=>rfl
theorem Op{ds:List yQ}{cs:yV}(h:ds.length=cs.length):B6 (.tuple ds) cs=(List.zipWith (λe c=>AZ e 0 c) ds cs).all id:=by
 unfold B6;simp[h]
theorem Oq{ds:List yQ}{cs:yZ}(h:ds.length=cs.length):Cv cs (.tuple ds)=(List.zipWith B6 ds cs).all id:=by
 unfold Cv;simp[h]
theorem FJ{g c:Type}{f:g->c->Bool}{l:List g}{m:List c}{i:Nat}{a:g}{b:c}(D:l[i]? =some a)(G:m[i]? =some b):(List.zipWith f l m)[i]? =some (f a b):=by rw[List.getElem?_zipWith,D,G]
theorem rowB_is{d:yQ}{cs:yV}:B6 d cs=true↔ ∃r:yV,d=AN r/\r.length=cs.length/\∀(j:Nat) (x c:Int),r[j]? =some x->cs[j]? =some c->0<=x/\x<=c:=by
 constructor
 .intro h;cases d with
  |tuple ds=>
   unfold B6 at h;obtain⟨J,O⟩:=Z5.mp h;have J:=Z3 J;rw[Zt]at O;have hi:∀j (D:j<ds.length),∃x:Int,ds[j]= .int x/\∀c,cs[j]? =some c->0<=x/\x<=c:=λj D=>by
    have g:cs[j]? =some cs[j]:=Y5 (by lia);have L:=FJ (f:=λe c=>AZ e 0 c) (Y5 D) g;have:=O _ (YU L);cases hd:ds[j] with
    |int x=>
     rw[hd]at this;have this:AZ (.int x) 0 cs[j]=true:=this;unfold AZ at this;obtain⟨Z,a2⟩:=Z5.mp this;refine⟨x,rfl,λc e=>?_⟩;rw[g]at e;cases e;exact⟨Z3 Z,Z3 a2⟩
    |_=>rw[hd]at this;cases this
   refine⟨ds.map λd=>match d with | .int x=>x | _=>0,?_,by rw[Y0];exact J,λj x c G g=>?_⟩
   .unfold AN
    congr 1
    refine List.ext_getElem (by simp) λj g1 g2=>?_
    obtain⟨x,e,_⟩:=hi j g1;simp[e]
   .rw [YO] at G;have D:j<ds.length:=by have:=(Y3.mp g).1;lia
    obtain⟨y,e,b⟩:=hi j D;rw[Y5 D,e]at G;cases G;exact b c g
  |_=>cases h
 .rintro⟨r,rfl,hl,b⟩;unfold AN;rw[Op (by rw[Y0];exact hl),Zt];intro z L;obtain⟨j,D,e⟩:=List.getElem_of_mem L;rw[bh,Y0]at D;have G:r[j]? =some r[j]:=Y5 (by lia);have g:cs[j]? =some cs[j]:=Y5 (by lia);have:=b j _ _ G g;have I:=FJ (f:=λe c=>AZ e 0 c) (l:=r.map .int) (a:= .int r[j]) (by rw[YO,G];rfl) g;rw[Y5 (by rw[bh,Y0];lia)]at I;have I:=Y9 I;rw[I]at e;rw[<-e];exact CU this.1 this.2
theorem fireB_is{P:PL}{S:SY}{d:yQ}:Cv (caps P S) d=true↔ ∃F,d=FD F/\FOk P S F:=by
 constructor
 .intro h;cases d with
  |tuple ds=>
   unfold Cv at h;obtain⟨G,J⟩:=Z5.mp h;have G:=Z3 G;rw[Zt]at J;have hi:∀i (hi:i<ds.length),∃r:yV,ds[i]=AN r/\r.length=P.bs.length/\∀(j:Nat) (x c:Int),r[j]? =some x->(BY P.bs S.fs i)[j]? =some c->0<=x/\x<=c:=λi hi=>by
    have Z:=CZ (P:=P) (S:=S) (i:=i) (by rw[<-Cr (P:=P) (S:=S)];lia);have hz:=FJ (f:=B6) (Y5 hi) Z;obtain⟨r,e,l,b⟩:=rowB_is.mp (J _ (YU hz));exact⟨r,e,by rw[l,En],b⟩
   have hF:∃F:yZ,ds=F.map AN/\∀(i:Nat) r,F[i]? =some r->r.length=P.bs.length/\∀(j:Nat) (x c:Int),r[j]? =some x->(BY P.bs S.fs i)[j]? =some c->0<=x/\x<=c:=by
    clear h J;have L:∀(n:Nat),n<=ds.length->∃F:yZ,ds.take n=F.map AN/\∀(i:Nat) r,F[i]? =some r->r.length=P.bs.length/\∀(j:Nat) (x c:Int),r[j]? =some x->(BY P.bs S.fs i)[j]? =some c->0<=x/\x<=c:=λn=>by
     induction n with
     |zero=>exact λ_=>⟨[],by simp,λi r h=>by cases h⟩
     |succ n ih=>
      intro hn;obtain⟨F,e,b⟩:=ih (by lia);obtain⟨r,D,b2⟩:=hi n (by lia);have lF:F.length=n:=by have:=Zv List.length e;rw[YW,Y0]at this;lia
      refine⟨F++[r],by rw[A6 (Y5 (by lia)),e,D,YM];rfl,λi s I=>?_⟩
      by_cases c:i<F.length
      .rw[aq c]at I;exact b i s I
      .have O:=(Y3.mp I).1;rw [Z7,ZF] at O;obtain rfl:i=n:=by lia
       rw[<-lF,List.getElem?_concat_length]at I;cases I;exact b2
    obtain⟨F,e,b⟩:=L ds.length (Y4 _);exact⟨F,by rw[<-e,ZR],b⟩
   obtain⟨F,rfl,b⟩:=hF;refine⟨F,rfl,?_,λi r g=>(b i r g).1,λi r j x c g=>(b i r g).2 j x c⟩;rw[Y0,Cr]at G;exact G
  |_=>cases h
 .rintro⟨F,rfl,fo⟩;unfold FD;have O:(F.map AN).length=(caps P S).length:=by rw[Y0,Cr,fo.len]
  rw[Oq O,Zt];intro z hz;obtain⟨i,hi,e⟩:=List.getElem_of_mem hz;rw[bh,Y0]at hi;have g:F[i]? =some F[i]:=Y5 (by lia);have Z:=CZ (P:=P) (S:=S) (i:=i) (by rw[<-fo.len];lia);have D:=FJ (f:=B6) (l:=F.map AN) (a:=AN F[i]) (by rw[YO,g];rfl) Z;rw[Y5 (by rw[bh,Y0];lia)]at D;have D:=Y9 D;rw[D]at e;rw[<-e];exact rowB_is.mpr ⟨_,rfl,by rw[fo.row i _ g,En],λj x c G J=>fo.bd i _ j x c g G J⟩
def Iv:Sp:=λg H Q _=>zN (λv u=>∃p d cs,Aa p H d v/\Aa p H (AN cs) u/\cs.length<=1000/\∀b c,b=B6 d cs->Ab H c->Q (.bl b) c) g
def Iw:Sp:=λD H Q _=>zN (λc w=>∃p P S d,PL.ok P/\SY.ok S P.bs.length/\Aa p H (EN P S) c/\Aa p H d w/\∀b g,b=Cv (caps P S) d->Ab H g->Q (.bl b) g) D
theorem Aa.firing{p:yR}{H:Hp}{F:yZ}{v:V}(r:Aa p H (FD F) v):∃A xs,v= .ref A/\H A=some (.tup xs)/\Ac p H (F.map AN) xs:=Aa.shape r
theorem Aa.ofRow{r:yV}{v:V}(h:Aa p H (AN r) v):∃A,v= .ref A/\H A=some (.tup (r.map V.int)):=by
 obtain⟨A,g,rfl,c,rs⟩:=Aa.shape h;rw[Ac.ints rs]at c;exact⟨A,rfl,c⟩
theorem Wi{s:Option (Int×Int)}{c:V}(r:Aa p H (DX s) c):decide (c= .non)=s.isNone:=by
 cases s with
 |none=>unfold DX Aa at r;subst r;rfl
 |some q=>
  unfold DX at r;obtain⟨A,g,rfl,_⟩:=Aa.shape r
  rfl
variable{P:yP}{w:yN}{K:Fgx}{mg:Str -> yW}{base:Heap}
theorem Wk(F:Df K mg "is_row" waq ["thing","caps"])(T:Tx mg)(Z:Ch P w K mg base)(O:E3 P w K mg base):Fn P w K mg base 3 "is_row" ["thing","caps"] Iv:=by
 refine F.fm (N:=["thing","caps"]) AB λf dl A outer s H vs Q E hr h=>?_
 refine⟨_,(Ao (Av (Bp (zB Z hr (AM (cy 0) (Ax (Bl K) rfl T.b_len PySem.boot_len (Aj (cy 1))) (Ax (Bl K) rfl T.b_len PySem.boot_len (Aj (cy 1))))) (BM (Ax (DU rfl) rfl T.b_all bM (Aj (Bh ["part","cap"] [none,none] rfl (Hu P w K rfl T.b_zip (As (cy 0) (cy 1))) (AJ.of rfl) (λ_ _ _ _=>(AL K (n:=2) (Ai (zD 0) (Ai (zD 1) AK)))) (λ_ _ _ _=>A8) (λ_ _ _ _=>(zB O hr (AM (cy 0) Ag (cy 1))))))))))),?_⟩;cases h;rename_i h
 .rename_i v u;obtain⟨p,d,cs,rv,ru,i4,q⟩:=h;obtain⟨B,rfl,I⟩:=Aa.ofRow ru;refine⟨B,_,rfl,.inr (Ae.of I),B,_,rfl,.inr (Ae.of I),p,d,rv,λb L=>?_⟩;rw[Y0]at L;refine⟨λc=>?_,λc=>q _ H ?_ (Ab.refl _)⟩
  .rw[L]at c;obtain⟨ds,rfl,hl⟩:=Oo c;obtain⟨A,xs,rfl,hA,rs⟩:=Aa.shape rv;have lx:=rs.len;refine⟨A,B,rfl,⟨_,Ae.of hA⟩,⟨_,Ae.of I⟩,walk_zip (xs:=xs) (ys:=cs.map V.int) (λi G g=>Ab H g/\G=((List.zipWith (λe c=>AZ e 0 c) ds cs).take i).map V.bl) (by lia) (by rw[Y0];lia) ⟨Ab.refl _,rfl⟩
    (λi G g h=>by rw[h.2,Y0,YW];lia) (λi G g h=>⟨Ae.of (h.1 _ _ hA),Ae.of (h.1 _ _ I)⟩) (λi x y G g T hx D h hT=>?_) λG g h=>?_⟩
   .obtain⟨e,he,re⟩:=rs.got hx;rw [YO] at D;cases J:cs[i]? with
    |none=>rw[J]at D;cases D
    |some m=>
     rw[J]at D;cases D;have nT:=Ab.new (o:= .tup [x,.int m]) hT;refine⟨T,_,rfl,Ae.of Af,rfl,_,_,rfl,_,_,rfl,rfl,trivial,λ_=>⟨p,e,Aa.ev (Ev.same (h.1.trans nT)) _ _ re,λb1 e1=>⟨h.1.trans nT,?_⟩⟩,λc=>by cases c⟩;rw[h.2,A6 (FJ (f:=λe c=>AZ e 0 c) he J),YM,e1];rfl
   .intro m hm;refine⟨m,List.zipWith (λe c=>AZ e 0 c) ds cs,rfl,by rw[Af,h.2,YS (by rw[bh];lia)],?_⟩;exact q _ _ (Op hl).symm (h.1.trans (Ab.new hm))
  .rw[L]at c;exact(Wg c).symm
theorem Wm(F:Df K mg "is_firing_within" wap ["caps","thing"])(T:Tx mg)(L:Fn P w K mg base 3 "is_row" ["thing","caps"] Iv)(Z:Ch P w K mg base):Fn P w K mg base 4 "is_firing_within" ["caps","thing"] Iw:=by
 refine F.fm (N:=["caps","thing"]) AB λf dl A outer s H vs Q E hr h=>?_
 refine⟨_,(Ao (Av (Bp (zB Z hr (AM (cy 1) (Ax (Bl K) rfl T.b_len PySem.boot_len (Aj (cy 0))) (Ax (Bl K) rfl T.b_len PySem.boot_len (Aj (cy 0))))) (BM (Ax (DU rfl) rfl T.b_all bM (Aj (Bh ["part","row"] [none,none] rfl (Hu P w K rfl T.b_zip (As (cy 1) (cy 0))) (AJ.of rfl) (λ_ _ _ _=>(AL K (n:=2) (Ai (zD 0) (Ai (zD 1) AK)))) (λ_ _ _ _=>A8) (λ_ _ _ _=>(zB L hr (As (cy 0) (cy 1))))))))))),?_⟩;cases h;rename_i h
 .rename_i c w;obtain⟨p,P,S,d,ok,so,rc,G,q⟩:=h;have x8:=so.x8;have b4:=ok.b4;obtain⟨B,cx,rfl,J,rB⟩:=Aa.firing (F:=caps P S) rc;have lB:=rB.len;rw[Y0]at lB;have lc:(caps P S).length=S.ex.length:=Cr;refine⟨B,_,rfl,.inr (Ae.of J),B,_,rfl,.inr (Ae.of J),p,d,G,λb O=>?_⟩;rw[<-lB]at O;refine⟨λc=>?_,λc=>q _ H ?_ (Ab.refl _)⟩
  .rw[O]at c;obtain⟨ds,rfl,hl⟩:=Oo c;obtain⟨A,xs,rfl,hA,rs⟩:=Aa.shape G;have lx:=rs.len;refine⟨A,B,rfl,⟨_,Ae.of hA⟩,⟨_,Ae.of J⟩,walk_zip (xs:=xs) (ys:=cx) (λi I D=>Ab H D/\I=((List.zipWith B6 ds (caps P S)).take i).map V.bl) (by lia) (by lia) ⟨Ab.refl _,rfl⟩
    (λi I D h=>by rw[h.2,Y0,YW];lia) (λi I D h=>⟨Ae.of (h.1 _ _ hA),Ae.of (h.1 _ _ J)⟩) (λi x y I D T hx hy h hT=>?_) λI D h=>?_⟩
   .obtain⟨e,he,re⟩:=rs.got hx;obtain⟨m,g,rm⟩:=Ac.mapGot rB hy;have nT:=Ab.new (o:= .tup [x,y]) hT;have hi:i<S.ex.length:=by have:=(Y3.mp g).1;lia
    have lm:m.length<=1000:=by
     have:=CZ (P:=P) hi;rw[g]at this;rw[Y9 this,En];lia
    refine⟨T,_,rfl,Ae.of Af,rfl,_,_,rfl,_,_,rfl,rfl,trivial,λ_=>⟨p,e,m,Aa.ev (Ev.same (h.1.trans nT)) _ _ re,Aa.ev (Ev.same (h.1.trans nT)) _ _ rm,lm,λb1 H2 e1 s2=>⟨h.1.trans (nT.trans s2),?_⟩⟩,λc=>by cases c⟩;rw[h.2,A6 (FJ (f:=B6) he g),YM,e1];rfl
   .intro m g;refine⟨m,List.zipWith B6 ds (caps P S),rfl,by rw[Af,h.2,YS (by rw[bh];lia)],?_⟩;exact q _ _ (Oq hl).symm (h.1.trans (Ab.new g))
  .rw[O]at c;exact(Wh c).symm
theorem za2:Aw ["plant","story","firing","low","high","main","rows","hour","drawn","made","blown"] ["plant","story","firing"] (Am wau):=AB
end
section
def CM:List yQ->yV->Bool
 |[],[]=>true
 |d::ds,j::r=>(match d with | .int i=>i==j | _=>false) && CM ds r
 |_,_=>false
def Ix(d:yQ)(r:yV):Bool:=match d with | .tuple ds=>CM ds r | _=>false
theorem sameInts_ints:∀ {ns r:yV},CM (ns.map .int) r=decide (ns=r)
 |[],[]=>rfl
 |[],_::_=>rfl
 |_::_,[]=>rfl
 |n::ns,m::r=>by
  rw[ZA];unfold CM;rw[sameInts_ints (ns:=ns) (r:=r),ap];simp
theorem Os:∀ {ds:List yQ}{r:yV},CM ds r=true->ds.length=r.length
 |[],[],_=>rfl
 |[],_::_,h=>by unfold CM at h;cases h
 |_::_,[],h=>by unfold CM at h;cases h
 |d::ds,m::r,h=>by
  unfold CM at h;obtain⟨_,c⟩:=Z5.mp h;rw[Zh,Zh,Os c]
theorem Ot:∀ {ds:List yQ}{r:yV},CM ds r=true->(ds.map Gy).all id=true
 |[],[],_=>rfl
 |[],_::_,h=>by unfold CM at h;cases h
 |_::_,[],h=>by unfold CM at h;cases h
 |d::ds,m::r,h=>by
  unfold CM at h;obtain⟨c,g⟩:=Z5.mp h;rw[ZA,cO,Ot g,Bool.and_true];cases d<;>first | rfl | cases c
theorem Ou:∀ {ds:List yQ},(ds.map Gy).all id=true->∃ns:yV,ds=ns.map .int
 |[],_=>⟨[],rfl⟩
 |d::ds,h=>by
  rw[ZA,cO]at h;obtain⟨g,c⟩:=Z5.mp h;obtain⟨ns,rfl⟩:=Ou c;cases d<;>first | exact⟨_::ns,rfl⟩ | cases g
def Iy:Sp:=λg H Q _=>zN (λv u=>∃p d r,Aa p H d v/\Aa p H (AN r) u/\r.length<=100/\∀b c,b=Ix d r->Ab H c->Q (.bl b) c) g
variable{P:yP}{w:yN}{K:Fgx}{mg:Str -> yW}{base:Heap}
theorem Wt(F:Df K mg "is_same_row" waD ["thing","row"])(T:Tx mg)(Z:Ch P w K mg base)(i4:Fn P w K mg base 1 "is_whole" ["thing"] FE):Fn P w K mg base 2 "is_same_row" ["thing","row"] Iy:=by
 refine F.fm (N:=["thing","row"]) AB λf dl A outer s H vs Q E L h=>?_
 refine⟨_,(Ao (Av (Bp (zB Z L (AM (cy 0) (Ax (Bl K) rfl T.b_len PySem.boot_len (Aj (cy 1))) (Ax (Bl K) rfl T.b_len PySem.boot_len (Aj (cy 1))))) (Bp (Ax (DU rfl) rfl T.b_all bM (Aj (Bh ["part"] [none] rfl (BO K (cy 0)) (AJ.of rfl) (λ_ _ _ _=>(zD 0)) (λ_ _ _ _=>A8) (λ_ _ _ _=>(zB i4 L (Aj (cy 0))))))) (BM (Dz (Su L.units0) (cy 0) (cy 1) (Ba _))))))),?_⟩;cases h;rename_i h
 .rename_i v u;obtain⟨p,d,r,rv,ru,hl,q⟩:=h;obtain⟨B,rfl,hB⟩:=Aa.ofRow ru;refine⟨B,_,rfl,.inr (Ae.of hB),B,_,rfl,.inr (Ae.of hB),p,d,rv,λb G=>⟨λc=>?_,λc=>?_⟩⟩
  .rw[c]at G;obtain⟨ds,rfl⟩:=E6 G.symm;have g:ds.length=r.length:=by
    have:=G.symm;unfold AV at this;simp only[Zj,ZU,Y0]at this;lia
   obtain⟨A,xs,rfl,O,rs⟩:=Aa.shape rv;have lx:=rs.len;refine⟨A,rfl,⟨_,Ae.of O⟩,BS (xs:=xs) (λi D I=>Ab H I/\D=(ds.take i).map λd=>V.bl (Gy d)) (by lia) ⟨Ab.refl _,rfl⟩ (λi D I h=>by rw[h.2,Y0,YW];lia) (λi D I _ h=>Ae.of (h.1 _ _ O)) (λi x D I hx h=>?_) λD I h=>?_⟩
   .obtain⟨d,hd,rd⟩:=rs.got hx;refine⟨trivial,λ_=>⟨p,d,Aa.ev (Ev.same h.1) d x rd,λb e=>⟨h.1,?_⟩⟩,λc=>by cases c⟩;rw[h.2,e,A6 hd,YM];rfl
   .intro m hm;have s2:=h.1.trans (Ab.new (o:= .lst D) hm);refine⟨m,ds.map Gy,rfl,?_,⟨λJ=>?_,λJ=>?_⟩⟩
    .rw[Af,h.2,<-lx,ZR,bA];rfl
    .obtain⟨ns,rfl⟩:=Ou J;have ex:=Ac.ints rs;subst ex;rw[Y0]at g;refine⟨A,B,ns,r,rfl,rfl,s2 _ _ O,s2 _ _ hB,g,q _ _ ?_ s2⟩;unfold Ix;exact sameInts_ints.symm
    .refine q _ _ ?_ s2;unfold Ix;dsimp only;cases z:CM ds r with
     |false=>rfl
     |true=>rw[Ot z]at J;cases J
  .refine q _ _ ?_ (Ab.refl _);rw [c] at G;unfold Ix;cases d<;>first | rfl | skip
   rename_i ds;dsimp only;cases z:CM ds r with
   |false=>rfl
   |true=>
    have:=Os z;rw[Ea (by rw[Y0];lia) (by rw[Y0];lia)]at G;cases G
end
section
variable{p:yR}{H:Hp}
theorem Aa.terms{T:TM}{v:V}(r:Aa p H T.d v):∃A C B D M c,v= .ref A/\H A=some (.tup [.ref C,.ref B,.ref D,.ref M])/\H C=some (.tup c)/\Ac p H (T.cs.map AN) c/\H B=some (.tup (T.co.map V.int))/\H D=some (.tup (T.ds.map V.int))/\H M=some (.tup [.int T.lo,.int T.hi,.int T.st]):=by
 unfold TM.d at r;obtain⟨A,xs,rfl,hA,rs⟩:=Aa.shape r;obtain⟨x,y,z,w,rfl,rx,O,rz,rw⟩:=Ac.four rs;obtain⟨C,c,rfl,hC,Z⟩:=Aa.shape rx;obtain⟨B,xb,rfl,L,rb⟩:=Aa.shape O;obtain⟨D,xd,rfl,g,rd⟩:=Aa.shape rz;obtain⟨M,xm,rfl,hM,rm⟩:=Aa.shape rw;obtain⟨m1,m2,m3,rfl,G,J,I⟩:=Ac.three rm;unfold Aa at G J I;subst G J I;rw[Ac.ints rb]at L;rw[Ac.ints rd]at g;exact⟨A,C,B,D,M,c,rfl,hA,hC,Z,L,g,hM⟩
theorem Aa.ofRow'{r:yV}{v:V}(h:Aa p H (AN r) v):∃A,v= .ref A/\H A=some (.tup (r.map V.int)):=by
 obtain⟨A,g,rfl,c,rs⟩:=Aa.shape h;rw[Ac.ints rs]at c;exact⟨A,rfl,c⟩
theorem GB{d:yQ}{lo hi:Int}(h:AV d lo hi=true):∃ds,d= .tuple ds/\lo<=(ds.length:Int)/\(ds.length:Int)<=hi:=by
 cases d with
 |tuple ds=>
  unfold AV at h;obtain⟨g,c⟩:=Z5.mp h;exact⟨ds,rfl,Z3 g,Z3 c⟩
 |_=>cases h
def Da(n:Int)(d:yQ):Bool:=AV d n n &&(match d with | .tuple es=>es.all HQ | _=>false)
theorem Wu{ns:yV}(h:∀n∈ns,0<=n):Da (ns.length:Int) (AN ns)=true:=by
 unfold Da AV;dsimp only;rw[Y0,ZE (ZS _),aj,aj,Zt];intro d hd;obtain⟨i,hi,rfl⟩:=Z8.mp hd;exact ZE (h i hi)
theorem Db{ns:yV}{i:Nat}(h:i<ns.length):Ce (ns.map V.int) (i:Int)=some (.int (ns.getD i 0)):=by
 refine DB ?_;rw[YO,Y5 h,Y7,Y5 h];rfl
def sp_terms_of:Sp:=λc H Q _=>zN (λv u=>∃p P S,PL.ok P/\SY.ok S P.bs.length/\Aa p H P.d v/\Aa p H S.d u/\ret H Q p (terms P S).d) c
def Iz:Sp:=λg H Q _=>zL (λx m=>∃p d,Aa p H d x/\m<=1000/\∀b c,b=Da m d->Ab H c->Q (.bl b) c) g
def GC:Sp:=λg H Q _=>zO (λv h x b=>∃p T n,h=((n:Nat):Int)/\n<T.ds.length/\CQ T/\Aa p H T.d v/\∀c,Ab H c->Q (.int (Do T n x b)) c) g
variable{P:yP}{w:yN}{K:Fgx}{mg:Str -> yW}{base:Heap}
theorem Ww(F:Df K mg "is_counts" wa6 ["thing","many"])(T:Tx mg)(Z:Ch P w K mg base)(i4:Fn P w K mg base 1 "is_whole" ["thing"] FE):Fn P w K mg base 2 "is_counts" ["thing","many"] Iz:=by
 refine F.fn (N:=["thing","many"]) AB (λvs H Q E h=>?_) (λf dl A outer s H vs Q E hr h=>?_)
 .cases h;rfl
 refine⟨_,(Ao (Av (Bp (zB Z hr (AM (cy 0) (cy 1) (cy 1))) (BM (Ax (DU rfl) rfl T.b_all bM (Aj (Bh ["part"] [none] rfl (BO K (cy 0)) (AJ.of rfl) (λ_ _ _ _=>(zD 0)) (λ_ _ _ _=>A8) (λ_ _ _ _=>(Bp (zB i4 hr (Aj (cy 0))) (BM (Dz Mx (cy 0) Ag (Ba _)))))))))))),?_⟩;cases h;rename_i h
 .rename_i x m;obtain⟨p,d,r,J,q⟩:=h;refine⟨p,d,r,λb hb=>⟨λc=>?_,λc=>?_⟩⟩
  .have I:AV d m m=true:=by rw [<-hb];exact c
   obtain⟨es,rfl,g1,g2⟩:=GB I;obtain⟨A,xs,rfl,hA,rs⟩:=Aa.shape r;have lx:=rs.len;refine⟨A,rfl,⟨_,Ae.of hA⟩,BS (xs:=xs) (λi G D=>Ab H D/\G=(es.take i).map λe=>V.bl (HQ e)) (by lia) ⟨Ab.refl _,rfl⟩ (λi G D h=>by rw[h.2,Y0,YW];lia) (λi G D _ h=>Ae.of (h.1 _ _ hA)) (λi x G D hx h=>?_) λG D h=>?_⟩
   .obtain⟨O,he,g⟩:=rs.got hx;refine⟨trivial,λ_=>⟨p,O,Aa.ev (Ev.same h.1) _ _ g,λb1 e1=>⟨λL=>?_,λL=>?_⟩⟩,λc=>by cases c⟩
    .subst L;cases O<;>first | cases e1 | skip
     rename_i i';unfold Aa at g;subst g;refine⟨h.1,?_⟩;rw[A6 he,YM,h.2];rfl
    .subst L;refine⟨h.1,?_⟩;rw[A6 he,YM,h.2];cases O<;>first | rfl | cases e1
   .intro m2 hm;refine⟨m2,es.map HQ,rfl,by rw[Af,h.2,YS (by lia),bA];rfl,?_⟩;refine q _ _ ?_ (h.1.trans (Ab.new hm));unfold Da;rw[I];dsimp only;rw[ci];rfl
  .have I:AV d m m=false:=by rw [<-hb];exact c
   exact q _ _ (by unfold Da;rw[I];rfl) (Ab.refl _)
theorem Wx(F:Df K mg "floor_at" waP ["terms","hour","price","behind"])(T:Tx mg):Fn P w K mg base 1 "floor_at" ["terms","hour","price","behind"] GC:=by
 refine F.fn (N:=["terms","hour","price","behind","caps","coals","draws","low","high","start","spared","kept"]) AB (λvs H Q E h=>?_) (λf dl A outer s H vs Q E hr h=>?_)
 .cases h;rfl
 refine⟨_,(Ak (Bo (cy 0) (AL K (n:=4) (Ai (zD 4) (Ai (zD 5) (Ai (zD 6) (Ai (AL K (n:=3) (Ai (zD 7) (Ai (zD 8) (Ai (zD 9) AK)))) AK)))))) (Ak (zE 10 (Ax (Hv rfl) rfl T.b_sum aW (Aj (Bh ["cap","coal","price"] [none,none,some 2] rfl (Hu P w K rfl T.b_zip (As (AH (Bw K) (cy 4) (cy 1) (λ_ _=>rfl)) (cy 5))) (AJ.of rfl) (λ_ _ _ _=>(AL K (n:=2) (Ai (zD 0) (Ai (zD 1) AK)))) (λ_ _ _ _=>(Fi (Bi EL (cy 1) (cy 2) (Ba _)))) (λ_ _ _ _=>(Ar DT (cy 0) (Ar BL (cy 1) (cy 2)))))))) (Ak (zE 11 (Ar DT (Ar BL (cy 2) (cy 3)) (Fm (Bi Mw (cy 2) (cy 3) (Ba _)) (cy 7) (cy 8)))) (Ao (Av (Ar Bs (Ar Bs (Ar DT (cy 2) (AH (Bw K) (cy 6) (cy 1) (λ_ _=>rfl))) (cy 10)) (cy 11))))))),?_⟩;cases h;rename_i h
 .rename_i v hh x b;obtain⟨p,T,n,rfl,hn,ok,r,q⟩:=h;obtain⟨A,C,B,D,M,xc,rfl,hA,hC,rc,hB,hD,hM⟩:=Aa.terms r;have l8:=ok.ok.l8;have lc:=ok.ok.lc;have o4:=ok.o;have g:T.cs[n]? =some (T.cs.getD n []):=by rw[Y7,Y5 (by lia)];rfl
  obtain⟨lr,cr⟩:=ok.c _ (YU g);obtain⟨y,hy,ry⟩:=rc.get (i:=n) (d:=AN (T.cs.getD n [])) (by rw[YO,g];rfl);obtain⟨Cn,rfl,I⟩:=Aa.ofRow' ry;have J:∀G,Ab H G->Q (.int (x * T.ds.getD n 0+spared (T.cs.getD n []) T.co x+Fu T.lo T.hi x b)) G:=q;generalize T.cs.getD n []=row at g lr cr I J;refine⟨A,_,rfl,Ae.of hA,rfl,_,_,rfl,_,_,rfl,_,_,rfl,_,_,rfl,M,_,rfl,Ae.of hM,rfl,_,_,rfl,_,_,rfl,_,_,rfl,rfl,rfl,?_⟩;refine⟨C,xc,(n:Int),.ref Cn,rfl,rfl,Ae.of hC,DB hy,Cn,B,rfl,⟨_,Ae.of I⟩,⟨_,Ae.of hB⟩,walk_zip (xs:=row.map V.int) (ys:=T.co.map V.int) (λi L G=>Ab H G/\∃ns:yV,L=ns.map V.int/\ns.length<=i/\ns.sum=(((row.zip T.co).take i).map (D0 x)).sum) (by rw[Y0];lia) (by rw[Y0,Y0];exact lr) ⟨Ab.refl _,[],rfl,Y4 _,rfl⟩
    (λi L G h=>by obtain⟨_,ns,rfl,Z,_⟩:=h;rw[Y0];exact Z) (λi L G h=>⟨Ae.of (h.1 _ _ I),Ae.of (h.1 _ _ hB)⟩) (λi xx yy L G T' hx hy h hT=>?_) λL G h=>?_⟩
  .rw [YO] at hx hy;obtain⟨m,O,rfl⟩:=Zm.mp hx;obtain⟨k,hk,rfl⟩:=Zm.mp hy;obtain⟨s0,ns,rfl,Z,hs⟩:=h;have s2:=s0.trans (Ab.new (o:= .tup [.int m,.int k]) hT);have hz:(row.zip T.co)[i]? =some (m,k):=by rw [bG];exact⟨O,hk⟩
   have bm:=cr m (YU O);refine⟨T',_,rfl,Ae.of Af,rfl,_,_,rfl,_,_,rfl,rfl,⟨rfl,trivial⟩,λc=>?_,λc=>?_⟩
   .refine⟨.inl ⟨by lia,by lia⟩,s2,ns++[m *(k-x)],by rw [YM];rfl,by rw [Z7];simp;exact Z,?_⟩;rw [A6 hz,YM,bR,bR,hs];have e:D0 x (m,k)=m *(k-x):=by unfold D0;exact YR (Z3 c)
    simp[e]
   .refine⟨s2,ns,rfl,by lia,?_⟩;rw [A6 hz,YM,bR,hs];have e:D0 x (m,k)=0:=by unfold D0;exact YN (aa c)
    simp[e]
  .obtain⟨s0,ns,rfl,Z,hs⟩:=h;intro m O;have s2:=s0.trans (Ab.new (o:= .lst (ns.map V.int)) O);have es:ns.sum=spared row T.co x:=by rw [hs,YS (by rw [eM,Y0];lia)];rfl
   refine⟨m,ns,rfl,Af,?_⟩;rw[es];have h0:=ok.l0;have h1:=ok.l4;have h2:=ok.h0;have h3:=ok.h4;have bd:=ok.d _ (getD_mem (d:=0) hn);refine⟨λc=>⟨.inr ⟨by lia,by lia⟩,D,_,(n:Int),.int (T.ds.getD n 0),rfl,rfl,Ae.of (s2 _ _ hD),Db hn,.inr ⟨by lia,by lia⟩,?_⟩,λc=>⟨.inr ⟨by lia,by lia⟩,D,_,(n:Int),.int (T.ds.getD n 0),rfl,rfl,Ae.of (s2 _ _ hD),Db hn,.inr ⟨by lia,by lia⟩,?_⟩⟩
   .have e:Fu T.lo T.hi x b=(x-b) * T.lo:=by unfold Fu;rw [YR (Z3 c)]
    rw[e]at J;exact J _ s2
   .have e:Fu T.lo T.hi x b=(x-b) * T.hi:=by unfold Fu;rw [YN (aa c)]
    rw[e]at J;exact J _ s2
theorem zad:Aw ["plant","story","prices","terms","low","high","start","behind","parts"] ["plant","story","prices"] (Am waO):=AB
end
section
variable{p:yR}{H:Hp}{ks:KL}
theorem Aa.tailShape{f:Int}{g:yV}{v:V}(r:Aa p H (EX f g) v):∃a b,v= .ref a/\H a=some (.tup [.int f,.ref b])/\H b=some (.tup (g.map V.int)):=by
 obtain⟨a,L,rfl,J,rs⟩:=Aa.shape r;obtain⟨x,y,rfl,D,G⟩:=Ac.two rs;unfold Aa at D;subst D;obtain⟨b,O,rfl,c,I⟩:=Aa.shape G;rw[Ac.ints I]at c;exact⟨a,b,rfl,J,c⟩
def gR(r:Int×yV):Int×List yQ:=(r.1,[AN r.2])
theorem Ov:∀ {as bs:yV},AN as=AN bs->as=bs
 |[],[],_=>rfl
 |a::as,b::bs,h=>by
  injection h with h
  injection h with c g
  injection c with c
  rw[c,Ov (Zv PyData.tuple g)]
 |[],_::_,h=>by injection h with h;cases h
 |_::_,[],h=>by injection h with h;cases h
theorem Wy{r q:Int×yV}(h:gR r=gR q):r=q:=by
 unfold gR at h;injection h with D g
 injection g with g _
 exact Prod.ext D (Ov g)
noncomputable def pickR (c:List (Int×yV)):Int×yV:=Classical.epsilon λr=>Gn .Gt (c.map gR)=some (gR r)
theorem Ow{c:List (Int×yV)}{r:Int×yV}(h:Gn .Gt (c.map gR)=some (gR r)):pickR c=r:=
 Wy (Y9 ((Classical.epsilon_spec (p:=λr=>Gn .Gt (c.map gR)=some (gR r)) ⟨r,h⟩).symm.trans h))
abbrev DI:=List (Int×Int×yV)
def IA(L:DI)(e:Int×Int×yV):DI:=if L.any (λq=>decide (q.1=e.1)) then L.map (λq=>if q.1=e.1 then e else q) else L++[e]
def Ey(T:TM)(n:Nat)(x:Int)(L:DI):List (Int×yV):=L.map λe=>(Do T n x e.1+e.2.1,x::e.2.2)
noncomputable def foldT (T:TM) (n:Nat) (L:DI) (xs:yV):DI:=xs.foldl (λa x=>IA a (x,pickR (Ey T n x L))) []
noncomputable def tailsL (T:TM):Nat->DI
 |0=>[(0,0,[])]
 |i+1=>foldT T (T.ds.length-(i+1)) (tailsL T i) (0::T.co)
def E9(T:TM)(L:DI):List (Int×yV):=L.map λe=>(e.2.1-e.1 * T.st,e.2.2)
noncomputable def highest (T:TM):Int×yV:=pickR (E9 T (tailsL T T.ds.length))
structure Tw(p:yR)(H:Hp)(m:Nat)(q:AE×V)(e:Int×Int×yV):Prop where
 k:q.1= .inl e.1
 b:0<=e.1/\e.1<=9
 f:e.2.1.natAbs<=3000 * m
 l:e.2.2.length<=m
 r:Aa p H (EX e.2.1 e.2.2) q.2
 p9:∀x∈e.2.2,0<=x/\x<=9
def TW(p:yR)(H:Hp)(m:Nat)(kvs:KL)(L:DI):Prop:=kvs≠ []/\kvs.length<=5/\Paired (Tw p H m) kvs L
theorem GE{c g:Type}{F:c->g->Prop}:∀ {as:List c}{bs:List g}{i:Nat}{a:c},Paired F as bs->as[i]? =some a->∃b,bs[i]? =some b/\F a b
 |_,_,0,_,.cons h _,e=>by cases e;exact⟨_,rfl,h⟩
 |_,_,i+1,_,.cons _ t,e=>GE (i:=i) t e
 |_,_,_,_,.nil,e=>by simp at e
theorem Ox{H':Hp}{m:Nat}{L:DI}(h:Paired (Tw p H m) ks L)(s:Ab H H'):Paired (Tw p H' m) ks L:=
 h.mono λ_ _ t=>⟨t.k,t.b,t.f,t.l,Aa.ev (Ev.same s) _ _ t.r,t.p9⟩
theorem Wz{m:Nat}{L:DI}{x:Int}{v:V}{e:Int×Int×yV}(h:Paired (Tw p H m) ks L)(t:Tw p H m (.inl x,v) e):Paired (Tw p H m) (CK ks (.inl x) v) (IA L e):=by
 have ex:e.1=x:=by have:=t.k;injection this with z;exact z.symm
 have D:ks.any (λq=>decide (q.1= .inl x))=L.any (λq=>decide (q.1=e.1)):=by
  clear t
  induction h with
  |nil=>rfl
  |cons a _ ih=>rw[aJ,aJ,ih,a.k,ex];congr 1;simp
 unfold CK IA;rw[D];split
 .clear D;rename_i g;clear g
  induction h with
  |nil=>exact .nil
  |@cons a b l1 l2 c _ ih=>
   rw[ZA,ZA];refine .cons ?_ ih
   by_cases z:b.1=e.1
   .rw[YR z,YR (by rw[c.k,z,ex]),c.k,z,ex];exact t
   .rw[YN z,YN (λy=>z (by rw[c.k]at y;injection y with y;rw[y,ex]))];exact c
 .exact h.snoc t
def IB:Sp:=λI H Q _=>zP (λv h d=>∃p T n o g m L,CQ T/\h=((n:Nat):Int)/\n<T.ds.length/\Aa p H T.d v/\H d=some (.frz o (.dK g))/\m<=8/\TW p H m g L/\∀G D J c,Ab H D->D G=some (.frz J (.dK c))->TW p D (m+1) c (foldT T n L (0::T.co))->Q (.ref G) D) I
def GF:Sp:=λg H Q _=>zH (λv=>∃p T,CQ T/\Aa p H T.d v/\∀u c,Ab H c->Aa p c (EX (highest T).1 (highest T).2) u->(highest T).1.natAbs<=100000->(highest T).2.length<=8->(∀x∈(highest T).2,0<=x/\x<=9)->Q u c) g
variable{P:yP}{w:yN}{K:Fgx}{mg:Str -> yW}{base:Heap}
theorem WA(F:Df K mg "tails_from" waR ["terms","hour","tails"])(T:Tx mg)(l7:Fn P w K mg base 1 "floor_at" ["terms","hour","price","behind"] GC):Fn P w K mg base 2 "tails_from" ["terms","hour","tails"] IB:=by
 refine F.fn (N:=["terms","hour","tails","caps","coals","draws","main"]) AB (λvs H Q E h=>?_) (λf dl A outer s H vs Q E hr h=>?_)
 .cases h;rfl
 refine⟨_,(Ak (Bo (cy 0) (AL K (n:=4) (Ai (zD 3) (Ai (zD 4) (Ai (zD 5) (Ai (zD 6) AK)))))) (Ao (Av (T8 ["price","terms","hour","tails"] [none,some 0,some 1,some 2] rfl (BO K (Ar F9 (AT (Aj Ag)) (cy 4))) (AJ.of rfl) (λ_ _ _ _=>(zD 0)) (λ_ _ _ _=>A8) (λ_ _ _ _=>(cy 0)) (λ_ _ _ _=>(Ax (Kt BOp.mx rfl hr) rfl T.b_max eN (Aj (Bh ["behind","floor","prices","terms","hour","price"] [none,none,none,some 1,some 2,some 0] rfl (NI (cy 3)) (AJ.of rfl) (λ_ _ _ _=>(AL K (n:=2) (Ai (zD 0) (Ai (AL K (n:=2) (Ai (zD 1) (Ai (zD 2) AK))) AK)))) (λ_ _ _ _=>A8) (λ_ _ _ _=>(AT (As (Ar Bs (zB l7 hr (B3 (cy 3) (cy 4) (cy 5) (cy 0))) (cy 1)) (Ar F9 (AT (Aj (cy 5))) (cy 2))))))))))))),?_⟩;cases h;rename_i h
 .rename_i v hh d;obtain⟨p,T,n,o,Z,m,L,fl,rfl,hn,r,hd,m8,⟨ne,l5,I⟩,q⟩:=h;have lL:=I.length;obtain⟨A,C,B,D,M,xc,rfl,hA,hC,rc,hB,hD,hM⟩:=Aa.terms r;have o4:=fl.o;have l8:=fl.ok.l8;refine⟨A,_,rfl,Ae.of hA,rfl,_,_,rfl,_,_,rfl,_,_,rfl,_,_,rfl,rfl,?_⟩;refine λt1 H1 s1 k1=>⟨t1,B,_,_,rfl,rfl,k1,s1 _ _ hB,by rw[Y0];show 1+_<=1000;lia,λt2 H2 s2 k2=>?_⟩
  have ek:[V.int 0]++T.co.map V.int=(0::T.co).map V.int:=rfl;rw[ek]at k2;have j3:=s1.trans s2;have lc:(0::T.co).length<=5:=by rw[Zh];lia
  refine⟨t2,rfl,⟨_,Ae.of k2⟩,Ui (xs:=(0::T.co).map V.int) (λi ks H'=>Ab H2 H'/\ks.length<=i/\(i=0\/ks≠ [])/\Paired (Tw p H' (m+1)) ks (foldT T n L ((0::T.co).take i))) (by rw[Y0];lia) ⟨Ab.refl _,Z6 _,.inl rfl,(by exact .nil)⟩ (λi ks H' h=>h.2.1) (λi ks H' _ h=>Ae.of (h.1 _ _ k2)) (λi x ks H' hx h=>?_) λks H' h=>?_⟩
  .rw[YO]at hx;obtain⟨c,j5,rfl⟩:=Zm.mp hx;have g:0<=c/\c<=9:=by
    rcases YY.mp (YU j5) with rfl | z
    .lia
    .have:=fl.o1 c z;lia
   obtain⟨O,lk,_,one⟩:=h;have s0:=j3.trans O;have r0:=Aa.ev (Ev.same (p:=p) s0) _ _ r;refine⟨⟨rfl,rfl,rfl,trivial⟩,λ_=>?_,λz=>by cases z⟩;refine⟨d,o,Z,rfl,s0 _ _ hd,NJ (λj zs G=>Ab H' G/\∃fs:List (Int×List yQ),Ac p G (fs.map λq=> .tuple (.int q.1::q.2)) zs/\fs=((Ey T n c L).take j).map gR) (by lia) ⟨Ab.refl _,[],.nil,rfl⟩ (λj zs G h=>by obtain⟨_,fs,rs,rfl⟩:=h;have:=rs.len;rw[Y0,Y0,YW]at this;lia) (λj zs G h=>h.1 _ _ (s0 _ _ hd)) (λj q0 zs G T' hq h hT=>?_) λzs G h=>?_⟩
   .obtain⟨s3,fs,rs,rfl⟩:=h;obtain⟨e,he,tw⟩:=GE I hq;obtain⟨b,f,ps⟩:=e;obtain⟨eb,hb,hf,l9,rq⟩:=tw;obtain⟨kk,y⟩:=q0;have k9:kk= .inl b:=eb;subst k9;have sT:=Ab.new (o:= .tup [.int b,y]) hT;have s4:=s3.trans sT;have i9:=s0.trans s4;obtain⟨l,bb,ey,hl,j8⟩:=Aa.tailShape (Aa.ev (Ev.same i9) _ _ rq)
    replace ey:y= .ref l:=ey
    subst ey;refine⟨T',_,rfl,Ae.of Af,rfl,_,_,rfl,_,_,rfl,l,_,rfl,Ae.of hl,rfl,_,_,rfl,_,_,rfl,rfl,rfl,⟨rfl,rfl,rfl,trivial⟩,λ_=>?_,λz=>by cases z⟩;have r4:=Aa.ev (Ev.same (p:=p) i9) _ _ r;refine⟨p,T,n,rfl,hn,fl,r4,λH5 s5=>λt6 H6 s6 k6=>⟨t6,bb,_,_,rfl,rfl,k6,(s5.trans s6) _ _ j8,by rw[Y0];show 1+_<=1000;lia,λt7 H7 s7 k7=>λt8 H8 s8 k8=>?_⟩⟩;have j9:[V.int c]++ps.map V.int=(c::ps).map V.int:=rfl;rw[j9]at k7;have i6:=s5.trans (s6.trans (s7.trans s8));have j4:(Ey T n c L)[j]? =some (Do T n c b+f,c::ps):=by unfold Ey;rw[YO,he];rfl
    refine⟨s4.trans i6,_,?_,rfl⟩;rw[A6 j4,YM,YM];exact Ac.snoc (Ac.ev (Ev.same (sT.trans i6)) _ _ rs) (Aa.tup k8 (.cons Aa.int (.cons (Aa.row (s8 _ _ k7)) .nil)))
   .obtain⟨s3,fs,rs,rfl⟩:=h;intro L1 hL;have nL:=Ab.new (o:= .lst zs) hL;have lr:(Ey T n c L).length=Z.length:=by unfold Ey;rw [Y0,lL]
    rw[<-lr,ZR]at rs;have i8:=Ac.ev (Ev.same (p:=p) nL) _ _ rs;refine⟨p,L1,_,zs,rfl,Af,i8,λz=>ne (Zr (by rw[<-lr,<-Y0 (f:=gR),z];rfl)),λq1 h1 q2 h2=>?_,λi' fq v i5 hv i4=>?_⟩
    .obtain⟨_,_,rfl⟩:=Z8.mp h1;obtain⟨_,_,rfl⟩:=Z8.mp h2;exact .cons (.row _ _) .nil
    .rw[YO]at i5;obtain⟨r1,J,rfl⟩:=Zm.mp i5;have ep:=Ow i4;obtain⟨v',j0,rv⟩:=i8.get (i:=i') (d:=EX r1.1 r1.2) (by rw[YO,YO,J];rfl);rw[hv]at j0;cases j0;have nm:CK ks (.inl c) v≠ []:=λz=>by
      have:=Uq (ks:=ks) (k:= .inl c) (v:=v);rw[z]at this;cases this
     refine⟨.inl c,rfl,O.trans (s3.trans nL),YV (NK _ _ _) (by lia),.inr nm,?_⟩;have bd:r1.1.natAbs<=3000 *(m+1)/\r1.2.length<=m+1/\∀x∈r1.2,0<=x/\x<=9:=by
      unfold Ey at J;rw[YO]at J;obtain⟨e,he,rfl⟩:=Zm.mp J;obtain⟨q0,j6⟩:∃q0,Z[i']? =some q0:=⟨_,Y5 (by have:=(Y3.mp he).1;lia)⟩;obtain⟨e',i7,tw⟩:=GE I j6;rw[he]at i7;cases i7;have:=NH fl (h:=n) (p:=c) (b:=e.1) (B:=9) g.1 g.2 tw.b.1 tw.b.2;have hf:=tw.f;have hl:=tw.l;exact⟨by show(Do T n c e.1+e.2.1).natAbs<=_;lia,by show(c::e.2.2).length<=_;rw[Zh];lia,λx hx=>(YY.mp hx).elim (λz=>by rw[z];exact g) (tw.p9 x)⟩
     rw[A6 j5];unfold foldT;rw[fg];show Paired _ _ (IA (foldT T n L ((0::T.co).take i)) (c,pickR (Ey T n c L)));rw[ep];exact Wz (Ox one (s3.trans nL)) ⟨rfl,g,bd.1,bd.2.1,rv,bd.2.2⟩
  .obtain⟨O,lk,j7,one⟩:=h;intro d' o' l6;rw[Y0]at lk one;rw[ZR]at one;have nd:=Ab.new (o:= .frz o' (.dK ks)) l6;exact q d' _ o' ks (j3.trans (O.trans nd)) Af ⟨j7.resolve_left (by simp),by lia,Ox one nd⟩
theorem WB(F:Df K mg "highest_floor" waQ ["terms"])(T:Tx mg)(k9:Fn P w K mg base 2 "tails_from" ["terms","hour","tails"] IB):Fn P w K mg base 3 "highest_floor" ["terms"] GF:=by
 refine F.fm (N:=["terms","caps","coals","draws","low","high","start","tails","hour"]) AB λf dl A outer s H vs Q E hr h=>?_
 refine⟨_,(Ak (Bo (cy 0) (AL K (n:=4) (Ai (zD 1) (Ai (zD 2) (Ai (zD 3) (Ai (AL K (n:=3) (Ai (zD 4) (Ai (zD 5) (Ai (zD 6) AK)))) AK)))))) (Ak (zE 7 (Ug (AT (As Ag (AT BE))))) (Ak (Cm Zq rfl (Ue rfl T.b_reversed rfl T.b_range (Aj (Ax (Bl K) rfl T.b_len PySem.boot_len (Aj (cy 3))))) (zD 8) (Ao (zE 7 (zB k9 hr (AM (cy 0) (cy 8) (cy 7)))))) (Ao (Av (Ax (Kt BOp.mx rfl hr) rfl T.b_max eN (Aj (Bh ["price","floor","prices","start"] [none,none,none,some 6] rfl (NI (cy 7)) (AJ.of rfl) (λ_ _ _ _=>(AL K (n:=2) (Ai (zD 0) (Ai (AL K (n:=2) (Ai (zD 1) (Ai (zD 2) AK))) AK)))) (λ_ _ _ _=>A8) (λ_ _ _ _=>(AT (As (Ar BL (cy 1) (Ar DT (cy 0) (cy 3))) (cy 2)))))))))))),?_⟩;cases h;rename_i h
 .rename_i v;obtain⟨p,T,fl,r,q⟩:=h;obtain⟨A,C,B,D,M,xc,rfl,hA,hC,rc,hB,hD,hM⟩:=Aa.terms r;have l8:=fl.ok.l8;refine⟨A,_,rfl,Ae.of hA,rfl,_,_,rfl,_,_,rfl,_,_,rfl,_,_,rfl,M,_,rfl,Ae.of hM,rfl,_,_,rfl,_,_,rfl,_,_,rfl,rfl,rfl,?_⟩;refine λt1 H1 s1 k1=>λL H2 s2 k2=>λd0 o0 j7=>?_
  have n0:=Ab.new (o:= .frz o0 (.dK [(.inl 0,.ref L)])) j7;have r2:Aa p H2 (EX 0 []) (.ref L):=Aa.tup k2 (.cons Aa.int (.cons (Aa.tup (s2 _ _ k1) .nil) .nil));have j3:TW p (upd H2 d0 (.frz o0 (.dK [(.inl 0,.ref L)]))) 0 [(.inl 0,.ref L)] (tailsL T 0):=⟨by simp,by show 1<=5;decide,.cons ⟨rfl,by show(0:Int)<=0/\(0:Int)<=9;decide,Y4 _,Y4 _,Aa.ev (Ev.same n0) _ _ r2,λx hx=>(by cases hx)⟩ .nil⟩;have J:=s1.trans (s2.trans n0);have i9:upd H2 d0 (.frz o0 (.dK [(.inl 0,.ref L)])) d0=some (.frz o0 (.dK [(.inl 0,.ref L)])):=Af;generalize upd H2 d0 (.frz o0 (.dK [(.inl 0,.ref L)]))=H3 at J j3 i9 ⊢;refine⟨D,_,rfl,.inr (Ae.of (J _ _ hD)),_,rfl,by lia,by rw[Y0];lia,R8 (λi σ H'=>∃x8 d o c,σ=[some (.ref A),some (.ref C),some (.ref B),some (.ref D),some (.int T.lo),some (.int T.hi),some (.int T.st),some (.ref d),x8]/\i<=T.ds.length/\Ab H H'/\H' d=some (.frz o (.dK c))/\TW p H' i c (tailsL T i)) ⟨_,d0,o0,_,rfl,Z6 _,J,i9,j3⟩ (λi σ H' hi h=>?_) fun σ H' h=>?_⟩
  .obtain⟨x8,d,o,c,rfl,l9,s',kd,ta⟩:=h;have o9:i<T.ds.length:=by rw [Y0] at hi;lia
   refine⟨p,T,T.ds.length-(i+1),o,c,i,_,fl,by rw[Y0];lia,by lia,Aa.ev (Ev.same s') _ _ r,kd,by lia,ta,λd' H4 o' i6 s4 l6 l7=>⟨_,d',o',i6,rfl,by lia,s'.trans s4,l6,l7⟩⟩
  .obtain⟨x8,d,o,c,rfl,l9,s',kd,ta⟩:=h;obtain⟨ne,l5,g⟩:=ta;have e0:((T.ds.map V.int).length:Int).toNat=T.ds.length:=by rw [Y0];lia
   rw[e0]at g;have lL:=g.length;have h0:=fl.s0;have h4:=fl.s4;refine⟨d,o,c,rfl,kd,NJ (λj Z G=>Ab H' G/\∃fs:List (Int×List yQ),Ac p G (fs.map λq=> .tuple (.int q.1::q.2)) Z/\fs=((E9 T (tailsL T T.ds.length)).take j).map gR) (by lia) ⟨Ab.refl _,[],.nil,rfl⟩ (λj Z G h=>by obtain⟨_,fs,rs,rfl⟩:=h;have:=rs.len;rw[Y0,Y0,YW]at this;lia) (λj Z G h=>h.1 _ _ kd) (λj q0 Z G T' hq h hT=>?_) λZ G h=>?_⟩
   .obtain⟨J,fs,rs,rfl⟩:=h;obtain⟨e,he,tw⟩:=GE g hq;obtain⟨b,f,ps⟩:=e;obtain⟨eb,hb,hf,o8,rq⟩:=tw;obtain⟨kk,y⟩:=q0;have j8:kk= .inl b:=eb;subst j8;obtain⟨l,bb,ey,j9,i4⟩:=Aa.tailShape (Aa.ev (Ev.same J) _ _ rq)
    replace ey:y= .ref l:=ey
    subst ey;have sT:=Ab.new (o:= .tup [.int b,.ref l]) hT;have s4:=J.trans sT;have hl:=sT _ _ j9;have j6:=sT _ _ i4;refine⟨T',_,rfl,Ae.of Af,rfl,_,_,rfl,_,_,rfl,l,_,rfl,Ae.of hl,rfl,_,_,rfl,_,_,rfl,rfl,rfl,⟨rfl,trivial⟩,λ_=>?_,λz=>by cases z⟩;refine⟨.inr ⟨cW (by decide) h0,bL h4 (by decide)⟩,λt8 H8 s8 k8=>?_⟩;have j4:(E9 T (tailsL T T.ds.length))[j]? =some (f-b * T.st,ps):=by unfold E9;rw[YO,he];rfl
    refine⟨s4.trans s8,_,?_,rfl⟩;rw[A6 j4,YM,YM];exact Ac.snoc (Ac.ev (Ev.same (sT.trans s8)) _ _ rs) (Aa.tup k8 (.cons Aa.int (.cons (Aa.row (s8 _ _ j6)) .nil)))
   .obtain⟨J,fs,rs,rfl⟩:=h;intro L1 hL;have nL:=Ab.new (o:= .lst Z) hL;have lr:(E9 T (tailsL T T.ds.length)).length=c.length:=by unfold E9;rw [Y0,lL]
    rw[<-lr,ZR]at rs;have i8:=Ac.ev (Ev.same (p:=p) nL) _ _ rs;refine⟨p,L1,_,Z,rfl,Af,i8,λz=>ne (Zr (by rw[<-lr,<-Y0 (f:=gR),z];rfl)),λq1 h1 q2 h2=>?_,λi' fq v i5 hv O=>?_⟩
    .obtain⟨_,_,rfl⟩:=Z8.mp h1;obtain⟨_,_,rfl⟩:=Z8.mp h2;exact .cons (.row _ _) .nil
    .rw[YO]at i5;obtain⟨r1,I,rfl⟩:=Zm.mp i5;have ep:highest T=r1:=Ow O;obtain⟨v',j0,rv⟩:=i8.get (i:=i') (d:=EX r1.1 r1.2) (by rw[YO,YO,I];rfl);rw[hv]at j0;cases j0;have bd:r1.1.natAbs<=100000/\r1.2.length<=8/\∀x∈r1.2,0<=x/\x<=9:=by
      unfold E9 at I;rw[YO]at I;obtain⟨e,he,rfl⟩:=Zm.mp I;obtain⟨q0,j5⟩:∃q0,c[i']? =some q0:=⟨_,Y5 (by have:=(Y3.mp he).1;lia)⟩;obtain⟨e',i7,tw⟩:=GE g j5;rw[he]at i7;cases i7;have hb:=tw.b;have:=Gj (x:=e.1) (y:=T.st) (a:=9) (b:=100) (by lia) (by lia);have hf:=tw.f;have hl:=tw.l;exact⟨by show(e.2.1-e.1 * T.st).natAbs<=_;lia,by show e.2.2.length<=_;lia,tw.p9⟩
     refine q _ _ (s'.trans (J.trans nL)) ?_ ?_ ?_ ?_
     .rw[ep];exact rv
     .rw[ep];exact bd.1
     .rw[ep];exact bd.2.1
     .rw[ep];exact bd.2.2
end
section
variable{p:yR}{H:Hp}
theorem Aa.intE{a b:Int}(h:b=a):Aa p H (.int a) (.int b):=by subst h;exact Aa.int
theorem Aa.pair{q:Nat×Nat}{v:V}(r:Aa p H (pD q) v):∃A,v= .ref A/\H A=some (.tup [.int q.1,.int q.2]):=by
 obtain⟨A,G,rfl,D,rs⟩:=Aa.shape r;obtain⟨x,y,rfl,g,c⟩:=Ac.two rs;unfold Aa at g c;subst g c;exact⟨A,rfl,D⟩
def GG:Sp:=λg H Q _=>zN (λv u=>∃p T f l,TM.ok T/\Aa p H T.d v/\Aa p H (pD (f,l)) u/\f<=l/\l<T.ds.length/\∀c,Ab H c->Q (.bl (C5 T f l)) c) g
def KJ:Sp:=λc H Q _=>zH (λv=>∃p T,TM.ok T/\Aa p H T.d v/\ret H Q p (ES (Bz T))) c
def IC:Sp:=λg H Q _=>zH (λv=>∃p T,CQ T/\Aa p H T.d v/\(Bz T≠none->∀c,Ab H c->Q .non c)/\(Bz T=none->(highest T).1.natAbs<=100000->∀c,Ab H c->Q (.int (highest T).1) c)) g
variable{P:yP}{w:yN}{K:Fgx}{mg:Str -> yW}{base:Heap}
theorem WD(F:Df K mg "is_too_much" waF ["terms","stretch"])(T:Tx mg):Fn P w K mg base 1 "is_too_much" ["terms","stretch"] GG:=by
 refine F.fm (N:=["terms","stretch","caps","coals","draws","low","high","start","first","last","ahead","most"]) AB λf dl A outer s H vs Q E hr h=>?_
 refine⟨_,(Ak (Bo (cy 0) (AL K (n:=4) (Ai (zD 2) (Ai (zD 3) (Ai (zD 4) (Ai (AL K (n:=3) (Ai (zD 5) (Ai (zD 6) (Ai (zD 7) AK)))) AK)))))) (Ak (Bo (cy 1) (AL K (n:=2) (Ai (zD 8) (Ai (zD 9) AK)))) (Ak (zE 10 (Fm (Bi CB (cy 8) Ag (Ba _)) (cy 7) (cy 6))) (Ak (zE 11 (Ax (Eo rfl) rfl T.b_sum aW (Aj (Bh ["row"] [none] rfl (BO K (Dj wa0 (cy 2) (Co (cy 8)) (Co (Ar Bs (cy 9) Ag)))) (AJ.of rfl) (λ_ _ _ _=>(zD 0)) (λ_ _ _ _=>A8) (λ_ _ _ _=>(Ax (Eo rfl) rfl T.b_sum aW (Aj (cy 0)))))))) (Ao (Av (Dz EL (Ar Bs (cy 10) (cy 11)) (Ar Bs (Ax (Eo rfl) rfl T.b_sum aW (Aj (Dj wa0 (cy 4) (Co (cy 8)) (Co (Ar Bs (cy 9) Ag))))) (cy 5)) (Ba _)))))))),?_⟩;cases h;rename_i h
 .rename_i v u;obtain⟨p,T,f,l,ok,r,ru,G,hl,q⟩:=h;obtain⟨A,C,B,D,M,xc,rfl,hA,hC,rc,hB,hD,hM⟩:=Aa.terms r;obtain⟨U,rfl,hU⟩:=Aa.pair ru;have l8:=ok.l8;have lc:=ok.lc;have lx:=rc.len;rw[Y0]at lx;refine⟨A,_,rfl,Ae.of hA,rfl,_,_,rfl,_,_,rfl,_,_,rfl,_,_,rfl,M,_,rfl,Ae.of hM,rfl,_,_,rfl,_,_,rfl,_,_,rfl,rfl,rfl,?_⟩;refine⟨U,_,rfl,Ae.of hU,rfl,_,_,rfl,_,_,rfl,rfl,rfl,⟨λc=>?_,λc=>?_⟩⟩
  .have ea:(if f=0 then T.st else T.hi)=T.st:=by
    rw[Dy]at c;have:(f:Int)=0:=by simpa using c
    rw[YR (by lia)]
   refine⟨(f:Int),rfl,(l:Int)+1,rfl,C,xc,rfl,hC,λR H1 s1 J=>?_⟩;rw[HE G (by lia)]at J;have Z:=Ac.part (Ac.ev (Ev.same s1) _ _ rc) f l;rw[HF]at Z;have lp:=Ni (xs:=T.cs) G (by lia);have lq:=Z.len;rw[Y0]at lq;refine⟨R,rfl,⟨_,Ae.of J⟩,BS (xs:=part xc f l) (λi g I=>Ab H1 I/\g=(((part T.cs f l).take i).map List.sum).map V.int) (by lia) ⟨Ab.refl _,rfl⟩ (λi g I h=>by rw[h.2,Y0,Y0,YW];lia) (λi g I _ h=>Ae.of (h.1 _ _ J)) (λi x g I hx h=>?_) λg H2 h=>?_⟩
   .obtain⟨r',O,rr⟩:=Ac.mapGot Z hx;obtain⟨ra,rfl,L⟩:=Aa.ofRow' rr;refine⟨trivial,λ_=>⟨ra,r',rfl,.inr (h.1 _ _ L),h.1,?_⟩,λz=>by cases z⟩;rw[A6 O,YM,YM,h.2];rfl
   .intro m hm;have s2:=s1.trans (h.1.trans (Ab.new (o:= .lst g) hm));refine⟨m,(part T.cs f l).map List.sum,rfl,.inl ?_,?_⟩
    .rw[Af,h.2,YS (by lia)]
    refine⟨(f:Int),rfl,(l:Int)+1,rfl,D,T.ds.map V.int,rfl,s2 _ _ hD,λR2 H3 s3 k3=>?_⟩;rw[HE G (by rw[Y0];exact hl),HF]at k3;refine⟨R2,part T.ds f l,rfl,.inr k3,?_⟩;have:=q H3 (s2.trans s3);unfold C5 at this;rw[ea]at this;exact this
  .have ea:(if f=0 then T.st else T.hi)=T.hi:=by
    rw[Dy]at c;have:(f:Int)≠0:=by simpa using c
    rw[YN (by lia)]
   refine⟨(f:Int),rfl,(l:Int)+1,rfl,C,xc,rfl,hC,λR H1 s1 J=>?_⟩;rw[HE G (by lia)]at J;have Z:=Ac.part (Ac.ev (Ev.same s1) _ _ rc) f l;rw[HF]at Z;have lp:=Ni (xs:=T.cs) G (by lia);have lq:=Z.len;rw[Y0]at lq;refine⟨R,rfl,⟨_,Ae.of J⟩,BS (xs:=part xc f l) (λi g I=>Ab H1 I/\g=(((part T.cs f l).take i).map List.sum).map V.int) (by lia) ⟨Ab.refl _,rfl⟩ (λi g I h=>by rw[h.2,Y0,Y0,YW];lia) (λi g I _ h=>Ae.of (h.1 _ _ J)) (λi x g I hx h=>?_) λg H2 h=>?_⟩
   .obtain⟨r',O,rr⟩:=Ac.mapGot Z hx;obtain⟨ra,rfl,L⟩:=Aa.ofRow' rr;refine⟨trivial,λ_=>⟨ra,r',rfl,.inr (h.1 _ _ L),h.1,?_⟩,λz=>by cases z⟩;rw[A6 O,YM,YM,h.2];rfl
   .intro m hm;have s2:=s1.trans (h.1.trans (Ab.new (o:= .lst g) hm));refine⟨m,(part T.cs f l).map List.sum,rfl,.inl ?_,?_⟩
    .rw[Af,h.2,YS (by lia)]
    refine⟨(f:Int),rfl,(l:Int)+1,rfl,D,T.ds.map V.int,rfl,s2 _ _ hD,λR2 H3 s3 k3=>?_⟩;rw[HE G (by rw[Y0];exact hl),HF]at k3;refine⟨R2,part T.ds f l,rfl,.inr k3,?_⟩;have:=q H3 (s2.trans s3);unfold C5 at this;rw[ea]at this;exact this
theorem zab:Aw ["terms","caps","coals","draws","main","hours","stretches","found"] ["terms"] (Am waI):=AB
abbrev GH(P:yP)(w:yN)(K:Fgx)(mg:Str->yW)(base:Heap):Prop:=Fn P w K mg base 2 "least_stretch" ["terms"] KJ
theorem WE(F:Df K mg "least_stretch" waI ["terms"])(T:Tx mg)(i5:Fn P w K mg base 1 "is_too_much" ["terms","stretch"] GG):GH P w K mg base:=by
 refine F.fm zab λf dl A outer s H vs Q E hr h=>?_
 refine⟨_,(Ak (Bo (cy 0) (AL K (n:=4) (Ai (zD 1) (Ai (zD 2) (Ai (zD 3) (Ai (zD 4) AK)))))) (Ak (zE 5 (Ax (Bl K) rfl T.b_len PySem.boot_len (Aj (cy 3)))) (Ak (SI (i:=6) ["first","last","hours"] [none,none,some 5] zab.nd rfl (AC (by rfl)) rfl (CO rfl T.b_range (Aj (cy 5))) (AJ.of rfl) (λ_ _ _ _=>(zD 0)) (λ_ _ _ _=>A8) (λ_ _ _ _=>(Lp rfl T.b_range (As (cy 0) (cy 2)))) (λ_ _ _ _=>(zD 1)) (λ_ _ _ _=>A8) (λ_ _ _ _=>(BF (As (cy 0) (cy 1))))) (Ak (Fj (i:=7) ["stretch","terms"] [none,some 0] zab.nd rfl (AC (by rfl)) rfl (Fp K (cy 6)) (AJ.of rfl) (λ_ _ _ _=>(zD 0)) (λ_ _ _ _=>(Fi (Cp (zB i5 hr (As (cy 1) (cy 0)))))) (λ_ _ _ _=>(cy 0))) (Ao (Av (Fm (SK (cy 7)) (AH (Bb K) (cy 7) Ag (λ_ _=>rfl)) Ck))))))),?_⟩;cases h;rename_i h
 .rename_i v;obtain⟨p,T,ok,r,q⟩:=h;obtain⟨A,C,B,D,M,xc,rfl,hA,hC,rc,hB,hD,hM⟩:=Aa.terms r;have l8:=ok.l8;refine⟨A,_,rfl,Ae.of hA,rfl,_,_,rfl,_,_,rfl,_,_,rfl,_,_,rfl,rfl,?_⟩;refine⟨D,_,rfl,.inr (Ae.of hD),?_⟩;rw[Y0];refine⟨_,rfl,by lia,by lia,Nh (n:=T.ds.length) (λi L J=>Ab H J/\Ac p J ((Cg T.ds.length i).map pD) L) ⟨Ab.refl _,.nil⟩ (λi L H1 hi h=>?_) λL H1 h=>?_⟩
  .refine⟨⟨rfl,trivial⟩,λ_=>?_,λz=>by cases z⟩;have lz:=h.2.len;rw [Y0] at lz;have ls:=Nl (n:=T.ds.length) (k:=i);have lm:T.ds.length * i<=8 * 8:=bQ l8 (by lia);have e0:((T.ds.length:Int)-(0+(i:Int))).toNat=T.ds.length-i:=by lia
   refine⟨_,_,rfl,⟨by lia,by lia,by lia,by lia⟩,?_⟩;rw[e0];refine SG (n:=T.ds.length-i) (λj g O=>Ab H O/\Ac p O ((Cg T.ds.length i++Dn i j).map pD) g/\j<=8) ⟨h.1,?_,Z6 _⟩ (λj g O h=>?_) (λj g O hj G=>?_) λg O G=>?_
   .have e1:Dn i 0=[]:=rfl;rw[e1,ZV];exact h.2
   .have h3:=h.2.1.len;rw[Y0,Z7,Nj]at h3;have:=h.2.2;lia
   .refine⟨⟨rfl,rfl,trivial⟩,λ_ t ht=>?_,λz=>by cases z⟩;have nt:=Ab.new (o:= .tup [.int (0+(i:Int)),.int (0+(i:Int)+(j:Int))]) ht;refine⟨G.1.trans nt,?_,by lia⟩;rw[SL,<-bH,YM];exact Ac.snoc (Ac.ev (Ev.same nt) _ _ G.2.1) (Aa.tup Af (.cons (Aa.intE (by simp)) (.cons (Aa.intE (by simp)) .nil)))
   .refine⟨G.1,?_⟩;rw[Nk];exact G.2.1
  .intro m hm;have s1:=h.1.trans (Ab.new (o:= .lst L) hm);have r1:=Ac.ev (Ev.new (p:=p) (o:= .lst L) hm) _ _ h.2;have lz:=h.2.len;rw [Y0] at lz;have ls:=Nl (n:=T.ds.length) (k:=T.ds.length);have lm:T.ds.length * T.ds.length<=8 * 8:=bQ l8 l8;refine⟨m,rfl,⟨L,Al.of Af⟩,F3 (xs:=L) (λi g J=>Ab (upd H1 m (.lst L)) J/\Ac p J ((((Cg T.ds.length T.ds.length).take i).filter λq=>C5 T q.1 q.2).map pD) g) (by lia) ⟨Ab.refl _,.nil⟩ (λi g J h=>?_) (λi g J _ h=>Al.of (h.1 _ _ Af)) (λi x g J hx h=>?_) λg O G=>?_⟩
   .rw[<-h.2.len,Y0];exact YV (bq _ _) (by rw[YW];lia)
   .obtain⟨⟨f,l⟩,hf,rd⟩:=Ac.mapGot r1 hx;obtain⟨i6,hl⟩:=HG (Y4 _) _ (YU hf);refine⟨⟨rfl,trivial⟩,p,T,f,l,ok,Aa.ev (Ev.same (s1.trans h.1)) _ _ r,Aa.ev (Ev.same h.1) _ _ rd,i6,hl,λH3 Z=>⟨λc=>?_,λc=>?_⟩⟩
    .refine⟨h.1.trans Z,?_⟩;rw[A6 hf,bY,bS (by exact c),YM];exact Ac.snoc (Ac.ev (Ev.same Z) _ _ h.2) (Aa.ev (Ev.same (h.1.trans Z)) _ _ rd)
    .refine⟨h.1.trans Z,?_⟩;rw[A6 hf,bY,bT (by rw[show C5 T (f,l).1 (f,l).2=false from c];decide),List.filter_nil,ZV];exact Ac.ev (Ev.same Z) _ _ h.2
   .intro m2 i4;rw [YS (by lia)] at G;have s2:=s1.trans (G.1.trans (Ab.new (o:= .lst g) i4));have I:=Ac.ev (Ev.new (p:=p) (o:= .lst g) i4) _ _ G.2;refine⟨m2,g,rfl,Af,⟨λc=>?_,λc=>?_⟩⟩
    .cases g with
     |nil=>cases c
     |cons y g=>
      refine⟨m2,_,0,y,rfl,rfl,Al.of Af,DB (j:=0) rfl,q _ _ s2 ?_⟩;have eq:C6 T=(Cg T.ds.length T.ds.length).filter λq=>C5 T q.1 q.2:=rfl
      unfold Bz;rw[<-eq]at I;cases z:C6 T with
      |nil=>rw[z]at I;have:=I.len;cases this
      |cons a l=>
       rw[z]at I;unfold Ac at I;obtain⟨x,t,e,rx,_⟩:=I;cases e;exact rx
    .cases g with
     |cons y g=>cases c
     |nil=>
      refine q _ _ s2 ?_;have eq:C6 T=(Cg T.ds.length T.ds.length).filter λq=>C5 T q.1 q.2:=rfl
      unfold Bz;rw[<-eq]at I;cases z:C6 T with
      |nil=>exact Aa.non
      |cons a l=>rw[z]at I;have:=I.len;cases this
theorem WF(F:Df K mg "coal_under" waS ["terms"])(T:Tx mg)(g:Fn P w K mg base 3 "highest_floor" ["terms"] GF)(D:GH P w K mg base):Fn P w K mg base 4 "coal_under" ["terms"] IC:=by
 refine F.fm (N:=["terms","floor","prices"]) AB λf dl A outer s H vs Q E G h=>?_
 refine⟨_,(Ak (Bq (Bi Jq (zB D G (Aj (cy 0))) Ck (Ba _)) (Ao (Av Ck)) Bn) (Ak (Bo (zB g G (Aj (cy 0))) (AL K (n:=2) (Ai (zD 1) (Ai (zD 2) AK)))) (Ao (Av (cy 1))))),?_⟩;cases h;rename_i h
 .rename_i v;obtain⟨p,T,fl,r,Z,q2⟩:=h;refine⟨p,T,fl.ok,r,λu H1 s1 ru=>?_⟩;cases z:Bz T with
  |none=>
   rw[z]at ru;have J:u= .non:=by unfold ES at ru;unfold Aa at ru;exact ru
   subst J;refine⟨rfl,⟨λc=>by simp at c,λ_=>?_⟩⟩;refine⟨p,T,fl,Aa.ev (Ev.same s1) _ _ r,λy H2 s2 I O _ _=>?_⟩;obtain⟨a,b,rfl,L,hb⟩:=Aa.tailShape I;exact⟨a,_,rfl,Ae.of L,rfl,_,_,rfl,_,_,rfl,rfl,q2 z O H2 (s1.trans s2)⟩
  |some s0=>
   rw[z]at ru;have nu:u≠ .non:=by
    obtain⟨A,eA,_⟩:=Aa.pair ru;rw[eA];intro e;cases e
   refine⟨rfl,⟨λ_=>Z (by rw[z];simp) H1 s1,λc=>?_⟩⟩;simp[nu]at c
end
section
variable{T:TM}{i:Nat}
theorem ID{X:Cx}{j:Nat}{p q:Pos}:PE X (.UnaryOp .USub (.Constant (.int 1) j p) q) (tC (.int (-1))):=(Qh Qj Ag).weak fun c H Q z=>⟨1,rfl,z⟩
def Eb(P:PL)(S:SY)(F:yZ)(k:Nat):yV:=(List.range k).map λi=>Be P S F (i+1)
def GI(T:TM):yQ:=match Bz T with | none=>AN (Fy T) | some _=> .none
def IE:Sp:=λg H Q _=>zH (λv=>∃p T,TM.ok T/\1<=T.ds.length/\Aa p H T.d v/\∀L c,Ab H c->H L=none->c L=some (.lst ((Fy T).map V.int))->Q (.ref L) c) g
def Ez(T:TM)(i:Nat):List V:=((List.range i).map (Fx T)).map V.int
theorem Oy:Ez T (i+1)=Ez T i++[.int (Fx T i)]:=by unfold Ez;rw[aB,YM,YM];rfl
theorem WG:(Ez T i).length=i:=by unfold Ez;simp
theorem WH:(Ez T T.ds.length).reverse=(Fy T).map V.int:=by
 unfold Ez Fy;rw[<-List.map_reverse,<-List.map_reverse]
 congr 1
 refine dL λk=>?_
 by_cases c:k<T.ds.length
 .rw[YO,YO,eE (by simpa using c),ae c,af,ae (by lia)];show some (Fx T _)=some (lz T (k+1));unfold lz;rw[show T.ds.length-1-k=T.ds.length-(k+1) from by lia]
 .rw[Zn (by simp;lia),Zn (by simp;lia)]
theorem Ac.at1{p:yR}{H:Hp}{fs:yZ}{xs:List V}(r:Ac p H (fs.map AN) xs){k:Nat}(D:k<fs.length):∃c,xs[k]? =some (.ref c)/\H c=some (.tup ((fs.getD k []).map V.int)):=by
 obtain⟨y,I,G⟩:=r.get (i:=k) (d:=AN (fs.getD k [])) (by rw[YO,Y5 D,Y7,Y5 D];rfl);obtain⟨c,rfl,g⟩:=Aa.ofRow G;exact⟨c,I,g⟩
variable{P:yP}{w:yN}{K:Fgx}{mg:Str -> yW}{base:Heap}
theorem WI(F:Df K mg "least_mains" waN ["terms"])(T:Tx mg):Fn P w K mg base 1 "least_mains" ["terms"] IE:=by
 refine F.fm (N:=["terms","caps","coals","draws","low","high","start","told","row","drawn"]) AB λf dl A outer s H vs Q E hr h=>?_
 refine⟨_,(Ak (Bo (cy 0) (AL K (n:=4) (Ai (zD 1) (Ai (zD 2) (Ai (zD 3) (Ai (AL K (n:=3) (Ai (zD 4) (Ai (zD 5) (Ai (zD 6) AK)))) AK)))))) (Ak (zE 7 (DZ (Aj (cy 4)))) (Ak (Cm Zq rfl (U9 K rfl T.b_reversed (Aj (U6 P w K rfl T.b_list rfl T.b_zip (As (Dj wa0 (cy 1) (Co Ag) EG) (Dj wa0 (cy 3) (Co Ag) EG))))) (AL K (n:=2) (Ai (zD 8) (Ai (zD 9) AK))) (Ao (B7 (DC PySem.F.plainAttrs_list PySem.F.slot_list_append PySem.F.type_list_append DO (cy 7) (Aj (Ax (Jr rfl) rfl T.b_max eN (As (cy 4) (Ar BL (Ar Bs (AH (Bb K) (cy 7) ID (λ_ _=>rfl)) (cy 9)) (Ax (Eo rfl) rfl T.b_sum aW (Aj (cy 8))))))))))) (Ao (Av (SF (cy 7) (ID))))))),?_⟩;cases h;rename_i h
 .rename_i v;obtain⟨p,T,ok,n1,r,q⟩:=h;obtain⟨A',C,B,D,M,xc,rfl,hA,hC,rc,hB,hD,hM⟩:=Aa.terms r;have l8:=ok.l8;have lc:=ok.lc;have lx:=rc.len;rw[Y0]at lx;refine⟨A',_,rfl,Ae.of hA,rfl,_,_,rfl,_,_,rfl,_,_,rfl,_,_,rfl,M,_,rfl,Ae.of hM,rfl,_,_,rfl,_,_,rfl,_,_,rfl,rfl,rfl,?_⟩;refine λL H1 s1 hL kL=>?_
  refine⟨1,rfl,C,xc,rfl,s1 _ _ hC,λc1 H2 s2 k2=>⟨1,rfl,D,_,rfl,(s1.trans s2) _ _ hD,λd1 H3 s3 k3=>?_⟩⟩;rw[Kk]at k2 k3;refine⟨c1,d1,rfl,⟨_,Ae.of (s3 _ _ k2)⟩,⟨_,Ae.of k3⟩,_,_,Ae.of (s3 _ _ k2),Ae.of k3,by rw[Zs,Zs,Y0];lia,by rw[Zs];lia,λZ H4 g s4 hZ kZ lT zd=>?_⟩;rw[Zs]at lT;have J:=s2.trans (s3.trans s4);have i8:=J _ _ kL;have G:=s1.trans J;have nZ:Z≠L:=λe=>by rw[e,(s2.trans s3) _ _ kL]at hZ;cases hZ
  refine⟨Z,_,rfl,Al.of kZ,Va (xs:=g.map V.ref) (λi σ H'=>(∃x8 x9,σ=[some (.ref A'),some (.ref C),some (.ref B),some (.ref D),some (.int T.lo),some (.int T.hi),some (.int T.st),some (.ref L),x8,x9])/\Ev L H4 H'/\H' L=some (.lst (Ez T i++[.int (Fx T i)]))) ⟨⟨_,_,rfl⟩,Ev.refl,i8⟩ (λi σ H' _ h=>Al.of (h.2.1.lst kZ nZ)) (λi x σ H' hi I h=>?_) fun σ H' h=>?_⟩
  .obtain⟨⟨x8,x9,rfl⟩,ev,c⟩:=h;rw[Y0]at hi I;obtain⟨t,ht,rfl⟩:∃t,g[g.length-1-i]? =some t/\x= .ref t:=by
    rw[YO]at I;cases z:g[g.length-1-i]? with
    |none=>rw[z]at I;cases I
    |some t=>rw[z]at I;cases I;exact⟨t,rfl,rfl⟩
   have ei:g.length-1-i+1=T.ds.length-1-i:=by lia
   obtain⟨ra,i5,i6⟩:=Ac.at1 rc (k:=T.ds.length-1-i) (by lia);have h1:(xc.drop 1)[g.length-1-i]? =some (.ref ra):=by rw[aU,dA,ei];exact i5
   have h2:((T.ds.map V.int).drop 1)[g.length-1-i]? =some (.int (T.ds.getD (T.ds.length-1-i) 0)):=by
    rw[aU,dA,ei,YO,Y7,Y5 (by lia)];rfl
   have kt:=ev.tup (zd _ _ _ _ ht h1 h2);have i4:=ev.tup (G _ _ i6);refine⟨t,_,rfl,Ae.of kt,rfl,_,_,rfl,_,_,rfl,rfl,?_⟩;refine⟨.inl ⟨rfl,_,Al.of c⟩,L,_,-1,_,rfl,rfl,Al.of c,LS _ _,ra,_,rfl,.inr i4,_,_,rfl,L,_,_,rfl,rfl,c,Ex (by rw[Z7,WG,ZF];lia),⟨_,_,rfl⟩,ev.trans (Ev.pen c),?_⟩;rw[Oy];exact Af
  .obtain⟨⟨x8,x9,rfl⟩,ev,c⟩:=h;rw[Y0,lT,<-Oy,show xc.length-1+1=T.ds.length from by lia]at c;refine⟨L,_,rfl,c,λl O=>?_⟩;rw[WH];have i7:H l=none:=G.free (by
    cases z:H4 l with
    |none=>rfl
    |some o=>
     rcases ev l o z with⟨e,ys,w'⟩ | w'
     .rw[e,c]at O;cases O
     .rw[w']at O;cases O)
   exact q l _ ((Ab.evOwn G hL ev).trans (Ab.new O)) i7 Af
end
section
abbrev nT(n:Int):Str:=Str.ofString (toString n)
def Fb(r:yV):Str:=E2 " " (r.map nT)
def FK(F:yZ):Str:=E2 "/" (F.map Fb)
theorem WJ{n:Nat}(h:n<=1000):n.log2<1920:=aD (Nat.log2_le_self n) (by lia)
theorem Oz(sep:Str)(B:Nat):∀(l:List Str) (a:Nat),(∀x∈l,x.length<=B)->l.foldl (λn x=>n+x.length+sep.length) a<=a+l.length *(B+sep.length)
 |[],a,_=>by simp
 |x::l,a,h=>by
  have g:=h x (Z1 ..);have D:=Oz sep B l (a+x.length+sep.length) λy c=>h y (Z4 _ c)
  rw[eL,Zh,bI];lia
theorem OA(B:Nat):∀(l:List Str),(∀x∈l,x.length<=B)->(l.map (·.length)).sum<=l.length * B
 |[],_=>by simp
 |x::l,h=>by
  have D:=h x (Z1 ..);have g:=OA B l λy c=>h y (Z4 _ c)
  rw[ZA,bK,Zh,bI];lia
theorem KK{sep:Str}{l:List Str}{B:Nat}(h:∀x∈l,x.length<=B):(E2 sep l).length<=l.length *(B+sep.length):=by
 have g:(Builtin.Str.glued sep l).length<=l.length *(B+sep.length):=by
  rw[size_glued,Nat.mul_add];have:=OA B l h;have:=bu sep.length (Nat.sub_le l.length 1);lia
 match l,h,g with
 |[],_,g=>exact g
 |[x],h,_=>exact YV (h x (Z1 ..)) (by rw[ZF];lia)
 |_::_::_,_,g=>exact g
theorem OB{sep:Str}{l:List Str}{B:Nat}(h:∀x∈l,x.length<=B)(hz:l.length *(B+sep.length)<=200000):Builtin.Str.tooLong (l.toArray.foldl (· + ·.length+sep.length) 0)=false/\(E2 sep l).length<=sizeLine:=by
 have z:(200000:Nat)<=sizeLine:=by decide
 have f:=Oz sep B l 0 h;refine⟨?_,YV (YV (KK h) hz) z⟩;unfold Builtin.Str.tooLong;rw[List.foldl_toArray];exact Zu (by lia)
theorem OC{n:Int}(h0:0<=n)(c:n<=9):(nT n).length<=11:=by
 have:=PyProof.Rows.len_str_of_int n;unfold nT;lia
theorem OD{r:yV}(h:∀n∈r,0<=n/\n<=9)(D:r.length<=4):(Fb r).length<=48:=by
 have:=KK (sep:=" ") (l:=r.map nT) (B:=11) λx g=>by
  obtain⟨n,c,rfl⟩:=Z8.mp g;exact OC (h n c).1 (h n c).2
 rw[Y0]at this;have e:(Str.ofString " ").length=1:=by decide
 rw[e]at this;unfold Fb;lia
variable{P:yP}{w:yN}{K:Fgx}{mg:Str -> yW}{base:Heap}
end
section
variable{j i hour:Nat}{ras:List yR}{T:TM}{H0 H H':Hp}{zs:List V}{p:yR}
structure FM(H:Hp)(Fa Ma:yR)(ras:List yR)(f:yZ)(ms:yV):Prop where
 a:H Fa=some (.lst (ras.map V.ref))
 r:∀i,i<ras.length->H (ras.getD i 0)=some (.lst ((f.getD i []).map V.int))
 l:ras.length=f.length
 nd:∀i j,i<ras.length->j<ras.length->ras.getD i 0=ras.getD j 0->i=j
 m:H Ma=some (.lst (ms.map V.int))
 nm:∀i,i<ras.length->ras.getD i 0≠Ma
 nf:∀i,i<ras.length->ras.getD i 0≠Fa
 fm:Fa≠Ma
def GJ(g:yR)(c:List yR)(H H':Hp):Prop:=∀b o,H b=some o->b≠g->b ∉ c->H' b=some o
def IF:Sp:=λG H Q _=>zQ (λM hi a h=>∃(ms:yV) (D c:Nat),a=(D:Int)/\h=(c:Int)/\c<ms.length/\ms.length<=8/\H M=some (.lst (ms.map V.int))/\∀g,Ab H g->Q (.int (DH ms hi D c)) g) G
theorem WM{ms:yV}{a h:Nat}:A4 (ms.map V.int) (some (a:Int)) (some (h:Int))=((ms.take h).drop a).map V.int:=by
 unfold A4;rw[HT.sIx_nat,HT.sIx_nat,Y0,<-map_drop,<-map_take];refine Zv (List.map V.int) (dL λk=>?_);rw[List.drop_take,eW,eW,aU,aU]
 by_cases c:min a ms.length+k<ms.length
 .by_cases d:a<=ms.length
  .rw [ZW d]
   by_cases e:k<h-a
   .rw[YR e,YR (by lia)]
   .rw[YN e,YN (by lia)]
  .lia
 .have D:ms[min a ms.length+k]? =none:=Zn (by lia);have g:ms[a+k]? =none:=Zn (by lia);rw[D,g];split<;>split<;>rfl
theorem OE{ms:yV}{g:Int->V}{x:V}(h:(ms.map g)[j]? =some x):∃m,ms[j]? =some m/\x=g m:=by
 rw[YO]at h;cases z:ms[j]? with
 |none=>rw[z]at h;cases h
 |some m=>rw[z]at h;cases h;exact⟨m,rfl,rfl⟩
theorem WN{b:yR}(h:b∈ras):∃k,k<ras.length/\ras.getD k 0=b:=by
 obtain⟨k,c⟩:=ZX h;exact⟨k,(Y3.mp c).1,by rw[Y7,c];rfl⟩
theorem GK{c:Type}{n:Nat}{x d:c}(h:i<n):(List.replicate n x).getD i d=x:=by
 rw[Y7,dN,YR h];rfl
theorem OF:∀n:Nat,(List.replicate n (0:Int)).sum=0
 |0=>rfl
 |n+1=>by rw[ZQ,bK,OF n];rfl
theorem WO{ds:yV}{k:Nat}(h:k<ds.length):(ds.take (k+1)).sum=(ds.take k).sum+ds.getD k 0:=by
 rw[A6 (Y5 h),bR,Y7,Y5 h];show _+(ds[k]+0)=_+ds[k];lia
def Ec(T:TM):yV:=(List.range T.ds.length).map λk=>T.st-(T.ds.take (k+1)).sum
theorem OG{k:Nat}(h:k<T.ds.length):(Ec T).getD k 0=T.st-(T.ds.take (k+1)).sum:=by
 unfold Ec;rw[Y7,YO,ae h];rfl
theorem WP(fl:CQ T):Gr T (List.replicate T.ds.length (List.replicate T.co.length 0)) (Ec T):=by
 have lm:(Ec T).length=T.ds.length:=by unfold Ec;rw[Y0,af]
 refine⟨Zw,λi hi=>?_,λi b hi D=>?_,lm,λk g=>?_⟩
 .rw[Zw]at hi;rw[GK hi,Zw]
 .rw[Zw]at hi;rw[GK hi,GK D];refine⟨ZS _,?_⟩;have c:=fl.c _ (getD_mem (l:=T.cs) (d:=[]) (i:=i) (by rw[fl.ok.lc];exact hi));exact(c.2 _ (getD_mem (by rw[c.1];exact D))).1
 .rw[lm]at g;rw[OG g,GK g,OF,WO g]
  by_cases G:k=0
  .subst G;rw[YR rfl,take_zero,sum_nil];lia
  .rw[YN G,OG (by lia),show k-1+1=k by lia];lia
structure Rows0(H0 H:Hp)(i n:Nat)(zs:List V):Prop where
 ex:∃ras:List yR,zs=ras.map V.ref/\ras.length=i/\(∀k,k<i->H0 (ras.getD k 0)=none/\H (ras.getD k 0)=some (.lst ((List.replicate n (0:Int)).map V.int)))/\∀j k,j<i->k<i->ras.getD j 0=ras.getD k 0->j=k
theorem Rows0.zero{n:Nat}:Rows0 H0 H 0 n []:=⟨[],rfl,rfl,λk c=>absurd c (bF _),λj k g=>absurd g (bF _)⟩
theorem Rows0.len{n:Nat}(h:Rows0 H0 H i n zs):zs.length=i:=by
 obtain⟨c,rfl,l,_⟩:=h.ex;rw[Y0,l]
theorem Rows0.put{n:Nat}{L:yR}(h:Rows0 H0 H i n zs)(s0:Ab H0 H)(s:Ab H H')(n0:H L=none)(k:H' L=some (.lst ((List.replicate n (0:Int)).map V.int))):Rows0 H0 H' (i+1) n (zs++[.ref L]):=by
 obtain⟨g,rfl,l,O,h2⟩:=h.ex;have D:∀c,c<i->(g++[L]).getD c 0=g.getD c 0:=λc J=>by rw[Y7,aq (by lia),Y7]
 have I:(g++[L]).getD i 0=L:=by rw[Y7,aG (by lia),l,fh];rfl
 have ne:∀c,c<i->g.getD c 0≠L:=λc J e=>by
  have:=(O c J).2;rw[e,n0]at this;cases this
 refine⟨g++[L],by rw[YM];rfl,by rw[Z7,l];rfl,λc J=>?_,λa b ha hb e=>?_⟩
 .by_cases e:c=i
  .rw [e,I];refine⟨?_,k⟩;cases z:H0 L with
   |none=>rfl
   |some o=>have:=s0 _ _ z;rw[n0]at this;cases this
  .rw[D c (by lia)];exact⟨(O c (by lia)).1,s _ _ (O c (by lia)).2⟩
 .by_cases Z:a=i
  .by_cases G:b=i
   .rw[Z,G]
   .rw[Z,I,D b (by lia)]at e;exact absurd e.symm (ne b (by lia))
  .by_cases G:b=i
   .rw[G,I,D a (by lia)]at e;exact absurd e (ne a (by lia))
   .rw[D a (by lia),D b (by lia)]at e;exact h2 a b (by lia) (by lia) e
theorem OH{ns:yV}{b:Nat}(h:b<ns.length):(ns.map V.int)[b]? =some (.int (ns.getD b 0)):=by
 rw[YO,Y5 h,Y7,Y5 h];rfl
theorem OI{n b:Nat}(h:b<n):CW n (b:Int)=some b:=by
 unfold CW;rw[YR (Int.natCast_nonneg b),YR (by lia),aX]
theorem EA{t:Cy->L2.St->Hp->Prop}{D:Cy}{σ σ':L2.St}(e:σ=σ')(h:t D σ' H):t D σ H:=by rw[e];exact h
theorem KM(h:i<ras.length):Ce (ras.map V.ref) (i:Int)=some (.ref (ras.getD i 0)):=by
 refine DB ?_;rw[YO,Y5 h,Y7,Y5 h];rfl
theorem Aa.capRow{cs:yZ}{c:List V}{C:yR}(G:Ac p H (cs.map AN) c)(hC:H C=some (.tup c)){i:Nat}(hi:i<cs.length):∃D,Ce c (i:Int)=some (.ref D)/\H D=some (.tup ((cs.getD i []).map V.int)):=by
 have Z:=G.len;rw[Y0]at Z;obtain⟨x,J⟩:∃x,c[i]? =some x:=⟨c[i],Y5 (by lia)⟩;obtain⟨g,L,O⟩:=Ac.mapGot G J;have e:cs.getD i []=g:=by rw[Y7,L];rfl
 obtain⟨D,xs,rfl,I,h2⟩:=Aa.shape O;rw[Ac.ints h2]at I;exact⟨D,DB J,by rw[e];exact I⟩
def KN(T:TM)(q:Nat×Nat):yQ:= .tuple [.int (T.co.getD q.2 0),.int (q.1:Int),.int (q.2:Int)]
def gC(T:TM)(q:Nat×Nat):Int×List yQ:=(T.co.getD q.2 0,[PyData.int (q.1:Int),PyData.int (q.2:Int)])
theorem WQ{q r:Nat×Nat}(h:gC T q=gC T r):q=r:=by
 unfold gC at h;injection h with _ h
 injection h with g h
 injection h with c _
 injection g with g
 injection c with c
 exact Prod.ext (Int.ofNat_inj.mp g) (Int.ofNat_inj.mp c)
instance {T:TM}{f:yZ}{ms:yV}{hour a b:Nat}:Decidable (CS T f ms hour a b):=by unfold CS;infer_instance
def FN(T:TM)(f:yZ)(ms:yV)(c a n:Nat):List (Nat×Nat):=((List.range n).filter λb=>decide (CS T f ms c a b)).map λb=>(a,b)
def Ci(T:TM)(f:yZ)(ms:yV)(c i j:Nat):List (Nat×Nat):=((List.range i).flatMap λa=>FN T f ms c a T.co.length)++FN T f ms c i j
theorem rowC_mem{f:yZ}{ms:yV}{a n:Nat}{q:Nat×Nat}:q∈FN T f ms hour a n↔q.1=a/\q.2<n/\CS T f ms hour a q.2:=by
 unfold FN;rw[Z8];constructor
 .rintro⟨b,hb,rfl⟩;obtain⟨g,c⟩:=bN.mp hb;exact⟨rfl,ZM.mp g,Z3 c⟩
 .rintro⟨rfl,g,c⟩;exact⟨q.2,bN.mpr ⟨ZM.mpr g,ZE c⟩,rfl⟩
structure Nx(T:TM)(hour:Nat)(f:yZ)(ms:yV)(f':yZ)(ms':yV):Prop where
 ex:∃a b m,Gn .Lt ((Ci T f ms hour (hour+1) 0).map (gC T))=some (gC T (a,b))/\(m=T.lo-ms.getD hour 0\/m=(T.cs.getD a []).getD b 0-(f.getD a []).getD b 0\/m=DH ms T.hi a hour)/\m<=T.lo-ms.getD hour 0/\m<=(T.cs.getD a []).getD b 0-(f.getD a []).getD b 0/\m<=DH ms T.hi a hour/\f'=EZ f a b m/\ms'=Cu ms a ms.length m
theorem Nx.uniq{f J G:yZ}{ms D I:yV}(h:Nx T hour f ms J D)(g:Nx T hour f ms G I):J=G/\D=I:=by
 obtain⟨a,b,m,hb,e,l1,l2,l3,rfl,rfl⟩:=h.ex;obtain⟨a',b',O,c,L,i4,Z,i5,rfl,rfl⟩:=g.ex;rw[hb]at c;obtain⟨rfl,rfl⟩:=Prod.mk.inj (WQ (Y9 c));have:m=O:=by
  rcases e with rfl | rfl | rfl<;>rcases L with rfl | rfl | rfl<;>first | rfl | lia
 rw[this];exact⟨rfl,rfl⟩
def IG(T:TM):yZ:=List.replicate T.ds.length (List.replicate T.co.length 0)
inductive Rs(T:TM):Nat->Nat->yZ->yV->Prop
 |zero:Rs T 0 0 (IG T) (Ec T)
 |next {n h:Nat}{f f':yZ}{ms ms':yV} (r:Rs T n h f ms) (l:h<T.ds.length) (c:ms.getD h 0<T.lo) (x:Nx T h f ms f' ms'):Rs T (n+1) h f' ms'
 |done {n h:Nat}{f:yZ}{ms:yV} (r:Rs T n h f ms) (l:h<T.ds.length) (c:¬ms.getD h 0<T.lo):Rs T (n+1) (h+1) f ms
theorem Rs.uniq:∀ {n h h':Nat}{f D:yZ}{ms g:yV},Rs T n h f ms->Rs T n h' D g->h=h'/\f=D/\ms=g
 |_,_,_,_,_,_,_,.zero,.zero=>⟨rfl,rfl,rfl⟩
 |_,_,_,_,_,_,_,.next r l c x,.next r' l' c' x'=>by
  obtain⟨rfl,rfl,rfl⟩:=Rs.uniq r r';exact⟨rfl,Nx.uniq x x'⟩
 |_,_,_,_,_,_,_,.next r l c x,.done r' l' c'=>by
  obtain⟨rfl,rfl,rfl⟩:=Rs.uniq r r';exact absurd c c'
 |_,_,_,_,_,_,_,.done r l c,.next r' l' c' x'=>by
  obtain⟨rfl,rfl,rfl⟩:=Rs.uniq r r';exact absurd c' c
 |_,_,_,_,_,_,_,.done r l c,.done r' l' c'=>by
  obtain⟨rfl,rfl,rfl⟩:=Rs.uniq r r';exact⟨rfl,rfl,rfl⟩
theorem Rs.back{T:TM}:∀ {k n h:Nat}{f:yZ}{ms:yV},Rs T (n+(k+1)) h f ms->∃h' g c,Rs T n h' g c/\h'<T.ds.length
 |0,_,_,_,_,.next r l _ _=>⟨_,_,_,r,l⟩
 |0,_,_,_,_,.done r l _=>⟨_,_,_,r,l⟩
 |k+1,n,_,_,_,.next r _ _ _=>Rs.back (k:=k) r
 |k+1,n,_,_,_,.done r _ _=>Rs.back (k:=k) r
theorem WR{f:yZ}{ms:yV}(fl:CQ T)(g:Gr T f ms):Small 30000 2 (FD f):=by
 have l8:=fl.ok.l8;have o4:=fl.o;refine JW (λr J=>?_) (by rw[g.lf];lia);obtain⟨i,hi⟩:=ZX J;have D:=(Y3.mp hi).1;have G:f.getD i []=r:=by rw[Y7,hi];rfl
 have L:=g.row i D;rw[G]at L;refine⟨λx O=>?_,by lia⟩;obtain⟨b,I⟩:=ZX O;have lb:=(Y3.mp I).1;have ex:r.getD b 0=x:=by rw[Y7,I];rfl
 have bd:=g.bd i b D (by lia);rw[G,ex]at bd;have Z:i<T.cs.length:=by rw[fl.ok.lc,<-g.lf];exact D
 have lc:=fl.c _ (getD_mem (l:=T.cs) (d:=[]) Z);have:=lc.2 _ (getD_mem (l:=T.cs.getD i []) (i:=b) (d:=0) (by lia));lia
def FinF(T:TM)(f:yZ):Prop:=∃n ms,Rs T n T.ds.length f ms
theorem FinF.uniq{f I:yZ}(a:FinF T f)(b:FinF T I):f=I:=by
 obtain⟨n,ms,r⟩:=a;obtain⟨g,L,G⟩:=b;rcases Nat.lt_trichotomy n g with c | rfl | c
 .obtain⟨k,rfl⟩:∃k,g=n+(k+1):=⟨g-n-1,by lia⟩;obtain⟨O,Z,J,D,l⟩:=G.back;obtain⟨rfl,_⟩:=r.uniq D;exact absurd l (YX _)
 .exact(r.uniq G).2.1
 .obtain⟨k,rfl⟩:∃k,n=g+(k+1):=⟨n-g-1,by lia⟩;obtain⟨O,Z,J,D,l⟩:=r.back;obtain⟨rfl,_⟩:=G.uniq D;exact absurd l (YX _)
structure Cands(T:TM)(f:yZ)(ms:yV)(hour:Nat)(p:yR)(H:Hp)(i j:Nat)(zs:List V):Prop where
 rs:Ac p H ((Ci T f ms hour i j).map (KN T)) zs
 l:(Ci T f ms hour i j).length<=i * 4+j
theorem Cands.zero{f:yZ}{ms:yV}:Cands T f ms hour p H 0 0 []:=⟨.nil,Y4 _⟩
theorem OJ{f:yZ}{ms:yV}:Ci T f ms hour (i+1) 0=Ci T f ms hour i T.co.length:=by
 unfold Ci;rw[aB,List.flatMap_append];simp[FN]
theorem Cands.row{f:yZ}{ms:yV}(c:Cands T f ms hour p H i T.co.length zs)(g:T.co.length<=4):Cands T f ms hour p H (i+1) 0 zs:=by
 have l:=c.l;exact⟨by rw[OJ];exact c.rs,by rw[OJ];lia⟩
theorem OK{f:yZ}{ms:yV}:Ci T f ms hour i (j+1)=Ci T f ms hour i j++(if CS T f ms hour i j then [(i,j)] else []):=by
 unfold Ci FN;rw[aB,bY,YM,bH]
 congr 2
 by_cases c:CS T f ms hour i j
 .rw[YR c];simp[c]
 .rw[YN c];simp[c]
theorem Cands.skip{f:yZ}{ms:yV}(c:Cands T f ms hour p H i j zs)(s:Ab H H')(no:¬CS T f ms hour i j):Cands T f ms hour p H' i (j+1) zs:=by
 have l:=c.l;have e:Ci T f ms hour i (j+1)=Ci T f ms hour i j:=by rw[OK,YN no,ZV]
 exact⟨by rw[e];exact Ac.ev (Ev.same s) _ _ c.rs,by rw[e];lia⟩
theorem Cands.put{f:yZ}{ms:yV}{u:V}(c:Cands T f ms hour p H i j zs)(s:Ab H H')(hi:i<=hour)(g:j<T.co.length)(m:CS T f ms hour i j)(ru:Aa p H' (KN T (i,j)) u):Cands T f ms hour p H' i (j+1) (zs++[u]):=by
 have l:=c.l;have e:Ci T f ms hour i (j+1)=Ci T f ms hour i j++[(i,j)]:=by rw[OK,YR m]
 exact⟨by rw[e,YM];exact Ac.append (Ac.ev (Ev.same s) _ _ c.rs) (.cons ru .nil),by rw[e,Z7];simp;lia⟩
theorem Cands.ex{f:yZ}{ms:yV}(c:Cands T f ms hour p H i j zs):∃cs:List (Nat×Nat),cs=Ci T f ms hour i j/\Ac p H (cs.map (KN T)) zs/\cs.length<=i * 4+j:=⟨_,rfl,c.rs,c.l⟩
theorem candL_mem{f:yZ}{ms:yV}{n:Nat}{q:Nat×Nat}:q∈Ci T f ms hour n 0↔q.1<n/\q.2<T.co.length/\CS T f ms hour q.1 q.2:=by
 unfold Ci;rw[ay,List.mem_flatMap];constructor
 .rintro(⟨a,ha,h⟩ | h)
  .obtain⟨rfl,c,g⟩:=rowC_mem.mp h;exact⟨ZM.mp ha,c,g⟩
  .obtain⟨_,c,_⟩:=rowC_mem.mp h;exact absurd c (bF _)
 .rintro⟨h0,c,g⟩;exact .inl ⟨q.1,ZM.mpr h0,rowC_mem.mpr ⟨rfl,c,g⟩⟩
def IH:Sp:=λJ H Q _=>zR (λv Fa Ma h=>∃p T c f ms D,CQ T/\T.lo<=T.hi/\Bz T=none/\h=((c:Nat):Int)/\Aa p H T.d v/\FM H Fa Ma D f ms/\Gr T f ms/\c<ms.length/\ms.getD c 0<T.lo/\∀G I g,FM G Fa Ma D I g->Gr T I g->Nx T c f ms I g->ms.getD c 0<g.getD c 0->(∀k,k<ms.length->ms.getD k 0<=g.getD k 0)->GJ Ma D H G->Q .non G) J
def II:Sp:=λg H Q _=>zH (λv=>∃p T,CQ T/\T.lo<=T.hi/\Bz T=none/\Aa p H T.d v/\∀A c f,Ab H c->FinF T f->Small 30000 2 (FD f)->Aa p c (FD f) (.ref A)->Q (.ref A) c) g
variable{P:yP}{w:yN}{K:Fgx}{mg:Str -> yW}{base:Heap}
theorem WT(F:Df K mg "room_between" waV ["mains","high","first","hour"])(T:Tx mg):Fn P w K mg base 1 "room_between" ["mains","high","first","hour"] IF:=by
 refine F.fn (N:=["mains","high","first","hour"]) AB (λvs H Q E h=>?_) (λf dl A outer s H vs Q E hr h=>?_)
 .cases h;rfl
 refine⟨_,(Ao (Av (UJ rfl rfl T.b_min (Aj (Bh ["main","high"] [none,some 1] rfl (Fp K (Dj (Hs K) (cy 0) (Co (cy 2)) (Co (cy 3)))) (AJ.of rfl) (λ_ _ _ _=>(zD 0)) (λ_ _ _ _=>A8) (λ_ _ _ _=>(Ar BL (cy 1) (cy 0))))) (QM (Ar BL (cy 1) (AH (Bb K) (cy 0) (cy 3) (λ_ _=>rfl))) QL)))),?_⟩;cases h;rename_i h
 .rename_i M hi a h';obtain⟨ms,c,h0,rfl,rfl,lt,l8,hM,q⟩:=h;refine⟨(c:Int),rfl,(h0:Int),rfl,M,_,rfl,Al.of hM,λL hL=>?_⟩;have nL:=Ab.new (o:= .lst (A4 (ms.map V.int) (some (c:Int)) (some (h0:Int)))) hL;have ec:A4 (ms.map V.int) (some (c:Int)) (some (h0:Int))=((ms.take h0).drop c).map V.int:=WM;have I:upd H L (.lst (A4 (ms.map V.int) (some (c:Int)) (some (h0:Int)))) L=some (.lst (((ms.take h0).drop c).map V.int)):=by rw[Af,ec]
  generalize upd H L (.lst (A4 (ms.map V.int) (some (c:Int)) (some (h0:Int))))=H1 at nL I ⊢;have ll:((ms.take h0).drop c).length<=8:=by rw[Zs,YW];lia
  refine⟨L,rfl,⟨_,Al.of I⟩,F3 (xs:=((ms.take h0).drop c).map V.int) (λj g D=>Ab H1 D/\g=(((ms.take h0).drop c).take j).map λm=>V.int (hi-m)) (by rw[Y0];lia) ⟨Ab.refl _,rfl⟩ (λj g D h=>by rw[h.2,Y0,YW];lia) (λj g D _ h=>Al.of (h.1 _ _ I)) (λj x g D hx h=>?_) λg D h=>?_⟩
  .obtain⟨m,G,rfl⟩:=OE hx;refine⟨⟨rfl,trivial⟩,λ_=>⟨h.1,?_⟩,λz=>by cases z⟩;rw[A6 G,YM,h.2];rfl
  intro L2 J;have O:=Ab.new (o:= .lst g) J;have Z:upd D L2 (.lst g) L2=some (.lst ((((ms.take h0).drop c).map (hi- ·)).map V.int)):=by
   rw[Af,h.2,Y0,ZR,bA];rfl
  have s2:=nL.trans (h.1.trans O);generalize upd D L2 (.lst g)=H2 at O Z s2 ⊢;refine⟨M,_,(h0:Int),.int (ms.getD h0 0),rfl,rfl,Al.of (s2 _ _ hM),Db lt,L2,_,_,rfl,Z,rfl,λe=>?_,λMn G hl=>?_⟩
  .rw[<-Ux e];exact q _ s2
  .rw[Uw G hl];exact q _ s2
theorem WU(F:Df K mg "make_cheapest" waU ["terms","firing","mains","hour"])(T:Tx mg)(j9:Fn P w K mg base 1 "room_between" ["mains","high","first","hour"] IF):Fn P w K mg base 2 "make_cheapest" ["terms","firing","mains","hour"] IH:=by
 refine F.fn (N:=["terms","firing","mains","hour","caps","coals","draws","low","high","start","coal","at","boiler","lacking","spare","more","later"]) AB (λvs H Q E h=>?_) (λf dl A outer s H vs Q E hr h=>?_)
 .cases h;rfl
 refine⟨_,(Ak (Bo (cy 0) (AL K (n:=4) (Ai (zD 4) (Ai (zD 5) (Ai (zD 6) (Ai (AL K (n:=3) (Ai (zD 7) (Ai (zD 8) (Ai (zD 9) AK)))) AK)))))) (Ak (Bo (Ax (Kt BOp.mn rfl hr) rfl T.b_min boot_min (Aj (Na ["at","boiler","coal","mains","high","hour","firing","caps","coals"] [none,none,none,some 2,some 8,some 3,some 1,some 4,some 5] rfl (CO rfl T.b_range (Aj (Ar Bs (cy 3) Ag))) (AJ.of rfl) (λ_ _ _ _=>(zD 0)) (λ_ _ _ _=>A8) (λ_ _ _ _=>(EM P w K rfl T.b_enumerate (Aj (cy 8)))) (λ_ _ _ _=>(AL K (n:=2) (Ai (zD 1) (Ai (zD 2) AK)))) (λ_ _ _ _=>(Fi (PW.pt (Ho (Bi EL (AH (Bb K) (AH (Bb K) (cy 6) (cy 0) (λ_ _=>rfl)) (cy 1) (λ_ _=>rfl)) (AH (Bw K) (AH (Bw K) (cy 7) (cy 0) (λ_ _=>rfl)) (cy 1) (λ_ _=>rfl)) (Ba _)) (Jg (Bi Mw (zB j9 hr (B3 (cy 3) (cy 4) (cy 0) (cy 5))) Ag (Ba _))))))) (λ_ _ _ _=>(AT (AM (cy 2) (cy 0) (cy 1))))))) (AL K (n:=3) (Ai (zD 10) (Ai (zD 11) (Ai (zD 12) AK))))) (Ak (zE 13 (Ar BL (cy 7) (AH (Bb K) (cy 2) (cy 3) (λ_ _=>rfl)))) (Ak (zE 14 (Ar BL (AH (Bw K) (AH (Bw K) (cy 4) (cy 11) (λ_ _=>rfl)) (cy 12) (λ_ _=>rfl)) (AH (Bb K) (AH (Bb K) (cy 1) (cy 11) (λ_ _=>rfl)) (cy 12) (λ_ _=>rfl)))) (Ak (zE 15 (Ax (UK rfl) rfl T.b_min boot_min (AM (cy 13) (cy 14) (zB j9 hr (B3 (cy 2) (cy 8) (cy 11) (cy 3)))))) (Ak (Li (AH (Bb K) (cy 1) (cy 11) (λ_ _=>rfl)) (cy 12) NW (cy 15) Jk Hd) (Ao (Cm Zq rfl (Lp rfl T.b_range (As (cy 11) (Ax (Bl K) rfl T.b_len PySem.boot_len (Aj (cy 2))))) (zD 16) (Ao (Li (cy 2) (cy 16) NW (cy 15) Jk Hd)))))))))),?_⟩;cases h;rename_i h
 .rename_i v Fa O h';obtain⟨p,T,g,f,ms,G,fl,lh,no,rfl,r,J,gr,hh,l6,q⟩:=h;obtain⟨A,C,B,D,M,xc,rfl,hA,hC,rc,hB,hD,hM⟩:=Aa.terms r;have l8:=fl.ok.l8;have o4:=fl.o;have lm:=gr.lm;have lf:=gr.lf;have lc:=fl.ok.lc;have lr:G.length=T.ds.length:=by rw[J.l,lf]
  have lx:=rc.len;rw[Y0]at lx;refine⟨A,_,rfl,Ae.of hA,rfl,_,_,rfl,_,_,rfl,_,_,rfl,_,_,rfl,M,_,rfl,Ae.of hM,rfl,_,_,rfl,_,_,rfl,_,_,rfl,rfl,rfl,?_⟩;refine EA (σ':=[some (.ref A),some (.ref Fa),some (.ref O),some (.int (g:Int)),some (.ref C),some (.ref B),some (.ref D),some (.int T.lo),some (.int T.hi),some (.int T.st),none,none,none,none,none,none,none]) rfl ?_;refine⟨_,rfl,by lia,by lia,?_⟩;rw[show((g:Int)+1).toNat=g+1 by lia];refine Nh (n:=g+1) (λi zs H'=>Ab H H'/\Cands T f ms g p H' i 0 zs) ⟨Ab.refl _,Cands.zero⟩ (λi zs H1 hi h=>?_) λzs H1 h=>?_
  .refine⟨⟨rfl,rfl,rfl,rfl,rfl,rfl,trivial⟩,λ_=>?_,λz=>by cases z⟩;refine⟨B,rfl,⟨_,Ae.of (h.1 _ _ hB)⟩,Nd (xs:=T.co.map V.int) (λj ys H2=>Ab H H2/\j<=T.co.length/\Cands T f ms g p H2 i j ys) ⟨h.1,Z6 _,h.2⟩ (λj ys H2 Z=>?_) (λj ys H2 Z=>Ae.of (Z.1 _ _ hB)) (λj x ys H2 U hx Z hU=>?_) λys H2 Z=>?_⟩
   .obtain⟨cs,_,rs,l⟩:=Z.2.2.ex;have:=rs.len;rw[Y0]at this;have:i * 4<=7 * 4:=bu 4 (by lia);lia
   .obtain⟨c,hc,rfl⟩:=OE hx;have hj:j<T.co.length:=(Y3.mp hc).1;have nU:=Ab.new (o:= .tup [.int (j:Int),.int c]) hU;have s2:=Z.1.trans nU;have kU:upd H2 U (.tup [.int (j:Int),.int c]) U=some (.tup [.int (j:Int),.int c]):=Af;generalize upd H2 U (.tup [.int (j:Int),.int c])=H3 at nU s2 kU ⊢;have I:i<G.length:=by lia
    have i4:i<T.cs.length:=by lia
    have j4:=gr.row i (by lia);have k9:=(fl.c _ (getD_mem (l:=T.cs) (d:=[]) i4)).1;obtain⟨cr,i7,i6⟩:=Aa.capRow rc hC i4;refine⟨U,_,rfl,Ae.of kU,rfl,_,_,rfl,_,_,rfl,rfl,⟨rfl,rfl,rfl,rfl,rfl,rfl,rfl,trivial⟩,?_⟩;rw[show(0+(i:Int))=(i:Int) by lia];refine⟨Fa,_,(i:Int),.ref (G.getD i 0),rfl,rfl,Al.of (s2 _ _ J.a),KM I,G.getD i 0,_,(j:Int),.int ((f.getD i []).getD j 0),rfl,rfl,Al.of (s2 _ _ (J.r i I)),Db (by lia),C,_,(i:Int),.ref cr,rfl,rfl,Ae.of (s2 _ _ hC),i7,cr,_,(j:Int),.int ((T.cs.getD i []).getD j 0),rfl,rfl,Ae.of (s2 _ _ i6),Db (by lia),?_⟩;have ec:T.co.getD j 0=c:=by rw[Y7,hc];rfl
    refine⟨λc1=>?_,λc1=>⟨λz=>(by cases z),λ_=>⟨s2,hj,Z.2.2.skip nU λm=>absurd m.1 (aa c1)⟩⟩⟩;refine⟨ms,i,g,rfl,rfl,hh,by lia,s2 _ _ J.m,λH4 s4=>⟨λc2=>λu H5 s5 k5=>?_,λc2=>⟨s2.trans s4,hj,Z.2.2.skip (nU.trans s4) λm=>absurd m.2 (aa c2)⟩⟩⟩;refine⟨s2.trans (s4.trans s5),hj,Z.2.2.put (nU.trans (s4.trans s5)) (by lia) hj ⟨Z3 c1,Z3 c2⟩ ?_⟩;show Aa p H5 (.tuple [.int (T.co.getD j 0),.int (i:Int),.int (j:Int)]) (.ref u);rw[ec];exact Aa.tup k5 (.cons Aa.int (.cons Aa.int (.cons Aa.int .nil)))
   .refine⟨Z.1,Cands.row ?_ o4⟩;have:=Z.2.2;rw[Y0]at this;exact this
  .intro L hL;obtain⟨cs,i8,rs,o9⟩:=h.2.ex;have h1:∀q∈cs,q.1<=g/\q.2<T.co.length/\CS T f ms g q.1 q.2:=λq hq=>by
    rw[i8]at hq;obtain⟨a1,a2,a3⟩:=candL_mem.mp hq;exact⟨by lia,a2,a3⟩
   have Z:∀a b,a<g+1->b<T.co.length->CS T f ms g a b->(a,b)∈cs:=λa b x y z=>by rw[i8];exact candL_mem.mpr ⟨x,y,z⟩
   have nL:=Ab.new (o:= .lst zs) hL;have kL:upd H1 L (.lst zs) L=some (.lst zs):=Af;have s2:=h.1.trans nL;generalize upd H1 L (.lst zs)=H2 at nL kL s2 ⊢;have j6:=Ac.ev (Ev.same (p:=p) nL) _ _ rs;have l9:Ac p H2 ((cs.map λq=>(T.co.getD q.2 0,[PyData.int (q.1:Int),PyData.int (q.2:Int)])).map λq=> .tuple (.int q.1::q.2)) zs:=by rw[bA];exact j6
   refine⟨p,L,_,_,rfl,kL,l9,?_,?_,λk qq u hq hv j7=>?_⟩
   .obtain⟨a,b,ha,hb,m⟩:=UA fl lh no gr hh l6;intro e;have e2:=List.map_eq_nil_iff.mp e;have:=Z a b (by lia) hb m;rw[e2]at this;cases this
   .intro q1 m1 q2 m2;obtain⟨_,_,rfl⟩:=Z8.mp m1;obtain⟨_,_,rfl⟩:=Z8.mp m2;exact .cons (.int _ _) (.cons (.int _ _) .nil)
   obtain⟨⟨a,b⟩,hg,rg⟩:=Ac.mapGot j6 hv;obtain⟨j8,j0,i5⟩:=h1 _ (YU hg);have o8:qq=gC T (a,b):=by rw[YO,hg]at hq;exact(Y9 hq).symm
   rw[o8,i8]at j7;have ha:a<=g:=j8;have hb:b<T.co.length:=j0;have j5:CS T f ms g a b:=i5;clear j8 j0 i5;obtain⟨t,xs,rfl,ht,rx⟩:=Aa.shape rg;rw[Ac.ints (ns:=[T.co.getD b 0,(a:Int),(b:Int)]) rx]at ht;have I:a<G.length:=by lia
   have i4:a<T.cs.length:=by lia
   have j4:=gr.row a (by lia);have k9:=(fl.c _ (getD_mem (l:=T.cs) (d:=[]) i4)).1;obtain⟨cr,i7,i6⟩:=Aa.capRow rc hC i4;refine⟨t,_,rfl,Ae.of ht,rfl,_,_,rfl,_,_,rfl,_,_,rfl,rfl,?_⟩;refine EA (σ':=[some (.ref A),some (.ref Fa),some (.ref O),some (.int (g:Int)),some (.ref C),some (.ref B),some (.ref D),some (.int T.lo),some (.int T.hi),some (.int T.st),some (.int (T.co.getD b 0)),some (.int (a:Int)),some (.int (b:Int)),none,none,none,none]) rfl ?_;refine⟨O,_,(g:Int),.int (ms.getD g 0),rfl,rfl,Al.of (s2 _ _ J.m),Db hh,?_⟩;dsimp only[mI0,Dt];refine EA (σ':=[some (.ref A),some (.ref Fa),some (.ref O),some (.int (g:Int)),some (.ref C),some (.ref B),some (.ref D),some (.int T.lo),some (.int T.hi),some (.int T.st),some (.int (T.co.getD b 0)),some (.int (a:Int)),some (.int (b:Int)),some (.int (T.lo-ms.getD g 0)),none,none,none]) rfl ?_;refine⟨C,_,(a:Int),.ref cr,rfl,rfl,Ae.of (s2 _ _ hC),i7,cr,_,(b:Int),.int ((T.cs.getD a []).getD b 0),rfl,rfl,Ae.of (s2 _ _ i6),Db (by lia),Fa,_,(a:Int),.ref (G.getD a 0),rfl,rfl,Al.of (s2 _ _ J.a),KM I,G.getD a 0,_,(b:Int),.int ((f.getD a []).getD b 0),rfl,rfl,Al.of (s2 _ _ (J.r a I)),Db (by lia),?_⟩;dsimp only[mI0,Dt];refine EA (σ':=[some (.ref A),some (.ref Fa),some (.ref O),some (.int (g:Int)),some (.ref C),some (.ref B),some (.ref D),some (.int T.lo),some (.int T.hi),some (.int T.st),some (.int (T.co.getD b 0)),some (.int (a:Int)),some (.int (b:Int)),some (.int (T.lo-ms.getD g 0)),some (.int ((T.cs.getD a []).getD b 0-(f.getD a []).getD b 0)),none,none]) rfl ?_;refine⟨ms,a,g,rfl,rfl,hh,by lia,s2 _ _ J.m,λH4 s4=>⟨_,_,_,rfl,λm hm m1 m2 m3=>?_⟩⟩;have s5:=s2.trans s4;have m0:0<m:=by
    have:=j5.1;have:=j5.2;rcases hm with rfl | rfl | rfl<;>lia
   have j3:=OH (ns:=f.getD a []) (b:=b) (by lia);have l7:CW ((f.getD a []).map V.int).length (b:Int)=some b:=OI (by rw[Y0];lia);dsimp only[mI0,Dt];refine EA (σ':=[some (.ref A),some (.ref Fa),some (.ref O),some (.int (g:Int)),some (.ref C),some (.ref B),some (.ref D),some (.int T.lo),some (.int T.hi),some (.int T.st),some (.int (T.co.getD b 0)),some (.int (a:Int)),some (.int (b:Int)),some (.int (T.lo-ms.getD g 0)),some (.int ((T.cs.getD a []).getD b 0-(f.getD a []).getD b 0)),some (.int m),none]) rfl ?_;refine⟨Fa,_,(a:Int),.ref (G.getD a 0),rfl,rfl,Al.of (s5 _ _ J.a),KM I,?_⟩;refine⟨G.getD a 0,_,b,.int ((f.getD a []).getD b 0),rfl,rfl,s5 _ _ (J.r a I),j3,?_⟩;refine⟨_,_,rfl,rfl,?_⟩;refine⟨G.getD a 0,_,(b:Int),b,rfl,rfl,s5 _ _ (J.r a I),l7,?_⟩;have e6:((f.getD a []).map V.int).set b (V.int ((f.getD a []).getD b 0+m))=((f.getD a []).set b ((f.getD a []).getD b 0+m)).map V.int:=by rw[map_set]
   have k6:upd H4 (G.getD a 0) (.lst (((f.getD a []).map V.int).set b (V.int ((f.getD a []).getD b 0+m)))) (G.getD a 0)=some (.lst (((f.getD a []).set b ((f.getD a []).getD b 0+m)).map V.int)):=by rw[Af,e6]
   have o6:∀c o,H4 c=some o->c≠G.getD a 0->upd H4 (G.getD a 0) (.lst (((f.getD a []).map V.int).set b (V.int ((f.getD a []).getD b 0+m)))) c=some o:=λc o e n=>by rw[Ap n];exact e
   generalize upd H4 (G.getD a 0) (.lst (((f.getD a []).map V.int).set b (V.int ((f.getD a []).getD b 0+m))))=H6 at k6 o6 ⊢;have m6:H6 O=some (.lst (ms.map V.int)):=o6 _ _ (s5 _ _ J.m) (Zo (J.nm a I));refine⟨O,_,rfl,.inl (Al.of m6),?_⟩;rw[Y0];refine⟨_,_,rfl,⟨by lia,by lia,by lia,by lia⟩,?_⟩;rw[show((ms.length:Int)-(a:Int)).toNat=ms.length-a by lia];refine EE (n:=ms.length-a) (λe σ H'=>(∃i9,σ=[some (.ref A),some (.ref Fa),some (.ref O),some (.int (g:Int)),some (.ref C),some (.ref B),some (.ref D),some (.int T.lo),some (.int T.hi),some (.int T.st),some (.int (T.co.getD b 0)),some (.int (a:Int)),some (.int (b:Int)),some (.int (T.lo-ms.getD g 0)),some (.int ((T.cs.getD a []).getD b 0-(f.getD a []).getD b 0)),some (.int m),i9])/\H' O=some (.lst ((Cu ms a (a+e) m).map V.int))/\∀c o,H6 c=some o->c≠O->H' c=some o) ⟨⟨_,rfl⟩,by rw[Nat.add_zero,UB];exact m6,λc o e n=>e⟩ (λe σ H7 he h7=>?_) fun σ H7 h7=>?_
   .obtain⟨⟨i9,rfl⟩,m7,o7⟩:=h7;have le:=EY (ms:=ms) (a:=a) (e:=a+e) (m:=m);have hg:=OH (ns:=Cu ms a (a+e) m) (b:=a+e) (by lia);refine⟨O,_,a+e,_,rfl,by rw [dS],m7,hg,_,_,rfl,rfl,O,_,((a+e:Nat):Int),a+e,rfl,by rw [dS],m7,OI (by rw [Y0];lia),⟨_,rfl⟩,?_,λc o e1 n=>?_⟩
    .rw[Af,<-Nat.add_assoc,<-UC (by lia) (by lia),map_set]
    .rw[Ap n];exact o7 c o e1 n
   obtain⟨⟨i9,rfl⟩,m7,o7⟩:=h7;rw[show a+(ms.length-a)=ms.length by lia]at m7;have at1:∀i,(EZ f a b m).getD i []=if i=a then(f.getD a []).set b ((f.getD a []).getD b 0+m) else f.getD i []:=λi=>Ku (by lia)
   refine q H7 (EZ f a b m) (Cu ms a ms.length m) ⟨o7 _ _ (o6 _ _ (s5 _ _ J.a) (Zo (J.nf a I))) J.fm,λi hi=>?_,by rw[show(EZ f a b m).length=f.length from dq];exact J.l,J.nd,m7,J.nm,J.nf,J.fm⟩ (gr.more (by lia) hb (by lia) m2) ⟨a,b,m,j7,hm,m1,m2,m3,rfl,rfl⟩ ?_ (λk hk=>?_) λc o e n1 n2=>?_
   .rw [at1]
    by_cases e:i=a
    .rw[YR e,e];exact o7 _ _ k6 (J.nm a I)
    .rw[YN e];exact o7 _ _ (o6 _ _ (s5 _ _ (J.r i hi)) λz=>e (J.nd i a hi I z)) (J.nm i hi)
   .rw[Go hh,YR ⟨ha,hh⟩];lia
   .rw[Go hk];split<;>lia
   .refine o7 _ _ (o6 _ _ (s5 _ _ e) λz=>n2 ?_) n1;rw[z];exact getD_mem I
theorem za6:Aw ["terms","caps","coals","draws","low","high","start","firing","mains","hour"] ["terms"] (Am waT):=AB
theorem WV(F:Df K mg "least_firing" waT ["terms"])(T:Tx mg)(o9:Fn P w K mg base 2 "make_cheapest" ["terms","firing","mains","hour"] IH):Fn P w K mg base 3 "least_firing" ["terms"] II:=by
 refine F.fm za6 λf dl A outer s H vs Q E hr h=>?_
 refine⟨_,(Ak (Bo (cy 0) (AL K (n:=4) (Ai (zD 1) (Ai (zD 2) (Ai (zD 3) (Ai (AL K (n:=3) (Ai (zD 4) (Ai (zD 5) (Ai (zD 6) AK)))) AK)))))) (Ak (Fj (i:=7) ["row","coals"] [none,some 2] za6.nd rfl (AC (by rfl)) rfl (BO K (cy 1)) (AJ.of rfl) (λ_ _ _ _=>(zD 0)) (λ_ _ _ _=>A8) (λ_ _ _ _=>(Bh ["coal"] [none] rfl (BO K (cy 1)) (AJ.of rfl) (λ_ _ _ _=>(zD 0)) (λ_ _ _ _=>A8) (λ_ _ _ _=>Ag)))) (Ak (Fj (i:=8) ["hour","start","draws"] [none,some 6,some 3] za6.nd rfl (AC (by rfl)) rfl (CO rfl T.b_range (Aj (Ax (Bl K) rfl T.b_len PySem.boot_len (Aj (cy 3))))) (AJ.of rfl) (λ_ _ _ _=>(zD 0)) (λ_ _ _ _=>A8) (λ_ _ _ _=>(Ar BL (cy 1) (Ax (Eo rfl) rfl T.b_sum aW (Aj (Dj wa0 (cy 2) EG (Co (Ar Bs (cy 0) Ag)))))))) (Ak (Cm Zq rfl (CO rfl T.b_range (Aj (Ax (Bl K) rfl T.b_len PySem.boot_len (Aj (cy 3))))) (zD 9) (Ao (P5 Zq (Bi EL (AH (Bb K) (cy 8) (cy 9) (λ_ _=>rfl)) (cy 4) (Ba _)) (Ao (B7 (zB o9 hr (B3 (cy 0) (cy 7) (cy 8) (cy 9)))))))) (Ao (Av (BI (BX K) rfl T.b_tuple BT (Aj (Bh ["row"] [none] rfl (Fp K (cy 7)) (AJ.of rfl) (λ_ _ _ _=>(zD 0)) (λ_ _ _ _=>A8) (λ_ _ _ _=>(BI (BX K) rfl T.b_tuple BT (Aj (cy 0))))))))))))),?_⟩;cases h;rename_i h
 .rename_i v;obtain⟨p,T,fl,lh,no,r,q⟩:=h;obtain⟨A,C,B,D,M,xc,rfl,hA,hC,rc,hB,hD,hM⟩:=Aa.terms r;have l8:=fl.ok.l8;have o4:=fl.o;have lc:=fl.ok.lc;have lx:=rc.len;rw[Y0]at lx;refine⟨A,_,rfl,Ae.of hA,rfl,_,_,rfl,_,_,rfl,_,_,rfl,_,_,rfl,M,_,rfl,Ae.of hM,rfl,_,_,rfl,_,_,rfl,_,_,rfl,rfl,rfl,?_⟩;refine EA (σ':=[some (.ref A),some (.ref C),some (.ref B),some (.ref D),some (.int T.lo),some (.int T.hi),some (.int T.st),none,none,none]) rfl ?_;refine⟨C,rfl,⟨xc,Ae.of hC⟩,BS (xs:=xc) (λi J H'=>Ab H H'/\Rows0 H H' i T.co.length J) (by lia) ⟨Ab.refl _,Rows0.zero⟩ (λi J H1 h=>by rw[h.2.len];lia) (λi J H1 _ h=>Ae.of (h.1 _ _ hC)) (λi x J H1 hx h=>?_) λJ H1 h=>?_⟩
  .refine⟨⟨rfl,trivial⟩,λ_=>?_,λz=>by cases z⟩;refine⟨B,rfl,⟨_,Ae.of (h.1 _ _ hB)⟩,BS (xs:=T.co.map V.int) (λj ys H2=>Ab H1 H2/\ys=(List.replicate j (0:Int)).map V.int) (by rw [Y0];lia) ⟨Ab.refl _,rfl⟩ (λj ys H2 h2=>by rw [h2.2,Y0,Zw];lia) (λj ys H2 _ h2=>Ae.of (h2.1 _ _ (h.1 _ _ hB))) (λj y ys H2 hy h2=>?_) λys H2 h2=>?_⟩
   .refine⟨trivial,λ_=>⟨h2.1,?_⟩,λz=>by cases z⟩;rw[h2.2,List.replicate_succ',YM];rfl
   .intro L hL;rw[Y0]at h2;have nL:=Ab.new (o:= .lst ys) hL;have n1:H1 L=none:=by
     cases z:H1 L with
     |none=>rfl
     |some o=>have:=h2.1 _ _ z;rw[hL]at this;cases this
    exact⟨h.1.trans (h2.1.trans nL),h.2.put h.1 (h2.1.trans nL) n1 (by rw[Af,h2.2])⟩
  intro Z j4;obtain⟨I,rfl,lr,i8,o8⟩:=h.2.ex;have nF:=Ab.new (o:= .lst (I.map V.ref)) j4;have kF:upd H1 Z (.lst (I.map V.ref)) Z=some (.lst (I.map V.ref)):=Af;have s2:=h.1.trans nF;have fF:H Z=none:=by
   cases z:H Z with
   |none=>rfl
   |some o=>have:=h.1 _ _ z;rw[j4]at this;cases this
  have k9:∀k,k<I.length->I.getD k 0≠Z:=λk hk e=>by
   have:=(i8 k (by lia)).2;rw[e,j4]at this;cases this
  have i9:∀k,k<I.length->upd H1 Z (.lst (I.map V.ref)) (I.getD k 0)=some (.lst ((List.replicate T.co.length (0:Int)).map V.int)):=λk hk=>nF _ _ (i8 k (by lia)).2
  generalize upd H1 Z (.lst (I.map V.ref))=H2 at nF kF s2 i9 ⊢;refine EA (σ':=[some (.ref A),some (.ref C),some (.ref B),some (.ref D),some (.int T.lo),some (.int T.hi),some (.int T.st),some (.ref Z),none,none]) rfl ?_;refine⟨D,_,rfl,.inr (Ae.of (s2 _ _ hD)),?_⟩;rw[Y0];refine⟨_,rfl,by lia,by lia,?_⟩;rw[show((T.ds.length:Int)).toNat=T.ds.length by lia];refine F4 (n:=T.ds.length) (λi J H'=>Ab H2 H'/\J=((List.range i).map λk=>T.st-(T.ds.take (k+1)).sum).map V.int) (by lia) ⟨Ab.refl _,rfl⟩ (λi J H' h=>by rw[h.2,Y0,Y0,af];lia) (λi J H' hi h=>?_) λJ H3 h3=>?_
  .refine⟨⟨rfl,rfl,trivial⟩,λ_=>?_,λz=>by cases z⟩;have e1:(0+(i:Int))+1=((i+1:Nat):Int):=by lia
   refine⟨(0+(i:Int))+1,rfl,D,_,rfl,h.1 _ _ (s2 _ _ hD),λl H4 s4 k4=>?_⟩;rw[e1,UM,<-map_take]at k4;refine⟨l,_,rfl,.inr k4,h.1.trans s4,?_⟩;rw[h.2,aB,YM,YM];rfl
  intro O i7;have em:J=(Ec T).map V.int:=h3.2;have nM:=Ab.new (o:= .lst J) i7;have kM:upd H3 O (.lst J) O=some (.lst ((Ec T).map V.int)):=by rw[Af,em]
  have s4:=s2.trans (h3.1.trans nM);have fM:H O=none:=by
   cases z:H O with
   |none=>rfl
   |some o=>have:=(s2.trans h3.1) _ _ z;rw[i7]at this;cases this
  have j6:=(h3.1.trans nM) _ _ kF;have j8:=λk hk=>(h3.1.trans nM) _ _ (i9 k hk)
  have l6:Z≠O:=BC (h3.1 _ _ kF) i7;have j9:∀k,k<I.length->I.getD k 0≠O:=λk hk=>BC (h3.1 _ _ (i9 k hk)) i7
  generalize upd H3 O (.lst J)=H4 at nM kM s4 j6 j8 ⊢;have q8:I.length=T.ds.length:=by lia
  have l9:FM H4 Z O I (IG T) (Ec T):=⟨j6,λk hk=>by unfold IG;rw[GK (by lia)];exact j8 k hk,by unfold IG;rw[Zw];exact q8,λa b ha hb e=>o8 a b (by lia) (by lia) e,kM,j9,k9,l6⟩;have own:∀ {G:Hp},GJ O I H4 G->Ab H G:=λ{G} e b o hb=>by
   refine e b o (s4 _ _ hb) (λz=>by rw[z,fM]at hb;cases hb) λz=>?_
   obtain⟨k,hk,e2⟩:=WN z;rw[<-e2,(i8 k (by lia)).1]at hb;cases hb
  refine EA (σ':=[some (.ref A),some (.ref C),some (.ref B),some (.ref D),some (.int T.lo),some (.int T.hi),some (.int T.st),some (.ref Z),some (.ref O),none]) rfl ?_;refine⟨D,_,rfl,.inr (Ae.of (s4 _ _ hD)),?_⟩;rw[Y0];refine⟨_,rfl,by lia,by lia,?_⟩;rw[show((T.ds.length:Int)).toNat=T.ds.length by lia];refine EE (n:=T.ds.length) (λi σ G=>(∃x9,σ=[some (.ref A),some (.ref C),some (.ref B),some (.ref D),some (.int T.lo),some (.int T.hi),some (.int T.st),some (.ref Z),some (.ref O),x9])/\GJ O I H4 G/\∃N f ms,FM G Z O I f ms/\Gr T f ms/\Rs T N i f ms) ⟨⟨_,rfl⟩,λb o e _ _=>e,0,_,_,l9,WP fl,.zero⟩ (λi σ G hi hP=>?_) fun σ G hP=>?_
  .obtain⟨⟨x9,rfl⟩,i5,N,f,ms,fi,gr,i6⟩:=hP;rw [show(0+(i:Int))=(i:Int) by lia];have j5:∀ {f ms},Gr T f ms->i<ms.length:=λg=>by rw [g.lm];exact hi
   refine⟨λn σ G=>σ=[some (.ref A),some (.ref C),some (.ref B),some (.ref D),some (.int T.lo),some (.int T.hi),some (.int T.st),some (.ref Z),some (.ref O),some (.int (i:Int))]/\GJ O I H4 G/\∃N f ms,FM G Z O I f ms/\Gr T f ms/\Rs T N i f ms/\n=(T.lo-ms.getD i 0).toNat,⟨_,rfl,i5,N,f,ms,fi,gr,i6,rfl⟩,λn σ G hW=>?_⟩;obtain⟨rfl,i5,N,f,ms,fi,gr,i6,rfl⟩:=hW;refine⟨O,_,(i:Int),.int (ms.getD i 0),rfl,rfl,Al.of fi.m,Db (j5 gr),?_⟩
   by_cases c:ms.getD i 0<T.lo
   .show if decide (ms.getD i 0<T.lo)=true then _ else _
    rw[YR (ZE c)];have sG:=own i5;refine⟨fun σ G'=>σ=[some (.ref A),some (.ref C),some (.ref B),some (.ref D),some (.int T.lo),some (.int T.hi),some (.int T.st),some (.ref Z),some (.ref O),some (.int (i:Int))]/\GJ O I H4 G'/\∃N' f' i4,FM G' Z O I f' i4/\Gr T f' i4/\Rs T N' i f' i4/\ms.getD i 0<i4.getD i 0,fun σ' G' hN=>?_,?_⟩
    .obtain⟨e1,e2,N',f',i4,j0,j3,j7,lt⟩:=hN;exact⟨_,by lia,e1,e2,N',f',i4,j0,j3,j7,rfl⟩
    .refine⟨p,T,i,f,ms,I,fl,lh,no,rfl,Aa.ev (Ev.same sG) _ _ r,fi,gr,j5 gr,c,λG' f' i4 j0 j3 nx lt mono l7=>⟨rfl,λb o e n1 n2=>l7 b o (i5 b o e n1 n2) n1 n2,_,f',i4,j0,j3,.next i6 hi c nx,lt⟩⟩
   .show if decide (ms.getD i 0<T.lo)=true then _ else _
    rw[YN (by rw[Zu c];exact YT)];exact⟨⟨_,rfl⟩,i5,_,f,ms,fi,gr,.done i6 hi c⟩
  obtain⟨⟨x9,rfl⟩,i5,N,f,ms,fi,gr,i6⟩:=hP;have sG:=own i5;have lf:=gr.lf;refine⟨Z,rfl,⟨_,Al.of fi.a⟩,F3 (xs:=I.map V.ref) (λj J G'=>Ab G G'/\Ac p G' ((f.take j).map AN) J) (by rw[Y0];lia) ⟨Ab.refl _,.nil⟩ (λj J G' h=>?_) (λj J G' _ h=>Al.of (h.1 _ _ fi.a)) (λj x J G' hx h=>?_) λJ G' h=>?_⟩
  .have:=h.2.len;rw[Y0,YW]at this;lia
  .rw[YO]at hx;have hj:j<I.length:=by
    cases z:I[j]? with
    |none=>rw[z]at hx;cases hx
    |some ra=>exact(Y3.mp z).1
   have ex:x= .ref (I.getD j 0):=by
    rw[Y5 hj]at hx;rw[Y7,Y5 hj];exact(Y9 hx).symm
   subst ex;refine⟨trivial,λ_=>⟨I.getD j 0,_,rfl,.inl ⟨Al.of (h.1 _ _ (fi.r j hj)),λt ht=>?_⟩⟩,λz=>by cases z⟩;have nt:=Ab.new (o:= .tup ((f.getD j []).map V.int)) ht;have gj:f[j]? =some (f.getD j []):=by rw[Y7,Y5 (by lia)];rfl
   refine⟨h.1.trans nt,?_⟩;rw[A6 gj,YM];exact Ac.append (Ac.ev (Ev.same nt) _ _ h.2) (.cons (Aa.row Af) .nil)
  .intro L hL;refine⟨L,_,rfl,.inl ⟨Al.of Af,λt ht=>?_⟩⟩;have nL:=Ab.new (o:= .lst J) hL;have nt:=Ab.new (o:= .tup J) ht;have rs:=h.2;rw[Y0,YS (by lia)]at rs;refine q t _ f (sG.trans (h.1.trans (nL.trans nt))) ⟨_,_,i6⟩ (WR fl gr) ?_;exact Aa.tup Af (Ac.ev (Ev.same (nL.trans nt)) _ _ rs)
end
section
def WW(r c:yV):Prop:=r.length=c.length/\∀(j:Nat) (x y:Int),r[j]? =some x->c[j]? =some y->0<=x/\x<=y
def IJ:Sp:=λg H Q _=>zM (λp v=>Bd p H/\∃P S,PL.ok P/\SY.ok S P.bs.length/\Aa p H (EN P S) v/\∀w c F,FOk P S F->Aa p c (FD F) w->Ev p H c->Bd p c->Q w c) g
theorem OL{g:Type}{l:List g}{a x:g}{k:Nat}(h:(l++[a])[k]? =some x):l[k]? =some x\/(k=l.length/\x=a):=by
 by_cases c:k<l.length
 .rw[aq c]at h;exact .inl h
 .rw[aG (by lia)]at h;have:k-l.length=0:=by
   have:=(Y3.mp h).1;simp at this;lia
  rw[this]at h;cases h;exact .inr ⟨by lia,rfl⟩
section
variable{P:yP}{w:yN}{K:Fgx}{mg:Str -> yW}{base:Heap}
theorem WX(F:Df K mg "_law_firing" wb7 ["_law_pen_here","_law_caps_here"])(T:Tx mg)(i7:Gz P w K mg base):Fn P w K mg base 2 "_law_firing" ["_law_pen_here","_law_caps_here"] IJ:=by
 refine F.fn (N:=["_law_pen_here","_law_caps_here","_law_way","_law_rows","_law_row"]) AB (λvs H Q E h=>?_) (λf dl A outer s H vs Q E G h=>?_)
 .cases h;rfl
 refine⟨_,(Ak (Bo (BF (As (zB i7 G (As (cy 0) Ag)) (A5 BE))) (AL K (n:=2) (Ai (zD 2) (Ai (zD 3) AK)))) (Ak (Cm Zq rfl (BO K (cy 1)) (zD 4) (Ao (B7 (DC PySem.F.plainAttrs_list PySem.F.slot_list_append PySem.F.type_list_append DO (cy 3) (Aj (BI (BX K) rfl T.b_tuple BT (Aj (Bh ["_law_cap","_law_way","_law_pen_here"] [none,some 2,some 0] rfl (BO K (cy 4)) (AJ.of rfl) (λ_ _ _ _=>(zD 0)) (λ_ _ _ _=>A8) (λ_ _ _ _=>(AH (Bb K) (A5 (B3 (cy 0) Ag (zB i7 G (As (cy 2) (Ar Bs (cy 0) Ag))) (zB i7 G (As (cy 2) (Ar Bs (cy 0) Ag))))) (cy 1) (λ_ _=>rfl))))))))))) (Ao (Av (BI (BX K) rfl T.b_tuple BT (Aj (cy 3))))))),?_⟩;cases h;rename_i h
 .rename_i p v;obtain⟨pn,P,S,ok,so,r,q⟩:=h;have x8:=so.x8;have b4:=ok.b4;refine⟨pn,by decide,by decide,λD H1 a1 c1 e1 j4 R hR l0 j3=>⟨l0,_,rfl,Ae.of Af,rfl,_,_,rfl,_,_,rfl,rfl,?_⟩⟩;have nR:R≠p:=j4.ne hR;have o8:H R=none:=by
   cases z:H R with
   |none=>rfl
   |some o=>exact((e1 R o z).elim (fun⟨x,_⟩=>absurd x nR) λx=>by rw[x]at hR;cases hR)
  have s2:Ab H1 (upd (upd H1 R (.lst [])) l0 (.tup [.int D,.ref R])):=(Ab.new hR).trans (Ab.new j3);have J:=(Ab.new (o:= .tup [.int D,.ref R]) j3) _ _ (Af (H:=H1) (a:=R) (o:= .lst []));unfold EN at r;obtain⟨A,xs,rfl,hA,rx⟩:=Aa.shape (Aa.ev (e1.trans (Ev.same s2)) _ _ r);have lx:=rx.len;rw[Y0,Cr]at lx;refine⟨A,rfl,⟨xs,Ae.of hA⟩,Qf (xs:=xs) (λi σ I=>(∃x4,σ=[some (.ref p),some (.ref A),some (.int D),some (.ref R),x4])/\Ev p (upd (upd H1 R (.lst [])) l0 (.tup [.int D,.ref R])) (upd I R (.lst []))/\Ev p H I/\Bd p I/\∃Z F,I R=some (.lst Z)/\Ac p I (F.map AN) Z/\F.length=i/\∀(k:Nat) (r c:yV),F[k]? =some r->(caps P S)[k]? =some c->WW r c)
   ⟨⟨_,rfl⟩,?_,e1.trans (Ev.same s2),j4.same s2,[],[],J,.nil,rfl,(λk r c h=>by simp at h)⟩ (λi σ I _ h=>?_) (λi x σ I g h=>?_) fun σ I h=>?_⟩
  .intro b o hb
   by_cases z:b=R
   .subst z;rw[J]at hb;cases hb;exact .inr Af
   .exact .inr (by rw[Ap z];exact hb)
  .have ha:=h.2.1.tup hA;have:A≠R:=by
    intro z;subst z;rw[J]at hA;cases hA
   rw[Ap this]at ha;exact Ae.of ha
  .obtain⟨⟨x4,rfl⟩,i8,ev,i4,Z,F,L,rF,lF,O⟩:=h;obtain⟨cs,i5,l6⟩:=Ac.mapGot rx g;have j8:=(CP ok cs (YU i5)).1;have o9:=(CP ok cs (YU i5)).2;obtain⟨C,rfl,hC⟩:=Aa.ofRow l6;have j0:I C=some (.tup (cs.map V.int)):=by
    have ha:=i8.tup hC;have:C≠R:=by
     intro z;subst z;rw[J]at hC;cases hC
    rw[Ap this]at ha;exact ha
   refine⟨.inl ⟨rfl,_,Al.of L⟩,C,rfl,⟨_,Ae.of j0⟩,BS (xs:=cs.map V.int) (λj zs H3=>Ev p I H3/\Bd p H3/\∃ns:yV,zs=ns.map V.int/\ns.length=j/\∀(k:Nat) (x y:Int),ns[k]? =some x->cs[k]? =some y->0<=x/\x<=y) (by rw[Y0];lia) ⟨Ev.refl,i4,[],rfl,rfl,(λk x y h=>by simp at h)⟩ (λj zs H3 h=>?_) (λj zs H3 _ h=>Ae.of (h.1.tup j0)) (λj x zs H3 g h=>?_) λzs H3 h=>?_⟩
   .obtain⟨_,_,ns,rfl,hn,_⟩:=h;rw[Y0];lia
   .obtain⟨e3,i6,ns,rfl,hn,hb⟩:=h;rw [YO] at g;cases z:cs[j]? with
    |none=>rw[z]at g;cases g
    |some c=>
     rw[z]at g;cases g;have q8:=j8 c (YU z);refine⟨⟨rfl,rfl,trivial⟩,λ_=>⟨i6,by lia,by lia,λg1 H4 a4 c4 e4 l9=>⟨l9,by lia,by lia,λg2 H5 a5 c5 e5 j9 l hl=>?_⟩⟩,λz=>by cases z⟩;obtain⟨vv,j6,j5⟩:=E7 (ns:=[c,0,g1,g2]) a1 (by simpa using c1);have l7:0<=vv/\vv<=c:=by
      simp only[YY,Ze,ZC]at j6;lia
     refine⟨l,_,D,.int vv,rfl,rfl,Al.of Af,j5,e3.trans (e4.trans (e5.trans (Ev.new hl))),j9.new hl,ns++[vv],by rw[YM];rfl,by rw[Z7,hn];rfl,λk x y g hy=>?_⟩;rcases OL g with h | ⟨h1,h2⟩
     .exact hb k x y h hy
     .subst h2;rw[h1,hn,z]at hy;cases hy;exact l7
   .obtain⟨e3,i6,ns,rfl,hn,hb⟩:=h;rw [Y0] at hn;intro m hm;refine⟨m,_,rfl,.inl ⟨Al.of Af,λt ht=>?_⟩⟩;have n3:=(Ab.new (o:= .lst (ns.map V.int)) hm).trans (Ab.new (o:= .tup (ns.map V.int)) ht);have i9:=n3 _ _ (e3.lst L nR);have j7:=rF.len;rw [Y0] at j7;have hi:i<xs.length:=(Y3.mp g).1;have tv:=TEv.upd (zs:=Z++[.ref t]) i9;refine⟨R,Z,.ref t,rfl,rfl,i9,Ex (by lia),⟨_,rfl⟩,?_,((ev.trans e3).trans (Ev.same n3)).own o8,?_,Z++[.ref t],F++[ns],Af,?_,by rw [Z7,lF];rfl,λk r c G hc=>?_⟩
    .intro b o k9;rcases i8 b o k9 with z | z
     .exact .inl z
     .by_cases zb:b=R
      .subst zb;rw[Af]at z ⊢;exact .inr z
      .rw [Ap zb] at z;rcases(e3.trans (Ev.same n3)) b o z with y | y
       .exact .inl y
       .exact .inr (by rw[Ap zb,Ap zb];exact y)
    .obtain⟨l,f,e⟩:=i6.same n3;exact⟨l,f,by rw[Ap (Zo nR)];exact e⟩
    .rw[YM];refine Ac.snoc (Ac.tev ((e3.trans (Ev.same n3)).tev.trans tv) _ _ (C9 λd hd=>?_) rF) (Aa.tev tv _ _ (E8 _) (Aa.row (p:=p) Af));obtain⟨rr,_,rfl⟩:=Z8.mp hd;exact E8 rr
    .rcases OL G with h | ⟨h1,h2⟩
     .exact O k r c h hc
     .subst h2;rw[h1,lF,i5]at hc;cases hc;exact⟨hn,hb⟩
  .obtain⟨⟨x4,rfl⟩,i8,ev,i4,Z,F,L,rF,lF,O⟩:=h;refine⟨R,Z,rfl,.inl ⟨Al.of L,λt ht=>?_⟩⟩;refine q _ _ F ⟨by lia,λi r G=>?_,λi r j x c G g hc=>?_⟩ (Aa.tup Af (Ac.ev (Ev.new ht) _ _ rF)) (ev.trans (Ev.new ht)) (i4.new ht)
   .have hi:i<S.ex.length:=by
     have:=(Y3.mp G).1;lia
    have:=(O i r _ G (CZ hi)).1;rw[this,En]
   .have hi:i<S.ex.length:=by
     have:=(Y3.mp G).1;lia
    exact(O i r _ G (CZ hi)).2 j x c g hc
end
structure Tc(K:Fgx)(mg:Str->yW)(M:yR)(ds:List yR):Prop where
 c_NoPlant:mg "NoPlant"=some (.ref (ds.getD 0 0))
 c_NoStory:mg "NoStory"=some (.ref (ds.getD 1 0))
 c_NoFiring:mg "NoFiring"=some (.ref (ds.getD 2 0))
 c_NoHour:mg "NoHour"=some (.ref (ds.getD 3 0))
 c_NoBoiler:mg "NoBoiler"=some (.ref (ds.getD 4 0))
 c_NoPrices:mg "NoPrices"=some (.ref (ds.getD 5 0))
 c_NoWay:mg "NoWay"=some (.ref (ds.getD 6 0))
 c_NoSet:mg "NoSet"=some (.ref (ds.getD 7 0))
 c_NoTanks:mg "NoTanks"=some (.ref (ds.getD 8 0))
 c_NoPump:mg "NoPump"=some (.ref (ds.getD 9 0))
 c_NoFeeding:mg "NoFeeding"=some (.ref (ds.getD 10 0))
 c_NoReadings:mg "NoReadings"=some (.ref (ds.getD 11 0))
 c_NoStart:mg "NoStart"=some (.ref (ds.getD 12 0))
 c_NoShifts:mg "NoShifts"=some (.ref (ds.getD 13 0))
 c_NoBook:mg "NoBook"=some (.ref (ds.getD 14 0))
 c_NoAmount:mg "NoAmount"=some (.ref (ds.getD 15 0))
 c_NoDeed:mg "NoDeed"=some (.ref (ds.getD 16 0))
 c_NoLine:mg "NoLine"=some (.ref (ds.getD 17 0))
 c_NoText:mg "NoText"=some (.ref (ds.getD 18 0))
 c_MainError:mg "MainError"=some (.ref M)
 mB:PySem.W.mroIn K M (.type "BaseException")=some true
 mT:PySem.W.typeIn K (.ref M)=some (.type "type")
 n_NoPlant:PySem.W.nsIn K mainGlobals "NoPlant"=some (some (.ref (ds.getD 0 0)))
 x_NoPlant:PySem.W.excIn K (ds.getD 0 0) DY "ValueError.__new__"=true
 w_NoPlant:C7 K M ds 0=true
 n_NoStory:PySem.W.nsIn K mainGlobals "NoStory"=some (some (.ref (ds.getD 1 0)))
 x_NoStory:PySem.W.excIn K (ds.getD 1 0) DY "ValueError.__new__"=true
 w_NoStory:C7 K M ds 1=true
 n_NoFiring:PySem.W.nsIn K mainGlobals "NoFiring"=some (some (.ref (ds.getD 2 0)))
 x_NoFiring:PySem.W.excIn K (ds.getD 2 0) DY "ValueError.__new__"=true
 w_NoFiring:C7 K M ds 2=true
 n_NoPrices:PySem.W.nsIn K mainGlobals "NoPrices"=some (some (.ref (ds.getD 5 0)))
 x_NoPrices:PySem.W.excIn K (ds.getD 5 0) DY "ValueError.__new__"=true
 w_NoPrices:C7 K M ds 5=true
section
variable{P:yP}{w:yN}{K:Fgx}{mg:Str -> yW}{base:Heap}{M:yR}{ds:List yR}
theorem za8:Aw ["_law_e","_law_kinds","_law_words","_law_word"] ["_law_e"] (Am wb8):=AB
theorem WY(F:Df K mg "_law_kind" wb8 ["_law_e"])(T:Tx mg)(C:Tc K mg M ds):Fs P w K mg base 1 "_law_kind" ["_law_e"] (Fr (WdK K M ds)):=by
 refine F.fnQ za8 (λvs H Q E h=>?_) (λf dl A outer s H vs Q hr h=>?_)
 .cases h;rfl
 refine⟨_,(@Ak _ _ _ _ _ (@AI _ _ (1) _ _ _ _ za8.nd rfl (AC (by rfl)) (@A5 _ _ _ _ (@Dl _ _ _ _ _ _ _ _ _ (@Ax _ _ _ _ _ _ _ _ _ (BU K) rfl T.b_isinstance Za (@Bj _ _ _ _ _ (@cx _ 0 _ _ (by rfl)) (@AO _ _ (.ref (ds.getD 0 0)) _ _ rfl C.c_NoPlant rfl (by decide)) (by rfl)) (by decide) (by decide) (by rfl) (by rfl)) (@Ax _ _ _ _ _ _ _ _ _ (BU K) rfl T.b_isinstance Za (@Bj _ _ _ _ _ (@cx _ 0 _ _ (by rfl)) (@AO _ _ (.ref (ds.getD 1 0)) _ _ rfl C.c_NoStory rfl (by decide)) (by rfl)) (by decide) (by decide) (by rfl) (by rfl)) (@Ax _ _ _ _ _ _ _ _ _ (BU K) rfl T.b_isinstance Za (@Bj _ _ _ _ _ (@cx _ 0 _ _ (by rfl)) (@AO _ _ (.ref (ds.getD 2 0)) _ _ rfl C.c_NoFiring rfl (by decide)) (by rfl)) (by decide) (by decide) (by rfl) (by rfl)) (@Ax _ _ _ _ _ _ _ _ _ (BU K) rfl T.b_isinstance Za (@Bj _ _ _ _ _ (@cx _ 0 _ _ (by rfl)) (@AO _ _ (.ref (ds.getD 3 0)) _ _ rfl C.c_NoHour rfl (by decide)) (by rfl)) (by decide) (by decide) (by rfl) (by rfl)) (by rfl))) (by rfl) (CG (by rfl))) (@Ak _ _ _ _ _ (@AI _ _ (1) _ _ _ _ za8.nd rfl (AC (by rfl)) (@Ar _ _ _ _ _ _ _ _ (@Cf _) (@cx _ 1 _ _ (by rfl)) (@A5 _ _ _ _ (@Dl _ _ _ _ _ _ _ _ _ (@Ax _ _ _ _ _ _ _ _ _ (BU K) rfl T.b_isinstance Za (@Bj _ _ _ _ _ (@cx _ 0 _ _ (by rfl)) (@AO _ _ (.ref (ds.getD 4 0)) _ _ rfl C.c_NoBoiler rfl (by decide)) (by rfl)) (by decide) (by decide) (by rfl) (by rfl)) (@Ax _ _ _ _ _ _ _ _ _ (BU K) rfl T.b_isinstance Za (@Bj _ _ _ _ _ (@cx _ 0 _ _ (by rfl)) (@AO _ _ (.ref (ds.getD 5 0)) _ _ rfl C.c_NoPrices rfl (by decide)) (by rfl)) (by decide) (by decide) (by rfl) (by rfl)) (@Ax _ _ _ _ _ _ _ _ _ (BU K) rfl T.b_isinstance Za (@Bj _ _ _ _ _ (@cx _ 0 _ _ (by rfl)) (@AO _ _ (.ref (ds.getD 6 0)) _ _ rfl C.c_NoWay rfl (by decide)) (by rfl)) (by decide) (by decide) (by rfl) (by rfl)) (@Ax _ _ _ _ _ _ _ _ _ (BU K) rfl T.b_isinstance Za (@Bj _ _ _ _ _ (@cx _ 0 _ _ (by rfl)) (@AO _ _ (.ref (ds.getD 7 0)) _ _ rfl C.c_NoSet rfl (by decide)) (by rfl)) (by decide) (by decide) (by rfl) (by rfl)) (by rfl)))) (by rfl) (CG (by rfl))) (@Ak _ _ _ _ _ (@AI _ _ (1) _ _ _ _ za8.nd rfl (AC (by rfl)) (@Ar _ _ _ _ _ _ _ _ (@Cf _) (@cx _ 1 _ _ (by rfl)) (@A5 _ _ _ _ (@DE _ _ _ _ _ _ _ (@Ax _ _ _ _ _ _ _ _ _ (BU K) rfl T.b_isinstance Za (@Bj _ _ _ _ _ (@cx _ 0 _ _ (by rfl)) (@AO _ _ (.ref (ds.getD 8 0)) _ _ rfl C.c_NoTanks rfl (by decide)) (by rfl)) (by decide) (by decide) (by rfl) (by rfl)) (@Ax _ _ _ _ _ _ _ _ _ (BU K) rfl T.b_isinstance Za (@Bj _ _ _ _ _ (@cx _ 0 _ _ (by rfl)) (@AO _ _ (.ref (ds.getD 9 0)) _ _ rfl C.c_NoPump rfl (by decide)) (by rfl)) (by decide) (by decide) (by rfl) (by rfl)) (@Ax _ _ _ _ _ _ _ _ _ (BU K) rfl T.b_isinstance Za (@Bj _ _ _ _ _ (@cx _ 0 _ _ (by rfl)) (@AO _ _ (.ref (ds.getD 10 0)) _ _ rfl C.c_NoFeeding rfl (by decide)) (by rfl)) (by decide) (by decide) (by rfl) (by rfl)) (by rfl)))) (by rfl) (CG (by rfl))) (@Ak _ _ _ _ _ (@AI _ _ (1) _ _ _ _ za8.nd rfl (AC (by rfl)) (@Ar _ _ _ _ _ _ _ _ (@Cf _) (@cx _ 1 _ _ (by rfl)) (@A5 _ _ _ _ (@DE _ _ _ _ _ _ _ (@Ax _ _ _ _ _ _ _ _ _ (BU K) rfl T.b_isinstance Za (@Bj _ _ _ _ _ (@cx _ 0 _ _ (by rfl)) (@AO _ _ (.ref (ds.getD 11 0)) _ _ rfl C.c_NoReadings rfl (by decide)) (by rfl)) (by decide) (by decide) (by rfl) (by rfl)) (@Ax _ _ _ _ _ _ _ _ _ (BU K) rfl T.b_isinstance Za (@Bj _ _ _ _ _ (@cx _ 0 _ _ (by rfl)) (@AO _ _ (.ref (ds.getD 12 0)) _ _ rfl C.c_NoStart rfl (by decide)) (by rfl)) (by decide) (by decide) (by rfl) (by rfl)) (@Ax _ _ _ _ _ _ _ _ _ (BU K) rfl T.b_isinstance Za (@Bj _ _ _ _ _ (@cx _ 0 _ _ (by rfl)) (@AO _ _ (.ref (ds.getD 13 0)) _ _ rfl C.c_NoShifts rfl (by decide)) (by rfl)) (by decide) (by decide) (by rfl) (by rfl)) (by rfl)))) (by rfl) (CG (by rfl))) (@Ak _ _ _ _ _ (@AI _ _ (1) _ _ _ _ za8.nd rfl (AC (by rfl)) (@Ar _ _ _ _ _ _ _ _ (@Cf _) (@cx _ 1 _ _ (by rfl)) (@A5 _ _ _ _ (@Dl _ _ _ _ _ _ _ _ _ (@Ax _ _ _ _ _ _ _ _ _ (BU K) rfl T.b_isinstance Za (@Bj _ _ _ _ _ (@cx _ 0 _ _ (by rfl)) (@AO _ _ (.ref (ds.getD 14 0)) _ _ rfl C.c_NoBook rfl (by decide)) (by rfl)) (by decide) (by decide) (by rfl) (by rfl)) (@Ax _ _ _ _ _ _ _ _ _ (BU K) rfl T.b_isinstance Za (@Bj _ _ _ _ _ (@cx _ 0 _ _ (by rfl)) (@AO _ _ (.ref (ds.getD 15 0)) _ _ rfl C.c_NoAmount rfl (by decide)) (by rfl)) (by decide) (by decide) (by rfl) (by rfl)) (@Ax _ _ _ _ _ _ _ _ _ (BU K) rfl T.b_isinstance Za (@Bj _ _ _ _ _ (@cx _ 0 _ _ (by rfl)) (@AO _ _ (.ref (ds.getD 16 0)) _ _ rfl C.c_NoDeed rfl (by decide)) (by rfl)) (by decide) (by decide) (by rfl) (by rfl)) (@Ax _ _ _ _ _ _ _ _ _ (BU K) rfl T.b_isinstance Za (@Bj _ _ _ _ _ (@cx _ 0 _ _ (by rfl)) (@AO _ _ (.ref (ds.getD 17 0)) _ _ rfl C.c_NoLine rfl (by decide)) (by rfl)) (by decide) (by decide) (by rfl) (by rfl)) (by rfl)))) (by rfl) (CG (by rfl))) (@Ak _ _ _ _ _ (@B7 _ _ _ _ (@DC _ _ _ _ _ _ _ _ _ _ _ _ PySem.F.plainAttrs_list PySem.F.slot_list_append PySem.F.type_list_append DO (@cx _ 1 _ _ (by rfl)) (@By _ _ _ (@Ax _ _ _ _ _ _ _ _ _ (BU K) rfl T.b_isinstance Za (@Bj _ _ _ _ _ (@cx _ 0 _ _ (by rfl)) (@AO _ _ (.ref (ds.getD 18 0)) _ _ rfl C.c_NoText rfl (by decide)) (by rfl)) (by decide) (by decide) (by rfl) (by rfl)) (by rfl)) (by rfl) (by rfl) (by rfl) (by rfl) (by rfl)) (by rfl)) (@Ak _ _ _ _ _ (@Bq _ _ _ _ _ _ _ _ (@PW.pt _ _ _ (@MA _ _ _ _ _ _ _ (@Bi _ _ _ _ _ _ _ _ (@Jp _) (@HJ K _ _ _ _ _ _ _ _ _ _ _ _ PySem.F.plainAttrs_list PySem.F.slot_list_count PySem.F.type_list_count Tt (@cx _ 1 _ _ (by rfl)) (@By _ _ _ (@Cj _ _ _ _) (by rfl)) (by rfl) (by rfl) (by rfl) (by rfl) (by rfl) (by rfl)) (@Ag _ _ _ _) (Ba _)) (@Lb _ _ _ _ (@Cz _ _ _ _ (@Cp _ _ _ (@Ax _ _ _ _ _ _ _ _ _ (BU K) rfl T.b_isinstance Za (@Bj _ _ _ _ _ (@cx _ 0 _ _ (by rfl)) (@FU _ _ (.ty "ValueError") _ _ rfl T.b_ValueError PyProof.Rows.Boot.«ValueError» rfl (by decide) (by decide)) (by rfl)) (by decide) (by decide) (by rfl) (by rfl)) (by intro _;rfl)))))) (@Ao _ _ _ (@Av _ _ _ _ (@BF _ _ _ _ _ (@By _ _ _ (@AF _ _ _ _) (by rfl))))) (@Bn _)) (@Ak _ _ _ _ _ (@AI _ _ (2) _ _ _ _ za8.nd rfl (AC (by rfl)) (@A5 _ _ _ _ (@Bc _ _ _ _ _ (@AF _ _ _ _) (@Bc _ _ _ _ _ (@AF _ _ _ _) (@Bc _ _ _ _ _ (@AF _ _ _ _) (@Bc _ _ _ _ _ (@AF _ _ _ _) (@Bc _ _ _ _ _ (@AF _ _ _ _) (@Bc _ _ _ _ _ (@AF _ _ _ _) (@Bc _ _ _ _ _ (@AF _ _ _ _) (@Dl _ _ _ _ _ _ _ _ _ (@AF _ _ _ _) (@AF _ _ _ _) (@AF _ _ _ _) (@AF _ _ _ _) (by rfl)) (by rfl)) (by rfl)) (by rfl)) (by rfl)) (by rfl)) (by rfl)) (by rfl))) (by rfl) (CG (by rfl))) (@Ak _ _ _ _ _ (@AI _ _ (2) _ _ _ _ za8.nd rfl (AC (by rfl)) (@Ar _ _ _ _ _ _ _ _ (@Cf _) (@cx _ 2 _ _ (by rfl)) (@A5 _ _ _ _ (@Bc _ _ _ _ _ (@AF _ _ _ _) (@Bc _ _ _ _ _ (@AF _ _ _ _) (@Bc _ _ _ _ _ (@AF _ _ _ _) (@Bc _ _ _ _ _ (@AF _ _ _ _) (@Dl _ _ _ _ _ _ _ _ _ (@AF _ _ _ _) (@AF _ _ _ _) (@AF _ _ _ _) (@AF _ _ _ _) (by rfl)) (by rfl)) (by rfl)) (by rfl)) (by rfl)))) (by rfl) (CG (by rfl))) (@Ak _ _ _ _ _ (@AI _ _ (3) _ _ _ _ za8.nd rfl (AC (by rfl)) (@AH _ _ _ _ _ _ _ (@Bb _ K (by rfl)) (@cx _ 2 _ _ (by rfl)) (@HJ K _ _ _ _ _ _ _ _ _ _ _ _ PySem.F.plainAttrs_list PySem.F.slot_list_index PySem.F.type_list_index Tv (@cx _ 1 _ _ (by rfl)) (@By _ _ _ (@Cj _ _ _ _) (by rfl)) (by rfl) (by rfl) (by rfl) (by rfl) (by rfl) (by rfl)) (λ_ _=>rfl)) (by rfl) (CG (by rfl))) (@Ao _ _ _ (@Av _ _ _ _ (@Fm _ _ _ _ _ _ _ _ (@Bi _ _ _ _ _ _ _ _ (@CB _) (@cx _ 3 _ _ (by rfl)) (@AF _ _ _ _) (Ba _)) (@BF _ _ _ _ _ (@Bj _ _ _ _ _ (@cx _ 3 _ _ (by rfl)) Ki (by rfl))) (@BF _ _ _ _ _ (@By _ _ _ (@cx _ 3 _ _ (by rfl)) (by rfl)))))))))))))))),?_⟩;cases h;rename_i h
 .rename_i e;obtain⟨C0,I,G,hw,q⟩:=h;obtain⟨i,J,rfl,i8,hok⟩:=hw.ex;have hi:i<19:=YQ J (by decide);obtain⟨i5,j6⟩:=TD J i8;obtain⟨O,_,kj,kV⟩:=NB hok;have g:∀j,j<19->∀u,Az (.ref (ds.getD j 0)) u->PySem.W.kitOne K (.ref (ds.getD i 0)) u=some (j==i):=λj hj u r=>by
   cases(show u=Value.ref _ from r);exact kj j hj
  have kv:∀u,Az (.ty "ValueError") u->PySem.W.kitOne K (.ref (ds.getD i 0)) u=some true:=λu r=>by
   cases(show u=Value.type _ from r);exact kV
  refine⟨e,_,_,_,rfl,G,O,g 0 (by decide),⟨e,_,_,_,rfl,G,O,g 1 (by decide),⟨e,_,_,_,rfl,G,O,g 2 (by decide),⟨e,_,_,_,rfl,G,O,g 3 (by decide),?_⟩⟩⟩⟩;intro p0 n0;have S0:Ab H (upd H p0 (.lst [.bl (0==i),.bl (1==i),.bl (2==i),.bl (3==i)])):=Ab.new n0;have m0:upd H p0 (.lst [.bl (0==i),.bl (1==i),.bl (2==i),.bl (3==i)]) p0=some (.lst ([0==i,1==i,2==i,3==i].map V.bl)):=Af
  revert S0 m0
  generalize upd H p0 (.lst [.bl (0==i),.bl (1==i),.bl (2==i),.bl (3==i)])=G0;intro S0 m0;have e0:=S0 e _ G;refine⟨e,_,_,_,rfl,e0,O,g 4 (by decide),⟨e,_,_,_,rfl,e0,O,g 5 (by decide),⟨e,_,_,_,rfl,e0,O,g 6 (by decide),⟨e,_,_,_,rfl,e0,O,g 7 (by decide),?_⟩⟩⟩⟩;intro q1 k1;have j3:p0≠q1:=λz=>by rw[z,k1]at m0;cases m0
  refine⟨p0,q1,_,_,rfl,rfl,(Ap j3).trans m0,Af,BW rfl,λp1 n1=>?_⟩;have T1:Ab G0 (upd G0 q1 (.lst [.bl (4==i),.bl (5==i),.bl (6==i),.bl (7==i)])):=Ab.new k1;have S1:Ab H (upd (upd G0 q1 (.lst [.bl (4==i),.bl (5==i),.bl (6==i),.bl (7==i)])) p1 (.lst (([0==i,1==i,2==i,3==i].map V.bl)++[.bl (4==i),.bl (5==i),.bl (6==i),.bl (7==i)]))):=(S0.trans T1).trans (Ab.new n1);have m1:upd (upd G0 q1 (.lst [.bl (4==i),.bl (5==i),.bl (6==i),.bl (7==i)])) p1 (.lst (([0==i,1==i,2==i,3==i].map V.bl)++[.bl (4==i),.bl (5==i),.bl (6==i),.bl (7==i)])) p1=some (.lst ([0==i,1==i,2==i,3==i,4==i,5==i,6==i,7==i].map V.bl)):=Af
  revert S1 m1
  generalize upd (upd G0 q1 (.lst [.bl (4==i),.bl (5==i),.bl (6==i),.bl (7==i)])) p1 (.lst (([0==i,1==i,2==i,3==i].map V.bl)++[.bl (4==i),.bl (5==i),.bl (6==i),.bl (7==i)]))=G1;intro S1 m1;have e1:=S1 e _ G;refine⟨e,_,_,_,rfl,e1,O,g 8 (by decide),⟨e,_,_,_,rfl,e1,O,g 9 (by decide),⟨e,_,_,_,rfl,e1,O,g 10 (by decide),?_⟩⟩⟩;intro q2 k2;have j5:p1≠q2:=λz=>by rw[z,k2]at m1;cases m1
  refine⟨p1,q2,_,_,rfl,rfl,(Ap j5).trans m1,Af,BW rfl,λZ n2=>?_⟩;have T2:Ab G1 (upd G1 q2 (.lst [.bl (8==i),.bl (9==i),.bl (10==i)])):=Ab.new k2;have S2:Ab H (upd (upd G1 q2 (.lst [.bl (8==i),.bl (9==i),.bl (10==i)])) Z (.lst (([0==i,1==i,2==i,3==i,4==i,5==i,6==i,7==i].map V.bl)++[.bl (8==i),.bl (9==i),.bl (10==i)]))):=(S1.trans T2).trans (Ab.new n2);have m2:upd (upd G1 q2 (.lst [.bl (8==i),.bl (9==i),.bl (10==i)])) Z (.lst (([0==i,1==i,2==i,3==i,4==i,5==i,6==i,7==i].map V.bl)++[.bl (8==i),.bl (9==i),.bl (10==i)])) Z=some (.lst ([0==i,1==i,2==i,3==i,4==i,5==i,6==i,7==i,8==i,9==i,10==i].map V.bl)):=Af
  revert S2 m2
  generalize upd (upd G1 q2 (.lst [.bl (8==i),.bl (9==i),.bl (10==i)])) Z (.lst (([0==i,1==i,2==i,3==i,4==i,5==i,6==i,7==i].map V.bl)++[.bl (8==i),.bl (9==i),.bl (10==i)]))=G2;intro S2 m2;have e2:=S2 e _ G;refine⟨e,_,_,_,rfl,e2,O,g 11 (by decide),⟨e,_,_,_,rfl,e2,O,g 12 (by decide),⟨e,_,_,_,rfl,e2,O,g 13 (by decide),?_⟩⟩⟩;intro q3 k3;have j4:Z≠q3:=λz=>by rw[z,k3]at m2;cases m2
  refine⟨Z,q3,_,_,rfl,rfl,(Ap j4).trans m2,Af,BW rfl,λp3 n3=>?_⟩;have T3:Ab G2 (upd G2 q3 (.lst [.bl (11==i),.bl (12==i),.bl (13==i)])):=Ab.new k3;have S3:Ab H (upd (upd G2 q3 (.lst [.bl (11==i),.bl (12==i),.bl (13==i)])) p3 (.lst (([0==i,1==i,2==i,3==i,4==i,5==i,6==i,7==i,8==i,9==i,10==i].map V.bl)++[.bl (11==i),.bl (12==i),.bl (13==i)]))):=(S2.trans T3).trans (Ab.new n3);have m3:upd (upd G2 q3 (.lst [.bl (11==i),.bl (12==i),.bl (13==i)])) p3 (.lst (([0==i,1==i,2==i,3==i,4==i,5==i,6==i,7==i,8==i,9==i,10==i].map V.bl)++[.bl (11==i),.bl (12==i),.bl (13==i)])) p3=some (.lst ([0==i,1==i,2==i,3==i,4==i,5==i,6==i,7==i,8==i,9==i,10==i,11==i,12==i,13==i].map V.bl)):=Af
  revert S3 m3
  generalize upd (upd G2 q3 (.lst [.bl (11==i),.bl (12==i),.bl (13==i)])) p3 (.lst (([0==i,1==i,2==i,3==i,4==i,5==i,6==i,7==i,8==i,9==i,10==i].map V.bl)++[.bl (11==i),.bl (12==i),.bl (13==i)]))=G3;intro S3 m3;have e3:=S3 e _ G;refine⟨e,_,_,_,rfl,e3,O,g 14 (by decide),⟨e,_,_,_,rfl,e3,O,g 15 (by decide),⟨e,_,_,_,rfl,e3,O,g 16 (by decide),⟨e,_,_,_,rfl,e3,O,g 17 (by decide),?_⟩⟩⟩⟩;intro q4 k4;have j0:p3≠q4:=λz=>by rw[z,k4]at m3;cases m3
  refine⟨p3,q4,_,_,rfl,rfl,(Ap j0).trans m3,Af,BW rfl,λD n4=>?_⟩;have T4:Ab G3 (upd G3 q4 (.lst [.bl (14==i),.bl (15==i),.bl (16==i),.bl (17==i)])):=Ab.new k4;have S4:Ab H (upd (upd G3 q4 (.lst [.bl (14==i),.bl (15==i),.bl (16==i),.bl (17==i)])) D (.lst (([0==i,1==i,2==i,3==i,4==i,5==i,6==i,7==i,8==i,9==i,10==i,11==i,12==i,13==i].map V.bl)++[.bl (14==i),.bl (15==i),.bl (16==i),.bl (17==i)]))):=(S3.trans T4).trans (Ab.new n4);have m4:upd (upd G3 q4 (.lst [.bl (14==i),.bl (15==i),.bl (16==i),.bl (17==i)])) D (.lst (([0==i,1==i,2==i,3==i,4==i,5==i,6==i,7==i,8==i,9==i,10==i,11==i,12==i,13==i].map V.bl)++[.bl (14==i),.bl (15==i),.bl (16==i),.bl (17==i)])) D=some (.lst ([0==i,1==i,2==i,3==i,4==i,5==i,6==i,7==i,8==i,9==i,10==i,11==i,12==i,13==i,14==i,15==i,16==i,17==i].map V.bl)):=Af
  revert S4 m4
  generalize upd (upd G3 q4 (.lst [.bl (14==i),.bl (15==i),.bl (16==i),.bl (17==i)])) D (.lst (([0==i,1==i,2==i,3==i,4==i,5==i,6==i,7==i,8==i,9==i,10==i,11==i,12==i,13==i].map V.bl)++[.bl (14==i),.bl (15==i),.bl (16==i),.bl (17==i)]))=G4;intro S4 m4;have e4:=S4 e _ G;refine⟨.inl ⟨rfl,_,Al.of m4⟩,?_⟩;refine⟨e,_,_,_,rfl,e4,O,g 18 (by decide),?_⟩;refine⟨D,_,_,rfl,rfl,m4,Rc (aH rfl),?_⟩;have j7:e≠D:=λz=>by rw[z,m4]at e4;cases e4
  have m5:upd G4 D (.lst ([0==i,1==i,2==i,3==i,4==i,5==i,6==i,7==i,8==i,9==i,10==i,11==i,12==i,13==i,14==i,15==i,16==i,17==i].map V.bl++[.bl (18==i)])) D=some (.lst ([0==i,1==i,2==i,3==i,4==i,5==i,6==i,7==i,8==i,9==i,10==i,11==i,12==i,13==i,14==i,15==i,16==i,17==i,18==i].map V.bl)):=Af;have e5:upd G4 D (.lst ([0==i,1==i,2==i,3==i,4==i,5==i,6==i,7==i,8==i,9==i,10==i,11==i,12==i,13==i,14==i,15==i,16==i,17==i].map V.bl++[.bl (18==i)])) e=some (EU e (ds.getD i 0)):=(Ap j7).trans e4;have f4:H D=none:=(S3.trans T4).free n4;have S5:Ab H (upd G4 D (.lst ([0==i,1==i,2==i,3==i,4==i,5==i,6==i,7==i,8==i,9==i,10==i,11==i,12==i,13==i,14==i,15==i,16==i,17==i].map V.bl++[.bl (18==i)]))):=Ab.evOwn S4 f4 (Ev.pen m4)
  revert m5 e5 S5
  generalize upd G4 D (.lst ([0==i,1==i,2==i,3==i,4==i,5==i,6==i,7==i,8==i,9==i,10==i,11==i,12==i,13==i,14==i,15==i,16==i,17==i].map V.bl++[.bl (18==i)]))=GA;intro m5 e5 S5;have cnt:([0==i,1==i,2==i,3==i,4==i,5==i,6==i,7==i,8==i,9==i,10==i,11==i,12==i,13==i,14==i,15==i,16==i,17==i,18==i]:List Bool).count true=1:=(by decide:∀i,i<19->([0==i,1==i,2==i,3==i,4==i,5==i,6==i,7==i,8==i,9==i,10==i,11==i,12==i,13==i,14==i,15==i,16==i,17==i,18==i]:List Bool).count true=1) i hi;refine⟨.inl ⟨rfl,_,Al.of m5⟩,⟨D,_,rfl,rfl,m5,?_⟩⟩;rw[cnt];refine⟨rfl,⟨λc=>?_,λ_=>?_⟩⟩
  .exact absurd c (by decide)
  refine⟨e,_,_,_,rfl,e5,O,kv,⟨λc=>?_,λ_=>?_⟩⟩
  .cases c
  intro L u0;have Sw:Ab GA (upd GA L (.lst ((kindWords.take 11).map V.str))):=Ab.new u0;have mw:upd GA L (.lst ((kindWords.take 11).map V.str)) L=some (.lst ((kindWords.take 11).map V.str)):=Af
  revert Sw mw
  generalize hg:upd GA L (.lst ((kindWords.take 11).map V.str))=G5;intro Sw mw;have i7:(upd GA L (.lst [.str "plant",.str "story",.str "firing",.str "hour",.str "boiler",.str "prices",.str "way",.str "set",.str "tanks",.str "pump",.str "feeding"]))=G5:=hg;rw[i7];intro w1 u1;have nw:L≠w1:=λz=>by rw[z,u1]at mw;cases mw
  refine⟨L,w1,_,_,rfl,rfl,(Ap nw).trans mw,Af,BW rfl,λw2 u2=>?_⟩;have S6:Ab G5 (upd (upd G5 w1 (.lst ((kindWords.drop 11).map V.str))) w2 (.lst (kindWords.map V.str))):=(Ab.new u1).trans (Ab.new u2);have m6:upd (upd G5 w1 (.lst ((kindWords.drop 11).map V.str))) w2 (.lst (kindWords.map V.str)) w2=some (.lst (kindWords.map V.str)):=Af
  revert S6 m6
  generalize hg6:upd (upd G5 w1 (.lst ((kindWords.drop 11).map V.str))) w2 (.lst (kindWords.map V.str))=G6;intro S6 m6;have m7:=S6 D _ (Sw D _ m5);have i9:([0==i,1==i,2==i,3==i,4==i,5==i,6==i,7==i,8==i,9==i,10==i,11==i,12==i,13==i,14==i,15==i,16==i,17==i,18==i]:List Bool)[i]? =some true:=(by decide:∀i,i<19->([0==i,1==i,2==i,3==i,4==i,5==i,6==i,7==i,8==i,9==i,10==i,11==i,12==i,13==i,14==i,15==i,16==i,17==i,18==i]:List Bool)[i]? =some true) i hi;have j8:∀m,m<i->([0==i,1==i,2==i,3==i,4==i,5==i,6==i,7==i,8==i,9==i,10==i,11==i,12==i,13==i,14==i,15==i,16==i,17==i,18==i]:List Bool)[m]? =some false:=λm hm=>(by decide:∀i,i<19->∀m,m<i->([0==i,1==i,2==i,3==i,4==i,5==i,6==i,7==i,8==i,9==i,10==i,11==i,12==i,13==i,14==i,15==i,16==i,17==i,18==i]:List Bool)[m]? =some false) i hi m hm
  have i6:Ce (kindWords.map V.str) (i:Int)=some (.str I):=by
   rw[DB];rw[YO,i5]
   rfl
  have i4:(upd (upd G5 w1 (.lst [.str "readings",.str "start",.str "shifts",.str "book",.str "amount",.str "no deed",.str "line",.str "text"])) w2 (.lst ((kindWords.take 11).map V.str++[.str "readings",.str "start",.str "shifts",.str "book",.str "amount",.str "no deed",.str "line",.str "text"])))=G6:=hg6;rw[i4];refine⟨.inl ⟨rfl,_,Al.of m7⟩,⟨D,_,i,rfl,rfl,m7,aH rfl,i9,j8,⟨w2,_,_,_,rfl,rfl,Al.of m6,i6,?_⟩⟩⟩;refine⟨rfl,⟨λc=>?_,λ_ t ht=>?_⟩⟩
  .have:V.str I=V.str "text" :=Z3 c;exact absurd (V.str.inj this) j6
  exact q _ t (((S5.trans Sw).trans S6).trans (Ab.new ht)) Af
theorem WZ:Aw ["_law_call_here","_law_e"] ["_law_call_here"] (Am wb9):=AB
theorem W1(F:Df K mg "_law_said" wb9 ["_law_call_here"])(C:Tc K mg M ds)(c:Fs P w K mg base 1 "_law_kind" ["_law_e"] (Fr (WdK K M ds))):HN P w K mg base 20 "_law_said" ["_law_call_here"] (EV P w K mg base 19 (WdK K M ds)):=
 Tl F WZ rfl rfl rfl rfl rfl C.c_MainError C.mB C.mT (λ_ _ h=>h.mro) c (by decide)
abbrev KO(d:yQ):Bool:=HI d ["out","scaled"]
def Dp(n h:Int)(d:yQ):Bool:=AV d 4 4 &&(match d with | .tuple [b,w,f,l]=>AZ b 0 (n-1) && KO w && AZ l 0 (h-1) &&(match l with | .int i=>AZ f 0 i | _=>false) | _=>false)
def KP(d:yQ):Prop:=∀b w f l,d= .tuple [b,w,f,l]->∀c,w≠ .dict c
def FO(d:yQ):Prop:=∀x c,d= .tuple [x,.tuple c]->∀y∈c,KP y
def CV(n:Int)(d:yQ):Bool:=AV d 2 2 &&(match d with | .tuple [ex,fs]=>AV ex 1 8 &&(match ex with | .tuple es=>(es.all λe=>AZ e 0 20) && AV fs 0 4 &&(match fs with | .tuple gs=>gs.all (Dp n (es.length:Int)) | _=>false) | _=>false) | _=>false)
theorem W2{e:yQ}{lo hi:Int}(h:AZ e lo hi=true):∃i,e= .int i/\lo<=i/\i<=hi:=by
 cases e with
 |int i=>
  unfold AZ at h;obtain⟨c,g⟩:=Z5.mp h;exact⟨i,rfl,Z3 c,Z3 g⟩
 |_=>cases h
theorem W3{d:yQ}(h:d.hasDict=false):KP d:=λb w f l e c z=>by
 rw[e,z]at h;unfold PyData.hasDict PyData.hasDictAll PyData.hasDictAll at h;simp[PyData.hasDict]at h
theorem KQ:∀ {gs:List yQ},PyData.hasDictAll gs=false->∀y∈gs,y.hasDict=false
 |[],_,y,c=>nomatch c
 |a::gs,h,y,c=>by
  unfold PyData.hasDictAll at h;obtain⟨D,g⟩:=bp.mp h;rcases YY.mp c with rfl | c
  .exact D
  .exact KQ g y c
theorem OM{d:yQ}(h:d.hasDict=false):FO d:=λx gs e y D=>by
 rw[e]at h;have c:PyData.hasDictAll [x,.tuple gs]=false:=h;have g:=KQ c (.tuple gs) (by simp);exact W3 (KQ (gs:=gs) g y D)
def IK:Sp:=λg H Q _=>zI (λv n h=>∃p d,Aa p H d v/\KP d/\∀b c,b=Dp n h d->Ab H c->Q (.bl b) c) g
def IL(ds:List yR):Sp:=λg H Q E=>zH (λv=>∃p d,Aa p H d v/\(CT d=false->∀c,Ab H c->E (.ref (ds.getD 0 0)) none c)/\(CT d=true->∀c,Ab H c->Q .non c)) g
def GL(ds:List yR):Sp:=λvs H Q E=>match vs with | [v,u]=>(∃p d,Aa p H d v/\CT d=false/\∀H',Ab H H'->E (.ref (ds.getD 0 0)) none H')\/(∃p P e,PL.ok P/\Aa p H P.d v/\Aa p H e u/\FO e/\∀b H',b=CV P.bs.length e->Ab H H'->Q (.bl b) H') | _=>False
def Ed(ds:List yR):Sp:=λvs H _ E=>match vs with | [v,u]=>(∃p d,Aa p H d v/\CT d=false/\∀H',Ab H H'->E (.ref (ds.getD 0 0)) none H')\/(∃p P e,PL.ok P/\Aa p H P.d v/\Aa p H e u/\FO e/\CV P.bs.length e=false/\∀H',Ab H H'->E (.ref (ds.getD 1 0)) none H') | _=>False
theorem W4(F:Df K mg "is_fault" waf ["thing","boilers","hours"])(T:Tx mg)(i4:Ch P w K mg base)(G:E3 P w K mg base):Fn P w K mg base 3 "is_fault" ["thing","boilers","hours"] IK:=by
 refine F.fn (N:=["thing","boilers","hours","boiler","word","first","last"]) AB (λvs H Q E h=>?_) (λf dl A outer s H vs Q E J h=>?_)
 .cases h;rfl
 cases h;rename_i h
 .rename_i v n k;obtain⟨p,d,r,ft,q⟩:=h;refine⟨_,(Ak (Bq (Cz (Cp (zB i4 J (AM (cy 0) Ag Ag)))) (Ao (Av Cj)) Bn) (Ak (Bo (cy 0) (AL K (n:=4) (Ai (zD 3) (Ai (zD 4) (Ai (zD 5) (Ai (zD 6) AK)))))) (Ao (Av (Bp (zB G J (AM (cy 3) Ag (Ar BL (cy 1) Ag))) (Bp (Dz (TH K J) (cy 4) (BF (As AF AF)) (by with_unfolding_all rfl)) (Bp (zB G J (AM (cy 6) Ag (Ar BL (cy 2) Ag))) (BM (zB G J (AM (cy 5) Ag (cy 6))))))))))),?_⟩;refine⟨p,d,r,λb hb=>⟨λc=>?_,λc=>?_⟩⟩
  .have D:AV d 4 4=false:=by rw [<-hb];simpa using c
   exact q _ _ (by unfold Dp;rw[D];rfl) (Ab.refl _)
  .have D:AV d 4 4=true:=by rw [<-hb];simpa using c
   obtain⟨es,rfl,g1,g2⟩:=GB D;obtain⟨x1,x2,x3,Z,rfl⟩:∃a b c d,es=[a,b,c,d]:=by
    match es,g1,g2 with
    |[a,b,c,d],_,_=>exact⟨a,b,c,d,rfl⟩
    |[],h,_=>simp at h
    |[_],h,_=>simp at h
    |[_,_],h,_=>simp at h
    |[_,_,_],h,_=>simp at h
    |_::_::_::_::_::_,_,h=>simp at h;lia
   obtain⟨l,xs,rfl,hl,rs⟩:=Aa.shape r;obtain⟨y1,y2,y3,y4,rfl,r1,r2,r3,L⟩:=Ac.four rs;refine⟨l,_,rfl,Ae.of hl,rfl,_,_,rfl,_,_,rfl,_,_,rfl,_,_,rfl,rfl,p,x1,r1,λb1 e1=>⟨λO=>?_,λO=>?_⟩⟩
   .refine λt I=>⟨p,t,["out","scaled"],x2,rfl,Ae.of Af,Aa.ev (Ev.same (Ab.new I)) _ _ r2,ft _ _ _ _ rfl,⟨λc2=>?_,λc2=>?_⟩⟩
    .have cw:KO x2=true:=c2;refine⟨p,Z,Aa.ev (Ev.same (Ab.new I)) _ _ L,λb2 e2=>⟨λc3=>?_,λc3=>?_⟩⟩
     .have g:AZ Z 0 (k-1)=true:=by rw [<-e2];exact c3
      obtain⟨i,rfl,i0,i1⟩:=W2 g;have ey:y4= .int i:=by unfold Aa at L;exact L
      subst ey;refine⟨p,x3,Aa.ev (Ev.same (Ab.new I)) _ _ r3,λb3 e3=>q _ _ ?_ (Ab.new I)⟩;unfold Dp;rw[D];dsimp only;rw[<-e1,O,cw,g,e3];rfl
     .refine q _ _ ?_ (Ab.new I);have g:AZ Z 0 (k-1)=false:=by rw [<-e2];exact c3
      unfold Dp;rw[D];dsimp only;rw[g,Zg,Zb,Zg]
    .refine q _ _ ?_ (Ab.new I);have cw:KO x2=false:=c2;unfold Dp;rw[D];dsimp only;rw[cw,Zg,Zb,Zb,Zg]
   .refine q _ _ ?_ (Ab.refl _);have cw:AZ x1 0 (n-1)=false:=by rw [<-e1];exact O
    unfold Dp;rw[D];dsimp only;rw[cw,Zb,Zb,Zb,Zg]
theorem W5(F:Df K mg "need_plant" wad ["plant"])(T:Tx mg)(C:Tc K mg M ds)(g:Fn P w K mg base 5 "is_plant" ["thing"] Ii):AX P w K mg base 6 "need_plant" ["plant"] (IL ds):=by
 refine F.fmE (N:=["plant"]) AB λf dl A outer s H L Q E G h=>?_
 cases h;rename_i h
 .rename_i v;obtain⟨p,d,r,I,J⟩:=h;refine⟨_,(Ao (Bq (Cz (Cp (zB g G (Aj (cy 0))))) (Ao (HL Bg rfl C.n_NoPlant C.x_NoPlant rfl (Aj AF))) Bn)),?_⟩;refine⟨p,d,r,λb O D s1=>⟨λc=>?_,λc=>?_⟩⟩
  .exact⟨BW rfl,I (by rw[<-D];simpa using c) _ s1⟩
  .exact J (by rw[<-D];simpa using c) _ s1
theorem W6(F:Df K mg "is_story" wae ["plant","thing"])(T:Tx mg)(j4:Fn P w K mg base 3 "is_fault" ["thing","boilers","hours"] IK)(i5:Ch P w K mg base)(i8:E3 P w K mg base)(j0:AX P w K mg base 6 "need_plant" ["plant"] (IL ds)):AX P w K mg base 7 "is_story" ["plant","thing"] (GL ds):=by
 obtain⟨D,g_MOST_EXTRA⟩:=T.g_MOST_EXTRA;obtain⟨g,g_MOST_FAULTS⟩:=T.g_MOST_FAULTS;obtain⟨G,g_MOST_HOURS⟩:=T.g_MOST_HOURS;refine F.fnE (N:=["plant","thing","extra","faults"]) AB (λvs H Q E h=>?_) (λf dl A outer s H vs Q E hr h=>?_)
 .unfold GL at h;split at h;rfl;exact h.elim
 unfold GL at h;split at h
 .rename_i v u;refine⟨_,(Ak (B7 (Bu Bg j0 (hr.mono (by decide)) rfl (Aj (cy 0)))) (Ak (Bq (Cz (Cp (zB i5 hr (AM (cy 1) Ag Ag)))) (Ao (Av Cj)) Bn) (Ak (Bo (cy 1) (AL K (n:=2) (Ai (zD 2) (Ai (zD 3) AK)))) (Ao (Av (Bp (zB i5 hr (AM (cy 2) Ag (AO (v:= .int 8) rfl g_MOST_HOURS ⟨G,rfl⟩))) (Bp (Ax (DU rfl) rfl T.b_all bM (Aj (Bh ["units"] [none] rfl (BO K (cy 2)) (AJ.of rfl) (λ_ _ _ _=>(zD 0)) (λ_ _ _ _=>A8) (λ_ _ _ _=>(zB i8 hr (AM (cy 0) Ag (AO (v:= .int 20) rfl g_MOST_EXTRA ⟨D,rfl⟩))))))) (Bp (zB i5 hr (AM (cy 3) Ag (AO (v:= .int 4) rfl g_MOST_FAULTS ⟨g,rfl⟩))) (BM (Ax (DU rfl) rfl T.b_all bM (Aj (Bh ["part","extra","plant"] [none,some 2,some 0] rfl (BO K (cy 3)) (AJ.of rfl) (λ_ _ _ _=>(zD 0)) (λ_ _ _ _=>A8) (λ_ _ _ _=>(zB j4 hr (AM (cy 0) (Ax (Bl K) rfl T.b_len PySem.boot_len (Aj (AH (Bw K) (cy 2) Ag (λ_ _=>rfl)))) (Ax (Bl K) rfl T.b_len PySem.boot_len (Aj (cy 1)))))))))))))))))),?_⟩;rcases h with⟨p,d,r,hp,q⟩ | ⟨p,P,e,ok,r,ru,fsd,q⟩
  .exact⟨p,d,r,λ_ I s'=>q I s',λz=>(by rw[hp]at z;cases z)⟩
  refine⟨p,P.d,r,λz=>(by rw[V0 ok]at z;cases z),λ_ H1 s1=>?_⟩;have i6:=Aa.ev (Ev.same (p:=p) s1) _ _ ru;refine⟨p,e,i6,λb hb=>⟨λc=>?_,λc=>?_⟩⟩
  .have hf:AV e 2 2=false:=by rw [<-hb];simpa using c
   exact q _ _ (by unfold CV;rw[hf];rfl) s1
  .have hf:AV e 2 2=true:=by rw [<-hb];simpa using c
   obtain⟨j6,rfl,g1,g2⟩:=GB hf;obtain⟨ex,fs,rfl⟩:=two hf;obtain⟨A,j5,rfl,hA,j3⟩:=Aa.shape i6;obtain⟨x,y,rfl,rx,ry⟩:=Ac.two j3;obtain⟨PA,PB,PE,PM,xb,xe,rfl,pA,pB,rb,pE,re,pM⟩:=Aa.plant (Aa.ev (Ev.same s1) _ _ r);have lb:=rb.len;rw[Y0]at lb;refine⟨A,_,rfl,Ae.of hA,rfl,_,_,rfl,_,_,rfl,rfl,p,ex,rx,λb1 e1=>⟨λc1=>?_,λc1=>?_⟩⟩
   .have O:AV ex 1 8=true:=by rw [<-e1];exact c1
    obtain⟨es,rfl,h1,h8⟩:=GB O;obtain⟨B,xs,rfl,hB,rs⟩:=Aa.shape rx;have lx:=rs.len;refine⟨B,rfl,⟨_,Ae.of hB⟩,BS (xs:=xs) (λi L I=>Ab H1 I/\L=((es.take i).map λe=>V.bl (AZ e 0 20))) (by lia) ⟨Ab.refl _,rfl⟩ (λi L I h=>by rw[h.2,Y0,YW];lia) (λi L I _ h=>Ae.of (h.1 _ _ hB)) (λi x L I hx h=>?_) λL I h=>?_⟩
    .obtain⟨e',he,i4⟩:=rs.got hx;refine⟨trivial,λ_=>⟨p,e',Aa.ev (Ev.same h.1) _ _ i4,λb eb=>⟨h.1,?_⟩⟩,λc=>by cases c⟩;rw[A6 he,YM,h.2,eb];rfl
    .intro m hm;have s2:Ab H1 (upd I m (.lst L)):=h.1.trans (Ab.new hm);refine⟨m,es.map λe=>AZ e 0 20,rfl,by rw [Af,h.2,YS (by lia),bA];rfl,⟨λc2=>?_,λc2=>?_⟩⟩
     .have J:(es.all λe=>AZ e 0 20)=true:=by rw [ci] at c2;exact c2
      refine⟨p,fs,Aa.ev (Ev.same s2) _ _ ry,λb2 e2=>⟨λc3=>?_,λc3=>?_⟩⟩
      .have Z:AV fs 0 4=true:=by rw [<-e2];exact c3
       obtain⟨gs,rfl,f0,f4⟩:=GB Z;obtain⟨E',zs,rfl,hE,rz⟩:=Aa.shape ry;have lz:=rz.len;refine⟨E',rfl,⟨_,Ae.of (s2 _ _ hE)⟩,BS (xs:=zs) (λi L I=>Ab H1 I/\L=((gs.take i).map λe=>V.bl (Dp P.bs.length es.length e))) (by lia) ⟨s2,rfl⟩ (λi L I h=>by rw[h.2,Y0,YW];lia) (λi L I _ h=>Ae.of (h.1 _ _ hE)) (λi x i9 H2 hx h2=>?_) λi9 H2 h2=>?_⟩
       .obtain⟨e',he,i4⟩:=rz.got hx;refine⟨⟨rfl,rfl,trivial⟩,λ_=>⟨PA,_,0,.ref PB,rfl,rfl,Ae.of (h2.1 _ _ pA),rfl,PB,xb,rfl,.inr (Ae.of (h2.1 _ _ pB)),B,_,rfl,.inr (Ae.of (h2.1 _ _ hB)),p,e',Aa.ev (Ev.same h2.1) _ _ i4,fsd _ _ rfl _ (YU he),λb H3 eb s3=>⟨h2.1.trans s3,?_⟩⟩,λc=>by cases c⟩;rw[A6 he,YM,h2.2,eb,<-lb,<-lx];rfl
       .intro m2 i7;refine⟨m2,gs.map λe=>Dp P.bs.length es.length e,rfl,by rw [Af,h2.2,YS (by lia),bA];rfl,?_⟩;refine q _ _ ?_ (s1.trans (h2.1.trans (Ab.new i7)));unfold CV;rw [hf];dsimp only;rw [O,J,Z,ci]
        rfl
      .have Z:AV fs 0 4=false:=by rw [<-e2];exact c3
       refine q _ _ ?_ (s1.trans s2);unfold CV;rw[hf];dsimp only;rw[Z,Zg,Zb,Zg,Zg]
     .have J:(es.all λe=>AZ e 0 20)=false:=by rw [ci] at c2;exact c2
      refine q _ _ ?_ (s1.trans s2);unfold CV;rw[hf];dsimp only;rw[J,Zb,Zb,Zg,Zg]
   .have O:AV ex 1 8=false:=by rw [<-e1];exact c1
    refine q _ _ ?_ s1;unfold CV;rw[hf];dsimp only;rw[O,Zb,Zg]
 .exact h.elim
theorem W7{S:SY}{n:Nat}(so:S.ok n):CV (n:Int) S.d=true:=by
 have x1:=so.x1;have x8:=so.x8;have f4:=so.f4;unfold CV SY.d;dsimp only;rw[Ea (by simp) (by simp),Ea (by rw[Y0];lia) (by rw[Y0];lia),Ea (by rw[Y0];lia) (by rw[Y0];lia)];rw[show((S.ex.map PyData.int).all λe=>AZ e 0 20)=true from by
  rw[ci,Zt];intro a I;obtain⟨D,G⟩:=so.x a I;exact CU D G]
 rw[aj,aj,aj,aj,ci,Zt];intro x J;obtain⟨o1,O,c,g,L⟩:=so.f x J;show Dp _ _ x.d=true;unfold Dp;dsimp only;rw[Ea (by simp) (by simp),CU o1 (by lia),CU (by lia) (by rw[Y0];lia),CU c g];cases x.out<;>rfl
theorem W8{S:SY}:FO S.d:=λx J e y g=>by
 unfold SY.d at e;injection e with e
 injection e with I c
 injection c with c _
 injection c with c
 rw[<-c]at g;obtain⟨z,_,rfl⟩:=Z8.mp g;intro b w f l e G D;injection e with e
 injection e with _ e
 injection e with e _
 rw[<-e]at D;cases D
def AW(ds:List yR)(good:yR->PL->SY->Hp->VK->Prop):Sp:=λc H Q E=>match c with | [v,u]=>Ed ds [v,u] H Q E\/ ∃p P S,PL.ok P/\SY.ok S P.bs.length/\Aa p H P.d v/\Aa p H S.d u/\good p P S H Q | _=>False
def KR:yR->PL->SY->Hp->VK->Prop:=λp P S H Q=>∀c,Ab H c->Q .non c
def IM:yR->PL->SY->Hp->VK->Prop:=λp P S H Q=>ret H Q p (EN P S)
def IN:yR->PL->SY->Hp->VK->Prop:=λp P S H Q=>ret H Q p (JS P S)
def W9:yR->PL->SY->Hp->VK->Prop:=λp P S H Q=>ret H Q p (terms P S).d
theorem Xa(F:Df K mg "need_story" wag ["plant","story"])(T:Tx mg)(C:Tc K mg M ds)(D:AX P w K mg base 7 "is_story" ["plant","thing"] (GL ds)):AX P w K mg base 8 "need_story" ["plant","story"] (AW ds KR):=by
 refine F.fmE (N:=["plant","story"]) AB λf dl A outer s H J Q E G h=>?_
 unfold AW at h;split at h
 .rename_i v u;refine⟨_,(Ao (Bq (Cz (Cp (Bu Bg D (G.mono (by decide)) rfl (As (cy 0) (cy 1))))) (Ao (HL Bg rfl C.n_NoStory C.x_NoStory rfl (Aj AF))) Bn)),?_⟩;rcases h with h | ⟨p,P,S,ok,so,r,ru,q⟩
  .unfold Ed at h;rcases h with⟨p,d,r,hp,q⟩ | ⟨p,P,e,ok,r,ru,fsd,hs,q⟩
   .exact .inl ⟨p,d,r,hp,q⟩
   .exact .inr ⟨p,P,e,ok,r,ru,fsd,λb I g s1=>⟨λc=>⟨BW rfl,q _ s1⟩,λc=>(by rw[g,hs]at c;cases c)⟩⟩
  .exact .inr ⟨p,P,S.d,ok,r,ru,W8,λb I g s1=>⟨λc=>(by rw[g,W7 so]at c;cases c),λc=>q _ s1⟩⟩
 .exact h.elim
abbrev GM(P:yP)(w:yN)(K:Fgx)(mg:Str->yW)(base:Heap)(ds:List yR):Prop:=AX P w K mg base 9 "caps_of" ["plant","story"] (AW ds IM)
theorem Xb(F:Df K mg "caps_of" wah ["plant","story"])(T:Tx mg)(G:Fn P w K mg base 2 "caps_in" ["boilers","faults","hour"] Ip)(D:AX P w K mg base 8 "need_story" ["plant","story"] (AW ds KR)):GM P w K mg base ds:=by
 refine F.fmE (N:=["plant","story","extra","faults"]) AB λf dl A outer s H vs Q E I h=>?_
 unfold AW at h;split at h
 .rename_i v u;refine⟨_,(Ak (B7 (Bu Bg D (I.mono (by decide)) rfl (As (cy 0) (cy 1)))) (Ak (Bo (cy 1) (AL K (n:=2) (Ai (zD 2) (Ai (zD 3) AK)))) (Ao (Av (BI (BX K) rfl T.b_tuple BT (Aj (Bh ["hour","faults","plant"] [none,some 3,some 0] rfl (CO rfl T.b_range (Aj (Ax (Bl K) rfl T.b_len PySem.boot_len (Aj (cy 2))))) (AJ.of rfl) (λ_ _ _ _=>(zD 0)) (λ_ _ _ _=>A8) (λ_ _ _ _=>(zB G I (AM (AH (Bw K) (cy 2) Ag (λ_ _=>rfl)) (cy 1) (cy 0))))))))))),?_⟩;rcases h with h | ⟨p,P,S,ok,so,r,ru,q⟩
  .exact .inl h
  .refine .inr ⟨p,P,S,ok,so,r,ru,λH1 s1=>?_⟩;obtain⟨A,B,E,xf,rfl,hA,hB,hE,rf⟩:=Aa.story (Aa.ev (Ev.same s1) _ _ ru);obtain⟨PA,PB,PE,PM,xb,xe,rfl,pA,pB,rb,pE,re,pM⟩:=Aa.plant (Aa.ev (Ev.same s1) _ _ r);have x8:=so.x8;have f4:=so.f4;have b4:=ok.b4;refine⟨A,_,rfl,Ae.of hA,rfl,_,_,rfl,_,_,rfl,rfl,B,_,rfl,.inr (Ae.of hB),_,rfl,by lia,by rw [Y0];lia,F4 (n:=(S.ex.map V.int).length) (λi c g=>Ab H1 g/\Ac p g (((caps P S).take i).map AN) c) (by rw [Y0];lia) ⟨Ab.refl _,.nil⟩ (λi c g h=>by rw [<-h.2.len,Y0,YW];lia) (λi c g hi h=>?_) λc g h=>?_⟩
   .rw[Y0]at hi;refine⟨⟨rfl,rfl,trivial⟩,λ_=>?_,λz=>by cases z⟩;refine⟨PA,_,0,.ref PB,rfl,rfl,Ae.of (h.1 _ _ pA),rfl,p,P.bs,S.fs,Aa.tup (h.1 _ _ pB) (Ac.ev (Ev.same h.1) _ _ rb),Aa.tup (h.1 _ _ hE) (Ac.ev (Ev.same h.1) _ _ rf),by lia,by lia,λv2 H2 s2 O=>⟨h.1.trans s2,?_⟩⟩;rw[aQ]at O;rw[A6 (CZ hi),YM];exact Ac.snoc (Ac.ev (Ev.same s2) _ _ h.2) O
   .intro m Z;refine⟨m,_,rfl,.inl ⟨Al.of Af,λt ht=>?_⟩⟩;have J:=(Ab.new (o:= .lst c) Z).trans (Ab.new (o:= .tup c) ht);refine q _ _ (s1.trans (h.1.trans J)) (Aa.tup Af ?_);have L:=Ac.ev (Ev.same J) _ _ h.2;rw[YS (by rw[Cr,Y0];exact Y4 _)]at L;exact L
 .exact h.elim
theorem Xc(F:Df K mg "draws_of" wal ["plant","story"])(T:Tx mg)(O:Fn P w K mg base 1 "drawn_by" ["engine","hour"] Iq)(Z:AX P w K mg base 8 "need_story" ["plant","story"] (AW ds KR)):AX P w K mg base 9 "draws_of" ["plant","story"] (AW ds IN):=by
 refine F.fmE (N:=["plant","story","engines"]) AB λf dl A outer s H vs Q E hr h=>?_
 unfold AW at h;split at h
 .rename_i v u;refine⟨_,(Ak (B7 (Bu Bg Z (hr.mono (by decide)) rfl (As (cy 0) (cy 1)))) (Ak (zE 2 (AH (Bw K) (cy 0) Ag (λ_ _=>rfl))) (Ao (Av (BI (BX K) rfl T.b_tuple BT (Aj (Bh ["hour","units","engines"] [none,none,some 2] rfl (EM P w K rfl T.b_enumerate (Aj (AH (Bw K) (cy 1) Ag (λ_ _=>rfl)))) (AJ.of rfl) (λ_ _ _ _=>(AL K (n:=2) (Ai (zD 0) (Ai (zD 1) AK)))) (λ_ _ _ _=>A8) (λ_ _ _ _=>(Ar Bs (cy 1) (Ax (Hv rfl) rfl T.b_sum aW (Aj (Bh ["engine","hour"] [none,some 0] rfl (BO K (cy 2)) (AJ.of rfl) (λ_ _ _ _=>(zD 0)) (λ_ _ _ _=>A8) (λ_ _ _ _=>(zB O hr (As (cy 0) (cy 1)))))))))))))))),?_⟩;rcases h with h | ⟨p,P,S,ok,so,r,ru,q⟩
  .exact .inl h
  .refine .inr ⟨p,P,S,ok,so,r,ru,λH1 s1=>?_⟩;obtain⟨A,B,E,xf,rfl,hA,hB,hE,rf⟩:=Aa.story (Aa.ev (Ev.same s1) _ _ ru);obtain⟨PA,PB,PE,PM,xb,xe,rfl,pA,pB,rb,pE,re,pM⟩:=Aa.plant (Aa.ev (Ev.same s1) _ _ r);have x8:=so.x8;have e4:=ok.e4;have le:=re.len;rw [Y0] at le;refine⟨PA,_,1,.ref PE,rfl,rfl,Ae.of pA,rfl,A,_,0,.ref B,rfl,rfl,Ae.of hA,rfl,B,rfl,⟨_,Ae.of hB⟩,walk_enum (xs:=S.ex.map V.int) (λi G g=>Ab H1 g/\G=((draws P S).take i).map V.int) (by rw [Y0];lia) ⟨Ab.refl _,rfl⟩ (λi G g h=>by rw [h.2,Y0,YW];lia) (λi G g h=>Ae.of (h.1 _ _ hB)) (λi x G g T c h hT=>?_) λG g h=>?_⟩
   .rw [YO] at c;cases z:S.ex[i]? with
    |none=>rw[z]at c;cases c
    |some n=>
     rw[z]at c;cases c;have s2:Ab H1 (upd g T (.tup [.int i,.int n])):=h.1.trans (Ab.new hT);refine⟨T,_,rfl,Ae.of Af,rfl,_,_,rfl,_,_,rfl,rfl,⟨rfl,trivial⟩,λ_=>?_,λz=>by cases z⟩;refine⟨PE,rfl,⟨xe,Ae.of (s2 _ _ pE)⟩,BS (xs:=xe) (λj J I=>Ab H1 I/\J=((P.es.take j).map λe=>drawn e i).map V.int) (by lia) ⟨s2,rfl⟩ (λj J I h=>by rw[h.2,Y0,Y0,YW];lia) (λj J I _ h=>Ae.of (h.1 _ _ pE)) (λj x J I c D=>?_) λJ I D=>?_⟩
     .obtain⟨f,hf,rd⟩:=Ac.mapGot re c;refine⟨⟨rfl,trivial⟩,λ_=>⟨p,f,Aa.ev (Ev.same D.1) _ _ rd,(ok.e f (YU hf)).2.2.2.2.1,D.1,?_⟩,λz=>by cases z⟩;rw[A6 hf,YM,YM,D.2];rfl
     .intro m L;refine⟨m,P.es.map λe=>drawn e i,rfl,?_,D.1.trans (Ab.new L),?_⟩
      .rw[Af,D.2,YS (by lia)]
      .rw[A6 (R9 z),YM,h.2];rfl
   .intro m L;refine⟨m,_,rfl,.inl ⟨Al.of Af,λt ht=>?_⟩⟩;refine q _ _ (s1.trans (h.1.trans ((Ab.new L).trans (Ab.new ht)))) (Aa.row ?_);rw[Af,h.2,YS (by rw[Cs,Y0];lia)]
 .exact h.elim
abbrev EB(P:yP)(w:yN)(K:Fgx)(mg:Str->yW)(base:Heap)(ds:List yR):Prop:=AX P w K mg base 10 "terms_of" ["plant","story"] (AW ds W9)
theorem Xd(F:Df K mg "terms_of" wan ["plant","story"])(T:Tx mg)(J:GM P w K mg base ds)(I:AX P w K mg base 9 "draws_of" ["plant","story"] (AW ds IN)):EB P w K mg base ds:=by
 refine F.fmE (N:=["plant","story","caps","coals"]) AB λf dl A outer s H vs Q E hr h=>?_
 unfold AW at h;split at h
 .rename_i v u;refine⟨_,(Ak (zE 2 (Bu Bg J (hr.mono (by decide)) rfl (As (cy 0) (cy 1)))) (Ak (zE 3 (BI (BX K) rfl T.b_tuple BT (Aj (Bh ["make","coal"] [none,none] rfl (BO K (AH (Bw K) (cy 0) Ag (λ_ _=>rfl))) (AJ.of rfl) (λ_ _ _ _=>(AL K (n:=2) (Ai (zD 0) (Ai (zD 1) AK)))) (λ_ _ _ _=>A8) (λ_ _ _ _=>(cy 1)))))) (Ao (Av (BF (B3 (cy 2) (cy 3) (Bu Bg I (hr.mono (by decide)) rfl (As (cy 0) (cy 1))) (AH (Bw K) (cy 0) Ag (λ_ _=>rfl)))))))),?_⟩;rcases h with h | ⟨p,P,S,ok,so,r,ru,q⟩
  .exact .inl h
  .refine .inr ⟨p,P,S,ok,so,r,ru,λcv H1 s1 rc=>?_⟩;obtain⟨PA,PB,PE,PM,xb,xe,rfl,pA,pB,rb,pE,re,pM⟩:=Aa.plant (Aa.ev (Ev.same s1) _ _ r);have b4:=ok.b4;have lb:=rb.len;rw [Y0] at lb;refine⟨PA,_,0,.ref PB,rfl,rfl,Ae.of pA,rfl,PB,rfl,⟨xb,Ae.of pB⟩,BS (xs:=xb) (λi c D=>Ab H1 D/\c=((P.bs.take i).map λq=>V.int q.2)) (by lia) ⟨Ab.refl _,rfl⟩ (λi c D h=>by rw [h.2,Y0,YW];lia) (λi c D _ h=>Ae.of (h.1 _ _ pB)) (λi x c D hx h=>?_) λc D h=>?_⟩
   .obtain⟨f,hf,O⟩:=Ac.mapGot rb hx;obtain⟨l,zs,rfl,Z,rz⟩:=Aa.shape (Aa.ev (Ev.same h.1) _ _ O);obtain⟨y1,y2,rfl,r1,r2⟩:=Ac.two rz;unfold Aa at r1 r2;subst r1 r2;refine⟨l,_,rfl,Ae.of Z,rfl,_,_,rfl,_,_,rfl,rfl,trivial,λ_=>⟨h.1,?_⟩,λz=>by cases z⟩;rw[A6 hf,YM,h.2];rfl
   .intro m hm;refine⟨m,_,rfl,.inl ⟨Al.of Af,λt ht=>?_⟩⟩;have nt:=Ab.new (o:= .tup c) ht;have s2:=h.1.trans ((Ab.new (o:= .lst c) hm).trans nt);refine .inr ⟨p,P,S,ok,so,Aa.ev (Ev.same (s1.trans s2)) _ _ r,Aa.ev (Ev.same (s1.trans s2)) _ _ ru,λdv H3 s3 O=>?_⟩;have g:=s2.trans s3;refine⟨PA,_,2,.ref PM,rfl,rfl,Ae.of (g _ _ pA),rfl,λt2 L=>?_⟩;have s4:=Ab.new (o:= .tup [cv,.ref t,dv,.ref PM]) L;have ey:c=(P.bs.map (·.2)).map V.int:=by rw [h.2,YS (by lia),bA];rfl
    have G:=(s3.trans s4) _ _ (Af (H:=upd D m (.lst c)) (a:=t) (o:= .tup c));rw[ey]at G;refine q _ _ (s1.trans (g.trans s4)) (Aa.tup Af (.cons (Aa.ev (Ev.same (g.trans s4)) _ _ rc) (.cons (Aa.row G) (.cons (Aa.ev (Ev.same s4) _ _ O) (.cons (Aa.tup ((g.trans s4) _ _ pM) (.cons Aa.int (.cons Aa.int (.cons Aa.int .nil)))) .nil)))))
 .exact h.elim
def AY(ds:List yR)(good:yR->PL->SY->yZ->Hp->VK->Prop):Sp:=λvs H Q E=>match vs with | [v,u,w]=>Ed ds [v,u] H Q E\/(∃p P S d,PL.ok P/\SY.ok S P.bs.length/\Aa p H P.d v/\Aa p H S.d u/\Aa p H d w/\Cv (caps P S) d=false/\∀H',Ab H H'->E (.ref (ds.getD 2 0)) none H')\/ ∃p P S F,Tri p H P S F v u w/\good p P S F H Q | _=>False
def GN(ds:List yR):Sp:=λvs H Q E=>match vs with | [v,u,w]=>Ed ds [v,u] H Q E\/ ∃p P S d,PL.ok P/\SY.ok S P.bs.length/\Aa p H P.d v/\Aa p H S.d u/\Aa p H d w/\∀b H',b=Cv (caps P S) d->Ab H H'->Q (.bl b) H' | _=>False
def Xe:yR->PL->SY->yZ->Hp->VK->Prop:=λp P S F H Q=>∀c,Ab H c->Q .non c
def KS:yR->PL->SY->yZ->Hp->VK->Prop:=λp P S F H Q=>∀t R D c k s g,Run P S F k s->Ab H c->H R=none->c t=some (.tup [.ref R,D])->c R=some (.lst g)->Ac p c (C4 P S F k) g->Aa p c (DX s) D->Q (.ref t) c
def IO:yR->PL->SY->yZ->Hp->VK->Prop:=λp P S F H Q=>∀R c k s g,Run P S F k s->Ab H c->H R=none->c R=some (.lst g)->Ac p c (C4 P S F k) g->Q (.ref R) c
def KU:yR->PL->SY->yZ->Hp->VK->Prop:=λp P S F H Q=>∀g c k s,Run P S F k s->Ab H c->Aa p c (DX s) g->Q g c
def ON:yR->PL->SY->yZ->Hp->VK->Prop:=λp P S F H Q=>∀c k s,Run P S F k s->Ab H c->Q (.bl s.isNone) c
def KW:yR->PL->SY->yZ->Hp->VK->Prop:=λp P S F H Q=>ret H Q p (AN (B4 P F))
def OO:yR->PL->SY->yZ->Hp->VK->Prop:=λp P S F H Q=>∀c,Ab H c->Q (.int (coal P F)) c
def OP:yR->PL->SY->yZ->Hp->VK->Prop:=λp P S F H Q=>∀R c g,Ab H c->H R=none->c R=some (.lst g)->Ac p c ((CI F).map Ge) g->Q (.ref R) c
theorem Xf(F:Df K mg "full_firing" was ["plant","story"])(T:Tx mg)(c:GM P w K mg base ds):AX P w K mg base 10 "full_firing" ["plant","story"] (AW ds IM):=by
 refine F.fmE (N:=["plant","story"]) AB λf dl A outer s H D Q E g h=>?_
 unfold AW at h;split at h
 .rename_i v u;refine⟨_,(Ao (Av (Bu Bg c (g.mono (by decide)) rfl (As (cy 0) (cy 1))))),?_⟩;rcases h with h | ⟨p,P,S,ok,so,r,ru,q⟩
  .exact .inl h
  .exact .inr ⟨p,P,S,ok,so,r,ru,q⟩
 .exact h.elim
theorem Xg(F:Df K mg "is_firing" wao ["plant","story","thing"])(T:Tx mg)(g:Fn P w K mg base 4 "is_firing_within" ["caps","thing"] Iw)(c:GM P w K mg base ds):AX P w K mg base 10 "is_firing" ["plant","story","thing"] (GN ds):=by
 refine F.fmE (N:=["plant","story","thing"]) AB λf dl A outer s H O Q E G h=>?_
 unfold GN at h;split at h
 .rename_i v u w;refine⟨_,(Ao (Av (zB g G (As (Bu Bg c (G.mono (by decide)) rfl (As (cy 0) (cy 1))) (cy 2))))),?_⟩;rcases h with h | ⟨p,P,S,d,ok,so,I,ru,D,q⟩
  .exact .inl h
  .exact .inr ⟨p,P,S,ok,so,I,ru,λZ H1 s1 J=>⟨p,P,S,d,ok,so,J,Aa.ev (Ev.same s1) _ _ D,λb L e s2=>q b L e (s1.trans s2)⟩⟩
 .exact h.elim
abbrev GO(P:yP)(w:yN)(K:Fgx)(mg:Str->yW)(base:Heap)(ds:List yR):Prop:=AX P w K mg base 11 "need_firing" ["plant","story","firing"] (AY ds Xe)
theorem Xh(F:Df K mg "need_firing" war ["plant","story","firing"])(T:Tx mg)(C:Tc K mg M ds)(D:AX P w K mg base 10 "is_firing" ["plant","story","thing"] (GN ds)):GO P w K mg base ds:=by
 refine F.fmE (N:=["plant","story","firing"]) AB λf dl A outer s H L Q E I h=>?_
 unfold AY at h;split at h
 .rename_i v u w;refine⟨_,(Ao (Bq (Cz (Cp (Bu Bg D (I.mono (by decide)) rfl (AM (cy 0) (cy 1) (cy 2))))) (Ao (HL Bg rfl C.n_NoFiring C.x_NoFiring rfl (Aj AF))) Bn)),?_⟩;rcases h with h | ⟨p,P,S,d,ok,so,r,ru,G,no,q⟩ | ⟨p,P,S,F,g,q⟩
  .exact .inl h
  .exact .inr ⟨p,P,S,d,ok,so,r,ru,G,λb J e s1=>⟨λc=>⟨BW rfl,q _ s1⟩,λc=>(by rw[e,no]at c;cases c)⟩⟩
  .exact .inr ⟨p,P,S,FD F,g.ok,g.so,g.r,g.ru,g.rw,λb J e s1=>⟨λc=>(by rw[e,fireB_is.mpr ⟨F,rfl,g.fo⟩]at c;cases c),λc=>q _ s1⟩⟩
 .exact h.elim
theorem Xi(F:Df K mg "run_day" wau ["plant","story","firing"])(T:Tx mg)(j6:GO P w K mg base ds)(j4:AX P w K mg base 9 "draws_of" ["plant","story"] (AW ds IN)):AX P w K mg base 12 "run_day" ["plant","story","firing"] (AY ds KS):=by
 refine F.fmE za2 λf dl A outer s H vs Q E hr h=>?_
 unfold AY at h;split at h
 .rename_i v u w;refine⟨_,(Ak (B7 (Bu Bg j6 (hr.mono (by decide)) rfl (AM (cy 0) (cy 1) (cy 2)))) (Ak (Bo (AH (Bw K) (cy 0) Ag (λ_ _=>rfl)) (AL K (n:=3) (Ai (zD 3) (Ai (zD 4) (Ai (zD 5) AK))))) (Ak (zE 6 (A5 BE)) (Ak (Cm PassesOwn.leaving rfl (EM P _ K rfl T.b_enumerate (Aj (Bu Bg j4 (hr.mono (by decide)) rfl (As (cy 0) (cy 1))))) (AL K (n:=2) (Ai (zD 7) (Ai (zD 8) AK))) (Ak (zE 9 (Ax (Eo rfl) rfl T.b_sum aW (Aj (AH (Bw K) (cy 2) (cy 7) (λ_ _=>rfl))))) (Ak (Lg (i:=5) za2.nd rfl (AC (by rfl)) (Ar BL (cy 9) (cy 8)) Jk) (Ak (Bq (Bi EL (cy 5) (cy 3) (Ba _)) (Ao (Av (BF (As (cy 6) (BF (As (cy 7) (Ar BL (cy 3) (cy 5)))))))) Bn) (Ak (zE 10 (Ax (Jr rfl) rfl T.b_max eN (As (Ar BL (cy 5) (cy 4)) Ag))) (Ak (Lg (i:=5) za2.nd rfl (AC (by rfl)) (cy 10) P3) (Ao (B7 (DC PySem.F.plainAttrs_list PySem.F.slot_list_append PySem.F.type_list_append DO (cy 6) (Aj (BF (B3 (cy 9) (cy 8) (cy 10) (cy 5))))))))))))) (Ao (Av (BF (As (cy 6) Ck)))))))),?_⟩;rcases h with h | h | ⟨p,P,S,F,tr,q⟩
  .exact .inl h
  .exact .inr (.inl h)
  refine .inr (.inr ⟨p,P,S,F,tr,λH1 s1=>?_⟩);have t1:=tr.sm s1;have x8:=tr.so.x8;have fl:=tr.fo.len;obtain⟨PA,PB,PE,PM,xb,xe,rfl,pA,pB,rb,pE,re,pM⟩:=Aa.plant t1.r;refine⟨PA,_,2,.ref PM,rfl,rfl,Ae.of pA,rfl,PM,_,rfl,Ae.of pM,rfl,_,_,rfl,_,_,rfl,_,_,rfl,rfl,λR hR=>?_⟩;have sR:Ab H1 (upd H1 R (.lst [])):=Ab.new hR;have Z:H R=none:=s1.free hR;have tR:=t1.sm sR;refine .inr ⟨p,P,S,tr.ok,tr.so,tR.r,tR.ru,λv1 H2 s2 r2=>?_⟩;obtain⟨D,rfl,hD⟩:=Aa.ofRow (r:=draws P S) r2;have t2:=tR.sm s2;have i7:Ab H H2:=s1.trans (sR.trans s2);obtain⟨FA,fx,rfl,hF,rx⟩:=Aa.firing t2.rw;refine⟨D,rfl,⟨_,Ae.of hD⟩,for_enum (xs:=(draws P S).map V.int) (λi σ L=>(∃x7 x8 x9 i6,σ=[some (.ref PA),some u,some (.ref FA),some (.int P.lo),some (.int P.hi),some (.int (Be P S F i)),some (.ref R),x7,x8,x9,i6])/\Ev R H2 L/\(∀j,j<i->P.lo<=Bx P S F j)/\∃xs,L R=some (.lst xs)/\Ac p L (C4 P S F i) xs)
   ⟨⟨_,_,_,_,rfl⟩,Ev.refl,(λj hj=>absurd hj (bF _)),[],s2 _ _ Af,.nil⟩ (λi σ L h=>Ae.of (h.2.1.tup hD)) (λi x σ L T hx h hT=>?_) fun σ L h=>?_⟩
  .obtain⟨⟨x7,i9,x9,i6,rfl⟩,ev,up,xs,G,g⟩:=h;rw [YO] at hx;cases z:(draws P S)[i]? with
   |none=>rw[z]at hx;cases hx
   |some d=>
    rw[z]at hx;cases hx;have hi:i<S.ex.length:=by
     have:=(Y3.mp z).1;rw[Cs]at this;exact this
    have ed:=M4 z;obtain⟨r,hr⟩:∃r,F[i]? =some r:=⟨F[i],by simp⟩;have em:=M3 hr;obtain⟨y,hy,ry⟩:=rx.get (i:=i) (d:=AN r) (by rw[YO,hr];rfl);have J:Ab L (upd L T (.tup [.int i,.int d])):=Ab.new hT;have O:Ev R H2 (upd L T (.tup [.int i,.int d])):=ev.trans (Ev.same J);obtain⟨ra,rfl,j3⟩:=Aa.ofRow ry;refine⟨T,_,rfl,Ae.of Af,rfl,_,_,rfl,_,_,rfl,rfl,?_⟩;refine⟨FA,_,(i:Int),.ref ra,rfl,rfl,Ae.of (O.tup hF),DB hy,ra,r,rfl,.inr (O.tup j3),_,rfl,_,_,rfl,rfl,?_⟩;have I:Be P S F i+(r.sum-d)=Bx P S F i:=by unfold Bx;rw[em,ed]
    refine⟨λc=>?_,λc=>?_⟩
    .intro t1 j5 t2 i8;have c':=Z3 c;have i5:=(Ab.new (o:= .tup [.int i,.int (P.lo-(Be P S F i+(r.sum-d)))]) j5).trans (Ab.new (o:= .tup [.ref R,.ref t1]) i8);refine q t2 R (.ref t1) _ i (some ((i:Int),P.lo-Bx P S F i)) xs ⟨ZO hi,up,.inr ⟨hi,by rw[<-I];exact c',rfl⟩⟩ (Ab.evOwn i7 Z (O.trans (Ev.same i5))) Z Af ((J.trans i5) _ _ G) (Ac.ev (Ev.same (J.trans i5)) _ _ g) ?_;refine Aa.tup ((Ab.new i8) _ _ Af) ?_;rw[<-I];exact .cons Aa.int (.cons Aa.int .nil)
    .refine⟨_,_,rfl,_,rfl,_,_,rfl,rfl,.inl ⟨rfl,_,Al.of (J _ _ G)⟩,λt ht=>?_⟩;have c':P.lo<=Bx P S F i:=by
      have:=aa c;have h2:¬Be P S F i+(r.sum-d)<P.lo:=this;rw[I]at h2;lia
     have lx:=g.len;rw[JZ]at lx;have i4:upd (upd L T (.tup [.int i,.int d])) t (.tup [.int r.sum,.int d,.int (if 0>Be P S F i+(r.sum-d)-P.hi then 0 else Be P S F i+(r.sum-d)-P.hi),.int (Be P S F i+(r.sum-d)-if 0>Be P S F i+(r.sum-d)-P.hi then 0 else Be P S F i+(r.sum-d)-P.hi)]) R=some (.lst xs):=(J.trans (Ab.new ht)) _ _ G;have j0:Be P S F i+(r.sum-d)-(if 0>Be P S F i+(r.sum-d)-P.hi then 0 else Be P S F i+(r.sum-d)-P.hi)=Be P S F (i+1):=by rw[Ep,<-I];rfl
     refine⟨R,xs,.ref t,rfl,rfl,i4,Ex (by lia),⟨some (.int i),some (.int d),some (.int r.sum),some (.int (if 0>Be P S F i+(r.sum-d)-P.hi then 0 else Be P S F i+(r.sum-d)-P.hi)),Zv (λz=>[some (V.ref PA),some u,some (V.ref FA),some (V.int P.lo),some (V.int P.hi),some (V.int z),some (V.ref R),some (V.int i),some (V.int d),some (V.int r.sum),some (V.int (if 0>Be P S F i+(r.sum-d)-P.hi then 0 else Be P S F i+(r.sum-d)-P.hi))]) j0⟩,(O.trans (Ev.new ht)).trans (Ev.pen i4),λj hj=>?_,_,Af,?_⟩
     .by_cases cj:j=i
      .subst cj;exact c'
      .exact up j (by lia)
     .have tv:=TEv.upd (zs:=xs++[.ref t]) i4;rw [Sh];refine Ac.snoc (Ac.tev ((Ev.same (p:=p) (J.trans (Ab.new ht))).tev.trans tv) _ _ (C9 λd hd=>?_) g) (Aa.tev (p:=p) tv _ _ rfl (Aa.tup Af ?_))
      .unfold C4 at hd;obtain⟨k,_,rfl⟩:=Z8.mp hd
       rfl
      .rw[em,ed,Ep,<-I];exact .cons Aa.int (.cons Aa.int (.cons Aa.int (.cons Aa.int .nil)))
  .obtain⟨⟨x7,i9,x9,i6,rfl⟩,ev,up,xs,G,g⟩:=h;rw[Y0,Cs]at up g;intro t ht;have J:=Ab.new (o:= .tup [.ref R,.non]) ht;exact q t R .non _ S.ex.length none xs ⟨Y4 _,up,.inl ⟨rfl,rfl⟩⟩ (Ab.evOwn i7 Z (ev.trans (Ev.same J))) Z Af (J _ _ G) (Ac.ev (Ev.same J) _ _ g) Aa.non
 .exact h.elim
theorem Xj(F:Df K mg "course" wav ["plant","story","firing"])(T:Tx mg)(g:AX P w K mg base 12 "run_day" ["plant","story","firing"] (AY ds KS)):AX P w K mg base 13 "course" ["plant","story","firing"] (AY ds IO):=by
 refine F.fmE (N:=["plant","story","firing","rows","short"]) AB λf dl A outer s H vs Q E D h=>?_
 unfold AY at h;split at h
 .rename_i v u w;refine⟨_,(Ak (Bo (Bu Bg g (D.mono (by decide)) rfl (AM (cy 0) (cy 1) (cy 2))) (AL K (n:=2) (Ai (zD 3) (Ai (zD 4) AK)))) (Ao (Av (cy 3)))),?_⟩;rcases h with h | h | ⟨p,P,S,F,G,q⟩
  .exact .inl h
  .exact .inr (.inl h)
  exact .inr (.inr ⟨p,P,S,F,G,λt R sv I k s J run sm L Z c O rs=>⟨t,_,rfl,Ae.of Z,rfl,_,_,rfl,_,_,rfl,rfl,q R I k s J run sm L c O⟩⟩)
 .exact h.elim
theorem Xk(F:Df K mg "falls_at" waw ["plant","story","firing"])(T:Tx mg)(c:AX P w K mg base 12 "run_day" ["plant","story","firing"] (AY ds KS)):AX P w K mg base 13 "falls_at" ["plant","story","firing"] (AY ds KU):=by
 refine F.fmE (N:=["plant","story","firing","rows","short"]) AB λf dl A outer s H O Q E g h=>?_
 unfold AY at h;split at h
 .rename_i v u w;refine⟨_,(Ak (Bo (Bu Bg c (g.mono (by decide)) rfl (AM (cy 0) (cy 1) (cy 2))) (AL K (n:=2) (Ai (zD 3) (Ai (zD 4) AK)))) (Ao (Av (cy 4)))),?_⟩;rcases h with h | h | ⟨p,P,S,F,G,q⟩
  .exact .inl h
  .exact .inr (.inl h)
  exact .inr (.inr ⟨p,P,S,F,G,λt R J I k s Z run sm hR L D rx rs=>⟨t,_,rfl,Ae.of L,rfl,_,_,rfl,_,_,rfl,rfl,q J I k s run sm rs⟩⟩)
 .exact h.elim
theorem Xl(F:Df K mg "keeps_up" wax ["plant","story","firing"])(T:Tx mg)(c:AX P w K mg base 13 "falls_at" ["plant","story","firing"] (AY ds KU)):AX P w K mg base 14 "keeps_up" ["plant","story","firing"] (AY ds ON):=by
 refine F.fmE (N:=["plant","story","firing"]) AB λf dl A outer s H I Q E g h=>?_
 unfold AY at h;split at h
 .rename_i v u w;refine⟨_,(Ao (Av (Dz Qm (Bu Bg c (g.mono (by decide)) rfl (AM (cy 0) (cy 1) (cy 2))) Ck (Ba _)))),?_⟩;rcases h with h | h | ⟨p,P,S,F,D,q⟩
  .exact .inl h
  .exact .inr (.inl h)
  refine .inr (.inr ⟨p,P,S,F,D,λJ G k s run sm rs=>⟨rfl,?_⟩⟩);rw[Wi rs];exact q G k s run sm
 .exact h.elim
theorem Xm(F:Df K mg "steam_by" waA ["plant","story","firing"])(T:Tx mg)(i5:GO P w K mg base ds):AX P w K mg base 12 "steam_by" ["plant","story","firing"] (AY ds KW):=by
 refine F.fmE (N:=["plant","story","firing"]) AB λf dl A outer s H vs Q E I h=>?_
 unfold AY at h;split at h
 .rename_i v u w;refine⟨_,(Ak (B7 (Bu Bg i5 (I.mono (by decide)) rfl (AM (cy 0) (cy 1) (cy 2)))) (Ao (Av (BI (BX K) rfl T.b_tuple BT (Aj (Bh ["boiler","firing"] [none,some 2] rfl (CO rfl T.b_range (Aj (Ax (Bl K) rfl T.b_len PySem.boot_len (Aj (AH (Bw K) (cy 0) Ag (λ_ _=>rfl)))))) (AJ.of rfl) (λ_ _ _ _=>(zD 0)) (λ_ _ _ _=>A8) (λ_ _ _ _=>(Ax (Eo rfl) rfl T.b_sum aW (Aj (Bh ["row","boiler"] [none,some 0] rfl (BO K (cy 1)) (AJ.of rfl) (λ_ _ _ _=>(zD 0)) (λ_ _ _ _=>A8) (λ_ _ _ _=>(AH (Bw K) (cy 0) (cy 1) (λ_ _=>rfl))))))))))))),?_⟩;rcases h with h | h | ⟨p,P,S,F,c,q⟩
  .exact .inl h
  .exact .inr (.inl h)
  refine .inr (.inr ⟨p,P,S,F,c,λH1 s1=>?_⟩);have t1:=c.sm s1;have x8:=c.so.x8;have b4:=c.ok.b4;have fl:=c.fo.len;obtain⟨PA,PB,PE,PM,xb,xe,rfl,pA,pB,rb,pE,re,pM⟩:=Aa.plant t1.r;obtain⟨FA,fx,rfl,hF,rx⟩:=Aa.firing t1.rw;have lb:=rb.len;rw[Y0]at lb;have lx:=rx.len;rw[Y0]at lx;refine⟨PA,_,0,.ref PB,rfl,rfl,Ae.of pA,rfl,PB,_,rfl,.inr (Ae.of pB),_,rfl,by lia,by lia,F4 (n:=xb.length) (λi L J=>Ab H1 J/\L=((B4 P F).take i).map V.int) (by lia) ⟨Ab.refl _,rfl⟩ (λi L J h=>by rw[h.2,Y0,YW];lia) (λi L J hi h=>?_) λL J h=>?_⟩
  .refine⟨⟨rfl,trivial⟩,λ_=>?_,λz=>by cases z⟩;refine⟨FA,rfl,⟨fx,Ae.of (h.1 _ _ hF)⟩,BS (xs:=fx) (λj G D=>Ab H1 D/\G=((F.take j).map λr=>r.getD i 0).map V.int) (by lia) ⟨h.1,rfl⟩ (λj G D h=>by rw [h.2,Y0,Y0,YW];lia) (λj G D _ h=>Ae.of (h.1 _ _ hF)) (λj x G D hx g=>?_) λG D g=>?_⟩
   .obtain⟨r,I,rr⟩:=Ac.mapGot rx hx;obtain⟨ra,rfl,i4⟩:=Aa.ofRow (Aa.ev (Ev.same g.1) _ _ rr);have i6:=c.fo.row j r I;have Z:r[i]? =some (r.getD i 0):=by rw [Y7,Y5 (by lia)];rfl
    refine⟨⟨rfl,trivial⟩,λ_=>⟨ra,_,_,.int (r.getD i 0),rfl,rfl,Ae.of i4,?_,g.1,?_⟩,λz=>by cases z⟩
    .rw[aQ];exact DB (by rw[YO,Z];rfl)
    .rw[A6 I,YM,YM,g.2];rfl
   .intro m O;refine⟨m,F.map λr=>r.getD i 0,rfl,.inl ?_,g.1.trans (Ab.new O),?_⟩
    .rw[Af,g.2,YS (by lia)]
    .have Z:(B4 P F)[i]? =some (F.map λr=>r.getD i 0).sum:=by unfold B4;rw [YO,ae (by lia)];rfl
     rw[A6 Z,YM,h.2];rfl
  .intro m O;refine⟨m,_,rfl,.inl ⟨Al.of Af,λt ht=>?_⟩⟩;refine q _ _ (s1.trans (h.1.trans ((Ab.new O).trans (Ab.new ht)))) (Aa.row ?_);rw[Af,h.2,YS (by unfold B4;rw[Y0,af];lia)]
 .exact h.elim
theorem Xn(F:Df K mg "banked" waB ["plant","story","firing"])(T:Tx mg)(i5:GO P w K mg base ds):AX P w K mg base 12 "banked" ["plant","story","firing"] (AY ds OP):=by
 refine F.fmE (N:=["plant","story","firing"]) AB λf dl A outer s H vs Q E hr h=>?_
 unfold AY at h;split at h
 .rename_i v u w;refine⟨_,(Ak (B7 (Bu Bg i5 (hr.mono (by decide)) rfl (AM (cy 0) (cy 1) (cy 2)))) (Ao (Av (Na ["hour","row","boiler","made"] [none,none,none,none] rfl (EM P _ K rfl T.b_enumerate (Aj (cy 2))) (AJ.of rfl) (λ_ _ _ _=>(AL K (n:=2) (Ai (zD 0) (Ai (zD 1) AK)))) (λ_ _ _ _=>A8) (λ_ _ _ _=>(EM P _ K rfl T.b_enumerate (Aj (cy 1)))) (λ_ _ _ _=>(AL K (n:=2) (Ai (zD 2) (Ai (zD 3) AK)))) (λ_ _ _ _=>(Fi (Bi CB (cy 3) Ag (Ba _)))) (λ_ _ _ _=>(BF (As (cy 0) (cy 2)))))))),?_⟩;rcases h with h | h | ⟨p,P,S,F,I,q⟩
  .exact .inl h
  .exact .inr (.inl h)
  refine .inr (.inr ⟨p,P,S,F,I,λH1 s1=>?_⟩);have x8:=I.so.x8;have b4:=I.ok.b4;have fl:=I.fo.len;obtain⟨FA,fx,rfl,hF,rF⟩:=Aa.firing (I.sm s1).rw;have lF:=rF.len;rw[Y0]at lF;refine⟨FA,rfl,⟨_,Ae.of hF⟩,Sv (xs:=fx) (λi zs O=>Ab H1 O/\Ac p O ((CI (F.take i)).map Ge) zs/\zs.length<=10 * i) ⟨Ab.refl _,.nil,Z6 _⟩ (λi zs O h=>Ae.of (h.1 _ _ hF)) (λi x zs O T g h hT=>?_) λzs O h=>?_⟩
  .obtain⟨r,hr,rr⟩:=Ac.mapGot rF g;have hi:i<fx.length:=(Y3.mp g).1;have i7:=I.fo.row i r hr;obtain⟨ra,rfl,i4⟩:=Aa.ofRow rr;have s2:=h.1.trans (Ab.new (o:= .tup [.int i,.ref ra]) hT);refine⟨T,_,rfl,Ae.of Af,rfl,_,_,rfl,_,_,rfl,rfl,trivial,λ_=>?_,λz=>by cases z⟩;have i6:(CI (F.take i)).length<=10 * i:=by
    have h3:=h.2.1.len;rw[Y0]at h3;have:=h.2.2;lia
   refine⟨ra,rfl,⟨_,Ae.of (s2 _ _ i4)⟩,Nd (xs:=r.map V.int) (λj Z J=>Ab H1 J/\Ac p J ((CI (F.take i)++CH i (r.take j)).map Ge) Z) ⟨s2,?_⟩ (λj Z J h=>by
    have h3:=h.2.len;rw[Y0,Z7]at h3;have e1:=Ng (h:=i) (r:=r.take j);rw[YW]at e1;lia) (λj Z J h=>Ae.of (h.1 _ _ i4)) (λj x Z J T2 g G D=>?_) λZ J G=>?_⟩
   .have e0:CH i (r.take 0)=[]:=rfl;rw[e0,ZV];exact Ac.ev (Ev.new hT) _ _ h.2.1
   .rw [YO] at g;cases z:r[j]? with
    |none=>rw[z]at g;cases g
    |some n=>
     rw[z]at g;cases g;have s3:=G.1.trans (Ab.new (o:= .tup [.int j,.int n]) D);have nx:=Sx (h:=i) z;refine⟨T2,_,rfl,Ae.of Af,rfl,_,_,rfl,_,_,rfl,rfl,⟨rfl,rfl,trivial⟩,rfl,⟨λc=>?_,λc=>?_⟩⟩
     .intro t ht;rw[Dy]at c;rw[YR c]at nx;refine⟨s3.trans (Ab.new ht),?_⟩;rw[nx,<-bH,YM];exact Ac.snoc (Ac.ev ((Ev.new D).trans (Ev.new ht)) _ _ G.2) (Aa.tup Af (.cons Aa.int (.cons Aa.int .nil)))
     .rw[Dy]at c;rw[YN (by rw[c];decide)]at nx;refine⟨s3,?_⟩;rw[nx];exact Ac.ev (Ev.new D) _ _ G.2
   .have h3:=G.2.len;rw[Y0,Z7]at h3;have e1:=Ng (h:=i) (r:=r.take (r.map V.int).length);rw[YW]at e1;refine⟨G.1,?_,by lia⟩;have L:=G.2;rw[Y0,ZR]at L;rw[Sy hr];exact L
  .intro m hm;have rr:=h.2.1;rw[YS (by lia)]at rr;exact q m _ _ (s1.trans (h.1.trans (Ab.new hm))) (s1.free (h.1.free hm)) Af (Ac.ev (Ev.new hm) _ _ rr)
 .exact h.elim
theorem Xo(F:Df K mg "coal_of" waz ["plant","story","firing"])(T:Tx mg)(O:AX P w K mg base 12 "steam_by" ["plant","story","firing"] (AY ds KW)):AX P w K mg base 13 "coal_of" ["plant","story","firing"] (AY ds OO):=by
 refine F.fmE (N:=["plant","story","firing","made"]) AB λf dl A outer s H vs Q E hr h=>?_
 unfold AY at h;split at h
 .rename_i v u w;refine⟨_,(Ak (zE 3 (Bu Bg O (hr.mono (by decide)) rfl (AM (cy 0) (cy 1) (cy 2)))) (Ao (Av (Ax (Eo rfl) rfl T.b_sum aW (Aj (Bh ["units","make","coal"] [none,none,none] rfl (Hu P _ K rfl T.b_zip (As (cy 3) (AH (Bw K) (cy 0) Ag (λ_ _=>rfl)))) (AJ.of rfl) (λ_ _ _ _=>(AL K (n:=2) (Ai (zD 0) (Ai (AL K (n:=2) (Ai (zD 1) (Ai (zD 2) AK))) AK)))) (λ_ _ _ _=>A8) (λ_ _ _ _=>(Ar DT (cy 0) (cy 2))))))))),?_⟩;rcases h with h | h | ⟨p,P,S,F,L,q⟩
  .exact .inl h
  .exact .inr (.inl h)
  have b4:=L.ok.b4;refine .inr (.inr ⟨p,P,S,F,L,λv1 H1 s1 r1=>?_⟩);obtain⟨PA,PB,PE,PM,xb,xe,rfl,pA,pB,rb,pE,re,pM⟩:=Aa.plant (L.sm s1).r;obtain⟨M,rfl,hM⟩:=Aa.ofRow r1;have lb:=rb.len;rw[Y0]at lb;have ls:(B4 P F).length=P.bs.length:=by unfold B4;simp
  refine⟨PA,_,0,.ref PB,rfl,rfl,Ae.of pA,rfl,M,PB,rfl,⟨_,Ae.of hM⟩,⟨_,Ae.of pB⟩,walk_zip (xs:=(B4 P F).map V.int) (ys:=xb) (λi J D=>Ab H1 D/\J=((((B4 P F).zip P.bs).take i).map λq=>V.int (q.1 * q.2.2))) (by rw[Y0];lia) (by rw[Y0];lia) ⟨Ab.refl _,rfl⟩
   (λi J D h=>by rw[h.2,Y0,YW];lia) (λi J D h=>⟨Ae.of (h.1 _ _ hM),Ae.of (h.1 _ _ pB)⟩) (λi x y J D T I hy h hT=>?_) λJ D h=>?_⟩
  .rw [YO] at I;obtain⟨c,g,rc⟩:=Ac.mapGot rb hy;cases Z:(B4 P F)[i]? with
   |none=>rw[Z]at I;cases I
   |some n=>
    rw[Z]at I;cases I;have s2:=h.1.trans (Ab.new (o:= .tup [.int n,y]) hT);obtain⟨l,i5,rfl,i4,rz⟩:=Aa.shape (Aa.ev (Ev.same s2) _ _ rc);obtain⟨y1,y2,rfl,G,r2⟩:=Ac.two rz;unfold Aa at G r2;subst G r2;have bc:=L.ok.b c (YU g);have hz:((B4 P F).zip P.bs)[i]? =some (n,c):=by rw[bG];exact⟨Z,g⟩
    refine⟨T,_,rfl,Ae.of Af,rfl,_,_,rfl,_,_,rfl,l,_,rfl,Ae.of i4,rfl,_,_,rfl,_,_,rfl,rfl,rfl,trivial,λ_=>⟨.inr ⟨by lia,by lia⟩,s2,?_⟩,λz=>by cases z⟩;rw[h.2,A6 hz,YM];rfl
  .intro m hm;refine⟨m,(((B4 P F).zip P.bs).map fun(q:Int×Int×Int)=>q.1 * q.2.2),rfl,.inl ?_,q _ (s1.trans (h.1.trans (Ab.new hm)))⟩;rw[Af,h.2,YS (by rw[eM,Y0];lia),bA];rfl
 .exact h.elim
end
def IP:Sp:=λc H Q _=>zS (λn u=>u= .non/\Q (.bl false) H) c
def IQ:Sp:=λc H Q _=>zN (λv u=>∃p T,TM.ok T/\Aa p H T.d v/\u= .non/\Q (.bl false) H) c
def IR:Sp:=λc H Q _=>zN (λv u=>u= .non/\Q (.bl false) H) c
def IS:Sp:=λc H Q _=>zT (λv u x=>x= .non/\Q (.bl false) H) c
section
variable{P:yP}{w:yN}{K:Fgx}{mg:Str -> yW}{base:Heap}
theorem Xq(F:Df K mg "is_stretch" waE ["hours","thing"])(T:Tx mg)(g:Ch P w K mg base):Fn P w K mg base 3 "is_stretch" ["hours","thing"] IP:=by
 refine F.fn (N:=["hours","thing","first","last"]) AB (λI H Q E h=>?_) (λf dl A outer s H I Q E D h=>?_)
 .cases h;rfl
 cases h;rename_i h
 .rename_i n u;obtain⟨rfl,q⟩:=h;refine⟨_,(Ak (Bq (Cz (Cp (zB g D (AM (cy 1) Ag Ag)))) (Ao (Av Cj)) Bn) Ld),?_⟩;refine⟨0,.none,Aa.non,λb G=>⟨λc=>q,λc=>(by rw[G]at c;cases c)⟩⟩
theorem Xr(F:Df K mg "is_shown" waG ["terms","thing"])(T:Tx mg)(G:Fn P w K mg base 3 "is_stretch" ["hours","thing"] IP)(g:Fn P w K mg base 1 "is_too_much" ["terms","stretch"] GG):Fn P w K mg base 4 "is_shown" ["terms","thing"] IQ:=by
 refine F.fm (N:=["terms","thing","caps","coals","draws","main"]) AB λf dl A outer s H O Q E I h=>?_
 cases h;rename_i h
 .rename_i v u;obtain⟨p,T0,ok,r,rfl,q⟩:=h;obtain⟨A,C,B,D,M,xc,rfl,L,hC,Z,hB,J,hM⟩:=Aa.terms r;refine⟨_,(Ak (Bo (cy 0) (AL K (n:=4) (Ai (zD 2) (Ai (zD 3) (Ai (zD 4) (Ai (zD 5) AK)))))) (Ao (Av (Bp (zB G I (As (Ax (Bl K) rfl T.b_len PySem.boot_len (Aj (cy 4))) (cy 1))) (BM (zB g I (As (cy 0) (cy 1)))))))),?_⟩;refine⟨A,_,rfl,Ae.of L,rfl,_,_,rfl,_,_,rfl,_,_,rfl,_,_,rfl,rfl,?_⟩;refine⟨D,_,rfl,.inr (Ae.of J),rfl,⟨λc=>(by cases c),λ_=>q⟩⟩
theorem Xt(F:Df K mg "is_fired_paper" waY ["plant","story","thing"])(T:Tx mg)(g:Ch P w K mg base):Fn P w K mg base 17 "is_fired_paper" ["plant","story","thing"] IS:=by
 refine F.fm (N:=["plant","story","thing","word","coal","firing","prices"]) AB λf dl A outer s H I Q E D h=>?_
 cases h;rename_i h
 .rename_i v u x;obtain⟨rfl,q⟩:=h;refine⟨_,(Ak (Bq (Cz (Cp (zB g D (AM (cy 2) Ag Ag)))) (Ao (Av Cj)) Bn) Ld),?_⟩;refine⟨0,.none,Aa.non,λb G=>⟨λc=>q,λc=>(by rw[G]at c;cases c)⟩⟩
theorem Xv(F:Df K mg "is_short_paper" waH ["terms","thing"])(T:Tx mg)(g:Ch P w K mg base):Fn P w K mg base 5 "is_short_paper" ["terms","thing"] IR:=by
 refine F.fm (N:=["terms","thing"]) AB λf dl A outer s H I Q E D h=>?_
 cases h;rename_i h
 .rename_i v u;obtain⟨rfl,q⟩:=h;refine⟨_,(Ao (Av (Bp (zB g D (AM (cy 1) Ag Ag)) (Bp Ki (BM Ki))))),?_⟩;refine⟨0,.none,Aa.non,λb G=>⟨λc=>(by rw[G]at c;cases c),λc=>q⟩⟩
end
noncomputable def lcD (T:TM):yQ:=match Bz T with | none=> .int (highest T).1 | some _=> .none
inductive PapU(T:TM):yQ->Prop
 |short {q:Nat×Nat} (h:Bz T=some q):PapU T (.tuple [.str "short",.int q.1,.int q.2])
 |fired {f:yZ} (no:Bz T=none) (g:FinF T f):PapU T (.tuple [.str "fired",.int (highest T).1,FD f,AN (highest T).2])
theorem PapU.uniq{T:TM}{d e:yQ}(a:PapU T d)(b:PapU T e):d=e:=by
 cases a with
 |short h=>
  cases b with
  |short h'=>rw[h]at h';cases h';rfl
  |fired no _=>rw[h]at no;cases no
 |fired no g=>
  cases b with
  |short h'=>rw[no]at h';cases h'
  |fired _ g'=>rw[g.uniq g']
structure Nc(d:yQ):Prop where
 w:BN d<=900000
 dp:d.depth<=18
 nd:d.hasDict=false
theorem Small.nc{n k:Nat}{d:yQ}(h:Small n k d)(g:n<=900000)(c:k<=18):Nc d:=⟨YV h.w g,YV h.dp c,h.nd⟩
theorem Xw{h:Int}{f:yZ}{c:yV}(D:h.natAbs<=100000)(G:c.length<=8)(g:∀x∈c,0<=x/\x<=9)(nf:Small 30000 2 (FD f)):Nc (.tuple [.str "fired",.int h,FD f,AN c]):=by
 refine(EO (n:=30000) (k:=2) (m:=130000) (λd hd=>?_) (aH rfl)).nc (by decide) (by decide);simp only[YY,Ze,ZC]at hd;rcases hd with rfl | rfl | rfl | rfl
 .exact⟨by decide+kernel,by decide,rfl⟩
 .exact(DW (by lia)).mono (by decide) (by decide)
 .exact nf
 .exact(EQ (λi hi=>by have:=g i hi;lia) (by lia)).mono (by decide) (by decide)
theorem Xx{T:TM}{q:Nat×Nat}(l8:T.ds.length<=8)(h:Bz T=some q):Nc (.tuple [.str "short",.int q.1,.int q.2]):=by
 have c:q∈Cg T.ds.length T.ds.length:=by
  unfold Bz at h;have:q∈C6 T:=by
   cases z:C6 T with
   |nil=>rw[z]at h;cases h
   |cons a l=>rw[z]at h;cases h;exact Z1
  unfold C6 at this;exact(bN.mp this).1
 obtain⟨D,g⟩:=HG (Y4 _) _ c;refine(EO (n:=40) (k:=0) (m:=1000) (λd hd=>?_) (aH rfl)).nc (by decide) (by decide);simp only[YY,Ze,ZC]at hd;rcases hd with rfl | rfl | rfl
 .exact⟨by decide+kernel,by decide,rfl⟩
 .exact DW (by lia)
 .exact DW (by lia)
def OQ:yR->PL->SY->Hp->VK->Prop:=λp P S H Q=>ret H Q p (ES (Bz (terms P S)))
def KY:yR->PL->SY->Hp->VK->Prop:=λp P S H Q=>ret H Q p (GI (terms P S))
def OR:yR->PL->SY->Hp->VK->Prop:=λp P S H Q=>∀k s w c,Run P S (caps P S) k s->Ab H c->Aa p c (AN (Eb P S (caps P S) k)) w->Q w c
def OS:yR->PL->SY->Hp->VK->Prop:=λp P S H Q=>∀v c,Ab H c->Aa p c (lcD (terms P S)) v->Nc (lcD (terms P S))->Q v c
def OT:yR->PL->SY->Hp->VK->Prop:=λp P S H Q=>∀x c d,Ab H c->PapU (terms P S) d->Nc d->Aa p c d x->Q x c
def Fc(ds:List yR):Sp:=λvs H Q E=>match vs with | [v,u,x]=>Ed ds [v,u] H Q E\/ ∃p P S,PL.ok P/\SY.ok S P.bs.length/\Aa p H P.d v/\Aa p H S.d u/\x= .non/\∀H',Ab H H'->Q (.bl false) H' | _=>False
def IT(ds:List yR):Sp:=λvs H Q E=>match vs with | [v,u,w]=>Ed ds [v,u] H Q E\/(∃p P S d,PL.ok P/\SY.ok S P.bs.length/\Aa p H P.d v/\Aa p H S.d u/\Aa p H d w/\Da (S.ex.length:Int) d=false/\∀H',Ab H H'->E (.ref (ds.getD 5 0)) none H')\/ ∃p P S ns,PL.ok P/\SY.ok S P.bs.length/\Aa p H P.d v/\Aa p H S.d u/\Aa p H (AN ns) w/\ns.length=S.ex.length/\(∀n∈ns,0<=n)/\∀H',Ab H H'->Q (.int (Fw (terms P S) ns)) H' | _=>False
def IU(ds:List yR):Sp:=λvs H Q E=>match vs with | [v,u,w,x]=>AY ds (λ_ _ _ _ H Q=>x= .non/\∀H',Ab H H'->Q (.bl false) H') [v,u,w] H Q E | _=>False
def OU:yR->PL->SY->yZ->Hp->VK->Prop:=λp P S F H Q=>∀c,Ab H c->Q (.str (FK F)) c
section
variable{P:yP}{w:yN}{K:Fgx}{mg:Str -> yW}{base:Heap}{M:yR}{ds:List yR}
theorem Xz(F:Df K mg "stretch_of" waK ["plant","story"])(T:Tx mg)(c:GH P w K mg base)(g:EB P w K mg base ds):AX P w K mg base 11 "stretch_of" ["plant","story"] (AW ds OQ):=by
 refine F.fmE (N:=["plant","story"]) AB λf dl A outer s H L Q E D h=>?_
 unfold AW at h;split at h
 .rename_i v u;refine⟨_,(Ao (Av (zB c D (Aj (Bu Bg g (D.mono (by decide)) rfl (As (cy 0) (cy 1))))))),?_⟩;rcases h with h | ⟨p,P,S,ok,so,r,ru,q⟩
  .exact .inl h
  .exact .inr ⟨p,P,S,ok,so,r,ru,λt O s1 rt=>⟨p,terms P S,Gf so,rt,λG J s2 I=>q G J (s1.trans s2) I⟩⟩
 .exact h.elim
theorem XB(F:Df K mg "least_coal" waZ ["plant","story"])(T:Tx mg)(c:Fn P w K mg base 4 "coal_under" ["terms"] IC)(D:EB P w K mg base ds):AX P w K mg base 11 "least_coal" ["plant","story"] (AW ds OS):=by
 refine F.fmE (N:=["plant","story"]) AB λf dl A outer s H J Q E G h=>?_
 unfold AW at h;split at h
 .rename_i v u;refine⟨_,(Ao (Av (zB c G (Aj (Bu Bg D (G.mono (by decide)) rfl (As (cy 0) (cy 1))))))),?_⟩;rcases h with h | ⟨p,P,S,ok,so,r,ru,q⟩
  .exact .inl h
  refine .inr ⟨p,P,S,ok,so,r,ru,λt O s1 rt=>⟨p,terms P S,HR ok so,rt,λno I s2=>?_,λg L I s2=>?_⟩⟩
  .have e:lcD (terms P S)= .none:=by
    unfold lcD;cases z:Bz (terms P S) with
    |none=>exact absurd z no
    |some _=>rfl
   exact q _ _ (s1.trans s2) (by rw[e];exact Aa.non) (by rw[e];exact⟨by decide+kernel,by decide,rfl⟩)
  .have e:lcD (terms P S)= .int (highest (terms P S)).1:=by
    unfold lcD;rw[g]
   exact q _ _ (s1.trans s2) (by rw[e];exact Aa.int) (by rw[e];exact(DW (by lia)).nc (by decide) (by decide))
 .exact h.elim
theorem XC(F:Df K mg "leanest" waM ["plant","story"])(T:Tx mg)(G:Fn P w K mg base 1 "least_mains" ["terms"] IE)(I:GH P w K mg base)(J:EB P w K mg base ds):AX P w K mg base 11 "leanest" ["plant","story"] (AW ds KY):=by
 refine F.fmE (N:=["plant","story","terms"]) AB λf dl A outer s H vs Q E D h=>?_
 unfold AW at h;split at h
 .rename_i v u;refine⟨_,(Ak (zE 2 (Bu Bg J (D.mono (by decide)) rfl (As (cy 0) (cy 1)))) (Ao (Av (Fm (Bi Jq (zB I D (Aj (cy 2))) Ck (Ba _)) Ck (BI (BX K) rfl T.b_tuple BT (Aj (zB G D (Aj (cy 2))))))))),?_⟩;rcases h with h | ⟨p,P,S,ok,so,r,ru,q⟩
  .exact .inl h
  have x1:=so.x1;refine .inr ⟨p,P,S,ok,so,r,ru,λt H1 s1 rt=>?_⟩;have tok:(terms P S).ok:=Gf so;refine⟨p,terms P S,tok,rt,λw H2 s2 g=>⟨rfl,?_⟩⟩;unfold KY ret GI at q;cases z:Bz (terms P S) with
  |none=>
   rw[z]at g q;have ew:w= .non:=by unfold ES at g;unfold Aa at g;exact g
   subst ew;refine⟨λc=>by simp at c,λ_=>?_⟩;refine⟨p,terms P S,tok,by show 1<=(draws P S).length;rw[Cs];exact x1,Aa.ev (Ev.same s2) _ _ rt,λL H3 O hL kL=>?_⟩;refine⟨L,_,rfl,.inl ⟨Al.of kL,λl Z=>?_⟩⟩;exact q _ _ (s1.trans (s2.trans (O.trans (Ab.new Z)))) (Aa.row Af)
  |some s0=>
   rw[z]at g q;obtain⟨A',rfl,hA⟩:=Aa.pair g;refine⟨λ_=>?_,λc=>(by simp at c)⟩;exact q _ _ (s1.trans s2) (by unfold Aa;rfl)
 .exact h.elim
theorem XE(F:Df K mg "stretch_holds" waJ ["plant","story","thing"])(T:Tx mg)(c:Fn P w K mg base 4 "is_shown" ["terms","thing"] IQ)(g:EB P w K mg base ds):AX P w K mg base 11 "stretch_holds" ["plant","story","thing"] (Fc ds):=by
 refine F.fmE (N:=["plant","story","thing"]) AB λf dl A outer s H G Q E D h=>?_
 unfold Fc at h;split at h
 .rename_i v u x;refine⟨_,(Ao (Av (zB c D (As (Bu Bg g (D.mono (by decide)) rfl (As (cy 0) (cy 1))) (cy 2))))),?_⟩;rcases h with h | ⟨p,P,S,ok,so,r,ru,rfl,q⟩
  .exact .inl h
  .exact .inr ⟨p,P,S,ok,so,r,ru,λt I s1 rt=>⟨p,terms P S,Gf so,rt,rfl,q _ s1⟩⟩
 .exact h.elim
theorem XG(F:Df K mg "cheapest_holds" waX ["plant","story","thing"])(T:Tx mg)(D:Fn P w K mg base 5 "is_short_paper" ["terms","thing"] IR)(G:Fn P w K mg base 17 "is_fired_paper" ["plant","story","thing"] IS)(I:EB P w K mg base ds):AX P w K mg base 18 "cheapest_holds" ["plant","story","thing"] (Fc ds):=by
 refine F.fmE (N:=["plant","story","thing"]) AB λf dl A outer s H J Q E g h=>?_
 unfold Fc at h;split at h
 .rename_i v u x;refine⟨_,(Ao (Av (RJ (zB D g (As (Bu Bg I (g.mono (by decide)) rfl (As (cy 0) (cy 1))) (cy 2))) (BM (zB G g (AM (cy 0) (cy 1) (cy 2))))))),?_⟩;rcases h with h | ⟨p,P,S,ok,so,r,ru,rfl,q⟩
  .exact .inl h
  .exact .inr ⟨p,P,S,ok,so,r,ru,λt L s1 rt=>⟨rfl,⟨λc=>(by cases c),λ_=>⟨rfl,q _ s1⟩⟩⟩⟩
 .exact h.elim
theorem XH(F:Df K mg "cheapest" waW ["plant","story"])(T:Tx mg)(L:Fn P w K mg base 3 "highest_floor" ["terms"] GF)(J:Fn P w K mg base 3 "least_firing" ["terms"] II)(O:GH P w K mg base)(i4:EB P w K mg base ds):AX P w K mg base 11 "cheapest" ["plant","story"] (AW ds OT):=by
 refine F.fmE (N:=["plant","story","terms","stretch","coal","prices"]) AB λf dl A outer s H vs Q E I h=>?_
 unfold AW at h;split at h
 .rename_i v u;refine⟨_,(Ak (zE 2 (Bu Bg i4 (I.mono (by decide)) rfl (As (cy 0) (cy 1)))) (Ak (zE 3 (zB O I (Aj (cy 2)))) (Ak (Bq (Bi Jq (cy 3) Ck (Ba _)) (Ao (Av (Ar F9 (AT (Aj AF)) (cy 3)))) Bn) (Ak (Bo (zB L I (Aj (cy 2))) (AL K (n:=2) (Ai (zD 4) (Ai (zD 5) AK)))) (Ao (Av (AT (B3 AF (cy 4) (zB J I (Aj (cy 2))) (cy 5))))))))),?_⟩;rcases h with h | ⟨p,P,S,ok,so,r,ru,q⟩
  .exact .inl h
  refine .inr ⟨p,P,S,ok,so,r,ru,λtv H1 s1 rt=>?_⟩;have fl:=HR ok so;refine⟨p,terms P S,fl.ok,rt,λx H2 s2 g=>?_⟩;have G:=s1.trans s2;cases z:Bz (terms P S) with
  |none=>
   rw[z]at g;have eu:x= .non:=by unfold ES at g;unfold Aa at g;exact g
   subst eu;refine⟨rfl,⟨λc=>by simp at c,λ_=>?_⟩⟩;refine⟨p,terms P S,fl,Aa.ev (Ev.same s2) _ _ rt,λy H3 D ry hz hl h9=>?_⟩;obtain⟨a,b,rfl,ha,hb⟩:=Aa.tailShape ry;refine⟨a,_,rfl,Ae.of ha,rfl,_,_,rfl,_,_,rfl,rfl,?_⟩;refine⟨p,terms P S,fl,(show P.lo<=P.hi from fk ok.ls ok.sh),z,Aa.ev (Ev.same (s2.trans D)) _ _ rt,λA H4 f s4 fin nf rf=>λt H5 Z k5=>?_⟩;exact q (.ref t) H5 _ (G.trans (D.trans (s4.trans Z))) (.fired z fin) (Xw hz hl h9 nf) (Aa.tup k5 (.cons Aa.str (.cons Aa.int (.cons (Aa.ev (Ev.same Z) _ _ rf) (.cons (Aa.row ((s4.trans Z) _ _ hb)) .nil)))))
  |some s0=>
   rw[z]at g;obtain⟨A,eA,hA⟩:=Aa.pair g;subst eA;refine⟨rfl,⟨λ_=>?_,λc=>by simp at c⟩⟩;refine λt1 H3 D k3=>⟨t1,A,[.str "short"],_,rfl,rfl,k3,D _ _ hA,by simp,λt4 H4 s4 k4=>?_⟩
   exact q (.ref t4) H4 _ (G.trans (D.trans s4)) (.short z) (Xx (by rw[show(terms P S).ds.length=S.ex.length from Cs];exact so.x8) z) (Aa.tup k4 (.cons Aa.str (.cons Aa.int (.cons Aa.int .nil))))
 .exact h.elim
theorem XI(F:Df K mg "floor_of" waO ["plant","story","prices"])(T:Tx mg)(C:Tc K mg M ds)(i7:Fn P w K mg base 1 "floor_at" ["terms","hour","price","behind"] GC)(i6:Fn P w K mg base 2 "is_counts" ["thing","many"] Iz)(i8:EB P w K mg base ds):AX P w K mg base 11 "floor_of" ["plant","story","prices"] (IT ds):=by
 refine F.fmE zad λf dl A outer s H vs Q E hr h=>?_
 unfold IT at h;split at h
 .rename_i v u w;refine⟨_,(Ak (zE 3 (Bu Bg i8 (hr.mono (by decide)) rfl (As (cy 0) (cy 1)))) (Ak (Bq (Cz (Cp (zB i6 hr (As (cy 2) (Ax (Bl K) rfl T.b_len PySem.boot_len (Aj (AH (Bw K) (cy 1) Ag (λ_ _=>rfl)))))))) (Ao (HL Bg rfl C.n_NoPrices C.x_NoPrices rfl (Aj AF))) Bn) (Ak (Bo (AH (Bw K) (cy 0) Ag (λ_ _=>rfl)) (AL K (n:=3) (Ai (zD 4) (Ai (zD 5) (Ai (zD 6) AK))))) (Ak (zE 7 (Ar F9 (Dj wa0 (cy 2) (Co Ag) EG) (BF (Aj Ag)))) (Ak (Fj (i:=8) ["hour","terms","prices","behind"] [none,some 3,some 2,some 7] zad.nd rfl (AC (by rfl)) rfl (CO rfl T.b_range (Aj (Ax (Bl K) rfl T.b_len PySem.boot_len (Aj (cy 2))))) (AJ.of rfl) (λ_ _ _ _=>(zD 0)) (λ_ _ _ _=>A8) (λ_ _ _ _=>(zB i7 hr (B3 (cy 1) (cy 0) (AH (Bw K) (cy 2) (cy 0) (λ_ _=>rfl)) (AH (Bw K) (cy 3) (cy 0) (λ_ _=>rfl)))))) (Ao (Av (Ar BL (Ax (Hv rfl) rfl T.b_sum aW (Aj (cy 8))) (Ar DT (AH (Bw K) (cy 2) Ag (λ_ _=>rfl)) (cy 6)))))))))),?_⟩;rcases h with h | ⟨p,P,S,d,ok,so,r,ru,rd,no,q⟩ | ⟨p,P,S,ns,ok,so,r,ru,i4,hl,hn,q⟩
  .exact .inl h
  .have x8:=so.x8;refine .inr ⟨p,P,S,ok,so,r,ru,λtv H1 s1 rt=>?_⟩;obtain⟨A,B,E,xf,rfl,hA,hB,hE,rf⟩:=Aa.story (Aa.ev (Ev.same s1) _ _ ru);exact⟨A,_,0,.ref B,rfl,rfl,Ae.of hA,rfl,B,_,rfl,.inr (Ae.of hB),p,d,Aa.ev (Ev.same s1) _ _ rd,by rw[Y0];lia,λb H2 Z s2=>⟨λc=>⟨BW rfl,q _ (s1.trans s2)⟩,λc=>(by rw[Z,Y0,no]at c;cases c)⟩⟩
  have x1:=so.x1;have x8:=so.x8;refine .inr ⟨p,P,S,ok,so,r,ru,λtv H1 s1 rt=>?_⟩;obtain⟨A,B,E,xf,rfl,hA,hB,hE,rf⟩:=Aa.story (Aa.ev (Ev.same s1) _ _ ru);obtain⟨PA,PB,PE,PM,xb,xe,rfl,pA,pB,rb,pE,re,pM⟩:=Aa.plant (Aa.ev (Ev.same s1) _ _ r);obtain⟨W,rfl,hW⟩:=Aa.ofRow' (Aa.ev (Ev.same s1) _ _ i4);have fl:=HR ok so;refine⟨A,_,0,.ref B,rfl,rfl,Ae.of hA,rfl,B,_,rfl,.inr (Ae.of hB),p,AN ns,Aa.row hW,by rw[Y0];lia,λb H2 Z s2=>⟨λc=>?_,λc=>?_⟩⟩
  .rw[Z,Y0,<-hl,Wu hn]at c;cases c
  refine⟨PA,_,2,.ref PM,rfl,rfl,Ae.of (s2 _ _ pA),rfl,PM,_,rfl,Ae.of (s2 _ _ pM),rfl,_,_,rfl,_,_,rfl,_,_,rfl,rfl,?_⟩;have I:=s2 _ _ hW;refine⟨1,rfl,W,_,rfl,I,λR3 H3 s3 k3=>λt ht=>⟨R3,t,_,_,rfl,rfl,(Ab.new ht) _ _ k3,Af,?_,λR4 H4 s4 O=>?_⟩⟩
  .rw[Kk,Zs,Y0];show _+1<=1000;lia
  rw[Kk]at O;have ek:(List.drop 1 (ns.map V.int)++[V.int 0])=(ns.drop 1++[0]).map V.int:=by rw[YM,map_drop];rfl
  rw[ek]at O;have g:=s3.trans ((Ab.new (o:= .tup [.int 0]) ht).trans s4);have D:=g _ _ I;have i5:=Aa.ev (Ev.same (p:=p) (s2.trans g)) _ _ rt;have lb:(ns.drop 1++[0]).length=ns.length:=by rw[Z7,Zs];simp;lia
  have gb:∀i,i<ns.length->(ns.drop 1++[0]).getD i 0=ns.getD (i+1) 0:=λi hi=>by
   rw[Y7,Y7]
   by_cases z:i+1<ns.length
   .rw[aq (by rw[Zs];lia),aU,dA 1 i]
   .rw[aG (by rw[Zs];lia),Zs,show i-(ns.length-1)=0 by lia,Zn (l:=ns) (by lia)];rfl
  have ld:(terms P S).ds.length=ns.length:=by show(draws P S).length=_;rw[Cs,hl]
  refine⟨W,_,rfl,.inr (Ae.of D),_,rfl,by lia,by rw[Y0];lia,F4 (n:=(ns.map V.int).length) (λi G J=>Ab H4 J/\G=((List.range i).map λh=>Do (terms P S) h (ns.getD h 0) (ns.getD (h+1) 0)).map V.int) (by rw[Y0];lia) ⟨Ab.refl _,rfl⟩ (λi G J h=>by rw[h.2,Y0,Y0,af];lia) (λi G J hi h=>?_) λG J h=>?_⟩
  .rw[Y0]at hi;have g2:=Db (ns:=ns.drop 1++[0]) (i:=i) (by lia);rw[gb i hi]at g2;refine⟨⟨rfl,rfl,rfl,trivial⟩,λ_=>⟨W,_,_,.int (ns.getD i 0),rfl,rfl,Ae.of (h.1 _ _ D),by rw[aQ];exact Db hi,R4,_,_,.int (ns.getD (i+1) 0),rfl,rfl,Ae.of (h.1 _ _ O),by rw[aQ];exact g2,p,terms P S,i,aQ _,by lia,fl,Aa.ev (Ev.same h.1) _ _ i5,λH5 L=>⟨h.1.trans L,?_⟩⟩,λz=>by cases z⟩;rw[aB,YM,YM,h.2];rfl
  .intro m hm;have L:=h.1.trans (Ab.new (o:= .lst G) hm);refine⟨m,(List.range ns.length).map λh=>Do (terms P S) h (ns.getD h 0) (ns.getD (h+1) 0),rfl,by rw[Af,h.2,Y0],W,_,0,.int (ns.getD 0 0),rfl,rfl,Ae.of (L _ _ D),Db (i:=0) (by lia),.inr ?_,q _ (s1.trans (s2.trans (g.trans L)))⟩;have h0:=fl.s0;have h1:=fl.s4;exact⟨cW (by decide) h0,bL h1 (by decide)⟩
 .exact h.elim
theorem XJ(F:Df K mg "fullest" waL ["plant","story"])(T:Tx mg)(O:AX P w K mg base 13 "course" ["plant","story","firing"] (AY ds IO))(L:AX P w K mg base 10 "full_firing" ["plant","story"] (AW ds IM)):AX P w K mg base 14 "fullest" ["plant","story"] (AW ds OR):=by
 refine F.fmE (N:=["plant","story","rows"]) AB λf dl A outer s H vs Q E Z h=>?_
 unfold AW at h;split at h
 .rename_i v u;refine⟨_,(Ak (zE 2 (Bu Bg O (Z.mono (by decide)) rfl (AM (cy 0) (cy 1) (Bu Bg L (Z.mono (by decide)) rfl (As (cy 0) (cy 1)))))) (Ao (Av (BI (BX K) rfl T.b_tuple BT (Aj (Bh ["made","drawn","blown","main"] [none,none,none,none] rfl (Fp K (cy 2)) (AJ.of rfl) (λ_ _ _ _=>(AL K (n:=4) (Ai (zD 0) (Ai (zD 1) (Ai (zD 2) (Ai (zD 3) AK)))))) (λ_ _ _ _=>A8) (λ_ _ _ _=>(cy 3)))))))),?_⟩;rcases h with h | ⟨p,P,S,ok,so,r,ru,q⟩
  .exact .inl h
  refine .inr ⟨p,P,S,ok,so,r,ru,λt H1 s1 rt=>?_⟩;refine .inr (.inr ⟨p,P,S,caps P S,⟨ok,so,FOk.caps ok,Aa.ev (Ev.same s1) _ _ r,Aa.ev (Ev.same s1) _ _ ru,rt⟩,λR H2 k s xs run s2 hR kR rx=>?_⟩);have lx:=rx.len;rw[JZ]at lx;have i4:=run.le;have x8:=so.x8;refine⟨R,rfl,⟨_,Al.of kR⟩,F3 (xs:=xs) (λi g G=>Ab H2 G/\g=(Eb P S (caps P S) i).map V.int) (by lia) ⟨Ab.refl _,rfl⟩ (λi g G h=>by rw[h.2,Y0];unfold Eb;simp) (λi g G _ h=>Al.of (h.1 _ _ kR)) (λi x g G hx h=>?_) λg H3 h=>?_⟩
  .have J:Ac p H2 ((List.range k).map (Hy P S (caps P S))) xs:=rx;obtain⟨j,I,rj⟩:=Ac.mapGot J hx;have ej:j=i:=by
    have hi:=(Y3.mp I).1;rw[af]at hi;rw[ae hi]at I;cases I;rfl
   subst ej;obtain⟨D,rfl⟩:=h;obtain⟨A',zs,rfl,hA,rs⟩:=Aa.shape rj;obtain⟨y1,y2,y3,y4,rfl,r1,r2,r3,r4⟩:=Ac.four rs;unfold Aa at r1 r2 r3 r4;subst r1 r2 r3 r4;refine⟨A',_,rfl,Ae.of (D _ _ hA),rfl,_,_,rfl,_,_,rfl,_,_,rfl,_,_,rfl,rfl,⟨trivial,λ_=>⟨D,?_⟩,λc=>(by cases c)⟩⟩;unfold Eb;rw[aB,YM,YM];rfl
  .obtain⟨D,rfl⟩:=h;rw [<-lx] at *;refine λl hl=>⟨l,_,rfl,.inl ⟨Al.of Af,λm hm=>?_⟩⟩
   exact q k s _ _ run (s1.trans (s2.trans (D.trans ((Ab.new hl).trans (Ab.new hm))))) (Aa.row Af)
 .exact h.elim
theorem XL(F:Df K mg "firing_text" wb0 ["plant","story","firing"])(T:Tx mg)(i7:GO P w K mg base ds):AX P w K mg base 12 "firing_text" ["plant","story","firing"] (AY ds OU):=by
  refine F.fmE (N:=["plant","story","firing"]) AB λf dl A outer s H vs Q E J h=>?_
  unfold AY at h;split at h
  . rename_i v u w;refine⟨_,(Ak (B7 (Bu Bg i7 (J.mono (by decide)) rfl (AM (cy 0) (cy 1) (cy 2)))) (Ao (Av (HJ K PySem.F.plainAttrs_str PySem.F.slot_str_join PySem.F.type_str_join N3 AF (Aj (Bh ["row"] [none] rfl (BO K (cy 2)) (AJ.of rfl) (λ_ _ _ _=>(zD 0)) (λ_ _ _ _=>A8) (λ_ _ _ _=>(HJ K PySem.F.plainAttrs_str PySem.F.slot_str_join PySem.F.type_str_join N3 AF (Aj (Bh ["made"] [none] rfl (BO K (cy 0)) (AJ.of rfl) (λ_ _ _ _=>(zD 0)) (λ_ _ _ _=>A8) (λ_ _ _ _=>(BI Qp rfl T.b_str RQ (Aj (cy 0)))))))))))))),?_⟩;rcases h with h | h | ⟨p,P,S,F,D,q⟩
    . exact .inl h
    . exact .inr (.inl h)
    refine .inr (.inr ⟨p,P,S,F,D,λH1 s1=>?_⟩);obtain⟨FA,fx,rfl,i4,i5⟩:=Aa.firing (Aa.ev (Ev.same s1) _ _ D.rw);have x8:=D.so.x8;have b4:=D.ok.b4;have lf:=i5.len;rw[Y0,D.fo.len]at lf;have G:∀(i:Nat) r,F[i]? =some r->(∀n∈r,0<=n/\n<=9)/\r.length<=4:=λi r J=>by
      have l1:=D.fo.row i r J;refine⟨λn O=>?_,by lia⟩;obtain⟨j,hj⟩:=ZX O;have hi:i<S.ex.length:=by have:=(Y3.mp J).1;rw[D.fo.len]at this;exact this
      have cb:=CP (S:=S) D.ok _ (YU (CZ hi));obtain⟨c,hc⟩:∃c,(BY P.bs S.fs i)[j]? =some c:=⟨_,Y5 (by have:=(Y3.mp hj).1;lia)⟩;have b:=D.fo.bd i r j n c J hj hc;have c9:=cb.1 c (YU hc);lia
    refine⟨rfl,FA,rfl,⟨_,Ae.of i4⟩,BS (xs:=fx) (λj zs Z=>Ab H1 Z/\zs=((F.take j).map Fb).map V.str) (by lia) ⟨Ab.refl _,rfl⟩ (λj zs Z h=>by rw[h.2,Y0,Y0,YW];lia) (λj zs Z _ h=>Ae.of (h.1 _ _ i4)) (λj x zs Z I h=>?_) (λzs Z h=>?_)⟩
    . obtain⟨r,J,rr⟩:=Ac.mapGot i5 I;obtain⟨RA,rfl,i6⟩:=Aa.ofRow rr;obtain⟨r9,r4⟩:=G j r J;refine⟨trivial,λ_=>⟨rfl,RA,rfl,⟨_,Ae.of (h.1 _ _ i6)⟩,BS (xs:=r.map V.int) (λk ys H2=>Ab Z H2/\ys=((r.take k).map nT).map V.str) (by rw [Y0];lia) ⟨Ab.refl _,rfl⟩ (λk ys H2 L=>by rw [L.2,Y0,Y0,YW];lia) (λk ys H2 _ L=>Ae.of ((h.1.trans L.1) _ _ i6)) (λk x ys H2 I L=>?_) (λys H2 L=>?_)⟩,λz=>by cases z⟩
      . rw[YO]at I;obtain⟨n,O,rfl⟩:∃n,r[k]? =some n/\V.int n=x:=by
          cases z:r[k]? with
          |none=>rw[z]at I;cases I
          |some n=>rw[z]at I;cases I;exact⟨n,rfl,rfl⟩
        obtain⟨m0,m9⟩:=r9 n (YU O);refine⟨trivial,λ_=>⟨n,rfl,WJ (by lia),L.1,?_⟩,λz=>by cases z⟩;rw[L.2,A6 O,YM,YM];rfl
      . intro m hm;have g:=OB (sep:=" ") (l:=r.map nT) (B:=11) (λx I=>by
          obtain⟨n,O,rfl⟩:=Z8.mp I;exact OC (r9 n O).1 (r9 n O).2) (by rw[Y0];have e:(Str.ofString " ").length=1:=(by decide);rw[e];lia)
        refine⟨" ",m,r.map nT,rfl,rfl,?_,g.1,g.2,h.1.trans (L.1.trans (Ab.new hm)),?_⟩
        . rw[Af,L.2,Y0,YS (Y4 _)]
        . rw[h.2,A6 J,YM,YM];rfl
    . intro m hm;have g:=OB (sep:="/") (l:=F.map Fb) (B:=48) (λx I=>by
        obtain⟨r,J,rfl⟩:=Z8.mp I;obtain⟨i,hi⟩:=ZX J;exact OD (G i r hi).1 (G i r hi).2) (by rw[Y0,D.fo.len];have e:(Str.ofString "/").length=1:=(by decide);rw[e];lia)
      refine⟨"/",m,F.map Fb,rfl,rfl,?_,g.1,g.2,q _ (s1.trans (h.1.trans (Ab.new hm)))⟩;rw[Af,h.2,YS (by rw[D.fo.len];lia)]
  . exact h.elim
theorem XM(F:Df K mg "books_right" waC ["plant","story","firing","thing"])(T:Tx mg)(g:AX P w K mg base 13 "course" ["plant","story","firing"] (AY ds IO))(D:Fn P w K mg base 2 "is_same_row" ["thing","row"] Iy):AX P w K mg base 14 "books_right" ["plant","story","firing","thing"] (IU ds):=by
 refine F.fmE (N:=["plant","story","firing","thing","rows"]) AB λf dl A outer s H O Q E G h=>?_
 unfold IU at h;split at h
 .rename_i v u w x;refine⟨_,(Ak (zE 4 (Bu Bg g (G.mono (by decide)) rfl (AM (cy 0) (cy 1) (cy 2)))) (Ao (Av (Bp (Ax Hq rfl T.b_isinstance Za (As (cy 3) (FU (v:= .ty "list") rfl T.b_list ME rfl))) (Bp (Dz CB (Ax (Bl K) rfl T.b_len PySem.boot_len (Aj (cy 3))) (Ax (Bl K) rfl T.b_len PySem.boot_len (Aj (cy 4))) (Ba _)) (BM (Ax (DU rfl) rfl T.b_all bM (Aj (Bh ["part","row"] [none,none] rfl (MV P _ K rfl T.b_zip (As (cy 3) (cy 4))) (AJ.of rfl) (λ_ _ _ _=>(AL K (n:=2) (Ai (zD 0) (Ai (zD 1) AK)))) (λ_ _ _ _=>A8) (λ_ _ _ _=>(zB D G (As (cy 0) (cy 1))))))))))))),?_⟩;rcases h with h | h | ⟨p,P,S,F,J,rfl,q⟩
  .exact .inl h
  .exact .inr (.inl h)
  .exact .inr (.inr ⟨p,P,S,F,J,λR L k s Z run s1 hR I rr=>⟨_,Aa.ty (Aa.non (p:=p) (H:=L)),.inr (.inr (.inr (.inl rfl))),⟨λc=>(by cases c),λ_=>q _ s1⟩⟩⟩)
 .exact h.elim
end
theorem XN{xs:List V}{x:V}(h:xs[xs.length-1]? =some x):Ce xs (-1)=some x:=by
 have c:xs≠ []:=λz=>by rw[z]at h;simp at h
 have e:=List.dropLast_concat_getLast c;have g:xs.getLast c=x:=by rw[List.getLast_eq_getElem];exact(Y3.mp h).2
 rw[<-e,g];exact LS _ _
structure Wc(K:Fgx)(CA:yR):Prop where
 cls:Cls K CA
 nP:NoAttr K CA "plant"
 nS:NoAttr K CA "story"
 nF:NoAttr K CA "firings"
def OV(v u:V)(L:yR):List (Str×V):=[("plant",v),("story",u),("firings",.ref L)]
def OW(g:yR)(H:Hp)(W L:yR)(v u:V):Prop:=∃c,H W=some (.ins g c (OV v u L))
abbrev FL:=yZ
def Dq(P:PL)(S:SY):FL:=(caps P S).map λr=>r.map λ_=>0
theorem OX(F:yZ):Ca (FD F)=true:=C9 (ds:=F.map AN) λd hd=>by
 obtain⟨r,_,rfl⟩:=Z8.mp hd;exact E8 r
def IV(D:yR):Sp:=λg H Q _=>zG (λW=>∃L v u c x,OW D H W L v u/\H L=some (.lst c)/\c[c.length-1]? =some x/\Q x H) g
def IW(ds:List yR)(CA:yR):Sp:=λvs H Q E=>match vs with | [.ref W,v,u]=>Ed ds [v,u] H Q E\/ ∃p P S dx,PL.ok P/\SY.ok S P.bs.length/\Aa p H P.d v/\Aa p H S.d u/\H W=some (.ins CA dx [])/\ ∀L B H',(∀b o,H b=some o->b≠W->H' b=some o)->OW CA H' W L v u->H L=none->H' L=some (.lst [.ref B])->Aa p H' (FD (Dq P S)) (.ref B)->Q .non H' | _=>False
def OY:yR->PL->SY->Hp->VK->Prop:=λp P S H Q=>ret H Q p (FD (Dq P S))
section
variable{P:yP}{w:yN}{K:Fgx}{mg:Str -> yW}{base:Heap}{M:yR}{ds:List yR}{CA:yR}
theorem XQ(F:Dm K CA "kept_firing" "Watch.kept_firing" s_Watch_kept_firing ["self"])(T:Tx mg)(c:Wc K CA):Mt CX0 P w K mg base 1 CA "kept_firing" ["self"] (IV CA):=by
 have I:=c.cls;refine F.fn (N:=["self"]) AB (λZ H Q E h=>?_) (λf dl A outer s H Z Q E hr h=>?_)
 .cases h;rfl
 cases h;rename_i h
 .rename_i W;refine⟨_,(Ao (Av (AH (Bb K) (QC (cy 0) rfl) ID (λ_ _=>rfl)))),?_⟩;obtain⟨L,v,u,D,x,⟨J,G⟩,g,O,q⟩:=h;exact⟨W,CA,J,_,.ref L,rfl,G,I,c.nF,rfl,L,D,-1,x,rfl,rfl,Al.of g,XN O,q⟩
theorem XR(F:Di K mg "Watch" CA "Watch.__init__" s_Watch___init__ ["self","plant","story"])(T:Tx mg)(WK:Wc K CA)(i7:GM P w K mg base ds):HX P w K mg base 10 "Watch" CA ["self","plant","story"] (IW ds CA):=by
 have WC:=WK.cls;refine F.fnE (N:=["self","plant","story","nothing"]) AB (λvs H Q E h=>?_) (λf dl A outer s H vs Q E hr h=>?_)
 .unfold IW at h;split at h;rfl;exact h.elim
 unfold IW at h;split at h
 .rename_i W v u;refine⟨_,(Ak (zE 3 (BI (BX K) rfl T.b_tuple BT (Aj (Bh ["row"] [none] rfl (BO K (Bu Bg i7 (hr.mono (by decide)) rfl (As (cy 1) (cy 2)))) (AJ.of rfl) (λ_ _ _ _=>(zD 0)) (λ_ _ _ _=>A8) (λ_ _ _ _=>(BI (BX K) rfl T.b_tuple BT (Aj (Bh ["cap"] [none] rfl (BO K (cy 0)) (AJ.of rfl) (λ_ _ _ _=>(zD 0)) (λ_ _ _ _=>A8) (λ_ _ _ _=>Ag))))))))) (Ak (Jv (cy 0) (cy 1) rfl) (Ak (Jv (cy 0) (cy 2) rfl) (Ao (Jv (cy 0) (A5 (Aj (cy 3))) rfl))))),?_⟩;rcases h with h | ⟨p,P,S,g,ok,so,rv,ru,hW,q⟩
  .exact .inl h
  refine .inr ⟨p,P,S,ok,so,rv,ru,λcv H1 s1 rc=>?_⟩;obtain⟨j0,cx,rfl,hC,i5⟩:=Aa.firing (F:=caps P S) rc;have x8:=so.x8;have b4:=ok.b4;have lc:=i5.len;rw[Y0,Cr]at lc;refine⟨j0,rfl,⟨_,Ae.of hC⟩,BS (xs:=cx) (λj c G=>Ab H1 G/\Ac p G (((Dq P S).take j).map AN) c) (by lia) ⟨Ab.refl _,.nil⟩ (λj c G h=>by have:=h.2.len;rw[Y0,YW]at this;lia) (λj c G _ h=>Ae.of (h.1 _ _ hC)) (λj x c G hx h=>?_) (λc G h=>?_)⟩
  .obtain⟨r,hr,rr⟩:=Ac.mapGot i5 hx;obtain⟨RA,rfl,i6⟩:=Aa.ofRow rr;have lr:=(CP (S:=S) ok r (YU hr)).2;refine⟨trivial,λ_=>?_,λz=>by cases z⟩;refine⟨RA,rfl,⟨_,Ae.of (h.1 _ _ i6)⟩,BS (xs:=r.map V.int) (λk J H2=>Ab G H2/\J=(r.take k).map λ_=>V.int 0) (by rw [Y0];lia) ⟨Ab.refl _,rfl⟩ (λk J H2 I=>by rw [I.2,Y0,YW];lia) (λk J H2 _ I=>Ae.of ((h.1.trans I.1) _ _ i6)) (λk x J H2 hx I=>?_) (λJ H2 I=>?_)⟩
   .refine⟨trivial,λ_=>?_,λz=>by cases z⟩;obtain⟨z,hz⟩:∃z,r[k]? =some z:=by
     rw[YO]at hx;cases z:r[k]? with
     |none=>rw[z]at hx;cases hx
     |some q=>exact⟨q,rfl⟩
    exact⟨I.1,by rw[I.2,A6 hz,YM];rfl⟩
   .intro m hm;refine⟨m,_,rfl,.inl ⟨Al.of Af,λt ht=>?_⟩⟩;have s3:=I.1.trans ((Ab.new (o:= .lst J) hm).trans (Ab.new (o:= .tup J) ht));have i8:upd (upd H2 m (.lst J)) t (.tup J) t=some (.tup ((r.map λ_=>(0:Int)).map V.int)):=by
     rw[Af,I.2,Y0,YS (Y4 _),bA];rfl
    refine⟨h.1.trans s3,?_⟩;have ez:(Dq P S)[j]? =some (r.map λ_=>0):=by unfold Dq;rw[YO,hr];rfl
    rw[A6 ez,YM];exact Ac.snoc (Ac.ev (Ev.same s3) _ _ h.2) (Aa.row i8)
  .intro m hm;refine⟨m,_,rfl,.inl ⟨Al.of Af,λt ht=>?_⟩⟩;have s3:=(Ab.new (o:= .lst c) hm).trans (Ab.new (o:= .tup c) ht);have rz:Aa p (upd (upd G m (.lst c)) t (.tup c)) (FD (Dq P S)) (.ref t):=by
    refine Aa.tup Af ?_;have r3:=Ac.ev (Ev.same (p:=p) s3) _ _ h.2;rw[YS (by unfold Dq;rw[Y0,Cr];lia)]at r3;exact r3
   have s4:=s1.trans (h.1.trans s3);generalize upd (upd G m (.lst c)) t (.tup c)=Z at s4 rz ⊢;have i4:=s4 _ _ hW;refine⟨W,CA,g,[],rfl,i4,WC,WK.nP,by decide,W,CA,g,[("plant",v)],rfl,Af,WC,WK.nS,by show(1:Nat)<1000;decide,λl hl=>?_⟩;have L:upd (upd Z W (.ins CA g [("plant",v)])) W (.ins CA g [("plant",v),("story",u)]) W=some (.ins CA g [("plant",v),("story",u)]):=Af;have nl:l≠W:=λz=>by rw[z]at hl;have:=L.symm.trans hl;cases this
   have O:Z l=none:=by
    have e2:upd (upd Z W (.ins CA g [("plant",v)])) W (.ins CA g [("plant",v),("story",u)]) l=Z l:=by rw[Ap nl,Ap nl]
    exact e2.symm.trans hl
   refine⟨W,CA,g,[("plant",v),("story",u)],rfl,(Ap nl.symm).trans L,WC,WK.nF,by show(2:Nat)<1000;decide,?_⟩;have kk:∀b o,Z b=some o->b≠W->upd (upd (upd (upd Z W (.ins CA g [("plant",v)])) W (.ins CA g [("plant",v),("story",u)])) l (.lst [.ref t])) W (.ins CA g (OV v u l)) b=some o:=λb o D nb=>by
    have i9:b≠l:=λz=>by rw[z,O]at D;cases D
    rw[Ap nb,Ap i9,Ap nb,Ap nb];exact D
   refine q l t _ (λb o D nb=>kk b o (s4 _ _ D) nb) ⟨g,Af⟩ ?_ ((Ap nl).trans Af) (Aa.tev (p:=p) (λb c D=>kk b _ D (λz=>by rw[z,i4]at D;cases D)) _ _ (OX _) rz);cases z:H l with
   |none=>rfl
   |some o=>rw[s4 _ _ z]at O;cases O
 .exact h.elim
theorem XT(F:Df K mg "_law_watch" wba ["_law_plant_here","_law_story_here"])(T:Tx mg)(WK:Wc K CA)(O:HX P w K mg base 10 "Watch" CA ["self","plant","story"] (IW ds CA))(J:Mt CX0 P w K mg base 1 CA "kept_firing" ["self"] (IV CA)):AX P w K mg base 12 "_law_watch" ["_law_plant_here","_law_story_here"] (AW ds OY):=by
 have WC:=WK.cls;refine F.fnE (N:=["_law_plant_here","_law_story_here"]) AB (λvs H Q E h=>?_) (λf dl A outer s H vs Q E hr h=>?_)
 .unfold AW at h;split at h;rfl;exact h.elim
 unfold AW at h;split at h
 .rename_i v u;refine⟨_,(Ao (Av (Vc L8 WC J (hr.mono (by decide)) (Ve Bg O (hr.mono (by decide)) rfl (As (cy 0) (cy 1)))))),?_⟩;intro W dx hW I ne;have c:Ab H (upd (upd H dx (.own W)) W (.ins CA dx [])):=(Ab.new I).trans (Ab.new (by rw[Ap (Zo ne)];exact hW));rcases h with h | ⟨p,P,S,ok,so,r,ru,q⟩
  .refine .inl ?_;rcases h with⟨p,d,r,hp,q⟩ | ⟨p,P,e,ok,r,ru,fsd,hs,q⟩
   .exact .inl ⟨p,d,Aa.ev (Ev.same c) _ _ r,hp,λg G=>q g (c.trans G)⟩
   .exact .inr ⟨p,P,e,ok,Aa.ev (Ev.same c) _ _ r,Aa.ev (Ev.same c) _ _ ru,fsd,hs,λg G=>q g (c.trans G)⟩
  .refine .inr ⟨p,P,S,dx,ok,so,Aa.ev (Ev.same c) _ _ r,Aa.ev (Ev.same c) _ _ ru,Af,λL B g keep D hL kL rB=>⟨rfl,?_⟩⟩;have G:Ab H g:=λb o z=>keep b o (c b o z) λy=>by rw [y,hW] at z;cases z
   obtain⟨Z,hI⟩:=id D;exact⟨W,Z,_,rfl,hI,rfl,L,v,u,[.ref B],.ref B,D,kL,rfl,q _ _ G rB⟩
 .exact h.elim
end
abbrev Ds:Str:="_law_call" ++ ".<locals>." ++ "<lambda>"
def GP(P:yP)(w:yN)(K:Fgx)(mg:Str->yW)(base:Heap)(M:yR)(ds:List yR)(TB:yR):Sp:=λvs H Q _=>zU (λf L=>∃sp xs,Fz P w K mg base 18 f sp/\H L=some (.lst xs)/\(xs.length=2\/xs.length=3\/xs.length=4)/\TabIn H TB Ds/\∀H1,TabIn H1 TB Ds->(∀b o,H b=some o->b≠TB->H1 b=some o)->sp xs H1 (HM Q) (Gi (WdK K M ds) Q)) vs
variable{P:yP}{w:yN}{K:Fgx}{mg:Str -> yW}{base:Heap}{M:yR}{ds:List yR}
theorem KZ{H:Hp}{TB L:yR}{c:Str}{xs:List V}(t:TabIn H TB c)(h:H L=some (.lst xs)):L≠TB:=λz=>by
 obtain⟨g,e,_⟩:=t;rw[z,e]at h;cases h
theorem K0(P:yP)(w:yN)(K:Fgx)(mg:Str->yW)(base:Heap){X:Cx}{E:XK}{k i:Nat}{x:Str}{e:yL}{es:List yL}{t:TA}{p c:Pos}(h1:X.prog=P)(h2:X.w=w)(Z:X.K=K)(h4:X.mg=mg)(O:X.base=base)(D:IsDef X E)(hN:X.N[i]? =some x)(hv:DL X.env.scope x)(I:AQ k X.A)(L:PA X (e::es) t)
  (hdb:autoParam ((x==("__debug__" :Str))=false) o3) (g:autoParam ((x==("__classdict__" :Str))=false) o3) (J:autoParam (starEach (e::es) X.env=(false,eval e X.env)::starEach es X.env) j2) (G:autoParam ((backTo c (starEach es X.env)).any (·.1)=false) j2):
  PE X (.Call (.Name x p) (e::es) [] c) (Oe P w K mg base k E i t):=by
 subst h1 h2 Z h4 O;exact Vr D hN hv I L hdb g J G
theorem XV{c TB:yR}(F:Gq K mg "_law_call" wa2 ["_law_call_here","_law_some"] c)(hC:PySem.W.CodeHd base c TB)(O:base.BuiltinsAt mg TB)(T:Tx mg)(J:HN P w K mg base 20 "_law_said" ["_law_call_here"] (EV P w K mg base 19 (WdK K M ds))):Fn P w K mg base 21 "_law_call" ["_law_call_here","_law_some"] (GP P w K mg base M ds TB):=by
 refine F.fn (N:=["_law_call_here","_law_some"]) AB (λvs H Q E h=>?_) (λf A outer s H vs Q E hr h=>?_)
 .cases h;rfl
 refine⟨_,(Ak (Bq (Bi CB (Ax (Bl K) rfl T.b_len PySem.boot_len (Aj (cy 1))) Ag (Ba _)) (Ao (Av (Kg (N':=["_law_call_here","_law_some"]) (cap:=[some 0,some 1]) J (hr.mono (by decide)) rfl (λ_=>rfl) rfl hC O (AJ.of rfl) (by decide) rfl rfl rfl rfl (λ_ _ _ _=>rfl) (λA outer s H f c E g=>(K0 P w K mg base (k:=18) (i:=0) rfl rfl rfl rfl rfl Kf rfl (by first | exact Or.inl rfl | exact Or.inr (Or.inl rfl) | exact Or.inr (Or.inr rfl)) ((g.deeper _).mono (by decide)) (As (AH (Bb K) (cy 1) Ag (λ_ _=>rfl)) (AH (Bb K) (cy 1) Ag (λ_ _=>rfl)))))))) Bn) (Ak (Bq (Bi CB (Ax (Bl K) rfl T.b_len PySem.boot_len (Aj (cy 1))) Ag (Ba _)) (Ao (Av (Kg (N':=["_law_call_here","_law_some"]) (cap:=[some 0,some 1]) J (hr.mono (by decide)) rfl (λ_=>rfl) rfl hC O (AJ.of rfl) (by decide) rfl rfl rfl rfl (λ_ _ _ _=>rfl) (λA outer s H f c E g=>(K0 P w K mg base (k:=18) (i:=0) rfl rfl rfl rfl rfl Kf rfl (by first | exact Or.inl rfl | exact Or.inr (Or.inl rfl) | exact Or.inr (Or.inr rfl)) ((g.deeper _).mono (by decide)) (AM (AH (Bb K) (cy 1) Ag (λ_ _=>rfl)) (AH (Bb K) (cy 1) Ag (λ_ _=>rfl)) (AH (Bb K) (cy 1) Ag (λ_ _=>rfl)))))))) Bn) (Ao (Av (Kg (N':=["_law_call_here","_law_some"]) (cap:=[some 0,some 1]) J (hr.mono (by decide)) rfl (λ_=>rfl) rfl hC O (AJ.of rfl) (by decide) rfl rfl rfl rfl (λ_ _ _ _=>rfl) (λA outer s H f c E g=>(K0 P w K mg base (k:=18) (i:=0) rfl rfl rfl rfl rfl Kf rfl (by first | exact Or.inl rfl | exact Or.inr (Or.inl rfl) | exact Or.inr (Or.inr rfl)) ((g.deeper _).mono (by decide)) (B3 (AH (Bb K) (cy 1) Ag (λ_ _=>rfl)) (AH (Bb K) (cy 1) Ag (λ_ _=>rfl)) (AH (Bb K) (cy 1) Ag (λ_ _=>rfl)) (AH (Bb K) (cy 1) Ag (λ_ _=>rfl)))))))))),?_⟩;cases h;rename_i h
 .rename_i f' L;obtain⟨sp,G,hf,Z,hl,hT,q⟩:=h;have two:G.length=2->∃a b,G=[a,b]:=λe=>by
   match G,e with
   |[a,b],_=>exact⟨a,b,rfl⟩
  have three:G.length=3->∃a b c,G=[a,b,c]:=λe=>by
   match G,e with
   |[a,b,c],_=>exact⟨a,b,c,rfl⟩
  have four:G.length=4->∃a b c d,G=[a,b,c,d]:=λe=>by
   match G,e with
   |[a,b,c,d],_=>exact⟨a,b,c,d,rfl⟩
  have nL:L≠TB:=KZ hT Z;refine⟨L,_,rfl,.inl (Al.of Z),rfl,⟨λc=>?_,λc=>?_⟩⟩
  .obtain⟨a,b,rfl⟩:=two (by have:=MX c;injection this with z;lia);refine⟨hT,λH1 T1 I=>⟨f',sp,rfl,hf,?_⟩⟩;have D:=Al.of (K:=K) (I _ _ Z nL);exact⟨L,_,0,a,rfl,rfl,D,rfl,L,_,1,b,rfl,rfl,D,rfl,q H1 T1 I⟩
  have c2:G.length≠2:=λz=>MY c (Zv V.int (by lia))
  refine⟨L,_,rfl,.inl (Al.of Z),rfl,⟨λc=>?_,λc=>?_⟩⟩
  .obtain⟨a,b,d,rfl⟩:=three (by have:=MX c;injection this with z;lia);refine⟨hT,λH1 T1 I=>⟨f',sp,rfl,hf,?_⟩⟩;have D:=Al.of (K:=K) (I _ _ Z nL);exact⟨L,_,0,a,rfl,rfl,D,rfl,L,_,1,b,rfl,rfl,D,rfl,L,_,2,d,rfl,rfl,D,rfl,q H1 T1 I⟩
  have c3:G.length≠3:=λz=>MY c (Zv V.int (by lia))
  obtain⟨a,b,d,e,rfl⟩:=four (by lia);refine⟨hT,λH1 T1 I=>⟨f',sp,rfl,hf,?_⟩⟩;have D:=Al.of (K:=K) (I _ _ Z nL);exact⟨L,_,0,a,rfl,rfl,D,rfl,L,_,1,b,rfl,rfl,D,rfl,L,_,2,d,rfl,rfl,D,rfl,L,_,3,e,rfl,rfl,D,rfl,q H1 T1 I⟩
end
section
variable{p:yR}{H0:Hp}{σ:L2.St}{te:TE}
def BadS(w:Str)(P:PL)(S:SY)(d:yQ):Prop:=(w="plant" /\CT d=false)\/(w="story" /\FO d/\CV P.bs.length d=false)\/(w="firing" /\Cv (caps P S) d=false)\/(w="prices" /\Da (S.ex.length:Int) d=false)
def OZ(S:SY):yQ:=AN (List.replicate S.ex.length 1)
structure Gd(p:yR)(H:Hp)(g:yR)(P:PL)(S:SY)(F:yZ):Prop where
 ex:∃o v u w x,H g=some (.frz o (.dK [(.inr "plant",v),(.inr "story",u),(.inr "firing",w),(.inr "any",.non),(.inr "prices",x)]))/\Aa p H P.d v/\Aa p H S.d u/\Aa p H (FD F) w/\Aa p H (OZ S) x
 ok:PL.ok P
 so:SY.ok S P.bs.length
 fo:FOk P S F
def IY:Sp:=λvs H Q _=>zV (λp w g=>∃P S F,Bd p H/\Gd p H g P S F/\(w="plant" \/w="story" \/w="prices" \/w="firing")/\∀v d H',BadS w P S d->Aa p H' d v->Ev p H H'->Bd p H'->Q v H') vs
theorem O6{p:yR}{H:Hp}{σ:L2.St}{c:TE}{d:yQ}{i:Nat}{u:TS}{O:Cy}(h:BB p H σ c d)(q:∀v H',Ab H H'->Aa p H' d v->u O (σ.set i (some v)) H'):Jh (Jj c (Dt i)) u O σ H:=h H _ (Ab.refl _) λv H' s r=>q v H' s r
theorem XW{ds:List yQ}{K:Fgx}(I:∃o,H0 p=some o)(h:BB p H0 σ te (.tuple ds)):BB p H0 σ (Jw (NF K) (BD te CC)) (.list ds):=λH Q s q=>
 h H _ s λv J s1 r=>by
  obtain⟨a,D,rfl,g,G⟩:=Aa.untup r;exact⟨a,D,rfl,.inr (Ae.of g),λt L c n k=>q _ _ (s1.trans c) (Aa.ls (HZ I (s.trans s1) n) k (Ac.ev (Ev.same c) _ _ G))⟩
theorem XX{d:yQ}{ds:List yQ}(h:BB p H0 σ te (.tuple (d::ds))):BB p H0 σ (LP MH te LN (LO (tC (.int 1)))) (.tuple [d]):=λH Q s q=>
 h H _ s λv J s1 r=>by
  obtain⟨a,xs,rfl,D,g⟩:=Aa.untup r;unfold Ac at g;obtain⟨y,I,rfl,G,L⟩:=g;refine⟨1,rfl,a,_,rfl,D,λt O c k=>q _ _ (s1.trans c) (Aa.tup (xs:=[y]) ?_ (.cons (Aa.ev (Ev.same c) _ _ G) .nil))⟩;rw[k];unfold A4;rw[show(some (1:Int))=some ((1:Nat):Int) from rfl,HT.sIx_nat,HT.sIx_none,Zh,ZW (Nat.le_add_left 1 _)]
  rfl
theorem XY{ds:List yQ}{k:Int}(h:BB p H0 σ te (.tuple ds))(ne:ds≠ [])(l:ds.length<=100)(k1:2<=k)(k2:k<=100):BB p H0 σ (Dv ML te (tC (.int k))) (.tuple (List.replicate k.toNat ds).flatten):=λH Q s q=>
 h H _ s λv L s1 r=>by
  obtain⟨a,I,rfl,J,D⟩:=Aa.untup r;have g:=D.len;exact⟨a,k,I,rfl,rfl,J,λz=>ne (Zr (by rw[z]at g;exact g)),k1,k2,by lia,λt O c G=>q _ _ (s1.trans c) (Aa.tup G (Ac.ev (Ev.same c) _ _ (Gw D _)))⟩
theorem FP{c:Type}{x:c}:∀ {n:Nat},(List.replicate n [x]).flatten=List.replicate n x
 |0=>rfl
 |n+1=>by rw[ZQ,aP,FP];rfl
theorem O7{n:Nat}{x:yQ}(c:1<=n)(h:HQ x=false):Da (n:Int) (.tuple (List.replicate n [x]).flatten)=false:=by
 obtain⟨m,rfl⟩:∃m,n=m+1:=⟨n-1,by lia⟩;rw[FP,ZQ];unfold Da;dsimp only;rw[cO,h,Zb,Zg]
theorem O8{n k:Nat}{ds:List yQ}(e:ds.length=k)(h:k≠n):Da (n:Int) (.tuple ds)=false:=by
 unfold Da AV;dsimp only;rw[e];rcases Nat.lt_or_gt_of_ne h with z | z
 .rw[Zu (by lia:¬((n:Nat):Int)<=(k:Nat)),Zb,Zb]
 .rw[Zu (by lia:¬((k:Nat):Int)<=(n:Nat)),Zg,Zb]
theorem O9{cs:yZ}{ds:List yQ}(h:ds.length≠cs.length):Cv cs (.tuple ds)=false:=by
 unfold Cv;dsimp only;rw[Zu h,Zb]
theorem Pa{cs:yZ}{x:yQ}{n:Nat}(e:cs.length=n)(g:1<=n)(h:∀c∈cs,B6 x c=false):Cv cs (.tuple (List.replicate n [x]).flatten)=false:=by
 cases cs with
 |nil=>rw[<-e]at g;cases g
 |cons c r=>
  subst e;rw[FP];unfold Cv;dsimp only;rw[Zh,ZQ,el,cO];rw[show id (B6 x c)=false from h c (Z1 ..),Zb,Zg]
theorem XZ{c:yV}(h:∀i∈c,0<=i/\i<=9):B6 (.tuple (List.replicate 4 [.int 99]).flatten) c=false:=by
 unfold B6;dsimp only;cases c with
 |nil=>rfl
 |cons i r=>
  have g:=(h i (Z1 ..)).2;rw[show(List.replicate 4 [PyData.int 99]).flatten= .int 99::[.int 99,.int 99,.int 99] from rfl,el,cO];have:AZ (.int 99) 0 i=false:=by
   unfold AZ;dsimp only;rw[Zu (by lia:¬(99:Int)<=i),Zg]
  rw[show id (AZ (.int 99) 0 i)=false from this,Zb,Zg]
theorem X0(n:Nat)(c:n<=4):∀d∈ [PyData.none,.tuple [],.tuple [.tuple [],.tuple []],.tuple [.tuple [.int 0],.tuple [.tuple [.int 9,.str "out",.int 0,.int 0]]],.tuple [.tuple [.int 21],.tuple []],.list [.tuple [.int 0],.tuple []]],CV (n:Int) d=false:=by
 match n,c with
 |0,_ | 1,_ | 2,_ | 3,_ | 4,_=>decide+kernel
 |n+5,c=>exact absurd c (by lia)
variable{P:yP}{w:yN}{K:Fgx}{mg:Str -> yW}{base:Heap}
theorem zae:Aw ["_law_pen_here","_law_sort","_law_good","_law_way","_law_main","_law_some","_law_many","_law_firing_here"] ["_law_pen_here","_law_sort","_law_good"] (Am wbb):=AB
theorem X1(F:Df K mg "_law_bad" wbb ["_law_pen_here","_law_sort","_law_good"])(T:Tx mg)(i4:Gz P w K mg base):Fn P w K mg base 2 "_law_bad" ["_law_pen_here","_law_sort","_law_good"] IY:=by
 refine F.fn zae (λvs H Q E h=>?_) (λf dl A outer s H vs Q E hr h=>?_)
 .cases h;rfl
 refine⟨_,(@Ak _ _ _ _ _ (@AI _ _ (3) _ _ _ _ zae.nd rfl (AC (by rfl)) (@Aq _ _ _ _ _ _ _ _ _ _ i4 (hr.mono (by decide)) rfl (@Bj _ _ _ _ _ (@cx _ 0 _ _ (by rfl)) (@Ag _ _ _ _) (by rfl)) (by decide) (by rfl) (by rfl)) (by rfl) (CG (by rfl))) (@Ak _ _ _ _ _ (@Bq _ _ _ _ _ _ _ _ (@Bi _ _ _ _ _ _ _ _ (@CB _) (@cx _ 1 _ _ (by rfl)) (@AF _ _ _ _) (Ba _)) (@Ak _ _ _ _ _ (@AI _ _ (4) _ _ _ _ zae.nd rfl (AC (by rfl)) (@AT _ _ _ _ _ (@DE _ _ _ _ _ _ _ (@Ag _ _ _ _) (@Ag _ _ _ _) (@Ag _ _ _ _) (by rfl))) (by rfl) (CG (by rfl))) (@Ak _ _ _ _ _ (@AI _ _ (5) _ _ _ _ zae.nd rfl (AC (by rfl)) (@DZ _ _ _ _ (@Bc _ _ _ _ _ (@Ck _ _ _) (@Dl _ _ _ _ _ _ _ _ _ (@AT _ _ _ _ _ (@BE _)) (@AT _ _ _ _ _ (@DE _ _ _ _ _ _ _ (@AT _ _ _ _ _ (@By _ _ _ (@AT _ _ _ _ _ (@Bj _ _ _ _ _ (@Ag _ _ _ _) (@Ag _ _ _ _) (by rfl))) (by rfl))) (@AT _ _ _ _ _ (@BE _)) (@AT _ _ _ _ _ (@DE _ _ _ _ _ _ _ (@Ag _ _ _ _) (@Ag _ _ _ _) (@Ag _ _ _ _) (by rfl))) (by rfl))) (@AT _ _ _ _ _ (@DE _ _ _ _ _ _ _ (@AT _ _ _ _ _ (@By _ _ _ (@AT _ _ _ _ _ (@Bj _ _ _ _ _ (@Ag _ _ _ _) (@Ag _ _ _ _) (by rfl))) (by rfl))) (@AT _ _ _ _ _ (@BE _)) (@cx _ 4 _ _ (by rfl)) (by rfl))) (@DZ _ _ _ _ (@DE _ _ _ _ _ _ _ (@AT _ _ _ _ _ (@By _ _ _ (@AT _ _ _ _ _ (@Bj _ _ _ _ _ (@Ag _ _ _ _) (@Ag _ _ _ _) (by rfl))) (by rfl))) (@AT _ _ _ _ _ (@BE _)) (@cx _ 4 _ _ (by rfl)) (by rfl))) (by rfl)) (by rfl))) (by rfl) (CG (by rfl))) (@Ao _ _ _ (@Av _ _ _ _ (@AH _ _ _ _ _ _ _ (@Bb _ K (by rfl)) (@Ar _ _ _ _ _ _ _ _ (@TJ _) (@cx _ 5 _ _ (by rfl)) (@DZ _ _ _ _ (@By _ _ _ (@AT _ _ _ _ _ (@DE _ _ _ _ _ _ _ (@AT _ _ _ _ _ (@By _ _ _ (@AT _ _ _ _ _ (@Bj _ _ _ _ _ (@Ag _ _ _ _) (@Ag _ _ _ _) (by rfl))) (by rfl))) (@AT _ _ _ _ _ (@BE _)) (@AT _ _ _ _ _ (@BE _)) (by rfl))) (by rfl)))) (@cx _ 3 _ _ (by rfl)) (λ_ _=>rfl)))))) (@Bn _)) (@Ak _ _ _ _ _ (@Bq _ _ _ _ _ _ _ _ (@Bi _ _ _ _ _ _ _ _ (@CB _) (@cx _ 1 _ _ (by rfl)) (@AF _ _ _ _) (Ba _)) (@Ao _ _ _ (@Av _ _ _ _ (@AH _ _ _ _ _ _ _ (@Bb _ K (by rfl)) (@DZ _ _ _ _ (@Bc _ _ _ _ _ (@Ck _ _ _) (@Bc _ _ _ _ _ (@AT _ _ _ _ _ (@BE _)) (@Dl _ _ _ _ _ _ _ _ _ (@AT _ _ _ _ _ (@Bj _ _ _ _ _ (@AT _ _ _ _ _ (@BE _)) (@AT _ _ _ _ _ (@BE _)) (by rfl))) (@AT _ _ _ _ _ (@Bj _ _ _ _ _ (@AT _ _ _ _ _ (@By _ _ _ (@Ag _ _ _ _) (by rfl))) (@AT _ _ _ _ _ (@By _ _ _ (@AT _ _ _ _ _ (@Dl _ _ _ _ _ _ _ _ _ (@Ag _ _ _ _) (@AF _ _ _ _) (@Ag _ _ _ _) (@Ag _ _ _ _) (by rfl))) (by rfl))) (by rfl))) (@AT _ _ _ _ _ (@Bj _ _ _ _ _ (@AT _ _ _ _ _ (@By _ _ _ (@Ag _ _ _ _) (by rfl))) (@AT _ _ _ _ _ (@BE _)) (by rfl))) (@DZ _ _ _ _ (@Bj _ _ _ _ _ (@AT _ _ _ _ _ (@By _ _ _ (@Ag _ _ _ _) (by rfl))) (@AT _ _ _ _ _ (@BE _)) (by rfl))) (by rfl)) (by rfl)) (by rfl))) (@cx _ 3 _ _ (by rfl)) (λ_ _=>rfl)))) (@Bn _)) (@Ak _ _ _ _ _ (@Bq _ _ _ _ _ _ _ _ (@Bi _ _ _ _ _ _ _ _ (@CB _) (@cx _ 1 _ _ (by rfl)) (@AF _ _ _ _) (Ba _)) (@Ak _ _ _ _ _ (@AI _ _ (6) _ _ _ _ zae.nd rfl (AC (by rfl)) (@Ax _ _ _ _ _ _ _ _ _ (@Bl _ K (by rfl)) rfl T.b_len PySem.boot_len (@By _ _ _ (KA (KC hr) (@cx _ 2 _ _ (by rfl)) AF (λ_ _=>rfl)) (by rfl)) (by decide) (by decide) (by rfl) (by rfl)) (by rfl) (CG (by rfl))) (@Ao _ _ _ (@Av _ _ _ _ (@AH _ _ _ _ _ _ _ (@Bb _ K (by rfl)) (@DZ _ _ _ _ (@Bc _ _ _ _ _ (@Ck _ _ _) (@Bc _ _ _ _ _ (@AT _ _ _ _ _ (@BE _)) (@Dl _ _ _ _ _ _ _ _ _ (@Ar _ _ _ _ _ _ _ _ (@F0 _) (@DZ _ _ _ _ (@By _ _ _ (@Ag _ _ _ _) (by rfl))) (@cx _ 6 _ _ (by rfl))) (@Ar _ _ _ _ _ _ _ _ FB (@AT _ _ _ _ _ (@By _ _ _ (@Ag _ _ _ _) (by rfl))) (@Ar _ _ _ _ _ _ _ _ (@Bs _) (@cx _ 6 _ _ (by rfl)) (@Ag _ _ _ _))) (@Ar _ _ _ _ _ _ _ _ FB (@AT _ _ _ _ _ (@By _ _ _ ID (by rfl))) (@cx _ 6 _ _ (by rfl))) (@Ar _ _ _ _ _ _ _ _ FB (@AT _ _ _ _ _ (@By _ _ _ (@Cj _ _ _ _) (by rfl))) (@cx _ 6 _ _ (by rfl))) (by rfl)) (by rfl)) (by rfl))) (@cx _ 3 _ _ (by rfl)) (λ_ _=>rfl))))) (@Bn _)) (@Ak _ _ _ _ _ (@AI _ _ (7) _ _ _ _ zae.nd rfl (AC (by rfl)) (KA (KC hr) (@cx _ 2 _ _ (by rfl)) AF (λ_ _=>rfl)) (by rfl) (CG (by rfl))) (@Ao _ _ _ (@Av _ _ _ _ (@AH _ _ _ _ _ _ _ (@Bb _ K (by rfl)) (@DZ _ _ _ _ (@Bc _ _ _ _ _ (@Ck _ _ _) (@Bc _ _ _ _ _ (@AT _ _ _ _ _ (@BE _)) (@Dl _ _ _ _ _ _ _ _ _ (@BI _ _ _ _ _ _ _ _ _ (@TK _ K (by rfl)) rfl T.b_list ME (@By _ _ _ (@cx _ 7 _ _ (by rfl)) (by rfl)) (by decide) (by decide) (by rfl) (by rfl)) (@Ar _ _ _ _ _ _ _ _ (@F9 _) (@cx _ 7 _ _ (by rfl)) (@Dj _ _ _ _ _ _ _ _ _ _ (@wa0 _) (@cx _ 7 _ _ (by rfl)) (@EG _) (@Co _ _ _ (@Ag _ _ _ _)))) (@Ar _ _ _ _ _ _ _ _ FB (@AT _ _ _ _ _ (@By _ _ _ (@Ar _ _ _ _ _ _ _ _ (@MM _) (@AT _ _ _ _ _ (@By _ _ _ (@Ag _ _ _ _) (by rfl))) (@Ag _ _ _ _)) (by rfl))) (@Ax _ _ _ _ _ _ _ _ _ (@Bl _ K (by rfl)) rfl T.b_len PySem.boot_len (@By _ _ _ (@cx _ 7 _ _ (by rfl)) (by rfl)) (by decide) (by decide) (by rfl) (by rfl))) (@Ar _ _ _ _ _ _ _ _ FB (@AT _ _ _ _ _ (@By _ _ _ (@Ck _ _ _) (by rfl))) (@Ax _ _ _ _ _ _ _ _ _ (@Bl _ K (by rfl)) rfl T.b_len PySem.boot_len (@By _ _ _ (@cx _ 7 _ _ (by rfl)) (by rfl)) (by decide) (by decide) (by rfl) (by rfl))) (by rfl)) (by rfl)) (by rfl))) (@cx _ 3 _ _ (by rfl)) (λ_ _=>rfl))))))))),?_⟩;cases h;rename_i h
 .rename_i p w' g;obtain⟨P,S,F,pn,gd,hw,q⟩:=h;obtain⟨o,v,u,wf,x,kg,rv,ru,rF,rx⟩:=gd.ex;refine⟨pn,by decide,by decide,λg0 H1 a1 b1 e1 Z=>?_⟩;have I:∃o,H1 p=some o:=by
   obtain⟨l,f,z⟩:=Z;exact⟨_,z⟩
  have O:H1 g=some (.frz o (.dK [(.inr "plant",v),(.inr "story",u),(.inr "firing",wf),(.inr "any",.non),(.inr "prices",x)])):=by
   rcases e1 g _ kg with⟨_,y,z⟩ | z
   .cases z
   .exact z
  have g6:g0<((6:Nat):Int):=b1;have fin:∀ {d:yQ},BadS w' P S d->∀v D,Ab H1 D->Aa p D d v->Q v D:=λb v D s r=>q v _ D b r (e1.trans (Ev.same s)) (Z.same s)
  have x1:=gd.so.x1;have x8:=gd.so.x8;have b4:=gd.ok.b4;have ca:=Cr (P:=P) (S:=S);have G:∀ {D},Ab H1 D->∃o,D p=some o:=λs=>by
   obtain⟨o,z⟩:=I;exact⟨_,s _ _ z⟩
  rcases hw with rfl | rfl | rfl | rfl
  .refine⟨rfl,⟨λ_=>?_,λc=>absurd c (by decide)⟩⟩;refine O6 (p:=p) (A7 (AA BG (AA BG (AA BG AU))) rfl) λv4 H2 s2 r4=>?_
   refine O6 (Eu (G s2) (AA Gv (AA (A7 AU rfl) (AA (A7 (AA (A7 (AA (A7 (AA BG (AA BG AU)) rfl) AU) rfl) (AA (A7 AU rfl) (AA (A7 (AA BG (AA BG (AA BG AU))) rfl) AU))) rfl)
    (AA (A7 (AA (A7 (AA (A7 (AA BG (AA BG AU)) rfl) AU) rfl) (AA (A7 AU rfl) (AA (FC rfl r4) AU))) rfl)
    (AA (Eu (G s2) (AA (A7 (AA (A7 (AA BG (AA BG AU)) rfl) AU) rfl) (AA (A7 AU rfl) (AA (FC rfl r4) AU))) rfl) AU))))) rfl) λv5 H3 s3 r5=>?_
   refine Ia (K:=K) (Vw (G (s2.trans s3)) (FC rfl r5) (Eu (G (s2.trans s3)) (AA (A7 (AA (A7 (AA (A7 (AA BG (AA BG AU)) rfl) AU) rfl) (AA (A7 AU rfl) (AA (A7 AU rfl) AU))) rfl) AU) rfl) (by decide)) rfl a1 g6 (Ab.refl _) λd hd v D s r=>?_
   exact fin (.inl ⟨rfl,(by decide+kernel:∀d∈ [_,_,_,_,_,_],CT d=false) d hd⟩) v D ((s2.trans s3).trans s) r
  .refine⟨rfl,⟨λc=>absurd c (by decide),λ_=>?_⟩⟩;refine⟨rfl,⟨λ_=>?_,λc=>absurd c (by decide)⟩⟩;refine Ia (K:=K) (Eu I (AA Gv (AA (A7 AU rfl) (AA (A7 (AA (A7 AU rfl) (AA (A7 AU rfl) AU)) rfl)
    (AA (A7 (AA (A7 (AA BG AU) rfl) (AA (A7 (AA (A7 (AA BG (AA Vu (AA BG (AA BG AU)))) rfl) AU) rfl) AU)) rfl)
    (AA (A7 (AA (A7 (AA BG AU) rfl) (AA (A7 AU rfl) AU)) rfl)
    (AA (Eu I (AA (A7 (AA BG AU) rfl) (AA (A7 AU rfl) AU)) rfl) AU)))))) rfl) rfl a1 g6 (Ab.refl _) λd hd v D s r=>?_
   refine fin (.inr (.inl ⟨rfl,OM ((by decide+kernel:∀d∈ [_,_,_,_,_,_],PyData.hasDict d=false) d hd),?_⟩)) v D s r;exact X0 _ b4 d hd
  .refine⟨rfl,⟨λc=>absurd c (by decide),λ_=>?_⟩⟩;refine⟨rfl,⟨λc=>absurd c (by decide),λ_=>?_⟩⟩;refine⟨rfl,⟨λ_=>?_,λc=>absurd c (by decide)⟩⟩;have sh:S.ex.length≠0:=by lia
   obtain⟨L,xs,rfl,kx,J⟩:=Aa.untup (Aa.ev e1 _ _ rx);have ex:=J.len;rw[Y0,Zw]at ex;refine⟨g,.ref L,rfl,.inl ⟨_,.inr "prices",.inr ⟨o,O⟩,rfl,rfl⟩,L,xs,rfl,.inr (Ae.of kx),?_⟩;rw[<-ex];refine Ia (K:=K) (Eu I (AA Gv (AA (A7 AU rfl) (AA (Vx (k:=S.ex.length) I (Eu I (AA BG AU) rfl) (by decide) (by lia) (by lia) λH Q s q=>q _ (Ab.refl _))
    (AA (Gx (k:=S.ex.length+1) (A7 (AA BG AU) rfl) (by simp) (by decide) (by lia) (by lia) λH Q s q=>q _ (Ab.refl _))
    (AA (Gx (k:=S.ex.length) (A7 (AA BG AU) rfl) (by simp) (by decide) (by lia) (by lia) λH Q s q=>q _ (Ab.refl _))
    (AA (Gx (k:=S.ex.length) (A7 (AA Vv AU) rfl) (by simp) (by decide) (by lia) (by lia) λH Q s q=>q _ (Ab.refl _)) AU)))))) rfl) rfl a1 g6 (Ab.refl _) λd hd v D s r=>?_
   refine fin (.inr (.inr (.inr ⟨rfl,?_⟩))) v D s r;simp only[YY,Ze,ZC]at hd;rcases hd with rfl | rfl | rfl | rfl | rfl | rfl
   .rfl
   .exact O8 (k:=0) rfl (by lia)
   .rfl
   .exact O8 (k:=S.ex.length+1) (by rw[FP,Zw];lia) (by lia)
   .exact O7 x1 rfl
   .exact O7 x1 rfl
  .refine⟨rfl,⟨λc=>absurd c (by decide),λ_=>?_⟩⟩;refine⟨rfl,⟨λc=>absurd c (by decide),λ_=>?_⟩⟩;refine⟨rfl,⟨λc=>absurd c (by decide),λ_=>?_⟩⟩;have fl:=gd.fo.len;obtain⟨f0,fr,rfl⟩:∃a b,F=a::b:=by
    cases F with
    |nil=>rw[<-fl]at x1;cases x1
    |cons a b=>exact⟨a,b,rfl⟩
   have r7:=Aa.ev e1 _ _ rF;obtain⟨L,xs,rfl,kx,J⟩:=Aa.untup r7;have ex:=J.len;rw[Y0,fl]at ex;refine⟨g,.ref L,rfl,.inl ⟨_,.inr "firing",.inr ⟨o,O⟩,rfl,rfl⟩,?_⟩;have gl:∀ {H:Hp}{Q:VK},Ab H1 H->(∀D,Ab H D->Q (.int S.ex.length) D)->MU K [.ref L] H Q:=λs q=>⟨L,xs,rfl,.inr (Ae.of (s _ _ kx)),by rw[<-ex];exact q _ (Ab.refl _)⟩
   refine Ia (K:=K) (Eu I (AA Gv (AA (A7 AU rfl) (AA (XW I (FC rfl r7)) (AA (Vy (FC rfl r7) (XX (FC rfl r7)) ?_)
    (AA (Gx (k:=S.ex.length) (A7 (AA (XY (A7 (AA BG AU) rfl) (by simp) (by decide) (by decide) (by decide)) AU) rfl) (by simp) (by simp) (by lia) (by lia) λH Q s q=>gl s q)
    (AA (Gx (k:=S.ex.length) (A7 (AA Gv AU) rfl) (by simp) (by decide) (by lia) (by lia) λH Q s q=>gl s q) AU)))))) rfl) rfl a1 g6 (Ab.refl _) λd hd v D s r=>?_
   .rw[Y0,fl];exact(by lia:S.ex.length+1<=1000)
   refine fin (.inr (.inr (.inl ⟨rfl,?_⟩))) v D s r;simp only[YY,Ze,ZC]at hd;rcases hd with rfl | rfl | rfl | rfl | rfl | rfl
   .rfl
   .exact O9 (by rw[ca];exact(by lia:0≠S.ex.length))
   .rfl
   .refine O9 ?_;rw[Z7,Y0,fl,ca];exact(by lia:S.ex.length+1≠S.ex.length)
   .exact Pa ca x1 λc hc=>XZ (CP gd.ok c hc).1
   .exact Pa ca x1 λc hc=>rfl
end
section
variable{α:Type}
inductive So where | plant | story | firing | prices | any
 deriving DecidableEq
def So.w:So->Str | .plant=> "plant" | .story=> "story" | .firing=> "firing" | .prices=> "prices" | .any=> "any"
def So.d(P:PL)(S:SY)(F:yZ):So->yQ | .plant=>P.d | .story=>S.d | .firing=>FD F | .prices=>OZ S | .any=> .none
def So.bad(P:PL)(S:SY):So->yQ->Prop
 |.plant,d=>CT d=false | .story,d=>FO d/\CV P.bs.length d=false | .firing,d=>Cv (caps P S) d=false
 |.prices,d=>Da (S.ex.length:Int) d=false | .any,_=>False
def So.e(ds:List yR):So->yR | .plant=>ds.getD 0 0 | .story=>ds.getD 1 0 | .firing=>ds.getD 2 0 | .prices=>ds.getD 5 0 | .any=>0
theorem BadS.so{s:So}{P:PL}{S:SY}{d:yQ}(n:s≠ .any)(h:BadS s.w P S d):s.bad P S d:=by
 rcases h with⟨e,h⟩ | ⟨e,h⟩ | ⟨e,h⟩ | ⟨e,h⟩<;>cases s<;>first | exact h | exact absurd rfl n | exact absurd e (by decide)
def K4(H:Hp)(Q:VK)(p:yR)(d:yQ):Prop:=∀v c,Ab H c->Aa p c d v->Nc d->Q v c
structure Bv(ds:List yR)(fm:List So)(sp:Sp):Prop where
 bad:∀ {P:PL}{S:SY}{F:yZ}{p:yR}{H:Hp}{pre post:List So}{s:So}{d:yQ}{es:List yQ}{vs:List V}{Q:VK}{E:XK},P.ok->S.ok P.bs.length->FOk P S F->fm=pre++s::post->s.bad P S d->es.length=post.length->Ac p H (pre.map (So.d P S F)++d::es) vs->(∀H',Ab H H'->E (.ref (s.e ds)) none H')->sp vs H Q E
 good:∀ {P:PL}{S:SY}{F:yZ},P.ok->S.ok P.bs.length->FOk P S F->∃d0,∀ {p:yR}{H:Hp}{vs:List V}{Q:VK}{E:XK},(∃o,H p=some o)->Ac p H (fm.map (So.d P S F)) vs->K4 H Q p d0->sp vs H Q E
theorem Ac.un{p:yR}{H:Hp}{d:yQ}{ds:List yQ}{vs:List V}(r:Ac p H (d::ds) vs):∃v ws,vs=v::ws/\Aa p H d v/\Ac p H ds ws:=by
 unfold Ac at r;exact r
theorem Ac.no{p:yR}{H:Hp}{vs:List V}(r:Ac p H [] vs):vs=[]:=by
 unfold Ac at r;exact r
variable{ds:List yR}{P:PL}{S:SY}{F:yZ}{p:yR}{H:Hp}{pre post r:List So}{s:So}{d:yQ}{es:List yQ}{vs:List V}{Q:VK}{E:XK}
theorem GQ(ok:P.ok)(e: .plant:: .story::r=pre++s::post)(b:s.bad P S d)(l:es.length=post.length)(rs:Ac p H (pre.map (So.d P S F)++d::es) vs)(q:∀H',Ab H H'->E (.ref (s.e ds)) none H'):
  (∃v u ws,vs=v::u::ws/\ws.length=r.length/\Ed ds [v,u] H Q E)\/ ∃g,pre= .plant:: .story::g/\r=g++s::post:=by
 match pre with
 |[]=>
  injection e with G D
  subst G D;obtain⟨v,ws,rfl,J,rw⟩:=Ac.un rs
  match es,l with
  |e::es,l=>
   obtain⟨u,ws,rfl,ru,rw⟩:=Ac.un rw;refine .inl ⟨v,u,ws,rfl,?_,.inl ⟨p,d,J,b,q⟩⟩;have:=rw.len;simp only[Zh]at l;lia
 |[a]=>
  injection e with G D
  injection D with D I
  subst G D I;obtain⟨v,ws,rfl,J,rw⟩:=Ac.un rs;obtain⟨u,ws,rfl,ru,rw⟩:=Ac.un rw;refine .inl ⟨v,u,ws,rfl,?_,.inr ⟨p,P,d,ok,J,ru,b.1,b.2,q⟩⟩;have:=rw.len;lia
 |a::c::g=>
  injection e with G D
  injection D with D I
  subst G D;exact .inr ⟨g,rfl,I⟩
theorem GR{l:List α}(e:l.length=1):∃a,l=[a]:=by
 match l,e with
 |[a],_=>exact⟨a,rfl⟩
theorem X2{l:List α}(e:l.length=2):∃a b,l=[a,b]:=by
 match l,e with
 |[a,b],_=>exact⟨a,b,rfl⟩
theorem FQ{a:α}{l m:List α}(e:[]=l++a::m):False:=by
 have:=Zv List.length e;simp at this
theorem IZ{g:yR->PL->SY->Hp->VK->Prop}(G:∀ {P:PL}{S:SY},P.ok->S.ok P.bs.length->∃c,∀ {p:yR}{H:Hp}{Q:VK},(∃o,H p=some o)->K4 H Q p c->g p P S H Q):Bv ds [.plant,.story] (AW ds g) where
 bad ok so fo e b l rs q:=by
  rcases GQ ok e b l rs q with⟨v,u,D,rfl,lw,h⟩ | ⟨pre',_,e'⟩
  .obtain rfl:=Zr lw;exact .inl h
  .exact(FQ e').elim
 good {P S F} ok so fo:=by
  obtain⟨c,h⟩:=G ok so;refine⟨c,λJ rs q=>?_⟩;obtain⟨v,D,rfl,I,rw⟩:=Ac.un rs;obtain⟨u,D,rfl,ru,rw⟩:=Ac.un rw;obtain rfl:=Ac.no rw;exact .inr ⟨_,P,S,ok,so,I,ru,h J q⟩
theorem Pb{g:yR->PL->SY->yZ->Hp->VK->Prop}(O:∀ {P:PL}{S:SY}{F:yZ},P.ok->S.ok P.bs.length->FOk P S F->∃L,∀ {p:yR}{H:Hp}{Q:VK},(∃o,H p=some o)->K4 H Q p L->g p P S F H Q):Bv ds [.plant,.story,.firing] (AY ds g) where
 bad {P S F p H pre post s d es vs Q E} ok so fo e b l rs q:=by
  rcases GQ ok e b l rs q with⟨v,u,G,rfl,lw,h⟩ | ⟨pre',rfl,D⟩
  .obtain⟨w,rfl⟩:=GR lw;exact .inl h
  .match pre',D with
   |[],D=>
    injection D with e1 e2
    subst e1 e2;obtain rfl:=Zr l;obtain⟨v,G,rfl,I,rw⟩:=Ac.un rs;obtain⟨u,G,rfl,ru,rw⟩:=Ac.un rw;obtain⟨x,G,rfl,J,rw⟩:=Ac.un rw;obtain rfl:=Ac.no rw;exact .inr (.inl ⟨p,P,S,d,ok,so,I,ru,J,b,q⟩)
   |[a],D=>injection D with _ D;exact(FQ D).elim
   |a::c::l,D=>injection D with _ D;cases D
 good {P S F} ok so fo:=by
  obtain⟨L,h⟩:=O ok so fo;refine⟨L,λZ rs q=>?_⟩;obtain⟨v,G,rfl,I,rw⟩:=Ac.un rs;obtain⟨u,G,rfl,ru,rw⟩:=Ac.un rw;obtain⟨x,G,rfl,J,rw⟩:=Ac.un rw;obtain rfl:=Ac.no rw;exact .inr (.inr ⟨_,P,S,F,⟨ok,so,fo,I,ru,J⟩,h Z q⟩)
theorem I9(b:Bool):Nc (.bool b):=by cases b<;>exact⟨by decide+kernel,by decide,rfl⟩
theorem Pc{sp:Sp}(Z:∀ {v u w H Q E},Ed ds [v,u] H Q E->sp [v,u,w] H Q E)(I:∀ {P:PL}{S:SY}{p:yR}{H:Hp}{v u:V}{Q:VK}{E:XK},P.ok->S.ok P.bs.length->Aa p H P.d v->Aa p H S.d u->(∀H',Ab H H'->Q (.bl false) H')->sp [v,u,.non] H Q E):Bv ds [.plant,.story,.any] sp where
 bad {P S F p H pre post s d es vs Q E} ok so fo e b l rs q:=by
  rcases GQ ok e b l rs q with⟨v,u,G,rfl,lw,h⟩ | ⟨pre',rfl,g⟩
  .obtain⟨w,rfl⟩:=GR lw;exact Z h
  .match pre',g with
   |[],g=>
    injection g with O e2
    subst O e2;exact b.elim
   |[a],g=>injection g with _ g;exact(FQ g).elim
   |a::c::l,g=>injection g with _ g;cases g
 good {P S F} ok so fo:=by
  refine⟨.bool false,λhp rs q=>?_⟩;obtain⟨v,G,rfl,J,rw⟩:=Ac.un rs;obtain⟨u,G,rfl,ru,rw⟩:=Ac.un rw;obtain⟨x,G,rfl,D,rw⟩:=Ac.un rw;obtain rfl:=Ac.no rw;have:x= .non:=by
   have D:Aa _ _ .none x:=D;unfold Aa at D;exact D
  subst this;exact I ok so J ru λH' L=>q _ _ L (by unfold Aa;rfl) (I9 _)
theorem Pd:Bv ds [.plant,.story,.any] (Fc ds):=Pc (λh=> .inl h) λok so c ru q=> .inr ⟨_,_,_,ok,so,c,ru,rfl,q⟩
theorem X3:Bv ds [.plant,.story,.any] (GN ds):=Pc (λh=> .inl h) λok so g ru q=> .inr ⟨_,_,_,.none,ok,so,g,ru,Aa.non,λb c e s=>by subst e;exact q c s⟩
theorem DJ{n k:Nat}{d:yQ}(h:Small n k d)(g:autoParam (n<=900000) o3)(c:autoParam (k<=18) o3):Nc d:=h.nc g c
theorem X4{i:Int}(h:i.natAbs<10 ^ 31):Nc (.int i):=⟨by unfold BN;rw[YR h];decide,(show(0:Nat)<=18 from by decide),rfl⟩
theorem GS{g:yR->PL->SY->Hp->VK->Prop}{f:PL->SY->yQ}(n:∀ {P:PL}{S:SY},P.ok->S.ok P.bs.length->Nc (f P S))(h:∀ {p P S H Q},ret H Q p (f P S)->g p P S H Q):Bv ds [.plant,.story] (AW ds g):=IZ λ{P S} ok so=>⟨f P S,λ_ q=>h λv c s r=>q v c s r (n ok so)⟩
theorem Pe:Bv ds [.plant,.story] (AW ds IM):=GS (f:=EN) (λok so=>DJ (Sc ok so)) λh=>h
theorem X5:Bv ds [.plant,.story] (AW ds IN):=GS (f:=JS) (λok so=>DJ (Se ok so)) λh=>h
theorem X6:Bv ds [.plant,.story,.prices] (IT ds) where
 bad {P S F p H pre post s d es vs Q E} ok so fo e b l rs q:=by
  rcases GQ ok e b l rs q with⟨v,u,D,rfl,lw,h⟩ | ⟨pre',rfl,g⟩
  .obtain⟨w,rfl⟩:=GR lw;exact .inl h
  .match pre',g with
   |[],g=>
    injection g with O Z
    subst O Z;obtain rfl:=Zr l;obtain⟨v,D,rfl,G,rw⟩:=Ac.un rs;obtain⟨u,D,rfl,ru,rw⟩:=Ac.un rw;obtain⟨x,D,rfl,I,rw⟩:=Ac.un rw;obtain rfl:=Ac.no rw;exact .inr (.inl ⟨p,P,S,d,ok,so,G,ru,I,b,q⟩)
   |[a],g=>injection g with _ g;exact(FQ g).elim
   |a::c::l,g=>injection g with _ g;cases g
 good {P S F} ok so fo:=by
  refine⟨.int (Fw (terms P S) (List.replicate S.ex.length 1)),λhp rs q=>?_⟩;obtain⟨v,D,rfl,G,rw⟩:=Ac.un rs;obtain⟨u,D,rfl,ru,rw⟩:=Ac.un rw;obtain⟨x,D,rfl,I,rw⟩:=Ac.un rw;obtain rfl:=Ac.no rw;have x8:=so.x8;have b:=TQ (HR ok so) (ns:=List.replicate S.ex.length 1) (B:=1) (by rw[Zw];exact x8) λn J=>by rw[(List.mem_replicate.mp J).2];decide
  exact .inr (.inr ⟨_,P,S,List.replicate S.ex.length 1,ok,so,G,ru,I,Zw,(λn J=>by rw[(List.mem_replicate.mp J).2];decide),λH' L=>q _ _ L Aa.int (X4 (aD b (by decide)))⟩)
theorem X7:Bv ds [.plant,.story,.firing,.any] (IU ds) where
 bad {P S F p H pre post s d es vs Q E} ok so fo e b l rs q:=by
  rcases GQ ok e b l rs q with⟨v,u,D,rfl,lw,h⟩ | ⟨pre',rfl,g⟩
  .obtain⟨w,x,rfl⟩:=X2 lw;exact .inl h
  .match pre',g with
   |[],g=>
    injection g with J O
    subst J O;obtain⟨e,rfl⟩:=GR l;obtain⟨v,D,rfl,I,rw⟩:=Ac.un rs;obtain⟨u,D,rfl,ru,rw⟩:=Ac.un rw;obtain⟨x,D,rfl,L,rw⟩:=Ac.un rw;obtain⟨y,D,rfl,G,rw⟩:=Ac.un rw;obtain rfl:=Ac.no rw;exact .inr (.inl ⟨p,P,S,d,ok,so,I,ru,L,b,q⟩)
   |[a],g=>
    injection g with _ g
    injection g with J O
    subst J;exact b.elim
   |[a,c],g=>injection g with _ g;injection g with _ g;exact(FQ g).elim
   |a::c::d::l,g=>injection g with _ g;injection g with _ g;cases g
 good {P S F} ok so fo:=by
  refine⟨.bool false,λhp rs q=>?_⟩;obtain⟨v,D,rfl,I,rw⟩:=Ac.un rs;obtain⟨u,D,rfl,ru,rw⟩:=Ac.un rw;obtain⟨x,D,rfl,L,rw⟩:=Ac.un rw;obtain⟨y,D,rfl,G,rw⟩:=Ac.un rw;obtain rfl:=Ac.no rw;have:y= .non:=by
   have G:Aa _ _ .none y:=G;unfold Aa at G;exact G
  subst this;exact .inr (.inr ⟨_,P,S,F,⟨ok,so,fo,I,ru,L⟩,rfl,λH' Z=>q _ _ Z (by unfold Aa;rfl) (I9 _)⟩)
theorem X8:Bv ds [.plant,.any] (GL ds) where
 bad {P S F p H pre post s d es vs Q E} ok so fo e b l rs q:=by
  match pre,e with
  |[],e=>
   injection e with G I
   subst G I;obtain⟨y,rfl⟩:=GR l;obtain⟨v,g,rfl,D,rw⟩:=Ac.un rs;obtain⟨u,g,rfl,ru,rw⟩:=Ac.un rw;obtain rfl:=Ac.no rw;exact .inl ⟨p,d,D,b,q⟩
  |[a],e=>
   injection e with _ e
   injection e with G I
   subst G;exact b.elim
  |[a,c],e=>injection e with _ e;injection e with _ e;exact(FQ e).elim
  |a::c::d::l,e=>injection e with _ e;injection e with _ e;cases e
 good {P S F} ok so fo:=by
  refine⟨.bool (CV P.bs.length .none),λO rs q=>?_⟩;obtain⟨v,g,rfl,D,rw⟩:=Ac.un rs;obtain⟨u,g,rfl,ru,rw⟩:=Ac.un rw;obtain rfl:=Ac.no rw;exact .inr ⟨_,P,.none,ok,D,ru,OM rfl,λb L e J=>by subst e;exact q _ _ J (by unfold Aa;rfl) (I9 _)⟩
end
section
variable{F:yZ}{P:PL}{S:SY}{sep:Str}
theorem X9{T:TM}(h:T.ds.length<=8):Nc (ES (Bz T)):=by
 unfold Bz;cases z:C6 T with
 |nil=>exact⟨by decide+kernel,by decide,rfl⟩
 |cons a l=>
  have c:a∈Cg T.ds.length T.ds.length:=by
   have:a∈C6 T:=by rw[z];exact Z1
   unfold C6 at this;exact(bN.mp this).1
  obtain⟨D,g⟩:=HG (Y4 _) _ c;exact(EQ (r:=[(a.1:Int),(a.2:Int)]) (λi hi=>by
   simp only[YY,Ze,ZC]at hi;rcases hi with rfl | rfl<;>lia) (by simp)).nc (by decide) (by decide)
theorem Ya{n:Nat}(h:∀r∈F,r.length<=n):∀q∈CI F,0<=q.1/\q.1<F.length/\0<=q.2/\q.2<n:=by
 intro q c;unfold CI at c;obtain⟨l,I,c⟩:=mem_flatten.mp c;obtain⟨⟨r,i⟩,hi,rfl⟩:=Z8.mp I;have g:=bi.mp hi;unfold CH at c;obtain⟨⟨x,b⟩,G,rfl⟩:=Z8.mp c;have D:=bi.mp ((bN.mp G).1);have J:i<F.length:=(Y3.mp g).1;have L:b<r.length:=(Y3.mp D).1;have O:r.length<=n:=h r (YU g);exact⟨by show(0:Int)<=(i:Int);lia,by show(i:Int)<_;lia,by show(0:Int)<=(b:Int);lia,by show(b:Int)<_;lia⟩
theorem Yb(g:F.length<=8)(h:∀r∈F,r.length<=4)(D:(CI F).length<=80):Nc (.list ((CI F).map Ge)):=by
 refine(MZ (n:=150) (k:=1) (m:=30000) (λd hd=>?_) (by rw[Y0];lia)).nc (by decide) (by decide);obtain⟨q,c,rfl⟩:=Z8.mp hd;have b:=Ya h q c;exact EO (n:=40) (k:=0) (λd hd=>by
  simp only[YY,Ze,ZC]at hd;rcases hd with rfl | rfl<;>exact DW (by lia)) (by simp)
theorem Pf{l:yV}{B:Int}(h:∀i∈l,0<=i/\i<=B):0<=l.sum/\l.sum<=B * l.length:=by
 induction l with
 |nil=>exact⟨ZS _,by simp⟩
 |cons a l ih=>
  have g:=h a Z1;have c:=ih λi hi=>h i (Z4 _ hi)
  rw[bK,Zh];have e:B *((l.length+1:Nat):Int)=B * l.length+B:=by rw[dS,Int.mul_add];simp
  lia
theorem Pg(ok:P.ok)(so:S.ok P.bs.length)(fo:FOk P S F):∀i∈B4 P F,0<=i/\i<=72:=λi hi=>by
 unfold B4 at hi;obtain⟨b,D,rfl⟩:=Z8.mp hi;have c:=ZM.mp D;have:=Pf (l:=F.map λr=>r.getD b 0) (B:=9) λx I=>by
  obtain⟨r,g,rfl⟩:=Z8.mp I;obtain⟨G,J⟩:=FOk.bd9 ok fo r g;exact G _ (YU (JY (by lia)))
 rw[Y0,fo.len]at this;have:=so.x8;lia
theorem Yc(ok:P.ok)(so:S.ok P.bs.length)(fo:FOk P S F):0<=coal P F/\coal P F<10000:=by
 unfold coal;have:=Pf (l:=((B4 P F).zip P.bs).map λq=>q.1 * q.2.2) (B:=72 * 9) λx G=>by
  obtain⟨q,g,rfl⟩:=Z8.mp G;have c:=Pg ok so fo q.1 (bj g).1;have D:=ok.b q.2 (bj g).2;exact⟨Int.mul_nonneg c.1 (by lia),Int.mul_le_mul c.2 D.2.2.2 (by lia) (by lia)⟩
 rw[Y0,eM]at this;have b4:=ok.b4;lia
def K6(F:yZ):Prop:=F.length<=8/\∀r∈F,r.length<=4/\∀n∈r,0<=n/\n<=9
theorem Yd(h:K6 F):(FK F).length<=392:=by
 have e:(Str.ofString "/").length=1:=by decide
 have:=KK (sep:="/") (l:=F.map Fb) (B:=48) λx g=>by
  obtain⟨r,c,rfl⟩:=Z8.mp g;obtain⟨a,b⟩:=h.2 r c;exact OD b a
 rw[Y0,e]at this;have D:=h.1;unfold FK;lia
def Lo(x:Str):Prop:=∀c∈x.cps.toList,c<16 ^ 8
theorem K7(s:String):Lo (Str.ofString s):=λc g=>by
 rw[Str.ofString_eq_toList]at g;obtain⟨D,_,rfl⟩:=Z8.mp g;exact D.val.toNat_lt
theorem Ph(G:Lo sep):∀(l:List Str) (g:Array Nat),(∀x∈l,Lo x)->(∀c∈g.toList,c<16 ^ 8)->∀c∈(l.foldl (λg p=>g++sep.cps++p.cps) g).toList,c<16 ^ 8
 |[],g,_,h=>h
 |x::l,g,hl,h=>by
  rw[eL];refine Ph G l _ (λy I=>hl y (Z4 _ I)) λc D=>?_
  rw[bB,bB]at D;rcases ay.mp D with z | z
  .rcases ay.mp z with z | z
   .exact h c z
   .exact G c z
  .exact hl x (Z1 ..) c z
theorem Pi{l:List Str}(G:Lo sep)(h:∀x∈l,Lo x):Lo (E2 sep l):=by
 have g:Lo (Builtin.Str.glued sep l):=by
  unfold Builtin.Str.glued;refine Ph G _ _ (λx I=>h x (List.mem_of_mem_drop I)) ?_;cases l with
  |nil=>intro c D;cases D
  |cons x l=>exact h x (Z1 ..)
 match l,h,g with
 |[],_,g=>exact g
 |[x],h,_=>exact h x (Z1 ..)
 |_::_::_,_,g=>exact g
theorem Ye(h:K6 F):Nc (.str (FK F)):=by
 have l:Lo (FK F):=Pi (K7 _) λx g=>by
  obtain⟨r,_,rfl⟩:=Z8.mp g;exact Pi (K7 _) λy c=>by
   obtain⟨n,_,rfl⟩:=Z8.mp c;exact K7 _
 have e:=StrLaws.reprText_len _ l;have n:=Yd h;exact⟨by unfold BN;lia,(show(0:Nat)<=18 from by decide),rfl⟩
theorem Yf(ok:P.ok)(so:S.ok P.bs.length)(fo:FOk P S F):K6 F:=by
 have x8:=so.x8;have b4:=ok.b4;have lf:=fo.len;refine⟨by lia,λr I=>?_⟩;obtain⟨i,hi⟩:=ZX I;have Z:=fo.row i r hi;have g:i<S.ex.length:=by have:=(Y3.mp hi).1;lia
 refine⟨by lia,λn J=>?_⟩;obtain⟨j,D⟩:=ZX J;have L:=CP (S:=S) ok _ (YU (CZ g));obtain⟨c,G⟩:∃c,(BY P.bs S.fs i)[j]? =some c:=⟨_,Y5 (by have:=(Y3.mp D).1;lia)⟩;have b:=fo.bd i r j n c hi D G;have O:=L.1 c (YU G);lia
theorem Yg{k:Nat}:(Eb P S F k).length=k:=by unfold Eb;simp
variable{ds:List yR}
theorem Yh:Bv ds [.plant,.story] (AW ds OQ):=GS (f:=λP S=>ES (Bz (terms P S))) (λ{P S} ok so=>X9 (by rw[show(terms P S).ds.length=S.ex.length from Cs];exact so.x8)) λh=>h
theorem Yi(ok:P.ok)(so:S.ok P.bs.length):Nc (GI (terms P S)):=by
 have l0:=ok.lo0;have h4:=ok.h4;have x8:=so.x8;unfold GI;cases z:Bz (terms P S) with
 |some _=>exact DJ (show Small 1000 1 PyData.none from⟨by decide+kernel,by decide,rfl⟩)
 |none=>
  refine DJ (EQ (λi hi=>?_) (by unfold Fy;rw[Y0,af,show(terms P S).ds.length=S.ex.length from Cs];lia));unfold Fy at hi;obtain⟨j,c,rfl⟩:=Z8.mp hi;have c:=ZM.mp c;rw[show(terms P S).ds.length=S.ex.length from Cs]at c;have:=UV ok so z (j:=j+1) (by lia);have:=UR (T:=terms P S) (j:=j+1);have e:(terms P S).lo=P.lo:=rfl;lia
theorem Yj:Bv ds [.plant,.story] (AW ds KY):=GS (f:=λP S=>GI (terms P S)) (λok so=>Yi ok so) λh=>h
theorem Yk(ok:P.ok)(so:S.ok P.bs.length){k:Nat}{s:Option (Int×Int)}(run:Run P S F k s):Nc (AN (Eb P S F k)):=by
 have l0:=ok.lo0;have h4:=ok.h4;have x8:=so.x8;have g:=run.le;refine DJ (EQ (λi hi=>?_) (by rw[Yg];lia));unfold Eb at hi;obtain⟨j,c,rfl⟩:=Z8.mp hi;have c:=ZM.mp c;have:=ER ok (k:=j+1) λi hi=>run.up i (by lia)
 lia
theorem Yl:Bv ds [.plant,.story] (AW ds OR):=IZ λ{P S} ok so=>by
 by_cases h:∃k s,Run P S (caps P S) k s
 .obtain⟨k,s,run⟩:=h;refine⟨AN (Eb P S (caps P S) k),λ_ q G D w g c sm r=>?_⟩;obtain⟨rfl,rfl⟩:=run.uniq c;exact q w g sm r (Yk ok so run)
 .exact⟨.none,λ_ q G D w g c sm r=>absurd ⟨G,D,c⟩ h⟩
theorem Ym:Bv ds [.plant,.story] (AW ds OY):=GS (f:=λP S=>FD (Dq P S)) (λ{P S} ok so=>DJ (JW (rs:=Dq P S) (λr g=>by
  unfold Dq at g;obtain⟨c,D,rfl⟩:=Z8.mp g;have b:=(CP ok c D).2;have b4:=ok.b4;refine⟨λi hi=>?_,by rw[Y0];lia⟩;obtain⟨_,_,rfl⟩:=Z8.mp hi
  decide) (by
  have x8:=so.x8;unfold Dq;rw[Y0,Cr];lia))) λh=>h
theorem Ja{g:yR->PL->SY->yZ->Hp->VK->Prop}{f:PL->SY->yZ->yQ}(n:∀ {P:PL}{S:SY}{F:yZ},P.ok->S.ok P.bs.length->FOk P S F->Nc (f P S F))(h:∀ {p P S F H Q},(∃o,H p=some o)->ret H Q p (f P S F)->g p P S F H Q):Bv ds [.plant,.story,.firing] (AY ds g):=Pb λ{P S F} ok so fo=>⟨f P S F,λD q=>h D λv c s r=>q v c s r (n ok so fo)⟩
theorem Yn:Bv ds [.plant,.story,.firing] (AY ds KW):=Ja (f:=λP S F=>AN (B4 P F)) (λ{P S F} ok so fo=>DJ (EQ (λi hi=>by have:=Pg ok so fo i hi;lia) (by unfold B4;rw[Y0,af];have:=ok.b4;lia))) λ_ h=>h
theorem Yo:Bv ds [.plant,.story,.firing] (AY ds OO):=Ja (f:=λP S F=> .int (coal P F)) (λok so fo=>DJ (DW (by have:=Yc ok so fo;lia))) λ_ h c s=>h _ c s Aa.int
theorem Yp:Bv ds [.plant,.story,.firing] (AY ds OU):=Ja (f:=λP S F=> .str (FK F)) (λok so fo=>Ye (Yf ok so fo)) λ_ h c s=>h _ c s Aa.str
theorem Yq{n:Nat}(h:∀r∈F,r.length<=n):(CI F).length<=F.length * n:=by
 unfold CI;have:∀(l:List (yV×Nat)),(∀q∈l,q.1.length<=n)->(l.map λq=>CH q.2 q.1).flatten.length<=l.length * n:=λl=>by
  induction l with
  |nil=>intro _;exact Z6 _
  |cons a l ih=>
   intro g;rw[ZA,aP,Z7,Zh,bI];have D:=ih λq c=>g q (Z4 _ c)
   have G:=g a (Z1 ..);have I:(CH a.2 a.1).length<=a.1.length:=by
    unfold CH;rw[Y0];exact YV (bq ..) (eX List.length_zipIdx)
   lia
 have:=this F.zipIdx λq c=>h q.1 (YU (bi.mp c))
 rwa [List.length_zipIdx]at this
theorem Yr:Bv ds [.plant,.story,.firing] (AY ds OP):=Ja (f:=λP S F=> .list ((CI F).map Ge)) (λ{P S F} ok so fo=>by
  have x8:=so.x8;have b4:=ok.b4;have c:∀r∈F,r.length<=4:=λr g=>by rw[(FOk.bd9 ok fo r g).2];exact b4
  have D:=Yq c;have fl:=fo.len;exact Yb (by lia) c (by lia)) λ{p P S F H Q} hp h R H' xs s n k r=>h _ H' s (Aa.ls (by rintro rfl;obtain⟨o,z⟩:=hp;rw[z]at n;cases n) k r)
theorem K8{g:yR->PL->SY->yZ->Hp->VK->Prop}(f:PL->SY->yZ->Nat->Option (Int×Int)->yQ)(n:∀ {P:PL}{S:SY}{F:yZ}{k:Nat}{s:Option (Int×Int)},P.ok->S.ok P.bs.length->FOk P S F->Run P S F k s->Nc (f P S F k s))(h:∀ {p P S F H Q},(∃o,H p=some o)->(∀k s,Run P S F k s->ret H Q p (f P S F k s))->g p P S F H Q):Bv ds [.plant,.story,.firing] (AY ds g):=Pb λ{P S F} ok so fo=>by
 by_cases z:∃k s,Run P S F k s
 .obtain⟨k,s,run⟩:=z;exact⟨f P S F k s,λD q=>h D λG I c v J sm r=>by
   obtain⟨rfl,rfl⟩:=run.uniq c;exact q v J sm r (n ok so fo run)⟩
 .exact⟨.none,λD q=>h D λG I c=>absurd ⟨G,I,c⟩ z⟩
theorem Ys:Bv ds [.plant,.story,.firing] (AY ds IO):=K8 (λP S F k _=> .list (C4 P S F k)) (λok so fo run=>DJ (Sj ok so fo run)) λ{p P S F H Q} hp h R H' k s xs run sm n kR r=>h k s run _ H' sm (Aa.ls (by rintro rfl;obtain⟨o,z⟩:=hp;rw[z]at n;cases n) kR r)
theorem Yt:Bv ds [.plant,.story,.firing] (AY ds KU):=K8 (λ_ _ _ _ s=>DX s) (λok so fo run=>DJ (Sk ok so fo run)) λD h g c k s run sm r=>h k s run _ c sm r
theorem Yu:Bv ds [.plant,.story,.firing] (AY ds ON):=K8 (λ_ _ _ _ s=> .bool s.isNone) (λok so fo run=>I9 _) λg h c k s run sm=>h k s run _ c sm (by unfold Aa;rfl)
theorem Yv:Bv ds [.plant,.story] (AW ds OS):=IZ λ{P S} ok so=>⟨lcD (terms P S),λ_ q=>q⟩
theorem Yw:Bv ds [.plant,.story] (AW ds OT):=IZ λ{P S} ok so=>by
 by_cases h:∃d,PapU (terms P S) d
 .obtain⟨d,hd⟩:=h;exact⟨d,λ_ q x g G D c n r=>by
   obtain rfl:=hd.uniq c;exact q x g D r n⟩
 .exact⟨.none,λ_ q x g G D c n r=>absurd ⟨G,c⟩ h⟩
end
section
variable{S:SY}{F:yZ}{p:yR}{J J':Hp}{ql:Str}{xs:List V}{i:Nat}
def Jb(P:yP)(w:yN)(K:Fgx)(mg:Str->yW)(base:Heap)(ds:List yR)(TB:yR):Sp:=λvs H Q _=>zW (λp f L g=>∃sp fm Pl S F,Fz P w K mg base 18 f sp/\Bv ds fm sp/\Bd p H/\Gd p H g Pl S F/\H L=some (.lst (fm.map λs=>V.str s.w))/\2<=fm.length/\fm.length<=4/\TabIn H TB Ds/\L≠p/\∀H',Bd p H'->TabIn H' TB Ds->EvX [p,TB] H H'->Q (.bl true) H') vs
def So.v(v u w x:V):So->V | .plant=>v | .story=>u | .firing=>w | .prices=>x | .any=> .non
theorem Yx(P:PL):Ca P.d=true:=C9 (ds:=[.tuple (P.bs.map bD),.tuple (P.es.map eD),.tuple [.int P.lo,.int P.hi,.int P.st]]) λd hd=>by
 simp only[YY,Ze,ZC]at hd;rcases hd with rfl | rfl | rfl
 .exact C9 λd hd=>by obtain⟨b,_,rfl⟩:=Z8.mp hd;rfl
 .exact C9 λd hd=>by obtain⟨b,_,rfl⟩:=Z8.mp hd;rfl
 .rfl
theorem Yy(S:SY):Ca S.d=true:=C9 (ds:=[AN S.ex,.tuple (S.fs.map FT.d)]) λd hd=>by
 simp only[YY,Ze,ZC]at hd;rcases hd with rfl | rfl
 .exact E8 _
 .exact C9 λd hd=>by obtain⟨b,_,rfl⟩:=Z8.mp hd;rfl
theorem So.nm(P:PL)(S:SY)(F:yZ)(s:So):Ca (s.d P S F)=true:=by
 cases s
 .exact Yx P
 .exact Yy S
 .exact OX F
 .exact E8 _
 .rfl
theorem So.reps{P:PL}{H:Hp}{v u w x:V}(h:∀s:So,Aa p H (s.d P S F) (s.v v u w x)):∀fm:List So,Ac p H (fm.map (So.d P S F)) (fm.map (So.v v u w x))
 |[]=> .nil
 |s::l=> .cons (h s) (So.reps h l)
theorem Pj{fm:List So}{j:Nat}{y:V}(h:(fm.map λs=>V.str s.w)[j]? =some y):∃s,fm[j]? =some s/\y= .str s.w:=by
 rw[YO]at h;obtain⟨s,c,e⟩:=Zm.mp h;exact⟨s,c,e.symm⟩
theorem _root_.L2.EvX.tev{M:List yR}{H H':Hp}(e:EvX M H H'):TEv H H':=λa c q=>e.tup q
theorem Pk{TB:yR}(e:EvX [p,TB] J J')(t:TabIn J TB ql){b:yR}{o:HO}(h:J b=some o)(n:b≠p)(ty:∀c,o≠ .tbl c):J' b=some o:=(e b o h).elim (λz=>by
 obtain⟨c,k,_⟩:=t;rcases YY.mp z.1 with z | z
 .exact absurd z n
 .rw[Zc.mp z,k]at h;cases h;exact absurd rfl (ty c)) id
mutual
theorem Aa.evX{TB:yR}(h:EvX [p,TB] J J')(t:TabIn J TB ql):∀(d:yQ) (v:V),Aa p J d v->Aa p J' d v
 |.none,v,q=>q
 |.bool _,v,q=>q
 |.int _,v,q=>q
 |.str _,v,q=>q
 |.tuple ds,v,q=>by
  unfold Aa at q ⊢;obtain⟨a,c,e,r,z⟩:=q;exact⟨a,c,e,h.tup r,Ac.evX h t ds c z⟩
 |.list ds,v,q=>by
  unfold Aa at q ⊢;obtain⟨a,c,e,n,r,z⟩:=q;exact⟨a,c,e,n,Pk h t r n (λ_ z=>by cases z),Ac.evX h t ds c z⟩
 |.dict kvs,v,q=>by
  unfold Aa at q ⊢;obtain⟨a,g,e,n,k,r⟩:=q;exact⟨a,g,e,n,k,Pk h t r n (λ_ z=>by cases z)⟩
theorem Ac.evX{TB:yR}(h:EvX [p,TB] J J')(t:TabIn J TB ql):∀(ds:List yQ) (xs:List V),Ac p J ds xs->Ac p J' ds xs
 |[],xs,q=>by unfold Ac at q ⊢;exact q
 |d::ds,xs,q=>by
  unfold Ac at q ⊢;obtain⟨x,r,e,z,c⟩:=q;exact⟨x,r,e,Aa.evX h t d x z,Ac.evX h t ds r c⟩
end
theorem So.wd{K:Fgx}{mg:Str->yW}{M:yR}{ds:List yR}(C:Tc K mg M ds){s:So}(n:s≠ .any):WdK K M ds (s.e ds) s.w:=by
 cases s
 .exact⟨0,by decide,rfl,rfl,C.w_NoPlant⟩
 .exact⟨1,by decide,rfl,rfl,C.w_NoStory⟩
 .exact⟨2,by decide,rfl,rfl,C.w_NoFiring⟩
 .exact⟨5,by decide,rfl,rfl,C.w_NoPrices⟩
 .exact absurd rfl n
theorem Pm{d:yQ}(h:Nc d):MR (.tuple [.str "told",d]):=by
 have e:BN (.str "told")<=40:=by decide+kernel
 have c:=h.w;have hd:=h.dp;refine⟨?_,?_,.inl ?_⟩
 .show BN (.str "told")+2+(BN d+2+0)+4<=1000000;lia
 .simp only[PyData.depth,PyData.depthAll];lia
 .show(PyData.hasDict (.str "told") || (PyData.hasDict d || false))=false;rw[h.nd];rfl
theorem Gd.evX{TB g:yR}{P:PL}(d:Gd p J g P S F)(e:EvX [p,TB] J J')(t:TabIn J TB ql):Gd p J' g P S F:=by
 obtain⟨o,v,u,w,x,k,a,b,c,D⟩:=d.ex;exact⟨⟨o,v,u,w,x,e.keep k (λz=>by rcases z with⟨_,z⟩ | ⟨_,z⟩<;>cases z),Aa.evX e t _ _ a,Aa.evX e t _ _ b,Aa.evX e t _ _ c,Aa.evX e t _ _ D⟩,d.ok,d.so,d.fo⟩
theorem Yz:A4 xs none (some (i:Int))=xs.take i:=by
 unfold A4;rw[HT.sIx_none,HT.sIx_nat,drop_zero,fe];rcases Nat.le_total i xs.length with h | h
 .rw[ZW h]
 .rw[Nat.min_eq_right h,ZR,YS h]
theorem YA(h:i<=xs.length):A4 xs (some (i:Int)) none=xs.drop i:=by
 unfold A4;rw[HT.sIx_none,HT.sIx_nat,ZW h,YS (by rw[Zs];exact Y4 _)]
inductive YB(p f L g A T:yR)(σ:L2.St):Prop
 |mk (x y z:_) (e:σ=[some (.ref p),some (.ref f),some (.ref L),some (.ref g),some (.ref A),some (.ref T),x,y,z])
variable{P:yP}{w:yN}{K:Fgx}{mg:Str -> yW}{base:Heap}{M:yR}{ds:List yR}
theorem zaf:Aw ["_law_pen_here","_law_call_here","_law_form","_law_good","_law_some","_law_told","_law_at","_law_sort","_law_bad_here"] ["_law_pen_here","_law_call_here","_law_form","_law_good"] (Am wbc):=AB
theorem YC{TB:yR}(C:Tc K mg M ds)(F:Df K mg "_law_right" wbc ["_law_pen_here","_law_call_here","_law_form","_law_good"])(T:Tx mg)(yaO:Fn P w K mg base 2 "_law_bad" ["_law_pen_here","_law_sort","_law_good"] IY)(i7:Fn P w K mg base 21 "_law_call" ["_law_call_here","_law_some"] (GP P w K mg base M ds TB)):Fn P w K mg base 22 "_law_right" ["_law_pen_here","_law_call_here","_law_form","_law_good"] (Jb P w K mg base ds TB):=by
 refine F.fn zaf (λvs H Q E h=>?_) (λf dl A outer s H vs Q E hr h=>?_)
 .cases h;rfl
 refine⟨_,(Ak (Fj (i:=4) ["_law_sort","_law_good"] [none,some 3] zaf.nd rfl (AC (by rfl)) rfl (Fp K (cy 2)) (AJ.of rfl) (λ_ _ _ _=>(zD 0)) (λ_ _ _ _=>A8) (λ_ _ _ _=>(KA (KC hr) (cy 1) (cy 0) (λ_ _=>rfl)))) (Ak (zE 5 (zB i7 hr (As (cy 1) (cy 4)))) (Ak (Cm Zq rfl (R5 P w K rfl T.b_enumerate (Aj (cy 2))) (AL K (n:=2) (Ai (zD 6) (Ai (zD 7) AK))) (Ao (Bq (Bi Jp (cy 7) AF (Ba _)) (Ak (zE 8 (Ar Cf (Dj (Hs K) (cy 4) EG (Co (cy 6))) (A5 (Aj (zB yaO hr (AM (cy 0) (cy 7) (cy 3))))))) (Ak (Bq (Bi (Nq hr) (zB i7 hr (As (cy 1) (Ar Cf (cy 8) (Ar F0 (A5 (Aj Ck)) (Ar BL (Ar BL (Ax (Bl K) rfl T.b_len PySem.boot_len (Aj (cy 2))) (cy 6)) Ag))))) (BF (Aj (cy 7))) (Ba _)) (Ao (Av Cj)) Bn) (Ao (Bq (Bi (Nq hr) (zB i7 hr (As (cy 1) (Ar Cf (cy 8) (Dj (Hs K) (cy 4) (Co (Ar Bs (cy 6) Ag)) EG)))) (BF (Aj (cy 7))) (Ba _)) (Ao (Av Cj)) Bn)))) Bn))) (Ao (Av (Bp (Dz CB (AH (Bw K) (cy 5) Ag (λ_ _=>rfl)) AF (Ba _)) (BM (Dz CB (Ax (MT hr) rfl T.b_repr boot_repr (Aj (zB i7 hr (As (cy 1) (cy 4))))) (Ax (MT hr) rfl T.b_repr boot_repr (Aj (cy 5))) (Ba _))))))))),?_⟩;cases h;rename_i h
 .rename_i p f' L g;obtain⟨sp,fm,Pl,S,F,hf,dr,pn,gd,hL,l2,l4,tb,nL,q⟩:=h;obtain⟨o,v,u,D,x,kg,rv,ru,rF,rx⟩:=gd.ex;have one:∀s:So,Aa p H (s.d Pl S F) (s.v v u D x):=λs=>by
   cases s
   .exact rv
   .exact ru
   .exact rF
   .exact rx
   .exact Aa.non
  have args:∀ {H'},TEv H H'->Ac p H' (fm.map (So.d Pl S F)) (fm.map (So.v v u D x)):=λe=>So.reps (λs=>Aa.tev e _ _ (So.nm ..) (one s)) fm
  have nT:L≠TB:=KZ tb hL;refine⟨L,rfl,⟨_,Al.of hL⟩,F3 (xs:=fm.map λs=>V.str s.w) (λj zs H'=>Ab H H'/\zs=(fm.take j).map (So.v v u D x)) (by rw[Y0];lia) ⟨Ab.refl _,rfl⟩ (λj zs H' h=>by rw[h.2,Y0,YW];lia) (λj zs H' _ h=>Al.of (h.1 _ _ hL)) (λj y zs H' hy h=>?_) λzs H' h=>?_⟩
  .obtain⟨s,hs,rfl⟩:=Pj hy;refine⟨⟨rfl,trivial⟩,λ_=>⟨g,So.v v u D x s,rfl,.inl ⟨_,.inr s.w,.inr ⟨o,h.1 _ _ kg⟩,rfl,?_⟩,h.1,?_⟩,λz=>by cases z⟩
   .cases s<;>rfl
   .rw[h.2,A6 hs,YM];rfl
  rw[Y0,ZR]at h;obtain⟨s1,rfl⟩:=h;intro LA hA;have nA:=Ab.new (o:= .lst (fm.map (So.v v u D x))) hA;have kA:upd H' LA (.lst (fm.map (So.v v u D x))) LA=some (.lst (fm.map (So.v v u D x))):=Af;have s2:=s1.trans nA;have j9:LA≠p:=(pn.same s1).ne hA;have i6:LA≠TB:=λz=>TabIn.not_none (tb.same s1) (z ▸ hA)
  generalize upd H' LA (.lst (fm.map (So.v v u D x)))=H1 at nA kA s2 ⊢;have lA:(fm.map (So.v v u D x)).length=2\/(fm.map (So.v v u D x)).length=3\/(fm.map (So.v v u D x)).length=4:=by rw[Y0];lia
  obtain⟨d0,good⟩:=dr.good gd.ok gd.so gd.fo;have l9:∀ {J:Hp},Bd p J->∃o,J p=some o:=λh=>by
   obtain⟨a,b,z⟩:=h;exact⟨_,z⟩
  have pT:p≠TB:=by
   obtain⟨_,_,z⟩:=pn;exact KZ tb z
  have O:∀ {J J':Hp},Bd p J->(∀b o,J b=some o->b≠TB->J' b=some o)->Bd p J':=λh k=>by
   obtain⟨a,b,z⟩:=h;exact⟨a,b,k _ _ z pT⟩
  refine⟨sp,_,hf,kA,lA,tb.same s2,λH2 t2 k2=>?_⟩;have e2:EvX [p,TB] H H2:=(EvX.same s2).trans (EvX.tab (tb.same s2) k2 (by simp));have l7:=O (pn.same s2) k2;refine good (l9 l7) (args e2.tev) λt0 H3 I r3 n0 T0 hT0=>?_
  have j6:=Ab.new (o:= .tup [.str "told",t0]) hT0;have i9:upd H3 T0 (.tup [.str "told",t0]) T0=some (.tup [.str "told",t0]):=Af;have r4:=Aa.ev (Ev.same (p:=p) j6) _ _ r3;have i4:=I.trans j6;generalize upd H3 T0 (.tup [.str "told",t0])=H4 at j6 i9 r4 i4 ⊢;have e4:=e2.trans (EvX.same i4);have pn4:=l7.same i4;have t4:=t2.same i4;have k9:H4 L=some (.lst (fm.map λs=>V.str s.w)):=e4.lst hL (by simp[nL,nT]);have j3:H4 LA=some (.lst (fm.map (So.v v u D x))):=(i4 _ _ (k2 _ _ kA i6));refine⟨L,rfl,⟨_,Al.of k9⟩,for_enum (xs:=fm.map λs=>V.str s.w) (λj σ J=>YB p f' L g LA T0 σ/\EvX [p,TB] H4 J/\Bd p J/\TabIn J TB Ds) ⟨⟨_,_,_,rfl⟩,EvX.refl,pn4,t4⟩ (λj σ J h=>Al.of (h.2.1.lst k9 (by simp[nL,nT]))) (λj y σ J U hy h hU=>?_) fun σ J h=>?_⟩
  .obtain⟨⟨x6,x7,x8,rfl⟩,e5,j0,t5⟩:=h;obtain⟨s,hs,rfl⟩:=Pj hy;have nU:=Ab.new (o:= .tup [.int (j:Int),.str s.w]) hU;have kU:upd J U (.tup [.int (j:Int),.str s.w]) U=some (.tup [.int (j:Int),.str s.w]):=Af;generalize upd J U (.tup [.int (j:Int),.str s.w])=J1 at nU kU ⊢;have e6:=e5.trans (EvX.same nU);have j7:=j0.same nU;have t6:=t5.same nU;refine⟨U,_,rfl,Ae.of kU,rfl,_,_,rfl,_,_,rfl,rfl,?_⟩
   by_cases ha:s= .any
   .subst ha;exact⟨rfl,⟨λc=>absurd c (by decide),λ_=>⟨⟨_,_,_,rfl⟩,e6,j7,t6⟩⟩⟩
   refine⟨rfl,⟨λ_=>?_,λc=>absurd c (by cases s<;>first | decide | exact absurd rfl ha)⟩⟩;have hj:j<fm.length:=(Y3.mp hs).1;have ed:fm.drop j=s::fm.drop (j+1):=by
    rw[du hj]
    congr 1
    exact(Y3.mp hs).2
   have ef:fm=fm.take j++s::fm.drop (j+1):=by rw[<-ed,List.take_append_drop]
   have G:∀ {J:Hp}{LB:yR}{b:V}{ws:List V}{d:yQ}{es:List yQ}{Q:VK}{E:XK},EvX [p,TB] H J->Bd p J->TabIn J TB Ds->Aa p J d b->Ac p J es ws->es.length=(fm.drop (j+1)).length->BadS s.w Pl S d->J LB=some (.lst ((fm.take j).map (So.v v u D x)++b::ws))->(∀J' t,EvX [p,TB] J J'->Bd p J'->TabIn J' TB Ds->J' t=some (.tup [.str s.w])->Q (.ref t) J')->GP P w K mg base M ds TB [.ref f',.ref LB] J Q E:=λ{J LB b ws d es Q E} eJ pJ tJ rb rw le hb kB q=>by
    have lw:=rw.len;rw[le,Zs]at lw;refine⟨sp,_,hf,kB,by simp only[Z7,Y0,YW,Zh];lia,tJ,λJ1 t1 k1=>?_⟩;have e1:EvX [p,TB] J J1:=EvX.tab tJ k1 (by simp);have p1:=O pJ k1;refine dr.bad gd.ok gd.so gd.fo ef (BadS.so ha hb) le (Ac.append (So.reps (λs=>Aa.tev (eJ.trans e1).tev _ _ (So.nm ..) (one s)) _) (.cons (Aa.evX e1 tJ _ _ rb) (Ac.evX e1 tJ _ _ rw))) λJ2 s2=>⟨_,s.w,rfl,So.wd C ha,λJ3 t k3 kt=>?_⟩
    have I:Ab J2 J3:=k3;exact q J3 t (e1.trans (EvX.same (s2.trans I))) (p1.same (s2.trans I)) (t1.same (s2.trans I)) kt
   refine⟨(j:Int),rfl,LA,_,rfl,Al.of (e6.lst j3 (by simp[j9,i6])),λC1 w9=>?_⟩;have n1:=Ab.new (o:= .lst (A4 (fm.map (So.v v u D x)) none (some (j:Int)))) w9;have v7:upd J1 C1 (.lst (A4 (fm.map (So.v v u D x)) none (some (j:Int)))) C1=some (.lst ((fm.take j).map (So.v v u D x))):=by rw[Af,Yz,map_take]
   have nC1:C1≠p:=j7.ne w9;generalize upd J1 C1 (.lst (A4 (fm.map (So.v v u D x)) none (some (j:Int))))=J2 at n1 v7 ⊢;have e7:=e6.trans (EvX.same n1);have t7:=t6.same n1;refine⟨Pl,S,F,j7.same n1,gd.evX (e4.trans e7) tb,by cases s<;>first | exact .inl rfl | exact .inr (.inl rfl) | exact .inr (.inr (.inl rfl)) | exact .inr (.inr (.inr rfl)) | exact absurd rfl ha,λb d J3 hb rb e8 pn8=>?_⟩;intro B1 hB1;have n2:=Ab.new (o:= .lst [b]) hB1;have r8:upd J3 B1 (.lst [b]) B1=some (.lst [b]):=Af;generalize upd J3 B1 (.lst [b])=J4 at n2 r8 ⊢;refine⟨C1,B1,_,_,rfl,rfl,n2 _ _ (e8.lst v7 nC1),r8,YV (by simp only[Y0,YW,ZF];lia:_<=10) (by decide),λD1 i8=>?_⟩;have n3:=Ab.new (o:= .lst ((fm.take j).map (So.v v u D x)++[b])) i8;have j4:upd J4 D1 (.lst ((fm.take j).map (So.v v u D x)++[b])) D1=some (.lst ((fm.take j).map (So.v v u D x)++[b])):=Af;have nDp:D1≠p:=(pn8.same n2).ne i8;have t8:=(t7.ev e8).same n2;have nDT:D1≠TB:=λz=>TabIn.not_none t8 (z ▸ i8)
   generalize upd J4 D1 (.lst ((fm.take j).map (So.v v u D x)++[b]))=J5 at n3 j4 ⊢;have e9:EvX [p,TB] H4 J5:=e7.trans ((EvX.ev e8 (by simp)).trans (EvX.same (n2.trans n3)));have pn9:=(pn8.same n2).same n3;have t9:=t8.same n3;have rb5:=Aa.ev (Ev.same (n2.trans n3)) _ _ rb;intro N1 hN1;have n4:=Ab.new (o:= .lst [V.non]) hN1;have v6:upd J5 N1 (.lst [V.non]) N1=some (.lst [V.non]):=Af;generalize upd J5 N1 (.lst [V.non])=J6 at n4 v6 ⊢;refine⟨L,_,rfl,.inl (Al.of ((e9.trans (EvX.same n4)).lst k9 (by simp[nL,nT]))),?_⟩;have jl:((fm.map λs=>V.str s.w).length:Int)=(fm.length:Int):=by rw[Y0]
   refine⟨N1,(fm.length:Int)-j-1,_,rfl,by rw[<-jl],v6,fk (by decide:_<=(0:Int)) (by lia),bL (by lia:_<=(4:Int)) (by decide),YV (by simp only[ZF];lia:_<=4) (by decide),λN2 hN2=>?_⟩;have n5:=Ab.new (o:= .lst (List.replicate ((fm.length:Int)-j-1).toNat [V.non]).flatten) hN2;have u4:upd J6 N2 (.lst (List.replicate ((fm.length:Int)-j-1).toNat [V.non]).flatten) N2=some (.lst (List.replicate ((fm.length:Int)-j-1).toNat [V.non]).flatten):=Af;generalize upd J6 N2 (.lst (List.replicate ((fm.length:Int)-j-1).toNat [V.non]).flatten)=J7 at n5 u4 ⊢;have rN:Ac p J7 (List.replicate ((fm.length:Int)-j-1).toNat [PyData.none]).flatten (List.replicate ((fm.length:Int)-j-1).toNat [V.non]).flatten:=Gw (.cons Aa.non .nil) _;have lN:((List.replicate ((fm.length:Int)-j-1).toNat [PyData.none]).flatten).length=(fm.drop (j+1)).length:=by
    rw[FP,Zw,Zs];lia
   have lN':=rN.len;rw[lN,Zs]at lN';refine⟨D1,N2,_,_,rfl,rfl,n5 _ _ (n4 _ _ j4),u4,YV (by simp only[Z7,Y0,YW,ZF];lia:_<=20) (by decide),λM1 hM1=>?_⟩;have n6:=Ab.new (o:= .lst ((fm.take j).map (So.v v u D x)++[b]++(List.replicate ((fm.length:Int)-j-1).toNat [V.non]).flatten)) hM1;have w8:upd J7 M1 (.lst ((fm.take j).map (So.v v u D x)++[b]++(List.replicate ((fm.length:Int)-j-1).toNat [V.non]).flatten)) M1=some (.lst ((fm.take j).map (So.v v u D x)++b::(List.replicate ((fm.length:Int)-j-1).toNat [V.non]).flatten)):=by rw[Af,bH];rfl
   generalize upd J7 M1 (.lst ((fm.take j).map (So.v v u D x)++[b]++(List.replicate ((fm.length:Int)-j-1).toNat [V.non]).flatten))=J8 at n6 w8 ⊢;have n7:=n4.trans (n5.trans n6);have e10:=e9.trans (EvX.same n7);have nw:∀ {H:Hp}{t:yR},H t=some (.tup [.str s.w])->Aa p H (.tuple [.str s.w]) (.ref t):=λk=>Aa.tup k (.cons Aa.str .nil)
   refine G (E:=E) (e4.trans e10) (pn9.same n7) (t9.same n7) (Aa.ev (Ev.same n7) _ _ rb5) (Ac.ev (Ev.same n6) _ _ rN) lN hb w8 λJ9 tt v8 pn11 t11 kt=>?_
   intro T2 hT2;have n8:=Ab.new (o:= .tup [.str s.w]) hT2;have u6:upd J9 T2 (.tup [.str s.w]) T2=some (.tup [.str s.w]):=Af;generalize upd J9 T2 (.tup [.str s.w])=v3 at n8 u6 ⊢;refine⟨p,_,_,nw (n8 _ _ kt),nw u6,by cases s<;>decide+kernel,by cases s<;>decide+kernel,by cases s<;>decide+kernel,by cases s<;>decide+kernel,by cases s<;>decide+kernel,λz=>absurd z (by cases s<;>decide+kernel),λ_=>?_⟩;have o9:=e10.trans (v8.trans (EvX.same n8));have w6:=pn11.same n8;have t12:=t11.same n8;have q8:=v8.trans (EvX.same n8);refine⟨(j:Int)+1,rfl,LA,_,rfl,Al.of (o9.lst j3 (by simp[j9,i6])),λC2 hC2=>?_⟩;have hj1:j+1<=(fm.map (So.v v u D x)).length:=by rw[Y0];exact hj
   have ec:A4 (fm.map (So.v v u D x)) (some ((j:Int)+1)) none=(fm.drop (j+1)).map (So.v v u D x):=by
    rw[show(j:Int)+1=((j+1:Nat):Int) from rfl,YA hj1,map_drop]
   have n9:=Ab.new (o:= .lst (A4 (fm.map (So.v v u D x)) (some ((j:Int)+1)) none)) hC2;have o8:upd v3 C2 (.lst (A4 (fm.map (So.v v u D x)) (some ((j:Int)+1)) none)) C2=some (.lst ((fm.drop (j+1)).map (So.v v u D x))):=by rw[Af,ec]
   generalize upd v3 C2 (.lst (A4 (fm.map (So.v v u D x)) (some ((j:Int)+1)) none))=u5 at n9 o8 ⊢;refine⟨D1,C2,_,_,rfl,rfl,n9 _ _ (q8.lst (n7 _ _ j4) (by simp[nDp,nDT])),o8,YV (by simp only[Z7,Y0,YW,Zs,ZF];lia:_<=20) (by decide),λM2 hM2=>?_⟩;have l6:=Ab.new (o:= .lst ((fm.take j).map (So.v v u D x)++[b]++(fm.drop (j+1)).map (So.v v u D x))) hM2;have u8:upd u5 M2 (.lst ((fm.take j).map (So.v v u D x)++[b]++(fm.drop (j+1)).map (So.v v u D x))) M2=some (.lst ((fm.take j).map (So.v v u D x)++b::(fm.drop (j+1)).map (So.v v u D x))):=by rw[Af,bH];rfl
   generalize upd u5 M2 (.lst ((fm.take j).map (So.v v u D x)++[b]++(fm.drop (j+1)).map (So.v v u D x)))=J12 at l6 u8 ⊢;have i5:=n9.trans l6;have j8:=o9.trans (EvX.same i5);have rb12:Aa p J12 d b:=Aa.ev (Ev.same i5) _ _ (Aa.evX q8 (t9.same n7) _ _ (Aa.ev (Ev.same n7) _ _ rb5));refine G (E:=E) (e4.trans j8) (w6.same i5) (t12.same i5) rb12 (So.reps (λs=>Aa.tev (e4.trans j8).tev _ _ (So.nm ..) (one s)) _) (by rw[Y0]) hb u8 λu9 tt2 e14 pn14 t14 kt2=>?_
   intro T3 hT3;have Z:=Ab.new (o:= .tup [.str s.w]) hT3;have u7:upd u9 T3 (.tup [.str s.w]) T3=some (.tup [.str s.w]):=Af;generalize upd u9 T3 (.tup [.str s.w])=J14 at Z u7 ⊢;refine⟨p,_,_,nw (Z _ _ kt2),nw u7,by cases s<;>decide+kernel,by cases s<;>decide+kernel,by cases s<;>decide+kernel,by cases s<;>decide+kernel,by cases s<;>decide+kernel,λz=>absurd z (by cases s<;>decide+kernel),λ_=>?_⟩;exact⟨⟨_,_,_,rfl⟩,j8.trans (e14.trans (EvX.same Z)),pn14.same Z,t14.same Z⟩
  .obtain⟨⟨x6,x7,x8,rfl⟩,e5,j0,t5⟩:=h;refine⟨T0,_,0,.str "told",rfl,rfl,Ae.of (e5.tup i9),rfl,rfl,⟨λ_=>?_,λc=>absurd c (by decide)⟩⟩;refine⟨sp,_,hf,e5.lst j3 (by simp [j9,i6]),lA,t5,λJ1 t1 k1=>?_⟩;have e6:EvX [p,TB] J J1:=EvX.tab t5 k1 (by simp);have p1:=O j0 k1;refine good (l9 p1) (args (e4.trans (e5.trans e6)).tev) λu1 J2 s2 r2 _ T1 hT1=>?_
   have j5:=Ab.new (o:= .tup [.str "told",u1]) hT1;have q9:upd J2 T1 (.tup [.str "told",u1]) T1=some (.tup [.str "told",u1]):=Af;generalize upd J2 T1 (.tup [.str "told",u1])=J3 at j5 q9 ⊢;have I:=s2.trans j5;have r5:=Aa.ev (Ev.same I) _ _ (Aa.evX (e5.trans e6) t4 _ _ r4);refine⟨p,_,Aa.tup q9 (.cons Aa.str (.cons (Aa.ev (Ev.same j5) _ _ r2) .nil)),Pm n0,p,_,Aa.tup (I _ _ (e6.tup (e5.tup i9))) (.cons Aa.str (.cons r5 .nil)),Pm n0,?_⟩;refine⟨rfl,?_⟩;show Q _ _;rw[ZE rfl];exact q _ (p1.same I) (t1.same I) ((e4.trans (e5.trans e6)).trans (EvX.same I))
end
variable{D:Cy}{σ:L2.St}{H:Hp}{fa:List yR}
def forms:List (List So):=List.replicate 9 [.plant,.story]++List.replicate 7 [.plant,.story,.firing]++[[.plant,.story,.prices]]++List.replicate 3 [.plant,.story,.any]++[[.plant,.story,.firing,.any],[.plant,.any]]
theorem Cw{t u:TS}(h:∀U:L2.St->Hp->Prop,U=u D->t { D with nx:=U} σ H):Jh t u D σ H:=h _ rfl
theorem GT{i:Nat}{v:V}{Q:L2.St->Hp->Prop}(h:Q (σ.set i (some v)) H):Dt i v σ H Q:=h
theorem GU(h:D.nx σ H):Lc D σ H:=h
theorem YD{TB:yR}{c:Str}(h:H TB=some (.tbl #[])):TabIn H TB c:=⟨#[],h,trivial,λg v e=>(by have:(none:yW)=some v:=e;cases this)⟩
structure Fix(TB L A B:yR)(xs:List V)(fa ks:List yR)(H:Hp):Prop where
 l:H L=some (.lst xs)
 a:H A=some (.lst ((List.range 22).map λi=>V.ref (fa.getD i 0)))
 b:H B=some (.lst (ks.map V.ref))
 k:∀q∈ks.zip forms,H q.1=some (.lst (q.2.map λs=>V.str s.w))
 t:TabIn H TB Ds
theorem Fix.to{TB L A B p:yR}{xs:List V}{ks:List yR}{J:Hp}(x:Fix TB L A B xs fa ks H)(D:H p=none)(e:EvX [p,TB] H J)(t:TabIn J TB Ds):Fix TB L A B xs fa ks J:=by
 have g:∀ {b:yR}{c:List V},H b=some (.lst c)->J b=some (.lst c):=λ{b c} h=>(e b _ h).elim (λz=>by
  rcases YY.mp z.1 with rfl | m
  .rw[D]at h;cases h
  .exact absurd (Zc.mp m) (x.t.ne h)) id
 exact⟨g x.l,g x.a,g x.b,λq G=>g (x.k q G),t⟩
inductive YE(a A B:yR)(σ:L2.St):Prop
 |mk (x3 x4 x5 x6 x7 x8 x9 x10 x11:_) (e:σ=[some (.ref a),some (.ref A),some (.ref B),x3,x4,x5,x6,x7,x8,x9,x10,x11])
inductive Pn(a A B p g:yR)(σ:L2.St):Prop
 |mk (x3 x5 x6 x7 x9 x10 x11:_) (e:σ=[some (.ref a),some (.ref A),some (.ref B),x3,some (.ref p),x5,x6,x7,some (.ref g),x9,x10,x11])
structure Po(mg:Str->yW)(fa:List yR):Prop where
 g_caps_of:mg "caps_of"=some (.ref (fa.getD 0 0))
 g_draws_of:mg "draws_of"=some (.ref (fa.getD 1 0))
 g_full_firing:mg "full_firing"=some (.ref (fa.getD 2 0))
 g_cheapest:mg "cheapest"=some (.ref (fa.getD 3 0))
 g_least_coal:mg "least_coal"=some (.ref (fa.getD 4 0))
 g_stretch_of:mg "stretch_of"=some (.ref (fa.getD 5 0))
 g_fullest:mg "fullest"=some (.ref (fa.getD 6 0))
 g_leanest:mg "leanest"=some (.ref (fa.getD 7 0))
 g__law_watch:mg "_law_watch"=some (.ref (fa.getD 8 0))
 g_course:mg "course"=some (.ref (fa.getD 9 0))
 g_falls_at:mg "falls_at"=some (.ref (fa.getD 10 0))
 g_keeps_up:mg "keeps_up"=some (.ref (fa.getD 11 0))
 g_coal_of:mg "coal_of"=some (.ref (fa.getD 12 0))
 g_steam_by:mg "steam_by"=some (.ref (fa.getD 13 0))
 g_banked:mg "banked"=some (.ref (fa.getD 14 0))
 g_firing_text:mg "firing_text"=some (.ref (fa.getD 15 0))
 g_floor_of:mg "floor_of"=some (.ref (fa.getD 16 0))
 g_is_firing:mg "is_firing"=some (.ref (fa.getD 17 0))
 g_cheapest_holds:mg "cheapest_holds"=some (.ref (fa.getD 18 0))
 g_stretch_holds:mg "stretch_holds"=some (.ref (fa.getD 19 0))
 g_books_right:mg "books_right"=some (.ref (fa.getD 20 0))
 g_is_story:mg "is_story"=some (.ref (fa.getD 21 0))
def sp_lawN(K:Fgx)(TB:yR):Sp:=λg H Q _=>zG (λa=>∃ns:yV,Al K H a (ns.map V.int)/\ns.length<=63/\H TB=some (.tbl #[])/\∀c,Q (.bl true) c) g
theorem YF{K TB vs H Q E}(h:sp_lawN K TB vs H Q E):vs.length=1:=by cases h;rfl
variable{P:yP}{w:yN}{K:Fgx}{mg:Str -> yW}{base:Heap}
theorem YG{ds:List yR}{TB:yR}{lf:yR}{lfd:FuncData}(F:DP K "law" "law" wa1 lf lfd)(G:Po mg fa)(HD:∀(i:Nat) (fm:List So),forms[i]? =some fm->∃sp,Fz P w K mg base 18 (fa.getD i 0) sp/\Bv ds fm sp)(T:Tx mg)(yaP:Fn P w K mg base 1 "_law_caps" ["_law_plant_here","_law_story_here"] Iu)(yaQ:Fn P w K mg base 1 "_law_cell" ["_law_script","_law_k"] (Ij K))(yaR:Fn P w K mg base 2 "_law_firing" ["_law_pen_here","_law_caps_here"] IJ)(yaS:Fn P w K mg base 1 "_law_pen" ["_law_cell_here"] Ik)(yaT:Fn P w K mg base 2 "_law_plant" ["_law_pen_here"] Il)(yaU:Fn P w K mg base 22 "_law_right" ["_law_pen_here","_law_call_here","_law_form","_law_good"] (Jb P w K mg base ds TB))(yaV:Fn P w K mg base 2 "_law_story" ["_law_pen_here","_law_plant_here"] Ir):BV P w K mg base CX0 23 lf lfd ["_law_script"] (sp_lawN K TB):=by
 refine F.ok (N:=["_law_script","_law_calls","_law_forms","_law_cell_here","_law_pen_here","_law_plant_here","_law_story_here","_law_firing_here","_law_good","_law_turn","_law_call_here","_law_form"]) AB (λvs H Q E h=>YF h) (λdl A outer s H vs Q E hr h=>?_);refine⟨_,(Ak (zE 1 (A5 (Bc (AO (v:= .ref (fa.getD 0 0)) rfl G.g_caps_of rfl) (Bc (AO (v:= .ref (fa.getD 1 0)) rfl G.g_draws_of rfl) (Bc (AO (v:= .ref (fa.getD 2 0)) rfl G.g_full_firing rfl) (Bc (AO (v:= .ref (fa.getD 3 0)) rfl G.g_cheapest rfl) (Bc (AO (v:= .ref (fa.getD 4 0)) rfl G.g_least_coal rfl) (B3 (AO (v:= .ref (fa.getD 5 0)) rfl G.g_stretch_of rfl) (AO (v:= .ref (fa.getD 6 0)) rfl G.g_fullest rfl) (AO (v:= .ref (fa.getD 7 0)) rfl G.g_leanest rfl) (AO (v:= .ref (fa.getD 8 0)) rfl G.g__law_watch rfl))))))))) (Ak (zE 2 (Ar Cf (Ar Cf (Ar F0 (A5 (Aj (A5 (As AF AF)))) Ag) (Ar F0 (A5 (Aj (A5 (AM AF AF AF)))) Ag)) (A5 (Aj (A5 (AM AF AF AF)))))) (Ak (zE 1 (Ar Cf (cy 1) (A5 (Bc (AO (v:= .ref (fa.getD 9 0)) rfl G.g_course rfl) (Bc (AO (v:= .ref (fa.getD 10 0)) rfl G.g_falls_at rfl) (Bc (AO (v:= .ref (fa.getD 11 0)) rfl G.g_keeps_up rfl) (Bc (AO (v:= .ref (fa.getD 12 0)) rfl G.g_coal_of rfl) (Bc (AO (v:= .ref (fa.getD 13 0)) rfl G.g_steam_by rfl) (B3 (AO (v:= .ref (fa.getD 14 0)) rfl G.g_banked rfl) (AO (v:= .ref (fa.getD 15 0)) rfl G.g_firing_text rfl) (AO (v:= .ref (fa.getD 16 0)) rfl G.g_floor_of rfl) (AO (v:= .ref (fa.getD 17 0)) rfl G.g_is_firing rfl)))))))))) (Ak (zE 1 (Ar Cf (cy 1) (A5 (B3 (AO (v:= .ref (fa.getD 18 0)) rfl G.g_cheapest_holds rfl) (AO (v:= .ref (fa.getD 19 0)) rfl G.g_stretch_holds rfl) (AO (v:= .ref (fa.getD 20 0)) rfl G.g_books_right rfl) (AO (v:= .ref (fa.getD 21 0)) rfl G.g_is_story rfl))))) (Ak (zE 2 (Ar Cf (Ar Cf (cy 2) (Ar F0 (A5 (Aj (A5 (AM AF AF AF)))) Ag)) (A5 (As (A5 (B3 AF AF AF AF)) (A5 (As AF AF)))))) (Ak (Cm Zq rfl (Fp K (Ar Cf (A5 (Aj (zB yaQ hr (As (cy 0) Ag)))) (Dj (Hs K) (cy 0) (Co Ag) (Co Ag)))) (zD 3) (Ak (zE 4 (zB yaS hr (Aj (cy 3)))) (Ak (zE 5 (zB yaT hr (Aj (cy 4)))) (Ak (zE 6 (zB yaV hr (As (cy 4) (cy 5)))) (Ak (zE 7 (zB yaR hr (As (cy 4) (zB yaP hr (As (cy 5) (cy 6)))))) (Ak (zE 8 (Vt (Vq (Gs AF (cy 5) (Gs AF (cy 6) (Gs AF (cy 7) (Gs AF Ck (Gs AF (Ar FB (BF (Aj Ag)) (Ax (Bl K) rfl T.b_len PySem.boot_len (Aj (AH (Bw K) (cy 6) Ag (λ_ _=>rfl))))) Vo))))) rfl rfl (λz=>nomatch z) (by decide)))) (Ao (Cm Zq rfl (CO rfl T.b_range (Aj Ag)) (zD 9) (Ao (Cm Zq rfl (MV P w K rfl T.b_zip (As (cy 1) (cy 2))) (AL K (n:=2) (Ai (zD 10) (Ai (zD 11) AK))) (Ao (Bq (Cz (Cp (zB yaU hr (B3 (cy 4) (cy 10) (cy 11) (cy 8))))) (Ao (Av Cj)) Bn)))))))))))) (Ao (Av Cj)))))))),?_⟩;cases h;rename_i h
 .rename_i a;obtain⟨ns,hS,hn,hTB,q⟩:=h;intro A1 hA1;have sA1:=Ab.new (o:= .lst [V.ref (fa.getD 0 0),.ref (fa.getD 1 0),.ref (fa.getD 2 0),.ref (fa.getD 3 0),.ref (fa.getD 4 0),.ref (fa.getD 5 0),.ref (fa.getD 6 0),.ref (fa.getD 7 0),.ref (fa.getD 8 0)]) hA1;have kA1:upd H A1 (.lst [V.ref (fa.getD 0 0),.ref (fa.getD 1 0),.ref (fa.getD 2 0),.ref (fa.getD 3 0),.ref (fa.getD 4 0),.ref (fa.getD 5 0),.ref (fa.getD 6 0),.ref (fa.getD 7 0),.ref (fa.getD 8 0)]) A1=_:=Af;generalize upd H A1 (.lst [V.ref (fa.getD 0 0),.ref (fa.getD 1 0),.ref (fa.getD 2 0),.ref (fa.getD 3 0),.ref (fa.getD 4 0),.ref (fa.getD 5 0),.ref (fa.getD 6 0),.ref (fa.getD 7 0),.ref (fa.getD 8 0)])=H1 at sA1 kA1 ⊢;intro D hf1;have sf1:=Ab.new (o:= .lst [V.str "plant",.str "story"]) hf1;have kf1:upd H1 D (.lst [V.str "plant",.str "story"]) D=_:=Af;generalize upd H1 D (.lst [V.str "plant",.str "story"])=H2 at sf1 kf1 ⊢;intro O1 hO1;have v6:=Ab.new (o:= .lst [V.ref D]) hO1;have kO1:upd H2 O1 (.lst [V.ref D]) O1=_:=Af;generalize upd H2 O1 (.lst [V.ref D])=H3 at v6 kO1 ⊢;refine⟨O1,9,_,rfl,rfl,kO1,by decide,by decide,(show 1 * 9<=sizeLine from by decide),?_⟩;intro R1 hR1;have q8:=Ab.new (o:= .lst (List.replicate (9:Int).toNat [V.ref D]).flatten) hR1;have kR1:upd H3 R1 (.lst (List.replicate (9:Int).toNat [V.ref D]).flatten) R1=_:=Af;generalize upd H3 R1 (.lst (List.replicate (9:Int).toNat [V.ref D]).flatten)=H4 at q8 kR1 ⊢;intro c hf2;have k9:=Ab.new (o:= .lst [V.str "plant",.str "story",.str "firing"]) hf2;have kf2:upd H4 c (.lst [V.str "plant",.str "story",.str "firing"]) c=_:=Af;generalize upd H4 c (.lst [V.str "plant",.str "story",.str "firing"])=H5 at k9 kf2 ⊢;intro O2 hO2;have i5:=Ab.new (o:= .lst [V.ref c]) hO2;have kO2:upd H5 O2 (.lst [V.ref c]) O2=_:=Af;generalize upd H5 O2 (.lst [V.ref c])=H6 at i5 kO2 ⊢;refine⟨O2,7,_,rfl,rfl,kO2,by decide,by decide,(show 1 * 7<=sizeLine from by decide),?_⟩;intro R2 hR2;have i8:=Ab.new (o:= .lst (List.replicate (7:Int).toNat [V.ref c]).flatten) hR2;have kR2:upd H6 R2 (.lst (List.replicate (7:Int).toNat [V.ref c]).flatten) R2=_:=Af;generalize upd H6 R2 (.lst (List.replicate (7:Int).toNat [V.ref c]).flatten)=H7 at i8 kR2 ⊢;refine⟨R1,R2,_,_,rfl,rfl,(k9.trans (i5.trans i8)) _ _ kR1,kR2,(show 9+7<=sizeLine from by decide),?_⟩;intro K1 hK1;have l6:=Ab.new (o:= .lst ((List.replicate (9:Int).toNat [V.ref D]).flatten++(List.replicate (7:Int).toNat [V.ref c]).flatten)) hK1;have kK1:upd H7 K1 (.lst ((List.replicate (9:Int).toNat [V.ref D]).flatten++(List.replicate (7:Int).toNat [V.ref c]).flatten)) K1=_:=Af;generalize upd H7 K1 (.lst ((List.replicate (9:Int).toNat [V.ref D]).flatten++(List.replicate (7:Int).toNat [V.ref c]).flatten))=H8 at l6 kK1 ⊢;intro L hf3;have i9:=Ab.new (o:= .lst [V.str "plant",.str "story",.str "prices"]) hf3;have kf3:upd H8 L (.lst [V.str "plant",.str "story",.str "prices"]) L=_:=Af;generalize upd H8 L (.lst [V.str "plant",.str "story",.str "prices"])=H9 at i9 kf3 ⊢;intro O3 hO3;have O:=Ab.new (o:= .lst [V.ref L]) hO3;have kO3:upd H9 O3 (.lst [V.ref L]) O3=_:=Af;generalize upd H9 O3 (.lst [V.ref L])=H10 at O kO3 ⊢;refine⟨K1,O3,_,_,rfl,rfl,(i9.trans O) _ _ kK1,kO3,(show 16+1<=sizeLine from by decide),?_⟩;intro K2 hK2;have j0:=Ab.new (o:= .lst ((List.replicate (9:Int).toNat [V.ref D]).flatten++(List.replicate (7:Int).toNat [V.ref c]).flatten++[V.ref L])) hK2;have kK2:upd H10 K2 (.lst ((List.replicate (9:Int).toNat [V.ref D]).flatten++(List.replicate (7:Int).toNat [V.ref c]).flatten++[V.ref L])) K2=_:=Af;generalize upd H10 K2 (.lst ((List.replicate (9:Int).toNat [V.ref D]).flatten++(List.replicate (7:Int).toNat [V.ref c]).flatten++[V.ref L]))=H11 at j0 kK2 ⊢;have z1:=sf1.trans (v6.trans (q8.trans (k9.trans (i5.trans (i8.trans (l6.trans (i9.trans (O.trans j0))))))));intro B1 hB1;have u9:=Ab.new (o:= .lst [V.ref (fa.getD 9 0),.ref (fa.getD 10 0),.ref (fa.getD 11 0),.ref (fa.getD 12 0),.ref (fa.getD 13 0),.ref (fa.getD 14 0),.ref (fa.getD 15 0),.ref (fa.getD 16 0),.ref (fa.getD 17 0)]) hB1;have kB1:upd H11 B1 (.lst [V.ref (fa.getD 9 0),.ref (fa.getD 10 0),.ref (fa.getD 11 0),.ref (fa.getD 12 0),.ref (fa.getD 13 0),.ref (fa.getD 14 0),.ref (fa.getD 15 0),.ref (fa.getD 16 0),.ref (fa.getD 17 0)]) B1=_:=Af;generalize upd H11 B1 (.lst [V.ref (fa.getD 9 0),.ref (fa.getD 10 0),.ref (fa.getD 11 0),.ref (fa.getD 12 0),.ref (fa.getD 13 0),.ref (fa.getD 14 0),.ref (fa.getD 15 0),.ref (fa.getD 16 0),.ref (fa.getD 17 0)])=H12 at u9 kB1 ⊢;refine⟨A1,B1,_,_,rfl,rfl,(z1.trans u9) _ _ kA1,kB1,(show 9+9<=sizeLine from by decide),?_⟩;intro A2 hA2;have sA2:=Ab.new (o:= .lst ([V.ref (fa.getD 0 0),.ref (fa.getD 1 0),.ref (fa.getD 2 0),.ref (fa.getD 3 0),.ref (fa.getD 4 0),.ref (fa.getD 5 0),.ref (fa.getD 6 0),.ref (fa.getD 7 0),.ref (fa.getD 8 0)]++[V.ref (fa.getD 9 0),.ref (fa.getD 10 0),.ref (fa.getD 11 0),.ref (fa.getD 12 0),.ref (fa.getD 13 0),.ref (fa.getD 14 0),.ref (fa.getD 15 0),.ref (fa.getD 16 0),.ref (fa.getD 17 0)])) hA2;have kA2:upd H12 A2 (.lst ([V.ref (fa.getD 0 0),.ref (fa.getD 1 0),.ref (fa.getD 2 0),.ref (fa.getD 3 0),.ref (fa.getD 4 0),.ref (fa.getD 5 0),.ref (fa.getD 6 0),.ref (fa.getD 7 0),.ref (fa.getD 8 0)]++[V.ref (fa.getD 9 0),.ref (fa.getD 10 0),.ref (fa.getD 11 0),.ref (fa.getD 12 0),.ref (fa.getD 13 0),.ref (fa.getD 14 0),.ref (fa.getD 15 0),.ref (fa.getD 16 0),.ref (fa.getD 17 0)])) A2=_:=Af;generalize upd H12 A2 (.lst ([V.ref (fa.getD 0 0),.ref (fa.getD 1 0),.ref (fa.getD 2 0),.ref (fa.getD 3 0),.ref (fa.getD 4 0),.ref (fa.getD 5 0),.ref (fa.getD 6 0),.ref (fa.getD 7 0),.ref (fa.getD 8 0)]++[V.ref (fa.getD 9 0),.ref (fa.getD 10 0),.ref (fa.getD 11 0),.ref (fa.getD 12 0),.ref (fa.getD 13 0),.ref (fa.getD 14 0),.ref (fa.getD 15 0),.ref (fa.getD 16 0),.ref (fa.getD 17 0)]))=H13 at sA2 kA2 ⊢;intro B2 hB2;have w9:=Ab.new (o:= .lst [V.ref (fa.getD 18 0),.ref (fa.getD 19 0),.ref (fa.getD 20 0),.ref (fa.getD 21 0)]) hB2;have kB2:upd H13 B2 (.lst [V.ref (fa.getD 18 0),.ref (fa.getD 19 0),.ref (fa.getD 20 0),.ref (fa.getD 21 0)]) B2=_:=Af;generalize upd H13 B2 (.lst [V.ref (fa.getD 18 0),.ref (fa.getD 19 0),.ref (fa.getD 20 0),.ref (fa.getD 21 0)])=H14 at w9 kB2 ⊢;refine⟨A2,B2,_,_,rfl,rfl,w9 _ _ kA2,kB2,(show 18+4<=sizeLine from by decide),?_⟩;intro A3 hA3;have sA3:=Ab.new (o:= .lst ([V.ref (fa.getD 0 0),.ref (fa.getD 1 0),.ref (fa.getD 2 0),.ref (fa.getD 3 0),.ref (fa.getD 4 0),.ref (fa.getD 5 0),.ref (fa.getD 6 0),.ref (fa.getD 7 0),.ref (fa.getD 8 0)]++[V.ref (fa.getD 9 0),.ref (fa.getD 10 0),.ref (fa.getD 11 0),.ref (fa.getD 12 0),.ref (fa.getD 13 0),.ref (fa.getD 14 0),.ref (fa.getD 15 0),.ref (fa.getD 16 0),.ref (fa.getD 17 0)]++[V.ref (fa.getD 18 0),.ref (fa.getD 19 0),.ref (fa.getD 20 0),.ref (fa.getD 21 0)])) hA3;have kA3:upd H14 A3 (.lst ([V.ref (fa.getD 0 0),.ref (fa.getD 1 0),.ref (fa.getD 2 0),.ref (fa.getD 3 0),.ref (fa.getD 4 0),.ref (fa.getD 5 0),.ref (fa.getD 6 0),.ref (fa.getD 7 0),.ref (fa.getD 8 0)]++[V.ref (fa.getD 9 0),.ref (fa.getD 10 0),.ref (fa.getD 11 0),.ref (fa.getD 12 0),.ref (fa.getD 13 0),.ref (fa.getD 14 0),.ref (fa.getD 15 0),.ref (fa.getD 16 0),.ref (fa.getD 17 0)]++[V.ref (fa.getD 18 0),.ref (fa.getD 19 0),.ref (fa.getD 20 0),.ref (fa.getD 21 0)])) A3=_:=Af;generalize upd H14 A3 (.lst ([V.ref (fa.getD 0 0),.ref (fa.getD 1 0),.ref (fa.getD 2 0),.ref (fa.getD 3 0),.ref (fa.getD 4 0),.ref (fa.getD 5 0),.ref (fa.getD 6 0),.ref (fa.getD 7 0),.ref (fa.getD 8 0)]++[V.ref (fa.getD 9 0),.ref (fa.getD 10 0),.ref (fa.getD 11 0),.ref (fa.getD 12 0),.ref (fa.getD 13 0),.ref (fa.getD 14 0),.ref (fa.getD 15 0),.ref (fa.getD 16 0),.ref (fa.getD 17 0)]++[V.ref (fa.getD 18 0),.ref (fa.getD 19 0),.ref (fa.getD 20 0),.ref (fa.getD 21 0)]))=H15 at sA3 kA3 ⊢;intro f4 hf4;have r8:=Ab.new (o:= .lst [V.str "plant",.str "story",.str "any"]) hf4;have kf4:upd H15 f4 (.lst [V.str "plant",.str "story",.str "any"]) f4=_:=Af;generalize upd H15 f4 (.lst [V.str "plant",.str "story",.str "any"])=H16 at r8 kf4 ⊢;intro O4 hO4;have j5:=Ab.new (o:= .lst [V.ref f4]) hO4;have kO4:upd H16 O4 (.lst [V.ref f4]) O4=_:=Af;generalize upd H16 O4 (.lst [V.ref f4])=H17 at j5 kO4 ⊢;refine⟨O4,3,_,rfl,rfl,kO4,by decide,by decide,(show 1 * 3<=sizeLine from by decide),?_⟩;intro R4 hR4;have j6:=Ab.new (o:= .lst (List.replicate (3:Int).toNat [V.ref f4]).flatten) hR4;have kR4:upd H17 R4 (.lst (List.replicate (3:Int).toNat [V.ref f4]).flatten) R4=_:=Af;generalize upd H17 R4 (.lst (List.replicate (3:Int).toNat [V.ref f4]).flatten)=H18 at j6 kR4 ⊢;have z2:=u9.trans (sA2.trans (w9.trans (sA3.trans (r8.trans (j5.trans j6)))));refine⟨K2,R4,_,_,rfl,rfl,z2 _ _ kK2,kR4,(show 17+3<=sizeLine from by decide),?_⟩;intro K3 hK3;have sK3:=Ab.new (o:= .lst ((List.replicate (9:Int).toNat [V.ref D]).flatten++(List.replicate (7:Int).toNat [V.ref c]).flatten++[V.ref L]++(List.replicate (3:Int).toNat [V.ref f4]).flatten)) hK3;have kK3:upd H18 K3 (.lst ((List.replicate (9:Int).toNat [V.ref D]).flatten++(List.replicate (7:Int).toNat [V.ref c]).flatten++[V.ref L]++(List.replicate (3:Int).toNat [V.ref f4]).flatten)) K3=_:=Af;generalize upd H18 K3 (.lst ((List.replicate (9:Int).toNat [V.ref D]).flatten++(List.replicate (7:Int).toNat [V.ref c]).flatten++[V.ref L]++(List.replicate (3:Int).toNat [V.ref f4]).flatten))=H19 at sK3 kK3 ⊢;intro f5 hf5;have o9:=Ab.new (o:= .lst [V.str "plant",.str "story",.str "firing",.str "any"]) hf5;have kf5:upd H19 f5 (.lst [V.str "plant",.str "story",.str "firing",.str "any"]) f5=_:=Af;generalize upd H19 f5 (.lst [V.str "plant",.str "story",.str "firing",.str "any"])=H20 at o9 kf5 ⊢;intro f6 hf6;have j7:=Ab.new (o:= .lst [V.str "plant",.str "any"]) hf6;have kf6:upd H20 f6 (.lst [V.str "plant",.str "any"]) f6=_:=Af;generalize upd H20 f6 (.lst [V.str "plant",.str "any"])=H21 at j7 kf6 ⊢;intro O5 hO5;have i6:=Ab.new (o:= .lst [V.ref f5,.ref f6]) hO5;have kO5:upd H21 O5 (.lst [V.ref f5,.ref f6]) O5=_:=Af;generalize upd H21 O5 (.lst [V.ref f5,.ref f6])=H22 at i6 kO5 ⊢;refine⟨K3,O5,_,_,rfl,rfl,(o9.trans (j7.trans i6)) _ _ kK3,kO5,(show 20+2<=sizeLine from by decide),?_⟩;intro K5 hK5;have j4:=Ab.new (o:= .lst ((List.replicate (9:Int).toNat [V.ref D]).flatten++(List.replicate (7:Int).toNat [V.ref c]).flatten++[V.ref L]++(List.replicate (3:Int).toNat [V.ref f4]).flatten++[V.ref f5,.ref f6])) hK5;have kK5:upd H22 K5 (.lst ((List.replicate (9:Int).toNat [V.ref D]).flatten++(List.replicate (7:Int).toNat [V.ref c]).flatten++[V.ref L]++(List.replicate (3:Int).toNat [V.ref f4]).flatten++[V.ref f5,.ref f6])) K5=_:=Af;generalize upd H22 K5 (.lst ((List.replicate (9:Int).toNat [V.ref D]).flatten++(List.replicate (7:Int).toNat [V.ref c]).flatten++[V.ref L]++(List.replicate (3:Int).toNat [V.ref f4]).flatten++[V.ref f5,.ref f6]))=H23 at j4 kK5 ⊢;have z3:=sK3.trans (o9.trans (j7.trans (i6.trans j4)));have z4:=r8.trans (j5.trans (j6.trans z3));have zA:=sA1.trans (z1.trans (z2.trans z3));have cA:=z4 _ _ kA3;have cK:=kK5;have c1:=(v6.trans (q8.trans (k9.trans (i5.trans (i8.trans (l6.trans (i9.trans (O.trans (j0.trans (z2.trans z3)))))))))) _ _ kf1;have c2:=(i5.trans (i8.trans (l6.trans (i9.trans (O.trans (j0.trans (z2.trans z3))))))) _ _ kf2;have c3:=(O.trans (j0.trans (z2.trans z3))) _ _ kf3;have c4:=(j5.trans (j6.trans z3)) _ _ kf4;have c5:=(j7.trans (i6.trans j4)) _ _ kf5;have c6:=(i6.trans j4) _ _ kf6;refine⟨ns,zA.seq hS,by decide,λc0=>?_⟩;intro l1 hl1;have u4:=Ab.new (o:= .lst [V.int c0]) hl1;have kl1:upd H23 l1 (.lst [V.int c0]) l1=_:=Af;generalize upd H23 l1 (.lst [V.int c0])=H24 at u4 kl1 ⊢;refine⟨1,rfl,2,rfl,a,_,rfl,(zA.trans u4).seq hS,λl2 hl2=>?_⟩;have u6:=Ab.new (o:= .lst (A4 (ns.map V.int) (some 1) (some 2))) hl2;have kl2:upd H24 l2 (.lst (A4 (ns.map V.int) (some 1) (some 2))) l2=_:=Af;generalize upd H24 l2 (.lst (A4 (ns.map V.int) (some 1) (some 2)))=H25 at u6 kl2 ⊢;have lc:(A4 (ns.map V.int) (some 1) (some 2)).length<=63:=YV (Jx _ _ _) (by rw[Y0];exact hn);refine⟨l1,l2,_,_,rfl,rfl,u6 _ _ kl1,kl2,YV (by rw[ZF];lia:_<=100) (by decide),λL0 hL0=>?_⟩;have sL0:=Ab.new (o:= .lst ([V.int c0]++A4 (ns.map V.int) (some 1) (some 2))) hL0;have i7:upd H25 L0 (.lst ([V.int c0]++A4 (ns.map V.int) (some 1) (some 2))) L0=_:=Af;generalize upd H25 L0 (.lst ([V.int c0]++A4 (ns.map V.int) (some 1) (some 2)))=H26 at sL0 i7 ⊢;have l7:∀v∈ [V.int c0]++A4 (ns.map V.int) (some 1) (some 2),∃i,v= .int i:=λv hv=>by
   rcases ay.mp hv with hv | hv
   .exact⟨c0,Zc.mp hv⟩
   .unfold A4 at hv;obtain⟨i,_,e⟩:=Z8.mp (List.mem_of_mem_drop (List.mem_of_mem_take hv));exact⟨i,e.symm⟩
  have z5:=u4.trans (u6.trans sL0);generalize [V.int c0]++A4 (ns.map V.int) (some 1) (some 2)=xs at l7 i7;have fx:Fix TB L0 A3 K5 xs fa (List.replicate 9 D++List.replicate 7 c++[L]++List.replicate 3 f4++[f5,f6]) H26:=⟨i7,z5 _ _ cA,z5 _ _ cK,λq hq=>by
   simp only[forms,List.replicate,dZ,cE,ZV,eV,List.zip_nil_right,YY,Ze,ZC,or_self_left,or_self]at hq;rcases hq with rfl | rfl | rfl | rfl | rfl | rfl
   .exact z5 _ _ c1
   .exact z5 _ _ c2
   .exact z5 _ _ c3
   .exact z5 _ _ c4
   .exact z5 _ _ c5
   .exact z5 _ _ c6,YD ((zA.trans z5) _ _ hTB)⟩
  have lk:(List.replicate 9 D++List.replicate 7 c++[L]++List.replicate 3 f4++[f5,f6]).length=22:=rfl;generalize List.replicate 9 D++List.replicate 7 c++[L]++List.replicate 3 f4++[f5,f6]=ks at fx lk;clear cA cK c1 c2 c3 c4 c5 c6 hS hTB;refine⟨L0,rfl,⟨xs,Al.of i7⟩,Qe (xs:=xs) (λi σ J=>YE a A3 K5 σ/\Fix TB L0 A3 K5 xs fa ks J) ⟨⟨_,_,_,_,_,_,_,_,_,rfl⟩,fx⟩ (λi σ J _ h=>Al.of h.2.l) (λi x σ H0 hx h=>?_) fun σ J h=>q J⟩;clear i7 fx;obtain⟨⟨x3,x4,x5,x6,x7,x8,x9,u8,u5,rfl⟩,fx⟩:=h;obtain⟨cell,rfl⟩:=l7 x (YU hx)
  first | with_reducible refine Cw λU I=>?_ | (with_reducible refine GT ?_;with_reducible refine Cw λU I=>?_) | (with_reducible refine GU ?_;with_reducible refine Cw λU I=>?_)
  refine λp l f hp=>?_
  have np:=Ab.new (o:= .lst [.int l,.int f]) hp;have pn1:Bd p (upd H0 p (.lst [.int l,.int f])):=⟨l,f,Af⟩;generalize upd H0 p (.lst [.int l,.int f])=H1 at np pn1 ⊢;subst I
  first | with_reducible refine Cw λU I=>?_ | (with_reducible refine GT ?_;with_reducible refine Cw λU I=>?_) | (with_reducible refine GU ?_;with_reducible refine Cw λU I=>?_)
  refine⟨pn1,λv H2 bs es lo hi st gp rv e2 pn2=>?_⟩;obtain⟨Pl,ok,ed⟩:=gp.pl;rw[ed]at rv;subst I
  first | with_reducible refine Cw λU I=>?_ | (with_reducible refine GT ?_;with_reducible refine Cw λU I=>?_) | (with_reducible refine GU ?_;with_reducible refine Cw λU I=>?_)
  refine⟨pn2,Pl,ok,rv,λu H3 S so ru e3 pn3=>?_⟩;have o8:=Aa.ev e3 _ _ rv;subst I
  first | with_reducible refine Cw λU I=>?_ | (with_reducible refine GT ?_;with_reducible refine Cw λU I=>?_) | (with_reducible refine GU ?_;with_reducible refine Cw λU I=>?_)
  refine⟨p,Pl,S,ok,so,o8,ru,λvc H4 s4 rc=>⟨pn3.same s4,Pl,S,ok,so,rc,λwf H5 F fo rf e5 pn5=>?_⟩⟩;have j9:=(Ev.same s4).trans e5;have rv5:=Aa.ev j9 _ _ o8;have w6:=Aa.ev j9 _ _ ru;have q9:=(e2.trans e3).trans j9;have e05:EvX [p,TB] H0 H5:=(EvX.same np).trans (EvX.ev q9 (by simp));have tb5:=(fx.t.same np).ev q9;clear j9 q9 e5 e3 e2 o8 ru rv rc pn1 pn2 pn3 s4 np;subst I
  first | with_reducible refine Cw λU I=>?_ | (with_reducible refine GT ?_;with_reducible refine Cw λU I=>?_) | (with_reducible refine GU ?_;with_reducible refine Cw λU I=>?_)
  intro g hg;have sg:=Ab.new (o:= .dK []) hg;have kg:upd H5 g (.dK []) g=_:=Af;generalize upd H5 g (.dK [])=H6 at sg kg ⊢;intro t1 ht1;have i4:=Ab.new (o:= .tup [.int 1]) ht1;have v7:upd H6 t1 (.tup [.int 1]) t1=_:=Af;generalize upd H6 t1 (.tup [.int 1])=H7 at i4 v7 ⊢;obtain⟨SA,SB,SE,xf,rfl,hSA,hSB,hSE,rfs⟩:=Aa.story (Aa.ev (Ev.same (sg.trans i4)) _ _ w6);have x1:=so.x1;have x8:=so.x8;refine⟨SA,_,0,.ref SB,rfl,rfl,Ae.of hSA,rfl,SB,_,rfl,.inr (Ae.of hSB),?_⟩;refine⟨t1,_,[.int 1],rfl,rfl,v7,by simp,by rw[Y0];lia,by rw[Y0];lia,by simp,λto H8 s8 j8=>?_⟩;refine⟨(i4.trans s8) _ _ kg,[(.inr "plant",v),(.inr "story",.ref SA),(.inr "firing",wf),(.inr "any",.non),(.inr "prices",.ref to)],rfl,by show 5<=15;decide,g,_,rfl,Af,λo=>?_⟩;have gn:H8 g=some (.dK []):=(i4.trans s8) _ _ kg;have s5:∀ob1 ob2,Ab H5 (upd (upd H8 g ob1) g ob2):=λob1 ob2 b o' h=>by
   have n:b≠g:=by rintro rfl;rw[hg]at h;cases h
   rw[Ap n,Ap n];exact(i4.trans s8) _ _ (sg _ _ h)
  have l9:H8 to=some (.tup ((List.replicate S.ex.length (1:Int)).map V.int)):=by
   rw[j8,FP,Y0,List.map_replicate];rfl
  have w8:to≠g:=by rintro rfl;rw[gn]at j8;cases j8
  have v8:∀J,J=upd (upd H8 g (.dK (D9 [] [(.inr "plant",v),(.inr "story",.ref SA),(.inr "firing",wf),(.inr "any",.non),(.inr "prices",.ref to)]))) g (.frz o (.dK (D9 [] [(.inr "plant",v),(.inr "story",.ref SA),(.inr "firing",wf),(.inr "any",.non),(.inr "prices",.ref to)])))->Gd p J g Pl S F/\Ab H5 J:=λJ e=>by
   subst e;exact⟨⟨⟨o,v,.ref SA,wf,.ref to,Af,Aa.ev (Ev.same (s5 _ _)) _ _ rv5,Aa.ev (Ev.same (s5 _ _)) _ _ w6,Aa.ev (Ev.same (s5 _ _)) _ _ rf,Aa.row (by rw[Ap w8,Ap w8];exact l9)⟩,ok,so,fo⟩,s5 _ _⟩
  clear s5 l9 w8 gn j8 hSA hSB hSE rfs s8 v7 i4 ht1 sg kg;generalize upd (upd H8 g (.dK (D9 [] [(.inr "plant",v),(.inr "story",.ref SA),(.inr "firing",wf),(.inr "any",.non),(.inr "prices",.ref to)]))) g (.frz o (.dK (D9 [] [(.inr "plant",v),(.inr "story",.ref SA),(.inr "firing",wf),(.inr "any",.non),(.inr "prices",.ref to)])))=J0 at v8 ⊢;obtain⟨gd,j3⟩:=v8 _ rfl;clear v8;have pn:=pn5.same j3;have Z:=tb5.same j3;have e0:=e05.trans (EvX.same j3);clear j3 pn5 tb5 e05 rv5 w6 rf hg;subst I;refine⟨2,rfl,by decide,by decide,EE (n:=2) (λi σ J=>Pn a A3 K5 p g σ/\Bd p J/\Gd p J g Pl S F/\TabIn J TB Ds/\EvX [p,TB] H0 J) ⟨⟨_,_,_,_,_,_,_,rfl⟩,pn,gd,Z,e0⟩ (λi σ J _ h=>?_) fun σ J h=>?_⟩
  .clear pn gd Z e0;obtain⟨⟨x3,x5,x6,x7,x9,u8,u5,rfl⟩,pn,gd,Z,e0⟩:=h;have fJ:=fx.to hp e0 Z;refine⟨A3,K5,rfl,⟨_,Al.of fJ.a⟩,⟨_,Al.of fJ.b⟩,Sz (xs:=(List.range 22).map λi=>V.ref (fa.getD i 0)) (ys:=ks.map V.ref) (λj σ J=>Pn a A3 K5 p g σ/\Bd p J/\Gd p J g Pl S F/\TabIn J TB Ds/\EvX [p,TB] H0 J) (by rw [Y0,Y0,af,lk]) ⟨⟨_,_,_,_,_,_,_,rfl⟩,pn,gd,Z,e0⟩ (λj σ J h=>⟨Al.of (fx.to hp h.2.2.2.2 h.2.2.2.1).a,Al.of (fx.to hp h.2.2.2.2 h.2.2.2.1).b⟩) (λj x y σ J T hx hy h hT=>?_) fun σ J h=>h⟩;clear pn gd Z e0 fJ;obtain⟨⟨x3,x5,x6,x7,x9,u8,u5,rfl⟩,pn,gd,Z,e0⟩:=h;rw [YO] at hx hy;obtain⟨i',u7,rfl⟩:=Zm.mp hx;obtain⟨k,hk,rfl⟩:=Zm.mp hy;have hj:j<22:=by have:=(Y3.mp u7).1;rwa [af] at this
   rw[ae hj]at u7;obtain rfl:=Y9 u7;obtain⟨fm,v3⟩:∃fm,forms[j]? =some fm:=⟨_,Y5 (show j<forms.length from hj)⟩;obtain⟨sp,hf,dr⟩:=HD j fm v3;have hz:(k,fm)∈ks.zip forms:=YU (i:=j) (by rw[bG];exact⟨hk,v3⟩);have l24:2<=fm.length/\fm.length<=4:=(by decide:∀fm∈forms,2<=fm.length/\fm.length<=4) fm (YU v3);have fJ:=(fx.to hp e0 Z).k _ hz;have nkp:k≠p:=λz=>by
    have:=fx.k _ hz;rw[show(k,fm).1=p from z,hp]at this;cases this
   have sT:=Ab.new (o:= .tup [V.ref (fa.getD j 0),.ref k]) hT;have kT:upd J T (.tup [V.ref (fa.getD j 0),.ref k]) T=_:=Af;generalize upd J T (.tup [V.ref (fa.getD j 0),.ref k])=J1 at sT kT ⊢;have gd1:=gd.evX (EvX.same sT) Z;refine⟨T,_,rfl,Ae.of kT,rfl,_,_,rfl,_,_,rfl,rfl,sp,fm,Pl,S,F,hf,dr,pn.same sT,gd1,sT _ _ fJ,l24.1,l24.2,Z.same sT,nkp,λJ' pn' tb' e'=>?_⟩;exact⟨λz=>(by cases z),λ_=>⟨⟨_,_,_,_,_,_,_,rfl⟩,pn',gd1.evX e' (Z.same sT),tb',e0.trans ((EvX.same sT).trans e')⟩⟩
  .obtain⟨⟨x3,x5,x6,x7,x9,u8,u5,rfl⟩,pn,gd,Z,e0⟩:=h;exact⟨⟨_,_,_,_,_,_,_,_,_,rfl⟩,fx.to hp e0 Z⟩
end MF
section
namespace MF
open L2
variable{oc dc pm cd:yU}{od an:Option yR}{sl:Array (yW)}{CA:yR}{h:Heap}{ps:List Str}{p0 p1 p2:Str}
abbrev D4(K:Fgx)(x:Str)(st:Stmt):Prop:=∃(f:yR) (D:yU) (L g:Option yR) (I:Array (yW)) (kV J G c ct:yU),PySem.W.nsIn K mainGlobals x=some (some (.ref f))/\K.lookup f=some ⟨D,L,.func (PySem.W.fnOf x x (BR st) (Br st) (Am st) .none kV J G g c ct),I⟩/\PySem.W.codeIn K c x=true/\PySem.W.keepIn K (.ref f)=true
theorem d4_mk{K:Fgx}{x:Str}{st:Stmt}{f:yR}{kV ct:yU}(a:PySem.W.nsIn K mainGlobals x=some (some (.ref f)))(l:K.lookup f=some ⟨oc,od,.func (PySem.W.fnOf x x (BR st) (Br st) (Am st) .none kV dc pm an cd ct),sl⟩)(c:PySem.W.codeIn K cd x=true)(k:PySem.W.keepIn K (.ref f)=true):D4 K x st:=⟨_,_,_,_,_,_,_,_,_,_,a,l,c,k⟩
abbrev D6(K:Fgx)(L:yR)(x q:Str)(st:Stmt):Prop:=∃(f:yR) (D:yU) (O g:Option yR) (I:Array (yW)) (kV J G c ct:yU),PySem.W.findIn K (.ref L) x=some (some (.ref f))/\PySem.W.isFn K (.ref f)=true/\K.lookup f=some ⟨D,O,.func (PySem.W.fnOf x q (BR st) (Br st) (Am st) .none kV J G g c ct),I⟩/\PySem.W.codeIn K c q=true/\PySem.W.keepIn K (.ref f)=true
theorem d6_mk{K:Fgx}{x q:Str}{st:Stmt}{f:yR}{kV ct:yU}(a:PySem.W.findIn K (.ref CA) x=some (some (.ref f)))(b:PySem.W.isFn K (.ref f)=true)(l:K.lookup f=some ⟨oc,od,.func (PySem.W.fnOf x q (BR st) (Br st) (Am st) .none kV dc pm an cd ct),sl⟩)(c:PySem.W.codeIn K cd q=true)(k:PySem.W.keepIn K (.ref f)=true):D6 K CA x q st:=⟨_,_,_,_,_,_,_,_,_,_,a,b,l,c,k⟩
theorem Jc{K:Fgx}{mg:Str->yW}{x:Str}{st:Stmt}(X:K.In h)(G:h.Ns mainGlobals mg)(d:D4 K x st)
  (J:∀(kV g D:yU) (I:Option yR) (dl ct:yU) (us:yX),us.length=ps.length->bindArgs (PySem.W.fnOf x x (BR st) (Br st) (Am st) .none kV g D I dl ct) ⟨us,[]⟩=pure (ps.zip us)):Df K mg x st ps:=by
 obtain⟨f,_,_,_,_,_,_,_,_,_,a,l,c,k⟩:=d;exact⟨f,_,Ej l c k,PySem.W.mg_of X G a,(Ej l c k).binds J⟩
theorem Cb{K:Fgx}{mg:Str->yW}{x:Str}{st:Stmt}(X:K.In h)(G:h.Ns mainGlobals mg)(d:D4 K x st)(I:∀(kV c D:yU) (J:Option yR) (dl ct g:yU),bindArgs (PySem.W.fnOf x x (BR st) (Br st) (Am st) .none kV c D J dl ct) ⟨[g],[]⟩=pure ([p0].zip [g]):=by intros;rfl):Df K mg x st [p0]:=
 Jc X G d λ_ _ _ _ _ _ O L=>match O,L with | [_],_=>I _ _ _ _ _ _ _
theorem BA{K:Fgx}{mg:Str->yW}{x:Str}{st:Stmt}(X:K.In h)(G:h.Ns mainGlobals mg)(d:D4 K x st)(O:∀(kV c I:yU) (L:Option yR) (dl ct g D:yU),bindArgs (PySem.W.fnOf x x (BR st) (Br st) (Am st) .none kV c I L dl ct) ⟨[g,D],[]⟩=pure ([p0,p1].zip [g,D]):=by intros;rfl):Df K mg x st [p0,p1]:=
 Jc X G d λ_ _ _ _ _ _ Z J=>match Z,J with | [_,_],_=>O _ _ _ _ _ _ _ _
theorem BQ{K:Fgx}{mg:Str->yW}{x:Str}{st:Stmt}(X:K.In h)(G:h.Ns mainGlobals mg)(d:D4 K x st)(Z:∀(kV c J:yU) (O:Option yR) (dl ct g D I:yU),bindArgs (PySem.W.fnOf x x (BR st) (Br st) (Am st) .none kV c J O dl ct) ⟨[g,D,I],[]⟩=pure ([p0,p1,p2].zip [g,D,I]):=by intros;rfl):Df K mg x st [p0,p1,p2]:=
 Jc X G d λ_ _ _ _ _ _ us L=>match us,L with | [_,_,_],_=>Z _ _ _ _ _ _ _ _ _
theorem GV{K:Fgx}{mg:Str->yW}{x:Str}{st:Stmt}{J:Str}(X:K.In h)(G:h.Ns mainGlobals mg)(d:D4 K x st)(hb:∀(kV c O:yU) (an:Option yR) (dl ct g D I L:yU),bindArgs (PySem.W.fnOf x x (BR st) (Br st) (Am st) .none kV c O an dl ct) ⟨[g,D,I,L],[]⟩=pure ([p0,p1,p2,J].zip [g,D,I,L]):=by intros;rfl):Df K mg x st [p0,p1,p2,J]:=
 Jc X G d λ_ _ _ _ _ _ us Z=>match us,Z with | [_,_,_,_],_=>hb _ _ _ _ _ _ _ _ _ _
theorem YH{K:Fgx}{mg:Str->yW}{x:Str}{st:Stmt}{f c:yR}{kV g ct:yU}(X:K.In h)(G:h.Ns mainGlobals mg)
  (a:PySem.W.nsIn K mainGlobals x=some (some (.ref f))) (l:K.lookup f=some ⟨oc,od,.func (PySem.W.fnOf x x (BR st) (Br st) (Am st) .none kV g D I (.ref c) ct),sl⟩) (J:PySem.W.codeIn K (.ref c) x=true) (k:PySem.W.keepIn K (.ref f)=true)
  (L:∀(kV g D:yU) (I:Option yR) (dl ct:yU) (us:yX),us.length=ps.length->bindArgs (PySem.W.fnOf x x (BR st) (Br st) (Am st) .none kV g D I dl ct) ⟨us,[]⟩=pure (ps.zip us)):Gq K mg x st ps c:=
 ⟨⟨f,_,⟨_,_,_,_,_,_,_,_,rfl,l,J⟩,PySem.W.mg_of X G a,k,(Ej l J k).binds L⟩⟩
theorem YI{K:Fgx}{x:Str}{f c T:yR}{g:FuncData}(a:PySem.W.nsIn K mainGlobals x=some (some (.ref f)))(l:K.lookup f=some ⟨oc,od,.func g,sl⟩)(t:PySem.W.tabIn K x=some (c,T)):g.code= .ref c:=by
 unfold PySem.W.tabIn at t;rw[a]at t;simp only[l]at t;split at t
 .rename_i G D;split at t
  .split at t
   .have I:=Y9 t;have e:G=c:=Zv Prod.fst I;rw[D,e]
   .cases t
  .cases t
 .cases t
theorem YJ{K:Fgx}{x q:Str}{st:Stmt}(d:D6 K CA x q st)(I:∀(kV g D:yU) (G:Option yR) (dl ct:yU) (us:yX),us.length=ps.length->bindArgs (PySem.W.fnOf x q (BR st) (Br st) (Am st) .none kV g D G dl ct) ⟨us,[]⟩=pure (ps.zip us)):Dm K CA x q st ps:=by
 obtain⟨f,_,_,_,_,_,_,_,_,_,a,b,l,c,k⟩:=d;exact⟨f,_,Ej l c k,⟨a,b,k⟩,(Ej l c k).binds I⟩
theorem YK{K:Fgx}{mg:Str->yW}{n:Str}{q:Str}{st:Stmt}(at_:mg n=some (.ref CA))(m:PySem.W.makesIn K CA=true)(I:PySem.W.keepIn K (.ref CA)=true)(d:D6 K CA "__init__" q st)(J:∀(kV g D:yU) (G:Option yR) (dl ct:yU) (us:yX),us.length=ps.length->bindArgs (PySem.W.fnOf "__init__" q (BR st) (Br st) (Am st) .none kV g D G dl ct) ⟨us,[]⟩=pure (ps.zip us)):Di K mg n CA q st ps:=by
 obtain⟨f,_,_,_,_,_,_,_,_,_,a,b,l,c,k⟩:=d;exact⟨⟨f,_,Ej l c k,⟨m,a,b,I⟩,(Ej l c k).binds J⟩,at_⟩
abbrev FnAt(x:Str)(st:Stmt)(kV D g:yU)(c:Option yR)(cd ct:yU):FuncData:=PySem.W.fnOf x x (BR st) (Br st) (Am st) .none kV D g c cd ct
open PySem.W in
theorem all_mk{l:OpenLaw}{w:yN}{K:Frag}{mg:Str->yW}{fa c TB:yR}(X:K.In h)(G:h.Ns mainGlobals mg)(hfa:mg "law"=some (.ref fa))(ht:tabIn K "_law_call"=some (c,TB))(yC:nsIn K mainGlobals "Watch"=some (some (.ref CA)))
  {u8 u4:yR}{R70 N70 R73 w6:Option yR}{S70 S73:Array (yW)}{O70 V70 U70 W70 l6 Z70 O73 V73 w9 W73 k9 Z73:yU}
  (a0:D4 K "cap_under" wak)
  (a1:D4 K "words_for" waj)
  (a2:D4 K "caps_in" wai)
  (a3:D4 K "is_tuple_of" wa5)
  (a4:D4 K "is_whole" wa3)
  (a5:D4 K "is_whole_from" wa4)
  (a6:D4 K "is_fault" waf)
  (a7:D4 K "is_make_and_coal" wa9)
  (a8:D4 K "are_boilers" wa8)
  (a9:D4 K "is_engine" wab)
  (a10:D4 K "are_engines" waa)
  (a11:D4 K "is_main" wac)
  (a12:D4 K "is_plant" wa7)
  (a13:D4 K "need_plant" wad)
  (a14:D4 K "is_story" wae)
  (a15:D4 K "need_story" wag)
  (a16:D4 K "caps_of" wah)
  (a17:D4 K "drawn_by" wam)
  (a18:D4 K "draws_of" wal)
  (a19:D4 K "full_firing" was)
  (a20:D4 K "floor_at" waP)
  (a21:D4 K "tails_from" waR)
  (a22:D4 K "highest_floor" waQ)
  (a23:D4 K "room_between" waV)
  (a24:D4 K "make_cheapest" waU)
  (a25:D4 K "least_firing" waT)
  (a26:D4 K "is_too_much" waF)
  (a27:D4 K "least_stretch" waI)
  (a28:D4 K "terms_of" wan)
  (a29:D4 K "cheapest" waW)
  (a30:D4 K "coal_under" waS)
  (a31:D4 K "least_coal" waZ)
  (a32:D4 K "stretch_of" waK)
  (a33:D4 K "is_row" waq)
  (a34:D4 K "is_firing_within" wap)
  (a35:D4 K "is_firing" wao)
  (a36:D4 K "need_firing" war)
  (a37:D4 K "run_day" wau)
  (a38:D4 K "course" wav)
  (a39:D4 K "fullest" waL)
  (a40:D4 K "least_mains" waN)
  (a41:D4 K "leanest" waM)
  (a42:D6 K CA "__init__" "Watch.__init__" s_Watch___init__)
  (a43:D6 K CA "kept_firing" "Watch.kept_firing" s_Watch_kept_firing)
  (a44:D4 K "_law_watch" wba)
  (a45:D4 K "falls_at" waw)
  (a46:D4 K "keeps_up" wax)
  (a47:D4 K "steam_by" waA)
  (a48:D4 K "coal_of" waz)
  (a49:D4 K "banked" waB)
  (a50:D4 K "firing_text" wb0)
  (a51:D4 K "is_counts" wa6)
  (a52:D4 K "floor_of" waO)
  (a53:D4 K "is_short_paper" waH)
  (a54:D4 K "is_fired_paper" waY)
  (a55:D4 K "cheapest_holds" waX)
  (a56:D4 K "is_stretch" waE)
  (a57:D4 K "is_shown" waG)
  (a58:D4 K "stretch_holds" waJ)
  (a59:D4 K "is_same_row" waD)
  (a60:D4 K "books_right" waC)
  (a61:D4 K "_law_caps" wb6)
  (a62:D4 K "_law_cell" wb1)
  (a63:D4 K "_law_draw" wb3)
  (a64:D4 K "_law_firing" wb7)
  (a65:D4 K "_law_pen" wb2)
  (a66:D4 K "_law_plant" wb4)
  (a67:D4 K "_law_bad" wbb)
  (a68:D4 K "_law_kind" wb8)
  (a69:D4 K "_law_said" wb9)
  (a70:nsIn K mainGlobals "_law_call"=some (some (.ref u8))) (l70:K.lookup u8=some ⟨O70,R70,.func (FnAt "_law_call" wa2 V70 U70 W70 N70 l6 Z70),S70⟩) (c70:codeIn K l6 "_law_call"=true) (k70:keepIn K (.ref u8)=true)
  (a71:D4 K "_law_right" wbc)
  (a72:D4 K "_law_story" wb5)
  (a73:nsIn K mainGlobals "law"=some (some (.ref u4))) (l73:K.lookup u4=some ⟨O73,R73,.func (FnAt "law" wa1 V73 w9 W73 w6 k9 Z73),S73⟩) (c73:codeIn K k9 "law"=true) (k73:keepIn K (.ref u4)=true)
  (pgCA:plainGet K CA Str.empty=true) (hdCA:hasDictIn K CA=true) (poCA:plainOver K CA=true) (v8:findIn K (.ref CA) "__setattr__"=some (some (.builtin "object.__setattr__"))) (mkCA:makesIn K CA=true) (kcCA:keepIn K (.ref CA)=true)
  (j4:findIn K (.ref CA) "plant"=some none)
  (j5:findIn K (.ref CA) "story"=some none)
  (i9:findIn K (.ref CA) "firings"=some none)
  (z0:nsIn K mainGlobals "ValueError"=some none)
  (z1:nsIn K mainGlobals "all"=some none)
  (z2:nsIn K mainGlobals "bool"=some none)
  (z3:nsIn K mainGlobals "divmod"=some none)
  (z4:nsIn K mainGlobals "enumerate"=some none)
  (z5:nsIn K mainGlobals "int"=some none)
  (z6:nsIn K mainGlobals "isinstance"=some none)
  (z7:nsIn K mainGlobals "len"=some none)
  (z8:nsIn K mainGlobals "list"=some none)
  (z9:nsIn K mainGlobals "max"=some none)
  (z10:nsIn K mainGlobals "min"=some none)
  (z11:nsIn K mainGlobals "range"=some none)
  (z12:nsIn K mainGlobals "repr"=some none)
  (z13:nsIn K mainGlobals "reversed"=some none)
  (z14:nsIn K mainGlobals "str"=some none)
  (z15:nsIn K mainGlobals "sum"=some none)
  (z16:nsIn K mainGlobals "tuple"=some none)
  (z17:nsIn K mainGlobals "zip"=some none)
  {t0:Tok} (q0:nsIn K mainGlobals "MOST_BOILERS"=some (some (.int 4 t0)))
  {t1:Tok} (q1:nsIn K mainGlobals "MOST_ENGINES"=some (some (.int 4 t1)))
  {t2:Tok} (q2:nsIn K mainGlobals "MOST_FAULTS"=some (some (.int 4 t2)))
  {t3:Tok} (q3:nsIn K mainGlobals "MOST_HOURS"=some (some (.int 8 t3)))
  {t4:Tok} (q4:nsIn K mainGlobals "MOST_UNITS"=some (some (.int 9 t4)))
  {t5:Tok} (q5:nsIn K mainGlobals "MOST_EXTRA"=some (some (.int 20 t5)))
  {t6:Tok} (q6:nsIn K mainGlobals "MOST_IN_MAIN"=some (some (.int 40 t6)))
  {M d0 d1 d2 d3 d4 d5 d6 d7 d8 d9 i4 I i5 i7 L O J i8 Z:yR}
  (y0:nsIn K mainGlobals "NoPlant"=some (some (.ref d0)))
  (y1:nsIn K mainGlobals "NoStory"=some (some (.ref d1)))
  (y2:nsIn K mainGlobals "NoFiring"=some (some (.ref d2)))
  (y3:nsIn K mainGlobals "NoHour"=some (some (.ref d3)))
  (y4:nsIn K mainGlobals "NoBoiler"=some (some (.ref d4)))
  (y5:nsIn K mainGlobals "NoPrices"=some (some (.ref d5)))
  (y6:nsIn K mainGlobals "NoWay"=some (some (.ref d6)))
  (y7:nsIn K mainGlobals "NoSet"=some (some (.ref d7)))
  (y8:nsIn K mainGlobals "NoTanks"=some (some (.ref d8)))
  (y9:nsIn K mainGlobals "NoPump"=some (some (.ref d9)))
  (y10:nsIn K mainGlobals "NoFeeding"=some (some (.ref i4)))
  (y11:nsIn K mainGlobals "NoReadings"=some (some (.ref I)))
  (y12:nsIn K mainGlobals "NoStart"=some (some (.ref i5)))
  (y13:nsIn K mainGlobals "NoShifts"=some (some (.ref i7)))
  (y14:nsIn K mainGlobals "NoBook"=some (some (.ref L)))
  (y15:nsIn K mainGlobals "NoAmount"=some (some (.ref O)))
  (y16:nsIn K mainGlobals "NoDeed"=some (some (.ref J)))
  (y17:nsIn K mainGlobals "NoLine"=some (some (.ref i8)))
  (y18:nsIn K mainGlobals "NoText"=some (some (.ref Z)))
  (yM:nsIn K mainGlobals "MainError"=some (some (.ref M))) (yB:mroIn K M (.type "BaseException")=some true) (yT:typeIn K (.ref M)=some (.type "type"))
  (x0:excIn K d0 DY "ValueError.__new__"=true) (w0:C7 K M [d0,d1,d2,d3,d4,d5,d6,d7,d8,d9,i4,I,i5,i7,L,O,J,i8,Z] 0=true)
  (x1:excIn K d1 DY "ValueError.__new__"=true) (w1:C7 K M [d0,d1,d2,d3,d4,d5,d6,d7,d8,d9,i4,I,i5,i7,L,O,J,i8,Z] 1=true)
  (x2:excIn K d2 DY "ValueError.__new__"=true) (w2:C7 K M [d0,d1,d2,d3,d4,d5,d6,d7,d8,d9,i4,I,i5,i7,L,O,J,i8,Z] 2=true)
  (x5:excIn K d5 DY "ValueError.__new__"=true) (w5:C7 K M [d0,d1,d2,d3,d4,d5,d6,d7,d8,d9,i4,I,i5,i7,L,O,J,i8,Z] 5=true)
  {s0 s1 s2 s3 s4 s5 s6 s7 s8 s9 o8 q8 v6 u7 r8 u5 u9 v3 u6 o9 j9 q9:yR}
  (g0:nsIn K mainGlobals "caps_of"=some (some (.ref s0)))
  (g1:nsIn K mainGlobals "draws_of"=some (some (.ref s1)))
  (g2:nsIn K mainGlobals "full_firing"=some (some (.ref s2)))
  (g3:nsIn K mainGlobals "cheapest"=some (some (.ref s3)))
  (g4:nsIn K mainGlobals "least_coal"=some (some (.ref s4)))
  (g5:nsIn K mainGlobals "stretch_of"=some (some (.ref s5)))
  (g6:nsIn K mainGlobals "fullest"=some (some (.ref s6)))
  (g7:nsIn K mainGlobals "leanest"=some (some (.ref s7)))
  (g8:nsIn K mainGlobals "_law_watch"=some (some (.ref s8)))
  (g9:nsIn K mainGlobals "course"=some (some (.ref s9)))
  (g10:nsIn K mainGlobals "falls_at"=some (some (.ref o8)))
  (g11:nsIn K mainGlobals "keeps_up"=some (some (.ref q8)))
  (g12:nsIn K mainGlobals "coal_of"=some (some (.ref v6)))
  (g13:nsIn K mainGlobals "steam_by"=some (some (.ref u7)))
  (g14:nsIn K mainGlobals "banked"=some (some (.ref r8)))
  (g15:nsIn K mainGlobals "firing_text"=some (some (.ref u5)))
  (g16:nsIn K mainGlobals "floor_of"=some (some (.ref u9)))
  (g17:nsIn K mainGlobals "is_firing"=some (some (.ref v3)))
  (g18:nsIn K mainGlobals "cheapest_holds"=some (some (.ref u6)))
  (g19:nsIn K mainGlobals "stretch_holds"=some (some (.ref o9)))
  (g20:nsIn K mainGlobals "books_right"=some (some (.ref j9)))
  (g21:nsIn K mainGlobals "is_story"=some (some (.ref q9)))
  :∃fd:FuncData,(∀(s:yS) (v:yU),BindsTo s fd ⟨[v],[]⟩ [("_law_script",v)])/\∀base:Heap,K.In base->base.Ns mainGlobals mg->CodeHd base c TB->base.BuiltinsAt mg TB->BV l.prog w K mg base CX0 23 fa fd ["_law_script"] (sp_lawN K TB):=by
 have e:=hfa.symm.trans (PySem.W.mg_of X G a73);cases e;have T:Tx mg:=⟨mg_none_of X G z0,mg_none_of X G z1,mg_none_of X G z2,mg_none_of X G z3,mg_none_of X G z4,mg_none_of X G z5,mg_none_of X G z6,mg_none_of X G z7,mg_none_of X G z8,mg_none_of X G z9,mg_none_of X G z10,mg_none_of X G z11,mg_none_of X G z12,mg_none_of X G z13,mg_none_of X G z14,mg_none_of X G z15,mg_none_of X G z16,mg_none_of X G z17,⟨_,mg_of X G q0⟩,⟨_,mg_of X G q1⟩,⟨_,mg_of X G q2⟩,⟨_,mg_of X G q3⟩,⟨_,mg_of X G q4⟩,⟨_,mg_of X G q5⟩,⟨_,mg_of X G q6⟩⟩;have C:Tc K mg M [d0,d1,d2,d3,d4,d5,d6,d7,d8,d9,i4,I,i5,i7,L,O,J,i8,Z]:=⟨mg_of X G y0,mg_of X G y1,mg_of X G y2,mg_of X G y3,mg_of X G y4,mg_of X G y5,mg_of X G y6,mg_of X G y7,mg_of X G y8,mg_of X G y9,mg_of X G y10,mg_of X G y11,mg_of X G y12,mg_of X G y13,mg_of X G y14,mg_of X G y15,mg_of X G y16,mg_of X G y17,mg_of X G y18,mg_of X G yM,yB,yT,y0,x0,w0,y1,x1,w1,y2,x2,w2,y5,x5,w5⟩;have WK:Wc K CA:=⟨⟨pgCA,hdCA,poCA,v8⟩,j4,j5,i9⟩;have D:Po mg [s0,s1,s2,s3,s4,s5,s6,s7,s8,s9,o8,q8,v6,u7,r8,u5,u9,v3,u6,o9,j9,q9]:=⟨mg_of X G g0,mg_of X G g1,mg_of X G g2,mg_of X G g3,mg_of X G g4,mg_of X G g5,mg_of X G g6,mg_of X G g7,mg_of X G g8,mg_of X G g9,mg_of X G g10,mg_of X G g11,mg_of X G g12,mg_of X G g13,mg_of X G g14,mg_of X G g15,mg_of X G g16,mg_of X G g17,mg_of X G g18,mg_of X G g19,mg_of X G g20,mg_of X G g21⟩;have ec:l6= .ref c:=YI a70 l70 ht;subst ec;have F42:Di K mg "Watch" CA "Watch.__init__" s_Watch___init__ ["self","plant","story"]:=YK (mg_of X G yC) mkCA kcCA a42 λ_ _ _ _ _ _ us hl=>match us,hl with | [_,_,_],_=>rfl
 have F43:Dm K CA "kept_firing" "Watch.kept_firing" s_Watch_kept_firing ["self"]:=YJ a43 λ_ _ _ _ _ _ us hl=>match us,hl with | [_],_=>rfl
 have F70:Gq K mg "_law_call" wa2 ["_law_call_here","_law_some"] c:=YH X G a70 l70 c70 k70 λ_ _ _ _ _ _ us hl=>match us,hl with | [_,_],_=>rfl
 have F73:=Ej (st:=wa1) l73 c73 k73;refine⟨PySem.W.fnOf "law" "law" (BR wa1) (Br wa1) (Am wa1) .none V73 w9 W73 w6 k9 Z73,λs v=> .of_eq rfl,λbase _ _ hC hBu=>?_⟩;have xak:=V4 (P:=l.prog) (w:=w) (base:=base) (BA X G a0) T;have xal:=V6 (P:=l.prog) (w:=w) (base:=base) (BQ X G a1) T;have xam:=V8 (BQ X G a2) T xak xal;have g:=VE (P:=l.prog) (w:=w) (base:=base) (BQ X G a3) T;have l7:=VA (P:=l.prog) (w:=w) (base:=base) (Cb X G a4) T;have j0:=VC (BQ X G a5) T l7;have xan:=W4 (BQ X G a6) T g j0;have xao:=VM (Cb X G a7) T g j0;have xap:=VQ (Cb X G a8) T xao g;have xaq:=VN (Cb X G a9) T g j0;have xar:=VS (Cb X G a10) T xaq g;have xas:=VO (Cb X G a11) T g j0;have xat:=VT (Cb X G a12) T xap xar xas g;have xau:=W5 (Cb X G a13) T C xat;have xaa:=W6 (BA X G a14) T xan g j0 xau;have xab:=Xa (BA X G a15) T C xaa;have j3:=Xb (BA X G a16) T xam xab;have xav:=V9 (P:=l.prog) (w:=w) (base:=base) (BA X G a17) T;have l9:=Xc (BA X G a18) T xav xab;have xac:=Xf (BA X G a19) T j3;have xad:=Wx (P:=l.prog) (w:=w) (base:=base) (GV X G a20) T;have xaw:=WA (BQ X G a21) T xad;have xae:=WB (Cb X G a22) T xaw;have xax:=WT (P:=l.prog) (w:=w) (base:=base) (GV X G a23) T;have xay:=WU (GV X G a24) T xax;have xaz:=WV (Cb X G a25) T xay;have xaf:=WD (P:=l.prog) (w:=w) (base:=base) (BA X G a26) T;have j6:=WE (Cb X G a27) T xaf;have i6:=Xd (BA X G a28) T j3 l9;have xaA:=XH (BA X G a29) T xae xaz j6 i6;have xaB:=WF (Cb X G a30) T xae j6;have xaC:=XB (BA X G a31) T xaB i6;have xaD:=Xz (BA X G a32) T j6 i6;have xaE:=Wk (BA X G a33) T g j0;have xaF:=Wm (BA X G a34) T xaE g;have xag:=Xg (BQ X G a35) T xaF j3;have j8:=Xh (BQ X G a36) T C xag;have w8:=Xi (BQ X G a37) T j8 l9;have v7:=Xj (BQ X G a38) T w8;have xaG:=XJ (BA X G a39) T v7 xac;have xaH:=WI (P:=l.prog) (w:=w) (base:=base) (Cb X G a40) T;have xaI:=XC (BA X G a41) T xaH j6 i6;have xaJ:=XR F42 T WK j3;have xaK:=XQ (P:=l.prog) (w:=w) (base:=base) (mg:=mg) F43 T WK;have xaL:=XT (BA X G a44) T WK xaJ xaK;have xai:=Xk (BQ X G a45) T w8;have xaM:=Xl (BQ X G a46) T xai;have xaj:=Xm (BQ X G a47) T j8;have xaN:=Xo (BQ X G a48) T xaj;have xaO:=Xn (BQ X G a49) T j8;have xaP:=XL (BQ X G a50) T j8;have xaQ:=Ww (BA X G a51) T g l7;have xaR:=XI (BQ X G a52) T C xad xaQ i6;have xaS:=Xv (BA X G a53) T g;have xaT:=Xt (BQ X G a54) T g;have xaU:=XG (BQ X G a55) T xaS xaT i6;have xaV:=Xq (BA X G a56) T g;have xaW:=Xr (BA X G a57) T xaV xaf;have xaX:=XE (BQ X G a58) T xaW i6;have xaY:=Wt (BA X G a59) T g l7;have xaZ:=XM (GV X G a60) T v7 xaY;have xb0:=Wf (P:=l.prog) (w:=w) (base:=base) (BA X G a61) T;have xb1:=VW (P:=l.prog) (w:=w) (base:=base) (BA X G a62) T;have j7:=VY (P:=l.prog) (w:=w) (base:=base) (BA X G a63) T;have xb2:=WX (BA X G a64) T j7;have xb3:=VX (P:=l.prog) (w:=w) (base:=base) (Cb X G a65) T;have xb4:=VZ (Cb X G a66) T j7;have xb5:=X1 (BQ X G a67) T j7;have xb6:=WY (P:=l.prog) (w:=w) (base:=base) (Cb X G a68) T C;have xb7:=W1 (Cb X G a69) C xb6;have xb8:=XV F70 hC hBu T xb7;have xb9:=YC C (GV X G a71) T xb5 xb8;have xba:=We (BA X G a72) T j7;have HD:∀(i:Nat) (fm:List So),forms[i]? =some fm->∃sp,Fz l.prog w K mg base 18 ([s0,s1,s2,s3,s4,s5,s6,s7,s8,s9,o8,q8,v6,u7,r8,u5,u9,v3,u6,o9,j9,q9].getD i 0) sp/\Bv [d0,d1,d2,d3,d4,d5,d6,d7,d8,d9,i4,I,i5,i7,L,O,J,i8,Z] fm sp:=λi fm h=>match i,h with
  |0,h=>⟨_,j3.at D.g_caps_of (by decide),Y9 h ▸ Pe⟩
  |1,h=>⟨_,l9.at D.g_draws_of (by decide),Y9 h ▸ X5⟩
  |2,h=>⟨_,xac.at D.g_full_firing (by decide),Y9 h ▸ Pe⟩
  |3,h=>⟨_,xaA.at D.g_cheapest (by decide),Y9 h ▸ Yw⟩
  |4,h=>⟨_,xaC.at D.g_least_coal (by decide),Y9 h ▸ Yv⟩
  |5,h=>⟨_,xaD.at D.g_stretch_of (by decide),Y9 h ▸ Yh⟩
  |6,h=>⟨_,xaG.at D.g_fullest (by decide),Y9 h ▸ Yl⟩
  |7,h=>⟨_,xaI.at D.g_leanest (by decide),Y9 h ▸ Yj⟩
  |8,h=>⟨_,xaL.at D.g__law_watch (by decide),Y9 h ▸ Ym⟩
  |9,h=>⟨_,v7.at D.g_course (by decide),Y9 h ▸ Ys⟩
  |10,h=>⟨_,xai.at D.g_falls_at (by decide),Y9 h ▸ Yt⟩
  |11,h=>⟨_,xaM.at D.g_keeps_up (by decide),Y9 h ▸ Yu⟩
  |12,h=>⟨_,xaN.at D.g_coal_of (by decide),Y9 h ▸ Yo⟩
  |13,h=>⟨_,xaj.at D.g_steam_by (by decide),Y9 h ▸ Yn⟩
  |14,h=>⟨_,xaO.at D.g_banked (by decide),Y9 h ▸ Yr⟩
  |15,h=>⟨_,xaP.at D.g_firing_text (by decide),Y9 h ▸ Yp⟩
  |16,h=>⟨_,xaR.at D.g_floor_of (by decide),Y9 h ▸ X6⟩
  |17,h=>⟨_,xag.at D.g_is_firing (by decide),Y9 h ▸ X3⟩
  |18,h=>⟨_,xaU.at D.g_cheapest_holds (by decide),Y9 h ▸ Pd⟩
  |19,h=>⟨_,xaX.at D.g_stretch_holds (by decide),Y9 h ▸ Pd⟩
  |20,h=>⟨_,xaZ.at D.g_books_right (by decide),Y9 h ▸ X7⟩
  |21,h=>⟨_,xaa.at D.g_is_story (by decide),Y9 h ▸ X8⟩
  |_+22,h=>nomatch h
 exact YG F73 D HD T xb0 xb1 xb2 xb3 xb4 xb9 xba
end MF
set_option hygiene false
local macro_rules|`(#check $_:term)=>do
 let c:=`PySem.Challenge.cw_mainfires_k34_doors_of_plants_and_firing_holds
 let mut l:=[`PySem.Challenge.pw_mainfires_k34_doors_of_plants_and_firing]++(List.range 896).map λn=>c.str s!"o_{n}"
 for n in [38,45,47,70,85,100,115,130,145,160,175,190,205,220,235,250,265,280,295,310,325,340,388,464,547,626,703,738,801,881,895] do
  for s in ["tree","sts","heap","view"] do l:=l++[c.str s!"{s}_{n}",c.str s!"{s}_{n+1}"]
 return Lean.mkNullNode (←l.toArray.mapM λn=>`(theorem $(Lean.mkIdent (.mkSimple s!"tw{hash n}")):ident:True:=⟨⟩))
namespace PySem.W.Fast
#check 0
end PySem.W.Fast
open PySem PySem.W PyProof.Rows
set_option maxRecDepth 100000 in
set_option maxHeartbeats 0 in
theorem PySem.Challenge.cw_mainfires_k34_doors_of_plants_and_firing_holds : PySem.Challenge.rw_mainfires_k34_doors_of_plants_and_firing.Holds := by
 w_on;o_law;k_head;(case hw=>w_witness2)
 k_fill
 refine L2.walk_ofT (l := PySem.Challenge.rw_mainfires_k34_doors_of_plants_and_firing) (n := 63) (k := 23) (x := "_law_script") (xT := "_law_call") (CX := λ_ => L2.CX0) (sp := MF.sp_lawN) rfl (by decide) rfl ⟨rfl, by decide, by decide, rfl⟩ (λw h Y => PySem.W.km_in_of Y) rfl (λw => by kernel_rfl) (λw => by kernel_rfl) ?F (λ_ _ a _ ns hl hT hS => ⟨ns, hS, hl, hT, λ_ => rfl⟩) (λ_ _ _ _ _ z => z)
 case F=>
  intro w mg fa h c TB KX G hmg ht;refine' MF.all_mk KX G hmg ht ?_ ?_ ?_ ?_ ?_ ?_ ?_ ?_ ?_ ?_ ?_ ?_ ?_ ?_ ?_ ?_ ?_ ?_ ?_ ?_ ?_ ?_ ?_ ?_ ?_ ?_ ?_ ?_ ?_ ?_ ?_ ?_ ?_ ?_ ?_ ?_ ?_ ?_ ?_ ?_ ?_ ?_ ?_ ?_ ?_ ?_ ?_ ?_ ?_ ?_ ?_ ?_ ?_ ?_ ?_ ?_ ?_ ?_ ?_ ?_ ?_ ?_ ?_ ?_ ?_ ?_ ?_ ?_ ?_ ?_ ?_ ?_ ?_ ?_ ?_ ?_ ?_ ?_ ?_ ?_ ?_ ?_ ?_ ?_ ?_ ?_ ?_ ?_ ?_ ?_ ?_ ?_ ?_ ?_ ?_ ?_ ?_ ?_ ?_ ?_ ?_ ?_ ?_ ?_ ?_ ?_ ?_ ?_ ?_ ?_ ?_ ?_ ?_ ?_ ?_ ?_ ?_ ?_ ?_ ?_ ?_ ?_ ?_ ?_ ?_ ?_ ?_ ?_ ?_ ?_ ?_ ?_ ?_ ?_ ?_ ?_ ?_ ?_ ?_ ?_ ?_ ?_ ?_ ?_ ?_ ?_ ?_ ?_ ?_ ?_ ?_ ?_ ?_ ?_ ?_ ?_ ?_ ?_ ?_ ?_ ?_ ?_ ?_ ?_ ?_ ?_ ?_
  all_goals first | refine' MF.d4_mk ?_ ?_ ?_ ?_ | refine' MF.d6_mk ?_ ?_ ?_ ?_ ?_ | skip
  any_goals k_is
  any_goals k_exc
  all_goals kernel_rfl
end
