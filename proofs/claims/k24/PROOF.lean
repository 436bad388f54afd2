import PyProof.Rows.All
import Wide.All
import OpenK.AllK
import Wide.FinOn
import Lean
import PyProof.EqAt
import PyProof.EqKinds
import PyProof.TupleCall
import PyProof.Draws
import PyProof.ZipIter
import PyProof.EnumMake
import PyProof.IsiPairs
import PyProof.IsiHeapPairs
import PyProof.IsiNone
import PyProof.ReprRoads
import PyProof.ConsumeWalk
import PyProof.NeKinds
import PyProof.Rows.SeqMore
import PyProof.Rows.SortWalk
import PyProof.Rows.StrJoinMade
import PyProof.P3Eq
import PyProof.ListRange
import PyProof.CollectIter
import KE.KTryDeep
import PyProof.ExcBaseAll.ValueError
import PyProof.ExcArgsOwn
import PyProof.ExcAttrAll.ValueError
import KE.KLam
import PyProof.DictItemsLoops
import PyProof.DictCompW
import KE.KRevIter
import PyProof.MinMaxWalk
import PyProof.Rows.RowHeap
import PyProof.MaxThree
import PyProof.Rows.CallKwBuiltin
import PySem.Challenge.RW_mainfires_k24_prices_of_a_firing
open PySem PySem.Spec PyProof.Rows
abbrev Fgx := PySem.W.Frag
abbrev PNs := List (Addr × Obj)
abbrev VSP := Value → Shared → Prop
open List (mem_range filterMap_cons mem_cons_self mem_cons_of_mem mem_cons mem_append mem_append_left getElem?_set_self mem_filterMap mem_append_right length_cons length_nil append_nil nodup_cons of_mem_zip length_take getElem?_append_right getElem?_append_left getElem?_map mem_of_getElem? length_append length_map length_replicate size_toArray length_drop map_nil map_cons length_set all_cons any_cons replicate_succ flatten_cons foldl_cons forIn_cons lookup_cons all_eq_true any_eq_true nil_append mem_singleton zipIdx_cons zipIdx_nil forIn_nil not_mem_nil getD_eq_getElem?_getD getElem?_eq_getElem getElem_mem take_length range_succ take_add_one take_of_length_le getElem?_range all_map filter_append map_append mem_map sum_cons ext_getElem? getElem?_eq_none getElem?_set take_zero sum_nil sum_append map_drop map_take drop_nil take_nil getElem?_drop cons_append zip_cons_cons getElem?_of_mem map_map getElem?_take length_range replicate_succ' map_replicate map_set)
set_option Elab.async false
set_option linter.all false
set_option maxRecDepth 100000
set_option maxHeartbeats 4000000
section
namespace L2
abbrev AR:=Sum Int Str
def Ds:AR->Value->Bool
 | .inl k,v=>Value.isInt k v
 | .inr x,v=>Value.isStrOf x v
def Mv (w:World):AR->Int
 | .inl k=>hashInt k
 | .inr x=>hashStr w x
theorem Cz:∀ {k:AR}{v:Value},Ds k v=true->(∃i t,k=Sum.inl i/\v=Value.int i t)\/(∃x t,k=Sum.inr x/\v=Value.str x t)
 | .inl i,v,h=>by
  obtain⟨t,e⟩:=Value.isInt_shape (k:=i) (v:=v) h;exact .inl ⟨i,t,rfl,e⟩
 | .inr x,v,h=>by
  obtain⟨t,e⟩:=Value.isStrOf_shape (x:=x) (v:=v) h;exact .inr ⟨x,t,rfl,e⟩
theorem Mw (i:Int) (t:Tok):Ds (.inl i) (.int i t)=true:=by simp [Ds,Value.isInt]
theorem Mx (x:Str) (t:Tok):Ds (.inr x) (.str x t)=true:=by simp [Ds,Value.isStrOf]
theorem My (a b:Int):decide ((Sum.inl a:AR)=Sum.inl b)=(a==b):=by
 by_cases e:a=b
 ·subst e;simp
 ·have h:¬(Sum.inl a:AR)=Sum.inl b:=λq=>e (Sum.inl.inj q)
  rw [decide_eq_false h];exact(beq_eq_false_iff_ne.mpr e).symm
theorem Mz (a b:Str):decide ((Sum.inr a:AR)=Sum.inr b)=decide (a=b):=by
 by_cases e:a=b
 ·subst e;simp
 ·have h:¬(Sum.inr a:AR)=Sum.inr b:=λq=>e (Sum.inr.inj q)
  rw [decide_eq_false h,decide_eq_false e]
theorem MA (a:Int) (b:Str):decide ((Sum.inl a:AR)=Sum.inr b)=false:=decide_eq_false (λq=>nomatch q)
theorem MB (a:Str) (b:Int):decide ((Sum.inr a:AR)=Sum.inl b)=false:=decide_eq_false (λq=>nomatch q)
def BD (prog:Program) (w:World):PySem.KeyKind prog w AR where
 is:=Ds
 hash:=Mv w
 inj:=λv a b ha hb=>by
  rcases Cz ha with⟨i,t,rfl,rfl⟩ | ⟨x,t,rfl,rfl⟩
  ·rcases Cz hb with⟨j,u,rfl,e⟩ | ⟨y,u,rfl,e⟩
   ·injection e with e1 _;rw [e1]
   ·exact nomatch e
  ·rcases Cz hb with⟨j,u,rfl,e⟩ | ⟨y,u,rfl,e⟩
   ·exact nomatch e
   ·injection e with e1 _;rw [e1]
 byValue:=λk v h=>by
  rcases Cz h with⟨i,t,rfl,rfl⟩ | ⟨x,t,rfl,rfl⟩<;>rfl
 pyHash:=λhv h=>by
  rcases Cz hv with⟨i,t,rfl,rfl⟩ | ⟨x,t,rfl,rfl⟩
  ·exact wpAny_pyHash_int h
  ·exact wpAny_pyHash_str h
 eqBool:=λhu hv h=>by
  rcases Cz hu with⟨i,t,rfl,rfl⟩ | ⟨x,t,rfl,rfl⟩
  ·rcases Cz hv with⟨j,u,rfl,rfl⟩ | ⟨y,u,rfl,rfl⟩
   ·rw [My] at h;exact wpAny_eqBool_int h
   ·rw [MA] at h;exact SeqAt.EqAt.int_str i t y u _ _ _ _ h
  ·rcases Cz hv with⟨j,u,rfl,rfl⟩ | ⟨y,u,rfl,rfl⟩
   ·rw [MB] at h;exact SeqAt.EqAt.str_int x t j u _ _ _ _ h
   ·rw [Mz] at h;exact wpAny_eqBool_str h
 «strs»:=λk x t v h=>by
  rcases Cz h with⟨i,u,rfl,e⟩ | ⟨y,u,rfl,e⟩
  ·exact nomatch e
  ·injection e with e1 _
   subst e1;cases v<;>rfl
theorem MC (prog:Program) (w:World) (k:AR) (v:Value):(BD prog w).is k v=Ds k v:=rfl
theorem Jt (prog:Program) (w:World) (i:Int) (t:Tok):(BD prog w).is (.inl i) (.int i t)=true:=Mw i t
theorem MD (prog:Program) (w:World) (x:Str) (t:Tok):(BD prog w).is (.inr x) (.str x t)=true:=Mx x t
end L2
namespace L2
inductive V where
 | non | bl (b:Bool) | int (i:Int) | str (x:Str) | byt (b:Array UInt8) | flt (b:UInt64) | ref (a:Addr) | ty (n:String)
 deriving DecidableEq
def Ay:V->Value->Prop
 | .non,u=>u=Value.none
 | .bl b,u=>u=Value.bool b
 | .int i,u=>∃t,u=Value.int i t
 | .str x,u=>∃t,u=Value.str x t
 | .byt b,u=>∃t,u=Value.bytes b t
 | .flt b,u=>∃t,u=Value.float b t
 | .ref a,u=>u=Value.ref a
 | .ty n,u=>u=Value.type n
abbrev Av:List V->List Value->Prop:=Paired Ay
theorem Av.length {xs:List V}{us:List Value} (r:Av xs us):xs.length=us.length:=Paired.length r
theorem Av.get:∀ {xs:List V}{us:List Value}{i:Nat}{x:V},Av xs us->xs[i]? =some x->∃u,us[i]? =some u/\Ay x u
 | _,_,_,_,.nil,e=>by simp at e
 | _,_,0,_,.cons r _,e=>by simp at e;subst e;exact⟨_,rfl,r⟩
 | _,_,i+1,x,.cons _ t,e=>by
  obtain⟨u,h1,h2⟩:=Av.get (i:=i) (x:=x) t (by simpa using e);exact⟨u,by simpa using h1,h2⟩
theorem Av.set {x:V}{u:Value} (r:Ay x u):∀ {xs:List V}{us:List Value} (i:Nat),Av xs us->Av (xs.set i x) (us.set i u)
 | _,_,_,.nil=> .nil
 | _,_,0,.cons _ t=> .cons r t
 | _,_,i+1,.cons q t=> .cons q (Av.set r i t)
theorem Av.append:∀ {xs ys:List V}{us ws:List Value},Av xs us->Av ys ws->Av (xs++ys) (us++ws)
 | _,_,_,_,.nil,s=>s
 | _,_,_,_,.cons r t,s=> .cons r (Av.append t s)
theorem Av.take:∀ {xs:List V}{us:List Value} (n:Nat),Av xs us->Av (xs.take n) (us.take n)
 | _,_,0,_=> .nil
 | _,_,_+1,.nil=> .nil
 | _,_,n+1,.cons r t=> .cons r (Av.take n t)
theorem Av.drop:∀ {xs:List V}{us:List Value} (n:Nat),Av xs us->Av (xs.drop n) (us.drop n)
 | _,_,0,r=>r
 | _,_,_+1,.nil=> .nil
 | _,_,n+1,.cons _ t=>Av.drop n t
def Ju:Option V->Option Value->Prop
 | some v,some u=>Ay v u
 | none,none=>True
 | _,_=>False
def KV {κ:Type}:List (κ×V)->List (κ×Value)->Prop:=Paired fun(p:κ×V) (q:κ×Value)=>p.1=q.1/\Ay p.2 q.2
def kV:AR->V
 | .inl i=> .int i
 | .inr x=> .str x
inductive HO where
  | lst (xs:List V)
  | tup (xs:List V)
  | dK (kvs:List (AR×V)) | dT (kvs:List (List AR×V))
  | set (S:Int->Bool) (n:Nat)
  | ins (C dx:Addr) (fs:List (Str×V))
  | own (x:Addr)
  | xd (fs:List (Str×V))
  | met (f x:Addr)
  | rng (lo hi:Int)
  | frz (o:Obj) (u:HO)
  | tbl (ps:Array Value)
  | ext (φ:Heap->Prop)
abbrev Hp:=Addr->Option HO
def upd (H:Hp) (a:Addr) (o:HO):Hp:=λb=>if b=a then some o else H b
theorem Ah {H:Hp}{a:Addr}{o:HO}:upd H a o a=some o:=by unfold upd;rw [if_pos rfl]
theorem Ar {H:Hp}{a b:Addr}{o:HO} (h:b≠a):upd H a o b=H b:=by unfold upd;rw [if_neg h]
theorem ME {H:Hp}{a b:Addr}{o u:HO} (h:H a=some o) (h':H b=some u) (d:o≠u):a≠b:=by
 intro e;subst e;rw [h] at h';exact d (Option.some.inj h')
theorem Bb {H:Hp}{a b:Addr}{o:HO} (h:H a=some o) (h':H b=none):a≠b:=by
 intro e;subst e;rw [h] at h';cases h'
section
variable (P : Program) (w : World)
def ObjOk (H:Hp) (h:Heap) (a:Addr):HO->Prop
 | .lst xs=>xs.length<=sizeLine/\∃(its:List Value) (n:Nat),Av xs its/\h.get? a=some { cls:= .type "list",data:= .seq its.toArray n}
 | .tup xs=>xs.length<=sizeLine/\∃its:List Value,Av xs its/\IsTup h a its.toArray
 | .dK kvs=>kvs.length<=sizeLine/\(a==sysModules)=false/\∃vs,KV kvs vs/\h.DictOf (BD P w) a vs
 | .dT kvs => kvs.length <= sizeLine /\ (a == sysModules) = false /\ ∃ xs : List (List AR × Addr × Value),
   Paired (fun(p:List AR×V) (q:List AR×Addr×Value)=>p.1=q.1/\H q.2.1=some (.tup (p.1.map kV))/\Ay p.2 q.2.2) kvs xs/\
   ∃o es ep,h.get? a=some o/\o.ExactDict/\o.data= .dict es ep/\es.toList=xs.map (entryOfKey (tupleKind (BD P w)))/\(xs.map (·.1)).Nodup
 | .set S n=>h.SetOf (intKind P w) a S n
 | .ins C dx fs => H dx = some (.own a) /\ fs.length <= 1000 /\ dx ≠ a /\ h.get? a = some (PySem.W.instObj C dx) /\
   ∃mA,h.Ns1 dx mA/\(∀f,Ju (fs.lookup f) (mA f))/\PySem.Within mA (fs.map (·.1))
 | .own _=>∃o,h.get? a=some o
 | .xd fs=>∃mA,h.Ns1 a mA/\∀f,Ju (fs.lookup f) (mA f)
 | .rng lo hi=>∃t u v,h.get? a=some { cls:= .type "range",data:= .fields #[.int lo t,.int hi u,.int 1 v]}
 | .frz o u=>h.get? a=some o/\ObjOk H h a u
 | .tbl ps=>h.get? a=some { cls:= .none,data:= .fields ps}
 | .met f x=>h.get? a=some (PySem.W.methodObj (.ref f) (.ref x))
 | .ext φ=>φ h/\(∃o,h.get? a=some o)/\∀h1 h2:Heap,φ h1->(∀o,h1.get? a=some o->h2.get? a=some o)->φ h2
def HOk (H:Hp) (h:Heap):Prop:=∀a o,H a=some o->ObjOk P w H h a o
end
section
variable {P : Program} {w : World} {H H' : Hp} {h h' : Heap} {a : Addr} {o : HO}
theorem ObjOk.lt (x:ObjOk P w H h a o):a<h.objs.size:=by
 cases o with
 | lst xs=>obtain⟨_,_,_,_,e⟩:=x;exact Heap.lt_size e
 | tup xs=>obtain⟨_,_,_,p⟩:=x;exact p.lt
 | dK kvs=>obtain⟨_,_,_,_,o,_,_,e,_⟩:=x;exact Heap.lt_size e
 | dT kvs=>obtain⟨_,_,_,_,o,_,_,e,_⟩:=x;exact Heap.lt_size e
 | set S n=>obtain⟨o,_,_,_,e,_⟩:=x;exact Heap.lt_size e
 | ins C dx fs=>obtain⟨_,_,_,e,_⟩:=x;exact Heap.lt_size e
 | own y=>obtain⟨_,e⟩:=x;exact Heap.lt_size e
 | xd fs=>obtain⟨_,⟨_,_,_,e,_⟩,_⟩:=x;exact Heap.lt_size e
 | rng lo hi=>obtain⟨_,_,_,e⟩:=x;exact Heap.lt_size e
 | frz ob u=>obtain⟨e,_⟩:=x;exact Heap.lt_size e
 | tbl ps=>exact Heap.lt_size (show h.get? a=some _ from x)
 | met f y=>exact Heap.lt_size (show h.get? a=some _ from x)
 | ext φ=>obtain⟨_,⟨_,e⟩,_⟩:=x;exact Heap.lt_size e
theorem Paired.mapP {α β:Type}{F G:α->β->Prop}:∀ {l₁:List α}{l₂:List β},Paired F l₁ l₂->(∀a b,F a b->G a b)->Paired G l₁ l₂
 | _,_,.nil,_=> .nil
 | _,_,.cons r t,f=> .cons (f _ _ r) (Paired.mapP t f)
theorem ObjOk.stay (x:ObjOk P w H h a o) (k:∀b u,(b=a\/H b=some (.own a))->h.get? b=some u->h'.get? b=some u)
  (ho:∀b,H b=some (.own a)->H' b=some (.own a)) (ht:∀b xs,H b=some (.tup xs)->H' b=some (.tup xs)):ObjOk P w H' h' a o:=by
 induction o with
 | lst xs=>obtain⟨z,its,n,r,e⟩:=x;exact⟨z,its,n,r,k _ _ (.inl rfl) e⟩
 | tup xs=>obtain⟨z,its,r,ob,e,c⟩:=x;exact⟨z,its,r,ob,k _ _ (.inl rfl) e,c⟩
 | dK kvs=>obtain⟨z,y,vs,r,ob,es,ep,e,c⟩:=x;exact⟨z,y,vs,r,ob,es,ep,k _ _ (.inl rfl) e,c⟩
 | dT kvs=>
  obtain⟨z,y,xs,r,ob,es,ep,e,c⟩:=x;exact⟨z,y,xs,Paired.mapP r λp q z=>⟨z.1,ht _ _ z.2.1,z.2.2⟩,ob,es,ep,k _ _ (.inl rfl) e,c⟩
 | set S n=>obtain⟨ob,es,ep,t,e,c⟩:=x;exact⟨ob,es,ep,t,k _ _ (.inl rfl) e,c⟩
 | ins C dx fs=>
  obtain⟨d,z,ne,e,mA,⟨od,es,ep,e2,c⟩,r⟩:=x;exact⟨ho _ d,z,ne,k _ _ (.inl rfl) e,mA,⟨od,es,ep,k _ _ (.inr d) e2,c⟩,r⟩
 | own y=>obtain⟨ob,e⟩:=x;exact⟨ob,k _ _ (.inl rfl) e⟩
 | xd fs=>obtain⟨mA,⟨od,es,ep,e,c⟩,r⟩:=x;exact⟨mA,⟨od,es,ep,k _ _ (.inl rfl) e,c⟩,r⟩
 | rng lo hi=>obtain⟨t,u,v,e⟩:=x;exact⟨t,u,v,k _ _ (.inl rfl) e⟩
 | frz ob u ih=>obtain⟨e,q⟩:=x;exact⟨k _ _ (.inl rfl) e,ih q⟩
 | tbl ps=>
  have e:h.get? a=some { cls:= .none,data:= .fields ps}:=x;show h'.get? a=some { cls:= .none,data:= .fields ps};exact k a _ (.inl rfl) e
 | met f y=>
  have e:h.get? a=some (PySem.W.methodObj (.ref f) (.ref y)):=x;show h'.get? a=some (PySem.W.methodObj (.ref f) (.ref y));exact k a _ (.inl rfl) e
 | ext φ=>obtain⟨p,⟨o,e⟩,st⟩:=x;exact⟨st _ _ p λo q=>k _ _ (.inl rfl) q,⟨o,k _ _ (.inl rfl) e⟩,st⟩
theorem HOk.lt (x:HOk P w H h) (e:H a=some o):a<h.objs.size:=(x a o e).lt
theorem HOk.fresh (x:HOk P w H h) (e:h.objs.size<=a):H a=none:=by
 cases q:H a with
 | none=>rfl
 | some u=>exact absurd (Nat.lt_of_lt_of_le (x.lt q) e) (Nat.lt_irrefl _)
theorem HOk.kept (x:HOk P w H h) (k:∀b u,h.get? b=some u->h'.get? b=some u):HOk P w H h':=λa o e=>
 (x a o e).stay (λb u _ q=>k b u q) (λ_ q=>q) λ_ _ q=>q
theorem HOk.laid (x:HOk P w H h) (k:∀b u,h.get? b=some u->h'.get? b=some u) (hp:h.objs.size<=a) (new:ObjOk P w (upd H a o) h' a o):HOk P w (upd H a o) h':=λb u e=>by
 have hn:=x.fresh hp
 by_cases hb:b=a
 ·subst hb;rw [Ah] at e;cases e;exact new
 ·rw [Ar hb] at e;exact(x b u e).stay (λc v _ q=>k c v q) (λc q=>by rw [Ar (Bb q hn)];exact q) λc xs q=>by rw [Ar (Bb q hn)];exact q
end
def Rd (H:Hp) (a:Addr) (u:HO):Prop:=H a=some u\/ ∃o,H a=some (.frz o u)
theorem Rd.ok {P:Program}{w:World}{H:Hp}{h:Heap}{a:Addr}{u:HO} (r:Rd H a u) (x:HOk P w H h):ObjOk P w H h a u:=by
 rcases r with r | ⟨o,r⟩
 ·exact x a u r
 ·obtain⟨_,q⟩:=x a _ r;exact q
def F3:Option HO->Prop
 | some (.lst _)=>True
 | some (.dK _)=>True
 | some (.dT _)=>True
 | some (.set _ _)=>True
 | some (.ins _ _ _)=>True
 | some (.ext _)=>True
 | _=>False
section
variable {P : Program} {w : World} {H : Hp} {h h' : Heap} {x e : Addr} {o' : HO}
theorem HOk.write (ok:HOk P w H h) (mu:F3 (H x)) (he:e=x\/H e=some (.own x)) (k:∀b u,b≠e->h.get? b=some u->h'.get? b=some u) (heo:∃u,h'.get? e=some u)
  (new:ObjOk P w (upd H x o') h' x o'):HOk P w (upd H x o') h':=λb u q=>by
 have nown:∀c y,H c=some (.own y)->c≠x:=λc y r z=>by subst z;rw [r] at mu;exact mu
 have ntup:∀c xs,H c=some (.tup xs)->c≠x:=λc xs r z=>by subst z;rw [r] at mu;exact mu
 by_cases hb:b=x
 ·subst hb;rw [Ah] at q;cases q;exact new
 ·rw [Ar hb] at q
  by_cases hbe:b=e
  ·have q':H b=some (.own x):=by
    rcases he with z | z
    ·exact absurd (hbe.trans z) hb
    ·rw [hbe];exact z
   rw [q] at q';cases q';obtain⟨v,hv⟩:=heo;exact⟨v,by rw [hbe];exact hv⟩
  ·refine(ok b u q).stay (λc v hc r=>k c v ?_ r) (λc r=>by rw [Ar (nown c b r)];exact r) λc xs r=>by rw [Ar (ntup c xs r)];exact r
   rcases hc with rfl | hc
   ·exact hbe
   ·rintro rfl;rcases he with z | z
    ·exact nown c b hc z
    ·rw [hc] at z;cases z;exact hb rfl
end
structure Un (fs ex:List Addr) (H H':Hp) (h h':Heap):Prop where
 keep:∀b o,h.get? b=some o->H b=none->b ∉ fs->b ∉ ex->h'.get? b=some o
 slot:∀b o,h.get? b=some o->H b=none->b∈fs->b ∉ ex->∃sl,h'.get? b=some { o with slots:=sl}
 free:∀b o,h.get? b=some o->H b=none->b ∉ ex->H' b=none
 there:∀b o,h.get? b=some o->b ∉ ex->∃o',h'.get? b=some o'
 tups:∀b xs,H b=some (.tup xs)->H' b=some (.tup xs)
 frzs:∀b o u,H b=some (.frz o u)->H' b=some (.frz o u)
 tbls:∀b ps,H b=some (.tbl ps)->∃more,H' b=some (.tbl (ps++more))
section
variable {fs fs' ex ex' : List Addr} {H H1 H2 : Hp} {h h1 h2 h' : Heap} {a x e : Addr} {o : HO}
theorem Un.any (u:Un fs ex H H1 h h1) {b:Addr}{ob:Obj} (q:h.get? b=some ob) (n:H b=none) (hx:b ∉ ex):∃sl,h1.get? b=some { ob with slots:=sl}:=by
 by_cases hb:b∈fs
 ·exact u.slot b ob q n hb hx
 ·exact⟨ob.slots,u.keep b ob q n hb hx⟩
theorem Un.kept (k:∀b u,h.get? b=some u->h'.get? b=some u):Un fs ex H H h h':=
 ⟨λb ob q _ _ _=>k b ob q,λb ob q _ _ _=>⟨ob.slots,k b ob q⟩,λ_ _ _ n _=>n,λb ob q _=>⟨ob,k b ob q⟩,λ_ _ q=>q,λ_ _ _ q=>q,λ_ ps q=>⟨#[],by rw [q];simp⟩⟩
theorem Un.refl:Un fs ex H H h h:=Un.kept λ_ _ q=>q
theorem Un.laid (k:∀b u,h.get? b=some u->h'.get? b=some u) (hp:h.objs.size<=a) (hn:H a=none):Un fs ex H (upd H a o) h h' where
 keep:=λb u q _ _ _=>k b u q
 slot:=λb u q _ _ _=>⟨u.slots,k b u q⟩
 free:=λb u q n _=>by rw [Ar (Nat.ne_of_lt (Nat.lt_of_lt_of_le (Heap.lt_size q) hp))];exact n
 there:=λb u q _=>⟨u,k b u q⟩
 tups:=λb xs q=>by rw [Ar (Bb q hn)];exact q
 frzs:=λb u xs q=>by rw [Ar (Bb q hn)];exact q
 tbls:=λb ps q=>⟨#[],by rw [Ar (Bb q hn),q];simp⟩
theorem Un.write (mu:F3 (H x)) (he:e=x\/H e=some (.own x)) (k:∀b u,b≠e->h.get? b=some u->h'.get? b=some u) (heo:∃u,h'.get? e=some u):Un fs ex H (upd H x o) h h':=by
 have hx:∀b,H b=none->b≠x:=λb n z=>by subst z;rw [n] at mu;exact mu
 have hb:∀b,H b=none->b≠e:=λb n z=>by
  subst z;rcases he with r | r
  ·exact hx b n r
  ·rw [n] at r;cases r
 have hm:∀b u,H b=some u->¬F3 (some u)->b≠x:=λb u q nm z=>by subst z;rw [q] at mu;exact nm mu
 refine⟨λb u q n _ _=>k b u (hb b n) q,λb u q n _ _=>⟨u.slots,k b u (hb b n) q⟩,λb u q n _=>by rw [Ar (hx b n)];exact n,λb u q _=>?_,
  λb xs q=>by rw [Ar (hm b _ q λz=>z)];exact q,λb u xs q=>by rw [Ar (hm b _ q λz=>z)];exact q,λb ps q=>⟨#[],by rw [Ar (hm b _ q λz=>z),q];simp⟩⟩
 by_cases hbe:b=e
 ·subst hbe;exact heo
 ·exact⟨u,k b u hbe q⟩
end
def F4 (h:Heap) (H:Hp):List Addr:=(List.range h.objs.size).filter λa=>(H a).isSome
def CA (h:Heap) (H:Hp):Heap:=PySem.W.hideAll h (F4 h H)
theorem MG (h:Heap) (H:Hp):(CA h H).objs.size=h.objs.size:=PySem.W.hideAll_size _ _
theorem MH {h:Heap}{H:Hp}{b:Addr}{o:Obj} (e:h.get? b=some o) (n:H b=none):(CA h H).get? b=some o:=
 PySem.W.hideAll_get _ e λhm=>by
  have q:(H b).isSome=true:=(List.mem_filter.mp hm).2;rw [n] at q;simp at q
theorem MI {h:Heap}{H:Hp}{b:Addr}{o:Obj} (e:(CA h H).get? b=some o):h.get? b=some o/\H b=none:=by
 have e':h.get? b=some o:=PySem.W.of_hideAll (F4 h H) e;refine⟨e',?_⟩;cases q:H b with
 | none=>rfl
 | some x=>
  have hm:b∈F4 h H:=List.mem_filter.mpr ⟨mem_range.mpr (Heap.lt_size e'),by simp [q]⟩;have z:(CA h H).get? b=none:=PySem.W.hideAll_none (F4 h H) hm;rw [z] at e;cases e
def MJ (g h:Heap) (L:Addr):PNs:=(List.range h.objs.size).filterMap λa=>if a=L\/(g.get? a).isSome=true then none else(h.get? a).map λo=>(a,o)
def rest (g h:Heap) (L d:Addr):PNs:=(MJ g h L).filter λp=>decide (p.1≠d)
end L2
namespace L2
variable {g' : Array GenState} {t' i : Nat} {d' : Drawn} {ch : List Addr} {M : Model} {E : Value -> Shared -> Prop} {v : V} {u : Value} {Q : Unit -> Shared -> Prop}
structure Mod (K:Fgx) (mg:Str->Option Value) (base:Heap):Prop where
 kin:K.In base
 glob:base.Ns mainGlobals mg
 blt:∃mb,base.Ns builtinsNs mb/\∀x:Str,x≠ "__name__" ->mb x=bootBuiltins x
 nolimit:base.NoLimit
structure Cx where
 prog:Program
 w:World
 K:Fgx
 mg:Str->Option Value
 base:Heap
 A:Around
 N:List Str
 s₀:Shared
 H₀:Hp
 env:Env
 outer:List Env
 stack:List Env
 ex:List Addr
 fn:Str->Bool
 calm:Bool
 pn:PNs
 xe:VSP
def AI (l:List Env):List Addr:=l.filterMap (·.frame)
abbrev Cx.fs (X:Cx):List Addr:=AI X.outer
def DY (sc:Scope) (x:Str):Prop:=sc.names.lookup x=some .local \/sc.names.lookup x=some .cell\/sc.names.lookup x=some .free
def Dt (sc:Scope) (x:Str):Prop:=sc.names.lookup x=some .local \/sc.names.lookup x=some .cell
def MK (env:Env) (h:Heap) (m:Str->Option Value) (x:Str) (u:Value):Prop:=
 (env.kindOf x=some .local /\m x=some u)\/((env.kindOf x=some .cell\/env.kindOf x=some .free)/\∃c,env.cells.lookup x=some c/\h.IsCell c (some u))
structure Cx.Ok (X:Cx):Prop where
 mod:Mod X.K X.mg X.base
 kind:X.env.scope.kind= .function
 glob:X.env.globals=mainGlobals
 blt:X.env.builtins=builtinsNs
 above:X.s₀.heap.objs.size<=X.env.locals
 inj:∀x y c,X.env.cells.lookup x=some c->X.env.cells.lookup y=some c->x=y
 has:∀x,(X.env.kindOf x=some .cell\/X.env.kindOf x=some .free)->∃c,X.env.cells.lookup x=some c
 cab:∀x c,X.fn x=true->X.env.cells.lookup x=some c->X.s₀.heap.objs.size<=c
 hd:X.calm=true->X.A.handled=none
 frames:X.A.frames=some X.stack
 stk:X.stack=X.outer\/(X.stack=X.env::X.outer/\X.env.frame=some X.env.locals)
 exf:∀b∈X.ex,b≠X.env.locals/\∀x c,X.env.cells.lookup x=some c->c≠b
 bs:∀b o,X.base.get? b=some o->X.s₀.heap.get? b=some o/\X.H₀ b=none
 bsz:X.base.objs.size<=X.s₀.heap.objs.size
 noex:∀b o,X.base.get? b=some o->b ∉ X.ex
 exfs:∀b∈X.ex,b ∉ X.fs
 funs:X.s₀.heap.FunFrames X.base X.outer
 frf:∀b∈X.fs,X.H₀ b=none
structure Ad (X:Cx) (pins:PNs) (σ:List (Option V)) (H:Hp) (s:Shared):Prop where
 ok:X.Ok
 os:s.os=X.s₀.os
 bare:AllBare s.gens
 base:Un X.fs X.ex X.H₀ H X.s₀.heap s.heap
 loc:∃m,s.heap.Ns X.env.locals m/\∀(i:Nat) (x:Str) (v:V),X.N[i]? =some x->σ[i]? =some (some v)->DY X.env.scope x->∃u,Ay v u/\MK X.env s.heap m x u
 cell:∀x c,X.env.cells.lookup x=some c->∃v,s.heap.IsCell c v
 free:H X.env.locals=none
 freeC:∀x c,X.env.cells.lookup x=some c->H c=none
 pin:∀p∈X.pn++pins,s.heap.get? p.1=some p.2/\H p.1=none/\p.1≠X.env.locals/\p.1 ∉ X.fs/\∀v,p.2.data≠ .cell v
 hok:HOk X.prog X.w H s.heap
 len:σ.length=X.N.length
section
variable {X : Cx} {pins : List (Addr × Obj)} {σ : List (Option V)} {H H' : Hp} {s : Shared} {h' : Heap}
theorem Cx.Ok.nofr (ok:X.Ok) {b:Addr}{o:Obj} (e:X.base.get? b=some o):b ∉ X.fs:=λhb=>by
 have:=(ok.funs.mem hb).1;rw [e] at this;cases this
theorem Ad.bs (I:Ad X pins σ H s):∀b o,X.base.get? b=some o->s.heap.get? b=some o/\H b=none:=λb o e=>
 ⟨I.base.keep b o (I.ok.bs b o e).1 (I.ok.bs b o e).2 (I.ok.nofr e) (I.ok.noex b o e),I.base.free b o (I.ok.bs b o e).1 (I.ok.bs b o e).2 (I.ok.noex b o e)⟩
theorem Ad.bk (I:Ad X pins σ H s):∀b o,X.base.get? b=some o->s.heap.get? b=some o:=λb o e=>(I.bs b o e).1
theorem Ad.mod (I:Ad X pins σ H s):Mod X.K X.mg X.base:=I.ok.mod
theorem Ad.kIn (I:Ad X pins σ H s):X.K.In s.heap:=I.ok.mod.kin.keeps I.bk
theorem Ad.lt (I:Ad X pins σ H s):X.env.locals<s.heap.objs.size:=let ⟨_,hn,_⟩:=I.loc;hn.lt
theorem Ad.sz (I:Ad X pins σ H s):X.s₀.heap.objs.size<=s.heap.objs.size:=Nat.le_trans I.ok.above (Nat.le_of_lt I.lt)
theorem Ad.nofs (I:Ad X pins σ H s) {a:Addr} (h:s.heap.objs.size<=a):a ∉ X.fs:=λhb=>by
 obtain⟨_,o,ho,_⟩:=I.ok.funs.mem hb;exact absurd (Nat.lt_of_lt_of_le (Heap.lt_size ho) (Nat.le_trans I.sz h)) (Nat.lt_irrefl _)
theorem Ad.cne (I:Ad X pins σ H s):∀x c,X.env.cells.lookup x=some c->c≠X.env.locals:=λx c e z=>by
 obtain⟨v,o,ho,hd⟩:=I.cell x c e;obtain⟨m,⟨o',es,ep,ho',hd',_⟩,_⟩:=I.loc;rw [z,ho'] at ho;cases ho;rw [hd'] at hd;cases hd
theorem Ad.funs (I:Ad X pins σ H s):s.heap.FunFrames X.base X.outer:=by
 have all:∀(l:List Env),(∀b∈AI l,b∈X.fs)->X.s₀.heap.FunFrames X.base l->s.heap.FunFrames X.base l:=by
  intro l
  induction l with
  | nil=>intro _ _;trivial
  | cons env r ih=>
   intro hs hl;obtain⟨hk,⟨L,o,hf,hn,ho,hd⟩,hr⟩:=hl;have hL:L∈X.fs:=hs L (by unfold AI;rw [filterMap_cons,hf];exact mem_cons_self);obtain⟨sl,e⟩:=I.base.slot L o ho (I.ok.frf L hL) hL λz=>I.ok.exfs L z hL
   exact⟨hk,⟨L,_,hf,hn,e,hd⟩,ih (λb hb=>hs b (by unfold AI;rw [filterMap_cons,hf];exact mem_cons_of_mem _ hb)) hr⟩
 exact all X.outer (λ_ hb=>hb) I.ok.funs
theorem Ad.stack (I:Ad X pins σ H s):s.heap.FunFrames X.base X.stack:=by
 rcases I.ok.stk with e | ⟨e,hf⟩
 ·rw [e];exact I.funs
 ·rw [e];obtain⟨m,hn,_⟩:=I.loc;refine .cons (by rw [I.ok.kind];decide) hf hn ?_ I.funs;exact Heap.get?_none_of_le (Nat.le_trans I.ok.bsz I.ok.above)
theorem Ad.stkSub (I:Ad X pins σ H s):∀b∈AI X.stack,b∈X.env.locals::X.fs:=λb hb=>by
 rcases I.ok.stk with e | ⟨e,hf⟩
 ·rw [e] at hb;exact mem_cons_of_mem _ hb
 ·rw [e] at hb;unfold AI at hb;rw [filterMap_cons,hf] at hb;exact hb
theorem Ad.stkFree (I:Ad X pins σ H s):∀b∈AI X.stack,H b=none:=λb hb=>by
 rcases mem_cons.mp (I.stkSub b hb) with e | hb
 ·rw [e];exact I.free
 ·obtain⟨_,o,ho,_⟩:=I.ok.funs.mem hb;exact I.base.free b o ho (I.ok.frf b hb) λz=>I.ok.exfs b z hb
theorem Ad.step (I:Ad X pins σ H s)
  (hch:∀b∈ch,(b∈X.ex\/X.s₀.heap.objs.size<=b)/\b≠X.env.locals/\(∀x c,X.env.cells.lookup x=some c->c≠b)/\∀p∈X.pn++pins,p.1≠b)
  (keep:∀b o,b≠X.env.locals->b ∉ X.fs->b ∉ ch->s.heap.get? b=some o->H b=none->h'.get? b=some o)
  (slot:∀b o,b≠X.env.locals->b∈X.fs->b ∉ ch->s.heap.get? b=some o->H b=none->∃sl,h'.get? b=some { o with slots:=sl}) (free:∀b o,b ∉ ch->s.heap.get? b=some o->H b=none->H' b=none)
  (there:∀b o,b ∉ ch->s.heap.get? b=some o->∃o',h'.get? b=some o')
  (tups:∀b xs,H b=some (.tup xs)->H' b=some (.tup xs)) (frzs:∀b o u,H b=some (.frz o u)->H' b=some (.frz o u)) (tbls:∀b ps,H b=some (.tbl ps)->∃more,H' b=some (.tbl (ps++more)))
  (ns:∀m,s.heap.Ns X.env.locals m->h'.Ns X.env.locals m) (hok:HOk X.prog X.w H' h') (hg:AllBare g'):
  Ad X pins σ H' { s with heap:=h',gens:=g',drawn:=d',toks:=t'}:=by
 have neL:∀b o,X.s₀.heap.get? b=some o->b≠X.env.locals:=λb o e=>Nat.ne_of_lt (Nat.lt_of_lt_of_le (Heap.lt_size e) I.ok.above)
 have neC:∀b o,X.s₀.heap.get? b=some o->b ∉ X.ex->b ∉ ch:=λb o e hx hb=>by
  rcases(hch b hb).1 with z | z
  ·exact hx z
  ·exact absurd (Nat.lt_of_lt_of_le (Heap.lt_size e) z) (Nat.lt_irrefl _)
 have cellK:∀x c,X.env.cells.lookup x=some c->∀v,s.heap.IsCell c v->h'.IsCell c v:=λx c e v ⟨o,ho,hd⟩=>by
  have nch:c ∉ ch:=λz=>(hch c z).2.2.1 x c e rfl
  by_cases hc:c∈X.fs
  ·obtain⟨sl,q⟩:=slot c o (I.cne x c e) hc nch ho (I.freeC x c e);exact⟨_,q,hd⟩
  ·exact⟨o,keep c o (I.cne x c e) hc nch ho (I.freeC x c e),hd⟩
 refine⟨I.ok,I.os,hg,⟨λb o e n hb hx=>?_,λb o e n hb hx=>?_,λb o e n hx=>?_,λb o e hx=>?_,λb xs e=>tups b xs (I.base.tups b xs e),λb o xs e=>frzs b o xs (I.base.frzs b o xs e),λb ps e=>?_⟩,?_,λx c e=>?_,?_,λx c e=>?_,λp hp=>?_,hok,I.len⟩
 ·exact keep b o (neL b o e) hb (neC b o e hx) (I.base.keep b o e n hb hx) (I.base.free b o e n hx)
 ·obtain⟨sl,e1⟩:=I.base.slot b o e n hb hx;obtain⟨sl',e2⟩:=slot b _ (neL b o e) hb (neC b o e hx) e1 (I.base.free b o e n hx);exact⟨sl',e2⟩
 ·obtain⟨o',e1⟩:=I.base.there b o e hx;exact free b o' (neC b o e hx) e1 (I.base.free b o e n hx)
 ·obtain⟨o',e1⟩:=I.base.there b o e hx;exact there b o' (neC b o e hx) e1
 ·obtain⟨m1,e1⟩:=I.base.tbls b ps e;obtain⟨m2,e2⟩:=tbls b _ e1;exact⟨m1++m2,by rw [e2,Array.append_assoc]⟩
 ·obtain⟨m,hn,hl⟩:=I.loc;refine⟨m,ns m hn,λi x v e1 e2 e3=>?_⟩;obtain⟨u,r,l⟩:=hl i x v e1 e2 e3;refine⟨u,r,?_⟩;rcases l with l | ⟨k,c,e,z⟩
  ·exact .inl l
  ·exact .inr ⟨k,c,e,cellK x c e _ z⟩
 ·obtain⟨v,z⟩:=I.cell x c e;exact⟨v,cellK x c e v z⟩
 ·obtain⟨m,⟨o,_,_,ho,_⟩,_⟩:=I.loc;exact free _ o (λz=>(hch _ z).2.1 rfl) ho I.free
 ·obtain⟨v,o,ho,hd⟩:=I.cell x c e;exact free c o (λz=>(hch c z).2.2.1 x c e rfl) ho (I.freeC x c e)
 ·obtain⟨e,n,ne,nf,d⟩:=I.pin p hp;have nch:p.1 ∉ ch:=λz=>(hch p.1 z).2.2.2 p hp rfl
  exact⟨keep p.1 p.2 ne nf nch e n,free p.1 p.2 nch e n,ne,nf,d⟩
theorem Ad.un (I:Ad X pins σ H s) (u:Un X.fs [] H H' s.heap h') (hok:HOk X.prog X.w H' h'):Ad X pins σ H' { s with heap:=h',toks:=t'}:=by
 obtain⟨m,⟨o,es,ep,ho,r⟩,_⟩:=id I.loc;obtain⟨sl,hL⟩:=u.any ho I.free (by simp);exact I.step (g':=s.gens) (d':=s.drawn) (ch:=[]) (λ_ z=>nomatch z) (λb o _ hb _ e n=>u.keep b o e n hb (by simp)) (λb o _ hb _ e n=>u.slot b o e n hb (by simp)) (λb o _ e n=>u.free b o e n (by simp)) (λb o _ e=>u.there b o e (by simp)) u.tups u.frzs u.tbls (λm' hm=>by
  obtain⟨o',es',ep',ho',r'⟩:=hm;rw [ho] at ho';cases ho';exact⟨_,es',ep',hL,r'⟩) hok I.bare
theorem Ad.call (I:Ad X pins σ H s) (u:Un (AI X.stack) ch H H' s.heap h') (hok:HOk X.prog X.w H' h') (hg:AllBare g')
  (hch:∀b∈ch,(b∈X.ex\/X.s₀.heap.objs.size<=b)/\b≠X.env.locals/\(∀x c,X.env.cells.lookup x=some c->c≠b)/\∀p∈X.pn++pins,p.1≠b):
  Ad X pins σ H' { s with heap:=h',gens:=g',drawn:=d',toks:=t'}:=by
 obtain⟨m,⟨o,es,ep,ho,r⟩,_⟩:=id I.loc;obtain⟨sl,hL⟩:=u.any ho I.free λz=>(hch _ z).2.1 rfl
 exact I.step (ch:=ch) hch (λb o hL hb hc e n=>u.keep b o e n (λz=>(mem_cons.mp (I.stkSub b z)).elim hL hb) hc) (λb o _ _ hc e n=>u.any e n hc) (λb o hc e n=>u.free b o e n hc) (λb o hc e=>u.there b o e hc) u.tups u.frzs u.tbls (λm' hm=>by
  obtain⟨o',es',ep',ho',r'⟩:=hm;rw [ho] at ho';cases ho';exact⟨_,es',ep',hL,r'⟩) hok hg
theorem Ad.turned {it:Addr} (I:Ad X pins σ H s) (k:∀b o,b≠it->s.heap.get? b=some o->h'.get? b=some o) (hn:H it=none) (hL:it≠X.env.locals)
  (h1:it∈X.ex\/X.s₀.heap.objs.size<=it) (h2:∀x c,X.env.cells.lookup x=some c->c≠it) (h3:∀p∈X.pn++pins,p.1≠it):Ad X pins σ H { s with heap:=h',toks:=t'}:=by
 have nit:∀b u,H b=some u->b≠it:=λb u e z=>by rw [z,hn] at e;cases e
 refine I.step (g':=s.gens) (d':=s.drawn) (ch:=[it]) (λb hb=>?_) (λb o _ _ hc e _=>k b o (λz=>hc (by simp [z])) e) (λb o _ _ hc e _=>⟨o.slots,k b o (λz=>hc (by simp [z])) e⟩) (λ_ _ _ _ n=>n)
  (λb o hc e=>⟨o,k b o (λz=>hc (by simp [z])) e⟩) (λ_ _ e=>e) (λ_ _ _ e=>e) (λb ps e=>⟨#[],by rw [e];simp⟩) (λm hm=>?_) (λb u e=>?_) I.bare
 ·have e:b=it:=by simpa using hb
  subst e;exact⟨h1,hL,h2,h3⟩
 ·obtain⟨o,es,ep,ho,r⟩:=hm;exact⟨o,es,ep,k _ o (Ne.symm hL) ho,r⟩
 ·refine(I.hok b u e).stay (λc v hc q=>k c v ?_ q) (λ_ q=>q) λ_ _ q=>q
  rcases hc with z | z
  ·rw [z];exact nit b u e
  ·exact nit c _ z
theorem Ad.tok (I:Ad X pins σ H s) (t:Nat):Ad X pins σ H { s with toks:=t}:=I.un (h':=s.heap) (t':=t) Un.refl I.hok
theorem Ad.kept (I:Ad X pins σ H s) (k:∀b u,s.heap.get? b=some u->h'.get? b=some u):Ad X pins σ H { s with heap:=h',toks:=t'}:=I.un (Un.kept k) (I.hok.kept k)
theorem Ad.laid {a:Addr}{o:HO} (I:Ad X pins σ H s) (k:∀b u,s.heap.get? b=some u->h'.get? b=some u) (hp:s.heap.objs.size<=a) (new:ObjOk X.prog X.w (upd H a o) h' a o):
  Ad X pins σ (upd H a o) { s with heap:=h',toks:=t'}:=I.un (Un.laid k hp (I.hok.fresh hp)) (I.hok.laid k hp new)
theorem Ad.write {x e:Addr}{o:HO} (I:Ad X pins σ H s) (mu:F3 (H x)) (he:e=x\/H e=some (.own x)) (k:∀b u,b≠e->s.heap.get? b=some u->h'.get? b=some u) (heo:∃u,h'.get? e=some u)
  (new:ObjOk X.prog X.w (upd H x o) h' x o):Ad X pins σ (upd H x o) { s with heap:=h',toks:=t'}:=I.un (Un.write mu he k heo) (I.hok.write mu he k heo new)
theorem Ad.weak {σ':List (Option V)} (I:Ad X pins σ H s) (hl:σ'.length=σ.length) (w:∀(i:Nat) v,σ'[i]? =some (some v)->σ[i]? =some (some v)):Ad X pins σ' H s:=
 ⟨I.ok,I.os,I.bare,I.base,let ⟨m,hn,hl'⟩:=I.loc;⟨m,hn,λi x v e1 e2 e3=>hl' i x v e1 (w i v e2) e3⟩,I.cell,I.free,I.freeC,I.pin,I.hok,hl.trans I.len⟩
theorem Ad.pins_of {pins':PNs} (I:Ad X pins σ H s) (h:∀p∈pins',s.heap.get? p.1=some p.2/\H p.1=none/\p.1≠X.env.locals/\p.1 ∉ X.fs/\∀v,p.2.data≠ .cell v):Ad X pins' σ H s:=
 ⟨I.ok,I.os,I.bare,I.base,I.loc,I.cell,I.free,I.freeC,λp hp=>(mem_append.mp hp).elim (λz=>I.pin p (mem_append_left _ z)) (h p),I.hok,I.len⟩
theorem Ia {N:List Str} (hN:N.Nodup) {i j:Nat}{x:Str} (a:N[i]? =some x) (b:N[j]? =some x):i=j:=by
 obtain⟨h1,e1⟩:=List.getElem?_eq_some_iff.mp a;obtain⟨h2,e2⟩:=List.getElem?_eq_some_iff.mp b;exact(List.getElem_inj hN).mp (e1.trans e2.symm)
theorem Ib {A:Around}{x:Str} (I:Ad X pins σ H s) (hN:X.N.Nodup) (hi:X.N[i]? =some x) (hx:Dt X.env.scope x) (r:Ay v u)
  (h:∀s',Ad X pins (σ.set i (some v)) H s'->(∃a,Heap.SameBut a s.heap s'.heap/\(a=X.env.locals\/X.env.cells.lookup x=some a))->Q () s') (hf:X.fn x=true\/X.env.scope.names.lookup x=some .local :=by first | exact .inl rfl | exact .inr rfl | assumption):wpAny M A (storeName X.env x u) Q E s:=by
 obtain⟨m,hn,hl⟩:=id I.loc;have hcls:(X.env.scope.kind== .class || (X.env.scope.kind== .module && X.env.locals !=X.env.globals))=false:=by rw [I.ok.kind];rfl
 have hiσ:i<σ.length:=by rw [I.len];exact(List.getElem?_eq_some_iff.mp hi).1
 have cne:=I.cne;have tracked:∀ {a:Addr}{h':Heap},(∃o,s.heap.get? a=some o/\H a=none)->Heap.SameBut a s.heap h'->HOk X.prog X.w H h':=λ{a h'} ha hs b ob e=>by
  obtain⟨_,_,hfree⟩:=ha;refine(I.hok b ob e).stay (λc w' hc q=>(hs.2 c ?_).trans q) (λ_ q=>q) λ_ _ q=>q
  rintro rfl;rcases hc with rfl | hc
  ·rw [hfree] at e;cases e
  ·rw [hfree] at hc;cases hc
 rcases hx with hk | hk
 ·refine wpAny_storeName_local hk hn (λh' hn' hs=>?_) hcls;obtain⟨oL,_,_,hoL,_⟩:=id hn;refine h _ ⟨I.ok,I.os,I.bare,⟨λb o e n hb hx=>?_,λb o e n hb hx=>?_,I.base.free,λb o e hx=>?_,I.base.tups,I.base.frzs,I.base.tbls⟩,⟨_,hn',λj y v' e1 e2 e3=>?_⟩,λy c e=>?_,I.free,I.freeC,λp hp=>?_,tracked ⟨oL,hoL,I.free⟩ hs,by simpa using I.len⟩ ⟨_,hs,.inl rfl⟩
  ·exact(hs.2 b (Nat.ne_of_lt (Nat.lt_of_lt_of_le (Heap.lt_size e) I.ok.above))).trans (I.base.keep b o e n hb hx)
  ·obtain⟨sl,e1⟩:=I.base.slot b o e n hb hx;exact⟨sl,(hs.2 b (Nat.ne_of_lt (Nat.lt_of_lt_of_le (Heap.lt_size e) I.ok.above))).trans e1⟩
  ·obtain⟨o',e1⟩:=I.base.there b o e hx;exact⟨o',(hs.2 b (Nat.ne_of_lt (Nat.lt_of_lt_of_le (Heap.lt_size e) I.ok.above))).trans e1⟩
  ·by_cases hj:j=i
   ·subst hj;rw [hi] at e1;cases e1;rw [getElem?_set_self hiσ] at e2;cases e2;exact⟨u,r,.inl ⟨hk,by simp⟩⟩
   ·rw [List.getElem?_set_ne (Ne.symm hj)] at e2;obtain⟨u',r',q⟩:=hl j y v' e1 e2 e3;refine⟨u',r',?_⟩;rcases q with⟨k,e⟩ | ⟨k,c,e,z⟩
    ·refine .inl ⟨k,?_⟩;have:y≠x:=λe=>hj (Ia hN e1 (e ▸ hi))
     simp [this,e]
    ·exact .inr ⟨k,c,e,z.sameBut hs (cne y c e)⟩
  ·obtain⟨w',z⟩:=I.cell y c e;exact⟨w',z.sameBut hs (cne y c e)⟩
  ·obtain⟨e,n,ne,nf,d⟩:=I.pin p hp;exact⟨(hs.2 p.1 ne).trans e,n,ne,nf,d⟩
 ·have hfn:X.fn x=true:=by
   rcases hf with z | z
   ·exact z
   ·rw [z] at hk;cases hk
  obtain⟨c,hc⟩:=I.ok.has x (.inl hk);obtain⟨w',z⟩:=I.cell x c hc;refine wpAny_storeName_cell I.ok.kind hk hc z (λh' hc' hs=>?_);obtain⟨oc,hoc,hocd⟩:=id z;refine h { s with heap:=h'} ⟨I.ok,I.os,I.bare,⟨λb o e n hb hx=>?_,λb o e n hb hx=>?_,I.base.free,λb o e hx=>?_,I.base.tups,I.base.frzs,I.base.tbls⟩,⟨m,hn.sameBut hs (Ne.symm (cne x c hc)),λj y v' e1 e2 e3=>?_⟩,λy c' e=>?_,I.free,I.freeC,λp hp=>?_,tracked ⟨oc,hoc,I.freeC x c hc⟩ hs,by simpa using I.len⟩ ⟨c,hs,.inr hc⟩
  ·exact(hs.2 b (Nat.ne_of_lt (Nat.lt_of_lt_of_le (Heap.lt_size e) (I.ok.cab x c hfn hc)))).trans (I.base.keep b o e n hb hx)
  ·obtain⟨sl,e1⟩:=I.base.slot b o e n hb hx;exact⟨sl,(hs.2 b (Nat.ne_of_lt (Nat.lt_of_lt_of_le (Heap.lt_size e) (I.ok.cab x c hfn hc)))).trans e1⟩
  ·obtain⟨o',e1⟩:=I.base.there b o e hx;exact⟨o',(hs.2 b (Nat.ne_of_lt (Nat.lt_of_lt_of_le (Heap.lt_size e) (I.ok.cab x c hfn hc)))).trans e1⟩
  ·by_cases hj:j=i
   ·subst hj;rw [hi] at e1;cases e1;rw [getElem?_set_self hiσ] at e2;cases e2;exact⟨u,r,.inr ⟨.inl hk,c,hc,hc'⟩⟩
   ·rw [List.getElem?_set_ne (Ne.symm hj)] at e2;obtain⟨u',r',q⟩:=hl j y v' e1 e2 e3;refine⟨u',r',?_⟩;rcases q with q | ⟨k,c',e,z'⟩
    ·exact .inl q
    ·refine .inr ⟨k,c',e,z'.sameBut hs ?_⟩;rintro rfl;exact hj (Ia hN e1 (I.ok.inj _ _ _ e hc ▸ hi))
  ·by_cases hcc:c'=c
   ·subst hcc;exact⟨_,hc'⟩
   ·obtain⟨w2,z2⟩:=I.cell y c' e;exact⟨w2,z2.sameBut hs hcc⟩
  ·obtain⟨e,n,ne,nf,d⟩:=I.pin p hp;refine⟨(hs.2 p.1 ?_).trans e,n,ne,nf,d⟩;intro q;rw [q,hoc] at e;have q':oc=p.2:=Option.some.inj e;exact d w' (by rw [<-q'];exact hocd)
theorem Ew {A:Around}{x:Str} (I:Ad X pins σ H s) (hN:X.N.Nodup) (hi:X.N[i]? =some x) (hx:Dt X.env.scope x) (r:Ay v u)
  (h:∀s',Ad X pins (σ.set i (some v)) H s'->Q () s') (hf:X.fn x=true\/X.env.scope.names.lookup x=some .local :=by first | exact .inl rfl | exact .inr rfl | assumption):wpAny M A (storeName X.env x u) Q E s:=
 Ib I hN hi hx r (λs' I' _=>h s' I') hf
theorem Ad.call' {s':Shared} (I:Ad X pins σ H s) (ho:s'.os=s.os) (u:Un (AI X.stack) ch H H' s.heap s'.heap) (hok:HOk X.prog X.w H' s'.heap) (hg:AllBare s'.gens)
  (hch:∀b∈ch,(b∈X.ex\/X.s₀.heap.objs.size<=b)/\b≠X.env.locals/\(∀x c,X.env.cells.lookup x=some c->c≠b)/\∀p∈X.pn++pins,p.1≠b):Ad X pins σ H' s':=by
 obtain⟨h',g',d',t',o'⟩:=s';have e:o'=s.os:=ho;subst e;exact I.call (g':=g') (t':=t') (d':=d') u hok hg hch
end
abbrev XK:=Value->Option Addr->Hp->Prop
abbrev St:=List (Option V)
abbrev VK:=V->Hp->Prop
abbrev TE:=St->Hp->VK->Prop
abbrev TT:=St->Hp->(Bool->Hp->Prop)->Prop
abbrev TA:=St->Hp->(List V->Hp->Prop)->Prop
structure CB where
 nx:St->Hp->Prop
 rt:VK
 bk:St->Hp->Prop:=λ_ _=>False
 ct:St->Hp->Prop:=λ_ _=>False
abbrev TS:=CB->St->Hp->Prop
def EP (X:Cx) (pins:PNs) (σ:St) (Q:VK) (u:Value) (s':Shared):Prop:=∃v H',Ad X pins σ H' s'/\Ay v u/\Q v H'
def TP (X:Cx) (pins:PNs) (σ:St) (Q:Bool->Hp->Prop) (b:Bool) (s':Shared):Prop:=∃H',Ad X pins σ H' s'/\Q b H'
def AP (X:Cx) (pins:PNs) (σ:St) (Q:List V->Hp->Prop) (us:List Value) (s':Shared):Prop:=∃vs H',Ad X pins σ H' s'/\Av vs us/\Q vs H'
def SP (X:Cx) (pins:PNs) (D:CB) (f:Flow) (s':Shared):Prop:=
 match f with
 | .next=>∃σ' H',Ad X pins σ' H' s'/\D.nx σ' H'
 | .brk=>∃σ' H',Ad X pins σ' H' s'/\D.bk σ' H'
 | .cont=>∃σ' H',Ad X pins σ' H' s'/\D.ct σ' H'
 | .ret u=>∃v σ' H',Ad X pins σ' H' s'/\Ay v u/\D.rt v H'
def PE (X:Cx) (e:Expr) (t:TE):Prop:=
 ∀(pins:PNs) (s:Shared) (σ:St) (H:Hp) (Q:VK),Ad X pins σ H s->t σ H Q->wpAny (model X.prog X.w) X.A (eval e X.env) (EP X pins σ Q) X.xe s
def PT (X:Cx) (e:Expr) (t:TT):Prop:=
 ∀(pins:PNs) (s:Shared) (σ:St) (H:Hp) (Q:Bool->Hp->Prop),Ad X pins σ H s->t σ H Q->wpAny (model X.prog X.w) X.A (isTrue e X.env (eval e X.env)) (TP X pins σ Q) X.xe s
def PW (X:Cx) (e:Expr) (t:TT):Prop:=
 ∀(whole:Sem Value) (pins:PNs) (s:Shared) (σ:St) (H:Hp) (Q:Bool->Hp->Prop),Ad X pins σ H s->t σ H Q->wpAny (model X.prog X.w) X.A (isTrue e X.env whole) (TP X pins σ Q) X.xe s
theorem PW.pt {X:Cx}{e:Expr}{t:TT} (h:PW X e t):PT X e t:=h _
def PA (X:Cx) (es:List Expr) (t:TA):Prop:=
 ∀(pos:Pos) (pins:PNs) (s:Shared) (σ:St) (H:Hp) (Q:List V->Hp->Prop),Ad X pins σ H s->t σ H Q->wpAny (model X.prog X.w) X.A (spliced (backTo pos (starEach es X.env))) (AP X pins σ Q) X.xe s
def PS (X:Cx) (st:Stmt) (t:TS):Prop:=
 ∀(pins:PNs) (s:Shared) (σ:St) (H:Hp) (D:CB),Ad X pins σ H s->t D σ H->wpAny (model X.prog X.w) X.A (exec st X.env) (SP X pins D) X.xe s
def PSs (X:Cx) (st:List Stmt) (t:TS):Prop:=
 ∀(pins:PNs) (s:Shared) (σ:St) (H:Hp) (D:CB),Ad X pins σ H s->t D σ H->wpAny (model X.prog X.w) X.A (execs st X.env) (SP X pins D) X.xe s
theorem Ao {α:Type}{t:Sem α}{Q Q':α->Shared->Prop}{A:Around}{s:Shared} (h:wpAny M A t Q E s) (hQ:∀a s,Q a s->Q' a s):wpAny M A t Q' E s:=wpAny_mono h hQ λ_ _ x=>x
end L2
namespace L2
variable {E Q : Value -> Shared -> Prop} {pins : List (Addr × Obj)} {s : Shared} {σ : St} {H : Hp} {u : Value}
section
variable {X : Cx}
def Jv (i:Nat):TE:=fun σ H Q=>∃v,σ[i]? =some (some v)/\Q v H
def tC (v:V):TE:=λ_ H Q=>Q v H
theorem F5 {i:Nat}{x:Str}{pos:Pos} (hN:X.N[i]? =some x) (hv:DY X.env.scope x) (hd:(x==("__debug__" :Str))=false:=by decide) (hcd:(x==("__classdict__" :Str))=false:=by decide):PE X (.Name x pos) (Jv i):=by
 intro pins s σ H Q I h;obtain⟨v,e,h⟩:=h;obtain⟨m,hn,hl⟩:=I.loc;obtain⟨u,r,l⟩:=hl i x v hN e hv;have fin:EP X pins σ Q u s:=⟨v,H,I,r,h⟩;rcases l with⟨hk,hm⟩ | ⟨hk,c,hc,hcell⟩
 ·exact wpAny_Name (wpAny_loadName_local I.ok.kind hk hn hm fin) hd
 ·rcases hk with hk | hk
  ·exact wpAny_Name (wpAny_loadName_cell I.ok.kind hk hc hcell fin) hd
  ·exact wpAny_Name (wpAny_loadName_free I.ok.kind hk hc hcell fin hcd) hd
theorem Af {i j pos}:PE X (.Constant (.int i) j pos) (tC (.int i)):=λ_ _ _ H _ I h=>wpAny_Constant_int ⟨.int i,H,I.tok _,⟨_,rfl⟩,h⟩
theorem Bw {b j pos}:PE X (.Constant (.bool b) j pos) (tC (.bl b)):=λ_ _ _ H _ I h=>Constant_bool ⟨.bl b,H,I,rfl,h⟩
theorem Du {j pos}:PE X (.Constant .none j pos) (tC .non):=λ_ _ _ H _ I h=>Constant_none ⟨.non,H,I,rfl,h⟩
theorem AT {x j pos}:PE X (.Constant (.str x) j pos) (tC (.str x)):=λ_ _ _ H _ I h=>Calls.Constant_str ⟨.str x,H,I.tok _,⟨_,rfl⟩,h⟩
def Gl (X:Cx) (x:Str):Prop:=X.env.kindOf x=some .globalImplicit
theorem Ex {x:Str}{pos:Pos} (I:Ad X pins σ H s) (hg:Gl X x) (hm:X.mg x=some u) (h:Q u s)
  (hd:(x==("__debug__" :Str))=false:=by decide):wpAny (model X.prog X.w) X.A (eval (.Name x pos) X.env) Q E s:=
 Calls.Name_function_global I.ok.kind hg (Calls.loadGlobal_global (by rw [I.ok.glob];exact I.mod.glob.keeps I.bk) hm h) hd
theorem Cq {x:Str}{pos:Pos} (I:Ad X pins σ H s) (hg:Gl X x) (hm:X.mg x=none) (hv:bootBuiltins x=some u) (h:Q u s)
  (hn:x≠ "__name__" :=by decide) (hd:(x==("__debug__" :Str))=false:=by decide):wpAny (model X.prog X.w) X.A (eval (.Name x pos) X.env) Q E s:=by
 obtain⟨mb,h1,h2⟩:=I.mod.blt;exact Calls.Name_function_global I.ok.kind hg (Calls.loadGlobal_builtin (by rw [I.ok.glob];exact I.mod.glob.keeps I.bk) hm (by rw [I.ok.blt];exact h1.keeps I.bk) ((h2 x hn).trans hv) h) hd
theorem A5 {x:Str}{v:V}{u:Value}{pos:Pos} (hg:Gl X x) (hm:X.mg x=some u) (r:Ay v u) (hd:(x==("__debug__" :Str))=false:=by decide):PE X (.Name x pos) (tC v):=
 λ_ _ _ H _ I h=>Ex I hg hm ⟨v,H,I,r,h⟩ hd
theorem DZ {x:Str}{v:V}{u:Value}{pos:Pos} (hg:Gl X x) (hm:X.mg x=none) (hv:bootBuiltins x=some u) (r:Ay v u) (hn:x≠ "__name__" :=by decide) (hd:(x==("__debug__" :Str))=false:=by decide):PE X (.Name x pos) (tC v):=
 λ_ _ _ H _ I h=>Cq I hg hm hv ⟨v,H,I,r,h⟩ hn hd
variable {a b : Expr} {ta tb : TE} {pos : Pos}
def tB (t:TE):TT:=fun σ H Q=>t σ H λx H1=>∃c,x= .bl c/\Q c H1
variable {tA tB' : TT} {rest : List Expr}
def ML (t:TT):TT:=fun σ H Q=>t σ H λc H1=>Q (!c) H1
theorem Dv (ha:PT X a tA):PW X (.BoolOp .And [a] pos) tA:=by
 intro wh pins s σ H Q I h;refine isTrue_and (Ao (ha pins s σ H Q I h) λc s1 e=>?_);cases c with
 | true=>exact isTrue_and_nil e
 | false=>exact e
theorem Ey (ha:PT X a tA):PW X (.BoolOp .Or [a] pos) tA:=by
 intro wh pins s σ H Q I h;refine isTrue_or (Ao (ha pins s σ H Q I h) λc s1 e=>?_);cases c with
 | false=>exact isTrue_or_nil e
 | true=>exact e
theorem B5 (ha:PT X a tA):PT X (.UnaryOp .Not a pos) (ML tA):=by
 intro pins s σ H Q I h;exact isTrue_not (ha pins s σ H (λc H1=>Q (!c) H1) I h)
theorem BJ {op}{t:TE} (h:PE X a t):PE X (.BoolOp op [a] pos) t:=λpins s σ H Q I hw=>BoolOp_one (h pins s σ H Q I hw)
end
end L2
namespace L2
variable {i : Nat} {ti : TE} {tg : Expr} {op : Operator} {P : Program}
def Al (K:Fgx) (H:Hp) (a:Addr) (xs:List V):Prop:=
 Rd H a (.lst xs)\/
  ∃(o:Obj) (its:Array Value) (n:Nat),K.lookup a=some o/\o.cls= .type "list" /\o.dict=none/\o.data= .seq its n/\its.size<=sizeLine/\Av xs its.toList
def Ae (K:Fgx) (H:Hp) (a:Addr) (xs:List V):Prop:=
 Rd H a (.tup xs)\/
  ∃(o:Obj) (its:Array Value) (n:Nat),K.lookup a=some o/\o.cls= .type "tuple" /\o.data= .seq its n/\its.size<=sizeLine/\Av xs its.toList
def MM:Value->Option V
 | .none=>some .non
 | .bool b=>some (.bl b)
 | .int i _=>some (.int i)
 | .str x _=>some (.str x)
 | .bytes b _=>some (.byt b)
 | .float b _=>some (.flt b)
 | .ref a=>some (.ref a)
 | .type n=>some (.ty n)
 | _=>none
theorem Ay.abs {x:V}{u:Value} (r:Ay x u):MM u=some x:=by
 cases x with
 | non=>cases r;rfl
 | bl _=>cases r;rfl
 | int _=>obtain⟨t,rfl⟩:=r;rfl
 | str _=>obtain⟨t,rfl⟩:=r;rfl
 | byt _=>obtain⟨t,rfl⟩:=r;rfl
 | flt _=>obtain⟨t,rfl⟩:=r;rfl
 | ref _=>cases r;rfl
 | ty _=>cases r;rfl
theorem Ay.inj {x y:V}{u:Value} (r:Ay x u) (q:Ay y u):x=y:=Option.some.inj (r.abs.symm.trans q.abs)
theorem Av.inj:∀ {xs ys:List V}{us:List Value},Av xs us->Av ys us->xs=ys
 | _,_,_,.nil,.nil=>rfl
 | _,_,_,.cons r t,.cons r' t'=>by rw [r.inj r',Av.inj t t']
section
variable {X : Cx} {pins : List (Addr × Obj)} {σ : St} {H : Hp} {s : Shared} {a : Addr} {xs ys : List V}
theorem Al.of {K:Fgx} (h:H a=some (.lst xs)):Al K H a xs:= .inl (.inl h)
theorem Ae.of {K:Fgx} (h:H a=some (.tup xs)):Ae K H a xs:= .inl (.inl h)
theorem Ad.list (I:Ad X pins σ H s) (h:Al X.K H a xs):∃its:List Value,Av xs its/\PlainL s.heap a its.toArray/\xs.length<=sizeLine:=by
 rcases h with h | ⟨o,its,n,hk,hc,hd,hs,hz,r⟩
 ·obtain⟨z,its,n,r,e⟩:=h.ok I.hok;exact⟨its,r,⟨_,n,e,rfl,rfl,rfl⟩,z⟩
 ·refine⟨its.toList,r,⟨o,n,I.kIn a o hk,hc,hd,by simpa using hs⟩,?_⟩;have e:=r.length;simp only [Array.length_toList] at e;omega
theorem Ad.tuple (I:Ad X pins σ H s) (h:Ae X.K H a xs):∃its:List Value,Av xs its/\IsTup s.heap a its.toArray/\xs.length<=sizeLine:=by
 rcases h with h | ⟨o,its,n,hk,hc,hs,hz,r⟩
 ·obtain⟨z,its,r,p⟩:=h.ok I.hok;exact⟨its,r,p,z⟩
 ·refine⟨its.toList,r,⟨o,I.kIn a o hk,hc,n,by simpa using hs⟩,?_⟩;have e:=r.length;simp only [Array.length_toList] at e;omega
theorem Ad.list_inj (I:Ad X pins σ H s) (h:Al X.K H a xs) (h':Al X.K H a ys):xs=ys:=by
 obtain⟨its,r,⟨o,n,e,_,_,d⟩,_⟩:=I.list h;obtain⟨its',r',⟨o',n',e',_,_,d'⟩,_⟩:=I.list h';rw [e] at e';cases e';rw [d] at d';injection d' with d1 _
 have:its=its':=by simpa using congrArg Array.toList d1
 subst this;exact r.inj r'
theorem Ad.tuple_inj (I:Ad X pins σ H s) (h:Ae X.K H a xs) (h':Ae X.K H a ys):xs=ys:=by
 obtain⟨its,r,⟨o,e,_,n,d⟩,_⟩:=I.tuple h;obtain⟨its',r',⟨o',e',_,n',d'⟩,_⟩:=I.tuple h';rw [e] at e';cases e';rw [d] at d';injection d' with d1 _
 have:its=its':=by simpa using congrArg Array.toList d1
 subst this;exact r.inj r'
end
abbrev Cx.wish (X:Cx) (E:VSP):Cx:= { X with xe:=E}
abbrev Cx.nox (X:Cx):Cx:=X.wish λ_ _=>False
theorem Cx.Ok.wish {X:Cx} (ok:X.Ok) (E:VSP):(X.wish E).Ok:=
 ⟨ok.mod,ok.kind,ok.glob,ok.blt,ok.above,ok.inj,ok.has,ok.cab,ok.hd,ok.frames,ok.stk,ok.exf,ok.bs,ok.bsz,ok.noex,ok.exfs,ok.funs,ok.frf⟩
theorem Cx.Ok.unwish {X:Cx}{E:VSP} (ok:(X.wish E).Ok):X.Ok:=
 ⟨ok.mod,ok.kind,ok.glob,ok.blt,ok.above,ok.inj,ok.has,ok.cab,ok.hd,ok.frames,ok.stk,ok.exf,ok.bs,ok.bsz,ok.noex,ok.exfs,ok.funs,ok.frf⟩
section
variable {X : Cx} {pins : List (Addr × Obj)} {σ : St} {H : Hp} {s : Shared} {E : Value -> Shared -> Prop}
theorem Ad.wish (I:Ad X pins σ H s) (E:VSP):Ad (X.wish E) pins σ H s:=⟨I.ok.wish E,I.os,I.bare,I.base,I.loc,I.cell,I.free,I.freeC,I.pin,I.hok,I.len⟩
theorem Ad.unwish (I:Ad (X.wish E) pins σ H s):Ad X pins σ H s:=⟨I.ok.unwish,I.os,I.bare,I.base,I.loc,I.cell,I.free,I.freeC,I.pin,I.hok,I.len⟩
theorem SP.unwish {D:CB}{f:Flow}{s':Shared} (h:SP (X.wish E) pins D f s'):SP X pins D f s':=by
 cases f with
 | next=>obtain⟨σ',H',I,q⟩:=h;exact⟨σ',H',I.unwish,q⟩
 | brk=>obtain⟨σ',H',I,q⟩:=h;exact⟨σ',H',I.unwish,q⟩
 | cont=>obtain⟨σ',H',I,q⟩:=h;exact⟨σ',H',I.unwish,q⟩
 | ret u=>obtain⟨v,σ',H',I,r,q⟩:=h;exact⟨v,σ',H',I.unwish,r,q⟩
theorem PSs.nox {st:List Stmt}{t:TS} (h:PSs X.nox st t):PSs X st t:=λpins s σ H D I hw=>
 wpAny_mono (h pins s σ H D (I.wish _) hw) (λ_ _ q=>q.unwish) λ_ _ z=>False.elim z
end
section
variable {X : Cx} {st : Stmt} {rest : List Stmt} {t u : TS} {e : Expr} {te : TE} {pos : Pos}
def MN:TS:=λD σ H=>D.nx σ H
def MO (t u:TS):TS:=λD σ H=>t { D with nx:=u D} σ H
theorem A6:PSs X [] MN:=λ_ _ σ H _ I h=>wpAny_execs_nil ⟨σ,H,I,h⟩
theorem Aj (h1:PS X st t) (h2:PSs X rest u):PSs X (st::rest) (MO t u):=by
 intro pins s σ H D I h;refine wpAny_execs_cons (Ao (h1 pins s σ H { D with nx:=u D} I h) λf s1 q=>?_);cases f with
 | next=>
  obtain⟨σ',H',I',q⟩:=q;exact h2 pins s1 σ' H' D I' q
 | ret v=>exact q
 | brk=>exact q
 | cont=>exact q
theorem An (h1:PS X st t):PSs X [st] t:=by
 intro pins s σ H D I h;refine wpAny_execs_cons (Ao (h1 pins s σ H D I h) λf s1 q=>?_);cases f with
 | next=>exact wpAny_execs_nil q
 | ret v=>exact q
 | brk=>exact q
 | cont=>exact q
theorem Ad.quiet {pins:PNs}{σ:St}{H:Hp}{s:Shared} (I:Ad X pins σ H s):interactive X.env=false:=by simp [interactive,I.ok.kind]
def MP (te:TE):TS:=λD σ H=>te σ H λ_ H1=>D.nx σ H1
theorem Br (he:PE X e te) (hs:swapsWith e none pos.line X.env=pure false:=by rfl):PS X (.Expr e pos) (MP te):=by
 intro pins s σ H D I h;exact wpAny_Expr_any (Ao (he pins s σ H _ I h) λv s1 ⟨x,H1,I1,r1,q1⟩=>⟨σ,H1,I1,q1⟩) I.quiet hs
def MQ (te:TE):TS:=λD σ H=>te σ H D.rt
theorem Aw (he:PE X e te):PS X (.Return (some e) pos) (MQ te):=by
 intro pins s σ H D I h;exact wpAny_Return_some (Ao (he pins s σ H _ I h) λv s1 ⟨x,H1,I1,r1,q1⟩=>⟨x,σ,H1,I1,r1,q1⟩)
def MR:TS:=λ_ _ _=>False
theorem F6:PS X st MR:=λ_ _ _ _ _ _ h=>h.elim
end
abbrev TG:=V->St->Hp->(St->Hp->Prop)->Prop
abbrev Dx:=List V->St->Hp->(St->Hp->Prop)->Prop
def PG (X:Cx) (target:Expr) (t:TG):Prop:=
 ∀(pins:PNs) (s:Shared) (σ:St) (H:Hp) (v:V) (u:Value) (Q:St->Hp->Prop),Ad X pins σ H s->Ay v u->t v σ H Q->
  wpAny (model X.prog X.w) X.A (assign target X.env u) (λ_ s'=>∃σ' H',Ad X pins σ' H' s'/\Q σ' H') X.xe s
def Fi (X:Cx) (ts:List Expr) (t:Dx):Prop:=
 ∀(pins:PNs) (s:Shared) (σ:St) (H:Hp) (vs:List V) (us:List Value) (Q:St->Hp->Prop),Ad X pins σ H s->Av vs us->t vs σ H Q->
  wpAny (model X.prog X.w) X.A (assignInOrder ((assignEach ts X.env).map (·.2)) us) (λ_ s'=>∃σ' H',Ad X pins σ' H' s'/\Q σ' H') X.xe s
abbrev Fj:=V->V->V->Hp->(Hp->Prop)->Prop
def Id (X:Cx) (t:Fj):Prop:=
 ∀(pins:PNs) (s:Shared) (σ:St) (H:Hp) (o i v:V) (ov iv u:Value) (Q:Hp->Prop),Ad X pins σ H s->Ay o ov->Ay i iv->Ay v u->t o i v H Q->
  wpAny (model X.prog X.w) X.A (setItem ov iv u) (λ_ s'=>∃H',Ad X pins σ H' s'/\Q H') X.xe s
abbrev Ez:=V->V->Hp->VK->Prop
def F7 (X:Cx) (op:Operator) (t:Ez):Prop:=
 ∀(pins:PNs) (s:Shared) (σ:St) (H:Hp) (x y:V) (v u:Value) (Q:VK),Ad X pins σ H s->Ay x v->Ay y u->t x y H Q->
  wpAny (model X.prog X.w) X.A (inplaceOp op v u) (EP X pins σ Q) X.xe s
section
variable {X : Cx} {pos : Pos}
def Dy (i:Nat):TG:=λv σ H Q=>Q (σ.set i (some v)) H
theorem MS {x:Str} (hN:X.N.Nodup) (hi:X.N[i]? =some x) (hx:Dt X.env.scope x) (hf:X.fn x=true\/X.env.scope.names.lookup x=some .local :=by first | exact .inl rfl | exact .inr rfl | assumption):PG X (.Name x pos) (Dy i):=by
 intro pins s σ H v u Q I r h;exact wpAny_assign_Name (Ew I hN hi hx r (λs' I'=>⟨_,H,I',h⟩) hf)
def MT:Dx:=λvs σ H Q=>vs=[]/\Q σ H
def MU (t:TG) (u:Dx):Dx:=λvs σ H Q=>∃v r,vs=v::r/\t v σ H fun σ' H'=>u r σ' H' Q
theorem AC:Fi X [] MT:=by
 intro pins s σ H vs us Q I r h;obtain⟨e,h⟩:=h;subst e;cases r;exact assignInOrder_nil ⟨σ,H,I,h⟩
theorem Ai {e:Expr}{es:List Expr}{t:TG}{u:Dx} (h1:PG X e t) (h2:Fi X es u)
  (hs:(assignEach (e::es) X.env).map (·.2)=assign e X.env::(assignEach es X.env).map (·.2):=by rfl):Fi X (e::es) (MU t u):=by
 intro pins s σ H vs us Q I r h;obtain⟨v,vr,e1,h⟩:=h;subst e1;cases r with
 | cons r rr=>
  rw [hs];refine assignInOrder_cons (Ao (h1 pins s σ H _ _ _ I r h) λ_ s1 ⟨σ1,H1,I1,q1⟩=>?_);exact h2 pins s1 σ1 H1 _ _ Q I1 rr q1
def Jw (K:Fgx) (n:Nat) (t:Dx):TG:=λv σ H Q=>∃a xs,v= .ref a/\Ae K H a xs/\xs.length=n/\t xs σ H Q
theorem MV {es:List Expr}{k:Nat}{t:Dx}{n:Nat} (hc:X.calm=true) (h:Fi X es t)
  (hn:(assignEach es X.env).length=n:=by rfl) (hst:(assignEach es X.env).findIdx? (·.1)=none:=by rfl):PG X (.Tuple es k pos) (Jw X.K n t):=by
 intro pins s σ H v u Q I r hw;obtain⟨a,xs,e1,hq,hl,hw⟩:=hw;subst e1;cases r;obtain⟨its,rv,ht,hz⟩:=I.tuple hq;refine assign_Tuple_tuple (I.ok.hd hc) ht (by simp [hn,<-hl,rv.length]) hst λh' hx=>?_
 have I1:Ad X pins σ H { s with heap:=h'}:=I.kept (t':=s.toks) λb o e=>hx b o (Nat.ne_of_lt (Heap.lt_size e)) e
 exact h pins _ σ H xs _ Q I1 (by simpa using rv) hw
def MW (to ti:TE) (t:Fj):TG:=λv σ H Q=>to σ H λo H1=>ti σ H1 λi H2=>t o i v H2 λH3=>Q σ H3
theorem Ie {o i:Expr}{to:TE}{t:Fj} (ho:PE X o to) (hi:PE X i ti) (hs:Id X t)
  (ha : ∀ v, assign (.Subscript o i pos) X.env v = (do
   let ov<-holding [v] (eval o X.env)
   let iv<-holding [v,ov] (eval i X.env)
   standAt pos
   holding [v,ov,iv] (setItem ov iv v)
   release [v,ov,iv] []):=by intro _;rfl):PG X (.Subscript o i pos) (MW to ti t):=by
 intro pins s σ H v u Q I r h;rw [ha];refine wpAny_bind (wpAny_holding (Ao (ho pins s σ H _ I h) λov s1 ⟨x,H1,I1,r1,q1⟩=>?_));refine wpAny_bind (wpAny_holding (Ao (hi pins s1 σ H1 _ I1 q1) λiv s2 ⟨y,H2,I2,r2,q2⟩=>?_));refine wpAny_bind (wpAny_standAt (wpAny_bind (wpAny_holding (Ao (hs pins s2 σ H2 x y v ov iv u _ I2 r1 r2 r q2) λ_ s3 ⟨H3,I3,q3⟩=>?_))));exact wpAny_release ⟨σ,H3,I3,q3⟩
def Jx (te:TE) (g:TG):TS:=λD σ H=>te σ H λx H1=>g x σ H1 D.nx
theorem Ba {e:Expr}{te:TE}{g:TG} (he:PE X e te) (hg:PG X tg g) (hs:swapsWithSole [tg] e pos.line X.env=pure false:=by rfl) (hw:swappedStores [tg] e X.env=pure none:=by rfl)
  (h1:(assignEach [tg] X.env).map (·.2)=[assign tg X.env]:=by rfl):PS X (.Assign [tg] e pos) (Jx te g):=by
 intro pins s σ H D I h;refine wpAny_Assign_stores (Ao (he pins s σ H _ I h) λv s1 ⟨x,H1,I1,r1,q1⟩=>?_) hs hw;rw [h1];exact Ao (hg pins s1 σ H1 x v _ I1 r1 q1) λ_ s2 q=>q
theorem AD {i:Nat}{x:Str}{e:Expr}{te:TE}{pos':Pos} (hN:X.N.Nodup) (hi:X.N[i]? =some x) (hx:Dt X.env.scope x) (he:PE X e te) (hs:swapsWith e (some (.Name x pos')) pos.line X.env=pure false:=by rfl) (hf:X.fn x=true\/X.env.scope.names.lookup x=some .local :=by first | exact .inl rfl | exact .inr rfl | assumption):
  PS X (.Assign [.Name x pos'] e pos) (Jx te (Dy i)):=by
 intro pins s σ H D I h;refine wpAny_Assign_Name (Ao (he pins s σ H _ I h) λv s1 ⟨y,H1,I1,r1,q1⟩=>?_) hs;exact Ew I1 hN hi hx r1 (λs2 I2=>⟨_,H1,I2,q1⟩) hf
def MX (i j:Nat) (ta:TA):TS:=λD σ H=>ta σ H λvs H1=>∃v w,vs=[v,w]/\D.nx ((σ.set i (some v)).set j (some w)) H1
theorem Dz {j:Nat}{x y:Str}{a b:Expr}{ta:TA}{px py pt:Pos}{kt k2 pt2} (hc:X.calm=true) (hN:X.N.Nodup) (hi:X.N[i]? =some x) (hj:X.N[j]? =some y) (hij:i≠j)
  (hx:X.env.scope.names.lookup x=some .local) (hy:X.env.scope.names.lookup y=some .local) (ha:PA X [a,b] ta)
  (hw:swappedStores [.Tuple [.Name x px,.Name y py] kt pt] (.Tuple [a,b] k2 pt2) X.env=pure (some [x,y]))
  (hs:swapsWithSole [.Tuple [.Name x px,.Name y py] kt pt] (.Tuple [a,b] k2 pt2) pos.line X.env=pure false:=by rfl):
  PS X (.Assign [.Tuple [.Name x px,.Name y py] kt pt] (.Tuple [a,b] k2 pt2) pos) (MX i j ta):=by
 intro pins s σ H D I h;rw [exec_Assign_arm];refine wpAny_bind (wpAny_standAt ?_);rw [hs];refine wpAny_bind (wpAny_pure ?_);rw [if_neg (by decide)];refine wpAny_bind (Tuple_ (Ao (ha _ pins s σ H _ I h) λus s1 ⟨vs,H1,I1,r1,q1⟩=>?_));obtain⟨v,w,e1,q1⟩:=q1;subst e1;obtain⟨u1,u2,rfl,rv,rw'⟩:∃u1 u2,us=[u1,u2]/\Ay v u1/\Ay w u2:=by
  cases r1 with
  | cons p q=>
   cases q with
   | cons p' q'=>
    cases q';exact⟨_,_,rfl,p,p'⟩
 refine wpAny_newObj_type ?_ (by show 2<=sizeLine;decide);have I2:Ad X pins σ H1 { s1 with heap:=s1.heap.push { cls:= .type "tuple",data:= .seq [u1,u2].toArray}}:=I1.kept (t':=s1.toks) λb o e=>Heap.get?_push_of_some _ e
 rw [hw];refine wpAny_bind (wpAny_pure ?_);show wpAny (model X.prog X.w) X.A (do rule "assign.swapped-stores";let items<-unpackItems (.ref s1.heap.objs.size) 2 none;assignInOrder [λv=>bindName X.env y v,λv=>bindName X.env x v] items.reverse;pure Flow.next) _ _ _;refine wpAny_bind (wpAny_rule (wpAny_bind (unpackItems_tuple (items:= #[u1,u2]) (I.ok.hd hc) (IsTup.new s1.heap _) λh' hx'=>?_)));have I3:=I2.kept (h':=h') (t':=s1.toks) λb o e=>hx' b o (Nat.ne_of_lt (Heap.lt_size e)) e
 show wpAny _ _ (assignInOrder [λv=>bindName X.env y v,λv=>bindName X.env x v] [u2,u1] >>=λ_=>pure Flow.next) _ _ _;refine wpAny_bind (assignInOrder_cons (wpAny_bindName (Ew I3 hN hj (.inl hy) rw' (λs2 I4=>?_) (.inr hy))));refine assignInOrder_cons (wpAny_bindName (Ew I4 hN hi (.inl hx) rv (λs3 I5=>assignInOrder_nil (wpAny_pure ?_)) (.inr hx)));rw [List.set_comm _ _ (Ne.symm hij)] at I5;exact⟨_,H1,I5,q1⟩
def MY (i:Nat) (te:TE) (ti:Ez):TS:=λD σ H=>∃x,σ[i]? =some (some x)/\te σ H λy H1=>ti x y H1 λz H2=>D.nx (σ.set i (some z)) H2
theorem Jy {x:Str}{e:Expr}{te:TE}{ti:Ez}{pos':Pos} (hN:X.N.Nodup) (hi:X.N[i]? =some x) (hx:Dt X.env.scope x) (he:PE X e te) (ho:F7 X op ti) (hf:X.fn x=true\/X.env.scope.names.lookup x=some .local :=by first | exact .inl rfl | exact .inr rfl | assumption):
  PS X (.AugAssign (.Name x pos') op e pos) (MY i te ti):=by
 intro pins s σ H D I h;obtain⟨v,e1,h⟩:=h;obtain⟨m,hn,hl⟩:=I.loc;have vis:DY X.env.scope x:=by rcases hx with k | k;exact .inl k;exact .inr (.inl k)
 obtain⟨u,r,l⟩:=hl i x v hi e1 vis;refine wpAny_AugAssign_Name ?_;have go:wpAny (model X.prog X.w) X.A (eval e X.env) (λw s₂=>wpAny (model X.prog X.w) X.A (inplaceOp op u w) (λr s₃=>wpAny (model X.prog X.w) X.A (storeName X.env x r) (λ_=>SP X pins D .next) X.xe s₃) X.xe s₂) X.xe s:=by
  refine Ao (he pins s σ H _ I h) λw s1 ⟨y,H1,I1,r1,q1⟩=>?_
  refine Ao (ho pins s1 σ H1 v y u w _ I1 r r1 q1) λz s2 ⟨zv,H2,I2,r2,q2⟩=>?_
  exact Ew I2 hN hi hx r2 (λs3 I3=>⟨_,H2,I3,q2⟩) hf
 rcases l with⟨hk,hm⟩ | ⟨hk,c,hc,hcell⟩
 ·exact wpAny_loadName_local I.ok.kind hk hn hm go
 ·rcases hk with hk | hk
  ·exact wpAny_loadName_cell I.ok.kind hk hc hcell go
  ·rcases hx with k | k
   ·have:X.env.scope.names.lookup x=some .free:=hk;rw [k] at this;cases this
   ·have:X.env.scope.names.lookup x=some .free:=hk;rw [k] at this;cases this
def MZ (to ti te:TE) (tget:V->V->Hp->VK->Prop) (tip:Ez) (tset:Fj):TS:=λD σ H=>to σ H λo H1=>ti σ H1 λi H2=>tget o i H2 λx H3=>te σ H3 λy H4=>tip x y H4 λz H5=>tset o i z H5 λH6=>D.nx σ H6
def Jz (X:Cx) (t:V->V->Hp->VK->Prop):Prop:=
 ∀(pins:PNs) (s:Shared) (σ:St) (H:Hp) (o i:V) (ov iv:Value) (Q:VK),Ad X pins σ H s->Ay o ov->Ay i iv->t o i H Q->
  wpAny (model X.prog X.w) X.A (getItem ov iv) (EP X pins σ Q) X.xe s
theorem JA {o i e:Expr}{to te:TE}{tget:V->V->Hp->VK->Prop}{tip:Ez}{tset:Fj}{tpos:Pos} (ho:PE X o to) (hi:PE X i ti) (hg:Jz X tget) (he:PE X e te) (hp:F7 X op tip) (hs:Id X tset)
  (ha:∀ov iv new,augStore i ov iv new=(do holding [new,ov,iv] (setItem ov iv new);release [new,ov,iv] [];pure .next):=by intros;rfl):PS X (.AugAssign (.Subscript o i tpos) op e pos) (MZ to ti te tget tip tset):=by
 intro pins s σ H D I h;refine wpAny_AugAssign_SubscriptAny (Ao (ho pins s σ H _ I h) λov s1 ⟨x1,H1,I1,r1,q1⟩=>?_) ha;refine Ao (hi pins s1 σ H1 _ I1 q1) λiv s2 ⟨x2,H2,I2,r2,q2⟩=>?_
 refine Ao (hg pins s2 σ H2 x1 x2 ov iv _ I2 r1 r2 q2) λold s3 ⟨x3,H3,I3,r3,q3⟩=>?_
 refine Ao (he pins s3 σ H3 _ I3 q3) λv s4 ⟨x4,H4,I4,r4,q4⟩=>?_
 refine Ao (hp pins s4 σ H4 x3 x4 old v _ I4 r3 r4 q4) λnew s5 ⟨x5,H5,I5,r5,q5⟩=>?_
 exact Ao (hs pins s5 σ H5 x1 x2 x5 ov iv new _ I5 r1 r2 r5 q5) λ_ s6 ⟨H6,I6,q6⟩=>⟨σ,H6,I6,q6⟩
def JB (f:Int->Int->Int):Ez:=λx y H Q=>∃i j,x= .int i/\y= .int j/\Q (.int (f i j)) H
theorem Ig:F7 X .Add (JB λi j=>i+j):=by
 intro pins s σ H x y v u Q I r1 r2 h;obtain⟨i,j,e1,e2,q⟩:=h;subst e1;subst e2;obtain⟨t,rfl⟩:=r1;obtain⟨t',rfl⟩:=r2;exact iadd_int ⟨.int _,H,I.tok _,⟨_,rfl⟩,q⟩
theorem M0:F7 X .Sub (JB λi j=>i-j):=by
 intro pins s σ H x y v u Q I r1 r2 h;obtain⟨i,j,e1,e2,q⟩:=h;subst e1;subst e2;obtain⟨t,rfl⟩:=r1;obtain⟨t',rfl⟩:=r2;exact isub_int ⟨.int _,H,I.tok _,⟨_,rfl⟩,q⟩
end
section
variable {X : Cx} {pos : Pos}
def M1 (c:TT) (tb:TS):TS:=λD σ H=>∃W:Nat->St->Hp->Prop,(∃m,W m σ H)/\∀m σ H,W m σ H->
 c σ H λb H1=>if b=true then ∃N:St->Hp->Prop,(∀σ' H',N σ' H'->∃m',m'<m/\W m' σ' H')/\tb { D with nx:=N,ct:=N,bk:=D.nx} σ H1 else D.nx σ H1
theorem M2 {c:Expr}{body:List Stmt}{tc:TT}{tb:TS} (hp:PassesOwn (model X.prog X.w) X.A X.env X.xe) (hc:PT X c tc) (hb:PSs X body tb):PS X (.While c body [] pos) (M1 tc tb):=by
 intro pins s σ H D I h;obtain⟨W,⟨m0,w0⟩,turn⟩:=h;refine wpAny_While (codeAny_whileLoop (λn s'=>∃σ' H',Ad X pins σ' H' s'/\W n σ' H') ?_ m0 ⟨σ,H,I,w0⟩);rintro n s1 ⟨σ1,H1,I1,w1⟩;refine wpAny_passesOwn hp (Ao (hc pins s1 σ1 H1 _ I1 (turn n σ1 H1 w1)) λb s2 ⟨H2,I2,q2⟩=>?_);cases b with
 | true=>
  obtain⟨N,hN,q2⟩:=q2;rw [if_pos rfl];refine wpAny_passesOwn hp (Ao (hb pins s2 σ1 H2 _ I2 q2) λf s3 q3=>?_);cases f with
  | next=>
   obtain⟨σ3,H3,I3,n3⟩:=q3;obtain⟨m',hm,w3⟩:=hN σ3 H3 n3;exact⟨m',hm,σ3,H3,I3,w3⟩
  | cont=>
   obtain⟨σ3,H3,I3,n3⟩:=q3;obtain⟨m',hm,w3⟩:=hN σ3 H3 n3;exact⟨m',hm,σ3,H3,I3,w3⟩
  | brk=>exact q3
  | ret v=>exact q3
 | false=>
  rw [if_neg Bool.false_ne_true];exact wpAny_execs_nil ⟨σ1,H2,I2,q2⟩
end
structure It where
 go:Nat->Hp->Prop
 yld:Nat->Hp->V->Hp->Prop
 stop:Nat->Hp->Prop
def Bx (X:Cx) (pins:PNs) (H:Hp) (b:Addr):Prop:=
 H b=none/\b≠X.env.locals/\b ∉ X.fs/\(b∈X.ex\/X.s₀.heap.objs.size<=b)/\(∀x c,X.env.cells.lookup x=some c->c≠b)/\∀p∈X.pn++pins,p.1≠b
theorem Ad.fpOk {X:Cx}{pins:PNs}{σ:St}{H H':Hp}{s:Shared}{b:Addr} (I:Ad X pins σ H s) (hb:s.heap.objs.size<=b) (hn:H' b=none):Bx X pins H' b:=by
 refine⟨hn,Nat.ne_of_gt (Nat.lt_of_lt_of_le I.lt hb),I.nofs hb,.inr (Nat.le_trans I.sz hb),λx c e z=>?_,λp hp z=>?_⟩
 ·obtain⟨v,q⟩:=I.cell x c e;exact absurd (Nat.lt_of_lt_of_le q.lt (by rw [z];exact hb)) (Nat.lt_irrefl _)
 ·exact absurd (Nat.lt_of_lt_of_le (Heap.lt_size (I.pin p hp).1) (by rw [z];exact hb)) (Nat.lt_irrefl _)
structure CC (P:Program) (w:World) (K:Fgx) (tg:Expr) (J:It) (fp:List Addr) (it:Addr) (tn:Nat->Heap->Prop):Prop where
 mem:it∈fp
 obj:∀i h,tn i h->∀b∈fp,∃o,h.get? b=some o/\∀v,o.data≠ .cell v
 keep:∀i h h',tn i h->(∀b∈fp,∀o,h.get? b=some o->h'.get? b=some o)->tn i h'
 item:∀(X:Cx),X.prog=P->X.w=w->X.K=K->X.calm=true->∀(i:Nat) (pins:PNs) (s:Shared) (σ:St) (H:Hp) (E:VSP),Ad X pins σ H s->(∀b∈fp,Bx X pins H b)->tn i s.heap->J.go i H->
  wpAny (model P w) X.A (pyNext (.ref it)) (λr s1=>∃u,r=some u/\
   wpAny (model P w) X.A (letOwnedTupleGo tg (.ref it) u) (λ_ s2=>∃x H',Ad X pins σ H' s2/\Ay x u/\J.yld i H x H'/\tn (i+1) s2.heap/\∀b∈fp,H' b=none) E s1) E s
 done:∀(X:Cx),X.prog=P->X.w=w->X.K=K->X.calm=true->∀(i:Nat) (pins:PNs) (s:Shared) (σ:St) (H:Hp) (E:VSP),Ad X pins σ H s->(∀b∈fp,Bx X pins H b)->tn i s.heap->J.stop i H->
  wpAny (model P w) X.A (pyNext (.ref it)) (λr s1=>r=none/\Ad X pins σ H s1) E s
 self:∀(A:Around) (i:Nat) (s:Shared) (Q:VSP) (E:VSP),tn i s.heap->Q (.ref it) s->wpAny (model P w) A (pyIter (.ref it)) Q E s
abbrev TI:=St->Hp->(It->Hp->Prop)->Prop
def JC (X:Cx) (pins:PNs) (σ:St) (tg:Expr) (R:It->Hp->Prop) (itv:Value) (s2:Shared):Prop:=
 ∃(it:Addr) (fp:List Addr) (tn:Nat->Heap->Prop) (J:It) (H':Hp),itv= .ref it/\Ad X pins σ H' s2/\CC X.prog X.w X.K tg J fp it tn/\tn 0 s2.heap/\(∀b∈fp,Bx X pins H' b)/\R J H'
def PI (X:Cx) (tg iter:Expr) (wi:TI):Prop:=
 ∀(pins:PNs) (s:Shared) (σ:St) (H:Hp) (R:It->Hp->Prop),Ad X pins σ H s->wi σ H R->
  wpAny (model X.prog X.w) X.A (eval iter X.env) (λv s1=>wpAny (model X.prog X.w) X.A (pyIter v) (JC X pins σ tg R) X.xe s1) X.xe s
theorem F8 {M:Model}{A:Around}{E:VSP}{s:Shared}{tg:Expr}{it:Addr}{u:Value}{o:Obj}{n:String}{vs:Array Value}{Q:Unit->Shared->Prop} (ho:s.heap.get? it=some o) (hc:o.cls= .type n) (hd:o.data= .fields vs)
    (hn:["enumerate","zip","dict_itemiterator","dict_reverseitemiterator","odict_iterator","itertools.zip_longest","itertools.pairwise"].contains n=false) (hQ:Q () s):wpAny M A (letOwnedTupleGo tg (.ref it) u) Q E s:=by
  unfold letOwnedTupleGo;cases tg<;>first
    | exact wpAny_pure hQ
    | (cases u<;>first
        | exact wpAny_pure hQ
        | (refine wpAny_bind (wpAny_load ho ?_)
           rw [hc,hd];show wpAny M A (if (["enumerate","zip","dict_itemiterator","dict_reverseitemiterator","odict_iterator","itertools.zip_longest","itertools.pairwise"].contains n && vs[0]? ==some (rawInt _))=true then _ else _) Q E s;rw [if_neg (by intro h;rw [hn,Bool.false_and] at h;cases h)];exact wpAny_pure hQ))
def EA (K:Fgx) (a:Addr):It:=
 ⟨λi H=>∃xs x,Al K H a xs/\xs[i]? =some x,λi H x H'=>H'=H/\∀xs,Al K H a xs->xs[i]? =some x,λi H=>∃xs,Al K H a xs/\xs.length<=i⟩
def D0 (K:Fgx) (a:Addr):It:=
 ⟨λi H=>∃xs x,Ae K H a xs/\xs[i]? =some x,λi H x H'=>H'=H/\∀xs,Ae K H a xs->xs[i]? =some x,λi H=>∃xs,Ae K H a xs/\xs.length<=i⟩
def CN (lo:Int) (n:Nat):It:=⟨λi _=>i<n,λi H x H'=>H'=H/\x= .int (lo+i),λi _=>n<=i⟩
theorem M3 {w:World}{K:Fgx} (a it:Addr):CC P w K tg (EA K a) [it] it (λi h=>h.IsListIter it a i) where
 mem:=by simp
 obj:=λi h st b hb=>by
  have e:b=it:=by simpa using hb
  subst e;obtain⟨o,e,c,d⟩:=st;exact⟨o,e,λv z=>by rw [d] at z;cases z⟩
 keep:=λi h h' st k=>st.at λo e=>k it (by simp) o e
 item:=by
  intro X hP hw hK hc i pins s σ H E I hf st hg;subst hP hw hK;obtain⟨xs,x,hq,hx⟩:=hg;obtain⟨its,rv,p,hz⟩:=I.list hq;obtain⟨u,hu,ru⟩:=rv.get hx;obtain⟨f0,f1,f2,f3,f4,f5⟩:=hf it (by simp);refine wpAny_pyNext_list_item st p.isList (x:=u) (by simpa using hu) λh' st' sb=>?_
  have I1:Ad X pins σ H { s with heap:=h'}:=I.turned (t':=s.toks) (λb o hb e=>(sb.2 b hb).trans e) f0 f1 f3 f4 f5;obtain⟨o,e,c,d⟩:=id st';exact⟨u,rfl,F8 (s:= { s with heap:=h'}) e c d (by decide) ⟨x,H,I1,ru,⟨rfl,λys hy=>by rw [I.list_inj hy hq];exact hx⟩,st',λb hb=>(hf b hb).1⟩⟩
 done:=by
  intro X hP hw hK hc i pins s σ H E I hf st hg;subst hP hw hK;obtain⟨xs,hq,hx⟩:=hg;obtain⟨its,rv,p,hz⟩:=I.list hq;obtain⟨f0,f1,f2,f3,f4,f5⟩:=hf it (by simp);have hl:=rv.length;exact wpAny_pyNext_list_end (I.ok.hd hc) st p.isList (by simp;omega) λh' eb=>⟨rfl,I.turned (t':=s.toks) (λb o hb e=>eb b o hb e) f0 f1 f3 f4 f5⟩
 self:=λ_ _ _ _ _ st h=>wpAny_pyIter_listiter st h
theorem M4 {w:World}{K:Fgx} (a it:Addr):CC P w K tg (D0 K a) [it] it (λi h=>h.IsTupleIter it a i) where
 mem:=by simp
 obj:=λi h st b hb=>by
  have e:b=it:=by simpa using hb
  subst e;obtain⟨o,e,c,d⟩:=st;exact⟨o,e,λv z=>by rw [d] at z;cases z⟩
 keep:=λi h h' st k=>st.at λo e=>k it (by simp) o e
 item:=by
  intro X hP hw hK hc i pins s σ H E I hf st hg;subst hP hw hK;obtain⟨xs,x,hq,hx⟩:=hg;obtain⟨its,rv,p,hz⟩:=I.tuple hq;obtain⟨u,hu,ru⟩:=rv.get hx;obtain⟨f0,f1,f2,f3,f4,f5⟩:=hf it (by simp);refine wpAny_pyNext_tuple_item st (show s.heap.IsTuple a its.toArray from p) (x:=u) (by simpa using hu) λh' st' sb=>?_
  have I1:Ad X pins σ H { s with heap:=h'}:=I.turned (t':=s.toks) (λb o hb e=>(sb.2 b hb).trans e) f0 f1 f3 f4 f5;obtain⟨o,e,c,d⟩:=id st';exact⟨u,rfl,F8 (s:= { s with heap:=h'}) e c d (by decide) ⟨x,H,I1,ru,⟨rfl,λys hy=>by rw [I.tuple_inj hy hq];exact hx⟩,st',λb hb=>(hf b hb).1⟩⟩
 done:=by
  intro X hP hw hK hc i pins s σ H E I hf st hg;subst hP hw hK;obtain⟨xs,hq,hx⟩:=hg;obtain⟨its,rv,p,hz⟩:=I.tuple hq;obtain⟨f0,f1,f2,f3,f4,f5⟩:=hf it (by simp);have hl:=rv.length;exact wpAny_pyNext_tuple_end (I.ok.hd hc) st (show s.heap.IsTuple a its.toArray from p) (by simp;omega) λh' eb=>⟨rfl,I.turned (t':=s.toks) (λb o hb e=>eb b o hb e) f0 f1 f3 f4 f5⟩
 self:=λ_ _ _ _ _ st h=>wpAny_pyIter_tupleiter st h
theorem M5 {w:World}{K:Fgx} (it:Addr) (lo:Int) (n:Nat):CC P w K tg (CN lo n) [it] it (λi h=>IsRangeIter h it (lo+(i:Nat) * 1) ((n:Int)-(i:Nat)) 1) where
 mem:=by simp
 obj:=λi h st b hb=>by
  have e:b=it:=by simpa using hb
  subst e;exact⟨_,st,λv z=>by
   have z':Data.fields _=Data.cell v:=z;cases z'⟩
 keep:=λi h h' st k=>k it (by simp) _ st
 item:=by
  intro X hP hw hK hc i pins s σ H E I hf st hg;subst hP hw hK;obtain⟨f0,f1,f2,f3,f4,f5⟩:=hf it (by simp);have W:=Walks.range (prog:=X.prog) (w:=X.w) (I.ok.hd hc) it lo 1 n;refine W.item i s _ _ hg st λv h' tk hv st' kk=>?_
  obtain⟨t,rfl⟩:=hv;have I1:Ad X pins σ H { s with heap:=h',toks:=tk}:=I.turned (λb o hb e=>kk b o (by simpa using hb) e) f0 f1 f3 f4 f5;refine⟨_,rfl,F8 (s:= { s with heap:=h',toks:=tk}) (n:="range_iterator") st' rfl rfl (by decide) ⟨.int (lo+i),H,I1,⟨t,?_⟩,⟨rfl,rfl⟩,st',λb hb=>(hf b hb).1⟩⟩;rw [Int.mul_one]
 done:=by
  intro X hP hw hK hc i pins s σ H E I hf st hg;subst hP hw hK;obtain⟨f0,f1,f2,f3,f4,f5⟩:=hf it (by simp);exact wpAny_pyNext_range_end (I.ok.hd hc) st (by have:n<=i:=hg;omega) λh' eb=>⟨rfl,I.turned (t':=s.toks) (λb o hb e=>eb b o hb e) f0 f1 f3 f4 f5⟩
 self:=λ_ _ _ _ _ st h=>wpAny_pyIter_rangeiter st h
end L2
namespace L2
variable {tl : TE} {pins : List (Addr × Obj)} {σ : St} {H : Hp} {s : Shared} {ta : TA} {p pos : Pos} {fp : List Addr} {h : Heap} {g : TG} {tb : TS} {xs : List V} {D : CB}
section
variable {X : Cx} {tg : Expr}
def JD (K:Fgx) (tl:TE):TI:=fun σ H R=>tl σ H λx H1=>∃a,x= .ref a/\(∃xs,Al K H1 a xs)/\R (EA K a) H1
def JE (K:Fgx) (tl:TE):TI:=fun σ H R=>tl σ H λx H1=>∃a,x= .ref a/\(∃xs,Ae K H1 a xs)/\R (D0 K a) H1
theorem M6 {l:Expr} (hl:PE X l tl):PI X tg l (JD X.K tl):=by
 intro pins s σ H R I h;refine Ao (hl pins s σ H _ I h) λv s1 ⟨x,H1,I1,r1,q1⟩=>?_
 obtain⟨a,e,⟨xs,hq⟩,q⟩:=q1;subst e;cases r1;obtain⟨its,rv,p,hz⟩:=I1.list hq;refine wpAny_pyIter_list p.isList ?_;refine⟨s1.heap.objs.size,[s1.heap.objs.size],_,_,H1,rfl,I1.kept (t':=s1.toks) λb o e=>Heap.get?_push_of_some _ e,M3 a _,⟨_,Heap.get?_push_size _ rfl,rfl,rfl⟩,λb hb=>?_,q⟩;have e:b=s1.heap.objs.size:=by simpa using hb
 subst e;exact I1.fpOk (Nat.le_refl _) (I1.hok.fresh (Nat.le_refl _))
theorem M7 {l:Expr} (hl:PE X l tl):PI X tg l (JE X.K tl):=by
 intro pins s σ H R I h;refine Ao (hl pins s σ H _ I h) λv s1 ⟨x,H1,I1,r1,q1⟩=>?_
 obtain⟨a,e,⟨xs,hq⟩,q⟩:=q1;subst e;cases r1;obtain⟨its,rv,p,hz⟩:=I1.tuple hq;refine wpAny_pyIter_tuple (show s1.heap.IsTuple a its.toArray from p) ?_;refine⟨s1.heap.objs.size,[s1.heap.objs.size],_,_,H1,rfl,I1.kept (t':=s1.toks) λb o e=>Heap.get?_push_of_some _ e,M4 a _,⟨_,Heap.get?_push_size _ rfl,rfl,rfl⟩,λb hb=>?_,q⟩;have e:b=s1.heap.objs.size:=by simpa using hb
 subst e;exact I1.fpOk (Nat.le_refl _) (I1.hok.fresh (Nat.le_refl _))
theorem JF {R:It->Hp->Prop}{E:VSP}{lo hi:Int}{t u v:Tok}{tk:Nat} (I:Ad X pins σ H s) (h1: -(2 ^ 62)<=lo) (h2:lo<2 ^ 62) (h3: -(2 ^ 62)<=hi) (h4:hi<2 ^ 62)
  (q:R (CN lo (hi-lo).toNat) H):wpAny (model X.prog X.w) X.A (pyIter (.ref s.heap.objs.size)) (JC X pins σ tg R) E { s with heap:=s.heap.push { cls:= .type "range",data:= .fields #[.int lo t,.int hi u,.int 1 v]},toks:=tk}:=by
 refine wpAny_pyIter_range (IsRange.new ..) (small_one h1 h2 h3 h4) ?_;have I1:Ad X pins σ H { s with heap:=s.heap.push { cls:= .type "range",data:= .fields #[.int lo t,.int hi u,.int 1 v]},toks:=tk}:=I.kept λb o e=>Heap.get?_push_of_some _ e
 refine⟨(s.heap.push { cls:= .type "range",data:= .fields #[.int lo t,.int hi u,.int 1 v]}).objs.size,[(s.heap.push { cls:= .type "range",data:= .fields #[.int lo t,.int hi u,.int 1 v]}).objs.size],_,_,H,rfl,
  I1.kept (t':=tk) λb o e=>Heap.get?_push_of_some _ e,M5 _ lo (hi-lo).toNat,?_,λb hb=>?_,q⟩
 ·have e1:lo+((0:Nat):Int) * 1=lo:=by simp
  have e2:(((hi-lo).toNat:Nat):Int)-((0:Nat):Int)=Builtin.Range.rangeSize lo hi 1:=by rw [rangeSize_one];split<;>omega
  show IsRangeIter _ _ (lo+((0:Nat):Int) * 1) ((((hi-lo).toNat:Nat):Int)-((0:Nat):Int)) 1;rw [e1,e2];exact Heap.get?_push_size _ rfl
 ·have e:b=(s.heap.push { cls:= .type "range",data:= .fields #[.int lo t,.int hi u,.int 1 v]}).objs.size:=by simpa using hb
  subst e;exact I1.fpOk (Nat.le_refl _) (I1.hok.fresh (Nat.le_refl _))
def M8 (ta:TA):TI:=fun σ H R=>ta σ H λvs H1=>∃j:Int,vs=[.int j]/\ -(2 ^ 62)<=j/\j<2 ^ 62/\R (CN 0 j.toNat) H1
def M9 (ta:TA):TI:=fun σ H R=>ta σ H λvs H1=>∃i j:Int,vs=[.int i,.int j]/\(-(2 ^ 62)<=i/\i<2 ^ 62/\ -(2 ^ 62)<=j/\j<2 ^ 62)/\R (CN i (j-i).toNat) H1
theorem BQ {a:Expr} (hg:Gl X "range") (hm:X.mg "range"=none) (ha:PA X [a] ta) (hs:starEach [a] X.env=[(false,eval a X.env)]:=by rfl):PI X tg (.Call (.Name "range" p) [a] [] pos) (M8 ta):=by
 intro pins s σ H R I h;refine Call_ (Cq I hg hm boot_range (PyProof.Rows.callWith_type1 (Ao (ha pos pins s σ H _ I h) λus s1 ⟨vs,H1,I1,r1,q1⟩=>?_) hs rfl));obtain⟨j,e,q1,q2,q⟩:=q1;subst e;cases r1 with
 | cons r rr=>
  cases rr;obtain⟨t,rfl⟩:=r;exact call_range_1 (JF I1 (by omega) (by omega) q1 q2 (by simpa using q))
theorem JG {a b:Expr} (hg:Gl X "range") (hm:X.mg "range"=none) (ha:PA X [a,b] ta) (hs:starEach [a,b] X.env=[(false,eval a X.env),(false,eval b X.env)]:=by rfl) (hs2:starEach [b] X.env=[(false,eval b X.env)]:=by rfl):
  PI X tg (.Call (.Name "range" p) [a,b] [] pos) (M9 ta):=by
 intro pins s σ H R I h;refine Call_ (Cq I hg hm boot_range (PyProof.Rows.callWith_type1 (Ao (ha pos pins s σ H _ I h) λus s1 ⟨vs,H1,I1,r1,q1⟩=>?_) (by rw [hs,hs2]) (by rw [hs2];rfl)));obtain⟨i,j,e,⟨q1,q2,q3,q4⟩,q⟩:=q1;subst e;cases r1 with
 | cons r rr=>
  cases rr with
  | cons r' rr=>
   cases rr;obtain⟨t,rfl⟩:=r;obtain⟨t',rfl⟩:=r';exact call_range_2 (JF I1 q1 q2 q3 q4 q)
def Na (wi:TI) (g:TG) (tb:TS):TS:=λD σ H=>wi σ H λJ H1=>∃W:Nat->Nat->St->Hp->Prop,(∃m,W 0 m σ H1)/\∀i m σ H,W i m σ H->
 (J.stop i H/\D.nx σ H)\/(J.go i H/\∃N:St->Hp->Prop,(∀σ' H',N σ' H'->∃m',m'<m/\W (i+1) m' σ' H')/\∀x H',J.yld i H x H'->g x σ H' fun σ2 H2=>tb { D with nx:=N,ct:=N,bk:=D.nx} σ2 H2)
def CD (fp:List Addr) (h:Heap):PNs:=fp.filterMap λb=>(h.get? b).map λo=>(b,o)
theorem EB {b:Addr}{o:Obj} (hb:b∈fp) (e:h.get? b=some o):(b,o)∈CD fp h:=mem_filterMap.mpr ⟨b,hb,by rw [e];rfl⟩
theorem Ih {p:Addr×Obj} (hp:p∈CD fp h):p.1∈fp/\h.get? p.1=some p.2:=by
 obtain⟨b,hb,e⟩:=mem_filterMap.mp hp;cases q:h.get? b with
 | none=>rw [q] at e;cases e
 | some o=>
  rw [q] at e;have e':(b,o)=p:=Option.some.inj e;subst e';exact⟨hb,q⟩
theorem Ad.pinned (I:Ad X pins σ H s) (hf:∀b∈fp,Bx X pins H b) (ho:∀b∈fp,∃o,s.heap.get? b=some o/\∀v,o.data≠ .cell v):Ad X (pins++CD fp s.heap) σ H s:=
 I.pins_of λp hp=>(mem_append.mp hp).elim (λz=>I.pin p (mem_append_right _ z)) λz=>by
  obtain⟨hb,e⟩:=Ih z;obtain⟨f0,f1,f2,_⟩:=hf p.1 hb;obtain⟨o,e',d⟩:=ho p.1 hb;rw [e] at e';cases e';exact⟨e,f0,f1,f2,d⟩
theorem Ad.unpinned {pl:PNs} (I:Ad X (pins++pl) σ H s):Ad X pins σ H s:=I.pins_of λp hp=>I.pin p (mem_append_right _ (mem_append_left _ hp))
theorem Bs {iter:Expr}{body:List Stmt}{wi:TI} (hp:PassesOwn (model X.prog X.w) X.A X.env X.xe) (hc:X.calm=true) (hi:PI X tg iter wi) (hg:PG X tg g) (hb:PSs X body tb)
  (hs:∀x,foldedSetIterable iter X.env x=pure x:=by intro _;rfl):PS X (.For tg iter body [] pos) (Na wi g tb):=by
 intro pins s σ H D I h;refine wpAny_For (Ao (hi pins s σ H _ I h) λv s1 h1=>Ao h1 λitv s2 h2=>?_) hs;obtain⟨it,fp,tn,J,H2,e,I2,T,st2,f2,W,⟨m0,w0⟩,turn⟩:=h2;subst e;have stat:∀ {H':Hp},(∀b∈fp,H' b=none)->∀b∈fp,Bx X pins H' b:=λhn b hb=>⟨hn b hb,(f2 b hb).2⟩
 refine codeAny_forLoop_any (λn s'=>∃i σ' H',Ad X pins σ' H' s'/\tn i s'.heap/\(∀b∈fp,H' b=none)/\W i n σ' H') ?_ m0 ⟨0,σ,H2,I2,st2,λb hb=>(f2 b hb).1,w0⟩;rintro n s3 ⟨i,σ3,H3,I3,st3,fr3,w3⟩;rcases turn i n σ3 H3 w3 with⟨stop,qn⟩ | ⟨go,N,hN,step⟩
 ·refine wpAny_passesOwn hp (Ao (T.done X rfl rfl rfl hc i pins s3 σ3 H3 X.xe I3 (stat fr3) st3 stop) λr s4 ⟨hr,I4⟩=>?_);subst hr;exact wpAny_execs_nil ⟨σ3,H3,I4,qn⟩
 ·refine wpAny_passesOwn hp (Ao (T.item X rfl rfl rfl hc i pins s3 σ3 H3 X.xe I3 (stat fr3) st3 go) λr s4 ⟨u,hr,h4⟩=>?_);subst hr;refine wpAny_passesOwn hp (Ao h4 λ_ s5 ⟨x,H5,I5,r5,y5,st5,fr5⟩=>?_);have I5':=I5.pinned (stat fr5) (T.obj _ _ st5);refine wpAny_passesOwn hp (Ao (hg _ s5 σ3 H5 x u _ I5' r5 (step x H5 y5)) λ_ s6 ⟨σ6,H6,I6,q6⟩=>?_);refine wpAny_passesOwn hp (Ao (hb _ s6 σ6 H6 _ I6 q6) λf s7 q7=>?_);have again:∀ {σ7:St}{H7:Hp},Ad X (pins++CD fp s5.heap) σ7 H7 s7->N σ7 H7->∃m,m<n/\∃i σ' H',Ad X pins σ' H' s7/\tn i s7.heap/\(∀b∈fp,H' b=none)/\W i m σ' H':=λ{σ7 H7} I7 n7=>by
   obtain⟨m',hm,w7⟩:=hN σ7 H7 n7;refine⟨m',hm,i+1,σ7,H7,I7.unpinned,T.keep _ _ _ st5 λb hb o e=>(I7.pin (b,o) (mem_append_right _ (mem_append_right _ (EB hb e)))).1,λb hb=>?_,w7⟩;obtain⟨o,e,d⟩:=T.obj _ _ st5 b hb;exact(I7.pin (b,o) (mem_append_right _ (mem_append_right _ (EB hb e)))).2.1
  cases f with
  | next=>obtain⟨σ7,H7,I7,n7⟩:=q7;exact again I7 n7
  | cont=>obtain⟨σ7,H7,I7,n7⟩:=q7;exact again I7 n7
  | brk=>obtain⟨σ7,H7,I7,q7⟩:=q7;exact⟨σ7,H7,I7.unpinned,q7⟩
  | ret v=>obtain⟨x7,σ7,H7,I7,r7,q7⟩:=q7;exact⟨x7,σ7,H7,I7.unpinned,r7,q7⟩
end
theorem Ii {K:Fgx}{a:Addr} (Pv:Nat->St->Hp->Prop) (h0:Pv 0 σ H) (hl:∀i σ H,i<=xs.length->Pv i σ H->Al K H a xs)
  (hs:∀i x σ H,xs[i]? =some x->Pv i σ H->g x σ H fun σ2 H2=>tb { D with nx:=Pv (i+1),ct:=Pv (i+1),bk:=D.nx} σ2 H2) (hd:∀σ H,Pv xs.length σ H->D.nx σ H):
  ∃W:Nat->Nat->St->Hp->Prop,(∃m,W 0 m σ H)/\∀i m σ H,W i m σ H->
   ((EA K a).stop i H/\D.nx σ H)\/((EA K a).go i H/\∃N:St->Hp->Prop,(∀σ' H',N σ' H'->∃m',m'<m/\W (i+1) m' σ' H')/\∀x H',(EA K a).yld i H x H'->g x σ H' fun σ2 H2=>tb { D with nx:=N,ct:=N,bk:=D.nx} σ2 H2):=by
 refine⟨λi m σ H=>m=xs.length-i/\i<=xs.length/\Pv i σ H,⟨xs.length,by simp,Nat.zero_le _,h0⟩,?_⟩;rintro i m σ H ⟨rfl,hi,p⟩;have q:=hl i σ H hi p
 by_cases hlt:i<xs.length
 ·refine .inr ⟨⟨xs,xs[i],q,by simp [hlt]⟩,Pv (i+1),fun σ' H' p'=>⟨xs.length-(i+1),by omega,rfl,hlt,p'⟩,λx H' y=>?_⟩;obtain⟨e,y⟩:=y;subst e;exact hs i x σ _ (y xs q) p
 ·have e:i=xs.length:=by omega
  subst e;exact .inl ⟨⟨xs,q,Nat.le_refl _⟩,hd σ H p⟩
theorem JH {K:Fgx}{a:Addr} (Pv:Nat->St->Hp->Prop) (h0:Pv 0 σ H) (hl:∀i σ H,i<=xs.length->Pv i σ H->Ae K H a xs)
  (hs:∀i x σ H,xs[i]? =some x->Pv i σ H->g x σ H fun σ2 H2=>tb { D with nx:=Pv (i+1),ct:=Pv (i+1),bk:=D.nx} σ2 H2) (hd:∀σ H,Pv xs.length σ H->D.nx σ H):
  ∃W:Nat->Nat->St->Hp->Prop,(∃m,W 0 m σ H)/\∀i m σ H,W i m σ H->
   ((D0 K a).stop i H/\D.nx σ H)\/((D0 K a).go i H/\∃N:St->Hp->Prop,(∀σ' H',N σ' H'->∃m',m'<m/\W (i+1) m' σ' H')/\∀x H',(D0 K a).yld i H x H'->g x σ H' fun σ2 H2=>tb { D with nx:=N,ct:=N,bk:=D.nx} σ2 H2):=by
 refine⟨λi m σ H=>m=xs.length-i/\i<=xs.length/\Pv i σ H,⟨xs.length,by simp,Nat.zero_le _,h0⟩,?_⟩;rintro i m σ H ⟨rfl,hi,p⟩;have q:=hl i σ H hi p
 by_cases hlt:i<xs.length
 ·refine .inr ⟨⟨xs,xs[i],q,by simp [hlt]⟩,Pv (i+1),fun σ' H' p'=>⟨xs.length-(i+1),by omega,rfl,hlt,p'⟩,λx H' y=>?_⟩;obtain⟨e,y⟩:=y;subst e;exact hs i x σ _ (y xs q) p
 ·have e:i=xs.length:=by omega
  subst e;exact .inl ⟨⟨xs,q,Nat.le_refl _⟩,hd σ H p⟩
theorem C1 {lo:Int}{n:Nat} (Pv:Nat->St->Hp->Prop) (h0:Pv 0 σ H)
  (hs:∀i σ H,i<n->Pv i σ H->g (.int (lo+i)) σ H fun σ2 H2=>tb { D with nx:=Pv (i+1),ct:=Pv (i+1),bk:=D.nx} σ2 H2) (hd:∀σ H,Pv n σ H->D.nx σ H):
  ∃W:Nat->Nat->St->Hp->Prop,(∃m,W 0 m σ H)/\∀i m σ H,W i m σ H->
   ((CN lo n).stop i H/\D.nx σ H)\/((CN lo n).go i H/\∃N:St->Hp->Prop,(∀σ' H',N σ' H'->∃m',m'<m/\W (i+1) m' σ' H')/\∀x H',(CN lo n).yld i H x H'->g x σ H' fun σ2 H2=>tb { D with nx:=N,ct:=N,bk:=D.nx} σ2 H2):=by
 refine⟨λi m σ H=>m=n-i/\i<=n/\Pv i σ H,⟨n,by simp,Nat.zero_le _,h0⟩,?_⟩;rintro i m σ H ⟨rfl,hi,p⟩
 by_cases hlt:i<n
 ·refine .inr ⟨hlt,Pv (i+1),fun σ' H' p'=>⟨n-(i+1),by omega,rfl,hlt,p'⟩,λx H' y=>?_⟩;obtain⟨e,y⟩:=y;subst e y;exact hs i σ _ hlt p
 ·have e:i=n:=by omega
  subst e;exact .inl ⟨Nat.le_refl _,hd σ H p⟩
end L2
namespace L2
variable {g : Int -> Int -> Int} {i j : Int} {us : List Value}
abbrev R2:=V->V->Hp->VK->Prop
def OpR (X:Cx) (f:Value->Value->Sem Value) (r:R2):Prop:=
 ∀(pins:PNs) (s:Shared) (σ:St) (H:Hp) (x y:V) (v u:Value) (Q:VK),Ad X pins σ H s->Ay x v->Ay y u->r x y H Q->
  wpAny (model X.prog X.w) X.A (f v u) (EP X pins σ Q) X.xe s
def Ij (X:Cx) (f:Value->Sem Value) (r:V->Hp->VK->Prop):Prop:=
 ∀(pins:PNs) (s:Shared) (σ:St) (H:Hp) (x:V) (v:Value) (Q:VK),Ad X pins σ H s->Ay x v->r x H Q->
  wpAny (model X.prog X.w) X.A (f v) (EP X pins σ Q) X.xe s
def Bk (X:Cx) (f:Value) (r:List V->Hp->VK->Prop):Prop:=
 ∀(pins:PNs) (s:Shared) (σ:St) (H:Hp) (xs:List V) (us:List Value) (Q:VK),Ad X pins σ H s->Av xs us->r xs H Q->
  wpAny (model X.prog X.w) X.A (call f us) (EP X pins σ Q) X.xe s
def Fk (r:R2) (ta tb:TE):TE:=fun σ H Q=>ta σ H λx H1=>tb σ H1 λy H2=>r x y H2 Q
def Nb (r:V->Hp->VK->Prop) (ta:TE):TE:=fun σ H Q=>ta σ H λx H1=>r x H1 Q
def rI (C:Int->Int->Prop) (g:Int->Int->V):R2:=λx y H Q=>∃i j,x= .int i/\y= .int j/\C i j/\Q (g i j) H
def CO (g:Int->Int->V):R2:=λx y H Q=>∃i j,x= .int i/\y= .int j/\Q (g i j) H
def rU (g:Int->V):V->Hp->VK->Prop:=λx H Q=>∃i,x= .int i/\Q (g i) H
section
variable {X : Cx} {a b c : Expr} {ta tb tc : TE} {pos : Pos}
theorem Ik (ha:PE X a ta) (hb:PE X b tb) {pins:PNs}{s:Shared}{σ:St}{H:Hp}{R:V->V->Hp->Prop} (I:Ad X pins σ H s)
  (h:ta σ H λx H1=>tb σ H1 λy H2=>R x y H2) {Q:VSP}{f:Value->Value->Sem Value}
  (hf:∀v u s2 x y H2,Ad X pins σ H2 s2->Ay x v->Ay y u->R x y H2->wpAny (model X.prog X.w) X.A (f v u) Q X.xe s2):
  wpAny (model X.prog X.w) X.A (eval a X.env) (λv s₁=>wpAny (model X.prog X.w) X.A (eval b X.env) (λu s₂=>wpAny (model X.prog X.w) X.A (f v u) Q X.xe s₂) X.xe s₁) X.xe s:=by
 refine Ao (ha pins s σ H _ I h) λv s1 ⟨x,H1,I1,r1,q1⟩=>?_
 refine Ao (hb pins s1 σ H1 _ I1 q1) λu s2 ⟨y,H2,I2,r2,q2⟩=>?_
 exact hf v u s2 x y H2 I2 r1 r2 q2
theorem As {op:Operator}{r:R2} (ho:OpR X (binaryOp op) r) (ha:PE X a ta) (hb:PE X b tb):PE X (.BinOp a op b pos) (Fk r ta tb):=by
 intro pins s σ H Q I h;exact wpAny_BinOp (Ik ha hb I h λv u s2 x y H2 I2 rx ry q=>ho pins s2 σ H2 x y v u Q I2 rx ry q)
theorem Nc {op:UnaryOp}{r:V->Hp->VK->Prop} (ho:Ij X (unaryOp op) r) (ha:PE X a ta):PE X (.UnaryOp op a pos) (Nb r ta):=by
 intro pins s σ H Q I h;exact UnaryOp_ (Ao (ha pins s σ H _ I h) λv s1 ⟨x,H1,I1,r1,q1⟩=>ho pins s1 σ H1 x v Q I1 r1 q1)
theorem F9 {f:Value->Value->Sem Value}{C:Int->Int->Prop}
  (rule:∀(i j:Int) (t u:Tok) (s:Shared) (Q:VSP) (E:VSP),C i j->Q (.int (g i j) s.toks) { s with toks:=s.toks+1}->wpAny (model X.prog X.w) X.A (f (.int i t) (.int j u)) Q E s):
  OpR X f (rI C λi j=> .int (g i j)):=by
 intro pins s σ H x y v u Q I rx ry h;obtain⟨i,j,rfl,rfl,hc,q⟩:=h;obtain⟨t,rfl⟩:=rx;obtain⟨t',rfl⟩:=ry;exact rule i j t t' s _ _ hc ⟨.int (g i j),H,I.tok _,⟨_,rfl⟩,q⟩
theorem JI {f:Value->Value->Sem Value}
  (rule:∀(i j:Int) (t u:Tok) (s:Shared) (Q:VSP) (E:VSP),Q (.int (g i j) s.toks) { s with toks:=s.toks+1}->wpAny (model X.prog X.w) X.A (f (.int i t) (.int j u)) Q E s):
  OpR X f (CO λi j=> .int (g i j)):=by
 intro pins s σ H x y v u Q I rx ry h;obtain⟨i,j,rfl,rfl,q⟩:=h;obtain⟨t,rfl⟩:=rx;obtain⟨t',rfl⟩:=ry;exact rule i j t t' s _ _ ⟨.int (g i j),H,I.tok _,⟨_,rfl⟩,q⟩
theorem Ga {f:Value->Value->Sem Value}{g:Int->Int->Bool}
  (rule:∀(i j:Int) (t u:Tok) (s:Shared) (Q:VSP) (E:VSP),Q (.bool (g i j)) s->wpAny (model X.prog X.w) X.A (f (.int i t) (.int j u)) Q E s):
  OpR X f (CO λi j=> .bl (g i j)):=by
 intro pins s σ H x y v u Q I rx ry h;obtain⟨i,j,rfl,rfl,q⟩:=h;obtain⟨t,rfl⟩:=rx;obtain⟨t',rfl⟩:=ry;exact rule i j t t' s _ _ ⟨.bl (g i j),H,I,rfl,q⟩
def Il (i j:Int):Prop:=0<j/\j<1073741824
def JJ (i j:Int):Prop:=0<=j/\j<=1000000/\i.natAbs<2 ^ 64
def CMul (i j:Int):Prop:=(-(2 ^ 64)<i/\i<2 ^ 64)\/(-(2 ^ 64)<j/\j<2 ^ 64)
theorem CMul.ok (h:CMul i j):IntMulOk i j:=by
 rcases h with⟨h1,h2⟩ | ⟨h1,h2⟩
 ·exact .of_left (intBits_le_64 h1 h2)
 ·exact .of_right (intBits_le_64 h1 h2)
theorem op_add:OpR X (binaryOp .Add) (CO λi j=> .int (i+j)):=JI λ_ _ _ _ _ _ _ q=>add_int q
theorem op_sub:OpR X (binaryOp .Sub) (CO λi j=> .int (i-j)):=JI λ_ _ _ _ _ _ _ q=>sub_int q
theorem op_mul:OpR X (binaryOp .Mult) (rI CMul λi j=> .int (i * j)):=F9 λ_ _ _ _ _ _ _ hc q=>mul_int q hc.ok
theorem op_fdiv:OpR X (binaryOp .FloorDiv) (rI Il λi j=> .int (i / j)):=F9 λi j _ _ _ _ _ hc q=>by
 have h1:(0:Int)<j:=hc.1;have h2:j<1073741824:=hc.2;exact floordiv_int (by omega) (by rw [Int.fdiv_eq_ediv_of_nonneg i (by omega)];exact q) (.inl (PyProof.noPylong_small (by omega)))
theorem op_mod:OpR X (binaryOp .Mod) (rI (λ_ j=>0<j) λi j=> .int (i % j)):=F9 λi j _ _ _ _ _ hc q=>by
 have h1:(0:Int)<j:=hc;exact mod_int' (by omega) (by rw [Int.fmod_eq_emod_of_nonneg i (by omega)];exact q)
theorem op_pow:OpR X (binaryOp .Pow) (rI JJ λi j=> .int (i ^ j.toNat)):=F9 λ_ _ _ _ _ _ _ hc q=>pow_int_small hc.1 hc.2.1 hc.2.2 q
theorem Nd {f:Value->Sem Value}{g:Int->Int}
  (rule:∀(i:Int) (t:Tok) (s:Shared) (Q:VSP) (E:VSP),Q (.int (g i) s.toks) { s with toks:=s.toks+1}->wpAny (model X.prog X.w) X.A (f (.int i t)) Q E s):
  Ij X f (rU λi=> .int (g i)):=by
 intro pins s σ H x v Q I rx h;obtain⟨i,rfl,q⟩:=h;obtain⟨t,rfl⟩:=rx;exact rule i t s _ _ ⟨.int (g i),H,I.tok _,⟨_,rfl⟩,q⟩
theorem Nf:Ij X (unaryOp .USub) (rU λi=> .int (-i)):=Nd λ_ _ _ _ _ q=>neg_int q
end
def JK:V->V->Bool
 | .non,.non=>true | .non,.int _=>true | .int _,.non=>true | .non,.bl _=>true | .bl _,.non=>true | .non,.str _=>true | .str _,.non=>true
 | .int _,.int _=>true | .bl _,.bl _=>true | .str _,.str _=>true | .byt _,.byt _=>true
 | .int _,.str _=>true | .str _,.int _=>true | .bl _,.str _=>true | .str _,.bl _=>true
 | _,_=>false
def Ng:R2:=λx y H Q=>JK x y=true/\Q (.bl (decide (x=y))) H
def Nh:R2:=λx y H Q=>JK x y=true/\Q (.bl (!decide (x=y))) H
theorem DA:decide (V.int i=V.int j)=(i==j):=by
 rw [Bool.eq_iff_iff];simp
theorem JL {i j:Bool}:decide (V.bl i=V.bl j)=(i==j):=by
 rw [Bool.eq_iff_iff];simp
theorem JM {i j:Str}:decide (V.str i=V.str j)=(i==j):=by
 rw [Bool.eq_iff_iff];simp
theorem JN {i j:Array UInt8}:decide (V.byt i=V.byt j)=(i.toList==j.toList):=by
 rw [Bool.eq_iff_iff];cases i;cases j;simp
section
variable {X : Cx} {a b c : Expr} {ta tb tc : TE} {pos : Pos}
theorem AZ {pins:PNs}{σ:St}{H:Hp}{s:Shared}{Q:VK}{k k':Bool} (I:Ad X pins σ H s) (q:Q (.bl k) H) (e:k=k'):EP X pins σ Q (.bool k') s:=by
 subst e;exact⟨.bl k,H,I,rfl,q⟩
theorem DB:OpR X (compareOp .Eq) Ng:=by
 intro pins s σ H x y v u Q I rx ry h;obtain⟨hs,q⟩:=h;cases x with
 | non=>
  cases rx;cases y with
  | non=>cases ry;exact PySem.EqNone.eq_none_none (AZ I q (by simp))
  | bl j=>cases ry;exact PySem.EqNone.eq_none_bool (AZ I q (by simp))
  | int j=>obtain⟨t',rfl⟩:=ry;exact PySem.EqNone.eq_none_int (AZ I q (by simp))
  | str j=>obtain⟨t',rfl⟩:=ry;exact PySem.EqNone.eq_none_str (AZ I q (by simp))
  | _=>exact absurd (show false=true from hs) Bool.false_ne_true
 | bl i=>
  cases rx;cases y with
  | non=>cases ry;exact PySem.EqNone.eq_bool_none (AZ I q (by simp))
  | bl j=>cases ry;exact eq_bool (AZ I q JL)
  | str j=>obtain⟨t',rfl⟩:=ry;exact PySem.EqMixed.eq_bool_str (AZ I q (by simp))
  | _=>exact absurd (show false=true from hs) Bool.false_ne_true
 | int i=>
  obtain⟨t,rfl⟩:=rx;cases y with
  | non=>cases ry;exact PySem.EqNone.eq_int_none (AZ I q (by simp))
  | int j=>obtain⟨t',rfl⟩:=ry;exact eq_int (AZ I q DA)
  | str j=>obtain⟨t',rfl⟩:=ry;exact PySem.EqMixed.eq_int_str (AZ I q (by simp))
  | _=>exact absurd (show false=true from hs) Bool.false_ne_true
 | str i=>
  obtain⟨t,rfl⟩:=rx;cases y with
  | non=>cases ry;exact PySem.EqNone.eq_str_none (AZ I q (by simp))
  | bl j=>cases ry;exact PySem.EqMixed.eq_str_bool (AZ I q (by simp))
  | int j=>obtain⟨t',rfl⟩:=ry;exact PySem.EqMixed.eq_str_int (AZ I q (by simp))
  | str j=>obtain⟨t',rfl⟩:=ry;exact eq_str (AZ I q JM)
  | _=>exact absurd (show false=true from hs) Bool.false_ne_true
 | byt i=>
  obtain⟨t,rfl⟩:=rx;cases y with
  | byt j=>obtain⟨t',rfl⟩:=ry;exact PySem.W.eq_bytes (AZ I q JN)
  | _=>exact absurd (show false=true from hs) Bool.false_ne_true
 | _=>cases y<;>exact absurd (show false=true from hs) Bool.false_ne_true
theorem C2:OpR X (compareOp .NotEq) Nh:=by
 intro pins s σ H x y v u Q I rx ry h;obtain⟨hs,q⟩:=h;cases x with
 | non=>
  cases rx;cases y with
  | non=>cases ry;exact PySem.EqNone.ne_none_none (AZ I q (by simp))
  | bl j=>cases ry;exact PySem.EqNone.ne_none_bool (AZ I q (by simp))
  | int j=>obtain⟨t',rfl⟩:=ry;exact PySem.EqNone.ne_none_int (AZ I q (by simp))
  | str j=>obtain⟨t',rfl⟩:=ry;exact PySem.EqNone.ne_none_str (AZ I q (by simp))
  | _=>exact absurd (show false=true from hs) Bool.false_ne_true
 | bl i=>
  cases rx;cases y with
  | non=>cases ry;exact PySem.EqNone.ne_bool_none (AZ I q (by simp))
  | bl j=>cases ry;exact ne_bool (AZ I q (congrArg not JL))
  | str j=>obtain⟨t',rfl⟩:=ry;exact PySem.EqMixed.ne_bool_str (AZ I q (by simp))
  | _=>exact absurd (show false=true from hs) Bool.false_ne_true
 | int i=>
  obtain⟨t,rfl⟩:=rx;cases y with
  | non=>cases ry;exact PySem.EqNone.ne_int_none (AZ I q (by simp))
  | int j=>obtain⟨t',rfl⟩:=ry;exact ne_int (AZ I q (congrArg not DA))
  | str j=>obtain⟨t',rfl⟩:=ry;exact PySem.EqMixed.ne_int_str (AZ I q (by simp))
  | _=>exact absurd (show false=true from hs) Bool.false_ne_true
 | str i=>
  obtain⟨t,rfl⟩:=rx;cases y with
  | non=>cases ry;exact PySem.EqNone.ne_str_none (AZ I q (by simp))
  | bl j=>cases ry;exact PySem.EqMixed.ne_str_bool (AZ I q (by simp))
  | int j=>obtain⟨t',rfl⟩:=ry;exact PySem.EqMixed.ne_str_int (AZ I q (by simp))
  | str j=>obtain⟨t',rfl⟩:=ry;exact ne_str (AZ I q (congrArg not JM))
  | _=>exact absurd (show false=true from hs) Bool.false_ne_true
 | byt i=>
  obtain⟨t,rfl⟩:=rx;cases y with
  | byt j=>obtain⟨t',rfl⟩:=ry;exact PySem.W.ne_bytes (AZ I q (congrArg not JN))
  | _=>exact absurd (show false=true from hs) Bool.false_ne_true
 | _=>cases y<;>exact absurd (show false=true from hs) Bool.false_ne_true
theorem op_lt:OpR X (compareOp .Lt) (CO λi j=> .bl (decide (i<j))):=Ga λ_ _ _ _ _ _ _ q=>lt_int q
theorem op_le:OpR X (compareOp .LtE) (CO λi j=> .bl (decide (i<=j))):=Ga λ_ _ _ _ _ _ _ q=>le_int q
theorem op_gt:OpR X (compareOp .Gt) (CO λi j=> .bl (decide (j<i))):=Ga λ_ _ _ _ _ _ _ q=>gt_int q
theorem op_ge:OpR X (compareOp .GtE) (CO λi j=> .bl (decide (j<=i))):=Ga λ_ _ _ _ _ _ _ q=>ge_int q
theorem Ni:OpR X (compareOp .Is) (λx y H Q=>y= .non/\Q (.bl (decide (x= .non))) H):=by
  intro pins s σ H x y v u Q I rx ry h;obtain⟨rfl,q⟩:=h;cases ry;refine is_none_gen (AZ I q ?_);cases x<;>first
    | (cases rx;rfl)
    | (obtain⟨t,rfl⟩:=rx;rfl)
theorem JO:OpR X (compareOp .IsNot) (λx y H Q=>y= .non/\Q (.bl (!decide (x= .non))) H):=by
  intro pins s σ H x y v u Q I rx ry h;obtain⟨rfl,q⟩:=h;cases ry;refine isnot_none_gen (AZ I q ?_);cases x<;>first
    | (cases rx;rfl)
    | (obtain⟨t,rfl⟩:=rx;rfl)
theorem AN (b:Expr) {op:CmpOp} (h:op≠ .In:=by decide) (h2:op≠ .NotIn:=by decide):behindInMarks op b=false:=by
 have e1:(op==CmpOp.In)=false:=by cases op<;>first | rfl | exact absurd rfl h
 have e2:(op==CmpOp.NotIn)=false:=by cases op<;>first | rfl | exact absurd rfl h2
 cases b<;>simp [behindInMarks,e1,e2]
theorem C3 {op:CmpOp}{r:R2} (ho:OpR X (compareOp op) r) (ha:PE X a ta) (hb:PE X b tb) (hm:behindInMarks op b=false):PE X (.Compare a [op] [b] pos) (Fk r ta tb):=by
 intro pins s σ H Q I h;exact wpAny_Compare1 (Ik ha hb I h λv u s2 x y H2 I2 rx ry q=>ho pins s2 σ H2 x y v u Q I2 rx ry q) hm
theorem Nj {xs:List V}{its:List Value} (r:Av xs its):(!its.toArray.isEmpty)= !xs.isEmpty:=by
 cases r<;>simp
theorem Fl:(sizeLine:Nat)<2 ^ 63:=by rw [sizeLine_eq];decide
theorem EC {x:V} (r:Av [x] us):∃u,us=[u]/\Ay x u:=by
 cases r with
 | cons r1 r2=>cases r2;exact⟨_,rfl,r1⟩
theorem Gb {x y:V} (r:Av [x,y] us):∃u w',us=[u,w']/\Ay x u/\Ay y w':=by
 cases r with
 | cons r1 r2=>
  cases r2 with
  | cons r3 r4=>cases r4;exact⟨_,_,rfl,r1,r3⟩
theorem ED (hc:X.calm=true):Bk X (.builtin "max") (λxs H Q=>∃i j,xs=[.int i,.int j]/\Q (.int (if j>i then j else i)) H):=by
 intro pins s σ H xs us Q I r h;obtain⟨i,j,rfl,q⟩:=h;obtain⟨u,w',rfl,⟨t,rfl⟩,⟨t',rfl⟩⟩:=Gb r;refine max_two_ints (I.ok.hd hc) λh' tk k=>⟨_,H,I.kept k,?_,q⟩
 by_cases hj:j>i
 ·rw [if_pos hj,if_pos hj];exact⟨_,rfl⟩
 ·rw [if_neg hj,if_neg hj];exact⟨_,rfl⟩
theorem Nk (hc:X.calm=true):Bk X (.builtin "min") (λxs H Q=>∃i j,xs=[.int i,.int j]/\Q (.int (if j<i then j else i)) H):=by
 intro pins s σ H xs us Q I r h;obtain⟨i,j,rfl,q⟩:=h;obtain⟨u,w',rfl,⟨t,rfl⟩,⟨t',rfl⟩⟩:=Gb r;refine min_two_ints (I.ok.hd hc) λh' tk k=>⟨_,H,I.kept k,?_,q⟩
 by_cases hj:j<i
 ·rw [if_pos hj,if_pos hj];exact⟨_,rfl⟩
 ·rw [if_neg hj,if_neg hj];exact⟨_,rfl⟩
theorem JP:Bk X (.type "int") (λxs H Q=>(∃i,xs=[.int i]/\Q (.int i) H)\/ ∃k,xs=[.bl k]/\Q (.int (if k then 1 else 0)) H):=by
 intro pins s σ H xs us Q I r h;rcases h with⟨i,rfl,q⟩ | ⟨k,rfl,q⟩
 ·obtain⟨u,rfl,t,rfl⟩:=EC r;exact call_int_int ⟨.int i,H,I,⟨_,rfl⟩,q⟩
 ·obtain⟨u,rfl,r1⟩:=EC r;cases r1;exact call_int_bool ⟨.int (if k then 1 else 0),H,I.tok _,⟨_,rfl⟩,q⟩
theorem Nl:Bk X (.builtin "divmod") (λxs H Q=>∃i j,xs=[.int i,.int j]/\Il i j/\∀p,H p=none->Q (.ref p) (upd H p (.tup [.int (i / j),.int (i % j)]))):=by
 intro pins s σ H xs us Q I r h;obtain⟨i,j,rfl,⟨h1,h2⟩,q⟩:=h;obtain⟨u,w',rfl,⟨t,rfl⟩,⟨t',rfl⟩⟩:=Gb r;refine divmod_int (by omega) ?_ (.inl (PyProof.noPylong_small (by omega)));rw [Int.fdiv_eq_ediv_of_nonneg i (by omega),Int.fmod_eq_emod_of_nonneg i (by omega)];have hn:H s.heap.objs.size=none:=I.hok.fresh (Nat.le_refl _);refine⟨.ref s.heap.objs.size,_,?_,rfl,q _ hn⟩;refine I.laid (λb o e=>Heap.get?_push_of_some _ e) (Nat.le_refl _) ⟨by simp only [length_cons,length_nil];rw [sizeLine_eq];decide,[.int (i / j) s.toks,.int (i % j) (s.toks+1)],.cons ⟨_,rfl⟩ (.cons ⟨_,rfl⟩ .nil),?_⟩;exact⟨_,Heap.get?_push_size s.heap rfl,rfl,0,rfl⟩
end
end L2
namespace L2
structure ObjM (h:Heap) (x dx C:Addr) (mA:Str->Option Value):Prop where
 obj:h.get? x=some (PySem.W.instObj C dx)
 ns:h.Ns1 dx mA
 ne:dx≠x
section
variable {prog : Program} {w : World} {A : Around} {E : Value -> Shared -> Prop} {s : Shared} {K : Fgx} {x dx C f : Addr} {mA : Str -> Option Value} {name : Str} {v : Value}
end
section
variable {P : Program} {w : World} {H H' : Hp} {h h' : Heap} {a C dx : Addr} {fs fs' : List (Str × V)}
end
structure Nm (K:Fgx) (C:Addr):Prop where
 pg:PySem.W.plainGet K C Str.empty=true
 hd:PySem.W.hasDictIn K C=true
 po:PySem.W.plainOver K C=true
 sa:PySem.W.findIn K (.ref C) "__setattr__"=some (some (.builtin "object.__setattr__"))
structure Con (K:Fgx) (C:Addr) (f:Str) (v:V) (u:Value):Prop where
 at_:PySem.W.findIn K (.ref C) f=some (some u)
 rel:Ay v u
 get:PySem.W.specialIn K u "__get__"=some none
 cp:PySem.W.copiedNames.contains f=false
structure Meth (K:Fgx) (C:Addr) (m:Str) (f:Addr):Prop where
 at_:PySem.W.findIn K (.ref C) m=some (some (.ref f))
 fn:PySem.W.isFn K (.ref f)=true
 kp:PySem.W.keepIn K (.ref f)=true
section
variable {X : Cx} {pins : List (Addr × Obj)} {σ : St} {H : Hp} {s : Shared} {a C dx : Addr} {fs : List (Str × V)} {f : Str} {v : V} {A : Around} {E : Value -> Shared -> Prop}
end
section
variable {X : Cx} {o e value : Expr} {f : Str} {pos pos' tpos : Pos} {ta tv : TE}
end
section
variable {X : Cx} {pins : List (Addr × Obj)} {σ : St} {H : Hp} {s : Shared} {A : Around} {E : Value -> Shared -> Prop} {Q : Value -> Shared -> Prop} {c : Value} {b : Bool}
inductive CF (K:Fgx) (H:Hp):V->Value->Prop where
 | non:CF K H .non (.type "NoneType")
 | bl (x:Bool):CF K H (.bl x) (.type "bool")
 | int (i:Int):CF K H (.int i) (.type "int")
 | str (x:Str):CF K H (.str x) (.type "str")
 | flt (x:UInt64):CF K H (.flt x) (.type "float")
 | lst {a:Addr}{xs:List V} (e:H a=some (.lst xs)):CF K H (.ref a) (.type "list")
 | frz {a:Addr}{o:Obj}{xs:List V} (e:H a=some (.frz o (.lst xs))):CF K H (.ref a) (.type "list")
 | tup {a:Addr}{xs:List V} (e:H a=some (.tup xs)):CF K H (.ref a) (.type "tuple")
 | dK {a:Addr}{kvs:List (AR×V)} (e:H a=some (.dK kvs)):CF K H (.ref a) (.type "dict")
 | dT {a:Addr}{kvs:List (List AR×V)} (e:H a=some (.dT kvs)):CF K H (.ref a) (.type "dict")
 | ins {a C dx : Addr} {fs : List (Str × V)} (e : H a = some (.ins C dx fs)) (cl : Nm K C) (ha : PySem.W.findIn K (.ref C) "__class__" = some (some (.builtin "object.__class__")))
   (hn:PySem.W.specialIn K (.builtin "object.__class__") "__get__"=some (some (.builtin "getset_descriptor.__get__"))) (htk:PySem.W.takesIn K (.builtin "object.__class__")=some true)
   (hm:PySem.W.mroIn K C (.type "object")=some true):CF K H (.ref a) (.ref C)
end
end L2
namespace L2
variable {Q : VK} {us : List Value} {vs : List V} {P : Program} {kindOf : Str -> Option NameKind} {qual : Str} {scope : Scope}
structure AX (k:Nat) (A:Around):Prop where
 hd:A.handled=none
 dp:A.depth+3 * k+5<recursionLimit
 un:A.units+16 * k+200<cLine
 gd:A.guards=some []
theorem AX.mono {j k:Nat}{A:Around} (r:AX k A) (h:j<=k):AX j A:=⟨r.hd,by have:=r.dp;omega,by have:=r.un;omega,r.gd⟩
theorem AX.deeper {k:Nat}{A:Around} (r:AX (k+1) A) (env:Env):AX k (A.deeper env):=
 ⟨r.hd,by have:=r.dp;show A.depth+1+3 * k+5<_;omega,by have:=r.un;show A.units+3+16 * k+200<_;omega,r.gd⟩
theorem AX.depth {k:Nat}{A:Around} (r:AX k A):A.depth<recursionLimit:=by have:=r.dp;omega
def CP:TA:=λ_ H Q=>Q [] H
def Bn (ta:TE) (tr:TA):TA:=fun σ H Q=>ta σ H λx H1=>tr σ H1 λxs H2=>Q (x::xs) H2
section
variable {X : Cx} {e : Expr} {es : List Expr} {te : TE} {t : TA} {pos : Pos}
theorem BK:PA X [] CP:=λ_ _ _ _ H Q I h=>Calls.spliced_nil ⟨[],H,I,.nil,h⟩
theorem AV (ha:PE X e te) (hr:PA X es t) (hs:starEach (e::es) X.env=(false,eval e X.env)::starEach es X.env:=by rfl):PA X (e::es) (Bn te t):=by
 intro pos pins s σ H Q I h;rw [hs];show wpAny _ _ (spliced ((false,eval e X.env)::backTo pos (starEach es X.env))) _ _ s;refine Calls.spliced_cons (Ao (ha pins s σ H _ I h) λu s1 ⟨x,H1,I1,r1,q1⟩=>?_);exact Ao (hr pos pins s1 σ H1 _ I1 q1) λus s2 ⟨xs,H2,I2,r2,q2⟩=>⟨x::xs,H2,I2,.cons r1 r2,q2⟩
end
abbrev Sp:=List V->Hp->VK->XK->Prop
abbrev Cr:=List Env->Hp->Shared->XK->VSP
structure CG (P:Program) (w:World) (K:Fgx) (mg:Str->Option Value) (base:Heap) (A:Around) (outer:List Env) (s:Shared) (H:Hp):Prop where
 frames:A.frames=some outer
 mod:Mod K mg base
 bs:∀b o,base.get? b=some o->s.heap.get? b=some o/\H b=none
 bsz:base.objs.size<=s.heap.objs.size
 funs:s.heap.FunFrames base outer
 frf:∀b∈AI outer,H b=none
 hok:HOk P w H s.heap
 bare:AllBare s.gens
def CE (outer:List Env) (P:Program) (w:World) (H:Hp) (s:Shared) (Q:VK) (u:Value) (s':Shared):Prop:=
 ∃v H',s'.os=s.os/\AllBare s'.gens/\Un (AI outer) [] H H' s.heap s'.heap/\HOk P w H' s'.heap/\Ay v u/\Q v H'
def CR (CX:Cr) (outer:List Env) (P:Program) (w:World) (H:Hp) (s:Shared) (Q:VK) (E:XK) (r:Result) (s':Shared):Prop:=
 match r with
 | .ok (.ret u)=>CE outer P w H s Q u s'
 | .ok _=>False
 | .error e=>CX outer H s E e s'
structure CH (P:Program) (w:World) (K:Fgx) (mg:Str->Option Value) (base:Heap) (CX:Cr) (k:Nat) (f:Addr) (fd:FuncData) (ps:List Str) (sp:Sp):Prop where
 len:∀vs H Q E,sp vs H Q E->vs.length=ps.length
 run:∀(A:Around) (outer:List Env) (s:Shared) (H:Hp) (args:Args) (us:List Value) (vs:List V) (Q:VK) (E:XK),AX k A->CG P w K mg base A outer s H->BindsTo s fd args (ps.zip us)->Av vs us->sp vs H Q E->
  codeAny (model P w) A (.call (.ref f) args) (CR CX outer P w H s Q E) s
section
variable {X : Cx} {pins : List (Addr × Obj)} {σ : St} {H : Hp} {s s' : Shared}
theorem Ad.env0 (I:Ad X pins σ H s):CG X.prog X.w X.K X.mg X.base X.A X.stack s H:=
 ⟨I.ok.frames,I.ok.mod,I.bs,Nat.le_trans I.ok.bsz I.sz,I.stack,I.stkFree,I.hok,I.bare⟩
theorem Ad.after {u:Value} (I:Ad X pins σ H s) (h:CE X.stack X.prog X.w H s Q u s'):EP X pins σ Q u s':=by
 obtain⟨v,H',os,bare,un,hok,r,q⟩:=h;obtain⟨hh,g,d,t,os'⟩:=s';obtain rfl:os'=s.os:=os;exact⟨v,H',I.call (h':=hh) (g':=g) (d':=d) (t':=t) (ch:=[]) un hok bare (λb z=>absurd z (by simp)),r,q⟩
end
def Nn (sp:Sp) (dvs:List V) (E:XK) (t:TA):TE:=fun σ H Q=>t σ H λvs H1=>sp (vs++dvs) H1 Q E
def Binds (K:Fgx) (fd:FuncData) (ps:List Str) (ds:List Value):Prop:=
 ∀(s:Shared) (us:List Value),K.In s.heap->(us++ds).length=ps.length->BindsTo s fd ⟨us,[]⟩ (ps.zip (us++ds))
theorem Binds.all {K:Fgx}{fd:FuncData}{ps:List Str} (h:∀us:List Value,us.length=ps.length->bindArgs fd ⟨us,[]⟩=pure (ps.zip us)):Binds K fd ps []:=λs us _ hl=>by
 rw [append_nil] at hl ⊢;exact .of_eq (h us hl)
def Gc (CX:Cr) (X:Cx) (E:XK):Prop:=∀(pins:PNs) (σ:St) (H:Hp) (s:Shared) (e:Value) (s':Shared),Ad X pins σ H s->CX X.stack H s E e s'->X.xe e s'
section
variable {X : Cx} {CX : Cr} {k : Nat} {f C : Addr} {fd : FuncData} {ps : List Str} {sp : Sp} {dvs : List V} {ds : List Value} {E : XK} {x m : Str} {p pos apos : Pos} {e o : Expr} {es : List Expr} {ta : TE} {t : TA}
theorem No {pins:PNs}{σ:St}{H:Hp}{s:Shared} (F:CH X.prog X.w X.K X.mg X.base CX k f fd ps sp) (hr:AX k X.A) (hb:Binds X.K fd ps ds) (hd:Av dvs ds) (hx:Gc CX X E)
  (I:Ad X pins σ H s) (r:Av vs us) (h:sp (vs++dvs) H Q E):wpAny (model X.prog X.w) X.A (call (.ref f) us) (EP X pins σ Q) X.xe s:=by
 have r2:Av (vs++dvs) (us++ds):=r.append hd;have hl:(us++ds).length=ps.length:=by rw [<-r2.length];exact F.len _ _ _ _ h
 refine wpAny_call (codeAny_mono (F.run X.A X.stack s H ⟨us,[]⟩ (us++ds) (vs++dvs) Q E hr I.env0 (hb s us I.kIn hl) r2 h) λr s' hq=>?_);cases r with
 | error e=>exact hx pins σ H s e s' I hq
 | ok fl=>
  cases fl with
  | ret u=>exact I.after hq
  | next=>exact False.elim hq
  | brk=>exact False.elim hq
  | cont=>exact False.elim hq
theorem JQ (F:CH X.prog X.w X.K X.mg X.base CX k f fd ps sp) (hr:AX k X.A) (hg:Gl X x) (hm:X.mg x=some (.ref f)) (hk:PySem.W.keepIn X.K (.ref f)=true) (hb:Binds X.K fd ps ds) (hd:Av dvs ds) (hx:Gc CX X E)
  (ha:PA X (e::es) t) (hdb:(x==("__debug__" :Str))=false:=by decide) (he:starEach (e::es) X.env=(false,eval e X.env)::starEach es X.env:=by rfl) (hpl:(backTo pos (starEach es X.env)).any (·.1)=false:=by rfl):
  PE X (.Call (.Name x p) (e::es) [] pos) (Nn sp dvs E t):=by
 intro pins s σ H Q I h;refine wpAny_Call_Name_kw (Ex I hg hm ?_ hdb);refine PySem.W.callWith_K (h₀:=X.base) I.ok.mod.kin hk (Ao (ha pos pins s σ H _ I h) λus s1 ⟨vs,H1,I1,r,q⟩=>⟨I1.kIn,?_⟩) he hpl;exact No F hr hb hd hx I1 r q
structure Mk (K:Fgx) (C f:Addr):Prop where
 makes:PySem.W.makesIn K C=true
 init:PySem.W.findIn K (.ref C) "__init__"=some (some (.ref f))
 fn:PySem.W.isFn K (.ref f)=true
 kp:PySem.W.keepIn K (.ref C)=true
end
def PK (X:Cx) (kws:List Keyword) (t:TA):Prop:=
 ∀(pos:Pos) (pins:PNs) (s:Shared) (σ:St) (H:Hp) (Q:List V->Hp->Prop),Ad X pins σ H s->t σ H Q->wpAny (model X.prog X.w) X.A (evalAll ((backToKw pos (keywordEach kws X.env)).map (·.2))) (AP X pins σ Q) X.xe s
section
variable {X : Cx} {CX : Cr} {k : Nat} {f C : Addr} {fd : FuncData} {ps ks : List Str} {sp : Sp} {E : XK} {x m : Str} {p pos apos kpos : Pos} {e o : Expr} {es : List Expr} {kws : List Keyword} {te ta : TE} {t tk : TA} {nm : Option Str}
theorem Np:PK X [] CP:=λ_ _ _ _ H Q I h=>wpAny_evalAll_nil ⟨[],H,I,.nil,h⟩
theorem Nq (ha:PE X e te) (hr:PK X kws t):PK X (⟨nm,e,kpos⟩::kws) (Bn te t):=by
 intro pos pins s σ H Q I h;show wpAny _ _ (evalAll ((do let v<-eval e X.env;standAt pos;pure v)::(backToKw pos (keywordEach kws X.env)).map (·.2))) _ _ s;refine wpAny_evalAll_cons (wpAny_bind (Ao (ha pins s σ H _ I h) λu s1 ⟨x,H1,I1,r1,q1⟩=>wpAny_bind (wpAny_standAt (wpAny_pure ?_))));exact Ao (hr pos pins s1 σ H1 _ I1 q1) λus s2 ⟨xs,H2,I2,r2,q2⟩=>⟨x::xs,H2,I2,.cons r1 r2,q2⟩
structure KBinds (K:Fgx) (fd:FuncData) (ps ks:List Str) (g:List Value->List Value->List Value) (gV:List V->List V->List V):Prop where
 to:∀(s:Shared) (us ws:List Value),K.In s.heap->(g us ws).length=ps.length->BindsTo s fd ⟨us,ks.zip ws⟩ (ps.zip (g us ws))
 rel:∀ {vs:List V}{us:List Value}{zs:List V}{ws:List Value},Av vs us->Av zs ws->Av (gV vs zs) (g us ws)
variable {g : List Value -> List Value -> List Value} {gV : List V -> List V -> List V}
end
structure Ax (N P:List Str) (sc:Scope):Prop where
 kind:sc.kind= .function
 co:sc.isCoroutine=false
 gen:sc.isGenerator=false
 nd:N.Nodup
 pre:N.take P.length=P
 par:∀x∈P,sc.names.lookup x=some .local \/sc.names.lookup x=some .cell
 nofree:∀y∈sc.names,y.2≠ .free
theorem AA {N P:List Str}{sc:Scope} (a:sc.kind= .function:=by rfl) (b:sc.isCoroutine=false:=by rfl) (c:sc.isGenerator=false:=by rfl) (d:N.Nodup:=by decide+kernel) (e:N.take P.length=P:=by rfl) (f:∀x∈P,sc.names.lookup x=some .local \/sc.names.lookup x=some .cell:=by decide+kernel) (g:∀y∈sc.names,y.2≠ .free:=by decide+kernel):Ax N P sc:=⟨a,b,c,d,e,f,g⟩
theorem JR {x:Str}:∀ {binds:List (Str×Value)}{m:Str->Option Value},(∀v,(x,v) ∉ binds)->bindL kindOf binds m x=m x
  | [],_,_=>rfl
  | (n, v) :: r, m, h => by
    unfold bindL;rw [JR λw hw=>h w (mem_cons_of_mem _ hw)];split
    . have:x≠n:=by rintro rfl;exact h v mem_cons_self
      simp [this]
    . rfl
theorem JS {x:Str}:∀ {binds:List (Str×Value)}{m:Str->Option Value},(∀v,(x,v) ∉ binds)->bindC kindOf binds m x=m x
  | [],_,_=>rfl
  | (n, v) :: r, m, h => by
    unfold bindC;rw [JS λw hw=>h w (mem_cons_of_mem _ hw)];split
    . rfl
    . have:x≠n:=by rintro rfl;exact h v mem_cons_self
      simp [this]
theorem JT {kindOf:Str->Option NameKind}{x:Str}{v:Value}:∀ {P:List Str}{vs:List Value}{i:Nat}{m:Str->Option Value},P.Nodup->P[i]? =some x->vs[i]? =some v->kindOf x=some .local ->
  bindL kindOf (P.zip vs) m x=some v
 | [],_,_,_,_,h,_,_=>by simp at h
 | _::_,[],_,_,_,_,h,_=>by simp at h
 | p::P,w::vs,0,m,nd,h1,h2,hk=>by
  simp at h1 h2;subst h1;subst h2;show bindL kindOf ((p,w)::P.zip vs) m p=_;unfold bindL;rw [JR λv hv=>(nodup_cons.mp nd).1 (of_mem_zip hv).1,if_pos hk];simp
 | p::P,w::vs,i+1,m,nd,h1,h2,hk=>by
  show bindL kindOf ((p,w)::P.zip vs) m x=_;unfold bindL;exact JT (i:=i) (nodup_cons.mp nd).2 (by simpa using h1) (by simpa using h2) hk
theorem JU {kindOf:Str->Option NameKind}{x:Str}{v:Value}:∀ {P:List Str}{vs:List Value}{i:Nat}{m:Str->Option Value},P.Nodup->P[i]? =some x->vs[i]? =some v->kindOf x≠some .local ->
  bindC kindOf (P.zip vs) m x=some v
 | [],_,_,_,_,h,_,_=>by simp at h
 | _::_,[],_,_,_,_,h,_=>by simp at h
 | p::P,w::vs,0,m,nd,h1,h2,hk=>by
  simp at h1 h2;subst h1;subst h2;show bindC kindOf ((p,w)::P.zip vs) m p=_;unfold bindC;rw [JS λv hv=>(nodup_cons.mp nd).1 (of_mem_zip hv).1,if_neg hk];simp
 | p::P,w::vs,i+1,m,nd,h1,h2,hk=>by
  show bindC kindOf ((p,w)::P.zip vs) m x=_;unfold bindC;exact JU (i:=i) (nodup_cons.mp nd).2 (by simpa using h1) (by simpa using h2) hk
def start (N:List Str) (vs:List V):St:=vs.map some++List.replicate (N.length-vs.length) none
def BR (CX:Cr) (P:Program) (w:World) (K:Fgx) (mg:Str->Option Value) (base:Heap) (N:List Str) (qual:Str) (scope:Scope) (f:Addr) (cd:Value) (A:Around) (outer:List Env) (s:Shared) (H:Hp) (E:XK):Cx where
 prog:=P
 w:=w
 K:=K
 mg:=mg
 base:=base
 A:=A.deeper (envOfC qual scope s.heap.objs.size f cd)
 N:=N
 s₀:=s
 H₀:=H
 env:=envOfC qual scope s.heap.objs.size f cd
 outer:=outer
 stack:=envOfC qual scope s.heap.objs.size f cd::outer
 ex:=[]
 calm:=true
 fn:=λ_=>true
 pn:=[]
 xe:=λe s'=>wpAny (model P w) (A.deeper (envOfC qual scope s.heap.objs.size f cd)) (leaving (envOfC qual scope s.heap.objs.size f cd) e) (λ_ s''=>CX outer H s E e s'') (λe' s''=>CX outer H s E e' s'') s'
theorem JV {sc:Scope}{n:Nat}{x:Str} (h:sc.names.lookup x=some .cell):∃c,(cellsFrom n sc.names []).lookup x=some c:=by
 have q:=PySem.W.cellsFrom_some sc.names n [] (.inl h);exact Option.isSome_iff_exists.mp q
theorem JW {CX:Cr}{w:World}{K:Fgx}{mg:Str->Option Value}{base:Heap}{N ps:List Str}{f:Addr}{cd:Value}{A:Around}{outer:List Env}{s s1:Shared}{H:Hp}{E:XK}
  (S:Ax N ps scope) (hd:A.handled=none) (e0:CG P w K mg base A outer s H) (hl:vs.length=ps.length) (r:Av vs us)
  (x:InCallC s s.heap.objs.size (bindL (envOfC qual scope s.heap.objs.size f cd).kindOf (ps.zip us) λ_=>none) (cellsFrom (s.heap.objs.size+1) scope.names []) (bindC (envOfC qual scope s.heap.objs.size f cd).kindOf (ps.zip us) λ_=>none) s1):
  Ad (BR CX P w K mg base N qual scope f cd A outer s H E) [] (start N vs) H s1:=by
 have hpl:ps.length<=N.length:=by have:=congrArg List.length S.pre;rw [length_take] at this;omega
 obtain⟨h1,tk,rfl,hk⟩:=x.done;have noA:∀b:Addr,b ∉(BR CX P w K mg base N qual scope f cd A outer s H E).ex:=λb z=>absurd (show b∈([]:List Addr) from z) (by simp)
 refine⟨⟨e0.mod,S.kind,rfl,rfl,Nat.le_refl _,λy z c h1 h2=>?_,λy hy=>?_,λy c _ h=>?_,λ_=>hd,Around.frames_deeper e0.frames,.inr ⟨rfl,rfl⟩,λb z=>absurd z (noA b),e0.bs,e0.bsz,λb _ _=>noA b,λb z=>absurd z (noA b),e0.funs,e0.frf⟩,
  rfl,e0.bare,Un.kept hk,⟨_,x.toInCall.ns,λi y v h1 h2 h3=>?_⟩,λy c h=>⟨_,x.cell y c h⟩,e0.hok.fresh (Nat.le_refl _),λy c h=>?_,λp hp=>absurd (show p∈([]:PNs) from hp) (by simp),e0.hok.kept hk,?_⟩
 ·exact name_of_addr x.apart (PySem.mem_of_lookup h1) (PySem.mem_of_lookup h2)
 ·have hy:scope.names.lookup y=some .cell\/scope.names.lookup y=some .free:=hy;rcases hy with hy | hy
  ·exact JV hy
  ·exact absurd rfl (S.nofree _ (PySem.mem_of_lookup hy))
 ·exact Nat.le_of_lt (x.above y c (PySem.mem_of_lookup h))
 ·have hi:i<vs.length:=by
   unfold start at h2
   by_cases hi:i<vs.length
   ·exact hi
   ·rw [getElem?_append_right (by simpa using hi)] at h2;rw [List.getElem?_replicate] at h2;split at h2<;>cases h2
  have ha:vs[i]? =some v:=by
   unfold start at h2;rw [getElem?_append_left (by simpa using hi),getElem?_map] at h2;cases e:vs[i]? with
   | none=>rw [e] at h2;cases h2
   | some a=>rw [e] at h2;cases h2;rfl
  obtain⟨u,hu,rv⟩:=r.get ha;have hp:ps[i]? =some y:=by
   rw [<-S.pre,List.getElem?_take_of_lt (by omega)];exact h1
  have ndP:ps.Nodup:=by rw [<-S.pre];exact S.nd.sublist (List.take_sublist _ _)
  refine⟨u,rv,?_⟩;rcases S.par y (mem_of_getElem? hp) with k | k
  ·exact .inl ⟨k,JT ndP hp hu k⟩
  ·obtain⟨c,e⟩:=JV (n:=s.heap.objs.size+1) k;refine .inr ⟨.inl k,c,e,?_⟩;have q:=x.cell y c e;rw [JU ndP hp hu (by show scope.names.lookup y≠_;rw [k];decide)] at q;exact q
 ·exact e0.hok.fresh (Nat.le_of_lt (x.above y c (PySem.mem_of_lookup h)))
 ·unfold start;show _=N.length;rw [length_append,length_map,length_replicate];omega
theorem Im {CX:Cr}{w:World}{K:Fgx}{mg:Str->Option Value}{base:Heap}{k:Nat}{f:Addr}{name:Str}{params:Arguments}{body:List Stmt}{dV kV doc pm cdv ct oc:Value}{an od:Option Addr}
  {osl:Array (Option Value)}{N ps:List Str}{sp:Sp} (lk:K.lookup f=some ⟨oc,od,.func (PySem.W.fnOf name qual params body scope dV kV doc pm an cdv ct),osl⟩) (hcd:PySem.W.codeIn K cdv qual=true) (S:Ax N ps scope)
  (len:∀vs H Q E,sp vs H Q E->vs.length=ps.length)
  (hbody : ∀ (A : Around) (outer : List Env) (s : Shared) (H : Hp) (vs : List V) (Q : VK) (E : XK), AX k (A.deeper (envOfC qual scope s.heap.objs.size f cdv)) -> sp vs H Q E ->
   ∃t,PSs (BR CX P w K mg base N qual scope f cdv A outer s H E) body t/\t { nx:=λ_ H'=>Q .non H',rt:=Q} (start N vs) H):
  CH P w K mg base CX (k+1) f (PySem.W.fnOf name qual params body scope dV kV doc pm an cdv ct) ps sp:=by
 refine⟨len,λA outer s H args us vs Q E hr e0 hb r hsp=>?_⟩;have hl:=len _ _ _ _ hsp;have KX:K.In s.heap:=e0.mod.kin.keeps λb o e=>(e0.bs b o e).1
 have lim:s.heap.NoLimit:=e0.mod.nolimit.keeps λb o e=>(e0.bs b o e).1
 have hkind:∀y∈ps.zip us,scope.names.lookup y.1=some .local \/(scope.names.lookup y.1=some .cell/\((cellsFrom (s.heap.objs.size+1) scope.names []).lookup y.1).isSome=true):=fun⟨n,v⟩ hy=>by
  rcases S.par n (of_mem_zip hy).1 with q | q
  ·exact .inl q
  ·exact .inr ⟨q,PySem.W.cellsFrom_some _ _ _ (.inl q)⟩
 refine codeAny_call_function hr.depth (KX _ _ lk) rfl S.co S.gen rfl (PySem.W.codeRec_of KX hcd) (hb _ _ _ _ ?_);refine wpAny_newFunctionEnv_cells S.kind hkind λenv he s1 x=>?_
 subst he;refine⟨lim.keeps x.toInCall.keep,codeAny_func ?_⟩;obtain⟨t,ht,hq⟩:=hbody A outer s H vs Q E (hr.deeper _) hsp;have I:Ad (BR CX P w K mg base N qual scope f cdv A outer s H E) [] (start N vs) H s1:=JW S hr.hd e0 hl r x;refine wpAny_mono (ht [] s1 (start N vs) H _ I hq) (λfl s' hs=>?_) λe s' hs=>hs
 have fin:∀ {σ':St}{H':Hp}{v:V}{u:Value},Ad (BR CX P w K mg base N qual scope f cdv A outer s H E) [] σ' H' s'->Ay v u->Q v H'->CE outer P w H s Q u s':=
  λ{σ' H' v u} J rv q=>⟨v,H',J.os,J.bare,J.base,J.hok,rv,q⟩
 cases fl with
 | ret u=>
  obtain⟨v,σ',H',J,rv,q⟩:=hs;exact fin J rv q
 | next=>
  obtain⟨σ',H',J,q⟩:=hs;exact fin (v:=V.non) (u:=Value.none) J rfl q
 | brk=>
  obtain⟨_,_,_,q⟩:=hs;exact False.elim q
 | cont=>
  obtain⟨_,_,_,q⟩:=hs;exact False.elim q
end L2
namespace L2
section
variable {X : Cx} {x : Str} {p pos : Pos} {e : Expr} {es : List Expr} {t : TA} {id T : String} {r : List V -> Hp -> VK -> Prop}
def JX (r:List V->Hp->VK->Prop) (t:TA):TE:=fun σ H Q=>t σ H λvs H1=>r vs H1 Q
theorem At (hc:Bk X (.builtin id) r) (hg:Gl X x) (hm:X.mg x=none) (hv:bootBuiltins x=some (.builtin id)) (ha:PA X (e::es) t) (hn:x≠ "__name__" :=by decide) (hdb:(x==("__debug__" :Str))=false:=by decide)
  (he:starEach (e::es) X.env=(false,eval e X.env)::starEach es X.env:=by rfl) (hpl:(backTo pos (starEach es X.env)).any (·.1)=false:=by rfl):PE X (.Call (.Name x p) (e::es) [] pos) (JX r t):=by
 intro pins s σ H Q I h;refine wpAny_Call_Name_kw (Cq I hg hm hv ?_ hn hdb);exact PyProof.Rows.callWith_builtin1 (Ao (ha pos pins s σ H _ I h) λus s1 ⟨vs,H1,I1,r1,q1⟩=>hc pins s1 σ H1 vs us Q I1 r1 q1) he hpl
theorem Bo (hc:Bk X (.type T) r) (hg:Gl X x) (hm:X.mg x=none) (hv:bootBuiltins x=some (.type T)) (ha:PA X (e::es) t) (hn:x≠ "__name__" :=by decide) (hdb:(x==("__debug__" :Str))=false:=by decide)
  (he:starEach (e::es) X.env=(false,eval e X.env)::starEach es X.env:=by rfl) (hpl:(backTo pos (starEach es X.env)).any (·.1)=false:=by rfl):PE X (.Call (.Name x p) (e::es) [] pos) (JX r t):=by
 intro pins s σ H Q I h;refine wpAny_Call_Name_kw (Cq I hg hm hv ?_ hn hdb);exact PyProof.Rows.callWith_type1 (Ao (ha pos pins s σ H _ I h) λus s1 ⟨vs,H1,I1,r1,q1⟩=>hc pins s1 σ H1 vs us Q I1 r1 q1) he hpl
end
end L2
namespace HT
open PySem PyProof.Rows
variable {sl : Addr} {vl vu : Value}
section
open PySem.SeqAt
open PySem.AutoSeq1 (wpAny_loadPart')
open PySem.MeetsSeq PySem.MeetsSeq2 PySem.MeetsSeq3
end
section
variable {prog : Program} {w : World} {A : Around} {E : Value -> Shared -> Prop} {s : Shared}
def sIx (n d:Nat):Option Int->Nat
 | none=>d
 | some v=>if v<0 then(v+(n:Int)).toNat else min v.toNat n
theorem sIx_nat (n d k:Nat):sIx n d (some (k:Int))=min k n:=by
 show(if (k:Int)<0 then((k:Int)+(n:Int)).toNat else min (k:Int).toNat n)=min k n;rw [if_neg (by omega),Int.toNat_natCast]
theorem Nr (n d:Nat) (hd:d<=n) (o:Option Int):sIx n d o<=n:=by
 cases o with
 | none=>exact hd
 | some v=>
  show(if v<0 then(v+(n:Int)).toNat else min v.toNat n)<=n
  by_cases hv:v<0
  ·rw [if_pos hv];omega
  ·rw [if_neg hv];exact Nat.min_le_right _ _
theorem JY (v:Int) (n d:Nat):(if v<0 then max (v+(n:Int)) 0 else min v (n:Int))=((sIx n d (some v):Nat):Int):=by
 show(if v<0 then max (v+(n:Int)) 0 else min v (n:Int))=(((if v<0 then(v+(n:Int)).toNat else min v.toNat n):Nat):Int)
 by_cases hv:v<0
 ·simp only [if_pos hv];omega
 ·simp only [if_neg hv];omega
theorem Nt (lo hi:Option Int) (n:Nat):Builtin.Slice.sliceAdjust lo hi 1 (n:Int)=(((sIx n 0 lo:Nat):Int),((sIx n n hi:Nat):Int)):=by
 have h1:¬((1:Int)<0):=by omega
 unfold Builtin.Slice.sliceAdjust;simp only [h1,if_false];refine Prod.ext ?_ ?_
 ·cases lo with
  | none=>rfl
  | some v=>exact JY v n 0
 ·cases hi with
  | none=>rfl
  | some v=>exact JY v n n
theorem Nu (i j:Nat):Builtin.Slice.slicePlaces (i:Int) (j:Int) 1=j-i:=by
 unfold Builtin.Slice.slicePlaces;have h1:(1:Int) >0:=by omega
 simp only [h1,if_true,Int.ediv_one];split<;>omega
theorem JZ {v:Value}{o:Option Int}{Q:Option Int->Shared->Prop} (p:IsPart v o) (h:Q o s):wpAny (model prog w) A (Builtin.Slice.slicePartIndex v) Q E s:=by
 cases p with
 | none=>exact slicePart_none h
 | int i t=>exact slicePart_int h
theorem sliceApplied_gen {lo hi:Option Int}{n:Nat}{Q:Int×Int×Nat->Shared->Prop} (hs:s.heap.IsSliceOf sl vl vu .none) (pl:IsPart vl lo) (pu:IsPart vu hi)
  (h:Q (((sIx n 0 lo:Nat):Int),1,sIx n n hi-sIx n 0 lo) s):wpAny (model prog w) A (Builtin.Slice.sliceApplied (.ref sl) (pure (n:Int))) Q E s:=by
 obtain⟨os,hos,hcs,hds⟩:=id hs;unfold Builtin.Slice.sliceApplied Builtin.Slice.sliceFields;refine wpAny_bind (wpAny_bind (wpAny_field hos hds (x:=vl) rfl (wpAny_bind (wpAny_field hos hds (x:=vu) rfl (wpAny_bind (wpAny_field hos hds (x:= .none) rfl (wpAny_pure ?_)))))));refine wpAny_bind (slicePart_none ?_);show wpAny _ _ (if ((1:Int)==0)=true then _ else _) _ _ s;rw [if_neg (by decide)];refine wpAny_bind (JZ pl (wpAny_bind (JZ pu (wpAny_bind (wpAny_pure ?_)))));show wpAny _ _ (match Builtin.Slice.sliceAdjust lo hi 1 (n:Int) with | (lo,hi)=>pure (lo,(1:Int),Builtin.Slice.slicePlaces lo hi 1)) _ _ s;rw [Nt lo hi n];show wpAny _ _ (pure (((sIx n 0 lo:Nat):Int),(1:Int),Builtin.Slice.slicePlaces ((sIx n 0 lo:Nat):Int) ((sIx n n hi:Nat):Int) 1)) _ _ s;rw [Nu];exact wpAny_pure h
theorem Nv (xs:Array Value) (i k:Nat):((List.range k).filterMap fun(m:Nat)=>xs[((i:Int)+(m:Int) * 1).toNat]?).toArray=((xs.toList.drop i).take k).toArray:=by
 have e:(fun(m:Nat)=>xs[((i:Int)+(m:Int) * 1).toNat]?)=λm=>xs[i+m]? :=by
  funext m
  have:((i:Int)+(m:Int) * 1).toNat=i+m:=by omega
  rw [this]
 rw [e];have:=pick_run xs i k;rw [List.filterMap_map] at this;have e2:((λx=>xs[x]?) ∘λx=>i+x)=λm=>xs[i+m]? :=rfl
 rw [e2] at this;rw [this]
theorem getItem_tuple_cut {t:Addr}{items:Array Value}{lo hi:Option Int}{Q:VSP} (ht:IsTup s.heap t items) (hs:s.heap.IsSliceOf sl vl vu .none) (pl:IsPart vl lo) (pu:IsPart vu hi)
  (hw:¬(sIx items.size 0 lo=0/\sIx items.size items.size hi=items.size))
  (h:Q (.ref s.heap.objs.size) { s with heap:=s.heap.push { cls:= .type "tuple",data:= .seq ((items.toList.drop (sIx items.size 0 lo)).take (sIx items.size items.size hi-sIx items.size 0 lo)).toArray}})
  (hsz:items.size<=sizeLine):wpAny (model prog w) A (getItem (.ref t) (.ref sl)) Q E s:=by
 have htake:sizeOk (.seq ((items.toList.drop (sIx items.size 0 lo)).take (sIx items.size items.size hi-sIx items.size 0 lo)).toArray):=by
  show((items.toList.drop (sIx items.size 0 lo)).take (sIx items.size items.size hi-sIx items.size 0 lo)).toArray.size<=sizeLine;rw [size_toArray,length_take,length_drop,Array.length_toList];omega
 have hj:sIx items.size items.size hi<=items.size:=Nr _ _ (Nat.le_refl _) hi;obtain⟨os,hos,hcs,hds⟩:=id hs;have hTs:s.TypeIs (.ref sl) "slice" :=⟨os,hos,hcs⟩;unfold getItem
 try with_reducible refine wpAny_holding ?_
 first | refine wpAny_bind (wpAny_pure ?_) | skip
 refine wpAny_bind (wpAny_sequenceKey ht.typeIs (by decide) ?_);refine wpAny_bind (wpAny_callSpecial?_slot (name:=Str.ofString "__getitem__") ht.typeIs PyProof.Rows.slot_tuple_getitem
  (wpAny_call_entry PyProof.Rows.slot_tuple_getitem ht.typeIs entry_tuple_getitem ?_ (args_tuple_getitem _ _)))
 show wpAny _ _ (Builtin.Tuple.tupleItemsOf (.ref t) >>=_) _ _ s;refine wpAny_bind (tupleItemsOf_ ht ?_);refine wpAny_bind (wpAny_typeOf hTs ?_);rw [if_pos (by decide)];refine wpAny_bind (sliceApplied_gen hs pl pu ?_);have hno:¬((((sIx items.size 0 lo:Nat):Int)==0 &&(1:Int)==1 &&(sIx items.size items.size hi-sIx items.size 0 lo)==items.size)=true):=by
  intro q;rw [Bool.and_eq_true,Bool.and_eq_true] at q;have q1:((sIx items.size 0 lo:Nat):Int)=0:=eq_of_beq q.1.1;have q2:sIx items.size items.size hi-sIx items.size 0 lo=items.size:=eq_of_beq q.2;exact hw ⟨by omega,by omega⟩
 show wpAny _ _ (if (((sIx items.size 0 lo:Nat):Int)==0 &&(1:Int)==1 &&(sIx items.size items.size hi-sIx items.size 0 lo)==items.size)=true then _ else _) _ _ s;rw [if_neg hno,Nv]
 first
  | exact wpAny_bind (m:=Builtin.Tuple.tupleExact _) (wpAny_newObj_type (wpAny_pure ⟨_,rfl,wpAny_pure h⟩) htake)
  | exact wpAny_bind (m:=Builtin.Tuple.tupleExact _) (wpAny_newObj_type (wpAny_bind (wpAny_pure (wpAny_pure ⟨_,rfl,wpAny_pure h⟩))) htake)
  | exact wpAny_bind (wpAny_bind (m:=Builtin.Tuple.tupleExact _) (wpAny_newObj_type (wpAny_pure (wpAny_pure ⟨_,rfl,wpAny_pure h⟩)) htake))
  | exact wpAny_bind (wpAny_bind (m:=Builtin.Tuple.tupleExact _) (wpAny_newObj_type (wpAny_pure ⟨_,rfl,wpAny_pure h⟩) htake))
end
end HT
namespace L2
abbrev TO:=St->Hp->(Option Int->Hp->Prop)->Prop
def PO (X:Cx) (e:Option Expr) (t:TO):Prop:=
 ∀(pins:PNs) (s:Shared) (σ:St) (H:Hp) (Q:Option Int->Hp->Prop),Ad X pins σ H s->t σ H Q->
  wpAny (model X.prog X.w) X.A (evalPart e X.env) (λu s'=>∃o H',Ad X pins σ H' s'/\IsPart u o/\Q o H') X.xe s
def Nw:TO:=λ_ H Q=>Q none H
def Nx (t:TE):TO:=fun σ H Q=>t σ H λx H1=>∃i,x= .int i/\Q (some i) H1
theorem J0 {ns:List Int}:∀ {us:List Value},Av (ns.map V.int) us->IntsAre us ns:=by
 induction ns with
 | nil=>intro us r;rw [map_nil] at r;cases r;exact .nil
 | cons n ns ih=>
  intro us r;rw [map_cons] at r;cases r with
  | cons r1 r2=>
   obtain⟨t,e⟩:=r1;subst e;exact .cons n t (ih r2)
section
variable {X : Cx} {e : Expr} {te : TE} {lo hi : Option Expr} {tl th : TO} {pos p2 : Pos}
theorem DC:PO X none Nw:=by
 intro pins s σ H Q I h;rw [evalPart_none];exact wpAny_pure ⟨none,H,I,.none,h⟩
theorem BS (h:PE X e te):PO X (some e) (Nx te):=by
 intro pins s σ H Q I hw;rw [evalPart_some];refine Ao (h pins s σ H _ I hw) λu s1 ⟨x,H1,I1,r1,q1⟩=>?_
 obtain⟨i,rfl,q⟩:=q1;obtain⟨t,rfl⟩:=r1;exact⟨some i,H1,I1,.int i t,q⟩
def Ge (X:Cx) (r:V->Option Int->Option Int->Hp->VK->Prop):Prop:=
 ∀(pins:PNs) (s:Shared) (σ:St) (H:Hp) (x:V) (v vl vu:Value) (lo hi:Option Int) (sl:Addr) (Q:VK),Ad X pins σ H s->Ay x v->s.heap.IsSliceOf sl vl vu .none->IsPart vl lo->IsPart vu hi->r x lo hi H Q->
  ∃T id,typeLookup (.type T) "__getitem__"=pure (some (.builtin id))/\s.TypeIs v T/\wpAny (model X.prog X.w) X.A (getItem v (.ref sl)) (EP X pins σ Q) X.xe s
def Ny (r:V->Option Int->Option Int->Hp->VK->Prop) (te:TE) (tl th:TO):TE:=fun σ H Q=>te σ H λx H1=>tl σ H1 λl H2=>th σ H2 λu H3=>r x l u H3 Q
theorem Cs {r:V->Option Int->Option Int->Hp->VK->Prop} (hr:Ge X r) (he:PE X e te) (hl:PO X lo tl) (hu:PO X hi th):PE X (.Subscript e (.Slice lo hi none p2) pos) (Ny r te tl th):=by
 intro pins s σ H Q I h;refine Subscript_ (Ao (he pins s σ H _ I h) λv s1 ⟨x,H1,I1,r1,q1⟩=>?_);refine wpAny_Slice (Ao (hl pins s1 σ H1 _ I1 q1) λvl s2 ⟨l,H2,I2,pl,q2⟩=>Ao (hu pins s2 σ H2 _ I2 q2) λvu s3 ⟨u,H3,I3,pu,q3⟩=>?_);rw [evalPart_none];refine wpAny_pure ?_;have I4:Ad X pins σ H3 { s3 with heap:=s3.heap.push { cls:= .type "slice",data:= .fields #[vl,vu,.none]}}:=I3.kept (t':=s3.toks) λb ob q=>Heap.get?_push_of_some _ q
 obtain⟨T,id,hT,ht,hg⟩:=hr pins { s3 with heap:=s3.heap.push { cls:= .type "slice",data:= .fields #[vl,vu,.none]}} σ H3 x v vl vu l u s3.heap.objs.size Q I4 r1 (Heap.IsSliceOf.new ..) pl pu q3;show wpAny (model X.prog X.w) X.A (subscriptTail e (.Slice lo hi none p2) v (.ref s3.heap.objs.size)) (EP X pins σ Q) X.xe { s3 with heap:=s3.heap.push { cls:= .type "slice",data:= .fields #[vl,vu,.none]}};exact tail_any (ops:=[.ref s3.heap.objs.size,v]) ht hT hg (by with_unfolding_all rfl)
def Bf (xs:List V) (lo hi:Option Int):List V:=(xs.drop (HT.sIx xs.length 0 lo)).take (HT.sIx xs.length xs.length hi-HT.sIx xs.length 0 lo)
theorem EE (xs:List V) (lo hi:Option Int):(Bf xs lo hi).length<=xs.length:=by
 unfold Bf;rw [length_take,length_drop];omega
end
end L2
namespace L2
variable {n j : Nat} {i : Int} {α : Type} {xs : List α} {v u : Value} {pins : List (Addr × Obj)} {σ : St} {H : Hp} {s : Shared} {p : Addr} {y : V}
def Ct (n:Nat) (i:Int):Option Nat:=if 0<=i then(if i<n then some i.toNat else none) else if -(n:Int)<=i then some (i+n).toNat else none
def Bu {α:Type} (xs:List α) (i:Int):Option α:=(Ct xs.length i).bind λj=>xs[j]?
theorem J9 (h:Ct n i=some j):seqIndex? i n=some j/\j<n/\ -(n:Int)<=i/\i<n:=by
 unfold Ct at h
 by_cases h0:0<=i
 ·rw [if_pos h0] at h
  by_cases h1:i<n
  ·rw [if_pos h1] at h;have e:i.toNat=j:=Option.some.inj h;exact⟨by rw [seqIndex_of h0 h1,e],by omega,by omega,h1⟩
  ·rw [if_neg h1] at h;cases h
 ·rw [if_neg h0] at h
  by_cases h1: -(n:Int)<=i
  ·rw [if_pos h1] at h;have e:(i+n).toNat=j:=Option.some.inj h;exact⟨by rw [seqIndex_neg (by omega) h1,e],by omega,h1,by omega⟩
  ·rw [if_neg h1] at h;cases h
theorem Ka {v:α} (h:Bu xs i=some v):∃j,seqIndex? i xs.length=some j/\xs[j]? =some v/\j<xs.length/\ -(xs.length:Int)<=i/\i<xs.length:=by
 unfold Bu at h;cases e:Ct xs.length i with
 | none=>rw [e] at h;cases h
 | some j=>
  rw [e] at h;obtain⟨h1,h2,h3,h4⟩:=J9 e;exact⟨j,h1,h,h2,h3,h4⟩
theorem BT {v:α} (h:xs[j]? =some v):Bu xs (j:Int)=some v:=by
 have hj:j<xs.length:=(List.getElem?_eq_some_iff.mp h).1;have e:Ct xs.length (j:Int)=some j:=by
  unfold Ct;rw [if_pos (by omega),if_pos (by omega)];simp
 unfold Bu;rw [e];exact h
def Nz (b:Expr):Prop:=∀o i,subscripted b false o i=operate [o,i] (getItem o i)
def Fm (X:Cx) (r:R2):Prop:=
 ∀(value slice:Expr) (pins:PNs) (s:Shared) (σ:St) (H:Hp) (x y:V) (v u:Value) (Q:VK),Ad X pins σ H s->Ay x v->Ay y u->r x y H Q->
  subscripted slice false v u=operate [v,u] (getItem v u)->wpAny (model X.prog X.w) X.A (subscriptTail value slice v u) (EP X pins σ Q) X.xe s
def Gf (X:Cx) (id:String) (r:V->List V->Hp->VK->Prop):Prop:=
 ∀(pins:PNs) (s:Shared) (σ:St) (H:Hp) (x:V) (xs:List V) (v:Value) (us:List Value) (Q:VK),Ad X pins σ H s->Ay x v->Av xs us->r x xs H Q->
  wpAny (model X.prog X.w) X.A (call (.builtin id) (v::us)) (EP X pins σ Q) X.xe s
section
variable {X : Cx} {a b : Expr} {ta tb : TE} {pos : Pos}
theorem Au {r:R2} (hr:Fm X r) (ha:PE X a ta) (hb:PE X b tb) (hs:Nz b):PE X (.Subscript a b pos) (Fk r ta tb):=by
 intro pins s σ H Q I h;exact Subscript_ (Ik ha hb I h λv u s2 x y H2 I2 rx ry q=>hr a b pins s2 σ H2 x y v u Q I2 rx ry q (hs _ _))
def Io (K:Fgx):R2:=λx y H Q=>∃p xs i v,x= .ref p/\y= .int i/\Al K H p xs/\Bu xs i=some v/\Q v H
def Kb (K:Fgx):R2:=λx y H Q=>∃p xs i v,x= .ref p/\y= .int i/\Ae K H p xs/\Bu xs i=some v/\Q v H
theorem NA:Fm X (Io X.K):=by
 intro value slice pins s σ H x y v u Q I rx ry h hs;obtain⟨p,xs,i,z,rfl,rfl,hq,he,q⟩:=h;cases rx;obtain⟨t,rfl⟩:=ry;obtain⟨its,r,pl,hz⟩:=I.list hq;obtain⟨j,h1,h2,h3,h4,h5⟩:=Ka he;obtain⟨w,ew,rw'⟩:=r.get h2;have hl:=r.length;have hn:=Fl;have fin:EP X pins σ Q w s:=⟨z,H,I,rw',q⟩
 by_cases h0:0<=i
 ·have hj:i.toNat=j:=by
   rw [seqIndex_of h0 h5] at h1;exact Option.some.inj h1
  exact item_listR pl.isList h0 (by omega) (by rw [hj];simpa using ew) fin hs
 ·have hj:(i+(its.toArray.size:Int)).toNat=j:=by
   rw [seqIndex_neg (by omega) h4] at h1;rw [size_toArray,<-hl];exact Option.some.inj h1
  exact subscriptTail_builtinR (x:=w) pl.isList.typeIs slot_list_getitem.lookup
   (wpAny_getItem_list_neg (Q:=λr s'=>r=w/\EP X pins σ Q r s') pl.isList (by omega) (by rw [size_toArray]<;>omega) (by omega) (by rw [hj];simpa using ew) ⟨rfl,fin⟩) hs
theorem NB:Fm X (Kb X.K):=by
 intro value slice pins s σ H x y v u Q I rx ry h hs;obtain⟨p,xs,i,z,rfl,rfl,hq,he,q⟩:=h;cases rx;obtain⟨t,rfl⟩:=ry;obtain⟨its,r,pl,hz⟩:=I.tuple hq;obtain⟨j,h1,h2,h3,h4,h5⟩:=Ka he;obtain⟨w,ew,rw'⟩:=r.get h2;have hl:=r.length;have hn:=Fl;have fin:EP X pins σ Q w s:=⟨z,H,I,rw',q⟩;exact subscriptTail_builtinR (x:=w) pl.typeIs slot_tuple_getitem.lookup
  (getItem_tuple (j:=j) (Q:=λr s'=>r=w/\EP X pins σ Q r s') pl (by omega) (by omega) (by rw [size_toArray,<-hl];exact h1) (by simpa using ew) ⟨rfl,fin⟩) hs
theorem NC (its:List Value) (n j:Nat) (u:Value):Obj.mapSeq (·.setIfInBounds j u) { cls:= .type "list",data:= .seq its.toArray n}= { cls:= .type "list",data:= .seq (its.set j u).toArray n}:=by
 simp [Obj.mapSeq]
theorem Ad.lst {xs:List V} (I:Ad X pins σ H s) (h:H p=some (.lst xs)):
  ∃(its:List Value) (n:Nat),Av xs its/\s.heap.get? p=some { cls:= .type "list",data:= .seq its.toArray n}/\xs.length<=sizeLine:=by
 obtain⟨z,its,n,r,e⟩:=I.hok p _ h;exact⟨its,n,r,e,z⟩
theorem Ad.lstUpd {xs ys:List V}{its its':List Value}{n':Nat}{f:Obj->Obj} (I:Ad X pins σ H s) (h:H p=some (.lst xs))
  (ho:s.heap.get? p=some { cls:= .type "list",data:= .seq its.toArray n}) (hf:f { cls:= .type "list",data:= .seq its.toArray n}= { cls:= .type "list",data:= .seq its'.toArray n'}) (r:Av ys its') (hz:ys.length<=sizeLine) (t:Nat):
  Ad X pins σ (upd H p (.lst ys)) { s with heap:=s.heap.update p f,toks:=t}:=by
 have e:(s.heap.update p f).get? p=some { cls:= .type "list",data:= .seq its'.toArray n'}:=by
  rw [Heap.get?_update_self f ho (by rw [hf]<;>rfl),hf]
 refine I.write (x:=p) (e:=p) (by rw [h];trivial) (.inl rfl) (λb u hb q=>(Heap.get?_update_other _ _ (Ne.symm hb)).trans q) ⟨_,e⟩ ?_;exact⟨hz,its',n',r,e⟩
def ND:V->V->V->Hp->(Hp->Prop)->Prop:=λo i v H Q=>∃p xs k j,o= .ref p/\i= .int k/\H p=some (.lst xs)/\Ct xs.length k=some j/\Q (upd H p (.lst (xs.set j v)))
theorem Fo:Id X ND:=by
 intro pins s σ H o i v ov iv u Q I ro ri rv h;obtain⟨p,xs,k,j,rfl,rfl,hp,hj,q⟩:=h;cases ro;obtain⟨t,rfl⟩:=ri;obtain⟨its,n,r,ho,hz⟩:=I.lst hp;obtain⟨h1,h2,h3,h4⟩:=J9 hj;have hl:=r.length;have hn:=Fl;have I':Ad X pins σ (upd H p (.lst (xs.set j v))) { s with heap:=s.heap.update p (Obj.mapSeq (·.setIfInBounds j u))}:=
  I.lstUpd hp ho (NC its n j u) (r.set rv j) (by rw [length_set];exact hz) s.toks
 by_cases h0:0<=k
 ·have hk:k.toNat=j:=by
   rw [seqIndex_of h0 h4] at h1;exact Option.some.inj h1
  exact PySem.W.ki_setAt ho h0 (by omega) (by rw [size_toArray,<-hl];exact h4) (by rw [hk];exact⟨_,I',q⟩)
 ·have hk:(k+(its.toArray.size:Int)).toNat=j:=by
   rw [seqIndex_neg (by omega) h3] at h1;rw [size_toArray,<-hl];exact Option.some.inj h1
  exact PySem.W.ki_setBack ho (by omega) (by rw [size_toArray,<-hl];exact h3) (by omega) (by rw [hk];exact⟨_,I',q⟩)
theorem NE (lo hi:Option Int) (n:Nat):(sliceBounds lo hi none n).1=((HT.sIx n 0 lo:Nat):Int)/\(sliceBounds lo hi none n).2.1=((HT.sIx n n hi:Nat):Int)/\(sliceBounds lo hi none n).2.2=1:=by
 refine⟨?_,?_,rfl⟩
 ·cases lo with
  | none=>simp [sliceBounds,HT.sIx]
  | some i=>
   simp only [sliceBounds,HT.sIx,Option.getD_none,show(1:Int) >0 by decide,if_true]
   by_cases h:i<0
   ·simp only [h,if_true]<;>omega
   ·simp only [h,if_false]<;>omega
 ·cases hi with
  | none=>simp [sliceBounds,HT.sIx]
  | some i=>
   simp only [sliceBounds,HT.sIx,Option.getD_none,show(1:Int) >0 by decide,if_true]
   by_cases h:i<0
   ·simp only [h,if_true]<;>omega
   ·simp only [h,if_false]<;>omega
theorem NF (its:List Value) (lo hi:Option Int):slicePick its.toArray lo hi none=((its.drop (HT.sIx its.length 0 lo)).take (HT.sIx its.length its.length hi-HT.sIx its.length 0 lo)).toArray:=by
 obtain⟨h1,h2,h3⟩:=NE lo hi its.toArray.size;unfold slicePick;rw [h1,h2,h3];simp only [sliceRange_one,pick_run,size_toArray]<;>rfl
def Kc (K:Fgx):V->Option Int->Option Int->Hp->VK->Prop:=λx lo hi H Q=>∃a xs,x= .ref a/\Al K H a xs/\∀p,H p=none->Q (.ref p) (upd H p (.lst (Bf xs lo hi)))
theorem NG:Ge X (Kc X.K):=by
 intro pins s σ H x v vl vu lo hi sl Q I rx hs pl pu h;obtain⟨a,xs,rfl,hx,q⟩:=h;cases rx;obtain⟨its,r,ht,hz⟩:=I.list hx;have hlen:=r.length;refine⟨"list",_,slot_list_getitem.lookup,ht.isList.typeIs,?_⟩;refine wpAny_getItem_list_slice ht.isList hs pl pu .none (by simp) ?_ (by rw [size_toArray]<;>omega);rw [NF,<-hlen];refine⟨.ref s.heap.objs.size,_,I.laid (t':=s.toks) (o:= .lst (Bf xs lo hi)) (λb ob q=>Heap.get?_push_of_some _ q) (Nat.le_refl _) ?_,rfl,q _ (I.hok.fresh (Nat.le_refl _))⟩;exact⟨Nat.le_trans (EE xs lo hi) hz,_,0,(r.drop (HT.sIx xs.length 0 lo)).take (HT.sIx xs.length xs.length hi-HT.sIx xs.length 0 lo),Heap.get?_push_size _ rfl⟩
def C4:V->Bool
 | .non=>true
 | .bl _=>true
 | .int _=>true
 | .str _=>true
 | _=>false
def DD:V->V->Bool
 | .non,.non=>true
 | .bl a,.bl b=>a==b
 | .bl a,.int b=>(if a then 1 else 0)==b
 | .int a,.bl b=>a==(if b then 1 else 0)
 | .int a,.int b=>a==b
 | .str a,.str b=>a==b
 | _,_=>false
theorem NH {A:Around}{x:V} (ry:Ay y u) (rx:Ay x v) (fy:C4 y=true) (fx:C4 x=true):SeqAt.EqAt A s u v (DD y x):=by
 cases y with
 | non=>
  cases ry;cases x with
  | non=>cases rx;exact SeqAt.EqAt.same _
  | bl b=>cases rx;exact SeqAt.EqAt.none_bool b
  | int b=>obtain⟨t,rfl⟩:=rx;exact SeqAt.EqAt.none_int b t
  | str b=>obtain⟨t,rfl⟩:=rx;exact SeqAt.EqAt.none_str b t
  | _=>exact absurd (show false=true from fx) Bool.false_ne_true
 | bl a=>
  cases ry;cases x with
  | non=>cases rx;exact SeqAt.EqAt.bool_none a
  | bl b=>cases rx;exact SeqAt.EqAt.bool_bool a b
  | int b=>obtain⟨t,rfl⟩:=rx;exact SeqAt.EqAt.bool_int a b t
  | str b=>obtain⟨t,rfl⟩:=rx;exact SeqAt.EqAt.bool_str a b t
  | _=>exact absurd (show false=true from fx) Bool.false_ne_true
 | int a=>
  obtain⟨t',rfl⟩:=ry;cases x with
  | non=>cases rx;exact SeqAt.EqAt.int_none a t'
  | bl b=>cases rx;exact SeqAt.EqAt.int_bool a t' b
  | int b=>obtain⟨t,rfl⟩:=rx;exact SeqAt.EqAt.int_int a t' b t
  | str b=>obtain⟨t,rfl⟩:=rx;exact SeqAt.EqAt.int_str a t' b t
  | _=>exact absurd (show false=true from fx) Bool.false_ne_true
 | str a=>
  obtain⟨t',rfl⟩:=ry;cases x with
  | non=>cases rx;exact SeqAt.EqAt.str_none a t'
  | bl b=>cases rx;exact SeqAt.EqAt.str_bool a t' b
  | int b=>obtain⟨t,rfl⟩:=rx;exact SeqAt.EqAt.str_int a t' b t
  | str b=>obtain⟨t,rfl⟩:=rx;exact SeqAt.EqAt.str_str a t' b t
  | _=>exact absurd (show false=true from fx) Bool.false_ne_true
 | _=>exact absurd (show false=true from fy) Bool.false_ne_true
def C5 (x:V) (u:Value):Bool:=match u with
 | .none=>DD .non x
 | .bool b=>DD (.bl b) x
 | .int i _=>DD (.int i) x
 | .str z _=>DD (.str z) x
 | _=>false
theorem Kd {x:V} (r:Ay y u) (f:C4 y=true):C5 x u=DD y x:=by
 cases y with
 | non=>cases r;rfl
 | bl b=>cases r;rfl
 | int i=>obtain⟨t,rfl⟩:=r;rfl
 | str z=>obtain⟨t,rfl⟩:=r;rfl
 | _=>exact absurd (show false=true from f) Bool.false_ne_true
theorem Ip {x:V}:∀ {xs:List V}{us:List Value},Av xs us->xs.all C4=true->us.any (C5 x)=xs.any λy=>DD y x
 | _,_,.nil,_=>rfl
 | y::xs,u::us,.cons r t,f=>by
  rw [all_cons,Bool.and_eq_true] at f;rw [any_cons,any_cons,Kd r f.1,Ip t f.2]
theorem Iq {A:Around}{x:V} (rx:Ay x v) (fx:C4 x=true):∀ {xs:List V}{us:List Value},Av xs us->xs.all C4=true->∀u∈us,SeqAt.EqAt A s u v (C5 x u)
 | _,_,.nil,_=>λu hu=>by cases hu
 | y::xs,u::us,.cons r t,f=>λu' hu=>by
  rw [all_cons,Bool.and_eq_true] at f;rcases mem_cons.mp hu with rfl | hu
  ·rw [Kd r f.1];exact NH r rx f.1 fx
  ·exact Iq rx fx t f.2 u' hu
def C6 (x:V) (xs:List V):Bool:=xs.any λy=>DD y x
def Ke (K:Fgx) (neg:Bool):R2:=λx y H Q=>∃p xs,y= .ref p/\(Al K H p xs\/Ae K H p xs)/\C4 x=true/\xs.all C4=true/\Q (.bl (if neg then !C6 x xs else C6 x xs)) H
theorem NI:OpR X (compareOp .In) (Ke X.K false):=by
 intro pins s σ H x y v u Q I rx ry h;obtain⟨p,xs,rfl,hq,fx,fs,q⟩:=h;cases ry;rcases hq with hq | hq
 ·obtain⟨its,r,pl,hz⟩:=I.list hq;refine SeqAt.in_listAt (C5 x) pl.isList (λw hw=>Iq rx fx r fs w (by simpa using hw)) ⟨.bl _,H,I,rfl,?_⟩;rw [show its.toArray.any (C5 x)=its.any (C5 x) by simp,Ip r fs];exact q
 ·obtain⟨its,r,pl,hz⟩:=I.tuple hq;refine SeqAt.in_tupleAt (C5 x) pl (λw hw=>Iq rx fx r fs w (by simpa using hw)) ⟨.bl _,H,I,rfl,?_⟩;rw [show its.toArray.any (C5 x)=its.any (C5 x) by simp,Ip r fs];exact q
theorem NJ:Bk X (.builtin "len") (λxs H Q=>∃p ys,xs=[.ref p]/\(Al X.K H p ys\/Ae X.K H p ys)/\Q (.int ys.length) H):=by
 intro pins s σ H xs us Q I r h;obtain⟨p,ys,rfl,hq,q⟩:=h;obtain⟨u,rfl,rx⟩:=EC r;cases rx;have hn:=Fl;rcases hq with hq | hq
 ·obtain⟨its,r',pl,hz⟩:=I.list hq;have hlen:=r'.length;exact Calls.call_len_list pl.isList (by simp only [size_toArray]<;>omega) ⟨.int ys.length,H,I.tok _,⟨s.toks+1,by rw [size_toArray,hlen]⟩,q⟩
 ·obtain⟨its,r',pl,hz⟩:=I.tuple hq;have hlen:=r'.length;exact len_tuple pl (by simp only [size_toArray]<;>omega) ⟨.int ys.length,H,I.tok _,⟨s.toks+1,by rw [size_toArray,hlen]⟩,q⟩
theorem NK:Bk X (.type "list") (λxs H Q=>∃p ys,xs=[.ref p]/\(Al X.K H p ys\/Ae X.K H p ys)/\∀l,H l=none->Q (.ref l) (upd H l (.lst ys))):=by
 intro pins s σ H xs us Q I r h;obtain⟨p,ys,rfl,hq,q⟩:=h;obtain⟨u,rfl,rx⟩:=EC r;cases rx;have fin:∀(its:List Value),Av ys its->ys.length<=sizeLine->∀(h':Heap) (c':Nat),(∀b o',s.heap.get? b=some o'->h'.get? b=some o')->
   h'.get? s.heap.objs.size=some { cls:= .type "list",dict:=none,data:= .seq its.toArray c',slots:= #[]}->EP X pins σ Q (.ref s.heap.objs.size) { s with heap:=h'}:=λits r' hz h' c' kp e=>
  ⟨.ref s.heap.objs.size,_,I.laid (t':=s.toks) kp (Nat.le_refl _) (show ObjOk X.prog X.w _ h' _ (.lst ys) from⟨hz,its,c',r',e⟩),rfl,q _ (I.hok.fresh (Nat.le_refl _))⟩
 rcases hq with hq | hq
 ·obtain⟨its,r',pl,hz⟩:=I.list hq;have hlen:=r'.length;obtain⟨o,ho,hc,n,hd⟩:=pl.isList;exact call_list_seq p (.inl rfl) ho hc hd (λh' c' kp e=>fin its r' hz h' c' kp e) (by simp only [size_toArray]<;>omega)
 ·obtain⟨its,r',pl,hz⟩:=I.tuple hq;have hlen:=r'.length;obtain⟨o,ho,hc,n,hd⟩:=pl;exact call_list_seq p (.inr rfl) ho hc hd (λh' c' kp e=>fin its r' hz h' c' kp e) (by simp only [size_toArray]<;>omega)
theorem NL:Bk X (.type "tuple") (λxs H Q=>∃p ys,xs=[.ref p]/\((Al X.K H p ys/\∀l,H l=none->Q (.ref l) (upd H l (.tup ys)))\/(Ae X.K H p ys/\Q (.ref p) H))):=by
 intro pins s σ H xs us Q I r h;obtain⟨p,ys,rfl,h⟩:=h;obtain⟨u,rfl,rx⟩:=EC r;cases rx;rcases h with⟨hq,q⟩ | ⟨hq,q⟩
 ·obtain⟨its,r',pl,hz⟩:=I.list hq;have hlen:=r'.length;refine call_tuple_list pl.isList (λh' kp=>?_) (by simp only [size_toArray]<;>omega);have I1:Ad X pins σ H { s with heap:=h'}:=I.kept (t':=s.toks) kp;have I2:Ad X pins σ (upd H h'.objs.size (.tup ys)) { s with heap:=h'.push { cls:= .type "tuple",data:= .seq its.toArray}}:=
   I1.laid (t':=s.toks) (λb o e=>Heap.get?_push_of_some _ e) (Nat.le_refl _) (show ObjOk X.prog X.w _ _ _ (.tup ys) from⟨hz,its,r',IsTup.new _ _⟩)
  exact⟨.ref h'.objs.size,_,I2,rfl,q _ (I1.hok.fresh (Nat.le_refl _))⟩
 ·obtain⟨its,r',pl,hz⟩:=I.tuple hq;exact call_tuple_same pl ⟨.ref p,H,I,rfl,q⟩
def Kf (K:Fgx) (T:String) (x:V) (H:Hp):Prop:=match x with
 | .str _=>T="str"
 | .int _=>T="int"
 | .ref p => (T = "list" /\ ∃ xs, Al K H p xs) \/ (T = "tuple" /\ ∃ o, K.lookup p = some o /\ o.cls = .type "tuple" /\ o.dict = none) \/
   (T="dict" /\((∃kvs,H p=some (.dK kvs))\/ ∃kvs,H p=some (.dT kvs)))\/(T="set" /\∃S n,H p=some (.set S n))
 | _=>False
theorem NM {T:String}{x:V} (I:Ad X pins σ H s) (r:Ay x v) (ty:Kf X.K T x H):
  s.TypeIs v T/\∀a,v= .ref a->∃ob,s.heap.get? a=some ob/\ob.dict=none:=by
 cases x with
 | str z=>
  obtain⟨t,rfl⟩:=r;cases(show T="str" from ty);exact⟨typeIs_str s z t,λ_ e=>nomatch e⟩
 | int i=>
  obtain⟨t,rfl⟩:=r;cases(show T="int" from ty);exact⟨typeIs_int s i t,λ_ e=>nomatch e⟩
 | ref p=>
  cases r;rcases ty with⟨rfl,xs,hq⟩ | ⟨rfl,o,hk,hc,hd⟩ | ⟨rfl,hk⟩ | ⟨rfl,S,n,hk⟩
  ·obtain⟨its,_,pl,_⟩:=I.list hq;refine⟨pl.isList.typeIs,λa e=>?_⟩;cases e;obtain⟨o,n,e,c,hd,_⟩:=pl;exact⟨o,e,hd⟩
  ·refine⟨⟨o,I.kIn p o hk,hc⟩,λa e=>?_⟩;cases e;exact⟨o,I.kIn _ o hk,hd⟩
  ·have z:∃o,s.heap.get? p=some o/\o.ExactDict:=by
    rcases hk with⟨kvs,hk⟩ | ⟨kvs,hk⟩
    ·obtain⟨_,_,_,_,o,_,_,e,ex,_⟩:=I.hok p _ hk;exact⟨o,e,ex⟩
    ·obtain⟨_,_,_,_,o,_,_,e,ex,_⟩:=I.hok p _ hk;exact⟨o,e,ex⟩
   obtain⟨o,e,ex⟩:=z;refine⟨⟨o,e,ex.1⟩,λa e2=>?_⟩;cases e2;exact⟨o,e,ex.2.1⟩
  ·obtain⟨o,_,_,_,e,ex,_⟩:=I.hok p _ hk;refine⟨⟨o,e,ex.1⟩,λa e2=>?_⟩;cases e2;exact⟨o,e,ex.2.1⟩
 | _=>exact False.elim ty
def Kg (K:Fgx) (T:String) (r:V->List V->Hp->VK->Prop) (to:TE) (t:TA):TE:=fun σ H Q=>to σ H λx H1=>Kf K T x H1/\t σ H1 λxs H2=>r x xs H2 Q
variable {o e : Expr} {es : List Expr} {to : TE} {t : TA} {name : Str} {apos cpos : Pos} {T id : String} {r : V -> List V -> Hp -> VK -> Prop}
theorem BZ (pa:PlainAttrs T) (slot:Slot T name id) (hty:typeOf (.builtin id)=pure (.type "method_descriptor")) (hm:Gf X id r) (ho:PE X o to) (ha:PA X (e::es) t)
  (hbase:attributeBase o name X.env (eval o X.env)=eval o X.env:=by rfl)
  (hfew : ((backTo cpos (starEach (e :: es) X.env)).all (λx => !x.1) && (backToKw cpos (keywordEach [] X.env)).all (λx => x.1.isSome)
   && decide ((e::es).length+([]:List Keyword).length+(if ([]:List Keyword).isEmpty then 0 else 1)<30))=true:=by rfl)
  (hline:(apos.endLine==cpos.line)=true:=by rfl) (hs:starEach (e::es) X.env=(false,eval e X.env)::starEach es X.env:=by rfl) (hplain:(backTo cpos (starEach es X.env)).any (·.1)=false:=by rfl):
  PE X (.Call (.Attribute o name apos) (e::es) [] cpos) (Kg X.K T r to t):=by
 intro pins s σ H Q I h;refine wpAny_Call_method_late hbase hfew hline rfl (Ao (ho pins s σ H _ I h) λv s1 ⟨x,H1,I1,r1,ty,q1⟩=>?_);obtain⟨h1,h2⟩:=NM I1 r1 ty;refine⟨T,id,pa,slot,hty,h1,h2,?_⟩;have hA:=ha cpos pins s1 σ H1 _ I1 q1;rw [hs] at hA ⊢;refine Calls.callWith_builtin (by show(false || (backTo cpos (starEach es X.env)).any (·.1))=false;rw [hplain]<;>rfl) (Calls.evalArgs_plain ?_);exact Ao hA λus s2 ⟨vs,H2,I2,r2,q2⟩=>hm pins s2 σ H2 x vs v us Q I2 r1 r2 q2
end
end L2
namespace L2
variable {us its : List Value} {n t' : Nat}
def NN (X:Cx) (id:String) (r:V->List V->Hp->VK->Prop):Prop:=
 ∀(pins:PNs) (s:Shared) (σ:St) (H:Hp) (x:V) (xs:List V) (v:Value) (us:List Value) (Q:VK),Ad X pins σ H s->Ay x v->Av xs us->r x xs H Q->
  wpAny (model X.prog X.w) X.A (call (.builtin id) (v::us)) (EP X pins σ Q) X.xe s
theorem Av.one:∀ {x:V}{us:List Value},Av [x] us->∃u,us=[u]/\Ay x u
 | _,_,.cons r .nil=>⟨_,rfl,r⟩
theorem Av.two:∀ {x y:V}{us:List Value},Av [x,y] us->∃u v,us=[u,v]/\Ay x u/\Ay y v
 | _,_,_,.cons r (.cons q .nil)=>⟨_,_,rfl,r,q⟩
theorem Av.reverse {xs:List V} (h:Av xs us):Av xs.reverse us.reverse:=by
 induction h with
 | nil=>exact .nil
 | cons r t ih=>rw [List.reverse_cons,List.reverse_cons];exact Av.append ih (.cons r .nil)
theorem Av.rep {xs:List V} (h:Av xs us):∀k:Nat,Av (List.replicate k xs).flatten (List.replicate k us).flatten
 | 0=> .nil
 | k+1=>by
  rw [replicate_succ,replicate_succ,flatten_cons,flatten_cons];exact Av.append h (Av.rep h k)
theorem Kh (its:List Value):∀(k:Nat) (acc:List Value),
  List.foldl (λx1 x2=>x1++x2) acc.toArray (List.replicate k its.toArray)=(acc++(List.replicate k its).flatten).toArray
 | 0,acc=>by simp
 | k+1,acc=>by
  have e:acc.toArray++its.toArray=(acc++its).toArray:=by simp
  have e2:(acc++its)++(List.replicate k its).flatten=acc++(List.replicate (k+1) its).flatten:=by
   rw [replicate_succ,flatten_cons,List.append_assoc]
  rw [<-e2,<-Kh its k (acc++its),<-e,replicate_succ,foldl_cons]
section
variable {X : Cx} {pins : List (Addr × Obj)} {σ : St} {H : Hp} {s : Shared} {l b : Addr} {xs ys zs : List V}
theorem Ad.lset {its':List Value}{f:Array Value->Array Value} (I:Ad X pins σ H s) (hH:H l=some (.lst xs))
  (e:s.heap.get? l=some { cls:= .type "list",data:= .seq its.toArray n}) (hf:f its.toArray=its'.toArray) (hv:Av ys its') (hz:ys.length<=sizeLine):
  Ad X pins σ (upd H l (.lst ys)) { s with heap:=s.heap.update l (Obj.mapSeq f),toks:=t'}:=by
 have q:=PySem.IsL.update e f;rw [hf] at q;refine I.write (x:=l) (e:=l) (by rw [hH];exact trivial) (.inl rfl) (λb' u hb hu=>(Heap.get?_update_other s.heap (Obj.mapSeq f) (Ne.symm hb)).trans hu) ⟨_,q⟩ ?_;exact⟨hz,its',_,hv,q⟩
theorem Ad.lnew (I:Ad X pins σ H s) (hv:Av ys its) (hz:ys.length<=sizeLine):
  Ad X pins σ (upd H s.heap.objs.size (.lst ys)) { s with heap:=s.heap.push { cls:= .type "list",data:= .seq its.toArray},toks:=t'}:=
 I.laid (λ_ _ q=>Heap.get?_push_of_some _ q) (Nat.le_refl _) ⟨hz,its,0,hv,Heap.get?_push_size _ rfl⟩
theorem Ad.fresh (I:Ad X pins σ H s):H s.heap.objs.size=none:=I.hok.fresh (Nat.le_refl _)
theorem Ad.lstM (I:Ad X pins σ H s) (hH:H l=some (.lst xs)):xs.length<=sizeLine/\∃(its:List Value) (n:Nat),Av xs its/\xs.length=its.length/\s.heap.get? l=some { cls:= .type "list",data:= .seq its.toArray n}:=by
 obtain⟨z,its,n,r,e⟩:=I.hok l _ hH;exact⟨z,its,n,r,r.length,e⟩
theorem notLongL (h:n<=sizeLine):Builtin.List.listTooLong n=false:=by
 unfold Builtin.List.listTooLong;exact decide_eq_false (by omega)
end
section
variable {X : Cx}
def NO:V->List V->Hp->VK->Prop:=λx vs H Q=>∃l xs y,x= .ref l/\vs=[y]/\H l=some (.lst xs)/\xs.length<sizeLine/\Q .non (upd H l (.lst (xs++[y])))
theorem B6:NN X "list.append" NO:=by
 intro pins s σ H x vs v us Q I rx rv h;obtain⟨l,xs,y,rfl,rfl,hH,hz,q⟩:=h;cases rx;obtain⟨u,rfl,ru⟩:=rv.one;obtain⟨z,its,n,r,hl,e⟩:=I.lstM hH;refine call_meets F.slot_list_append ⟨_,e,rfl⟩ F.entry_list_append (F.args_list_append_2 _ _) (PySem.list_append l its.toArray n u (by rw [size_toArray];omega)) ⟨e,?_⟩;refine⟨.non,_,I.lset (its':=its++[u]) hH e (by simp) (r.append (.cons ru .nil)) ?_,rfl,q⟩;rw [length_append,List.length_singleton];omega
def NP:R2:=λx y H Q=>∃l b xs zs,x= .ref l/\y= .ref b/\H l=some (.lst xs)/\H b=some (.lst zs)/\xs.length+zs.length<=sizeLine/\∀p,H p=none->Q (.ref p) (upd H p (.lst (xs++zs)))
theorem EF:OpR X (binaryOp .Add) NP:=by
 intro pins s σ H x y v u Q I rx ry h;obtain⟨l,b,xs,zs,rfl,rfl,hH,hB,hz,q⟩:=h;cases rx;cases ry;obtain⟨z,its,n,r,hl,e⟩:=I.lstM hH;obtain⟨z2,its2,n2,r2,hl2,e2⟩:=I.lstM hB;refine PySem.P.add_list e e2 ?_ (by rw [size_toArray,size_toArray];omega);have ea:its.toArray++its2.toArray=(its++its2).toArray:=by simp
 rw [ea];exact⟨.ref _,_,I.lnew (t':=s.toks) (r.append r2) (by rw [length_append];omega),rfl,q _ I.fresh⟩
theorem Ki {α:Type} (xs:List α) (k:Nat):(List.replicate k xs).flatten.length=k * xs.length:=by
 induction k with
 | zero=>simp
 | succ k ih=>rw [replicate_succ,flatten_cons,length_append,ih,Nat.succ_mul,Nat.add_comm]
end
section
variable {prog : Program} {w : World} {A : Around} {E : Value -> Shared -> Prop} {s : Shared}
end
section
variable {X : Cx}
end
end L2
namespace Att
open PySem PySem.W PySem.Calls PyProof.Rows
theorem NQ {P:Params}{h:Heap}:∀(ns:List Int) (vs:List Value),WellAll P h vs (ns.map WData.int)->IntsAre vs ns:=by
 intro ns
 induction ns with
 | nil=>
  intro vs w;rw [map_nil] at w;cases w;exact .nil
 | cons n ns ih=>
  intro vs w;rw [map_cons] at w;cases w with
  | cons a b=>
   cases a;exact .cons _ _ (ih _ b)
theorem NR {l:OpenLaw}{n:Nat} (hn:l.most=some n) {P:Params}{h:Heap}{args:List WData}{vals:List Value}
    (hpre:l.row.toRowW.claim.pre args=true) (hwl:WellAll P h vals args):
    ∃a vs ns,vals=[Value.ref a]/\args=[WData.list (ns.map WData.int)]/\h.get? a=some { cls:= .type "list",data:= .seq vs.toArray}/\IntsAre vs ns/\ns.length<=n:=by
  have hsh:WShape.hasAll [] args [.list .int]=true:=(pre_splitW hpre).1;have hc:l.pre.holds [] { args:=args}=true:=(pre_splitW hpre).2;obtain⟨d,r,rfl,h1,h2⟩:=hasAllW_cons hsh;obtain rfl:=hasAllW_nil h2;obtain⟨xs,rfl,h3⟩:=hasW_list h1;obtain⟨ns,rfl⟩:=items_int h3;have hlen:ns.length<=n:=by
    unfold OpenLaw.pre at hc;have h4:(WTm.not (.lt (.lit (.int (n:Int))) (.len (.arg 0)))).holds [] { args:=[.list (ns.map .int)]}=true:=by
      have h4:=(holds_andW hc).1;rw [hn] at h4;exact h4
    have h5:=condW_of h4 (w_not (w_lt w_lit (w_len_list (w_arg rfl))));rw [length_map] at h5;refine Nat.le_of_not_lt λq=>?_
    have q':(n:Int)<((ns.length:Nat):Int):=by omega
    first
      | (rw [decide_eq_true q'] at h5;exact absurd h5 (by decide))
      | (simp at h5;omega)
  cases hwl with
  | cons w1 w2 =>
    cases w2;cases w1 with
    | list ho hall=>exact⟨_,_,ns,rfl,rfl,ho,NQ ns _ hall,hlen⟩
theorem NS (l:OpenLaw) (args:List WData):l.row.toRowW.claim.post args (.bool true) args=true:=
 postW_of (r:=l.row.toRowW) (X:=(true==true))
  (show WShape.has [] (.bool true) .bool=true by first | rfl | decide | simp [WShape.has,WShape.arms,WShape.armsAll])
  (show(WTm.eq .res (.lit (.bool true))).value [] { args:=args,res:=some (.bool true),after:=args}=some (.bool (true==true)) from w_eq_bool (w_res rfl) w_lit) rfl
theorem attach_call {l:OpenLaw}{n:Nat}{q:Program}{loose:List Str}{XP:(Str->Option Value)->Heap->Prop}{YP:World->Heap->Prop}{d:DefRec}
  (hn:l.most=some n) (hdf:d.params.defaults=[])
  (call : ∀ (w : World) (s₀ s₁ : Shared) (mg mb : Str -> Option Value) (fa : Addr) (o : Obj) (pm cd doc : Value) (a : Addr) (vs : List Value) (ns : List Int),
   Ground q loose [] XP w s₀ mg mb s₁.heap->YP w s₁.heap->
   s₁.heap.get? fa=some o->o.data= .func (docDef d.name d.params d.body d.scope pm cd doc)->s₁.heap.CodeRec cd d.name->mg d.name=some (.ref fa)->
   s₁.heap.get? a=some { cls:= .type "list",data:= .seq vs.toArray}->IntsAre vs ns->ns.length<=n->s₁.gens= #[]->
   codeAny (model l.prog w) callerA (.call (.ref fa) ⟨[.ref a],[]⟩) (λr s'=>r= .ok (.ret (.bool true))/\OldK s₁.heap s'.heap/\s'.os=s₁.os/\AllBare s'.gens) s₁):
  WalkO q loose XP YP l.row.toRowW d [] (λf vs=>PySem.call f vs):=by
 intro w s₀ s₁ mg mb G Y fa o pm cd doc dV kV ho hd hcd hD hmg hg args vals as hpre hlay hrd hwl hlo;obtain rfl:dV= .none:=Dflts.none hD hdf;obtain rfl:kV= .none:=Dflts.noKw hD;obtain⟨a,vs,ns,rfl,rfl,hobj,hints,hlen⟩:=NR hn hpre hwl;refine enter_call (codeAny_mono (call w s₀ s₁ mg mb fa o pm cd doc a vs ns G Y ho (fd_plain hd) hcd hmg hobj hints hlen hg) λr s' hq=>?_);obtain⟨rfl,h2,h3,h4⟩:=hq;exact⟨.inl ⟨.bool true,.bool true,[],rfl,λ_=>rfl,.bool true,NS l _,λ_=>⟨List.Pairwise.nil,λ_ hm=>(nomatch hm)⟩⟩,h2,h3,h4⟩
section
variable {prog : Program} {w : World} {A : Around} {E : Value -> Shared -> Prop} {s : Shared} {K : Frag}
end
end Att
namespace L2
theorem Ir:∀ {vs:List Value}{ns:List Int},IntsAre vs ns->Av (ns.map V.int) vs
 | _,_,.nil=> .nil
 | _,_,.cons n t h=> .cons ⟨t,rfl⟩ (Ir h)
end L2
namespace L2
end L2
namespace L2
variable {qual : Str} {fd : FuncData} {ps : List Str} {H H' : Hp}
def BL (s:Stmt):Arguments:=match s with
 | .FunctionDef _ a _ _ _ _ _ _ _ _=>a
 | _=> { posonlyargs:=[],args:=[],vararg:=none,kwonlyargs:=[],kw_defaults:=[],kwarg:=none,defaults:=[]}
def Bi (s:Stmt):List Stmt:=match s with
 | .FunctionDef _ _ b _ _ _ _ _ _ _=>b
 | _=>[]
def Ap (s:Stmt):Scope:=match s with
 | .FunctionDef _ _ _ _ _ _ sc _ _ _=>sc
 | _=> { kind:= .function,names:=[],isGenerator:=false,isCoroutine:=false}
abbrev CX0:Cr:=λ_ _ _ _ _ _=>False
abbrev E0:XK:=λ_ _ _=>False
theorem NT {X:Cx}:Gc CX0 X E0:=λ_ _ _ _ _ _ _ h=>h.elim
structure D5 (K:Fgx) (x qual:Str) (st:Stmt) (f:Addr) (fd:FuncData):Prop where
 ex:∃(oc:Value) (od:Option Addr) (kV doc pm:Value) (an:Option Addr) (cdv ct:Value) (osl:Array (Option Value)),
  fd=PySem.W.fnOf x qual (BL st) (Bi st) (Ap st) .none kV doc pm an cdv ct/\K.lookup f=some ⟨oc,od,.func fd,osl⟩/\PySem.W.codeIn K cdv qual=true
 kp:PySem.W.keepIn K (.ref f)=true
section
variable {P : Program} {w : World} {K : Fgx} {mg : Str -> Option Value} {base : Heap}
theorem D5.ok {x:Str}{st:Stmt}{f:Addr}{N:List Str}{k:Nat}{sp:Sp} (F:D5 K x qual st f fd) (S:Ax N ps (Ap st)) (len:∀vs H Q E,sp vs H Q E->vs.length=ps.length)
  (hbody : ∀ (cdv : Value) (A : Around) (outer : List Env) (s : Shared) (H : Hp) (vs : List V) (Q : VK) (E : XK), AX k (A.deeper (envOfC qual (Ap st) s.heap.objs.size f cdv)) -> sp vs H Q E ->
   ∃t,PSs (BR CX0 P w K mg base N qual (Ap st) f cdv A outer s H E).nox (Bi st) t/\t { nx:=λ_ H'=>Q .non H',rt:=Q} (start N vs) H):CH P w K mg base CX0 (k+1) f fd ps sp:=by
 obtain⟨oc,od,kV,doc,pm,an,cdv,ct,osl,rfl,lk,hcd⟩:=F.ex;refine Im lk hcd S len λA outer s H vs Q E hr hsp=>?_
 obtain⟨t,h,q⟩:=hbody cdv A outer s H vs Q E hr hsp;exact⟨t,h.nox,q⟩
theorem D5.binds {x:Str}{st:Stmt}{f:Addr} (F:D5 K x qual st f fd)
  (h:∀(kV doc pm:Value) (an:Option Addr) (cdv ct:Value) (us:List Value),us.length=ps.length->bindArgs (PySem.W.fnOf x qual (BL st) (Bi st) (Ap st) .none kV doc pm an cdv ct) ⟨us,[]⟩=pure (ps.zip us)):Binds K fd ps []:=by
 obtain⟨oc,od,kV,doc,pm,an,cdv,ct,osl,rfl,lk,hcd⟩:=F.ex;exact .all (h kV doc pm an cdv ct)
theorem Gg {x:Str}{st:Stmt}{f:Addr}{oc:Value}{od an:Option Addr}{osl:Array (Option Value)}{kV doc pm cdv ct:Value} (l:K.lookup f=some ⟨oc,od,.func (PySem.W.fnOf x qual (BL st) (Bi st) (Ap st) .none kV doc pm an cdv ct),osl⟩)
  (c:PySem.W.codeIn K cdv qual=true) (k:PySem.W.keepIn K (.ref f)=true):D5 K x qual st f (PySem.W.fnOf x qual (BL st) (Bi st) (Ap st) .none kV doc pm an cdv ct):=⟨⟨oc,od,kV,doc,pm,an,cdv,ct,osl,rfl,l,c⟩,k⟩
end
theorem DE {n:Nat} (h:n<=1000):n<sizeLine:=Nat.lt_of_le_of_lt h (by decide)
section
variable {X : Cx}
theorem pv (i:Nat) {x:Str}{pos:Pos} (hN:X.N[i]? =some x:=by rfl) (hv:DY X.env.scope x:=by first | exact Or.inl rfl | exact Or.inr (Or.inl rfl) | exact Or.inr (Or.inr rfl)) (hd:(x==("__debug__" :Str))=false:=by decide)
  (hcd:(x==("__classdict__" :Str))=false:=by decide):PE X (.Name x pos) (Jv i):=F5 hN hv hd hcd
end
def Ab (H H':Hp):Prop:=∀b o,H b=some o->H' b=some o
theorem Ab.refl (H:Hp):Ab H H:=λ_ _ h=>h
theorem Ab.trans {H1 H2:Hp} (a:Ab H H1) (b:Ab H1 H2):Ab H H2:=λc o h=>b c o (a c o h)
theorem Ab.free (e:Ab H H') {l:Addr} (h:H' l=Option.none):H l=Option.none:=by
 cases q:H l with
 | none=>rfl
 | some o=>
  rw [e l o q] at h;cases h
theorem Ab.seq {K:Fgx}{a:Addr}{xs:List V} (e:Ab H H') (h:Al K H a xs):Al K H' a xs:=by
 rcases h with(h | ⟨o,h⟩) | h
 ·exact .inl (.inl (e _ _ h))
 ·exact .inl (.inr ⟨o,e _ _ h⟩)
 ·exact .inr h
end L2
end
section
namespace L2
def AU (cs:List (Str×Addr)):List (Str×NameKind)->List (Str×Addr)->List (Str×Addr)
  | [],acc=>acc
  | (n,k)::r,acc=>if k== .free then(match cs.lookup n with | some a=>AU cs r ((n,a)::acc) | none=>AU cs r acc) else AU cs r acc
theorem Iu {env:Env}:∀(names:List (Str×NameKind)) (acc:List (Str×Addr)),(∀y∈names,y.2= .free->∃c,env.cells.lookup y.1=some c)->
    (forIn names acc (fun(p:Str×NameKind) (cs:List (Str×Addr))=>do
      if (p.2==NameKind.free)=true then do
        let a<-cellOf env p.1
        pure (ForInStep.yield ((p.1,a)::cs))
      else pure (ForInStep.yield cs)):Sem (List (Str×Addr)))=pure (AU env.cells names acc)
  | [],acc,_=>rfl
  | (n, k) :: r, acc, h => by
    rw [forIn_cons]
    by_cases hk:(k==NameKind.free)=true
    . obtain⟨c,hc⟩:=h (n,k) mem_cons_self (by simpa using hk);have hc':env.cells.lookup n=some c:=hc;simp only [hk,if_true,cellOf,hc',AU];exact Iu r _ λy hy=>h y (mem_cons_of_mem _ hy)
    . have hk':(k==NameKind.free)=false:=by simpa using hk
      simp only [hk',Bool.false_eq_true,if_false,AU];exact Iu r _ λy hy=>h y (mem_cons_of_mem _ hy)
theorem Iv {env:Env}{scope:Scope} (h:∀y∈scope.names,y.2= .free->∃c,env.cells.lookup y.1=some c):closureFor scope env=pure (AU env.cells scope.names []):=by
 have q:=Iu (env:=env) scope.names [] h;unfold closureFor;simp only [];have e:(forIn scope.names ([]:List (Str×Addr)) (fun(p:Str×NameKind) (cs:List (Str×Addr))=>do
   if (p.2==NameKind.free)=true then do
    let a<-cellOf env p.1
    pure (ForInStep.yield ((p.1,a)::cs))
   else pure (ForInStep.yield cs)):Sem (List (Str×Addr))) >>=(λcs=>pure cs)=pure (AU env.cells scope.names []):=by rw [q];rfl
 exact e
theorem DF {cs:List (Str×Addr)}{x:Str}{c:Addr}:∀(names:List (Str×NameKind)) (acc:List (Str×Addr)),(AU cs names acc).lookup x=some c->cs.lookup x=some c\/acc.lookup x=some c
  | [],_,h=> .inr h
  | (n, k) :: r, acc, h => by
    unfold AU at h;split at h
    . cases hc:cs.lookup n with
      | none=>rw [hc] at h;exact DF r acc h
      | some a =>
        rw [hc] at h;rcases DF r _ h with q | q
        . exact .inl q
        . rw [lookup_cons] at q;cases hx:x==n with
          | true=>rw [hx] at q;rw [beq_iff_eq.mp hx,hc];exact .inl q
          | false=>rw [hx] at q;exact .inr q
    . exact DF r acc h
theorem Gh {cs:List (Str×Addr)}{x:Str}{c:Addr} (hc:cs.lookup x=some c):∀(names:List (Str×NameKind)) (acc:List (Str×Addr)),acc.lookup x=some c->(AU cs names acc).lookup x=some c
  | [],_,h=>h
  | (n, k) :: r, acc, h => by
    unfold AU;split
    . cases hn:cs.lookup n with
      | none=>exact Gh hc r acc h
      | some a =>
        refine Gh hc r _ ?_;rw [lookup_cons];cases hx:x==n with
        | true=>rw [beq_iff_eq.mp hx,hn] at hc;exact hc
        | false=>exact h
    . exact Gh hc r acc h
theorem D6 {cs:List (Str×Addr)}{x:Str}{c:Addr} (hc:cs.lookup x=some c):∀(names:List (Str×NameKind)) (acc:List (Str×Addr)),(x,NameKind.free)∈names->(AU cs names acc).lookup x=some c
  | [],_,h=>nomatch h
  | (n, k) :: r, acc, h => by
    unfold AU;rcases mem_cons.mp h with e | h
    . cases e;simp only [beq_self_eq_true,if_true,hc];exact Gh hc r _ (by simp [lookup_cons])
    . split
      . cases hn:cs.lookup n with
        | none=>exact D6 hc r acc h
        | some a=>exact D6 hc r _ h
      . exact D6 hc r acc h
theorem EG {x:Str}{c:Addr}:∀(names:List (Str×NameKind)) (n:Nat) (acc:List (Str×Addr)),(cellsFrom n names acc).lookup x=some c->n<=c\/acc.lookup x=some c
  | [],_,_,h=> .inr h
  | (y, k) :: r, n, acc, h => by
    unfold cellsFrom at h;split at h
    . rcases EG r (n+1) _ h with q | q
      . exact .inl (by omega)
      . rw [lookup_cons] at q;cases hx:x==y with
        | true=>rw [hx] at q;cases q;exact .inl (Nat.le_refl _)
        | false=>rw [hx] at q;exact .inr q
    . exact EG r n acc h
theorem Iw {x:Str}{c:Addr}{lo:Nat}:∀(names:List (Str×NameKind)) (n:Nat) (acc:List (Str×Addr)),lo<=n->((x,NameKind.cell)∈names\/ ∀c,acc.lookup x=some c->lo<=c)->(cellsFrom n names acc).lookup x=some c->lo<=c
  | [],_,_,_,hm,h=>hm.elim (λz=>nomatch z) λz=>z c h
  | (y, k) :: r, n, acc, hl, hm, h => by
    unfold cellsFrom at h;split at h
    . rename_i hk;refine Iw r (n+1) _ (by omega) ?_ h
      by_cases hx:x=y
      . refine .inr λc' q=>?_
        rw [lookup_cons,hx,beq_self_eq_true] at q;cases q;exact hl
      . rcases hm with hm | hm
        . rcases mem_cons.mp hm with e | hm
          . cases e;exact absurd rfl hx
          . exact .inl hm
        . refine .inr λc' q=>hm c' ?_
          rw [lookup_cons,beq_eq_false_iff_ne.mpr hx] at q;exact q
    . rename_i hk;refine Iw r n acc hl ?_ h;rcases hm with hm | hm
      . rcases mem_cons.mp hm with e | hm
        . cases e;exact absurd rfl hk
        . exact .inl hm
      . exact .inr hm
theorem Ix {x:Str}{c:Addr}:∀(names:List (Str×NameKind)) (n:Nat) (acc:List (Str×Addr)),(x,NameKind.cell) ∉ names->acc.lookup x=some c->(cellsFrom n names acc).lookup x=some c
  | [],_,_,_,h=>h
  | (y, k) :: r, n, acc, hm, h => by
    have hm':(x,NameKind.cell) ∉ r:=λz=>hm (mem_cons_of_mem _ z)
    unfold cellsFrom;split
    . rename_i hk;refine Ix r (n+1) _ hm' ?_;rw [lookup_cons];cases hx:x==y with
      | true =>
        have e1:k=NameKind.cell:=by simpa using hk
        exact absurd (by rw [beq_iff_eq.mp hx,e1];exact mem_cons_self) hm
      | false=>exact h
    . exact Ix r n acc hm' h
theorem Iy {x:Str}:∀(names:List (Str×NameKind)) (n:Nat) (acc:List (Str×Addr)),((x,NameKind.cell)∈names\/ ∃c,acc.lookup x=some c)->∃c,(cellsFrom n names acc).lookup x=some c
  | [],_,_,hm=>hm.elim (λz=>nomatch z) λz=>z
  | (y, k) :: r, n, acc, hm => by
    unfold cellsFrom;split
    . rename_i hk;refine Iy r (n+1) _ ?_
      by_cases hx:x=y
      . exact .inr ⟨n,by rw [hx,lookup_cons,beq_self_eq_true]⟩
      . rcases hm with hm | ⟨c,hm⟩
        . rcases mem_cons.mp hm with e | hm
          . cases e;exact absurd rfl hx
          . exact .inl hm
        . exact .inr ⟨c,by rw [lookup_cons,beq_eq_false_iff_ne.mpr hx];exact hm⟩
    . rename_i hk;refine Iy r n acc ?_;rcases hm with hm | hm
      . rcases mem_cons.mp hm with e | hm
        . cases e;exact absurd rfl hk
        . exact .inl hm
      . exact .inr hm
theorem Iz:∀(names:List (Str×NameKind)) (n:Nat) (acc:List (Str×Addr)),(∀x c,acc.lookup x=some c->c<n)->(∀x y c,acc.lookup x=some c->acc.lookup y=some c->x=y)->
    ∀x y c,(cellsFrom n names acc).lookup x=some c->(cellsFrom n names acc).lookup y=some c->x=y
  | [],_,_,_,hi=>hi
  | (z, k) :: r, n, acc, hb, hi => by
    unfold cellsFrom;split
    . refine Iz r (n+1) _ (λx c q=>?_) λx y c q q'=>?_
      . rw [lookup_cons] at q;cases hx:x==z with
        | true=>rw [hx] at q;cases q;exact Nat.lt_succ_self _
        | false=>rw [hx] at q;exact Nat.lt_succ_of_lt (hb x c q)
      . rw [lookup_cons] at q q';cases hx:x==z with
        | true =>
          rw [hx] at q;cases q;cases hy:y==z with
          | true=>rw [beq_iff_eq.mp hx,beq_iff_eq.mp hy]
          | false=>rw [hy] at q';exact absurd (hb y _ q') (Nat.lt_irrefl _)
        | false =>
          rw [hx] at q;cases hy:y==z with
          | true=>rw [hy] at q';cases q';exact absurd (hb x _ q) (Nat.lt_irrefl _)
          | false=>rw [hy] at q';exact hi x y c q q'
    . exact Iz r n acc hb hi
theorem IA:∀(names:List (Str×NameKind)) (h:Heap) (acc:List (Str×Addr)) {x:Str}{c:Addr},(cellsFrom h.objs.size names acc).lookup x=some c->(pushCells h names).IsCell c none\/acc.lookup x=some c
  | [],_,_,_,_,q=> .inr q
  | (z, k) :: r, h, acc, x, c, q => by
    unfold cellsFrom at q;unfold pushCells;split at q
    . rename_i hk;rw [if_pos hk];have e:(h.push { cls:= .type "cell",data:= .cell none}).objs.size=h.objs.size+1:=Heap.size_push ..;rw [<-e] at q;rcases IA r _ _ q with q | q
      . exact .inl q
      . rw [lookup_cons] at q;cases hx:x==z with
        | true =>
          rw [hx] at q;cases q;refine .inl ?_;have w:(h.push { cls:= .type "cell",data:= .cell none}).IsCell h.objs.size none:=⟨_,Heap.get?_push_size _ rfl,rfl⟩;exact w.keeps (pushCells_keeps r _)
        | false=>rw [hx] at q;exact .inr q
    . rename_i hk;rw [if_neg hk];exact IA r h acc q
def IB (scope:Scope) (env:Env) (C:Addr):Env:=
  { scope:=relabel scope env,locals:=C,globals:=env.globals,cells:=cellsFrom (C+1) scope.names (AU env.cells scope.names []),qual:=env.qual,func:=none,code:=env.code,frame:=env.frame,builtins:=env.builtins}
theorem Kj {M:Model}{A:Around}{E:VSP}{s:Shared}{scope:Scope}{env:Env}{cl:List (Str×Addr)}{Q:Env->Shared->Prop}
    (h:Q { scope:=scope,locals:=s.heap.objs.size,globals:=env.globals,cells:=cellsFrom (s.heap.objs.size+1) scope.names cl,qual:=env.qual,func:=none,code:=env.code,frame:=env.frame,builtins:=env.builtins}
      { s with heap:=pushCells (s.heap.push { cls:= .type "dict",data:= .dict #[]}) scope.names}):
    wpAny M A (newFunctionEnv scope env.globals cl [] env.qual none .none (some env)) Q E s:=by
  have top:({ s with heap:=s.heap.push { cls:= .type "dict",data:= .dict #[]}}:Shared).heap.objs.size=s.heap.objs.size+1:=Heap.size_push ..;rw [<-top] at h;unfold newFunctionEnv;simp only [Option.isSome_some,if_true];exact wpAny_bind (wpAny_alloc (wpAny_bind (wpAny_layCells _ (λn k cs=>by by_cases c:(k==NameKind.cell)=true<;>simp [c]) _ _ _ _ (wpAny_bind (wpAny_pure (wpAny_pure h))))))
structure AE (sc:Scope) (N:List Str) (scope:Scope) (N':List Str) (cap:List (Option Nat)):Prop where
 kind:scope.kind= .function
 free:∀y∈scope.names,y.2= .free->sc.names.lookup y.1=some .cell\/sc.names.lookup y.1=some .free
 len:cap.length=N'.length
 capt:∀(i j:Nat),cap[i]? =some (some j)->∃x:Str,N'[i]? =some x/\N[j]? =some x/\(x,NameKind.free)∈scope.names/\(x,NameKind.cell) ∉ scope.names
 names:∀y∈scope.names,y.2= .local ->scope.names.lookup y.1=some .local
 own:∀y∈scope.names,scope.names.lookup y.1=some y.2
def Kk (sc:Scope) (N:List Str) (scope:Scope) (N':List Str) (cap:List (Option Nat)):Bool:=
  scope.kind== .function &&(scope.names.all λy=>y.2 != .free || sc.names.lookup y.1==some .cell || sc.names.lookup y.1==some .free) && cap.length==N'.length &&
    ((List.range cap.length).all λi => match cap[i]? with
      | some (some j) => (match N'[i]?, N[j]? with
        | some x,some y=>x==y && scope.names.any (λz=>z.1==x && z.2== .free) && scope.names.all (λz=> !(z.1==x && z.2== .cell))
        | _,_=>false)
      | _=>true) && scope.names.all λy=>scope.names.lookup y.1==some y.2
theorem AE.of {sc:Scope}{N:List Str}{scope:Scope}{N':List Str}{cap:List (Option Nat)} (h:Kk sc N scope N' cap=true):AE sc N scope N' cap:=by
 unfold Kk at h;simp only [Bool.and_eq_true] at h;obtain⟨⟨⟨⟨h1,h2⟩,h3⟩,h4⟩,h5⟩:=h;have own:∀y∈scope.names,scope.names.lookup y.1=some y.2:=λy hy=>by
  have:=all_eq_true.mp h5 y hy
  simpa using this
 refine⟨by simpa using h1,λy hy hf=>?_,by simpa using h3,λi j e=>?_,λy hy hl=>by rw [own y hy,hl],own⟩
 ·have:=all_eq_true.mp h2 y hy;rw [hf] at this
  simpa using this
 ·have hi:i<cap.length:=(List.getElem?_eq_some_iff.mp e).1;have:=all_eq_true.mp h4 i (mem_range.mpr hi);rw [e] at this;dsimp only at this;cases hx:N'[i]? with
  | none=>rw [hx] at this;simp at this
  | some x=>
   cases hy:N[j]? with
   | none=>rw [hx,hy] at this;simp at this
   | some y=>
    rw [hx,hy] at this;simp only [Bool.and_eq_true] at this;obtain⟨⟨t1,t2⟩,t3⟩:=this;have e1:x=y:=by simpa using t1
    subst e1;obtain⟨z,hz,t⟩:=any_eq_true.mp t2;simp only [Bool.and_eq_true] at t;have z1:z.1=x:=by simpa using t.1
    have z2:z.2= .free:=by simpa using t.2
    have ez:z=(x,NameKind.free):=by rw [<-z1,<-z2]
    refine⟨x,rfl,rfl,ez ▸ hz,λhm=>?_⟩;have:=all_eq_true.mp t3 _ hm;simp at this
def AL (cap:List (Option Nat)) (σ:St):St:=cap.map λo=>match o with | some j=>(match σ[j]? with | some v=>v | none=>none) | none=>none
def BM (X:Cx) (cs:List Expr) (t:TT):Prop:=
 ∀(pins:PNs) (s:Shared) (σ:St) (H:Hp) (Q:Bool->Hp->Prop),Ad X pins σ H s->t σ H Q->
  wpAny (model X.prog X.w) X.A (forIn cs true λc r=>if r=true then do let ok<-isTrue c X.env (eval c X.env);pure (ForInStep.yield ok) else pure (ForInStep.yield r)) (TP X pins σ Q) X.xe s
def NU:TT:=λ_ H Q=>Q true H
theorem AY {X:Cx}:BM X [] NU:=λ_ _ σ H Q I h=>wpAny_tests_nil ⟨H,I,h⟩
theorem Fp {X:Cx}{c:Expr}{t:TT} (h:PT X c t):BM X [c] t:=λpins s σ H Q I q=>wpAny_tests_one (h pins s σ H Q I q)
def AK (X:Cx) (N':List Str) (scope:Scope) (s:Shared) (H:Hp) (ex:List Addr) (C:Addr):Cx:=
  { X with N:=N',s₀:=s,H₀:=H,env:=IB scope X.env C,outer:=X.stack,ex:=ex,fn:=λx=>scope.names.any λz=>z.1==x && z.2== .cell,pn:=[],xe:=λ_ _=>False}
theorem Gi {env:Env}{x:Str}:∀(names:List (Str×NameKind)),(names.map fun(n,k)=>if (k==NameKind.free && env.scope.kind== .function && env.kindOf n==some .cell) then(n,NameKind.cell) else(n,k)).lookup x=
    (names.lookup x).map λk=>if (k==NameKind.free && env.scope.kind== .function && env.kindOf x==some .cell) then NameKind.cell else k
  | []=>rfl
  | (n, k) :: r => by
    have ih:=Gi (env:=env) (x:=x) r;show List.lookup x ((if (k==NameKind.free && env.scope.kind== .function && env.kindOf n==some .cell)=true then(n,NameKind.cell) else(n,k))::_)=_;cases hx:x==n with
    | true =>
      have e:x=n:=beq_iff_eq.mp hx;subst e;split<;>simp_all [lookup_cons]
    | false =>
      have e:(List.lookup x ((n,k)::r))=r.lookup x:=by rw [lookup_cons,hx]
      rw [e,<-ih];split<;>simp [lookup_cons,hx]
section
variable {X : Cx} {pins : List (Addr × Obj)} {σ : St} {H : Hp} {s : Shared} {scope : Scope} {N' : List Str} {cap : List (Option Nat)} {fp : List Addr}
theorem NV (I:Ad X pins σ H s) (B:AE X.env.scope X.N scope N' cap) (hf:∀b∈fp,Bx X pins H b) (hlt:∀b∈fp,b<s.heap.objs.size) {C:Addr} (hC:s.heap.objs.size<=C):
  (AK X N' scope s H fp C).Ok:=by
 have clt:∀x c,X.env.cells.lookup x=some c->c<s.heap.objs.size:=λx c e=>let ⟨_,q⟩:=I.cell x c e;q.lt
 have acc:∀x c,(AU X.env.cells scope.names []).lookup x=some c->X.env.cells.lookup x=some c:=λx c e=>(DF _ _ e).elim id λz=>nomatch z
 refine⟨I.ok.mod,B.kind,I.ok.glob,I.ok.blt,hC,λx y c h1 h2=>?_,λx hx=>?_,λx c hx h=>?_,I.ok.hd,I.ok.frames,.inl rfl,λb hb=>⟨?_,λx c h e=>?_⟩,I.bs,Nat.le_trans I.ok.bsz I.sz,λb o e hb=>?_,λb hb z=>?_,I.stack,I.stkFree⟩
 ·exact Iz scope.names (C+1) _ (λx c e=>Nat.lt_succ_of_lt (Nat.lt_of_lt_of_le (clt x c (acc x c e)) hC)) (λx y c e e'=>I.ok.inj x y c (acc x c e) (acc y c e')) x y c h1 h2
 ·have hx':(relabel scope X.env).names.lookup x=some .cell\/(relabel scope X.env).names.lookup x=some .free:=hx;have hl:(scope.names.lookup x).isSome=true:=by
   unfold relabel at hx';rw [Gi] at hx';cases q:scope.names.lookup x with
   | none=>rw [q] at hx';rcases hx' with z | z<;>cases z
   | some k=>rfl
  obtain⟨k,hk⟩:=Option.isSome_iff_exists.mp hl;have hm:=PySem.mem_of_lookup hk;refine Iy scope.names (C+1) _ ?_;cases k with
  | cell=>exact .inl hm
  | free=>
   refine .inr ?_;obtain⟨c,hc⟩:=I.ok.has x (B.free _ hm rfl);exact⟨c,D6 hc _ _ hm⟩
  | _=>
   unfold relabel at hx';rw [Gi,hk] at hx';rcases hx' with z | z<;>simp at z
 ·have hx':(scope.names.any λz=>z.1==x && z.2== .cell)=true:=hx;obtain⟨z,hz,t⟩:=any_eq_true.mp hx';simp only [Bool.and_eq_true] at t;have z1:z.1=x:=by simpa using t.1
  have z2:z.2= .cell:=by simpa using t.2
  have ez:z=(x,NameKind.cell):=by rw [<-z1,<-z2]
  have:=Iw (lo:=C+1) scope.names (C+1) _ (Nat.le_refl _) (.inl (ez ▸ hz)) h;exact Nat.le_trans hC (Nat.le_of_succ_le this)
 ·exact Nat.ne_of_lt (Nat.lt_of_lt_of_le (hlt b hb) hC)
 ·rcases EG scope.names (C+1) _ h with q | q
  ·have:=hlt b hb;rw [<-e] at this;exact absurd (Nat.lt_of_lt_of_le this (Nat.le_trans hC (Nat.le_of_succ_le q))) (Nat.lt_irrefl _)
  ·exact(hf b hb).2.2.2.2.1 x c (acc x c q) e
 ·obtain⟨_,_,_,f3,_⟩:=hf b hb;rcases f3 with f3 | f3
  ·exact I.ok.noex b o e f3
  ·exact absurd (Nat.lt_of_lt_of_le (Heap.lt_size e) (Nat.le_trans I.ok.bsz f3)) (Nat.lt_irrefl _)
 ·obtain⟨_,f1,f2,_⟩:=hf b hb;rcases mem_cons.mp (I.stkSub b z) with q | q
  ·exact f1 q
  ·exact f2 q
theorem Kl (I:Ad X pins σ H s) (B:AE X.env.scope X.N scope N' cap) (hf:∀b∈fp,Bx X pins H b) (hlt:∀b∈fp,b<s.heap.objs.size) {h3:Heap} (hk:∀b o,s.heap.get? b=some o->h3.get? b=some o) (hsz:s.heap.objs.size<=h3.objs.size):
  Ad (AK X N' scope s H fp h3.objs.size) [] (AL cap σ) H { s with heap:=pushCells (h3.push { cls:= .type "dict",data:= .dict #[]}) scope.names}:=by
 have acc:∀x c,(AU X.env.cells scope.names []).lookup x=some c->X.env.cells.lookup x=some c:=λx c e=>(DF _ _ e).elim id λz=>nomatch z
 have hk3:∀b o,h3.get? b=some o->(pushCells (h3.push { cls:= .type "dict",data:= .dict #[]}) scope.names).get? b=some o:=λb o e=>pushCells_keeps _ _ b o (Heap.get?_push_of_some _ e)
 have hk4:∀b o,s.heap.get? b=some o->(pushCells (h3.push { cls:= .type "dict",data:= .dict #[]}) scope.names).get? b=some o:=λb o e=>hk3 b o (hk b o e)
 refine⟨NV I B hf hlt hsz,rfl,I.bare,Un.kept hk4,⟨λ_=>none,(Heap.Ns.new h3 (.type "dict")).keeps (pushCells_keeps _ _),λi x v h1 h2 h4=>?_⟩,λx c h=>?_,?_,λx c h=>?_,λp hp=>absurd (show p∈([]:PNs) from hp) (by simp),I.hok.kept hk4,?_⟩
 ·have h2':(AL cap σ)[i]? =some (some v):=h2;unfold AL at h2';rw [getElem?_map] at h2';cases q:cap[i]? with
  | none=>rw [q] at h2';cases h2'
  | some o=>
   rw [q] at h2';cases o with
   | none=>exact nomatch Option.some.inj h2'
   | some j=>
    have h2'':(match σ[j]? with | some v=>v | none=>none)=some v:=Option.some.inj h2';cases qs:σ[j]? with
    | none=>rw [qs] at h2'';cases h2''
    | some v'=>
     rw [qs] at h2'';have hs:σ[j]? =some (some v):=by rw [qs];exact congrArg some h2''
     obtain⟨x',e1,e2,e3,e4⟩:=B.capt i j q;have h1':N'[i]? =some x:=h1;rw [h1'] at e1;cases e1;have hcf:=B.free _ e3 rfl;obtain⟨m,hn,hl⟩:=I.loc;obtain⟨u,ru,lk⟩:=hl j x v e2 hs (hcf.elim (λz=> .inr (.inl z)) λz=> .inr (.inr z));refine⟨u,ru,?_⟩;rcases lk with⟨lk,_⟩ | ⟨_,c,hc,ic⟩
     ·have lk':X.env.scope.names.lookup x=some .local :=lk;have hcf':X.env.scope.names.lookup x=some .cell\/X.env.scope.names.lookup x=some .free:=hcf;rw [lk'] at hcf';rcases hcf' with z | z<;>cases z
     ·refine .inr ⟨?_,c,Ix _ _ _ e4 (D6 hc _ _ e3),ic.keeps hk4⟩;have:(relabel scope X.env).names.lookup x=some .cell\/(relabel scope X.env).names.lookup x=some .free:=by
       unfold relabel;rw [Gi,B.own _ e3];dsimp only [Option.map];split
       ·exact .inl rfl
       ·exact .inr rfl
      exact this
 ·have h':(cellsFrom (h3.objs.size+1) scope.names (AU X.env.cells scope.names [])).lookup x=some c:=h;have e:(h3.push { cls:= .type "dict",data:= .dict #[]}).objs.size=h3.objs.size+1:=Heap.size_push ..;rw [<-e] at h';rcases IA _ _ _ h' with q | q
  ·exact⟨_,q⟩
  ·obtain⟨v,z⟩:=I.cell x c (acc x c q);exact⟨v,z.keeps hk4⟩
 ·exact I.hok.fresh hsz
 ·rcases EG scope.names (h3.objs.size+1) _ h with q | q
  ·exact I.hok.fresh (Nat.le_trans hsz (Nat.le_of_succ_le q))
  ·exact I.freeC x c (acc x c q)
 ·show(AL cap σ).length=N'.length;unfold AL;rw [length_map];exact B.len
end
end L2
end
section
namespace L2
variable {E iter : Expr} {Y X : Cx} {PB : List (Addr × Obj)} {σ : St} {zs xs : List V} {H : Hp} {its : List Value} {k : Nat} {te : TE} {wi : TI} {g : TG} {tt : TT} {scope : Scope} {pos : Pos} {cap : List (Option Nat)} {Q : List V -> Hp -> Prop}
def Keep:St->St->Prop
 | [],[]=>True
 | none::r,_::r'=>Keep r r'
 | some v::r,o::r'=>o=some v/\Keep r r'
 | _,_=>False
theorem Keep.len:∀ {a b:St},Keep a b->a.length=b.length
 | [],[],_=>rfl
 | none::r,_::r',h=>by have h':Keep r r':=h;simp [Keep.len h']
 | some v::r,o::r',h=>by have h':o=some v/\Keep r r':=h;simp [Keep.len h'.2]
theorem Keep.get:∀ {a b:St}{i:Nat}{v:V},Keep a b->a[i]? =some (some v)->b[i]? =some (some v)
 | [],[],_,_,_,e=>by simp at e
 | none::r,_::r',0,v,h,e=>by simp at e
 | none::r,_::r',i+1,v,h,e=>by
  have h':Keep r r':=h
  simpa using Keep.get (i:=i) h' (by simpa using e)
 | some v::r,o::r',0,w,h,e=>by
  have h':o=some v/\Keep r r':=h;simp at e;simp [h'.1,e]
 | some v::r,o::r',i+1,w,h,e=>by
  have h':o=some v/\Keep r r':=h
  simpa using Keep.get (i:=i) h'.2 (by simpa using e)
def br (c:Bool) (A B:Prop):Prop:=(c=true->A)/\(c=false->B)
def IC (wi:TI) (cap:List (Option Nat)) (g:TG) (tt:TT) (te:TE):St->Hp->(List V->Hp->Prop)->Prop:=fun σ H Q=>wi σ H λJ H1=>
 ∃W:Nat->Nat->List V->Hp->Prop,(∃m,W 0 m [] H1)/\∀i m ys H,W i m ys H->
  (J.stop i H/\Q ys H)\/
  (J.go i H /\ ys.length < sizeLine /\ ∃ N : List V -> Hp -> Prop, (∀ ys' H', N ys' H' -> ∃ m', m' < m /\ W (i + 1) m' ys' H') /\ ∀ x H', J.yld i H x H' -> g x (AL cap σ) H' fun σ2 H2 => Keep (AL cap σ) σ2 /\ tt σ2 H2 λb H3 =>
   br b (te σ2 H3 λy H4=>N (ys++[y]) H4) (N ys H3))
structure Gj (X:Cx) (pins:PNs) (C:Addr) (H:Hp) (s:Shared):Prop where
 ns:∃m,s.heap.Ns C m
 free:H C=none
 loc:C≠X.env.locals
 sz:X.s₀.heap.objs.size<=C
 cell:∀x c,X.env.cells.lookup x=some c->c≠C
 pin:∀p∈X.pn++pins,p.1≠C
abbrev TB:=St->List V->Hp->(List V->Hp->Prop)->Prop
def Fq (E:Expr) (d:Nat) (tg it:Expr) (ifs:List Expr) (body:Sem PySem.Fin) (itv acc:Value) (env:Env):Sem PySem.Fin:=do
  standAt it.pos
  let r<-pyNext itv
  match r with
   | none=>pure (Fin.done Flow.next)
   | some v=>do
    letOwnedTupleGo tg itv v
    assign tg env v
    let ok<-forIn ifs true λc r=>if r=true then do let ok<-PySem.isTrue c env (eval c env);pure (ForInStep.yield ok) else pure (ForInStep.yield r)
    if ok=true then body else again (Code.compLoop E d itv acc env)
def Gk (E:Expr) (d:Nat) (elt:Expr) (itv acc:Value) (env:Env):Sem PySem.Fin:=do
  let _<-(do
   let x<-eval elt env
   let _<-call (Value.builtin "list.append") [acc,x]
   pure ())
  again (Code.compLoop E d itv acc env)
def ID (E:Expr) (d:Nat) (it2:Expr) (itv acc:Value) (env:Env):Sem PySem.Fin:=do
  let x<-eval it2 env
  standAt it2.pos
  let x<-foldedSetIterable it2 env x
  let j<-holding [x] (pyIter x)
  let _<-runOwn (Code.compStart E (d+1) j acc env) env
  again (Code.compLoop E d itv acc env)
abbrev Gm (M:Model) (A:Around) (E:Expr) (d:Nat) (itv acc:Value) (env:Env) (body:Sem PySem.Fin) (P:Shared->Prop) (s:Shared):Prop:=wpAny M A body (λfin s'=>fin= .again (.compLoop E d itv acc env)/\P s') (λ_ _=>False) s
section
variable {prog : Program} {w : World} {A : Around} {R : Result -> Shared -> Prop} {s : Shared} {e0 tg it elt it2 : Expr} {gs : List Comprehension} {ifs : List Expr} {sc : Scope} {ps : Pos} {itv acc : Value} {env : Env} {d : Nat} {body : Sem PySem.Fin} {P : Shared -> Prop}
theorem NW (h:wpAny (model prog w) A (eval elt env) (λx s₄=>wpAny (model prog w) A (call (.builtin "list.append") [acc,x]) (λ_ s₅=>P s₅) (λ_ _=>False) s₄) (λ_ _=>False) s):Gm (model prog w) A E d itv acc env (Gk E d elt itv acc env) P s:=
 wpAny_bind (wpAny_bind (wpAny_mono h (λx s₄ h₄=>wpAny_bind (wpAny_mono h₄ (λ_ s₅ h₅=>wpAny_pure (wpAny_pure ⟨rfl,h₅⟩)) λ_ _ h'=>h'.elim)) λ_ _ h'=>h'.elim))
theorem NX (hs:∀x,foldedSetIterable it2 env x=pure x) (h:wpAny (model prog w) A (eval it2 env) (λx s₄=>wpAny (model prog w) A (pyIter x) (λj s₅=>codeAny (model prog w) (A.mark none) (.compStart E (d+1) j acc env) (λr s₆=>r= .ok .next/\P s₆) s₅) (λ_ _=>False) s₄) (λ_ _=>False) s):Gm (model prog w) A E d itv acc env (ID E d it2 itv acc env) P s:=by
 refine wpAny_bind (wpAny_mono h (λx s₄ h₄=>wpAny_bind (wpAny_standAt ?_)) λ_ _ h'=>h'.elim);rw [hs];refine wpAny_bind (wpAny_pure (wpAny_bind (wpAny_holding (wpAny_mono h₄ (λj s₅ h₅=>?_) λ_ _ h'=>h'.elim))));refine wpAny_bind (wpAny_runOwn (codeAny_mono h₅ λr s₆ h₆=>?_));obtain⟨rfl,h₆⟩:=h₆;exact wpAny_pure ⟨rfl,h₆⟩
theorem NY (ht:compTurn (.ListComp e0 gs sc ps) d itv acc env=Fq (.ListComp e0 gs sc ps) d tg it ifs body itv acc env) (I:Nat->Shared->Prop)
  (turn : ∀ n s, I n s -> wpAny (model prog w) A (pyNext itv) (λr s₁ => match r with
   | none=>R (.ok .next) s₁
   | some v => wpAny (model prog w) A (letOwnedTupleGo tg itv v) (λ_ s₁' => wpAny (model prog w) A (assign tg env v) (λ_ s₂ =>
     wpAny (model prog w) A (forIn ifs true λc r=>if r=true then do let ok<-isTrue c env (eval c env);pure (ForInStep.yield ok) else pure (ForInStep.yield r)) (λok s₃=>
      if ok=true then Gm (model prog w) A (.ListComp e0 gs sc ps) d itv acc env body (λs₅=>∃m,m<n/\I m s₅) s₃
      else ∃m,m<n/\I m s₃) (λ_ _=>False) s₂) (λ_ _=>False) s₁') (λ_ _=>False) s₁) (λ_ _=>False) s)
  (n:Nat) (h:I n s):codeAny (model prog w) A (.compLoop (.ListComp e0 gs sc ps) d itv acc env) R s:=by
 refine codeAny_loop rfl I (λn s hI=>?_) n h;show wpAny _ A ((compTurn (.ListComp e0 gs sc ps) d itv acc env).onRaise (λx=>do noteFrame x env;theTreesLotGoes x)) _ _ s;refine wpAny_noted ?_;rw [ht];unfold Fq;refine wpAny_bind (wpAny_standAt (wpAny_bind (wpAny_mono (turn n s hI) (λr s₁ h₁=>?_) λ_ _ h'=>h'.elim)));cases r with
 | none=>exact wpAny_pure h₁
 | some v=>
  refine wpAny_bind (wpAny_mono h₁ (λ_ s₁' h₁'=>?_) λ_ _ h'=>h'.elim);refine wpAny_bind (wpAny_mono h₁' (λ_ s₂ h₂=>wpAny_bind (wpAny_mono h₂ (λok s₃ h₃=>?_) λ_ _ h'=>h'.elim)) λ_ _ h'=>h'.elim);cases ok with
  | false=>exact wpAny_pure ⟨rfl,h₃⟩
  | true=>exact wpAny_mono h₃ (λfin s₅ ⟨e,q⟩=>by subst e;exact⟨rfl,q⟩) λ_ _ h'=>h'.elim
end
structure C7 (Y:Cx) (a:Addr):Prop where
 loc:a≠Y.env.locals
 fs:a ∉ Y.fs
 sz:a∈Y.ex\/Y.s₀.heap.objs.size<=a
 cell:∀x c,Y.env.cells.lookup x=some c->c≠a
 pn:Y.pn=[]
 calm:Y.calm=true
abbrev D7 (its:List Value) (k:Nat):Obj:= { cls:= .type "list",data:= .seq its.toArray k}
structure Grown (Y:Cx) (a:Addr) (PB:PNs) (σ:St) (zs:List V) (H:Hp) (s:Shared):Prop where
 inv:Ad Y PB σ H s
 no:H a=none
 len:zs.length<=sizeLine
 at':∃its k,s.heap.get? a=some (D7 its k)/\Av zs its
theorem Grown.pin {a:Addr}{s:Shared} (A:C7 Y a) (g:Grown Y a PB σ zs H s) (e:s.heap.get? a=some (D7 its k)):Ad Y ((a,D7 its k)::PB) σ H s:=
 g.inv.pins_of λp hp=>by
  rcases mem_cons.mp hp with rfl | hp
  ·exact⟨e,g.no,A.loc,A.fs,λv z=>by
    have z':Data.seq its.toArray k=Data.cell v:=z;cases z'⟩
  ·exact g.inv.pin p (mem_append_right _ hp)
theorem Ad.grown {a:Addr}{s:Shared} (I:Ad Y ((a,D7 its k)::PB) σ H s) (hz:zs.length<=sizeLine) (v:Av zs its):Grown Y a PB σ zs H s:=by
 have q:=I.pin (a,D7 its k) (mem_append_right _ mem_cons_self);exact⟨I.pins_of λp hp=>I.pin p (mem_append_right _ (mem_cons_of_mem _ hp)),q.2.1,hz,its,k,q.1,v⟩
def Km:List V->Prop->Prop:=λzs p=>zs.length<sizeLine/\p
def NZ:List V->Prop->Prop:=λ_ p=>p
def Fr (Y:Cx) (a:Addr) (E:Expr) (d:Nat) (body:Value->Sem PySem.Fin) (C:List V->Prop) (B:TB):Prop:=
 ∀(jt:Value) (PB:PNs) (σ:St) (zs:List V) (H:Hp) (s:Shared) (N:List V->Hp->Prop) (P:Shared->Prop),(∀p∈PB,p.1≠a)->Grown Y a PB σ zs H s->C zs->B σ zs H N->(∀zs' H' s',Grown Y a PB σ zs' H' s'->N zs' H'->P s')->Gm (model Y.prog Y.w) Y.A E d jt (.ref a) Y.env (body jt) P s
theorem Kn {e0 tg it:Expr}{gs:List Comprehension}{ifs:List Expr}{sc:Scope}{ps:Pos}{d m0:Nat}{Y:Cx}{a jt:Addr}{PB:PNs}{g:TG}{tt:TT}{B:TB}{C:List V->Prop}{Z:List V->Prop->Prop}{body:Value->Sem PySem.Fin}{fp:List Addr}{tn:Nat->Heap->Prop}{J:It}{W:Nat->Nat->List V->Hp->Prop}{σ:St}{ys:List V}{H:Hp}{s:Shared}{N:List V->Hp->Prop}{R:Result->Shared->Prop}
  (A:C7 Y a) (hPB:∀p∈PB,p.1≠a) (ht:∀itv,compTurn (.ListComp e0 gs sc ps) d itv (.ref a) Y.env=Fq (.ListComp e0 gs sc ps) d tg it ifs (body itv) itv (.ref a) Y.env) (hx:Y.xe=λ_ _=>False) (hg:PG Y tg g) (htt:BM Y ifs tt) (hb:Fr Y a (.ListComp e0 gs sc ps) d body C B) (hZ:∀zs p,Z zs p->C zs/\p)
  (T:CC Y.prog Y.w Y.K tg J fp jt tn) (na:∀b∈fp,b≠a) (fpY:∀ {o:Obj}{H':Hp},(∀b∈fp,H' b=none)->∀b∈fp,Bx Y ((a,o)::PB) H' b) (st:tn 0 s.heap) (gr:Grown Y a PB σ ys H s) (hn:∀b∈fp,H b=none) (w0:W 0 m0 ys H)
  (turn:∀j m zs H,W j m zs H->(J.stop j H/\N zs H)\/(J.go j H/\Z zs (∃N2:List V->Hp->Prop,(∀zs' H',N2 zs' H'->∃m',m'<m/\W (j+1) m' zs' H')/\∀x H',J.yld j H x H'->g x σ H' fun σ3 H2=>Keep σ σ3/\tt σ3 H2 λb H3=>br b (B σ3 zs H3 N2) (N2 zs H3))))
  (back:∀zs H' s',Grown Y a PB σ zs H' s'->N zs H'->R (.ok .next) s'):codeAny (model Y.prog Y.w) Y.A (.compLoop (.ListComp e0 gs sc ps) d (.ref jt) (.ref a) Y.env) R s:=by
 refine NY (ht _) (λn' s'=>∃(j:Nat) (zs:List V) (H':Hp),Grown Y a PB σ zs H' s'/\tn j s'.heap/\(∀b∈fp,H' b=none)/\W j n' zs H') ?_ m0 ⟨0,ys,H,gr,st,hn,w0⟩;rintro n' s12 ⟨j,zs,H12,g12,st12,fr12,w12⟩;obtain⟨its',k',e12,v12⟩:=g12.at';have I12:=g12.pin A e12;rcases turn j n' zs H12 w12 with⟨stop,q⟩ | ⟨go2,hz0⟩
 ·refine Ao (T.done Y rfl rfl rfl A.calm j _ s12 _ H12 _ I12 (fpY fr12) st12 stop) λr s13 ⟨hr,I13⟩=>?_
  subst hr;exact back zs H12 s13 (Ad.grown I13 g12.len v12) q
 ·obtain⟨hC,N2,hN2,step2⟩:=hZ _ _ hz0;refine Ao (T.item Y rfl rfl rfl A.calm j _ s12 _ H12 _ I12 (fpY fr12) st12 go2) λr s13 ⟨u2,hr,h13⟩=>?_
  subst hr;refine Ao h13 λ_ s14 ⟨x2,H14,I14,r14,y14,st14,fr14⟩=>?_
  have I14':=I14.pinned (fpY fr14) (T.obj _ _ st14);have hgY:=hg _ s14 _ H14 x2 u2 _ I14' r14 (step2 x2 H14 y14);rw [hx] at hgY;refine Ao hgY λ_ s15 ⟨σ15,H15,I15,kp2,q15⟩=>?_
  have htY:=htt _ s15 σ15 H15 _ I15 q15;rw [hx] at htY;refine Ao htY λb2 s16 ⟨H16,I16,q16⟩=>?_
  have pn:∀p∈PB++CD fp s14.heap,p.1≠a:=λp hp=>by
   rcases mem_append.mp hp with hp | hp
   ·exact hPB p hp
   ·exact na p.1 (Ih hp).1
  have back2:∀ {σ':St}{zs':List V}{H':Hp}{s':Shared},Keep σ σ'->Grown Y a (PB++CD fp s14.heap) σ' zs' H' s'->N2 zs' H'->∃m,m<n'/\∃(j:Nat) (zs:List V) (H':Hp),Grown Y a PB σ zs H' s'/\tn j s'.heap/\(∀b∈fp,H' b=none)/\W j m zs H':=λ{σ' zs' H' s'} kp G n2=>by
   obtain⟨m',hm,w16⟩:=hN2 _ _ n2;refine⟨m',hm,j+1,zs',H',⟨(G.inv.pins_of λp hp=>G.inv.pin p (mem_append_right _ (mem_append_left _ hp))).weak (by rw [kp.len]) λi v e=>kp.get e,G.no,G.len,G.at'⟩,T.keep _ _ _ st14 λb hb o e=>(G.inv.pin (b,o) (mem_append_right _ (mem_append_right _ (EB hb e)))).1,λb hb=>?_,w16⟩;obtain⟨o,e,d⟩:=T.obj _ _ st14 b hb;exact(G.inv.pin (b,o) (mem_append_right _ (mem_append_right _ (EB hb e)))).2.1
  have g16:Grown Y a (PB++CD fp s14.heap) σ15 zs H16 s16:=Ad.grown I16 g12.len v12;cases b2 with
  | false=>
   rw [if_neg Bool.false_ne_true];exact back2 kp2 g16 (q16.2 rfl)
  | true=>
   rw [if_pos rfl];exact hb _ _ _ _ _ _ _ _ pn g16 hC (q16.1 rfl) λzs' H' s' G n2=>back2 kp2 G n2
def IE (te:TE):TB:=fun σ zs H N=>te σ H λy H4=>N (zs++[y]) H4
theorem Ko {a:Addr}{elt:Expr}{d:Nat} (A:C7 Y a) (hx:Y.xe=λ_ _=>False) (he:PE Y elt te):Fr Y a E d (λjt=>Gk E d elt jt (.ref a) Y.env) (λzs=>zs.length<sizeLine) (IE te):=by
 intro jt PB σ zs H s N P hPB gr zlt h back;obtain⟨its',k',e12,v12⟩:=gr.at';have I16:=gr.pin A e12;have heY:=he _ s σ H _ I16 h;rw [hx] at heY;refine NW (Ao heY λyv s17 ⟨y,H17,I17,r17,n17⟩=>?_);have gI:=Ad.grown I17 gr.len v12;have b4:=(I17.pin (a,D7 its' k') (mem_append_right _ mem_cons_self)).1;have hl:=v12.length;refine call_meets F.slot_list_append ⟨_,b4,rfl⟩ F.entry_list_append (F.args_list_append_2 _ _) (PySem.list_append a its'.toArray k' yv (by rw [size_toArray];omega)) ⟨b4,?_⟩;have q:=PySem.IsL.update b4 (λa=>a.push yv);have eqp:its'.toArray.push yv=(its'++[yv]).toArray:=by simp
 rw [eqp] at q;have I18:Ad Y PB σ H17 { s17 with heap:=s17.heap.update a (Obj.mapSeq λa=>a.push yv),toks:=s17.toks}:=
  gI.inv.turned (it:=a) (λb o hb e=>(Heap.get?_update_other s17.heap _ (Ne.symm hb)).trans e) gI.no A.loc A.sz A.cell λp hp z=>by
   rw [A.pn,nil_append] at hp;exact hPB p hp z
 exact back (zs++[y]) H17 _ ⟨I18,gI.no,by rw [length_append,List.length_singleton];omega,its'++[yv],_,q,v12.append (.cons r17 .nil)⟩ n17
def Kp (Z:List V->Prop->Prop) (wi:TI) (g:TG) (tt:TT) (B:TB):TB:=fun σ ys H N=>wi σ H λJ H1=>∃W:Nat->Nat->List V->Hp->Prop,(∃m,W 0 m ys H1)/\∀j m zs H,W j m zs H->
  (J.stop j H/\N zs H)\/(J.go j H/\Z zs (∃N2:List V->Hp->Prop,(∀zs' H',N2 zs' H'->∃m',m'<m/\W (j+1) m' zs' H')/\∀x H',J.yld j H x H'->g x σ H' fun σ3 H2=>Keep σ σ3/\tt σ3 H2 λb H3=>br b (B σ3 zs H3 N2) (N2 zs H3)))
theorem N0 {e0 tg it:Expr}{gs:List Comprehension}{ifs:List Expr}{sc:Scope}{ps:Pos}{d:Nat}{a:Addr}{B:TB}{C:List V->Prop}{Z:List V->Prop->Prop}{body:Value->Sem PySem.Fin} (A:C7 Y a) (hx:Y.xe=λ_ _=>False) (hs:∀x,foldedSetIterable it Y.env x=pure x)
  (ht:∀itv,compTurn (.ListComp e0 gs sc ps) (d+1) itv (.ref a) Y.env=Fq (.ListComp e0 gs sc ps) (d+1) tg it ifs (body itv) itv (.ref a) Y.env)
  (hst:∀ {R:Result->Shared->Prop}{s:Shared}{j:Value},codeAny (model Y.prog Y.w) Y.A (.compLoop (.ListComp e0 gs sc ps) (d+1) j (.ref a) Y.env) R s->wpAny (model Y.prog Y.w) Y.A (pyIter j) (λj' s'=>codeAny (model Y.prog Y.w) Y.A (.compLoop (.ListComp e0 gs sc ps) (d+1) j' (.ref a) Y.env) R s') (notedBy (model Y.prog Y.w) Y.A Y.env λx s'=>R (.error x) s') s->codeAny (model Y.prog Y.w) Y.A (.compStart (.ListComp e0 gs sc ps) (d+1) j (.ref a) Y.env) R s)
  (hi:PI Y tg it wi) (hg:PG Y tg g) (htt:BM Y ifs tt) (hb:Fr Y a (.ListComp e0 gs sc ps) (d+1) body C B) (hZ:∀zs p,Z zs p->C zs/\p):Fr Y a (.ListComp e0 gs sc ps) d (λjt=>ID (.ListComp e0 gs sc ps) d it jt (.ref a) Y.env) (λ_=>True) (Kp Z wi g tt B):=by
 intro jt0 PB σ ys H s N P hPB gr _ h back;obtain⟨its,k,ee,v0⟩:=gr.at';have I0:=gr.pin A ee;have base:=hi _ s σ H _ I0 h;rw [hx] at base;refine NX hs (Ao base λv9 s9 h9=>Ao h9 λitv2 s10 h10=>?_);obtain⟨jt,fp,tn,J,H10,e10,I10,T,st10,f10,W,⟨m2,w2⟩,turn⟩:=h10;subst e10;have g10:=Ad.grown I10 gr.len v0;have ne2:∀b∈fp,b≠a/\∀p∈PB,p.1≠b:=λb hb=>by
  obtain⟨_,_,_,_,_,f5⟩:=f10 b hb;exact⟨λz=>f5 (a,D7 its k) (mem_append_right _ mem_cons_self) z.symm,λp hp=>f5 p (mem_append_right _ (mem_cons_of_mem _ hp))⟩
 have fpY:∀ {o:Obj}{H':Hp},(∀b∈fp,H' b=none)->∀b∈fp,Bx Y ((a,o)::PB) H' b:=λ{o H'} hn b hb=>by
  obtain⟨_,f1,f2',f3,f4,_⟩:=f10 b hb;refine⟨hn b hb,f1,f2',f3,f4,λp hp e=>?_⟩;rw [A.pn,nil_append] at hp;rcases mem_cons.mp hp with rfl | hp
  ·exact(ne2 b hb).1 e.symm
  ·exact(ne2 b hb).2 p hp e
 have loop:codeAny (model Y.prog Y.w) Y.A (.compLoop (.ListComp e0 gs sc ps) (d+1) (.ref jt) (.ref a) Y.env) (λr s₆=>r= .ok .next/\P s₆) s10:=
  Kn A hPB ht hx hg htt hb hZ T (λb hb=>(ne2 b hb).1) fpY st10 g10 (λb hb=>(f10 b hb).1) w2 turn λzs H' s' G n=>⟨rfl,back zs H' s' G n⟩
 exact hst loop (T.self _ 0 _ _ _ st10 loop)
theorem Kq {X:Cx}{tg iter e0:Expr}{gs:List Comprehension}{ifs:List Expr}{scope:Scope}{pos pos':Pos}{wi:TI}{g:TG}{tt:TT}{Bt:TB}{Cd:List V->Prop} (Z:List V->Prop->Prop) {N':List Str}{cap:List (Option Nat)}{use:Option (Value->Sem Unit)}{Q':VSP}{body:Value->Value->Env->Sem PySem.Fin}
  {pins:PNs}{s:Shared}{σ:St}{H:Hp}{Q:List V->Hp->Prop}
  (hc:X.calm=true) (hi:PI X tg iter wi) (B:AE X.env.scope X.N scope N' cap) (hg:∀s H ex C,PG (AK X N' scope s H ex C) tg g) (ht:∀s H ex C,BM (AK X N' scope s H ex C) ifs tt)
  (htn:∀itv acc env,compTurn (.ListComp e0 (⟨tg,iter,ifs,0⟩::gs) scope pos) 0 itv acc env=Fq (.ListComp e0 (⟨tg,iter,ifs,0⟩::gs) scope pos) 0 tg iter ifs (body itv acc env) itv acc env)
  (hbd:∀s H ex C a,C7 (AK X N' scope s H ex C) a->Fr (AK X N' scope s H ex C) a (.ListComp e0 (⟨tg,iter,ifs,0⟩::gs) scope pos) 0 (λitv=>body itv (.ref a) (AK X N' scope s H ex C).env) Cd Bt) (hZ:∀zs p,Z zs p->Cd zs/\p)
  (hs:∀x,foldedSetIterable iter X.env x=pure x) (I:Ad X pins σ H s)
  (h:wi σ H λJ H1=>∃W:Nat->Nat->List V->Hp->Prop,(∃m,W 0 m [] H1)/\∀i m ys H,W i m ys H->(J.stop i H/\Q ys H)\/(J.go i H/\Z ys (∃N:List V->Hp->Prop,(∀ys' H',N ys' H'->∃m',m'<m/\W (i+1) m' ys' H')/\∀x H',J.yld i H x H'->g x (AL cap σ) H' fun σ2 H2=>Keep (AL cap σ) σ2/\tt σ2 H2 λb H3=>br b (Bt σ2 ys H3 N) (N ys H3))))
  (fin:∀(acc C:Addr) (H:Hp) (ys:List V) (s':Shared),H acc=none->Ad X pins σ (upd H acc (.lst ys)) s'->Gj X pins C (upd H acc (.lst ys)) s'->Q ys H->compPost (model X.prog X.w) X.A X.xe use Q' (.ref acc) C (.ok .next) s'):
  wpAny (model X.prog X.w) X.A (comprehension (.ListComp e0 (⟨tg,iter,ifs,0⟩::gs) scope pos) scope X.env pos' (newList []) false (eval iter X.env) use) Q' X.xe s:=by
 have hclos:closureFor scope X.env=pure (AU X.env.cells scope.names []):=Iv λy hy hf=>I.ok.has y.1 (B.free y hy hf)
 refine wpAny_comprehension_free (cl:=AU X.env.cells scope.names []) rfl hs hclos B.kind B.names (Ao (hi pins s σ H _ I h) λv s1 h1=>Ao h1 λitv s2 h2=>?_);obtain⟨it,fp,tn,J,H2,e,I2,T,st2,f2,W,⟨m0,w0⟩,turn⟩:=h2;subst e;refine wpAny_newObj_type (Kj ?_);dsimp only;generalize hH3:s2.heap.push { cls:= .type "list",dict:=none,data:= .seq ([]:List Value).toArray}=h3;have hsz3:h3.objs.size=s2.heap.objs.size+1:=by rw [<-hH3];exact Heap.size_push ..
 have hk3:∀b o,s2.heap.get? b=some o->h3.get? b=some o:=λb o e=>by rw [<-hH3];exact Heap.get?_push_of_some _ e
 have hacc3:h3.get? s2.heap.objs.size=some { cls:= .type "list",data:= .seq ([]:List Value).toArray}:=by rw [<-hH3];exact Heap.get?_push_size _ rfl
 have hlt:∀b∈fp,b<s2.heap.objs.size:=λb hb=>let ⟨o,e,_⟩:=T.obj _ _ st2 b hb;Heap.lt_size e
 have I4:=Kl I2 B f2 hlt hk3 (by rw [hsz3];exact Nat.le_succ _);have acc4:(pushCells (h3.push { cls:= .type "dict",data:= .dict #[]}) scope.names).get? s2.heap.objs.size=some { cls:= .type "list",data:= .seq ([]:List Value).toArray}:=pushCells_keeps _ _ _ _ (Heap.get?_push_of_some _ hacc3);have st4:tn 0 (pushCells (h3.push { cls:= .type "dict",data:= .dict #[]}) scope.names):=T.keep _ _ _ st2 λb _ o e=>pushCells_keeps _ _ _ _ (Heap.get?_push_of_some _ (hk3 b o e))
 have haC:s2.heap.objs.size≠h3.objs.size:=by rw [hsz3];exact Nat.ne_of_lt (Nat.lt_succ_self _)
 have haN:s2.heap.objs.size ∉ AI X.stack:=λz=>by
  rcases mem_cons.mp (I2.stkSub _ z) with q | q
  ·exact absurd I2.lt (by rw [<-q];exact Nat.lt_irrefl _)
  ·exact I2.nofs (Nat.le_refl _) q
 have okY:=I4.ok;have fpY:∀ {pins':PNs}{H':Hp},(∀b∈fp,H' b=none)->(∀p∈pins',p.1=s2.heap.objs.size)->∀b∈fp,Bx (AK X N' scope s2 H2 fp h3.objs.size) pins' H' b:=λ{pins' H'} hn hp b hb=>
  ⟨hn b hb, (okY.exf b hb).1, okY.exfs b hb, .inl hb, (okY.exf b hb).2, λp z e => by
   have z':p∈pins':=z;have:=hlt b hb;rw [<-e,hp p z'] at this;exact Nat.lt_irrefl _ this⟩
 have cellNe:∀x c,(AK X N' scope s2 H2 fp h3.objs.size).env.cells.lookup x=some c->c≠s2.heap.objs.size:=λx c ec z=>by
  rcases EG scope.names (h3.objs.size+1) _ ec with q' | q'
  ·rw [z,hsz3] at q';exact absurd q' (by omega)
  ·have ec':X.env.cells.lookup x=some c:=(DF _ _ q').elim id λz=>nomatch z
   obtain⟨_,q''⟩:=I2.cell x c ec';have:=q''.lt;rw [z] at this;exact Nat.lt_irrefl _ this
 have loop:∀s4:Shared,s4= { s2 with heap:=pushCells (h3.push { cls:= .type "dict",data:= .dict #[]}) scope.names}->
   codeAny (model X.prog X.w) X.A (.compLoop (.ListComp e0 (⟨tg,iter,ifs,0⟩::gs) scope pos) 0 (.ref it) (.ref s2.heap.objs.size) (IB scope X.env h3.objs.size)) (compPost (model X.prog X.w) X.A X.xe use Q' (.ref s2.heap.objs.size) h3.objs.size) s4:=by
  rintro s4 rfl;have A0:C7 (AK X N' scope s2 H2 fp h3.objs.size) s2.heap.objs.size:=⟨haC,haN,.inr (Nat.le_refl _),cellNe,rfl,hc⟩;refine Kn (Y:=AK X N' scope s2 H2 fp h3.objs.size) (PB:=[]) (W:=W) A0 (λp hp=>absurd hp (by simp)) (λ_=>htn _ _ _) rfl (hg _ _ _ _) (ht _ _ _ _) (hbd _ _ _ _ _ A0) hZ T (λb hb z=>absurd (hlt b hb) (by rw [z];exact Nat.lt_irrefl _))
   (λ{o H'} hn b hb=>fpY hn (λp hp=>by rw [mem_singleton.mp hp]) b hb) st4 ⟨I4,I2.hok.fresh (Nat.le_refl _),Nat.zero_le _,[],0,acc4,.nil⟩ (λb hb=>(f2 b hb).1) w0 turn λys H5 s6 G q=>?_
  obtain⟨its,k,e6,v5⟩:=G.at';have fa5:=G.no;have z5:=G.len;have I6:=G.inv;have nacc:∀b u,H5 b=some u->b≠s2.heap.objs.size:=λb u q z=>by rw [z,fa5] at q;cases q
  have un:Un (AI X.stack) fp H2 (upd H5 s2.heap.objs.size (.lst ys)) s2.heap s6.heap:=by
   have u:=I6.base;refine⟨u.keep,u.slot,λb o q n hx=>?_,u.there,λb xs q=>?_,λb o xs q=>?_,λb ps q=>?_⟩
   ·rw [Ar (Nat.ne_of_lt (Heap.lt_size q))];exact u.free b o q n hx
   ·have z:=u.tups b xs q;rw [Ar (nacc b _ z)];exact z
   ·have z:=u.frzs b o xs q;rw [Ar (nacc b _ z)];exact z
   ·obtain⟨more,z⟩:=u.tbls b ps q;exact⟨more,by rw [Ar (nacc b _ z)];exact z⟩
  have hok:HOk X.prog X.w (upd H5 s2.heap.objs.size (.lst ys)) s6.heap:=λb u q=>by
   by_cases hb:b=s2.heap.objs.size
   ·subst hb;rw [Ah] at q;cases q;exact⟨z5,its,k,v5,e6⟩
   ·rw [Ar hb] at q;have o6:ObjOk X.prog X.w H5 s6.heap b u:=I6.hok b u q;exact o6.stay (λ_ _ _ e=>e) (λc z=>by rw [Ar (nacc c _ z)];exact z) λc xs z=>by rw [Ar (nacc c _ z)];exact z
  have IX:Ad X pins σ (upd H5 s2.heap.objs.size (.lst ys)) s6:=I2.call' (show s6.os=s2.os from I6.os) un hok I6.bare λb hb=>let f:=f2 b hb;⟨f.2.2.2.1,f.2.1,f.2.2.2.2.1,f.2.2.2.2.2⟩
  have hCs:s2.heap.objs.size<=h3.objs.size:=by rw [hsz3];exact Nat.le_succ _
  refine fin _ _ H5 ys s6 fa5 IX ⟨let ⟨m,hn,_⟩:=I6.loc;⟨m,hn⟩,?_,?_,Nat.le_trans I2.sz hCs,λx c ec z=>?_,λp hp z=>?_⟩ q
  ·rw [Ar (Ne.symm haC)];exact I6.free
  ·exact Nat.ne_of_gt (Nat.lt_of_lt_of_le I2.lt hCs)
  ·obtain⟨_,q⟩:=I2.cell x c ec;have:=q.lt;rw [z] at this;exact absurd (Nat.lt_of_lt_of_le this hCs) (Nat.lt_irrefl _)
  ·have:=Heap.lt_size (I2.pin p hp).1;rw [z] at this;exact absurd (Nat.lt_of_lt_of_le this hCs) (Nat.lt_irrefl _)
 exact codeAny_compStart_list (loop _ rfl) (T.self _ 0 _ _ _ st4 (loop _ rfl))
theorem Kr {X:Cx}{tg iter elt:Expr}{ifs:List Expr}{scope:Scope}{pos pos':Pos}{wi:TI}{g:TG}{tt:TT}{te:TE}{N':List Str}{cap:List (Option Nat)}{use:Option (Value->Sem Unit)}{Q':VSP}
  {pins:PNs}{s:Shared}{σ:St}{H:Hp}{Q:List V->Hp->Prop}
  (hc:X.calm=true) (hi:PI X tg iter wi) (B:AE X.env.scope X.N scope N' cap) (hg:∀s H ex C,PG (AK X N' scope s H ex C) tg g) (ht:∀s H ex C,BM (AK X N' scope s H ex C) ifs tt) (he:∀s H ex C,PE (AK X N' scope s H ex C) elt te)
  (hs:∀x,foldedSetIterable iter X.env x=pure x) (I:Ad X pins σ H s) (h:IC wi cap g tt te σ H Q)
  (fin:∀(acc C:Addr) (H:Hp) (ys:List V) (s':Shared),H acc=none->Ad X pins σ (upd H acc (.lst ys)) s'->Gj X pins C (upd H acc (.lst ys)) s'->Q ys H->compPost (model X.prog X.w) X.A X.xe use Q' (.ref acc) C (.ok .next) s'):
  wpAny (model X.prog X.w) X.A (comprehension (.ListComp elt [⟨tg,iter,ifs,0⟩] scope pos) scope X.env pos' (newList []) false (eval iter X.env) use) Q' X.xe s:=
 Kq Km (body:=λitv acc env=>Gk (.ListComp elt [⟨tg,iter,ifs,0⟩] scope pos) 0 elt itv acc env) (Bt:=IE te) hc hi B hg ht (λ_ _ _=>rfl) (λs H ex C a A=>Ko A rfl (he s H ex C)) (λ_ _ z=>z) hs I h fin
def N1 (wi:TI) (cap:List (Option Nat)) (g:TG) (tt:TT) (te:TE):TE:=fun σ H Q=>IC wi cap g tt te σ H λys H'=>∀p,H' p=none->Q (.ref p) (upd H' p (.lst ys))
theorem A7 {tg elt:Expr}{ifs:List Expr} (N':List Str) (cap:List (Option Nat))
  (hc:X.calm=true) (hi:PI X tg iter wi) (B:AE X.env.scope X.N scope N' cap) (hg:∀s H ex C,PG (AK X N' scope s H ex C) tg g) (ht:∀s H ex C,BM (AK X N' scope s H ex C) ifs tt) (he:∀s H ex C,PE (AK X N' scope s H ex C) elt te)
  (hs:∀x,foldedSetIterable iter X.env x=pure x:=by intro _;rfl):PE X (.ListComp elt [⟨tg,iter,ifs,0⟩] scope pos) (N1 wi cap g tt te):=by
 intro pins s σ H Q I h;rw [eval_ListComp];refine Kr (use:=none) hc hi B hg ht he hs I h λacc C H ys s' hn I' L q=>?_
 obtain⟨m,hm⟩:=L.ns;refine⟨m,hm,λh' hsb=>⟨.ref acc,_,I'.turned (t':=s'.toks) (it:=C) (λb o hb e=>hsb.extBut b o hb e) L.free L.loc (.inr L.sz) L.cell L.pin,rfl,q acc hn⟩⟩
def N3 (i:Nat) (wi:TI) (cap:List (Option Nat)) (g:TG) (tt:TT) (te:TE):TS:=λD σ H=>IC wi cap g tt te σ H λys H'=>∀p,H' p=none->D.nx (σ.set i (some (.ref p))) (upd H' p (.lst ys))
theorem Fs {i:Nat}{y:Str}{tg elt:Expr}{ifs:List Expr}{pos' pos'':Pos} (N':List Str) (cap:List (Option Nat)) (hN:X.N.Nodup) (hin:X.N[i]? =some y) (hy:Dt X.env.scope y)
  (hc:X.calm=true) (hi:PI X tg iter wi) (B:AE X.env.scope X.N scope N' cap) (hg:∀s H ex C,PG (AK X N' scope s H ex C) tg g) (ht:∀s H ex C,BM (AK X N' scope s H ex C) ifs tt) (he:∀s H ex C,PE (AK X N' scope s H ex C) elt te)
  (hsw:swapsWith (.ListComp elt [⟨tg,iter,ifs,0⟩] scope pos) (some (.Name y pos')) pos''.line X.env=pure true:=by rfl)
  (hf:X.fn y=true\/X.env.scope.names.lookup y=some .local :=by first | exact .inl rfl | exact .inr rfl | assumption)
  (hs:∀x,foldedSetIterable iter X.env x=pure x:=by intro _;rfl):PS X (.Assign [.Name y pos'] (.ListComp elt [⟨tg,iter,ifs,0⟩] scope pos) pos'') (N3 i wi cap g tt te):=by
 intro pins s σ H D I h;rw [exec_Assign_Name_used _ _ _ _ hsw];refine wpAny_bind (wpAny_standAt (wpAny_bind ?_));show wpAny _ X.A (do let _<-comprehension (.ListComp elt [⟨tg,iter,ifs,0⟩] scope pos) scope X.env _ (newList []) false (eval iter X.env) (some (assign (.Name y pos') X.env))) _ _ s;refine wpAny_bind (wpAny_mono (Kr (use:=some (assign (.Name y pos') X.env)) (Q':=λ_ s'=>SP X pins D .next s') hc hi B hg ht he hs I h λacc C H ys s' hn I' L q=>?_) (λ_ s' hq=>wpAny_pure (wpAny_pure hq)) λ_ _ e=>e);obtain⟨m,hm⟩:=L.ns;refine wpAny_assign_Name (Ib I' hN hin hy (show Ay (.ref acc) (.ref acc) from rfl) (λs'' I'' ⟨a,sb,ha⟩=>?_) hf);have hCa:C≠a:=by
  rcases ha with e | e
  ·rw [e];exact L.loc
  ·exact λz=>L.cell _ _ e z.symm
 refine⟨m,hm.sameBut sb hCa,λh' hsb=>?_⟩;exact⟨_,_,I''.turned (t':=s''.toks) (it:=C) (λb o hb e=>hsb.extBut b o hb e) L.free L.loc (.inr L.sz) L.cell L.pin,q acc hn⟩
def D8 (J:It) (cap:List (Option Nat)) (g:TG) (tt:TT) (te:TE) (σ:St) (Q:List V->Hp->Prop) (H1:Hp):Prop:=
 ∃W:Nat->Nat->List V->Hp->Prop,(∃m,W 0 m [] H1)/\∀i m ys H,W i m ys H->
  (J.stop i H/\Q ys H)\/
  (J.go i H /\ ys.length < sizeLine /\ ∃ N : List V -> Hp -> Prop, (∀ ys' H', N ys' H' -> ∃ m', m' < m /\ W (i + 1) m' ys' H') /\ ∀ x H', J.yld i H x H' -> g x (AL cap σ) H' fun σ2 H2 => Keep (AL cap σ) σ2 /\ tt σ2 H2 λb H3 =>
   br b (te σ2 H3 λy H4=>N (ys++[y]) H4) (N ys H3))
theorem EH {J:It} (n:Nat) (Pv:Nat->List V->Hp->Prop) (hn:n<=100000) (h0:Pv 0 [] H) (hz:∀i ys H,Pv i ys H->ys.length<=i)
  (hs:∀i ys H,i<n->Pv i ys H->J.go i H/\∀x H',J.yld i H x H'->g x (AL cap σ) H' fun σ2 H2=>Keep (AL cap σ) σ2/\tt σ2 H2 λb H3=>br b (te σ2 H3 λy H4=>Pv (i+1) (ys++[y]) H4) (Pv (i+1) ys H3))
  (hd:∀ys H,Pv n ys H->J.stop n H/\Q ys H):D8 J cap g tt te σ Q H:=by
 refine⟨λi m ys H=>m=n-i/\i<=n/\Pv i ys H,⟨n,by simp,Nat.zero_le _,h0⟩,?_⟩;rintro i m ys H ⟨rfl,hi,p⟩
 by_cases hlt:i<n
 ·obtain⟨a,b⟩:=hs i ys H hlt p;refine .inr ⟨a,?_,Pv (i+1),λys' H' p'=>⟨n-(i+1),by omega,rfl,hlt,p'⟩,b⟩;have:=hz i ys H p;have:(100000:Nat)<sizeLine:=by decide
  omega
 ·have e:i=n:=by omega
  subst e;exact .inl (hd ys H p)
theorem BF {K:Fgx}{a:Addr} (Pv:Nat->List V->Hp->Prop) (hn:xs.length<=100000) (h0:Pv 0 [] H) (hz:∀i ys H,Pv i ys H->ys.length<=i)
  (hl:∀i ys H,i<=xs.length->Pv i ys H->Ae K H a xs)
  (hs:∀i x ys H,xs[i]? =some x->Pv i ys H->g x (AL cap σ) H fun σ2 H2=>Keep (AL cap σ) σ2/\tt σ2 H2 λb H3=>br b (te σ2 H3 λy H4=>Pv (i+1) (ys++[y]) H4) (Pv (i+1) ys H3))
  (hd:∀ys H,Pv xs.length ys H->Q ys H):D8 (D0 K a) cap g tt te σ Q H:=
 EH xs.length Pv hn h0 hz (λi ys H hi p=>⟨⟨xs,xs[i],hl i ys H (Nat.le_of_lt hi) p,by simp [hi]⟩,λx H' ⟨e,y⟩=>by subst e;exact hs i x ys _ (y xs (hl i ys _ (Nat.le_of_lt hi) p)) p⟩)
  λys H p=>⟨⟨xs,hl _ ys H (Nat.le_refl _) p,Nat.le_refl _⟩,hd ys H p⟩
theorem Ft {K:Fgx}{a:Addr} (Pv:Nat->List V->Hp->Prop) (hn:xs.length<=100000) (h0:Pv 0 [] H) (hz:∀i ys H,Pv i ys H->ys.length<=i)
  (hl:∀i ys H,i<=xs.length->Pv i ys H->Al K H a xs)
  (hs:∀i x ys H,xs[i]? =some x->Pv i ys H->g x (AL cap σ) H fun σ2 H2=>Keep (AL cap σ) σ2/\tt σ2 H2 λb H3=>br b (te σ2 H3 λy H4=>Pv (i+1) (ys++[y]) H4) (Pv (i+1) ys H3))
  (hd:∀ys H,Pv xs.length ys H->Q ys H):D8 (EA K a) cap g tt te σ Q H:=
 EH xs.length Pv hn h0 hz (λi ys H hi p=>⟨⟨xs,xs[i],hl i ys H (Nat.le_of_lt hi) p,by simp [hi]⟩,λx H' ⟨e,y⟩=>by subst e;exact hs i x ys _ (y xs (hl i ys _ (Nat.le_of_lt hi) p)) p⟩)
  λys H p=>⟨⟨xs,hl _ ys H (Nat.le_refl _) p,Nat.le_refl _⟩,hd ys H p⟩
theorem EI {lo:Int}{n:Nat} (Pv:Nat->List V->Hp->Prop) (hn:n<=100000) (h0:Pv 0 [] H) (hz:∀i ys H,Pv i ys H->ys.length<=i)
  (hs:∀i ys H,i<n->Pv i ys H->g (.int (lo+i)) (AL cap σ) H fun σ2 H2=>Keep (AL cap σ) σ2/\tt σ2 H2 λb H3=>br b (te σ2 H3 λy H4=>Pv (i+1) (ys++[y]) H4) (Pv (i+1) ys H3))
  (hd:∀ys H,Pv n ys H->Q ys H):D8 (CN lo n) cap g tt te σ Q H:=
 EH n Pv hn h0 hz (λi ys H hi p=>⟨hi,λx H' ⟨e,y⟩=>by subst e y;exact hs i ys _ hi p⟩) λys H p=>⟨Nat.le_refl _,hd ys H p⟩
end L2
end
section
namespace L2
open AutoSeq1 (wpAny_loadPart')
section
variable {prog : Program} {w : World} {A : Around} {E : Value -> Shared -> Prop} {s : Shared}
theorem N4 {it t:Addr}{i:Nat}{items:Array Value}{x:Value}{Q:VSP} (hit:s.heap.IsTupleIter it t i) (ht:s.heap.IsTuple t items) (hx:items[i]? =some x)
  (hQ:∀h',h'.IsTupleIter it t (i+1)->Heap.SameBut it s.heap h'->Q x { s with heap:=h'}):wpAny (model prog w) A (Builtin.SmallTypes.nextOf (.ref it)) Q E s:=by
 obtain⟨o,ho,hc,hd⟩:=id hit;obtain⟨ol,hol,_,nl,hdl⟩:=ht;unfold Builtin.SmallTypes.nextOf;refine wpAny_bind (wpAny_callSpecial?_slot (name:=Str.ofString "__next__") hit.typeIs F.slot_tuple_iterator_next (wpAny_call_entry F.slot_tuple_iterator_next hit.typeIs F.entry_tuple_iterator_next ?_ (F.args_tuple_iterator_next_1 _)));show wpAny _ _ (field (.ref it) 0>>=_) _ _ s;refine wpAny_bind (wpAny_field ho hd (x:= .ref t) rfl ?_);show wpAny _ _ (if (Value.ref t==Value.none)=true then _ else _) _ _ s;rw [if_neg (show ¬((Value.ref t==Value.none)=true) from Bool.false_ne_true)];show wpAny _ _ (field (.ref it) 1>>=_) _ _ s;refine wpAny_bind (wpAny_field ho hd (x:= .int i 0) rfl ?_);show wpAny _ _ (seqItems? (.ref t) >>=_) _ _ s;refine wpAny_bind (wpAny_seqItems hol hdl ?_);simp only [Int.toNat_natCast,hx];refine wpAny_bind (wpAny_setField ho hd (by simp) (wpAny_pure ⟨x,rfl,wpAny_pure (hQ _ ?_ (Heap.SameBut.update ..))⟩));exact⟨_,Heap.get?_update_self _ ho (Obj.isFreed_of_fields (Obj.data_mapFields hd _)),(Obj.cls_mapFields ..).trans hc,by rw [Obj.data_mapFields hd];simp [rawInt]⟩
theorem N5 {it t:Addr}{i:Nat}{items:Array Value}{Q:VSP} (hh:A.handled=none) (hit:s.heap.IsTupleIter it t i) (ht:s.heap.IsTuple t items) (hx:items[i]? =none)
  (hE:∀h' e,Heap.ExtBut it s.heap h'->(∃o,h'.get? e=some o/\o.cls= .type "StopIteration")->E (.ref e) { s with heap:=h'}):wpAny (model prog w) A (Builtin.SmallTypes.nextOf (.ref it)) Q E s:=by
 obtain⟨o,ho,hc,hd⟩:=id hit;obtain⟨ol,hol,_,nl,hdl⟩:=ht;unfold Builtin.SmallTypes.nextOf;refine wpAny_bind (wpAny_callSpecial?_slot (name:=Str.ofString "__next__") hit.typeIs F.slot_tuple_iterator_next (wpAny_call_entry F.slot_tuple_iterator_next hit.typeIs F.entry_tuple_iterator_next ?_ (F.args_tuple_iterator_next_1 _)));show wpAny _ _ (field (.ref it) 0>>=_) _ _ s;refine wpAny_bind (wpAny_field ho hd (x:= .ref t) rfl ?_);show wpAny _ _ (if (Value.ref t==Value.none)=true then _ else _) _ _ s;rw [if_neg (show ¬((Value.ref t==Value.none)=true) from Bool.false_ne_true)];show wpAny _ _ (field (.ref it) 1>>=_) _ _ s;refine wpAny_bind (wpAny_field ho hd (x:= .int i 0) rfl ?_);show wpAny _ _ (seqItems? (.ref t) >>=_) _ _ s;refine wpAny_bind (wpAny_seqItems hol hdl ?_);simp only [Int.toNat_natCast,hx];refine wpAny_bind (wpAny_rule (wpAny_bind (wpAny_setField ho hd (by simp) ?_)));show wpAny _ _ (newExc (.type "StopIteration") [] >>=_) _ _ _;refine wpAny_bind ?_;simp only [newExc,newTuple];refine wpAny_bind (wpAny_newObj_type ?_ (by size_fits));refine wpAny_bind (m:=firstArgMember _ _) (wpAny_of_eq (a:=Value.none) (by first | rfl | (simp only [firstArgMember];rfl)) ?_);refine wpAny_newObj_type ?_ (by size_fits);simp only [raiseNew];refine wpAny_bind (wpAny_handled ?_);first | rw [show A.in1.handled=none from hh] | rw [hh]
 refine wpAny_bind (wpAny_pure (wpAny_throw ?_));exact hE _ _ (((Heap.SameBut.update ..).extBut.push _).push _) ⟨_,Heap.get?_push_size _ rfl,rfl⟩
end
structure AW (P:Program) (w:World) (K:Fgx) where
 Sq:Hp->Addr->List V->Prop
 It:Heap->Addr->Addr->Nat->Prop
 Is:Heap->Addr->Array Value->Prop
 obj:Addr->Obj
 get:∀ {X:Cx}{pins:PNs}{σ:St}{H:Hp}{s:Shared}{a:Addr}{xs:List V},X.K=K->Ad X pins σ H s->Sq H a xs->∃its:List Value,Av xs its/\Is s.heap a its.toArray/\xs.length<=sizeLine
 inj:∀ {X:Cx}{pins:PNs}{σ:St}{H:Hp}{s:Shared}{a:Addr}{xs ys:List V},X.K=K->Ad X pins σ H s->Sq H a xs->Sq H a ys->xs=ys
 draws:∀(A:Around),A.handled=none->∀(it l:Addr),l≠it->∀items:Array Value,Draws P w A it [it,l] items.size (λi v=>items[i]? =some v) (λi h=>It h it l i/\Is h l items)
 ito:∀ {h:Heap}{it l:Addr}{i:Nat},It h it l i->∃o,h.get? it=some o/\∀v,o.data≠ .cell v
 itk:∀ {h h':Heap}{it l:Addr}{i:Nat},It h it l i->(∀o,h.get? it=some o->h'.get? it=some o)->It h' it l i
 isk:∀ {h h':Heap}{l:Addr}{items:Array Value},Is h l items->(∀o,h.get? l=some o->h'.get? l=some o)->Is h' l items
 iso:∀ {h:Heap}{l:Addr}{items:Array Value},Is h l items->∃o,h.get? l=some o
 ok:Prop
 itn:ok->∀(h:Heap) (l:Addr),It (h.push (obj l)) h.objs.size l 0
def BG (P:Program) (w:World) (K:Fgx):AW P w K where
  Sq:=λH a xs=>Ae K H a xs
  It:=λh it l i=>h.IsTupleIter it l i
  Is:=λh l items=>h.IsTuple l items
  obj:=λl=> { cls:= .type "tuple_iterator",data:= .fields #[.ref l,.int 0 0]}
  get:=λ{X pins σ H s a xs} hK I q=>by subst hK;obtain⟨its,r,p,z⟩:=I.tuple q;exact⟨its,r,p,z⟩
  inj:=λ{X pins σ H s a xs ys} hK I q q'=>by subst hK;exact I.tuple_inj q q'
  draws:=λA hh it l hne items=>
    { live:=λ_ _ st=>let ⟨o,ho,_⟩:=st.1;⟨o,ho⟩
      frame:=λ_ _ _ st hk=>⟨let ⟨o,e,r⟩:=st.1;⟨o,hk it (by simp) o e,r⟩,let ⟨o,e,r⟩:=st.2;⟨o,hk l (by simp) o e,r⟩⟩
      item:=λi s Q E hi st hQ=>N4 st.1 st.2 (x:=items[i]) (by simp [hi]) λh' hit' hs'=>hQ _ h' s.toks (by simp [hi]) ⟨hit',st.2.extBut hs'.extBut hne⟩ hs'
      done:=λs Q E st hE=>N5 hh st.1 st.2 (by simp) hE}
  ito:=λ{h it l i} ⟨o,e,c,d⟩=>⟨o,e,λv z=>by rw [d] at z;cases z⟩
  itk:=λ{h h' it l i} ⟨o,e,r⟩ k=>⟨o,k o e,r⟩
  isk:=λ{h h' l items} ⟨o,e,r⟩ k=>⟨o,k o e,r⟩
  iso:=λ{h l items} ⟨o,e,_⟩=>⟨o,e⟩
  ok:=True
  itn:=λ_ h l=>⟨_,Heap.get?_push_size _ rfl,rfl,rfl⟩
end L2
end
section
namespace L2
variable {X : Cx} {pins : List (Addr × Obj)} {σ : St} {H : Hp} {s : Shared} {wr : List Addr} {h' : Heap}
open AutoSeq1 (wpAny_loadPart')
theorem Ad.yielded {tk:Nat}{T:Addr}{vs:List V}{us:List Value} (I:Ad X pins σ H s) (hf:∀b∈wr,Bx X pins H b)
  (k:∀b o,b ∉ wr->s.heap.get? b=some o->h'.get? b=some o) (hT:s.heap.objs.size<=T) (ht:IsTup h' T us.toArray) (rv:Av vs us) (hz:vs.length<=sizeLine):
  Ad X pins σ (upd H T (.tup vs)) { s with heap:=h',toks:=tk}:=by
 have hfr:H T=none:=I.hok.fresh hT;have nT:∀b u,H b=some u->b≠T:=λb u e=>Bb e hfr
 have nW:∀b u,H b=some u->b ∉ wr:=λb u e z=>by have:=(hf b z).1;rw [e] at this;cases this
 refine I.step (g':=s.gens) (d':=s.drawn) (ch:=wr) (λb hb=>let f:=hf b hb;⟨f.2.2.2.1,f.2.1,f.2.2.2.2.1,f.2.2.2.2.2⟩) (λb o _ _ hc e _=>k b o hc e) (λb o _ _ hc e _=>⟨o.slots,k b o hc e⟩)
  (λb o hc e n=>?_) (λb o hc e=>⟨o,k b o hc e⟩) (λb xs e=>by rw [Ar (nT b _ e)];exact e) (λb o xs e=>by rw [Ar (nT b _ e)];exact e) (λb ps e=>⟨#[],by rw [Ar (nT b _ e),e];simp⟩) (λm hm=>?_) (λb u e=>?_) I.bare
 ·rw [Ar (Nat.ne_of_lt (Nat.lt_of_lt_of_le (Heap.lt_size e) hT))];exact n
 ·obtain⟨o,es,ep,ho,r⟩:=hm;exact⟨o,es,ep,k _ o (λz=>(hf _ z).2.1 rfl) ho,r⟩
 ·by_cases hb:b=T
  ·subst hb;rw [Ah] at e;cases e;exact⟨hz,us,rv,ht⟩
  ·rw [Ar hb] at e;refine(I.hok b u e).stay (λc v hc q=>k c v ?_ q) (λc q=>by rw [Ar (nT c _ q)];exact q) λc xs q=>by rw [Ar (nT c _ q)];exact q
   rcases hc with z | z
   ·rw [z];exact nW b u e
   ·exact nW c _ z
theorem Ad.ended {tk:Nat} (I:Ad X pins σ H s) (hf:∀b∈wr,Bx X pins H b)
  (k:∀b o,b ∉ wr->s.heap.get? b=some o->h'.get? b=some o):Ad X pins σ H { s with heap:=h',toks:=tk}:=by
 have nW:∀b u,H b=some u->b ∉ wr:=λb u e z=>by have:=(hf b z).1;rw [e] at this;cases this
 refine I.step (g':=s.gens) (d':=s.drawn) (ch:=wr) (λb hb=>let f:=hf b hb;⟨f.2.2.2.1,f.2.1,f.2.2.2.2.1,f.2.2.2.2.2⟩) (λb o _ _ hc e _=>k b o hc e) (λb o _ _ hc e _=>⟨o.slots,k b o hc e⟩)
  (λb o hc e n=>n) (λb o hc e=>⟨o,k b o hc e⟩) (λb xs e=>e) (λb o xs e=>e) (λb ps e=>⟨#[],by rw [e];simp⟩) (λm hm=>?_) (λb u e=>?_) I.bare
 ·obtain⟨o,es,ep,ho,r⟩:=hm;exact⟨o,es,ep,k _ o (λz=>(hf _ z).2.1 rfl) ho,r⟩
 ·refine(I.hok b u e).stay (λc v hc q=>k c v ?_ q) (λc q=>q) λc xs q=>q
  rcases hc with z | z
  ·rw [z];exact nW b u e
  ·exact nW c _ z
def D9 {P:Program}{w:World}{K:Fgx} (S:AW P w K) (a:Addr):It:=
 ⟨λi H=>∃xs x,S.Sq H a xs/\xs[i]? =some x,λi H v H'=>∃T,v= .ref T/\H T=none/\∀xs x,S.Sq H a xs->xs[i]? =some x->H'=upd H T (.tup [.int i,x]),λi H=>∃xs,S.Sq H a xs/\xs.length=i⟩
theorem N6 {P:Program}{w:World}{K:Fgx} (S:AW P w K) {es:List Expr}{k:Nat}{pos:Pos} (a e it:Addr) (hei:e≠it) (hai:a≠it) (hae:a≠e):
  CC P w K (.Tuple es k pos) (D9 S a) [e,it] e (λi h=>(∃old,IsEnum h e it (i:Nat) old)/\S.It h it a i) where
 mem:=by simp
 obj:=λi h st b hb=>by
  obtain⟨⟨old,he⟩,hi⟩:=st;rcases mem_cons.mp hb with z | hb
  ·rw [z];exact⟨_,he,λv z=>by
    have z':Data.fields _=Data.cell v:=z;cases z'⟩
  ·rw [mem_singleton.mp hb];exact S.ito hi
 keep:=λi h h' st kk=>by
  obtain⟨⟨old,he⟩,hi⟩:=st;exact⟨⟨old,kk e (by simp) _ he⟩,S.itk hi λo q=>kk it (by simp) o q⟩
 item:=by
  intro X hP hw hK hc i pins s σ H E I hf st hg;subst hP hw;obtain⟨xs,x,hq,hx⟩:=hg;obtain⟨its,rv,is,hz⟩:=S.get hK I hq;obtain⟨u,hu,ru⟩:=rv.get hx;have W:=WalksT.enumerateD (S.draws X.A.in1 (I.ok.hd hc) it a hai its.toArray) e hei (by simp [hei,Ne.symm hae]) (by simp);have hi:i<its.toArray.size:=by have:=(List.getElem?_eq_some_iff.mp hu).1;simpa using this
  refine W.item i s _ _ hi ⟨st.1,st.2,is⟩ λT vals h1 tk hp hT htup hmid hk=>⟨_,rfl,?_⟩
  obtain⟨t,y,hy,hv⟩:=hp;have ey:y=u:=by
   have q:its.toArray[i]? =some u:=by simpa using hu
   rw [q] at hy;exact(Option.some.inj hy).symm
  subst ey hv;refine W.go es k pos i T { s with heap:=h1,toks:=tk} _ _ hmid λh2 st2 hk2=>?_
  have kk:∀b o,b ∉ [e,it]->s.heap.get? b=some o->h2.get? b=some o:=λb o hb q=>hk2 b o hb (hk b o hb q)
  have htup2:IsTup h2 T [Value.int i t,y].toArray:=by
   obtain⟨o,q,r⟩:=htup;exact⟨o,hk2 T o (W.apart i T h1 hmid) q,r⟩
  exact⟨.ref T,upd H T (.tup [.int i,x]),I.yielded (tk:=tk) (λb hb=>hf b hb) kk hT htup2 (.cons ⟨t,rfl⟩ (.cons ru .nil)) (by show 2<=sizeLine;decide),rfl,
   ⟨T, rfl, I.hok.fresh hT, λys z hy hz => by
    rw [S.inj hK I hy hq,hx] at hz;cases hz;rfl⟩,⟨st2.1,st2.2.1⟩,λb hb=>by
    have hbt:b<s.heap.objs.size:=by
     rcases mem_cons.mp hb with z | hb
     ·rw [z];obtain⟨old,q⟩:=st.1;exact Heap.lt_size q
     ·rw [mem_singleton.mp hb];obtain⟨o,q,_⟩:=S.ito st.2;exact Heap.lt_size q
    rw [Ar (Nat.ne_of_lt (Nat.lt_of_lt_of_le hbt hT))];exact(hf b hb).1⟩
 done:=by
  intro X hP hw hK hc i pins s σ H E I hf st hg;subst hP hw;obtain⟨xs,hq,hx⟩:=hg;obtain⟨its,rv,is,hz⟩:=S.get hK I hq;have W:=WalksT.enumerateD (S.draws X.A.in1 (I.ok.hd hc) it a hai its.toArray) e hei (by simp [hei,Ne.symm hae]) (by simp);have hn:its.toArray.size=i:=by have:=rv.length;simp;omega
  rw [hn] at W;exact W.done s _ _ ⟨st.1,st.2,is⟩ λh' tk hk=>⟨rfl,I.ended (tk:=tk) (λb hb=>hf b hb) hk⟩
 self:=λ_ _ _ _ _ st h=>by
  obtain⟨⟨old,he⟩,_⟩:=st;exact wpAny_pyIter_enum he h
theorem N7 (l:Addr) (items:Array Value):
    Meets (Builtin.«enumerate.__new__» ⟨[.type "enumerate",.ref l],[]⟩) (λ_ R s=>s.heap.IsTuple l items/\R (.ok (.ret (.ref (s.heap.push { cls:= .type "tuple_iterator",data:= .fields #[.ref l,.int 0 0]}).objs.size)))
        { s with heap:=(s.heap.push { cls:= .type "tuple_iterator",data:= .fields #[.ref l,.int 0 0]}).push { cls:= .type "enumerate",data:= .fields #[.none,.bool false,.ref s.heap.objs.size,rawInt 0,.none,.none]}}):=
  .of_wp λprog w A R s h=>by
    obtain⟨hp,g,d,tk,os⟩:=s;obtain⟨hl0,h⟩:=h;obtain⟨⟨c0,dct,dt,sl⟩,hl,hc0,n,hd0⟩:=id hl0;replace hc0:c0= .type "tuple" :=hc0;replace hd0:dt= .seq items n:=hd0;subst hc0 hd0;have hsub:=sub_enumerate;have hL:Heap.IsTuple (Shared.heap ⟨hp,g,d,tk,os⟩) l items:=⟨_,hl,rfl,n,rfl⟩
    wp_walk using wpAny_loadPart' hl
    refine wpAny_stack_any λst=>wpAny_pure ?_;split
    . rename_i c _ _ _ _ _;cases(c==Value.type "enumerate")
      . wp_walk using wpAny_loadPart' hl,wpAny_pyIter_tuple hL;exact⟨_,rfl,h⟩
      . wp_walk using wpAny_loadPart' hl,wpAny_pyIter_tuple hL;exact⟨_,rfl,h⟩
    . wp_walk using wpAny_loadPart' hl,wpAny_pyIter_tuple hL;exact⟨_,rfl,h⟩
theorem N8 {prog:Program}{w:World}{A:Around}{E:VSP}{s:Shared}{l:Addr}{items:Array Value}{Q:VSP} (hL:s.heap.IsTuple l items)
  (h:∀h',IsEnum h' (s.heap.objs.size+1) s.heap.objs.size 0 .none->h'.IsTupleIter s.heap.objs.size l 0->h'.objs.size=s.heap.objs.size+2->(∀b o,s.heap.get? b=some o->h'.get? b=some o)->Q (.ref (s.heap.objs.size+1)) { s with heap:=h'}):
  wpAny (model prog w) A (call (.type "enumerate") [.ref l]) Q E s:=by
 refine callType_new F.called_enumerate (by decide) (F.typeCall_enumerate_1 _) (F.newCall_enumerate_1 _) (λobj=>F.args_object_init_2 obj _) F.entry_enumerate_new (N7 l items) ⟨hL,?_⟩;have hz:(s.heap.push { cls:= .type "tuple_iterator",data:= .fields #[.ref l,.int 0 0]}).objs.size=s.heap.objs.size+1:=Heap.size_push ..;show _/\_;rw [hz];have he:IsEnum ((s.heap.push { cls:= .type "tuple_iterator",data:= .fields #[.ref l,.int 0 0]}).push { cls:= .type "enumerate",data:= .fields #[.none,.bool false,.ref s.heap.objs.size,rawInt 0,.none,.none]}) (s.heap.objs.size+1) s.heap.objs.size 0 .none:=by
  have:=Heap.get?_push_size (s.heap.push { cls:= .type "tuple_iterator",data:= .fields #[.ref l,.int 0 0]}) (o:= { cls:= .type "enumerate",data:= .fields #[.none,.bool false,.ref s.heap.objs.size,rawInt 0,.none,.none]}) rfl;rw [hz] at this;exact this
 exact⟨⟨_,he,rfl⟩,h _ he ⟨_,Heap.get?_push_of_some _ (Heap.get?_push_size _ rfl),rfl,rfl⟩ (by rw [Heap.size_push,hz]) λb o x=>Heap.get?_push_of_some _ (Heap.get?_push_of_some _ x)⟩
def Ks {P:Program}{w:World}{K:Fgx} (S:AW P w K) (ta:TA):TI:=fun σ H R=>ta σ H λvs H1=>∃a,vs=[.ref a]/\(∃xs,S.Sq H1 a xs)/\R (D9 S a) H1
theorem N9 {es:List Expr}{k:Nat}{p pos pos':Pos}{a:Expr}{ta:TA} (hg:Gl X "enumerate") (hm:X.mg "enumerate"=none) (ha:PA X [a] ta) (hs:starEach [a] X.env=[(false,eval a X.env)]:=by rfl):
  PI X (.Tuple es k pos') (.Call (.Name "enumerate" p) [a] [] pos) (Ks (BG X.prog X.w X.K) ta):=by
 intro pins s σ H R I h;refine Call_ (Cq I hg hm boot_enumerate (PyProof.Rows.callWith_type1 (Ao (ha pos pins s σ H _ I h) λus s1 ⟨vs,H1,I1,r1,q1⟩=>?_) hs rfl));obtain⟨l,e,⟨xs,hq⟩,q⟩:=q1;subst e;obtain⟨u,rfl,ru⟩:=r1.one;cases ru;obtain⟨its,rv,is,hz⟩:=I1.tuple hq;obtain⟨ol,hol,hol2⟩:=id is;have hlt:=Heap.lt_size hol;refine N8 (items:=its.toArray) ⟨ol,hol,hol2⟩ λh' hE hI hsz hk=>?_
 have I2:Ad X pins σ H1 { s1 with heap:=h'}:=I1.kept (t':=s1.toks) hk;refine wpAny_pyIter_enum hE ⟨s1.heap.objs.size+1,[s1.heap.objs.size+1,s1.heap.objs.size],_,_,H1,rfl,I2,N6 (BG X.prog X.w X.K) l (s1.heap.objs.size+1) s1.heap.objs.size (Nat.succ_ne_self _) (Nat.ne_of_lt hlt) (Nat.ne_of_lt (Nat.lt_succ_of_lt hlt)),⟨⟨_,hE⟩,hI⟩,λb hb=>?_,q⟩;rcases mem_cons.mp hb with z | hb
 ·rw [z];exact I1.fpOk (Nat.le_succ _) (I1.hok.fresh (Nat.le_succ _))
 ·rw [mem_singleton.mp hb];exact I1.fpOk (Nat.le_refl _) (I1.hok.fresh (Nat.le_refl _))
end L2
end
section
namespace L2
variable {k : Nat} {z : Addr} {a1 a2 : Value} {X : Cx} {p pos pos' : Pos} {e1 e2 : Expr} {ta : TA}
open AutoSeq1 (wpAny_loadPart')
def Dr {P:Program}{w:World}{K:Fgx} (S:AW P w K) (it l:Addr) (xs:Array Value) (k:Nat) (h:Heap):Prop:=S.It h it l k/\S.Is h l xs
theorem Dr.ext {P:Program}{w:World}{K:Fgx}{S:AW P w K}{it l b:Addr}{xs:Array Value}{h h':Heap} (d:Dr S it l xs k h) (e:Heap.ExtBut b h h') (h1:it≠b) (h2:l≠b):Dr S it l xs k h':=
 ⟨S.itk d.1 λo q=>e it o h1 q,S.isk d.2 λo q=>e l o h2 q⟩
abbrev By (h:Heap) (z TI TO:Addr) (f0 f1:Value):Prop:=h.get? z=some { cls:= .type "zip",dict:=none,data:= .fields #[f0,f1,.bool false,.ref TI,.ref TO],slots:= #[]}
def Ea (h:Heap) (z TI TO:Addr):Prop:=∃f0 f1,By h z TI TO f0 f1/\(f0= .none\/ ∃T:Addr,f0=rawInt T)/\(f1= .bool false\/f1= .bool true)
theorem Oa {M:Model}{A:Around}{E:VSP}{s:Shared}{a:Addr}{Q:Option Obj->Shared->Prop} (h:Q (s.heap.get? a) s):wpAny M A (loadIfAlive a) Q E s:=λ_ _ _=>h
theorem Gn {P:Program}{w:World}{A:Around}{E:VSP}{s:Shared}{TI TO:Addr}{Q:Bool->Shared->Prop} (hz:Ea s.heap z TI TO) (h1:∀f0 f1,By s.heap z TI TO f0 f1->Q true s)
  (h2:∀g0,∀T:Addr,∀f1 f2,By s.heap z TI TO (rawInt T) f1->By g0 z TI TO (rawInt T) f2->(f2= .bool false\/f2= .bool true)->Heap.SameBut z s.heap g0->Q false { s with heap:=g0}):
  wpAny (model P w) A (Builtin.SmallTypes.ownedTupleIsFree (.ref z)) Q E s:=by
 obtain⟨f0,f1,hz,hf0,hf1⟩:=hz;unfold Builtin.SmallTypes.ownedTupleIsFree;refine wpAny_bind (wpAny_field hz rfl (x:=f0) rfl ?_);rcases hf0 with rfl | ⟨T,rfl⟩
 ·exact wpAny_pure (h1 _ _ hz)
 ·show wpAny _ _ (loadIfAlive T>>=_) _ _ _;refine wpAny_bind (Oa ?_);cases hTa:s.heap.get? T with
  | none=>
   simp only [Option.isNone_none,if_true];exact wpAny_pure (h1 _ _ hz)
  | some oT=>
   simp only [Option.isNone_some,Bool.false_eq_true,if_false];show wpAny _ _ (field (.ref z) 1>>=_) _ _ _;refine wpAny_bind (wpAny_field hz rfl (x:=f1) rfl ?_);rcases hf1 with rfl | rfl
   ·exact wpAny_bind (wpAny_setField_rec hz (by simp) λg0 hz0 hs0=>wpAny_pure (h2 g0 T _ _ hz hz0 (.inr rfl) hs0))
   ·exact wpAny_bind (wpAny_pure (wpAny_pure (h2 s.heap T _ _ hz hz (.inr rfl) ⟨rfl,λ_ _=>rfl⟩)))
structure Go (z TI TO i1 i2 l1 l2:Addr):Prop where
 TI_z:TI≠z
 TO_z:TO≠z
 TO_TI:TO≠TI
 i1_z:i1≠z
 i1_TI:i1≠TI
 i1_TO:i1≠TO
 i2_z:i2≠z
 i2_TI:i2≠TI
 i2_TO:i2≠TO
 i2_i1:i2≠i1
 l1_z:l1≠z
 l1_TO:l1≠TO
 l1_i1:l1≠i1
 l1_i2:l1≠i2
 l2_z:l2≠z
 l2_TO:l2≠TO
 l2_i1:l2≠i1
 l2_i2:l2≠i2
abbrev BH (h:Heap) (T:Addr) (a1 a2:Value):Prop:=h.get? T=some { cls:= .type "tuple",data:= .seq #[a1,a2]}
theorem Kt {prog:Program}{w:World}{A:Around}{E:VSP}{s:Shared}{T:Addr}{x:Value}{Q:Unit->Shared->Prop} (hT:BH s.heap T a1 a2)
  (h:∀h',h'.get? T=some { cls:= .type "tuple",data:= .seq ((#[a1,a2]:Array Value).setIfInBounds k x)}->Heap.SameBut T s.heap h'->Q () { s with heap:=h'}):
  wpAny (model prog w) A (updateSeq T (·.setIfInBounds k x)) Q E s:=by
 have got:=Heap.get?_update_self (Obj.mapSeq λy=>y.setIfInBounds k x) hT rfl;exact wpAny_updateSeq hT rfl (h _ (got.trans (by simp [Obj.mapSeq])) (Heap.SameBut.update ..))
section
variable {P : Program} {w : World} {K : Fgx} {A : Around} {E : Value -> Shared -> Prop} {s : Shared} (S1 S2 : AW P w K)
theorem Ob {z TI TO i1 i2 l1 l2:Addr}{k:Nat}{xs1 xs2:Array Value}{x1 x2 a1 a2:Value}{Q:VSP} (hh:A.handled=none) (D:Go z TI TO i1 i2 l1 l2) (hz:Ea s.heap z TI TO) (hTI:BH s.heap TI (.ref i1) (.ref i2)) (hTO:BH s.heap TO a1 a2) (h1:Dr S1 i1 l1 xs1 k s.heap) (h2:Dr S2 i2 l2 xs2 k s.heap) (hx1:xs1[k]? =some x1) (hx2:xs2[k]? =some x2)
  (hQ : ∀ h' tk, Ea h' z TI TO -> (IsZip h' z TI TO (rawInt s.heap.objs.size) \/ IsZip s.heap z TI TO .none -> IsZip h' z TI TO (rawInt s.heap.objs.size)) -> (∃ a1 a2, BH h' TO a1 a2) -> Dr S1 i1 l1 xs1 (k + 1) h' -> Dr S2 i2 l2 xs2 (k + 1) h' -> BH h' s.heap.objs.size x1 x2 -> h'.objs.size = s.heap.objs.size + 1 ->
   (∀c o,c≠z->c≠TO->c≠i1->c≠i2->s.heap.get? c=some o->h'.get? c=some o)->Q (.ref s.heap.objs.size) { s with heap:=h',toks:=tk}):
  wpAny (model P w) A (Builtin.«zip.__next__» ⟨[.ref z],[]⟩) (λfin s'=>∃v,fin= .done (.ret v)/\Q v s') E s:=by
 have hl1:k<xs1.size:=(Array.getElem?_eq_some_iff.mp hx1).1;have hl2:k<xs2.size:=(Array.getElem?_eq_some_iff.mp hx2).1;have D1:=fun(A:Around) (hh:A.handled=none)=>S1.draws A hh i1 l1 D.l1_i1 xs1
 have D2:=fun(A:Around) (hh:A.handled=none)=>S2.draws A hh i2 l2 D.l2_i2 xs2
 obtain⟨f0',f1',hz',hf0',hf1'⟩:=id hz;show wpAny _ _ (field (.ref z) 2>>=_) _ _ _;refine wpAny_bind (wpAny_field hz' rfl (x:= .bool false) rfl ?_);show wpAny _ _ (field (.ref z) 3>>=_) _ _ _;refine wpAny_bind (wpAny_field hz' rfl (x:= .ref TI) rfl ?_);refine wpAny_bind (wpAny_seqItems hTI rfl ?_);show wpAny _ _ (Builtin.SmallTypes.ownedTupleIsFree (.ref z) >>=_) _ _ _;refine wpAny_bind (Gn hz (λf0 f1 hz=>?_) λg0 T f1 f2 hzs hz0 hf2 hs0=>?_)
 ·simp only [if_true];refine wpAny_bind (wpAny_rule ?_);refine wpAny_bind (wpAny_field hz rfl (x:= .ref TO) rfl ?_);refine wpAny_bind (wpAny_setField_rec hz (by simp) λg0 hz0 hs0=>?_);replace hz0:By g0 z TI TO .ellipsis f1:=hz0;refine wpAny_bind ?_;simp only [zipIdx_cons,zipIdx_nil,forIn_cons,forIn_nil];refine wpAny_bind (wpAny_bind (wpAny_onRaise ?_));show wpAny _ _ (Builtin.SmallTypes.nextOf (.ref i1) >>=_) _ _ _;refine wpAny_bind ((D1 _ hh).item k _ _ _ hl1 (Dr.ext h1 hs0.extBut D.i1_z D.l1_z) λy1 g1 tk1 hy1 hd1 hs1=>wpAny_pure ?_);have ex1:y1=x1:=by rw [hx1] at hy1;exact(Option.some.inj hy1).symm
  subst ex1;have hd1':Dr S1 i1 l1 xs1 (k+1) g1:=hd1;have hT1:BH g1 TO a1 a2:=(hs1.extBut _ _ D.i1_TO.symm (hs0.extBut _ _ D.TO_z hTO));refine wpAny_bind (wpAny_seqItems hT1 rfl ?_);refine wpAny_bind (Kt hT1 λg2 hU1 hs2=>?_)
  replace hU1:BH g2 TO y1 a2:=hU1
  refine wpAny_bind (wpAny_letGo (wpAny_pure ?_));refine wpAny_bind (wpAny_bind (wpAny_onRaise ?_));show wpAny _ _ (Builtin.SmallTypes.nextOf (.ref i2) >>=_) _ _ _;refine wpAny_bind ((D2 _ hh).item k _ _ _ hl2 (Dr.ext (Dr.ext (Dr.ext h2 hs0.extBut D.i2_z D.l2_z) hs1.extBut D.i2_i1 D.l2_i1) hs2.extBut D.i2_TO D.l2_TO) λy2 g3 tk2 hy2 hd2 hs3=>wpAny_pure ?_);have ex2:y2=x2:=by rw [hx2] at hy2;exact(Option.some.inj hy2).symm
  subst ex2;have hd2':Dr S2 i2 l2 xs2 (k+1) g3:=hd2;have hT2:BH g3 TO y1 a2:=(hs3.extBut _ _ D.i2_TO.symm hU1);refine wpAny_bind (wpAny_seqItems hT2 rfl ?_);refine wpAny_bind (Kt hT2 λg4 hU2 hs4=>?_)
  replace hU2:BH g4 TO y1 y2:=hU2
  refine wpAny_bind (wpAny_letGo (wpAny_pure (wpAny_pure ?_)));refine wpAny_bind (wpAny_seqItems hU2 rfl ?_);refine wpAny_bind (wpAny_newTuple ?_);have hsz:g4.objs.size=s.heap.objs.size:=by rw [hs4.1,hs3.1,hs2.1,hs1.1,hs0.1]
  have hz5:By g4 z TI TO .ellipsis f1:=(hs4.extBut _ _ D.TO_z.symm (hs3.extBut _ _ D.i2_z.symm (hs2.extBut _ _ D.TO_z.symm (hs1.extBut _ _ D.i1_z.symm hz0))));have hk5:∀c o,c≠z->c≠TO->c≠i1->c≠i2->s.heap.get? c=some o->g4.get? c=some o:=λc o cz cTO ci1 ci2 e=>(hs4.extBut _ _ cTO (hs3.extBut _ _ ci2 (hs2.extBut _ _ cTO (hs1.extBut _ _ ci1 (hs0.extBut _ _ cz e)))))
  have he1:Dr S1 i1 l1 xs1 (k+1) g4:=(Dr.ext (Dr.ext (Dr.ext hd1' hs2.extBut D.i1_TO D.l1_TO) hs3.extBut D.i2_i1.symm D.l1_i2) hs4.extBut D.i1_TO D.l1_TO);have he2:Dr S2 i2 l2 xs2 (k+1) g4:=(Dr.ext hd2' hs4.extBut D.i2_TO D.l2_TO);have hzlt:z<g4.objs.size:=Heap.lt_size hz5;show wpAny _ _ (Builtin.SmallTypes.ownedTupleHandOut (.ref z) (.ref g4.objs.size) >>=_) _ _ _;refine wpAny_bind ?_;unfold Builtin.SmallTypes.ownedTupleHandOut;have hz6:By (g4.push { cls:= .type "tuple",data:= .seq #[y1,y2]}) z TI TO .ellipsis f1:=Heap.get?_push_of_some _ hz5;refine wpAny_bind (wpAny_setField_rec hz6 (by simp) λga hza hsa=>?_);replace hza:By ga z TI TO (rawInt g4.objs.size) f1:=hza;refine wpAny_setField_rec hza (by simp) λgb hzb hsb=>?_;replace hzb:By gb z TI TO (rawInt g4.objs.size) (.bool false):=hzb
  have up:∀c o,c≠z->g4.get? c=some o->gb.get? c=some o:=λc o c1 e=>hsb.extBut _ _ c1 (hsa.extBut _ _ c1 (Heap.get?_push_of_some _ e))
  have hTb:BH gb g4.objs.size y1 y2:=hsb.extBut _ _ (Nat.ne_of_gt hzlt) (hsa.extBut _ _ (Nat.ne_of_gt hzlt) (Heap.get?_push_size _ rfl));have hsb8:gb.objs.size=g4.objs.size+1:=by rw [hsb.1,hsa.1,Heap.size_push]
  have upE:Heap.ExtBut z g4 gb:=λc o c1 e=>up c o c1 e
  rw [hsz] at hzb hTb hsb8;refine wpAny_pure ⟨_,rfl,?_⟩;show Q (.ref g4.objs.size) _;rw [hsz];exact hQ gb _ ⟨_,_,hzb,.inr ⟨_,rfl⟩,.inl rfl⟩ (λ_=>hzb) ⟨_,_,up _ _ D.TO_z hU2⟩ (he1.ext upE D.i1_z D.l1_z) (he2.ext upE D.i2_z D.l2_z) hTb hsb8 λc o cz cTO ci1 ci2 e=>up c o cz (hk5 c o cz cTO ci1 ci2 e)
 ·simp only [Bool.false_eq_true,if_false];refine wpAny_bind ?_;simp only [<-Array.forIn_toList,forIn_cons,forIn_nil];refine wpAny_bind (wpAny_bind (wpAny_holding ?_));show wpAny _ _ (Builtin.SmallTypes.nextOf (.ref i1) >>=_) _ _ _;refine wpAny_bind ((D1 _ hh).item k _ _ _ hl1 (Dr.ext h1 hs0.extBut D.i1_z D.l1_z) λy1 g1 tk1 hy1 hd1 hs1=>wpAny_pure ?_);have ex1:y1=x1:=by rw [hx1] at hy1;exact(Option.some.inj hy1).symm
  subst ex1;have hd1':Dr S1 i1 l1 xs1 (k+1) g1:=hd1;refine wpAny_pure ?_;refine wpAny_bind (wpAny_bind (wpAny_holding ?_));show wpAny _ _ (Builtin.SmallTypes.nextOf (.ref i2) >>=_) _ _ _;refine wpAny_bind ((D2 _ hh).item k _ _ _ hl2 (Dr.ext (Dr.ext h2 hs0.extBut D.i2_z D.l2_z) hs1.extBut D.i2_i1 D.l2_i1) λy2 g2 tk2 hy2 hd2 hs2=>wpAny_pure ?_);have ex2:y2=x2:=by rw [hx2] at hy2;exact(Option.some.inj hy2).symm
  subst ex2;have hd2':Dr S2 i2 l2 xs2 (k+1) g2:=hd2;refine wpAny_pure (wpAny_pure ?_);show wpAny _ _ (newTuple [y1,y2] >>=_) _ _ _;refine wpAny_bind (wpAny_newTuple ?_);have hsz:g2.objs.size=s.heap.objs.size:=by rw [hs2.1,hs1.1,hs0.1]
  have hz5:By g2 z TI TO (rawInt T) f2:=(hs2.extBut _ _ D.i2_z.symm (hs1.extBut _ _ D.i1_z.symm hz0));have hT5:BH g2 TO a1 a2:=(hs2.extBut _ _ D.i2_TO.symm (hs1.extBut _ _ D.i1_TO.symm (hs0.extBut _ _ D.TO_z hTO)));have he1:Dr S1 i1 l1 xs1 (k+1) g2:=(Dr.ext hd1' hs2.extBut D.i2_i1.symm D.l1_i2);have he2:Dr S2 i2 l2 xs2 (k+1) g2:=hd2';have hTb:BH (g2.push { cls:= .type "tuple",data:= .seq #[y1,y2]}) g2.objs.size y1 y2:=Heap.get?_push_size _ rfl;have hb8:(g2.push { cls:= .type "tuple",data:= .seq #[y1,y2]}).objs.size=g2.objs.size+1:=Heap.size_push ..;refine wpAny_pure ⟨_,rfl,?_⟩;show Q (.ref g2.objs.size) _;have res:=hQ (g2.push { cls:= .type "tuple",data:= .seq #[y1,y2]}) tk2 ⟨_,_,Heap.get?_push_of_some _ hz5,.inr ⟨_,rfl⟩,hf2⟩ (λc=>c.elim id λc=>absurd (congrArg (λo:Obj=>o.data) (Option.some.inj (hzs.symm.trans c))) (by simp [rawInt])) ⟨_,_,Heap.get?_push_of_some _ hT5⟩ ⟨S1.itk he1.1 λo q=>Heap.get?_push_of_some _ q,S1.isk he1.2 λo q=>Heap.get?_push_of_some _ q⟩ ⟨S2.itk he2.1 λo q=>Heap.get?_push_of_some _ q,S2.isk he2.2 λo q=>Heap.get?_push_of_some _ q⟩ (by rw [<-hsz];exact hTb) (by rw [hb8,hsz]) λc o cz cTO ci1 ci2 e=>Heap.get?_push_of_some _ (hs2.extBut _ _ ci2 (hs1.extBut _ _ ci1 (hs0.extBut _ _ cz e)))
  rw [hsz];exact res
theorem Oc {TI TO i1 i2 l1 l2:Addr}{xs1 xs2:Array Value}{Q:Fin->Shared->Prop} (hh:A.handled=none) (D:Go z TI TO i1 i2 l1 l2) (hz:Ea s.heap z TI TO) (hTI:BH s.heap TI (.ref i1) (.ref i2)) (hTO:BH s.heap TO a1 a2) (h1:Dr S1 i1 l1 xs1 k s.heap) (h2:Dr S2 i2 l2 xs2 k s.heap) (hend:k=xs1.size)
  (hE:∀h' tk e,(∀c o,c≠z->c≠TO->c≠i1->c≠i2->s.heap.get? c=some o->h'.get? c=some o)->(∃o,h'.get? e=some o/\o.cls= .type "StopIteration")->E (.ref e) { s with heap:=h',toks:=tk}):
  wpAny (model P w) A (Builtin.«zip.__next__» ⟨[.ref z],[]⟩) Q E s:=by
 have D1:=fun(A:Around) (hh:A.handled=none)=>S1.draws A hh i1 l1 D.l1_i1 xs1
 have D2:=fun(A:Around) (hh:A.handled=none)=>S2.draws A hh i2 l2 D.l2_i2 xs2
 obtain⟨f0',f1',hz',hf0',hf1'⟩:=id hz;show wpAny _ _ (field (.ref z) 2>>=_) _ _ _;refine wpAny_bind (wpAny_field hz' rfl (x:= .bool false) rfl ?_);show wpAny _ _ (field (.ref z) 3>>=_) _ _ _;refine wpAny_bind (wpAny_field hz' rfl (x:= .ref TI) rfl ?_);refine wpAny_bind (wpAny_seqItems hTI rfl ?_);show wpAny _ _ (Builtin.SmallTypes.ownedTupleIsFree (.ref z) >>=_) _ _ _;refine wpAny_bind (Gn hz (λf0 f1 hz=>?_) λg0 T f1 f2 hzs hz0 hf2 hs0=>?_)
 ·simp only [if_true];refine wpAny_bind (wpAny_rule ?_);refine wpAny_bind (wpAny_field hz rfl (x:= .ref TO) rfl ?_);refine wpAny_bind (wpAny_setField_rec hz (by simp) λg0 hz0 hs0=>?_);replace hz0:By g0 z TI TO .ellipsis f1:=hz0;refine wpAny_bind ?_;simp only [zipIdx_cons,zipIdx_nil,forIn_cons,forIn_nil];refine wpAny_bind (wpAny_bind (wpAny_onRaise ?_));show wpAny _ _ (Builtin.SmallTypes.nextOf (.ref i1) >>=_) _ _ _;have hcur:=(Dr.ext h1 hs0.extBut D.i1_z D.l1_z);subst hend;refine wpAny_bind ((D1 _ hh).done _ _ _ hcur λge e hse he=>?_);obtain⟨oe,hoe,hce⟩:=he;have hze:By ge z TI TO .ellipsis f1:=hse _ _ D.i1_z.symm hz0;have hez:e≠z:=λx=>by subst x;rw [hze] at hoe;cases hoe;simp at hce
  exact wpAny_setField_rec hze (by simp) λgf _ hsf=>hE gf _ e (λc o cz cTO ci1 ci2 x=>hsf.extBut _ _ cz (hse _ _ ci1 (hs0.extBut _ _ cz x))) ⟨oe,hsf.extBut _ _ hez hoe,hce⟩
 ·simp only [Bool.false_eq_true,if_false];refine wpAny_bind ?_;simp only [<-Array.forIn_toList,forIn_cons,forIn_nil];refine wpAny_bind (wpAny_bind (wpAny_holding ?_));show wpAny _ _ (Builtin.SmallTypes.nextOf (.ref i1) >>=_) _ _ _;have hcur:=(Dr.ext h1 hs0.extBut D.i1_z D.l1_z);subst hend;refine wpAny_bind ((D1 _ hh).done _ _ _ hcur λge e hse he=>?_);obtain⟨oe,hoe,hce⟩:=he;exact hE ge _ e (λc o cz cTO ci1 ci2 x=>hse _ _ ci1 (hs0.extBut _ _ cz x)) ⟨oe,hoe,hce⟩
end
abbrev Gp {P:Program}{w:World}{K:Fgx} (S1 S2:AW P w K) (h:Heap) (l1 l2:Addr):Heap:=(h).push (S1.obj l1)
abbrev Gq {P:Program}{w:World}{K:Fgx} (S1 S2:AW P w K) (h:Heap) (l1 l2:Addr):Heap:=(Gp S1 S2 h l1 l2).push (S2.obj l2)
abbrev Gs {P:Program}{w:World}{K:Fgx} (S1 S2:AW P w K) (h:Heap) (l1 l2:Addr):Heap:=(Gq S1 S2 h l1 l2).push { cls:= .type "tuple",data:= .seq #[.ref h.objs.size,.ref (Gp S1 S2 h l1 l2).objs.size]}
abbrev Gu {P:Program}{w:World}{K:Fgx} (S1 S2:AW P w K) (h:Heap) (l1 l2:Addr):Heap:=(Gs S1 S2 h l1 l2).push { cls:= .type "tuple",data:= .seq #[.none,.none]}
abbrev C8 {P:Program}{w:World}{K:Fgx} (S1 S2:AW P w K) (h:Heap) (l1 l2:Addr):Heap:=(Gu S1 S2 h l1 l2).push { cls:= .type "zip",data:= .fields #[.none,.bool false,.bool false,.ref (Gq S1 S2 h l1 l2).objs.size,.ref (Gs S1 S2 h l1 l2).objs.size]}
def IF {P:Program}{w:World}{K:Fgx} (S1 S2:AW P w K):Prop:=S1.ok/\S2.ok/\∀(l1 l2:Addr) (xs1 xs2:Array Value),
  Meets (Builtin.«zip.__new__» ⟨[.type "zip",.ref l1,.ref l2],[]⟩) (λ_ R s=>S1.Is s.heap l1 xs1/\S2.Is s.heap l2 xs2/\R (.ok (.ret (.ref (Gu S1 S2 s.heap l1 l2).objs.size))) { s with heap:=C8 S1 S2 s.heap l1 l2})
theorem Od {X:Cx}{p pos:Pos}{e1 e2:Expr}{ta:TA} (S1 S2:AW X.prog X.w X.K) (zn:IF S1 S2) (hg:Gl X "zip") (hm:X.mg "zip"=none) (ha:PA X [e1,e2] ta) (hs1:starEach [e1,e2] X.env=[(false,eval e1 X.env),(false,eval e2 X.env)]) (hs2:starEach [e2] X.env=[(false,eval e2 X.env)])
  {pins:PNs}{s:Shared}{σ:St}{H:Hp}{R:Addr->Addr->Hp->Prop} (I:Ad X pins σ H s) (h:ta σ H λvs H1=>∃l1 l2,vs=[.ref l1,.ref l2]/\(∃xs,S1.Sq H1 l1 xs)/\(∃xs,S2.Sq H1 l2 xs)/\R l1 l2 H1):
  wpAny (model X.prog X.w) X.A (eval (.Call (.Name "zip" p) [e1,e2] [] pos) X.env) (λv s1=>∃l1 l2 H1,∃m:Nat,v= .ref (m+4)/\R l1 l2 H1/\Ad X pins σ H1 s1/\IsZip s1.heap (m+4) (m+2) (m+3) .none/\BH s1.heap (m+2) (.ref m) (.ref (m+1))/\BH s1.heap (m+3) .none .none/\S1.It s1.heap m l1 0/\S2.It s1.heap (m+1) l2 0/\l1<m/\l2<m/\(∀b,m<=b->Bx X pins H1 b)/\s1.heap.objs.size=m+5) X.xe s:=by
 refine Call_ (Cq I hg hm boot_zip (PyProof.Rows.callWith_type1 (Ao (ha pos pins s σ H _ I h) λus s1 ⟨vs,H1,I1,r1,q1⟩=>?_) (by rw [hs1,hs2]) (by rw [hs2];rfl)));obtain⟨l1,l2,e,⟨xs1,hq1⟩,⟨xs2,hq2⟩,q⟩:=q1;subst e;rcases r1 with _ | ⟨ru1,r1⟩
 rcases r1 with _ | ⟨ru2,r1⟩
 cases r1;cases ru1;cases ru2;obtain⟨its1,rv1,is1,_⟩:=S1.get rfl I1 hq1;obtain⟨its2,rv2,is2,_⟩:=S2.get rfl I1 hq2;obtain⟨o1,ho1⟩:=S1.iso is1;have hl1:=Heap.lt_size ho1;obtain⟨o2,ho2⟩:=S2.iso is2;have hl2:=Heap.lt_size ho2;refine callType_new F.called_zip (by decide) (F.typeCall_zip_2 _ _) (F.newCall_zip_2 _ _) (λobj=>F.args_object_init_3 obj _ _) F.entry_zip_new (zn.2.2 l1 l2 its1.toArray its2.toArray) ⟨is1,is2,?_⟩;have z1:(Gp S1 S2 s1.heap l1 l2).objs.size=s1.heap.objs.size+1:=by rw [Heap.size_push]
 have z2:(Gq S1 S2 s1.heap l1 l2).objs.size=s1.heap.objs.size+2:=by rw [Heap.size_push,z1]
 have z3:(Gs S1 S2 s1.heap l1 l2).objs.size=s1.heap.objs.size+3:=by rw [Heap.size_push,z2]
 have z4:(Gu S1 S2 s1.heap l1 l2).objs.size=s1.heap.objs.size+4:=by rw [Heap.size_push,z3]
 have zz:(C8 S1 S2 s1.heap l1 l2).objs.size=s1.heap.objs.size+5:=by rw [Heap.size_push,z4]
 have gz:(C8 S1 S2 s1.heap l1 l2).get? (Gu S1 S2 s1.heap l1 l2).objs.size=some _:=Heap.get?_push_size _ rfl;have gO:(C8 S1 S2 s1.heap l1 l2).get? (Gs S1 S2 s1.heap l1 l2).objs.size=some _:=Heap.get?_push_of_some _ (Heap.get?_push_size _ rfl);have gI:(C8 S1 S2 s1.heap l1 l2).get? (Gq S1 S2 s1.heap l1 l2).objs.size=some _:=Heap.get?_push_of_some _ (Heap.get?_push_of_some _ (Heap.get?_push_size _ rfl));have g1:S1.It (C8 S1 S2 s1.heap l1 l2) s1.heap.objs.size l1 0:=S1.itk (S1.itn zn.1 _ _) λo q=>Heap.get?_push_of_some _ (Heap.get?_push_of_some _ (Heap.get?_push_of_some _ (Heap.get?_push_of_some _ (q))))
 have g2:S2.It (C8 S1 S2 s1.heap l1 l2) (Gp S1 S2 s1.heap l1 l2).objs.size l2 0:=S2.itk (S2.itn zn.2.1 _ _) λo q=>Heap.get?_push_of_some _ (Heap.get?_push_of_some _ (Heap.get?_push_of_some _ (q)))
 have kk:∀b o,s1.heap.get? b=some o->(C8 S1 S2 s1.heap l1 l2).get? b=some o:=λb o x=>Heap.get?_push_of_some _ (Heap.get?_push_of_some _ (Heap.get?_push_of_some _ (Heap.get?_push_of_some _ (Heap.get?_push_of_some _ (x)))))
 show _/\_;rw [z2,z3,z4] at gz;rw [z3] at gO;rw [z1,z2] at gI;rw [z4];rw [z1] at g2;generalize C8 S1 S2 s1.heap l1 l2=hE at g1 g2 gI gO gz kk zz ⊢;have I2:Ad X pins σ H1 { s1 with heap:=hE}:=I1.kept (t':=s1.toks) kk;exact⟨⟨_,gz,rfl⟩,l1,l2,H1,s1.heap.objs.size,rfl,q,I2,gz,gI,gO,g1,g2,hl1,hl2,λb hb=>I1.fpOk hb (I1.hok.fresh hb),zz⟩
set_option maxHeartbeats 8000000 in
theorem Oe (P:Program) (w:World) (K:Fgx):IF (BG P w K) (BG P w K):=⟨trivial,trivial,λl1 l2 xs1 xs2=>
 .of_wp λprog w A R s h=>by
  obtain⟨hp,g,d,tk,os⟩:=s;obtain⟨hl1,hl2,h⟩:=h;have hsub:=sub_zip;have hL1:Heap.IsTuple (Shared.heap ⟨hp,g,d,tk,os⟩) l1 xs1:=hl1;have hL2:Heap.IsTuple (Shared.heap ⟨(hp).push { cls:= .type "tuple_iterator",data:= .fields #[.ref l1,.int 0 0]},g,d,tk,os⟩) l2 xs2:=Heap.IsTuple.push (hl2) _
  wp_walk using wpAny_pyIter_tuple hL1,wpAny_pyIter_tuple hL2
  exact⟨_,rfl,h⟩⟩
theorem Of {n l1 l2:Nat} (h1:l1<n) (h2:l2<n):Go (n+4) (n+2) (n+3) n (n+1) l1 l2:=by constructor<;>intro z<;>(have z':=z;revert z';intro z';try (change (_:Nat)=_ at z');omega)
def Gv {P:Program}{w:World}{K:Fgx} (S1 S2:AW P w K) (a b:Addr):It:=
 ⟨λi H=>∃xs ys x y,S1.Sq H a xs/\S2.Sq H b ys/\xs[i]? =some x/\ys[i]? =some y,λi H v H'=>∃T,v= .ref T/\H T=none/\∀xs ys x y,S1.Sq H a xs->S2.Sq H b ys->xs[i]? =some x->ys[i]? =some y->H'=upd H T (.tup [x,y]),
  λi H=>∃xs ys,S1.Sq H a xs/\S2.Sq H b ys/\xs.length=i⟩
theorem Og {P:Program}{w:World}{K:Fgx} (S1 S2:AW P w K) {es:List Expr}{k:Nat}{pos:Pos} (z TI TO i1 i2 l1 l2:Addr) (D:Go z TI TO i1 i2 l1 l2):
  CC P w K (.Tuple es k pos) (Gv S1 S2 l1 l2) [z,TI,TO,i1,i2] z (λi h=>IsZip h z TI TO .none/\BH h TI (.ref i1) (.ref i2)/\(∃a b,BH h TO a b)/\S1.It h i1 l1 i/\S2.It h i2 l2 i) where
 mem:=by simp
 obj:=λi h st b hb=>by
  obtain⟨hz,hTI,⟨a,b',hTO⟩,h1,h2⟩:=st;simp only [mem_cons,not_mem_nil,or_false] at hb;rcases hb with e | e | e | e | e<;>rw [e]
  ·exact⟨_,hz,λv q=>by have q':Data.fields _=Data.cell v:=q;cases q'⟩
  ·exact⟨_,hTI,λv q=>by have q':Data.seq _ _=Data.cell v:=q;cases q'⟩
  ·exact⟨_,hTO,λv q=>by have q':Data.seq _ _=Data.cell v:=q;cases q'⟩
  ·exact S1.ito h1
  ·exact S2.ito h2
 keep:=λi h h' st kk=>by
  obtain⟨hz,hTI,⟨a,b',hTO⟩,h1,h2⟩:=st;exact⟨kk z (by simp) _ hz,kk TI (by simp) _ hTI,⟨a,b',kk TO (by simp) _ hTO⟩,S1.itk h1 λo q=>kk i1 (by simp) o q,S2.itk h2 λo q=>kk i2 (by simp) o q⟩
 item:=by
  intro X hP hw hK hc i pins s σ H E I hf st hg;subst hP hw;obtain⟨xs,ys,x,y,hq1,hq2,hx,hy⟩:=hg;obtain⟨its1,rv1,is1,hz1⟩:=S1.get hK I hq1;obtain⟨its2,rv2,is2,hz2⟩:=S2.get hK I hq2;obtain⟨u1,hu1,ru1⟩:=rv1.get hx;obtain⟨u2,hu2,ru2⟩:=rv2.get hy;obtain⟨hz,hTI,⟨a,b',hTO⟩,h1,h2⟩:=st;have hh:=I.ok.hd hc;have hT:s.TypeIs (.ref z) "zip" :=⟨_,hz,rfl⟩;unfold pyNext;refine wpAny_bind (wpAny_attempt (wpAny_callSpecial?_slot (name:=Str.ofString "__next__") hT F.slot_zip_next (wpAny_call_entry F.slot_zip_next hT F.entry_zip_next
   (Ob S1 S2 (x1:=u1) (x2:=u2) hh D ⟨_,_,hz,.inl rfl,.inl rfl⟩ hTI hTO ⟨h1,is1⟩ ⟨h2,is2⟩ (by simpa using hu1) (by simpa using hu2) λh' tk _ az a2 a3 a4 a5 a6 hk=>wpAny_pure ⟨_,rfl,?_⟩) (F.args_zip_next_1 _))))
  obtain⟨b1,b2,a2⟩:=a2;refine wpAny_letOwnedTupleGo_zip (az (.inr hz)) λh'' z1 sb=>?_
  have kk:∀b o,b ∉ [z,TI,TO,i1,i2]->s.heap.get? b=some o->h''.get? b=some o:=λb o hb q=>sb.extBut b o (λe=>hb (by simp [e])) (hk b o (λe=>hb (by simp [e])) (λe=>hb (by simp [e])) (λe=>hb (by simp [e])) (λe=>hb (by simp [e])) q)
  have zl:z<s.heap.objs.size:=Heap.lt_size hz;have ht:IsTup h'' s.heap.objs.size [u1,u2].toArray:=⟨_,sb.extBut _ _ (Nat.ne_of_gt zl) a5,rfl,_,rfl⟩;exact⟨.ref s.heap.objs.size,upd H s.heap.objs.size (.tup [x,y]),I.yielded (tk:=tk) (λb hb=>hf b hb) kk (Nat.le_refl _) ht (.cons ru1 (.cons ru2 .nil)) (by show 2<=sizeLine;decide),rfl,
   ⟨_, rfl, I.hok.fresh (Nat.le_refl _), λxs' ys' x' y' e1 e2 e3 e4 => by
    rw [S1.inj hK I e1 hq1,hx] at e3;rw [S2.inj hK I e2 hq2,hy] at e4;cases e3;cases e4;rfl⟩,
   ⟨z1, sb.extBut _ _ D.TI_z (hk _ _ D.TI_z D.TO_TI.symm D.i1_TI.symm D.i2_TI.symm hTI), ⟨_, _, sb.extBut _ _ D.TO_z a2⟩, S1.itk a3.1 λo q => sb.extBut _ o D.i1_z q, S2.itk a4.1 λo q => sb.extBut _ o D.i2_z q⟩, λb hb => by
    have hbt:b<s.heap.objs.size:=by
     simp only [mem_cons,not_mem_nil,or_false] at hb;rcases hb with e | e | e | e | e<;>rw [e]
     ·exact zl
     ·exact Heap.lt_size hTI
     ·exact Heap.lt_size hTO
     ·obtain⟨o,q,_⟩:=S1.ito h1;exact Heap.lt_size q
     ·obtain⟨o,q,_⟩:=S2.ito h2;exact Heap.lt_size q
    rw [Ar (Nat.ne_of_lt hbt)];exact(hf b hb).1⟩
 done:=by
  intro X hP hw hK hc i pins s σ H E I hf st hg;subst hP hw;obtain⟨xs,ys,hq1,hq2,hend⟩:=hg;obtain⟨its1,rv1,is1,hz1⟩:=S1.get hK I hq1;obtain⟨its2,rv2,is2,hz2⟩:=S2.get hK I hq2;obtain⟨hz,hTI,⟨a,b',hTO⟩,h1,h2⟩:=st;have hh:=I.ok.hd hc;have hT:s.TypeIs (.ref z) "zip" :=⟨_,hz,rfl⟩;have e1:=rv1.length;have e2:=rv2.length;unfold pyNext;refine wpAny_bind (wpAny_attempt (wpAny_callSpecial?_slot (name:=Str.ofString "__next__") hT F.slot_zip_next (wpAny_call_entry F.slot_zip_next hT F.entry_zip_next
   (Oc S1 S2 hh D ⟨_,_,hz,.inl rfl,.inl rfl⟩ hTI hTO ⟨h1,is1⟩ ⟨h2,is2⟩ (by simp;omega) λh' tk e hk he=>?_) (F.args_zip_next_1 _))))
  obtain⟨o,ho,hco⟩:=he;refine wpAny_bind (wpAny_isInstance (T:="StopIteration") (b:=true) ⟨o,ho,hco⟩ isSubtype_stop ?_);exact wpAny_pure ⟨rfl,I.ended (wr:=[z,TI,TO,i1,i2]) (tk:=tk) (λb hb=>hf b hb) λb o hb q=>hk b o (λe=>hb (by simp [e])) (λe=>hb (by simp [e])) (λe=>hb (by simp [e])) (λe=>hb (by simp [e])) q⟩
 self:=λ_ _ _ _ _ st h=>wpAny_pyIter_zip st.1 h
def IG {P:Program}{w:World}{K:Fgx} (S1 S2:AW P w K) (ta:TA):TI:=fun σ H R=>ta σ H λvs H1=>∃a b,vs=[.ref a,.ref b]/\(∃xs,S1.Sq H1 a xs)/\(∃ys,S2.Sq H1 b ys)/\R (Gv S1 S2 a b) H1
theorem Oh {es:List Expr} (S1 S2:AW X.prog X.w X.K) (zn:IF S1 S2) (hg:Gl X "zip") (hm:X.mg "zip"=none) (ha:PA X [e1,e2] ta)
  (hs:starEach [e1,e2] X.env=[(false,eval e1 X.env),(false,eval e2 X.env)]) (hs2:starEach [e2] X.env=[(false,eval e2 X.env)]):PI X (.Tuple es k pos') (.Call (.Name "zip" p) [e1,e2] [] pos) (IG S1 S2 ta):=by
 intro pins s σ H R I h;refine Ao (Od S1 S2 zn (R:=λl1 l2 H1=>R (Gv S1 S2 l1 l2) H1) hg hm ha hs hs2 I h) λv s1 ⟨l1,l2,H1,m,e,q,I1,gz,gI,gO,g1,g2,h1,h2,fr,_⟩=>?_
 subst e;exact wpAny_pyIter_zip gz ⟨_,[m+4,m+2,m+3,m,m+1],_,_,H1,rfl,I1,Og S1 S2 _ _ _ _ _ l1 l2 (Of h1 h2),⟨gz,gI,⟨_,_,gO⟩,g1,g2⟩,λb hb=>fr b (by
  simp only [mem_cons,not_mem_nil,or_false] at hb;rcases hb with e | e | e | e | e<;>rw [e]<;>first | exact Nat.le_refl _ | exact Nat.le_add_right _ _),q⟩
theorem Oi {es:List Expr} (hg:Gl X "zip") (hm:X.mg "zip"=none) (ha:PA X [e1,e2] ta)
  (hs:starEach [e1,e2] X.env=[(false,eval e1 X.env),(false,eval e2 X.env)]:=by rfl) (hs2:starEach [e2] X.env=[(false,eval e2 X.env)]:=by rfl):PI X (.Tuple es k pos') (.Call (.Name "zip" p) [e1,e2] [] pos) (IG (BG X.prog X.w X.K) (BG X.prog X.w X.K) ta):=Oh _ _ (Oe _ _ _) hg hm ha hs hs2
end L2
end
section
namespace L2
variable {C : Int -> Int -> Prop} {g : Int -> Int -> V} {y : V} {H : Hp} {Q : VK} {op op' : CmpOp} {r' : R2}
section
variable {X : Cx} {e a b c : Expr} {es rest : List Expr} {ta tb tc te : TE} {pos p : Pos} {tA tB' : TT} {t u : TS}
theorem PE.weak {t t':TE} (h:PE X e t) (w:∀σ H Q,t' σ H Q->t σ H Q):PE X e t':=λpins s σ H Q I q=>h pins s σ H Q I (w σ H Q q)
def Fu (i:Nat):TE:=fun σ H Q=>match σ[i]? with | some (some v)=>Q v H | _=>False
theorem cv (i:Nat) {x:Str}{pos:Pos} (hN:X.N[i]? =some x:=by rfl) (hv:DY X.env.scope x:=by first | exact Or.inl rfl | exact Or.inr (Or.inl rfl) | exact Or.inr (Or.inr rfl)) (hd:(x==("__debug__" :Str))=false:=by decide)
  (hcd:(x==("__classdict__" :Str))=false:=by decide):PE X (.Name x pos) (Fu i):=(F5 hN hv hd hcd).weak fun σ H Q q=>by
 unfold Fu at q;split at q
 ·exact⟨_,by assumption,q⟩
 ·exact q.elim
end
section
variable {X : Cx} {e a b c : Expr} {es rest : List Expr} {ta tb tc te : TE} {pos p : Pos}
theorem Oj {x:V} (h:match x,y with | .int i,.int j=>C i j/\Q (g i j) H | _,_=>False):rI C g x y H Q:=by
 split at h
 ·exact⟨_,_,rfl,rfl,h⟩
 ·exact h.elim
theorem Ol {x:V} (h:match x,y with | .int i,.int j=>Q (g i j) H | _,_=>False):CO g x y H Q:=by
 split at h
 ·exact⟨_,_,rfl,rfl,h⟩
 ·exact h.elim
def mI (C:Int->Int->Prop) (g:Int->Int->V):R2:=λx y H Q=>match x,y with | .int i,.int j=>C i j/\Q (g i j) H | _,_=>False
def mI0 (g:Int->Int->V):R2:=λx y H Q=>match x,y with | .int i,.int j=>Q (g i j) H | _,_=>False
theorem OpR.mI {f:Value->Value->Sem Value} (h:OpR X f (rI C g)):OpR X f (L2.mI C g):=λpins s σ H x y v u Q I rx ry q=>h pins s σ H x y v u Q I rx ry (Oj q)
theorem OpR.mI0 {f:Value->Value->Sem Value} (h:OpR X f (CO g)):OpR X f (L2.mI0 g):=λpins s σ H x y v u Q I rx ry q=>h pins s σ H x y v u Q I rx ry (Ol q)
theorem A1:OpR X (binaryOp .Add) (mI0 λi j=> .int (i+j)):=op_add.mI0
theorem Bl:OpR X (binaryOp .Sub) (mI0 λi j=> .int (i-j)):=op_sub.mI0
theorem C9:OpR X (binaryOp .Mult) (mI CMul λi j=> .int (i * j)):=op_mul.mI
theorem IH:OpR X (binaryOp .FloorDiv) (mI Il λi j=> .int (i / j)):=op_fdiv.mI
theorem EJ:OpR X (binaryOp .Mod) (mI (λ_ j=>0<j) λi j=> .int (i % j)):=op_mod.mI
theorem II:OpR X (binaryOp .Pow) (mI JJ λi j=> .int (i ^ j.toNat)):=op_pow.mI
theorem CQ:OpR X (compareOp .Lt) (mI0 λi j=> .bl (decide (i<j))):=op_lt.mI0
theorem DG:OpR X (compareOp .LtE) (mI0 λi j=> .bl (decide (i<=j))):=op_le.mI0
theorem Eb:OpR X (compareOp .Gt) (mI0 λi j=> .bl (decide (j<i))):=op_gt.mI0
theorem IJ:OpR X (compareOp .GtE) (mI0 λi j=> .bl (decide (j<=i))):=op_ge.mI0
def mB (x:V) (Q:Bool->Prop):Prop:=match x with | .bl c=>Q c | _=>False
end
structure Mono (t:TE):Prop where
 m:∀ {σ H}{Q Q':VK},t σ H Q->(∀v H',Q v H'->Q' v H')->t σ H Q'
section
variable {X : Cx} {e a b c : Expr} {es rest : List Expr} {te : TE} {pos p : Pos}
def cB (t:TE):TT:=fun σ H Q=>t σ H λx H1=>match x with | .bl c=>Q c H1 | _=>False
theorem BU {t:TE} (h:PE X e t) (he:∀whole,isTrue e X.env whole=(do let v<-whole;standAt e.pos;holding [v] (truthy v)):=by intro _;rfl):PT X e (cB t):=by
 intro pins s σ H Q I hw;refine isTrue_plain (Ao (h pins s σ H _ I hw) λv s1 ⟨x,H1,I1,r1,q1⟩=>?_) (he _);dsimp only at q1;split at q1
 ·cases r1;exact wpAny_truthy_bool ⟨H1,I1,q1⟩
 ·exact q1.elim
theorem AS {op:CmpOp}{r:R2}{ta tb:TE} (ho:OpR X (compareOp op) r) (ha:PE X a ta) (hb:PE X b tb) (hm:behindInMarks op b=false):PT X (.Compare a [op] [b] pos) (cB (Fk r ta tb)):=by
 intro pins s σ H Q I h;refine wpAny_isTrue_Compare1 (Ao (ha pins s σ H _ I h) λv s1 ⟨x,H1,I1,r1,q1⟩=>Ao (hb pins s1 σ H1 _ I1 q1) λu s2 ⟨y,H2,I2,r2,q2⟩=>
  Ao (ho pins s2 σ H2 x y v u _ I2 r1 r2 q2) λc s3 ⟨z,H3,I3,r3,q3⟩=>?_) hm
 dsimp only at q3;split at q3
 ·cases r3;exact wpAny_truthy_bool ⟨H3,I3,q3⟩
 ·exact q3.elim
def Ku (r r':R2) (ta tb tc:TE):TE:=fun σ H Q=>ta σ H λx H1=>tb σ H1 λy H2=>r x y H2 λz H3=>match z with | .bl k=>br k (tc σ H3 λw' H4=>r' y w' H4 Q) (Q (.bl false) H3) | _=>False
theorem Kv {r:R2}{ta tb tc:TE} (ho:OpR X (compareOp op) r) (ho':OpR X (compareOp op') r') (ha:PE X a ta) (hb:PE X b tb) (hc:PE X c tc)
  (hm:lastMarks [op,op'] [b,c]=false:=by with_unfolding_all rfl):PE X (.Compare a [op,op'] [b,c] pos) (Ku r r' ta tb tc):=by
 intro pins s σ H Q I h;refine Compare_chain (Ao (ha pins s σ H _ I h) λv s1 ⟨x,H1,I1,r1,q1⟩=>chain_link (Ao (hb pins s1 σ H1 _ I1 q1) λu s2 ⟨y,H2,I2,r2,q2⟩=>
  Ao (ho pins s2 σ H2 x y v u _ I2 r1 r2 q2) λd s3 ⟨z,H3,I3,r3,q3⟩=>?_)) hm
 dsimp only at q3;split at q3
 ·rename_i k;cases r3;refine wpAny_truthy_bool ?_;cases k with
  | false=>exact ite_ff ⟨.bl false,H3,I3,rfl,q3.2 rfl⟩
  | true=>exact ite_tt (chain_last (Ao (hc pins s3 σ H3 _ I3 (q3.1 rfl)) λw' s4 ⟨z',H4,I4,r4,q4⟩=>ho' pins s4 σ H4 y z' u w' Q I4 r2 r4 q4))
 ·exact q3.elim
theorem Om {r:R2}{ta tb tc:TE} (ho:OpR X (compareOp op) r) (ho':OpR X (compareOp op') r') (ha:PE X a ta) (hb:PE X b tb) (hc:PE X c tc)
  (hm:lastMarks [op,op'] [b,c]=false:=by with_unfolding_all rfl):PT X (.Compare a [op,op'] [b,c] pos) (cB (Ku r r' ta tb tc)):=by
 intro pins s σ H Q I h;refine isTrue_chain (Ao (ha pins s σ H _ I h) λv s1 ⟨x,H1,I1,r1,q1⟩=>test_link (Ao (hb pins s1 σ H1 _ I1 q1) λu s2 ⟨y,H2,I2,r2,q2⟩=>
  Ao (ho pins s2 σ H2 x y v u _ I2 r1 r2 q2) λd s3 ⟨z,H3,I3,r3,q3⟩=>?_)) hm
 dsimp only at q3;split at q3
 ·rename_i k;cases r3;refine wpAny_truthy_bool ?_;cases k with
  | false=>exact ite_ff ⟨H3,I3,q3.2 rfl⟩
  | true=>
   refine ite_tt (test_last (Ao (hc pins s3 σ H3 _ I3 (q3.1 rfl)) λw' s4 ⟨z',H4,I4,r4,q4⟩=>Ao (ho' pins s4 σ H4 y z' u w' _ I4 r2 r4 q4) λd' s5 ⟨z2,H5,I5,r5,q5⟩=>?_));dsimp only at q5;split at q5
   ·cases r5;exact wpAny_truthy_bool ⟨H5,I5,q5⟩
   ·exact q5.elim
 ·exact q3.elim
def On (t u:TT):TT:=fun σ H Q=>t σ H λc H1=>br c (u σ H1 Q) (Q false H1)
def Oo (t u:TT):TT:=fun σ H Q=>t σ H λc H1=>br c (Q true H1) (u σ H1 Q)
theorem Da {tA tB':TT} (ha:PT X a tA) (hb:PW X (.BoolOp .And (b::rest) pos) tB'):PW X (.BoolOp .And (a::b::rest) pos) (On tA tB'):=by
 intro wh pins s σ H Q I h;refine isTrue_and (Ao (ha pins s σ H _ I h) λc s1 ⟨H1,I1,q1⟩=>?_);cases c with
 | true=>exact hb wh pins s1 σ H1 Q I1 (q1.1 rfl)
 | false=>exact⟨H1,I1,q1.2 rfl⟩
theorem Ec {tA tB':TT} (ha:PT X a tA) (hb:PW X (.BoolOp .Or (b::rest) pos) tB'):PW X (.BoolOp .Or (a::b::rest) pos) (Oo tA tB'):=by
 intro wh pins s σ H Q I h;refine isTrue_or (Ao (ha pins s σ H _ I h) λc s1 ⟨H1,I1,q1⟩=>?_);cases c with
 | true=>exact⟨H1,I1,q1.1 rfl⟩
 | false=>exact hb wh pins s1 σ H1 Q I1 (q1.2 rfl)
def Op (ta tb:TE):TE:=fun σ H Q=>ta σ H λx H1=>match x with | .bl c=>br c (tb σ H1 Q) (Q (.bl false) H1) | _=>False
def Oq (ta:TE):TE:=fun σ H Q=>ta σ H λx H1=>match x with | .bl c=>Q (.bl (!c)) H1 | _=>False
theorem Bg {ta tb:TE} (ha:PE X a ta) (hb:PE X (.BoolOp .And (b::rest) pos) tb):PE X (.BoolOp .And (a::b::rest) pos) (Op ta tb):=by
 intro pins s σ H Q I h;refine BoolOp_and (Ao (ha pins s σ H _ I h) λv s1 ⟨x,H1,I1,r1,q1⟩=>?_);dsimp only at q1;split at q1
 ·rename_i c;cases r1;refine wpAny_truthy_bool ?_;cases c with
  | true=>exact hb pins s1 σ H1 Q I1 (q1.1 rfl)
  | false=>exact⟨.bl false,H1,I1,rfl,q1.2 rfl⟩
 ·exact q1.elim
theorem Kw {ta:TE} (ha:PE X a ta):PE X (.UnaryOp .Not a pos) (Oq ta):=by
 intro pins s σ H Q I h;refine UnaryOp_ (Ao (ha pins s σ H _ I h) λv s1 ⟨x,H1,I1,r1,q1⟩=>?_);dsimp only at q1;split at q1
 ·rename_i c;cases r1;exact not_of (wpAny_truthy_bool ⟨.bl (!c),H1,I1,rfl,q1⟩)
 ·exact q1.elim
def Os (t:TT) (ta tb:TE):TE:=fun σ H Q=>t σ H λc H1=>br c (ta σ H1 Q) (tb σ H1 Q)
theorem Fv {ta tb:TE}{tA:TT} (hc:PT X c tA) (ha:PE X a ta) (hb:PE X b tb):PE X (.IfExp c a b pos) (Os tA ta tb):=by
 intro pins s σ H Q I h;refine wpAny_IfExp (Ao (hc pins s σ H _ I h) λd s1 ⟨H1,I1,q1⟩=>?_);cases d with
 | true=>exact ha pins s1 σ H1 Q I1 (q1.1 rfl)
 | false=>exact hb pins s1 σ H1 Q I1 (q1.2 rfl)
def Ot (c:TT) (t u:TS):TS:=λD σ H=>c σ H λb H1=>br b (t D σ H1) (u D σ H1)
theorem A8 {sa sb:List Stmt}{tc:TT}{t u:TS} (hc:PT X c tc) (ha:PSs X sa t) (hb:PSs X sb u):PS X (.If c sa sb pos) (Ot tc t u):=by
 intro pins s σ H D I h;refine wpAny_If (Ao (hc pins s σ H _ I h) λd s1 ⟨H1,I1,q1⟩=>?_);cases d with
 | true=>exact ha pins s1 σ H1 D I1 (q1.1 rfl)
 | false=>exact hb pins s1 σ H1 D I1 (q1.2 rfl)
end
section
variable {X : Cx} {es : List Expr} {t : TA} {pos : Pos}
theorem B7 {n:Nat} (h:Nat.ble n 64=true):n<=sizeLine:=Nat.le_trans (Nat.le_of_ble_eq_true h) (by decide)
def Ou (t:TA):TE:=fun σ H Q=>t σ H λxs H1=>match Nat.ble xs.length 64 with | true=>∀p,H1 p=none->Q (.ref p) (upd H1 p (.tup xs)) | false=>False
def Ov (t:TA):TE:=fun σ H Q=>t σ H λxs H1=>match Nat.ble xs.length 64 with | true=>∀p,H1 p=none->Q (.ref p) (upd H1 p (.lst xs)) | false=>False
theorem Bd {x1} (h:PA X es t):PE X (.Tuple es x1 pos) (Ou t):=by
 intro pins s σ H Q I hq;refine wpAny_Tuple_spliced (Ao (h pos pins s σ H _ I hq) λus s1 ⟨xs,H1,I1,r,q⟩=>?_);dsimp only at q;split at q
 ·rename_i z;refine⟨by rw [<-r.length];exact B7 z,?_⟩;have hf:H1 s1.heap.objs.size=none:=I1.hok.fresh (Nat.le_refl _);refine⟨.ref s1.heap.objs.size,upd H1 s1.heap.objs.size (.tup xs),I1.laid (t':=s1.toks) (λb u e=>Heap.get?_push_of_some _ e) (Nat.le_refl _) ?_,rfl,q _ hf⟩;exact⟨B7 z,us,r,⟨_,Heap.get?_push_size _ rfl,rfl,_,rfl⟩⟩
 ·exact q.elim
theorem Bm (h:PA X es t):PE X (.List es pos) (Ov t):=by
 intro pins s σ H Q I hq;refine wpAny_List_spliced (Ao (h pos pins s σ H _ I hq) λus s1 ⟨xs,H1,I1,r,q⟩=>?_);dsimp only at q;split at q
 ·rename_i z;refine⟨by rw [<-r.length];exact B7 z,?_⟩;have hf:H1 s1.heap.objs.size=none:=I1.hok.fresh (Nat.le_refl _);refine⟨.ref s1.heap.objs.size,upd H1 s1.heap.objs.size (.lst xs),I1.laid (t':=s1.toks) (λb u e=>Heap.get?_push_of_some _ e) (Nat.le_refl _) ?_,rfl,q _ hf⟩;exact⟨B7 z,us,0,r,Heap.get?_push_size _ rfl⟩
 ·exact q.elim
end
section
variable {P : Program} {w : World} {K : Fgx} {mg : Str -> Option Value} {base : Heap}
structure Fn (P:Program) (w:World) (K:Fgx) (mg:Str->Option Value) (base:Heap) (n:Nat) (x:Str) (ps:List Str) (sp:Sp):Prop where
 ex:∃(f:Addr) (fd:FuncData),CH P w K mg base CX0 n f fd ps sp/\mg x=some (.ref f)/\PySem.W.keepIn K (.ref f)=true/\Binds K fd ps []
structure Df (K:Fgx) (mg:Str->Option Value) (x:Str) (st:Stmt) (ps:List Str):Prop where
 ex:∃(f:Addr) (fd:FuncData),D5 K x x st f fd/\mg x=some (.ref f)/\Binds K fd ps []
theorem Df.fn {x:Str}{st:Stmt}{N ps:List Str}{k:Nat}{sp:Sp} (F:Df K mg x st ps) (S:Ax N ps (Ap st)) (len:∀vs H Q E,sp vs H Q E->vs.length=ps.length)
  (hbody : ∀ (f : Addr) (cdv : Value) (A : Around) (outer : List Env) (s : Shared) (H : Hp) (vs : List V) (Q : VK) (E : XK), AX k (A.deeper (envOfC x (Ap st) s.heap.objs.size f cdv)) -> sp vs H Q E ->
   ∃t,PSs (BR CX0 P w K mg base N x (Ap st) f cdv A outer s H E).nox (Bi st) t/\t { nx:=λ_ H'=>Q .non H',rt:=Q} (start N vs) H):Fn P w K mg base (k+1) x ps sp:=by
 obtain⟨f,fd,hF,hm,hb⟩:=F.ex;exact⟨f,fd,hF.ok S len λcdv A outer s H vs Q E hr h=>hbody f cdv A outer s H vs Q E hr h,hm,hF.kp,hb⟩
def Kx (sp:Sp) (t:TA):TE:=fun σ H Q=>t σ H λvs H1=>sp vs H1 Q E0
theorem Am {X:Cx}{n:Nat}{x:Str}{ps:List Str}{sp:Sp}{e:Expr}{es:List Expr}{t:TA}{p pos:Pos} (F:Fn X.prog X.w X.K X.mg X.base n x ps sp) (hr:AX n X.A) (hg:Gl X x) (ha:PA X (e::es) t)
  (hdb:(x==("__debug__" :Str))=false:=by decide) (he:starEach (e::es) X.env=(false,eval e X.env)::starEach es X.env:=by rfl) (hpl:(backTo pos (starEach es X.env)).any (·.1)=false:=by rfl):
  PE X (.Call (.Name x p) (e::es) [] pos) (Kx sp t):=by
 obtain⟨f,fd,F,hm,hk,hb⟩:=F.ex;refine(JQ (dvs:=[]) (E:=E0) F hr hg hm hk hb .nil NT ha hdb he hpl).weak fun σ H Q q=>?_
 have e:∀vs:List V,vs++[]=vs:=λvs=>append_nil vs
 show t σ H λvs H1=>sp (vs++[]) H1 Q E0
 simp only [e];exact q
end
end L2
end
section
namespace L2
variable {p : Addr} {H H' : Hp} {xs : List V}
def DK (kvs:List (PyData×PyData)) (ks:List (AR×V)):Prop:=(kvs=[]/\ks=[])\/(kvs=[(.int 0,.int 1)]/\ks=[(.inl 0,.int 1)])
mutual
def Aa (p:Addr) (H:Hp):PyData->V->Prop
 | .none,v=>v= .non
 | .bool b,v=>v= .bl b
 | .int i,v=>v= .int i
 | .str x,v=>v= .str x
 | .tuple ds,v=>∃a xs,v= .ref a/\H a=some (.tup xs)/\Ac p H ds xs
 | .list ds,v=>∃a xs,v= .ref a/\a≠p/\H a=some (.lst xs)/\Ac p H ds xs
 | .dict kvs,v=>∃a ks,v= .ref a/\a≠p/\DK kvs ks/\H a=some (.dK ks)
def Ac (p:Addr) (H:Hp):List PyData->List V->Prop
 | [],xs=>xs=[]
 | d::ds,xs=>∃x r,xs=x::r/\Aa p H d x/\Ac p H ds r
end
def Ev (p:Addr) (H H':Hp):Prop:=∀b o,H b=some o->(b=p/\∃xs,o= .lst xs)\/H' b=some o
theorem Ev.refl:Ev p H H:=λ_ _ h=> .inr h
theorem Ev.same (h:Ab H H'):Ev p H H':=λb o q=> .inr (h b o q)
theorem Ev.trans {H1 H2:Hp} (h:Ev p H H1) (h':Ev p H1 H2):Ev p H H2:=λb o q=>(h b o q).elim .inl λr=>h' b o r
theorem Ev.tup {a:Addr} (h:Ev p H H') (q:H a=some (.tup xs)):H' a=some (.tup xs):=(h a _ q).elim (fun⟨_,ys,e⟩=>nomatch e) id
theorem Ev.lst {a:Addr} (h:Ev p H H') (q:H a=some (.lst xs)) (n:a≠p):H' a=some (.lst xs):=(h a _ q).elim (fun⟨e,_⟩=>absurd e n) id
theorem Ev.dk {a:Addr}{ks:List (AR×V)} (h:Ev p H H') (q:H a=some (.dK ks)):H' a=some (.dK ks):=(h a _ q).elim (fun⟨_,ys,e⟩=>nomatch e) id
theorem Ev.new {a:Addr}{o:HO} (h:H a=none):Ev p H (upd H a o):=λb u q=> .inr (by rw [Ar (Bb q h)];exact q)
theorem Ev.pen {o:HO} (h:H p=some (.lst xs)):Ev p H (upd H p o):=λb u q=>by
 by_cases e:b=p
 ·subst e;rw [h] at q;cases q;exact .inl ⟨rfl,xs,rfl⟩
 ·exact .inr (by rw [Ar e];exact q)
theorem Ab.new {a:Addr}{o:HO} (h:H a=none):Ab H (upd H a o):=λb u q=>by rw [Ar (Bb q h)];exact q
mutual
theorem Aa.ev (h:Ev p H H'):∀(d:PyData) (v:V),Aa p H d v->Aa p H' d v
 | .none,v,q=>q
 | .bool _,v,q=>q
 | .int _,v,q=>q
 | .str _,v,q=>q
 | .tuple ds,v,q=>by
  unfold Aa at q ⊢;obtain⟨a,xs,e,r,z⟩:=q;exact⟨a,xs,e,h.tup r,Ac.ev h ds xs z⟩
 | .list ds,v,q=>by
  unfold Aa at q ⊢;obtain⟨a,xs,e,n,r,z⟩:=q;exact⟨a,xs,e,n,h.lst r n,Ac.ev h ds xs z⟩
 | .dict kvs,v,q=>by
  unfold Aa at q ⊢;obtain⟨a,ks,e,n,k,r⟩:=q;exact⟨a,ks,e,n,k,h.dk r⟩
theorem Ac.ev (h:Ev p H H'):∀(ds:List PyData) (xs:List V),Ac p H ds xs->Ac p H' ds xs
 | [],xs,q=>by unfold Ac at q ⊢;exact q
 | d::ds,xs,q=>by
  unfold Ac at q ⊢;obtain⟨x,r,e,z,zs⟩:=q;exact⟨x,r,e,Aa.ev h d x z,Ac.ev h ds r zs⟩
end
theorem Ac.len:∀ {ds:List PyData}{xs:List V},Ac p H ds xs->ds.length=xs.length
 | [],xs,q=>by unfold Ac at q;subst q;rfl
 | d::ds,xs,q=>by
  unfold Ac at q;obtain⟨x,r,e,z,zs⟩:=q;subst e;simp [Ac.len zs]
theorem Ac.get {p:Addr}{H:Hp}:∀ {ds:List PyData}{xs:List V}{i:Nat}{d:PyData},Ac p H ds xs->ds[i]? =some d->∃x,xs[i]? =some x/\Aa p H d x
 | [],xs,i,d,q,e=>by simp at e
 | d::ds,xs,0,d',q,e=>by
  unfold Ac at q;obtain⟨x,r,rfl,z,zs⟩:=q;simp at e;subst e;exact⟨x,rfl,z⟩
 | d::ds,xs,i+1,d',q,e=>by
  unfold Ac at q;obtain⟨x,r,rfl,z,zs⟩:=q;obtain⟨y,hy,ry⟩:=Ac.get (i:=i) zs (by simpa using e);exact⟨y,by simpa using hy,ry⟩
theorem Ac.got {p:Addr}{H:Hp}:∀ {ds:List PyData}{xs:List V}{i:Nat}{x:V},Ac p H ds xs->xs[i]? =some x->∃d,ds[i]? =some d/\Aa p H d x
 | [],xs,i,x,q,e=>by unfold Ac at q;subst q;simp at e
 | d::ds,xs,0,x',q,e=>by
  unfold Ac at q;obtain⟨x,r,rfl,z,zs⟩:=q;simp at e;subst e;exact⟨d,rfl,z⟩
 | d::ds,xs,i+1,x',q,e=>by
  unfold Ac at q;obtain⟨x,r,rfl,z,zs⟩:=q;obtain⟨y,hy,ry⟩:=Ac.got (i:=i) zs (by simpa using e);exact⟨y,by simpa using hy,ry⟩
theorem Ac.nil:Ac p H [] []:=by unfold Ac;rfl
theorem Ac.cons {d:PyData}{ds:List PyData}{x:V} (h:Aa p H d x) (r:Ac p H ds xs):Ac p H (d::ds) (x::xs):=by unfold Ac;exact⟨x,xs,rfl,h,r⟩
theorem Ac.append:∀ {ds es:List PyData}{xs ys:List V},Ac p H ds xs->Ac p H es ys->Ac p H (ds++es) (xs++ys)
 | [],_,xs,_,q,r=>by unfold Ac at q;subst q;exact r
 | d::ds,_,xs,_,q,r=>by
  unfold Ac at q;obtain⟨x,t,rfl,z,zs⟩:=q;exact .cons z (Ac.append zs r)
theorem Aa.tup {a:Addr}{ds:List PyData} (h:H a=some (.tup xs)) (r:Ac p H ds xs):Aa p H (.tuple ds) (.ref a):=by unfold Aa;exact⟨a,xs,rfl,h,r⟩
theorem Aa.lst {a:Addr}{ds:List PyData} (n:a≠p) (h:H a=some (.lst xs)) (r:Ac p H ds xs):Aa p H (.list ds) (.ref a):=by unfold Aa;exact⟨a,xs,rfl,n,h,r⟩
theorem Aa.int {i:Int}:Aa p H (.int i) (.int i):=by unfold Aa;rfl
theorem Aa.bl {i:Bool}:Aa p H (.bool i) (.bl i):=by unfold Aa;rfl
theorem Aa.str {i:Str}:Aa p H (.str i) (.str i):=by unfold Aa;rfl
theorem Aa.non:Aa p H .none .non:=by unfold Aa;rfl
def Ky (x:V) (H:Hp) (n:String):Prop:=match x with
 | .non=>n="NoneType" | .bl _=>n="bool" | .int _=>n="int" | .str _=>n="str"
 | .ref a=>(n="tuple" /\∃xs,H a=some (.tup xs))\/(n="list" /\∃xs,H a=some (.lst xs))\/(n="dict" /\∃kvs,H a=some (.dK kvs))
 | _=>False
def Ow:PyData->String
 | .none=> "NoneType" | .bool _=> "bool" | .int _=> "int" | .str _=> "str" | .tuple _=> "tuple" | .list _=> "list" | .dict _=> "dict"
def IK (n T:String):Bool:=n==T || (n=="bool" && T=="int")
theorem Aa.ty {v:V}:∀ {d:PyData},Aa p H d v->Ky v H (Ow d)
 | .none,q=>by unfold Aa at q;subst q;rfl
 | .bool _,q=>by unfold Aa at q;subst q;rfl
 | .int _,q=>by unfold Aa at q;subst q;rfl
 | .str _,q=>by unfold Aa at q;subst q;rfl
 | .tuple ds,q=>by unfold Aa at q;obtain⟨a,xs,rfl,h,_⟩:=q;exact .inl ⟨rfl,xs,h⟩
 | .list ds,q=>by unfold Aa at q;obtain⟨a,xs,rfl,_,h,_⟩:=q;exact .inr (.inl ⟨rfl,xs,h⟩)
 | .dict kvs,q=>by unfold Aa at q;obtain⟨a,ks,rfl,_,_,h⟩:=q;exact .inr (.inr ⟨rfl,ks,h⟩)
def Kz:List V->Hp->VK->Prop:=λxs H Q=>match xs with
 | [x,.ty T]=>∃n,Ky x H n/\(T="int" \/T="bool" \/T="tuple" \/T="list" \/T="str")/\Q (.bl (IK n T)) H
 | _=>False
section
variable {X : Cx}
theorem boot_int:bootBuiltins "int"=some (.type "int"):=by decide+kernel
theorem boot_bool:bootBuiltins "bool"=some (.type "bool"):=by decide+kernel
theorem Bz:bootBuiltins "tuple"=some (.type "tuple"):=by decide+kernel
theorem KA:bootBuiltins "list"=some (.type "list"):=by decide+kernel
theorem EK:Bk X (.builtin "isinstance") Kz:=by
 intro pins s σ H xs us Q I r h;unfold Kz at h;split at h
 ·rename_i x T;obtain⟨n,ht,hT,q⟩:=h;obtain⟨u,v,rfl,ru,rv⟩:=r.two;cases rv;have yes:∀s':Shared,Ad X pins σ H s'->IK n T=true->EP X pins σ Q (.bool true) s':=λs' I' e=>⟨.bl true,H,I',rfl,by rw [e] at q;exact q⟩
  have no:IK n T=false->EP X pins σ Q (.bool false) { s with toks:=s.toks+1}:=λe=>⟨.bl false,H,I.tok _,rfl,by rw [e] at q;exact q⟩
  cases x with
  | non=>
   have e:n="NoneType" :=ht;subst e;cases ru;rcases hT with rfl | rfl | rfl | rfl | rfl
   ·exact IsiPair.NoneType_int (no rfl)
   ·exact IsiPair.NoneType_bool (no rfl)
   ·exact IsiPair.NoneType_tuple (no rfl)
   ·exact IsiPair.NoneType_list (no rfl)
   ·exact IsiPair.NoneType_str (no rfl)
  | bl k=>
   have e:n="bool" :=ht;subst e;cases ru;rcases hT with rfl | rfl | rfl | rfl | rfl
   ·exact IsiPair.bool_int (yes _ I rfl)
   ·exact IsiPair.bool_bool (yes _ I rfl)
   ·exact IsiPair.bool_tuple (no rfl)
   ·exact IsiPair.bool_list (no rfl)
   ·exact IsiPair.bool_str (no rfl)
  | int k=>
   have e:n="int" :=ht;subst e;obtain⟨t,rfl⟩:=ru;rcases hT with rfl | rfl | rfl | rfl | rfl
   ·exact IsiPair.int_int (yes _ I rfl)
   ·exact IsiPair.int_bool (no rfl)
   ·exact IsiPair.int_tuple (no rfl)
   ·exact IsiPair.int_list (no rfl)
   ·exact IsiPair.int_str (no rfl)
  | str k=>
   have e:n="str" :=ht;subst e;obtain⟨t,rfl⟩:=ru;rcases hT with rfl | rfl | rfl | rfl | rfl
   ·exact IsiPair.str_int (no rfl)
   ·exact IsiPair.str_bool (no rfl)
   ·exact IsiPair.str_tuple (no rfl)
   ·exact IsiPair.str_list (no rfl)
   ·exact IsiPair.str_str (yes _ I rfl)
  | ref a=>
   cases ru;have ht':(n="tuple" /\∃xs,H a=some (.tup xs))\/(n="list" /\∃xs,H a=some (.lst xs))\/(n="dict" /\∃kvs,H a=some (.dK kvs)):=ht;rcases ht' with⟨e,xs,hx⟩ | ⟨e,xs,hx⟩ | ⟨e,xs,hx⟩
   ·subst e;obtain⟨_,its,_,o,ho,hc,_⟩:=I.hok a _ hx;rcases hT with rfl | rfl | rfl | rfl | rfl
    ·exact IsiPair.tuple_int ho hc (no rfl)
    ·exact IsiPair.tuple_bool ho hc (no rfl)
    ·exact IsiPair.tuple_tuple ho hc (yes _ I rfl)
    ·exact IsiPair.tuple_list ho hc (no rfl)
    ·exact IsiPair.tuple_str ho hc (no rfl)
   ·subst e;obtain⟨_,its,k,_,ho⟩:=I.hok a _ hx;rcases hT with rfl | rfl | rfl | rfl | rfl
    ·exact IsiPair.list_int ho rfl (no rfl)
    ·exact IsiPair.list_bool ho rfl (no rfl)
    ·exact IsiPair.list_tuple ho rfl (no rfl)
    ·exact IsiPair.list_list ho rfl (yes _ I rfl)
    ·exact IsiPair.list_str ho rfl (no rfl)
   ·subst e;obtain⟨_,_,vs,_,o,es,ep,ho,hc,_⟩:=I.hok a _ hx;have hc':o.cls= .type "dict" :=hc.1;rcases hT with rfl | rfl | rfl | rfl | rfl
    ·exact IsiPair.dict_int ho hc' (no rfl)
    ·exact IsiPair.dict_bool ho hc' (no rfl)
    ·exact IsiPair.dict_tuple ho hc' (no rfl)
    ·exact IsiPair.dict_list ho hc' (no rfl)
    ·exact IsiPair.dict_str ho hc' (no rfl)
  | byt _=>exact(show False from ht).elim
  | flt _=>exact(show False from ht).elim
  | ty _=>exact(show False from ht).elim
 ·exact h.elim
theorem Db (hc:X.calm=true):Bk X (.builtin "all") (λxs H Q=>∃(p:Addr) (bs:List Bool),xs=[.ref p]/\H p=some (.lst (bs.map V.bl))/\Q (.bl (bs.all id)) H):=by
 intro pins s σ H xs us Q I r h;obtain⟨p,bs,rfl,hp,q⟩:=h;obtain⟨u,rfl,ru⟩:=r.one;cases ru;obtain⟨its,rv,pl,hz⟩:=I.list (Al.of hp);refine call_all_walk (wpAny_pyIter_list pl.isList ?_);obtain⟨ol,_,hol,_⟩:=id pl;have hlt:=Heap.lt_size hol;refine⟨s.heap.objs.size,_,_,_,_,_,λi=>bs.getD i false,rfl,Walks.list (A:=X.A.in1) (I.ok.hd hc) s.heap.objs.size p (Nat.ne_of_lt hlt) its.toArray,⟨⟨_,Heap.get?_push_size _ rfl,rfl,rfl⟩,?_⟩,λi v s' Q' E' hi hq=>?_,λh' tk hk=>?_⟩
 ·exact pl.isList.at λo e=>Heap.get?_push_of_some _ e
 ·have hi':its[i]? =some v:=by simpa using hi
  have hl:=rv.length;have hb:i<bs.length:=by have:=(List.getElem?_eq_some_iff.mp hi').1;simp at hl;omega
  obtain⟨u,hu,ru⟩:=rv.get (i:=i) (x:= .bl bs[i]) (by simp [hb]);rw [hi'] at hu;cases hu;cases ru;dsimp only at hq;rw [getD_eq_getElem?_getD,getElem?_eq_getElem hb] at hq;exact wpAny_truthy_bool hq
 ·have hl:=rv.length;simp at hl;have e:(List.range its.toArray.size).all (λi=>bs.getD i false)=bs.all id:=by
   rw [size_toArray,<-hl,Bool.eq_iff_iff];simp only [all_eq_true,mem_range,id];constructor
   ·intro h x hx;obtain⟨i,hi,e⟩:=List.mem_iff_getElem.mp hx;have:=h i hi;rw [getD_eq_getElem?_getD,getElem?_eq_getElem hi] at this;rw [<-e];exact this
   ·intro h i hi;rw [getD_eq_getElem?_getD,getElem?_eq_getElem hi];exact h _ (getElem_mem hi)
  rw [e];refine⟨.bl (bs.all id),H,I.kept λb o eb=>hk b o ?_ (Heap.get?_push_of_some _ eb),rfl,q⟩;intro z;have z':b=s.heap.objs.size:=by simpa using z
  exact absurd (Heap.lt_size eb) (by rw [z'];exact Nat.lt_irrefl _)
end
end L2
end
section
namespace L2
open AutoSeq1 (wpAny_loadPart')
section
variable {X : Cx}
def EL (H:Hp) (xs:List V) (Q:VK):Prop:=∀r H',Ab H H'->H' r=some (.tup xs)->Q (.ref r) H'
theorem Ad.gotNew {pins:PNs}{σ:St}{H:Hp}{s:Shared}{Q:VK}{xs:List V}{us:List Value}{t':Nat} (I:Ad X pins σ H s) (q:EL H xs Q) (rv:Av xs us) (hz:xs.length<=sizeLine):
  EP X pins σ Q (.ref s.heap.objs.size) { s with heap:=s.heap.push { cls:= .type "tuple",data:= .seq us.toArray},toks:=t'}:=
 ⟨.ref s.heap.objs.size,_,I.laid (o:= .tup xs) (λb ob e=>Heap.get?_push_of_some _ e) (Nat.le_refl _) ⟨hz,us,rv,IsTup.new _ _⟩,rfl,q _ _ (Ab.new (I.hok.fresh (Nat.le_refl _))) Ah⟩
def Ox:R2:=λx y H Q=>∃a b xs ys,x= .ref a/\y= .ref b/\H a=some (.tup xs)/\H b=some (.tup ys)/\xs.length+ys.length<=1000/\EL H (xs++ys) Q
theorem CI:OpR X (binaryOp .Add) Ox:=by
 intro pins s σ H x y v u Q I rx ry h;obtain⟨a,b,xs,ys,rfl,rfl,ha,hb,hz,q⟩:=h;cases rx;cases ry;obtain⟨its,r1,ht,_⟩:=I.tuple (Ae.of ha);obtain⟨its2,r2,ht2,_⟩:=I.tuple (Ae.of hb);obtain⟨⟨cls,dd,data,sl⟩,ho,hc,n,hd⟩:=id ht;obtain⟨⟨cls2,dd2,data2,sl2⟩,ho2,hc2,n2,hd2⟩:=id ht2;simp only at hc hd hc2 hd2;subst hc hd hc2 hd2;have hl1:=r1.length;have hl2:=r2.length;have hs:(1000:Nat)<=sizeLine:=by decide
 by_cases hv:its=[]
 ·have e:xs=[]:=by subst hv;cases r1;rfl
  refine concat_meets ⟨_,ho,rfl⟩ ⟨_,ho2,rfl⟩ noFill_tuple_add seq_tuple_add PySem.F.slot_tuple_add PySem.F.entry_tuple_add (PySem.F.args_tuple_add_2 _ _) (tuple_addW0 a b its.toArray its2.toArray n n2 dd dd2 sl sl2 (by simp [hv])) ⟨ho,ho2,?_⟩;exact⟨.ref b,H,I,rfl,q b H (Ab.refl _) (by rw [e];exact hb)⟩
 ·by_cases hw:its2=[]
  ·have e:ys=[]:=by subst hw;cases r2;rfl
   refine concat_meets ⟨_,ho,rfl⟩ ⟨_,ho2,rfl⟩ noFill_tuple_add seq_tuple_add PySem.F.slot_tuple_add PySem.F.entry_tuple_add (PySem.F.args_tuple_add_2 _ _) (tuple_addW1 a b its.toArray its2.toArray n n2 dd dd2 sl sl2 (by simpa using hv) (by simp [hw])) ⟨ho,ho2,?_⟩;exact⟨.ref a,H,I,rfl,q a H (Ab.refl _) (by rw [e,append_nil];exact ha)⟩
  ·refine concat_meets ⟨_,ho,rfl⟩ ⟨_,ho2,rfl⟩ noFill_tuple_add seq_tuple_add PySem.F.slot_tuple_add PySem.F.entry_tuple_add (PySem.F.args_tuple_add_2 _ _)
    (tuple_addW2 a b its.toArray its2.toArray n n2 dd dd2 sl sl2 (by simpa using hv) (by simpa using hw) (by rw [size_toArray,size_toArray];omega)) ⟨ho,ho2,?_⟩
   have e:its.toArray++its2.toArray=(its++its2).toArray:=by simp
   rw [e];exact I.gotNew (t':=s.toks) q (r1.append r2) (by rw [length_append];omega)
theorem Oy {t sl:Addr}{items:Array Value}{vl vu:Value}{lo hi:Option Int}{Q:VSP}{prog:Program}{w:World}{A:Around}{E:VSP}{s:Shared} (ht:IsTup s.heap t items) (hs:s.heap.IsSliceOf sl vl vu .none) (pl:IsPart vl lo) (pu:IsPart vu hi)
  (hw:HT.sIx items.size 0 lo=0/\HT.sIx items.size items.size hi=items.size) (h:Q (.ref t) s):wpAny (model prog w) A (getItem (.ref t) (.ref sl)) Q E s:=by
 obtain⟨os,hos,hcs,hds⟩:=id hs;have hTs:s.TypeIs (.ref sl) "slice" :=⟨os,hos,hcs⟩;unfold getItem
 try with_reducible refine wpAny_holding ?_
 first | refine wpAny_bind (wpAny_pure ?_) | skip
 refine wpAny_bind (wpAny_sequenceKey ht.typeIs (by decide) ?_);refine wpAny_bind (wpAny_callSpecial?_slot (name:=Str.ofString "__getitem__") ht.typeIs PyProof.Rows.slot_tuple_getitem (wpAny_call_entry PyProof.Rows.slot_tuple_getitem ht.typeIs entry_tuple_getitem ?_ (args_tuple_getitem _ _)));show wpAny _ _ (Builtin.Tuple.tupleItemsOf (.ref t) >>=_) _ _ s;refine wpAny_bind (tupleItemsOf_ ht ?_);refine wpAny_bind (wpAny_typeOf hTs ?_);rw [if_pos (by decide)];refine wpAny_bind (HT.sliceApplied_gen hs pl pu ?_);rw [hw.1,hw.2];show wpAny _ _ (if (((0:Nat):Int)==0 &&(1:Int)==1 &&(items.size-0)==items.size)=true then _ else _) _ _ s;rw [if_pos (by simp)];refine wpAny_bind (m:=Builtin.Tuple.tupleIsExact _) ?_;unfold Builtin.Tuple.tupleIsExact;refine wpAny_bind (wpAny_typeOf ht.typeIs (wpAny_pure ?_));rw [if_pos (by decide)];exact wpAny_bind (wpAny_rule (wpAny_pure ⟨_,rfl,wpAny_pure h⟩))
def Oz:V->Option Int->Option Int->Hp->VK->Prop:=λx lo hi H Q=>∃a xs,x= .ref a/\H a=some (.tup xs)/\EL H (Bf xs lo hi) Q
theorem wa0:Ge X Oz:=by
 intro pins s σ H x v vl vu lo hi sl Q I rx hs pl pu h;obtain⟨a,xs,rfl,ha,q⟩:=h;cases rx;obtain⟨its,r,ht,hz⟩:=I.tuple (Ae.of ha);have hlen:its.toArray.size=xs.length:=by rw [size_toArray];exact r.length.symm
 refine⟨"tuple",_,PyProof.Rows.slot_tuple_getitem.lookup,ht.typeIs,?_⟩
 by_cases hw:HT.sIx xs.length 0 lo=0/\HT.sIx xs.length xs.length hi=xs.length
 ·refine Oy ht hs pl pu (by rw [hlen];exact hw) ⟨.ref a,H,I,rfl,q a H (Ab.refl _) ?_⟩;unfold Bf;rw [hw.1,hw.2,List.drop_zero,Nat.sub_zero,take_length];exact ha
 ·refine HT.getItem_tuple_cut ht hs pl pu (by rw [hlen];exact hw) ?_ (by rw [hlen];exact hz);rw [hlen];have e:its.toArray.toList=its:=rfl;rw [e];exact I.gotNew (t':=s.toks) q ((r.drop _).take _) (Nat.le_trans (EE xs lo hi) hz)
theorem KB:fillsNumberSlot (.type "tuple") "mul"=pure false:=
 PySem.fillsNumberSlot_seq (id:="tuple.__mul__") (r:=some (.builtin "tuple.__rmul__")) F.slot_tuple_mul.lookup (by decide+kernel) F.slot_tuple_rmul.lookup (by decide+kernel)
theorem KC:seqRepeat? (.type "tuple")=pure (some (.builtin "tuple.__mul__")):=by
 unfold seqRepeat?;rw [PySem.seqSlot_of (T:="tuple") (name:="__mul__") (id:="tuple.__mul__") F.slot_tuple_mul.lookup (by decide+kernel),PySem.seqSlot_of (T:="tuple") (name:="__rmul__") (id:="tuple.__rmul__") F.slot_tuple_rmul.lookup (by decide+kernel)];rfl
theorem KD (a:Int) (t:Tok) (l:Addr) (items:Array Value) (n:Nat) (dd:Option Addr) (sl:Array (Option Value)):
  Meets (Builtin.«int.__rmul__» ⟨[.int a t,.ref l],[]⟩) (λ_ R s=>s.heap.get? l=some { cls:= .type "tuple",dict:=dd,data:= .seq items n,slots:=sl}/\R (.ok (.ret Value.notImplemented)) s):=
 .of_wp λprog w A R s h=>by obtain⟨hp,g,d,tk,os⟩:=s;obtain⟨hl,h⟩:=h;wp_walk using wpAny_loadPart' hl;exact⟨_,rfl,h⟩
theorem OA (l:Addr) (items:Array Value) (n:Nat) (dd:Option Addr) (sl:Array (Option Value)) (x:Int) (u:Tok) (hc0:¬(decide (x< -(2 ^ 63)) || decide (x≥2 ^ 63))=true) (hc1:¬(items.isEmpty || x==1)=true) (hc2:¬(decide (x<=0) || items.isEmpty)=true)
  (hc3:¬(items.size:Int) * x>(2 ^ 63-1)/ 8) (hc4:¬Builtin.Tuple.tupleTooMany ((items.size:Int) * x)=true) (hsz:sizeOk (.seq ((List.replicate x.toNat items).foldl (λa b=>a++b) #[]))):
  Meets (Builtin.«tuple.__mul__» ⟨[.ref l,.int x u],[]⟩) (λ_ R s=>s.heap.get? l=some { cls:= .type "tuple",dict:=dd,data:= .seq items n,slots:=sl}/\R (.ok (.ret (Value.ref s.heap.objs.size))) { s with heap:=s.heap.push { cls:=Value.type "tuple",data:=Data.seq ((List.replicate x.toNat items).foldl (λa b=>a++b) #[])}}):=
 .of_wp λprog w A R s h=>by
  obtain⟨hp,g,d,tk,os⟩:=s;obtain⟨hl,h⟩:=h;have f1:=AutoSeq1.idx_int;have f2:=AutoSeq1.sub_tuple_tuple
  wp_walk using wpAny_loadPart' hl
  rw [if_neg hc0];refine wpAny_bind (tupleItemsOf_ (items:=items) ⟨_,hl,rfl,n,rfl⟩ ?_);dsimp only;rw [if_neg hc1,if_neg hc2,if_neg hc3,if_neg hc4];exact wpAny_bind (m:=Builtin.Tuple.tupleExact _) (wpAny_newObj_type (wpAny_pure ⟨_,rfl,h⟩) hsz)
def OB:R2:=λx y H Q=>∃a k xs,x= .ref a/\y= .int k/\H a=some (.tup xs)/\xs≠ []/\2<=k/\k<=100/\xs.length<=100/\EL H (List.replicate k.toNat xs).flatten Q
theorem OC:OpR X (binaryOp .Mult) OB:=by
  intro pins s σ H x y v u Q I rx ry h;obtain⟨a,k,xs,rfl,rfl,ha,hx,h1,h2,h3,q⟩:=h;cases rx;obtain⟨t,rfl⟩:=ry;obtain⟨its,r,ht,hz⟩:=I.tuple (Ae.of ha);obtain⟨⟨cls,dd,data,sl⟩,ho,hc,n,hd⟩:=id ht;simp only at hc hd;subst hc hd;have hl:=r.length;refine wpAny_binaryOp_repeat_ref (T:="tuple") (U:="int") (by decide) ⟨_,ho,rfl⟩ (λs'=>typeIs_int s' k t) KB F.fills_int_mul F.slot_int_rmul KC F.slot_int_index.lookup
    (call_meets F.slot_int_rmul (typeIs_int s k t) F.entry_int_rmul (F.args_int_rmul_2 _ _) (KD k t a its.toArray n dd sl) ⟨ho,rfl,⟨_,ho,rfl⟩,?_⟩)
  have hx':¬its.toArray.isEmpty=true:=by
    intro z;have z':its=[]:=by simpa using z
    subst z';cases r;exact hx rfl
  have fl:(List.replicate k.toNat its.toArray).foldl (λa b=>a++b) #[]=(List.replicate k.toNat its).flatten.toArray:=by
    have:=Kh its k.toNat [];rw [nil_append] at this;exact this
  have hp1:(its.length:Int) * k<=100 * 100:=Int.mul_le_mul (by omega) (by omega) (by omega) (by omega);have hlen:(List.replicate k.toNat its).flatten.length<=10000:=by
    rw [Ki];have:k.toNat * its.length<=100 * 100:=Nat.mul_le_mul (by omega) (by omega);omega
  have hbig:(10000:Nat)<=sizeLine:=by decide
  refine call_meets F.slot_tuple_mul ⟨_,ho,rfl⟩ F.entry_tuple_mul (F.args_tuple_mul_2 _ _) (OA a its.toArray n dd sl k t (by simp;omega) (by simp only [hx',Bool.false_or];simp;omega) (by simp only [hx',Bool.or_false];simp;omega) (by rw [size_toArray];omega)
    (by unfold Builtin.Tuple.tupleTooMany; rw [size_toArray]; simp; have : (sizeLine : Int) = 16777216 := by decide
        omega) (by rw [fl];show(List.replicate k.toNat its).flatten.toArray.size<=sizeLine;rw [size_toArray];omega)) ⟨ho,?_⟩
  rw [fl];exact I.gotNew (t':=s.toks) q (r.rep k.toNat) (by rw [Ki] at hlen ⊢;rw [hl];omega)
end
end L2
end
section
namespace L2
open AutoSeq1 (wpAny_loadPart')
section
variable {X : Cx}
theorem KG {α β:Type}{f g:α->Option β}:∀(l:List α),(∀k∈l,f k=g k)->l.filterMap f=l.filterMap g
 | [],_=>rfl
 | a::l,h=>by
  rw [filterMap_cons,filterMap_cons,h a mem_cons_self,KG l λk hk=>h k (mem_cons_of_mem _ hk)]
theorem OD (xs:List Value):((List.range xs.length).filterMap fun(k:Nat)=>xs.toArray[(((xs.length:Int)-1)+(k:Int) *(-1)).toNat]?).toArray=xs.reverse.toArray:=by
 have e:∀k∈List.range xs.length,(fun(k:Nat)=>xs.toArray[(((xs.length:Int)-1)+(k:Int) *(-1)).toNat]?) k=xs.reverse[k]? :=λk hk=>by
  have hk':=mem_range.mp hk;have:(((xs.length:Int)-1)+(k:Int) *(-1)).toNat=xs.length-1-k:=by omega
  dsimp only;rw [this,List.getElem?_reverse hk'];simp
 rw [KG _ e]
 congr 1
 have gen:∀(l:List Value) (n:Nat),n<=l.length->(List.range n).filterMap (λk=>l[k]?)=l.take n:=λl n=>by
  induction n with
  | zero=>intro _;simp
  | succ n ih=>
   intro hn;rw [range_succ,List.filterMap_append,ih (by omega),take_add_one];rw [getElem?_eq_getElem (by omega)];simp [getElem?_eq_getElem (show n<l.length by omega)]
 have this:∀(l:List Value),(List.range l.length).filterMap (λk=>l[k]?)=l:=λl=>by rw [gen l l.length (Nat.le_refl _),take_length]
 have:=this xs.reverse;rw [List.length_reverse] at this;exact this
theorem KH:Bk X (.builtin "sorted") (λxs H Q=>∃(p:Addr) (ns:List Int),xs=[.ref p]/\H p=some (.lst (ns.map V.int))/\ns.length<64/\∀(l:Addr) (ns':List Int),H l=none->ns'.Perm ns->ns'.Pairwise (· <= ·)->Q (.ref l) (upd H l (.lst (ns'.map V.int)))):=by
 intro pins s σ H xs us Q I r h;obtain⟨p,ns,rfl,hp,hn,q⟩:=h;obtain⟨u,rfl,ru⟩:=r.one;cases ru;obtain⟨its,rv,pl,hz⟩:=I.list (Al.of hp);have hl:=rv.length;rw [length_map] at hl;refine sorted_ints pl.isList (J0 rv) (by omega) λout ns' a1 a2 a3=>?_
 obtain⟨e,he⟩:=sortedAll_at s.heap its out;have hfr:H (s.heap.objs.size+1)=none:=I.hok.fresh (Nat.le_succ _);refine⟨.ref (s.heap.objs.size+1),_,I.laid (t':=s.toks) (a:=s.heap.objs.size+1) (o:= .lst (ns'.map V.int)) (λb o eb=>sortedAll_old eb) (Nat.le_succ _) ⟨?_,out.toList,e,Ir a1,?_⟩,rfl,q _ ns' hfr a2 a3⟩
 ·rw [length_map,a2.length_eq];have:(64:Nat)<=sizeLine:=by decide
  omega
 ·simpa [seqObj] using he
def OE:TE:=λ_ H Q=>∀p,H p=none->Q (.ref p) (upd H p (.dK []))
def KI:List (PyData×PyData)->Nat | []=>2 | [(.int i,.int j)]=>if i=0/\j=1 then 6 else 10 ^ 9 | _=>10 ^ 9
mutual
def B0:PyData->Nat
 | .none=>4 | .bool _=>5 | .int i=>if i.natAbs<10 ^ 31 then 40 else 10 ^ 9 | .str x=>(reprText x).length
 | .tuple ds=>Dc ds+4 | .list ds=>Dc ds+4 | .dict kvs=>KI kvs
def Dc:List PyData->Nat
 | []=>0
 | d::ds=>B0 d+2+Dc ds
end
end
end L2
end
section
namespace L2
variable {i : Int} {p : Addr}
theorem KJ:∀(ts:List Str) (k:Nat) (acc:Str),(textFrom k acc ts).length<=acc.length+piled ts
 | [],k,acc=>by show acc.length<=_;omega
 | t::ts,k,acc=>by
  have ih:=KJ ts;unfold textFrom;rw [PySem.piled_cons];refine Nat.le_trans (ih _ _) ?_;have e:(acc++(if k>0 then", " else"" :String)++t).length=acc.length+(if k>0 then 2 else 0)+t.length:=by
   rw [strLen_append,strLen_append];split<;>rfl
  rw [e];split<;>omega
theorem OF (ts:List Str):(listText ts).length<=piled ts+2:=by
 unfold listText;rw [strLen_append];have:=KJ ts 0 "[";have e1:(Str.ofString "[").length=1:=rfl;have e2:(Str.ofString "]").length=1:=rfl;omega
theorem OG (ts:List Str):(tupleText ts).length<=piled ts+4:=by
 unfold tupleText;rw [strLen_append,strLen_append];have e1:(Str.ofString "(").length=1:=rfl;have e2:(Str.ofString (if (ts.length==1)=true then",)" else")")).length<=2:=by
  split
  ·exact Nat.le_refl 2
  ·exact Nat.le_succ 1
 have e3:(Str.join (Str.ofString ", ") ts).length<=piled ts:=by
  cases ts with
  | nil=>exact Nat.zero_le _
  | cons a r=>have:=join_length_add (a::r) (by simp);omega
 omega
theorem OH (h:i.natAbs<10 ^ 31):(Str.ofString (toString i)).length<=40:=by
 have h1:=int_text_length_le10 (a:=i) (k:=31) (by decide) h;have h2:(Str.ofString (toString i)).length=(toString i).length:=by rw [PySem.ofString_length]
 omega
theorem OI (h:i.natAbs<10 ^ 31):i.natAbs.log2<1920:=by
 by_cases z:i.natAbs=0
 ·rw [z];decide
 ·exact Nat.lt_trans ((Nat.log2_lt z).mpr (Nat.lt_trans h (show 10 ^ 31<2 ^ 120 by decide))) (by decide)
mutual
theorem KK:∀d:PyData,B0 d<10 ^ 9->d.showable=true/\d.shown.length<=B0 d
 | .none,_=>⟨rfl,by show 4<=4;decide⟩
 | .bool b,_=>⟨rfl,by cases b<;>(unfold PyData.shown B0;decide)⟩
 | .int i,h=>by
  unfold B0 at h ⊢
  by_cases c:i.natAbs<10 ^ 31
  ·rw [if_pos c];refine⟨?_,?_⟩
   ·unfold PyData.showable;exact decide_eq_true (OI c)
   ·unfold PyData.shown;exact OH c
  ·rw [if_neg c] at h;exact absurd h (Nat.lt_irrefl _)
 | .str x,h=>⟨rfl,by unfold PyData.shown B0;exact Nat.le_refl _⟩
 | .tuple ds,h=>by
  unfold B0 at h ⊢;obtain⟨a,b⟩:=IL ds (by omega);refine⟨by unfold PyData.showable;exact a,?_⟩;unfold PyData.shown;exact Nat.le_trans (OG _) (by omega)
 | .list ds,h=>by
  unfold B0 at h ⊢;obtain⟨a,b⟩:=IL ds (by omega);refine⟨by unfold PyData.showable;exact a,?_⟩;unfold PyData.shown;exact Nat.le_trans (OF _) (by omega)
 | .dict kvs,h=>by
  unfold B0 at h;unfold KI at h;split at h
  ·exact⟨rfl,by decide+kernel⟩
  ·split at h
   ·rename_i i j c;obtain⟨rfl,rfl⟩:=c;exact⟨by decide+kernel,by decide+kernel⟩
   ·exact absurd h (Nat.lt_irrefl _)
  ·exact absurd h (Nat.lt_irrefl _)
theorem IL:∀ds:List PyData,Dc ds<10 ^ 9->PyData.showableAll ds=true/\piled (PyData.shownAll ds)<=Dc ds
 | [],_=>⟨rfl,by decide⟩
 | d::ds,h=>by
  unfold Dc at h ⊢;obtain⟨a,b⟩:=KK d (by omega);obtain⟨a',b'⟩:=IL ds (by omega);refine⟨by unfold PyData.showableAll;rw [a,a'];rfl,?_⟩;unfold PyData.shownAll;rw [PySem.piled_cons];omega
end
section
variable {X : Cx} {pins : List (Addr × Obj)} {σ : St} {H : Hp} {s : Shared}
mutual
theorem Aa.reads (I:Ad X pins σ H s):∀(d:PyData) (v:V) (u:Value),d.hasDict=false->Aa p H d v->Ay v u->∃as,Reads s.heap u d as
 | .none,v,u,_,r,q=>by unfold Aa at r;subst r;cases q;exact⟨_,.none⟩
 | .bool b,v,u,_,r,q=>by unfold Aa at r;subst r;cases q;exact⟨_,.bool b⟩
 | .int i,v,u,_,r,q=>by unfold Aa at r;subst r;obtain⟨t,rfl⟩:=q;exact⟨_,.int i t⟩
 | .str x,v,u,_,r,q=>by unfold Aa at r;subst r;obtain⟨t,rfl⟩:=q;exact⟨_,.str x t⟩
 | .tuple ds,v,u,hd,r,q=>by
  unfold Aa at r;obtain⟨a,xs,rfl,ha,rs⟩:=r;cases q;obtain⟨its,rv,⟨o,ho,hc,n,hdt⟩,_⟩:=I.tuple (Ae.of ha);obtain⟨as,ra⟩:=Ac.reads I ds xs its (by unfold PyData.hasDict at hd;exact hd) rs rv;exact⟨as,.tuple ho hc hdt ra⟩
 | .list ds,v,u,hd,r,q=>by
  unfold Aa at r;obtain⟨a,xs,rfl,_,ha,rs⟩:=r;cases q;obtain⟨its,rv,⟨o,n,ho,hc,_,hdt⟩,_⟩:=I.list (Al.of ha);obtain⟨as,ra⟩:=Ac.reads I ds xs its (by unfold PyData.hasDict at hd;exact hd) rs rv;exact⟨a::as,.list ho hc hdt ra⟩
 | .dict kvs,v,u,hd,_,_=>by unfold PyData.hasDict at hd;cases hd
theorem Ac.reads (I:Ad X pins σ H s):∀(ds:List PyData) (xs:List V) (us:List Value),PyData.hasDictAll ds=false->Ac p H ds xs->Av xs us->∃as,ReadsAll s.heap us ds as
 | [],xs,us,_,r,q=>by unfold Ac at r;subst r;cases q;exact⟨_,.nil⟩
 | d::ds,xs,us,hd,r,q=>by
  unfold Ac at r;obtain⟨x,t,rfl,rx,rt⟩:=r;unfold PyData.hasDictAll at hd;obtain⟨h1,h2⟩:=Bool.or_eq_false_iff.mp hd;cases q with
  | cons q1 q2=>
   obtain⟨as,ra⟩:=Aa.reads I d x _ h1 rx q1;obtain⟨bs,rb⟩:=Ac.reads I ds t _ h2 rt q2;exact⟨as++bs,.cons ra rb⟩
end
mutual
def Fw:PyData->Bool
 | .list _=>false | .tuple ds=>Gw ds | .none=>true | .bool _=>true | .int _=>true | .str _=>true | .dict _=>true
def Gw:List PyData->Bool
 | []=>true
 | d::ds=>Fw d && Gw ds
end
mutual
theorem Aa.readsD (I:Ad X pins σ H s):∀(d:PyData) (v:V) (u:Value),Fw d=true->Aa p H d v->Ay v u->∃as,Reads s.heap u d as/\¬sysModules∈as
 | .none,v,u,_,r,q=>by unfold Aa at r;subst r;cases q;exact⟨_,.none,not_mem_nil⟩
 | .bool b,v,u,_,r,q=>by unfold Aa at r;subst r;cases q;exact⟨_,.bool b,not_mem_nil⟩
 | .int i,v,u,_,r,q=>by unfold Aa at r;subst r;obtain⟨t,rfl⟩:=q;exact⟨_,.int i t,not_mem_nil⟩
 | .str x,v,u,_,r,q=>by unfold Aa at r;subst r;obtain⟨t,rfl⟩:=q;exact⟨_,.str x t,not_mem_nil⟩
 | .tuple ds,v,u,hd,r,q=>by
  unfold Aa at r;obtain⟨a,xs,rfl,ha,rs⟩:=r;cases q;obtain⟨its,rv,⟨o,ho,hc,n,hdt⟩,_⟩:=I.tuple (Ae.of ha);obtain⟨as,ra,hn⟩:=Ac.readsD I ds xs its (by unfold Fw at hd;exact hd) rs rv;exact⟨as,.tuple ho hc hdt ra,hn⟩
 | .list ds,v,u,hd,r,q=>by unfold Fw at hd;cases hd
 | .dict kvs,v,u,hd,r,q=>by
  unfold Aa at r;obtain⟨a,ks,rfl,_,dk,hb⟩:=r;cases q;obtain⟨_,hne,vs,kv,o,es,ep,ho,hx,hdt,hl0,hl,hll⟩:=I.hok a _ hb;have hsm:sysModules≠a:=λe=>by rw [<-e] at hne;simp at hne
  rcases dk with⟨rfl,rfl⟩ | ⟨rfl,rfl⟩
  ·cases kv;have hes:es.toList=[]:=by
    generalize es.toList=l at hl;cases hl;rfl
   exact⟨a::[]++[],.dict ho hx.1 hdt (by rw [hes];exact .nil) (by rw [hes];exact .nil),by simpa using hsm⟩
  ·cases kv with
   | cons h1 t1=>
    cases t1;obtain⟨e1,e2⟩:=h1;generalize hes:es.toList=l at hl;cases hl with
    | cons k1 k2 k3=>
     cases k3;rename_i kv' e;have k1':Ds (.inl 0) e.key=true:=by
      have e1':(Sum.inl 0:AR)=kv'.1:=e1;rw [e1'];exact k1
     obtain⟨t,ht⟩:∃t,e.key=Value.int 0 t:=by
      rcases Cz k1' with⟨i,t,h,h'⟩ | ⟨x,t,h,_⟩
      ·cases h;exact⟨t,h'⟩
      ·cases h
     obtain⟨t1,ht1⟩:∃t,kv'.2=Value.int 1 t:=e2;refine⟨a::([]++[])++([]++[]),.dict (kvs:=[(.int 0,.int 1)]) ho hx.1 hdt ?_ ?_,by simpa using hsm⟩
     ·rw [hes];show ReadsAll _ [e.key] [.int 0] _;rw [ht];exact .cons (.int 0 t) .nil
     ·rw [hes];show ReadsAll _ [e.val] [.int 1] _;rw [k2,ht1];exact .cons (.int 1 t1) .nil
theorem Ac.readsD (I:Ad X pins σ H s):∀(ds:List PyData) (xs:List V) (us:List Value),Gw ds=true->Ac p H ds xs->Av xs us->∃as,ReadsAll s.heap us ds as/\¬sysModules∈as
 | [],xs,us,_,r,q=>by unfold Ac at r;subst r;cases q;exact⟨_,.nil,not_mem_nil⟩
 | d::ds,xs,us,hd,r,q=>by
  unfold Ac at r;obtain⟨x,t,rfl,rx,rt⟩:=r;unfold Gw at hd;obtain⟨h1,h2⟩:=(Bool.and_eq_true _ _).mp hd;cases q with
  | cons q1 q2=>
   obtain⟨as,ra,ha⟩:=Aa.readsD I d x _ h1 rx q1;obtain⟨bs,rb,hb⟩:=Ac.readsD I ds t _ h2 rt q2;exact⟨as++bs,.cons ra rb,λz=>(mem_append.mp z).elim ha hb⟩
end
structure Ed (d:PyData):Prop where
 w:B0 d<=1000000
 dp:d.depth<=20
 nd:d.hasDict=false\/Fw d=true
def KM:List V->Hp->VK->Prop:=λxs H Q=>match xs with | [v]=>∃p d,Aa p H d v/\Ed d/\Q (.str d.shown) H | _=>False
theorem Gx {k:Nat} (hr:AX k X.A):Bk X (.builtin "repr") KM:=by
 intro pins s σ H xs us Q I r h;unfold KM at h;split at h
 ·rename_i v;obtain⟨p,d,rd,nd,q⟩:=h;obtain⟨u,rfl,ru⟩:=r.one;obtain⟨sh,sl⟩:=KK d (Nat.lt_of_le_of_lt nd.w (by decide));have big:(1000000:Nat)<=sizeLine:=by decide
  have hsz:d.shown.length<=sizeLine:=Nat.le_trans sl (Nat.le_trans nd.w big);have un:=hr.un;have fin:∀h' tk t,(∀b o,s.heap.get? b=some o->h'.get? b=some o)->EP X pins σ Q (.str d.shown t) { s with heap:=h',toks:=tk}:=λh' tk t hk=>⟨.str d.shown,H,I.kept hk,⟨t,rfl⟩,q⟩
  have isref:∀a,u= .ref a->wpAny (model X.prog X.w) X.A (call (.builtin "repr") [u]) (EP X pins σ Q) X.xe s:=λa e=>by
   subst e;have dpt:X.A.units+(d.depth+1)<cLine:=by have:=nd.dp;omega
   rcases nd.nd with hd | hd
   ·obtain⟨as,ra⟩:=Aa.reads I d v _ hd rd ru;exact repr_of_reads' ra sh (PyData.noDict_hsm hd) hr.gd dpt (λ_ _ e=>e) (λh' t tk hk=>fin h' tk t hk) hsz
   ·obtain⟨as,ra,hm⟩:=Aa.readsD I d v _ hd rd ru;exact repr_of_reads' ra sh (λ_=>hm) hr.gd dpt (λ_ _ e=>e) (λh' t tk hk=>fin h' tk t hk) hsz
  cases d with
  | none=>unfold Aa at rd;subst rd;cases ru;exact PySem.P.repr_of_none (fin s.heap _ _ λ_ _ e=>e)
  | bool b=>unfold Aa at rd;subst rd;cases ru;exact PySem.P.repr_of_bool (by have:=fin s.heap (s.toks+1) s.toks λ_ _ e=>e;unfold PyData.shown at this;exact this)
  | int i=>
   unfold Aa at rd;subst rd;obtain⟨t,rfl⟩:=ru;refine PySem.P.repr_of_int ?_ (by have:=fin s.heap (s.toks+1) s.toks λ_ _ e=>e;unfold PyData.shown at this;exact this);unfold PyData.showable at sh;exact of_decide_eq_true sh
  | str x=>
   unfold Aa at rd;subst rd;obtain⟨t,rfl⟩:=ru;exact PySem.P.repr_of_str (by have:=fin s.heap (s.toks+1) s.toks λ_ _ e=>e;unfold PyData.shown at this;exact this) (by unfold PyData.shown at hsz;exact hsz)
  | tuple ds=>have rd':=rd;unfold Aa at rd';obtain⟨a,xs,rfl,_⟩:=rd';exact isref a ru
  | list ds=>have rd':=rd;unfold Aa at rd';obtain⟨a,xs,rfl,_⟩:=rd';exact isref a ru
  | dict kvs=>have rd':=rd;unfold Aa at rd';obtain⟨a,ks,rfl,_⟩:=rd';exact isref a ru
 ·exact h.elim
theorem Ad.big (I:Ad X pins σ H s):sysModules<s.heap.objs.size:=by
 have h:mainGlobals<s.heap.objs.size:=(I.mod.glob.keeps I.bk).lt;exact Nat.lt_trans (by decide) h
theorem OJ {pos:Pos}:PE X (.Dict [] [] pos) OE:=λpins s σ H Q I h=>
 wpAny_Dict_empty ⟨.ref s.heap.objs.size,_,I.laid (a:=s.heap.objs.size) (o:= .dK []) (t':=s.toks) (λ_ _ q=>Heap.get?_push_of_some _ q) (Nat.le_refl _) ⟨Nat.zero_le _,beq_eq_false_iff_ne.mpr (Ne.symm (Nat.ne_of_lt I.big)),[],.nil,Heap.DictOf.new s.heap⟩,rfl,h _ (I.hok.fresh (Nat.le_refl _))⟩
end
end L2
end
section
namespace L2
section
variable {X : Cx} {P : Program} {w : World}
theorem A4 (K:Fgx) (h:X.K=K:=by rfl):Fm X (Io K):=h ▸ NA
theorem AF (K:Fgx) (h:X.K=K:=by rfl):Fm X (Kb K):=h ▸ NB
theorem KN (K:Fgx) (h:X.K=K:=by rfl):Ge X (Kc K):=h ▸ NG
theorem Fx (K:Fgx) (h:X.K=K:=by rfl):OpR X (compareOp .In) (Ke K false):=h ▸ NI
def OK (K:Fgx):List V->Hp->VK->Prop:=λxs H Q=>∃p ys,xs=[.ref p]/\(Al K H p ys\/Ae K H p ys)/\Q (.int (ys:List V).length) H
theorem Bh (K:Fgx) (h:X.K=K:=by rfl):Bk X (.builtin "len") (OK K):=h ▸ NJ
def OL (K:Fgx):List V->Hp->VK->Prop:=λxs H Q=>∃p ys,xs=[.ref p]/\(Al K H p ys\/Ae K H p ys)/\∀l,H l=none->Q (.ref l) (upd H l (.lst ys))
theorem KO (K:Fgx) (h:X.K=K:=by rfl):Bk X (.type "list") (OL K):=h ▸ NK
def KP (K:Fgx):List V->Hp->VK->Prop:=λxs H Q=>∃p ys,xs=[.ref p]/\((Al K H p ys/\∀l,H l=none->Q (.ref l) (upd H l (.tup ys)))\/(Ae K H p ys/\Q (.ref p) H))
theorem BI (K:Fgx) (h:X.K=K:=by rfl):Bk X (.type "tuple") (KP K):=h ▸ NL
theorem AG (K:Fgx) {es:List Expr}{k:Nat}{t:Dx}{n:Nat}{pos:Pos} (h:Fi X es t) (hK:X.K=K:=by rfl) (hc:X.calm=true:=by rfl) (hn:(assignEach es X.env).length=n:=by rfl) (hst:(assignEach es X.env).findIdx? (·.1)=none:=by rfl):
  PG X (.Tuple es k pos) (Jw K n t):=hK ▸ MV hc h hn hst
theorem Ee (K:Fgx) {tg l:Expr}{tl:TE} (hl:PE X l tl) (h:X.K=K:=by rfl):PI X tg l (JD K tl):=h ▸ M6 hl
theorem BA (K:Fgx) {tg l:Expr}{tl:TE} (hl:PE X l tl) (h:X.K=K:=by rfl):PI X tg l (JE K tl):=h ▸ M7 hl
theorem Ef (P:Program) (w:World) (K:Fgx) {es:List Expr}{k:Nat}{p pos pos':Pos}{a:Expr}{ta:TA} (hg:Gl X "enumerate") (hm:X.mg "enumerate"=none) (ha:PA X [a] ta) (hP:X.prog=P:=by rfl) (hw:X.w=w:=by rfl) (hK:X.K=K:=by rfl) (hs:starEach [a] X.env=[(false,eval a X.env)]:=by rfl):
  PI X (.Tuple es k pos') (.Call (.Name "enumerate" p) [a] [] pos) (Ks (BG P w K) ta):=by subst hP hw hK;exact N9 hg hm ha hs
theorem Gy (P:Program) (w:World) (K:Fgx) {es:List Expr}{k:Nat}{p pos pos':Pos}{e1 e2:Expr}{ta:TA} (hg:Gl X "zip") (hm:X.mg "zip"=none) (ha:PA X [e1,e2] ta) (hP:X.prog=P:=by rfl) (hw:X.w=w:=by rfl) (hK:X.K=K:=by rfl)
  (hs:starEach [e1,e2] X.env=[(false,eval e1 X.env),(false,eval e2 X.env)]:=by rfl) (hs2:starEach [e2] X.env=[(false,eval e2 X.env)]:=by rfl):
  PI X (.Tuple es k pos') (.Call (.Name "zip" p) [e1,e2] [] pos) (IG (BG P w K) (BG P w K) ta):=by subst hP hw hK;exact Oi hg hm ha hs hs2
end
section
variable {X : Cx}
def OM:List V->Hp->VK->Prop:=λxs H Q=>∃(p:Addr) (ns:List Int),xs=[.ref p]/\H p=some (.lst (ns.map V.int))/\Q (.int ns.sum) H
theorem IM:∀ {ns:List Int}{us:List Value},Av (ns.map V.int) us->IntsAre us ns
 | [],us,h=>by cases h;exact .nil
 | n::ns,us,h=>by
  cases h with
  | cons r t=>obtain⟨k,rfl⟩:=r;exact .cons n k (IM t)
theorem Gz (hc:X.calm=true):Bk X (.builtin "sum") OM:=by
 intro pins s σ H xs us Q I r h;obtain⟨p,ns,rfl,hp,q⟩:=h;obtain⟨u,rfl,ru⟩:=r.one;cases ru;obtain⟨its,rv,pl,hz⟩:=I.list (Al.of hp);have hi:=IM rv;obtain⟨xs,hx⟩:=AllInts.items hi.allInts;have hl:s.heap.IsList p (intItems xs):=hx ▸ pl.isList;refine sum_intListG (I.ok.hd hc) hl λh' tk t' hk=>?_
 have e1:ns=xs.toList.map (λx=>x.fst):=by rw [<-nums_intItems,<-hx,List.toList_toArray,hi.numsOf]
 have e2:preSum (numAt xs) xs.size=ns.sum:=by
  rw [preSum_eq,take_of_length_le (by simp),<-e1]
 rw [e2];exact⟨.int ns.sum,H,I.kept λb o eb=>hk b o eb,⟨t',rfl⟩,q⟩
end
def EM (lo st:Int) (n:Nat):It:= { go:=λi _=>i<n,yld:=λi H x H'=>H'=H/\x= .int (lo+i * st),stop:=λi _=>n<=i}
theorem KQ {P:Program}{w:World}{K:Fgx}{tg:Expr} (it:Addr) (lo st:Int) (n:Nat):CC P w K tg (EM lo st n) [it] it (λi h=>IsRangeIter h it (lo+(i:Nat) * st) ((n:Int)-(i:Nat)) st) where
 mem:=by simp
 obj:=λi h hs b hb=>by
  obtain rfl:b=it:=by simpa using hb
  exact⟨_,hs,λv z=>by
   have z':Data.fields _=Data.cell v:=z;cases z'⟩
 keep:=λi h h' hs k=>k it (by simp) _ hs
 item:=by
  intro X hP hw hK hc i pins s σ H E I hf hs hg;subst hP hw hK;obtain⟨f0,f1,f2,f3,f4,f5⟩:=hf it (by simp);have W:=Walks.range (prog:=X.prog) (w:=X.w) (I.ok.hd hc) it lo st n;refine W.item i s _ _ hg hs λv h' tk hv st' kk=>?_
  obtain⟨t,rfl⟩:=hv;have I1:Ad X pins σ H { s with heap:=h',toks:=tk}:=I.turned (λb o hb e=>kk b o (by simpa using hb) e) f0 f1 f3 f4 f5;exact⟨_,rfl,F8 (s:= { s with heap:=h',toks:=tk}) (n:="range_iterator") st' rfl rfl (by decide) ⟨.int (lo+i * st),H,I1,⟨t,rfl⟩,⟨rfl,rfl⟩,st',λb hb=>(hf b hb).1⟩⟩
 done:=by
  intro X hP hw hK hc i pins s σ H E I hf hs hg;subst hP hw hK;obtain⟨f0,f1,f2,f3,f4,f5⟩:=hf it (by simp);exact wpAny_pyNext_range_end (I.ok.hd hc) hs (by have:n<=i:=hg;omega) λh' eb=>⟨rfl,I.turned (t':=s.toks) (λb o hb e=>eb b o hb e) f0 f1 f3 f4 f5⟩
 self:=λ_ _ _ _ _ hs h=>wpAny_pyIter_rangeiter hs h
def CS (i j k:Int):Nat:=(Builtin.Range.rangeSize i j k).toNat
theorem KR {i j k:Int} (h:1<=k) (hi: -1000<=i) (hj:j<=1000):0<=Builtin.Range.rangeSize i j k/\Builtin.Range.rangeSize i j k<=2001:=by
 unfold Builtin.Range.rangeSize;rw [if_pos (by omega)];split
 ·have h1:0<=(j-i-1)/ k:=Int.ediv_nonneg (by omega) (by omega);have h2:(j-i-1)/ k<=(j-i-1):=Int.ediv_le_self _ (by omega);omega
 ·omega
theorem ON {i j k:Int} (h:1<=k) (hk:k<=1000) (hi: -1000<=i) (hi':i<=1000) (hj: -1000<=j) (hj':j<=1000):Builtin.Range.small i j k=true:=by
 obtain⟨a,b⟩:=KR h hi hj';have f:∀z:Int,-5000<=z->z<=5000->Builtin.Range.rangeFitsLong z=true:=λz z1 z2=>by
  unfold Builtin.Range.rangeFitsLong;simp only [Bool.and_eq_true,decide_eq_true_eq];omega
 unfold Builtin.Range.small;rw [f i (by omega) (by omega),f j (by omega) (by omega),f k (by omega) (by omega),f _ (by omega) (by omega),if_pos (by omega),f (j+(k-1)) (by omega) (by omega)];simp
section
variable {X : Cx} {tg : Expr}
def OO (ta:TA):TI:=fun σ H R=>ta σ H λvs H1=>∃i j k:Int,vs=[.int i,.int j,.int k]/\(-1000<=i/\i<=1000/\ -1000<=j/\j<=1000/\1<=k/\k<=1000)/\R (EM i k (CS i j k)) H1
theorem OP {a b c:Expr}{ta:TA}{p pos:Pos} (hg:Gl X "range") (hm:X.mg "range"=none) (ha:PA X [a,b,c] ta) (hs:starEach [a,b,c] X.env=(false,eval a X.env)::starEach [b,c] X.env:=by rfl) (hs2:starEach [b,c] X.env=[(false,eval b X.env),(false,eval c X.env)]:=by rfl):
  PI X tg (.Call (.Name "range" p) [a,b,c] [] pos) (OO ta):=by
 intro pins s σ H R I h;refine Call_ (Cq I hg hm boot_range (PyProof.Rows.callWith_type1 (Ao (ha pos pins s σ H _ I h) λus s1 ⟨vs,H1,I1,r1,q1⟩=>?_) hs (by rw [hs2];rfl)));obtain⟨i,j,k,e,⟨q1,q2,q3,q4,q5,q6⟩,q⟩:=q1;subst e;cases r1 with
 | cons r rr=>
  cases rr with
  | cons r' rr=>
   cases rr with
   | cons r'' rr=>
    cases rr;obtain⟨t,rfl⟩:=r;obtain⟨t',rfl⟩:=r';obtain⟨t'',rfl⟩:=r'';have hk:k.natAbs.log2<30:=by
     by_cases z:k.natAbs=0
     ·omega
     ·exact(Nat.log2_lt z).mpr (show k.natAbs<2 ^ 30 by omega)
    have ndv:Builtin.divisionGoesByPylong (j-i) k=false:=by
     unfold Builtin.divisionGoesByPylong;dsimp only;rw [show(decide ((if (k==0)=true then 0 else k.natAbs.log2 / 30+1) >300))=false from decide_eq_false (by
      split
      ·omega
      ·rw [Nat.div_eq_of_lt hk];omega),Bool.false_and]
    refine call_range_3 (by omega) ?_ (.inl ndv);refine wpAny_pyIter_range (IsRange.new ..) (ON q5 q6 q1 q2 q3 q4) ?_;have I2:Ad X pins σ H1 { s1 with heap:=s1.heap.push { cls:= .type "range",data:= .fields #[.int i t,.int j t',.int k t'']}}:=I1.kept λb o e=>Heap.get?_push_of_some _ e
    refine⟨(s1.heap.push { cls:= .type "range",data:= .fields #[.int i t,.int j t',.int k t'']}).objs.size,[(s1.heap.push { cls:= .type "range",data:= .fields #[.int i t,.int j t',.int k t'']}).objs.size],_,_,H1,rfl,
     I2.kept (t':=s1.toks) λb o e=>Heap.get?_push_of_some _ e,KQ _ i k (CS i j k),?_,λb hb=>?_,q⟩
    ·have e2:((CS i j k:Nat):Int)-((0:Nat):Int)=Builtin.Range.rangeSize i j k:=by
      have:=(KR q5 q1 q4).1;unfold CS;omega
     have e1:i+((0:Nat):Int) * k=i:=by simp
     show IsRangeIter _ _ (i+((0:Nat):Int) * k) (((CS i j k:Nat):Int)-((0:Nat):Int)) k;rw [e1,e2];exact Heap.get?_push_size _ rfl
    ·obtain rfl:b=(s1.heap.push { cls:= .type "range",data:= .fields #[.int i t,.int j t',.int k t'']}).objs.size:=by simpa using hb
     exact I2.fpOk (Nat.le_refl _) (I2.hok.fresh (Nat.le_refl _))
end
theorem KS {lo st:Int}{n:Nat}{g:TG}{tb:TS}{D:CB}{σ:St}{H:Hp} (Pv:Nat->St->Hp->Prop) (h0:Pv 0 σ H)
  (hs:∀i σ H,i<n->Pv i σ H->g (.int (lo+i * st)) σ H fun σ2 H2=>tb { D with nx:=Pv (i+1),ct:=Pv (i+1),bk:=D.nx} σ2 H2) (hd:∀σ H,Pv n σ H->D.nx σ H):
  ∃W:Nat->Nat->St->Hp->Prop,(∃m,W 0 m σ H)/\∀i m σ H,W i m σ H->
   ((EM lo st n).stop i H/\D.nx σ H)\/((EM lo st n).go i H/\∃N:St->Hp->Prop,(∀σ' H',N σ' H'->∃m',m'<m/\W (i+1) m' σ' H')/\∀x H',(EM lo st n).yld i H x H'->g x σ H' fun σ2 H2=>tb { D with nx:=N,ct:=N,bk:=D.nx} σ2 H2):=by
 refine⟨λi m σ H=>m=n-i/\i<=n/\Pv i σ H,⟨n,by simp,Nat.zero_le _,h0⟩,?_⟩;rintro i m σ H ⟨rfl,hi,p⟩
 by_cases hlt:i<n
 ·refine .inr ⟨hlt,Pv (i+1),fun σ' H' p'=>⟨n-(i+1),by omega,rfl,hlt,p'⟩,λx H' ⟨e,y⟩=>?_⟩;subst e y;exact hs i σ _ hlt p
 ·obtain rfl:i=n:=by omega
  exact .inl ⟨Nat.le_refl _,hd σ H p⟩
end L2
end
section
namespace MF
open L2
variable {α : Type} {i n k j : Nat} {h : Int} {ws : List Bool} {p : Addr} {H : Hp} {xs : List V}
theorem _root_.L2.walk_enum {P:Program}{w:World}{K:Fgx}{S:AW P w K}{a:Addr}{xs:List V}{cap:List (Option Nat)}{g:TG}{tt:TT}{te:TE}{σ:L2.St}{Q:List V->Hp->Prop}{H:Hp} (Pv:Nat->List V->Hp->Prop) (hn:xs.length<=100000) (h0:Pv 0 [] H) (hz:∀i zs H,Pv i zs H->zs.length<=i)
  (hl:∀i zs H,Pv i zs H->S.Sq H a xs)
  (hs:∀i x zs H T,xs[i]? =some x->Pv i zs H->H T=none->g (.ref T) (AL cap σ) (upd H T (.tup [.int i,x])) fun σ2 H2=>Keep (AL cap σ) σ2/\tt σ2 H2 λb H3=>br b (te σ2 H3 λy H4=>Pv (i+1) (zs++[y]) H4) (Pv (i+1) zs H3))
  (hd:∀zs H,Pv xs.length zs H->Q zs H):D8 (D9 S a) cap g tt te σ Q H:=
 EH xs.length Pv hn h0 hz (λi zs H hi p=>by
  have q:=hl i zs H p;refine⟨⟨xs,xs[i],q,by simp [hi]⟩,λv H' ⟨T,e,n,y⟩=>?_⟩;subst e;rw [y xs xs[i] q (by simp [hi])];exact hs i xs[i] zs H T (by simp [hi]) p n)
  λzs H p=>⟨⟨xs,hl _ zs H p,rfl⟩,hd zs H p⟩
theorem _root_.L2.for_enum {P:Program}{w:World}{K:Fgx}{S:AW P w K}{a:Addr}{xs:List V}{g:TG}{tb:TS}{D:CB}{σ:L2.St}{H:Hp} (Pv:Nat->L2.St->Hp->Prop) (h0:Pv 0 σ H) (hl:∀i σ H,Pv i σ H->S.Sq H a xs)
  (hs:∀i x σ H T,xs[i]? =some x->Pv i σ H->H T=none->g (.ref T) σ (upd H T (.tup [.int i,x])) fun σ2 H2=>tb { D with nx:=Pv (i+1),ct:=Pv (i+1),bk:=D.nx} σ2 H2) (hd:∀σ H,Pv xs.length σ H->D.nx σ H):
  ∃W:Nat->Nat->L2.St->Hp->Prop,(∃m,W 0 m σ H)/\∀i m σ H,W i m σ H->
   ((D9 S a).stop i H/\D.nx σ H)\/((D9 S a).go i H/\∃N:L2.St->Hp->Prop,(∀σ' H',N σ' H'->∃m',m'<m/\W (i+1) m' σ' H')/\∀x H',(D9 S a).yld i H x H'->g x σ H' fun σ2 H2=>tb { D with nx:=N,ct:=N,bk:=D.nx} σ2 H2):=by
 refine⟨λi m σ H=>m=xs.length-i/\i<=xs.length/\Pv i σ H,⟨xs.length,by simp,Nat.zero_le _,h0⟩,?_⟩;rintro i m σ H ⟨rfl,hi,p⟩;have q:=hl i σ H p
 by_cases hlt:i<xs.length
 ·refine .inr ⟨⟨xs,xs[i],q,by simp [hlt]⟩,Pv (i+1),fun σ' H' p'=>⟨xs.length-(i+1),by omega,rfl,hlt,p'⟩,λx H' ⟨T,e,n,y⟩=>?_⟩;subst e;rw [y xs xs[i] q (by simp [hlt])];exact hs i xs[i] σ H T (by simp [hlt]) p n
 ·obtain rfl:i=xs.length:=by omega
  exact .inl ⟨⟨xs,q,rfl⟩,hd σ H p⟩
structure PL where
 bs:List (Int×Int)
 es:List (Int×Int×Int)
 lo:Int
 hi:Int
 st:Int
abbrev bD (q:Int×Int):PyData:= .tuple [.int q.1,.int q.2]
abbrev eD (q:Int×Int×Int):PyData:= .tuple [.int q.1,.int q.2.1,.int q.2.2]
def PL.d (P:PL):PyData:= .tuple [.tuple (P.bs.map bD),.tuple (P.es.map eD),.tuple [.int P.lo,.int P.hi,.int P.st]]
structure PL.ok (P:PL):Prop where
 b:∀q∈P.bs,1<=q.1/\q.1<=9/\1<=q.2/\q.2<=9
 b1:1<=P.bs.length
 b4:P.bs.length<=4
 e:∀q∈P.es,1<=q.1/\q.1<=9/\0<=q.2.1/\q.2.1<=7/\1<=q.2.2/\q.2.2<=8
 e4:P.es.length<=4
 lo0:0<=P.lo
 ls:P.lo<=P.st
 sh:P.st<=P.hi
 h4:P.hi<=40
structure FT where
 b:Int
 out:Bool
 f:Int
 l:Int
def wS (b:Bool):Str:=if b then"out" else"scaled"
abbrev wV (b:Bool):V:= .str (wS b)
abbrev FT.d (x:FT):PyData:= .tuple [.int x.b,.str (wS x.out),.int x.f,.int x.l]
structure SY where
 ex:List Int
 fs:List FT
def SY.d (S:SY):PyData:= .tuple [.tuple (S.ex.map .int),.tuple (S.fs.map FT.d)]
structure FT.ok (x:FT) (n h:Nat):Prop where
 b0:0<=x.b
 bn:x.b<n
 f0:0<=x.f
 fl:x.f<=x.l
 lh:x.l<h
structure SY.ok (S:SY) (n:Nat):Prop where
 x1:1<=S.ex.length
 x8:S.ex.length<=8
 x:∀u∈S.ex,0<=u/\u<=20
 f4:S.fs.length<=4
 f:∀x∈S.fs,x.ok n S.ex.length
def BN (ws:List Bool) (m:Int):Int:=if ws.any id then 0 else if ws.any (!·) then m / 2 else m
def B1 (b h:Int) (x:FT):Bool:=x.b==b && decide (x.f<=h) && decide (h<=x.l)
def Bv (fs:List FT) (b h:Int):List Bool:=(fs.filter (B1 b h)).map FT.out
def BV (bs:List (Int×Int)) (fs:List FT) (h:Int):List Int:=bs.zipIdx.map λq=>BN (Bv fs q.2 h) q.1.1
def caps (P:PL) (S:SY):List (List Int):=(List.range S.ex.length).map fun(h:Nat)=>BV P.bs S.fs (h:Int)
def drawn (q:Int×Int×Int) (h:Int):Int:=if h<q.2.1\/(h-q.2.1) % q.2.2≠0 then 0 else q.1
def draws (P:PL) (S:SY):List Int:=S.ex.zipIdx.map λq=>q.1+(P.es.map λe=>drawn e q.2).sum
abbrev AJ (r:List Int):PyData:= .tuple (r.map .int)
def Dd (P:PL) (S:SY):PyData:= .tuple ((caps P S).map AJ)
def Fy (P:PL) (S:SY):PyData:=AJ (draws P S)
def ret (H:Hp) (Q:VK) (p:Addr) (d:PyData):Prop:=∀v H',Ab H H'->Aa p H' d v->Q v H'
theorem A9 {l:List α}{x:α} (h:l[i]? =some x):l.take (i+1)=l.take i++[x]:=by rw [take_add_one,h];rfl
theorem IN {bs:List (Int×Int)}{fs:List FT}{q:Int×Int} (hq:bs[i]? =some q):(BV bs fs h)[i]? =some (BN (Bv fs i h) q.1):=by
 unfold BV;rw [getElem?_map,List.getElem?_zipIdx,hq];simp
theorem Fz {bs:List (Int×Int)}{fs:List FT}:(BV bs fs h).length=bs.length:=by unfold BV;simp
theorem De {P:PL}{S:SY} (h:i<S.ex.length):(caps P S)[i]? =some (BV P.bs S.fs i):=by
 unfold caps;rw [getElem?_map,getElem?_range h];rfl
theorem Dg {P:PL}{S:SY}:(caps P S).length=S.ex.length:=by unfold caps;simp
theorem KT {P:PL}{S:SY}{u:Int} (hu:S.ex[i]? =some u):(draws P S)[i]? =some (u+(P.es.map λe=>drawn e i).sum):=by
 unfold draws;rw [getElem?_map,List.getElem?_zipIdx,hu];simp
theorem CJ {P:PL}{S:SY}:(draws P S).length=S.ex.length:=by unfold draws;simp
theorem GB:C6 (.str "out") (ws.map wV)=ws.any id:=by
 induction ws with
 | nil=>rfl
 | cons b ws ih=>
  unfold C6 at ih ⊢;rw [map_cons,any_cons,ih,any_cons];cases b<;>rfl
theorem IO:C6 (.str "scaled") (ws.map wV)=ws.any (!·):=by
 induction ws with
 | nil=>rfl
 | cons b ws ih=>
  unfold C6 at ih ⊢;rw [map_cons,any_cons,ih,any_cons];cases b<;>rfl
theorem GC:(ws.map wV).all C4=true:=by
 rw [all_map,all_eq_true];intro b _
 rfl
theorem OQ (b:Bool):C6 (wV b) [.str "out",.str "scaled"]=true:=by cases b<;>rfl
theorem KU {fs:List FT}{x:FT}{b:Int} (hx:fs[i]? =some x):Bv (fs.take (i+1)) b h=if B1 b h x then Bv (fs.take i) b h++[x.out] else Bv (fs.take i) b h:=by
 unfold Bv;rw [A9 hx,filter_append]
 by_cases c:B1 b h x=true
 ·rw [if_pos c,List.filter_cons_of_pos c,map_append];rfl
 ·rw [if_neg c,List.filter_cons_of_neg c,List.filter_nil,append_nil]
theorem Ac.mapGot {f:α->PyData}{l:List α}{x:V} (r:Ac p H (l.map f) xs) (h:xs[i]? =some x):∃a,l[i]? =some a/\Aa p H (f a) x:=by
 obtain⟨d,hd,rd⟩:=r.got h;rw [getElem?_map] at hd;cases z:l[i]? with
 | none=>rw [z] at hd;cases hd
 | some a=>rw [z] at hd;cases hd;exact⟨a,rfl,rd⟩
theorem Ac.ints:∀ {ns:List Int}{xs:List V},Ac p H (ns.map .int) xs->xs=ns.map V.int
 | [],xs,r=>by unfold Ac at r;exact r
 | n::ns,xs,r=>by
  rw [map_cons] at r;unfold Ac at r;obtain⟨x,t,rfl,rx,rt⟩:=r;unfold Aa at rx;rw [rx,Ac.ints rt];rfl
theorem Ac.ofInts:∀ {ns:List Int},Ac p H (ns.map .int) (ns.map V.int)
 | []=> .nil
 | n::ns=> .cons Aa.int Ac.ofInts
theorem Ac.snoc {ds:List PyData}{d:PyData}{x:V} (r:Ac p H ds xs) (h:Aa p H d x):Ac p H (ds++[d]) (xs++[x]):=r.append (.cons h .nil)
theorem Aa.row {a:Addr}{r:List Int} (h:H a=some (.tup (r.map V.int))):Aa p H (AJ r) (.ref a):=Aa.tup h Ac.ofInts
theorem Ab.own {H':Hp}{b:Addr}{o:HO} (s:Ab H H') (n:H b=none):Ab H (upd H' b o):=λx u q=>by rw [Ar (Bb q n)];exact s x u q
theorem Ac.four {a b c d:PyData} (r:Ac p H [a,b,c,d] xs):∃x y z w,xs=[x,y,z,w]/\Aa p H a x/\Aa p H b y/\Aa p H c z/\Aa p H d w:=by
 unfold Ac at r;obtain⟨x,s,rfl,hx,r⟩:=r;unfold Ac at r;obtain⟨y,s,rfl,hy,r⟩:=r;unfold Ac at r;obtain⟨z,s,rfl,hz,r⟩:=r;unfold Ac at r;obtain⟨w,s,rfl,hw,r⟩:=r;unfold Ac at r;subst r;exact⟨x,y,z,w,rfl,hx,hy,hz,hw⟩
theorem OR {a b:V} (h:(!decide (a=b))=true):a≠b:=by simpa using h
structure Small (n k:Nat) (d:PyData):Prop where
 w:B0 d<=n
 dp:d.depth<=k
 nd:d.hasDict=false
theorem IP:∀ {ds:List PyData},(∀d∈ds,Small n k d)->Dc ds<=(n+2) * ds.length/\PyData.depthAll ds<=k/\PyData.hasDictAll ds=false
 | [],_=>⟨by unfold Dc;exact Nat.zero_le _,by unfold PyData.depthAll;exact Nat.zero_le _,rfl⟩
 | d::ds,h=>by
  obtain⟨a,b,c⟩:=IP λx hx=>h x (mem_cons_of_mem _ hx)
  have s:=h d mem_cons_self;refine⟨?_,?_,?_⟩
  ·unfold Dc;rw [length_cons,Nat.mul_add];have:=s.w;omega
  ·unfold PyData.depthAll;exact Nat.max_le.mpr ⟨s.dp,b⟩
  ·unfold PyData.hasDictAll;rw [s.nd,c];rfl
theorem OS {m:Nat}{ds:List PyData} (h:∀d∈ds,Small n k d) (hm:(n+2) * ds.length+4<=m):Small m (k+1) (.tuple ds):=by
 obtain⟨a,b,c⟩:=IP h;exact⟨by unfold B0;omega,by unfold PyData.depth;omega,by unfold PyData.hasDict;exact c⟩
theorem OT {m:Nat}{ds:List PyData} (h:∀d∈ds,Small n k d) (hm:(n+2) * ds.length+4<=m):Small m (k+1) (.list ds):=by
 obtain⟨a,b,c⟩:=IP h;exact⟨by unfold B0;omega,by unfold PyData.depth;omega,by unfold PyData.hasDict;exact c⟩
theorem Small.nice {d:PyData} (h:Small n k d) (h1:n<=1000000) (h2:k<=20):Ed d:=⟨Nat.le_trans h.w h1,Nat.le_trans h.dp h2,.inl h.nd⟩
theorem KW {i:Int} (h:i.natAbs<10 ^ 6):Small 40 0 (.int i):=by
 refine⟨?_,Nat.le_refl 0,rfl⟩;unfold B0;rw [if_pos (Nat.lt_trans h (by decide))];exact Nat.le_refl _
theorem OU {ws:List Bool}{m:Int} (h0:0<=m) (h9:m<=9):0<=BN ws m/\BN ws m<=m:=by
 unfold BN;split
 ·omega
 ·split
  ·omega
  ·omega
theorem Eg {P:PL}{S:SY} (ok:P.ok):∀r∈caps P S,(∀i∈r,0<=i/\i<=9)/\r.length=P.bs.length:=λr hr=>by
 unfold caps at hr;obtain⟨h,_,rfl⟩:=mem_map.mp hr;refine⟨λi hi=>?_,Fz⟩;unfold BV at hi;obtain⟨q,hq,rfl⟩:=mem_map.mp hi;obtain⟨b1,b2,_⟩:=ok.b q.1 (List.fst_mem_of_mem_zipIdx hq);have:=OU (ws:=Bv S.fs q.2 h) (m:=q.1.1) (by omega) b2;omega
theorem OV {q:Int×Int×Int} (h1:1<=q.1) (h9:q.1<=9):0<=drawn q h/\drawn q h<=9:=by
 unfold drawn;split<;>omega
theorem OW {l:List Int} (h:∀i∈l,0<=i/\i<=9):0<=l.sum/\l.sum<=9 * l.length:=by
 induction l with
 | nil=>exact⟨Int.le_refl _,Int.le_refl _⟩
 | cons a l ih=>
  have:=h a mem_cons_self;have:=ih λi hi=>h i (mem_cons_of_mem _ hi)
  rw [sum_cons,length_cons];omega
theorem OX {P:PL}{S:SY} (ok:P.ok) {n:Nat} (so:S.ok n):∀i∈draws P S,0<=i/\i<=56:=λi hi=>by
 unfold draws at hi;obtain⟨q,hq,rfl⟩:=mem_map.mp hi;have a:=so.x q.1 (List.fst_mem_of_mem_zipIdx hq);have b:=OW (l:=P.es.map λe=>drawn e q.2) λi hi=>by
  obtain⟨e,he,rfl⟩:=mem_map.mp hi;obtain⟨e1,e2,_⟩:=ok.e e he;exact OV e1 e2
 rw [length_map] at b;have:=ok.e4;omega
def Lf (n:Nat) (f:Nat->Int):List Int:=(List.range n).map f
theorem EN {f:Nat->Int}:(Lf n f).length=n:=by unfold Lf;simp
theorem IQ {f:Nat->Int} (h:i<n):(Lf n f)[i]? =some (f i):=by unfold Lf;rw [getElem?_map,getElem?_range h];rfl
theorem OY {f g:Nat->Int} (h:∀i,i<n->f i=g i):Lf n f=Lf n g:=List.map_congr_left λi hi=>h i (mem_range.mp hi)
theorem IR {f:Nat->Int}{l:List Int} (hl:l.length=n) (h:∀i,i<n->l[i]? =some (f i)):l=Lf n f:=by
 apply ext_getElem?;intro i
 by_cases c:i<n
 ·rw [h i c,IQ c]
 ·rw [getElem?_eq_none (by omega),getElem?_eq_none (by rw [EN];omega)]
theorem OZ {f:Nat->Int}{v:Int}:(Lf n f).set i v=Lf n λh=>if h=i then v else f h:=by
 refine IR (by rw [length_set,EN]) λk hk=>?_
 rw [getElem?_set]
 by_cases c:i=k
 ·rw [if_pos c,if_pos c.symm,if_pos (by rw [EN];omega)]
 ·rw [if_neg c,if_neg (Ne.symm c),IQ hk]
theorem GD {l:List Int} (h:i<l.length):l[i]? =some (l.getD i 0):=by rw [getD_eq_getElem?_getD,getElem?_eq_getElem h];rfl
def dF (P:PL) (S:SY) (k h:Nat):Int:=S.ex.getD h 0+((P.es.take k).map λe=>drawn e h).sum
theorem O1 {P:PL}{S:SY}:draws P S=Lf S.ex.length (dF P S P.es.length):=by
 refine IR CJ λi hi=>?_
 rw [KT (GD hi)];unfold dF;rw [take_length]
theorem O2 {P:PL}{S:SY}:S.ex=Lf S.ex.length (dF P S 0):=by
 refine IR rfl λi hi=>?_
 rw [GD hi];unfold dF;rw [take_zero,map_nil,sum_nil,Int.add_zero]
def CT (f e:Int) (j h:Nat):Bool:=(List.range j).any λt=>(h:Int)==f+t * e
def iF (P:PL) (S:SY) (k:Nat) (q:Int×Int×Int) (j h:Nat):Int:=dF P S k h+if CT q.2.1 q.2.2 j h then q.1 else 0
theorem O3 {P:PL}{S:SY}{q:Int×Int×Int}:iF P S k q 0=dF P S k:=by
 funext h
 unfold iF CT;rw [List.range_zero,List.any_nil,if_neg (by decide),Int.add_zero]
theorem hitE_iff {f e:Int}{h:Nat}:CT f e j h=true↔ ∃t:Nat,t<j/\(h:Int)=f+t * e:=by
 unfold CT;rw [any_eq_true];constructor
 ·rintro⟨t,ht,e⟩;exact⟨t,mem_range.mp ht,by simpa using e⟩
 ·rintro⟨t,ht,e⟩;exact⟨t,mem_range.mpr ht,by simpa using e⟩
theorem O4 {P:PL}{S:SY}{q:Int×Int×Int} (he:1<=q.2.2) (hi:(i:Int)=q.2.1+j * q.2.2):(λh=>if h=i then iF P S k q j i+q.1 else iF P S k q j h)=iF P S k q (j+1):=by
 funext h
 by_cases c:h=i
 ·subst c;rw [if_pos rfl];unfold iF;have n1:CT q.2.1 q.2.2 j h=false:=by
   cases z:CT q.2.1 q.2.2 j h with
   | false=>rfl
   | true=>
    obtain⟨t,ht,e⟩:=hitE_iff.mp z;rw [hi] at e;have e2:(j:Int) * q.2.2=t * q.2.2:=by omega
    have:=Int.eq_of_mul_eq_mul_right (by omega) e2;omega
  have n2:CT q.2.1 q.2.2 (j+1) h=true:=hitE_iff.mpr ⟨j,by omega,hi⟩;rw [n1,n2,if_neg (by decide),if_pos rfl];omega
 ·rw [if_neg c];unfold iF;have e:CT q.2.1 q.2.2 (j+1) h=CT q.2.1 q.2.2 j h:=by
   rw [Bool.eq_iff_iff,hitE_iff,hitE_iff];constructor
   ·rintro⟨t,ht,e⟩
    by_cases z:t=j
    ·subst z;exact absurd (by omega) c
    ·exact⟨t,by omega,e⟩
   ·rintro⟨t,ht,e⟩;exact⟨t,by omega,e⟩
  rw [e]
theorem KY {f e:Int}{t:Nat} (he:1<=e):t<CS f n e↔f+t * e<n:=by
 unfold CS Builtin.Range.rangeSize;rw [if_pos (by omega)]
 by_cases c:f<n
 ·rw [if_pos c];have h1:0<=((n:Int)-f-1)/ e:=Int.ediv_nonneg (by omega) (by omega);have h2:(t:Int)<=((n:Int)-f-1)/ e↔(t:Int) * e<=(n:Int)-f-1:=Int.le_ediv_iff_mul_le (by omega);constructor
  ·intro h;have:=h2.mp (by omega);omega
  ·intro h;have:=h2.mpr (by omega);omega
 ·rw [if_neg c];have h3:0<=(t:Int) * e:=Int.mul_nonneg (by omega) (by omega);constructor
  ·intro h;exact absurd h (Nat.not_lt_zero _)
  ·intro h;omega
theorem O5 {P:PL}{S:SY}{q:Int×Int×Int} (hq:P.es[k]? =some q) (he:1<=q.2.2):∀h,h<n->iF P S k q (CS q.2.1 n q.2.2) h=dF P S (k+1) h:=λh hh=>by
 unfold iF dF;rw [A9 hq,map_append,sum_append,map_cons,map_nil,sum_cons,sum_nil,Int.add_zero];have e:(if CT q.2.1 q.2.2 (CS q.2.1 n q.2.2) h=true then q.1 else 0)=drawn q h:=by
  unfold drawn
  by_cases c:(h:Int)<q.2.1\/((h:Int)-q.2.1) % q.2.2≠0
  ·rw [if_pos c,if_neg];intro z;obtain⟨t,ht,e⟩:=hitE_iff.mp z;have h3:0<=(t:Int) * q.2.2:=Int.mul_nonneg (by omega) (by omega);rcases c with c | c
   ·omega
   ·apply c;rw [e,show q.2.1+(t:Int) * q.2.2-q.2.1=t * q.2.2 by omega];exact Int.mul_emod_left _ _
  ·rw [if_neg c,if_pos];have c1:¬(h:Int)<q.2.1:=λz=>c (.inl z)
   have c2:((h:Int)-q.2.1) % q.2.2=0:=by
    cases Int.decEq (((h:Int)-q.2.1) % q.2.2) 0 with
    | isTrue z=>exact z
    | isFalse z=>exact absurd (.inr z) c
   have hd:((h:Int)-q.2.1)/ q.2.2 * q.2.2=(h:Int)-q.2.1:=Int.ediv_mul_cancel (Int.dvd_of_emod_eq_zero c2);have h0:0<=((h:Int)-q.2.1)/ q.2.2:=Int.ediv_nonneg (by omega) (by omega);have ht:(((((h:Int)-q.2.1)/ q.2.2).toNat:Nat):Int)=((h:Int)-q.2.1)/ q.2.2:=by omega
   refine hitE_iff.mpr ⟨(((h:Int)-q.2.1)/ q.2.2).toNat,(KY he).mpr ?_,?_⟩
   ·rw [ht,hd];omega
   ·rw [ht,hd];omega
 rw [e,Int.add_assoc]
theorem O6 (h:i<n):Ct n (i:Int)=some i:=by
 unfold Ct;rw [if_pos (by omega),if_pos (by omega)]
 rfl
theorem O7 {m:Int} (c:ws.any id=false):m /(1+if ws.any (!·)=true then 1 else 0)=BN ws m:=by
 unfold BN;rw [c,if_neg (by decide:¬(false=true))];cases ws.any (!·) with
 | true=>rfl
 | false=>exact Int.ediv_one _
end MF
end
section
namespace L2
section
variable {X : Cx}
def O8:List V->Hp->VK->Prop:=λxs H Q=>∃(p:Addr) (ns:List Int),xs=[.ref p]/\(H p=some (.lst (ns.map V.int))\/H p=some (.tup (ns.map V.int)))/\Q (.int ns.sum) H
theorem DH (hc:X.calm=true):Bk X (.builtin "sum") O8:=by
 intro pins s σ H xs us Q I r h;obtain⟨p,ns,rfl,hp,q⟩:=h;rcases hp with hp | hp
 ·exact Gz hc pins s σ H _ us Q I r ⟨p,ns,rfl,hp,q⟩
 obtain⟨u,rfl,ru⟩:=r.one;cases ru;obtain⟨its,rv,pl,hz⟩:=I.tuple (Ae.of hp);have hi:=IM rv;obtain⟨xs,hx⟩:=AllInts.items hi.allInts;have e1:ns=xs.toList.map (λx=>x.fst):=by rw [<-nums_intItems,<-hx,List.toList_toArray,hi.numsOf]
 have e2:preSum (numAt xs) xs.size=ns.sum:=by
  rw [preSum_eq,take_of_length_le (by simp),<-e1]
 have hl:s.heap.IsTuple p (intItems xs):=hx ▸(show s.heap.IsTuple p its.toArray from pl);refine call_sum_walkG (wpAny_pyIter_tuple hl ?_);have hlt:p<s.heap.objs.size:=by
  obtain⟨o,ho,_⟩:=id hl;exact Heap.lt_size ho
 refine⟨s.heap.objs.size,_,_,_,_,_,numAt xs,rfl,Walks.tuple (A:=X.A.in1) (I.ok.hd hc) s.heap.objs.size p (Nat.ne_of_lt hlt) (intItems xs),⟨⟨_,Heap.get?_push_size _ rfl,rfl,rfl⟩,?_⟩,λb hb=>?_,λi v hv=>intItems_at hv,λh' tk t' hk=>?_⟩
 ·obtain⟨o,ho,ho2⟩:=id hl;exact⟨o,Heap.get?_push_of_some _ ho,ho2⟩
 ·have:b=s.heap.objs.size\/b=p:=by simpa using hb
  rw [show(s.heap.push _).objs.size=s.heap.objs.size+1 from Array.size_push _];rcases this with rfl | rfl
  ·exact Nat.lt_succ_self _
  ·exact Nat.lt_succ_of_lt hlt
 ·have e3:(intItems xs).size=xs.size:=Array.size_map;rw [e3,e2];refine⟨.int ns.sum,H,I.kept λb o eb=>hk b o ?_ (Heap.get?_push_of_some _ eb),⟨t',rfl⟩,q⟩;intro z;have z':b=s.heap.objs.size:=by simpa using z
  exact absurd (Heap.lt_size eb) (by rw [z'];exact Nat.lt_irrefl _)
end
end L2
end
section
namespace MF
open L2
variable {H H' : Hp} {P : PL} {S : SY} {p : Addr} {F : List (List Int)} {v u : V} {i k : Nat}
theorem _root_.L2.walk_zip {P:Program}{w:World}{K:Fgx}{S1 S2:AW P w K}{a b:Addr}{xs ys:List V}{cap:List (Option Nat)}{g:TG}{tt:TT}{te:TE}{σ:L2.St}{Q:List V->Hp->Prop}{H:Hp} (Pv:Nat->List V->Hp->Prop) (hn:xs.length<=100000) (he:xs.length=ys.length) (h0:Pv 0 [] H) (hz:∀i zs H,Pv i zs H->zs.length<=i)
  (hl:∀i zs H,Pv i zs H->S1.Sq H a xs/\S2.Sq H b ys)
  (hs:∀i x y zs H T,xs[i]? =some x->ys[i]? =some y->Pv i zs H->H T=none->g (.ref T) (AL cap σ) (upd H T (.tup [x,y])) fun σ2 H2=>Keep (AL cap σ) σ2/\tt σ2 H2 λb H3=>br b (te σ2 H3 λy H4=>Pv (i+1) (zs++[y]) H4) (Pv (i+1) zs H3))
  (hd:∀zs H,Pv xs.length zs H->Q zs H):D8 (Gv S1 S2 a b) cap g tt te σ Q H:=
 EH xs.length Pv hn h0 hz (λi zs H hi p=>by
  obtain⟨q1,q2⟩:=hl i zs H p;have hy:i<ys.length:=by omega
  refine⟨⟨xs,ys,xs[i],ys[i],q1,q2,by simp [hi],by simp [hy]⟩,λv H' ⟨T,e,n,y⟩=>?_⟩;subst e;rw [y xs ys xs[i] ys[i] q1 q2 (by simp [hi]) (by simp [hy])];exact hs i xs[i] ys[i] zs H T (by simp [hi]) (by simp [hy]) p n)
  λzs H p=>⟨⟨xs,ys,(hl _ zs H p).1,(hl _ zs H p).2,rfl⟩,hd zs H p⟩
theorem Ab.evOwn {H2:Hp}{R:Addr} (s:Ab H H2) (n:H R=none) (e:Ev R H2 H'):Ab H H':=λb o q=>(e b o (s b o q)).elim (fun⟨z,_⟩=>by rw [z,n] at q;cases q) id
def FD (F:List (List Int)):PyData:= .tuple (F.map AJ)
structure FOk (P:PL) (S:SY) (F:List (List Int)):Prop where
 len:F.length=S.ex.length
 row:∀(i:Nat) (r:List Int),F[i]? =some r->r.length=P.bs.length
 bd:∀(i:Nat) (r:List Int) (j:Nat) (x c:Int),F[i]? =some r->r[j]? =some x->(BV P.bs S.fs i)[j]? =some c->0<=x/\x<=c
theorem FOk.caps (ok:P.ok):FOk P S (caps P S):=by
 refine⟨Dg,λi r hr=>?_,λi r j x c hr hx hc=>?_⟩
 ·exact(Eg ok r (mem_of_getElem? hr)).2
 ·have hi:i<S.ex.length:=by
   have:=(List.getElem?_eq_some_iff.mp hr).1;rw [Dg] at this;exact this
  rw [De hi] at hr;cases hr;rw [hx] at hc;cases hc;have:=(Eg (S:=S) ok _ (mem_of_getElem? (De hi))).1 x (mem_of_getElem? hx);omega
structure Tri (p:Addr) (H:Hp) (P:PL) (S:SY) (F:List (List Int)) (v u w:V):Prop where
 ok:P.ok
 so:S.ok P.bs.length
 fo:FOk P S F
 r:Aa p H P.d v
 ru:Aa p H S.d u
 rw:Aa p H (FD F) w
theorem Tri.ev {w:V} (t:Tri p H P S F v u w) (e:Ev p H H'):Tri p H' P S F v u w:=⟨t.ok,t.so,t.fo,Aa.ev e _ _ t.r,Aa.ev e _ _ t.ru,Aa.ev e _ _ t.rw⟩
theorem Tri.sm {w:V} (t:Tri p H P S F v u w) (e:Ab H H'):Tri p H' P S F v u w:=t.ev (Ev.same e)
def made (F:List (List Int)) (i:Nat):Int:=(F.getD i []).sum
def Cu (P:PL) (S:SY) (i:Nat):Int:=(draws P S).getD i 0
def Bc (hi m:Int):Int:=if 0>m-hi then 0 else m-hi
def AH (P:PL) (S:SY) (F:List (List Int)):Nat->Int
 | 0=>P.st
 | i+1=>AH P S F i+(made F i-Cu P S i)-Bc P.hi (AH P S F i+(made F i-Cu P S i))
def AO (P:PL) (S:SY) (F:List (List Int)) (i:Nat):Int:=AH P S F i+(made F i-Cu P S i)
theorem EO:AH P S F (i+1)=AO P S F i-Bc P.hi (AO P S F i):=rfl
def IS (P:PL) (S:SY) (F:List (List Int)) (i:Nat):PyData:= .tuple [.int (made F i),.int (Cu P S i),.int (Bc P.hi (AO P S F i)),.int (AH P S F (i+1))]
def Cg (P:PL) (S:SY) (F:List (List Int)) (k:Nat):List PyData:=(List.range k).map (IS P S F)
theorem KZ:Cg P S F (k+1)=Cg P S F k++[IS P S F k]:=by unfold Cg;rw [range_succ,map_append];rfl
theorem K0:(Cg P S F k).length=k:=by unfold Cg;simp
def Eh:Option (Int×Int)->PyData
 | none=> .none
 | some q=> .tuple [.int q.1,.int q.2]
structure Run (P:PL) (S:SY) (F:List (List Int)) (k:Nat) (s:Option (Int×Int)):Prop where
 le:k<=S.ex.length
 up:∀i,i<k->P.lo<=AO P S F i
 fin:(s=none/\k=S.ex.length)\/(k<S.ex.length/\AO P S F k<P.lo/\s=some ((k:Int),P.lo-AO P S F k))
theorem Run.uniq {k':Nat}{s s':Option (Int×Int)} (h:Run P S F k s) (h':Run P S F k' s'):k=k'/\s=s':=by
 have e:k=k':=by
  rcases Nat.lt_trichotomy k k' with c | c | c
  ·have:=h'.up k c;rcases h.fin with⟨_,z⟩ | ⟨_,z,_⟩
   ·have:=h'.le;omega
   ·omega
  ·exact c
  ·have:=h.up k' c;rcases h'.fin with⟨_,z⟩ | ⟨_,z,_⟩
   ·have:=h.le;omega
   ·omega
 subst e;refine⟨rfl,?_⟩;rcases h.fin with⟨a,b⟩ | ⟨a,b,c⟩<;>rcases h'.fin with⟨a',b'⟩ | ⟨a',b',c'⟩
 ·rw [a,a']
 ·omega
 ·omega
 ·rw [c,c']
theorem K1 {r:List Int} (h:F[i]? =some r):made F i=r.sum:=by unfold made;rw [getD_eq_getElem?_getD,h];rfl
theorem K2 {d:Int} (h:(draws P S)[i]? =some d):Cu P S i=d:=by unfold Cu;rw [getD_eq_getElem?_getD,h];rfl
end MF
end
section
namespace MF
open L2
end MF
end
section
namespace L2
theorem O9 (l:Addr) (items:Array Value) (n:Nat) (dd:Option Addr) (sl:Array (Option Value)) (u:Tok):
  Meets (Builtin.«tuple.__mul__» ⟨[.ref l,.int 1 u],[]⟩) (λ_ R s=>s.heap.get? l=some { cls:= .type "tuple",dict:=dd,data:= .seq items n,slots:=sl}/\R (.ok (.ret (Value.ref l))) s):=
 .of_wp λprog w A R s h=>by
  obtain⟨hp,g,d,tk,os⟩:=s;obtain⟨hl,h⟩:=h;have f1:=AutoSeq1.idx_int;have f2:=AutoSeq1.sub_tuple_tuple;have ht:IsTup hp l items:=⟨_,hl,rfl,n,rfl⟩
  wp_walk using wpAny_loadPart' hl
  exact⟨_,rfl,h⟩
section
variable {X : Cx}
def Pa:R2:=λx y H Q=>∃a k xs,x= .ref a/\y= .int k/\H a=some (.tup xs)/\xs≠ []/\1<=k/\k<=100/\xs.length<=100/\EL H (List.replicate k.toNat xs).flatten Q
theorem Pb:OpR X (binaryOp .Mult) Pa:=by
 intro pins s σ H x y v u Q I rx ry h;obtain⟨a,k,xs,rfl,rfl,ha,hx,h1,h2,h3,q⟩:=h
 by_cases hk:k=1
 ·subst hk;cases rx;obtain⟨t,rfl⟩:=ry;obtain⟨its,r,ht,hz⟩:=I.tuple (Ae.of ha);obtain⟨⟨cls,dd,data,sl⟩,ho,hc,n,hd⟩:=id ht;simp only at hc hd;subst hc hd;refine wpAny_binaryOp_repeat_ref (T:="tuple") (U:="int") (by decide) ⟨_,ho,rfl⟩ (λs'=>typeIs_int s' 1 t) KB F.fills_int_mul F.slot_int_rmul KC F.slot_int_index.lookup
   (call_meets F.slot_int_rmul (typeIs_int s 1 t) F.entry_int_rmul (F.args_int_rmul_2 _ _) (KD 1 t a its.toArray n dd sl) ⟨ho,rfl,⟨_,ho,rfl⟩,?_⟩)
  refine call_meets F.slot_tuple_mul ⟨_,ho,rfl⟩ F.entry_tuple_mul (F.args_tuple_mul_2 _ _) (O9 a its.toArray n dd sl t) ⟨ho,?_⟩;refine⟨.ref a,H,I,rfl,q a H (Ab.refl _) ?_⟩;rw [ha];simp
 ·exact OC pins s σ H _ _ v u Q I rx ry ⟨a,k,xs,rfl,rfl,ha,hx,by omega,h2,h3,q⟩
end
end L2
end
section
namespace L2
variable {sc : Scope} {pos : Pos}
section
variable {X : Cx}
def GE (sc:Scope) (x:Str):Bool:=match sc.names.lookup x with | some .local =>true | some .cell=>true | some .free=>true | _=>false
def GF (sc:Scope) (x:Str):Bool:=match sc.names.lookup x with | some .local =>true | some .cell=>true | _=>false
def GG (sc:Scope) (x:Str):Bool:=match sc.names.lookup x with | some .local =>true | _=>false
theorem Pc {x:Str} (h:GE sc x=true):DY sc x:=by
 unfold GE at h;split at h
 ·exact .inl (by assumption)
 ·exact .inr (.inl (by assumption))
 ·exact .inr (.inr (by assumption))
 ·cases h
theorem Az {x:Str} (h:GF sc x=true):Dt sc x:=by
 unfold GF at h;split at h
 ·exact .inl (by assumption)
 ·exact .inr (by assumption)
 ·cases h
theorem CU {f:Bool}{x:Str} (h:(f || GG sc x)=true):f=true\/sc.names.lookup x=some .local :=by
 rcases Bool.or_eq_true_iff.mp h with h | h
 ·exact .inl h
 ·unfold GG at h;split at h
  ·exact .inr (by assumption)
  ·cases h
theorem cw (i:Nat) {x:Str}{pos:Pos} (hN:X.N[i]? =some x) (hv:GE X.env.scope x=true) (hd:(x==("__debug__" :Str) || x==("__classdict__" :Str))=false):PE X (.Name x pos) (Fu i):=
 cv i hN (Pc hv) (Bool.or_eq_false_iff.mp hd).1 (Bool.or_eq_false_iff.mp hd).2
theorem Pd {x:Str} (i:Nat) (hN:X.N.Nodup) (hi:X.N[i]? =some x) (hx:GF X.env.scope x=true) (hf:(X.fn x || GG X.env.scope x)=true):PG X (.Name x pos) (Dy i):=MS hN hi (Az hx) (CU hf)
def K3 (X:Cx) (i:Nat) (x:Str):Bool:=X.N[i]? ==some x &&(GE X.env.scope x && !(x==("__debug__" :Str) || x==("__classdict__" :Str)))
theorem cx (i:Nat) {x:Str}{pos:Pos} (h:K3 X i x=true):PE X (.Name x pos) (Fu i):=by
 obtain⟨h1,h2⟩:=Bool.and_eq_true_iff.mp h;obtain⟨h2,h3⟩:=Bool.and_eq_true_iff.mp h2;exact cw i (eq_of_beq h1) h2 (by simpa using h3)
def K4 (X:Cx) (i:Nat) (x:Str):Bool:=X.N[i]? ==some x &&(GF X.env.scope x &&(X.fn x || GG X.env.scope x))
theorem Pe {x:Str} (i:Nat) (hN:X.N.Nodup) (h:K4 X i x=true):PG X (.Name x pos) (Dy i):=by
 obtain⟨h1,h2⟩:=Bool.and_eq_true_iff.mp h;obtain⟨h2,h3⟩:=Bool.and_eq_true_iff.mp h2;exact Pd i hN (eq_of_beq h1) h2 h3
theorem AB {l:List Str} (h:decide l.Nodup=true):l.Nodup:=of_decide_eq_true h
def nS:Expr->Bool | .Starred _ _=>false | _=>true
theorem GH {e:Expr}{es:List Expr}{env:Env} (h:nS e=true):starEach (e::es) env=(false,eval e env)::starEach es env:=by
 cases e<;>first | rfl | exact absurd h Bool.false_ne_true
section
variable {e1 e2 e3 e4 : Expr} {t1 t2 t3 t4 : TE}
theorem Ch (h1:PE X e1 t1) (hs:nS e1=true):PA X [e1] (Bn t1 CP):=AV h1 BK (GH hs)
theorem Be (h1:PE X e1 t1) (h2:PE X e2 t2) (hs:(nS e1 && nS e2)=true):PA X [e1,e2] (Bn t1 (Bn t2 CP)):=AV h1 (Ch h2 (Bool.and_eq_true_iff.mp hs).2) (GH (Bool.and_eq_true_iff.mp hs).1)
theorem DI (h1:PE X e1 t1) (h2:PE X e2 t2) (h3:PE X e3 t3) (hs:(nS e1 &&(nS e2 && nS e3))=true):PA X [e1,e2,e3] (Bn t1 (Bn t2 (Bn t3 CP))):=AV h1 (Be h2 h3 (Bool.and_eq_true_iff.mp hs).2) (GH (Bool.and_eq_true_iff.mp hs).1)
theorem Ei (h1:PE X e1 t1) (h2:PE X e2 t2) (h3:PE X e3 t3) (h4:PE X e4 t4) (hs:(nS e1 &&(nS e2 &&(nS e3 && nS e4)))=true):PA X [e1,e2,e3,e4] (Bn t1 (Bn t2 (Bn t3 (Bn t4 CP)))):=AV h1 (DI h2 h3 h4 (Bool.and_eq_true_iff.mp hs).2) (GH (Bool.and_eq_true_iff.mp hs).1)
end
end
end L2
end
section
namespace L2
section
variable {X : Cx}
theorem cy (i:Nat) {x:Str}{pos:Pos} (h:K3 X i x=true:=by rfl):PE X (.Name x pos) (Fu i):=cx i h
theorem Ag {x:Str}{pos:Pos} (i:Nat) (hN:X.N.Nodup) (h:K4 X i x=true:=by rfl):PG X (.Name x pos) (Dy i):=Pe i hN h
section
variable {e1 e2 e3 e4 : Expr} {t1 t2 t3 t4 : TE}
theorem Ak (h1:PE X e1 t1) (hs:nS e1=true:=by rfl):PA X [e1] (Bn t1 CP):=Ch h1 hs
theorem Aq (h1:PE X e1 t1) (h2:PE X e2 t2) (hs:(nS e1 && nS e2)=true:=by rfl):PA X [e1,e2] (Bn t1 (Bn t2 CP)):=Be h1 h2 hs
theorem AM (h1:PE X e1 t1) (h2:PE X e2 t2) (h3:PE X e3 t3) (hs:(nS e1 &&(nS e2 && nS e3))=true:=by rfl):PA X [e1,e2,e3] (Bn t1 (Bn t2 (Bn t3 CP))):=DI h1 h2 h3 hs
theorem Bp (h1:PE X e1 t1) (h2:PE X e2 t2) (h3:PE X e3 t3) (h4:PE X e4 t4) (hs:(nS e1 &&(nS e2 &&(nS e3 && nS e4)))=true:=by rfl):PA X [e1,e2,e3,e4] (Bn t1 (Bn t2 (Bn t3 (Bn t4 CP)))):=Ei h1 h2 h3 h4 hs
end
end
end L2
end
section
namespace L2
section
variable {X : Cx}
end
end L2
namespace MF
open L2
end MF
end
section
namespace L2
abbrev DJ (elt tg1 it1:Expr) (ifs1:List Expr) (tg2 it2:Expr) (ifs2:List Expr) (scope:Scope) (pos:Pos):Expr:= .ListComp elt [⟨tg1,it1,ifs1,0⟩,⟨tg2,it2,ifs2,0⟩] scope pos
section
variable {prog : Program} {w : World} {A : Around} {R : Result -> Shared -> Prop} {s : Shared} {elt tg1 it1 tg2 it2 : Expr} {ifs1 ifs2 : List Expr} {scope : Scope} {pos : Pos} {it acc : Value} {env : Env}
theorem Pf (h0:codeAny (model prog w) A (.compLoop (DJ elt tg1 it1 ifs1 tg2 it2 ifs2 scope pos) 1 it acc env) R s)
  (h:wpAny (model prog w) A (pyIter it) (λit' s'=>codeAny (model prog w) A (.compLoop (DJ elt tg1 it1 ifs1 tg2 it2 ifs2 scope pos) 1 it' acc env) R s') (notedBy (model prog w) A env λx s'=>R (.error x) s') s):
  codeAny (model prog w) A (.compStart (DJ elt tg1 it1 ifs1 tg2 it2 ifs2 scope pos) 1 it acc env) R s:=by
 refine codeAny_of_tree (id (wpAny_notedAt (id (id (wpAny_bind (wpAny_askSetting (wpAny_ite ?_)))))));split
 ·exact wpAny_bind (wpAny_pure (wpAny_pure ⟨rfl,h0⟩))
 ·exact wpAny_bind (wpAny_rule (wpAny_bind (wpAny_standAt (wpAny_bind (wpAny_mono h (λit' s' h'=>wpAny_pure ⟨rfl,h'⟩) λ_ _ z=>z)))))
end
def GI (wi2:TI) (g2:TG) (tt2:TT) (te:TE):St->List V->Hp->(List V->Hp->Prop)->Prop:=fun σ ys H N=>wi2 σ H λJ H1=>
 ∃W:Nat->Nat->List V->Hp->Prop,(∃m,W 0 m ys H1)/\∀j m zs H,W j m zs H->
  (J.stop j H/\N zs H)\/
  (J.go j H /\ zs.length < sizeLine /\ ∃ N2 : List V -> Hp -> Prop, (∀ zs' H', N2 zs' H' -> ∃ m', m' < m /\ W (j + 1) m' zs' H') /\ ∀ x H', J.yld j H x H' -> g2 x σ H' fun σ3 H2 => Keep σ σ3 /\ tt2 σ3 H2 λb H3 =>
   br b (te σ3 H3 λy H4=>N2 (zs++[y]) H4) (N2 zs H3))
def IT (wi:TI) (cap:List (Option Nat)) (g:TG) (tt:TT) (wi2:TI) (g2:TG) (tt2:TT) (te:TE):St->Hp->(List V->Hp->Prop)->Prop:=fun σ H Q=>wi σ H λJ H1=>
 ∃W:Nat->Nat->List V->Hp->Prop,(∃m,W 0 m [] H1)/\∀i m ys H,W i m ys H->
  (J.stop i H/\Q ys H)\/
  (J.go i H /\ ∃ N : List V -> Hp -> Prop, (∀ ys' H', N ys' H' -> ∃ m', m' < m /\ W (i + 1) m' ys' H') /\ ∀ x H', J.yld i H x H' -> g x (AL cap σ) H' fun σ2 H2 => Keep (AL cap σ) σ2 /\ tt σ2 H2 λb H3 =>
   br b (GI wi2 g2 tt2 te σ2 ys H3 N) (N ys H3))
theorem K5 {X:Cx}{tg iter tg2 iter2 elt:Expr}{ifs ifs2:List Expr}{scope:Scope}{pos pos':Pos}{wi wi2:TI}{g g2:TG}{tt tt2:TT}{te:TE}{N':List Str}{cap:List (Option Nat)}{use:Option (Value->Sem Unit)}{Q':VSP}
  {pins:PNs}{s:Shared}{σ:St}{H:Hp}{Q:List V->Hp->Prop}
  (hc:X.calm=true) (hi:PI X tg iter wi) (B:AE X.env.scope X.N scope N' cap) (hg:∀s H ex C,PG (AK X N' scope s H ex C) tg g) (ht:∀s H ex C,BM (AK X N' scope s H ex C) ifs tt)
  (hi2:∀s H ex C,PI (AK X N' scope s H ex C) tg2 iter2 wi2) (hg2:∀s H ex C,PG (AK X N' scope s H ex C) tg2 g2) (ht2:∀s H ex C,BM (AK X N' scope s H ex C) ifs2 tt2) (he:∀s H ex C,PE (AK X N' scope s H ex C) elt te)
  (hs:∀x,foldedSetIterable iter X.env x=pure x) (hs2:∀env x,foldedSetIterable iter2 env x=pure x) (I:Ad X pins σ H s) (h:IT wi cap g tt wi2 g2 tt2 te σ H Q)
  (fin:∀(acc C:Addr) (H:Hp) (ys:List V) (s':Shared),H acc=none->Ad X pins σ (upd H acc (.lst ys)) s'->Gj X pins C (upd H acc (.lst ys)) s'->Q ys H->compPost (model X.prog X.w) X.A X.xe use Q' (.ref acc) C (.ok .next) s'):
  wpAny (model X.prog X.w) X.A (comprehension (DJ elt tg iter ifs tg2 iter2 ifs2 scope pos) scope X.env pos' (newList []) false (eval iter X.env) use) Q' X.xe s:=
 Kq NZ (body:=λitv acc env=>ID (DJ elt tg iter ifs tg2 iter2 ifs2 scope pos) 0 iter2 itv acc env) (Bt:=Kp Km wi2 g2 tt2 (IE te)) (Cd:=λ_=>True) hc hi B hg ht (λ_ _ _=>rfl)
  (λs H ex C a A=>N0 (body:=λitv=>Gk (DJ elt tg iter ifs tg2 iter2 ifs2 scope pos) 1 elt itv (.ref a) _) A rfl (hs2 _) (λ_=>rfl) Pf (hi2 s H ex C) (hg2 s H ex C) (ht2 s H ex C) (Ko A rfl (he s H ex C)) λ_ _ z=>z) (λ_ _ z=>⟨trivial,z⟩) hs I h fin
def Pg (wi:TI) (cap:List (Option Nat)) (g:TG) (tt:TT) (wi2:TI) (g2:TG) (tt2:TT) (te:TE):TE:=fun σ H Q=>IT wi cap g tt wi2 g2 tt2 te σ H λys H'=>∀p,H' p=none->Q (.ref p) (upd H' p (.lst ys))
theorem Ph {X:Cx}{tg iter tg2 iter2 elt:Expr}{ifs ifs2:List Expr}{scope:Scope}{pos:Pos}{wi wi2:TI}{g g2:TG}{tt tt2:TT}{te:TE} (N':List Str) (cap:List (Option Nat))
  (hc:X.calm=true) (hi:PI X tg iter wi) (B:AE X.env.scope X.N scope N' cap) (hg:∀s H ex C,PG (AK X N' scope s H ex C) tg g) (ht:∀s H ex C,BM (AK X N' scope s H ex C) ifs tt)
  (hi2:∀s H ex C,PI (AK X N' scope s H ex C) tg2 iter2 wi2) (hg2:∀s H ex C,PG (AK X N' scope s H ex C) tg2 g2) (ht2:∀s H ex C,BM (AK X N' scope s H ex C) ifs2 tt2) (he:∀s H ex C,PE (AK X N' scope s H ex C) elt te)
  (hs:∀x,foldedSetIterable iter X.env x=pure x:=by intro _;rfl) (hs2:∀env x,foldedSetIterable iter2 env x=pure x:=by intro _ _;rfl):PE X (.ListComp elt [⟨tg,iter,ifs,0⟩,⟨tg2,iter2,ifs2,0⟩] scope pos) (Pg wi cap g tt wi2 g2 tt2 te):=by
 intro pins s σ H Q I h;rw [eval_ListComp];refine K5 (use:=none) hc hi B hg ht hi2 hg2 ht2 he hs hs2 I h λacc C H ys s' hn I' L q=>?_
 obtain⟨m,hm⟩:=L.ns;refine⟨m,hm,λh' hsb=>⟨.ref acc,_,I'.turned (t':=s'.toks) (it:=C) (λb o hb e=>hsb.extBut b o hb e) L.free L.loc (.inr L.sz) L.cell L.pin,rfl,q acc hn⟩⟩
end L2
end
section
namespace L2
section
variable {X : Cx}
end
def K6 (J:It) (g2:TG) (tt2:TT) (te:TE) (σ:St) (ys:List V) (N:List V->Hp->Prop) (H1:Hp):Prop:=
 ∃W:Nat->Nat->List V->Hp->Prop,(∃m,W 0 m ys H1)/\∀j m zs H,W j m zs H->
  (J.stop j H/\N zs H)\/
  (J.go j H /\ zs.length < sizeLine /\ ∃ N2 : List V -> Hp -> Prop, (∀ zs' H', N2 zs' H' -> ∃ m', m' < m /\ W (j + 1) m' zs' H') /\ ∀ x H', J.yld j H x H' -> g2 x σ H' fun σ3 H2 => Keep σ σ3 /\ tt2 σ3 H2 λb H3 =>
   br b (te σ3 H3 λy H4=>N2 (zs++[y]) H4) (N2 zs H3))
theorem Pi {P:Program}{w:World}{K:Fgx}{S:AW P w K}{a:Addr}{xs:List V}{g:TG}{tt:TT}{te:TE}{σ:St}{ys:List V}{Q:List V->Hp->Prop}{H:Hp} (Pv:Nat->List V->Hp->Prop) (h0:Pv 0 ys H) (hz:∀i zs H,Pv i zs H->zs.length<100000)
  (hl:∀i zs H,Pv i zs H->S.Sq H a xs)
  (hs:∀i x zs H T,xs[i]? =some x->Pv i zs H->H T=none->g (.ref T) σ (upd H T (.tup [.int i,x])) fun σ2 H2=>Keep σ σ2/\tt σ2 H2 λb H3=>br b (te σ2 H3 λy H4=>Pv (i+1) (zs++[y]) H4) (Pv (i+1) zs H3))
  (hd:∀zs H,Pv xs.length zs H->Q zs H):K6 (D9 S a) g tt te σ ys Q H:=by
 refine⟨λi m zs H=>m=xs.length-i/\i<=xs.length/\Pv i zs H,⟨xs.length,by simp,Nat.zero_le _,h0⟩,?_⟩;rintro i m zs H ⟨rfl,hi,p⟩;have q:=hl i zs H p
 by_cases hlt:i<xs.length
 ·refine .inr ⟨⟨xs,xs[i],q,by simp [hlt]⟩,Nat.lt_trans (hz i zs H p) (by decide),Pv (i+1),λzs' H' p'=>⟨xs.length-(i+1),by omega,rfl,hlt,p'⟩,λv H' ⟨T,e,n,y⟩=>?_⟩;subst e;rw [y xs xs[i] q (by simp [hlt])];exact hs i xs[i] zs H T (by simp [hlt]) p n
 ·obtain rfl:i=xs.length:=by omega
  exact .inl ⟨⟨xs,q,rfl⟩,hd zs H p⟩
def Pj (J:It) (cap:List (Option Nat)) (g:TG) (tt:TT) (wi2:TI) (g2:TG) (tt2:TT) (te:TE) (σ:St) (Q:List V->Hp->Prop) (H1:Hp):Prop:=
 ∃W:Nat->Nat->List V->Hp->Prop,(∃m,W 0 m [] H1)/\∀i m ys H,W i m ys H->
  (J.stop i H/\Q ys H)\/
  (J.go i H /\ ∃ N : List V -> Hp -> Prop, (∀ ys' H', N ys' H' -> ∃ m', m' < m /\ W (i + 1) m' ys' H') /\ ∀ x H', J.yld i H x H' -> g x (AL cap σ) H' fun σ2 H2 => Keep (AL cap σ) σ2 /\ tt σ2 H2 λb H3 =>
   br b (GI wi2 g2 tt2 te σ2 ys H3 N) (N ys H3))
end L2
namespace MF
open L2
def B8 (P:PL) (F:List (List Int)):List Int:=(List.range P.bs.length).map λb=>(F.map λr=>r.getD b 0).sum
def coal (P:PL) (F:List (List Int)):Int:=(((B8 P F).zip P.bs).map λq=>q.1 * q.2.2).sum
end MF
end
section
namespace MF
open L2
abbrev Lt (d:PyData):List Nat:=d.shown.cps.toList
def tail (c:Nat):List PyData->List Nat
 | []=>[c]
 | d::ds=>44::32::(Lt d++tail c ds)
end MF
end
section
namespace L2
section
variable {X : Cx}
end
end L2
namespace MF
open L2
end MF
namespace L2
section
variable {X : Cx}
theorem Pk (xs:List Value):slicePick xs.toArray none none (some (-1))=xs.reverse.toArray:=by
 rw [<-OD];unfold slicePick;have e:sliceRange (sliceBounds none none (some (-1)) xs.toArray.size).fst (sliceBounds none none (some (-1)) xs.toArray.size).snd.fst (sliceBounds none none (some (-1)) xs.toArray.size).snd.snd=(List.range xs.length).map fun(k:Nat)=>(((xs.length:Int)-1)+(k:Int) *(-1)).toNat:=by
  have b:sliceBounds none none (some (-1)) xs.toArray.size=((xs.length:Int)-1,-1,-1):=by
   rw [size_toArray]
   rfl
  rw [b];unfold sliceRange;dsimp only;rw [if_neg (by decide)];have c:(if (xs.length:Int)-1> -1 then((xs.length:Int)-1- -1- -1-1)/ - -1 else 0)=(xs.length:Int):=by
   split
   ·rw [show(- -1:Int)=1 from rfl,Int.ediv_one];omega
   ·omega
  rw [c];apply List.map_congr_left;intro k _
  congr 1
  omega
 rw [e,List.filterMap_map]
 rfl
def Pl (te:TE):TE:=fun σ H Q=>te σ H λx H1=>∃a xs,x= .ref a/\H1 a=some (.lst xs)/\∀l,H1 l=none->Q (.ref l) (upd H1 l (.lst xs.reverse))
theorem Pm {e st:Expr}{te:TE}{p2 pos:Pos} (he:PE X e te) (hst:PE X st (tC (.int (-1)))):PE X (.Subscript e (.Slice none none (some st) p2) pos) (Pl te):=by
 intro pins s σ H Q I h;refine Subscript_ (Ao (he pins s σ H _ I h) λv s1 ⟨x,H1,I1,r1,a,xs,ex,ha,q⟩=>?_);subst ex;cases r1;refine wpAny_Slice ?_;rw [evalPart_none];refine wpAny_pure (wpAny_pure ?_);rw [evalPart_some];refine Ao (hst pins s1 σ H1 (λv H'=>v= .int (-1)/\H'=H1) I1 ⟨rfl,rfl⟩) λu s3 ⟨y,H3,I3,r3,ey,eH⟩=>?_
 subst ey eH;obtain⟨t,rfl⟩:=r3;have I4:Ad X pins σ H3 { s3 with heap:=s3.heap.push { cls:= .type "slice",data:= .fields #[.none,.none,.int (-1) t]}}:=I3.kept (t':=s3.toks) λb ob q=>Heap.get?_push_of_some _ q
 generalize hs4:({ s3 with heap:=s3.heap.push { cls:= .type "slice",data:= .fields #[.none,.none,.int (-1) t]}}:Shared)=s4 at I4;have hsl:s4.heap.IsSliceOf s3.heap.objs.size .none .none (.int (-1) t):=by rw [<-hs4];exact Heap.IsSliceOf.new ..
 obtain⟨its,r,ht,hz⟩:=I4.list (Al.of ha);have hlen:=r.length;show wpAny (model X.prog X.w) X.A (subscriptTail e (.Slice none none (some st) p2) (.ref a) (.ref s3.heap.objs.size)) (EP X pins σ Q) X.xe s4;refine tail_any (ops:=[.ref a,.ref s3.heap.objs.size]) ht.isList.typeIs slot_list_getitem.lookup ?_ (by with_unfolding_all rfl);refine wpAny_getItem_list_slice ht.isList hsl .none .none (.int _ _) (by simp) ?_ (by rw [size_toArray]<;>omega);rw [Pk];refine⟨.ref s4.heap.objs.size,_,I4.laid (t':=s4.toks) (o:= .lst xs.reverse) (λb ob q=>Heap.get?_push_of_some _ q) (Nat.le_refl _) ?_,rfl,q _ (I4.hok.fresh (Nat.le_refl _))⟩;exact⟨by rw [List.length_reverse];exact hz,_,0,r.reverse,Heap.get?_push_size _ rfl⟩
end
end L2
end
section
namespace L2
variable {n : Nat} {g g2 : TG} {tt tt2 : TT} {te : TE} {σ : St} {Q : List V -> Hp -> Prop} {H : Hp} {wi2 : TI}
theorem Pn {lo:Int}{ys:List V} (Pv:Nat->List V->Hp->Prop) (h0:Pv 0 ys H) (hz:∀i zs H,Pv i zs H->zs.length<100000)
  (hs:∀i zs H,i<n->Pv i zs H->g (.int (lo+i)) σ H fun σ2 H2=>Keep σ σ2/\tt σ2 H2 λb H3=>br b (te σ2 H3 λy H4=>Pv (i+1) (zs++[y]) H4) (Pv (i+1) zs H3))
  (hd:∀zs H,Pv n zs H->Q zs H):K6 (CN lo n) g tt te σ ys Q H:=by
 refine⟨λi m zs H=>m=n-i/\i<=n/\Pv i zs H,⟨n,by simp,Nat.zero_le _,h0⟩,?_⟩;rintro i m zs H ⟨rfl,hi,p⟩
 by_cases hlt:i<n
 ·refine .inr ⟨hlt,Nat.lt_trans (hz i zs H p) (by decide),Pv (i+1),λzs' H' p'=>⟨n-(i+1),by omega,rfl,hlt,p'⟩,λv H' ⟨e,y⟩=>?_⟩;subst e y;exact hs i zs _ hlt p
 ·obtain rfl:i=n:=by omega
  exact .inl ⟨Nat.le_refl _,hd zs H p⟩
theorem K7 {lo:Int}{cap:List (Option Nat)} (Pv:Nat->List V->Hp->Prop) (h0:Pv 0 [] H)
  (hs:∀i zs H,i<n->Pv i zs H->g (.int (lo+i)) (AL cap σ) H fun σ2 H2=>Keep (AL cap σ) σ2/\tt σ2 H2 λb H3=>br b (GI wi2 g2 tt2 te σ2 zs H3 (Pv (i+1))) (Pv (i+1) zs H3))
  (hd:∀zs H,Pv n zs H->Q zs H):Pj (CN lo n) cap g tt wi2 g2 tt2 te σ Q H:=by
 refine⟨λi m zs H=>m=n-i/\i<=n/\Pv i zs H,⟨n,by simp,Nat.zero_le _,h0⟩,?_⟩;rintro i m zs H ⟨rfl,hi,p⟩
 by_cases hlt:i<n
 ·refine .inr ⟨hlt,Pv (i+1),λzs' H' p'=>⟨n-(i+1),by omega,rfl,hlt,p'⟩,λv H' ⟨e,y⟩=>?_⟩;subst e y;exact hs i zs _ hlt p
 ·obtain rfl:i=n:=by omega
  exact .inl ⟨Nat.le_refl _,hd zs H p⟩
def Po (i:Nat) (wi:TI) (cap:List (Option Nat)) (g:TG) (tt:TT) (wi2:TI) (g2:TG) (tt2:TT) (te:TE):TS:=λD σ H=>IT wi cap g tt wi2 g2 tt2 te σ H λys H'=>∀p,H' p=none->D.nx (σ.set i (some (.ref p))) (upd H' p (.lst ys))
theorem Pp {X:Cx}{i:Nat}{y:Str}{tg iter tg2 iter2 elt:Expr}{ifs ifs2:List Expr}{scope:Scope}{pos pos' pos'':Pos}{wi:TI} (N':List Str) (cap:List (Option Nat)) (hN:X.N.Nodup) (hin:X.N[i]? =some y) (hy:Dt X.env.scope y)
  (hc:X.calm=true) (hi:PI X tg iter wi) (B:AE X.env.scope X.N scope N' cap) (hg:∀s H ex C,PG (AK X N' scope s H ex C) tg g) (ht:∀s H ex C,BM (AK X N' scope s H ex C) ifs tt)
  (hi2:∀s H ex C,PI (AK X N' scope s H ex C) tg2 iter2 wi2) (hg2:∀s H ex C,PG (AK X N' scope s H ex C) tg2 g2) (ht2:∀s H ex C,BM (AK X N' scope s H ex C) ifs2 tt2) (he:∀s H ex C,PE (AK X N' scope s H ex C) elt te)
  (hsw:swapsWith (DJ elt tg iter ifs tg2 iter2 ifs2 scope pos) (some (.Name y pos')) pos''.line X.env=pure true:=by rfl)
  (hf:X.fn y=true\/X.env.scope.names.lookup y=some .local :=by first | exact .inl rfl | exact .inr rfl | assumption)
  (hs:∀x,foldedSetIterable iter X.env x=pure x:=by intro _;rfl) (hs2:∀env x,foldedSetIterable iter2 env x=pure x:=by intro _ _;rfl):PS X (.Assign [.Name y pos'] (.ListComp elt [⟨tg,iter,ifs,0⟩,⟨tg2,iter2,ifs2,0⟩] scope pos) pos'') (Po i wi cap g tt wi2 g2 tt2 te):=by
 intro pins s σ H D I h;rw [exec_Assign_Name_used _ _ _ _ hsw];refine wpAny_bind (wpAny_standAt (wpAny_bind ?_));show wpAny _ X.A (do let _<-comprehension (DJ elt tg iter ifs tg2 iter2 ifs2 scope pos) scope X.env _ (newList []) false (eval iter X.env) (some (assign (.Name y pos') X.env))) _ _ s;refine wpAny_bind (wpAny_mono (K5 (use:=some (assign (.Name y pos') X.env)) (Q':=λ_ s'=>SP X pins D .next s') hc hi B hg ht hi2 hg2 ht2 he hs hs2 I h λacc C H ys s' hn I' L q=>?_) (λ_ s' hq=>wpAny_pure (wpAny_pure hq)) λ_ _ e=>e);obtain⟨m,hm⟩:=L.ns;refine wpAny_assign_Name (Ib I' hN hin hy (show Ay (.ref acc) (.ref acc) from rfl) (λs'' I'' ⟨a,sb,ha⟩=>?_) hf);have hCa:C≠a:=by
  rcases ha with e | e
  ·rw [e];exact L.loc
  ·exact λz=>L.cell _ _ e z.symm
 refine⟨m,hm.sameBut sb hCa,λh' hsb=>?_⟩;exact⟨_,_,I''.turned (t':=s''.toks) (it:=C) (λb o hb e=>hsb.extBut b o hb e) L.free L.loc (.inr L.sz) L.cell L.pin,q acc hn⟩
def Pq (te:TE):TT:=fun σ H Q=>te σ H λx H'=>∃a xs,x= .ref a/\H' a=some (.lst xs)/\Q (!xs.isEmpty) H'
theorem Pr {X:Cx}{a:Expr}{ta:TE} (ha:PE X a ta) (he:∀whole,isTrue a X.env whole=(do let v<-whole;standAt a.pos;holding [v] (truthy v)):=by intro _;rfl):PT X a (Pq ta):=by
 intro pins s σ H Q I h;refine isTrue_plain (Ao (ha pins s σ H _ I h) λv s1 ⟨x,H1,I1,r1,q1⟩=>?_) (he _);obtain⟨b,xs,rfl,hb,q⟩:=q1;cases r1;obtain⟨its,r,pl,hz⟩:=I1.list (Al.of hb);have hlen:=r.length;have big:sizeLine<2 ^ 63:=by decide
 exact wpAny_truthy_list pl.isList (by simp only [size_toArray];omega) ⟨H1,I1.tok _,by rw [Nj r];exact q⟩
theorem Ps (l b:Addr) (es:Array PySem.DictEntry) (ep:Nat) (items2:Array Value) (n2:Nat) (dd dd2:Option Addr) (sl sl2:Array (Option Value)):
  Meets (Builtin.«dict.__eq__» ⟨[.ref l,.ref b],[]⟩) (λ_ R s=>s.heap.get? l=some { cls:= .type "dict",dict:=dd,data:= .dict es ep,slots:=sl}/\s.heap.get? b=some { cls:= .type "tuple",dict:=dd2,data:= .seq items2 n2,slots:=sl2}/\R (.ok (.ret .notImplemented)) s):=
 .of_wp λprog w A R s h=>by obtain⟨hp,g,d,tk,os⟩:=s;obtain⟨hl,hb,h⟩:=h;have f1:=F.sub_tuple_dict;wp_walk using AutoSeq1.wpAny_loadPart' hl,AutoSeq1.wpAny_loadPart' hb;exact⟨_,rfl,h⟩
theorem Pt (l b:Addr) (es:Array PySem.DictEntry) (ep:Nat) (items:Array Value) (n:Nat) (dd dd2:Option Addr) (sl sl2:Array (Option Value)):
  Meets (Builtin.«tuple.__eq__» ⟨[.ref l,.ref b],[]⟩) (λ_ R s=>s.heap.get? l=some { cls:= .type "tuple",dict:=dd,data:= .seq items n,slots:=sl}/\s.heap.get? b=some { cls:= .type "dict",dict:=dd2,data:= .dict es ep,slots:=sl2}/\R (.ok (.ret .notImplemented)) s):=
 .of_wp λprog w A R s h=>by obtain⟨hp,g,d,tk,os⟩:=s;obtain⟨hl,hb,h⟩:=h;have f1:=F.sub_dict_tuple;wp_walk using AutoSeq1.wpAny_loadPart' hl,AutoSeq1.wpAny_loadPart' hb;exact⟨_,rfl,h⟩
section
variable {X : Cx}
def Pu:R2:=λx y H Q=>∃p d e,Aa p H d x/\Aa p H e y/\e.canLay0=true/\e.hasDict=false/\e.depth<=20/\((d.canLay0=true/\d.hasDict=false/\Q (.bl (PyData.eqv d e)) H)\/(d= .dict []/\(∃es,e= .tuple es)/\Q (.bl false) H))
theorem Pw {k:Nat} (hr:AX k X.A):OpR X (compareOp .Eq) Pu:=by
 intro pins s σ H x y v u Q I rx ry h;obtain⟨p,d,e,rd,re,ce,he,dp,h⟩:=h;have un:=hr.un;obtain⟨bs,rb⟩:=Aa.reads I e y u he re ry;rcases h with⟨cd,hd,q⟩ | ⟨rfl,⟨es,rfl⟩,q⟩
 ·obtain⟨as,ra⟩:=Aa.reads I d x v hd rd rx;exact SeqAt.compareEq_reads ra rb cd ce (by omega) (AZ I q rfl)
 ·unfold Aa at rd re;obtain⟨l,ks,rfl,_,_,hb⟩:=rd;obtain⟨b,xs,rfl,hbt,_⟩:=re;cases rx;cases ry;obtain⟨_,hne,vs,kv,o,es',ep,ho,hx,hdt,_⟩:=I.hok l _ hb;obtain⟨its,rv,⟨o2,ho2,hc2,n2,hdt2⟩,_⟩:=I.tuple (Ae.of hbt);have hne:l≠b:=by
   intro z;subst z;rw [hb] at hbt;cases hbt
  have hc:=hx.1;obtain⟨cls,dd,data,sl⟩:=o;obtain⟨cls2,dd2,data2,sl2⟩:=o2;simp only at hc hdt hc2 hdt2;subst hc hdt hc2 hdt2;exact SeqAt.rc_eq_decline_or (k:=false) ⟨_,ho,rfl⟩ ⟨_,ho2,rfl⟩ (by decide) F.sub_tuple_dict F.slot_dict_eq F.slot_tuple_eq_refl
   (λ_ hq=>call_meets F.slot_dict_eq ⟨_,ho,rfl⟩ F.entry_dict_eq (F.args_dict_eq_2 _ _) (Ps l b es' ep its.toArray n2 dd dd2 sl sl2) ⟨ho,ho2,hq⟩)
   (λ_ hq=>call_meets F.slot_tuple_eq_refl ⟨_,ho2,rfl⟩ F.entry_tuple_eq (F.args_tuple_eq_2 _ _) (Pt b l es' ep its.toArray n2 dd2 dd sl2 sl) ⟨ho2,ho,hq⟩)
   (λ_ hq=>PySem.wpAny_isSame_ref_other hne ho ho2 (by simp) hq) (.inr (by omega)) (AZ I q rfl)
end
end L2
namespace MF
open L2
variable {n k : Nat} {α : Type} {xs : List α}
structure TM where
 cs:List (List Int)
 co:List Int
 ds:List Int
 lo:Int
 hi:Int
 st:Int
def TM.d (T:TM):PyData:= .tuple [FD T.cs,AJ T.co,AJ T.ds,.tuple [.int T.lo,.int T.hi,.int T.st]]
def terms (P:PL) (S:SY):TM:=⟨caps P S,P.bs.map (·.2),draws P S,P.lo,P.hi,P.st⟩
structure TM.ok (T:TM):Prop where
 l8:T.ds.length<=8
 lc:T.cs.length=T.ds.length
theorem Px {P:PL}{S:SY} (so:S.ok n):(terms P S).ok:=⟨by show(draws P S).length<=8;rw [CJ];exact so.x8,by show(caps P S).length=(draws P S).length;rw [Dg,CJ]⟩
def part {α:Type} (xs:List α) (f l:Nat):List α:=(xs.drop f).take (l+1-f)
theorem K8 {f l:Nat} (h:f<=l) (hl:l<xs.length):(part xs f l).length=l+1-f:=by
 unfold part;rw [length_take,length_drop];omega
theorem GJ {xs:List V}{f l:Nat} (h:f<=l) (hl:l<xs.length):Bf xs (some (f:Int)) (some ((l:Int)+1))=part xs f l:=by
 have e:((l:Int)+1)=((l+1:Nat):Int):=by omega
 unfold Bf part;rw [e,HT.sIx_nat,HT.sIx_nat,Nat.min_eq_left (by omega),Nat.min_eq_left (by omega)]
theorem GK {β:Type}{g:α->β}{f l:Nat}:part (xs.map g) f l=(part xs f l).map g:=by
 unfold part;rw [<-map_drop,<-map_take]
theorem Ac.part {p:Addr}{H:Hp}:∀ {ds:List PyData}{xs:List V},Ac p H ds xs->∀f l,Ac p H (MF.part ds f l) (MF.part xs f l):=by
 have dr:∀ {ds:List PyData}{xs:List V},Ac p H ds xs->∀f,Ac p H (ds.drop f) (xs.drop f):=by
  intro ds
  induction ds with
  | nil=>intro xs r f;unfold Ac at r;subst r;rw [drop_nil,drop_nil];exact .nil
  | cons d ds ih=>
   intro xs r f;have r':=r;unfold Ac at r;obtain⟨x,t,rfl,rx,rt⟩:=r;cases f with
   | zero=>exact r'
   | succ f=>exact ih rt f
 have tk:∀ {ds:List PyData}{xs:List V},Ac p H ds xs->∀f,Ac p H (ds.take f) (xs.take f):=by
  intro ds
  induction ds with
  | nil=>intro xs r f;unfold Ac at r;subst r;rw [take_nil,take_nil];exact .nil
  | cons d ds ih=>
   intro xs r f;unfold Ac at r;obtain⟨x,t,rfl,rx,rt⟩:=r;cases f with
   | zero=>exact .nil
   | succ f=>exact .cons rx (ih rt f)
 intro ds xs r f l;exact tk (dr r f) _
def most (T:TM) (f l:Nat):Int:=((part T.cs f l).map List.sum).sum
def K9 (T:TM) (f l:Nat):Int:=(part T.ds f l).sum
def CV (T:TM) (f l:Nat):Bool:=decide ((if f=0 then T.st else T.hi)+most T f l<K9 T f l+T.lo)
def CK (f k:Nat):List (Nat×Nat):=(List.range k).map λi=>(f,f+i)
def B9 (n k:Nat):List (Nat×Nat):=((List.range k).map λf=>CK f (n-f)).flatten
abbrev pD (q:Nat×Nat):PyData:= .tuple [.int q.1,.int q.2]
theorem Py {f:Nat}:CK f (k+1)=CK f k++[(f,f+k)]:=by unfold CK;rw [range_succ,map_append];rfl
theorem La {f:Nat}:(CK f k).length=k:=by unfold CK;simp
theorem Lb:B9 n (k+1)=B9 n k++CK k (n-k):=by unfold B9;rw [range_succ,map_append,List.flatten_append];simp
theorem Ld:(B9 n k).length<=n * k:=by
 induction k with
 | zero=>exact Nat.le_refl _
 | succ k ih=>rw [Lb,length_append,La,Nat.mul_succ];omega
theorem Le (h:k<=n):∀q∈B9 n k,q.1<=q.2/\q.2<n:=by
 intro q hq;unfold B9 at hq;obtain⟨l,hl,hq⟩:=List.mem_flatten.mp hq;obtain⟨f,hf,rfl⟩:=mem_map.mp hl;obtain⟨i,hi,rfl⟩:=mem_map.mp hq;have:=mem_range.mp hf;have:=mem_range.mp hi;exact⟨by show f<=f+i;omega,by show f+i<n;omega⟩
def EQ (T:TM):List (Nat×Nat):=(B9 T.ds.length T.ds.length).filter λq=>CV T q.1 q.2
def CL (T:TM):Option (Nat×Nat):=(EQ T).head?
def Lg:Option (Nat×Nat)->PyData
 | none=> .none
 | some q=>pD q
def Ej (T:TM) (f:Nat):Nat->Int
 | 0=>if f=0 then T.st else T.hi
 | k+1=>Ej T f k+(T.cs.getD (f+k) []).sum-T.ds.getD (f+k) 0
theorem Lh {f:Nat}{x:α} (h:xs[f+k]? =some x):(xs.drop f).take (k+1)=(xs.drop f).take k++[x]:=A9 (by rw [getElem?_drop];exact h)
theorem Li {T:TM} (ok:T.ok) {f:Nat}:∀k,f+k<=T.ds.length->Ej T f k=(if f=0 then T.st else T.hi)+(((T.cs.drop f).take k).map List.sum).sum-((T.ds.drop f).take k).sum
 | 0,_=>by rw [take_zero,take_zero,map_nil,sum_nil];show(if f=0 then T.st else T.hi)=_;omega
 | k+1,h=>by
  have ih:=Li ok (f:=f) k (by omega);have lc:=ok.lc;have h1:T.cs[f+k]? =some (T.cs.getD (f+k) []):=by rw [getD_eq_getElem?_getD,getElem?_eq_getElem (by omega)];rfl
  have h2:T.ds[f+k]? =some (T.ds.getD (f+k) 0):=GD (by omega);rw [Lh h1,Lh h2,map_append,sum_append,sum_append,map_cons,map_nil,sum_cons,sum_nil,sum_cons,sum_nil];show Ej T f k+_-_=_;omega
end MF
end
section
namespace L2
section
variable {X : Cx} {pos : Pos}
end
end L2
end
section
namespace L2
section
variable {X : Cx}
end
section
variable {X : Cx}
end
section
variable {X : Cx}
end
end L2
end
section
namespace L2
variable {a1 a2 a3 : Value} {k : Nat} {X : Cx} {p pos pos' : Pos} {e1 e2 e3 : Expr} {ta : TA}
open AutoSeq1 (wpAny_loadPart')
structure GL (z TI TO i1 i2 i3 l1 l2 l3:Addr):Prop where
 TI_z:TI≠z
 TO_z:TO≠z
 TO_TI:TO≠TI
 i1_z:i1≠z
 i1_TI:i1≠TI
 i1_TO:i1≠TO
 i2_z:i2≠z
 i2_TI:i2≠TI
 i2_TO:i2≠TO
 i2_i1:i2≠i1
 i3_z:i3≠z
 i3_TI:i3≠TI
 i3_TO:i3≠TO
 i3_i1:i3≠i1
 i3_i2:i3≠i2
 l1_z:l1≠z
 l1_TO:l1≠TO
 l1_i1:l1≠i1
 l1_i2:l1≠i2
 l1_i3:l1≠i3
 l2_z:l2≠z
 l2_TO:l2≠TO
 l2_i1:l2≠i1
 l2_i2:l2≠i2
 l2_i3:l2≠i3
 l3_z:l3≠z
 l3_TO:l3≠TO
 l3_i1:l3≠i1
 l3_i2:l3≠i2
 l3_i3:l3≠i3
abbrev BB (h:Heap) (T:Addr) (a1 a2 a3:Value):Prop:=h.get? T=some { cls:= .type "tuple",data:= .seq #[a1,a2,a3]}
theorem IU {prog:Program}{w:World}{A:Around}{E:VSP}{s:Shared}{T:Addr}{x:Value}{Q:Unit->Shared->Prop} (hT:BB s.heap T a1 a2 a3)
  (h:∀h',h'.get? T=some { cls:= .type "tuple",data:= .seq ((#[a1,a2,a3]:Array Value).setIfInBounds k x)}->Heap.SameBut T s.heap h'->Q () { s with heap:=h'}):
  wpAny (model prog w) A (updateSeq T (·.setIfInBounds k x)) Q E s:=by
 refine wpAny_updateSeq hT rfl (h _ ?_ (Heap.SameBut.update ..));rw [Heap.get?_update_self _ hT rfl];simp [Obj.mapSeq]
section
variable {P : Program} {w : World} {K : Fgx} {A : Around} {E : Value -> Shared -> Prop} {s : Shared} (S1 S2 S3 : AW P w K)
theorem Pz {z TI TO i1 i2 i3 l1 l2 l3:Addr}{k:Nat}{xs1 xs2 xs3:Array Value}{x1 x2 x3 a1 a2 a3:Value}{Q:VSP} (hh:A.handled=none) (D:GL z TI TO i1 i2 i3 l1 l2 l3) (hz:Ea s.heap z TI TO) (hTI:BB s.heap TI (.ref i1) (.ref i2) (.ref i3)) (hTO:BB s.heap TO a1 a2 a3) (h1:Dr S1 i1 l1 xs1 k s.heap) (h2:Dr S2 i2 l2 xs2 k s.heap) (h3:Dr S3 i3 l3 xs3 k s.heap) (hx1:xs1[k]? =some x1) (hx2:xs2[k]? =some x2) (hx3:xs3[k]? =some x3)
  (hQ : ∀ h' tk, Ea h' z TI TO -> (IsZip h' z TI TO (rawInt s.heap.objs.size) \/ IsZip s.heap z TI TO .none -> IsZip h' z TI TO (rawInt s.heap.objs.size)) -> (∃ a1 a2 a3, BB h' TO a1 a2 a3) -> Dr S1 i1 l1 xs1 (k + 1) h' -> Dr S2 i2 l2 xs2 (k + 1) h' -> Dr S3 i3 l3 xs3 (k + 1) h' -> BB h' s.heap.objs.size x1 x2 x3 -> h'.objs.size = s.heap.objs.size + 1 ->
   (∀c o,c≠z->c≠TO->c≠i1->c≠i2->c≠i3->s.heap.get? c=some o->h'.get? c=some o)->Q (.ref s.heap.objs.size) { s with heap:=h',toks:=tk}):
  wpAny (model P w) A (Builtin.«zip.__next__» ⟨[.ref z],[]⟩) (λfin s'=>∃v,fin= .done (.ret v)/\Q v s') E s:=by
 have hl1:k<xs1.size:=(Array.getElem?_eq_some_iff.mp hx1).1;have hl2:k<xs2.size:=(Array.getElem?_eq_some_iff.mp hx2).1;have hl3:k<xs3.size:=(Array.getElem?_eq_some_iff.mp hx3).1;have D1:=fun(A:Around) (hh:A.handled=none)=>S1.draws A hh i1 l1 D.l1_i1 xs1
 have D2:=fun(A:Around) (hh:A.handled=none)=>S2.draws A hh i2 l2 D.l2_i2 xs2
 have D3:=fun(A:Around) (hh:A.handled=none)=>S3.draws A hh i3 l3 D.l3_i3 xs3
 obtain⟨f0',f1',hz',hf0',hf1'⟩:=id hz;show wpAny _ _ (field (.ref z) 2>>=_) _ _ _;refine wpAny_bind (wpAny_field hz' rfl (x:= .bool false) rfl ?_);show wpAny _ _ (field (.ref z) 3>>=_) _ _ _;refine wpAny_bind (wpAny_field hz' rfl (x:= .ref TI) rfl ?_);refine wpAny_bind (wpAny_seqItems hTI rfl ?_);show wpAny _ _ (Builtin.SmallTypes.ownedTupleIsFree (.ref z) >>=_) _ _ _;refine wpAny_bind (Gn hz (λf0 f1 hz=>?_) λg0 T f1 f2 hzs hz0 hf2 hs0=>?_)
 ·simp only [if_true];refine wpAny_bind (wpAny_rule ?_);refine wpAny_bind (wpAny_field hz rfl (x:= .ref TO) rfl ?_);refine wpAny_bind (wpAny_setField_rec hz (by simp) λg0 hz0 hs0=>?_);replace hz0:By g0 z TI TO .ellipsis f1:=hz0;refine wpAny_bind ?_;simp only [zipIdx_cons,zipIdx_nil,forIn_cons,forIn_nil];refine wpAny_bind (wpAny_bind (wpAny_onRaise ?_));show wpAny _ _ (Builtin.SmallTypes.nextOf (.ref i1) >>=_) _ _ _;refine wpAny_bind ((D1 _ hh).item k _ _ _ hl1 (Dr.ext h1 hs0.extBut D.i1_z D.l1_z) λy1 g1 tk1 hy1 hd1 hs1=>wpAny_pure ?_);have ex1:y1=x1:=by rw [hx1] at hy1;exact(Option.some.inj hy1).symm
  subst ex1;have hd1':Dr S1 i1 l1 xs1 (k+1) g1:=hd1;have hT1:BB g1 TO a1 a2 a3:=(hs1.extBut _ _ D.i1_TO.symm (hs0.extBut _ _ D.TO_z hTO));refine wpAny_bind (wpAny_seqItems hT1 rfl ?_);refine wpAny_bind (IU hT1 λg2 hU1 hs2=>?_)
  replace hU1:BB g2 TO y1 a2 a3:=hU1
  refine wpAny_bind (wpAny_letGo (wpAny_pure ?_));refine wpAny_bind (wpAny_bind (wpAny_onRaise ?_));show wpAny _ _ (Builtin.SmallTypes.nextOf (.ref i2) >>=_) _ _ _;refine wpAny_bind ((D2 _ hh).item k _ _ _ hl2 (Dr.ext (Dr.ext (Dr.ext h2 hs0.extBut D.i2_z D.l2_z) hs1.extBut D.i2_i1 D.l2_i1) hs2.extBut D.i2_TO D.l2_TO) λy2 g3 tk2 hy2 hd2 hs3=>wpAny_pure ?_);have ex2:y2=x2:=by rw [hx2] at hy2;exact(Option.some.inj hy2).symm
  subst ex2;have hd2':Dr S2 i2 l2 xs2 (k+1) g3:=hd2;have hT2:BB g3 TO y1 a2 a3:=(hs3.extBut _ _ D.i2_TO.symm hU1);refine wpAny_bind (wpAny_seqItems hT2 rfl ?_);refine wpAny_bind (IU hT2 λg4 hU2 hs4=>?_)
  replace hU2:BB g4 TO y1 y2 a3:=hU2
  refine wpAny_bind (wpAny_letGo (wpAny_pure ?_));refine wpAny_bind (wpAny_bind (wpAny_onRaise ?_));show wpAny _ _ (Builtin.SmallTypes.nextOf (.ref i3) >>=_) _ _ _;refine wpAny_bind ((D3 _ hh).item k _ _ _ hl3 (Dr.ext (Dr.ext (Dr.ext (Dr.ext (Dr.ext h3 hs0.extBut D.i3_z D.l3_z) hs1.extBut D.i3_i1 D.l3_i1) hs2.extBut D.i3_TO D.l3_TO) hs3.extBut D.i3_i2 D.l3_i2) hs4.extBut D.i3_TO D.l3_TO) λy3 g5 tk3 hy3 hd3 hs5=>wpAny_pure ?_);have ex3:y3=x3:=by rw [hx3] at hy3;exact(Option.some.inj hy3).symm
  subst ex3;have hd3':Dr S3 i3 l3 xs3 (k+1) g5:=hd3;have hT3:BB g5 TO y1 y2 a3:=(hs5.extBut _ _ D.i3_TO.symm hU2);refine wpAny_bind (wpAny_seqItems hT3 rfl ?_);refine wpAny_bind (IU hT3 λg6 hU3 hs6=>?_)
  replace hU3:BB g6 TO y1 y2 y3:=hU3
  refine wpAny_bind (wpAny_letGo (wpAny_pure (wpAny_pure ?_)));refine wpAny_bind (wpAny_seqItems hU3 rfl ?_);refine wpAny_bind (wpAny_newTuple ?_);have hsz:g6.objs.size=s.heap.objs.size:=by rw [hs6.1,hs5.1,hs4.1,hs3.1,hs2.1,hs1.1,hs0.1]
  have hz5:By g6 z TI TO .ellipsis f1:=(hs6.extBut _ _ D.TO_z.symm (hs5.extBut _ _ D.i3_z.symm (hs4.extBut _ _ D.TO_z.symm (hs3.extBut _ _ D.i2_z.symm (hs2.extBut _ _ D.TO_z.symm (hs1.extBut _ _ D.i1_z.symm hz0))))));have hk5:∀c o,c≠z->c≠TO->c≠i1->c≠i2->c≠i3->s.heap.get? c=some o->g6.get? c=some o:=λc o cz cTO ci1 ci2 ci3 e=>(hs6.extBut _ _ cTO (hs5.extBut _ _ ci3 (hs4.extBut _ _ cTO (hs3.extBut _ _ ci2 (hs2.extBut _ _ cTO (hs1.extBut _ _ ci1 (hs0.extBut _ _ cz e)))))))
  have he1:Dr S1 i1 l1 xs1 (k+1) g6:=(Dr.ext (Dr.ext (Dr.ext (Dr.ext (Dr.ext hd1' hs2.extBut D.i1_TO D.l1_TO) hs3.extBut D.i2_i1.symm D.l1_i2) hs4.extBut D.i1_TO D.l1_TO) hs5.extBut D.i3_i1.symm D.l1_i3) hs6.extBut D.i1_TO D.l1_TO);have he2:Dr S2 i2 l2 xs2 (k+1) g6:=(Dr.ext (Dr.ext (Dr.ext hd2' hs4.extBut D.i2_TO D.l2_TO) hs5.extBut D.i3_i2.symm D.l2_i3) hs6.extBut D.i2_TO D.l2_TO);have he3:Dr S3 i3 l3 xs3 (k+1) g6:=(Dr.ext hd3' hs6.extBut D.i3_TO D.l3_TO);have hzlt:z<g6.objs.size:=Heap.lt_size hz5;show wpAny _ _ (Builtin.SmallTypes.ownedTupleHandOut (.ref z) (.ref g6.objs.size) >>=_) _ _ _;refine wpAny_bind ?_;unfold Builtin.SmallTypes.ownedTupleHandOut;have hz6:By (g6.push { cls:= .type "tuple",data:= .seq #[y1,y2,y3]}) z TI TO .ellipsis f1:=Heap.get?_push_of_some _ hz5;refine wpAny_bind (wpAny_setField_rec hz6 (by simp) λga hza hsa=>?_);replace hza:By ga z TI TO (rawInt g6.objs.size) f1:=hza;refine wpAny_setField_rec hza (by simp) λgb hzb hsb=>?_;replace hzb:By gb z TI TO (rawInt g6.objs.size) (.bool false):=hzb
  have up:∀c o,c≠z->g6.get? c=some o->gb.get? c=some o:=λc o c1 e=>hsb.extBut _ _ c1 (hsa.extBut _ _ c1 (Heap.get?_push_of_some _ e))
  have hTb:BB gb g6.objs.size y1 y2 y3:=hsb.extBut _ _ (Nat.ne_of_gt hzlt) (hsa.extBut _ _ (Nat.ne_of_gt hzlt) (Heap.get?_push_size _ rfl));have hsb8:gb.objs.size=g6.objs.size+1:=by rw [hsb.1,hsa.1,Heap.size_push]
  have upE:Heap.ExtBut z g6 gb:=λc o c1 e=>up c o c1 e
  rw [hsz] at hzb hTb hsb8;refine wpAny_pure ⟨_,rfl,?_⟩;show Q (.ref g6.objs.size) _;rw [hsz];exact hQ gb _ ⟨_,_,hzb,.inr ⟨_,rfl⟩,.inl rfl⟩ (λ_=>hzb) ⟨_,_,_,up _ _ D.TO_z hU3⟩ (he1.ext upE D.i1_z D.l1_z) (he2.ext upE D.i2_z D.l2_z) (he3.ext upE D.i3_z D.l3_z) hTb hsb8 λc o cz cTO ci1 ci2 ci3 e=>up c o cz (hk5 c o cz cTO ci1 ci2 ci3 e)
 ·simp only [Bool.false_eq_true,if_false];refine wpAny_bind ?_;simp only [<-Array.forIn_toList,forIn_cons,forIn_nil];refine wpAny_bind (wpAny_bind (wpAny_holding ?_));show wpAny _ _ (Builtin.SmallTypes.nextOf (.ref i1) >>=_) _ _ _;refine wpAny_bind ((D1 _ hh).item k _ _ _ hl1 (Dr.ext h1 hs0.extBut D.i1_z D.l1_z) λy1 g1 tk1 hy1 hd1 hs1=>wpAny_pure ?_);have ex1:y1=x1:=by rw [hx1] at hy1;exact(Option.some.inj hy1).symm
  subst ex1;have hd1':Dr S1 i1 l1 xs1 (k+1) g1:=hd1;refine wpAny_pure ?_;refine wpAny_bind (wpAny_bind (wpAny_holding ?_));show wpAny _ _ (Builtin.SmallTypes.nextOf (.ref i2) >>=_) _ _ _;refine wpAny_bind ((D2 _ hh).item k _ _ _ hl2 (Dr.ext (Dr.ext h2 hs0.extBut D.i2_z D.l2_z) hs1.extBut D.i2_i1 D.l2_i1) λy2 g2 tk2 hy2 hd2 hs2=>wpAny_pure ?_);have ex2:y2=x2:=by rw [hx2] at hy2;exact(Option.some.inj hy2).symm
  subst ex2;have hd2':Dr S2 i2 l2 xs2 (k+1) g2:=hd2;refine wpAny_pure ?_;refine wpAny_bind (wpAny_bind (wpAny_holding ?_));show wpAny _ _ (Builtin.SmallTypes.nextOf (.ref i3) >>=_) _ _ _;refine wpAny_bind ((D3 _ hh).item k _ _ _ hl3 (Dr.ext (Dr.ext (Dr.ext h3 hs0.extBut D.i3_z D.l3_z) hs1.extBut D.i3_i1 D.l3_i1) hs2.extBut D.i3_i2 D.l3_i2) λy3 g3 tk3 hy3 hd3 hs3=>wpAny_pure ?_);have ex3:y3=x3:=by rw [hx3] at hy3;exact(Option.some.inj hy3).symm
  subst ex3;have hd3':Dr S3 i3 l3 xs3 (k+1) g3:=hd3;refine wpAny_pure (wpAny_pure ?_);show wpAny _ _ (newTuple [y1,y2,y3] >>=_) _ _ _;refine wpAny_bind (wpAny_newTuple ?_);have hsz:g3.objs.size=s.heap.objs.size:=by rw [hs3.1,hs2.1,hs1.1,hs0.1]
  have hz5:By g3 z TI TO (rawInt T) f2:=(hs3.extBut _ _ D.i3_z.symm (hs2.extBut _ _ D.i2_z.symm (hs1.extBut _ _ D.i1_z.symm hz0)));have hT5:BB g3 TO a1 a2 a3:=(hs3.extBut _ _ D.i3_TO.symm (hs2.extBut _ _ D.i2_TO.symm (hs1.extBut _ _ D.i1_TO.symm (hs0.extBut _ _ D.TO_z hTO))));have he1:Dr S1 i1 l1 xs1 (k+1) g3:=(Dr.ext (Dr.ext hd1' hs2.extBut D.i2_i1.symm D.l1_i2) hs3.extBut D.i3_i1.symm D.l1_i3);have he2:Dr S2 i2 l2 xs2 (k+1) g3:=(Dr.ext hd2' hs3.extBut D.i3_i2.symm D.l2_i3);have he3:Dr S3 i3 l3 xs3 (k+1) g3:=hd3';have hTb:BB (g3.push { cls:= .type "tuple",data:= .seq #[y1,y2,y3]}) g3.objs.size y1 y2 y3:=Heap.get?_push_size _ rfl;have hb8:(g3.push { cls:= .type "tuple",data:= .seq #[y1,y2,y3]}).objs.size=g3.objs.size+1:=Heap.size_push ..;refine wpAny_pure ⟨_,rfl,?_⟩;show Q (.ref g3.objs.size) _;have res:=hQ (g3.push { cls:= .type "tuple",data:= .seq #[y1,y2,y3]}) tk3 ⟨_,_,Heap.get?_push_of_some _ hz5,.inr ⟨_,rfl⟩,hf2⟩ (λc=>c.elim id λc=>absurd (congrArg (λo:Obj=>o.data) (Option.some.inj (hzs.symm.trans c))) (by simp [rawInt])) ⟨_,_,_,Heap.get?_push_of_some _ hT5⟩ ⟨S1.itk he1.1 λo q=>Heap.get?_push_of_some _ q,S1.isk he1.2 λo q=>Heap.get?_push_of_some _ q⟩ ⟨S2.itk he2.1 λo q=>Heap.get?_push_of_some _ q,S2.isk he2.2 λo q=>Heap.get?_push_of_some _ q⟩ ⟨S3.itk he3.1 λo q=>Heap.get?_push_of_some _ q,S3.isk he3.2 λo q=>Heap.get?_push_of_some _ q⟩ (by rw [<-hsz];exact hTb) (by rw [hb8,hsz]) λc o cz cTO ci1 ci2 ci3 e=>Heap.get?_push_of_some _ (hs3.extBut _ _ ci3 (hs2.extBut _ _ ci2 (hs1.extBut _ _ ci1 (hs0.extBut _ _ cz e))))
  rw [hsz];exact res
theorem PC {z TI TO i1 i2 i3 l1 l2 l3:Addr}{xs1 xs2 xs3:Array Value}{Q:Fin->Shared->Prop} (hh:A.handled=none) (D:GL z TI TO i1 i2 i3 l1 l2 l3) (hz:Ea s.heap z TI TO) (hTI:BB s.heap TI (.ref i1) (.ref i2) (.ref i3)) (hTO:BB s.heap TO a1 a2 a3) (h1:Dr S1 i1 l1 xs1 k s.heap) (h2:Dr S2 i2 l2 xs2 k s.heap) (h3:Dr S3 i3 l3 xs3 k s.heap) (hend:k=xs1.size)
  (hE:∀h' tk e,(∀c o,c≠z->c≠TO->c≠i1->c≠i2->c≠i3->s.heap.get? c=some o->h'.get? c=some o)->(∃o,h'.get? e=some o/\o.cls= .type "StopIteration")->E (.ref e) { s with heap:=h',toks:=tk}):
  wpAny (model P w) A (Builtin.«zip.__next__» ⟨[.ref z],[]⟩) Q E s:=by
 have D1:=fun(A:Around) (hh:A.handled=none)=>S1.draws A hh i1 l1 D.l1_i1 xs1
 have D2:=fun(A:Around) (hh:A.handled=none)=>S2.draws A hh i2 l2 D.l2_i2 xs2
 have D3:=fun(A:Around) (hh:A.handled=none)=>S3.draws A hh i3 l3 D.l3_i3 xs3
 obtain⟨f0',f1',hz',hf0',hf1'⟩:=id hz;show wpAny _ _ (field (.ref z) 2>>=_) _ _ _;refine wpAny_bind (wpAny_field hz' rfl (x:= .bool false) rfl ?_);show wpAny _ _ (field (.ref z) 3>>=_) _ _ _;refine wpAny_bind (wpAny_field hz' rfl (x:= .ref TI) rfl ?_);refine wpAny_bind (wpAny_seqItems hTI rfl ?_);show wpAny _ _ (Builtin.SmallTypes.ownedTupleIsFree (.ref z) >>=_) _ _ _;refine wpAny_bind (Gn hz (λf0 f1 hz=>?_) λg0 T f1 f2 hzs hz0 hf2 hs0=>?_)
 ·simp only [if_true];refine wpAny_bind (wpAny_rule ?_);refine wpAny_bind (wpAny_field hz rfl (x:= .ref TO) rfl ?_);refine wpAny_bind (wpAny_setField_rec hz (by simp) λg0 hz0 hs0=>?_);replace hz0:By g0 z TI TO .ellipsis f1:=hz0;refine wpAny_bind ?_;simp only [zipIdx_cons,zipIdx_nil,forIn_cons,forIn_nil];refine wpAny_bind (wpAny_bind (wpAny_onRaise ?_));show wpAny _ _ (Builtin.SmallTypes.nextOf (.ref i1) >>=_) _ _ _;have hcur:=(Dr.ext h1 hs0.extBut D.i1_z D.l1_z);subst hend;refine wpAny_bind ((D1 _ hh).done _ _ _ hcur λge e hse he=>?_);obtain⟨oe,hoe,hce⟩:=he;have hze:By ge z TI TO .ellipsis f1:=hse _ _ D.i1_z.symm hz0;have hez:e≠z:=λx=>by subst x;rw [hze] at hoe;cases hoe;simp at hce
  exact wpAny_setField_rec hze (by simp) λgf _ hsf=>hE gf _ e (λc o cz cTO ci1 ci2 ci3 x=>hsf.extBut _ _ cz (hse _ _ ci1 (hs0.extBut _ _ cz x))) ⟨oe,hsf.extBut _ _ hez hoe,hce⟩
 ·simp only [Bool.false_eq_true,if_false];refine wpAny_bind ?_;simp only [<-Array.forIn_toList,forIn_cons,forIn_nil];refine wpAny_bind (wpAny_bind (wpAny_holding ?_));show wpAny _ _ (Builtin.SmallTypes.nextOf (.ref i1) >>=_) _ _ _;have hcur:=(Dr.ext h1 hs0.extBut D.i1_z D.l1_z);subst hend;refine wpAny_bind ((D1 _ hh).done _ _ _ hcur λge e hse he=>?_);obtain⟨oe,hoe,hce⟩:=he;exact hE ge _ e (λc o cz cTO ci1 ci2 ci3 x=>hse _ _ ci1 (hs0.extBut _ _ cz x)) ⟨oe,hoe,hce⟩
end
theorem PD (a b c:Value):checkTypeCall "zip" ⟨[a,b,c],[]⟩=pure ():=by kernel_rfl
theorem PF (a b c:Value):checkBuiltinCall "zip.__new__" ⟨[.type "zip",a,b,c],[]⟩=pure ():=by kernel_rfl
theorem PH (a b c d:Value):argsOk "object.__init__" ⟨[a,b,c,d],[]⟩:=by
 unfold argsOk;rw [signature?_of (id:="object.__init__") (n:=['_','_','t','i','n','i','_','_']) (o:=['t','c','e','j','b','o']) (by kernel_rfl) F.owner_object];kernel_rfl
abbrev GM {P:Program}{w:World}{K:Fgx} (S1 S2 S3:AW P w K) (h:Heap) (l1 l2 l3:Addr):Heap:=(h).push (S1.obj l1)
abbrev GN {P:Program}{w:World}{K:Fgx} (S1 S2 S3:AW P w K) (h:Heap) (l1 l2 l3:Addr):Heap:=(GM S1 S2 S3 h l1 l2 l3).push (S2.obj l2)
abbrev GO {P:Program}{w:World}{K:Fgx} (S1 S2 S3:AW P w K) (h:Heap) (l1 l2 l3:Addr):Heap:=(GN S1 S2 S3 h l1 l2 l3).push (S3.obj l3)
abbrev GP {P:Program}{w:World}{K:Fgx} (S1 S2 S3:AW P w K) (h:Heap) (l1 l2 l3:Addr):Heap:=(GO S1 S2 S3 h l1 l2 l3).push { cls:= .type "tuple",data:= .seq #[.ref h.objs.size,.ref (GM S1 S2 S3 h l1 l2 l3).objs.size,.ref (GN S1 S2 S3 h l1 l2 l3).objs.size]}
abbrev GQ {P:Program}{w:World}{K:Fgx} (S1 S2 S3:AW P w K) (h:Heap) (l1 l2 l3:Addr):Heap:=(GP S1 S2 S3 h l1 l2 l3).push { cls:= .type "tuple",data:= .seq #[.none,.none,.none]}
abbrev CW {P:Program}{w:World}{K:Fgx} (S1 S2 S3:AW P w K) (h:Heap) (l1 l2 l3:Addr):Heap:=(GQ S1 S2 S3 h l1 l2 l3).push { cls:= .type "zip",data:= .fields #[.none,.bool false,.bool false,.ref (GO S1 S2 S3 h l1 l2 l3).objs.size,.ref (GP S1 S2 S3 h l1 l2 l3).objs.size]}
def IV {P:Program}{w:World}{K:Fgx} (S1 S2 S3:AW P w K):Prop:=S1.ok/\S2.ok/\S3.ok/\∀(l1 l2 l3:Addr) (xs1 xs2 xs3:Array Value),
  Meets (Builtin.«zip.__new__» ⟨[.type "zip",.ref l1,.ref l2,.ref l3],[]⟩) (λ_ R s=>S1.Is s.heap l1 xs1/\S2.Is s.heap l2 xs2/\S3.Is s.heap l3 xs3/\R (.ok (.ret (.ref (GQ S1 S2 S3 s.heap l1 l2 l3).objs.size))) { s with heap:=CW S1 S2 S3 s.heap l1 l2 l3})
theorem PJ {X:Cx}{p pos:Pos}{e1 e2 e3:Expr}{ta:TA} (S1 S2 S3:AW X.prog X.w X.K) (zn:IV S1 S2 S3) (hg:Gl X "zip") (hm:X.mg "zip"=none) (ha:PA X [e1,e2,e3] ta) (hs1:starEach [e1,e2,e3] X.env=[(false,eval e1 X.env),(false,eval e2 X.env),(false,eval e3 X.env)]) (hs2:starEach [e2,e3] X.env=[(false,eval e2 X.env),(false,eval e3 X.env)]) (hs3:starEach [e3] X.env=[(false,eval e3 X.env)])
  {pins:PNs}{s:Shared}{σ:St}{H:Hp}{R:Addr->Addr->Addr->Hp->Prop} (I:Ad X pins σ H s) (h:ta σ H λvs H1=>∃l1 l2 l3,vs=[.ref l1,.ref l2,.ref l3]/\(∃xs,S1.Sq H1 l1 xs)/\(∃xs,S2.Sq H1 l2 xs)/\(∃xs,S3.Sq H1 l3 xs)/\R l1 l2 l3 H1):
  wpAny (model X.prog X.w) X.A (eval (.Call (.Name "zip" p) [e1,e2,e3] [] pos) X.env) (λv s1=>∃l1 l2 l3 H1,∃m:Nat,v= .ref (m+5)/\R l1 l2 l3 H1/\Ad X pins σ H1 s1/\IsZip s1.heap (m+5) (m+3) (m+4) .none/\BB s1.heap (m+3) (.ref m) (.ref (m+1)) (.ref (m+2))/\BB s1.heap (m+4) .none .none .none/\S1.It s1.heap m l1 0/\S2.It s1.heap (m+1) l2 0/\S3.It s1.heap (m+2) l3 0/\l1<m/\l2<m/\l3<m/\(∀b,m<=b->Bx X pins H1 b)/\s1.heap.objs.size=m+6) X.xe s:=by
 refine Call_ (Cq I hg hm boot_zip (PyProof.Rows.callWith_type1 (Ao (ha pos pins s σ H _ I h) λus s1 ⟨vs,H1,I1,r1,q1⟩=>?_) (by rw [hs1,hs2]) (by rw [hs2];rfl)));obtain⟨l1,l2,l3,e,⟨xs1,hq1⟩,⟨xs2,hq2⟩,⟨xs3,hq3⟩,q⟩:=q1;subst e;rcases r1 with _ | ⟨ru1,r1⟩
 rcases r1 with _ | ⟨ru2,r1⟩
 rcases r1 with _ | ⟨ru3,r1⟩
 cases r1;cases ru1;cases ru2;cases ru3;obtain⟨its1,rv1,is1,_⟩:=S1.get rfl I1 hq1;obtain⟨its2,rv2,is2,_⟩:=S2.get rfl I1 hq2;obtain⟨its3,rv3,is3,_⟩:=S3.get rfl I1 hq3;obtain⟨o1,ho1⟩:=S1.iso is1;have hl1:=Heap.lt_size ho1;obtain⟨o2,ho2⟩:=S2.iso is2;have hl2:=Heap.lt_size ho2;obtain⟨o3,ho3⟩:=S3.iso is3;have hl3:=Heap.lt_size ho3;refine callType_new F.called_zip (by decide) (PD _ _ _) (PF _ _ _) (λobj=>PH obj _ _ _) F.entry_zip_new (zn.2.2.2 l1 l2 l3 its1.toArray its2.toArray its3.toArray) ⟨is1,is2,is3,?_⟩;have z1:(GM S1 S2 S3 s1.heap l1 l2 l3).objs.size=s1.heap.objs.size+1:=by rw [Heap.size_push]
 have z2:(GN S1 S2 S3 s1.heap l1 l2 l3).objs.size=s1.heap.objs.size+2:=by rw [Heap.size_push,z1]
 have z3:(GO S1 S2 S3 s1.heap l1 l2 l3).objs.size=s1.heap.objs.size+3:=by rw [Heap.size_push,z2]
 have z4:(GP S1 S2 S3 s1.heap l1 l2 l3).objs.size=s1.heap.objs.size+4:=by rw [Heap.size_push,z3]
 have z5:(GQ S1 S2 S3 s1.heap l1 l2 l3).objs.size=s1.heap.objs.size+5:=by rw [Heap.size_push,z4]
 have zz:(CW S1 S2 S3 s1.heap l1 l2 l3).objs.size=s1.heap.objs.size+6:=by rw [Heap.size_push,z5]
 have gz:(CW S1 S2 S3 s1.heap l1 l2 l3).get? (GQ S1 S2 S3 s1.heap l1 l2 l3).objs.size=some _:=Heap.get?_push_size _ rfl;have gO:(CW S1 S2 S3 s1.heap l1 l2 l3).get? (GP S1 S2 S3 s1.heap l1 l2 l3).objs.size=some _:=Heap.get?_push_of_some _ (Heap.get?_push_size _ rfl);have gI:(CW S1 S2 S3 s1.heap l1 l2 l3).get? (GO S1 S2 S3 s1.heap l1 l2 l3).objs.size=some _:=Heap.get?_push_of_some _ (Heap.get?_push_of_some _ (Heap.get?_push_size _ rfl));have g1:S1.It (CW S1 S2 S3 s1.heap l1 l2 l3) s1.heap.objs.size l1 0:=S1.itk (S1.itn zn.1 _ _) λo q=>Heap.get?_push_of_some _ (Heap.get?_push_of_some _ (Heap.get?_push_of_some _ (Heap.get?_push_of_some _ (Heap.get?_push_of_some _ (q)))))
 have g2:S2.It (CW S1 S2 S3 s1.heap l1 l2 l3) (GM S1 S2 S3 s1.heap l1 l2 l3).objs.size l2 0:=S2.itk (S2.itn zn.2.1 _ _) λo q=>Heap.get?_push_of_some _ (Heap.get?_push_of_some _ (Heap.get?_push_of_some _ (Heap.get?_push_of_some _ (q))))
 have g3:S3.It (CW S1 S2 S3 s1.heap l1 l2 l3) (GN S1 S2 S3 s1.heap l1 l2 l3).objs.size l3 0:=S3.itk (S3.itn zn.2.2.1 _ _) λo q=>Heap.get?_push_of_some _ (Heap.get?_push_of_some _ (Heap.get?_push_of_some _ (q)))
 have kk:∀b o,s1.heap.get? b=some o->(CW S1 S2 S3 s1.heap l1 l2 l3).get? b=some o:=λb o x=>Heap.get?_push_of_some _ (Heap.get?_push_of_some _ (Heap.get?_push_of_some _ (Heap.get?_push_of_some _ (Heap.get?_push_of_some _ (Heap.get?_push_of_some _ (x))))))
 show _/\_;rw [z3,z4,z5] at gz;rw [z4] at gO;rw [z1,z2,z3] at gI;rw [z5];rw [z1] at g2;rw [z2] at g3;generalize CW S1 S2 S3 s1.heap l1 l2 l3=hE at g1 g2 g3 gI gO gz kk zz ⊢;have I2:Ad X pins σ H1 { s1 with heap:=hE}:=I1.kept (t':=s1.toks) kk;exact⟨⟨_,gz,rfl⟩,l1,l2,l3,H1,s1.heap.objs.size,rfl,q,I2,gz,gI,gO,g1,g2,g3,hl1,hl2,hl3,λb hb=>I1.fpOk hb (I1.hok.fresh hb),zz⟩
set_option maxHeartbeats 8000000 in
theorem PN (P:Program) (w:World) (K:Fgx):IV (BG P w K) (BG P w K) (BG P w K):=⟨trivial,trivial,trivial,λl1 l2 l3 xs1 xs2 xs3=>
 .of_wp λprog w A R s h=>by
  obtain⟨hp,g,d,tk,os⟩:=s;obtain⟨hl1,hl2,hl3,h⟩:=h;have hsub:=sub_zip;have hL1:Heap.IsTuple (Shared.heap ⟨hp,g,d,tk,os⟩) l1 xs1:=hl1;have hL2:Heap.IsTuple (Shared.heap ⟨(hp).push { cls:= .type "tuple_iterator",data:= .fields #[.ref l1,.int 0 0]},g,d,tk,os⟩) l2 xs2:=Heap.IsTuple.push (hl2) _;have hL3:Heap.IsTuple (Shared.heap ⟨((hp).push { cls:= .type "tuple_iterator",data:= .fields #[.ref l1,.int 0 0]}).push { cls:= .type "tuple_iterator",data:= .fields #[.ref l2,.int 0 0]},g,d,tk,os⟩) l3 xs3:=Heap.IsTuple.push (Heap.IsTuple.push (hl3) _) _
  wp_walk using wpAny_pyIter_tuple hL1,wpAny_pyIter_tuple hL2,wpAny_pyIter_tuple hL3
  exact⟨_,rfl,h⟩⟩
theorem PP {n l1 l2 l3:Nat} (h1:l1<n) (h2:l2<n) (h3:l3<n):GL (n+5) (n+3) (n+4) n (n+1) (n+2) l1 l2 l3:=by constructor<;>intro z<;>(have z':=z;revert z';intro z';try (change (_:Nat)=_ at z');omega)
def ER {P:Program}{w:World}{K:Fgx} (S1 S2 S3:AW P w K) (a b c:Addr):It:=
 ⟨λi H=>∃xs ys zs x y z,S1.Sq H a xs/\S2.Sq H b ys/\S3.Sq H c zs/\xs[i]? =some x/\ys[i]? =some y/\zs[i]? =some z,λi H v H'=>∃T,v= .ref T/\H T=none/\∀xs ys zs x y z,S1.Sq H a xs->S2.Sq H b ys->S3.Sq H c zs->xs[i]? =some x->ys[i]? =some y->zs[i]? =some z->H'=upd H T (.tup [x,y,z]),
  λi H=>∃xs ys zs,S1.Sq H a xs/\S2.Sq H b ys/\S3.Sq H c zs/\xs.length=i⟩
theorem PQ {P:Program}{w:World}{K:Fgx} (S1 S2 S3:AW P w K) {es:List Expr}{k:Nat}{pos:Pos} (z TI TO i1 i2 i3 l1 l2 l3:Addr) (D:GL z TI TO i1 i2 i3 l1 l2 l3):
  CC P w K (.Tuple es k pos) (ER S1 S2 S3 l1 l2 l3) [z,TI,TO,i1,i2,i3] z (λi h=>IsZip h z TI TO .none/\BB h TI (.ref i1) (.ref i2) (.ref i3)/\(∃a b c,BB h TO a b c)/\S1.It h i1 l1 i/\S2.It h i2 l2 i/\S3.It h i3 l3 i) where
 mem:=by simp
 obj:=λi h st b hb=>by
  obtain⟨hz,hTI,⟨a,b',c,hTO⟩,h1,h2,h3⟩:=st;simp only [mem_cons,not_mem_nil,or_false] at hb;rcases hb with e | e | e | e | e | e<;>rw [e]
  ·exact⟨_,hz,λv q=>by have q':Data.fields _=Data.cell v:=q;cases q'⟩
  ·exact⟨_,hTI,λv q=>by have q':Data.seq _ _=Data.cell v:=q;cases q'⟩
  ·exact⟨_,hTO,λv q=>by have q':Data.seq _ _=Data.cell v:=q;cases q'⟩
  ·exact S1.ito h1
  ·exact S2.ito h2
  ·exact S3.ito h3
 keep:=λi h h' st kk=>by
  obtain⟨hz,hTI,⟨a,b',c,hTO⟩,h1,h2,h3⟩:=st;exact⟨kk z (by simp) _ hz,kk TI (by simp) _ hTI,⟨a,b',c,kk TO (by simp) _ hTO⟩,S1.itk h1 λo q=>kk i1 (by simp) o q,S2.itk h2 λo q=>kk i2 (by simp) o q,S3.itk h3 λo q=>kk i3 (by simp) o q⟩
 item:=by
  intro X hP hw hK hc i pins s σ H E I hf st hg;subst hP hw;obtain⟨xs,ys,zs,x,y,v,hq1,hq2,hq3,hx,hy,hv⟩:=hg;obtain⟨its1,rv1,is1,hz1⟩:=S1.get hK I hq1;obtain⟨its2,rv2,is2,hz2⟩:=S2.get hK I hq2;obtain⟨its3,rv3,is3,hz3⟩:=S3.get hK I hq3;obtain⟨u1,hu1,ru1⟩:=rv1.get hx;obtain⟨u2,hu2,ru2⟩:=rv2.get hy;obtain⟨u3,hu3,ru3⟩:=rv3.get hv;obtain⟨hz,hTI,⟨a,b',c,hTO⟩,h1,h2,h3⟩:=st;have hh:=I.ok.hd hc;have hT:s.TypeIs (.ref z) "zip" :=⟨_,hz,rfl⟩;unfold pyNext;refine wpAny_bind (wpAny_attempt (wpAny_callSpecial?_slot (name:=Str.ofString "__next__") hT F.slot_zip_next (wpAny_call_entry F.slot_zip_next hT F.entry_zip_next
   (Pz S1 S2 S3 (x1:=u1) (x2:=u2) (x3:=u3) hh D ⟨_,_,hz,.inl rfl,.inl rfl⟩ hTI hTO ⟨h1,is1⟩ ⟨h2,is2⟩ ⟨h3,is3⟩ (by simpa using hu1) (by simpa using hu2) (by simpa using hu3) λh' tk _ az aTO a1 a2 a3 a5 a6 hk=>wpAny_pure ⟨_,rfl,?_⟩) (F.args_zip_next_1 _))))
  refine wpAny_letOwnedTupleGo_zip (az (.inr hz)) λh'' z1 sb=>?_
  have kk:∀b o,b ∉ [z,TI,TO,i1,i2,i3]->s.heap.get? b=some o->h''.get? b=some o:=λb o hb q=>sb.extBut b o (λe=>hb (by simp [e])) (hk b o (λe=>hb (by simp [e])) (λe=>hb (by simp [e])) (λe=>hb (by simp [e])) (λe=>hb (by simp [e])) (λe=>hb (by simp [e])) q)
  have zl:z<s.heap.objs.size:=Heap.lt_size hz;have ht:IsTup h'' s.heap.objs.size [u1,u2,u3].toArray:=⟨_,sb.extBut _ _ (Nat.ne_of_gt zl) a5,rfl,_,rfl⟩;obtain⟨b1,b2,b3,aTO⟩:=aTO;exact⟨.ref s.heap.objs.size,upd H s.heap.objs.size (.tup [x,y,v]),I.yielded (tk:=tk) (λb hb=>hf b hb) kk (Nat.le_refl _) ht (.cons ru1 (.cons ru2 (.cons ru3 .nil))) (by show 3<=sizeLine;decide),rfl,
   ⟨_, rfl, I.hok.fresh (Nat.le_refl _), λxs' ys' zs' x' y' v' e1 e2 e3 e4 e5 e6 => by
    rw [S1.inj hK I e1 hq1,hx] at e4;rw [S2.inj hK I e2 hq2,hy] at e5;rw [S3.inj hK I e3 hq3,hv] at e6;cases e4;cases e5;cases e6;rfl⟩,
   ⟨z1, sb.extBut _ _ D.TI_z (hk _ _ D.TI_z D.TO_TI.symm D.i1_TI.symm D.i2_TI.symm D.i3_TI.symm hTI), ⟨_, _, _, sb.extBut _ _ D.TO_z aTO⟩, S1.itk a1.1 λo q => sb.extBut _ o D.i1_z q, S2.itk a2.1 λo q => sb.extBut _ o D.i2_z q, S3.itk a3.1 λo q => sb.extBut _ o D.i3_z q⟩, λb hb => by
    have hbt:b<s.heap.objs.size:=by
     simp only [mem_cons,not_mem_nil,or_false] at hb;rcases hb with e | e | e | e | e | e<;>rw [e]
     ·exact zl
     ·exact Heap.lt_size hTI
     ·exact Heap.lt_size hTO
     ·obtain⟨o,q,_⟩:=S1.ito h1;exact Heap.lt_size q
     ·obtain⟨o,q,_⟩:=S2.ito h2;exact Heap.lt_size q
     ·obtain⟨o,q,_⟩:=S3.ito h3;exact Heap.lt_size q
    rw [Ar (Nat.ne_of_lt hbt)];exact(hf b hb).1⟩
 done:=by
  intro X hP hw hK hc i pins s σ H E I hf st hg;subst hP hw;obtain⟨xs,ys,zs,hq1,hq2,hq3,hend⟩:=hg;obtain⟨its1,rv1,is1,hz1⟩:=S1.get hK I hq1;obtain⟨its2,rv2,is2,hz2⟩:=S2.get hK I hq2;obtain⟨its3,rv3,is3,hz3⟩:=S3.get hK I hq3;obtain⟨hz,hTI,⟨a,b',c,hTO⟩,h1,h2,h3⟩:=st;have hh:=I.ok.hd hc;have hT:s.TypeIs (.ref z) "zip" :=⟨_,hz,rfl⟩;have e1:=rv1.length;unfold pyNext;refine wpAny_bind (wpAny_attempt (wpAny_callSpecial?_slot (name:=Str.ofString "__next__") hT F.slot_zip_next (wpAny_call_entry F.slot_zip_next hT F.entry_zip_next
   (PC S1 S2 S3 hh D ⟨_,_,hz,.inl rfl,.inl rfl⟩ hTI hTO ⟨h1,is1⟩ ⟨h2,is2⟩ ⟨h3,is3⟩ (by simp;omega) λh' tk e hk he=>?_) (F.args_zip_next_1 _))))
  obtain⟨o,ho,hco⟩:=he;refine wpAny_bind (wpAny_isInstance (T:="StopIteration") (b:=true) ⟨o,ho,hco⟩ isSubtype_stop ?_);exact wpAny_pure ⟨rfl,I.ended (wr:=[z,TI,TO,i1,i2,i3]) (tk:=tk) (λb hb=>hf b hb) λb o hb q=>hk b o (λe=>hb (by simp [e])) (λe=>hb (by simp [e])) (λe=>hb (by simp [e])) (λe=>hb (by simp [e])) (λe=>hb (by simp [e])) q⟩
 self:=λ_ _ _ _ _ st h=>wpAny_pyIter_zip st.1 h
def IW {P:Program}{w:World}{K:Fgx} (S1 S2 S3:AW P w K) (ta:TA):TI:=fun σ H R=>ta σ H λvs H1=>∃a b c,vs=[.ref a,.ref b,.ref c]/\(∃xs,S1.Sq H1 a xs)/\(∃ys,S2.Sq H1 b ys)/\(∃zs,S3.Sq H1 c zs)/\R (ER S1 S2 S3 a b c) H1
theorem PR {es:List Expr} (S1 S2 S3:AW X.prog X.w X.K) (zn:IV S1 S2 S3) (hg:Gl X "zip") (hm:X.mg "zip"=none) (ha:PA X [e1,e2,e3] ta)
  (hs1:starEach [e1,e2,e3] X.env=[(false,eval e1 X.env),(false,eval e2 X.env),(false,eval e3 X.env)]) (hs2:starEach [e2,e3] X.env=[(false,eval e2 X.env),(false,eval e3 X.env)]) (hs3:starEach [e3] X.env=[(false,eval e3 X.env)]):
  PI X (.Tuple es k pos') (.Call (.Name "zip" p) [e1,e2,e3] [] pos) (IW S1 S2 S3 ta):=by
 intro pins s σ H R I h;refine Ao (PJ S1 S2 S3 zn (R:=λl1 l2 l3 H1=>R (ER S1 S2 S3 l1 l2 l3) H1) hg hm ha hs1 hs2 hs3 I h) λv s1 ⟨l1,l2,l3,H1,m,e,q,I1,gz,gI,gO,g1,g2,g3,h1,h2,h3,fr,_⟩=>?_
 subst e;exact wpAny_pyIter_zip gz ⟨_,[m+5,m+3,m+4,m,m+1,m+2],_,_,H1,rfl,I1,PQ S1 S2 S3 _ _ _ _ _ _ l1 l2 l3 (PP h1 h2 h3),⟨gz,gI,⟨_,_,_,gO⟩,g1,g2,g3⟩,λb hb=>fr b (by
  simp only [mem_cons,not_mem_nil,or_false] at hb;rcases hb with e | e | e | e | e | e<;>rw [e]<;>first | exact Nat.le_refl _ | exact Nat.le_add_right _ _),q⟩
theorem PU {es:List Expr} (hg:Gl X "zip") (hm:X.mg "zip"=none) (ha:PA X [e1,e2,e3] ta)
  (hs1:starEach [e1,e2,e3] X.env=[(false,eval e1 X.env),(false,eval e2 X.env),(false,eval e3 X.env)]:=by rfl) (hs2:starEach [e2,e3] X.env=[(false,eval e2 X.env),(false,eval e3 X.env)]:=by rfl) (hs3:starEach [e3] X.env=[(false,eval e3 X.env)]:=by rfl):
  PI X (.Tuple es k pos') (.Call (.Name "zip" p) [e1,e2,e3] [] pos) (IW (BG X.prog X.w X.K) (BG X.prog X.w X.K) (BG X.prog X.w X.K) ta):=PR _ _ _ (PN _ _ _) hg hm ha hs1 hs2 hs3
end L2
end
section
namespace L2
open AutoSeq1 (wpAny_loadPart')
end L2
end
section
namespace L2
section
variable {X : Cx}
theorem PV (P:Program) (w:World) (K:Fgx) {es:List Expr}{k:Nat}{p pos pos':Pos}{e1 e2 e3:Expr}{ta:TA} (hg:Gl X "zip") (hm:X.mg "zip"=none) (ha:PA X [e1,e2,e3] ta) (hP:X.prog=P:=by rfl) (hw:X.w=w:=by rfl) (hK:X.K=K:=by rfl)
  (hs:starEach [e1,e2,e3] X.env=[(false,eval e1 X.env),(false,eval e2 X.env),(false,eval e3 X.env)]:=by rfl) (hs2:starEach [e2,e3] X.env=[(false,eval e2 X.env),(false,eval e3 X.env)]:=by rfl) (hs3:starEach [e3] X.env=[(false,eval e3 X.env)]:=by rfl):
  PI X (.Tuple es k pos') (.Call (.Name "zip" p) [e1,e2,e3] [] pos) (IW (BG P w K) (BG P w K) (BG P w K) ta):=by subst hP hw hK;exact PU hg hm ha hs hs2 hs3
end
section
variable {X : Cx}
end
section
variable {prog : Program} {w : World} {A : Around} {R : Result -> Shared -> Prop} {s : Shared} {elt tg1 it1 tg2 it2 tg3 it3 : Expr} {ifs1 ifs2 ifs3 : List Expr} {scope : Scope} {pos : Pos} {it acc : Value} {env : Env}
end
def PX (wi2:TI) (g2:TG) (tt2:TT) (wi3:TI) (g3:TG) (tt3:TT) (te:TE):St->List V->Hp->(List V->Hp->Prop)->Prop:=fun σ ys H N=>wi2 σ H λJ H1=>
 ∃W:Nat->Nat->List V->Hp->Prop,(∃m,W 0 m ys H1)/\∀j m zs H,W j m zs H->
  (J.stop j H/\N zs H)\/
  (J.go j H /\ ∃ N2 : List V -> Hp -> Prop, (∀ zs' H', N2 zs' H' -> ∃ m', m' < m /\ W (j + 1) m' zs' H') /\ ∀ x H', J.yld j H x H' -> g2 x σ H' fun σ3 H2 => Keep σ σ3 /\ tt2 σ3 H2 λb H3 =>
   br b (GI wi3 g3 tt3 te σ3 zs H3 N2) (N2 zs H3))
section
variable {X : Cx}
end
theorem Lj (K:Fgx) {o e:Expr}{es:List Expr}{to:TE}{t:TA}{name:Str}{apos cpos:Pos}{T id:String}{r:V->List V->Hp->VK->Prop}{X:Cx} (pa:PlainAttrs T) (slot:Slot T name id) (hty:typeOf (.builtin id)=pure (.type "method_descriptor")) (hm:Gf X id r) (ho:PE X o to) (ha:PA X (e::es) t) (hK:X.K=K:=by rfl)
  (hbase:attributeBase o name X.env (eval o X.env)=eval o X.env:=by rfl)
  (hfew : ((backTo cpos (starEach (e :: es) X.env)).all (λx => !x.1) && (backToKw cpos (keywordEach [] X.env)).all (λx => x.1.isSome)
   && decide ((e::es).length+([]:List Keyword).length+(if ([]:List Keyword).isEmpty then 0 else 1)<30))=true:=by rfl)
  (hline:(apos.endLine==cpos.line)=true:=by rfl) (hs:starEach (e::es) X.env=(false,eval e X.env)::starEach es X.env:=by rfl) (hplain:(backTo cpos (starEach es X.env)).any (·.1)=false:=by rfl):
  PE X (.Call (.Attribute o name apos) (e::es) [] cpos) (Kg K T r to t):=hK ▸ BZ pa slot hty hm ho ha hbase hfew hline hs hplain
def WalkO (J:It) (cap:List (Option Nat)) (g:TG) (tt:TT) (wi2:TI) (g2:TG) (tt2:TT) (wi3:TI) (g3:TG) (tt3:TT) (te:TE) (σ:St) (Q:List V->Hp->Prop) (H1:Hp):Prop:=
 ∃W:Nat->Nat->List V->Hp->Prop,(∃m,W 0 m [] H1)/\∀i m ys H,W i m ys H->
  (J.stop i H/\Q ys H)\/
  (J.go i H /\ ∃ N : List V -> Hp -> Prop, (∀ ys' H', N ys' H' -> ∃ m', m' < m /\ W (i + 1) m' ys' H') /\ ∀ x H', J.yld i H x H' -> g x (AL cap σ) H' fun σ2 H2 => Keep (AL cap σ) σ2 /\ tt σ2 H2 λb H3 =>
   br b (PX wi2 g2 tt2 wi3 g3 tt3 te σ2 ys H3 N) (N ys H3))
end L2
end
section
namespace L2
section
variable {X : Cx}
end
end L2
namespace MF
open L2
end MF
end
section
namespace L2
section
variable {X : Cx}
end
end L2
end
section
namespace L2
open AutoSeq1 (wpAny_loadPart')
section
variable {P : Program} {w : World} {K : Fgx} {A : Around} {E : Value -> Shared -> Prop} {s : Shared} (S1 S2 : AW P w K)
end
end L2
end
section
namespace L2
section
variable {X : Cx}
section
open HT
variable {prog : Program} {w : World} {A : Around} {E : Value -> Shared -> Prop} {s : Shared}
end
end
theorem ObjOk.there {P:Program}{w:World}{H:Hp}{h:Heap}{a:Addr}{o:HO} (x:ObjOk P w H h a o):∃u,h.get? a=some u:=by
 cases o with
 | lst xs=>obtain⟨_,_,_,_,e⟩:=x;exact⟨_,e⟩
 | tup xs=>obtain⟨_,_,_,o,e,_⟩:=x;exact⟨_,e⟩
 | dK kvs=>obtain⟨_,_,_,_,o,_,_,e,_⟩:=x;exact⟨_,e⟩
 | dT kvs=>obtain⟨_,_,_,_,o,_,_,e,_⟩:=x;exact⟨_,e⟩
 | set S n=>obtain⟨o,_,_,_,e,_⟩:=x;exact⟨_,e⟩
 | ins C dx fs=>obtain⟨_,_,_,e,_⟩:=x;exact⟨_,e⟩
 | own y=>obtain⟨_,e⟩:=x;exact⟨_,e⟩
 | xd fs=>obtain⟨_,⟨_,_,_,e,_⟩,_⟩:=x;exact⟨_,e⟩
 | rng lo hi=>obtain⟨_,_,_,e⟩:=x;exact⟨_,e⟩
 | frz ob u=>obtain⟨e,_⟩:=x;exact⟨_,e⟩
 | tbl ps=>exact⟨_,x⟩
 | met f y=>exact⟨_,x⟩
 | ext φ=>obtain⟨_,⟨_,e⟩,_⟩:=x;exact⟨_,e⟩
structure PY (P:Program) (w:World) (outer:List Env) (H:Hp) (s:Shared) (H':Hp) (C e:Addr) (s':Shared):Prop where
 os:s'.os=s.os
 bare:AllBare s'.gens
 un:Un (AI outer) [] H H' s.heap s'.heap
 fly:∃B t,Heap.FlyingW B outer e (.ref C) t s'.heap/\(∀b o,s.heap.get? b=some o->H b=none->b ∉ AI outer->B.get? b=some o)/\
  (∀b o,s.heap.get? b=some o->b ∉ AI outer->∃o',B.get? b=some o')/\HOk P w H' B
def CM (P:Program) (w:World):Cr:=λouter H s E v s'=>∃C e H',v= .ref e/\PY P w outer H s H' C e s'/\E (.ref C) none H'
structure IsDef (X:Cx) (E:XK):Prop where
 stk:X.stack=X.env::X.outer
 fr:X.env.frame=some X.env.locals
 ex:X.ex=[]
 xe:∀e s',wpAny (model X.prog X.w) X.A (leaving X.env e) (λ_ s''=>CM X.prog X.w X.outer X.H₀ X.s₀ E e s'') (λ_ _=>False) s'->X.xe e s'
section
variable {X : Cx} {pins : List (Addr × Obj)} {σ : St} {H H' : Hp} {s s' : Shared} {C e : Addr} {E : XK}
theorem PZ {env:Env}{l:List Env}{b L:Addr} (hf:env.frame=some L) (h:b∈AI (env::l)):b=L\/b∈AI l:=by
 unfold AI at h ⊢;obtain⟨x,hx,hb⟩:=mem_filterMap.mp h;rcases mem_cons.mp hx with rfl | hx
 ·rw [hf] at hb;exact .inl (Option.some.inj hb).symm
 ·exact .inr (mem_filterMap.mpr ⟨x,hx,hb⟩)
theorem IsDef.un (D:IsDef X E) (I:Ad X pins σ H s) (u:Un (AI X.stack) [] H H' s.heap s'.heap) {B h':Heap} (up:s'.heap.UpToSlots h') (ff:s'.heap.FunFrames B X.stack) (st:B.StaysIn h')
  (kB:∀b o,s.heap.get? b=some o->H b=none->b ∉ AI X.stack->B.get? b=some o) (tB:∀b o,s.heap.get? b=some o->b ∉ AI X.stack->∃o',B.get? b=some o'):
  Un (AI X.outer) [] X.H₀ H' X.s₀.heap h'/\(∀b o,X.s₀.heap.get? b=some o->X.H₀ b=none->b ∉ AI X.outer->B.get? b=some o)/\
   (∀b o,X.s₀.heap.get? b=some o->b ∉ AI X.outer->∃o',B.get? b=some o'):=by
 have nl:∀b o,X.s₀.heap.get? b=some o->b≠X.env.locals:=λb o e z=>by
  have:=Heap.lt_size e;rw [z] at this;exact absurd (Nat.lt_of_lt_of_le this I.ok.above) (Nat.lt_irrefl _)
 have nx:∀b,b ∉ X.ex:=λb z=>by rw [D.ex] at z;cases z
 have ns:∀b o,X.s₀.heap.get? b=some o->b ∉ AI X.outer->b ∉ AI X.stack:=λb o e n z=>by
  rw [D.stk] at z;rcases PZ D.fr z with q | q
  ·exact nl b o e q
  ·exact n q
 have kB':∀b o,X.s₀.heap.get? b=some o->X.H₀ b=none->b ∉ AI X.outer->B.get? b=some o:=λb o e n hb=>
  kB b o (I.base.keep b o e n hb (nx b)) (I.base.free b o e n (nx b)) (ns b o e hb)
 have tB':∀b o,X.s₀.heap.get? b=some o->b ∉ AI X.outer->∃o',B.get? b=some o':=λb o e hb=>by
  obtain⟨o1,e1⟩:=I.base.there b o e (nx b);exact tB b o1 e1 (ns b o e hb)
 have frn:∀b,b∈AI X.outer->∀o,s'.heap.get? b=some o->∀vs,o.data≠ .fields vs:=λb hb o eo=>by
  have hb':b∈(X.env::X.outer).filterMap (·.frame):=by
   obtain⟨x,hx,hf⟩:=mem_filterMap.mp hb;exact mem_filterMap.mpr ⟨x,.tail _ hx,hf⟩
  rw [D.stk] at ff;obtain⟨_,o',ho',hd⟩:=ff.mem hb';rw [eo] at ho';cases ho';exact hd
 have sub:∀b,b∈AI X.outer->b∈AI X.stack:=λb hb=>by
  rw [D.stk];obtain⟨x,hx,hf⟩:=mem_filterMap.mp hb;exact mem_filterMap.mpr ⟨x,.tail _ hx,hf⟩
 refine⟨⟨λb o e n hb _=>st b o (kB' b o e n hb),λb o e n hb _=>?_,λb o e n _=>?_,λb o e _=>?_,λb xs q=>u.tups b xs (I.base.tups b xs q),λb o' xs q=>u.frzs b o' xs (I.base.frzs b o' xs q),λb ps q=>?_⟩,kB',tB'⟩
 ·obtain⟨s1,e1⟩:=I.base.slot b o e n hb (nx b);obtain⟨s2,e2⟩:=u.slot b _ e1 (I.base.free b o e n (nx b)) (sub b hb) (by simp);obtain⟨s3,e3⟩:=up b _ e2 (frn b hb _ e2);exact⟨s3,e3⟩
 ·obtain⟨o1,e1⟩:=I.base.there b o e (nx b);exact u.free b o1 e1 (I.base.free b o e n (nx b)) (by simp)
 ·by_cases hb:b∈AI X.outer
  ·obtain⟨o1,e1⟩:=I.base.there b o e (nx b);obtain⟨o2,e2⟩:=u.there b o1 e1 (by simp);obtain⟨s3,e3⟩:=up b _ e2 (frn b hb _ e2);exact⟨_,e3⟩
  ·obtain⟨o1,e1⟩:=tB' b o e hb;exact⟨o1,st b o1 e1⟩
 ·obtain⟨m1,e1⟩:=I.base.tbls b ps q;obtain⟨m2,e2⟩:=u.tbls b _ e1;exact⟨m1++m2,by rw [e2,Array.append_assoc]⟩
theorem IsDef.passes (D:IsDef X E):Gc (CM X.prog X.w) X E:=by
 intro pins σ H s v s' I ⟨C,e,H',hv,x,q⟩;subst hv;refine D.xe _ _ ?_;obtain⟨B,t,fl,kB,tB,hB⟩:=x.fly;have ff:=fl.2.2.1;have fl2:=fl;rw [D.stk] at fl2;have hfr:X.A.frames=some (X.env::X.outer):=by rw [<-D.stk];exact I.ok.frames
 refine wpAny_leaves_onW hfr D.fr fl2 λh' fl' up=>?_
 obtain⟨u,k1,k2⟩:=D.un I x.un up ff fl'.1 kB tB;exact⟨C,e,H',rfl,⟨x.os.trans I.os,x.bare,u,B,t,fl',k1,k2,hB⟩,q⟩
theorem IsDef.made (D:IsDef X E) (I:Ad X pins σ H s) {h1:Heap}{vs:List Value} (hx:Heap.MadeExcOf s.heap h1 e (.ref C) vs) (q:E (.ref C) none H):X.xe (.ref e) { s with heap:=h1}:=by
 refine D.xe _ _ ?_;have hfr:X.A.frames=some (X.env::X.outer):=by rw [<-D.stk];exact I.ok.frames
 have hin:∀env∈(X.env::X.outer),∀b,env.frame=some b->b∈AI (X.env::X.outer):=λenv he b hb=>mem_filterMap.mpr ⟨env,he,hb⟩
 have stS:s.heap.FunFrames X.base (X.env::X.outer):=by rw [<-D.stk];exact I.stack
 have ff:=PySem.W.funFrames_hide stS hin;refine wpAny_leaves_madeW (base:=PySem.W.hideAll s.heap (AI (X.env::X.outer))) (h:=s.heap) hfr D.fr (λb o q=>PySem.W.of_hideAll _ q) ff hx λh' t fl tup tn up=>?_
 have gB:∀b o,s.heap.get? b=some o->b ∉ AI X.stack->(PySem.W.hideAll s.heap (AI (X.env::X.outer))).get? b=some o:=λb o e n=>PySem.W.hideAll_get _ e (by rw [<-D.stk];exact n)
 have ff1:h1.FunFrames (PySem.W.hideAll s.heap (AI (X.env::X.outer))) X.stack:=by
  rw [D.stk];exact ff.of_keeps λb o hb _=>⟨o,hx.keeps b o hb,rfl⟩
 obtain⟨u,k1,k2⟩:=D.un (s':= { s with heap:=h1}) (H':=H) I (Un.kept hx.keeps) up ff1 fl.1 (λb o e _ n=>gB b o e n) (λb o e n=>⟨o,gB b o e n⟩);refine⟨C,e,H,rfl,⟨I.os,I.bare,u,_,_,fl,k1,k2,λa o ea=>(I.hok a o ea).stay (λb u hb eb=>?_) (λ_ z=>z) λ_ _ z=>z⟩,q⟩;refine gB b u eb λz=>?_
 have hn:=I.stkFree b z;rcases hb with rfl | hb
 ·rw [ea] at hn;cases hn
 ·rw [hb] at hn;cases hn
end
end L2
end
section
namespace L2
open PySem PySem.Spec PyProof.Rows PySem.W Builtin Builtin.ObjectAttr Builtin.Getset_descriptor
def ExcAt (h:Heap) (x D:Addr):Prop:=∃ox,h.get? x=some ox/\ox.cls= .ref D
theorem ExcAt.type {M:Model}{h:Heap}{x D:Addr} (I:ExcAt h x D):Looks M h (typeOf (.ref x)) (.ref D):=
 match I with | ⟨_,h1,h2⟩=>h2 ▸(Looks.ld h1).andThen .now
structure Ek (K:Frag) (D:Addr):Prop where
 ga:findIn K (.ref D) "__getattribute__"=some (some (.builtin "BaseException.__getattribute__"))
 gt:findIn K (.ref D) "__getattr__"=some none
 cl:(clsIn K D).isSome=true
 ca:findIn K (.ref D) "__class__"=some (some (.builtin "object.__class__"))
 cn:specialIn K (.builtin "object.__class__") "__get__"=some (some (.builtin "getset_descriptor.__get__"))
 tk:takesIn K (.builtin "object.__class__")=some true
 ob:mroIn K D (.type "object")=some true
 bx:mroIn K D (.type "BaseException")=some true
section
variable {prog : Program} {w : World} {A : Around} {E : Value -> Shared -> Prop} {s : Shared} {K : Frag} {x D : Addr}
theorem P0 {M:Model}{T:String}{h:Heap} (X:K.In h) (I:ExcAt h x D) (e:mroIn K D (.type T)=some true):Looks M h (isInstance (.ref x) (.type T)) true:=I.type.andThen (looks_mroIn X e)
theorem P1 {M:Model}{h:Heap} (O:Ek K D) (X:K.In h) (I:ExcAt h x D):Looks M h (Builtin.ObjectAttr.find (.ref x) (.ref D) "__class__") (.bind (.builtin "getset_descriptor.__get__") (.builtin "object.__class__")):=by
 have d:Looks M h (Builtin.ObjectAttr.dataDescriptor? (some (.builtin "object.__class__")) (some (.builtin "getset_descriptor.__get__"))) (some (.builtin "getset_descriptor.__get__",.builtin "object.__class__")):=(looks_takesIn X O.tk).andThen .now;have g:Looks M h (Builtin.ObjectAttr.getOf (some (.builtin "object.__class__"))) (some (.builtin "getset_descriptor.__get__")):=looks_specialIn X O.cn;exact(looks_findIn X O.ca).andThen (g.andThen (d.andThen (Looks.tag .now)))
theorem P2 {R:Result->Shared->Prop}{tp:Value} (O:Ek K D) (X:K.In s.heap) (I:ExcAt s.heap x D) (h:R (.ok (.ret (.ref D))) s):
  codeAny (model prog w) A (.call (.builtin "getset_descriptor.__get__") ⟨[.builtin "object.__class__",.ref x,tp],[]⟩) R s:=by
 cases s;have t:=I.type (M:=model prog w);have o:=looks_mroIn (M:=model prog w) X O.ob;have a:=dga_obj (.builtin "object.__class__") tp x;have sl:=KF.slot_gs;refine codeAny_call_builtin sl.plain KF.entry_gs (sl.check _ _ _ _ _ _ _ _ KF.type_class (KF.args_gs _ _ _) ?_);have ow:=KF.owner_class;unfold Builtin.«getset_descriptor.__get__» descrGet descrGetter descrCheckInstance descrNameAndClass isInstance;simp only [a,ow]
 repeat (first | with_reducible refine Looks.at (by assumption) ?_ | wp_step)
 simp only [ow]
 repeat (first | with_reducible refine Looks.at (by assumption) ?_ | wp_step)
 have q:(Code.builtin "object.__class__" ⟨[.ref x],[]⟩).quiet=true:=Code.quiet_builtin _ (by decide+kernel);refine⟨q,codeAny_builtin KF.entry_class ?_⟩;simp only [Builtin.«object.__class__»,shownTypeOf]
 repeat (first | assumption | with_reducible refine Looks.at (by assumption) ?_ | wp_step)
set_option maxHeartbeats 1000000 in
theorem P3 {Q:Option Value->Shared->Prop} (O:Ek K D) (X:K.In s.heap) (I:ExcAt s.heap x D) (h:Q (some (.ref D)) { s with toks:=s.toks+1}):wpAny (model prog w) A (getAttr? (.ref x) "__class__") Q E s:=by
 cases s;have L0:=I.type (M:=model prog w);have L1:=looks_findIn (M:=model prog w) X O.ga;have L2:=looks_findIn (M:=model prog w) X O.gt;have L3:=P1 (M:=model prog w) O X I;have L4:=P0 (M:=model prog w) X I O.bx;have b:=PySem.F.attr_ValueError.ga.bind (.ref x);have n:(Value.builtin "BaseException.__getattribute__"==Value.builtin "object.__getattribute__")=false:=by decide+kernel
 simp only [getAttr?,getAttrBy?,getAttrBy]
 repeat (any_goals (first | assumption | with_reducible refine Looks.at (by assumption) ?_ | wp_step))
 refine codeAny_call_builtin PySem.F.attr_ValueError.ga.plain F.entry_bexc_ga ?_;have kd:builtinKind "BaseException.__getattribute__"=some .slot:=by decide+kernel
 have sp:splitId "BaseException.__getattribute__"=some ("BaseException","__getattribute__"):=by decide+kernel
 have ar:=F.args_bexc_ga (.ref x);simp only [checkBuiltinCall,kd,sp]
 repeat (any_goals (first | assumption | with_reducible refine Looks.at (by assumption) ?_ | exact wpAny_of_eq (ar _) (wpAny_pure ‹_›) | wp_step))
 refine P2 O X I ?_
 repeat (any_goals (first | assumption | wp_step))
theorem P4 (O:Ek K D):KitX K (.ref x) (.ref D) (λh=>ExcAt h x D):=by
 obtain⟨cd,hc⟩:=Option.isSome_iff_exists.mp O.cl;have at_:∃c d sl,K.lookup D=some ⟨c,d,.cls cd,sl⟩:=by
  unfold clsIn at hc;split at hc
  ·rename_i ho;exact⟨_,_,_,by rw [ho];cases hc;rfl⟩
  ·cases hc
 obtain⟨c,d,sl,ho⟩:=at_;refine⟨λ_ _ _ I=>I.type,λ_ _ X _=>?_,λh tp dd its n sl' X htp=>?_,λX I k=>P3 O X I k⟩
 ·exact(Looks.ld (X _ _ ho)).andThen .now
 ·cases e:(Value.ref D==Value.ref tp)
  ·rfl
  ·have e':D=tp:=by simpa using e
   have:=X _ _ ho;rw [e',htp] at this;cases this
end
def El (a D:Addr):HO:= .ext λh=>∃oe,h.get? a=some oe/\oe.cls= .ref D
section
variable {X : Cx} {pins : List (Addr × Obj)} {σ : St} {H : Hp} {s : Shared} {A : Around} {E : Value -> Shared -> Prop} {Q : Value -> Shared -> Prop} {c : Value} {b : Bool} {a D : Addr}
theorem P5 (I:Ad X pins σ H s) (e:H a=some (El a D)) (O:Ek X.K D) (k:PySem.W.kitOne X.K (.ref D) c=some b) (h:∀tk,Q (.bool b) { s with toks:=tk}):
  wpAny (model X.prog X.w) A (call (.builtin "isinstance") [.ref a,c]) Q E s:=by
 obtain⟨h1,_,_⟩:=(show ObjOk X.prog X.w H s.heap a (El a D) from I.hok a _ e);exact PySem.W.kia_one (P4 O) I.kIn h1 k (λz=>nomatch z) h
end
end L2
end
section
namespace L2
theorem P6 {K:Fgx}{mg:Str->Option Value}{base:Heap} (M:Mod K mg base):∃(loose:List Str) (mb:Str->Option Value),PySem.W.TopRead default loose mg mb base:=by
 obtain⟨mb,hb,hbb⟩:=M.blt;obtain⟨o,es,ep,ho,hd,hk,hf⟩:=M.glob;refine⟨es.toList.filterMap (λe=>match e.key with | .str n _=>some n | _=>none),mb,⟨⟨o,es,ep,ho,hd,hk,hf⟩,hb,M.nolimit,hbb,λx _ hx _ _ _=>?_⟩⟩;rw [<-hf];unfold nsFind findBy;rw [<-Array.find?_toList];cases q:es.toList.find? (λe=>e.key.isStr x) with
 | none=>rfl
 | some e=>
  exfalso
  have hm:=List.mem_of_find?_eq_some q;have hs:=List.find?_some q;obtain⟨n,t,hn⟩:=hk e (by simpa using hm);refine hx (mem_filterMap.mpr ⟨e,hm,?_⟩);rw [hn] at hs ⊢;have:n=x:=by simpa [Value.isStr] using hs
  rw [this]
abbrev IY:List Value:=[.type "ValueError",.type "Exception",.type "BaseException",.type "object"]
section
variable {X : Cx} {E : XK} {st : Stmt} {rest : List Stmt} {t : TS}
theorem P7 (D:IsDef X E) {x:Str}{C:Addr}{a:Expr}{ta:TA}{np cpos pos:Pos} (hc:X.calm=true) (hn:PySem.W.nsIn X.K mainGlobals x=some (some (.ref C))) (q:PySem.W.excIn X.K C IY "ValueError.__new__"=true) (hg:Gl X x) (ha:PA X [a] ta)
  (hdb:(x==("__debug__" :Str))=false:=by decide) (he:starEach [a] X.env=(false,eval a X.env)::starEach [] X.env:=by rfl):
  PS X (.Raise (some (.Call (.Name x np) [a] [] cpos)) none pos) (λ_ σ H=>ta σ H λvs H1=>vs.length<=sizeLine/\E (.ref C) none H1):=by
 intro pins s σ H D' I h;obtain⟨loose,mb,T⟩:=P6 I.ok.mod;have O:=(PySem.W.own_of_in I.ok.mod.kin T hn q).keeps I.bk;have O0:=O;obtain⟨tl,N,nm,qn,bs,hdct,sn,sub,ab,col,dd,k0,k1,k2,k3,k5,mN,hC,hN,hni,TL⟩:=(PySem.W.own_of_in I.ok.mod.kin T hn q).obj;refine wpAny_Raise_call_subT (C:=C) (nm:=nm) (q:=qn) (N:=N) (bs:=bs) (bm:=tl) (hdct:=hdct) (sn:=sn) (sub:=sub) (ab:=ab) (col:=col) (dd:=dd) (k0:=k0) (k1:=k1) (k2:=k2) (k3:=k3) (k5:=k5) PySem.F.excBase_ValueError (mN:=mN)
  (TL.hasType PySem.F.excBase_ValueError.hasBase) (I.ok.hd hc) (by rw [he];rfl) hni (Ex I hg O.bound ⟨rfl,?_⟩ hdb)
 have hp:=ha cpos pins s σ H _ I h;rw [he] at hp ⊢;refine Calls.evalArgs_plain (wpAny_mono hp (λus s2 ⟨vs,H1,I1,rv,hl,q1⟩=>⟨rfl,by rw [<-rv.length];exact hl,I1.bk _ _ hC,hN.keeps I1.bk,TL.keeps I1.bk,λh' e hm=>?_⟩) λ_ _ y=>y);exact D.made I1 hm q1
end
section
variable {P : Program} {w : World} {K : Fgx} {mg : Str -> Option Value} {base : Heap}
structure Dh (P:Program) (w:World) (K:Fgx) (mg:Str->Option Value) (base:Heap) (n:Nat) (x:Str) (ps:List Str) (sp:Sp):Prop where
 ex:∃(f:Addr) (fd:FuncData),CH P w K mg base (CM P w) n f fd ps sp/\mg x=some (.ref f)/\PySem.W.keepIn K (.ref f)=true/\Binds K fd ps []
theorem Lk {N:List Str}{qual:Str}{scope:Scope}{f:Addr}{cd:Value}{A:Around}{outer:List Env}{s:Shared}{H:Hp}{E:XK}:IsDef (BR (CM P w) P w K mg base N qual scope f cd A outer s H E) E:=
 ⟨rfl,rfl,rfl,λe s' h=>wpAny_mono h (λ_ _ z=>z) λ_ _ z=>z.elim⟩
theorem Df.fnE {x:Str}{st:Stmt}{N ps:List Str}{k:Nat}{sp:Sp} (F:Df K mg x st ps) (S:Ax N ps (Ap st)) (len:∀vs H Q E,sp vs H Q E->vs.length=ps.length)
  (hbody : ∀ (f : Addr) (cdv : Value) (A : Around) (outer : List Env) (s : Shared) (H : Hp) (vs : List V) (Q : VK) (E : XK), AX k (A.deeper (envOfC x (Ap st) s.heap.objs.size f cdv)) -> sp vs H Q E ->
   ∃t,PSs (BR (CM P w) P w K mg base N x (Ap st) f cdv A outer s H E) (Bi st) t/\t { nx:=λ_ H'=>Q .non H',rt:=Q} (start N vs) H):Dh P w K mg base (k+1) x ps sp:=by
 obtain⟨f,fd,hF,hm,hb⟩:=F.ex;have kp:=hF.kp;obtain⟨oc,od,kV,doc,pm,an,cdv,ct,osl,rfl,lk,hcd⟩:=hF.ex;exact⟨f,_,Im lk hcd S len λA outer s H vs Q E hr h=>hbody f cdv A outer s H vs Q E hr h,hm,kp,hb⟩
def P8 (sp:Sp) (E:XK) (t:TA):TE:=fun σ H Q=>t σ H λvs H1=>sp vs H1 Q E
theorem Ll {X:Cx}{E:XK} (D:IsDef X E) {n:Nat}{x:Str}{ps:List Str}{sp:Sp}{e:Expr}{es:List Expr}{t:TA}{p pos:Pos} (F:Dh X.prog X.w X.K X.mg X.base n x ps sp) (hr:AX n X.A) (hg:Gl X x) (ha:PA X (e::es) t)
  (hdb:(x==("__debug__" :Str))=false:=by decide) (he:starEach (e::es) X.env=(false,eval e X.env)::starEach es X.env:=by rfl) (hpl:(backTo pos (starEach es X.env)).any (·.1)=false:=by rfl):
  PE X (.Call (.Name x p) (e::es) [] pos) (P8 sp E t):=by
 obtain⟨f,fd,F,hm,hk,hb⟩:=F.ex;refine(JQ (dvs:=[]) (E:=E) F hr hg hm hk hb .nil D.passes ha hdb he hpl).weak fun σ H Q q=>?_
 have e:∀vs:List V,vs++[]=vs:=λvs=>append_nil vs
 show t σ H λvs H1=>sp (vs++[]) H1 Q E
 simp only [e];exact q
end
abbrev ES (qual:Str) (scope:Scope) (L f:Addr) (cd:Value) (cl:List (Str×Addr)):Env:=PySem.W.envX qual scope L f cd cl
def FB (P:Program) (w:World) (K:Fgx) (mg:Str->Option Value) (base:Heap) (N:List Str) (qual:Str) (scope:Scope) (f:Addr) (cd:Value) (cl:List (Str×Addr)) (A:Around) (outer:List Env) (s:Shared) (H:Hp) (E:XK):Cx where
 prog:=P
 w:=w
 K:=K
 mg:=mg
 base:=base
 A:=A.deeper (ES qual scope s.heap.objs.size f cd cl)
 N:=N
 s₀:=s
 H₀:=H
 env:=ES qual scope s.heap.objs.size f cd cl
 outer:=outer
 stack:=ES qual scope s.heap.objs.size f cd cl::outer
 ex:=[]
 calm:=true
 fn:=λ_=>false
 pn:=[]
 xe:=λe s'=>wpAny (model P w) (A.deeper (ES qual scope s.heap.objs.size f cd cl)) (leaving (ES qual scope s.heap.objs.size f cd cl) e) (λ_ s''=>CM P w outer H s E e s'') (λe' s''=>CM P w outer H s E e' s'') s'
theorem P9 {P:Program}{w:World}{K:Fgx}{mg:Str->Option Value}{base:Heap}{N:List Str}{qual:Str}{scope:Scope}{f:Addr}{cd:Value}{cl:List (Str×Addr)}{A:Around}{outer:List Env}{s:Shared}{H:Hp}{E:XK}:
  IsDef (FB P w K mg base N qual scope f cd cl A outer s H E) E:=
 ⟨rfl,rfl,rfl,λe s' h=>wpAny_mono h (λ_ _ z=>z) λ_ _ z=>z.elim⟩
section
variable {X : Cx} {pins : List (Addr × Obj)} {σ : St} {H : Hp} {s s' : Shared} {scope : Scope} {N' : List Str} {cap : List (Option Nat)} {A : Around} {outer : List Env} {qual : Str} {f : Addr} {cd : Value} {E : XK}
theorem Qa (I:Ad X pins σ H s) (B:AE X.env.scope X.N scope N' cap) (nc:∀x∈scope.names,x.2≠ .cell) (hd:A.handled=none) (e0:CG X.prog X.w X.K X.mg X.base A outer s' H)
  (hcell:∀x c v,X.env.cells.lookup x=some c->s.heap.IsCell c v->s'.heap.IsCell c v) {h1:Heap}{tk:Nat} (hn:h1.Ns s'.heap.objs.size λ_=>none) (hk:∀b o,s'.heap.get? b=some o->h1.get? b=some o):
  Ad (FB X.prog X.w X.K X.mg X.base N' qual scope f cd (AU X.env.cells scope.names []) A outer s' H E) [] (AL cap σ) H { s' with heap:=h1,toks:=tk}:=by
 have acc:∀x c,(AU X.env.cells scope.names []).lookup x=some c->X.env.cells.lookup x=some c:=λx c e=>(DF _ _ e).elim id λz=>nomatch z
 have noA:∀b:Addr,b ∉(FB X.prog X.w X.K X.mg X.base N' qual scope f cd (AU X.env.cells scope.names []) A outer s' H E).ex:=λb z=>absurd (show b∈([]:List Addr) from z) (by simp)
 refine⟨⟨e0.mod,B.kind,rfl,rfl,Nat.le_refl _,λx y c a b=>I.ok.inj x y c (acc x c a) (acc y c b),λx hx=>?_,λx c z _=>(nomatch (show false=true from z)),λ_=>hd,Around.frames_deeper e0.frames,.inr ⟨rfl,rfl⟩,λb z=>absurd z (noA b),e0.bs,e0.bsz,λb _ _=>noA b,λb z=>absurd z (noA b),e0.funs,e0.frf⟩,
  rfl,e0.bare,Un.kept hk,⟨_,hn,λi x v h1' h2 h3=>?_⟩,λx c h=>?_,e0.hok.fresh (Nat.le_refl _),λx c h=>I.freeC x c (acc x c h),λp hp=>absurd (show p∈([]:PNs) from hp) (by simp),e0.hok.kept hk,?_⟩
 ·have hx':scope.names.lookup x=some .cell\/scope.names.lookup x=some .free:=hx;rcases hx' with z | z
  ·exact absurd rfl (nc _ (PySem.mem_of_lookup z))
  ·have hm:=PySem.mem_of_lookup z;obtain⟨c,hc⟩:=I.ok.has x (B.free _ hm rfl);exact⟨c,D6 hc _ _ hm⟩
 ·have h2':(AL cap σ)[i]? =some (some v):=h2;unfold AL at h2';rw [getElem?_map] at h2';cases q:cap[i]? with
  | none=>rw [q] at h2';cases h2'
  | some o=>
   rw [q] at h2';cases o with
   | none=>exact nomatch Option.some.inj h2'
   | some j=>
    have h2'':(match σ[j]? with | some v=>v | none=>none)=some v:=Option.some.inj h2';cases qs:σ[j]? with
    | none=>rw [qs] at h2'';cases h2''
    | some v'=>
     rw [qs] at h2'';have hs:σ[j]? =some (some v):=by rw [qs];exact congrArg some h2''
     obtain⟨x',e1,e2,e3,e4⟩:=B.capt i j q;have h1'':N'[i]? =some x:=h1';rw [h1''] at e1;cases e1;have hcf:=B.free _ e3 rfl;obtain⟨m,hn,hl⟩:=I.loc;obtain⟨u,ru,lk⟩:=hl j x v e2 hs (hcf.elim (λz=> .inr (.inl z)) λz=> .inr (.inr z));refine⟨u,ru,?_⟩;rcases lk with⟨lk,_⟩ | ⟨_,c,hc,ic⟩
     ·have lk':X.env.scope.names.lookup x=some .local :=lk;have hcf':X.env.scope.names.lookup x=some .cell\/X.env.scope.names.lookup x=some .free:=hcf;rw [lk'] at hcf';rcases hcf' with z | z<;>cases z
     ·exact .inr ⟨.inr (B.own _ e3),c,D6 hc _ _ e3,(hcell x c _ hc ic).keeps hk⟩
 ·obtain⟨v,z⟩:=I.cell x c (acc x c h);exact⟨v,(hcell x c v (acc x c h) z).keeps hk⟩
 ·unfold AL;show _=N'.length;rw [length_map];exact B.len
theorem Qb (I:Ad X pins σ H s) (B:AE X.env.scope X.N scope N' cap) (nc:∀x∈scope.names,x.2≠ .cell) (co:scope.isCoroutine=false) (gen:scope.isGenerator=false) {k:Nat} (hr:AX k A) (e0:CG X.prog X.w X.K X.mg X.base A outer s' H)
  (hcell:∀x c v,X.env.cells.lookup x=some c->s.heap.IsCell c v->s'.heap.IsCell c v) {params:Arguments}{body:Expr}{pm ctv:Value}{c':Addr}{te:TE}{Q:VK}
  (ho:s'.heap.get? f=some (PySem.W.kla_obj "<lambda>" qual params body scope (AU X.env.cells scope.names []) pm c' ctv)) (hcd:s'.heap.CodeRec (.ref c') qual)
  (hb:bindArgs (PySem.W.kla_fn "<lambda>" qual params body scope (AU X.env.cells scope.names []) pm (.ref c') ctv) ⟨[],[]⟩=pure [])
  (hbody:PE (FB X.prog X.w X.K X.mg X.base N' qual scope f (.ref c') (AU X.env.cells scope.names []) A outer s' H E) body te) (q:te (AL cap σ) H Q):
  codeAny (model X.prog X.w) A (.call (.ref f) ⟨[],[]⟩) (CR (CM X.prog X.w) outer X.prog X.w H s' Q E) s':=by
 refine PySem.W.kla_callFunE hr.depth ho rfl co gen rfl hcd ?_;rw [hb];refine wpAny_pure (wpAny_newFunctionEnv nc (λx hx=>nomatch hx) (λh1 hns hsb=>?_) B.kind);have hk:∀b o,s'.heap.get? b=some o->h1.get? b=some o:=λb o e=>hsb.extBut b o (Nat.ne_of_lt (Heap.lt_size e)) (Heap.get?_push_of_some _ e)
 have hl:s'.heap.NoLimit:=e0.mod.nolimit.keeps λb o e=>(e0.bs b o e).1
 refine⟨hl.keeps hk,?_⟩;show codeAny _ _ (.expr body (ES qual scope s'.heap.objs.size f (.ref c') (AU X.env.cells scope.names []))) _ _;refine PySem.W.kla_codeExpr ?_;have J:=Qa (tk:=s'.toks+([]:List (Str×Value)).length) (qual:=qual) (f:=f) (cd:= .ref c') (E:=E) I B nc hr.hd e0 hcell hns hk;refine wpAny_mono (hbody [] _ (AL cap σ) H Q J q) (λv s'' z=>?_) λe s'' z=>z
 obtain⟨v',H',J',rv,qv⟩:=z;exact⟨v',H',J'.os,J'.bare,J'.base,J'.hok,rv,qv⟩
end
end L2
end
section
namespace L2
variable {M : Model} {E : Value -> Shared -> Prop} {k : Nat}
abbrev Cx.hot (X:Cx) (A:Around):Cx:= { X with A:=A,calm:=false,xe:=λ_ _=>False}
section
variable {X : Cx} {pins : List (Addr × Obj)} {σ : St} {H H' : Hp} {s s' : Shared}
theorem Ad.hot (I:Ad X pins σ H s) {A:Around} (hf:A.frames=some X.stack):Ad (X.hot A) pins σ H s:=
 ⟨⟨I.ok.mod,I.ok.kind,I.ok.glob,I.ok.blt,I.ok.above,I.ok.inj,I.ok.has,I.ok.cab,λz=>(nomatch (show false=true from z)),hf,I.ok.stk,I.ok.exf,I.ok.bs,I.ok.bsz,I.ok.noex,I.ok.exfs,I.ok.funs,I.ok.frf⟩,I.os,I.bare,I.base,I.loc,I.cell,I.free,I.freeC,I.pin,I.hok,I.len⟩
theorem Ad.cool {A:Around} (ok:X.Ok) (I:Ad (X.hot A) pins σ H s):Ad X pins σ H s:=⟨ok,I.os,I.bare,I.base,I.loc,I.cell,I.free,I.freeC,I.pin,I.hok,I.len⟩
theorem Lm {outer:List Env}{B h':Heap} (u:Un (AI outer) [] H H' s.heap s'.heap) (kB:∀b o,s.heap.get? b=some o->H b=none->b ∉ AI outer->B.get? b=some o)
  (tB:∀b o,s.heap.get? b=some o->b ∉ AI outer->∃o',B.get? b=some o') (ff:s'.heap.FunFrames B outer) (st:B.StaysIn h') (up:s'.heap.UpToSlots h'):Un (AI outer) [] H H' s.heap h':=by
 have frn:∀b,b∈AI outer->∀o,s'.heap.get? b=some o->∀vs,o.data≠ .fields vs:=λb hb o eo=>by
  obtain⟨_,o',ho',hd⟩:=ff.mem hb;rw [eo] at ho';cases ho';exact hd
 refine⟨λb o e n hb _=>st b o (kB b o e n hb),λb o e n hb hx=>?_,u.free,λb o e hx=>?_,u.tups,u.frzs,u.tbls⟩
 ·obtain⟨s1,e1⟩:=u.slot b o e n hb hx;obtain⟨s2,e2⟩:=up b _ e1 (frn b hb _ e1);exact⟨s2,e2⟩
 ·by_cases hb:b∈AI outer
  ·obtain⟨o1,e1⟩:=u.there b o e hx;obtain⟨s2,e2⟩:=up b _ e1 (frn b hb _ e1);exact⟨_,e2⟩
  ·obtain⟨o1,e1⟩:=tB b o e hb;exact⟨o1,st b o1 e1⟩
theorem Ad.track (I:Ad X pins σ H s) {a:Addr}{o:HO} (na:a≠X.env.locals) (nc:∀x c,X.env.cells.lookup x=some c->c≠a) (np:∀p∈X.pn++pins,p.1≠a) (n0:X.s₀.heap.get? a=none) (hn:H a=none)
  (ho:ObjOk X.prog X.w (upd H a o) s.heap a o):Ad X pins σ (upd H a o) s:=by
 have ne:∀b u,H b=some u->b≠a:=λb u e z=>by rw [z,hn] at e;cases e
 refine⟨I.ok,I.os,I.bare,⟨I.base.keep,I.base.slot,λb ob e n hx=>?_,I.base.there,λb xs q=>?_,λb ob xs q=>?_,λb ps q=>?_⟩,I.loc,I.cell,?_,λx c e=>?_,λp hp=>?_,λb ob e=>?_,I.len⟩
 ·rw [Ar (λz=>by rw [z,n0] at e;cases e)];exact I.base.free b ob e n hx
 ·have:=I.base.tups b xs q;rw [Ar (ne b _ this)];exact this
 ·have:=I.base.frzs b ob xs q;rw [Ar (ne b _ this)];exact this
 ·obtain⟨m,e⟩:=I.base.tbls b ps q;exact⟨m,by rw [Ar (ne b _ e)];exact e⟩
 ·rw [Ar (Ne.symm na)];exact I.free
 ·rw [Ar (nc x c e)];exact I.freeC x c e
 ·obtain⟨e,n,r⟩:=I.pin p hp;exact⟨e,by rw [Ar (np p hp)];exact n,r⟩
 ·by_cases z:b=a
  ·subst z;rw [Ah] at e;cases e;exact ho
  ·rw [Ar z] at e;refine(I.hok b ob e).stay (λ_ _ _ q=>q) (λc q=>?_) λc xs q=>?_
   ·rw [Ar (ne c _ q)];exact q
   ·rw [Ar (ne c _ q)];exact q
theorem Qc {A:Around}{i:Nat}{x:Str}{pos:Pos}{Q:Unit->Shared->Prop} (I:Ad X pins σ H s) (hN:X.N.Nodup) (hi:X.N[i]? =some x) (hx:X.env.kindOf x=some .local)
  (h:∀s',Ad X pins (σ.set i none) H s'->Q () s'):wpAny M A (do bindName X.env x .none;unbindBehindTheSuite X.env x pos) Q E s:=by
 obtain⟨m,hn,hl⟩:=id I.loc;have hcls:(X.env.scope.kind== .class || (X.env.scope.kind== .module && X.env.locals !=X.env.globals))=false:=by rw [I.ok.kind];rfl
 have cne:=I.cne;refine wpAny_nameGoes_keeps hx hn hcls λh' v hn' hs=>?_
 obtain⟨oL,_,_,hoL,_⟩:=id hn;have nl:∀b o,X.s₀.heap.get? b=some o->b≠X.env.locals:=λb o e=>Nat.ne_of_lt (Nat.lt_of_lt_of_le (Heap.lt_size e) I.ok.above)
 refine h _ ⟨I.ok,I.os,I.bare,⟨λb o e n hb hx=>(hs.2 b (nl b o e)).trans (I.base.keep b o e n hb hx),λb o e n hb hx=>?_,I.base.free,λb o e hx=>?_,I.base.tups,I.base.frzs,I.base.tbls⟩,⟨_,hn',λj y v' e1 e2 e3=>?_⟩,λy c e=>?_,I.free,I.freeC,λp hp=>?_,λb ob e=>?_,by simpa using I.len⟩
 ·obtain⟨sl,e1⟩:=I.base.slot b o e n hb hx;exact⟨sl,(hs.2 b (nl b o e)).trans e1⟩
 ·obtain⟨o',e1⟩:=I.base.there b o e hx;exact⟨o',(hs.2 b (nl b o e)).trans e1⟩
 ·have hj:j≠i:=λz=>by
   subst z;have hiσ:j<σ.length:=by rw [I.len];exact(List.getElem?_eq_some_iff.mp hi).1
   rw [getElem?_set_self hiσ] at e2;cases e2
  rw [List.getElem?_set_ne (Ne.symm hj)] at e2;obtain⟨u',r',q⟩:=hl j y v' e1 e2 e3;refine⟨u',r',?_⟩;rcases q with⟨k,e⟩ | ⟨k,c,e,z⟩
  ·refine .inl ⟨k,?_⟩;have:y≠x:=λe=>hj (Ia hN e1 (e ▸ hi))
   simp [this,e]
  ·exact .inr ⟨k,c,e,z.sameBut hs (cne y c e)⟩
 ·obtain⟨w',z⟩:=I.cell y c e;exact⟨w',z.sameBut hs (cne y c e)⟩
 ·obtain⟨e,n,ne,nf,d⟩:=I.pin p hp;exact⟨(hs.2 p.1 ne).trans e,n,ne,nf,d⟩
 ·refine(I.hok b ob e).stay (λc w' hc q=>(hs.2 c ?_).trans q) (λ_ q=>q) λ_ _ q=>q
  rintro rfl;rcases hc with hc | hc
  ·rw [<-hc,I.free] at e;cases e
  ·rw [I.free] at hc;cases hc
end
theorem Qd {A:Around}{s:Shared}{K:Fgx}{e C D:Addr}{Q:Bool->Shared->Prop} (X:K.In s.heap) (I:ExcAt s.heap e C) (hM:PySem.W.mroIn K C (.ref D)=some true)
  (hB:PySem.W.mroIn K D (.type "BaseException")=some true) (hT:PySem.W.typeIn K (.ref D)=some (.type "type")) (hq:Q true s):wpAny M A (excMatches (.ref e) (.ref D)) Q E s:=by
 have L0:=I.type (M:=M);have L1:=PySem.W.looks_mroIn (M:=M) X hM;have L2:=PySem.W.looks_mroIn (M:=M) X hB;have L3:=PySem.W.looks_typeIn (M:=M) X hT;have LI:PySem.W.Looks M s.heap (isType (.ref D)) true:=by
  unfold PySem.W.mroIn at hB;obtain⟨cd,hc,_⟩:=Option.bind_eq_some_iff.mp hB;unfold PySem.W.clsIn at hc;split at hc
  ·rename_i c' d' cd' sl' ho;intro A' Q' E' s' k q;unfold isType loadHead;exact wpAny_bind (wpAny_loadPart (k _ _ (X _ _ ho)) (wpAny_pure q))
  ·cases hc
 have LX:PySem.W.Looks M s.heap (isExcClass (.ref D)) true:=LI.andThen L2;obtain⟨hh,g,d,tk,os⟩:=s;unfold excMatches isInstance;refine wpAny_bind (wpAny_bind (L3.at ?_));rw [tc_notTuple];refine wpAny_pure ?_;simp only [Bool.false_eq_true,if_false];refine wpAny_bind (wpAny_pure ?_);simp only [forIn_cons,forIn_nil];refine wpAny_bind (wpAny_bind (wpAny_bind (LX.at ?_)));simp only [Bool.not_true,Bool.false_eq_true,if_false];refine wpAny_pure (wpAny_pure ?_);refine wpAny_bind (L0.at ?_);refine wpAny_bind (wpAny_bind (wpAny_bind (L1.at ?_)));simp only [if_true];exact wpAny_pure (wpAny_pure (wpAny_pure hq))
structure RoomQ (k:Nat) (A:Around):Prop where
 dp:A.depth+3 * k+5<recursionLimit
 un:A.units+16 * k+200<cLine
 gd:A.guards=some []
theorem AX.q {A:Around} (r:AX k A):RoomQ k A:=⟨r.dp,r.un,r.gd⟩
theorem RoomQ.mark {A:Around} (r:RoomQ k A) (h:Option Value):RoomQ k (A.mark h):=⟨r.dp,r.un,r.gd⟩
theorem RoomQ.room {A:Around} (r:RoomQ k A):AX k { A with handled:=none}:=⟨rfl,r.dp,r.un,r.gd⟩
theorem RoomQ.mono {j:Nat}{A:Around} (r:RoomQ k A) (h:j<=k):RoomQ j A:=⟨by have:=r.dp;omega,by have:=r.un;omega,r.gd⟩
theorem Ln {P:Program}{w:World}{K:Fgx}{mg:Str->Option Value}{base:Heap}{f:Addr}{name qual:Str}{params:Arguments}{body:List Stmt}{scope:Scope}{dV kV doc pm cdv ct oc:Value}{an od:Option Addr}
  {osl:Array (Option Value)}{N ps:List Str} (lk:K.lookup f=some ⟨oc,od,.func (PySem.W.fnOf name qual params body scope dV kV doc pm an cdv ct),osl⟩) (hcd:PySem.W.codeIn K cdv qual=true) (S:Ax N ps scope)
  {A:Around}{outer:List Env}{s:Shared}{H:Hp}{args:Args}{us:List Value}{vs:List V}{R:Result->Shared->Prop} (hr:RoomQ (k+1) A) (e0:CG P w K mg base A outer s H)
  (hb:BindsTo s (PySem.W.fnOf name qual params body scope dV kV doc pm an cdv ct) args (ps.zip us)) (r:Av vs us) (hl:vs.length=ps.length)
  (hbody : ∀ s1, Ad (BR CX0 P w K mg base N qual scope f cdv { A with handled := none } outer s H E0) [] (start N vs) H s1 -> wpAny (model P w) (A.deeper (envOfC qual scope s.heap.objs.size f cdv)) (execs body (envOfC qual scope s.heap.objs.size f cdv))
   (λfl s'=>match fl with | .ret u=>R (.ok (.ret u)) s' | .next=>R (.ok (.ret .none)) s' | _=>False) (λ_ _=>False) s1):
  codeAny (model P w) A (.call (.ref f) args) R s:=by
 have KX:K.In s.heap:=e0.mod.kin.keeps λb o e=>(e0.bs b o e).1
 have lim:s.heap.NoLimit:=e0.mod.nolimit.keeps λb o e=>(e0.bs b o e).1
 have hkind:∀y∈ps.zip us,scope.names.lookup y.1=some .local \/(scope.names.lookup y.1=some .cell/\((cellsFrom (s.heap.objs.size+1) scope.names []).lookup y.1).isSome=true):=fun⟨n,v⟩ hy=>by
  rcases S.par n (of_mem_zip hy).1 with q | q
  ·exact .inl q
  ·exact .inr ⟨q,PySem.W.cellsFrom_some _ _ _ (.inl q)⟩
 refine codeAny_call_function hr.room.depth (KX _ _ lk) rfl S.co S.gen rfl (PySem.W.codeRec_of KX hcd) (hb _ _ _ _ ?_);refine wpAny_newFunctionEnv_cells S.kind hkind λenv he s1 x=>?_
 subst he;refine⟨lim.keeps x.toInCall.keep,codeAny_func ?_⟩;have e1:CG P w K mg base { A with handled:=none} outer s H:=⟨e0.frames,e0.mod,e0.bs,e0.bsz,e0.funs,e0.frf,e0.hok,e0.bare⟩;have I:Ad (BR CX0 P w K mg base N qual scope f cdv { A with handled:=none} outer s H E0) [] (start N vs) H s1:=JW S rfl e1 hl r x;refine wpAny_mono (hbody s1 I) (λfl s' hs=>?_) λe s' hs=>hs.elim
 cases fl with
 | ret u=>exact hs
 | next=>exact hs
 | brk=>exact hs.elim
 | cont=>exact hs.elim
end L2
end
section
namespace L2
variable {ps : List Str} {k : Nat} {sp : Sp} {p pos : Pos}
def IZ (Q:VK):VK:=λv H1=>∀t,H1 t=none->Q (.ref t) (upd H1 t (.tup [.str "told",v]))
def GR (W:Addr->Str->Prop) (Q:VK):XK:=λc _ H2=>∃C word,c= .ref C/\W C word/\∀H3 t,(∀b o,H2 b=some o->H3 b=some o)->H3 t=some (.tup [.str word])->Q (.ref t) H3
def ET (W:Addr->Str->Prop):Sp:=λvs H Q _=>match vs with
 | [.ref e]=>∃C word,H e=some (El e C)/\W C word/\∀H3 t,(∀b o,H b=some o->H3 b=some o)->H3 t=some (.tup [.str word])->Q (.ref t) H3
 | _=>False
def Em (P:Program) (w:World) (K:Fgx) (mg:Str->Option Value) (base:Heap) (k:Nat) (W:Addr->Str->Prop) (outer:List Env) (s:Shared):Sp:=λvs H Q _=>match vs with
 | [.ref f] => PySem.W.FnAt f s.heap /\ H f = none /\ f ∉ AI outer /\ ∀ (A' : Around) (outer' : List Env) (s' : Shared), AX k A' -> CG P w K mg base A' outer' s' H -> Un (AI outer) [] H H s.heap s'.heap ->
   codeAny (model P w) A' (.call (.ref f) ⟨[],[]⟩) (CR (CM P w) outer' P w H s' (IZ Q) (GR W Q)) s'
 | _=>False
section
variable {P : Program} {w : World} {K : Fgx} {mg : Str -> Option Value} {base : Heap}
structure EU (P:Program) (w:World) (K:Fgx) (mg:Str->Option Value) (base:Heap) (n:Nat) (x:Str) (ps:List Str) (sp:Sp):Prop where
 ex:∃(f:Addr) (fd:FuncData),(∀(A:Around) (outer:List Env) (s:Shared) (H:Hp) (args:Args) (us:List Value) (vs:List V) (Q:VK),RoomQ n A->CG P w K mg base A outer s H->BindsTo s fd args (ps.zip us)->Av vs us->sp vs H Q E0->
  codeAny (model P w) A (.call (.ref f) args) (CR CX0 outer P w H s Q E0) s)/\(∀vs H Q E,sp vs H Q E->vs.length=ps.length)/\mg x=some (.ref f)/\PySem.W.keepIn K (.ref f)=true/\Binds K fd ps []
structure GS (P:Program) (w:World) (K:Fgx) (mg:Str->Option Value) (base:Heap) (n:Nat) (x:Str) (ps:List Str) (sp:List Env->Shared->Sp):Prop where
 ex:∃(f:Addr) (fd:FuncData),(∀(A:Around) (outer:List Env) (s:Shared) (H:Hp) (args:Args) (us:List Value) (vs:List V) (Q:VK),AX n A->CG P w K mg base A outer s H->BindsTo s fd args (ps.zip us)->Av vs us->sp outer s vs H Q E0->
  codeAny (model P w) A (.call (.ref f) args) (CR CX0 outer P w H s Q E0) s)/\mg x=some (.ref f)/\PySem.W.keepIn K (.ref f)=true/\Binds K fd ps []
theorem Df.fnQ {x:Str}{st:Stmt}{N:List Str} (F:Df K mg x st ps) (S:Ax N ps (Ap st)) (len:∀vs H Q E,sp vs H Q E->vs.length=ps.length)
  (hbody : ∀ (f : Addr) (cdv : Value) (A : Around) (outer : List Env) (s : Shared) (H : Hp) (vs : List V) (Q : VK), RoomQ k (A.deeper (envOfC x (Ap st) s.heap.objs.size f cdv)) -> sp vs H Q E0 ->
   ∃t,PSs ((BR CX0 P w K mg base N x (Ap st) f cdv { A with handled:=none} outer s H E0).hot (A.deeper (envOfC x (Ap st) s.heap.objs.size f cdv))) (Bi st) t/\t { nx:=λ_ H'=>Q .non H',rt:=Q} (start N vs) H):
  EU P w K mg base (k+1) x ps sp:=by
 obtain⟨f,fd,hF,hm,hb⟩:=F.ex;have kp:=hF.kp;obtain⟨oc,od,kV,doc,pm,an,cdv,ct,osl,rfl,lk,hcd⟩:=hF.ex;refine⟨f,_,λA outer s H args us vs Q hr e0 hbt r hsp=>?_,len,hm,kp,hb⟩;refine Ln lk hcd S hr e0 hbt r (len _ _ _ _ hsp) λs1 I=>?_
 have hr':RoomQ k (A.deeper (envOfC x (Ap st) s.heap.objs.size f cdv)):=have z:=hr.room.deeper (envOfC x (Ap st) s.heap.objs.size f cdv);⟨z.dp,z.un,z.gd⟩;obtain⟨t,ht,hq⟩:=hbody f cdv A outer s H vs Q hr' hsp;refine wpAny_mono (ht [] s1 (start N vs) H _ (I.hot (Around.frames_deeper e0.frames)) hq) (λfl s' hs=>?_) λe s' hs=>hs
 cases fl with
 | ret u=>
  obtain⟨v,σ',H',J,rv,q⟩:=hs;exact⟨v,H',J.os,J.bare,J.base,J.hok,rv,q⟩
 | next=>
  obtain⟨σ',H',J,q⟩:=hs;exact⟨.non,H',J.os,J.bare,J.base,J.hok,rfl,q⟩
 | brk=>obtain⟨_,_,_,q⟩:=hs;exact q
 | cont=>obtain⟨_,_,_,q⟩:=hs;exact q
theorem Qe {X:Cx}{n:Nat}{x:Str}{e:Expr}{es:List Expr}{t:TA} (F:EU X.prog X.w X.K X.mg X.base n x ps sp) (hr:RoomQ n X.A) (hg:Gl X x) (ha:PA X (e::es) t)
  (hdb:(x==("__debug__" :Str))=false:=by decide) (he:starEach (e::es) X.env=(false,eval e X.env)::starEach es X.env:=by rfl) (hpl:(backTo pos (starEach es X.env)).any (·.1)=false:=by rfl):
  PE X (.Call (.Name x p) (e::es) [] pos) (Kx sp t):=by
 obtain⟨f,fd,F,hlen,hm,hk,hb⟩:=F.ex;intro pins s σ H Q I h;refine wpAny_Call_Name_kw (Ex I hg hm ?_ hdb);refine PySem.W.callWith_K (h₀:=X.base) I.ok.mod.kin hk (Ao (ha pos pins s σ H _ I h) λus s1 ⟨vs,H1,I1,r,q⟩=>⟨I1.kIn,?_⟩) he hpl;have hl:us.length=ps.length:=by rw [<-r.length];exact hlen _ _ _ _ q
 have hbb:=hb s1 us I1.kIn (by rw [append_nil];exact hl);rw [append_nil] at hbb;refine wpAny_call (codeAny_mono (F X.A X.stack s1 H1 ⟨us,[]⟩ us vs Q hr I1.env0 hbb r q) λr s' hq=>?_);cases r with
 | error e=>exact hq.elim
 | ok fl=>
  cases fl with
  | ret u=>exact I1.after hq
  | next=>exact False.elim hq
  | brk=>exact False.elim hq
  | cont=>exact False.elim hq
end
section
variable {X : Cx} {H : Hp} {f : Addr} {Q : VK} {W : Addr -> Str -> Prop}
theorem Qf {W0:VSP}{x:Str} (hN:X.N[0]? =some x) (hv:DY X.env.scope x) (hdb:(x==("__debug__" :Str))=false) (hcd:(x==("__classdict__" :Str))=false) (hex:X.ex=[]) (h0:X.H₀=H)
  (hr:AX k X.A) (hs:Em X.prog X.w X.K X.mg X.base k W X.outer X.s₀ [.ref f] H Q E0)
  (hW:∀pins σ sc v s',Ad X pins σ H sc->CM X.prog X.w X.stack H sc (GR W Q) v s'->W0 v s'):
  PE (X.wish W0) (.Call (.Name x p) [] [] pos) (fun σ H' Q'=>σ[0]? =some (some (.ref f))/\H'=H/\∀v H2,IZ Q v H2->Q' v H2):=by
 intro pins s σ H' Q' I ⟨hσ,e,hq⟩;subst e;obtain⟨hf,hn,hfr,run⟩:=hs;refine wpAny_Call_Name_kw (Ao ((F5 (X:=X.wish W0) (i:=0) hN hv hdb hcd) pins s σ H' (λv H2=>v= .ref f/\H2=H') I ?_) λu s2 ⟨v,H2,I2,r,q⟩=>?_)
 ·exact⟨.ref f,hσ,rfl,rfl⟩
 obtain⟨rfl,rfl⟩:=q;have hu:u= .ref f:=r;subst hu;have I3:Ad X pins σ H2 s2:=I2.unwish;have un:Un (AI X.outer) [] H2 H2 X.s₀.heap s2.heap:=by
  have:=I3.base;rw [hex,h0] at this;exact this
 obtain⟨oc,od,fd,sl,ho⟩:=hf;have ho2:=un.keep f _ ho hn hfr (by simp);refine PySem.W.callWith_F0 ⟨oc,od,fd,sl,ho2⟩ ?_;refine wpAny_call (codeAny_mono (run X.A X.stack s2 hr I3.env0 un) λr s' hc=>?_);cases r with
 | error e=>exact hW pins σ s2 e s' I3 hc
 | ok fl=>
  cases fl with
  | ret u=>
   obtain⟨v,H3,J,rv,qv⟩:=I2.after hc;exact⟨v,H3,J,rv,hq v H3 qv⟩
  | next=>exact False.elim hc
  | brk=>exact False.elim hc
  | cont=>exact False.elim hc
end
end L2
end
section
namespace L2
abbrev Lo (wn:Str) (i1 i2:Nat) (p1 p2 p3 p4 p5 p6 p7 p8 p9 p10 p11 p12:Pos):Stmt:=
 .Try [.Return (some (.Tuple [.Constant (.str "told") i1 p1,.Call (.Name "_law_call" p2) [] [] p3] i2 p4)) p5]
  [.ExceptHandler (some (.Name "MainError" p6)) (some "_law_e") [.Return (some (.Call (.Name wn p7) [.Name "_law_e" p8] [] p9)) p10] p11] [] [] p12
section
variable {X : Cx} {H : Hp} {f M : Addr} {Q : VK} {W : Addr -> Str -> Prop} {s1 : Shared}
theorem Qg {wn:Str}{k n:Nat}{i1 i2:Nat}{p1 p2 p3 p4 p5 p6 p7 p8 p9 p10 p11 p12:Pos} (stk:X.stack=X.env::X.outer) (fr:X.env.frame=some X.env.locals) (hex:X.ex=[]) (hpn:X.pn=[]) (hc:X.calm=true) (h0:X.H₀=H) (hN:X.N=[("_law_call" :Str),("_law_e" :Str)])
  (k0:X.env.scope.names.lookup ("_law_call" :Str)=some .local) (k1:X.env.scope.names.lookup ("_law_e" :Str)=some .local) (gM:Gl X "MainError") (gw:Gl X wn) (hM:X.mg "MainError"=some (.ref M))
  (hB:PySem.W.mroIn X.K M (.type "BaseException")=some true) (hT:PySem.W.typeIn X.K (.ref M)=some (.type "type")) (hWM:∀C w,W C w->PySem.W.mroIn X.K C (.ref M)=some true) (Dw:EU X.prog X.w X.K X.mg X.base n wn ["_law_e"] (ET W))
  (hdb:(wn==Str.ofString "__debug__")=false) (hr:AX k X.A) (hn:n<=k) (hs:Em X.prog X.w X.K X.mg X.base k W X.outer X.s₀ [.ref f] H Q E0) (I:Ad X [] [some (.ref f),none] H s1):
  wpAny (model X.prog X.w) X.A (execs [Lo wn i1 i2 p1 p2 p3 p4 p5 p6 p7 p8 p9 p10 p11 p12] X.env) (λfl s'=>match fl with | .ret u=>∃v σ H',Ad X [] σ H' s'/\Ay v u/\Q v H' | _=>False) (λ_ _=>False) s1:=by
 have hfr:X.A.frames=some (X.env::X.outer):=by rw [<-stk];exact I.ok.frames
 refine wpAny_execs_cons (wpAny_Try_except ?_);have hbody:PSs (X.wish λv s'=>∃pins σ sc,Ad X pins σ H sc/\CM X.prog X.w X.stack H sc (GR W Q) v s') [.Return (some (.Tuple [.Constant (.str "told") i1 p1,.Call (.Name "_law_call" p2) [] [] p3] i2 p4)) p5] _:=
  An (Aw (Bd (AV AT (AV (Qf (k:=k) (by rw [hN];rfl) (.inl k0) (by decide) (by decide) hex h0 hr hs λpins σ sc v s' a b=>⟨pins,σ,sc,a,b⟩) BK))))
 refine wpAny_mono (hbody [] s1 [some (.ref f),none] H { nx:=λ_ _=>False,rt:=Q} (I.wish _) ?_) (λfl s' z=>?_) λv s' z=>?_
 ·exact⟨rfl,rfl,λv H2 hq p hp=>hq p hp⟩
 ·cases fl with
  | ret u=>
   obtain⟨v,σ',H',J,rv,q⟩:=z;exact⟨v,σ',H',J.unwish,rv,q⟩
  | next=>obtain⟨_,_,_,q⟩:=z;exact q.elim
  | brk=>obtain⟨_,_,_,q⟩:=z;exact q.elim
  | cont=>obtain⟨_,_,_,q⟩:=z;exact q.elim
 obtain⟨pins,σ,sc,Ic0,C,a,H2,rfl,x,C',word,hC',hw,hq⟩:=z;cases hC';have Ic:Ad X [] σ H sc:=Ic0.pins_of λp hp=>absurd hp (by simp)
 obtain⟨B,t,fl,kB,tB,hHB⟩:=x.fly;have ff:=fl.2.2.1;have nBa:B.get? a=none:=fl.2.1;have fl0:=fl;rw [stk] at fl0;refine wpAny_looks_onW hfr fr fl0 λh4 held4 up4=>?_
 refine wpAny_landsW held4 λh5 fl5 up5=>?_
 have up:=up4.trans up5;have I5:Ad X [] σ H2 { s' with heap:=h5}:=Ic.call' (s':= { s' with heap:=h5}) (ch:=[]) x.os (Lm x.un kB tB ff fl5.1 up) (hHB.kept fl5.1) x.bare λb z=>absurd z (by simp)
 have hA:(X.A.mark (some (.ref a))).frames=some X.stack:=I.ok.frames;have I5h:=I5.hot (A:=X.A.mark (some (.ref a))) hA;refine wpAny_handleBy_cons (codeAny_handlers_test ?_) (by intro q;cases q);refine Ex (X:=X.hot (X.A.mark (some (.ref a)))) I5h gM hM ?_;have at5:ExcAt h5 a C:=by
  obtain⟨oe,vs,h1,h2,_⟩:=fl5.first
  exact⟨oe,h1,h2⟩
 refine Qd I5.kIn at5 (hWM C word hw) hB hT ?_;refine codeAny_handlers_suite_as ?_;refine lands_againW fl5 λh6 fl6 up6=>?_
 have I6:Ad X [] σ H2 { s' with heap:=h6}:=Ic.call' (s':= { s' with heap:=h6}) (ch:=[]) x.os (Lm x.un kB tB ff fl6.1 (up.trans up6)) (hHB.kept fl6.1) x.bare λb z=>absurd z (by simp)
 obtain⟨oe,vs,he1,he2,he3,_⟩:=fl6.first
 have nH2:H2 a=none:=by
  cases q:H2 a with
  | none=>rfl
  | some o=>
   obtain⟨u,hu⟩:=ObjOk.there (hHB a o q);rw [nBa] at hu;cases hu
 have old:∀b o,sc.heap.get? b=some o->H b=none->b ∉ AI X.stack->b≠a:=λb o e n hb z=>by
  have:=kB b o e n hb;rw [z,nBa] at this;cases this
 have frA:a ∉ AI X.stack:=λz=>by
  have f6:=fl6.2.2.1;rw [<-stk] at f6;obtain⟨_,o',ho',hd⟩:=f6.mem z;rw [he1] at ho';cases ho';exact hd vs he3
 have na:a≠X.env.locals:=λz=>frA (by rw [stk,z];exact mem_filterMap.mpr ⟨X.env,.head _,fr⟩)
 have I7:Ad X [] σ (upd H2 a (El a C)) { s' with heap:=h6}:=by
  refine I6.track na (λy c e z=>?_) (λp hp z=>?_) ?_ nH2 ⟨⟨oe,he1,he2⟩,⟨oe,he1⟩,λh1 h2 ⟨o,e1,e2⟩ k=>⟨o,k o e1,e2⟩⟩
  ·obtain⟨v,hv⟩:=Ic.cell y c e;obtain⟨o,ho,hd⟩:=hv;refine old c o ho (Ic.freeC y c e) (λhf=>?_) z;rcases mem_cons.mp (Ic.stkSub c hf) with q | q
   ·exact Ic.cne y c e q
   ·exact absurd q (z ▸ λq=>frA (by rw [stk];obtain⟨y',hy,hf'⟩:=mem_filterMap.mp q;exact mem_filterMap.mpr ⟨y',.tail _ hy,hf'⟩))
  ·rw [hpn] at hp;exact absurd hp (by simp)
  ·cases q:X.s₀.heap.get? a with
   | none=>rfl
   | some o=>
    exfalso
    obtain⟨o1,e1⟩:=Ic.base.there a o q (by rw [hex];simp);obtain⟨o2,e2⟩:=tB a o1 e1 frA;rw [nBa] at e2;cases e2
 have hN2:X.N.Nodup:=by rw [hN];decide
 have hi:X.N[1]? =some ("_law_e" :Str):=by rw [hN];rfl
 have I7h:=I7.hot (A:=X.A.mark (some (.ref a))) hA;refine Ew (X:=X.hot (X.A.mark (some (.ref a)))) (v:= .ref a) I7h hN2 hi (.inl k1) rfl (λs8 I8=>?_) (.inr k1);have hsuite:PSs (X.hot (X.A.mark (some (.ref a)))) [.Return (some (.Call (.Name wn p7) [.Name "_law_e" p8] [] p9)) p10] _:=
  An (Aw (Qe (hdb:=hdb) (X:=X.hot (X.A.mark (some (.ref a)))) Dw ((hr.q.mono hn).mark _) gw (AV (F5 (i:=1) hi (.inl k1) (by decide) (by decide)) BK)))
 have hσl:1<σ.length:=by rw [Ic.len,hN];decide
 refine wpAny_mono (hsuite [] s8 (σ.set 1 (some (.ref a))) (upd H2 a (El a C)) { nx:=λ_ _=>False,rt:=Q} I8 ?_) (λfl s9 z=>?_) λ_ _ z=>z.elim
 ·refine⟨.ref a,getElem?_set_self hσl,C,word,Ah,hw,λH3 t3 e3 h3=>?_⟩;exact hq H3 t3 (λb o e=>e3 b o (by rw [Ar (λz=>by rw [z,nH2] at e;cases e)];exact e)) h3
 ·cases fl with
  | ret u=>
   obtain⟨v,σ',H',J,rv,q⟩:=z;have J':Ad X [] σ' H' s9:=Ad.cool I.ok J;exact Qc J' hN2 hi k1 λs10 I10=>⟨v,_,H',I10,rv,q⟩
  | next=>obtain⟨_,_,_,q⟩:=z;exact q.elim
  | brk=>obtain⟨_,_,_,q⟩:=z;exact q.elim
  | cont=>obtain⟨_,_,_,q⟩:=z;exact q.elim
end
theorem Qh {wn:Str}{P:Program}{w:World}{K:Fgx}{mg:Str->Option Value}{base:Heap}{st:Stmt}{k n:Nat}{M:Addr}{W:Addr->Str->Prop}{i1 i2:Nat}{p1 p2 p3 p4 p5 p6 p7 p8 p9 p10 p11 p12:Pos}
  (F:Df K mg "_law_said" st ["_law_call"]) (S:Ax ["_law_call","_law_e"] ["_law_call"] (Ap st)) (hb:Bi st=[Lo wn i1 i2 p1 p2 p3 p4 p5 p6 p7 p8 p9 p10 p11 p12])
  (k0:(Ap st).names.lookup ("_law_call" :Str)=some .local) (k1:(Ap st).names.lookup ("_law_e" :Str)=some .local) (gM:(Ap st).names.lookup ("MainError" :Str)=some .globalImplicit) (gw:(Ap st).names.lookup wn=some .globalImplicit)
  (hM:mg "MainError"=some (.ref M)) (hB:PySem.W.mroIn K M (.type "BaseException")=some true) (hT:PySem.W.typeIn K (.ref M)=some (.type "type")) (hWM:∀C w,W C w->PySem.W.mroIn K C (.ref M)=some true)
  (Dw:EU P w K mg base n wn ["_law_e"] (ET W)) (hn:n<=k) (hdb:(wn==Str.ofString "__debug__")=false:=by decide):GS P w K mg base (k+1) "_law_said" ["_law_call"] (Em P w K mg base k W):=by
 obtain⟨f,fd,hF,hm,hbd⟩:=F.ex;have kp:=hF.kp;obtain⟨oc,od,kV,doc,pm,an,cdv,ct,osl,rfl,lk,hcd⟩:=hF.ex;refine⟨f,_,λA outer s H args us vs Q hr e0 hbt r hsp=>?_,hm,kp,hbd⟩;have hl:∃g,vs=[.ref g]:=by
  unfold Em at hsp;split at hsp
  ·exact⟨_,rfl⟩
  ·exact hsp.elim
 obtain⟨g,rfl⟩:=hl;refine Ln lk hcd S hr.q e0 hbt r rfl λs1 I=>?_
 have eA:({ A with handled:=none}:Around)=A:=by
  obtain⟨h,d,fs,gs,u⟩:=A;have:h=none:=hr.hd;subst this
  rfl
 rw [eA] at I;rw [hb];have hr':=hr.deeper (envOfC "_law_said" (Ap st) s.heap.objs.size f cdv);have I2:Ad (BR CX0 P w K mg base ["_law_call","_law_e"] "_law_said" (Ap st) f cdv A outer s H E0) [] [some (.ref g),none] H s1:=I;refine wpAny_mono (Qg (X:=BR CX0 P w K mg base ["_law_call","_law_e"] "_law_said" (Ap st) f cdv A outer s H E0) (k:=k) rfl rfl rfl rfl rfl rfl rfl k0 k1 gM gw hM hB hT hWM Dw hdb hr' hn hsp I2) (λfl s' z=>?_) λ_ _ z=>z
 cases fl with
 | ret u=>
  obtain⟨v,σ,H',J,rv,q⟩:=z;exact⟨v,H',J.os,J.bare,J.base,J.hok,rv,q⟩
 | next=>exact z.elim
 | brk=>exact z.elim
 | cont=>exact z.elim
def GT (c:Addr) (q:Str):HO:= .ext λh=>h.CodeRec (.ref c) q
def TabIn (H:Hp) (P:Addr) (q:Str):Prop:=∃ps:Array Value,H P=some (.tbl ps)/\TriplesOk ps.toList/\∀pos v,codeAmong pos ps.toList=some v->∃c,v= .ref c/\H c=some (GT c q)
theorem Qi {l:List Value}{a b:Nat}{c:Value} (h:TriplesOk l):TriplesOk (l++[rawInt a,rawInt b,c]):=by
 fun_induction TriplesOk l with
 | case1=>exact trivial
 | case2 x t y t' z rest ih=>exact ih h
 | case3=>exact h.elim
theorem Qj {l:List Value}{a b:Nat}{c:Value}{pos:Pos}{v:Value} (h:TriplesOk l) (e:codeAmong pos (l++[rawInt a,rawInt b,c])=some v):codeAmong pos l=some v\/v=c:=by
 fun_induction TriplesOk l with
 | case1=>
  have e':codeAmong pos [rawInt a,rawInt b,c]=some v:=e;unfold codeAmong rawInt at e';dsimp only at e';split at e'
  ·exact .inr (Option.some.inj e').symm
  ·unfold codeAmong at e';cases e'
 | case2 x t y t' z rest ih=>
  rw [cons_append,cons_append,cons_append] at e;unfold codeAmong at e ⊢;split at e
  ·rename_i q;rw [if_pos q];exact .inl e
  ·rename_i q;rw [if_neg q];exact ih h e
 | case3=>exact h.elim
section
variable {X : Cx} {pins : List (Addr × Obj)} {σ : St} {H : Hp} {s : Shared} {scope : Scope} {N' : List Str} {cap : List (Option Nat)} {P c : Addr} {ql : Str} {params : Arguments} {body : Expr} {pos : Pos}
theorem Qk (I:Ad X pins σ H s) (hT:TabIn H P ql) (hcode:X.env.code= .ref c) (hC:PySem.W.CodeHd X.base c P) (hBu:X.base.BuiltinsAt X.mg P) (B:AE X.env.scope X.N scope N' cap)
  (hq:X.env.qual++ "<lambda>"=ql) (hdef:defaultsOf params X.env=([],[])) {Q:VSP}{E:VSP}
  (h : ∀ s1 H1 f c' pm ctv, Ad X pins σ H1 s1 -> TabIn H1 P ql -> (∀ b o, H b = some o -> b ≠ P -> H1 b = some o) -> H1 f = none -> f ∉ AI X.stack ->
   s1.heap.get? f=some (PySem.W.kla_obj "<lambda>" ql params body scope (AU X.env.cells scope.names []) pm c' ctv)->H1 c'=some (GT c' ql)->Q (.ref f) s1):
  wpAny (model X.prog X.w) X.A (eval (.Lambda params body scope pos) X.env) Q E s:=by
 obtain⟨ps,hP,ht,hcs⟩:=hT;have hPo:s.heap.get? P=some (PySem.W.tabObj ps):=I.hok P _ hP;have hcl:closureFor scope X.env=pure (AU X.env.cells scope.names []):=Iv λy hy hf=>I.ok.has y.1 (B.free y hy hf)
 have hg:s.heap.Ns mainGlobals X.mg:=I.mod.glob.keeps I.bk;have hC':=hC.keeps I.bk;have hgP:mainGlobals≠P:=λq=>by
  obtain⟨o,es,ep,e,hd,_⟩:=hg;rw [q,hPo] at e;cases e;cases hd
 obtain⟨bm,ob,b1,b2,b3,b4,b5,b6⟩:=hBu;have hBu':s.heap.BuiltinsAt X.mg P:=⟨bm,ob,b1,b2,b3,b4,I.bk _ _ b5,b6⟩;have frLt:∀b∈AI X.stack,b<s.heap.objs.size:=λb hb=>by
  obtain⟨_,o,ho,_⟩:=I.stack.mem hb;exact Heap.lt_size ho
 refine PySem.W.kla_eval hdef ?_;rw [hq];cases hf:codeAmong pos ps.toList with
 | some cv=>
  obtain⟨c',rfl,hc'⟩:=hcs pos cv hf;refine PySem.W.kla_makeFunctionHit hcl I.ok.glob hg hcode hC' hPo ht hf hBu' λctv h' tk hk hsz=>?_
  have hk2:∀b o,s.heap.get? b=some o->(h'.push (PySem.W.kla_obj "<lambda>" ql params body scope (AU X.env.cells scope.names []) ((X.mg "__name__").getD .none) c' ctv)).get? b=some o:=λb o e=>Heap.get?_push_of_some _ (hk b o e)
  refine h _ H h'.objs.size c' _ ctv (I.kept (t':=tk) hk2) ⟨ps,hP,ht,hcs⟩ (λb o e _=>e) (I.hok.fresh hsz) (λz=>?_) (Heap.get?_push_size _ rfl) hc';exact absurd (Nat.lt_of_lt_of_le (frLt _ z) hsz) (Nat.lt_irrefl _)
 | none=>
  refine PySem.W.kla_makeFunction hcl I.ok.glob hg hcode hC' hPo ht hf hgP hBu' λc' ctv h' tk hx hge hlt hrec htb=>?_
  have szle:s.heap.objs.size<=h'.objs.size:=Nat.le_of_lt (Nat.lt_of_le_of_lt hge hlt);have hx2:∀b o,b≠P->s.heap.get? b=some o->(h'.push (PySem.W.kla_obj "<lambda>" ql params body scope (AU X.env.cells scope.names []) ((X.mg "__name__").getD .none) c' ctv)).get? b=some o:=λb o n e=>Heap.get?_push_of_some _ (hx b o n e)
  have hPlt:P<s.heap.objs.size:=Heap.lt_size hPo;have cP:c'≠P:=λz=>by rw [z] at hge;exact absurd (Nat.lt_of_lt_of_le hPlt hge) (Nat.lt_irrefl _)
  have hnc:H c'=none:=I.hok.fresh hge;have ne:∀b o,H b=some o->b≠c':=λb o e z=>by rw [z,hnc] at e;cases e
  let ps':Array Value:=ps++ #[rawInt pos.line,rawInt pos.col,.ref c']
  let H1:Hp:=upd (upd H P (.tbl ps')) c' (GT c' ql)
  have h1c:H1 c'=some (GT c' ql):=Ah;have h1P:H1 P=some (.tbl ps'):=by show upd _ c' _ P=_;rw [Ar (Ne.symm cP),Ah]
  have h1o:∀b,b≠P->b≠c'->H1 b=H b:=λb n m=>by show upd _ c' _ b=_;rw [Ar m,Ar n]
  have keepT:∀b o,H b=some o->b≠P->H1 b=some o:=λb o e n=>by rw [h1o b n (ne b o e)];exact e
  have un:Un (AI X.stack) [] H H1 s.heap (h'.push (PySem.W.kla_obj "<lambda>" ql params body scope (AU X.env.cells scope.names []) ((X.mg "__name__").getD .none) c' ctv)):=by
   have nP:∀b,H b=none->b≠P:=λb n z=>by rw [z,hP] at n;cases n
   have nc2:∀b o,s.heap.get? b=some o->b≠c':=λb o e z=>by have:=Heap.lt_size e;rw [z] at this;exact absurd (Nat.lt_of_lt_of_le this hge) (Nat.lt_irrefl _)
   refine⟨λb o e n _ _=>hx2 b o (nP b n) e,λb o e n _ _=>⟨o.slots,hx2 b o (nP b n) e⟩,λb o e n _=>by rw [h1o b (nP b n) (nc2 b o e)];exact n,λb o e _=>?_,λb xs q=>keepT b _ q (λz=>by rw [z,hP] at q;cases q),
    λb o' xs q=>keepT b _ q (λz=>by rw [z,hP] at q;cases q),λb qs q=>?_⟩
   ·by_cases z:b=P
    ·subst z;exact⟨_,Heap.get?_push_of_some _ htb⟩
    ·exact⟨o,hx2 b o z e⟩
   ·by_cases z:b=P
    ·subst z;rw [hP] at q;cases q;exact⟨_,h1P⟩
    ·exact⟨#[],by rw [keepT b _ q z];simp⟩
  have hok:HOk X.prog X.w H1 (h'.push (PySem.W.kla_obj "<lambda>" ql params body scope (AU X.env.cells scope.names []) ((X.mg "__name__").getD .none) c' ctv)):=λb o e=>by
   by_cases z:b=P
   ·subst z;rw [h1P] at e;cases e;exact Heap.get?_push_of_some _ htb
   ·by_cases z2:b=c'
    ·subst z2;rw [h1c] at e;cases e;refine⟨hrec.push _,?_,λg1 g2 x k=>?_⟩
     ·obtain⟨c2,oc,vs,t,e2,hoc,_⟩:=hrec;cases e2;exact⟨oc,Heap.get?_push_of_some _ hoc⟩
     ·obtain⟨c2,oc,vs,t,e2,hoc,r⟩:=x;cases e2;exact⟨_,oc,vs,t,rfl,k oc hoc,r⟩
    ·rw [h1o b z z2] at e;refine(I.hok b o e).stay (λd u hd q=>hx2 d u (λy=>?_) q) (λd q=>keepT d _ q λy=>by rw [y,hP] at q;cases q) λd xs q=>keepT d _ q λy=>by rw [y,hP] at q;cases q
     rcases hd with hd | hd
     ·exact z (hd ▸ y)
     ·rw [y,hP] at hd;cases hd
  have I1:Ad X pins σ H1 { s with heap:=h'.push (PySem.W.kla_obj "<lambda>" ql params body scope (AU X.env.cells scope.names []) ((X.mg "__name__").getD .none) c' ctv),toks:=tk}:=
   I.call' (s':= { s with heap:=h'.push (PySem.W.kla_obj "<lambda>" ql params body scope (AU X.env.cells scope.names []) ((X.mg "__name__").getD .none) c' ctv),toks:=tk}) (ch:=[]) rfl un hok I.bare λb z=>absurd z (by simp)
  refine h _ H1 h'.objs.size c' _ ctv I1 ⟨ps',h1P,?_,λpos' v e=>?_⟩ keepT ?_ (λz=>?_) (Heap.get?_push_size _ rfl) h1c
  ·show TriplesOk (ps++ #[rawInt pos.line,rawInt pos.col,.ref c']).toList;rw [Array.toList_append];exact Qi ht
  ·have e':codeAmong pos' (ps++ #[rawInt pos.line,rawInt pos.col,.ref c']).toList=some v:=e;rw [Array.toList_append] at e';rcases Qj ht e' with q | q
   ·obtain⟨c2,r1,r2⟩:=hcs pos' v q;exact⟨c2,r1,keepT c2 _ r2 λy=>by rw [y,hP] at r2;cases r2⟩
   ·exact⟨c',q,h1c⟩
  ·rw [h1o _ (Nat.ne_of_gt (Nat.lt_of_lt_of_le hPlt szle)) (Nat.ne_of_gt hlt)];exact I.hok.fresh szle
  ·exact absurd (Nat.lt_of_lt_of_le (frLt _ z) szle) (Nat.lt_irrefl _)
end
section
variable {X : Cx} {scope : Scope} {N' : List Str} {cap : List (Option Nat)} {P c : Addr} {ql : Str} {params : Arguments} {body : Expr} {lpos p pos : Pos} {W : Addr -> Str -> Prop} {k : Nat} {te : XK -> TE}
def Ql (P:Addr) (ql:Str) (W:Addr->Str->Prop) (cap:List (Option Nat)) (te:XK->TE):TE:=fun σ H Q=>TabIn H P ql/\∀H1,TabIn H1 P ql->(∀b o,H b=some o->b≠P->H1 b=some o)->te (GR W Q) (AL cap σ) H1 (IZ Q)
theorem Qm (F:GS X.prog X.w X.K X.mg X.base (k+1) "_law_said" ["_law_call"] (Em X.prog X.w X.K X.mg X.base k W)) (hr:AX (k+1) X.A) (hg:Gl X "_law_said") (hfn:∀x,X.fn x=true) (hcode:X.env.code= .ref c) (hC:PySem.W.CodeHd X.base c P) (hBu:X.base.BuiltinsAt X.mg P)
  (B:AE X.env.scope X.N scope N' cap) (nc:∀x∈scope.names,x.2≠ .cell) (co:scope.isCoroutine=false) (gen:scope.isGenerator=false) (hq:X.env.qual++ "<lambda>"=ql) (hdef:defaultsOf params X.env=([],[]))
  (hbind:∀clos pm c' ctv,bindArgs (PySem.W.kla_fn "<lambda>" ql params body scope clos pm (.ref c') ctv) ⟨[],[]⟩=pure [])
  (hbody:∀(A:Around) (outer:List Env) (s:Shared) (H:Hp) (f c':Addr) (E:XK),AX k A->PE (FB X.prog X.w X.K X.mg X.base N' ql scope f (.ref c') (AU X.env.cells scope.names []) A outer s H E) body (te E))
  (he:starEach [.Lambda params body scope lpos] X.env=(false,eval (.Lambda params body scope lpos) X.env)::starEach [] X.env:=by rfl) (hpl:(backTo pos (starEach [] X.env)).any (·.1)=false:=by rfl):
  PE X (.Call (.Name "_law_said" p) [.Lambda params body scope lpos] [] pos) (Ql P ql W cap te):=by
 intro pins s σ H Q I ⟨hT,hqq⟩;obtain⟨f0,fd,run,hm,hk,hb⟩:=F.ex;refine wpAny_Call_Name_kw (Ex I hg hm ?_ (by decide));refine PySem.W.callWith_K (h₀:=X.base) I.ok.mod.kin hk (spliced_more (Qk I hT hcode hC hBu B hq hdef λs1 H1 f c' pm ctv I1 T1 k1 n1 n2 o1 c1=>spliced_none ⟨I1.kIn,?_⟩)) he hpl;have hbb:=hb s1 [.ref f] I1.kIn rfl;refine wpAny_call (codeAny_mono (run X.A X.stack s1 H1 ⟨[.ref f],[]⟩ [.ref f] [.ref f] Q hr I1.env0 hbb (.cons rfl .nil) ?_) λr s' hq=>?_)
 ·refine⟨⟨_,_,_,_,o1⟩,n1,n2,λA' outer' s' hr' e' un=>?_⟩;refine Qb I1 B nc co gen hr' e' (λx cc v e ic=>?_) (un.keep f _ o1 n1 n2 (by simp)) (e'.hok c' _ c1).1 (hbind _ _ _ _) (hbody A' outer' s' H1 f c' _ hr') (hqq H1 T1 k1);obtain⟨o,ho,hd⟩:=ic;refine⟨o,un.keep cc o ho (I1.freeC x cc e) (λz=>?_) (by simp),hd⟩;rcases mem_cons.mp (I1.stkSub cc z) with q | q
  ·exact I1.cne x cc e q
  ·obtain⟨_,o',ho',_⟩:=I1.ok.funs.mem q;exact absurd (Nat.lt_of_lt_of_le (Heap.lt_size ho') (I1.ok.cab x cc (hfn x) e)) (Nat.lt_irrefl _)
 ·cases r with
  | error e=>exact hq.elim
  | ok fl=>
   cases fl with
   | ret u=>exact I1.after hq
   | next=>exact False.elim hq
   | brk=>exact False.elim hq
   | cont=>exact False.elim hq
end
theorem Qn (a b:Bool):MeetsSeq.EqGives (.bool a) (.bool b) (a==b):=λprog w A E s Q h=>PySem.SeqAt.EqAt.bool_bool a b prog w E Q h
def EV:Value->Bool
 | .bool b=>b
 | _=>false
theorem I9:∀ {bs:List Bool}{us:List Value},Av (bs.map V.bl) us->us=bs.map Value.bool
 | [],_,h=>by cases h;rfl
 | b::bs,_,h=>by
  cases h with
  | cons r t=>
   have:=I9 t;subst this;have r':_=Value.bool b:=r;rw [r']
   rfl
theorem Lp {bs:List Bool}:∀y,y∈(bs.map Value.bool).toArray->MeetsSeq.EqGives y (.bool true) (EV y):=λy hy=>by
 have hy':y∈bs.map Value.bool:=by simpa using hy
 obtain⟨b,_,rfl⟩:=mem_map.mp hy';have:=Qn b true;cases b<;>exact this
section
variable {X : Cx}
def Qo:V->List V->Hp->VK->Prop:=λx vs H Q=>∃(l:Addr) (bs:List Bool),x= .ref l/\vs=[.bl true]/\H l=some (.lst (bs.map V.bl))/\Q (.int (bs.count true:Nat)) H
theorem Qp:Gf X "list.count" Qo:=by
 intro pins s σ H x vs v us Q I rx rv h;obtain⟨l,bs,rfl,rfl,hH,q⟩:=h;cases rx;obtain⟨u,rfl,ru⟩:=rv.one;have ru':u=Value.bool true:=ru;subst ru';obtain⟨its,r,pl,hz⟩:=I.list (Al.of hH);have e:=I9 r;subst e;obtain⟨⟨cls,dd,data,sl⟩,ho,hc,n,hd⟩:=id pl.isList;simp only at hc hd;subst hc hd;refine call_meets PySem.F.slot_list_count ⟨_,ho,rfl⟩ PySem.F.entry_list_count (PySem.F.args_list_count_2 _ _) (PySem.SeqAt.list_countAt l (bs.map Value.bool).toArray n dd sl (.bool true) EV) ⟨ho,λy hy=>(Lp y hy).at _ _,?_⟩;have ec:(bs.map Value.bool).toArray.toList.countP EV=bs.count true:=by
  rw [show(bs.map Value.bool).toArray.toList=bs.map Value.bool from rfl,List.countP_map];unfold List.count
  congr 1
  funext b
  cases b<;>rfl
 rw [ec];exact⟨.int (bs.count true:Nat),H,I.tok _,⟨_,rfl⟩,q⟩
def Qq:V->List V->Hp->VK->Prop:=λx vs H Q=>∃(l:Addr) (bs:List Bool) (j:Nat),x= .ref l/\vs=[.bl true]/\H l=some (.lst (bs.map V.bl))/\bs.length<=1000/\bs[j]? =some true/\(∀m,m<j->bs[m]? =some false)/\Q (.int (j:Nat)) H
theorem Qr:Gf X "list.index" Qq:=by
 intro pins s σ H x vs v us Q I rx rv h;obtain⟨l,bs,j,rfl,rfl,hH,hs,hj,hno,q⟩:=h;cases rx;obtain⟨u,rfl,ru⟩:=rv.one;have ru':u=Value.bool true:=ru;subst ru';obtain⟨_,its,n,r,ho⟩:=(show ObjOk X.prog X.w H s.heap l (.lst (bs.map V.bl)) from I.hok l _ hH);have e:=I9 r;subst e;have hjl:j<bs.length:=(List.getElem?_eq_some_iff.mp hj).1;have hbj:bs[j]=true:=(List.getElem?_eq_some_iff.mp hj).2;refine call_meets PySem.F.slot_list_index ⟨_,ho,rfl⟩ PySem.F.entry_list_index (PySem.F.args_list_index_2 _ _) (MeetsSeq.list_index l (bs.map Value.bool).toArray n (.bool true) EV Lp j (by simpa using hjl) (by omega) (by simp [EV,hbj]) (λm hm hlt=>?_)) ⟨ho,?_⟩
 ·have:=hno m hlt;have hbm:bs[m]'(by simpa using hm)=false:=(List.getElem?_eq_some_iff.mp this).2;simp [EV,hbm]
 ·exact⟨.int (j:Nat),H,I.tok _,⟨_,rfl⟩,q⟩
def Qs (K:Fgx):List V->Hp->VK->Prop:=λxs H Q=>∃(e C:Addr) (v:V) (b:Bool),xs=[.ref e,v]/\H e=some (El e C)/\Ek K C/\(∀u,Ay v u->PySem.W.kitOne K (.ref C) u=some b)/\Q (.bl b) H
theorem BC (K:Fgx) (hK:X.K=K:=by rfl):Bk X (.builtin "isinstance") (Qs K):=by
 subst hK;intro pins s σ H vs us Q I rv h;obtain⟨e,C,v,b,rfl,he,O,k,q⟩:=h;obtain⟨u1,u2,rfl,r1,r2⟩:=rv.two;have r1':u1=Value.ref e:=r1;subst r1';exact P5 I he O (k u2 r2) λtk=>⟨.bl b,H,I.tok _,rfl,q⟩
end
def FC:List Str:=["plant","story","firing","hour","boiler","prices","way","set","tanks","pump","feeding","readings","start","shifts","book","amount","deed","line","text"]
def EW (K:Fgx) (M:Addr) (ds:List Addr) (i:Nat):Bool:=
 (PySem.W.findIn K (.ref (ds.getD i 0)) "__getattribute__"==some (some (.builtin "BaseException.__getattribute__"))) &&(PySem.W.findIn K (.ref (ds.getD i 0)) "__getattr__"==some none) &&(PySem.W.clsIn K (ds.getD i 0)).isSome &&
 (PySem.W.findIn K (.ref (ds.getD i 0)) "__class__"==some (some (.builtin "object.__class__"))) &&(PySem.W.specialIn K (.builtin "object.__class__") "__get__"==some (some (.builtin "getset_descriptor.__get__"))) &&(PySem.W.takesIn K (.builtin "object.__class__")==some true) &&
 (PySem.W.mroIn K (ds.getD i 0) (.type "object")==some true) &&(PySem.W.mroIn K (ds.getD i 0) (.type "BaseException")==some true) &&(PySem.W.mroIn K (ds.getD i 0) (.ref M)==some true) &&
 ((List.range 19).all λj=>PySem.W.kitOne K (.ref (ds.getD i 0)) (.ref (ds.getD j 0))==some (j==i)) &&(PySem.W.kitOne K (.ref (ds.getD i 0)) (.type "ValueError")==some true)
structure Wd (K:Fgx) (M:Addr) (ds:List Addr) (C:Addr) (word:Str):Prop where
 ex:∃i,i<19/\C=ds.getD i 0/\FC[i]? =some word/\EW K M ds i=true
section
variable {K : Fgx} {M : Addr} {ds : List Addr} {i : Nat}
theorem Lq (h:EW K M ds i=true):Ek K (ds.getD i 0)/\PySem.W.mroIn K (ds.getD i 0) (.ref M)=some true/\(∀j,j<19->PySem.W.kitOne K (.ref (ds.getD i 0)) (.ref (ds.getD j 0))=some (j==i))/\PySem.W.kitOne K (.ref (ds.getD i 0)) (.type "ValueError")=some true:=by
 unfold EW at h;simp only [Bool.and_eq_true,beq_iff_eq] at h;obtain⟨⟨⟨⟨⟨⟨⟨⟨⟨⟨h1,h2⟩,h3⟩,h4⟩,h5⟩,h6⟩,h7⟩,h8⟩,h9⟩,h10⟩,h11⟩:=h;refine⟨⟨h1,h2,h3,h4,h5,h6,h7,h8⟩,h9,λj hj=>?_,h11⟩;have:=all_eq_true.mp h10 j (mem_range.mpr hj);exact beq_iff_eq.mp this
end
theorem Qt {P:Program}{w:World}{K:Fgx}{mg mb:Str->Option Value}{CX:Cr}{k:Nat}{fa a c T:Addr}{fd:FuncData}{x:Str}{sp:Sp}{s₁:Shared}{vs:List Value}{ns:List Int}
  (KX:K.In s₁.heap) (hns:s₁.heap.Ns mainGlobals mg) (hb:s₁.heap.Ns builtinsNs mb) (hbb:∀x:Str,x≠ "__name__" ->mb x=bootBuiltins x) (hlim:s₁.heap.NoLimit) (hg:s₁.gens= #[])
  (ha:s₁.heap.get? a=some { cls:= .type "list",data:= .seq vs.toArray}) (hi:IntsAre vs ns) (hl:ns.length<=sizeLine) (hr:AX k callerA)
  (t1:PySem.W.CodeHd s₁.heap c T) (t2:s₁.heap.get? T=some (PySem.W.tabObj #[])) (t3:PySem.W.noTabs K=true) (t4:s₁.heap.BuiltinsAt mg T)
  (F:∀base:Heap,K.In base->base.Ns mainGlobals mg->PySem.W.CodeHd base c T->base.BuiltinsAt mg T->CH P w K mg base CX k fa fd [x] sp) (hbind:∀(s:Shared) (u:Value),BindsTo s fd ⟨[u],[]⟩ [(x,u)])
  (hsp:∀H:Hp,H T=some (.tbl #[])->Al K H a (ns.map V.int)->sp [.ref a] H (λv _=>v= .bl true) λ_ _ _=>False)
  (hCX:∀H e s',CX [] H s₁ (λ_ _ _=>False) e s'->False):
  codeAny (model P w) callerA (.call (.ref fa) ⟨[.ref a],[]⟩) (λr s'=>r= .ok (.ret (.bool true))/\OldK s₁.heap s'.heap/\s'.os=s₁.os/\AllBare s'.gens) s₁:=by
 have rv:=Ir hi;have lenV:=hi.length;have aT:a≠T:=λz=>by rw [z,t2] at ha;cases ha
 have kT:K.lookup T=none:=by
  cases q:K.lookup T with
  | none=>rfl
  | some o=>
   have e:=KX T o q;rw [t2] at e;cases e;have h2:=all_eq_true.mp t3 _ (PySem.W.mem_of_lookupK q);exact absurd (show false=true from h2) Bool.false_ne_true
 have hTs:T≠cStatics:=λz=>by
  obtain⟨mc,⟨o,es,ep,e,hd,_⟩,_⟩:=hlim;rw [<-z,t2] at e;cases e;cases hd
 have core:∀H:Hp,H T=some (.tbl #[])->(∀b,b≠T->H b=none\/ ∃o xs,H b=some (.frz o (.lst xs)))->Al K H a (ns.map V.int)->HOk P w H s₁.heap->(∀b,H b≠none->b=a\/b=T)->(H a≠none->K.lookup a=none)->
   codeAny (model P w) callerA (.call (.ref fa) ⟨[.ref a],[]⟩) (λr s'=>r= .ok (.ret (.bool true))/\OldK s₁.heap s'.heap/\s'.os=s₁.os/\AllBare s'.gens) s₁:=by
  intro H hHT hO hS hok hA hK;have base_of:∀ {b:Addr}{o:Obj},s₁.heap.get? b=some o->H b=none->(CA s₁.heap H).get? b=some o:=λe n=>MH e n
  have noA:∀ {b:Addr}{o:Obj},s₁.heap.get? b=some o->(∀xs n,o.data≠ .seq xs n)->o.cls≠ .none->H b=none:=λ{b o} e d1 d2=>by
   cases q:H b with
   | none=>rfl
   | some u=>
    rcases hA b (by rw [q];simp) with e' | e'
    ·subst e';rw [ha] at e;cases e;exact absurd rfl (d1 _ _)
    ·subst e';rw [t2] at e;cases e;exact absurd rfl d2
  have noD:∀ {b:Addr}{o:Obj}{es:Array DictEntry}{ep:Nat},s₁.heap.get? b=some o->o.data= .dict es ep->H b=none:=λ{b o es ep} e d=>by
   cases q:H b with
   | none=>rfl
   | some u=>
    rcases hA b (by rw [q];simp) with e' | e'
    ·subst e';rw [ha] at e;cases e;have d':Data.seq vs.toArray _=Data.dict es ep:=d;cases d'
    ·subst e';rw [t2] at e;cases e;have d':Data.fields #[]=Data.dict es ep:=d;cases d'
  have nsK:∀ {b:Addr}{m:Str->Option Value},s₁.heap.Ns b m->(CA s₁.heap H).Ns b m:=λ{b m} ⟨o,es,ep,e,d,r⟩=>⟨o,es,ep,base_of e (noD e d),d,r⟩
  have hKb:K.In (CA s₁.heap H):=λb o e=>base_of (KX b o e) (by
   cases q:H b with
   | none=>rfl
   | some u=>
    rcases hA b (by rw [q];simp) with e' | e'
    ·subst e';rw [hK (by rw [q];simp)] at e;cases e
    ·subst e';rw [kT] at e;cases e)
  have hM:Mod K mg (CA s₁.heap H):=⟨hKb,nsK hns,⟨mb,nsK hb,hbb⟩,let ⟨mc,h1,h2⟩:=hlim;⟨mc,nsK h1,h2⟩⟩;have e0:CG P w K mg (CA s₁.heap H) callerA [] s₁ H:=⟨rfl,hM,λb o e=>MI e,Nat.le_of_eq (MG _ _),trivial,λb hb=>absurd (show b∈([]:List Addr) from hb) (by simp),hok,.of_eq hg⟩;have t1':PySem.W.CodeHd (CA s₁.heap H) c T:=by
   obtain⟨o,vs',file,tf,flags,tg,inF,text,tt,e1,e2,e3,r⟩:=t1;exact⟨o,vs',file,tf,flags,tg,inF,text,tt,base_of e1 (noA e1 (λxs n q=>by rw [e3] at q;cases q) (λq=>by rw [e2] at q;cases q)),e2,e3,r⟩
  have t4':(CA s₁.heap H).BuiltinsAt mg T:=by
   obtain⟨bm,ob,b1,b2,b3,b4,b5,b6,b7,b8⟩:=t4;exact⟨bm,ob,b1,b2,b3,b4,base_of b5 (noA b5 (λxs n q=>by rw [b8] at q;cases q) (λq=>by rw [b6] at q;cases q)),b6,b7,b8⟩
  refine codeAny_mono ((F _ hKb (nsK hns) t1' t4').run callerA [] s₁ H ⟨[.ref a],[]⟩ [.ref a] [.ref a] _ _ hr e0 (hbind s₁ (.ref a)) (.cons rfl .nil) (hsp H hHT hS)) λr s' h=>?_
  cases r with
  | error e=>exact(hCX H e s' h).elim
  | ok fl=>
   cases fl with
   | next=>exact False.elim h
   | brk=>exact False.elim h
   | cont=>exact False.elim h
   | ret u=>
    obtain⟨v,H',os,bare,un,hok',r',q⟩:=h;have q':v= .bl true:=q;subst q';obtain rfl:u=Value.bool true:=r';have keepO:∀b o,b≠T->s₁.heap.get? b=some o->s'.heap.get? b=some o:=λb o n e=>by
     cases q:H b with
     | none=>exact un.keep b o e q (by intro z;exact absurd (show b∈([]:List Addr) from z) (by simp)) (by simp)
     | some u=>
      rcases hO b n with z | ⟨ob,xs,z⟩
      ·rw [q] at z;cases z
      ·have z2:=un.frzs b ob _ z;obtain⟨e1,_⟩:=hok b _ z;obtain⟨e2,_⟩:=hok' b _ z2;rw [e] at e1;cases e1;exact e2
    obtain⟨more,eT⟩:=un.tbls T #[] hHT;have oT:s'.heap.get? T=some (PySem.W.tabObj (#[]++more)):=hok' T _ eT;have cT:PySem.W.CodeHd s'.heap c T:=by
     obtain⟨o,vs',file,tf,flags,tg,inF,text,tt,e1,e2,e3,e4,e5,e6,e7,e8,e9,e10⟩:=t1;exact⟨o,vs',file,tf,flags,tg,inF,text,tt,keepO c o e10 e1,e2,e3,e4,e5,e6,e7,e8,e9,e10⟩
    exact⟨rfl,OldK.step_table (OldK.refl _) (t1.tab t2) (t1.tab t2) (cT.tab oT) (λb o n e=>keepO b o n e) hTs,os,bare⟩
 cases hk:K.lookup a with
 | some o=>
  have e:=KX a o hk;rw [ha] at e;cases e;refine core (λb=>if b=T then some (.tbl #[]) else none) (if_pos rfl) (λb n=> .inl (if_neg n)) (.inr ⟨_,vs.toArray,_,hk,rfl,rfl,rfl,by rw [size_toArray,lenV];exact hl,by simpa using rv⟩) (λb u z=>?_) (λb z=>?_) λz=>absurd (if_neg aT) z
  ·by_cases hb:b=T
   ·have z':=(if_pos hb).symm.trans z;cases z';subst hb;exact t2
   ·have z':=(if_neg hb).symm.trans z;cases z'
  ·by_cases hb:b=T
   ·exact .inr hb
   ·exact absurd (if_neg hb) z
 | none=>
  have ifa:(if a=T then some (HO.tbl #[]) else if a=a then some (HO.frz { cls:= .type "list",data:= .seq vs.toArray} (.lst (ns.map V.int))) else none)=some (HO.frz { cls:= .type "list",data:= .seq vs.toArray} (.lst (ns.map V.int))):=by rw [if_neg aT,if_pos rfl]
  refine core (λb=>if b=T then some (.tbl #[]) else if b=a then some (.frz { cls:= .type "list",data:= .seq vs.toArray} (.lst (ns.map V.int))) else none) (if_pos rfl) (λb n=>?_) (.inl (.inr ⟨{ cls:= .type "list",data:= .seq vs.toArray},ifa⟩)) (λb u z=>?_) (λb z=>?_) λ_=>hk
  ·by_cases hb:b=a
   ·exact .inr ⟨_,_,by rw [if_neg n,if_pos hb]⟩
   ·exact .inl (by rw [if_neg n,if_neg hb])
  ·dsimp only at z
   by_cases hb:b=T
   ·rw [if_pos hb] at z;cases z;subst hb;exact t2
   ·rw [if_neg hb] at z
    by_cases hb:b=a
    ·rw [if_pos hb] at z;cases z;subst hb;exact⟨ha,by rw [length_map];exact hl,vs,_,rv,ha⟩
    ·rw [if_neg hb] at z;cases z
  ·by_cases hb:b=T
   ·exact .inr hb
   ·by_cases hb2:b=a
    ·exact .inl hb2
    ·exact absurd (by show(if b=T then _ else _)=none;rw [if_neg hb,if_neg hb2]) z
theorem walk_ofT {l:PySem.W.OpenLaw}{n k:Nat}{q:Program}{loose:List Str}{XP:(Str->Option Value)->Heap->Prop}{YP:World->Heap->Prop}{d dT:DefRec}{K:Params->Fgx}{CX:World->Cr}{sp:Fgx->Addr->Sp}{x xT:Str}
  (hn:l.most=some n) (hn2:n<=sizeLine) (hdf:d.params.defaults=[]) (hr:AX k callerA)
  (hY:∀(w:World) (h:Heap),YP w h->(K w.params).In h) (hrec:(recsOf q).find? (λe=>e.name==xT)=some dT) (htab:∀w:World,(PySem.W.tabIn (K w.params) xT).isSome=true) (hnt:∀w:World,PySem.W.noTabs (K w.params)=true)
  (F : ∀ (w : World) (mg : Str -> Option Value) (fa : Addr) (h : Heap) (c T : Addr), (K w.params).In h -> h.Ns mainGlobals mg -> mg d.name = some (.ref fa) -> PySem.W.tabIn (K w.params) xT = some (c, T) ->
   ∃fd:FuncData,(∀(s:Shared) (u:Value),BindsTo s fd ⟨[u],[]⟩ [(x,u)])/\
    ∀base:Heap,(K w.params).In base->base.Ns mainGlobals mg->PySem.W.CodeHd base c T->base.BuiltinsAt mg T->CH l.prog w (K w.params) mg base (CX w) k fa fd [x] (sp (K w.params) T))
  (hsp:∀(K:Fgx) (H:Hp) (a T:Addr) (ns:List Int),ns.length<=n->H T=some (.tbl #[])->Al K H a (ns.map V.int)->sp K T [.ref a] H (λv _=>v= .bl true) λ_ _ _=>False)
  (hCX:∀(w:World) (H:Hp) (s:Shared) (e:Value) (s':Shared),CX w [] H s (λ_ _ _=>False) e s'->False):
  PySem.W.WalkO q loose XP YP l.row.toRowW d [] (λf vs=>PySem.call f vs):=by
 refine Att.attach_call hn hdf λw s₀ s₁ mg mb fa o pm cd doc a vs ns G Y ho hd hcd hmg hobj hints hlen hg=>?_
 have KX:=hY w _ Y;obtain⟨⟨c,T⟩,ht⟩:=Option.isSome_iff_exists.mp (htab w);obtain⟨t1,t2⟩:=PySem.W.tab_of G.T KX hrec ht;obtain⟨fd,hb,hF⟩:=F w mg fa _ c T KX G.T.g hmg ht;have t4:s₁.heap.BuiltinsAt mg T:=by
  obtain⟨bm,ob,b1,b2,b3,b4,b5,b6⟩:=G.T.bmain;refine⟨bm,ob,b1,b2,λz=>?_,λz=>?_,b3,b4,b5,b6⟩
  ·obtain⟨o,es,ep,e,hd',_⟩:=G.T.g;rw [z,e] at b3;cases b3;rw [hd'] at b6;cases b6
  ·rw [z,t2] at b3;cases b3;cases b4
 exact Qt KX G.T.g G.T.b G.T.builtins G.T.nolimit hg hobj hints (Nat.le_trans hlen hn2) hr t1 t2 (hnt w) t4 hF hb (λH h1 h2=>hsp (K w.params) H a T ns hlen h1 h2) λH e s'=>hCX w H s₁ e s'
theorem Qu {X:Cx}{e:Expr}:PE X e (λ_ _ _=>False):=λ_ _ _ _ _ _ h=>h.elim
structure WdK (K:Fgx) (M:Addr) (ds:List Addr) (C:Addr) (word:Str):Prop where
 ex:∃i,i<16/\C=ds.getD i 0/\FC[i]? =some word/\EW K M ds i=true
theorem WdK.mro {K:Fgx}{M:Addr}{ds:List Addr}{C:Addr}{word:Str} (h:WdK K M ds C word):PySem.W.mroIn K C (.ref M)=some true:=by
 obtain⟨i,_,rfl,_,q⟩:=h.ex;exact(Lq q).2.1
def kindWords:List Str:=["plant","story","firing","hour","boiler","prices","way","set","tanks","pump","feeding","readings","start","shifts","book","amount","no deed","line","text"]
theorem Qv {i:Nat}{word:Str} (hi:i<16) (h:FC[i]? =some word):kindWords[i]? =some word/\word≠ "text" :=by
 have key:∀i,i<16->kindWords[i]? =FC[i]? /\FC[i]? ≠some (Str.ofString "text"):=by decide+kernel
 obtain⟨a,b⟩:=key i hi;exact⟨a.trans h,λz=>b (h.trans (congrArg some z))⟩
theorem Dh.fn {P:Program}{w:World}{K:Fgx}{mg:Str->Option Value}{base:Heap}{n:Nat}{x:Str}{ps:List Str}{sp sp':Sp} (F:Dh P w K mg base n x ps sp) (h:∀vs H Q E,sp' vs H Q E->sp vs H Q (λ_ _ _=>False)):Fn P w K mg base n x ps sp':=by
 obtain⟨f,fd,F,hm,hk,hb⟩:=F.ex;refine⟨f,fd,⟨λvs H Q E q=>F.len vs H Q _ (h _ _ _ _ q),λA outer s H args us vs Q E hr he hb hv hs=>?_⟩,hm,hk,hb⟩;refine codeAny_mono (F.run A outer s H args us vs Q _ hr he hb hv (h _ _ _ _ hs)) λr s' z=>?_
 unfold CR at z ⊢;cases r with
 | ok fl=>cases fl<;>exact z
 | error e=>obtain⟨_,_,_,_,_,q⟩:=z;exact q.elim
section
variable {X : Cx}
end
def GotL (H:Hp) (xs:List V) (Q:VK):Prop:=∀r H',Ab H H'->H r=none->H' r=some (.lst xs)->Q (.ref r) H'
theorem GotL.at {H:Hp}{xs:List V}{Q:VK} (q:GotL H xs Q):∀p,H p=none->Q (.ref p) (upd H p (.lst xs)):=λp hp=>q p _ (Ab.new hp) hp Ah
section
variable {X : Cx} {es : List Expr} {t : TA} {pos : Pos}
def Qw (t:TA):TE:=fun σ H Q=>t σ H λxs H1=>match Nat.ble xs.length 64 with | true=>EL H1 xs Q | false=>False
def Qx (t:TA):TE:=fun σ H Q=>t σ H λxs H1=>match Nat.ble xs.length 64 with | true=>GotL H1 xs Q | false=>False
theorem Bj {x1} (h:PA X es t):PE X (.Tuple es x1 pos) (Qw t):=by
 intro pins s σ H Q I hq;refine wpAny_Tuple_spliced (Ao (h pos pins s σ H _ I hq) λus s1 ⟨xs,H1,I1,r,q⟩=>?_);dsimp only at q;split at q
 ·rename_i z;refine⟨by rw [<-r.length];exact B7 z,?_⟩;have hf:H1 s1.heap.objs.size=none:=I1.hok.fresh (Nat.le_refl _);refine⟨.ref s1.heap.objs.size,upd H1 s1.heap.objs.size (.tup xs),I1.laid (t':=s1.toks) (λb u e=>Heap.get?_push_of_some _ e) (Nat.le_refl _) ?_,rfl,q _ _ (Ab.new hf) Ah⟩;exact⟨B7 z,us,r,⟨_,Heap.get?_push_size _ rfl,rfl,_,rfl⟩⟩
 ·exact q.elim
theorem Ca (h:PA X es t):PE X (.List es pos) (Qx t):=by
 intro pins s σ H Q I hq;refine wpAny_List_spliced (Ao (h pos pins s σ H _ I hq) λus s1 ⟨xs,H1,I1,r,q⟩=>?_);dsimp only at q;split at q
 ·rename_i z;refine⟨by rw [<-r.length];exact B7 z,?_⟩;have hf:H1 s1.heap.objs.size=none:=I1.hok.fresh (Nat.le_refl _);refine⟨.ref s1.heap.objs.size,upd H1 s1.heap.objs.size (.lst xs),I1.laid (t':=s1.toks) (λb u e=>Heap.get?_push_of_some _ e) (Nat.le_refl _) ?_,rfl,q.at _ hf⟩;exact⟨B7 z,us,0,r,Heap.get?_push_size _ rfl⟩
 ·exact q.elim
def Qy:R2:=λx y H Q=>∃l b xs zs,x= .ref l/\y= .ref b/\H l=some (.lst xs)/\H b=some (.lst zs)/\xs.length+zs.length<=sizeLine/\GotL H (xs++zs) Q
theorem FE:OpR X (binaryOp .Add) Qy:=by
 intro pins s σ H x y v u Q I rx ry h;obtain⟨l,b,xs,zs,e1,e2,h1,h2,hz,q⟩:=h;exact EF pins s σ H x y v u Q I rx ry ⟨l,b,xs,zs,e1,e2,h1,h2,hz,q.at⟩
def Qz (K:Fgx):List V->Hp->VK->Prop:=λxs H Q=>∃p ys,xs=[.ref p]/\(Al K H p ys\/Ae K H p ys)/\GotL H ys Q
theorem QA (K:Fgx) (h:X.K=K:=by rfl):Bk X (.type "list") (Qz K):=by
 intro pins s σ H xs us Q I r hq;obtain⟨p,ys,e,hs,q⟩:=hq;exact KO K h pins s σ H xs us Q I r ⟨p,ys,e,hs,q.at⟩
end
end L2
end
section
namespace L2
section
variable {X : Cx}
theorem QB (xs:List Value):slicePick xs.toArray none none (some 1)=xs.toArray:=(show slicePick xs.toArray none none (some 1)=slicePick xs.toArray none none none from rfl).trans (slicePick_all _)
def QC (te:TE):TE:=fun σ H Q=>te σ H λx H1=>∃a xs,x= .ref a/\H1 a=some (.lst xs)/\∀l,H1 l=none->Q (.ref l) (upd H1 l (.lst xs))
theorem QD {e st:Expr}{te:TE}{p2 pos:Pos} (he:PE X e te) (hst:PE X st (tC (.int 1))):PE X (.Subscript e (.Slice none none (some st) p2) pos) (QC te):=by
 intro pins s σ H Q I h;refine Subscript_ (Ao (he pins s σ H _ I h) λv s1 ⟨x,H1,I1,r1,a,xs,ex,ha,q⟩=>?_);subst ex;cases r1;refine wpAny_Slice ?_;rw [evalPart_none];refine wpAny_pure (wpAny_pure ?_);rw [evalPart_some];refine Ao (hst pins s1 σ H1 (λv H'=>v= .int 1/\H'=H1) I1 ⟨rfl,rfl⟩) λu s3 ⟨y,H3,I3,r3,ey,eH⟩=>?_
 subst ey eH;obtain⟨t,rfl⟩:=r3;have I4:Ad X pins σ H3 { s3 with heap:=s3.heap.push { cls:= .type "slice",data:= .fields #[.none,.none,.int 1 t]}}:=I3.kept (t':=s3.toks) λb ob q=>Heap.get?_push_of_some _ q
 generalize hs4:({ s3 with heap:=s3.heap.push { cls:= .type "slice",data:= .fields #[.none,.none,.int 1 t]}}:Shared)=s4 at I4;have hsl:s4.heap.IsSliceOf s3.heap.objs.size .none .none (.int 1 t):=by rw [<-hs4];exact Heap.IsSliceOf.new ..
 obtain⟨its,r,ht,hz⟩:=I4.list (Al.of ha);have hlen:=r.length;show wpAny (model X.prog X.w) X.A (subscriptTail e (.Slice none none (some st) p2) (.ref a) (.ref s3.heap.objs.size)) (EP X pins σ Q) X.xe s4;refine tail_any (ops:=[.ref a,.ref s3.heap.objs.size]) ht.isList.typeIs slot_list_getitem.lookup ?_ (by with_unfolding_all rfl);refine wpAny_getItem_list_slice ht.isList hsl .none .none (.int _ _) (by simp) ?_ (by rw [size_toArray]<;>omega);rw [QB];refine⟨.ref s4.heap.objs.size,_,I4.laid (t':=s4.toks) (o:= .lst xs) (λb ob q=>Heap.get?_push_of_some _ q) (Nat.le_refl _) ?_,rfl,q _ (I4.hok.fresh (Nat.le_refl _))⟩;exact⟨hz,_,0,r,Heap.get?_push_size _ rfl⟩
end
end L2
namespace MF
open L2
def Di (p:Int) (q:Int×Int):Int:=if q.2<p then q.1 *(q.2-p) else 0
def spared (r co:List Int) (p:Int):Int:=((r.zip co).map (Di p)).sum
def DL (lo hi p b:Int):Int:=(p-b) *(if b<p then lo else hi)
def Bq (T:TM) (h:Nat) (p b:Int):Int:=p * T.ds.getD h 0+spared (T.cs.getD h []) T.co p+DL T.lo T.hi p b
def DM (T:TM) (ns:List Int) (k:Nat):Int:=((List.range k).map λh=>Bq T h (ns.getD h 0) (ns.getD (h+1) 0)).sum
def Ci (T:TM) (ns:List Int):Int:=DM T ns ns.length-ns.getD 0 0 * T.st
theorem QE {T:TM}{ns:List Int}{k:Nat}:DM T ns (k+1)=DM T ns k+Bq T k (ns.getD k 0) (ns.getD (k+1) 0):=by
 unfold DM;rw [range_succ,map_append,sum_append];simp
structure Dj (T:TM):Prop where
 ok:T.ok
 c:∀r∈T.cs,r.length=T.co.length/\∀c∈r,0<=c/\c<=20
 o:T.co.length<=4
 o1:∀c∈T.co,1<=c/\c<=9
 d:∀x∈T.ds,0<=x/\x<=100
 l0:0<=T.lo
 h0:0<=T.hi
 s0:0<=T.st
 l4:T.lo<=100
 h4:T.hi<=100
 s4:T.st<=100
theorem getD_mem {α:Type}{l:List α}{i:Nat}{d:α} (h:i<l.length):l.getD i d∈l:=by
 rw [getD_eq_getElem?_getD,getElem?_eq_getElem h];exact getElem_mem h
def Dk (d:PyData):Bool:=match d with | .int i=>decide (0<=i) | _=>false
theorem Ja {P:PL}{S:SY} (ok:P.ok) {n:Nat} (so:S.ok n):Dj (terms P S):=by
 have h0:=ok.lo0;have h1:=ok.ls;have h2:=ok.sh;have h3:=ok.h4;refine⟨Px so,λr hr=>⟨by rw [(Eg ok r hr).2];show P.bs.length=(P.bs.map (·.2)).length;rw [length_map],λc hc=>by have:=(Eg ok r hr).1 c hc;omega⟩,by show(P.bs.map (·.2)).length<=4;rw [length_map];exact ok.b4,λc hc=>?_,λx hx=>?_,h0,?_,?_,?_,?_,?_⟩
 ·obtain⟨q,hq,rfl⟩:=mem_map.mp hc;have:=ok.b q hq;omega
 ·have:=OX ok so x hx;omega
 ·show 0<=P.hi;omega
 ·show 0<=P.st;omega
 ·show P.lo<=100;omega
 ·show P.hi<=100;omega
 ·show P.st<=100;omega
theorem EX {xs:List V}:Bf xs (some 1) none=xs.drop 1:=by
 have e1:HT.sIx xs.length xs.length none=xs.length:=rfl;have e2:HT.sIx xs.length 0 (some 1)=min 1 xs.length:=HT.sIx_nat _ _ 1;unfold Bf;rw [e1,e2];cases xs with
 | nil=>rfl
 | cons a l=>rw [Nat.min_eq_left (by simp)];simp
end MF
end
section
namespace L2
variable {X : Cx} {σ : St} {H : Hp} {kvs : List (AR × V)} {te : TE}
theorem QF:entryFor table "dict_itemiterator.__iter__"=some Builtin.«dict_keyiterator.__iter__»:=entryFor_alias (id':="dict_keyiterator.__iter__") (by kernel_rfl) rfl (by decide+kernel) (by kernel_rfl)
theorem QG {P:Program}{w:World}{k:AR}{v:Value} (h:(BD P w).is k v=true):Ay (kV k) v:=by
 rw [MC] at h;rcases Cz h with⟨i,t,rfl,rfl⟩ | ⟨x,t,rfl,rfl⟩
 ·exact⟨t,rfl⟩
 ·exact⟨t,rfl⟩
theorem KV.get {κ:Type}:∀ {ks:List (κ×V)}{vs:List (κ×Value)}{i:Nat}{q:κ×V},KV ks vs->ks[i]? =some q->∃u,vs[i]? =some (q.1,u)/\Ay q.2 u
 | _,_,_,_,.nil,e=>by simp at e
 | _,_,0,_,.cons (b:=b) r _,e=>by
  simp at e;subst e;exact⟨b.2,by rw [r.1];rfl,r.2⟩
 | _,_,i+1,q,.cons _ t,e=>by
  obtain⟨u,h1,h2⟩:=KV.get (i:=i) (q:=q) t (by simpa using e);exact⟨u,by simpa using h1,h2⟩
theorem Ad.dictAt {pins:PNs}{s:Shared}{d:Addr}{o:Obj}{es:Array DictEntry}{ep:Nat} (I:Ad X pins σ H s) (h:H d=some (.frz o (.dK kvs))) (ho:o.data= .dict es ep):
  ∃vs,KV kvs vs/\s.heap.DictAt (BD X.prog X.w) d vs ep:=by
 obtain⟨e,_,_,vs,kv,o',es',ep',e',c,dd,r⟩:=(show ObjOk X.prog X.w H s.heap d (.frz o (.dK kvs)) from I.hok d _ h);rw [e] at e';cases e';rw [ho] at dd;cases dd;exact⟨vs,kv,o,es,e,c,ho,r⟩
def Jb (d:Addr) (o:Obj) (kvs:List (AR×V)):It:=
 ⟨λi H=>H d=some (.frz o (.dK kvs))/\i<kvs.length,λi H v H'=>∃T q,v= .ref T/\H T=none/\kvs[i]? =some q/\H'=upd H T (.tup [kV q.1,q.2]),λi H=>H d=some (.frz o (.dK kvs))/\kvs.length=i⟩
theorem QH {P:Program}{w:World}{K:Fgx}{es:List Expr}{k:Nat}{pos:Pos}{o:Obj}{kvs:List (AR×V)}{es0:Array DictEntry}{ep:Nat} (d it:Addr) (ho:o.data= .dict es0 ep) (hdi:d≠it):
  CC P w K (.Tuple es k pos) (Jb d o kvs) [it] it (λi h=>∃ok ov,IsItemIter h it d i kvs.length ep ok ov) where
 mem:=by simp
 obj:=λi h st b hb=>by
  obtain⟨ok,ov,he⟩:=st;rw [mem_singleton.mp hb];exact⟨_,he,λv z=>by
   have z':Data.fields _=Data.cell v:=z;cases z'⟩
 keep:=λi h h' st kk=>by obtain⟨ok,ov,he⟩:=st;exact⟨ok,ov,kk it (by simp) _ he⟩
 item:=by
  intro X hP hw hK hc i pins s σ H E I hf st hg;subst hP hw;obtain⟨ok,ov,he⟩:=st;obtain⟨hd,hlt⟩:=hg;obtain⟨vs,kv,hm⟩:=I.dictAt hd ho;have hl:kvs.length=vs.length:=Paired.length kv;have hq:kvs[i]? =some kvs[i]:=by simp [hlt]
  obtain⟨u,hu,ru⟩:=kv.get hq;rw [hl] at he;refine wpAny_pyNext_items_item he hm hu λkey h1 hkey hout htup hsz hk=>⟨_,rfl,wpAny_letOwnedTupleGo_items hout λh2 he2 hs2=>?_⟩
  have hiH:it<s.heap.objs.size:=Heap.lt_size he;have kk:∀b ob,b ∉ [it]->s.heap.get? b=some ob->h2.get? b=some ob:=λb ob hb q=>hs2.extBut b ob (λz=>hb (by rw [z];simp)) (hk b ob (λz=>hb (by rw [z];simp)) q)
  have ht2:IsTup h2 s.heap.objs.size [key,u].toArray:=⟨_,(hs2.2 _ (Nat.ne_of_gt hiH)).trans htup,rfl,_,rfl⟩;exact⟨.ref s.heap.objs.size,upd H s.heap.objs.size (.tup [kV kvs[i].1,kvs[i].2]),I.yielded (tk:=s.toks) (λb hb=>hf b hb) kk (Nat.le_refl _) ht2 (.cons (QG hkey) (.cons ru .nil)) (by show 2<=sizeLine;decide),rfl,
   ⟨_, kvs[i], rfl, I.hok.fresh (Nat.le_refl _), hq, rfl⟩, ⟨key, u, by rw [hl]; exact he2⟩, λb hb => by
    rw [mem_singleton.mp hb,Ar (Nat.ne_of_lt hiH)];exact(hf it (by simp)).1⟩
 done:=by
  intro X hP hw hK hc i pins s σ H E I hf st hg;subst hP hw;obtain⟨ok,ov,he⟩:=st;obtain⟨hd,hlt⟩:=hg;obtain⟨vs,kv,hm⟩:=I.dictAt hd ho;have hl:kvs.length=vs.length:=Paired.length kv;rw [hl] at he;refine wpAny_pyNext_items_end (I.ok.hd hc) he hm (by rw [getElem?_eq_none];omega) λh' he'=>⟨rfl,I.ended (tk:=s.toks) (λb hb=>hf b hb) λb ob hb q=>he' b ob (λz=>hb (by rw [z];simp)) q⟩
 self:=λA i s Q E st h=>by
  obtain⟨ok,ov,he⟩:=st;have hT:s.TypeIs (.ref it) "dict_itemiterator" :=⟨_,he,rfl⟩;refine wpAny_pyIter_slot hT F.slot_dict_itemiterator_iter (wpAny_call_entry F.slot_dict_itemiterator_iter hT QF ?_ (F.args_dict_itemiterator_iter_1 _));show wpAny _ _ (ret (.ref it)) _ _ s;exact wpAny_pure ⟨_,rfl,"dict_itemiterator",_,hT,F.slot_dict_itemiterator_next.lookup,h⟩
def QI (te:TE):TI:=fun σ H R=>te σ H λx H1=>∃d o kvs,x= .ref d/\H1 d=some (.frz o (.dK kvs))/\R (Jb d o kvs) H1
theorem Lr {es:List Expr}{k:Nat}{pos' apos cpos:Pos}{e:Expr} (he:PE X e te) (hbase:attributeBase e "items" X.env (eval e X.env)=eval e X.env:=by rfl) (hline:(apos.endLine==cpos.line)=true:=by rfl):
  PI X (.Tuple es k pos') (.Call (.Attribute e "items" apos) [] [] cpos) (QI te):=by
 intro pins s σ H R I h;refine wpAny_Call_method0_late hbase hline (Ao (he pins s σ H _ I h) λv s1 ⟨x,H1,I1,r1,d,o,kvs,ex,hd,q⟩=>?_);subst ex;cases r1;obtain⟨eo,_,hsys,vs0,kv0,hm0⟩:=(show ObjOk X.prog X.w H1 s1.heap d (.frz o (.dK kvs)) from I1.hok d _ hd);obtain⟨o',es0,ep,e',c,dd,r⟩:=id hm0;have eoo:o'=o:=by rw [eo] at e';exact(Option.some.inj e').symm
 subst eoo;refine⟨"dict","dict.items",F.plainAttrs_dict,F.slot_dict_items,F.type_dict_items,hm0.typeIs,hm0.mapOf.noDict,?_⟩;refine method_meetsIn F.slot_dict_items F.entry_dict_items rfl (PySem.evalArgs_none ⟨rfl,hm0.typeIs,F.args_dict_items_1 _,_,meets_dict_items (BD X.prog X.w) d hsys,⟨_,hm0⟩,?_⟩);have hlt:=Heap.lt_size eo;have hz:(s1.heap.push { cls:= .type "dict_items",data:= .fields #[.ref d]}).objs.size=s1.heap.objs.size+1:=Heap.size_push ..;have hm1:s1.heap.DictAt (BD X.prog X.w) d vs0 ep:=⟨o',es0,eo,c,dd,r⟩;refine wpAny_pyIter_items (knd:=BD X.prog X.w) (d:=d) (kvs:=vs0) (ep:=ep) ⟨_,Heap.get?_push_size _ rfl,rfl,rfl⟩ (hm1.push _) ?_;have hl:kvs.length=vs0.length:=Paired.length kv0;dsimp only;have kk:∀b ob,s1.heap.get? b=some ob->((s1.heap.push { cls:= .type "dict_items",data:= .fields #[.ref d]}).push { cls:= .type "dict_itemiterator",data:= .fields #[.none,.bool false,.ref d,.int 0 0,.int vs0.length 0,.int ep 0,.none,.none]}).get? b=some ob:=λb ob q=>Heap.get?_push_of_some _ (Heap.get?_push_of_some _ q)
 have hit:((s1.heap.push { cls:= .type "dict_items",data:= .fields #[.ref d]}).push { cls:= .type "dict_itemiterator",data:= .fields #[.none,.bool false,.ref d,.int 0 0,.int vs0.length 0,.int ep 0,.none,.none]}).get? (s1.heap.objs.size+1)=some { cls:= .type "dict_itemiterator",data:= .fields #[.none,.bool false,.ref d,.int 0 0,.int vs0.length 0,.int ep 0,.none,.none]}:=by
  rw [<-hz];exact Heap.get?_push_size _ rfl
 rw [hz];generalize(s1.heap.push { cls:= .type "dict_items",data:= .fields #[.ref d]}).push { cls:= .type "dict_itemiterator",data:= .fields #[.none,.bool false,.ref d,.int 0 0,.int vs0.length 0,.int ep 0,.none,.none]}=h2 at kk hit;refine⟨s1.heap.objs.size+1,[s1.heap.objs.size+1],_,_,H1,rfl,I1.kept (t':=s1.toks) kk,QH (o:=o') (kvs:=kvs) d (s1.heap.objs.size+1) dd (Nat.ne_of_lt (Nat.lt_succ_of_lt hlt)),⟨.none,.none,by rw [hl];exact hit⟩,λb hb=>?_,q⟩;rw [mem_singleton.mp hb];exact I1.fpOk (Nat.le_succ _) (I1.hok.fresh (Nat.le_succ _))
theorem Ls {d:Addr}{o:Obj}{cap:List (Option Nat)}{g:TG}{tt:TT}{Q:List V->Hp->Prop} (Pv:Nat->List V->Hp->Prop) (hn:kvs.length<=100000) (h0:Pv 0 [] H) (hz:∀i zs H,Pv i zs H->zs.length<=i)
  (hl:∀i zs H,Pv i zs H->H d=some (.frz o (.dK kvs)))
  (hs:∀i q zs H T,kvs[i]? =some q->Pv i zs H->H T=none->g (.ref T) (AL cap σ) (upd H T (.tup [kV q.1,q.2])) fun σ2 H2=>Keep (AL cap σ) σ2/\tt σ2 H2 λb H3=>br b (te σ2 H3 λy H4=>Pv (i+1) (zs++[y]) H4) (Pv (i+1) zs H3))
  (hd:∀zs H,Pv kvs.length zs H->Q zs H):D8 (Jb d o kvs) cap g tt te σ Q H:=
 EH kvs.length Pv hn h0 hz (λi zs H hi p=>⟨⟨hl i zs H p,hi⟩,λv H' ⟨T,q,e,n,hq,y⟩=>by
  subst e y;exact hs i q zs H T hq p n⟩)
  λzs H p=>⟨⟨hl _ zs H p,rfl⟩,hd zs H p⟩
end L2
end
section
namespace L2
variable {k : AR} {v : V} {u : Value} {P : Program} {h : Heap} {vs : List (AR × Value)} {Y : Cx} {PB : List (Addr × Obj)} {σ : St} {H : Hp}
abbrev KL:=List (AR×V)
def B2 (ks:KL) (k:AR) (v:V):KL:=if ks.any (λq=>q.1=k) then ks.map (λq=>if q.1=k then(q.1,v) else q) else ks++[(k,v)]
theorem KV.anyK:∀ {ks:KL}{vs:List (AR×Value)},KV ks vs->ks.any (λq=>q.1=k)=vs.any (λq=>q.1=k)
 | _,_,.nil=>rfl
 | _,_,.cons r t=>by rw [any_cons,any_cons,KV.anyK t,r.1]
theorem KV.mapK (h:Ay v u):∀ {ks:KL}{vs:List (AR×Value)},KV ks vs->KV (ks.map λq=>if q.1=k then(q.1,v) else q) (vs.map λq=>if q.1=k then(q.1,u) else q)
 | _,_,.nil=> .nil
 | _,_,.cons (a:=a) (b:=b) r t=>by
  rw [map_cons,map_cons];refine .cons ?_ (KV.mapK h t);rw [<-r.1];split
  ·exact⟨r.1 ▸ rfl,h⟩
  ·exact r
theorem KV.snoc {κ:Type}{q:κ×V}{p:κ×Value} (h:q.1=p.1/\Ay q.2 p.2):∀ {ks:List (κ×V)}{vs:List (κ×Value)},KV ks vs->KV (ks++[q]) (vs++[p])
 | _,_,.nil=> .cons h .nil
 | _,_,.cons r t=> .cons r (KV.snoc h t)
theorem KV.put (h:Ay v u) {ks:KL}{vs:List (AR×Value)} (r:KV ks vs):KV (B2 ks k v) (stored vs k u):=by
 unfold B2 stored;rw [r.anyK];split
 ·exact KV.mapK h r
 ·exact KV.snoc ⟨rfl,h⟩ r
theorem Lu (ks:KL) (k:AR) (v:V):(B2 ks k v).length<=ks.length+1:=by
 unfold B2;split
 ·rw [length_map];omega
 ·rw [length_append];simp
theorem QJ (P:Program) (w:World) (h:Ay (kV k) u):(BD P w).is k u=true:=by
 cases k with
 | inl i=>obtain⟨t,rfl⟩:=h;exact Jt P w i t
 | inr x=>obtain⟨t,rfl⟩:=h;exact MD P w x t
section
variable {prog : Program} {w : World} {A : Around} {R : Result -> Shared -> Prop} {s : Shared} {kx vx tg it : Expr} {ifs : List Expr} {sc : Scope} {ps : Pos} {itv : Value} {D : Addr} {env : Env}
theorem QK (ht:∀v,letOwnedTupleGo tg itv v=pure ()) (I:Nat->Shared->Prop)
  (turn : ∀ n s, I n s -> wpAny (model prog w) A (pyNext itv) (λr s1 => match r with
   | none=>R (.ok .next) s1
   | some v => wpAny (model prog w) A (letOwnedTupleGo tg itv v) (λ_ s2 => wpAny (model prog w) A (assign tg env v) (λ_ s3 =>
     wpAny (model prog w) A (forIn ifs true λc r=>if r=true then do let ok<-isTrue c env (eval c env);pure (ForInStep.yield ok) else pure (ForInStep.yield r)) (λok s4=>
      if ok=true then wpAny (model prog w) A (eval kx env) (λkv s5=>wpAny (model prog w) A (eval vx env) (λvv s6=>wpAny (model prog w) A (dictSet D kv vv) (λ_ s7=>∃m,m<n/\I m s7) (λ_ _=>False) s6) (λ_ _=>False) s5) (λ_ _=>False) s4
      else ∃m,m<n/\I m s4) (λ_ _=>False) s3) (λ_ _=>False) s2) (λ_ _=>False) s1) (λ_ _=>False) s)
  (n:Nat) (h:I n s):codeAny (model prog w) A (.compLoop (.DictComp kx vx [⟨tg,it,ifs,0⟩] sc ps) 0 itv (.ref D) env) R s:=by
 refine codeAny_compLoop_testsD I (λm s0 hI=>wpAny_mono (turn m s0 hI) (λr s1 h1=>?_) λ_ _ z=>z.elim) n h ht;cases r with
 | none=>exact h1
 | some v=>
  have both:=wpAny_bind h1;rw [ht v,pure_bind] at both;refine wpAny_mono both (λ_ s3 h3=>wpAny_mono h3 (λok s4 h4=>?_) λ_ _ z=>z.elim) λ_ _ z=>z.elim
  cases ok with
  | false=>exact h4
  | true=>exact wpAny_mono h4 (λkv s5 h5=>wpAny_mono h5 (λvv s6 h6=>wpAny_mono h6 (λ_ _ z=>z) λ_ _ z=>z.elim) λ_ _ z=>z.elim) λ_ _ z=>z.elim
end
structure GrownD (Y:Cx) (a:Addr) (PB:PNs) (σ:St) (zs:KL) (H:Hp) (s:Shared):Prop where
 inv:Ad Y PB σ H s
 no:H a=none
 len:zs.length<=sizeLine
 at':∃o vs,s.heap.get? a=some o/\KV zs vs/\s.heap.DictOf (BD Y.prog Y.w) a vs
def DictO (P:Program) (w:World) (o:Obj) (vs:List (AR×Value)):Prop:=∃es ep,o.ExactDict/\o.data= .dict es ep/\KeysOf (BD P w) es/\Pairs (BD P w) es.toList vs/\(vs.map (·.1)).Nodup
theorem DictO.of {w:World}{a:Addr}{o:Obj} (d:h.DictOf (BD P w) a vs) (e:h.get? a=some o):DictO P w o vs:=by
 obtain⟨o',es,ep,e',r⟩:=d;rw [e] at e';cases e';exact⟨es,ep,r⟩
theorem DictO.to {w:World}{a:Addr}{o:Obj} (d:DictO P w o vs) (e:h.get? a=some o):h.DictOf (BD P w) a vs:=by
 obtain⟨es,ep,r⟩:=d;exact⟨o,es,ep,e,r⟩
theorem GrownD.pin {a:Addr}{zs:KL}{s:Shared}{o:Obj} (A:C7 Y a) (g:GrownD Y a PB σ zs H s) (e:s.heap.get? a=some o) (d:DictO Y.prog Y.w o vs):Ad Y ((a,o)::PB) σ H s:=
 g.inv.pins_of λp hp=>by
  rcases mem_cons.mp hp with rfl | hp
  ·exact⟨e,g.no,A.loc,A.fs,λv z=>by
    obtain⟨es,ep,_,dd,_⟩:=d;have z':o.data= .cell v:=z;rw [dd] at z';cases z'⟩
  ·exact g.inv.pin p (mem_append_right _ hp)
theorem Ad.grownD {a:Addr}{zs:KL}{s:Shared}{o:Obj} (I:Ad Y ((a,o)::PB) σ H s) (hz:zs.length<=sizeLine) (v:KV zs vs) (d:DictO Y.prog Y.w o vs):GrownD Y a PB σ zs H s:=by
 have q:=I.pin (a,o) (mem_append_right _ mem_cons_self);exact⟨I.pins_of λp hp=>I.pin p (mem_append_right _ (mem_cons_of_mem _ hp)),q.2.1,hz,o,vs,q.1,v,d.to q.1⟩
def Lv (wi:TI) (cap:List (Option Nat)) (g:TG) (tt:TT) (tk te:TE):St->Hp->(KL->Hp->Prop)->Prop:=fun σ H Q=>wi σ H λJ H1=>
 ∃W:Nat->Nat->KL->Hp->Prop,(∃m,W 0 m [] H1)/\∀i m ys H,W i m ys H->
  (J.stop i H/\Q ys H)\/
  (J.go i H /\ ys.length < sizeLine /\ ∃ N : KL -> Hp -> Prop, (∀ ys' H', N ys' H' -> ∃ m', m' < m /\ W (i + 1) m' ys' H') /\ ∀ x H', J.yld i H x H' -> g x (AL cap σ) H' fun σ2 H2 => Keep (AL cap σ) σ2 /\ tt σ2 H2 λb H3 =>
   br b (tk σ2 H3 λk H4=>te σ2 H4 λy H5=>∃kk,k=kV kk/\N (B2 ys kk y) H5) (N ys H3))
theorem QL {kx vx tg it:Expr}{ifs:List Expr}{sc:Scope}{ps:Pos}{m0:Nat}{Y:Cx}{a jt:Addr}{PB:PNs}{g:TG}{tt:TT}{tk te:TE}{fp:List Addr}{tn:Nat->Heap->Prop}{J:It}{W:Nat->Nat->KL->Hp->Prop}{σ:St}{ys:KL}{H:Hp}{s:Shared}{N:KL->Hp->Prop}{R:Result->Shared->Prop}
  (A:C7 Y a) (hnm:∀itv v,letOwnedTupleGo tg itv v=pure ()) (hPB:∀p∈PB,p.1≠a) (hx:Y.xe=λ_ _=>False) (hg:PG Y tg g) (htt:BM Y ifs tt) (hk:PE Y kx tk) (he:PE Y vx te)
  (T:CC Y.prog Y.w Y.K tg J fp jt tn) (na:∀b∈fp,b≠a) (fpY:∀ {o:Obj}{H':Hp},(∀b∈fp,H' b=none)->∀b∈fp,Bx Y ((a,o)::PB) H' b) (st:tn 0 s.heap) (gr:GrownD Y a PB σ ys H s) (hn:∀b∈fp,H b=none) (w0:W 0 m0 ys H)
  (turn:∀j m zs H,W j m zs H->(J.stop j H/\N zs H)\/(J.go j H/\zs.length<sizeLine/\(∃N2:KL->Hp->Prop,(∀zs' H',N2 zs' H'->∃m',m'<m/\W (j+1) m' zs' H')/\∀x H',J.yld j H x H'->g x σ H' fun σ3 H2=>Keep σ σ3/\tt σ3 H2 λb H3=>br b (tk σ3 H3 λk H4=>te σ3 H4 λy H5=>∃kk,k=kV kk/\N2 (B2 zs kk y) H5) (N2 zs H3))))
  (back:∀zs H' s',GrownD Y a PB σ zs H' s'->N zs H'->R (.ok .next) s'):codeAny (model Y.prog Y.w) Y.A (.compLoop (.DictComp kx vx [⟨tg,it,ifs,0⟩] sc ps) 0 (.ref jt) (.ref a) Y.env) R s:=by
 refine QK (hnm _) (λn' s'=>∃(j:Nat) (zs:KL) (H':Hp),GrownD Y a PB σ zs H' s'/\tn j s'.heap/\(∀b∈fp,H' b=none)/\W j n' zs H') ?_ m0 ⟨0,ys,H,gr,st,hn,w0⟩;rintro n' s12 ⟨j,zs,H12,g12,st12,fr12,w12⟩;obtain⟨o12,vs12,e12,v12,d12⟩:=g12.at';have do12:=DictO.of d12 e12;have I12:=g12.pin A e12 do12;rcases turn j n' zs H12 w12 with⟨stop,q⟩ | ⟨go2,hz0⟩
 ·refine Ao (T.done Y rfl rfl rfl A.calm j _ s12 _ H12 _ I12 (fpY fr12) st12 stop) λr s13 ⟨hr,I13⟩=>?_
  subst hr;exact back zs H12 s13 (Ad.grownD I13 g12.len v12 do12) q
 ·obtain⟨hC,N2,hN2,step2⟩:=hz0;refine Ao (T.item Y rfl rfl rfl A.calm j _ s12 _ H12 _ I12 (fpY fr12) st12 go2) λr s13 ⟨u2,hr,h13⟩=>?_
  subst hr;refine Ao h13 λ_ s14 ⟨x2,H14,I14,r14,y14,st14,fr14⟩=>?_
  have I14':=I14.pinned (fpY fr14) (T.obj _ _ st14);have hgY:=hg _ s14 _ H14 x2 u2 _ I14' r14 (step2 x2 H14 y14);rw [hx] at hgY;refine Ao hgY λ_ s15 ⟨σ15,H15,I15,kp2,q15⟩=>?_
  have htY:=htt _ s15 σ15 H15 _ I15 q15;rw [hx] at htY;refine Ao htY λb2 s16 ⟨H16,I16,q16⟩=>?_
  have pn:∀p∈PB++CD fp s14.heap,p.1≠a:=λp hp=>by
   rcases mem_append.mp hp with hp | hp
   ·exact hPB p hp
   ·exact na p.1 (Ih hp).1
  have back2:∀ {σ':St}{zs':KL}{H':Hp}{s':Shared},Keep σ σ'->GrownD Y a (PB++CD fp s14.heap) σ' zs' H' s'->N2 zs' H'->∃m,m<n'/\∃(j:Nat) (zs:KL) (H':Hp),GrownD Y a PB σ zs H' s'/\tn j s'.heap/\(∀b∈fp,H' b=none)/\W j m zs H':=λ{σ' zs' H' s'} kp G n2=>by
   obtain⟨m',hm,w16⟩:=hN2 _ _ n2;refine⟨m',hm,j+1,zs',H',⟨(G.inv.pins_of λp hp=>G.inv.pin p (mem_append_right _ (mem_append_left _ hp))).weak (by rw [kp.len]) λi v e=>kp.get e,G.no,G.len,G.at'⟩,T.keep _ _ _ st14 λb hb o e=>(G.inv.pin (b,o) (mem_append_right _ (mem_append_right _ (EB hb e)))).1,λb hb=>?_,w16⟩;obtain⟨o,e,d⟩:=T.obj _ _ st14 b hb;exact(G.inv.pin (b,o) (mem_append_right _ (mem_append_right _ (EB hb e)))).2.1
  have g16:GrownD Y a (PB++CD fp s14.heap) σ15 zs H16 s16:=Ad.grownD I16 g12.len v12 do12;cases b2 with
  | false=>
   rw [if_neg Bool.false_ne_true];exact back2 kp2 g16 (q16.2 rfl)
  | true=>
   rw [if_pos rfl];have hkY:=hk _ s16 σ15 H16 _ I16 (q16.1 rfl);rw [hx] at hkY;refine Ao hkY λkv s17 ⟨kval,H17,I17,r17,q17⟩=>?_
   have heY:=he _ s17 σ15 H17 _ I17 q17;rw [hx] at heY;refine Ao heY λyv s18 ⟨y,H18,I18,r18,kk,ek,n18⟩=>?_
   subst ek;have G18:=Ad.grownD I18 g12.len v12 do12;have e18:=(I18.pin (a,o12) (mem_append_right _ mem_cons_self)).1;refine wpAny_dictSet_pairs (hsz:=by rw [<-Paired.length v12];exact g12.len) (QJ Y.prog Y.w r17) (do12.to e18) λh6 d6 hs6=>?_
   have I19:Ad Y (PB++CD fp s14.heap) σ15 H18 { s18 with heap:=h6,toks:=s18.toks+1}:=
    G18.inv.turned (t':=s18.toks+1) (it:=a) (λb o hb e=>hs6.extBut b o hb e) G18.no A.loc A.sz A.cell λp hp z=>by
     rw [A.pn,nil_append] at hp;exact pn p hp z
   obtain⟨o6,es6,ep6,e6,r6⟩:=id d6;exact back2 kp2 ⟨I19,G18.no,by have:=Lu zs kk y;omega,o6,_,e6,KV.put r18 v12,d6⟩ n18
theorem QM {X:Cx}{tg iter kx vx:Expr}{ifs:List Expr}{scope:Scope}{pos pos':Pos}{wi:TI}{g:TG}{tt:TT}{tk te:TE}{N':List Str}{cap:List (Option Nat)}{use:Option (Value->Sem Unit)}{Q':VSP}
  {pins:PNs}{s:Shared}{σ:St}{H:Hp}{Q:KL->Hp->Prop}
  (hc:X.calm=true) (hi:PI X tg iter wi) (B:AE X.env.scope X.N scope N' cap) (hg:∀s H ex C,PG (AK X N' scope s H ex C) tg g) (ht:∀s H ex C,BM (AK X N' scope s H ex C) ifs tt)
  (hk:∀s H ex C,PE (AK X N' scope s H ex C) kx tk) (he:∀s H ex C,PE (AK X N' scope s H ex C) vx te)
  (hnm:∀itv v,letOwnedTupleGo tg itv v=pure ()) (hs:∀x,foldedSetIterable iter X.env x=pure x) (I:Ad X pins σ H s)
  (h:Lv wi cap g tt tk te σ H Q)
  (fin:∀(acc C:Addr) (H:Hp) (ys:KL) (o:Obj) (s':Shared),H acc=none->Ad X pins σ (upd H acc (.frz o (.dK ys))) s'->Gj X pins C (upd H acc (.frz o (.dK ys))) s'->Q ys H->compPost (model X.prog X.w) X.A X.xe use Q' (.ref acc) C (.ok .next) s'):
  wpAny (model X.prog X.w) X.A (comprehension (.DictComp kx vx [⟨tg,iter,ifs,0⟩] scope pos) scope X.env pos' newDict false (eval iter X.env) use) Q' X.xe s:=by
 have hclos:closureFor scope X.env=pure (AU X.env.cells scope.names []):=Iv λy hy hf=>I.ok.has y.1 (B.free y hy hf)
 refine wpAny_comprehension_free (cl:=AU X.env.cells scope.names []) rfl hs hclos B.kind B.names (Ao (hi pins s σ H _ I h) λv s1 h1=>Ao h1 λitv s2 h2=>?_);obtain⟨it,fp,tn,J,H2,e,I2,T,st2,f2,W,⟨m0,w0⟩,turn⟩:=h2;subst e;refine wpAny_newObj_type (Kj ?_);dsimp only;generalize hH3:s2.heap.push { cls:= .type "dict",dict:=none,data:= .dict #[]}=h3;have hsz3:h3.objs.size=s2.heap.objs.size+1:=by rw [<-hH3];exact Heap.size_push ..
 have hk3:∀b o,s2.heap.get? b=some o->h3.get? b=some o:=λb o e=>by rw [<-hH3];exact Heap.get?_push_of_some _ e
 have hacc3:h3.get? s2.heap.objs.size=some { cls:= .type "dict",data:= .dict #[]}:=by rw [<-hH3];exact Heap.get?_push_size _ rfl
 have hlt:∀b∈fp,b<s2.heap.objs.size:=λb hb=>let ⟨o,e,_⟩:=T.obj _ _ st2 b hb;Heap.lt_size e
 have I4:=Kl I2 B f2 hlt hk3 (by rw [hsz3];exact Nat.le_succ _);have acc4:(pushCells (h3.push { cls:= .type "dict",data:= .dict #[]}) scope.names).get? s2.heap.objs.size=some { cls:= .type "dict",data:= .dict #[]}:=pushCells_keeps _ _ _ _ (Heap.get?_push_of_some _ hacc3);have st4:tn 0 (pushCells (h3.push { cls:= .type "dict",data:= .dict #[]}) scope.names):=T.keep _ _ _ st2 λb _ o e=>pushCells_keeps _ _ _ _ (Heap.get?_push_of_some _ (hk3 b o e))
 have dict4:(pushCells (h3.push { cls:= .type "dict",data:= .dict #[]}) scope.names).DictOf (BD X.prog X.w) s2.heap.objs.size []:=Heap.DictOf.at (hH3 ▸ Heap.DictOf.new s2.heap) λo e=>pushCells_keeps _ _ _ _ (Heap.get?_push_of_some _ e)
 have haC:s2.heap.objs.size≠h3.objs.size:=by rw [hsz3];exact Nat.ne_of_lt (Nat.lt_succ_self _)
 have haN:s2.heap.objs.size ∉ AI X.stack:=λz=>by
  rcases mem_cons.mp (I2.stkSub _ z) with q | q
  ·exact absurd I2.lt (by rw [<-q];exact Nat.lt_irrefl _)
  ·exact I2.nofs (Nat.le_refl _) q
 have okY:=I4.ok;have fpY:∀ {pins':PNs}{H':Hp},(∀b∈fp,H' b=none)->(∀p∈pins',p.1=s2.heap.objs.size)->∀b∈fp,Bx (AK X N' scope s2 H2 fp h3.objs.size) pins' H' b:=λ{pins' H'} hn hp b hb=>
  ⟨hn b hb, (okY.exf b hb).1, okY.exfs b hb, .inl hb, (okY.exf b hb).2, λp z e => by
   have z':p∈pins':=z;have:=hlt b hb;rw [<-e,hp p z'] at this;exact Nat.lt_irrefl _ this⟩
 have cellNe:∀x c,(AK X N' scope s2 H2 fp h3.objs.size).env.cells.lookup x=some c->c≠s2.heap.objs.size:=λx c ec z=>by
  rcases EG scope.names (h3.objs.size+1) _ ec with q' | q'
  ·rw [z,hsz3] at q';exact absurd q' (by omega)
  ·have ec':X.env.cells.lookup x=some c:=(DF _ _ q').elim id λz=>nomatch z
   obtain⟨_,q''⟩:=I2.cell x c ec';have:=q''.lt;rw [z] at this;exact Nat.lt_irrefl _ this
 have loop:∀s4:Shared,s4= { s2 with heap:=pushCells (h3.push { cls:= .type "dict",data:= .dict #[]}) scope.names}->
   codeAny (model X.prog X.w) X.A (.compLoop (.DictComp kx vx [⟨tg,iter,ifs,0⟩] scope pos) 0 (.ref it) (.ref s2.heap.objs.size) (IB scope X.env h3.objs.size)) (compPost (model X.prog X.w) X.A X.xe use Q' (.ref s2.heap.objs.size) h3.objs.size) s4:=by
  rintro s4 rfl;have A0:C7 (AK X N' scope s2 H2 fp h3.objs.size) s2.heap.objs.size:=⟨haC,haN,.inr (Nat.le_refl _),cellNe,rfl,hc⟩;refine QL (Y:=AK X N' scope s2 H2 fp h3.objs.size) (PB:=[]) (W:=W) A0 hnm (λp hp=>absurd hp (by simp)) rfl (hg _ _ _ _) (ht _ _ _ _) (hk _ _ _ _) (he _ _ _ _) T (λb hb z=>absurd (hlt b hb) (by rw [z];exact Nat.lt_irrefl _))
   (λ{o H'} hn b hb=>fpY hn (λp hp=>by rw [mem_singleton.mp hp]) b hb) st4 ⟨I4,I2.hok.fresh (Nat.le_refl _),Nat.zero_le _,_,[],acc4,.nil,dict4⟩ (λb hb=>(f2 b hb).1) w0 turn λys H5 s6 G q=>?_
  obtain⟨o6,vs6,e6,v5,d6⟩:=G.at';have bigA:(s2.heap.objs.size==sysModules)=false:=beq_eq_false_iff_ne.mpr (Ne.symm (Nat.ne_of_lt I2.big));have fa5:=G.no;have z5:=G.len;have I6:=G.inv;have nacc:∀b u,H5 b=some u->b≠s2.heap.objs.size:=λb u q z=>by rw [z,fa5] at q;cases q
  have un:Un (AI X.stack) fp H2 (upd H5 s2.heap.objs.size (.frz o6 (.dK ys))) s2.heap s6.heap:=by
   have u:=I6.base;refine⟨u.keep,u.slot,λb o q n hx=>?_,u.there,λb xs q=>?_,λb o xs q=>?_,λb ps q=>?_⟩
   ·rw [Ar (Nat.ne_of_lt (Heap.lt_size q))];exact u.free b o q n hx
   ·have z:=u.tups b xs q;rw [Ar (nacc b _ z)];exact z
   ·have z:=u.frzs b o xs q;rw [Ar (nacc b _ z)];exact z
   ·obtain⟨more,z⟩:=u.tbls b ps q;exact⟨more,by rw [Ar (nacc b _ z)];exact z⟩
  have hok:HOk X.prog X.w (upd H5 s2.heap.objs.size (.frz o6 (.dK ys))) s6.heap:=λb u q=>by
   by_cases hb:b=s2.heap.objs.size
   ·subst hb;rw [Ah] at q;cases q;exact⟨e6,z5,bigA,vs6,v5,d6⟩
   ·rw [Ar hb] at q;have o6:ObjOk X.prog X.w H5 s6.heap b u:=I6.hok b u q;exact o6.stay (λ_ _ _ e=>e) (λc z=>by rw [Ar (nacc c _ z)];exact z) λc xs z=>by rw [Ar (nacc c _ z)];exact z
  have IX:Ad X pins σ (upd H5 s2.heap.objs.size (.frz o6 (.dK ys))) s6:=I2.call' (show s6.os=s2.os from I6.os) un hok I6.bare λb hb=>let f:=f2 b hb;⟨f.2.2.2.1,f.2.1,f.2.2.2.2.1,f.2.2.2.2.2⟩
  have hCs:s2.heap.objs.size<=h3.objs.size:=by rw [hsz3];exact Nat.le_succ _
  refine fin _ _ H5 ys o6 s6 fa5 IX ⟨let ⟨m,hn,_⟩:=I6.loc;⟨m,hn⟩,?_,?_,Nat.le_trans I2.sz hCs,λx c ec z=>?_,λp hp z=>?_⟩ q
  ·rw [Ar (Ne.symm haC)];exact I6.free
  ·exact Nat.ne_of_gt (Nat.lt_of_lt_of_le I2.lt hCs)
  ·obtain⟨_,q⟩:=I2.cell x c ec;have:=q.lt;rw [z] at this;exact absurd (Nat.lt_of_lt_of_le this hCs) (Nat.lt_irrefl _)
  ·have:=Heap.lt_size (I2.pin p hp).1;rw [z] at this;exact absurd (Nat.lt_of_lt_of_le this hCs) (Nat.lt_irrefl _)
 exact codeAny_compStart_dict (loop _ rfl) (T.self _ 0 _ _ _ st4 (loop _ rfl))
def QN (wi:TI) (cap:List (Option Nat)) (g:TG) (tt:TT) (tk te:TE):TE:=fun σ H Q=>Lv wi cap g tt tk te σ H λys H'=>∀p o,H' p=none->Q (.ref p) (upd H' p (.frz o (.dK ys)))
theorem QO {X:Cx}{tg iter kx vx:Expr}{ifs:List Expr}{scope:Scope}{pos:Pos}{wi:TI}{g:TG}{tt:TT}{tk te:TE} (N':List Str) (cap:List (Option Nat))
  (hc:X.calm=true) (hi:PI X tg iter wi) (B:AE X.env.scope X.N scope N' cap) (hg:∀s H ex C,PG (AK X N' scope s H ex C) tg g) (ht:∀s H ex C,BM (AK X N' scope s H ex C) ifs tt) (hk:∀s H ex C,PE (AK X N' scope s H ex C) kx tk) (he:∀s H ex C,PE (AK X N' scope s H ex C) vx te)
  (hnm:∀itv v,letOwnedTupleGo tg itv v=pure ():=by intro _ _;rfl) (hs:∀x,foldedSetIterable iter X.env x=pure x:=by intro _;rfl):PE X (.DictComp kx vx [⟨tg,iter,ifs,0⟩] scope pos) (QN wi cap g tt tk te):=by
 intro pins s σ H Q I h;rw [arm_eval_DictComp];refine QM (use:=none) hc hi B hg ht hk he hnm hs I h λacc C H ys o s' hn I' L q=>?_
 obtain⟨m,hm⟩:=L.ns;refine⟨m,hm,λh' hsb=>⟨.ref acc,_,I'.turned (t':=s'.toks) (it:=C) (λb o hb e=>hsb.extBut b o hb e) L.free L.loc (.inr L.sz) L.cell L.pin,rfl,q acc o hn⟩⟩
end L2
end
section
namespace L2
variable {n : Int} {t u v : Tok} {Q : KL -> Hp -> Prop} {pos : Pos} {σ : St} {H : Hp} {te : TE} {cap : List (Option Nat)} {g : TG} {tt : TT}
section
variable {prog : Program} {w : World} {A : Around} {E : Value -> Shared -> Prop} {s : Shared}
theorem QP:isSubtype (.type "range_iterator") (.type "reversed")=pure false:=by rw [isSubtype_type];kernel_rfl
abbrev Dl (n:Int):Obj:= { cls:= .type "range_iterator",data:= .fields #[rawInt (n-1),rawInt n,rawInt (-1)]}
theorem FF {z:Int} (h1: -5000<=z) (h2:z<=5000):Builtin.Range.rangeFitsLong z=true:=by
 unfold Builtin.Range.rangeFitsLong;simp only [Bool.and_eq_true,decide_eq_true_eq];omega
theorem QQ (r:Addr) (n:Int) (t u v:Tok) (h0:0<=n) (h1:n<=1000):
  Meets (Builtin.«range.__reversed__» ⟨[.ref r],[]⟩) (λ_ R s=>s.heap.get? r=some { cls:= .type "range",dict:=none,data:= .fields #[.int 0 t,.int n u,.int 1 v],slots:= #[]}/\R (.ok (.ret (Value.ref s.heap.objs.size))) { s with heap:=s.heap.push (Dl n),toks:=s.toks}):=
 .of_wp λprog w A R s h=>by
  obtain⟨hp,g,d,tk,os⟩:=s;obtain⟨hl,h⟩:=h;have hn:Builtin.Range.rangeSize 0 n 1=n:=by rw [rangeSize_one];split<;>omega
  have hsm:(Builtin.Range.rangeFitsLong 0 && Builtin.Range.rangeFitsLong n && Builtin.Range.rangeFitsLong 1 && Builtin.Range.rangeFitsLong (-1) && Builtin.Range.rangeFitsLong (0-1) && Builtin.Range.rangeFitsLong (Builtin.Range.rangeSize 0 n 1))=true:=by
   rw [hn,FF (by omega) (by omega),FF (by omega) (by omega),FF (by omega) (by omega),FF (by omega) (by omega),FF (by omega) (by omega)];rfl
  wp_walk
  rw [hsm,hn];have e:(0:Int)+(n-1) * 1=n-1:=by omega
  rw [e];simp only [Bool.not_true,Bool.false_eq_true,if_false,if_true]
  wp_walk
  exact⟨_,rfl,h⟩
theorem QR {l:Addr}{W:VSP} (hl:IsRange s.heap l 0 n 1 t u v) (h0:0<=n) (h1:n<=1000)
  (h:W (.ref s.heap.objs.size) { s with heap:=s.heap.push (Dl n)}):codeAny (model prog w) A (.call (.builtin "reversed.__new__") ⟨[.type "reversed",.ref l],[]⟩) (wants W E) s:=by
 have ty:s.TypeIs (.ref l) "range" :=⟨_,hl,rfl⟩;refine codeAny_call_builtin F.plain_reversed_new F.entry_reversed_new (wpAny_of_eq (F.newCall_reversed_1 (.ref l)) ?_);have cls:=newClass_reversed (.ref l);have look:=F.slot_range_reversed.lookup;have bound:=F.slot_range_reversed.bind (.ref l);unfold Builtin.«reversed.__new__»
 wp_walk using wpAny_of_eq cls,wpAny_specialOf ty look,wpAny_of_eq bound
 refine codeAny_mono (codeAny_call_builtin (R:=λr s'=>r= .ok (.ret (.ref s.heap.objs.size))/\s'= { s with heap:=s.heap.push (Dl n)}) F.slot_range_reversed.plain F.entry_range_reversed (F.slot_range_reversed.check _ _ _ _ _ _ _ _ ty (F.args_range_reversed_1 _) (QQ l n t u v h0 h1 prog w A.in1 (λr s'=>r= .ok (.ret (.ref s.heap.objs.size))/\s'= { s with heap:=s.heap.push (Dl n)}) s ⟨hl,rfl,rfl⟩))) λr s' hr=>?_
 obtain⟨rfl,rfl⟩:=hr;exact wpAny_pure h
theorem QS {l:Addr}{Q:VSP} (hl:IsRange s.heap l 0 n 1 t u v) (h0:0<=n) (h1:n<=1000)
  (h:Q (.ref s.heap.objs.size) { s with heap:=s.heap.push (Dl n)}):wpAny (model prog w) A (call (.type "reversed") [.ref l]) Q E s:=by
 refine callType_other (U:="range_iterator") (Q₁:=λobj s₁=>obj= .ref s.heap.objs.size/\s₁= { s with heap:=s.heap.push (Dl n)}) (by decide+kernel) F.create_reversed ⟨_,_,F.mro_reversed⟩ F.made_reversed QP (F.typeCall_reversed_1 _) (QR hl h0 h1 ⟨rfl,rfl⟩) ?_;rintro obj s₁ ⟨rfl,rfl⟩;exact⟨⟨_,Heap.get?_push_size _ rfl,rfl⟩,h⟩
end
section
variable {X : Cx} {tg : Expr}
def QT (ta:TA):TI:=fun σ H R=>ta σ H λvs H1=>∃n:Int,vs=[.int n]/\0<=n/\n<=1000/\R (EM (n-1) (-1) n.toNat) H1
theorem QU {a:Expr}{ta:TA}{p p2 pos2:Pos} (hg0:Gl X "reversed") (hm0:X.mg "reversed"=none) (hg:Gl X "range") (hm:X.mg "range"=none) (ha:PA X [a] ta)
  (hs0:starEach [.Call (.Name "range" p2) [a] [] pos2] X.env=[(false,eval (.Call (.Name "range" p2) [a] [] pos2) X.env)]:=by rfl) (hs:starEach [a] X.env=[(false,eval a X.env)]:=by rfl):
  PI X tg (.Call (.Name "reversed" p) [.Call (.Name "range" p2) [a] [] pos2] [] pos) (QT ta):=by
 intro pins s σ H R I h;refine Call_ (Cq I hg0 hm0 boot_reversed (PyProof.Rows.callWith_type1 (by
  rw [hs0];refine Calls.spliced_cons (Call_ (Cq I hg hm boot_range (PyProof.Rows.callWith_type1 (Ao (ha pos2 pins s σ H _ I h) λus s1 ⟨vs,H1,I1,r1,q1⟩=>?_) hs rfl)));obtain⟨n,e,h0,hn,q⟩:=q1;subst e;cases r1 with
  | cons r rr=>
   cases rr;obtain⟨t,rfl⟩:=r;refine call_range_1 (Calls.spliced_nil ?_);refine QS (IsRange.new ..) h0 hn ?_;dsimp only;have hz1:(s1.heap.push { cls:= .type "range",data:= .fields #[.int 0 s1.toks,.int n t,.int 1 (s1.toks+1)]}).objs.size=s1.heap.objs.size+1:=Heap.size_push ..;have kk:∀b ob,s1.heap.get? b=some ob->((s1.heap.push { cls:= .type "range",data:= .fields #[.int 0 s1.toks,.int n t,.int 1 (s1.toks+1)]}).push (Dl n)).get? b=some ob:=λb ob q=>Heap.get?_push_of_some _ (Heap.get?_push_of_some _ q)
   have hit:IsRangeIter ((s1.heap.push { cls:= .type "range",data:= .fields #[.int 0 s1.toks,.int n t,.int 1 (s1.toks+1)]}).push (Dl n)) (s1.heap.objs.size+1) (n-1) n (-1):=by
    rw [<-hz1];exact Heap.get?_push_size _ rfl
   rw [hz1];generalize(s1.heap.push { cls:= .type "range",data:= .fields #[.int 0 s1.toks,.int n t,.int 1 (s1.toks+1)]}).push (Dl n)=h2 at kk hit;refine wpAny_pyIter_rangeiter hit ⟨s1.heap.objs.size+1,[s1.heap.objs.size+1],_,_,H1,rfl,I1.kept (t':=_) kk,KQ _ (n-1) (-1) n.toNat,?_,λb hb=>?_,q⟩
   ·have e1:(n-1)+((0:Nat):Int) *(-1)=n-1:=by omega
    have e2:((n.toNat:Nat):Int)-((0:Nat):Int)=n:=by omega
    rw [e1,e2];exact hit
   ·rw [mem_singleton.mp hb];exact I1.fpOk (Nat.le_succ _) (I1.hok.fresh (Nat.le_succ _))) hs0 rfl))
def QV (i:Int) (te:TE):TE:=fun σ H Q=>te σ H λy H1=>∀d o,H1 d=none->Q (.ref d) (upd H1 d (.frz o (.dK [(.inl i,y)])))
theorem Ad.trackN {pins:PNs}{s:Shared}{a:Addr}{h':Heap}{tk:Nat}{u:HO} (I:Ad X pins σ H s) (hf:Bx X pins H a)
  (k:∀b o,b≠a->s.heap.get? b=some o->h'.get? b=some o) (ha:∃o,h'.get? a=some o) (ok:ObjOk X.prog X.w (upd H a u) h' a u):Ad X pins σ (upd H a u) { s with heap:=h',toks:=tk}:=by
 have hfr:H a=none:=hf.1;have nT:∀b u,H b=some u->b≠a:=λb u e=>Bb e hfr
 refine I.step (g':=s.gens) (d':=s.drawn) (ch:=[a]) (λb hb=>by rw [mem_singleton.mp hb];exact⟨hf.2.2.2.1,hf.2.1,hf.2.2.2.2.1,hf.2.2.2.2.2⟩) (λb o _ _ hc e _=>k b o (λz=>hc (by rw [z];simp)) e) (λb o _ _ hc e _=>⟨o.slots,k b o (λz=>hc (by rw [z];simp)) e⟩)
  (λb o hc e n=>by rw [Ar (λz=>hc (by rw [z];simp))];exact n) (λb o hc e=>⟨o,k b o (λz=>hc (by rw [z];simp)) e⟩) (λb xs e=>by rw [Ar (nT b _ e)];exact e) (λb o xs e=>by rw [Ar (nT b _ e)];exact e) (λb ps e=>⟨#[],by rw [Ar (nT b _ e),e];simp⟩) (λm hm=>?_) (λb v e=>?_) I.bare
 ·obtain⟨o,es,ep,ho,r⟩:=hm;exact⟨o,es,ep,k _ o (λz=>hf.2.1 z.symm) ho,r⟩
 ·by_cases hb:b=a
  ·subst hb;rw [Ah] at e;cases e;exact ok
  ·rw [Ar hb] at e;refine(I.hok b v e).stay (λc v hc q=>k c v ?_ q) (λc q=>by rw [Ar (nT c _ q)];exact q) λc xs q=>by rw [Ar (nT c _ q)];exact q
   rcases hc with z | z
   ·rw [z];exact hb
   ·exact nT c _ z
theorem QW {i:Int}{e:Expr}{p1:Pos}{j1:Nat} (he:PE X e te):PE X (.Dict [some (.Constant (.int i) j1 p1)] [e] pos) (QV i te):=λpins s σ H Q I h=>by
 refine wpAny_Dict_walk (knd:=BD X.prog X.w) rfl rfl (by simp) (by show 1<=15;decide) ?_;refine pairTrees_cons_walk (wpAny_Constant_int ?_);dsimp only;have hd0:(s.heap.push { cls:= .type "dict",data:= .dict #[]}).get? s.heap.objs.size=some { cls:= .type "dict",data:= .dict #[]}:=Heap.get?_push_size _ rfl;have f0:Bx X pins H s.heap.objs.size:=I.fpOk (Nat.le_refl _) (I.hok.fresh (Nat.le_refl _));have I0:Ad X pins σ H { s with heap:=s.heap.push { cls:= .type "dict",data:= .dict #[]},toks:=s.toks+1}:=I.kept (t':=s.toks+1) λb o q=>Heap.get?_push_of_some _ q
 have I0':Ad X ((s.heap.objs.size,{ cls:= .type "dict",data:= .dict #[]})::pins) σ H { s with heap:=s.heap.push { cls:= .type "dict",data:= .dict #[]},toks:=s.toks+1}:=I0.pins_of λp hp=>by
  rcases mem_cons.mp hp with rfl | hp
  ·exact⟨hd0,f0.1,f0.2.1,f0.2.2.1,λv z=>by
    have z':Data.dict #[]=Data.cell v:=z;cases z'⟩
  ·exact I0.pin p (mem_append_right _ hp)
 refine Ao (he _ _ σ H _ I0' h) λu s1 ⟨y,H1,I1,ry,q⟩=>pairTrees_nil_walk ?_
 have pn:=I1.pin (s.heap.objs.size,{ cls:= .type "dict",data:= .dict #[]}) (mem_append_right _ mem_cons_self);have I2:Ad X pins σ H1 s1:=I1.pins_of λp hp=>I1.pin p (mem_append_right _ (mem_cons_of_mem _ hp))
 have f1:Bx X pins H1 s.heap.objs.size:=⟨pn.2.1,f0.2.1,f0.2.2.1,f0.2.2.2.1,f0.2.2.2.2.1,f0.2.2.2.2.2⟩;have dn:s1.heap.DictOf (BD X.prog X.w) s.heap.objs.size []:=Heap.DictOf.at (Heap.DictOf.new s.heap) λo eo=>by rw [hd0] at eo;cases eo;exact pn.1
 refine⟨[(.inl i,u)],⟨Jt _ _ _ _,rfl,trivial⟩,dn,λh' hm hsb=>?_⟩;obtain⟨o,es,ep,eo,r⟩:=id hm;exact⟨.ref s.heap.objs.size,_,I2.trackN (u:= .frz o (.dK [(.inl i,y)])) (tk:=_) f1 (λb ob hb q=>hsb.extBut b ob hb q) ⟨o,eo⟩ ⟨eo,by show 1<=sizeLine;decide,beq_eq_false_iff_ne.mpr (Ne.symm (Nat.ne_of_lt I.big)),_,.cons ⟨rfl,ry⟩ .nil,hm⟩,rfl,q _ _ pn.2.1⟩
end
def Lw (J:It) (cap:List (Option Nat)) (g:TG) (tt:TT) (tk te:TE) (σ:St) (Q:KL->Hp->Prop) (H1:Hp):Prop:=
 ∃W:Nat->Nat->KL->Hp->Prop,(∃m,W 0 m [] H1)/\∀i m ys H,W i m ys H->
  (J.stop i H/\Q ys H)\/
  (J.go i H /\ ys.length < sizeLine /\ ∃ N : KL -> Hp -> Prop, (∀ ys' H', N ys' H' -> ∃ m', m' < m /\ W (i + 1) m' ys' H') /\ ∀ x H', J.yld i H x H' -> g x (AL cap σ) H' fun σ2 H2 => Keep (AL cap σ) σ2 /\ tt σ2 H2 λb H3 =>
   br b (tk σ2 H3 λk H4=>te σ2 H4 λy H5=>∃kk,k=kV kk/\N (B2 ys kk y) H5) (N ys H3))
theorem QX {J:It}{tk:TE} (n:Nat) (Pv:Nat->KL->Hp->Prop) (hn:n<=100000) (h0:Pv 0 [] H) (hz:∀i ys H,Pv i ys H->ys.length<=i)
  (hs:∀i ys H,i<n->Pv i ys H->J.go i H/\∀x H',J.yld i H x H'->g x (AL cap σ) H' fun σ2 H2=>Keep (AL cap σ) σ2/\tt σ2 H2 λb H3=>br b (tk σ2 H3 λk H4=>te σ2 H4 λy H5=>∃kk,k=kV kk/\Pv (i+1) (B2 ys kk y) H5) (Pv (i+1) ys H3))
  (hd:∀ys H,Pv n ys H->J.stop n H/\Q ys H):Lw J cap g tt tk te σ Q H:=by
 refine⟨λi m ys H=>m=n-i/\i<=n/\Pv i ys H,⟨n,by simp,Nat.zero_le _,h0⟩,?_⟩;rintro i m ys H ⟨rfl,hi,p⟩
 by_cases hlt:i<n
 ·obtain⟨a,b⟩:=hs i ys H hlt p;refine .inr ⟨a,?_,Pv (i+1),λys' H' p'=>⟨n-(i+1),by omega,rfl,hlt,p'⟩,b⟩;have:=hz i ys H p;have:(100000:Nat)<sizeLine:=by decide
  omega
 ·have e:i=n:=by omega
  subst e;exact .inl (hd ys H p)
theorem QY {K:Fgx}{a:Addr}{xs:List V}{tk:TE} (Pv:Nat->KL->Hp->Prop) (hn:xs.length<=100000) (h0:Pv 0 [] H) (hz:∀i ys H,Pv i ys H->ys.length<=i)
  (hl:∀i ys H,i<=xs.length->Pv i ys H->Ae K H a xs)
  (hs:∀i x ys H,xs[i]? =some x->Pv i ys H->g x (AL cap σ) H fun σ2 H2=>Keep (AL cap σ) σ2/\tt σ2 H2 λb H3=>br b (tk σ2 H3 λk H4=>te σ2 H4 λy H5=>∃kk,k=kV kk/\Pv (i+1) (B2 ys kk y) H5) (Pv (i+1) ys H3))
  (hd:∀ys H,Pv xs.length ys H->Q ys H):Lw (D0 K a) cap g tt tk te σ Q H:=
 QX xs.length Pv hn h0 hz (λi ys H hi p=>⟨⟨xs,xs[i],hl i ys H (Nat.le_of_lt hi) p,by simp [hi]⟩,λx H' ⟨e,y⟩=>by subst e;exact hs i x ys _ (y xs (hl i ys _ (Nat.le_of_lt hi) p)) p⟩)
  λys H p=>⟨⟨xs,hl _ ys H (Nat.le_refl _) p,Nat.le_refl _⟩,hd ys H p⟩
end L2
end
section
namespace L2
open PySem PySem.Spec PyProof.Rows SeqAt
variable {s : Shared} {xs ys : Array Value}
def OrdAt (op:CmpOp) (A:Around) (s:Shared) (y x:Value) (b:Bool):Prop:=
 ∀(P:Program) (w:World) (E Q:VSP),Q (.bool b) s->wpAny (model P w) A (richCompare op y x) Q E s
inductive Cb (op:CmpOp) (A:Around) (s:Shared) (last:Bool):List (Value×Value)->Bool->Prop
 | none:Cb op A s last [] last
 | same {x y:Value}{ps:List (Value×Value)}{r:Bool}:EqAt A s x y true->Cb op A s last ps r->Cb op A s last ((x,y)::ps) r
 | unlike {x y:Value}{ps:List (Value×Value)}{r:Bool}:EqAt A s x y false->OrdAt op A s x y r->Cb op A s last ((x,y)::ps) r
theorem OrdAt.gtI {A:Around} (a b:Int) (t u:Tok):OrdAt .Gt A s (.int a t) (.int b u) (decide (a>b)):=λP w E Q h=>
 CmpOf.ints_gt (P:=λi v=>v=if i=0 then Value.int a t else Value.int b u) (λi=>if i=0 then a else b) (λi v e=>by
  by_cases z:i=0
  ·rw [if_pos z] at e ⊢;exact⟨t,e⟩
  ·rw [if_neg z] at e ⊢;exact⟨u,e⟩) 0 1 _ _ s Q E rfl rfl h
theorem QZ (l b:Addr) (xs ys:Array Value) (n m:Nat) (d1 d2:Option Addr) (s1 s2:Array (Option Value)) (r:Bool):
  Meets (Builtin.«tuple.__gt__» ⟨[.ref l,.ref b],[]⟩) (λA R s=>s.heap.get? l=some { cls:= .type "tuple",dict:=d1,data:= .seq xs n,slots:=s1}/\s.heap.get? b=some { cls:= .type "tuple",dict:=d2,data:= .seq ys m,slots:=s2}/\Cb .Gt A.in1 s (decide (xs.size>ys.size)) (xs.toList.zip ys.toList) r/\R (.ok (.ret (.bool r))) s):=
 .of_wp λP w A R s hyp=>by
  obtain⟨hp,g,d,tk,os⟩:=s;obtain⟨hl,hb,told,fin⟩:=hyp;have tt:=AutoSeq1.sub_tuple_tuple
  wp_walk using AutoSeq1.wpAny_loadPart' hl,AutoSeq1.wpAny_loadPart' hb,wpAny_forIn_list _ (λleft st s'=>st.1=none/\s'=⟨hp,g,d,tk,os⟩/\Cb .Gt A.in1 ⟨hp,g,d,tk,os⟩ (decide (xs.size>ys.size)) left r) _
  case turn=>
   rintro⟨x,y⟩ left st s' ⟨_,rfl,told⟩;cases told with
   | same e more=>
    refine wpAny_bind (e P w _ _ ?_)
    wp_walk
    exact⟨rfl,rfl,more⟩
   | unlike e o=>
    refine wpAny_bind (e P w _ _ ?_);unfold OrdAt at o
    wp_walk using o P w _ _
    exact⟨_,rfl,fin⟩
  case fin=>
   rintro⟨st1,st2⟩ s' ⟨hs,rfl,told⟩
   replace hs:st1=_:=hs
   subst hs;cases told
   wp_walk
   exact⟨_,rfl,fin⟩
  case h=>exact⟨rfl,rfl,told⟩
theorem OrdAt.gtT {A:Around}{l b:Addr}{r:Bool} (hl:IsTup s.heap l xs) (hb:IsTup s.heap b ys) (hu:A.units<cLine) (told:Cb .Gt A.in1 s (decide (xs.size>ys.size)) (xs.toList.zip ys.toList) r):OrdAt .Gt A s (.ref l) (.ref b) r:=λP w E Q h=>by
 obtain⟨⟨c1,d1,t1,s1⟩,o1,e1,n,f1⟩:=hl;obtain⟨⟨c2,d2,t2,s2⟩,o2,e2,m,f2⟩:=hb;cases e1;cases f1;cases e2;cases f2;exact richCompare_meets_room (op:= .Gt) ⟨_,o1,rfl⟩ ⟨_,o2,rfl⟩ F.slot_tuple_gt F.entry_tuple_gt (F.args_tuple_gt_2 _ _) (QZ l b xs ys n m d1 d2 s1 s2 r) ⟨o1,o2,told,(λz=>nomatch z),h⟩ hu
theorem OrdAt.ltI {A:Around} (a b:Int) (t u:Tok):OrdAt .Lt A s (.int a t) (.int b u) (decide (a<b)):=λP w E Q h=>
 CmpOf.ints_lt (P:=λi v=>v=if i=0 then Value.int a t else Value.int b u) (λi=>if i=0 then a else b) (λi v e=>by
  by_cases z:i=0
  ·rw [if_pos z] at e ⊢;exact⟨t,e⟩
  ·rw [if_neg z] at e ⊢;exact⟨u,e⟩) 0 1 _ _ s Q E rfl rfl h
theorem Q0 (l b:Addr) (xs ys:Array Value) (n m:Nat) (d1 d2:Option Addr) (s1 s2:Array (Option Value)) (r:Bool):
  Meets (Builtin.«tuple.__lt__» ⟨[.ref l,.ref b],[]⟩) (λA R s=>s.heap.get? l=some { cls:= .type "tuple",dict:=d1,data:= .seq xs n,slots:=s1}/\s.heap.get? b=some { cls:= .type "tuple",dict:=d2,data:= .seq ys m,slots:=s2}/\Cb .Lt A.in1 s (decide (xs.size<ys.size)) (xs.toList.zip ys.toList) r/\R (.ok (.ret (.bool r))) s):=
 .of_wp λP w A R s hyp=>by
  obtain⟨hp,g,d,tk,os⟩:=s;obtain⟨hl,hb,told,fin⟩:=hyp;have tt:=AutoSeq1.sub_tuple_tuple
  wp_walk using AutoSeq1.wpAny_loadPart' hl,AutoSeq1.wpAny_loadPart' hb,wpAny_forIn_list _ (λleft st s'=>st.1=none/\s'=⟨hp,g,d,tk,os⟩/\Cb .Lt A.in1 ⟨hp,g,d,tk,os⟩ (decide (xs.size<ys.size)) left r) _
  case turn=>
   rintro⟨x,y⟩ left st s' ⟨_,rfl,told⟩;cases told with
   | same e more=>
    refine wpAny_bind (e P w _ _ ?_)
    wp_walk
    exact⟨rfl,rfl,more⟩
   | unlike e o=>
    refine wpAny_bind (e P w _ _ ?_);unfold OrdAt at o
    wp_walk using o P w _ _
    exact⟨_,rfl,fin⟩
  case fin=>
   rintro⟨st1,st2⟩ s' ⟨hs,rfl,told⟩
   replace hs:st1=_:=hs
   subst hs;cases told
   wp_walk
   exact⟨_,rfl,fin⟩
  case h=>exact⟨rfl,rfl,told⟩
theorem OrdAt.ltT {A:Around}{l b:Addr}{r:Bool} (hl:IsTup s.heap l xs) (hb:IsTup s.heap b ys) (hu:A.units<cLine) (told:Cb .Lt A.in1 s (decide (xs.size<ys.size)) (xs.toList.zip ys.toList) r):OrdAt .Lt A s (.ref l) (.ref b) r:=λP w E Q h=>by
 obtain⟨⟨c1,d1,t1,s1⟩,o1,e1,n,f1⟩:=hl;obtain⟨⟨c2,d2,t2,s2⟩,o2,e2,m,f2⟩:=hb;cases e1;cases f1;cases e2;cases f2;exact richCompare_meets_room (op:= .Lt) ⟨_,o1,rfl⟩ ⟨_,o2,rfl⟩ F.slot_tuple_lt F.entry_tuple_lt (F.args_tuple_lt_2 _ _) (Q0 l b xs ys n m d1 d2 s1 s2 r) ⟨o1,o2,told,(λz=>nomatch z),h⟩ hu
end L2
end
section
namespace L2
open PySem PySem.Spec PyProof.Rows SeqAt
variable {bt : Value -> Value -> Bool} {P : Program} {E Q : Value -> Shared -> Prop} {s : Shared} {vs : List Value}
def BO (bt:Value->Value->Bool):Option Value->Value->Option Value
 | none,v=>some v
 | some b,v=>if bt v b then some v else some b
def FG:Option Value->Array Value
 | none=> #[]
 | some b=> #[b,b]
abbrev EY (c:Array Value) (k:Nat):Obj:= { cls:= .type "list",dict:=none,data:= .seq c k,slots:= #[]}
def CY (h0 h:Heap):Prop:=∀b o,h0.get? b=some o->h.get? b=some o
theorem EZ (o:Option Value):(FG o).size<=sizeLine:=by cases o<;>(first | exact(show 0<=sizeLine by decide) | exact(show 2<=sizeLine by decide))
theorem Lx {o:Option Value}{v:Value}:BO bt o v≠none:=by
 cases o with
 | none=>intro z;cases z
 | some b=>
  show(if bt v b then some v else some b)≠none;cases bt v b<;>(intro z;cases z)
theorem Q1 {P:Program}{w:World}{A:Around}{R:Result->Shared->Prop}{I S:Addr}{fp wr:List Addr}{vs:List Value}{St:Nat->Heap->Prop}{h0:Heap}{bt:Value->Value->Bool}
  (W:Walks P w A.in1 I fp wr vs.length (λi v=>vs[i]? =some v) St) (nS:S ∉ fp) (oS:h0.get? S=none) (ow:∀b∈wr,h0.get? b=none)
  (cmp:∀x y s,x∈vs->y∈vs->CY h0 s.heap->OrdAt .Gt A.in1 s x y (bt x y)):
  ∀(k j:Nat) (s:Shared) (old:Option Value) (c:Nat),vs.length-j=k->j<=vs.length->St j s.heap->CY h0 s.heap->s.heap.get? S=some (EY (FG old) c)->(∀b,old=some b->b∈vs)->(old=none->j<vs.length)->
   (∀v h tk,(vs.drop j).foldl (BO bt) old=some v->(∀b o,b ∉ wr->b≠S->s.heap.get? b=some o->h.get? b=some o)->R (.ok (.ret v)) { s with heap:=h,toks:=tk})->
   codeAny (model P w) A (.builtin "max.loop" ⟨[.ref I,.none,.ref S],[]⟩) R s:=by
 have nw:S ∉ wr:=λz=>nS (W.sub _ z)
 have again':(toString "max" ++toString ".loop" :String)="max.loop" :=by decide
 have apart:∀ {b:Addr}{o:Obj},h0.get? b=some o->b ∉ wr/\b≠S:=λ{b o} e=>⟨λz=>(by rw [ow b z] at e;cases e),λz=>(by rw [z,oS] at e;cases e)⟩
 intro k
 induction k with
 | zero=>
  intro j s old c hk hj st held at' mem some' fin;obtain rfl:j=vs.length:=by omega
  cases old with
  | none=>exact absurd (some' rfl) (Nat.lt_irrefl _)
  | some b=>
   refine codeAny_builtin F.entry_max_loop ?_;rw [Around.under_plainId F.plain_max_loop _];show wpAny _ A.in1 (seqItems? (.ref S) >>=_) _ _ s;refine wpAny_bind (wpAny_seqItems at' rfl ?_);show wpAny _ A.in1 (tryCatch (pyNext (.ref I)) _>>=_) _ _ s;refine wpAny_bind (wpAny_tryCatch (W.done s _ _ st λh1 tk kept=>?_));show wpAny _ A.in1 (updateSeq S (λ_=> #[]) >>=_) _ _ _;refine wpAny_bind (wpAny_updateSeq (hz:=EZ _) (kept S _ nw at') rfl (wpAny_bind (wpAny_letGo (wpAny_pure ?_))));exact fin b _ tk (by rw [List.drop_length];rfl) λa o ha hS e=>(Heap.get?_update_other _ _ (Ne.symm hS)).trans (kept a o ha e)
 | succ k ih=>
  intro j s old c hk hj st held at' mem some' fin;have lt:j<vs.length:=by omega
  have dr:vs.drop j=vs[j]::vs.drop (j+1):=List.drop_eq_getElem_cons lt;refine codeAny_builtin F.entry_max_loop ?_;rw [Around.under_plainId F.plain_max_loop _];show wpAny _ A.in1 (seqItems? (.ref S) >>=_) _ _ s;refine wpAny_bind (wpAny_seqItems at' rfl ?_);show wpAny _ A.in1 (tryCatch (pyNext (.ref I)) _>>=_) _ _ s;refine wpAny_bind (wpAny_tryCatch (W.item j s _ _ lt st λv h1 tk got st1 kept=>?_));have ev:v=vs[j]:=by rw [getElem?_eq_getElem lt] at got;exact(Option.some.inj got).symm
  have mv:v∈vs:=by rw [ev];exact getElem_mem lt
  have at1:=kept S _ nw at';have held1:CY h0 h1:=λb o e=>kept b o (apart e).1 (held b o e)
  have next:∀(h2:Heap) (tk2 c2:Nat),h2.get? S=some (EY (FG (BO bt old v)) c2)->(∀b o,b≠S->h1.get? b=some o->h2.get? b=some o)->
    codeAny (model P w) A (.builtin "max.loop" ⟨[.ref I,.none,.ref S],[]⟩) R { s with heap:=h2,toks:=tk2}:=λh2 tk2 c2 at2 k2=>by
   refine ih (j+1) { s with heap:=h2,toks:=tk2} (BO bt old v) c2 (by omega) lt (W.frame _ _ _ st1 λb hb o e=>k2 b o (λz=>nS (by rw [<-z];exact hb)) e) (λb o e=>k2 b o (apart e).2 (held1 b o e)) at2 (λb e=>?_) (λe=>absurd e Lx) λu h3 tk3 e k3=>fin u h3 tk3 (by rw [dr,foldl_cons,<-ev];exact e) λb o hb hS q=>k3 b o hb hS (k2 b o hS (kept b o hb q))
   cases old with
   | none=>cases e;exact mv
   | some b0=>
    have e':(if bt v b0 then some v else some b0)=some b:=e;split at e'
    ·cases e';exact mv
    ·cases e';exact mem _ rfl
  cases old with
  | none=>
   show wpAny _ A.in1 (updateSeq S (λ_=> #[v,v]) >>=_) _ _ _;refine wpAny_bind (wpAny_updateSeq (hz:=EZ _) at1 rfl ?_);rw [again'];exact wpAny_pure ⟨plainId_quiet F.plain_max_loop _,next _ tk _ (Heap.get?_update_self _ at1 rfl) λb o hb e=>(Heap.get?_update_other _ _ (Ne.symm hb)).trans e⟩
  | some b=>
   show wpAny _ A.in1 (tryCatch (holding [v,v] (richCompare .Gt v b>>=_)) _>>=_) _ _ _;refine wpAny_bind (wpAny_tryCatch (wpAny_holding (wpAny_bind (cmp v b _ mv (mem b rfl) held1 P w _ _ ?_))));refine wpAny_bind (wpAny_holding (wpAny_truthy_bool (wpAny_bind (wpAny_letGo (wpAny_pure ?_)))));cases up:bt v b with
   | true=>
    have eb:BO bt (some b) v=some v:=(show(if bt v b then some v else some b)=_ from by rw [up];rfl);rw [if_pos rfl];refine wpAny_bind (wpAny_updateSeq (hz:=EZ _) at1 rfl (wpAny_bind (wpAny_letGo ?_)));rw [again'];exact wpAny_pure ⟨plainId_quiet F.plain_max_loop _,next _ tk _ (by rw [eb];exact Heap.get?_update_self _ at1 rfl) λb o hb e=>(Heap.get?_update_other _ _ (Ne.symm hb)).trans e⟩
   | false=>
    have eb:BO bt (some b) v=some b:=(show(if bt v b then some v else some b)=_ from by rw [up];rfl);rw [if_neg Bool.false_ne_true];refine wpAny_bind (wpAny_letGo ?_);rw [again'];exact wpAny_pure ⟨plainId_quiet F.plain_max_loop _,next h1 tk c (by rw [eb];exact at1) λb o hb e=>e⟩
theorem Q2 {w:World}{A:Around}{l:Addr} (hh:A.handled=none) (hl:s.heap.IsList l vs.toArray) (ne:vs≠ [])
  (cmp:∀x y s',x∈vs->y∈vs->CY s.heap s'.heap->OrdAt .Gt A.in1 s' x y (bt x y))
  (fin:∀v h tk,vs.foldl (BO bt) none=some v->(∀b o,s.heap.get? b=some o->h.get? b=some o)->Q v { s with heap:=h,toks:=tk}):wpAny (model P w) A (call (.builtin "max") [.ref l]) Q E s:=by
 have again':(toString "max" ++toString ".loop" :String)="max.loop" :=by decide
 refine call_function_tree F.kind_max F.plain_max F.entry_max (F.args_max1 _) ?_;show wpAny _ A.in1 (Builtin.Builtins.bindParams "max" ["key","default"] 0 ⟨[],[]⟩ >>=_) _ _ s;refine wpAny_bind (wpAny_of_eq (a:=[none,none]) rfl (wpAny_bind (wpAny_pure (wpAny_bind ?_))));obtain⟨ol,eol,_⟩:=id hl;have lt:=Heap.lt_size eol;refine wpAny_pyIter_list hl (wpAny_bind (wpAny_newObj_type ?_));rw [again'];dsimp only;have z1:(s.heap.push { cls:= .type "list_iterator",data:= .fields #[.ref l,.int 0 0]}).objs.size=s.heap.objs.size+1:=Heap.size_push ..;have new0:∀a,s.heap.objs.size<=a->s.heap.get? a=none:=λa ha=>by
  cases e:s.heap.get? a with
  | none=>rfl
  | some o=>exact absurd (Heap.lt_size e) (Nat.not_lt.mpr ha)
 have kk:∀b o,s.heap.get? b=some o->((s.heap.push { cls:= .type "list_iterator",data:= .fields #[.ref l,.int 0 0]}).push (EY #[] 0)).get? b=some o:=λb o e=>Heap.get?_push_of_some _ (Heap.get?_push_of_some _ e)
 have sz:vs.toArray.size=vs.length:=by simp
 have W:=Walks.list (prog:=P) (w:=w) (A:=A.in1) hh s.heap.objs.size l (Nat.ne_of_lt lt) vs.toArray;have eP:(fun(i:Nat) (v:Value)=>vs.toArray[i]? =some v)=(λi v=>vs[i]? =some v):=by funext i v;simp
 rw [sz,eP] at W;rw [z1];refine wpAny_pure ⟨plainId_quiet F.plain_max_loop _,Q1 (h0:=s.heap) (bt:=bt) (S:=s.heap.objs.size+1) W (λz=>by
  rcases mem_cons.mp z with z | z
  ·exact absurd z (Nat.succ_ne_self _)
  ·exact absurd (mem_singleton.mp z) (Nat.ne_of_gt (Nat.lt_succ_of_lt lt))) (new0 _ (Nat.le_succ _)) (λb hb=>by rw [mem_singleton.mp hb];exact new0 _ (Nat.le_refl _)) cmp vs.length 0 _ none 0 rfl (Nat.zero_le _) ?_ kk (by rw [<-z1];exact Heap.get?_push_size _ rfl) (λb e=>nomatch e) (λ_=>List.length_pos_iff.mpr ne) λv h tk e k2=>fin v h tk e λb o q=>k2 b o (λz=>by rw [mem_singleton.mp z,new0 _ (Nat.le_refl _)] at q;cases q) (λz=>by rw [z,new0 _ (Nat.le_succ _)] at q;cases q) (kk b o q)⟩
 exact⟨⟨_,Heap.get?_push_of_some _ (Heap.get?_push_size _ rfl),rfl,rfl⟩,hl.at λo e=>kk _ o e⟩
theorem Q3 {P:Program}{w:World}{A:Around}{R:Result->Shared->Prop}{I S:Addr}{fp wr:List Addr}{vs:List Value}{St:Nat->Heap->Prop}{h0:Heap}{bt:Value->Value->Bool}
  (W:Walks P w A.in1 I fp wr vs.length (λi v=>vs[i]? =some v) St) (nS:S ∉ fp) (oS:h0.get? S=none) (ow:∀b∈wr,h0.get? b=none)
  (cmp:∀x y s,x∈vs->y∈vs->CY h0 s.heap->OrdAt .Lt A.in1 s x y (bt x y)):
  ∀(k j:Nat) (s:Shared) (old:Option Value) (c:Nat),vs.length-j=k->j<=vs.length->St j s.heap->CY h0 s.heap->s.heap.get? S=some (EY (FG old) c)->(∀b,old=some b->b∈vs)->(old=none->j<vs.length)->
   (∀v h tk,(vs.drop j).foldl (BO bt) old=some v->(∀b o,b ∉ wr->b≠S->s.heap.get? b=some o->h.get? b=some o)->R (.ok (.ret v)) { s with heap:=h,toks:=tk})->
   codeAny (model P w) A (.builtin "min.loop" ⟨[.ref I,.none,.ref S],[]⟩) R s:=by
 have nw:S ∉ wr:=λz=>nS (W.sub _ z)
 have again':(toString "min" ++toString ".loop" :String)="min.loop" :=by decide
 have apart:∀ {b:Addr}{o:Obj},h0.get? b=some o->b ∉ wr/\b≠S:=λ{b o} e=>⟨λz=>(by rw [ow b z] at e;cases e),λz=>(by rw [z,oS] at e;cases e)⟩
 intro k
 induction k with
 | zero=>
  intro j s old c hk hj st held at' mem some' fin;obtain rfl:j=vs.length:=by omega
  cases old with
  | none=>exact absurd (some' rfl) (Nat.lt_irrefl _)
  | some b=>
   refine codeAny_builtin F.entry_min_loop ?_;rw [Around.under_plainId F.plain_min_loop _];show wpAny _ A.in1 (seqItems? (.ref S) >>=_) _ _ s;refine wpAny_bind (wpAny_seqItems at' rfl ?_);show wpAny _ A.in1 (tryCatch (pyNext (.ref I)) _>>=_) _ _ s;refine wpAny_bind (wpAny_tryCatch (W.done s _ _ st λh1 tk kept=>?_));show wpAny _ A.in1 (updateSeq S (λ_=> #[]) >>=_) _ _ _;refine wpAny_bind (wpAny_updateSeq (hz:=EZ _) (kept S _ nw at') rfl (wpAny_bind (wpAny_letGo (wpAny_pure ?_))));exact fin b _ tk (by rw [List.drop_length];rfl) λa o ha hS e=>(Heap.get?_update_other _ _ (Ne.symm hS)).trans (kept a o ha e)
 | succ k ih=>
  intro j s old c hk hj st held at' mem some' fin;have lt:j<vs.length:=by omega
  have dr:vs.drop j=vs[j]::vs.drop (j+1):=List.drop_eq_getElem_cons lt;refine codeAny_builtin F.entry_min_loop ?_;rw [Around.under_plainId F.plain_min_loop _];show wpAny _ A.in1 (seqItems? (.ref S) >>=_) _ _ s;refine wpAny_bind (wpAny_seqItems at' rfl ?_);show wpAny _ A.in1 (tryCatch (pyNext (.ref I)) _>>=_) _ _ s;refine wpAny_bind (wpAny_tryCatch (W.item j s _ _ lt st λv h1 tk got st1 kept=>?_));have ev:v=vs[j]:=by rw [getElem?_eq_getElem lt] at got;exact(Option.some.inj got).symm
  have mv:v∈vs:=by rw [ev];exact getElem_mem lt
  have at1:=kept S _ nw at';have held1:CY h0 h1:=λb o e=>kept b o (apart e).1 (held b o e)
  have next:∀(h2:Heap) (tk2 c2:Nat),h2.get? S=some (EY (FG (BO bt old v)) c2)->(∀b o,b≠S->h1.get? b=some o->h2.get? b=some o)->
    codeAny (model P w) A (.builtin "min.loop" ⟨[.ref I,.none,.ref S],[]⟩) R { s with heap:=h2,toks:=tk2}:=λh2 tk2 c2 at2 k2=>by
   refine ih (j+1) { s with heap:=h2,toks:=tk2} (BO bt old v) c2 (by omega) lt (W.frame _ _ _ st1 λb hb o e=>k2 b o (λz=>nS (by rw [<-z];exact hb)) e) (λb o e=>k2 b o (apart e).2 (held1 b o e)) at2 (λb e=>?_) (λe=>absurd e Lx) λu h3 tk3 e k3=>fin u h3 tk3 (by rw [dr,foldl_cons,<-ev];exact e) λb o hb hS q=>k3 b o hb hS (k2 b o hS (kept b o hb q))
   cases old with
   | none=>cases e;exact mv
   | some b0=>
    have e':(if bt v b0 then some v else some b0)=some b:=e;split at e'
    ·cases e';exact mv
    ·cases e';exact mem _ rfl
  cases old with
  | none=>
   show wpAny _ A.in1 (updateSeq S (λ_=> #[v,v]) >>=_) _ _ _;refine wpAny_bind (wpAny_updateSeq (hz:=EZ _) at1 rfl ?_);rw [again'];exact wpAny_pure ⟨plainId_quiet F.plain_min_loop _,next _ tk _ (Heap.get?_update_self _ at1 rfl) λb o hb e=>(Heap.get?_update_other _ _ (Ne.symm hb)).trans e⟩
  | some b=>
   show wpAny _ A.in1 (tryCatch (holding [v,v] (richCompare .Lt v b>>=_)) _>>=_) _ _ _;refine wpAny_bind (wpAny_tryCatch (wpAny_holding (wpAny_bind (cmp v b _ mv (mem b rfl) held1 P w _ _ ?_))));refine wpAny_bind (wpAny_holding (wpAny_truthy_bool (wpAny_bind (wpAny_letGo (wpAny_pure ?_)))));cases up:bt v b with
   | true=>
    have eb:BO bt (some b) v=some v:=(show(if bt v b then some v else some b)=_ from by rw [up];rfl);rw [if_pos rfl];refine wpAny_bind (wpAny_updateSeq (hz:=EZ _) at1 rfl (wpAny_bind (wpAny_letGo ?_)));rw [again'];exact wpAny_pure ⟨plainId_quiet F.plain_min_loop _,next _ tk _ (by rw [eb];exact Heap.get?_update_self _ at1 rfl) λb o hb e=>(Heap.get?_update_other _ _ (Ne.symm hb)).trans e⟩
   | false=>
    have eb:BO bt (some b) v=some b:=(show(if bt v b then some v else some b)=_ from by rw [up];rfl);rw [if_neg Bool.false_ne_true];refine wpAny_bind (wpAny_letGo ?_);rw [again'];exact wpAny_pure ⟨plainId_quiet F.plain_min_loop _,next h1 tk c (by rw [eb];exact at1) λb o hb e=>e⟩
theorem Q4 {w:World}{A:Around}{l:Addr} (hh:A.handled=none) (hl:s.heap.IsList l vs.toArray) (ne:vs≠ [])
  (cmp:∀x y s',x∈vs->y∈vs->CY s.heap s'.heap->OrdAt .Lt A.in1 s' x y (bt x y))
  (fin:∀v h tk,vs.foldl (BO bt) none=some v->(∀b o,s.heap.get? b=some o->h.get? b=some o)->Q v { s with heap:=h,toks:=tk}):wpAny (model P w) A (call (.builtin "min") [.ref l]) Q E s:=by
 have again':(toString "min" ++toString ".loop" :String)="min.loop" :=by decide
 refine call_function_tree F.kind_min F.plain_min F.entry_min (F.args_min1 _) ?_;show wpAny _ A.in1 (Builtin.Builtins.bindParams "min" ["key","default"] 0 ⟨[],[]⟩ >>=_) _ _ s;refine wpAny_bind (wpAny_of_eq (a:=[none,none]) rfl (wpAny_bind (wpAny_pure (wpAny_bind ?_))));obtain⟨ol,eol,_⟩:=id hl;have lt:=Heap.lt_size eol;refine wpAny_pyIter_list hl (wpAny_bind (wpAny_newObj_type ?_));rw [again'];dsimp only;have z1:(s.heap.push { cls:= .type "list_iterator",data:= .fields #[.ref l,.int 0 0]}).objs.size=s.heap.objs.size+1:=Heap.size_push ..;have new0:∀a,s.heap.objs.size<=a->s.heap.get? a=none:=λa ha=>by
  cases e:s.heap.get? a with
  | none=>rfl
  | some o=>exact absurd (Heap.lt_size e) (Nat.not_lt.mpr ha)
 have kk:∀b o,s.heap.get? b=some o->((s.heap.push { cls:= .type "list_iterator",data:= .fields #[.ref l,.int 0 0]}).push (EY #[] 0)).get? b=some o:=λb o e=>Heap.get?_push_of_some _ (Heap.get?_push_of_some _ e)
 have sz:vs.toArray.size=vs.length:=by simp
 have W:=Walks.list (prog:=P) (w:=w) (A:=A.in1) hh s.heap.objs.size l (Nat.ne_of_lt lt) vs.toArray;have eP:(fun(i:Nat) (v:Value)=>vs.toArray[i]? =some v)=(λi v=>vs[i]? =some v):=by funext i v;simp
 rw [sz,eP] at W;rw [z1];refine wpAny_pure ⟨plainId_quiet F.plain_min_loop _,Q3 (h0:=s.heap) (bt:=bt) (S:=s.heap.objs.size+1) W (λz=>by
  rcases mem_cons.mp z with z | z
  ·exact absurd z (Nat.succ_ne_self _)
  ·exact absurd (mem_singleton.mp z) (Nat.ne_of_gt (Nat.lt_succ_of_lt lt))) (new0 _ (Nat.le_succ _)) (λb hb=>by rw [mem_singleton.mp hb];exact new0 _ (Nat.le_refl _)) cmp vs.length 0 _ none 0 rfl (Nat.zero_le _) ?_ kk (by rw [<-z1];exact Heap.get?_push_size _ rfl) (λb e=>nomatch e) (λ_=>List.length_pos_iff.mpr ne) λv h tk e k2=>fin v h tk e λb o q=>k2 b o (λz=>by rw [mem_singleton.mp z,new0 _ (Nat.le_refl _)] at q;cases q) (λz=>by rw [z,new0 _ (Nat.le_succ _)] at q;cases q) (kk b o q)⟩
 exact⟨⟨_,Heap.get?_push_of_some _ (Heap.get?_push_size _ rfl),rfl,rfl⟩,hl.at λo e=>kk _ o e⟩
end L2
end
section
namespace L2
open PySem PySem.Spec PyProof.Rows SeqAt
variable {h : Heap} {u v : Value} {s : Shared} {y : List Addr} {X : Cx} {k : Nat}
inductive Cmp:PyData->PyData->Prop
 | int (a b:Int):Cmp (.int a) (.int b)
 | row (as bs:List Int):Cmp (.tuple (as.map .int)) (.tuple (bs.map .int))
def Ly:∀(as:List Int),PyData.canLayAll0 (as.map .int)=true/\PyData.hasDictAll (as.map .int)=false/\PyData.depthAll (as.map .int)=0
 | []=>⟨rfl,rfl,rfl⟩
 | a::as=>by
  obtain⟨h1,h2,h3⟩:=Ly as;refine⟨?_,?_,?_⟩
  ·show PyData.canLayAll0 (.int a::as.map .int)=true;unfold PyData.canLayAll0;rw [h1];rfl
  ·show PyData.hasDictAll (.int a::as.map .int)=false;unfold PyData.hasDictAll;rw [h2];rfl
  ·show PyData.depthAll (.int a::as.map .int)=0;unfold PyData.depthAll;rw [h3];rfl
theorem Cmp.left {d e:PyData} (h:Cmp d e):d.canLay0=true/\d.hasDict=false/\d.depth<=1:=by
 cases h with
 | int a b=>exact⟨rfl,rfl,Nat.zero_le _⟩
 | row as bs=>
  obtain⟨h1,h2,h3⟩:=Ly as;refine⟨?_,?_,?_⟩
  ·unfold PyData.canLay0;exact h1
  ·unfold PyData.hasDict;exact h2
  ·unfold PyData.depth;rw [h3];exact Nat.le_refl _
theorem Cmp.symm {d e:PyData} (h:Cmp d e):Cmp e d:=by
 cases h with
 | int a b=>exact .int b a
 | row as bs=>exact .row bs as
theorem Dm:∀ {us:List Value}{ds:List PyData}{as:List Addr},ReadsAll h us ds as->us.length=ds.length
 | _,_,_,.nil=>rfl
 | _,_,_,.cons _ t=>by rw [length_cons,length_cons,Dm t]
theorem Cv {ds:List PyData}{as:List Addr} (r:Reads h u (.tuple ds) as):∃a vs,u= .ref a/\IsTup h a vs.toArray/\ReadsAll h vs ds as:=by
 cases r with
 | tuple e c d ra=>exact⟨_,_,rfl,⟨_,e,c,_,by rw [d]⟩,ra⟩
theorem GU {bt:Value->Value->Bool}{f:Value->Int}{S:Value->Prop} (h1:∀x y,S x->S y->bt x y=true->f y<=f x) (h2:∀x y,S x->S y->bt x y=false->f x<=f y):∀(l:List Value) (b v:Value),S b->(∀x∈l,S x)->l.foldl (BO bt) (some b)=some v->(v=b\/v∈l)/\f b<=f v/\∀x∈l,f x<=f v
 | [],b,v,_,_,e=>by cases e;exact⟨.inl rfl,Int.le_refl _,λx hx=>nomatch hx⟩
 | y::l,b,v,sb,sl,e=>by
  rw [foldl_cons] at e;have e':l.foldl (BO bt) (if bt y b then some y else some b)=some v:=e;have sy:=sl y mem_cons_self;have sl':∀x∈l,S x:=λx hx=>sl x (mem_cons_of_mem _ hx)
  cases c:bt y b with
  | true=>
   rw [c,if_pos rfl] at e';obtain⟨m,a,q⟩:=GU h1 h2 l y v sy sl' e';refine⟨.inr (m.elim (λz=>by rw [z];exact mem_cons_self) λz=>mem_cons_of_mem _ z),Int.le_trans (h1 y b sy sb c) a,λx hx=>?_⟩;rcases mem_cons.mp hx with rfl | hx
   ·exact a
   ·exact q x hx
  | false=>
   rw [c,if_neg Bool.false_ne_true] at e';obtain⟨m,a,q⟩:=GU h1 h2 l b v sb sl' e';refine⟨m.elim .inl λz=> .inr (mem_cons_of_mem _ z),a,λx hx=>?_⟩;rcases mem_cons.mp hx with rfl | hx
   ·exact Int.le_trans (h2 x b sy sb c) a
   ·exact q x hx
def GV (last:Bool):List Int->List Int->Bool
 | a::as,b::bs=>if a=b then GV last as bs else decide (a>b)
 | _,_=>last
theorem Lz {A:Around}{s:Shared}{last:Bool}:∀ {as bs:List Int}{us ws:List Value}{x y:List Addr},ReadsAll s.heap us (as.map .int) x->ReadsAll s.heap ws (bs.map .int) y->Cb .Gt A s last (us.zip ws) (GV last as bs)
 | [],_,_,_,_,_,r,_=>by cases r;exact .none
 | _::_,[],_,_,_,_,r,q=>by cases q;rw [List.zip_nil_right];exact .none
 | a::as,b::bs,us,ws,x,y,r,q=>by
  cases r with
  | cons r1 r2=>
   cases q with
   | cons q1 q2=>
    cases r1 with
    | int i t=>
     cases q1 with
     | int j u=>
      rw [zip_cons_cons];unfold GV;split
      ·rename_i e;subst e;refine .same ?_ (Lz r2 q2);have:=EqAt.int_int (A:=A) (s:=s) a t a u
       simpa using this
      ·rename_i e;refine .unlike ?_ (OrdAt.gtI a b t u);have:=EqAt.int_int (A:=A) (s:=s) a t b u;rw [show(a==b)=false from by simpa using e] at this;exact this
def Jc (d e:PyData):Bool:=match d,e with
 | .int a,.int b=>decide (a>b)
 | .tuple xs,.tuple ys=>GV (decide (xs.length>ys.length)) (xs.filterMap fun | .int i=>some i | _=>none) (ys.filterMap fun | .int i=>some i | _=>none)
 | _,_=>false
theorem Jd:∀(as:List Int),((as.map PyData.int).filterMap fun | .int i=>some i | _=>none)=as
 | []=>rfl
 | a::as=>by rw [map_cons,filterMap_cons];simp only;rw [Jd as]
theorem Q5 {A:Around}{d e:PyData}{x:List Addr} (h:Cmp d e) (r:Reads s.heap u d x) (q:Reads s.heap v e y) (hu:A.units<cLine):OrdAt .Gt A s u v (Jc d e):=by
 cases h with
 | int a b=>
  cases r with
  | int i t=>
   cases q with
   | int j t'=>exact OrdAt.gtI a b t t'
 | row as bs=>
  obtain⟨a,us,rfl,hl,ra⟩:=Cv r;obtain⟨b,ws,rfl,hb,rb⟩:=Cv q;have l1:us.length=as.length:=by have:=Dm ra;rw [length_map] at this;exact this
  have l2:ws.length=bs.length:=by have:=Dm rb;rw [length_map] at this;exact this
  refine OrdAt.gtT hl hb hu ?_;have:=Lz (A:=A.in1) (last:=decide (us.length>ws.length)) ra rb;unfold Jc;dsimp only;rw [Jd,Jd,length_map,length_map,<-l1,<-l2]
  simpa using this
def E1 (last:Bool):List PyData->List PyData->Bool
 | d::ds,e::es=>if PyData.eqv d e then E1 last ds es else Jc d e
 | _,_=>last
theorem LA {A:Around}{s:Shared}{last:Bool} (hu:A.units+5<cLine):∀ {ds es:List PyData}{us ws:List Value}{x y:List Addr},Paired Cmp ds es->ReadsAll s.heap us ds x->ReadsAll s.heap ws es y->Cb .Gt A s last (us.zip ws) (E1 last ds es)
 | _,_,_,_,_,_,.nil,r,q=>by cases r;exact .none
 | d::ds,e::es,us,ws,x,y,.cons c t,r,q=>by
  cases r with
  | cons r1 r2=>
   cases q with
   | cons q1 q2=>
    rw [zip_cons_cons];obtain⟨c1,c2,c3⟩:=c.left;obtain⟨e1,e2,e3⟩:=c.symm.left;have eq:=eqAt_reads d e A s _ _ _ _ r1 q1 c1 e1 (by omega);unfold E1;cases z:PyData.eqv d e with
    | true=>rw [z] at eq;exact .same eq (LA hu t r2 q2)
    | false=>rw [z] at eq;exact .unlike eq (Q5 c r1 q1 (by omega))
theorem LB (hc:X.calm=true) (hr:AX k X.A):Bk X (.builtin "max") (λxs H Q=>∃(p l:Addr) (fs:List (Int×List PyData)) (vs:List V),xs=[.ref l]/\H l=some (.lst vs)/\Ac p H (fs.map λq=> .tuple (.int q.1::q.2)) vs/\fs≠ []/\(∀q∈fs,∀q'∈fs,Paired Cmp q.2 q'.2)/\
  ∀(i:Nat) q v,fs[i]? =some q->vs[i]? =some v->(∀q'∈fs,q'.1<=q.1)->Q v H):=by
 intro pins s σ H xs us Q I r h;obtain⟨p,l,fs,vs,rfl,hl,rs,ne,cm,q⟩:=h;obtain⟨u,rfl,ru⟩:=r.one;cases ru;obtain⟨its,rv,pl,hz⟩:=I.list (Al.of hl);have un:=hr.un;have lv:=rv.length;have lf:=rs.len;rw [length_map] at lf;have rd:∀(i:Nat) (x:Value),its[i]? =some x->∃q v as,fs[i]? =some q/\vs[i]? =some v/\Ay v x/\Reads s.heap x (.tuple (.int q.1::q.2)) as:=λi x hx=>by
  have hi:=(List.getElem?_eq_some_iff.mp hx).1;have hf:fs[i]? =some fs[i]:=getElem?_eq_getElem (by omega);obtain⟨v,hv,rep⟩:=rs.get (i:=i) (d:= .tuple (.int (fs[i]).1::(fs[i]).2)) (by rw [getElem?_map,hf];rfl);obtain⟨x',hx',rx⟩:=rv.get hv;rw [hx] at hx';cases hx';have mem:=getElem_mem (l:=fs) (n:=i) (by omega);have nd:(PyData.tuple (.int (fs[i]).1::(fs[i]).2)).hasDict=false:=by
   have:=cm _ mem _ mem;generalize(fs[i]).2=ds at this;have all:∀ {ds es:List PyData},Paired Cmp ds es->PyData.hasDictAll ds=false:=by
    intro ds es t
    induction t with
    | nil=>rfl
    | cons c _ ih=>unfold PyData.hasDictAll;rw [c.left.2.1,ih];rfl
   unfold PyData.hasDict PyData.hasDictAll;rw [all this];rfl
  obtain⟨as,rr⟩:=Aa.reads I _ v x nd rep rx;exact⟨_,v,as,hf,hv,rx,rr⟩
 have get:∀x∈its,∃q as,q∈fs/\Reads s.heap x (.tuple (.int q.1::q.2)) as:=λx hx=>by
  obtain⟨i,hi⟩:=getElem?_of_mem hx;obtain⟨q,v,as,hf,_,_,r⟩:=rd i x hi;exact⟨q,as,mem_of_getElem? hf,r⟩
 have first:∀x,∃n:Int,∀(q:Int) (ds:List PyData) (as:List Addr),Reads s.heap x (.tuple (.int q::ds)) as->q=n:=λx=>by
  by_cases z:∃(q:Int) (ds:List PyData) (as:List Addr),Reads s.heap x (.tuple (.int q::ds)) as
  ·obtain⟨q,ds,as,r⟩:=z;refine⟨q,λq' ds' as' r'=>?_⟩;obtain⟨a,us,rfl,hl1,ra⟩:=Cv r;obtain⟨b,ws,e,hl2,rb⟩:=Cv r';cases e;obtain⟨o1,g1,c1,n1,d1⟩:=hl1;obtain⟨o2,g2,c2,n2,d2⟩:=hl2;rw [g1] at g2;cases g2;rw [d1] at d2;have:us=ws:=by injection d2 with d2 _;simpa using d2
   subst this;cases ra with
   | cons a1 _=>
    cases rb with
    | cons b1 _=>cases a1;cases b1;rfl
  ·exact⟨0,λq ds as r=>absurd ⟨q,ds,as,r⟩ z⟩
 obtain⟨f,hf⟩:=Classical.axiomOfChoice first
 have ex:∀z:Value×Value,∃b:Bool,(z.1∈its->z.2∈its->∀s':Shared,CY s.heap s'.heap->OrdAt .Gt X.A.in1 s' z.1 z.2 b)/\(b=true->z.1∈its->z.2∈its->f z.2<=f z.1)/\(b=false->z.1∈its->z.2∈its->f z.1<=f z.2):=λz=>by
  by_cases m1:z.1∈its
  ·by_cases m2:z.2∈its
   ·obtain⟨q1,a1,k1,r1⟩:=get _ m1;obtain⟨q2,a2,k2,r2⟩:=get _ m2;have e1:=hf z.1 q1.1 q1.2 a1 r1;have e2:=hf z.2 q2.1 q2.2 a2 r2;have pc:Paired Cmp (.int q1.1::q1.2) (.int q2.1::q2.2):= .cons (.int _ _) (cm q1 k1 q2 k2);refine⟨E1 (decide ((PyData.int q1.1::q1.2).length>(PyData.int q2.1::q2.2).length)) (.int q1.1::q1.2) (.int q2.1::q2.2),λ_ _ s' held=>?_,λb _ _=>?_,λb _ _=>?_⟩
    ·obtain⟨c1,us,ez1,h1,ra⟩:=Cv (Reads.keeps held r1);obtain⟨c2,ws,ez2,h2,rb⟩:=Cv (Reads.keeps held r2);rw [ez1,ez2];refine OrdAt.gtT h1 h2 (by simp only [Around.in1_units];omega) ?_;have l1:=Dm ra;have l2:=Dm rb;have:=LA (A:=X.A.in1.in1) (s:=s') (last:=decide ((PyData.int q1.1::q1.2).length>(PyData.int q2.1::q2.2).length)) (by simp only [Around.in1_units];omega) pc ra rb;rw [<-l1,<-l2] at this ⊢
     simpa using this
    ·unfold E1 at b
     by_cases z:q1.1=q2.1
     ·omega
     ·rw [if_neg (by unfold PyData.eqv;simpa using z)] at b;have b':decide (q1.1>q2.1)=true:=b;have:=of_decide_eq_true b';omega
    ·unfold E1 at b
     by_cases z:q1.1=q2.1
     ·omega
     ·rw [if_neg (by unfold PyData.eqv;simpa using z)] at b;have b':decide (q1.1>q2.1)=false:=b;have:=of_decide_eq_false b';omega
   ·exact⟨true,λ_ m=>absurd m m2,λ_ _ m=>absurd m m2,λz=>nomatch z⟩
  ·exact⟨true,λm=>absurd m m1,λ_ m=>absurd m m1,λz=>nomatch z⟩
 obtain⟨bt,hbt⟩:=Classical.axiomOfChoice ex;have nei:its≠ []:=λz=>ne (List.eq_nil_of_length_eq_zero (by rw [z] at lv;have l0:vs.length=0:=lv;omega))
 refine Q2 (bt:=λx y=>bt (x,y)) (I.ok.hd hc) pl.isList nei (λx y s' mx my held=>(hbt (x,y)).1 mx my s' held) λv h tk e kept=>?_
 obtain⟨b0,rest,eits⟩:∃b r,its=b::r:=by
  cases its with
  | nil=>exact absurd rfl nei
  | cons b r=>exact⟨b,r,rfl⟩
 have e':rest.foldl (BO λx y=>bt (x,y)) (some b0)=some v:=by rw [eits,foldl_cons] at e;exact e
 have best:=GU (S:=λx=>x∈its) (bt:=λx y=>bt (x,y)) (f:=f) (λx y hx hy b=>(hbt (x,y)).2.1 b hx hy) (λx y hx hy b=>(hbt (x,y)).2.2 b hx hy) rest b0 v (by rw [eits];exact mem_cons_self) (λx hx=>by rw [eits];exact mem_cons_of_mem _ hx) e';obtain⟨mv,f0,fr⟩:=best;have mv':v∈its:=by
  rw [eits];rcases mv with z | z
  ·rw [z];exact mem_cons_self
  ·exact mem_cons_of_mem _ z
 have all:∀x∈its,f x<=f v:=λx hx=>by
  rw [eits] at hx;rcases mem_cons.mp hx with rfl | hx
  ·exact f0
  ·exact fr x hx
 obtain⟨i,hi⟩:=getElem?_of_mem mv';obtain⟨qq,vv,as,hfq,hvv,rx,rr⟩:=rd i v hi;refine⟨vv,H,I.kept kept,rx,q i qq vv hfq hvv λq' hq'=>?_⟩;obtain⟨j,hj⟩:=getElem?_of_mem hq';have hj':=(List.getElem?_eq_some_iff.mp hj).1;obtain⟨q2,v2,as2,hf2,_,_,r2⟩:=rd j its[j] (getElem?_eq_getElem (by omega));rw [hj] at hf2;cases hf2;have:=all its[j] (getElem_mem _);rw [<-hf v qq.1 qq.2 as rr,<-hf its[j] q'.1 q'.2 as2 r2] at this;omega
def GW (last:Bool):List Int->List Int->Bool
 | a::as,b::bs=>if a=b then GW last as bs else decide (a<b)
 | _,_=>last
theorem LC {A:Around}{s:Shared}{last:Bool}:∀ {as bs:List Int}{us ws:List Value}{x y:List Addr},ReadsAll s.heap us (as.map .int) x->ReadsAll s.heap ws (bs.map .int) y->Cb .Lt A s last (us.zip ws) (GW last as bs)
 | [],_,_,_,_,_,r,_=>by cases r;exact .none
 | _::_,[],_,_,_,_,r,q=>by cases q;rw [List.zip_nil_right];exact .none
 | a::as,b::bs,us,ws,x,y,r,q=>by
  cases r with
  | cons r1 r2=>
   cases q with
   | cons q1 q2=>
    cases r1 with
    | int i t=>
     cases q1 with
     | int j u=>
      rw [zip_cons_cons];unfold GW;split
      ·rename_i e;subst e;refine .same ?_ (LC r2 q2);have:=EqAt.int_int (A:=A) (s:=s) a t a u
       simpa using this
      ·rename_i e;refine .unlike ?_ (OrdAt.ltI a b t u);have:=EqAt.int_int (A:=A) (s:=s) a t b u;rw [show(a==b)=false from by simpa using e] at this;exact this
def Je (d e:PyData):Bool:=match d,e with
 | .int a,.int b=>decide (a<b)
 | .tuple xs,.tuple ys=>GW (decide (xs.length<ys.length)) (xs.filterMap fun | .int i=>some i | _=>none) (ys.filterMap fun | .int i=>some i | _=>none)
 | _,_=>false
theorem Jf:∀(as:List Int),((as.map PyData.int).filterMap fun | .int i=>some i | _=>none)=as
 | []=>rfl
 | a::as=>by rw [map_cons,filterMap_cons];simp only;rw [Jf as]
theorem Q6 {A:Around}{d e:PyData}{x:List Addr} (h:Cmp d e) (r:Reads s.heap u d x) (q:Reads s.heap v e y) (hu:A.units<cLine):OrdAt .Lt A s u v (Je d e):=by
 cases h with
 | int a b=>
  cases r with
  | int i t=>
   cases q with
   | int j t'=>exact OrdAt.ltI a b t t'
 | row as bs=>
  obtain⟨a,us,rfl,hl,ra⟩:=Cv r;obtain⟨b,ws,rfl,hb,rb⟩:=Cv q;have l1:us.length=as.length:=by have:=Dm ra;rw [length_map] at this;exact this
  have l2:ws.length=bs.length:=by have:=Dm rb;rw [length_map] at this;exact this
  refine OrdAt.ltT hl hb hu ?_;have:=LC (A:=A.in1) (last:=decide (us.length<ws.length)) ra rb;unfold Je;dsimp only;rw [Jf,Jf,length_map,length_map,<-l1,<-l2]
  simpa using this
def E2 (last:Bool):List PyData->List PyData->Bool
 | d::ds,e::es=>if PyData.eqv d e then E2 last ds es else Je d e
 | _,_=>last
theorem LD {A:Around}{s:Shared}{last:Bool} (hu:A.units+5<cLine):∀ {ds es:List PyData}{us ws:List Value}{x y:List Addr},Paired Cmp ds es->ReadsAll s.heap us ds x->ReadsAll s.heap ws es y->Cb .Lt A s last (us.zip ws) (E2 last ds es)
 | _,_,_,_,_,_,.nil,r,q=>by cases r;exact .none
 | d::ds,e::es,us,ws,x,y,.cons c t,r,q=>by
  cases r with
  | cons r1 r2=>
   cases q with
   | cons q1 q2=>
    rw [zip_cons_cons];obtain⟨c1,c2,c3⟩:=c.left;obtain⟨e1,e2,e3⟩:=c.symm.left;have eq:=eqAt_reads d e A s _ _ _ _ r1 q1 c1 e1 (by omega);unfold E2;cases z:PyData.eqv d e with
    | true=>rw [z] at eq;exact .same eq (LD hu t r2 q2)
    | false=>rw [z] at eq;exact .unlike eq (Q6 c r1 q1 (by omega))
theorem Q7 (hc:X.calm=true) (hr:AX k X.A):Bk X (.builtin "min") (λxs H Q=>∃(p l:Addr) (fs:List (Int×List PyData)) (vs:List V),xs=[.ref l]/\H l=some (.lst vs)/\Ac p H (fs.map λq=> .tuple (.int q.1::q.2)) vs/\fs≠ []/\(∀q∈fs,∀q'∈fs,Paired Cmp q.2 q'.2)/\
  ∀(i:Nat) q v,fs[i]? =some q->vs[i]? =some v->(∀q'∈fs,q.1<=q'.1)->Q v H):=by
 intro pins s σ H xs us Q I r h;obtain⟨p,l,fs,vs,rfl,hl,rs,ne,cm,q⟩:=h;obtain⟨u,rfl,ru⟩:=r.one;cases ru;obtain⟨its,rv,pl,hz⟩:=I.list (Al.of hl);have un:=hr.un;have lv:=rv.length;have lf:=rs.len;rw [length_map] at lf;have rd:∀(i:Nat) (x:Value),its[i]? =some x->∃q v as,fs[i]? =some q/\vs[i]? =some v/\Ay v x/\Reads s.heap x (.tuple (.int q.1::q.2)) as:=λi x hx=>by
  have hi:=(List.getElem?_eq_some_iff.mp hx).1;have hf:fs[i]? =some fs[i]:=getElem?_eq_getElem (by omega);obtain⟨v,hv,rep⟩:=rs.get (i:=i) (d:= .tuple (.int (fs[i]).1::(fs[i]).2)) (by rw [getElem?_map,hf];rfl);obtain⟨x',hx',rx⟩:=rv.get hv;rw [hx] at hx';cases hx';have mem:=getElem_mem (l:=fs) (n:=i) (by omega);have nd:(PyData.tuple (.int (fs[i]).1::(fs[i]).2)).hasDict=false:=by
   have:=cm _ mem _ mem;generalize(fs[i]).2=ds at this;have all:∀ {ds es:List PyData},Paired Cmp ds es->PyData.hasDictAll ds=false:=by
    intro ds es t
    induction t with
    | nil=>rfl
    | cons c _ ih=>unfold PyData.hasDictAll;rw [c.left.2.1,ih];rfl
   unfold PyData.hasDict PyData.hasDictAll;rw [all this];rfl
  obtain⟨as,rr⟩:=Aa.reads I _ v x nd rep rx;exact⟨_,v,as,hf,hv,rx,rr⟩
 have get:∀x∈its,∃q as,q∈fs/\Reads s.heap x (.tuple (.int q.1::q.2)) as:=λx hx=>by
  obtain⟨i,hi⟩:=getElem?_of_mem hx;obtain⟨q,v,as,hf,_,_,r⟩:=rd i x hi;exact⟨q,as,mem_of_getElem? hf,r⟩
 have first:∀x,∃n:Int,∀(q:Int) (ds:List PyData) (as:List Addr),Reads s.heap x (.tuple (.int q::ds)) as-> - q=n:=λx=>by
  by_cases z:∃(q:Int) (ds:List PyData) (as:List Addr),Reads s.heap x (.tuple (.int q::ds)) as
  ·obtain⟨q,ds,as,r⟩:=z;refine⟨-q,λq' ds' as' r'=>?_⟩;obtain⟨a,us,rfl,hl1,ra⟩:=Cv r;obtain⟨b,ws,e,hl2,rb⟩:=Cv r';cases e;obtain⟨o1,g1,c1,n1,d1⟩:=hl1;obtain⟨o2,g2,c2,n2,d2⟩:=hl2;rw [g1] at g2;cases g2;rw [d1] at d2;have:us=ws:=by injection d2 with d2 _;simpa using d2
   subst this;cases ra with
   | cons a1 _=>
    cases rb with
    | cons b1 _=>cases a1;cases b1;rfl
  ·exact⟨0,λq ds as r=>absurd ⟨q,ds,as,r⟩ z⟩
 obtain⟨f,hf⟩:=Classical.axiomOfChoice first
 have ex:∀z:Value×Value,∃b:Bool,(z.1∈its->z.2∈its->∀s':Shared,CY s.heap s'.heap->OrdAt .Lt X.A.in1 s' z.1 z.2 b)/\(b=true->z.1∈its->z.2∈its->f z.2<=f z.1)/\(b=false->z.1∈its->z.2∈its->f z.1<=f z.2):=λz=>by
  by_cases m1:z.1∈its
  ·by_cases m2:z.2∈its
   ·obtain⟨q1,a1,k1,r1⟩:=get _ m1;obtain⟨q2,a2,k2,r2⟩:=get _ m2;have e1:=hf z.1 q1.1 q1.2 a1 r1;have e2:=hf z.2 q2.1 q2.2 a2 r2;have pc:Paired Cmp (.int q1.1::q1.2) (.int q2.1::q2.2):= .cons (.int _ _) (cm q1 k1 q2 k2);refine⟨E2 (decide ((PyData.int q1.1::q1.2).length<(PyData.int q2.1::q2.2).length)) (.int q1.1::q1.2) (.int q2.1::q2.2),λ_ _ s' held=>?_,λb _ _=>?_,λb _ _=>?_⟩
    ·obtain⟨c1,us,ez1,h1,ra⟩:=Cv (Reads.keeps held r1);obtain⟨c2,ws,ez2,h2,rb⟩:=Cv (Reads.keeps held r2);rw [ez1,ez2];refine OrdAt.ltT h1 h2 (by simp only [Around.in1_units];omega) ?_;have l1:=Dm ra;have l2:=Dm rb;have:=LD (A:=X.A.in1.in1) (s:=s') (last:=decide ((PyData.int q1.1::q1.2).length<(PyData.int q2.1::q2.2).length)) (by simp only [Around.in1_units];omega) pc ra rb;rw [<-l1,<-l2] at this ⊢
     simpa using this
    ·unfold E2 at b
     by_cases z:q1.1=q2.1
     ·omega
     ·rw [if_neg (by unfold PyData.eqv;simpa using z)] at b;have b':decide (q1.1<q2.1)=true:=b;have:=of_decide_eq_true b';omega
    ·unfold E2 at b
     by_cases z:q1.1=q2.1
     ·omega
     ·rw [if_neg (by unfold PyData.eqv;simpa using z)] at b;have b':decide (q1.1<q2.1)=false:=b;have:=of_decide_eq_false b';omega
   ·exact⟨true,λ_ m=>absurd m m2,λ_ _ m=>absurd m m2,λz=>nomatch z⟩
  ·exact⟨true,λm=>absurd m m1,λ_ m=>absurd m m1,λz=>nomatch z⟩
 obtain⟨bt,hbt⟩:=Classical.axiomOfChoice ex;have nei:its≠ []:=λz=>ne (List.eq_nil_of_length_eq_zero (by rw [z] at lv;have l0:vs.length=0:=lv;omega))
 refine Q4 (bt:=λx y=>bt (x,y)) (I.ok.hd hc) pl.isList nei (λx y s' mx my held=>(hbt (x,y)).1 mx my s' held) λv h tk e kept=>?_
 obtain⟨b0,rest,eits⟩:∃b r,its=b::r:=by
  cases its with
  | nil=>exact absurd rfl nei
  | cons b r=>exact⟨b,r,rfl⟩
 have e':rest.foldl (BO λx y=>bt (x,y)) (some b0)=some v:=by rw [eits,foldl_cons] at e;exact e
 have best:=GU (S:=λx=>x∈its) (bt:=λx y=>bt (x,y)) (f:=f) (λx y hx hy b=>(hbt (x,y)).2.1 b hx hy) (λx y hx hy b=>(hbt (x,y)).2.2 b hx hy) rest b0 v (by rw [eits];exact mem_cons_self) (λx hx=>by rw [eits];exact mem_cons_of_mem _ hx) e';obtain⟨mv,f0,fr⟩:=best;have mv':v∈its:=by
  rw [eits];rcases mv with z | z
  ·rw [z];exact mem_cons_self
  ·exact mem_cons_of_mem _ z
 have all:∀x∈its,f x<=f v:=λx hx=>by
  rw [eits] at hx;rcases mem_cons.mp hx with rfl | hx
  ·exact f0
  ·exact fr x hx
 obtain⟨i,hi⟩:=getElem?_of_mem mv';obtain⟨qq,vv,as,hfq,hvv,rx,rr⟩:=rd i v hi;refine⟨vv,H,I.kept kept,rx,q i qq vv hfq hvv λq' hq'=>?_⟩;obtain⟨j,hj⟩:=getElem?_of_mem hq';have hj':=(List.getElem?_eq_some_iff.mp hj).1;obtain⟨q2,v2,as2,hf2,_,_,r2⟩:=rd j its[j] (getElem?_eq_getElem (by omega));rw [hj] at hf2;cases hf2;have:=all its[j] (getElem_mem _);rw [<-hf v qq.1 qq.2 as rr,<-hf its[j] q'.1 q'.2 as2 r2] at this;omega
end L2
end
section
namespace MF
open L2
variable {p : Addr} {H : Hp} {T : TM} {kvs ks : KL} {k : AR} {v : V}
def DN (T:TM):Nat->List Int->Int
 | _,[]=>0
 | h,p::r=>Bq T h p (r.headD 0)+DN T (h+1) r
def E3 (T:TM) (ps:List Int):Prop:=∀x∈ps,x∈0::T.co
structure OneTail (T:TM) (h:Nat) (x f:Int) (ps:List Int):Prop where
 len:ps.length=T.ds.length-h
 val:f=DN T h ps
 hd:ps.headD 0=x
 as:E3 T ps
 top:∀qs:List Int,qs.length=T.ds.length-h->E3 T qs->qs.headD 0=x->DN T h qs<=f
def En (T:TM) (h:Nat) (x:Int):Prop:=if h=T.ds.length then x=0 else x∈0::T.co
structure Jg (T:TM) (f:Int) (ps:List Int):Prop where
 val:f=Ci T ps
 len:ps.length=T.ds.length
 as:E3 T ps
 top:∀qs:List Int,qs.length=T.ds.length->E3 T qs->Ci T qs<=f
abbrev Cj (f:Int) (ps:List Int):PyData:= .tuple [.int f,AJ ps]
structure TailsAt (p:Addr) (H:Hp) (T:TM) (h:Nat) (kvs:KL):Prop where
 one:∀q∈kvs,∃x f ps,q.1= .inl x/\Aa p H (Cj f ps) q.2/\OneTail T h x f ps
 all:∀x,En T h x->∃q∈kvs,q.1= .inl x
theorem TailsAt.same {H':Hp}{h:Nat} (t:TailsAt p H T h kvs) (s:Ab H H'):TailsAt p H' T h kvs:=
 ⟨λq hq=>by
  obtain⟨x,f,ps,e,r,o⟩:=t.one q hq;exact⟨x,f,ps,e,Aa.ev (Ev.same s) _ _ r,o⟩,t.all⟩
theorem Q8 {q:AR×V} (h:q∈B2 ks k v):q∈ks\/q=(k,v):=by
 unfold B2 at h;split at h
 ·obtain⟨q0,h0,e⟩:=mem_map.mp h;split at e
  ·rename_i z;exact .inr (by rw [<-e,z])
  ·exact .inl (by rw [<-e];exact h0)
 ·rcases mem_append.mp h with h | h
  ·exact .inl h
  ·exact .inr (mem_singleton.mp h)
theorem Q9:∃q∈B2 ks k v,q.1=k:=by
 unfold B2;split
 ·rename_i z;obtain⟨q,hq,e⟩:=any_eq_true.mp z;have e':q.1=k:=of_decide_eq_true e;exact⟨_,mem_map.mpr ⟨q,hq,rfl⟩,by rw [if_pos e'];exact e'⟩
 ·exact⟨(k,v),mem_append_right _ (mem_singleton.mpr rfl),rfl⟩
theorem Ra {q:AR×V} (h:q∈ks):∃q'∈B2 ks k v,q'.1=q.1:=by
 unfold B2;split
 ·refine⟨_,mem_map.mpr ⟨q,h,rfl⟩,?_⟩;split<;>rfl
 ·exact⟨q,mem_append_left _ h,rfl⟩
theorem LE {T:TM}{h:Nat}{ps:List Int} (hl:ps.length=T.ds.length-h) (ha:E3 T ps) (hh:h<=T.ds.length):En T h (ps.headD 0):=by
 unfold En;split
 ·cases ps with
  | nil=>rfl
  | cons a r=>rw [length_cons] at hl;omega
 ·cases ps with
  | nil=>rw [length_nil] at hl;omega
  | cons a r=>exact ha a mem_cons_self
theorem Rb (r:Aa p H (Cj 0 []) v):TailsAt p H T T.ds.length [(.inl 0,v)]:=by
 refine⟨λq hq=>?_,λx hx=>?_⟩
 ·rw [mem_singleton.mp hq];refine⟨0,0,[],rfl,r,by simp,rfl,rfl,λ_ h=>(nomatch h),λqs hl _ _=>?_⟩;cases qs with
  | nil=>exact Int.le_refl _
  | cons a r=>simp at hl
 ·unfold En at hx;rw [if_pos rfl] at hx;subst hx;exact⟨_,mem_singleton.mpr rfl,rfl⟩
theorem OneTail.step {n:Nat} (t:TailsAt p H T (n+1) kvs) (hn:n<T.ds.length) {x b f:Int}{ps:List Int} (hx:x∈0::T.co) (o:OneTail T (n+1) b f ps)
  (top:∀b' f' ps',OneTail T (n+1) b' f' ps'->(∃q∈kvs,q.1= .inl b'/\Aa p H (Cj f' ps') q.2)->Bq T n x b'+f'<=Bq T n x b+f):OneTail T n x (Bq T n x b+f) (x::ps):=by
 refine⟨by rw [length_cons,o.len];omega,?_,rfl,λy hy=>?_,λqs hl ha hh=>?_⟩
 ·show _=Bq T n x (ps.headD 0)+DN T (n+1) ps;rw [o.hd,o.val]
 ·rcases mem_cons.mp hy with rfl | hy
  ·exact hx
  ·exact o.as y hy
 ·cases qs with
  | nil=>rw [length_nil] at hl;omega
  | cons a r=>
   have ea:a=x:=hh;subst ea;have lr:r.length=T.ds.length-(n+1):=by rw [length_cons] at hl;omega
   have ar:E3 T r:=λy hy=>ha y (mem_cons_of_mem _ hy)
   obtain⟨q,hq,eq⟩:=t.all _ (LE lr ar (by omega));obtain⟨b',f',ps',e1,r1,o1⟩:=t.one q hq;rw [eq] at e1;have e1':r.headD 0=b':=by injection e1
   subst e1';have h1:=o1.top r lr ar rfl;have h2:=top _ f' ps' o1 ⟨q,hq,eq,r1⟩;show Bq T n a (r.headD 0)+DN T (n+1) r<=_;omega
theorem LF {g:Nat->Int}:∀n,((List.range (n+1)).map g).sum=g 0+((List.range n).map λi=>g (i+1)).sum:=λn=>by
 rw [List.range_succ_eq_map,map_cons,sum_cons,map_map];rfl
theorem LG (r:List Int):r.headD 0=r.getD 0 0:=by cases r<;>rfl
theorem LH:∀(ps:List Int) (h:Nat),DN T h ps=((List.range ps.length).map λi=>Bq T (h+i) (ps.getD i 0) (ps.getD (i+1) 0)).sum
 | [],h=>rfl
 | p::r,h=>by
  show Bq T h p (r.headD 0)+DN T (h+1) r=_;rw [LH r (h+1),length_cons,LF,LG];have e:(λi=>Bq T (h+(i+1)) ((p::r).getD (i+1) 0) ((p::r).getD (i+1+1) 0))=(λi=>Bq T (h+1+i) (r.getD i 0) (r.getD (i+1) 0)):=by
   funext i
   rw [show h+(i+1)=h+1+i by omega];rfl
  rw [e];rfl
theorem LJ (ps:List Int):DN T 0 ps-ps.headD 0 * T.st=Ci T ps:=by
 rw [LH,LG];unfold Ci DM
 congr 3
 funext i
 rw [Nat.zero_add]
theorem Rc (t:TailsAt p H T 0 kvs) {x f:Int}{ps:List Int} (o:OneTail T 0 x f ps) (top:∀x' f' ps',OneTail T 0 x' f' ps'->(∃q∈kvs,q.1= .inl x'/\Aa p H (Cj f' ps') q.2)->f'-x' * T.st<=f-x * T.st):Jg T (f-x * T.st) ps:=by
 refine⟨?_,by have:=o.len;omega,o.as,λqs hl ha=>?_⟩
 ·rw [<-LJ,<-o.val,o.hd]
 ·obtain⟨q,hq,eq⟩:=t.all _ (LE (h:=0) (by omega) ha (by omega));obtain⟨x',f',ps',e1,r1,o1⟩:=t.one q hq;rw [eq] at e1;have e1':qs.headD 0=x':=by injection e1
  subst e1';have h1:=o1.top qs (by omega) ha rfl;have h2:=top _ f' ps' o1 ⟨q,hq,eq,r1⟩;rw [<-LJ];omega
end MF
namespace MF
open L2
def GX (p:Addr) (H:Hp) (T:TM) (n:Nat) (g:Int->Int->Int) (hd:List Int->List Int) (q0:AR×V) (fq:Int×List PyData):Prop:=∃b f ps,q0.1= .inl b/\Aa p H (Cj f ps) q0.2/\OneTail T n b f ps/\fq=(g b f,[AJ (hd ps)])
end MF
end
section
namespace MF
open L2
theorem Re {n f l:Nat} (h:f<=l) (hl:l<n):(f,l)∈B9 n n:=by
 unfold B9;refine List.mem_flatten.mpr ⟨CK f (n-f),mem_map.mpr ⟨f,mem_range.mpr (by omega),rfl⟩,?_⟩;unfold CK;exact mem_map.mpr ⟨l-f,mem_range.mpr (by omega),by show(f,f+(l-f))=(f,l);rw [show f+(l-f)=l by omega]⟩
theorem no_str {T:TM}:CL T=none↔ ∀f l,f<=l->l<T.ds.length->CV T f l=false:=by
 unfold CL;rw [List.head?_eq_none_iff];unfold EQ;rw [List.filter_eq_nil_iff];constructor
 ·intro h f l hf hl;have:=h (f,l) (Re hf hl)
  simpa using this
 ·intro h q hq;obtain⟨h1,h2⟩:=Le (Nat.le_refl _) q hq;rw [h q.1 q.2 h1 h2];exact Bool.false_ne_true
theorem LK:∀ {xs ys:List Int},xs.length=ys.length->(∀i,xs.getD i 0<=ys.getD i 0)->xs.sum<=ys.sum
 | [],[],_,_=>Int.le_refl _
 | [],_::_,h,_=>by simp at h
 | _::_,[],h,_=>by simp at h
 | x::xs,y::ys,h,g=>by
  have h0:x<=y:=g 0;have:=LK (xs:=xs) (ys:=ys) (by simpa using h) λi=>g (i+1)
  rw [sum_cons,sum_cons];omega
theorem Jh {α:Type}{xs:List α}{k i:Nat}{x d:α} (hk:k<xs.length):(xs.set k x).getD i d=if i=k then x else xs.getD i d:=by
 rw [getD_eq_getElem?_getD,getElem?_set,getD_eq_getElem?_getD]
 by_cases z:k=i
 ·rw [if_pos z,if_pos (by omega),if_pos z.symm];rfl
 ·rw [if_neg z,if_neg (λe=>z e.symm)]
end MF
end
section
namespace MF
open L2
variable {hour : Nat} {T : TM}
def Dn (x:Int):List Int->Int
 | []=>x
 | y::ys=>if Dn y ys<x then Dn y ys else x
theorem Ji (x:Int):∀ys,Dn x ys∈x::ys
 | []=>mem_cons_self
 | y::ys=>by
  unfold Dn;split
  ·exact mem_cons_of_mem _ (Ji y ys)
  ·exact mem_cons_self
theorem LL (x:Int):∀ys,∀a∈x::ys,Dn x ys<=a
 | [],a,h=>by rw [mem_singleton.mp h];exact Int.le_refl _
 | y::ys,a,h=>by
  have l:=LL y ys;unfold Dn;rcases mem_cons.mp h with rfl | h
  ·split<;>omega
  ·have:=l a h;split<;>omega
def DO (ms:List Int) (hi:Int) (at' hour:Nat):Int:=
 match((ms.take hour).drop at').map (hi- ·) with
 | []=>hi-ms.getD hour 0
 | x::xs=>Dn x xs
theorem Rf {ms:List Int}{hi:Int}{a:Nat}{M:Int} (hm:M∈((ms.take hour).drop a).map (hi- ·)) (hl:∀x∈((ms.take hour).drop a).map (hi- ·),M<=x):M=DO ms hi a hour:=by
 unfold DO;cases e:((ms.take hour).drop a).map (hi- ·) with
 | nil=>rw [e] at hm;cases hm
 | cons x xs=>
  rw [e] at hm hl;exact Int.le_antisymm (hl _ (Ji x xs)) (LL x xs _ hm)
theorem Rg {ms:List Int}{hi:Int}{a:Nat} (h:((ms.take hour).drop a).map (hi- ·)=[]):DO ms hi a hour=hi-ms.getD hour 0:=by unfold DO;rw [h]
theorem Rh {ms:List Int}{hi:Int}{a:Nat} (hh:hour<ms.length) (h1:∀k,a<=k->k<hour->ms.getD k 0<hi) (h2:ms.getD hour 0<hi):0<DO ms hi a hour:=by
 unfold DO;cases e:((ms.take hour).drop a).map (hi- ·) with
 | nil=>show 0<hi-ms.getD hour 0;omega
 | cons x xs=>
  show 0<Dn x xs;have m:=Ji x xs;rw [<-e] at m;obtain⟨y,hy,e2⟩:=mem_map.mp m;obtain⟨j,hj⟩:=getElem?_of_mem hy;rw [getElem?_drop,getElem?_take] at hj;split at hj
  ·rename_i lt;have:=h1 (a+j) (by omega) lt;have g:ms.getD (a+j) 0=y:=by rw [getD_eq_getElem?_getD,hj];rfl
   rw [g] at this;have e3:hi-y=Dn x xs:=e2;omega
  ·cases hj
structure Gr (T:TM) (f:List (List Int)) (ms:List Int):Prop where
 lf:f.length=T.ds.length
 row:∀i,i<f.length->(f.getD i []).length=T.co.length
 bd:∀i b,i<f.length->b<T.co.length->0<=(f.getD i []).getD b 0/\(f.getD i []).getD b 0<=(T.cs.getD i []).getD b 0
 lm:ms.length=T.ds.length
 ms:∀k,k<ms.length->ms.getD k 0=(if k=0 then T.st else ms.getD (k-1) 0)+(f.getD k []).sum-T.ds.getD k 0
def E4 (T:TM) (f:List (List Int)) (ms:List Int) (hour a b:Nat):Prop:=(f.getD a []).getD b 0<(T.cs.getD a []).getD b 0/\0<DO ms T.hi a hour
theorem Ri (fl:Dj T) {f:List (List Int)}{ms:List Int} (g:Gr T f ms) {a:Nat} (ha:a<f.length) (h:∀b,b<T.co.length->¬(f.getD a []).getD b 0<(T.cs.getD a []).getD b 0):(T.cs.getD a []).sum<=(f.getD a []).sum:=by
 have lc:(T.cs.getD a []).length=T.co.length:=(fl.c _ (getD_mem (by rw [fl.ok.lc,<-g.lf];exact ha))).1;refine LK (by rw [lc,g.row a ha]) λi=>?_
 by_cases hi:i<T.co.length
 ·exact Int.not_lt.mp (h i hi)
 ·rw [getD_eq_getElem?_getD,getElem?_eq_none (by omega),getD_eq_getElem?_getD,getElem?_eq_none (by rw [g.row a ha];omega)];exact Int.le_refl _
theorem Rj (fl:Dj T) (lh:T.lo<=T.hi) (no:CL T=none) {f:List (List Int)}{ms:List Int} (g:Gr T f ms) {hour:Nat} (hh:hour<ms.length) (low:ms.getD hour 0<T.lo):∃a b,a<=hour/\b<T.co.length/\E4 T f ms hour a b:=by
 apply Classical.byContradiction;intro none;have all:∀a,a<=hour->(∀k,a<=k->k<hour->ms.getD k 0<T.hi)->(T.cs.getD a []).sum<=(f.getD a []).sum:=λa ha hk=>Ri fl g (by rw [g.lf,<-g.lm];omega) λb hb lt=>none ⟨a,b,ha,hb,lt,Rh hh hk (by omega)⟩
 have from':∀n,n<=hour->(∀k,n<=k->k<hour->ms.getD k 0<T.hi)->∃j,j<=hour/\(∀k,j<=k->k<hour->ms.getD k 0<T.hi)/\(if j=0 then T.st else T.hi)<=(if j=0 then T.st else ms.getD (j-1) 0):=λn=>by
  induction n with
  | zero=>intro _ hk;exact⟨0,Nat.zero_le _,hk,by rw [if_pos rfl,if_pos rfl];exact Int.le_refl _⟩
  | succ n ih=>
   intro hn hk
   by_cases c:ms.getD n 0<T.hi
   ·refine ih (by omega) λk h1 h2=>?_
    by_cases e:k=n
    ·rw [e];exact c
    ·exact hk k (by omega) h2
   ·exact⟨n+1,hn,hk,by rw [if_neg (by omega),if_neg (by omega),Nat.add_sub_cancel];omega⟩
 obtain⟨j,hj,hk,hp⟩:=from' hour (Nat.le_refl _) (λk h1 h2=>by omega);have up:∀i,j+i<=hour->Ej T j (i+1)<=ms.getD (j+i) 0:=λi=>by
  induction i with
  | zero=>
   intro hi;have e:=g.ms j (by omega);have fu:=all j hj hk;show Ej T j 0+(T.cs.getD (j+0) []).sum-T.ds.getD (j+0) 0<=ms.getD (j+0) 0;rw [Nat.add_zero,e];have t0:Ej T j 0=(if j=0 then T.st else T.hi):=rfl;omega
  | succ i ih=>
   intro hi;have e:=g.ms (j+(i+1)) (by omega);rw [if_neg (by omega),show j+(i+1)-1=j+i by omega] at e;have fu:=all (j+(i+1)) hi λk h1 h2=>hk k (by omega) h2
   have:=ih (by omega);show Ej T j (i+1)+(T.cs.getD (j+(i+1)) []).sum-T.ds.getD (j+(i+1)) 0<=_;rw [e];omega
 have top:=up (hour-j) (by omega);rw [show j+(hour-j)=hour by omega] at top;have l1:hour<T.ds.length:=by rw [<-g.lm];exact hh
 have tm:=(no_str.mp no) j hour hj l1;have te:=Li fl.ok (f:=j) (hour+1-j) (by omega);rw [show hour-j+1=hour+1-j by omega] at top;unfold CV at tm;have:=of_decide_eq_false tm;unfold most K9 at this;unfold part at this;rw [te] at top;omega
def Cc (ms:List Int) (a e:Nat) (m:Int):List Int:=(List.range ms.length).map λk=>if a<=k/\k<e then ms.getD k 0+m else ms.getD k 0
theorem Eo {ms:List Int}{a e:Nat}{m:Int}:(Cc ms a e m).length=ms.length:=by unfold Cc;rw [length_map,length_range]
theorem FH {ms:List Int}{a e:Nat}{m:Int}{k:Nat} (h:k<ms.length):(Cc ms a e m).getD k 0=if a<=k/\k<e then ms.getD k 0+m else ms.getD k 0:=by
 unfold Cc;rw [getD_eq_getElem?_getD,getElem?_map,getElem?_range h]
 rfl
theorem Rk {ms:List Int}{a:Nat}{m:Int}:Cc ms a a m=ms:=by
 refine ext_getElem? λk=>?_
 by_cases h:k<ms.length
 ·unfold Cc;rw [getElem?_map,getElem?_range h,getElem?_eq_getElem h];show some (if a<=k/\k<a then _ else ms.getD k 0)=_;rw [if_neg (by omega),getD_eq_getElem?_getD,getElem?_eq_getElem h];rfl
 ·rw [getElem?_eq_none (by rw [Eo];omega),getElem?_eq_none (by omega)]
theorem Rl {ms:List Int}{a e:Nat}{m:Int} (h1:a<=e) (h2:e<ms.length):(Cc ms a e m).set e ((Cc ms a e m).getD e 0+m)=Cc ms a (e+1) m:=by
 refine ext_getElem? λk=>?_
 by_cases h:k<ms.length
 ·have g1:=FH (a:=a) (e:=e) (m:=m) h2;rw [if_neg (by omega)] at g1;rw [getElem?_set,Eo,g1];unfold Cc;rw [getElem?_map,getElem?_map,getElem?_range h]
  by_cases c:e=k
  ·subst c;rw [if_pos rfl,if_pos h2];show some _=some (if _ then _ else _);rw [if_pos ⟨h1,by omega⟩]
  ·rw [if_neg c];show some (if _ then _ else _)=some (if _ then _ else _)
   by_cases c1:a<=k/\k<e
   ·rw [if_pos c1,if_pos ⟨c1.1,by omega⟩]
   ·rw [if_neg c1,if_neg (λz=>c1 ⟨z.1,by omega⟩)]
 ·rw [getElem?_eq_none (by rw [length_set,Eo];omega),getElem?_eq_none (by rw [Eo];omega)]
theorem Rm {r:List Int}:∀ {k:Nat}{x:Int},k<r.length->(r.set k x).sum=r.sum+x-r.getD k 0:=by
 induction r with
 | nil=>intro k x h;exact absurd h (Nat.not_lt_zero _)
 | cons y r ih=>
  intro k x h;cases k with
  | zero=>show x+r.sum=y+r.sum+x-y;omega
  | succ k=>
   have:=ih (k:=k) (x:=x) (Nat.lt_of_succ_lt_succ h);show y+(r.set k x).sum=y+r.sum+x-r.getD k 0;omega
def E5 (f:List (List Int)) (a b:Nat) (m:Int):List (List Int):=f.set a ((f.getD a []).set b ((f.getD a []).getD b 0+m))
theorem Gr.more {f:List (List Int)}{ms:List Int} (g:Gr T f ms) {a b:Nat}{m:Int} (ha:a<f.length) (hb:b<T.co.length) (m0:0<=m) (m1:m<=(T.cs.getD a []).getD b 0-(f.getD a []).getD b 0):Gr T (E5 f a b m) (Cc ms a ms.length m):=by
 have lr:=g.row a ha;have at1:∀i,(E5 f a b m).getD i []=if i=a then(f.getD a []).set b ((f.getD a []).getD b 0+m) else f.getD i []:=λi=>Jh ha
 have lfm:(E5 f a b m).length=f.length:=length_set;refine⟨by rw [lfm];exact g.lf,λi hi=>?_,λi c hi hc=>?_,by rw [Eo];exact g.lm,λk hk=>?_⟩
 ·rw [at1];split
  ·rw [length_set];exact lr
  ·exact g.row i (by rw [<-lfm];exact hi)
 ·rw [at1];split
  ·rename_i e;subst e;rw [Jh (by rw [lr];exact hb)];have o:=g.bd i c ha hc;have ob:=g.bd i b ha hb;split
   ·rename_i e;subst e;omega
   ·exact o
  ·exact g.bd i c (by rw [<-lfm];exact hi) hc
 ·rw [Eo] at hk;have e:=g.ms k hk;rw [FH hk,at1];have sm:((f.getD a []).set b ((f.getD a []).getD b 0+m)).sum=(f.getD a []).sum+m:=by rw [Rm (by rw [lr];exact hb)];omega
  by_cases k0:k=0
  ·subst k0;rw [if_pos rfl] at e ⊢
   by_cases a0:0=a
   ·rw [if_pos a0,sm,if_pos ⟨by omega,hk⟩,e,<-a0];omega
   ·rw [if_neg a0,if_neg (by omega),e]
  ·rw [if_neg k0] at e ⊢;rw [FH (by omega:k-1<ms.length)]
   by_cases ka:k=a
   ·rw [if_pos ka,sm,if_pos ⟨by omega,hk⟩,if_neg (by omega),e,<-ka];omega
   ·rw [if_neg ka]
    by_cases lt:a<=k
    ·rw [if_pos ⟨lt,hk⟩,if_pos ⟨by omega,by omega⟩,e];omega
    ·rw [if_neg (by omega),if_neg (by omega),e]
end MF
end
section
namespace L2
def Rn (P:Nat->Value->Prop) (val:Nat->Int) (j:Nat) (its:Array Value):Prop:=
 (j=0/\its= #[])\/ ∃i v,i<j/\P i v/\its= #[v,v]/\∀k,k<j->val i<=val k
def LM (P:Nat->Value->Prop) (val:Nat->Int) (n:Nat) (d r:Value):Prop:=(n=0/\r=d)\/ ∃i,i<n/\P i r/\∀k,k<n->val i<=val k
section
variable {prog : Program} {w : World} {A : Around} {R : Result -> Shared -> Prop} {I : Addr} {fp wr : List Addr} {n : Nat} {P : Nat -> Value -> Prop} {St : Nat -> Heap -> Prop}
theorem Ro (W:Walks prog w A.in1 I fp wr n P St) (val:Nat->Int) (hv:∀i v,P i v->∃t,v= .int (val i) t) (d:Value) (B:Addr) (nB:B ∉ fp):
  ∀(left j:Nat) (s:Shared) (its:Array Value) (c:Nat),j+left=n->St j s.heap->s.heap.get? B=some { cls:= .type "list",dict:=none,data:= .seq its c,slots:= #[]}->Rn P val j its->
  (∀r h' tk,LM P val n d r->(∀b o,b ∉ wr->b≠B->s.heap.get? b=some o->h'.get? b=some o)->R (.ok (.ret r)) { s with heap:=h',toks:=tk})->
  codeAny (model prog w) A (.builtin "min.loop" ⟨[.ref I,.none,.ref B],[("default",d)]⟩) R s:=by
 have nw:B ∉ wr:=λz=>nB (W.sub _ z)
 have nm:(toString "min" ++toString ".loop" :String)="min.loop" :=by decide
 intro left
 induction left with
 | zero=>
  intro j s its c e st DX pb k0;have ej:j=n:=by omega
  subst ej;refine codeAny_builtin F.entry_min_loop ?_;rw [Around.under_plainId F.plain_min_loop _];show wpAny _ A.in1 (seqItems? (.ref B) >>=_) _ _ s;refine wpAny_bind (wpAny_seqItems DX rfl ?_);show wpAny _ A.in1 (tryCatch (pyNext (.ref I)) _>>=_) _ _ s;refine wpAny_bind (wpAny_tryCatch (W.done s _ _ st λh1 tk1 keep1=>?_));have at1:=keep1 B _ nw DX;rcases pb with⟨e0,rfl⟩ | ⟨i,v,hi,pv,rfl,le⟩
  ·show wpAny _ A.in1 (rule _>>=_) _ _ _;refine wpAny_bind (wpAny_rule (wpAny_pure (k0 d _ tk1 (.inl ⟨e0,rfl⟩) λb o b1 b2 e1=>keep1 b o b1 e1)))
  ·show wpAny _ A.in1 (updateSeq B (λ_=> #[]) >>=_) _ _ _;refine wpAny_bind (wpAny_updateSeq at1 rfl (wpAny_bind (wpAny_letGo (wpAny_pure ?_))));exact k0 v _ tk1 (.inr ⟨i,hi,pv,le⟩) λb o b1 b2 e1=>(Heap.get?_update_other _ _ (Ne.symm b2)).trans (keep1 b o b1 e1)
 | succ left ih=>
  intro j s its c e st DX pb k0;refine codeAny_builtin F.entry_min_loop ?_;rw [Around.under_plainId F.plain_min_loop _];show wpAny _ A.in1 (seqItems? (.ref B) >>=_) _ _ s;refine wpAny_bind (wpAny_seqItems DX rfl ?_);show wpAny _ A.in1 (tryCatch (pyNext (.ref I)) _>>=_) _ _ s;refine wpAny_bind (wpAny_tryCatch (W.item j s _ _ (by omega) st λv h1 tk1 pv st1 keep1=>?_));have at1:=keep1 B _ nw DX;have up:∀ {hp:Heap}{f:Obj->Obj},∀b∈fp,∀o,hp.get? b=some o->(hp.update B f).get? b=some o:=λb bf o e1=>(Heap.get?_update_other _ _ (λz:B=b=>nB (z ▸ bf))).trans e1
  rcases pb with⟨e0,rfl⟩ | ⟨i,u,hi,pu,rfl,le⟩
  ·show wpAny _ A.in1 (updateSeq B (λ_=> #[v,v]) >>=_) _ _ _;refine wpAny_bind (wpAny_updateSeq at1 rfl ?_);rw [nm];refine wpAny_pure ⟨plainId_quiet F.plain_min_loop _,ih (j+1) _ #[v,v] _ (by omega) (W.frame _ _ _ st1 up) (Heap.get?_update_self _ at1 rfl) (.inr ⟨j,v,by omega,pv,rfl,λk hk=>?_⟩) λr h' tk t keep2=>?_⟩
   ·have:k=j:=by omega
    rw [this];exact Int.le_refl _
   ·exact k0 r h' tk t λb o b1 b2 e1=>keep2 b o b1 b2 ((Heap.get?_update_other _ _ (Ne.symm b2)).trans (keep1 b o b1 e1))
  ·show wpAny _ A.in1 (tryCatch (holding [v,v] (richCompare .Lt v u>>=_)) _>>=_) _ _ _;refine wpAny_bind (wpAny_tryCatch (wpAny_holding (wpAny_bind (CmpOf.ints_lt val hv j i v u _ _ _ pv pu ?_))));refine wpAny_bind (wpAny_holding (wpAny_truthy_bool ?_));refine wpAny_bind (wpAny_letGo (wpAny_pure ?_))
   by_cases lt:val j<val i
   ·rw [if_pos (show(λi j=>decide (val i<val j)) j i=true from decide_eq_true lt)];refine wpAny_bind (wpAny_updateSeq at1 rfl (wpAny_bind (wpAny_letGo ?_)));rw [nm];refine wpAny_pure ⟨plainId_quiet F.plain_min_loop _,ih (j+1) _ #[v,v] _ (by omega) (W.frame _ _ _ st1 up) (Heap.get?_update_self _ at1 rfl) (.inr ⟨j,v,by omega,pv,rfl,λk hk=>?_⟩) λr h' tk t keep2=>?_⟩
    ·by_cases ek:k=j
     ·rw [ek];exact Int.le_refl _
     ·have:=le k (by omega);omega
    ·exact k0 r h' tk t λb o b1 b2 e1=>keep2 b o b1 b2 ((Heap.get?_update_other _ _ (Ne.symm b2)).trans (keep1 b o b1 e1))
   ·rw [if_neg (show ¬(λi j=>decide (val i<val j)) j i=true from λz=>lt (of_decide_eq_true z))];refine wpAny_bind (wpAny_letGo ?_);rw [nm];refine wpAny_pure ⟨plainId_quiet F.plain_min_loop _,ih (j+1) _ #[u,u] c (by omega) st1 at1 (.inr ⟨i,u,by omega,pu,rfl,λk hk=>?_⟩) λr h' tk t keep2=>?_⟩
    ·by_cases ek:k=j
     ·rw [ek];omega
     ·exact le k (by omega)
    ·exact k0 r h' tk t λb o b1 b2 e1=>keep2 b o b1 b2 (keep1 b o b1 e1)
end
theorem Rp (a d:Value):argsOk "min" ⟨[a],[("default",d)]⟩:=by unfold argsOk;kernel_rfl
section
variable {prog : Program} {w : World} {A : Around} {E : Value -> Shared -> Prop} {s : Shared}
theorem Rq {l:Addr}{its:Array Value}{ns:List Int}{d:Value}{Q:VSP} (hh:A.handled=none) (hl:s.heap.IsList l its) (hi:IntsAre its.toList ns)
  (h:∀r h' tk,LM (λi v=>its[i]? =some v) (λi=>ns.getD i 0) its.size d r->(∀b o,s.heap.get? b=some o->h'.get? b=some o)->Q r { s with heap:=h',toks:=tk}):
  wpAny (model prog w) A (call (.builtin "min") [.ref l] [("default",d)]) Q E s:=by
 have lt:l<s.heap.objs.size:=by obtain⟨_,e,_⟩:=hl;exact Heap.lt_size e
 have nm:(toString "min" ++toString ".loop" :String)="min.loop" :=by decide
 refine wpAny_call (codeAny_call_builtin F.plain_min F.entry_min ?_);simp only [checkBuiltinCall,F.kind_min];have fin:wpAny (model prog w) A.in1 (Builtin.«min» ⟨[.ref l],[("default",d)]⟩) (λfin s'=>match fin with
   | .done f=>(match(Except.ok f:Result) with | .ok (.ret v)=>Q v s' | .ok _=>False | .error e=>E e s')
   | .again c'=>c'.quiet=true/\codeAny (model prog w) A c' (λr s'=>match r with | .ok (.ret v)=>Q v s' | .ok _=>False | .error e=>E e s') s') E s:=by
  show wpAny _ A.in1 (Builtin.Builtins.bindParams "min" ["key","default"] 0 ⟨[],[("default",d)]⟩ >>=_) _ _ s;refine wpAny_bind (wpAny_of_eq (show Builtin.Builtins.bindParams "min" ["key","default"] 0 ⟨[],[("default",d)]⟩=pure [none,some d] from rfl) ?_);refine wpAny_bind (wpAny_pure (wpAny_bind (wpAny_pyIter_list hl ?_)));refine wpAny_bind (wpAny_newObj_type ?_);rw [nm];have z1:(s.heap.push { cls:= .type "list_iterator",data:= .fields #[.ref l,.int 0 0]}).objs.size=s.heap.objs.size+1:=Heap.size_push ..;refine wpAny_pure ⟨plainId_quiet F.plain_min_loop _,Ro (Walks.list (A:=A.in1) hh s.heap.objs.size l (Nat.ne_of_lt lt) its) (λi=>ns.getD i 0) (λi v e=>IntsAre.int_at hi i v (by rw [Array.getElem?_toList];exact e)) d _ (λz=>?_) its.size 0 _ #[] _ (by omega) ?_ (Heap.get?_push_size _ rfl) (.inl ⟨rfl,rfl⟩) λr h' tk t keep=>?_⟩
  ·rw [z1] at z;simp only [mem_cons,not_mem_nil,or_false] at z;rcases z with z | z
   ·exact absurd (show(s.heap.objs.size+1:Nat)=s.heap.objs.size from z) (Nat.succ_ne_self _)
   ·exact absurd (show(s.heap.objs.size+1:Nat)=l from z) (Nat.ne_of_gt (Nat.lt_succ_of_lt lt))
  ·exact⟨⟨_,Heap.get?_push_of_some _ (Heap.get?_push_size _ rfl),rfl,rfl⟩,(hl.push _).push _⟩
  ·refine h r h' tk t λb o e=>keep b o (λz=>?_) ?_ (Heap.get?_push_of_some _ (Heap.get?_push_of_some _ e))
   ·have:=Heap.lt_size e;rw [mem_singleton.mp z] at this;exact Nat.lt_irrefl _ this
   ·rw [z1];exact Nat.ne_of_lt (Nat.lt_succ_of_lt (Heap.lt_size e))
 cases sg:Manifest.signature? "min" with
 | none=>exact wpAny_pure fin
 | some sig=>
  have a:=Rp (.ref l) d;simp only [argsOk,sg] at a;show wpAny _ A.in1 (Bind.checkArgs "min" sig ⟨[.ref l],[("default",d)]⟩) _ _ s;rw [show Bind.checkArgs "min" sig ⟨[.ref l],[("default",d)]⟩=pure () from a];exact wpAny_pure fin
end
def Rr (t tk:TA):TE:=fun σ H Q=>t σ H λvs H1=>tk σ H1 λzs H2=>∃(p:Addr) (ns:List Int) (d:Int),vs=[.ref p]/\H2 p=some (.lst (ns.map V.int))/\zs=[.int d]/\(ns=[]->Q (.int d) H2)/\∀M,M∈ns->(∀a∈ns,M<=a)->Q (.int M) H2
theorem Rs {X:Cx}{e:Expr}{kws:List Keyword}{t tk:TA}{p pos:Pos} (hc:X.calm=true) (hg:Gl X "min") (hm:X.mg "min"=none) (ha:PA X [e] t) (hkw:PK X kws tk)
  (he:backTo pos (starEach [e] X.env)=(false,eval e X.env)::backTo pos (starEach [] X.env):=by rfl) (hpl:(backTo pos (starEach [e] X.env)).any (·.1)=false:=by rfl)
  (hall:(backToKw pos (keywordEach kws X.env)).all (·.1.isSome)=true:=by rfl) (hk1:(backToKw pos (keywordEach kws X.env)).any (·.1.isNone)=false:=by rfl) (hks:(backToKw pos (keywordEach kws X.env)).filterMap (·.1)=[("default" :Str)]:=by rfl):
  PE X (.Call (.Name "min" p) [e] kws pos) (Rr t tk):=by
 intro pins s σ H Q I h;refine wpAny_Call_Name_kw (Cq I hg hm (u:= .builtin "min") rfl ?_ (by decide) (by decide));refine PyProof.Rows.callWith_kw (Ao (ha pos pins s σ H _ I h) λus s1 ⟨vs,H1,I1,r,q⟩=>Ao (hkw pos pins s1 σ H1 _ I1 q) λws s2 ⟨zs,H2,I2,rz,q2⟩=>?_) he hpl hall hk1;obtain⟨l,ns,d,rfl,hp,rfl,q0,q1⟩:=q2;obtain⟨u,rfl,ru⟩:=r.one;cases ru;obtain⟨v,rfl,tv,rfl⟩:=EC rz;rw [hks];obtain⟨its,rv,pl,hz⟩:=I2.list (Al.of hp);have hi:IntsAre its ns:=J0 rv;refine Rq (I2.ok.hd hc) pl.isList (by simpa using hi) λx h' tk' told keep=>?_
 have ln:=IntsAre.length hi;rcases told with⟨e0,rfl⟩ | ⟨i,hi0,e1,le⟩
 ·refine⟨.int d,H2,I2.kept keep,⟨tv,rfl⟩,q0 ?_⟩;rw [size_toArray] at e0;exact List.eq_nil_of_length_eq_zero (by omega)
 ·rw [size_toArray] at hi0 le;obtain⟨tx,rfl⟩:=IntsAre.int_at hi i x (by rw [<-List.getElem?_toArray];exact e1);refine⟨.int (ns.getD i 0),H2,I2.kept keep,⟨tx,rfl⟩,q1 _ (getD_mem (by omega)) λa ma=>?_⟩;obtain⟨j,hj,rfl⟩:=mem_getD ma;exact le j (by omega)
theorem Rt {X:Cx} (hc:X.calm=true):Bk X (.builtin "min") (λxs H Q=>∃i j k,xs=[.int i,.int j,.int k]/\∀m,(m=i\/m=j\/m=k)->m<=i->m<=j->m<=k->Q (.int m) H):=by
 intro pins s σ H xs us Q I r h;obtain⟨i,j,k,rfl,q⟩:=h;cases r with
 | cons r1 r=>
 obtain⟨u2,u3,rfl,⟨t2,rfl⟩,⟨t3,rfl⟩⟩:=Gb r;obtain⟨t1,rfl⟩:=r1;refine min_three_ints (I.ok.hd hc) λh' tk keep=>?_
 by_cases c1:j<i
 ·rw [if_pos c1]
  by_cases c2:k<j
  ·rw [if_pos c2];exact⟨.int k,H,I.kept keep,⟨t3,rfl⟩,q k (.inr (.inr rfl)) (by omega) (by omega) (by omega)⟩
  ·rw [if_neg c2];exact⟨.int j,H,I.kept keep,⟨t2,rfl⟩,q j (.inr (.inl rfl)) (by omega) (by omega) (by omega)⟩
 ·rw [if_neg c1]
  by_cases c2:k<i
  ·rw [if_pos c2];exact⟨.int k,H,I.kept keep,⟨t3,rfl⟩,q k (.inr (.inr rfl)) (by omega) (by omega) (by omega)⟩
  ·rw [if_neg c2];exact⟨.int i,H,I.kept keep,⟨t1,rfl⟩,q i (.inl rfl) (by omega) (by omega) (by omega)⟩
def Ru:V->V->Hp->VK->Prop:=λo i H Q=>∃(p:Addr) (xs:List V) (k:Nat) (z:V),o= .ref p/\i= .int (k:Int)/\H p=some (.lst xs)/\xs[k]? =some z/\Q z H
theorem LN {X:Cx}:Jz X Ru:=by
 intro pins s σ H o i ov iv Q I ro ri h;obtain⟨p,xs,k,z,rfl,rfl,hq,he,q⟩:=h;cases ro;obtain⟨t,rfl⟩:=ri;obtain⟨its,r,pl,hz⟩:=I.list (Al.of hq);obtain⟨u,eu,ru⟩:=r.get he;have hn:=Fl;have lt:k<xs.length:=(List.getElem?_eq_some_iff.mp he).1;have hl:=r.length;exact wpAny_getItem_list pl.isList (Int.natCast_nonneg k) (by omega) (by rw [Int.toNat_natCast];simpa using eu) ⟨z,H,I,ru,q⟩
end L2
end
section
namespace MF
open L2
variable {p : Addr} {H H' : Hp} {xs : List V}
structure Jj (K:Fgx) (x qual:Str) (st:Stmt) (f:Addr) (fd:FuncData) (c:Addr):Prop where
 ex:∃(oc:Value) (od:Option Addr) (kV doc pm:Value) (an:Option Addr) (ct:Value) (osl:Array (Option Value)),
  fd=PySem.W.fnOf x qual (BL st) (Bi st) (Ap st) .none kV doc pm an (.ref c) ct/\K.lookup f=some ⟨oc,od,.func fd,osl⟩/\PySem.W.codeIn K (.ref c) qual=true
theorem Jj.ok {P:Program}{w:World}{K:Fgx}{mg:Str->Option Value}{base:Heap}{x qual:Str}{st:Stmt}{f c:Addr}{fd:FuncData}{N ps:List Str}{k:Nat}{sp:Sp} (F:Jj K x qual st f fd c) (S:Ax N ps (Ap st)) (len:∀vs H Q E,sp vs H Q E->vs.length=ps.length)
  (hbody : ∀ (A : Around) (outer : List Env) (s : Shared) (H : Hp) (vs : List V) (Q : VK) (E : XK), AX k (A.deeper (envOfC qual (Ap st) s.heap.objs.size f (.ref c))) -> sp vs H Q E ->
   ∃t,PSs (BR CX0 P w K mg base N qual (Ap st) f (.ref c) A outer s H E).nox (Bi st) t/\t { nx:=λ_ H'=>Q .non H',rt:=Q} (start N vs) H):CH P w K mg base CX0 (k+1) f fd ps sp:=by
 obtain⟨oc,od,kV,doc,pm,an,ct,osl,rfl,lk,hcd⟩:=F.ex;refine Im lk hcd S len λA outer s H vs Q E hr hsp=>?_
 obtain⟨t,h,q⟩:=hbody A outer s H vs Q E hr hsp;exact⟨t,h.nox,q⟩
def sp_law (K:Fgx) (TB:Addr):Sp:=λvs H Q _=>match vs with | [.ref a]=>∃ns:List Int,Al K H a (ns.map V.int)/\ns.length<=63/\H TB=some (.tbl #[])/\∀H',Q (.bl true) H' | _=>False
theorem Rv {K TB vs H Q E} (h:sp_law K TB vs H Q E):vs.length=1:=by unfold sp_law at h;split at h;rfl;exact h.elim
def A2 (p:Addr) (H H':Hp):Prop:=∀b o,H b=some o->(b=p/\∃xs,o= .lst xs)\/(∃ps,o= .tbl ps)\/H' b=some o
theorem A2.ev (e:Ev p H H'):A2 p H H':=λb o h=>(e b o h).elim .inl λz=> .inr (.inr z)
theorem A2.refl:A2 p H H:=A2.ev Ev.refl
theorem A2.same (e:Ab H H'):A2 p H H':=A2.ev (Ev.same e)
theorem A2.trans {H1 H2:Hp} (a:A2 p H H1) (b:A2 p H1 H2):A2 p H H2:=λc o h=>(a c o h).elim .inl λz=>z.elim (λy=> .inr (.inl y)) λy=>b c o y
theorem A2.tup {a:Addr} (h:A2 p H H') (q:H a=some (.tup xs)):H' a=some (.tup xs):=by
 rcases h a _ q with⟨_,ys,e⟩ | ⟨ps,e⟩ | z
 ·cases e
 ·cases e
 ·exact z
theorem A2.lst {a:Addr} (h:A2 p H H') (q:H a=some (.lst xs)) (n:a≠p):H' a=some (.lst xs):=by
 rcases h a _ q with⟨e,_⟩ | ⟨ps,e⟩ | z
 ·exact absurd e n
 ·cases e
 ·exact z
theorem A2.dk {a:Addr}{ks:List (AR×V)} (h:A2 p H H') (q:H a=some (.dK ks)):H' a=some (.dK ks):=by
 rcases h a _ q with⟨_,ys,e⟩ | ⟨ps,e⟩ | z
 ·cases e
 ·cases e
 ·exact z
theorem A2.grow {TB:Addr}{ql:Str} (t:TabIn H TB ql) (g:∀b o,H b=some o->b≠TB->H' b=some o):A2 p H H':=λb o h=>by
 by_cases e:b=TB
 ·obtain⟨ps,h1,_⟩:=t;rw [e,h1] at h;cases h;exact .inr (.inl ⟨_,rfl⟩)
 ·exact .inr (.inr (g b o h e))
mutual
theorem Aa.evT (h:A2 p H H'):∀(d:PyData) (v:V),Aa p H d v->Aa p H' d v
 | .none,v,q=>q
 | .bool _,v,q=>q
 | .int _,v,q=>q
 | .str _,v,q=>q
 | .tuple ds,v,q=>by
  unfold Aa at q ⊢;obtain⟨a,xs,e,r,z⟩:=q;exact⟨a,xs,e,h.tup r,Ac.evT h ds xs z⟩
 | .list ds,v,q=>by
  unfold Aa at q ⊢;obtain⟨a,xs,e,n,r,z⟩:=q;exact⟨a,xs,e,n,h.lst r n,Ac.evT h ds xs z⟩
 | .dict kvs,v,q=>by
  unfold Aa at q ⊢;obtain⟨a,ks,e,n,k,r⟩:=q;exact⟨a,ks,e,n,k,h.dk r⟩
theorem Ac.evT (h:A2 p H H'):∀(ds:List PyData) (xs:List V),Ac p H ds xs->Ac p H' ds xs
 | [],xs,q=>by unfold Ac at q ⊢;exact q
 | d::ds,xs,q=>by
  unfold Ac at q ⊢;obtain⟨x,r,e,z,zs⟩:=q;exact⟨x,r,e,Aa.evT h d x z,Ac.evT h ds r zs⟩
end
theorem _root_.L2.TabIn.grow {H H':Hp}{TB:Addr}{ql:Str} (t:TabIn H TB ql) (e:∀b o,H b=some o->(∀xs,o≠ .lst xs)->H' b=some o):TabIn H' TB ql:=by
 obtain⟨ps,h1,h2,h3⟩:=t;refine⟨ps,e _ _ h1 (λxs z=>by cases z),h2,λpos v hv=>?_⟩;obtain⟨c,r1,r2⟩:=h3 pos v hv;exact⟨c,r1,e _ _ r2 (λxs z=>by cases z)⟩
theorem _root_.L2.TabIn.ev {p:Addr}{H H':Hp}{TB:Addr}{ql:Str} (t:TabIn H TB ql) (e:Ev p H H'):TabIn H' TB ql:=t.grow λb o q n=>(e b o q).elim (fun⟨_,xs,z⟩=>absurd z (n xs)) id
theorem _root_.L2.TabIn.same {H H':Hp}{TB:Addr}{ql:Str} (t:TabIn H TB ql) (e:Ab H H'):TabIn H' TB ql:=t.grow λb o q _=>e b o q
theorem GY (b:Bool):Ed (.bool b):=by cases b<;>exact⟨by decide+kernel,by decide,.inl rfl⟩
theorem LO {i:Nat}:Bf xs none (some (i:Int))=xs.take i:=by
 unfold Bf;rw [HT.sIx_nat];show(xs.drop 0).take (min i xs.length-0)=_;rw [List.drop_zero,Nat.sub_zero]
 by_cases h:i<=xs.length
 ·rw [Nat.min_eq_left h]
 ·rw [Nat.min_eq_right (by omega),take_of_length_le (Nat.le_refl _),take_of_length_le (by omega)]
theorem Rw {lo hi:Option Int}{v:V} (h:v∈Bf xs lo hi):v∈xs:=by unfold Bf at h;exact List.mem_of_mem_drop (List.mem_of_mem_take h)
theorem GZ {n:Nat} (h:n<=1000):n<=sizeLine:=Nat.le_of_lt (DE h)
end MF
end
section
namespace MF
open L2
variable {p : Int} {T : TM} {F : List (List Int)} {n : Nat}
def BW (p f cap co:Int):Int:=if co<p then(p-co) *(cap-f) else(co-p) * f
theorem Rx (p f cap co:Int):co * f-p * f-Di p (cap,co)=BW p f cap co:=by
 unfold BW Di;dsimp only
 by_cases c:co<p
 ·rw [if_pos c,if_pos c,Int.mul_sub,Int.sub_mul,Int.mul_sub,Int.mul_sub,Int.mul_comm cap co,Int.mul_comm cap p];omega
 ·rw [if_neg c,if_neg c,Int.sub_mul];omega
theorem LP {p f cap co:Int} (h0:0<=f) (h1:f<=cap):0<=BW p f cap co:=by
 unfold BW;split
 ·exact Int.mul_nonneg (by omega) (by omega)
 ·exact Int.mul_nonneg (by omega) h0
theorem gapB_zero {f cap co:Int}:BW p f cap co=0↔(co<p->f=cap)/\(p<co->f=0):=by
 unfold BW
 by_cases c:co<p
 ·rw [if_pos c];refine⟨λh=>⟨λ_=>?_,λz=>by omega⟩,λh=>by rw [h.1 c,Int.sub_self,Int.mul_zero]⟩;rcases Int.mul_eq_zero.mp h with z | z<;>omega
 ·rw [if_neg c];refine⟨λh=>⟨λz=>absurd z c,λz=>?_⟩,λh=>?_⟩
  ·rcases Int.mul_eq_zero.mp h with z' | z'
   ·omega
   ·exact z'
  ·by_cases e:p<co
   ·rw [h.2 e,Int.mul_zero]
   ·have:co-p=0:=by omega
    rw [this,Int.zero_mul]
def Ck (p:Int):List Int->List Int->List Int->Int
 | f::fs,c::cs,o::os=>BW p f c o+Ck p fs cs os
 | _,_,_=>0
def DP:List Int->List Int->Int
 | f::fs,o::os=>o * f+DP fs os
 | _,_=>0
theorem LQ (p:Int):∀(fs cs os:List Int),fs.length=os.length->cs.length=os.length->DP fs os-p * fs.sum-spared cs os p=Ck p fs cs os
 | [],[],[],_,_=>by
  show(0:Int)-p * 0-0=0;rw [Int.mul_zero];rfl
 | f::fs,c::cs,o::os,h1,h2=>by
  have ih:=LQ p fs cs os (Nat.succ.inj h1) (Nat.succ.inj h2);have e:=Rx p f c o;show o * f+DP fs os-p *(f+fs.sum)-(Di p (c,o)+spared cs os p)=BW p f c o+Ck p fs cs os;rw [Int.mul_add];omega
 | [],_::_,os,h1,h2=>by rw [<-h1] at h2;cases h2
 | _::_,[],os,h1,h2=>by rw [<-h2] at h1;cases h1
 | [],[],_::_,h1,_=>by cases h1
 | _::_,_::_,[],h1,_=>by cases h1
theorem Jk {p:Int}:∀ {fs cs os:List Int},(∀b,b<os.length->0<=fs.getD b 0/\fs.getD b 0<=cs.getD b 0)->0<=Ck p fs cs os
 | f::fs,c::cs,o::os,h=>by
  have h0:=h 0 (Nat.succ_pos _);have ih:=Jk (p:=p) (fs:=fs) (cs:=cs) (os:=os) λb hb=>h (b+1) (Nat.succ_lt_succ hb)
  have:=LP (p:=p) (co:=o) h0.1 h0.2;show 0<=BW p f c o+Ck p fs cs os;have e:BW p ((f::fs).getD 0 0) ((c::cs).getD 0 0) o=BW p f c o:=rfl;omega
 | [],_,_,_=>Int.le_refl _
 | _::_,[],_,_=>Int.le_refl _
 | _::_,_::_,[],_=>Int.le_refl _
theorem Jl {p:Int}:∀ {fs cs os:List Int},fs.length=os.length->cs.length=os.length->(∀b,b<os.length->0<=fs.getD b 0/\fs.getD b 0<=cs.getD b 0)->(Ck p fs cs os=0↔ ∀b,b<os.length->BW p (fs.getD b 0) (cs.getD b 0) (os.getD b 0)=0)
 | [],[],[],_,_,_=>⟨λ_ b hb=>absurd hb (Nat.not_lt_zero _),λ_=>rfl⟩
 | f::fs,c::cs,o::os,l1,l2,h=>by
  have h0:=h 0 (Nat.succ_pos _);have h':∀b,b<os.length->0<=fs.getD b 0/\fs.getD b 0<=cs.getD b 0:=λb hb=>h (b+1) (Nat.succ_lt_succ hb)
  have ih:=Jl (p:=p) (Nat.succ.inj l1) (Nat.succ.inj l2) h';have p1:0<=BW p f c o:=LP h0.1 h0.2;have p2:=Jk (p:=p) h';show BW p f c o+Ck p fs cs os=0↔_;refine⟨λz b hb=>?_,λz=>?_⟩
  ·cases b with
   | zero=>show BW p f c o=0;omega
   | succ b=>exact ih.mp (by omega) b (Nat.lt_of_succ_lt_succ hb)
  ·have a:=z 0 (Nat.succ_pos _);have a':BW p f c o=0:=a;have:=ih.mpr λb hb=>z (b+1) (Nat.succ_lt_succ hb)
   omega
 | [],_::_,os,h1,h2,_=>by rw [<-h1] at h2;cases h2
 | _::_,[],os,h1,h2,_=>by rw [<-h2] at h1;cases h1
 | [],[],_::_,h1,_,_=>by cases h1
 | _::_,_::_,[],h1,_,_=>by cases h1
def Cm (lo hi p b m:Int):Int:=(p-b) *(m-(if b<p then lo else hi))
theorem Ry (lo hi p b m:Int):(p-b) * m-DL lo hi p b=Cm lo hi p b m:=by
 unfold Cm DL;rw [<-Int.mul_sub]
theorem Rz {lo hi b m:Int} (h0:lo<=m) (h1:m<=hi):0<=Cm lo hi p b m:=by
 unfold Cm;split
 ·exact Int.mul_nonneg (by omega) (by omega)
 ·exact Int.mul_nonneg_of_nonpos_of_nonpos (by omega) (by omega)
theorem gapM_zero {lo hi b m:Int}:Cm lo hi p b m=0↔(p<b->m=hi)/\(b<p->m=lo):=by
 unfold Cm
 by_cases c:b<p
 ·rw [if_pos c];refine⟨λh=>⟨λz=>by omega,λ_=>?_⟩,λh=>by rw [h.2 c,Int.sub_self,Int.mul_zero]⟩;rcases Int.mul_eq_zero.mp h with z | z<;>omega
 ·rw [if_neg c];refine⟨λh=>⟨λz=>?_,λz=>absurd z c⟩,λh=>?_⟩
  ·rcases Int.mul_eq_zero.mp h with z' | z'<;>omega
  ·by_cases e:p<b
   ·rw [h.1 e,Int.sub_self,Int.mul_zero]
   ·have:p-b=0:=by omega
    rw [this,Int.zero_mul]
def Do (T:TM) (ns:List Int) (F:List (List Int)) (m bl:Nat->Int) (h:Nat):Int:=Ck (ns.getD h 0) (F.getD h []) (T.cs.getD h []) T.co+Cm T.lo T.hi (ns.getD h 0) (ns.getD (h+1) 0) (m (h+1))+ns.getD h 0 * bl h
def DQ (T:TM) (ns:List Int) (F:List (List Int)) (m bl:Nat->Int):Nat->Int
 | 0=>0
 | k+1=>DQ T ns F m bl k+Do T ns F m bl k
def Ep (T:TM) (F:List (List Int)):Nat->Int
 | 0=>0
 | k+1=>Ep T F k+DP (F.getD k []) T.co
theorem LR {T:TM}{ns:List Int}{F:List (List Int)}{m bl:Nat->Int}{n:Nat} (lf:∀h,h<n->(F.getD h []).length=T.co.length) (lc:∀h,h<n->(T.cs.getD h []).length=T.co.length)
  (bal:∀h,h<n->m (h+1)=m h+(F.getD h []).sum-T.ds.getD h 0-bl h):∀k,k<=n->Ep T F k-DM T ns k=DQ T ns F m bl k+ns.getD k 0 * m k-ns.getD 0 0 * m 0
 | 0,_=>by
  show(0:Int)-0=0+ns.getD 0 0 * m 0-ns.getD 0 0 * m 0;omega
 | k+1,hk=>by
  have ih:=LR lf lc bal k (by omega) (ns:=ns);have e1:=LQ (ns.getD k 0) (F.getD k []) (T.cs.getD k []) T.co (lf k (by omega)) (lc k (by omega));have e2:=Ry T.lo T.hi (ns.getD k 0) (ns.getD (k+1) 0) (m (k+1));have b:=bal k (by omega);rw [QE];show Ep T F k+DP (F.getD k []) T.co-(DM T ns k+Bq T k (ns.getD k 0) (ns.getD (k+1) 0))=DQ T ns F m bl k+Do T ns F m bl k+ns.getD (k+1) 0 * m (k+1)-ns.getD 0 0 * m 0;unfold Bq Do;have b2:ns.getD k 0 * m (k+1)=ns.getD k 0 * m k+ns.getD k 0 *(F.getD k []).sum-ns.getD k 0 * T.ds.getD k 0-ns.getD k 0 * bl k:=by rw [b,Int.mul_sub,Int.mul_sub,Int.mul_add]
  rw [Int.sub_mul] at e2;omega
theorem LS {ns:List Int}{m bl:Nat->Int} (g:∀h,h<n->0<=Do T ns F m bl h):∀k,k<=n->0<=DQ T ns F m bl k
 | 0,_=>Int.le_refl _
 | k+1,hk=>by
  have:=LS g k (by omega);have:=g k (by omega);show 0<=DQ T ns F m bl k+Do T ns F m bl k;omega
theorem LT {ns:List Int}{m bl:Nat->Int} (g:∀h,h<n->0<=Do T ns F m bl h):∀k,k<=n->(DQ T ns F m bl k=0↔ ∀h,h<k->Do T ns F m bl h=0)
 | 0,_=>⟨λ_ h hh=>absurd hh (Nat.not_lt_zero _),λ_=>rfl⟩
 | k+1,hk=>by
  have ih:=LT g k (by omega);have p1:=LS g k (by omega);have p2:=g k (by omega);show DQ T ns F m bl k+Do T ns F m bl k=0↔_;refine⟨λz h hh=>?_,λz=>?_⟩
  ·by_cases e:h=k
   ·rw [e];omega
   ·exact ih.mp (by omega) h (by omega)
  ·have:=ih.mpr λh hh=>z h (by omega)
   have:=z k (by omega);omega
end MF
end
section
namespace MF
open L2
theorem LU (f g:Nat->Int):∀n,((List.range n).map λb=>f b+g b).sum=((List.range n).map f).sum+((List.range n).map g).sum
 | 0=>rfl
 | n+1=>by
  have ih:=LU f g n;simp only [range_succ,map_append,sum_append,map_cons,map_nil,sum_cons,sum_nil];omega
theorem RA {α:Type}{bs:List α} (xs:Nat->Int) (g:α->Int) (d:α):((((List.range bs.length).map xs).zip bs).map λq=>q.1 * g q.2).sum=((List.range bs.length).map λb=>xs b * g (bs.getD b d)).sum:=by
 refine congrArg List.sum (List.ext_getElem ?_ λi h1 h2=>?_)
 ·simp
 ·have hi:i<bs.length:=by simpa using h2
  simp [List.getElem_zip,getD_eq_getElem?_getD,hi]
theorem LV:∀(r co:List Int),r.length=co.length->DP r co=((List.range co.length).map λb=>co.getD b 0 * r.getD b 0).sum
 | [],[],_=>rfl
 | f::r,o::co,h=>by
  have ih:=LV r co (Nat.succ.inj h);rw [length_cons,LF];show o * f+DP r co=o * f+_;rw [ih]
  rfl
 | [],_::_,h=>by cases h
 | _::_,[],h=>by cases h
theorem LW {P:PL}{S:SY}{F:List (List Int)} (hr:∀h,h<F.length->(F.getD h []).length=P.bs.length):∀k,k<=F.length->Ep (terms P S) F k=((List.range P.bs.length).map λb=>((F.take k).map λr=>r.getD b 0).sum *(P.bs.getD b (0,0)).2).sum
 | 0,_=>by
  show(0:Int)=_;have:(λb=>(((F.take 0).map λr=>r.getD b 0).sum:Int) *(P.bs.getD b (0,0)).2)=λ_=>0:=funext λb=>by rw [take_zero,map_nil,sum_nil,Int.zero_mul]
  rw [this]
  induction P.bs.length with
  | zero=>rfl
  | succ n ih=>rw [range_succ,map_append,sum_append,<-ih];rfl
 | k+1,hk=>by
  have ih:=LW (S:=S) hr k (by omega);have gk:F[k]? =some (F.getD k []):=by rw [getD_eq_getElem?_getD,getElem?_eq_getElem (by omega)];rfl
  show Ep (terms P S) F k+DP (F.getD k []) (terms P S).co=_;have lco:(terms P S).co.length=P.bs.length:=by show(P.bs.map (·.2)).length=_;rw [length_map]
  rw [ih,LV _ _ (by rw [hr k (by omega),lco]),lco,<-LU];refine congrArg List.sum (List.map_congr_left λb hb=>?_);have hb':=mem_range.mp hb;rw [A9 gk,map_append,sum_append];have e1:(terms P S).co.getD b 0=(P.bs.getD b (0,0)).2:=by
   show(P.bs.map (·.2)).getD b 0=_;rw [getD_eq_getElem?_getD,getElem?_map,getElem?_eq_getElem hb',getD_eq_getElem?_getD,getElem?_eq_getElem hb'];rfl
  rw [e1,Int.add_mul];show _+(P.bs.getD b (0,0)).2 *(F.getD k []).getD b 0=_+((F.getD k []).getD b 0+0) *(P.bs.getD b (0,0)).2;rw [Int.add_zero,Int.mul_comm ((F.getD k []).getD b 0)]
theorem RB {P:PL}{S:SY}{F:List (List Int)} (hr:∀h,h<F.length->(F.getD h []).length=P.bs.length):Ep (terms P S) F F.length=coal P F:=by
 rw [LW hr _ (Nat.le_refl _),take_length];unfold coal B8;exact(RA (λb=>(F.map λr:List Int=>r.getD b 0).sum) (λq:Int×Int=>q.2) (0,0)).symm
end MF
end
section
namespace MF
open L2
variable {P : PL} {S : SY} {F : List (List Int)}
structure FI (P:PL) (S:SY) (F:List (List Int)) (ns:List Int) (h:Nat):Prop where
 b:∀b,b<P.bs.length->((P.bs.getD b (0,0)).2<ns.getD h 0->(F.getD h []).getD b 0=((caps P S).getD h []).getD b 0)/\(ns.getD h 0<(P.bs.getD b (0,0)).2->(F.getD h []).getD b 0=0)
 up:ns.getD h 0<ns.getD (h+1) 0->AH P S F (h+1)=P.hi
 dn:ns.getD (h+1) 0<ns.getD h 0->AH P S F (h+1)=P.lo
 bl:0<ns.getD h 0->Bc P.hi (AO P S F h)=0
theorem LY (hi m:Int):0<=Bc hi m:=by unfold Bc;split<;>omega
theorem LZ (ok:P.ok) {h:Nat} (up:P.lo<=AO P S F h):P.lo<=AH P S F (h+1)/\AH P S F (h+1)<=P.hi:=by
 have l:=ok.ls;have s:=ok.sh;rw [EO];unfold Bc;split<;>omega
theorem L5 {r:List Int}{b:Nat} (h:b<r.length):r[b]? =some (r.getD b 0):=by rw [getD_eq_getElem?_getD,getElem?_eq_getElem h];rfl
theorem L9 {b:Nat} (hb:b<P.bs.length):(terms P S).co.getD b 0=(P.bs.getD b (0,0)).2:=by
 show(P.bs.map (·.2)).getD b 0=_;rw [getD_eq_getElem?_getD,getElem?_map,getElem?_eq_getElem hb,getD_eq_getElem?_getD,getElem?_eq_getElem hb];rfl
theorem RC {ns:List Int} (ok:P.ok) (so:S.ok P.bs.length) (fo:FOk P S F) (up:∀i,i<S.ex.length->P.lo<=AO P S F i) (ln:ns.length=S.ex.length) (nn:∀x∈ns,0<=x):
  Ci (terms P S) ns=coal P F↔ ∀h,h<S.ex.length->FI P S F ns h:=by
 have fl:=Ja ok so;have lco:(terms P S).co.length=P.bs.length:=by show(P.bs.map (·.2)).length=_;rw [length_map]
 have gF:∀h,h<S.ex.length->F[h]? =some (F.getD h []):=λh hh=>by rw [getD_eq_getElem?_getD,getElem?_eq_getElem (by rw [fo.len];exact hh)];rfl
 have lF:∀h,h<S.ex.length->(F.getD h []).length=P.bs.length:=λh hh=>fo.row h _ (gF h hh)
 have eC:∀h,h<S.ex.length->(terms P S).cs.getD h []=BV P.bs S.fs h:=λh hh=>by
  show(caps P S).getD h []=_;rw [getD_eq_getElem?_getD,De hh];rfl
 have lC:∀h,h<S.ex.length->((terms P S).cs.getD h []).length=P.bs.length:=λh hh=>by
  rw [<-lco];exact(fl.c _ (getD_mem (by show h<(caps P S).length;rw [Dg];exact hh))).1
 have bd:∀h,h<S.ex.length->∀b,b<(terms P S).co.length->0<=(F.getD h []).getD b 0/\(F.getD h []).getD b 0<=((terms P S).cs.getD h []).getD b 0:=λh hh b hb=>by
  rw [lco] at hb;have x1:(F.getD h [])[b]? =some ((F.getD h []).getD b 0):=by
   exact L5 (by rw [lF h hh];exact hb)
  have x2:(BV P.bs S.fs h)[b]? =some (((terms P S).cs.getD h []).getD b 0):=by
   rw [<-eC h hh];exact L5 (by rw [lC h hh];exact hb)
  exact fo.bd h _ b _ _ (gF h hh) x1 x2
 have pn:∀h,0<=ns.getD h 0:=λh=>by
  by_cases hh:h<ns.length
  ·exact nn _ (getD_mem hh)
  ·rw [getD_eq_getElem?_getD,getElem?_eq_none (by omega)];exact Int.le_refl _
 have gp:∀h,h<S.ex.length->0<=Ck (ns.getD h 0) (F.getD h []) ((terms P S).cs.getD h []) (terms P S).co/\0<=Cm P.lo P.hi (ns.getD h 0) (ns.getD (h+1) 0) (AH P S F (h+1))/\0<=ns.getD h 0 * Bc P.hi (AO P S F h):=λh hh=>
  ⟨Jk (bd h hh),Rz (LZ ok (up h hh)).1 (LZ ok (up h hh)).2,Int.mul_nonneg (pn h) (LY _ _)⟩
 have gpos:∀h,h<S.ex.length->0<=Do (terms P S) ns F (AH P S F) (λh=>Bc P.hi (AO P S F h)) h:=λh hh=>by
  obtain⟨a,b,c⟩:=gp h hh;show 0<=Ck (ns.getD h 0) (F.getD h []) ((terms P S).cs.getD h []) (terms P S).co+Cm P.lo P.hi (ns.getD h 0) (ns.getD (h+1) 0) (AH P S F (h+1))+ns.getD h 0 * Bc P.hi (AO P S F h);omega
 have gs:=LR (T:=terms P S) (ns:=ns) (F:=F) (m:=AH P S F) (bl:=λh=>Bc P.hi (AO P S F h)) (n:=S.ex.length) (λh hh=>by rw [lF h hh,lco]) (λh hh=>by rw [lC h hh,lco]) (λh hh=>by
  rw [EO];show AO P S F h-_=AH P S F h+(F.getD h []).sum-(draws P S).getD h 0-_;unfold AO made Cu;omega) S.ex.length (Nat.le_refl _)
 have z0:ns.getD S.ex.length 0=0:=by rw [getD_eq_getElem?_getD,getElem?_eq_none (by omega)];rfl
 have ec:Ep (terms P S) F S.ex.length=coal P F:=by
  have:=RB (P:=P) (S:=S) (F:=F) λh hh=>lF h (by rw [<-fo.len];exact hh)
  rw [fo.len] at this;exact this
 rw [z0,Int.zero_mul,ec] at gs;have ef:Ci (terms P S) ns=DM (terms P S) ns S.ex.length-ns.getD 0 0 * P.st:=by unfold Ci;rw [ln];rfl
 have m0:AH P S F 0=P.st:=rfl;rw [m0] at gs;have key:Ci (terms P S) ns=coal P F↔DQ (terms P S) ns F (AH P S F) (λh=>Bc P.hi (AO P S F h)) S.ex.length=0:=by
  rw [ef];constructor<;>intro z<;>omega
 rw [key,LT gpos S.ex.length (Nat.le_refl _)];refine forall_congr' λh=>⟨λz hh=>?_,λz hh=>?_⟩
 ·have z':=z hh;obtain⟨a,b,c⟩:=gp h hh;have z2:Ck (ns.getD h 0) (F.getD h []) ((terms P S).cs.getD h []) (terms P S).co+Cm P.lo P.hi (ns.getD h 0) (ns.getD (h+1) 0) (AH P S F (h+1))+ns.getD h 0 * Bc P.hi (AO P S F h)=0:=z';have r0:=(Jl (by rw [lF h hh,lco]) (by rw [lC h hh,lco]) (bd h hh)).mp (show Ck (ns.getD h 0) (F.getD h []) ((terms P S).cs.getD h []) (terms P S).co=0 by omega);have g0:=gapM_zero.mp (show Cm P.lo P.hi (ns.getD h 0) (ns.getD (h+1) 0) (AH P S F (h+1))=0 by omega);refine⟨λb hb=>?_,g0.1,g0.2,λpp=>?_⟩
  ·have:=gapB_zero.mp (r0 b (by rw [lco];exact hb));rw [L9 hb] at this;exact this
  ·rcases Int.mul_eq_zero.mp (show ns.getD h 0 * Bc P.hi (AO P S F h)=0 by omega) with y | y
   ·omega
   ·exact y
 ·have g:=z hh;have r0:=(Jl (p:=ns.getD h 0) (by rw [lF h hh,lco]) (by rw [lC h hh,lco]) (bd h hh)).mpr λb hb=>gapB_zero.mpr (by
   rw [lco] at hb;rw [L9 hb];exact g.b b hb)
  have g0:Cm P.lo P.hi (ns.getD h 0) (ns.getD (h+1) 0) (AH P S F (h+1))=0:=gapM_zero.mpr ⟨g.up,g.dn⟩;have b0:ns.getD h 0 * Bc P.hi (AO P S F h)=0:=by
   by_cases pp:0<ns.getD h 0
   ·rw [g.bl pp,Int.mul_zero]
   ·have:ns.getD h 0=0:=by have:=pn h;omega
    rw [this,Int.zero_mul]
  show Ck _ _ _ _+Cm P.lo P.hi _ _ _+ns.getD h 0 * Bc P.hi (AO P S F h)=0;rw [r0,g0,b0];rfl
end MF
end
section
namespace MF
open L2
structure FJ (K:Fgx) (mg:Str->Option Value) (x:Str) (st:Stmt) (ps:List Str) (c:Addr):Prop where
 ex:∃(f:Addr) (fd:FuncData),Jj K x x st f fd c/\mg x=some (.ref f)/\PySem.W.keepIn K (.ref f)=true/\Binds K fd ps []
theorem FJ.fn {P:Program}{w:World}{K:Fgx}{mg:Str->Option Value}{base:Heap}{x:Str}{st:Stmt}{N ps:List Str}{c:Addr}{k:Nat}{sp:Sp} (F:FJ K mg x st ps c) (S:Ax N ps (Ap st)) (len:∀vs H Q E,sp vs H Q E->vs.length=ps.length)
  (hbody : ∀ (f : Addr) (A : Around) (outer : List Env) (s : Shared) (H : Hp) (vs : List V) (Q : VK) (E : XK), AX k (A.deeper (envOfC x (Ap st) s.heap.objs.size f (.ref c))) -> sp vs H Q E ->
   ∃t,PSs (BR CX0 P w K mg base N x (Ap st) f (.ref c) A outer s H E).nox (Bi st) t/\t { nx:=λ_ H'=>Q .non H',rt:=Q} (start N vs) H):Fn P w K mg base (k+1) x ps sp:=by
 obtain⟨f,fd,hF,hm,kp,hb⟩:=F.ex;exact⟨f,fd,hF.ok S len λA outer s H vs Q E hr h=>hbody f A outer s H vs Q E hr h,hm,kp,hb⟩
def top (i : Nat) : Stmt := PySem.Challenge.pw_mainfires_k24_prices_of_a_firing.main.body.getD i (.Pass ⟨0, 0, 0, 0⟩)
abbrev wa3:Stmt:=top 22
abbrev wa4:Stmt:=top 23
abbrev wa5:Stmt:=top 24
abbrev wa6:Stmt:=top 25
abbrev wa7:Stmt:=top 34
abbrev wa8:Stmt:=top 35
abbrev wa9:Stmt:=top 36
abbrev waa:Stmt:=top 37
abbrev wab:Stmt:=top 38
abbrev wac:Stmt:=top 39
abbrev wad:Stmt:=top 40
abbrev wae:Stmt:=top 41
abbrev waf:Stmt:=top 42
abbrev wag:Stmt:=top 43
abbrev wah:Stmt:=top 44
abbrev wai:Stmt:=top 45
abbrev waj:Stmt:=top 46
abbrev wak:Stmt:=top 47
abbrev wal:Stmt:=top 48
abbrev wam:Stmt:=top 49
abbrev wan:Stmt:=top 50
abbrev wao:Stmt:=top 51
abbrev wap:Stmt:=top 52
abbrev waq:Stmt:=top 53
abbrev war:Stmt:=top 54
abbrev was:Stmt:=top 56
abbrev wat:Stmt:=top 57
abbrev wau:Stmt:=top 58
abbrev wav:Stmt:=top 59
abbrev waw:Stmt:=top 60
abbrev wax:Stmt:=top 61
abbrev waz:Stmt:=top 63
abbrev waA:Stmt:=top 64
abbrev waB:Stmt:=top 66
abbrev waC:Stmt:=top 67
abbrev waD:Stmt:=top 68
abbrev waE:Stmt:=top 69
abbrev waF:Stmt:=top 70
abbrev waG:Stmt:=top 71
abbrev waH:Stmt:=top 72
abbrev waI:Stmt:=top 73
abbrev waJ:Stmt:=top 74
abbrev waK:Stmt:=top 76
abbrev waL:Stmt:=top 77
abbrev waM:Stmt:=top 78
abbrev waN:Stmt:=top 79
abbrev waO:Stmt:=top 80
abbrev waP:Stmt:=top 81
abbrev waQ:Stmt:=top 82
abbrev waR:Stmt:=top 83
abbrev waS:Stmt:=top 84
abbrev waT:Stmt:=top 85
abbrev waU:Stmt:=top 86
abbrev waV:Stmt:=top 87
abbrev waW:Stmt:=top 88
abbrev waX:Stmt:=top 89
abbrev waY:Stmt:=top 90
abbrev waZ:Stmt:=top 91
abbrev wa2:Stmt:=top 92
abbrev wa1:Stmt:=top 93
structure Tx (mg:Str->Option Value):Prop where
 b_ValueError:mg "ValueError"=none
 b_all:mg "all"=none
 b_bool:mg "bool"=none
 b_divmod:mg "divmod"=none
 b_enumerate:mg "enumerate"=none
 b_int:mg "int"=none
 b_isinstance:mg "isinstance"=none
 b_len:mg "len"=none
 b_list:mg "list"=none
 b_max:mg "max"=none
 b_min:mg "min"=none
 b_range:mg "range"=none
 b_repr:mg "repr"=none
 b_reversed:mg "reversed"=none
 b_sorted:mg "sorted"=none
 b_sum:mg "sum"=none
 b_tuple:mg "tuple"=none
 b_zip:mg "zip"=none
 g_MOST_BOILERS:∃t,mg "MOST_BOILERS"=some (.int 4 t)
 g_MOST_ENGINES:∃t,mg "MOST_ENGINES"=some (.int 4 t)
 g_MOST_FAULTS:∃t,mg "MOST_FAULTS"=some (.int 4 t)
 g_MOST_HOURS:∃t,mg "MOST_HOURS"=some (.int 8 t)
 g_MOST_UNITS:∃t,mg "MOST_UNITS"=some (.int 9 t)
 g_MOST_EXTRA:∃t,mg "MOST_EXTRA"=some (.int 20 t)
 g_MOST_IN_MAIN:∃t,mg "MOST_IN_MAIN"=some (.int 40 t)
def RD:PyData->Bool | .int _=>true | _=>false
def B3 (d:PyData) (lo hi:Int):Bool:=match d with | .int i=>decide (lo<=i) && decide (i<=hi) | _=>false
def A3 (d:PyData) (lo hi:Int):Bool:=match d with | .tuple ds=>decide (lo<=(ds.length:Int)) && decide ((ds.length:Int)<=hi) | _=>false
def FK:Sp:=λvs H Q _=>match vs with | [v]=>∃p d,Aa p H d v/\∀b,b=RD d->Q (.bl b) H | _=>False
def Jm:Sp:=λvs H Q _=>match vs with | [v,.int lo,.int hi]=>∃p d,Aa p H d v/\∀b,b=B3 d lo hi->Q (.bl b) H | _=>False
def Jn:Sp:=λvs H Q _=>match vs with | [v,.int lo,.int hi]=>∃p d,Aa p H d v/\∀b,b=A3 d lo hi->Q (.bl b) H | _=>False
section
variable {P : Program} {w : World} {K : Fgx} {mg : Str -> Option Value} {base : Heap}
theorem RE:Ax ["thing"] ["thing"] (Ap wa3):=AA
theorem RF (F:Df K mg "is_whole" wa3 ["thing"]) (T:Tx mg)  :Fn P w K mg base 1 "is_whole" ["thing"] FK:=by
 refine F.fn RE (λvs H Q E h=>?_) (λf cdv A outer s H vs Q E hr h=>?_)
 ·unfold FK at h;split at h;rfl;exact h.elim
 refine⟨_,(An (Aw (Bg (At EK rfl T.b_isinstance boot_isinstance (Aq (cy 0) (DZ (v:= .ty "int") rfl T.b_int L2.boot_int rfl))) (BJ (Kw (At EK rfl T.b_isinstance boot_isinstance (Aq (cy 0) (DZ (v:= .ty "bool") rfl T.b_bool L2.boot_bool rfl)))))))),?_⟩;unfold FK at h;split at h
 ·rename_i v;obtain⟨p,d,r,q⟩:=h;refine⟨_,r.ty,.inl rfl,⟨λc=>⟨_,r.ty,.inr (.inl rfl),?_⟩,λc=>?_⟩⟩
  ·exact q _ (by cases d<;>first | rfl | cases c)
  ·exact q _ (by cases d<;>first | rfl | cases c)
 ·exact h.elim
theorem RG:Ax ["thing","least","most"] ["thing","least","most"] (Ap wa4):=AA
abbrev Er (P:Program) (w:World) (K:Fgx) (mg:Str->Option Value) (base:Heap):Prop:=Fn P w K mg base 2 "is_whole_from" ["thing","least","most"] Jm
theorem RH (F:Df K mg "is_whole_from" wa4 ["thing","least","most"]) (T:Tx mg) (ya3:Fn P w K mg base 1 "is_whole" ["thing"] FK):Er P w K mg base:=by
 refine F.fn RG (λvs H Q E h=>?_) (λf cdv A outer s H vs Q E hr h=>?_)
 ·unfold Jm at h;split at h;rfl;exact h.elim
 refine⟨_,(An (Aw (Bg (Am ya3 (hr.mono (by decide)) rfl (Ak (cy 0))) (BJ (Kv DG DG (cy 1) (cy 0) (cy 2)))))),?_⟩;unfold Jm at h;split at h
 ·rename_i v lo hi;obtain⟨p,d,r,q⟩:=h;refine⟨p,d,r,λb hb=>⟨λc=>?_,λc=>?_⟩⟩
  ·subst c;cases d<;>first | cases hb | skip
   rename_i i;unfold Aa at r;subst r;refine⟨λc=>?_,λc=>?_⟩
   ·exact q _ (by unfold B3;dsimp only;rw [c];rfl)
   ·exact q _ (by unfold B3;dsimp only;rw [c];rfl)
  ·subst c;exact q _ (by cases d<;>first | rfl | cases hb)
 ·exact h.elim
theorem RI:Ax ["thing","fewest","most"] ["thing","fewest","most"] (Ap wa5):=AA
abbrev Cw (P:Program) (w:World) (K:Fgx) (mg:Str->Option Value) (base:Heap):Prop:=Fn P w K mg base 1 "is_tuple_of" ["thing","fewest","most"] Jn
theorem RJ (F:Df K mg "is_tuple_of" wa5 ["thing","fewest","most"]) (T:Tx mg)  :Cw P w K mg base:=by
 refine F.fn RI (λvs H Q E h=>?_) (λf cdv A outer s H vs Q E hr h=>?_)
 ·unfold Jn at h;split at h;rfl;exact h.elim
 refine⟨_,(An (Aw (Bg (At EK rfl T.b_isinstance boot_isinstance (Aq (cy 0) (DZ (v:= .ty "tuple") rfl T.b_tuple Bz rfl))) (BJ (Kv DG DG (cy 1) (At (Bh K) rfl T.b_len PySem.boot_len (Ak (cy 0))) (cy 2)))))),?_⟩;unfold Jn at h;split at h
 ·rename_i v lo hi;obtain⟨p,d,r,q⟩:=h;refine⟨_,r.ty,.inr (.inr (.inl rfl)),⟨λc=>?_,λc=>?_⟩⟩
  ·cases d<;>first | cases c | skip
   rename_i ds;unfold Aa at r;obtain⟨a,xs,rfl,ha,rs⟩:=r;refine⟨a,xs,rfl,.inr (Ae.of ha),?_⟩;rw [<-rs.len];refine⟨λc=>?_,λc=>?_⟩
   ·exact q _ (by unfold A3;dsimp only;rw [c];rfl)
   ·exact q _ (by unfold A3;dsimp only;rw [c];rfl)
  ·exact q _ (by cases d<;>first | rfl | cases c)
 ·exact h.elim
end
end MF
end
section
namespace MF
open L2
variable {p : Addr} {H : Hp} {xs : List V}
theorem Mb {α β:Type}{ds:List α}{i:Nat}{d:α} (f:α->β) (h:ds[i]? =some d):(ds.take (i+1)).map f=(ds.take i).map f++[f d]:=by
 rw [take_add_one,h,map_append];rfl
def Es (d:PyData):Bool:=match d with | .tuple [a,b]=>B3 a 1 9 && B3 b 1 9 | _=>false
def DR (d:PyData):Bool:=match d with | .tuple [a,b,c]=>B3 a 1 9 && B3 b 0 7 && B3 c 1 8 | _=>false
def Et (d:PyData):Bool:=match d with
 | .tuple [a,b,c]=>B3 b 0 40 && match b with | .int hi=>B3 c 0 hi &&(match c with | .int st=>B3 a 0 st | _=>false) | _=>false
 | _=>false
def E6 (d:PyData):Bool:=match d with | .tuple ds=>A3 d 1 4 && ds.all Es | _=>false
def E7 (d:PyData):Bool:=match d with | .tuple ds=>A3 d 0 4 && ds.all DR | _=>false
def E8 (d:PyData):Bool:=match d with | .tuple [a,b,c]=>E6 a && E7 b && Et c | _=>false
def Ce (f:PyData->Bool):Sp:=λvs H Q _=>match vs with | [v]=>∃p d,Aa p H d v/\∀b H',b=f d->Ab H H'->Q (.bl b) H' | _=>False
theorem E9 {f:PyData->Bool}{vs H Q E} (h:Ce f vs H Q E):vs.length=1:=by unfold Ce at h;split at h;rfl;exact h.elim
abbrev Ha:Sp:=Ce Es
abbrev Hc:Sp:=Ce DR
abbrev Hd:Sp:=Ce Et
abbrev He:Sp:=Ce E6
abbrev Hf:Sp:=Ce E7
abbrev Hh:Sp:=Ce E8
theorem RK {vs H Q E} (h:Ha vs H Q E):vs.length=1:=E9 h
theorem RL {vs H Q E} (h:Hc vs H Q E):vs.length=1:=E9 h
theorem RM {vs H Q E} (h:Hd vs H Q E):vs.length=1:=E9 h
theorem RN {vs H Q E} (h:He vs H Q E):vs.length=1:=E9 h
theorem RO {vs H Q E} (h:Hf vs H Q E):vs.length=1:=E9 h
theorem RP {vs H Q E} (h:Hh vs H Q E):vs.length=1:=E9 h
theorem two {ds:List PyData} (h:A3 (.tuple ds) 2 2=true):∃a b,ds=[a,b]:=by
 unfold A3 at h;simp only [Bool.and_eq_true,decide_eq_true_eq] at h
 match ds,h with
 | [a,b],_=>exact⟨a,b,rfl⟩
 | [],h=>simp at h
 | [_],h=>simp at h
 | _::_::_::_,h=>simp at h;omega
theorem three {ds:List PyData} (h:A3 (.tuple ds) 3 3=true):∃a b c,ds=[a,b,c]:=by
 unfold A3 at h;simp only [Bool.and_eq_true,decide_eq_true_eq] at h
 match ds,h with
 | [a,b,c],_=>exact⟨a,b,c,rfl⟩
 | [],h=>simp at h
 | [_],h=>simp at h
 | [_,_],h=>simp at h
 | _::_::_::_::_,h=>simp at h;omega
theorem Fb {d:PyData}{lo hi:Int} (h:A3 d lo hi=true):∃ds,d= .tuple ds:=by
 cases d<;>first | exact⟨_,rfl⟩ | cases h
theorem Aa.shape {ds:List PyData}{v:V} (r:Aa p H (.tuple ds) v):∃a xs,v= .ref a/\H a=some (.tup xs)/\Ac p H ds xs:=by unfold Aa at r;exact r
theorem Ac.two {a b:PyData} (r:Ac p H [a,b] xs):∃x y,xs=[x,y]/\Aa p H a x/\Aa p H b y:=by
 unfold Ac at r;obtain⟨x,s,rfl,hx,r⟩:=r;unfold Ac at r;obtain⟨y,s,rfl,hy,r⟩:=r;unfold Ac at r;subst r;exact⟨x,y,rfl,hx,hy⟩
theorem Ac.three {a b c:PyData} (r:Ac p H [a,b,c] xs):∃x y z,xs=[x,y,z]/\Aa p H a x/\Aa p H b y/\Aa p H c z:=by
 unfold Ac at r;obtain⟨x,s,rfl,hx,r⟩:=r;obtain⟨y,z,rfl,hy,hz⟩:=Ac.two r;exact⟨x,y,z,rfl,hx,hy,hz⟩
section
variable {P : Program} {w : World} {K : Fgx} {mg : Str -> Option Value} {base : Heap}
theorem zas:Ax ["thing","make","coal"] ["thing"] (Ap wa9):=AA
theorem RQ (F:Df K mg "is_make_and_coal" wa9 ["thing"]) (T:Tx mg) (ya1:Cw P w K mg base) (ya2:Er P w K mg base):Fn P w K mg base 3 "is_make_and_coal" ["thing"] Ha:=by
 obtain⟨t_MOST_UNITS,g_MOST_UNITS⟩:=T.g_MOST_UNITS;refine F.fn zas (λvs H Q E h=>?_) (λf cdv A outer s H vs Q E hr h=>?_)
 ·exact RK h
 refine⟨_,(Aj (A8 (B5 (BU (Am ya1 (hr.mono (by decide)) rfl (AM (cy 0) Af Af)))) (An (Aw Bw)) A6) (Aj (Ba (cy 0) (AG K (n:=2) (Ai (Ag 1 zas.nd) (Ai (Ag 2 zas.nd) AC)))) (An (Aw (Bg (Am ya2 (hr.mono (by decide)) rfl (AM (cy 1) Af (A5 (v:= .int 9) rfl g_MOST_UNITS ⟨t_MOST_UNITS,rfl⟩))) (BJ (Am ya2 (hr.mono (by decide)) rfl (AM (cy 2) Af (A5 (v:= .int 9) rfl g_MOST_UNITS ⟨t_MOST_UNITS,rfl⟩))))))))),?_⟩;unfold Ha Ce at h;split at h
 ·rename_i v;obtain⟨p,d,r,q⟩:=h;refine⟨p,d,r,λb hb=>⟨λc=>?_,λc=>?_⟩⟩
  ·refine q false H ?_ (Ab.refl _);have e:A3 d 2 2=false:=by rw [<-hb];simpa using c
   cases d<;>first | rfl | skip
   rename_i ds
   match ds,e with
   | [a,b],e=>cases e
   | [],_=>rfl
   | [_],_=>rfl
   | _::_::_::_,_=>rfl
  ·have e:A3 d 2 2=true:=by rw [<-hb];simpa using c
   obtain⟨ds,rfl⟩:=Fb e;obtain⟨a,b,rfl⟩:=two e;obtain⟨l,xs,rfl,hl,rs⟩:=Aa.shape r;obtain⟨x,y,rfl,rx,ry⟩:=Ac.two rs;refine⟨l,[x,y],rfl,Ae.of hl,rfl,x,[y],rfl,y,[],rfl,rfl,p,a,rx,λb1 e1=>⟨λc=>⟨p,b,ry,λb2 e2=>?_⟩,λc=>?_⟩⟩
   ·exact q _ _ (by unfold Es;dsimp only;rw [e2,<-e1,c];rfl) (Ab.refl _)
   ·exact q _ _ (by unfold Es;dsimp only;rw [<-e1,c];rfl) (Ab.refl _)
 ·exact h.elim
theorem zan:Ax ["thing","draw","first","every"] ["thing"] (Ap wab):=AA
theorem RR (F:Df K mg "is_engine" wab ["thing"]) (T:Tx mg) (ya1:Cw P w K mg base) (ya2:Er P w K mg base):Fn P w K mg base 3 "is_engine" ["thing"] Hc:=by
 obtain⟨t_MOST_HOURS,g_MOST_HOURS⟩:=T.g_MOST_HOURS;obtain⟨t_MOST_UNITS,g_MOST_UNITS⟩:=T.g_MOST_UNITS;refine F.fn zan (λvs H Q E h=>?_) (λf cdv A outer s H vs Q E hr h=>?_)
 ·exact RL h
 refine⟨_,(Aj (A8 (B5 (BU (Am ya1 (hr.mono (by decide)) rfl (AM (cy 0) Af Af)))) (An (Aw Bw)) A6) (Aj (Ba (cy 0) (AG K (n:=3) (Ai (Ag 1 zan.nd) (Ai (Ag 2 zan.nd) (Ai (Ag 3 zan.nd) AC))))) (An (Aw (Bg (Am ya2 (hr.mono (by decide)) rfl (AM (cy 1) Af (A5 (v:= .int 9) rfl g_MOST_UNITS ⟨t_MOST_UNITS,rfl⟩))) (Bg (Am ya2 (hr.mono (by decide)) rfl (AM (cy 2) Af (As Bl (A5 (v:= .int 8) rfl g_MOST_HOURS ⟨t_MOST_HOURS,rfl⟩) Af))) (BJ (Am ya2 (hr.mono (by decide)) rfl (AM (cy 3) Af (A5 (v:= .int 8) rfl g_MOST_HOURS ⟨t_MOST_HOURS,rfl⟩)))))))))),?_⟩;unfold Hc Ce at h;split at h
 ·rename_i v;obtain⟨p,d,r,q⟩:=h;refine⟨p,d,r,λb hb=>⟨λc=>?_,λc=>?_⟩⟩
  ·refine q false H ?_ (Ab.refl _);have e:A3 d 3 3=false:=by rw [<-hb];simpa using c
   cases d<;>first | rfl | skip
   rename_i ds
   match ds,e with
   | [a,b,c],e=>cases e
   | [],_=>rfl
   | [_],_=>rfl
   | [_,_],_=>rfl
   | _::_::_::_::_,_=>rfl
  ·have e:A3 d 3 3=true:=by rw [<-hb];simpa using c
   obtain⟨ds,rfl⟩:=Fb e;obtain⟨a,b,c',rfl⟩:=three e;obtain⟨l,xs,rfl,hl,rs⟩:=Aa.shape r;obtain⟨x,y,z,rfl,rx,ry,rz⟩:=Ac.three rs;refine⟨l,[x,y,z],rfl,Ae.of hl,rfl,x,[y,z],rfl,y,[z],rfl,z,[],rfl,rfl,p,a,rx,λb1 e1=>⟨λc=>⟨p,b,ry,λb2 e2=>⟨λc2=>⟨p,c',rz,λb3 e3=>?_⟩,λc2=>?_⟩⟩,λc=>?_⟩⟩
   ·exact q _ _ (by unfold DR;dsimp only;rw [e3,<-e1,c];rw [show B3 b 0 7=true from by rw [<-c2,e2];rfl];rfl) (Ab.refl _)
   ·exact q _ _ (by unfold DR;dsimp only;rw [<-e1,c];rw [show B3 b 0 7=false from by rw [<-c2,e2];rfl];rfl) (Ab.refl _)
   ·exact q _ _ (by unfold DR;dsimp only;rw [<-e1,c];rfl) (Ab.refl _)
 ·exact h.elim
theorem zao:Ax ["thing","low","high","start"] ["thing"] (Ap wac):=AA
theorem RS (F:Df K mg "is_main" wac ["thing"]) (T:Tx mg) (ya1:Cw P w K mg base) (ya2:Er P w K mg base):Fn P w K mg base 3 "is_main" ["thing"] Hd:=by
 obtain⟨t_MOST_IN_MAIN,g_MOST_IN_MAIN⟩:=T.g_MOST_IN_MAIN;refine F.fn zao (λvs H Q E h=>?_) (λf cdv A outer s H vs Q E hr h=>?_)
 ·exact RM h
 refine⟨_,(Aj (A8 (B5 (BU (Am ya1 (hr.mono (by decide)) rfl (AM (cy 0) Af Af)))) (An (Aw Bw)) A6) (Aj (Ba (cy 0) (AG K (n:=3) (Ai (Ag 1 zao.nd) (Ai (Ag 2 zao.nd) (Ai (Ag 3 zao.nd) AC))))) (An (Aw (Bg (Am ya2 (hr.mono (by decide)) rfl (AM (cy 2) Af (A5 (v:= .int 40) rfl g_MOST_IN_MAIN ⟨t_MOST_IN_MAIN,rfl⟩))) (Bg (Am ya2 (hr.mono (by decide)) rfl (AM (cy 3) Af (cy 2))) (BJ (Am ya2 (hr.mono (by decide)) rfl (AM (cy 1) Af (cy 3)))))))))),?_⟩;unfold Hd Ce at h;split at h
 ·rename_i v;obtain⟨p,d,r,q⟩:=h;refine⟨p,d,r,λb hb=>⟨λc=>?_,λc=>?_⟩⟩
  ·refine q false H ?_ (Ab.refl _);have e:A3 d 3 3=false:=by rw [<-hb];simpa using c
   cases d<;>first | rfl | skip
   rename_i ds
   match ds,e with
   | [a,b,c],e=>cases e
   | [],_=>rfl
   | [_],_=>rfl
   | [_,_],_=>rfl
   | _::_::_::_::_,_=>rfl
  ·have e:A3 d 3 3=true:=by rw [<-hb];simpa using c
   obtain⟨ds,rfl⟩:=Fb e;obtain⟨a,b,c',rfl⟩:=three e;obtain⟨l,xs,rfl,hl,rs⟩:=Aa.shape r;obtain⟨x,y,z,rfl,rx,ry,rz⟩:=Ac.three rs;refine⟨l,[x,y,z],rfl,Ae.of hl,rfl,x,[y,z],rfl,y,[z],rfl,z,[],rfl,rfl,p,b,ry,λb1 e1=>⟨λc1=>?_,λc1=>?_⟩⟩
   ·rw [c1] at e1;cases b<;>first | cases e1 | skip
    rename_i hi;unfold Aa at ry;subst ry;refine⟨p,c',rz,λb2 e2=>⟨λc2=>?_,λc2=>?_⟩⟩
    ·rw [c2] at e2;cases c'<;>first | cases e2 | skip
     rename_i st;unfold Aa at rz;subst rz;refine⟨p,a,rx,λb3 e3=>?_⟩;exact q _ _ (by unfold Et;dsimp only;rw [e3];rw [<-e1,<-e2];rfl) (Ab.refl _)
    ·exact q _ _ (by unfold Et;dsimp only;rw [<-e1,<-e2,c2];rfl) (Ab.refl _)
   ·exact q _ _ (by unfold Et;dsimp only;rw [<-e1,c1];rfl) (Ab.refl _)
 ·exact h.elim
theorem RT:Ax ["thing"] ["thing"] (Ap wa8):=AA
theorem RU (F:Df K mg "are_boilers" wa8 ["thing"]) (T:Tx mg) (yaf:Fn P w K mg base 3 "is_make_and_coal" ["thing"] Ha) (ya1:Cw P w K mg base):Fn P w K mg base 4 "are_boilers" ["thing"] He:=by
 obtain⟨t_MOST_BOILERS,g_MOST_BOILERS⟩:=T.g_MOST_BOILERS;refine F.fn RT (λvs H Q E h=>?_) (λf cdv A outer s H vs Q E hr h=>?_)
 ·exact RN h
 refine⟨_,(An (Aw (Bg (Am ya1 (hr.mono (by decide)) rfl (AM (cy 0) Af (A5 (v:= .int 4) rfl g_MOST_BOILERS ⟨t_MOST_BOILERS,rfl⟩))) (BJ (At (Db rfl) rfl T.b_all boot_all (Ak (A7 ["part"] [none] rfl (BA K (cy 0)) (AE.of rfl) (λ_ _ _ _=>(Ag 0 (AB (by rfl)))) (λ_ _ _ _=>AY) (λ_ _ _ _=>(Am yaf (hr.mono (by decide)) rfl (Ak (cy 0))))))))))),?_⟩;unfold He Ce at h;split at h
 ·rename_i v;obtain⟨p,d,r,q⟩:=h;refine⟨p,d,r,λb hb=>⟨λc=>?_,λc=>?_⟩⟩
  ·rw [c] at hb;obtain⟨ds,rfl⟩:=Fb hb.symm;obtain⟨l,xs,rfl,hl,rs⟩:=Aa.shape r;have hlen:=rs.len;have hsm:ds.length<=4:=by
    have:=hb.symm;unfold A3 at this;simp only [Bool.and_eq_true,decide_eq_true_eq] at this;omega
   refine⟨l,rfl,⟨xs,Ae.of hl⟩,BF (xs:=xs) (λi ys H'=>Ab H H'/\ys=(ds.take i).map λd=>V.bl (Es d)) (by omega) ⟨Ab.refl _,rfl⟩ (λi ys H' h=>by rw [h.2,length_map,length_take];omega) (λi ys H' _ h=>Ae.of (h.1 _ _ hl)) (λi x ys H' hx h=>?_) λys H' h=>?_⟩
   ·obtain⟨d,hd,rd⟩:=rs.got hx;refine⟨trivial,λ_=>⟨p,d,Aa.ev (Ev.same h.1) d x rd,λb H2 e s2=>⟨h.1.trans s2,?_⟩⟩,λc=>by cases c⟩;rw [h.2,e,Mb _ hd]
   ·intro m hm;refine⟨m,ds.map Es,rfl,?_,?_⟩
    ·rw [Ah,h.2,<-hlen,take_length,map_map];rfl
    ·refine q _ _ ?_ (h.1.trans (Ab.new hm));unfold E6;dsimp only;rw [<-hb,all_map,Bool.true_and];rfl
  ·refine q _ _ ?_ (Ab.refl _);have e:A3 d 1 4=false:=by rw [<-hb,c]
   unfold E6;cases d<;>first | rfl | skip
   dsimp only;rw [e];rfl
 ·exact h.elim
theorem RV:Ax ["thing"] ["thing"] (Ap waa):=AA
theorem RW (F:Df K mg "are_engines" waa ["thing"]) (T:Tx mg) (yag:Fn P w K mg base 3 "is_engine" ["thing"] Hc) (ya1:Cw P w K mg base):Fn P w K mg base 4 "are_engines" ["thing"] Hf:=by
 obtain⟨t_MOST_ENGINES,g_MOST_ENGINES⟩:=T.g_MOST_ENGINES;refine F.fn RV (λvs H Q E h=>?_) (λf cdv A outer s H vs Q E hr h=>?_)
 ·exact RO h
 refine⟨_,(An (Aw (Bg (Am ya1 (hr.mono (by decide)) rfl (AM (cy 0) Af (A5 (v:= .int 4) rfl g_MOST_ENGINES ⟨t_MOST_ENGINES,rfl⟩))) (BJ (At (Db rfl) rfl T.b_all boot_all (Ak (A7 ["part"] [none] rfl (BA K (cy 0)) (AE.of rfl) (λ_ _ _ _=>(Ag 0 (AB (by rfl)))) (λ_ _ _ _=>AY) (λ_ _ _ _=>(Am yag (hr.mono (by decide)) rfl (Ak (cy 0))))))))))),?_⟩;unfold Hf Ce at h;split at h
 ·rename_i v;obtain⟨p,d,r,q⟩:=h;refine⟨p,d,r,λb hb=>⟨λc=>?_,λc=>?_⟩⟩
  ·rw [c] at hb;obtain⟨ds,rfl⟩:=Fb hb.symm;obtain⟨l,xs,rfl,hl,rs⟩:=Aa.shape r;have hlen:=rs.len;have hsm:ds.length<=4:=by
    have:=hb.symm;unfold A3 at this;simp only [Bool.and_eq_true,decide_eq_true_eq] at this;omega
   refine⟨l,rfl,⟨xs,Ae.of hl⟩,BF (xs:=xs) (λi ys H'=>Ab H H'/\ys=(ds.take i).map λd=>V.bl (DR d)) (by omega) ⟨Ab.refl _,rfl⟩ (λi ys H' h=>by rw [h.2,length_map,length_take];omega) (λi ys H' _ h=>Ae.of (h.1 _ _ hl)) (λi x ys H' hx h=>?_) λys H' h=>?_⟩
   ·obtain⟨d,hd,rd⟩:=rs.got hx;refine⟨trivial,λ_=>⟨p,d,Aa.ev (Ev.same h.1) d x rd,λb H2 e s2=>⟨h.1.trans s2,?_⟩⟩,λc=>by cases c⟩;rw [h.2,e,Mb _ hd]
   ·intro m hm;refine⟨m,ds.map DR,rfl,?_,?_⟩
    ·rw [Ah,h.2,<-hlen,take_length,map_map];rfl
    ·refine q _ _ ?_ (h.1.trans (Ab.new hm));unfold E7;dsimp only;rw [<-hb,all_map,Bool.true_and];rfl
  ·refine q _ _ ?_ (Ab.refl _);have e:A3 d 0 4=false:=by rw [<-hb,c]
   unfold E7;cases d<;>first | rfl | skip
   dsimp only;rw [e];rfl
 ·exact h.elim
theorem zap:Ax ["thing","boilers","engines","main"] ["thing"] (Ap wa7):=AA
theorem RX (F:Df K mg "is_plant" wa7 ["thing"]) (T:Tx mg) (yah:Fn P w K mg base 4 "are_boilers" ["thing"] He) (yai:Fn P w K mg base 4 "are_engines" ["thing"] Hf) (yaj:Fn P w K mg base 3 "is_main" ["thing"] Hd) (ya1:Cw P w K mg base):Fn P w K mg base 5 "is_plant" ["thing"] Hh:=by
 refine F.fn zap (λvs H Q E h=>?_) (λf cdv A outer s H vs Q E hr h=>?_)
 ·exact RP h
 refine⟨_,(Aj (A8 (B5 (BU (Am ya1 (hr.mono (by decide)) rfl (AM (cy 0) Af Af)))) (An (Aw Bw)) A6) (Aj (Ba (cy 0) (AG K (n:=3) (Ai (Ag 1 zap.nd) (Ai (Ag 2 zap.nd) (Ai (Ag 3 zap.nd) AC))))) (An (Aw (Bg (Am yah (hr.mono (by decide)) rfl (Ak (cy 1))) (Bg (Am yai (hr.mono (by decide)) rfl (Ak (cy 2))) (BJ (Am yaj (hr.mono (by decide)) rfl (Ak (cy 3)))))))))),?_⟩;unfold Hh Ce at h;split at h
 ·rename_i v;obtain⟨p,d,r,q⟩:=h;refine⟨p,d,r,λb hb=>⟨λc=>?_,λc=>?_⟩⟩
  ·refine q false H ?_ (Ab.refl _);have e:A3 d 3 3=false:=by rw [<-hb];simpa using c
   cases d<;>first | rfl | skip
   rename_i ds
   match ds,e with
   | [a,b,c],e=>cases e
   | [],_=>rfl
   | [_],_=>rfl
   | [_,_],_=>rfl
   | _::_::_::_::_,_=>rfl
  ·have e:A3 d 3 3=true:=by rw [<-hb];simpa using c
   obtain⟨ds,rfl⟩:=Fb e;obtain⟨a,b,c',rfl⟩:=three e;obtain⟨l,xs,rfl,hl,rs⟩:=Aa.shape r;obtain⟨x,y,z,rfl,rx,ry,rz⟩:=Ac.three rs;refine⟨l,[x,y,z],rfl,Ae.of hl,rfl,x,[y,z],rfl,y,[z],rfl,z,[],rfl,rfl,p,a,rx,λb1 H1 e1 s1=>⟨λc=>⟨p,b,Aa.ev (Ev.same s1) _ _ ry,λb2 H2 e2 s2=>⟨λc2=>⟨p,c',Aa.ev (Ev.same (s1.trans s2)) _ _ rz,λb3 H3 e3 s3=>?_⟩,λc2=>?_⟩⟩,λc=>?_⟩⟩
   ·exact q _ _ (by unfold E8;dsimp only;rw [e3,<-e1,<-e2,c,c2];rfl) (s1.trans (s2.trans s3))
   ·exact q _ _ (by unfold E8;dsimp only;rw [<-e1,<-e2,c,c2];rfl) (s1.trans s2)
   ·exact q _ _ (by unfold E8;dsimp only;rw [<-e1,c];rfl) s1
 ·exact h.elim
end
end MF
end
section
namespace MF
open L2
def AQ (p:Addr) (H:Hp):Prop:=∃l f:Int,H p=some (.lst [.int l,.int f])
theorem AQ.new {p a:Addr}{H:Hp}{o:HO} (h:AQ p H) (n:H a=none):AQ p (upd H a o):=by
 obtain⟨l,f,e⟩:=h;exact⟨l,f,by rw [Ar (Bb e n)];exact e⟩
theorem AQ.ne {p a:Addr}{H:Hp} (h:AQ p H) (n:H a=none):a≠p:=by obtain⟨l,f,e⟩:=h;exact Ne.symm (Bb e n)
theorem AQ.same {p:Addr}{H H':Hp} (h:AQ p H) (s:Ab H H'):AQ p H':=by obtain⟨l,f,e⟩:=h;exact⟨l,f,s _ _ e⟩
def Hi (K:Fgx):Sp:=λvs H Q _=>match vs with | [.ref a,.int k]=>∃ns:List Int,Al K H a (ns.map V.int)/\0<=k/\∀i,Q (.int i) H | _=>False
def Hj:Sp:=λvs H Q _=>match vs with | [.int c]=>∀p l f,H p=none->Q (.ref p) (upd H p (.lst [.int l,.int f])) | _=>False
def Jo:Sp:=λvs H Q _=>match vs with | [.ref p,.int m]=>AQ p H/\0<m/\m<1000/\∀g H',0<=g->g<m->Ev p H H'->AQ p H'->Q (.int g) H' | _=>False
theorem CZ {ns:List Int}{g:Int} (h0:0<=g) (h1:g<ns.length):∃v∈ns,Bu (ns.map V.int) g=some (.int v):=by
 have hk:g.toNat<ns.length:=by omega
 have e:g=((g.toNat:Nat):Int):=by omega
 refine⟨ns[g.toNat],getElem_mem hk,?_⟩;have q:Bu (ns.map V.int) ((g.toNat:Nat):Int)=some (.int ns[g.toNat]):=BT (by simp [hk]);rw [<-e] at q;exact q
section
variable {P : Program} {w : World} {K : Fgx} {mg : Str -> Option Value} {base : Heap}
theorem RY:Ax ["_law_script","_law_k"] ["_law_script","_law_k"] (Ap waK):=AA
theorem RZ (F:Df K mg "_law_cell" waK ["_law_script","_law_k"]) (T:Tx mg)  :Fn P w K mg base 1 "_law_cell" ["_law_script","_law_k"] (Hi K):=by
 refine F.fn RY (λvs H Q E h=>?_) (λf cdv A outer s H vs Q E hr h=>?_)
 ·unfold Hi at h;split at h;rfl;exact h.elim
 refine⟨_,(Aj (A8 (AS CQ (cy 1) (At (Bh K) rfl T.b_len PySem.boot_len (Ak (cy 0))) (AN _)) (An (Aw (Au (A4 K) (cy 0) (cy 1) (λ_ _=>rfl)))) A6) (An (Aw Af))),?_⟩;unfold Hi at h;split at h
 ·rename_i a k;obtain⟨ns,hs,h0,q⟩:=h;refine⟨a,_,rfl,.inl hs,⟨λc=>?_,λc=>q 0⟩⟩;have c':k<(ns.length:Int):=by have:=of_decide_eq_true c;simpa using this
  obtain⟨v,_,e⟩:=CZ h0 c';exact⟨a,_,k,.int v,rfl,rfl,hs,e,q v⟩
 ·exact h.elim
theorem zax:Ax ["_law_cell_here","_law_left"] ["_law_cell_here"] (Ap waL):=AA
theorem R0 (F:Df K mg "_law_pen" waL ["_law_cell_here"]) (T:Tx mg)  :Fn P w K mg base 1 "_law_pen" ["_law_cell_here"] Hj:=by
 refine F.fn zax (λvs H Q E h=>?_) (λf cdv A outer s H vs Q E hr h=>?_)
 ·unfold Hj at h;split at h;rfl;exact h.elim
 refine⟨_,(Aj (AD (i:=1) zax.nd rfl (Az (by rfl)) (At (ED rfl) rfl T.b_max boot_max (Aq (cy 0) (As Bl Af (cy 0))))) (An (Aw (Bm (Aq (cy 1) (Bo JP rfl T.b_int L2.boot_int (Ak (C3 IJ (cy 1) (As II Af Af) (AN _))))))))),?_⟩;unfold Hj at h;split at h
 ·rename_i c;refine⟨c,0-c,rfl,?_⟩;exact⟨⟨by decide,by decide,by decide⟩,.inr ⟨_,rfl,λp hp=>h p _ _ hp⟩⟩
 ·exact h.elim
theorem zah:Ax ["_law_pen_here","_law_many","_law_left","_law_got","_law_stir"] ["_law_pen_here","_law_many"] (Ap waM):=AA
abbrev Fc (P:Program) (w:World) (K:Fgx) (mg:Str->Option Value) (base:Heap):Prop:=Fn P w K mg base 1 "_law_draw" ["_law_pen_here","_law_many"] Jo
theorem R1 (F:Df K mg "_law_draw" waM ["_law_pen_here","_law_many"]) (T:Tx mg)  :Fc P w K mg base:=by
 refine F.fn zah (λvs H Q E h=>?_) (λf cdv A outer s H vs Q E hr h=>?_)
 ·unfold Jo at h;split at h;rfl;exact h.elim
 refine⟨_,(Aj (A8 (AS DB (Au (A4 K) (cy 0) Af (λ_ _=>rfl)) Af (AN _)) (Aj (Ba (At Nl rfl T.b_divmod boot_divmod (Aq (Au (A4 K) (cy 0) Af (λ_ _=>rfl)) (cy 1))) (AG K (n:=2) (Ai (Ag 2 zah.nd) (Ai (Ag 3 zah.nd) AC)))) (Aj (Ba (cy 2) (Ie (cy 0) Af Fo)) (An (Aw (cy 3))))) A6) (Aj (AD (i:=4) zah.nd rfl (Az (by rfl)) (As EJ (As C9 (As A1 (As EJ (Au (A4 K) (cy 0) Af (λ_ _=>rfl)) Af) Af) Af) Af)) (Aj (AD (i:=4) zah.nd rfl (Az (by rfl)) (As EJ (As A1 (As C9 (cy 4) (cy 4)) Af) Af)) (Aj (Ba (As EJ (As A1 (As C9 (cy 4) Af) Af) Af) (Ie (cy 0) Af Fo)) (An (Aw (As EJ (As IH (Au (A4 K) (cy 0) Af (λ_ _=>rfl)) Af) (cy 1)))))))),?_⟩;unfold Jo at h;split at h
 ·rename_i p m;obtain⟨⟨l,f,hp⟩,h0,h1,q⟩:=h;refine⟨p,[.int l,.int f],1,.int f,rfl,rfl,Al.of hp,rfl,rfl,⟨λc=>?_,λc=>?_⟩⟩
  ·refine⟨p,[.int l,.int f],0,.int l,rfl,rfl,Al.of hp,rfl,l,m,rfl,⟨h0,by omega⟩,λt ht=>?_⟩;have hpt:p≠t:=Bb hp ht;have hp':upd H t (.tup [.int (l / m),.int (l % m)]) p=some (.lst [.int l,.int f]):=by rw [Ar hpt];exact hp
   refine⟨t,[.int (l / m),.int (l % m)],rfl,Ae.of Ah,rfl,_,_,rfl,_,_,rfl,rfl,?_⟩;refine⟨p,[.int l,.int f],0,0,rfl,rfl,hp',rfl,?_⟩;exact q _ _ (Int.emod_nonneg _ (by omega)) (Int.emod_lt_of_pos _ h0) ((Ev.new ht).trans (Ev.pen hp')) ⟨l / m,f,Ah⟩
  ·have b1:∀x:Int,-(2 ^ 64)<x % 2147483629:=λx=>Int.lt_of_lt_of_le (by decide) (Int.emod_nonneg x (by decide))
   have b2:∀x:Int,x % 2147483629<2 ^ 64:=λx=>Int.lt_trans (Int.emod_lt_of_pos x (by decide)) (by decide)
   have g1:(0:Int)<2147483647:=by decide
   have g2:(0:Int)<2147483629:=by decide
   have g3:(0:Int)<2147483587:=by decide
   have c1: -(2 ^ 64)<(69621:Int)/\(69621:Int)<2 ^ 64:=by decide
   have c2: -(2 ^ 64)<(48271:Int)/\(48271:Int)<2 ^ 64:=by decide
   refine⟨p,[.int l,.int f],0,.int l,rfl,rfl,Al.of hp,rfl,g1,.inr c1,g2,.inl ⟨b1 _,b2 _⟩,g3,.inr c2,g2,p,[.int l,.int f],0,0,rfl,rfl,hp,rfl,?_⟩;refine⟨p,_,0,_,rfl,rfl,Al.of Ah,rfl,⟨by decide,by decide⟩,h0,?_⟩;exact q _ _ (Int.emod_nonneg _ (by omega)) (Int.emod_lt_of_pos _ h0) (Ev.pen hp) ⟨_,f,Ah⟩
 ·exact h.elim
end
end MF
end
section
namespace MF
open L2
variable {H H2 H' H3 : Hp} {ys zs : List V} {p p' t : Addr} {Good : PyData -> Prop} {i : Nat}
mutual
def BX:PyData->Bool
 | .list _=>false | .dict _=>false | .tuple ds=>Fd ds | _=>true
def Fd:List PyData->Bool
 | []=>true
 | d::ds=>BX d && Fd ds
end
def TEv (H H':Hp):Prop:=∀a xs,H a=some (.tup xs)->H' a=some (.tup xs)
theorem TEv.trans {H1:Hp} (a:TEv H H1) (b:TEv H1 H2):TEv H H2:=λc o h=>b c o (a c o h)
theorem _root_.L2.Ev.tev {p:Addr}{H H':Hp} (h:Ev p H H'):TEv H H':=λa xs q=>h.tup q
theorem TEv.upd {a:Addr} (h:H a=some (.lst ys)):TEv H (upd H a (.lst zs)):=λb xs q=>by
 rw [Ar (ME q h (by intro z;cases z))];exact q
mutual
theorem Aa.tev (h:TEv H H'):∀(d:PyData) (v:V),BX d=true->Aa p H d v->Aa p' H' d v
 | .none,v,_,q=>q
 | .bool _,v,_,q=>q
 | .int _,v,_,q=>q
 | .str _,v,_,q=>q
 | .tuple ds,v,n,q=>by
  unfold Aa at q ⊢;obtain⟨a,xs,e,r,z⟩:=q;exact⟨a,xs,e,h _ _ r,Ac.tev h ds xs (by unfold BX at n;exact n) z⟩
 | .list ds,v,n,q=>by unfold BX at n;cases n
 | .dict kvs,v,n,q=>by unfold BX at n;cases n
theorem Ac.tev (h:TEv H H'):∀(ds:List PyData) (xs:List V),Fd ds=true->Ac p H ds xs->Ac p' H' ds xs
 | [],xs,_,q=>by unfold Ac at q ⊢;exact q
 | d::ds,xs,n,q=>by
  unfold Ac at q ⊢;unfold Fd at n;obtain⟨n1,n2⟩:=Bool.and_eq_true_iff.mp n;obtain⟨x,r,e,z,zs⟩:=q;exact⟨x,r,e,Aa.tev h d x n1 z,Ac.tev h ds r n2 zs⟩
end
theorem Cf {ds:List PyData} (h:∀d∈ds,BX d=true):Fd ds=true:=by
 induction ds with
 | nil=>rfl
 | cons d ds ih=>unfold Fd;rw [h d mem_cons_self,ih λx hx=>h x (mem_cons_of_mem _ hx)];rfl
theorem _root_.L2.Ev.own {p b:Addr}{H H':Hp}{o:HO} (h:Ev p H H') (n:H b=none):Ev p H (upd H' b o):=λx u q=>(h x u q).elim .inl λr=> .inr (by rw [Ar (Bb q n)];exact r)
def GoodB (d:PyData):Prop:=∃m c:Int,d= .tuple [.int m,.int c]/\1<=m/\m<=9/\1<=c/\c<=9
def GoodE (d:PyData):Prop:=∃a f e:Int,d= .tuple [.int a,.int f,.int e]/\1<=a/\a<=9/\0<=f/\f<=7/\1<=e/\e<=8
theorem GoodB.nm {d:PyData} (h:GoodB d):BX d=true:=by obtain⟨m,c,rfl,_⟩:=h;rfl
theorem GoodE.nm {d:PyData} (h:GoodE d):BX d=true:=by obtain⟨m,c,e,rfl,_⟩:=h;rfl
structure GoodP (bs es:List PyData) (lo hi st:Int):Prop where
 b:∀d∈bs,GoodB d
 b1:1<=bs.length
 b4:bs.length<=4
 e:∀d∈es,GoodE d
 e4:es.length<=4
 lo0:0<=lo
 ls:lo<=st
 sh:st<=hi
 h4:hi<=40
def Mc (bs es:List PyData) (lo hi st:Int):PyData:= .tuple [.tuple bs,.tuple es,.tuple [.int lo,.int hi,.int st]]
def Hk:Sp:=λvs H Q _=>match vs with | [.ref p]=>AQ p H/\∀v H' bs es lo hi st,GoodP bs es lo hi st->Aa p H' (Mc bs es lo hi st) v->Ev p H H'->AQ p H'->Q v H' | _=>False
structure Filled (Good:PyData->Prop) (p b:Addr) (H H2:Hp) (i:Nat):Prop where
 ev:Ev p H H2
 pen:AQ p H2
 ex:∃xs ds,H2 b=some (.lst xs)/\Ac p H2 ds xs/\(∀d∈ds,Good d)/\ds.length=i
theorem Filled.step {b:Addr}{d:PyData}{xs:List V}{ds:List PyData} (nm:∀d,Good d->BX d=true) (hx:H2 b=some (.lst xs)) (rs:Ac p H2 ds xs) (gd:∀d∈ds,Good d) (hl:ds.length=i) (e3:Ev p H2 H3) (nb:b≠p) (hb:H b=none) (ev:Ev p H H3) (pn:AQ p H3)
  (ht:H3 t=none) (rd:Aa p (upd H3 t (.tup ys)) d (.ref t)) (g:Good d):Filled Good p b H (upd (upd H3 t (.tup ys)) b (.lst (xs++[.ref t]))) (i+1):=by
 have hb3:H3 b=some (.lst xs):=e3.lst hx nb;have hbt:b≠t:=Bb hb3 ht;have hbt':upd H3 t (.tup ys) b=some (.lst xs):=by rw [Ar hbt];exact hb3
 have tv:TEv (upd H3 t (.tup ys)) (upd (upd H3 t (.tup ys)) b (.lst (xs++[.ref t]))):=TEv.upd hbt';have pn2:AQ p (upd H3 t (.tup ys)):=pn.new ht;refine⟨(ev.trans (Ev.new ht)).own hb,?_,xs++[.ref t],ds++[d],Ah,?_,?_,by simp [hl]⟩
 ·obtain⟨l,f,e⟩:=pn2;exact⟨l,f,by rw [Ar (Ne.symm nb)];exact e⟩
 ·exact(Ac.tev ((e3.trans (Ev.new ht)).tev.trans tv) ds xs (Cf λd h=>nm d (gd d h)) rs).append (.cons (Aa.tev tv d _ (nm d g) rd) .nil)
 ·intro x hx;rcases mem_append.mp hx with h | h
  ·exact gd x h
  ·rw [mem_singleton.mp h];exact g
theorem Filled.done {b:Addr} (f:Filled Good p b H H2 i) (nb:b≠p) (e3:Ev p H2 H3):∃xs ds,H3 b=some (.lst xs)/\Ac p H3 ds xs/\(∀d∈ds,Good d)/\ds.length=i:=by
 obtain⟨xs,ds,h1,h2,h3,h4⟩:=f.ex;exact⟨xs,ds,e3.lst h1 nb,Ac.ev e3 ds xs h2,h3,h4⟩
theorem Filled.other {b e:Addr}{H4 H7:Hp}{ws:List V} (nm:∀d,Good d->BX d=true) (f:Filled Good p b H H4 i) (e47:Ev p H4 H7) (ht:H7 t=none) (he:H7 e=some (.lst ys)) (hHe:H e=none) (nb:b≠p) (neb:b≠e) (ne:e≠p) (pn:AQ p H7):
  Filled Good p b H (upd (upd H7 t (.tup zs)) e (.lst ws)) i:=by
 obtain⟨xs,ds,h1,h2,h3,h4⟩:=f.ex;have h7:H7 b=some (.lst xs):=e47.lst h1 nb;have het:upd H7 t (.tup zs) e=some (.lst ys):=by rw [Ar (Bb he ht)];exact he
 refine⟨((f.ev.trans e47).trans (Ev.new ht)).own hHe,?_,xs,ds,?_,?_,h3,h4⟩
 ·obtain⟨l,g,z⟩:=pn.new (o:= .tup zs) ht;exact⟨l,g,by rw [Ar (Ne.symm ne)];exact z⟩
 ·rw [Ar neb,Ar (Bb h7 ht)];exact h7
 ·exact Ac.tev ((e47.trans (Ev.new ht)).tev.trans (TEv.upd het)) ds xs (Cf λd h=>nm d (h3 d h)) h2
theorem Dp {n:Nat} (h:n<=1000):n<sizeLine:=Nat.lt_of_le_of_lt h (by decide)
section
variable {P : Program} {w : World} {K : Fgx} {mg : Str -> Option Value} {base : Heap}
theorem za8:Ax ["_law_pen_here","_law_boilers","_law_turn","_law_make","_law_engines","_law_low","_law_high"] ["_law_pen_here"] (Ap waN):=AA
theorem R6 (F:Df K mg "_law_plant" waN ["_law_pen_here"]) (T:Tx mg) (ya0:Fc P w K mg base):Fn P w K mg base 2 "_law_plant" ["_law_pen_here"] Hk:=by
 refine F.fn za8 (λvs H Q E h=>?_) (λf cdv A outer s H vs Q E hr h=>?_)
 ·unfold Hk at h;split at h;rfl;exact h.elim
 refine⟨_,(Aj (AD (i:=1) za8.nd rfl (Az (by rfl)) (Bm BK)) (Aj (Bs PassesOwn.never rfl (BQ rfl T.b_range (Ak (As A1 Af (Am ya0 (hr.mono (by decide)) rfl (Aq (cy 0) Af))))) (Ag 2 za8.nd) (Aj (AD (i:=3) za8.nd rfl (Az (by rfl)) (Au (A4 K) (Bm (AM Af Af (As A1 Af (Am ya0 (hr.mono (by decide)) rfl (Aq (cy 0) Af))))) (Am ya0 (hr.mono (by decide)) rfl (Aq (cy 0) Af)) (λ_ _=>rfl))) (An (Br (BZ PySem.F.plainAttrs_list PySem.F.slot_list_append PySem.F.type_list_append B6 (cy 1) (Ak (Bd (Aq (cy 3) (As A1 Af (Am ya0 (hr.mono (by decide)) rfl (Aq (cy 0) (Au (A4 K) (Bm (Aq Af Af)) (Am ya0 (hr.mono (by decide)) rfl (Aq (cy 0) Af)) (λ_ _=>rfl))))))))))))) (Aj (AD (i:=4) za8.nd rfl (Az (by rfl)) (Bm BK)) (Aj (Bs PassesOwn.never rfl (BQ rfl T.b_range (Ak (Am ya0 (hr.mono (by decide)) rfl (Aq (cy 0) Af)))) (Ag 2 za8.nd) (An (Br (BZ PySem.F.plainAttrs_list PySem.F.slot_list_append PySem.F.type_list_append B6 (cy 4) (Ak (Bd (AM (As A1 Af (Am ya0 (hr.mono (by decide)) rfl (Aq (cy 0) Af))) (Am ya0 (hr.mono (by decide)) rfl (Aq (cy 0) Af)) (As A1 Af (Am ya0 (hr.mono (by decide)) rfl (Aq (cy 0) Af)))))))))) (Aj (AD (i:=5) za8.nd rfl (Az (by rfl)) (Au (A4 K) (Bm (Aq Af (Am ya0 (hr.mono (by decide)) rfl (Aq (cy 0) Af)))) (Am ya0 (hr.mono (by decide)) rfl (Aq (cy 0) Af)) (λ_ _=>rfl))) (Aj (AD (i:=6) za8.nd rfl (Az (by rfl)) (At (Nk rfl) rfl T.b_min boot_min (Aq Af (As A1 (cy 5) (Au (A4 K) (Bm (AV Af (Bp Af Af Af (Am ya0 (hr.mono (by decide)) rfl (Aq (cy 0) Af))))) (Am ya0 (hr.mono (by decide)) rfl (Aq (cy 0) Af)) (λ_ _=>rfl)))))) (An (Aw (Bd (AM (Bo (BI K) rfl T.b_tuple Bz (Ak (cy 1))) (Bo (BI K) rfl T.b_tuple Bz (Ak (cy 4))) (Bd (AM (cy 5) (cy 6) (As A1 (cy 5) (Am ya0 (hr.mono (by decide)) rfl (Aq (cy 0) (As A1 (As Bl (cy 6) (cy 5)) Af)))))))))))))))),?_⟩;unfold Hk at h;split at h
 ·rename_i p;obtain⟨pn,q⟩:=h;refine λb hb=>?_
  have nb:b≠p:=pn.ne hb;refine⟨pn.new hb,by decide,by decide,λg1 H1 a1 b1 e1 pn1=>?_⟩;have ev1:Ev p H H1:=(Ev.new hb).trans e1;have hb1:H1 b=some (.lst []):=e1.lst Ah nb;refine⟨1+g1,rfl,by omega,by omega,C1 (n:=(1+g1).toNat) (λi σ H2=>∃t m,σ=[some (.ref p),some (.ref b),t,m,none,none,none]/\Filled GoodB p b H H2 i)
   ⟨none,none,rfl,ev1,pn1,[],[],hb1,.nil,(λ_ h=>nomatch h),rfl⟩ (λi σ H2 hi hP=>?_) fun σ H2 hP=>?_⟩
  ·obtain⟨t,m,rfl,ev,pn2,xs,ds,hx,rs,gd,hl⟩:=hP;refine⟨pn2,by decide,by decide,λg2 H3 a2 b2 e2 pn3 l1 hl1=>⟨pn3.new hl1,by decide,by decide,λg3 H4 a3 b3 e3 pn4=>?_⟩⟩;obtain⟨v,hv,hat⟩:=CZ (ns:=[1,9,1+g2]) a3 (by simpa using b3);have hb4:H4 b=some (.lst xs):=e3.lst (by rw [Ar (Bb (e2.lst hx nb) hl1)];exact e2.lst hx nb) nb;refine⟨l1,_,g3,.int v,rfl,rfl,Al.of (e3.lst Ah (pn3.ne hl1)),hat,.inl ⟨rfl,_,Al.of hb4⟩,λl2 hl2=>⟨pn4.new hl2,by decide,by decide,λg4 H5 a4 b4 e4 pn5=>?_⟩⟩;obtain⟨v2,hv2,hat2⟩:=CZ (ns:=[3,9]) a4 (by simpa using b4);have hv2':v2=3\/v2=9:=by simpa using hv2
   refine⟨l2,_,g4,.int v2,rfl,rfl,Al.of (e4.lst Ah (pn4.ne hl2)),hat2,pn5,by omega,by omega,λg5 H6 a5 b5 e5 pn6 t1 ht1=>?_⟩;have e26:Ev p H2 H6:=e2.trans ((Ev.new hl1).trans (e3.trans ((Ev.new hl2).trans (e4.trans e5))));have hv':v=1\/v=9\/v=1+g2:=by simpa using hv
   refine⟨b,xs,.ref t1,rfl,rfl,by rw [Ar (Bb (e26.lst hx nb) ht1)];exact e26.lst hx nb,Dp (by rw [<-rs.len,hl];omega),_,_,rfl,?_⟩;exact Filled.step (λd h=>h.nm) hx rs gd hl e26 nb hb (ev.trans e26) pn6 ht1 (Aa.tup Ah (.cons Aa.int (.cons Aa.int .nil))) ⟨v,1+g5,rfl,by omega,by omega,by omega,by omega⟩
  obtain⟨t,m,rfl,fb⟩:=hP;refine λe he=>?_
  have ne:e≠p:=fb.pen.ne he;have hne:H e=none:=by
   cases z:H e with
   | none=>rfl
   | some o=>exact((fb.ev e o z).elim (fun⟨x,_⟩=>absurd x ne) λx=>by rw [x] at he;cases he)
  have neb:e≠b:=by
   obtain⟨xs,ds,h1,_⟩:=fb.ex;exact Ne.symm (Bb h1 he)
  refine⟨fb.pen.new he,by decide,by decide,λg6 H3 a6 b6 e6 pn3=>?_⟩;have fb3:Filled GoodB p b H H3 (1+g1).toNat:=⟨fb.ev.trans ((Ev.new he).trans e6),pn3,fb.done nb ((Ev.new he).trans e6)⟩;refine⟨g6,rfl,by omega,by omega,C1 (n:=g6.toNat) (λi σ H4=>∃t m,σ=[some (.ref p),some (.ref b),t,m,some (.ref e),none,none]/\Filled GoodB p b H H4 (1+g1).toNat/\Filled GoodE p e H H4 i)
   ⟨_,_,rfl,fb3,fb3.ev,pn3,[],[],e6.lst Ah ne,.nil,(λ_ h=>nomatch h),rfl⟩ (λi σ H4 hi hP=>?_) fun σ H4 hP=>?_⟩
  ·obtain⟨t,m,rfl,fb4,ev,pn2,xs,ds,hx,rs,gd,hl⟩:=hP;refine⟨.inl ⟨rfl,_,Al.of hx⟩,pn2,by decide,by decide,λg7 H5 a7 b7 e7 pn5=>⟨pn5,by decide,by decide,λg8 H6 a8 b8 e8 pn6=>⟨pn6,by decide,by decide,λg9 H7 a9 b9 e9 pn7 t1 ht1=>?_⟩⟩⟩;have e47:Ev p H4 H7:=e7.trans (e8.trans e9);have he7:=e47.lst hx ne;refine⟨e,xs,.ref t1,rfl,rfl,by rw [Ar (Bb he7 ht1)];exact he7,Dp (by rw [<-rs.len,hl];omega),_,_,rfl,?_,?_⟩
   ·exact Filled.other (λd h=>h.nm) fb4 e47 ht1 he7 hne nb (Ne.symm neb) ne pn7
   ·exact Filled.step (λd h=>h.nm) hx rs gd hl e47 ne hne (ev.trans e47) pn7 ht1 (Aa.tup Ah (.cons Aa.int (.cons Aa.int (.cons Aa.int .nil)))) ⟨1+g7,g8,1+g9,rfl,by omega,by omega,by omega,by omega,by omega,by omega⟩
  obtain⟨t,m,rfl,fb4,fe4⟩:=hP;have pn4:=fb4.pen;refine⟨pn4,by decide,by decide,λg7 H5 a7 b7 e7 pn5 l1 hl1=>⟨pn5.new hl1,by decide,by decide,λg8 H6 a8 b8 e8 pn6=>?_⟩⟩;obtain⟨low,hlow,hat⟩:=CZ (ns:=[0,g7]) a8 (by simpa using b8);have hlow':low=0\/low=g7:=by simpa using hlow
  refine⟨l1,_,g8,.int low,rfl,rfl,Al.of (e8.lst Ah (pn5.ne hl1)),hat,pn6,by decide,by decide,λg9 H7 a9 b9 e9 pn7 l2 hl2=>⟨pn7.new hl2,by decide,by decide,λg10 H8 a10 b10 e10 pn8=>?_⟩⟩;obtain⟨x,hx,hat2⟩:=CZ (ns:=[0,3,10,40,g9]) a10 (by simpa using b10);have hx':x=0\/x=3\/x=10\/x=40\/x=g9:=by simpa using hx
  refine⟨l2,_,g10,.int x,rfl,rfl,Al.of (e10.lst Ah (pn7.ne hl2)),hat2,40,low+x,rfl,?_⟩;have hhi:∃hi:Int,(if low+x<40 then low+x else 40)=hi/\low<=hi/\hi<=40:=by
   by_cases c:low+x<40
   ·exact⟨low+x,if_pos c,by omega,by omega⟩
   ·exact⟨40,if_neg c,by omega,by omega⟩
  obtain⟨hi,ehi,hi1,hi2⟩:=hhi;rw [ehi];have e48:Ev p H4 H8:=e7.trans ((Ev.new hl1).trans (e8.trans (e9.trans ((Ev.new hl2).trans e10))));obtain⟨xs,bs,hb8,rb8,gb,lb⟩:=fb4.done nb e48;obtain⟨ys,es,he8,re8,ge,le⟩:=fe4.done ne e48;refine⟨b,xs,rfl,.inl ⟨Al.of hb8,λc1 hc1=>⟨e,ys,rfl,.inl ⟨Al.of (by rw [Ar (Bb he8 hc1)];exact he8),λc2 hc2=>⟨(pn8.new hc1).new hc2,by omega,by omega,λg11 H9 a11 b11 e11 pn9 c3 hc3 c4 hc4=>?_⟩⟩⟩⟩⟩;have e89:Ev p H8 (upd (upd H9 c3 (.tup [.int low,.int hi,.int (low+g11)])) c4 (.tup [.ref c1,.ref c2,.ref c3])):=(Ev.new hc1).trans ((Ev.new hc2).trans (e11.trans ((Ev.new hc3).trans (Ev.new hc4))));have t1:upd (upd H9 c3 (.tup [.int low,.int hi,.int (low+g11)])) c4 (.tup [.ref c1,.ref c2,.ref c3]) c1=some (.tup xs):=
   ((Ev.new hc2).trans (e11.trans ((Ev.new hc3).trans (Ev.new hc4)))).tup Ah
  have t2:upd (upd H9 c3 (.tup [.int low,.int hi,.int (low+g11)])) c4 (.tup [.ref c1,.ref c2,.ref c3]) c2=some (.tup ys):=(e11.trans ((Ev.new hc3).trans (Ev.new hc4))).tup Ah;have t3:upd (upd H9 c3 (.tup [.int low,.int hi,.int (low+g11)])) c4 (.tup [.ref c1,.ref c2,.ref c3]) c3=some (.tup [.int low,.int hi,.int (low+g11)]):=(Ev.new (p:=p) hc4).tup Ah;refine q _ _ bs es low hi (low+g11) ⟨gb,by omega,by omega,ge,by omega,by omega,by omega,by omega,hi2⟩ ?_ (fb4.ev.trans (e48.trans e89)) ((pn9.new hc3).new hc4);exact Aa.tup Ah (.cons (Aa.tup t1 (Ac.ev e89 _ _ rb8)) (.cons (Aa.tup t2 (Ac.ev e89 _ _ re8)) (.cons (Aa.tup t3 (.cons Aa.int (.cons Aa.int (.cons Aa.int .nil)))) .nil)))
 ·exact h.elim
end
end MF
end
section
namespace MF
open L2
variable {p : Addr} {H : Hp} {v : V}
theorem Co {i lo hi:Int} (h1:lo<=i) (h2:i<=hi):B3 (.int i) lo hi=true:=by unfold B3;dsimp only;rw [decide_eq_true h1,decide_eq_true h2];rfl
theorem Fe {ds:List PyData}{lo hi:Int} (h1:lo<=(ds.length:Int)) (h2:(ds.length:Int)<=hi):A3 (.tuple ds) lo hi=true:=by unfold A3;dsimp only;rw [decide_eq_true h1,decide_eq_true h2];rfl
theorem R7 {P:PL} (h:P.ok):E8 P.d=true:=by
 have b1:=h.b1;have b4:=h.b4;have e4:=h.e4;have hb:E6 (.tuple (P.bs.map bD))=true:=by
  unfold E6;dsimp only;rw [Fe (by rw [length_map];omega) (by rw [length_map];omega),Bool.true_and,all_eq_true];intro d hd;obtain⟨q,hq,rfl⟩:=mem_map.mp hd;obtain⟨q1,q2,q3,q4⟩:=h.b q hq;unfold Es;dsimp only;rw [Co q1 q2,Co q3 q4];rfl
 have he:E7 (.tuple (P.es.map eD))=true:=by
  unfold E7;dsimp only;rw [Fe (by rw [length_map];omega) (by rw [length_map];omega),Bool.true_and,all_eq_true];intro d hd;obtain⟨q,hq,rfl⟩:=mem_map.mp hd;obtain⟨q1,q2,q3,q4,q5,q6⟩:=h.e q hq;unfold DR;dsimp only;rw [Co q1 q2,Co q3 q4,Co q5 q6];rfl
 have h0:=h.lo0;have h1:=h.ls;have h2:=h.sh;have h3:=h.h4;have hm:Et (.tuple [.int P.lo,.int P.hi,.int P.st])=true:=by
  unfold Et;dsimp only;rw [Co (by omega) h3,Co (by omega) h2,Co h0 h1];rfl
 unfold E8 PL.d;dsimp only;rw [hb,he,hm];rfl
def Hl:Sp:=λvs H Q _=>match vs with | [v]=>∃p P,PL.ok P/\Aa p H P.d v/\∀H',Ab H H'->Q .non H' | _=>False
def Hn:Sp:=λvs H Q _=>match vs with | [v,.int nb,.int hs]=>∃p x n h,FT.ok x n h/\nb=(n:Int)/\hs=(h:Int)/\Aa p H x.d v/\∀H',Ab H H'->Q (.bl true) H' | _=>False
def Ho:Sp:=λvs H Q _=>match vs with | [v,u]=>∃p P S,PL.ok P/\SY.ok S P.bs.length/\Aa p H P.d v/\Aa p H S.d u/\∀H',Ab H H'->Q (.bl true) H' | _=>False
def FM:Sp:=λvs H Q _=>match vs with | [v,u]=>∃p P S,PL.ok P/\SY.ok S P.bs.length/\Aa p H P.d v/\Aa p H S.d u/\∀H',Ab H H'->Q .non H' | _=>False
def Hq:Sp:=λvs H Q _=>match vs with | [.ref a,.int m]=>∃ws:List Bool,H a=some (.lst (ws.map wV))/\∀H',Ab H H'->Q (.int (BN ws m)) H' | _=>False
def Hr:Sp:=λvs H Q _=>match vs with | [v,.int b,.int h]=>∃p fs,Aa p H (.tuple (fs.map FT.d)) v/\fs.length<=1000/\∀a H',Ab H H'->H' a=some (.lst ((Bv fs b h).map wV))->Q (.ref a) H' | _=>False
def Hs:Sp:=λvs H Q _=>match vs with | [v,u,.int h]=>∃p bs fs,Aa p H (.tuple (bs.map bD)) v/\Aa p H (.tuple (fs.map FT.d)) u/\bs.length<=1000/\fs.length<=1000/\ret H Q p (AJ (BV bs fs h)) | _=>False
def FN:Sp:=λvs H Q _=>match vs with | [v,u]=>∃p P S,PL.ok P/\SY.ok S P.bs.length/\Aa p H P.d v/\Aa p H S.d u/\ret H Q p (Dd P S) | _=>False
def Hu:Sp:=λvs H Q _=>match vs with | [v,.int h]=>∃p q,Aa p H (eD q) v/\1<=q.2.2/\Q (.int (drawn q h)) H | _=>False
def FO:Sp:=λvs H Q _=>match vs with | [v,u]=>∃p P S,PL.ok P/\SY.ok S P.bs.length/\Aa p H P.d v/\Aa p H S.d u/\ret H Q p (Fy P S) | _=>False
theorem Aa.plant {P:PL} (r:Aa p H P.d v):∃A B E M xb xe,v= .ref A/\H A=some (.tup [.ref B,.ref E,.ref M])/\H B=some (.tup xb)/\Ac p H (P.bs.map bD) xb/\H E=some (.tup xe)/\Ac p H (P.es.map eD) xe/\H M=some (.tup [.int P.lo,.int P.hi,.int P.st]):=by
 unfold PL.d at r;obtain⟨A,xs,rfl,hA,rs⟩:=Aa.shape r;obtain⟨x,y,z,rfl,rx,ry,rz⟩:=Ac.three rs;obtain⟨B,xb,rfl,hB,rb⟩:=Aa.shape rx;obtain⟨E,xe,rfl,hE,re⟩:=Aa.shape ry;obtain⟨M,xm,rfl,hM,rm⟩:=Aa.shape rz;obtain⟨m1,m2,m3,rfl,r1,r2,r3⟩:=Ac.three rm;unfold Aa at r1 r2 r3;subst r1 r2 r3;exact⟨A,B,E,M,xb,xe,rfl,hA,hB,rb,hE,re,hM⟩
theorem Aa.story {S:SY} (r:Aa p H S.d v):∃A B E xf,v= .ref A/\H A=some (.tup [.ref B,.ref E])/\H B=some (.tup (S.ex.map V.int))/\H E=some (.tup xf)/\Ac p H (S.fs.map FT.d) xf:=by
 unfold SY.d at r;obtain⟨A,xs,rfl,hA,rs⟩:=Aa.shape r;obtain⟨x,y,rfl,rx,ry⟩:=Ac.two rs;obtain⟨B,xb,rfl,hB,rb⟩:=Aa.shape rx;obtain⟨E,xe,rfl,hE,re⟩:=Aa.shape ry;rw [Ac.ints rb] at hB;exact⟨A,B,E,xe,rfl,hA,hB,hE,re⟩
section
variable {P : Program} {w : World} {K : Fgx} {mg : Str -> Option Value} {base : Heap}
theorem R8:Ax ["plant"] ["plant"] (Ap wad):=AA
theorem R9 (F:Df K mg "need_plant" wad ["plant"]) (T:Tx mg) (yak:Fn P w K mg base 5 "is_plant" ["thing"] Hh):Fn P w K mg base 6 "need_plant" ["plant"] Hl:=by
 refine F.fn R8 (λvs H Q E h=>?_) (λf cdv A outer s H vs Q E hr h=>?_)
 ·unfold Hl at h;split at h;rfl;exact h.elim
 refine⟨_,(An (A8 (B5 (BU (Am yak (hr.mono (by decide)) rfl (Ak (cy 0))))) (An F6) A6)),?_⟩;unfold Hl at h;split at h
 ·rename_i v;obtain⟨p,P,ok,r,q⟩:=h;refine⟨p,_,r,λb H' hb s=>⟨λc=>?_,λc=>q H' s⟩⟩;rw [hb,R7 ok] at c;cases c
 ·exact h.elim
theorem zai:Ax ["thing","boilers","hours","boiler","word","first","last"] ["thing","boilers","hours"] (Ap waf):=AA
theorem Sa (F:Df K mg "is_fault" waf ["thing","boilers","hours"]) (T:Tx mg) (ya1:Cw P w K mg base) (ya2:Er P w K mg base):Fn P w K mg base 3 "is_fault" ["thing","boilers","hours"] Hn:=by
 refine F.fn zai (λvs H Q E h=>?_) (λf cdv A outer s H vs Q E hr h=>?_)
 ·unfold Hn at h;split at h;rfl;exact h.elim
 refine⟨_,(Aj (A8 (B5 (BU (Am ya1 (hr.mono (by decide)) rfl (AM (cy 0) Af Af)))) (An (Aw Bw)) A6) (Aj (Ba (cy 0) (AG K (n:=4) (Ai (Ag 3 zai.nd) (Ai (Ag 4 zai.nd) (Ai (Ag 5 zai.nd) (Ai (Ag 6 zai.nd) AC)))))) (An (Aw (Bg (Am ya2 (hr.mono (by decide)) rfl (AM (cy 3) Af (As Bl (cy 1) Af))) (Bg (C3 (Fx K) (cy 4) (Bd (Aq AT AT)) (by with_unfolding_all rfl)) (Bg (Am ya2 (hr.mono (by decide)) rfl (AM (cy 6) Af (As Bl (cy 2) Af))) (BJ (Am ya2 (hr.mono (by decide)) rfl (AM (cy 5) Af (cy 6))))))))))),?_⟩;unfold Hn at h;split at h
 ·rename_i v nb hs;obtain⟨p,x,n,k,ok,rfl,rfl,r,q⟩:=h;obtain⟨o1,o2,o3,o4,o5⟩:=ok;refine⟨p,_,r,λb hb=>⟨λc=>?_,λc=>?_⟩⟩
  ·rw [hb] at c;cases c
  ·obtain⟨l,xs,rfl,hl,rs⟩:=Aa.shape r;obtain⟨y1,y2,y3,y4,rfl,r1,r2,r3,r4⟩:=Ac.four rs;unfold Aa at r1 r2 r3 r4;subst r1 r2 r3 r4;refine⟨l,_,rfl,Ae.of hl,rfl,_,_,rfl,_,_,rfl,_,_,rfl,_,_,rfl,rfl,p,.int x.b,Aa.int,λb1 e1=>⟨λ_=>?_,λc1=>?_⟩⟩
   ·refine λt ht=>⟨t,_,rfl,.inr (Ae.of Ah),rfl,rfl,⟨λ_=>?_,λc2=>?_⟩⟩
    ·refine⟨p,.int x.l,Aa.int,λb2 e2=>⟨λ_=>⟨p,.int x.f,Aa.int,λb3 e3=>?_⟩,λc2=>?_⟩⟩
     ·rw [Co o3 o4] at e3;subst e3;exact q _ (Ab.new ht)
     ·rw [Co (by omega) (by omega)] at e2;rw [e2] at c2;cases c2
    ·rw [if_neg (by decide)] at c2;have:=OQ x.out;unfold wV at this;rw [this] at c2;cases c2
   ·rw [Co o1 (by omega)] at e1;rw [e1] at c1;cases c1
 ·exact h.elim
theorem zat:Ax ["plant","thing","extra","faults"] ["plant","thing"] (Ap wae):=AA
theorem Sb (F:Df K mg "is_story" wae ["plant","thing"]) (T:Tx mg) (yal:Fn P w K mg base 3 "is_fault" ["thing","boilers","hours"] Hn) (ya1:Cw P w K mg base) (ya2:Er P w K mg base) (yam:Fn P w K mg base 6 "need_plant" ["plant"] Hl):Fn P w K mg base 7 "is_story" ["plant","thing"] Ho:=by
 obtain⟨t_MOST_EXTRA,g_MOST_EXTRA⟩:=T.g_MOST_EXTRA;obtain⟨t_MOST_FAULTS,g_MOST_FAULTS⟩:=T.g_MOST_FAULTS;obtain⟨t_MOST_HOURS,g_MOST_HOURS⟩:=T.g_MOST_HOURS;refine F.fn zat (λvs H Q E h=>?_) (λf cdv A outer s H vs Q E hr h=>?_)
 ·unfold Ho at h;split at h;rfl;exact h.elim
 refine⟨_,(Aj (Br (Am yam (hr.mono (by decide)) rfl (Ak (cy 0)))) (Aj (A8 (B5 (BU (Am ya1 (hr.mono (by decide)) rfl (AM (cy 1) Af Af)))) (An (Aw Bw)) A6) (Aj (Ba (cy 1) (AG K (n:=2) (Ai (Ag 2 zat.nd) (Ai (Ag 3 zat.nd) AC)))) (An (Aw (Bg (Am ya1 (hr.mono (by decide)) rfl (AM (cy 2) Af (A5 (v:= .int 8) rfl g_MOST_HOURS ⟨t_MOST_HOURS,rfl⟩))) (Bg (At (Db rfl) rfl T.b_all boot_all (Ak (A7 ["units"] [none] rfl (BA K (cy 2)) (AE.of rfl) (λ_ _ _ _=>(Ag 0 (AB (by rfl)))) (λ_ _ _ _=>AY) (λ_ _ _ _=>(Am ya2 (hr.mono (by decide)) rfl (AM (cy 0) Af (A5 (v:= .int 20) rfl g_MOST_EXTRA ⟨t_MOST_EXTRA,rfl⟩))))))) (Bg (Am ya1 (hr.mono (by decide)) rfl (AM (cy 3) Af (A5 (v:= .int 4) rfl g_MOST_FAULTS ⟨t_MOST_FAULTS,rfl⟩))) (BJ (At (Db rfl) rfl T.b_all boot_all (Ak (A7 ["part","extra","plant"] [none,some 2,some 0] rfl (BA K (cy 3)) (AE.of rfl) (λ_ _ _ _=>(Ag 0 (AB (by rfl)))) (λ_ _ _ _=>AY) (λ_ _ _ _=>(Am yal (hr.mono (by decide)) rfl (AM (cy 0) (At (Bh K) rfl T.b_len PySem.boot_len (Ak (Au (AF K) (cy 2) Af (λ_ _=>rfl)))) (At (Bh K) rfl T.b_len PySem.boot_len (Ak (cy 1)))))))))))))))))),?_⟩;unfold Ho at h;split at h
 ·rename_i v u;obtain⟨p,P,S,ok,so,r,ru,q⟩:=h;refine⟨p,P,ok,r,λH1 s1=>⟨p,S.d,Aa.ev (Ev.same s1) _ _ ru,λb hb=>⟨λc=>?_,λc=>?_⟩⟩⟩
  ·rw [hb] at c;cases c
  ·obtain⟨A,B,E,xf,rfl,hA,hB,hE,rf⟩:=Aa.story (Aa.ev (Ev.same s1) _ _ ru);obtain⟨PA,PB,PE,PM,xb,xe,rfl,pA,pB,rb,pE,re,pM⟩:=Aa.plant (Aa.ev (Ev.same s1) _ _ r);have x1:=so.x1;have x8:=so.x8;have f4:=so.f4;have lf:=rf.len;rw [length_map] at lf;have lb:=rb.len;rw [length_map] at lb;refine⟨A,_,rfl,Ae.of hA,rfl,_,_,rfl,_,_,rfl,rfl,p,_,Aa.row hB,λb1 e1=>⟨λ_=>?_,λc1=>?_⟩⟩
   ·refine⟨B,rfl,⟨_,Ae.of hB⟩,BF (xs:=S.ex.map V.int) (λi ys H'=>Ab H1 H'/\ys=List.replicate i (V.bl true)) (by rw [length_map];omega) ⟨Ab.refl _,rfl⟩ (λi ys H' h=>by rw [h.2,length_replicate];omega) (λi ys H' _ h=>Ae.of (h.1 _ _ hB)) (λi x ys H' hx h=>?_) λys H' h=>?_⟩
    ·rw [getElem?_map] at hx;cases z:S.ex[i]? with
     | none=>rw [z] at hx;cases hx
     | some n=>
      rw [z] at hx;cases hx;obtain⟨n0,n20⟩:=so.x n (mem_of_getElem? z);refine⟨trivial,λ_=>⟨p,.int n,Aa.int,λb e=>⟨h.1,?_⟩⟩,λc=>by cases c⟩;rw [Co n0 n20] at e;rw [h.2,e,replicate_succ']
    ·intro m hm;refine⟨m,List.replicate S.ex.length true,rfl,by rw [Ah,h.2,length_map,map_replicate],⟨λ_=>?_,λc=>?_⟩⟩
     ·have s2:Ab H1 (upd H' m (.lst ys)):=h.1.trans (Ab.new hm);refine⟨p,_,Aa.tup (s2 _ _ hE) (Ac.ev (Ev.same s2) _ _ rf),λb2 e2=>⟨λ_=>?_,λc2=>?_⟩⟩
      ·refine⟨E,rfl,⟨_,Ae.of (s2 _ _ hE)⟩,BF (xs:=xf) (λi zs H2=>Ab H1 H2/\zs=List.replicate i (V.bl true)) (by omega) ⟨s2,rfl⟩ (λi ys H' h=>by rw [h.2,length_replicate];omega) (λi ys H' _ h=>Ae.of (h.1 _ _ hE)) (λi x zs H2 hx h2=>?_) λzs H2 h2=>?_⟩
       ·obtain⟨f,hf,rd⟩:=Ac.mapGot rf hx;refine⟨⟨rfl,rfl,trivial⟩,λ_=>?_,λc=>by cases c⟩;refine⟨PA,_,0,.ref PB,rfl,rfl,Ae.of (h2.1 _ _ pA),rfl,PB,xb,rfl,.inr (Ae.of (h2.1 _ _ pB)),B,_,rfl,.inr (Ae.of (h2.1 _ _ hB)),?_⟩;refine⟨p,f,P.bs.length,S.ex.length,so.f f (mem_of_getElem? hf),by rw [lb],by rw [length_map],Aa.ev (Ev.same h2.1) _ _ rd,λH3 s3=>⟨h2.1.trans s3,?_⟩⟩;rw [h2.2,replicate_succ']
       ·intro m2 hm2;refine⟨m2,List.replicate xf.length true,rfl,by rw [Ah,h2.2,map_replicate],?_⟩;have ea:(List.replicate xf.length true).all id=true:=by simp
        rw [ea];exact q _ (s1.trans (h2.1.trans (Ab.new hm2)))
      ·rw [Fe (by rw [length_map];omega) (by rw [length_map];omega)] at e2;rw [e2] at c2;cases c2
     ·have ea:(List.replicate S.ex.length true).all id=true:=by simp
      rw [ea] at c;cases c
   ·rw [Fe (by rw [length_map];omega) (by rw [length_map];omega)] at e1;rw [e1] at c1;cases c1
 ·exact h.elim
theorem Sc:Ax ["plant","story"] ["plant","story"] (Ap wag):=AA
theorem Sd (F:Df K mg "need_story" wag ["plant","story"]) (T:Tx mg) (yan:Fn P w K mg base 7 "is_story" ["plant","thing"] Ho):Fn P w K mg base 8 "need_story" ["plant","story"] FM:=by
 refine F.fn Sc (λvs H Q E h=>?_) (λf cdv A outer s H vs Q E hr h=>?_)
 ·unfold FM at h;split at h;rfl;exact h.elim
 refine⟨_,(An (A8 (B5 (BU (Am yan (hr.mono (by decide)) rfl (Aq (cy 0) (cy 1))))) (An F6) A6)),?_⟩;unfold FM at h;split at h
 ·rename_i v u;obtain⟨p,P,S,ok,so,r,ru,q⟩:=h;exact⟨p,P,S,ok,so,r,ru,λH' s=>⟨λc=>(by cases c),λc=>q H' s⟩⟩
 ·exact h.elim
theorem Se:Ax ["words","make"] ["words","make"] (Ap wak):=AA
theorem Sf (F:Df K mg "cap_under" wak ["words","make"]) (T:Tx mg)  :Fn P w K mg base 1 "cap_under" ["words","make"] Hq:=by
 refine F.fn Se (λvs H Q E h=>?_) (λf cdv A outer s H vs Q E hr h=>?_)
 ·unfold Hq at h;split at h;rfl;exact h.elim
 refine⟨_,(Aj (A8 (AS (Fx K) AT (cy 0) (by with_unfolding_all rfl)) (An (Aw Af)) A6) (Aj (A8 (AS (Fx K) AT (cy 0) (by with_unfolding_all rfl)) (An (Aw (As IH (cy 1) Af))) A6) (An (Aw (cy 1))))),?_⟩;unfold Hq at h;split at h
 ·rename_i a m;obtain⟨ws,ha,q⟩:=h;refine⟨a,_,rfl,.inl (Al.of ha),rfl,GC,⟨λc=>?_,λc=>?_⟩⟩
  ·rw [if_neg (by decide),GB] at c;have e:BN ws m=0:=by unfold BN;rw [if_pos c]
   rw [e] at q;exact q _ (Ab.refl _)
  ·rw [if_neg (by decide),GB] at c;refine⟨a,_,rfl,.inl (Al.of ha),rfl,GC,⟨λc2=>?_,λc2=>?_⟩⟩
   ·rw [if_neg (by decide),IO] at c2;have e:BN ws m=m / 2:=by unfold BN;rw [if_neg (by rw [c];decide),if_pos c2]
    rw [e] at q;exact⟨⟨by decide,by decide⟩,q _ (Ab.refl _)⟩
   ·rw [if_neg (by decide),IO] at c2;have e:BN ws m=m:=by unfold BN;rw [if_neg (by rw [c];decide),if_neg (by rw [c2];decide)]
    rw [e] at q;exact q _ (Ab.refl _)
 ·exact h.elim
theorem Sg:Ax ["faults","boiler","hour"] ["faults","boiler","hour"] (Ap waj):=AA
theorem Sh (F:Df K mg "words_for" waj ["faults","boiler","hour"]) (T:Tx mg)  :Fn P w K mg base 1 "words_for" ["faults","boiler","hour"] Hr:=by
 refine F.fn Sg (λvs H Q E h=>?_) (λf cdv A outer s H vs Q E hr h=>?_)
 ·unfold Hr at h;split at h;rfl;exact h.elim
 refine⟨_,(An (Aw (A7 ["at","word","first","last","boiler","hour"] [none,none,none,none,some 1,some 2] rfl (BA K (cy 0)) (AE.of rfl) (λ_ _ _ _=>(AG K (n:=4) (Ai (Ag 0 (AB (by rfl))) (Ai (Ag 1 (AB (by rfl))) (Ai (Ag 2 (AB (by rfl))) (Ai (Ag 3 (AB (by rfl))) AC)))))) (λ_ _ _ _=>(Fp (PW.pt (Da (AS DB (cy 0) (cy 4) (AN _)) (Dv (Om DG DG (cy 2) (cy 5) (cy 3))))))) (λ_ _ _ _=>(cy 1))))),?_⟩;unfold Hr at h;split at h
 ·rename_i v b hr';obtain⟨p,fs,r,hl,q⟩:=h;obtain⟨A,xs,rfl,hA,rs⟩:=Aa.shape r;have ln:=rs.len;rw [length_map] at ln;refine⟨A,rfl,⟨xs,Ae.of hA⟩,BF (xs:=xs) (λi ys H'=>Ab H H'/\ys=(Bv (fs.take i) b hr').map wV) (by omega) ⟨Ab.refl _,rfl⟩ (λi ys H' h=>?_) (λi ys H' _ h=>Ae.of (h.1 _ _ hA)) (λi x ys H' hx h=>?_) λys H' h=>?_⟩
  ·rw [h.2,length_map];unfold Bv;rw [length_map];exact Nat.le_trans (List.length_filter_le _ _) (by rw [length_take];omega)
  ·obtain⟨f,hf,rd⟩:=Ac.mapGot rs hx;obtain⟨l,zs,rfl,hl',rz⟩:=Aa.shape (Aa.ev (Ev.same h.1) _ _ rd);obtain⟨y1,y2,y3,y4,rfl,r1,r2,r3,r4⟩:=Ac.four rz;unfold Aa at r1 r2 r3 r4;subst r1 r2 r3 r4;have nx:=KU (b:=b) (h:=hr') hf;have no:B1 b hr' f=false->Ab H H'/\ys=(Bv (fs.take (i+1)) b hr').map wV:=λe=>⟨h.1,by rw [nx,e,if_neg (by decide)];exact h.2⟩
   refine⟨l,_,rfl,Ae.of hl',rfl,_,_,rfl,_,_,rfl,_,_,rfl,_,_,rfl,rfl,⟨rfl,rfl,trivial⟩,rfl,⟨λc1=>⟨λc2=>⟨λc3=>?_,λc3=>no ?_⟩,λc2=>⟨λz=>(by cases z),λ_=>no ?_⟩⟩,λc1=>⟨λz=>(by cases z),λ_=>no ?_⟩⟩⟩
   ·have e:B1 b hr' f=true:=by
     rw [DA] at c1;unfold B1;rw [c1,c2,c3];rfl
    refine⟨h.1,?_⟩;rw [nx,if_pos e,map_append,h.2];rfl
   ·unfold B1;rw [c3,Bool.and_false]
   ·unfold B1;rw [c2,Bool.and_false,Bool.false_and]
   ·rw [DA] at c1;unfold B1;rw [c1,Bool.false_and,Bool.false_and]
  ·intro m hm;refine q m _ (h.1.trans (Ab.new hm)) ?_;rw [Ah,h.2,take_of_length_le (by omega)]
 ·exact h.elim
theorem Si:Ax ["boilers","faults","hour"] ["boilers","faults","hour"] (Ap wai):=AA
theorem Sj (F:Df K mg "caps_in" wai ["boilers","faults","hour"]) (T:Tx mg) (yao:Fn P w K mg base 1 "cap_under" ["words","make"] Hq) (yap:Fn P w K mg base 1 "words_for" ["faults","boiler","hour"] Hr):Fn P w K mg base 2 "caps_in" ["boilers","faults","hour"] Hs:=by
 refine F.fn Si (λvs H Q E h=>?_) (λf cdv A outer s H vs Q E hr h=>?_)
 ·unfold Hs at h;split at h;rfl;exact h.elim
 refine⟨_,(An (Aw (Bo (BI K) rfl T.b_tuple Bz (Ak (A7 ["at","make","coal","faults","hour"] [none,none,none,some 1,some 2] rfl (Ef P w K rfl T.b_enumerate (Ak (cy 0))) (AE.of rfl) (λ_ _ _ _=>(AG K (n:=2) (Ai (Ag 0 (AB (by rfl))) (Ai (AG K (n:=2) (Ai (Ag 1 (AB (by rfl))) (Ai (Ag 2 (AB (by rfl))) AC))) AC)))) (λ_ _ _ _=>AY) (λ_ _ _ _=>(Am yao (hr.mono (by decide)) rfl (Aq (Am yap (hr.mono (by decide)) rfl (AM (cy 3) (cy 0) (cy 4))) (cy 1))))))))),?_⟩;unfold Hs at h;split at h
 ·rename_i v u hour;obtain⟨p,bs,fs,r,ru,lb,lf,q⟩:=h;obtain⟨A,xs,rfl,hA,rs⟩:=Aa.shape r;have ln:=rs.len;rw [length_map] at ln;refine⟨A,rfl,⟨xs,Ae.of hA⟩,walk_enum (xs:=xs) (λi ys H'=>Ab H H'/\ys=((BV bs fs hour).take i).map V.int) (by omega) ⟨Ab.refl _,rfl⟩ (λi ys H' h=>by rw [h.2,length_map,length_take];omega) (λi ys H' h=>Ae.of (h.1 _ _ hA)) (λi x ys H' T hx h hT=>?_) λys H' h=>?_⟩
  ·obtain⟨f,hf,rd⟩:=Ac.mapGot rs hx;have s2:Ab H (upd H' T (.tup [.int i,x])):=h.1.trans (Ab.new hT);obtain⟨l,zs,rfl,hl',rz⟩:=Aa.shape (Aa.ev (Ev.same s2) _ _ rd);obtain⟨y1,y2,rfl,r1,r2⟩:=Ac.two rz;unfold Aa at r1 r2;subst r1 r2;refine⟨T,_,rfl,Ae.of Ah,rfl,_,_,rfl,_,_,rfl,l,_,rfl,Ae.of hl',rfl,_,_,rfl,_,_,rfl,rfl,rfl,⟨rfl,rfl,trivial⟩,λ_=>?_,λz=>by cases z⟩;refine⟨p,fs,Aa.ev (Ev.same s2) _ _ ru,lf,λa H3 s3 ha=>⟨_,ha,λH4 s4=>⟨s2.trans (s3.trans s4),?_⟩⟩⟩;rw [A9 (IN hf),map_append,h.2];rfl
  ·intro m hm;refine⟨m,_,rfl,.inl ⟨Al.of Ah,λt ht=>?_⟩⟩;refine q _ _ (h.1.trans ((Ab.new hm).trans (Ab.new ht))) (Aa.row ?_);rw [Ah,h.2,take_of_length_le (by rw [Fz];omega)]
 ·exact h.elim
theorem zau:Ax ["plant","story","extra","faults"] ["plant","story"] (Ap wah):=AA
theorem Sk (F:Df K mg "caps_of" wah ["plant","story"]) (T:Tx mg) (yaq:Fn P w K mg base 2 "caps_in" ["boilers","faults","hour"] Hs) (ya4:Fn P w K mg base 8 "need_story" ["plant","story"] FM):Fn P w K mg base 9 "caps_of" ["plant","story"] FN:=by
 refine F.fn zau (λvs H Q E h=>?_) (λf cdv A outer s H vs Q E hr h=>?_)
 ·unfold FN at h;split at h;rfl;exact h.elim
 refine⟨_,(Aj (Br (Am ya4 (hr.mono (by decide)) rfl (Aq (cy 0) (cy 1)))) (Aj (Ba (cy 1) (AG K (n:=2) (Ai (Ag 2 zau.nd) (Ai (Ag 3 zau.nd) AC)))) (An (Aw (Bo (BI K) rfl T.b_tuple Bz (Ak (A7 ["hour","faults","plant"] [none,some 3,some 0] rfl (BQ rfl T.b_range (Ak (At (Bh K) rfl T.b_len PySem.boot_len (Ak (cy 2))))) (AE.of rfl) (λ_ _ _ _=>(Ag 0 (AB (by rfl)))) (λ_ _ _ _=>AY) (λ_ _ _ _=>(Am yaq (hr.mono (by decide)) rfl (AM (Au (AF K) (cy 2) Af (λ_ _=>rfl)) (cy 1) (cy 0))))))))))),?_⟩;unfold FN at h;split at h
 ·rename_i v u;obtain⟨p,P,S,ok,so,r,ru,q⟩:=h;refine⟨p,P,S,ok,so,r,ru,λH1 s1=>?_⟩;obtain⟨A,B,E,xf,rfl,hA,hB,hE,rf⟩:=Aa.story (Aa.ev (Ev.same s1) _ _ ru);obtain⟨PA,PB,PE,PM,xb,xe,rfl,pA,pB,rb,pE,re,pM⟩:=Aa.plant (Aa.ev (Ev.same s1) _ _ r);have x8:=so.x8;have f4:=so.f4;have b4:=ok.b4;refine⟨A,_,rfl,Ae.of hA,rfl,_,_,rfl,_,_,rfl,rfl,B,_,rfl,.inr (Ae.of hB),_,rfl,by omega,by rw [length_map];omega,EI (n:=(S.ex.map V.int).length) (λi ys H'=>Ab H1 H'/\Ac p H' (((caps P S).take i).map AJ) ys) (by rw [length_map];omega) ⟨Ab.refl _,.nil⟩ (λi ys H' h=>by rw [<-h.2.len,length_map,length_take];omega) (λi ys H' hi h=>?_) λys H' h=>?_⟩
  ·rw [length_map] at hi;refine⟨⟨rfl,rfl,trivial⟩,λ_=>?_,λz=>by cases z⟩;refine⟨PA,_,0,.ref PB,rfl,rfl,Ae.of (h.1 _ _ pA),rfl,p,P.bs,S.fs,Aa.tup (h.1 _ _ pB) (Ac.ev (Ev.same h.1) _ _ rb),Aa.tup (h.1 _ _ hE) (Ac.ev (Ev.same h.1) _ _ rf),by omega,by omega,λv2 H2 s2 r2=>⟨h.1.trans s2,?_⟩⟩;rw [Int.zero_add] at r2;rw [A9 (De hi),map_append];exact Ac.snoc (Ac.ev (Ev.same s2) _ _ h.2) r2
  ·intro m hm;refine⟨m,_,rfl,.inl ⟨Al.of Ah,λt ht=>?_⟩⟩;have s3:=(Ab.new (o:= .lst ys) hm).trans (Ab.new (o:= .tup ys) ht);refine q _ _ (s1.trans (h.1.trans s3)) (Aa.tup Ah ?_);have r3:=Ac.ev (Ev.same s3) _ _ h.2;rw [take_of_length_le (by rw [Dg,length_map];exact Nat.le_refl _)] at r3;exact r3
 ·exact h.elim
theorem zaq:Ax ["engine","hour","draw","first","every"] ["engine","hour"] (Ap wam):=AA
theorem Sl (F:Df K mg "drawn_by" wam ["engine","hour"]) (T:Tx mg)  :Fn P w K mg base 1 "drawn_by" ["engine","hour"] Hu:=by
 refine F.fn zaq (λvs H Q E h=>?_) (λf cdv A outer s H vs Q E hr h=>?_)
 ·unfold Hu at h;split at h;rfl;exact h.elim
 refine⟨_,(Aj (Ba (cy 0) (AG K (n:=3) (Ai (Ag 2 zaq.nd) (Ai (Ag 3 zaq.nd) (Ai (Ag 4 zaq.nd) AC))))) (Aj (A8 (PW.pt (Ec (AS CQ (cy 1) (cy 3) (AN _)) (Ey (AS C2 (As EJ (As Bl (cy 1) (cy 3)) (cy 4)) Af (AN _))))) (An (Aw Af)) A6) (An (Aw (cy 2))))),?_⟩;unfold Hu at h;split at h
 ·rename_i v hour;obtain⟨p,e,r,e1,q⟩:=h;obtain⟨A,xs,rfl,hA,rs⟩:=Aa.shape r;obtain⟨y1,y2,y3,rfl,r1,r2,r3⟩:=Ac.three rs;unfold Aa at r1 r2 r3;subst r1 r2 r3;refine⟨A,_,rfl,Ae.of hA,rfl,_,_,rfl,_,_,rfl,_,_,rfl,rfl,⟨λc=>⟨λ_=>?_,λz=>by cases z⟩,λc=>⟨by omega,rfl,⟨λc2=>?_,λc2=>?_⟩⟩⟩⟩
  ·have z:drawn e hour=0:=by unfold drawn;rw [if_pos (.inl (of_decide_eq_true c))]
   rw [z] at q;exact q
  ·have z:drawn e hour=0:=by
    unfold drawn;exact if_pos (.inr λz=>OR c2 (congrArg V.int z))
   rw [z] at q;exact q
  ·have z:drawn e hour=e.1:=by
    unfold drawn;rw [if_neg ?_];rintro(z | z)
    ·exact absurd (decide_eq_true z) (by rw [c];decide)
    ·apply z;have:V.int ((hour-e.2.1) % e.2.2)=V.int 0:=by simpa using c2
     injection this
   rw [z] at q;exact q
 ·exact h.elim
theorem zay:Ax ["plant","story","engines"] ["plant","story"] (Ap wal):=AA
theorem Sm (F:Df K mg "draws_of" wal ["plant","story"]) (T:Tx mg) (yar:Fn P w K mg base 1 "drawn_by" ["engine","hour"] Hu) (ya4:Fn P w K mg base 8 "need_story" ["plant","story"] FM):Fn P w K mg base 9 "draws_of" ["plant","story"] FO:=by
 refine F.fn zay (λvs H Q E h=>?_) (λf cdv A outer s H vs Q E hr h=>?_)
 ·unfold FO at h;split at h;rfl;exact h.elim
 refine⟨_,(Aj (Br (Am ya4 (hr.mono (by decide)) rfl (Aq (cy 0) (cy 1)))) (Aj (AD (i:=2) zay.nd rfl (Az (by rfl)) (Au (AF K) (cy 0) Af (λ_ _=>rfl))) (An (Aw (Bo (BI K) rfl T.b_tuple Bz (Ak (A7 ["hour","units","engines"] [none,none,some 2] rfl (Ef P w K rfl T.b_enumerate (Ak (Au (AF K) (cy 1) Af (λ_ _=>rfl)))) (AE.of rfl) (λ_ _ _ _=>(AG K (n:=2) (Ai (Ag 0 (AB (by rfl))) (Ai (Ag 1 (AB (by rfl))) AC)))) (λ_ _ _ _=>AY) (λ_ _ _ _=>(As A1 (cy 1) (At (Gz rfl) rfl T.b_sum boot_sum (Ak (A7 ["engine","hour"] [none,some 0] rfl (BA K (cy 2)) (AE.of rfl) (λ_ _ _ _=>(Ag 0 (AB (by rfl)))) (λ_ _ _ _=>AY) (λ_ _ _ _=>(Am yar (hr.mono (by decide)) rfl (Aq (cy 0) (cy 1)))))))))))))))),?_⟩;unfold FO at h;split at h
 ·rename_i v u;obtain⟨p,P,S,ok,so,r,ru,q⟩:=h;refine⟨p,P,S,ok,so,r,ru,λH1 s1=>?_⟩;obtain⟨A,B,E,xf,rfl,hA,hB,hE,rf⟩:=Aa.story (Aa.ev (Ev.same s1) _ _ ru);obtain⟨PA,PB,PE,PM,xb,xe,rfl,pA,pB,rb,pE,re,pM⟩:=Aa.plant (Aa.ev (Ev.same s1) _ _ r);have x8:=so.x8;have e4:=ok.e4;have le:=re.len;rw [length_map] at le;refine⟨PA,_,1,.ref PE,rfl,rfl,Ae.of pA,rfl,A,_,0,.ref B,rfl,rfl,Ae.of hA,rfl,B,rfl,⟨_,Ae.of hB⟩,walk_enum (xs:=S.ex.map V.int) (λi ys H'=>Ab H1 H'/\ys=((draws P S).take i).map V.int) (by rw [length_map];omega) ⟨Ab.refl _,rfl⟩ (λi ys H' h=>by rw [h.2,length_map,length_take];omega) (λi ys H' h=>Ae.of (h.1 _ _ hB)) (λi x ys H' T hx h hT=>?_) λys H' h=>?_⟩
  ·rw [getElem?_map] at hx;cases z:S.ex[i]? with
   | none=>rw [z] at hx;cases hx
   | some n=>
    rw [z] at hx;cases hx;have s2:Ab H1 (upd H' T (.tup [.int i,.int n])):=h.1.trans (Ab.new hT);refine⟨T,_,rfl,Ae.of Ah,rfl,_,_,rfl,_,_,rfl,rfl,⟨rfl,trivial⟩,λ_=>?_,λz=>by cases z⟩;refine⟨PE,rfl,⟨xe,Ae.of (s2 _ _ pE)⟩,BF (xs:=xe) (λj zs H2=>Ab H1 H2/\zs=((P.es.take j).map λe=>drawn e i).map V.int) (by omega) ⟨s2,rfl⟩ (λj zs H2 h=>by rw [h.2,length_map,length_map,length_take];omega) (λj zs H2 _ h=>Ae.of (h.1 _ _ pE)) (λj x zs H2 hx h2=>?_) λzs H2 h2=>?_⟩
    ·obtain⟨f,hf,rd⟩:=Ac.mapGot re hx;refine⟨⟨rfl,trivial⟩,λ_=>⟨p,f,Aa.ev (Ev.same h2.1) _ _ rd,(ok.e f (mem_of_getElem? hf)).2.2.2.2.1,h2.1,?_⟩,λz=>by cases z⟩;rw [A9 hf,map_append,map_append,h2.2];rfl
    ·intro m hm;refine⟨m,P.es.map λe=>drawn e i,rfl,?_,h2.1.trans (Ab.new hm),?_⟩
     ·rw [Ah,h2.2,take_of_length_le (by omega)]
     ·rw [A9 (KT z),map_append,h.2];rfl
  ·intro m hm;refine⟨m,_,rfl,.inl ⟨Al.of Ah,λt ht=>?_⟩⟩;refine q _ _ (s1.trans (h.1.trans ((Ab.new hm).trans (Ab.new ht)))) (Aa.row ?_);rw [Ah,h.2,take_of_length_le (by rw [CJ,length_map];omega)]
 ·exact h.elim
end
end MF
end
section
namespace MF
open L2
theorem Md:∀ {bs:List PyData},(∀d∈bs,GoodB d)->∃l:List (Int×Int),bs=l.map bD/\∀q∈l,1<=q.1/\q.1<=9/\1<=q.2/\q.2<=9
 | [],_=>⟨[],rfl,λ_ h=>nomatch h⟩
 | d::ds,h=>by
  obtain⟨l,e,g⟩:=Md λx hx=>h x (mem_cons_of_mem _ hx)
  obtain⟨m,c,rfl,a1,a2,a3,a4⟩:=h d mem_cons_self;refine⟨(m,c)::l,by rw [e];rfl,λq hq=>?_⟩;rcases mem_cons.mp hq with rfl | hq
  ·exact⟨a1,a2,a3,a4⟩
  ·exact g q hq
theorem Me:∀ {es:List PyData},(∀d∈es,GoodE d)->∃l:List (Int×Int×Int),es=l.map eD/\∀q∈l,1<=q.1/\q.1<=9/\0<=q.2.1/\q.2.1<=7/\1<=q.2.2/\q.2.2<=8
 | [],_=>⟨[],rfl,λ_ h=>nomatch h⟩
 | d::ds,h=>by
  obtain⟨l,e,g⟩:=Me λx hx=>h x (mem_cons_of_mem _ hx)
  obtain⟨m,c,k,rfl,a1,a2,a3,a4,a5,a6⟩:=h d mem_cons_self;refine⟨(m,c,k)::l,by rw [e];rfl,λq hq=>?_⟩;rcases mem_cons.mp hq with rfl | hq
  ·exact⟨a1,a2,a3,a4,a5,a6⟩
  ·exact g q hq
theorem GoodP.pl {bs es:List PyData}{lo hi st:Int} (g:GoodP bs es lo hi st):∃P:PL,P.ok/\Mc bs es lo hi st=P.d:=by
 obtain⟨lb,rfl,hb⟩:=Md g.b;obtain⟨le,rfl,he⟩:=Me g.e;have b1:=g.b1;have b4:=g.b4;have e4:=g.e4;rw [length_map] at b1 b4 e4;exact⟨⟨lb,le,lo,hi,st⟩,⟨hb,b1,b4,he,e4,g.lo0,g.ls,g.sh,g.h4⟩,rfl⟩
theorem DS (r:List Int):BX (AJ r)=true:=by
 unfold BX;exact Cf λd hd=>by
  obtain⟨i,_,rfl⟩:=mem_map.mp hd
  rfl
theorem Sn (k:Bool):0<(1:Int)+(if k=true then 1 else 0)/\(1:Int)+(if k=true then 1 else 0)<1073741824:=by cases k<;>decide
def GoodF (n h:Nat) (d:PyData):Prop:=∃x:FT,d=x.d/\x.ok n h
theorem GoodF.nm {n h:Nat}{d:PyData} (g:GoodF n h d):BX d=true:=by obtain⟨x,rfl,_⟩:=g;rfl
theorem Mf {n h:Nat}:∀ {es:List PyData},(∀d∈es,GoodF n h d)->∃l:List FT,es=l.map FT.d/\∀q∈l,q.ok n h
 | [],_=>⟨[],rfl,λ_ h=>nomatch h⟩
 | d::ds,hh=>by
  obtain⟨l,e,g⟩:=Mf λx hx=>hh x (mem_cons_of_mem _ hx)
  obtain⟨x,rfl,a1⟩:=hh d mem_cons_self;refine⟨x::l,by rw [e];rfl,λq hq=>?_⟩;rcases mem_cons.mp hq with rfl | hq
  ·exact a1
  ·exact g q hq
def Hv:Sp:=λvs H Q _=>match vs with | [.ref p,v]=>AQ p H/\∃P,PL.ok P/\Aa p H P.d v/\∀u H' S,SY.ok S P.bs.length->Aa p H' S.d u->Ev p H H'->AQ p H'->Q u H' | _=>False
def FP:Sp:=λvs H Q _=>match vs with | [v,u]=>∃p P S,PL.ok P/\SY.ok S P.bs.length/\Aa p H P.d v/\Aa p H S.d u/\ret H Q p (Dd P S) | _=>False
def Hw:Sp:=λvs H Q _=>match vs with | [v,u]=>∃p P S,PL.ok P/\SY.ok S P.bs.length/\Aa p H P.d v/\Aa p H S.d u/\ret H Q p (Fy P S) | _=>False
section
variable {P : Program} {w : World} {K : Fgx} {mg : Str -> Option Value} {base : Heap}
theorem zad:Ax ["_law_pen_here","_law_plant_here","_law_hours","_law_most","_law_faults","_law_turn","_law_first","_law_last"] ["_law_pen_here","_law_plant_here"] (Ap waO):=AA
theorem So (F:Df K mg "_law_story" waO ["_law_pen_here","_law_plant_here"]) (T:Tx mg) (ya0:Fc P w K mg base):Fn P w K mg base 2 "_law_story" ["_law_pen_here","_law_plant_here"] Hv:=by
 refine F.fn zad (λvs H Q E h=>?_) (λf cdv A outer s H vs Q E hr h=>?_)
 ·unfold Hv at h;split at h;rfl;exact h.elim
 refine⟨_,(Aj (Ba (Bd (Aq (As A1 Af (Am ya0 (hr.mono (by decide)) rfl (Aq (cy 0) Af))) (Au (A4 K) (Bm (Bp Af Af Af Af)) (Am ya0 (hr.mono (by decide)) rfl (Aq (cy 0) Af)) (λ_ _=>rfl)))) (AG K (n:=2) (Ai (Ag 2 zad.nd) (Ai (Ag 3 zad.nd) AC)))) (Aj (AD (i:=4) zad.nd rfl (Az (by rfl)) (Bm BK)) (Aj (Bs PassesOwn.never rfl (BQ rfl T.b_range (Ak (Am ya0 (hr.mono (by decide)) rfl (Aq (cy 0) Af)))) (Ag 5 zad.nd) (Aj (AD (i:=6) zad.nd rfl (Az (by rfl)) (Am ya0 (hr.mono (by decide)) rfl (Aq (cy 0) (cy 2)))) (Aj (AD (i:=7) zad.nd rfl (Az (by rfl)) (As A1 (cy 6) (Am ya0 (hr.mono (by decide)) rfl (Aq (cy 0) (As Bl (cy 2) (cy 6)))))) (An (Br (BZ PySem.F.plainAttrs_list PySem.F.slot_list_append PySem.F.type_list_append B6 (cy 4) (Ak (Bd (Bp (Am ya0 (hr.mono (by decide)) rfl (Aq (cy 0) (At (Bh K) rfl T.b_len PySem.boot_len (Ak (Au (AF K) (cy 1) Af (λ_ _=>rfl)))))) (Au (A4 K) (Bm (Aq AT AT)) (Am ya0 (hr.mono (by decide)) rfl (Aq (cy 0) Af)) (λ_ _=>rfl)) (cy 6) (cy 7)))))))))) (An (Aw (Bd (Aq (Bo (BI K) rfl T.b_tuple Bz (Ak (A7 ["_law_hour","_law_pen_here","_law_most"] [none,some 0,some 3] rfl (BQ rfl T.b_range (Ak (cy 2))) (AE.of rfl) (λ_ _ _ _=>(Ag 0 (AB (by rfl)))) (λ_ _ _ _=>AY) (λ_ _ _ _=>(Am ya0 (hr.mono (by decide)) rfl (Aq (cy 1) (cy 2))))))) (Bo (BI K) rfl T.b_tuple Bz (Ak (cy 4)))))))))),?_⟩;unfold Hv at h;split at h
 ·rename_i p v;obtain⟨pn,P,ok,r,q⟩:=h;have b1:=ok.b1;have b4:=ok.b4;refine⟨pn,by decide,by decide,λg1 H1 a1 c1 e1 pn1 l1 hl1=>⟨pn1.new hl1,by decide,by decide,λg2 H2 a2 c2 e2 pn2=>?_⟩⟩;obtain⟨mo,hmo,hat⟩:=CZ (ns:=[1,4,9,21]) a2 (by simpa using c2);have hmo':1<=mo/\mo<=21:=by
   simp only [mem_cons,not_mem_nil,or_false] at hmo;omega
  refine⟨l1,_,g2,.int mo,rfl,rfl,Al.of (e2.lst Ah (pn1.ne hl1)),hat,λl0 hl0=>⟨l0,_,rfl,Ae.of Ah,rfl,_,_,rfl,_,_,rfl,rfl,λb hb=>?_⟩⟩;have eA:Ev p H (upd H2 l0 (.tup [.int (1+g1),.int mo])):=e1.trans ((Ev.new hl1).trans (e2.trans (Ev.new hl0)))
  replace pn2:=pn2.new (o:= .tup [.int (1+g1),.int mo]) hl0
  have nb:b≠p:=pn2.ne hb;have hbH:H b=none:=by
   cases z:H b with
   | none=>rfl
   | some o=>exact((eA b o z).elim (fun⟨x,_⟩=>absurd x nb) λx=>by rw [x] at hb;cases hb)
  refine⟨pn2.new hb,by decide,by decide,λg3 H3 a3 c3 e3 pn3=>⟨g3,rfl,by omega,by omega,C1 (n:=g3.toNat) (λi σ H4=>∃t f l,σ=[some (.ref p),some v,some (.int (1+g1)),some (.int mo),some (.ref b),t,f,l]/\Filled (GoodF P.bs.length (1+g1).toNat) p b H H4 i)
   ⟨_,_,_,rfl,eA.trans ((Ev.new hb).trans e3),pn3,[],[],e3.lst Ah nb,.nil,(λ_ h=>nomatch h),rfl⟩ (λi σ H4 hi hP=>?_) fun σ H4 hP=>?_⟩⟩
  ·obtain⟨t,f,l,rfl,ev,pn4,xs,ds,hx,rs,gd,hl⟩:=hP;refine⟨pn4,by omega,by omega,λf1 H5 a5 c5 e5 pn5=>⟨pn5,by omega,by omega,λf2 H6 a6 c6 e6 pn6=>?_⟩⟩;have e46:Ev p H4 H6:=e5.trans e6;obtain⟨PA,PB,PE,PM,xb,xe,rfl,pA,pB,rb,pE,re,pM⟩:=Aa.plant (Aa.ev (ev.trans e46) _ _ r);have lb:=rb.len;rw [length_map] at lb;refine⟨.inl ⟨rfl,_,Al.of (e46.lst hx nb)⟩,PA,_,0,.ref PB,rfl,rfl,Ae.of pA,rfl,PB,xb,rfl,.inr (Ae.of pB),pn6,by omega,by omega,λf3 H7 a7 c7 e7 pn7 l2 hl2=>⟨pn7.new hl2,by decide,by decide,λg4 H8 a8 c8 e8 pn8=>?_⟩⟩;have hw:∃bb:Bool,Bu [V.str "out",.str "scaled"] g4=some (wV bb):=by
    have:g4=0\/g4=1:=by omega
    rcases this with rfl | rfl
    ·exact⟨true,rfl⟩
    ·exact⟨false,rfl⟩
   obtain⟨bb,hw⟩:=hw;refine⟨l2,_,g4,wV bb,rfl,rfl,Al.of (e8.lst Ah (pn7.ne hl2)),hw,λt1 ht1=>?_⟩;have e48:Ev p H4 H8:=e46.trans (e7.trans ((Ev.new hl2).trans e8));refine⟨b,xs,.ref t1,rfl,rfl,by rw [Ar (Bb (e48.lst hx nb) ht1)];exact e48.lst hx nb,Dp (by rw [<-rs.len,hl];omega),_,_,_,rfl,?_⟩;exact Filled.step (λd h=>h.nm) hx rs gd hl e48 nb hbH (ev.trans e48) pn8 ht1 (Aa.tup Ah (.cons Aa.int (.cons Aa.str (.cons Aa.int (.cons Aa.int .nil))))) ⟨⟨f3,bb,f1,f1+f2⟩,rfl,⟨a7,by show f3<_;omega,a5,by show f1<=f1+f2;omega,by show f1+f2<_;omega⟩⟩
  ·obtain⟨t,f,l,rfl,fb⟩:=hP;refine⟨_,rfl,by omega,by omega,EI (n:=(1+g1).toNat) (λi ys H5=>Ev p H4 H5/\AQ p H5/\∃ns:List Int,ys=ns.map V.int/\ns.length=i/\∀u∈ns,0<=u/\u<=20) (by omega) ⟨Ev.refl,fb.pen,[],rfl,rfl,(λ_ h=>nomatch h)⟩ (λi ys H5 h=>?_) (λi ys H5 hi h=>?_) λys H5 h=>?_⟩
   ·obtain⟨_,_,ns,rfl,hn,_⟩:=h;rw [length_map];omega
   ·obtain⟨e5,pn5,ns,rfl,hn,hu⟩:=h;refine⟨⟨rfl,rfl,trivial⟩,λ_=>⟨pn5,by omega,by omega,λg6 H6 a6 c6 e6 pn6=>⟨e5.trans e6,pn6,ns++[g6],by rw [map_append];rfl,by rw [length_append,hn];rfl,λu hu'=>?_⟩⟩,λz=>by cases z⟩;rcases mem_append.mp hu' with h | h
    ·exact hu u h
    ·rw [mem_singleton.mp h];omega
   ·obtain⟨e5,pn5,ns,rfl,hn,hu⟩:=h;intro m hm;obtain⟨xs,fs,hb5,rb5,gf,lf⟩:=fb.done nb e5;refine⟨m,_,rfl,.inl ⟨Al.of Ah,λt1 ht1=>⟨b,xs,rfl,.inl ⟨Al.of ?_,λt2 ht2 t3 ht3=>?_⟩⟩⟩⟩
    ·exact((Ab.new hm).trans (Ab.new ht1)) _ _ hb5
    ·obtain⟨lF,rfl,gl⟩:=Mf gf;rw [length_map] at lf;have s5:Ab H5 (upd (upd (upd (upd H5 m (.lst (ns.map V.int))) t1 (.tup (ns.map V.int))) t2 (.tup xs)) t3 (.tup [.ref t1,.ref t2])):=(Ab.new hm).trans ((Ab.new ht1).trans ((Ab.new ht2).trans (Ab.new ht3)));refine q _ _ ⟨ns,lF⟩ ⟨by show 1<=ns.length;omega,by show ns.length<=8;omega,hu,by show lF.length<=4;omega,λx hx=>?_⟩ ?_ ((fb.ev.trans e5).trans (Ev.same s5)) (pn5.same s5)
     ·show x.ok _ ns.length;rw [hn];exact gl x hx
     ·refine Aa.tup Ah (.cons (Aa.row ?_) (.cons (Aa.tup ?_ (Ac.ev (Ev.same s5) _ _ rb5)) .nil))
      ·exact((Ab.new ht2).trans (Ab.new ht3)) _ _ Ah
      ·exact(Ab.new ht3) _ _ Ah
 ·exact h.elim
theorem za9:Ax ["_law_plant_here","_law_story_here","_law_rows","_law_hour","_law_row","_law_boiler","_law_make","_law_coal","_law_words"] ["_law_plant_here","_law_story_here"] (Ap waP):=AA
theorem Sr (F:Df K mg "_law_caps" waP ["_law_plant_here","_law_story_here"]) (T:Tx mg)  :Fn P w K mg base 1 "_law_caps" ["_law_plant_here","_law_story_here"] FP:=by
 refine F.fn za9 (λvs H Q E h=>?_) (λf cdv A outer s H vs Q E hr h=>?_)
 ·unfold FP at h;split at h;rfl;exact h.elim
 refine⟨_,(Aj (AD (i:=2) za9.nd rfl (Az (by rfl)) (Bm BK)) (Aj (Bs PassesOwn.never rfl (BQ rfl T.b_range (Ak (At (Bh K) rfl T.b_len PySem.boot_len (Ak (Au (AF K) (cy 1) Af (λ_ _=>rfl)))))) (Ag 3 za9.nd) (Aj (AD (i:=4) za9.nd rfl (Az (by rfl)) (Bm BK)) (Aj (Bs PassesOwn.never rfl (Ef P w K rfl T.b_enumerate (Ak (Au (AF K) (cy 0) Af (λ_ _=>rfl)))) (AG K (n:=2) (Ai (Ag 5 za9.nd) (Ai (AG K (n:=2) (Ai (Ag 6 za9.nd) (Ai (Ag 7 za9.nd) AC))) AC))) (Aj (Fs (i:=8) ["_law_one","_law_word","_law_first","_law_last","_law_boiler","_law_hour"] [none,none,none,none,some 5,some 3] za9.nd rfl (Az (by rfl)) rfl (BA K (Au (AF K) (cy 1) Af (λ_ _=>rfl))) (AE.of rfl) (λ_ _ _ _=>(AG K (n:=4) (Ai (Ag 0 (AB (by rfl))) (Ai (Ag 1 (AB (by rfl))) (Ai (Ag 2 (AB (by rfl))) (Ai (Ag 3 (AB (by rfl))) AC)))))) (λ_ _ _ _=>(Fp (PW.pt (Da (AS DB (cy 0) (cy 4) (AN _)) (Da (AS DG (cy 2) (cy 5) (AN _)) (Dv (AS DG (cy 5) (cy 3) (AN _)))))))) (λ_ _ _ _=>(cy 1))) (An (Br (BZ PySem.F.plainAttrs_list PySem.F.slot_list_append PySem.F.type_list_append B6 (cy 4) (Ak (Fv (AS (Fx K) AT (cy 8) (by with_unfolding_all rfl)) Af (As IH (cy 6) (As A1 Af (Bo JP rfl T.b_int L2.boot_int (Ak (C3 (Fx K) AT (cy 8) (by with_unfolding_all rfl))))))))))))) (An (Br (BZ PySem.F.plainAttrs_list PySem.F.slot_list_append PySem.F.type_list_append B6 (cy 2) (Ak (Bo (BI K) rfl T.b_tuple Bz (Ak (cy 4)))))))))) (An (Aw (Bo (BI K) rfl T.b_tuple Bz (Ak (cy 2))))))),?_⟩;unfold FP at h;split at h
 ·rename_i v u;obtain⟨p,P,S,ok,so,r,ru,q⟩:=h;obtain⟨A,B,E,xf,rfl,hA,hB,hE,rf⟩:=Aa.story ru;obtain⟨PA,PB,PE,PM,xb,xe,rfl,pA,pB,rb,pE,re,pM⟩:=Aa.plant r;have x8:=so.x8;have f4:=so.f4;have b4:=ok.b4;have lb:=rb.len;rw [length_map] at lb;have lf:=rf.len;rw [length_map] at lf;intro R hR;have s0:Ab H (upd H R (.lst [])):=Ab.new hR;refine⟨A,_,0,.ref B,rfl,rfl,Ae.of (s0 _ _ hA),rfl,B,_,rfl,.inr (Ae.of (s0 _ _ hB)),_,rfl,by omega,by rw [length_map];omega,C1 (n:=(S.ex.map V.int).length) (λi σ H1=>(∃x3 x4 x5 x6 x7 x8,σ=[some (.ref PA),some (.ref A),some (.ref R),x3,x4,x5,x6,x7,x8])/\Ab H H1/\∃xs,H1 R=some (.lst xs)/\Ac p H1 (((caps P S).take i).map AJ) xs)
   ⟨⟨_,_,_,_,_,_,rfl⟩,s0,[],Ah,.nil⟩ (λi σ H1 hi hP=>?_) fun σ H1 hP=>?_⟩
  ·obtain⟨⟨x3,x4,x5,x6,x7,x8',rfl⟩,s1,xs,hxs,rxs⟩:=hP;rw [length_map] at hi;have lx:=rxs.len;rw [length_map,length_take] at lx;intro b hb;have sb:Ab H1 (upd H1 b (.lst [])):=Ab.new hb;refine⟨PA,_,0,.ref PB,rfl,rfl,Ae.of (sb _ _ (s1 _ _ pA)),rfl,PB,rfl,⟨xb,Ae.of (sb _ _ (s1 _ _ pB))⟩,for_enum (xs:=xb) (λj σ H2=>(∃y5 y6 y7 y8,σ=[some (.ref PA),some (.ref A),some (.ref R),some (.int (0+i)),some (.ref b),y5,y6,y7,y8])/\Ab H1 H2/\H2 b=some (.lst (((BV P.bs S.fs i).take j).map V.int)))
    ⟨⟨_,_,_,_,rfl⟩,sb,Ah⟩ (λj σ H2 h=>Ae.of (h.2.1 _ _ (s1 _ _ pB))) (λj x σ H2 T hx h hT=>?_) fun σ H2 h=>?_⟩
   ·obtain⟨⟨y5,y6,y7,y8,rfl⟩,s2,hb2⟩:=h;obtain⟨f,hf,rd⟩:=Ac.mapGot rb hx;have hj:j<xb.length:=(List.getElem?_eq_some_iff.mp hx).1;have s3:Ab H1 (upd H2 T (.tup [.int j,x])):=s2.trans (Ab.new hT);have s03:Ab H (upd H2 T (.tup [.int j,x])):=s1.trans s3;obtain⟨l,zs,rfl,hl',rz⟩:=Aa.shape (Aa.ev (Ev.same s03) _ _ rd);obtain⟨z1,z2,rfl,r1,r2⟩:=Ac.two rz;unfold Aa at r1 r2;subst r1 r2;refine⟨T,_,rfl,Ae.of Ah,rfl,_,_,rfl,_,_,rfl,l,_,rfl,Ae.of hl',rfl,_,_,rfl,_,_,rfl,rfl,rfl,?_⟩;refine⟨A,_,1,.ref E,rfl,rfl,Ae.of (s03 _ _ hA),rfl,E,rfl,⟨xf,Ae.of (s03 _ _ hE)⟩,BF (xs:=xf) (λk ys H3=>Ab (upd H2 T (.tup [.int j,.ref l])) H3/\ys=(Bv (S.fs.take k) j i).map wV) (by omega) ⟨Ab.refl _,rfl⟩ (λk ys H' h=>?_) (λk ys H' _ h=>Ae.of (h.1 _ _ (s03 _ _ hE))) (λk x ys H' hx h=>?_) λys H3 h=>?_⟩
    ·rw [h.2,length_map];unfold Bv;rw [length_map];exact Nat.le_trans (List.length_filter_le _ _) (by rw [length_take];omega)
    ·obtain⟨g,hg,rg⟩:=Ac.mapGot rf hx;obtain⟨l2,zs2,rfl,hl2,rz2⟩:=Aa.shape (Aa.ev (Ev.same (s03.trans h.1)) _ _ rg);obtain⟨w1,w2,w3,w4,rfl,r1,r2,r3,r4⟩:=Ac.four rz2;unfold Aa at r1 r2 r3 r4;subst r1 r2 r3 r4;have nx:=KU (b:=j) (h:=i) hg;have no:B1 j i g=false->Ab (upd H2 T (.tup [.int j,.ref l])) H'/\ys=(Bv (S.fs.take (k+1)) j i).map wV:=λe=>⟨h.1,by rw [nx,e,if_neg (by decide)];exact h.2⟩
     refine⟨l2,_,rfl,Ae.of hl2,rfl,_,_,rfl,_,_,rfl,_,_,rfl,_,_,rfl,rfl,⟨rfl,rfl,trivial⟩,rfl,⟨λc1=>⟨λc2=>⟨λc3=>?_,λc3=>no ?_⟩,λc2=>⟨λz=>(by cases z),λ_=>no ?_⟩⟩,λc1=>⟨λz=>(by cases z),λ_=>no ?_⟩⟩⟩
     ·have e:B1 j i g=true:=by
       rw [DA] at c1;rw [Int.zero_add] at c2 c3;unfold B1;rw [c1,c2,c3];rfl
      refine⟨h.1,?_⟩;rw [nx,if_pos e,map_append,h.2];rfl
     ·rw [Int.zero_add] at c3;unfold B1;rw [c3,Bool.and_false]
     ·rw [Int.zero_add] at c2;unfold B1;rw [c2,Bool.and_false,Bool.false_and]
     ·rw [DA] at c1;unfold B1;rw [c1,Bool.false_and,Bool.false_and]
    ·intro m hm;have ew:ys=(Bv S.fs j i).map wV:=by rw [h.2,take_of_length_le (by omega)]
     subst ew;have s4:Ab H2 (upd H3 m (.lst ((Bv S.fs j i).map wV))):=(Ab.new hT).trans (h.1.trans (Ab.new hm));have hb4:=s4 _ _ hb2;have hlen:(((BV P.bs S.fs i).take j).map V.int).length<sizeLine:=Dp (by rw [length_map,length_take];omega);refine⟨.inl ⟨rfl,_,Al.of hb4⟩,m,_,rfl,.inl (Al.of Ah),rfl,GC,⟨λc=>?_,λc=>?_⟩⟩
     ·rw [if_neg (by decide),GB] at c;refine⟨b,_,.int 0,rfl,rfl,hb4,hlen,⟨_,_,_,_,rfl⟩,Ab.own (s2.trans s4) hb,?_⟩;have e:BN (Bv S.fs j i) f.1=0:=by unfold BN;rw [if_pos c]
      rw [Ah,A9 (IN hf),map_append,e];rfl
     ·rw [if_neg (by decide),GB] at c;refine⟨m,_,rfl,.inl (Al.of Ah),rfl,GC,.inr ⟨_,rfl,?_⟩⟩;have ek:(if (false=true) then !C6 (V.str "scaled") ((Bv S.fs j i).map wV) else C6 (V.str "scaled") ((Bv S.fs j i).map wV))=(Bv S.fs j i).any (!·):=by rw [if_neg (by decide)];exact IO
      have e:=O7 (m:=f.1) c;refine⟨Sn _,b,_,.int (BN (Bv S.fs j i) f.1),rfl,congrArg (λz=>[V.int z]) ((congrArg (fun(k:Bool)=>f.1 /(1+if k=true then 1 else 0)) ek).trans e),hb4,hlen,⟨_,_,_,_,rfl⟩,Ab.own (s2.trans s4) hb,?_⟩;rw [Ah,A9 (IN hf),map_append];rfl
   ·obtain⟨⟨y5,y6,y7,y8,rfl⟩,s2,hb2⟩:=h;rw [take_of_length_le (by rw [Fz];omega)] at hb2;refine⟨.inl ⟨rfl,_,Al.of (s2 _ _ hxs)⟩,b,_,rfl,.inl ⟨Al.of hb2,λt ht=>?_⟩⟩;have s3:Ab H1 (upd H2 t (.tup ((BV P.bs S.fs i).map V.int))):=s2.trans (Ab.new ht);have hR3:=s3 _ _ hxs;refine⟨R,xs,.ref t,rfl,rfl,hR3,Dp (by omega),⟨_,_,_,_,_,_,rfl⟩,Ab.own (s1.trans s3) hR,_,Ah,?_⟩;have tv:=TEv.upd (zs:=xs++[.ref t]) hR3;rw [A9 (De hi),map_append];refine Ac.snoc (Ac.tev ((Ev.same (p:=p) s3).tev.trans tv) _ _ (Cf λd hd=>?_) rxs) (Aa.tev tv _ _ (DS _) (Aa.row (p:=p) Ah));obtain⟨rr,_,rfl⟩:=mem_map.mp hd;exact DS rr
  ·obtain⟨⟨x3,x4,x5,x6,x7,x8',rfl⟩,s1,xs,hxs,rxs⟩:=hP;refine⟨R,xs,rfl,.inl ⟨Al.of hxs,λt ht=>q _ _ (s1.trans (Ab.new ht)) (Aa.tup Ah ?_)⟩⟩;rw [take_of_length_le (by rw [Dg,length_map];exact Nat.le_refl _)] at rxs;exact Ac.ev (Ev.new ht) _ _ rxs
 ·exact h.elim
theorem zag:Ax ["_law_plant_here","_law_story_here","_law_got","_law_draw_here","_law_first","_law_every","_law_hour"] ["_law_plant_here","_law_story_here"] (Ap waQ):=AA
theorem Ss (F:Df K mg "_law_draws" waQ ["_law_plant_here","_law_story_here"]) (T:Tx mg)  :Fn P w K mg base 1 "_law_draws" ["_law_plant_here","_law_story_here"] Hw:=by
 refine F.fn zag (λvs H Q E h=>?_) (λf cdv A outer s H vs Q E hr h=>?_)
 ·unfold Hw at h;split at h;rfl;exact h.elim
 refine⟨_,(Aj (AD (i:=2) zag.nd rfl (Az (by rfl)) (Bo (KO K) rfl T.b_list KA (Ak (Au (AF K) (cy 1) Af (λ_ _=>rfl))))) (Aj (Bs PassesOwn.never rfl (BA K (Au (AF K) (cy 0) Af (λ_ _=>rfl))) (AG K (n:=3) (Ai (Ag 3 zag.nd) (Ai (Ag 4 zag.nd) (Ai (Ag 5 zag.nd) AC)))) (An (Bs PassesOwn.never rfl (OP rfl T.b_range (AM (cy 4) (At (Bh K) rfl T.b_len PySem.boot_len (Ak (cy 2))) (cy 5))) (Ag 6 zag.nd) (An (Ba (As A1 (Au (A4 K) (cy 2) (cy 6) (λ_ _=>rfl)) (cy 3)) (Ie (cy 2) (cy 6) Fo)))))) (An (Aw (Bo (BI K) rfl T.b_tuple Bz (Ak (cy 2))))))),?_⟩;unfold Hw at h;split at h
 ·rename_i v u;obtain⟨p,P,S,ok,so,r,ru,q⟩:=h;obtain⟨A,B,E,xf,rfl,hA,hB,hE,rf⟩:=Aa.story ru;obtain⟨PA,PB,PE,PM,xb,xe,rfl,pA,pB,rb,pE,re,pM⟩:=Aa.plant r;have x8:=so.x8;have e4:=ok.e4;have le:=re.len;rw [length_map] at le;refine⟨A,_,0,.ref B,rfl,rfl,Ae.of hA,rfl,B,_,rfl,.inr (Ae.of hB),λl hl=>?_⟩;have s0:Ab H (upd H l (.lst (S.ex.map V.int))):=Ab.new hl;refine⟨PA,_,1,.ref PE,rfl,rfl,Ae.of (s0 _ _ pA),rfl,PE,rfl,⟨xe,Ae.of (s0 _ _ pE)⟩,JH (xs:=xe) (λk σ H1=>(∃y3 y4 y5 y6,σ=[some (.ref PA),some (.ref A),some (.ref l),y3,y4,y5,y6])/\Ab H H1/\H1 l=some (.lst ((Lf S.ex.length (dF P S k)).map V.int)))
   ⟨⟨_,_,_,_,rfl⟩,s0,by rw [Ah,<-O2]⟩ (λk σ H1 _ h=>Ae.of (h.2.1 _ _ pE)) (λk x σ H1 hx h=>?_) fun σ H1 h=>?_⟩
  ·obtain⟨⟨y3,y4,y5,y6,rfl⟩,s1,hl1⟩:=h;obtain⟨e,he,rd⟩:=Ac.mapGot re hx;obtain⟨o1,o2,o3,o4,o5,o6⟩:=ok.e e (mem_of_getElem? he);obtain⟨a,zs,rfl,ha,rz⟩:=Aa.shape (Aa.ev (Ev.same s1) _ _ rd);obtain⟨w1,w2,w3,rfl,r1,r2,r3⟩:=Ac.three rz;unfold Aa at r1 r2 r3;subst r1 r2 r3;refine⟨a,_,rfl,Ae.of ha,rfl,_,_,rfl,_,_,rfl,_,_,rfl,rfl,l,_,rfl,.inl (Al.of hl1),_,_,_,rfl,⟨by omega,by omega,by omega,by rw [length_map,EN];omega,by omega,by omega⟩,?_⟩;rw [length_map,EN];refine KS (n:=CS e.2.1 S.ex.length e.2.2) (λj σ H2=>(∃y6,σ=[some (.ref PA),some (.ref A),some (.ref l),some (.int e.1),some (.int e.2.1),some (.int e.2.2),y6])/\Ab H H2/\H2 l=some (.lst ((Lf S.ex.length (iF P S k e j)).map V.int)))
    ⟨⟨_,rfl⟩,s1,by rw [O3];exact hl1⟩ (λj σ H2 hj h=>?_) fun σ H2 h=>?_
   ·obtain⟨⟨y6,rfl⟩,s2,hl2⟩:=h;have hlt:=(KY o5).mp hj;have h3:0<=(j:Int) * e.2.2:=Int.mul_nonneg (by omega) (by omega);obtain⟨i,hi⟩:∃i:Nat,(i:Int)=e.2.1+j * e.2.2:=⟨(e.2.1+j * e.2.2).toNat,by omega⟩;rw [<-hi];have hil:i<S.ex.length:=by omega
    refine⟨l,_,(i:Int),.int (iF P S k e j i),rfl,rfl,Al.of hl2,BT (by rw [getElem?_map,IQ hil];rfl),l,_,(i:Int),i,rfl,rfl,hl2,by rw [length_map,EN];exact O6 hil,⟨_,rfl⟩,Ab.own s2 hl,?_⟩;rw [Ah,<-O4 (i:=i) o5 hi,<-OZ,map_set]
   ·obtain⟨⟨y6,rfl⟩,s2,hl2⟩:=h;refine⟨⟨_,_,_,_,rfl⟩,s2,?_⟩;rw [hl2,OY (O5 he o5)]
  ·obtain⟨⟨y3,y4,y5,y6,rfl⟩,s1,hl1⟩:=h;refine⟨l,_,rfl,.inl ⟨Al.of hl1,λt ht=>q _ _ (s1.trans (Ab.new ht)) (Aa.row ?_)⟩⟩;rw [Ah,<-le,<-O1]
 ·exact h.elim
end
end MF
end
section
namespace MF
open L2
variable {p : Addr} {H : Hp} {v : V}
theorem Aa.terms {T:TM} (r:Aa p H T.d v):∃A C B D M xc,v= .ref A/\H A=some (.tup [.ref C,.ref B,.ref D,.ref M])/\H C=some (.tup xc)/\Ac p H (T.cs.map AJ) xc/\H B=some (.tup (T.co.map V.int))/\H D=some (.tup (T.ds.map V.int))/\H M=some (.tup [.int T.lo,.int T.hi,.int T.st]):=by
 unfold TM.d at r;obtain⟨A,xs,rfl,hA,rs⟩:=Aa.shape r;obtain⟨x,y,z,w,rfl,rx,ry,rz,rw⟩:=Ac.four rs;obtain⟨C,xc,rfl,hC,rc⟩:=Aa.shape rx;obtain⟨B,xb,rfl,hB,rb⟩:=Aa.shape ry;obtain⟨D,xd,rfl,hD,rd⟩:=Aa.shape rz;obtain⟨M,xm,rfl,hM,rm⟩:=Aa.shape rw;obtain⟨m1,m2,m3,rfl,r1,r2,r3⟩:=Ac.three rm;unfold Aa at r1 r2 r3;subst r1 r2 r3;rw [Ac.ints rb] at hB;rw [Ac.ints rd] at hD;exact⟨A,C,B,D,M,xc,rfl,hA,hC,rc,hB,hD,hM⟩
theorem Aa.ofRow' {r:List Int} (h:Aa p H (AJ r) v):∃A,v= .ref A/\H A=some (.tup (r.map V.int)):=by
 obtain⟨A,xs,rfl,hA,rs⟩:=Aa.shape h;rw [Ac.ints rs] at hA;exact⟨A,rfl,hA⟩
theorem Su {d:PyData}{lo hi:Int} (h:A3 d lo hi=true):∃ds,d= .tuple ds/\lo<=(ds.length:Int)/\(ds.length:Int)<=hi:=by
 cases d with
 | tuple ds=>
  unfold A3 at h;obtain⟨h1,h2⟩:=Bool.and_eq_true_iff.mp h;exact⟨ds,rfl,of_decide_eq_true h1,of_decide_eq_true h2⟩
 | _=>cases h
def Cy (n:Int) (d:PyData):Bool:=A3 d n n &&(match d with | .tuple es=>es.all Dk | _=>false)
theorem Mg {ns:List Int} (h:∀n∈ns,0<=n):Cy (ns.length:Int) (AJ ns)=true:=by
 unfold Cy A3;dsimp only;rw [length_map,decide_eq_true (Int.le_refl _),Bool.true_and,Bool.true_and,all_eq_true];intro d hd;obtain⟨i,hi,rfl⟩:=mem_map.mp hd;exact decide_eq_true (h i hi)
theorem B4 {ns:List Int}{i:Nat} (h:i<ns.length):Bu (ns.map V.int) (i:Int)=some (.int (ns.getD i 0)):=by
 refine BT ?_;rw [getElem?_map,getElem?_eq_getElem h,getD_eq_getElem?_getD,getElem?_eq_getElem h];rfl
def FQ:Sp:=λvs H Q _=>match vs with | [v,u]=>∃p P S,PL.ok P/\SY.ok S P.bs.length/\Aa p H P.d v/\Aa p H S.d u/\ret H Q p (terms P S).d | _=>False
def FR:Sp:=λvs H Q _=>match vs with | [x,.int m]=>∃p d,Aa p H d x/\m<=1000/\∀b H',b=Cy m d->Ab H H'->Q (.bl b) H' | _=>False
def FS:Sp:=λvs H Q _=>match vs with | [v,.int h,.int x,.int b]=>∃p T n,h=((n:Nat):Int)/\n<T.ds.length/\Dj T/\Aa p H T.d v/\∀H',Ab H H'->Q (.int (Bq T n x b)) H' | _=>False
def Hx:Sp:=λvs H Q _=>match vs with | [v,u,w]=>∃p P S ns,PL.ok P/\SY.ok S P.bs.length/\Aa p H P.d v/\Aa p H S.d u/\Aa p H (AJ ns) w/\ns.length=S.ex.length/\(∀n∈ns,0<=n)/\∀H',Ab H H'->Q (.int (Ci (terms P S) ns)) H' | _=>False
section
variable {P : Program} {w : World} {K : Fgx} {mg : Str -> Option Value} {base : Heap}
theorem zav:Ax ["plant","story","caps","coals"] ["plant","story"] (Ap wan):=AA
theorem Sv (F:Df K mg "terms_of" wan ["plant","story"]) (T:Tx mg) (ya5:Fn P w K mg base 9 "caps_of" ["plant","story"] FN) (ya6:Fn P w K mg base 9 "draws_of" ["plant","story"] FO):Fn P w K mg base 10 "terms_of" ["plant","story"] FQ:=by
 refine F.fn zav (λvs H Q E h=>?_) (λf cdv A outer s H vs Q E hr h=>?_)
 ·unfold FQ at h;split at h;rfl;exact h.elim
 refine⟨_,(Aj (AD (i:=2) zav.nd rfl (Az (by rfl)) (Am ya5 (hr.mono (by decide)) rfl (Aq (cy 0) (cy 1)))) (Aj (AD (i:=3) zav.nd rfl (Az (by rfl)) (Bo (BI K) rfl T.b_tuple Bz (Ak (A7 ["make","coal"] [none,none] rfl (BA K (Au (AF K) (cy 0) Af (λ_ _=>rfl))) (AE.of rfl) (λ_ _ _ _=>(AG K (n:=2) (Ai (Ag 0 (AB (by rfl))) (Ai (Ag 1 (AB (by rfl))) AC)))) (λ_ _ _ _=>AY) (λ_ _ _ _=>(cy 1)))))) (An (Aw (Bd (Bp (cy 2) (cy 3) (Am ya6 (hr.mono (by decide)) rfl (Aq (cy 0) (cy 1))) (Au (AF K) (cy 0) Af (λ_ _=>rfl)))))))),?_⟩;unfold FQ at h;split at h
 ·rename_i v u;obtain⟨p,P,S,ok,so,r,ru,q⟩:=h;refine⟨p,P,S,ok,so,r,ru,λcv H1 s1 rc=>?_⟩;obtain⟨PA,PB,PE,PM,xb,xe,rfl,pA,pB,rb,pE,re,pM⟩:=Aa.plant (Aa.ev (Ev.same s1) _ _ r);have b4:=ok.b4;have lb:=rb.len;rw [length_map] at lb;refine⟨PA,_,0,.ref PB,rfl,rfl,Ae.of pA,rfl,PB,rfl,⟨xb,Ae.of pB⟩,BF (xs:=xb) (λi ys H'=>Ab H1 H'/\ys=((P.bs.take i).map λq=>V.int q.2)) (by omega) ⟨Ab.refl _,rfl⟩ (λi ys H' h=>by rw [h.2,length_map,length_take];omega) (λi ys H' _ h=>Ae.of (h.1 _ _ pB)) (λi x ys H' hx h=>?_) λys H' h=>?_⟩
  ·obtain⟨f,hf,rd⟩:=Ac.mapGot rb hx;obtain⟨l,zs,rfl,hl',rz⟩:=Aa.shape (Aa.ev (Ev.same h.1) _ _ rd);obtain⟨y1,y2,rfl,r1,r2⟩:=Ac.two rz;unfold Aa at r1 r2;subst r1 r2;refine⟨l,_,rfl,Ae.of hl',rfl,_,_,rfl,_,_,rfl,rfl,trivial,λ_=>⟨h.1,?_⟩,λz=>by cases z⟩;rw [A9 hf,map_append,h.2];rfl
  ·intro m hm;refine⟨m,_,rfl,.inl ⟨Al.of Ah,λt ht=>?_⟩⟩;have nt:=Ab.new (o:= .tup ys) ht;have s2:=h.1.trans ((Ab.new (o:= .lst ys) hm).trans nt);refine⟨p,P,S,ok,so,Aa.ev (Ev.same (s1.trans s2)) _ _ r,Aa.ev (Ev.same (s1.trans s2)) _ _ ru,λdv H3 s3 rd=>?_⟩;have s13:=s2.trans s3;refine⟨PA,_,2,.ref PM,rfl,rfl,Ae.of (s13 _ _ pA),rfl,λt2 ht2=>?_⟩;have s4:=Ab.new (o:= .tup [cv,.ref t,dv,.ref PM]) ht2;have ey:ys=(P.bs.map (·.2)).map V.int:=by rw [h.2,take_of_length_le (by omega),map_map];rfl
   have ht4:=(s3.trans s4) _ _ (Ah (H:=upd H' m (.lst ys)) (a:=t) (o:= .tup ys));rw [ey] at ht4;refine q _ _ (s1.trans (s13.trans s4)) (Aa.tup Ah (.cons (Aa.ev (Ev.same (s13.trans s4)) _ _ rc) (.cons (Aa.row ht4) (.cons (Aa.ev (Ev.same s4) _ _ rd) (.cons (Aa.tup ((s13.trans s4) _ _ pM) (.cons Aa.int (.cons Aa.int (.cons Aa.int .nil)))) .nil)))))
 ·exact h.elim
theorem Sx:Ax ["thing","many"] ["thing","many"] (Ap wa6):=AA
theorem Sy (F:Df K mg "is_counts" wa6 ["thing","many"]) (T:Tx mg) (ya1:Cw P w K mg base) (ya3:Fn P w K mg base 1 "is_whole" ["thing"] FK):Fn P w K mg base 2 "is_counts" ["thing","many"] FR:=by
 refine F.fn Sx (λvs H Q E h=>?_) (λf cdv A outer s H vs Q E hr h=>?_)
 ·unfold FR at h;split at h;rfl;exact h.elim
 refine⟨_,(An (Aw (Bg (Am ya1 (hr.mono (by decide)) rfl (AM (cy 0) (cy 1) (cy 1))) (BJ (At (Db rfl) rfl T.b_all boot_all (Ak (A7 ["part"] [none] rfl (BA K (cy 0)) (AE.of rfl) (λ_ _ _ _=>(Ag 0 (AB (by rfl)))) (λ_ _ _ _=>AY) (λ_ _ _ _=>(Bg (Am ya3 (hr.mono (by decide)) rfl (Ak (cy 0))) (BJ (C3 IJ (cy 0) Af (AN _)))))))))))),?_⟩;unfold FR at h;split at h
 ·rename_i x m;obtain⟨p,d,r,m1000,q⟩:=h;refine⟨p,d,r,λb hb=>⟨λc=>?_,λc=>?_⟩⟩
  ·have hf:A3 d m m=true:=by rw [<-hb];exact c
   obtain⟨es,rfl,g1,g2⟩:=Su hf;obtain⟨A,xs,rfl,hA,rs⟩:=Aa.shape r;have lx:=rs.len;refine⟨A,rfl,⟨_,Ae.of hA⟩,BF (xs:=xs) (λi zs H'=>Ab H H'/\zs=(es.take i).map λe=>V.bl (Dk e)) (by omega) ⟨Ab.refl _,rfl⟩ (λi zs H' h=>by rw [h.2,length_map,length_take];omega) (λi zs H' _ h=>Ae.of (h.1 _ _ hA)) (λi x zs H' hx h=>?_) λzs H' h=>?_⟩
   ·obtain⟨e',he,re'⟩:=rs.got hx;refine⟨trivial,λ_=>⟨p,e',Aa.ev (Ev.same h.1) _ _ re',λb1 e1=>⟨λc1=>?_,λc1=>?_⟩⟩,λc=>by cases c⟩
    ·subst c1;cases e'<;>first | cases e1 | skip
     rename_i i';unfold Aa at re';subst re';refine⟨h.1,?_⟩;rw [A9 he,map_append,h.2];rfl
    ·subst c1;refine⟨h.1,?_⟩;rw [A9 he,map_append,h.2];cases e'<;>first | rfl | cases e1
   ·intro m2 hm;refine⟨m2,es.map Dk,rfl,by rw [Ah,h.2,take_of_length_le (by omega),map_map];rfl,?_⟩;refine q _ _ ?_ (h.1.trans (Ab.new hm));unfold Cy;rw [hf];dsimp only;rw [all_map];rfl
  ·have hf:A3 d m m=false:=by rw [<-hb];exact c
   exact q _ _ (by unfold Cy;rw [hf];rfl) (Ab.refl _)
 ·exact h.elim
theorem za6:Ax ["terms","hour","price","behind","caps","coals","draws","low","high","start","spared","kept"] ["terms","hour","price","behind"] (Ap waC):=AA
theorem Sz (F:Df K mg "floor_at" waC ["terms","hour","price","behind"]) (T:Tx mg)  :Fn P w K mg base 1 "floor_at" ["terms","hour","price","behind"] FS:=by
 refine F.fn za6 (λvs H Q E h=>?_) (λf cdv A outer s H vs Q E hr h=>?_)
 ·unfold FS at h;split at h;rfl;exact h.elim
 refine⟨_,(Aj (Ba (cy 0) (AG K (n:=4) (Ai (Ag 4 za6.nd) (Ai (Ag 5 za6.nd) (Ai (Ag 6 za6.nd) (Ai (AG K (n:=3) (Ai (Ag 7 za6.nd) (Ai (Ag 8 za6.nd) (Ai (Ag 9 za6.nd) AC)))) AC)))))) (Aj (AD (i:=10) za6.nd rfl (Az (by rfl)) (At (Gz rfl) rfl T.b_sum boot_sum (Ak (A7 ["cap","coal","price"] [none,none,some 2] rfl (Gy P w K rfl T.b_zip (Aq (Au (AF K) (cy 4) (cy 1) (λ_ _=>rfl)) (cy 5))) (AE.of rfl) (λ_ _ _ _=>(AG K (n:=2) (Ai (Ag 0 (AB (by rfl))) (Ai (Ag 1 (AB (by rfl))) AC)))) (λ_ _ _ _=>(Fp (AS CQ (cy 1) (cy 2) (AN _)))) (λ_ _ _ _=>(As C9 (cy 0) (As Bl (cy 1) (cy 2)))))))) (Aj (AD (i:=11) za6.nd rfl (Az (by rfl)) (As C9 (As Bl (cy 2) (cy 3)) (Fv (AS Eb (cy 2) (cy 3) (AN _)) (cy 7) (cy 8)))) (An (Aw (As A1 (As A1 (As C9 (cy 2) (Au (AF K) (cy 6) (cy 1) (λ_ _=>rfl))) (cy 10)) (cy 11))))))),?_⟩;unfold FS at h;split at h
 ·rename_i v hh x b;obtain⟨p,T,n,rfl,hn,ok,r,q⟩:=h;obtain⟨A,C,B,D,M,xc,rfl,hA,hC,rc,hB,hD,hM⟩:=Aa.terms r;have l8:=ok.ok.l8;have lc:=ok.ok.lc;have o4:=ok.o;have hrow:T.cs[n]? =some (T.cs.getD n []):=by rw [getD_eq_getElem?_getD,getElem?_eq_getElem (by omega)];rfl
  obtain⟨lr,cr⟩:=ok.c _ (mem_of_getElem? hrow);obtain⟨y,hy,ry⟩:=rc.get (i:=n) (d:=AJ (T.cs.getD n [])) (by rw [getElem?_map,hrow];rfl);obtain⟨Cn,rfl,hCn⟩:=Aa.ofRow' ry;have q':∀H',Ab H H'->Q (.int (x * T.ds.getD n 0+spared (T.cs.getD n []) T.co x+DL T.lo T.hi x b)) H':=q;generalize T.cs.getD n []=row at hrow lr cr hCn q';refine⟨A,_,rfl,Ae.of hA,rfl,_,_,rfl,_,_,rfl,_,_,rfl,_,_,rfl,M,_,rfl,Ae.of hM,rfl,_,_,rfl,_,_,rfl,_,_,rfl,rfl,rfl,?_⟩;refine⟨C,xc,(n:Int),.ref Cn,rfl,rfl,Ae.of hC,BT hy,Cn,B,rfl,⟨_,Ae.of hCn⟩,⟨_,Ae.of hB⟩,walk_zip (xs:=row.map V.int) (ys:=T.co.map V.int) (λi zs H'=>Ab H H'/\∃ns:List Int,zs=ns.map V.int/\ns.length<=i/\ns.sum=(((row.zip T.co).take i).map (Di x)).sum) (by rw [length_map];omega) (by rw [length_map,length_map];exact lr) ⟨Ab.refl _,[],rfl,Nat.le_refl _,rfl⟩
    (λi zs H' h=>by obtain⟨_,ns,rfl,hl,_⟩:=h;rw [length_map];exact hl) (λi zs H' h=>⟨Ae.of (h.1 _ _ hCn),Ae.of (h.1 _ _ hB)⟩) (λi xx yy zs H' T' hx hy h hT=>?_) λzs H' h=>?_⟩
  ·rw [getElem?_map] at hx hy;obtain⟨m,hm,rfl⟩:=Option.map_eq_some_iff.mp hx;obtain⟨k,hk,rfl⟩:=Option.map_eq_some_iff.mp hy;obtain⟨s0,ns,rfl,hl,hs⟩:=h;have s2:=s0.trans (Ab.new (o:= .tup [.int m,.int k]) hT);have hz:(row.zip T.co)[i]? =some (m,k):=by rw [List.getElem?_zip_eq_some];exact⟨hm,hk⟩
   have bm:=cr m (mem_of_getElem? hm);refine⟨T',_,rfl,Ae.of Ah,rfl,_,_,rfl,_,_,rfl,rfl,⟨rfl,trivial⟩,λc=>?_,λc=>?_⟩
   ·refine⟨.inl ⟨by omega,by omega⟩,s2,ns++[m *(k-x)],by rw [map_append];rfl,by rw [length_append];simp;exact hl,?_⟩;rw [A9 hz,map_append,sum_append,sum_append,hs];have e:Di x (m,k)=m *(k-x):=by unfold Di;exact if_pos (of_decide_eq_true c)
    simp [e]
   ·refine⟨s2,ns,rfl,by omega,?_⟩;rw [A9 hz,map_append,sum_append,hs];have e:Di x (m,k)=0:=by unfold Di;exact if_neg (of_decide_eq_false c)
    simp [e]
  ·obtain⟨s0,ns,rfl,hl,hs⟩:=h;intro m hm;have s2:=s0.trans (Ab.new (o:= .lst (ns.map V.int)) hm);have es:ns.sum=spared row T.co x:=by rw [hs,take_of_length_le (by rw [List.length_zip,length_map];omega)];rfl
   refine⟨m,ns,rfl,Ah,?_⟩;rw [es];have h0:=ok.l0;have h1:=ok.l4;have h2:=ok.h0;have h3:=ok.h4;have bd:=ok.d _ (getD_mem (d:=0) hn);refine⟨λc=>⟨.inr ⟨by omega,by omega⟩,D,_,(n:Int),.int (T.ds.getD n 0),rfl,rfl,Ae.of (s2 _ _ hD),B4 hn,.inr ⟨by omega,by omega⟩,?_⟩,λc=>⟨.inr ⟨by omega,by omega⟩,D,_,(n:Int),.int (T.ds.getD n 0),rfl,rfl,Ae.of (s2 _ _ hD),B4 hn,.inr ⟨by omega,by omega⟩,?_⟩⟩
   ·have e:DL T.lo T.hi x b=(x-b) * T.lo:=by unfold DL;rw [if_pos (of_decide_eq_true c)]
    rw [e] at q';exact q' _ s2
   ·have e:DL T.lo T.hi x b=(x-b) * T.hi:=by unfold DL;rw [if_neg (of_decide_eq_false c)]
    rw [e] at q';exact q' _ s2
 ·exact h.elim
theorem zae:Ax ["plant","story","prices","terms","low","high","start","behind","parts"] ["plant","story","prices"] (Ap waB):=AA
theorem SA (F:Df K mg "floor_of" waB ["plant","story","prices"]) (T:Tx mg) (ya7:Fn P w K mg base 1 "floor_at" ["terms","hour","price","behind"] FS) (ya8:Fn P w K mg base 2 "is_counts" ["thing","many"] FR) (ya9:Fn P w K mg base 10 "terms_of" ["plant","story"] FQ):Fn P w K mg base 11 "floor_of" ["plant","story","prices"] Hx:=by
 refine F.fn zae (λvs H Q E h=>?_) (λf cdv A outer s H vs Q E hr h=>?_)
 ·unfold Hx at h;split at h;rfl;exact h.elim
 refine⟨_,(Aj (AD (i:=3) zae.nd rfl (Az (by rfl)) (Am ya9 (hr.mono (by decide)) rfl (Aq (cy 0) (cy 1)))) (Aj (A8 (B5 (BU (Am ya8 (hr.mono (by decide)) rfl (Aq (cy 2) (At (Bh K) rfl T.b_len PySem.boot_len (Ak (Au (AF K) (cy 1) Af (λ_ _=>rfl)))))))) (An F6) A6) (Aj (Ba (Au (AF K) (cy 0) Af (λ_ _=>rfl)) (AG K (n:=3) (Ai (Ag 4 zae.nd) (Ai (Ag 5 zae.nd) (Ai (Ag 6 zae.nd) AC))))) (Aj (AD (i:=7) zae.nd rfl (Az (by rfl)) (As CI (Cs wa0 (cy 2) (BS Af) DC) (Bd (Ak Af)))) (Aj (Fs (i:=8) ["hour","terms","prices","behind"] [none,some 3,some 2,some 7] zae.nd rfl (Az (by rfl)) rfl (BQ rfl T.b_range (Ak (At (Bh K) rfl T.b_len PySem.boot_len (Ak (cy 2))))) (AE.of rfl) (λ_ _ _ _=>(Ag 0 (AB (by rfl)))) (λ_ _ _ _=>AY) (λ_ _ _ _=>(Am ya7 (hr.mono (by decide)) rfl (Bp (cy 1) (cy 0) (Au (AF K) (cy 2) (cy 0) (λ_ _=>rfl)) (Au (AF K) (cy 3) (cy 0) (λ_ _=>rfl)))))) (An (Aw (As Bl (At (Gz rfl) rfl T.b_sum boot_sum (Ak (cy 8))) (As C9 (Au (AF K) (cy 2) Af (λ_ _=>rfl)) (cy 6)))))))))),?_⟩;unfold Hx at h;split at h
 ·rename_i v u w;obtain⟨p,P,S,ns,ok,so,r,ru,rw',hl,hn,q⟩:=h;have x1:=so.x1;have x8:=so.x8;refine⟨p,P,S,ok,so,r,ru,λtv H1 s1 rt=>?_⟩;obtain⟨A,B,E,xf,rfl,hA,hB,hE,rf⟩:=Aa.story (Aa.ev (Ev.same s1) _ _ ru);obtain⟨PA,PB,PE,PM,xb,xe,rfl,pA,pB,rb,pE,re,pM⟩:=Aa.plant (Aa.ev (Ev.same s1) _ _ r);obtain⟨W,rfl,hW⟩:=Aa.ofRow' (Aa.ev (Ev.same s1) _ _ rw');have fl:=Ja ok so;refine⟨A,_,0,.ref B,rfl,rfl,Ae.of hA,rfl,B,_,rfl,.inr (Ae.of hB),p,AJ ns,Aa.row hW,by rw [length_map];omega,λb H2 hb s2=>⟨λc=>?_,λc=>?_⟩⟩
  ·rw [hb,length_map,<-hl,Mg hn] at c;cases c
  refine⟨PA,_,2,.ref PM,rfl,rfl,Ae.of (s2 _ _ pA),rfl,PM,_,rfl,Ae.of (s2 _ _ pM),rfl,_,_,rfl,_,_,rfl,_,_,rfl,rfl,?_⟩;have hW2:=s2 _ _ hW;refine⟨1,rfl,W,_,rfl,hW2,λR3 H3 s3 k3=>λt ht=>⟨R3,t,_,_,rfl,rfl,(Ab.new ht) _ _ k3,Ah,?_,λR4 H4 s4 k4=>?_⟩⟩
  ·rw [EX,length_drop,length_map];show _+1<=1000;omega
  rw [EX] at k4;have ek:(List.drop 1 (ns.map V.int)++[V.int 0])=(ns.drop 1++[0]).map V.int:=by rw [map_append,map_drop];rfl
  rw [ek] at k4;have s24:=s3.trans ((Ab.new (o:= .tup [.int 0]) ht).trans s4);have hW4:=s24 _ _ hW2;have rt4:=Aa.ev (Ev.same (p:=p) (s2.trans s24)) _ _ rt;have lb:(ns.drop 1++[0]).length=ns.length:=by rw [length_append,length_drop];simp;omega
  have gb:∀i,i<ns.length->(ns.drop 1++[0]).getD i 0=ns.getD (i+1) 0:=λi hi=>by
   rw [getD_eq_getElem?_getD,getD_eq_getElem?_getD]
   by_cases z:i+1<ns.length
   ·rw [getElem?_append_left (by rw [length_drop];omega),getElem?_drop,Nat.add_comm 1 i]
   ·rw [getElem?_append_right (by rw [length_drop];omega),length_drop,show i-(ns.length-1)=0 by omega,getElem?_eq_none (l:=ns) (by omega)];rfl
  have ld:(terms P S).ds.length=ns.length:=by show(draws P S).length=_;rw [CJ,hl]
  refine⟨W,_,rfl,.inr (Ae.of hW4),_,rfl,by omega,by rw [length_map];omega,EI (n:=(ns.map V.int).length) (λi ys H'=>Ab H4 H'/\ys=((List.range i).map λh=>Bq (terms P S) h (ns.getD h 0) (ns.getD (h+1) 0)).map V.int) (by rw [length_map];omega) ⟨Ab.refl _,rfl⟩ (λi ys H' h=>by rw [h.2,length_map,length_map,length_range];omega) (λi ys H' hi h=>?_) λys H' h=>?_⟩
  ·rw [length_map] at hi;have g2:=B4 (ns:=ns.drop 1++[0]) (i:=i) (by omega);rw [gb i hi] at g2;refine⟨⟨rfl,rfl,rfl,trivial⟩,λ_=>⟨W,_,_,.int (ns.getD i 0),rfl,rfl,Ae.of (h.1 _ _ hW4),by rw [Int.zero_add];exact B4 hi,R4,_,_,.int (ns.getD (i+1) 0),rfl,rfl,Ae.of (h.1 _ _ k4),by rw [Int.zero_add];exact g2,p,terms P S,i,Int.zero_add _,by omega,fl,Aa.ev (Ev.same h.1) _ _ rt4,λH5 s5=>⟨h.1.trans s5,?_⟩⟩,λz=>by cases z⟩;rw [range_succ,map_append,map_append,h.2];rfl
  ·intro m hm;have s5:=h.1.trans (Ab.new (o:= .lst ys) hm);refine⟨m,(List.range ns.length).map λh=>Bq (terms P S) h (ns.getD h 0) (ns.getD (h+1) 0),rfl,by rw [Ah,h.2,length_map],W,_,0,.int (ns.getD 0 0),rfl,rfl,Ae.of (s5 _ _ hW4),B4 (i:=0) (by omega),.inr ?_,q _ (s1.trans (s2.trans (s24.trans s5)))⟩;have h0:=fl.s0;have h1:=fl.s4;exact⟨Int.lt_of_lt_of_le (by decide) h0,Int.lt_of_le_of_lt h1 (by decide)⟩
 ·exact h.elim
end
end MF
end
section
namespace MF
open L2
variable {p : Addr} {H : Hp} {ps : List Int} {v : V}
theorem Aa.tailShape {f:Int} (r:Aa p H (Cj f ps) v):∃a b,v= .ref a/\H a=some (.tup [.int f,.ref b])/\H b=some (.tup (ps.map V.int)):=by
 obtain⟨a,xs,rfl,ha,rs⟩:=Aa.shape r;obtain⟨x,y,rfl,rx,ry⟩:=Ac.two rs;unfold Aa at rx;subst rx;obtain⟨b,ys,rfl,hb,rb⟩:=Aa.shape ry;rw [Ac.ints rb] at hb;exact⟨a,b,rfl,ha,hb⟩
theorem Mh {f f':Int}{ps':List Int} (r:Aa p H (Cj f ps) v) (r':Aa p H (Cj f' ps') v):f=f':=by
 obtain⟨a,b,rfl,ha,hb⟩:=Aa.tailShape r;obtain⟨a',b',e,ha',hb'⟩:=Aa.tailShape r';cases e;rw [ha] at ha';injection ha' with e
 injection e with e
 injection e with e1 _
 injection e1
def Hy:Sp:=λvs H Q _=>match vs with | [v,.int h,.ref d]=>∃p T n o kvs,Dj T/\h=((n:Nat):Int)/\n<T.ds.length/\Aa p H T.d v/\H d=some (.frz o (.dK kvs))/\kvs.length<=5/\TailsAt p H T (n+1) kvs/\∀d' H' o' kvs',Ab H H'->H' d'=some (.frz o' (.dK kvs'))->kvs'.length<=5->TailsAt p H' T n kvs'->Q (.ref d') H' | _=>False
def Hz:Sp:=λvs H Q _=>match vs with | [v]=>∃p T,Dj T/\Aa p H T.d v/\∀u H' f ps,Ab H H'->Aa p H' (Cj f ps) u->Jg T f ps->Q u H' | _=>False
section
variable {P : Program} {w : World} {K : Fgx} {mg : Str -> Option Value} {base : Heap}
theorem zaj:Ax ["terms","hour","tails","caps","coals","draws","main"] ["terms","hour","tails"] (Ap waE):=AA
theorem SB (F:Df K mg "tails_from" waE ["terms","hour","tails"]) (T:Tx mg) (ya7:Fn P w K mg base 1 "floor_at" ["terms","hour","price","behind"] FS):Fn P w K mg base 2 "tails_from" ["terms","hour","tails"] Hy:=by
 refine F.fn zaj (λvs H Q E h=>?_) (λf cdv A outer s H vs Q E hr h=>?_)
 ·unfold Hy at h;split at h;rfl;exact h.elim
 refine⟨_,(Aj (Ba (cy 0) (AG K (n:=4) (Ai (Ag 3 zaj.nd) (Ai (Ag 4 zaj.nd) (Ai (Ag 5 zaj.nd) (Ai (Ag 6 zaj.nd) AC)))))) (An (Aw (QO ["price","terms","hour","tails"] [none,some 0,some 1,some 2] rfl (BA K (As CI (Bj (Ak Af)) (cy 4))) (AE.of rfl) (λ_ _ _ _=>(Ag 0 (AB (by rfl)))) (λ_ _ _ _=>AY) (λ_ _ _ _=>(cy 0)) (λ_ _ _ _=>(At (LB rfl hr) rfl T.b_max boot_max (Ak (A7 ["behind","floor","prices","terms","hour","price"] [none,none,none,some 1,some 2,some 0] rfl (Lr (cy 3)) (AE.of rfl) (λ_ _ _ _=>(AG K (n:=2) (Ai (Ag 0 (AB (by rfl))) (Ai (AG K (n:=2) (Ai (Ag 1 (AB (by rfl))) (Ai (Ag 2 (AB (by rfl))) AC))) AC)))) (λ_ _ _ _=>AY) (λ_ _ _ _=>(Bj (Aq (As A1 (Am ya7 (hr.mono (by decide)) rfl (Bp (cy 3) (cy 4) (cy 5) (cy 0))) (cy 1)) (As CI (Bj (Ak (cy 5))) (cy 2))))))))))))),?_⟩;unfold Hy at h;split at h
 ·rename_i v hh d;obtain⟨p,T,n,o,kvs,fl,rfl,hn,r,hd,l5,ta,q⟩:=h;obtain⟨A,C,B,D,M,xc,rfl,hA,hC,rc,hB,hD,hM⟩:=Aa.terms r;have o4:=fl.o;have l8:=fl.ok.l8;refine⟨A,_,rfl,Ae.of hA,rfl,_,_,rfl,_,_,rfl,_,_,rfl,_,_,rfl,rfl,?_⟩;refine λt1 H1 s1 k1=>⟨t1,B,_,_,rfl,rfl,k1,s1 _ _ hB,by rw [length_map];show 1+_<=1000;omega,λt2 H2 s2 k2=>?_⟩
  have ek:[V.int 0]++T.co.map V.int=(0::T.co).map V.int:=rfl;rw [ek] at k2;have s02:=s1.trans s2;have lc:(0::T.co).length<=5:=by rw [length_cons];omega
  have ne:kvs≠ []:=λz=>by
   obtain⟨q,hq,_⟩:=ta.all 0 (by unfold En;split<;>first | rfl | exact mem_cons_self);rw [z] at hq;cases hq
  refine⟨t2,rfl,⟨_,Ae.of k2⟩,QY (xs:=(0::T.co).map V.int) (λi ks H'=>Ab H2 H'/\ks.length<=i/\(∀q∈ks,∃x f ps,q.1= .inl x/\Aa p H' (Cj f ps) q.2/\OneTail T n x f ps)/\∀x∈(0::T.co).take i,∃q∈ks,q.1= .inl x) (by rw [length_map];omega) ⟨Ab.refl _,Nat.zero_le _,(λ_ h=>nomatch h),λx h=>(by rw [take_zero] at h;cases h)⟩ (λi ks H' h=>h.2.1) (λi ks H' _ h=>Ae.of (h.1 _ _ k2)) (λi x ks H' hx h=>?_) λks H' h=>?_⟩
  ·rw [getElem?_map] at hx;obtain⟨pr,hpr,rfl⟩:=Option.map_eq_some_iff.mp hx;have mpr:=mem_of_getElem? hpr;obtain⟨s2',lk,one,all⟩:=h;have s0:=s02.trans s2';have r0:=Aa.ev (Ev.same (p:=p) s0) _ _ r;refine⟨⟨rfl,rfl,rfl,trivial⟩,λ_=>?_,λz=>by cases z⟩;refine⟨d,o,kvs,rfl,s0 _ _ hd,Ls (λj zs H''=>Ab H' H''/\∃fs:List (Int×List PyData),Ac p H'' (fs.map λq=> .tuple (.int q.1::q.2)) zs/\fs.length=j/\∀k q0,k<j->kvs[k]? =some q0->∃fq,fs[k]? =some fq/\GX p H T (n+1) (λb f=>Bq T n pr b+f) (λps=>pr::ps) q0 fq) (by omega) ⟨Ab.refl _,[],.nil,rfl,(λk _ h=>absurd h (Nat.not_lt_zero k))⟩ (λj zs H'' h=>by obtain⟨_,fs,rs,lf,_⟩:=h;rw [<-rs.len,length_map,lf];exact Nat.le_refl _) (λj zs H'' h=>h.1 _ _ (s0 _ _ hd)) (λj q0 zs H'' T' hq h hT=>?_) λzs H'' h=>?_⟩
   ·obtain⟨s3,fs,rs,lf,hfs⟩:=h;obtain⟨b,f,ps,eb,rq,ot⟩:=ta.one q0 (mem_of_getElem? hq);obtain⟨kk,y⟩:=q0;have eb':kk= .inl b:=eb;subst eb';have lps:=ot.len;have sT:=Ab.new (o:= .tup [.int b,y]) hT;have s4:=s3.trans sT;have s04:=s0.trans s4;obtain⟨l,bb,ey,hl,hbb⟩:=Aa.tailShape (Aa.ev (Ev.same s04) _ _ rq)
    replace ey:y= .ref l:=ey
    subst ey;refine⟨T',_,rfl,Ae.of Ah,rfl,_,_,rfl,_,_,rfl,l,_,rfl,Ae.of hl,rfl,_,_,rfl,_,_,rfl,rfl,rfl,⟨rfl,rfl,rfl,trivial⟩,λ_=>?_,λz=>by cases z⟩;have r4:=Aa.ev (Ev.same (p:=p) s04) _ _ r;refine⟨p,T,n,rfl,hn,fl,r4,λH5 s5=>λt6 H6 s6 k6=>⟨t6,bb,_,_,rfl,rfl,k6,(s5.trans s6) _ _ hbb,by rw [length_map];show 1+_<=1000;omega,λt7 H7 s7 k7=>λt8 H8 s8 k8=>?_⟩⟩;have ek7:[V.int pr]++ps.map V.int=(pr::ps).map V.int:=rfl;rw [ek7] at k7;have s58:=s5.trans (s6.trans (s7.trans s8));refine⟨s4.trans s58,fs++[(Bq T n pr b+f,[AJ (pr::ps)])],?_,by rw [length_append,lf];rfl,λk q1 hk hq1=>?_⟩
    ·rw [map_append];have s38:Ab H'' H8:=sT.trans s58;exact Ac.snoc (Ac.ev (Ev.same s38) _ _ rs) (Aa.tup k8 (.cons Aa.int (.cons (Aa.row (s8 _ _ k7)) .nil)))
    ·by_cases z:k<j
     ·obtain⟨fq,h1,h2⟩:=hfs k q1 z hq1;exact⟨fq,by rw [getElem?_append_left (by omega)];exact h1,h2⟩
     ·obtain rfl:k=j:=by omega
      rw [hq] at hq1;cases hq1;exact⟨_,by rw [getElem?_append_right (by omega),lf,Nat.sub_self];rfl,b,f,ps,rfl,rq,ot,rfl⟩
   ·obtain⟨s3,fs,rs,lf,hfs⟩:=h;intro L hL;have nL:=Ab.new (o:= .lst zs) hL;have rsL:=Ac.ev (Ev.same (p:=p) nL) _ _ rs;have row:∀fq∈fs,∃q0∈kvs,GX p H T (n+1) (λb f=>Bq T n pr b+f) (λps=>pr::ps) q0 fq:=λfq hfq=>by
     obtain⟨k,hk⟩:=getElem?_of_mem hfq;have hk':=(List.getElem?_eq_some_iff.mp hk).1;obtain⟨fq',h1,h2⟩:=hfs k kvs[k] (by omega) (getElem?_eq_getElem (by omega));rw [hk] at h1;cases h1;exact⟨_,getElem_mem _,h2⟩
    refine⟨p,L,fs,zs,rfl,Ah,rsL,λz=>ne (List.eq_nil_of_length_eq_zero (by rw [z] at lf;exact lf.symm)),λq1 h1 q2 h2=>?_,λi' fq v hfq hv top=>?_⟩
    ·obtain⟨_,_,b1,f1,ps1,_,_,_,e1⟩:=row q1 h1;obtain⟨_,_,b2,f2,ps2,_,_,_,e2⟩:=row q2 h2;rw [e1,e2];exact .cons (.row _ _) .nil
    ·obtain⟨q0,m0,b,f,ps,eb,rq,ot,rfl⟩:=row fq (mem_of_getElem? hfq);obtain⟨v',hv',rv⟩:=rsL.get (i:=i') (d:=Cj (Bq T n pr b+f) (pr::ps)) (by rw [getElem?_map,hfq];rfl);rw [hv] at hv';cases hv';have ot':OneTail T n pr (Bq T n pr b+f) (pr::ps):=OneTail.step ta hn mpr ot λb' f' ps' o1 ⟨q1,m1,e1,r1⟩=>by
      obtain⟨k,hk⟩:=getElem?_of_mem m1;have hk':=(List.getElem?_eq_some_iff.mp hk).1;obtain⟨fq',g1,b2,f2,ps2,e2,r2,o2,rfl⟩:=hfs k q1 hk' hk;have eb2:b2=b':=by rw [e1] at e2;injection e2 with e2;exact e2.symm
      subst eb2;have ef:=Mh r1 r2;subst ef;exact top _ (mem_of_getElem? g1)
     have s2L:=s2'.trans (s3.trans nL);refine⟨.inl pr,rfl,s2L,Nat.le_trans (Lu _ _ _) (by omega),λq1 h1=>?_,λx hx=>?_⟩
     ·rcases Q8 h1 with h1 | rfl
      ·obtain⟨x,f1,ps1,e1,r1,o1⟩:=one q1 h1;exact⟨x,f1,ps1,e1,Aa.ev (Ev.same (s3.trans nL)) _ _ r1,o1⟩
      ·exact⟨pr,_,_,rfl,rv,ot'⟩
     ·rw [A9 hpr] at hx;rcases mem_append.mp hx with hx | hx
      ·obtain⟨q1,h1,e1⟩:=all x hx;obtain⟨q2,h2,e2⟩:=Ra (k:= .inl pr) (v:=v) h1;exact⟨q2,h2,e2.trans e1⟩
      ·rw [mem_singleton.mp hx];exact Q9
  ·obtain⟨s2',lk,one,all⟩:=h;intro d' o' hd';rw [length_map] at lk all;have nd:=Ab.new (o:= .frz o' (.dK ks)) hd';refine q d' _ o' ks (s02.trans (s2'.trans nd)) Ah (by omega) ⟨λq1 h1=>?_,λx hx=>?_⟩
   ·obtain⟨x,f1,ps1,e1,r1,o1⟩:=one q1 h1;exact⟨x,f1,ps1,e1,Aa.ev (Ev.same nd) _ _ r1,o1⟩
   ·unfold En at hx;rw [if_neg (by omega)] at hx;exact all x (by rw [take_length];exact hx)
 ·exact h.elim
theorem za4:Ax ["terms","caps","coals","draws","low","high","start","tails","hour"] ["terms"] (Ap waD):=AA
theorem SC (F:Df K mg "highest_floor" waD ["terms"]) (T:Tx mg) (yas:Fn P w K mg base 2 "tails_from" ["terms","hour","tails"] Hy):Fn P w K mg base 3 "highest_floor" ["terms"] Hz:=by
 refine F.fn za4 (λvs H Q E h=>?_) (λf cdv A outer s H vs Q E hr h=>?_)
 ·unfold Hz at h;split at h;rfl;exact h.elim
 refine⟨_,(Aj (Ba (cy 0) (AG K (n:=4) (Ai (Ag 1 za4.nd) (Ai (Ag 2 za4.nd) (Ai (Ag 3 za4.nd) (Ai (AG K (n:=3) (Ai (Ag 4 za4.nd) (Ai (Ag 5 za4.nd) (Ai (Ag 6 za4.nd) AC)))) AC)))))) (Aj (AD (i:=7) za4.nd rfl (Az (by rfl)) (QW (Bj (Aq Af (Bj BK))))) (Aj (Bs PassesOwn.never rfl (QU rfl T.b_reversed rfl T.b_range (Ak (At (Bh K) rfl T.b_len PySem.boot_len (Ak (cy 3))))) (Ag 8 za4.nd) (An (AD (i:=7) za4.nd rfl (Az (by rfl)) (Am yas (hr.mono (by decide)) rfl (AM (cy 0) (cy 8) (cy 7)))))) (An (Aw (At (LB rfl hr) rfl T.b_max boot_max (Ak (A7 ["price","floor","prices","start"] [none,none,none,some 6] rfl (Lr (cy 7)) (AE.of rfl) (λ_ _ _ _=>(AG K (n:=2) (Ai (Ag 0 (AB (by rfl))) (Ai (AG K (n:=2) (Ai (Ag 1 (AB (by rfl))) (Ai (Ag 2 (AB (by rfl))) AC))) AC)))) (λ_ _ _ _=>AY) (λ_ _ _ _=>(Bj (Aq (As Bl (cy 1) (As C9 (cy 0) (cy 3))) (cy 2)))))))))))),?_⟩;unfold Hz at h;split at h
 ·rename_i v;obtain⟨p,T,fl,r,q⟩:=h;obtain⟨A,C,B,D,M,xc,rfl,hA,hC,rc,hB,hD,hM⟩:=Aa.terms r;have l8:=fl.ok.l8;refine⟨A,_,rfl,Ae.of hA,rfl,_,_,rfl,_,_,rfl,_,_,rfl,_,_,rfl,M,_,rfl,Ae.of hM,rfl,_,_,rfl,_,_,rfl,_,_,rfl,rfl,rfl,?_⟩;refine λt1 H1 s1 k1=>λt2 H2 s2 k2=>λd0 o0 hd0=>?_
  have n0:=Ab.new (o:= .frz o0 (.dK [(.inl 0,.ref t2)])) hd0;have r2:Aa p H2 (Cj 0 []) (.ref t2):=Aa.tup k2 (.cons Aa.int (.cons (Aa.tup (s2 _ _ k1) .nil) .nil));have ta0:=(Rb (T:=T) r2).same n0;have s3:=s1.trans (s2.trans n0);have kd0:upd H2 d0 (.frz o0 (.dK [(.inl 0,.ref t2)])) d0=some (.frz o0 (.dK [(.inl 0,.ref t2)])):=Ah;generalize upd H2 d0 (.frz o0 (.dK [(.inl 0,.ref t2)]))=H3 at s3 ta0 kd0 ⊢;refine⟨D,_,rfl,.inr (Ae.of (s3 _ _ hD)),_,rfl,by omega,by rw [length_map];omega,KS (λi σ H'=>∃x8 d o kvs,σ=[some (.ref A),some (.ref C),some (.ref B),some (.ref D),some (.int T.lo),some (.int T.hi),some (.int T.st),some (.ref d),x8]/\i<=T.ds.length/\Ab H H'/\H' d=some (.frz o (.dK kvs))/\kvs.length<=5/\TailsAt p H' T (T.ds.length-i) kvs) ⟨_,d0,o0,_,rfl,Nat.zero_le _,s3,kd0,by show 1<=5;decide,ta0⟩ (λi σ H' hi h=>?_) fun σ H' h=>?_⟩
  ·obtain⟨x8,d,o,kvs,rfl,hi',s',kd,l5,ta⟩:=h;have hi2:i<T.ds.length:=by rw [length_map] at hi;omega
   refine⟨p,T,T.ds.length-(i+1),o,kvs,fl,by rw [length_map];omega,by omega,Aa.ev (Ev.same s') _ _ r,kd,l5,by rw [show T.ds.length-(i+1)+1=T.ds.length-i by omega];exact ta,λd' H4 o' kvs' s4 kd' l5' ta'=>⟨_,d',o',kvs',rfl,by omega,s'.trans s4,kd',l5',ta'⟩⟩
  ·obtain⟨x8,d,o,kvs,rfl,hi',s',kd,l5,ta⟩:=h;have e0:T.ds.length-((T.ds.map V.int).length:Int).toNat=0:=by rw [length_map];omega
   rw [e0] at ta;have ne:kvs≠ []:=λz=>by
    obtain⟨q,hq,_⟩:=ta.all 0 (by unfold En;split<;>first | rfl | exact mem_cons_self);rw [z] at hq;cases hq
   have h0:=fl.s0;have h4:=fl.s4;refine⟨d,o,kvs,rfl,kd,Ls (λj zs H''=>Ab H' H''/\∃fs:List (Int×List PyData),Ac p H'' (fs.map λq=> .tuple (.int q.1::q.2)) zs/\fs.length=j/\∀k q0,k<j->kvs[k]? =some q0->∃fq,fs[k]? =some fq/\GX p H' T 0 (λb f=>f-b * T.st) (λps=>ps) q0 fq) (by omega) ⟨Ab.refl _,[],.nil,rfl,(λk _ h=>absurd h (Nat.not_lt_zero k))⟩ (λj zs H'' h=>by obtain⟨_,fs,rs,lf,_⟩:=h;rw [<-rs.len,length_map,lf];exact Nat.le_refl _) (λj zs H'' h=>h.1 _ _ kd) (λj q0 zs H'' T' hq h hT=>?_) λzs H'' h=>?_⟩
   ·obtain⟨s3,fs,rs,lf,hfs⟩:=h;obtain⟨b,f,ps,eb,rq,ot⟩:=ta.one q0 (mem_of_getElem? hq);obtain⟨kk,y⟩:=q0;have eb':kk= .inl b:=eb;subst eb';obtain⟨l,bb,ey,hl0,hbb0⟩:=Aa.tailShape (Aa.ev (Ev.same s3) _ _ rq)
    replace ey:y= .ref l:=ey
    subst ey;have sT:=Ab.new (o:= .tup [.int b,.ref l]) hT;have s4:=s3.trans sT;have hl:=sT _ _ hl0;have hbb:=sT _ _ hbb0;refine⟨T',_,rfl,Ae.of Ah,rfl,_,_,rfl,_,_,rfl,l,_,rfl,Ae.of hl,rfl,_,_,rfl,_,_,rfl,rfl,rfl,⟨rfl,trivial⟩,λ_=>?_,λz=>by cases z⟩;refine⟨.inr ⟨Int.lt_of_lt_of_le (by decide) h0,Int.lt_of_le_of_lt h4 (by decide)⟩,λt8 H8 s8 k8=>?_⟩;refine⟨s4.trans s8,fs++[(f-b * T.st,[AJ ps])],?_,by rw [length_append,lf];rfl,λk q1 hk hq1=>?_⟩
    ·rw [map_append];exact Ac.snoc (Ac.ev (Ev.same (sT.trans s8)) _ _ rs) (Aa.tup k8 (.cons Aa.int (.cons (Aa.row (s8 _ _ hbb)) .nil)))
    ·by_cases z:k<j
     ·obtain⟨fq,h1,h2⟩:=hfs k q1 z hq1;exact⟨fq,by rw [getElem?_append_left (by omega)];exact h1,h2⟩
     ·obtain rfl:k=j:=by omega
      rw [hq] at hq1;cases hq1;exact⟨_,by rw [getElem?_append_right (by omega),lf,Nat.sub_self];rfl,b,f,ps,rfl,rq,ot,rfl⟩
   ·obtain⟨s3,fs,rs,lf,hfs⟩:=h;intro L hL;have nL:=Ab.new (o:= .lst zs) hL;have rsL:=Ac.ev (Ev.same (p:=p) nL) _ _ rs;have row:∀fq∈fs,∃q0∈kvs,GX p H' T 0 (λb f=>f-b * T.st) (λps=>ps) q0 fq:=λfq hfq=>by
     obtain⟨k,hk⟩:=getElem?_of_mem hfq;have hk':=(List.getElem?_eq_some_iff.mp hk).1;obtain⟨fq',h1,h2⟩:=hfs k kvs[k] (by omega) (getElem?_eq_getElem (by omega));rw [hk] at h1;cases h1;exact⟨_,getElem_mem _,h2⟩
    refine⟨p,L,fs,zs,rfl,Ah,rsL,λz=>ne (List.eq_nil_of_length_eq_zero (by rw [z] at lf;exact lf.symm)),λq1 h1 q2 h2=>?_,λi' fq v hfq hv top=>?_⟩
    ·obtain⟨_,_,b1,f1,ps1,_,_,_,e1⟩:=row q1 h1;obtain⟨_,_,b2,f2,ps2,_,_,_,e2⟩:=row q2 h2;rw [e1,e2];exact .cons (.row _ _) .nil
    ·obtain⟨q0,m0,b,f,ps,eb,rq,ot,rfl⟩:=row fq (mem_of_getElem? hfq);obtain⟨v',hv',rv⟩:=rsL.get (i:=i') (d:=Cj (f-b * T.st) ps) (by rw [getElem?_map,hfq];rfl);rw [hv] at hv';cases hv';refine q _ _ _ ps (s'.trans (s3.trans nL)) rv (Rc ta ot λx' f' ps' o1 ⟨q1,m1,e1,r1⟩=>?_);obtain⟨k,hk⟩:=getElem?_of_mem m1;have hk':=(List.getElem?_eq_some_iff.mp hk).1;obtain⟨fq',g1,b2,f2,ps2,e2,r2,o2,rfl⟩:=hfs k q1 hk' hk;have eb2:b2=x':=by rw [e1] at e2;injection e2 with e2;exact e2.symm
     subst eb2;have ef:=Mh r1 r2;subst ef;exact top _ (mem_of_getElem? g1)
 ·exact h.elim
end
end MF
end
section
namespace MF
open L2
variable {p : Addr} {H : Hp}
theorem Aa.intE {a b:Int} (h:b=a):Aa p H (.int a) (.int b):=by subst h;exact Aa.int
theorem Aa.pair {q:Nat×Nat}{v:V} (r:Aa p H (pD q) v):∃A,v= .ref A/\H A=some (.tup [.int q.1,.int q.2]):=by
 obtain⟨A,xs,rfl,hA,rs⟩:=Aa.shape r;obtain⟨x,y,rfl,rx,ry⟩:=Ac.two rs;unfold Aa at rx ry;subst rx ry;exact⟨A,rfl,hA⟩
def HA:Sp:=λvs H Q _=>match vs with | [v,u]=>∃p T f l,TM.ok T/\Aa p H T.d v/\Aa p H (pD (f,l)) u/\f<=l/\l<T.ds.length/\∀H',Ab H H'->Q (.bl (CV T f l)) H' | _=>False
def HB:Sp:=λvs H Q _=>match vs with | [v]=>∃p T,TM.ok T/\Aa p H T.d v/\ret H Q p (Lg (CL T)) | _=>False
section
variable {P : Program} {w : World} {K : Fgx} {mg : Str -> Option Value} {base : Heap}
theorem za2:Ax ["terms","stretch","caps","coals","draws","low","high","start","first","last","ahead","most"] ["terms","stretch"] (Ap waz):=AA
theorem SD (F:Df K mg "is_too_much" waz ["terms","stretch"]) (T:Tx mg)  :Fn P w K mg base 1 "is_too_much" ["terms","stretch"] HA:=by
 refine F.fn za2 (λvs H Q E h=>?_) (λf cdv A outer s H vs Q E hr h=>?_)
 ·unfold HA at h;split at h;rfl;exact h.elim
 refine⟨_,(Aj (Ba (cy 0) (AG K (n:=4) (Ai (Ag 2 za2.nd) (Ai (Ag 3 za2.nd) (Ai (Ag 4 za2.nd) (Ai (AG K (n:=3) (Ai (Ag 5 za2.nd) (Ai (Ag 6 za2.nd) (Ai (Ag 7 za2.nd) AC)))) AC)))))) (Aj (Ba (cy 1) (AG K (n:=2) (Ai (Ag 8 za2.nd) (Ai (Ag 9 za2.nd) AC)))) (Aj (AD (i:=10) za2.nd rfl (Az (by rfl)) (Fv (AS DB (cy 8) Af (AN _)) (cy 7) (cy 6))) (Aj (AD (i:=11) za2.nd rfl (Az (by rfl)) (At (DH rfl) rfl T.b_sum boot_sum (Ak (A7 ["row"] [none] rfl (BA K (Cs wa0 (cy 2) (BS (cy 8)) (BS (As A1 (cy 9) Af)))) (AE.of rfl) (λ_ _ _ _=>(Ag 0 (AB (by rfl)))) (λ_ _ _ _=>AY) (λ_ _ _ _=>(At (DH rfl) rfl T.b_sum boot_sum (Ak (cy 0)))))))) (An (Aw (C3 CQ (As A1 (cy 10) (cy 11)) (As A1 (At (DH rfl) rfl T.b_sum boot_sum (Ak (Cs wa0 (cy 4) (BS (cy 8)) (BS (As A1 (cy 9) Af))))) (cy 5)) (AN _)))))))),?_⟩;unfold HA at h;split at h
 ·rename_i v u;obtain⟨p,T,f,l,ok,r,ru,hfl,hl,q⟩:=h;obtain⟨A,C,B,D,M,xc,rfl,hA,hC,rc,hB,hD,hM⟩:=Aa.terms r;obtain⟨U,rfl,hU⟩:=Aa.pair ru;have l8:=ok.l8;have lc:=ok.lc;have lx:=rc.len;rw [length_map] at lx;refine⟨A,_,rfl,Ae.of hA,rfl,_,_,rfl,_,_,rfl,_,_,rfl,_,_,rfl,M,_,rfl,Ae.of hM,rfl,_,_,rfl,_,_,rfl,_,_,rfl,rfl,rfl,?_⟩;refine⟨U,_,rfl,Ae.of hU,rfl,_,_,rfl,_,_,rfl,rfl,rfl,⟨λc=>?_,λc=>?_⟩⟩
  ·have ea:(if f=0 then T.st else T.hi)=T.st:=by
    rw [DA] at c;have:(f:Int)=0:=by simpa using c
    rw [if_pos (by omega)]
   refine⟨(f:Int),rfl,(l:Int)+1,rfl,C,xc,rfl,hC,λR H1 s1 k1=>?_⟩;rw [GJ hfl (by omega)] at k1;have rp:=Ac.part (Ac.ev (Ev.same s1) _ _ rc) f l;rw [GK] at rp;have lp:=K8 (xs:=T.cs) hfl (by omega);have lq:=rp.len;rw [length_map] at lq;refine⟨R,rfl,⟨_,Ae.of k1⟩,BF (xs:=part xc f l) (λi ys H'=>Ab H1 H'/\ys=(((part T.cs f l).take i).map List.sum).map V.int) (by omega) ⟨Ab.refl _,rfl⟩ (λi ys H' h=>by rw [h.2,length_map,length_map,length_take];omega) (λi ys H' _ h=>Ae.of (h.1 _ _ k1)) (λi x ys H' hx h=>?_) λys H2 h=>?_⟩
   ·obtain⟨r',hr',rr⟩:=Ac.mapGot rp hx;obtain⟨ra,rfl,hra⟩:=Aa.ofRow' rr;refine⟨trivial,λ_=>⟨ra,r',rfl,.inr (h.1 _ _ hra),h.1,?_⟩,λz=>by cases z⟩;rw [A9 hr',map_append,map_append,h.2];rfl
   ·intro m hm;have s2:=s1.trans (h.1.trans (Ab.new (o:= .lst ys) hm));refine⟨m,(part T.cs f l).map List.sum,rfl,.inl ?_,?_⟩
    ·rw [Ah,h.2,take_of_length_le (by omega)]
    refine⟨(f:Int),rfl,(l:Int)+1,rfl,D,T.ds.map V.int,rfl,s2 _ _ hD,λR2 H3 s3 k3=>?_⟩;rw [GJ hfl (by rw [length_map];exact hl),GK] at k3;refine⟨R2,part T.ds f l,rfl,.inr k3,?_⟩;have:=q H3 (s2.trans s3);unfold CV at this;rw [ea] at this;exact this
  ·have ea:(if f=0 then T.st else T.hi)=T.hi:=by
    rw [DA] at c;have:(f:Int)≠0:=by simpa using c
    rw [if_neg (by omega)]
   refine⟨(f:Int),rfl,(l:Int)+1,rfl,C,xc,rfl,hC,λR H1 s1 k1=>?_⟩;rw [GJ hfl (by omega)] at k1;have rp:=Ac.part (Ac.ev (Ev.same s1) _ _ rc) f l;rw [GK] at rp;have lp:=K8 (xs:=T.cs) hfl (by omega);have lq:=rp.len;rw [length_map] at lq;refine⟨R,rfl,⟨_,Ae.of k1⟩,BF (xs:=part xc f l) (λi ys H'=>Ab H1 H'/\ys=(((part T.cs f l).take i).map List.sum).map V.int) (by omega) ⟨Ab.refl _,rfl⟩ (λi ys H' h=>by rw [h.2,length_map,length_map,length_take];omega) (λi ys H' _ h=>Ae.of (h.1 _ _ k1)) (λi x ys H' hx h=>?_) λys H2 h=>?_⟩
   ·obtain⟨r',hr',rr⟩:=Ac.mapGot rp hx;obtain⟨ra,rfl,hra⟩:=Aa.ofRow' rr;refine⟨trivial,λ_=>⟨ra,r',rfl,.inr (h.1 _ _ hra),h.1,?_⟩,λz=>by cases z⟩;rw [A9 hr',map_append,map_append,h.2];rfl
   ·intro m hm;have s2:=s1.trans (h.1.trans (Ab.new (o:= .lst ys) hm));refine⟨m,(part T.cs f l).map List.sum,rfl,.inl ?_,?_⟩
    ·rw [Ah,h.2,take_of_length_le (by omega)]
    refine⟨(f:Int),rfl,(l:Int)+1,rfl,D,T.ds.map V.int,rfl,s2 _ _ hD,λR2 H3 s3 k3=>?_⟩;rw [GJ hfl (by rw [length_map];exact hl),GK] at k3;refine⟨R2,part T.ds f l,rfl,.inr k3,?_⟩;have:=q H3 (s2.trans s3);unfold CV at this;rw [ea] at this;exact this
 ·exact h.elim
theorem zaa:Ax ["terms","caps","coals","draws","main","hours","stretches","found"] ["terms"] (Ap waA):=AA
theorem SE (F:Df K mg "least_stretch" waA ["terms"]) (T:Tx mg) (yat:Fn P w K mg base 1 "is_too_much" ["terms","stretch"] HA):Fn P w K mg base 2 "least_stretch" ["terms"] HB:=by
 refine F.fn zaa (λvs H Q E h=>?_) (λf cdv A outer s H vs Q E hr h=>?_)
 ·unfold HB at h;split at h;rfl;exact h.elim
 refine⟨_,(Aj (Ba (cy 0) (AG K (n:=4) (Ai (Ag 1 zaa.nd) (Ai (Ag 2 zaa.nd) (Ai (Ag 3 zaa.nd) (Ai (Ag 4 zaa.nd) AC)))))) (Aj (AD (i:=5) zaa.nd rfl (Az (by rfl)) (At (Bh K) rfl T.b_len PySem.boot_len (Ak (cy 3)))) (Aj (Pp (i:=6) ["first","last","hours"] [none,none,some 5] zaa.nd rfl (Az (by rfl)) rfl (BQ rfl T.b_range (Ak (cy 5))) (AE.of rfl) (λ_ _ _ _=>(Ag 0 (AB (by rfl)))) (λ_ _ _ _=>AY) (λ_ _ _ _=>(JG rfl T.b_range (Aq (cy 0) (cy 2)))) (λ_ _ _ _=>(Ag 1 (AB (by rfl)))) (λ_ _ _ _=>AY) (λ_ _ _ _=>(Bd (Aq (cy 0) (cy 1))))) (Aj (Fs (i:=7) ["stretch","terms"] [none,some 0] zaa.nd rfl (Az (by rfl)) rfl (Ee K (cy 6)) (AE.of rfl) (λ_ _ _ _=>(Ag 0 (AB (by rfl)))) (λ_ _ _ _=>(Fp (BU (Am yat (hr.mono (by decide)) rfl (Aq (cy 1) (cy 0)))))) (λ_ _ _ _=>(cy 0))) (An (Aw (Fv (Pr (cy 7)) (Au (A4 K) (cy 7) Af (λ_ _=>rfl)) Du))))))),?_⟩;unfold HB at h;split at h
 ·rename_i v;obtain⟨p,T,ok,r,q⟩:=h;obtain⟨A,C,B,D,M,xc,rfl,hA,hC,rc,hB,hD,hM⟩:=Aa.terms r;have l8:=ok.l8;refine⟨A,_,rfl,Ae.of hA,rfl,_,_,rfl,_,_,rfl,_,_,rfl,_,_,rfl,rfl,?_⟩;refine⟨D,_,rfl,.inr (Ae.of hD),?_⟩;rw [length_map];refine⟨_,rfl,by omega,by omega,K7 (n:=T.ds.length) (λi zs H'=>Ab H H'/\Ac p H' ((B9 T.ds.length i).map pD) zs) ⟨Ab.refl _,.nil⟩ (λi zs H1 hi h=>?_) λzs H1 h=>?_⟩
  ·refine⟨⟨rfl,trivial⟩,λ_=>?_,λz=>by cases z⟩;have lz:=h.2.len;rw [length_map] at lz;have ls:=Ld (n:=T.ds.length) (k:=i);have lm:T.ds.length * i<=8 * 8:=Nat.mul_le_mul l8 (by omega);have e0:((T.ds.length:Int)-(0+(i:Int))).toNat=T.ds.length-i:=by omega
   refine⟨_,_,rfl,⟨by omega,by omega,by omega,by omega⟩,?_⟩;rw [e0];refine Pn (n:=T.ds.length-i) (λj ys H2=>Ab H H2/\Ac p H2 ((B9 T.ds.length i++CK i j).map pD) ys/\j<=8) ⟨h.1,?_,Nat.zero_le _⟩ (λj ys H2 h=>?_) (λj ys H2 hj h2=>?_) λys H2 h2=>?_
   ·have e1:CK i 0=[]:=rfl;rw [e1,append_nil];exact h.2
   ·have h3:=h.2.1.len;rw [length_map,length_append,La] at h3;have:=h.2.2;omega
   ·refine⟨⟨rfl,rfl,trivial⟩,λ_ t ht=>?_,λz=>by cases z⟩;have nt:=Ab.new (o:= .tup [.int (0+(i:Int)),.int (0+(i:Int)+(j:Int))]) ht;refine⟨h2.1.trans nt,?_,by omega⟩;rw [Py,<-List.append_assoc,map_append];exact Ac.snoc (Ac.ev (Ev.same nt) _ _ h2.2.1) (Aa.tup Ah (.cons (Aa.intE (by simp)) (.cons (Aa.intE (by simp)) .nil)))
   ·refine⟨h2.1,?_⟩;rw [Lb];exact h2.2.1
  ·intro m hm;have s1:=h.1.trans (Ab.new (o:= .lst zs) hm);have r1:=Ac.ev (Ev.new (p:=p) (o:= .lst zs) hm) _ _ h.2;have lz:=h.2.len;rw [length_map] at lz;have ls:=Ld (n:=T.ds.length) (k:=T.ds.length);have lm:T.ds.length * T.ds.length<=8 * 8:=Nat.mul_le_mul l8 l8;refine⟨m,rfl,⟨zs,Al.of Ah⟩,Ft (xs:=zs) (λi ys H'=>Ab (upd H1 m (.lst zs)) H'/\Ac p H' ((((B9 T.ds.length T.ds.length).take i).filter λq=>CV T q.1 q.2).map pD) ys) (by omega) ⟨Ab.refl _,.nil⟩ (λi ys H' h=>?_) (λi ys H' _ h=>Al.of (h.1 _ _ Ah)) (λi x ys H' hx h=>?_) λys H2 h2=>?_⟩
   ·rw [<-h.2.len,length_map];exact Nat.le_trans (List.length_filter_le _ _) (by rw [length_take];omega)
   ·obtain⟨⟨f,l⟩,hf,rd⟩:=Ac.mapGot r1 hx;obtain⟨hfl,hl⟩:=Le (Nat.le_refl _) _ (mem_of_getElem? hf);refine⟨⟨rfl,trivial⟩,p,T,f,l,ok,Aa.ev (Ev.same (s1.trans h.1)) _ _ r,Aa.ev (Ev.same h.1) _ _ rd,hfl,hl,λH3 s3=>⟨λc=>?_,λc=>?_⟩⟩
    ·refine⟨h.1.trans s3,?_⟩;rw [A9 hf,filter_append,List.filter_cons_of_pos (by exact c),map_append];exact Ac.snoc (Ac.ev (Ev.same s3) _ _ h.2) (Aa.ev (Ev.same (h.1.trans s3)) _ _ rd)
    ·refine⟨h.1.trans s3,?_⟩;rw [A9 hf,filter_append,List.filter_cons_of_neg (by rw [show CV T (f,l).1 (f,l).2=false from c];decide),List.filter_nil,append_nil];exact Ac.ev (Ev.same s3) _ _ h.2
   ·intro m2 hm2;rw [take_of_length_le (by omega)] at h2;have s2:=s1.trans (h2.1.trans (Ab.new (o:= .lst ys) hm2));have r2:=Ac.ev (Ev.new (p:=p) (o:= .lst ys) hm2) _ _ h2.2;refine⟨m2,ys,rfl,Ah,⟨λc=>?_,λc=>?_⟩⟩
    ·cases ys with
     | nil=>cases c
     | cons y ys=>
      refine⟨m2,_,0,y,rfl,rfl,Al.of Ah,BT (j:=0) rfl,q _ _ s2 ?_⟩;have eq:EQ T=(B9 T.ds.length T.ds.length).filter λq=>CV T q.1 q.2:=rfl
      unfold CL;rw [<-eq] at r2;cases z:EQ T with
      | nil=>rw [z] at r2;have:=r2.len;cases this
      | cons a l=>
       rw [z] at r2;unfold Ac at r2;obtain⟨x,t,e,rx,_⟩:=r2;cases e;exact rx
    ·cases ys with
     | cons y ys=>cases c
     | nil=>
      refine q _ _ s2 ?_;have eq:EQ T=(B9 T.ds.length T.ds.length).filter λq=>CV T q.1 q.2:=rfl
      unfold CL;rw [<-eq] at r2;cases z:EQ T with
      | nil=>exact Aa.non
      | cons a l=>rw [z] at r2;have:=r2.len;cases this
 ·exact h.elim
end
end MF
end
section
namespace MF
open L2
variable {j n i k hour : Nat} {ras : List Addr} {T : TM} {H0 H H' : Hp} {zs : List V} {p : Addr}
structure Ff (H:Hp) (Fa Ma:Addr) (ras:List Addr) (f:List (List Int)) (ms:List Int):Prop where
 a:H Fa=some (.lst (ras.map V.ref))
 r:∀i,i<ras.length->H (ras.getD i 0)=some (.lst ((f.getD i []).map V.int))
 l:ras.length=f.length
 nd:∀i j,i<ras.length->j<ras.length->ras.getD i 0=ras.getD j 0->i=j
 m:H Ma=some (.lst (ms.map V.int))
 nm:∀i,i<ras.length->ras.getD i 0≠Ma
 nf:∀i,i<ras.length->ras.getD i 0≠Fa
 fm:Fa≠Ma
def FU (Ma:Addr) (ras:List Addr) (H H':Hp):Prop:=∀b o,H b=some o->b≠Ma->b ∉ ras->H' b=some o
def HC:Sp:=λvs H Q _=>match vs with | [.ref M,.int hi,.int a,.int h]=>∃(ms:List Int) (a' h':Nat),a=(a':Int)/\h=(h':Int)/\h'<ms.length/\ms.length<=8/\H M=some (.lst (ms.map V.int))/\∀H',Ab H H'->Q (.int (DO ms hi a' h')) H' | _=>False
def HD:Sp:=λvs H Q _=>match vs with | [v,.ref Fa,.ref Ma,.int h]=>∃p T hour f ms ras,Dj T/\T.lo<=T.hi/\CL T=none/\h=((hour:Nat):Int)/\Aa p H T.d v/\Ff H Fa Ma ras f ms/\Gr T f ms/\hour<ms.length/\ms.getD hour 0<T.lo/\∀H' f' ms',Ff H' Fa Ma ras f' ms'->Gr T f' ms'->ms.getD hour 0<ms'.getD hour 0->(∀k,k<ms.length->ms.getD k 0<=ms'.getD k 0)->FU Ma ras H H'->Q .non H' | _=>False
def HE:Sp:=λvs H Q _=>match vs with | [v]=>∃p T,Dj T/\T.lo<=T.hi/\CL T=none/\Aa p H T.d v/\∀A H' f ms,Ab H H'->Gr T f ms->(∀k,k<ms.length->T.lo<=ms.getD k 0)->Aa p H' (FD f) (.ref A)->Q (.ref A) H' | _=>False
theorem SF {ms:List Int}{a h:Nat}:Bf (ms.map V.int) (some (a:Int)) (some (h:Int))=((ms.take h).drop a).map V.int:=by
 unfold Bf;rw [HT.sIx_nat,HT.sIx_nat,length_map,<-map_drop,<-map_take];refine congrArg (List.map V.int) (ext_getElem? λk=>?_);rw [List.drop_take,getElem?_take,getElem?_take,getElem?_drop,getElem?_drop]
 by_cases c:min a ms.length+k<ms.length
 ·by_cases d:a<=ms.length
  ·rw [Nat.min_eq_left d]
   by_cases e:k<h-a
   ·rw [if_pos e,if_pos (by omega)]
   ·rw [if_neg e,if_neg (by omega)]
  ·omega
 ·have n1:ms[min a ms.length+k]? =none:=getElem?_eq_none (by omega);have n2:ms[a+k]? =none:=getElem?_eq_none (by omega);rw [n1,n2];split<;>split<;>rfl
theorem Fg {ms:List Int}{g:Int->V}{x:V} (h:(ms.map g)[j]? =some x):∃m,ms[j]? =some m/\x=g m:=by
 rw [getElem?_map] at h;cases z:ms[j]? with
 | none=>rw [z] at h;cases h
 | some m=>rw [z] at h;cases h;exact⟨m,rfl,rfl⟩
theorem SG {b:Addr} (h:b∈ras):∃k,k<ras.length/\ras.getD k 0=b:=by
 obtain⟨k,hk⟩:=getElem?_of_mem h;exact⟨k,(List.getElem?_eq_some_iff.mp hk).1,by rw [getD_eq_getElem?_getD,hk];rfl⟩
theorem FV {α:Type}{x d:α} (h:i<n):(List.replicate n x).getD i d=x:=by
 rw [getD_eq_getElem?_getD,List.getElem?_replicate,if_pos h];rfl
theorem Mi:∀n:Nat,(List.replicate n (0:Int)).sum=0
 | 0=>rfl
 | n+1=>by rw [replicate_succ,sum_cons,Mi n];rfl
theorem SH {ds:List Int} (h:k<ds.length):(ds.take (k+1)).sum=(ds.take k).sum+ds.getD k 0:=by
 rw [A9 (getElem?_eq_getElem h),sum_append,getD_eq_getElem?_getD,getElem?_eq_getElem h];show _+(ds[k]+0)=_+ds[k];omega
def DT (T:TM):List Int:=(List.range T.ds.length).map λk=>T.st-(T.ds.take (k+1)).sum
theorem Mj (h:k<T.ds.length):(DT T).getD k 0=T.st-(T.ds.take (k+1)).sum:=by
 unfold DT;rw [getD_eq_getElem?_getD,getElem?_map,getElem?_range h];rfl
theorem SI (fl:Dj T):Gr T (List.replicate T.ds.length (List.replicate T.co.length 0)) (DT T):=by
 have lm:(DT T).length=T.ds.length:=by unfold DT;rw [length_map,length_range]
 refine⟨length_replicate,λi hi=>?_,λi b hi hb=>?_,lm,λk hk=>?_⟩
 ·rw [length_replicate] at hi;rw [FV hi,length_replicate]
 ·rw [length_replicate] at hi;rw [FV hi,FV hb];refine⟨Int.le_refl _,?_⟩;have c:=fl.c _ (getD_mem (l:=T.cs) (d:=[]) (i:=i) (by rw [fl.ok.lc];exact hi));exact(c.2 _ (getD_mem (by rw [c.1];exact hb))).1
 ·rw [lm] at hk;rw [Mj hk,FV hk,Mi,SH hk]
  by_cases k0:k=0
  ·subst k0;rw [if_pos rfl,take_zero,sum_nil];omega
  ·rw [if_neg k0,Mj (by omega),show k-1+1=k by omega];omega
structure Rows0 (H0 H:Hp) (i n:Nat) (zs:List V):Prop where
 ex:∃ras:List Addr,zs=ras.map V.ref/\ras.length=i/\(∀k,k<i->H0 (ras.getD k 0)=none/\H (ras.getD k 0)=some (.lst ((List.replicate n (0:Int)).map V.int)))/\∀j k,j<i->k<i->ras.getD j 0=ras.getD k 0->j=k
theorem Rows0.zero:Rows0 H0 H 0 n []:=⟨[],rfl,rfl,λk hk=>absurd hk (Nat.not_lt_zero _),λj k hj=>absurd hj (Nat.not_lt_zero _)⟩
theorem Rows0.len (h:Rows0 H0 H i n zs):zs.length=i:=by
 obtain⟨ras,rfl,l,_⟩:=h.ex;rw [length_map,l]
theorem Rows0.put {L:Addr} (h:Rows0 H0 H i n zs) (s0:Ab H0 H) (s:Ab H H') (n0:H L=none) (k:H' L=some (.lst ((List.replicate n (0:Int)).map V.int))):Rows0 H0 H' (i+1) n (zs++[.ref L]):=by
 obtain⟨ras,rfl,l,h1,h2⟩:=h.ex;have g1:∀c,c<i->(ras++[L]).getD c 0=ras.getD c 0:=λc hc=>by rw [getD_eq_getElem?_getD,getElem?_append_left (by omega),getD_eq_getElem?_getD]
 have g2:(ras++[L]).getD i 0=L:=by rw [getD_eq_getElem?_getD,getElem?_append_right (by omega),l,Nat.sub_self];rfl
 have ne:∀c,c<i->ras.getD c 0≠L:=λc hc e=>by
  have:=(h1 c hc).2;rw [e,n0] at this;cases this
 refine⟨ras++[L],by rw [map_append];rfl,by rw [length_append,l];rfl,λc hc=>?_,λa b ha hb e=>?_⟩
 ·by_cases e:c=i
  ·rw [e,g2];refine⟨?_,k⟩;cases z:H0 L with
   | none=>rfl
   | some o=>have:=s0 _ _ z;rw [n0] at this;cases this
  ·rw [g1 c (by omega)];exact⟨(h1 c (by omega)).1,s _ _ (h1 c (by omega)).2⟩
 ·by_cases ea:a=i
  ·by_cases eb:b=i
   ·rw [ea,eb]
   ·rw [ea,g2,g1 b (by omega)] at e;exact absurd e.symm (ne b (by omega))
  ·by_cases eb:b=i
   ·rw [eb,g2,g1 a (by omega)] at e;exact absurd e (ne a (by omega))
   ·rw [g1 a (by omega),g1 b (by omega)] at e;exact h2 a b (by omega) (by omega) e
theorem Ml {ns:List Int}{b:Nat} (h:b<ns.length):(ns.map V.int)[b]? =some (.int (ns.getD b 0)):=by
 rw [getElem?_map,getElem?_eq_getElem h,getD_eq_getElem?_getD,getElem?_eq_getElem h];rfl
theorem Mm {b:Nat} (h:b<n):Ct n (b:Int)=some b:=by
 unfold Ct;rw [if_pos (Int.natCast_nonneg b),if_pos (by omega),Int.toNat_natCast]
theorem DU {t:CB->L2.St->Hp->Prop}{D:CB}{σ σ':L2.St} (e:σ=σ') (h:t D σ' H):t D σ H:=by rw [e];exact h
theorem Jp (h:i<ras.length):Bu (ras.map V.ref) (i:Int)=some (.ref (ras.getD i 0)):=by
 refine BT ?_;rw [getElem?_map,getElem?_eq_getElem h,getD_eq_getElem?_getD,getElem?_eq_getElem h];rfl
theorem Aa.capRow {cs:List (List Int)}{xc:List V}{C:Addr} (rc:Ac p H (cs.map AJ) xc) (hC:H C=some (.tup xc)) {i:Nat} (hi:i<cs.length):∃cr,Bu xc (i:Int)=some (.ref cr)/\H cr=some (.tup ((cs.getD i []).map V.int)):=by
 have lx:=rc.len;rw [length_map] at lx;obtain⟨x,hx⟩:∃x,xc[i]? =some x:=⟨xc[i],getElem?_eq_getElem (by omega)⟩;obtain⟨g,hg,rg⟩:=Ac.mapGot rc hx;have e:cs.getD i []=g:=by rw [getD_eq_getElem?_getD,hg];rfl
 obtain⟨cr,xs,rfl,h1,h2⟩:=Aa.shape rg;rw [Ac.ints h2] at h1;exact⟨cr,BT hx,by rw [e];exact h1⟩
def Mo (T:TM) (q:Nat×Nat):PyData:= .tuple [.int (T.co.getD q.2 0),.int (q.1:Int),.int (q.2:Int)]
structure Cands (T:TM) (f:List (List Int)) (ms:List Int) (hour:Nat) (p:Addr) (H:Hp) (i j:Nat) (zs:List V):Prop where
 ex:∃cs:List (Nat×Nat),Ac p H (cs.map (Mo T)) zs/\cs.length<=i * 4+j/\(∀q∈cs,q.1<=hour/\q.2<T.co.length/\E4 T f ms hour q.1 q.2)/\∀a b,(a<i\/(a=i/\b<j))->b<T.co.length->E4 T f ms hour a b->(a,b)∈cs
theorem Cands.zero {f:List (List Int)}{ms:List Int}:Cands T f ms hour p H 0 0 []:=⟨[],.nil,Nat.le_refl _,λq hq=>(nomatch hq),λa b h=>by omega⟩
theorem Cands.row {f:List (List Int)}{ms:List Int} (c:Cands T f ms hour p H i T.co.length zs) (o4:T.co.length<=4):Cands T f ms hour p H (i+1) 0 zs:=by
 obtain⟨cs,rs,l,h1,h2⟩:=c.ex;refine⟨cs,rs,by omega,h1,λa b h hb m=>h2 a b ?_ hb m⟩;omega
theorem Cands.skip {f:List (List Int)}{ms:List Int} (c:Cands T f ms hour p H i j zs) (s:Ab H H') (no:¬E4 T f ms hour i j):Cands T f ms hour p H' i (j+1) zs:=by
 obtain⟨cs,rs,l,h1,h2⟩:=c.ex;refine⟨cs,Ac.ev (Ev.same s) _ _ rs,by omega,h1,λa b h hb m=>?_⟩
 by_cases e:a=i/\b=j
 ·rw [e.1,e.2] at m;exact absurd m no
 ·exact h2 a b (by omega) hb m
theorem Cands.put {f:List (List Int)}{ms:List Int}{u:V} (c:Cands T f ms hour p H i j zs) (s:Ab H H') (hi:i<=hour) (hj:j<T.co.length) (m:E4 T f ms hour i j) (ru:Aa p H' (Mo T (i,j)) u):Cands T f ms hour p H' i (j+1) (zs++[u]):=by
 obtain⟨cs,rs,l,h1,h2⟩:=c.ex;refine⟨cs++[(i,j)],by rw [map_append];exact Ac.append (Ac.ev (Ev.same s) _ _ rs) (.cons ru .nil),by rw [length_append];simp;omega,λq hq=>?_,λa b h hb m'=>?_⟩
 ·rcases mem_append.mp hq with hq | hq
  ·exact h1 q hq
  ·rw [mem_singleton.mp hq];exact⟨hi,hj,m⟩
 ·by_cases e:a=i/\b=j
  ·rw [e.1,e.2];exact mem_append_right _ (mem_singleton.mpr rfl)
  ·exact mem_append_left _ (h2 a b (by omega) hb m')
section
variable {P : Program} {w : World} {K : Fgx} {mg : Str -> Option Value} {base : Heap}
theorem SJ:Ax ["mains","high","first","hour"] ["mains","high","first","hour"] (Ap waH):=AA
theorem SK (F:Df K mg "room_between" waH ["mains","high","first","hour"]) (T:Tx mg)  :Fn P w K mg base 1 "room_between" ["mains","high","first","hour"] HC:=by
 refine F.fn SJ (λvs H Q E h=>?_) (λf cdv A outer s H vs Q E hr h=>?_)
 ·unfold HC at h;split at h;rfl;exact h.elim
 refine⟨_,(An (Aw (Rs rfl rfl T.b_min (Ak (A7 ["main","high"] [none,some 1] rfl (Ee K (Cs (KN K) (cy 0) (BS (cy 2)) (BS (cy 3)))) (AE.of rfl) (λ_ _ _ _=>(Ag 0 (AB (by rfl)))) (λ_ _ _ _=>AY) (λ_ _ _ _=>(As Bl (cy 1) (cy 0))))) (Nq (As Bl (cy 1) (Au (A4 K) (cy 0) (cy 3) (λ_ _=>rfl))) Np)))),?_⟩;unfold HC at h;split at h
 ·rename_i M hi a h';obtain⟨ms,a',h0,rfl,rfl,lt,l8,hM,q⟩:=h;refine⟨(a':Int),rfl,(h0:Int),rfl,M,_,rfl,Al.of hM,λL hL=>?_⟩;have nL:=Ab.new (o:= .lst (Bf (ms.map V.int) (some (a':Int)) (some (h0:Int)))) hL;have ec:Bf (ms.map V.int) (some (a':Int)) (some (h0:Int))=((ms.take h0).drop a').map V.int:=SF;have kL:upd H L (.lst (Bf (ms.map V.int) (some (a':Int)) (some (h0:Int)))) L=some (.lst (((ms.take h0).drop a').map V.int)):=by rw [Ah,ec]
  generalize upd H L (.lst (Bf (ms.map V.int) (some (a':Int)) (some (h0:Int))))=H1 at nL kL ⊢;have ll:((ms.take h0).drop a').length<=8:=by rw [length_drop,length_take];omega
  refine⟨L,rfl,⟨_,Al.of kL⟩,Ft (xs:=((ms.take h0).drop a').map V.int) (λj zs H'=>Ab H1 H'/\zs=(((ms.take h0).drop a').take j).map λm=>V.int (hi-m)) (by rw [length_map];omega) ⟨Ab.refl _,rfl⟩ (λj zs H' h=>by rw [h.2,length_map,length_take];omega) (λj zs H' _ h=>Al.of (h.1 _ _ kL)) (λj x zs H' hx h=>?_) λzs H' h=>?_⟩
  ·obtain⟨m,hm,rfl⟩:=Fg hx;refine⟨⟨rfl,trivial⟩,λ_=>⟨h.1,?_⟩,λz=>by cases z⟩;rw [A9 hm,map_append,h.2];rfl
  intro L2 hL2;have n2:=Ab.new (o:= .lst zs) hL2;have k2:upd H' L2 (.lst zs) L2=some (.lst ((((ms.take h0).drop a').map (hi- ·)).map V.int)):=by
   rw [Ah,h.2,length_map,take_length,map_map];rfl
  have s2:=nL.trans (h.1.trans n2);generalize upd H' L2 (.lst zs)=H2 at n2 k2 s2 ⊢;refine⟨M,_,(h0:Int),.int (ms.getD h0 0),rfl,rfl,Al.of (s2 _ _ hM),B4 lt,L2,_,_,rfl,k2,rfl,λe=>?_,λMn hm hl=>?_⟩
  ·rw [<-Rg e];exact q _ s2
  ·rw [Rf hm hl];exact q _ s2
 ·exact h.elim
theorem za1:Ax ["terms","firing","mains","hour","caps","coals","draws","low","high","start","coal","at","boiler","lacking","spare","more","later"] ["terms","firing","mains","hour"] (Ap waG):=AA
theorem SL (F:Df K mg "make_cheapest" waG ["terms","firing","mains","hour"]) (T:Tx mg) (yae:Fn P w K mg base 1 "room_between" ["mains","high","first","hour"] HC):Fn P w K mg base 2 "make_cheapest" ["terms","firing","mains","hour"] HD:=by
 refine F.fn za1 (λvs H Q E h=>?_) (λf cdv A outer s H vs Q E hr h=>?_)
 ·unfold HD at h;split at h;rfl;exact h.elim
 refine⟨_,(Aj (Ba (cy 0) (AG K (n:=4) (Ai (Ag 4 za1.nd) (Ai (Ag 5 za1.nd) (Ai (Ag 6 za1.nd) (Ai (AG K (n:=3) (Ai (Ag 7 za1.nd) (Ai (Ag 8 za1.nd) (Ai (Ag 9 za1.nd) AC)))) AC)))))) (Aj (Ba (At (Q7 rfl hr) rfl T.b_min boot_min (Ak (Ph ["at","boiler","coal","mains","high","hour","firing","caps","coals"] [none,none,none,some 2,some 8,some 3,some 1,some 4,some 5] rfl (BQ rfl T.b_range (Ak (As A1 (cy 3) Af))) (AE.of rfl) (λ_ _ _ _=>(Ag 0 (AB (by rfl)))) (λ_ _ _ _=>AY) (λ_ _ _ _=>(Ef P w K rfl T.b_enumerate (Ak (cy 8)))) (λ_ _ _ _=>(AG K (n:=2) (Ai (Ag 1 (AB (by rfl))) (Ai (Ag 2 (AB (by rfl))) AC)))) (λ_ _ _ _=>(Fp (PW.pt (Da (AS CQ (Au (A4 K) (Au (A4 K) (cy 6) (cy 0) (λ_ _=>rfl)) (cy 1) (λ_ _=>rfl)) (Au (AF K) (Au (AF K) (cy 7) (cy 0) (λ_ _=>rfl)) (cy 1) (λ_ _=>rfl)) (AN _)) (Dv (AS Eb (Am yae (hr.mono (by decide)) rfl (Bp (cy 3) (cy 4) (cy 0) (cy 5))) Af (AN _))))))) (λ_ _ _ _=>(Bj (AM (cy 2) (cy 0) (cy 1))))))) (AG K (n:=3) (Ai (Ag 10 za1.nd) (Ai (Ag 11 za1.nd) (Ai (Ag 12 za1.nd) AC))))) (Aj (AD (i:=13) za1.nd rfl (Az (by rfl)) (As Bl (cy 7) (Au (A4 K) (cy 2) (cy 3) (λ_ _=>rfl)))) (Aj (AD (i:=14) za1.nd rfl (Az (by rfl)) (As Bl (Au (AF K) (Au (AF K) (cy 4) (cy 11) (λ_ _=>rfl)) (cy 12) (λ_ _=>rfl)) (Au (A4 K) (Au (A4 K) (cy 1) (cy 11) (λ_ _=>rfl)) (cy 12) (λ_ _=>rfl)))) (Aj (AD (i:=15) za1.nd rfl (Az (by rfl)) (At (Rt rfl) rfl T.b_min boot_min (AM (cy 13) (cy 14) (Am yae (hr.mono (by decide)) rfl (Bp (cy 2) (cy 8) (cy 11) (cy 3)))))) (Aj (JA (Au (A4 K) (cy 1) (cy 11) (λ_ _=>rfl)) (cy 12) LN (cy 15) Ig Fo) (An (Bs PassesOwn.never rfl (JG rfl T.b_range (Aq (cy 11) (At (Bh K) rfl T.b_len PySem.boot_len (Ak (cy 2))))) (Ag 16 za1.nd) (An (JA (cy 2) (cy 16) LN (cy 15) Ig Fo)))))))))),?_⟩;unfold HD at h;split at h
 ·rename_i v Fa Ma h';obtain⟨p,T,hour,f,ms,ras,fl,lh,no,rfl,r,fi,gr,hh,low,q⟩:=h;obtain⟨A,C,B,D,M,xc,rfl,hA,hC,rc,hB,hD,hM⟩:=Aa.terms r;have l8:=fl.ok.l8;have o4:=fl.o;have lm:=gr.lm;have lf:=gr.lf;have lc:=fl.ok.lc;have lr:ras.length=T.ds.length:=by rw [fi.l,lf]
  have lx:=rc.len;rw [length_map] at lx;refine⟨A,_,rfl,Ae.of hA,rfl,_,_,rfl,_,_,rfl,_,_,rfl,_,_,rfl,M,_,rfl,Ae.of hM,rfl,_,_,rfl,_,_,rfl,_,_,rfl,rfl,rfl,?_⟩;refine DU (σ':=[some (.ref A),some (.ref Fa),some (.ref Ma),some (.int (hour:Int)),some (.ref C),some (.ref B),some (.ref D),some (.int T.lo),some (.int T.hi),some (.int T.st),none,none,none,none,none,none,none]) rfl ?_;refine⟨_,rfl,by omega,by omega,?_⟩;rw [show((hour:Int)+1).toNat=hour+1 by omega];refine K7 (n:=hour+1) (λi zs H'=>Ab H H'/\Cands T f ms hour p H' i 0 zs) ⟨Ab.refl _,Cands.zero⟩ (λi zs H1 hi h=>?_) λzs H1 h=>?_
  ·refine⟨⟨rfl,rfl,rfl,rfl,rfl,rfl,trivial⟩,λ_=>?_,λz=>by cases z⟩;refine⟨B,rfl,⟨_,Ae.of (h.1 _ _ hB)⟩,Pi (xs:=T.co.map V.int) (λj ys H2=>Ab H H2/\j<=T.co.length/\Cands T f ms hour p H2 i j ys) ⟨h.1,Nat.zero_le _,h.2⟩ (λj ys H2 h2=>?_) (λj ys H2 h2=>Ae.of (h2.1 _ _ hB)) (λj x ys H2 U hx h2 hU=>?_) λys H2 h2=>?_⟩
   ·obtain⟨cs,rs,l,_⟩:=h2.2.2.ex;have:=rs.len;rw [length_map] at this;have:i * 4<=7 * 4:=Nat.mul_le_mul_right 4 (by omega);omega
   ·obtain⟨c,hc,rfl⟩:=Fg hx;have hj:j<T.co.length:=(List.getElem?_eq_some_iff.mp hc).1;have nU:=Ab.new (o:= .tup [.int (j:Int),.int c]) hU;have s2:=h2.1.trans nU;have kU:upd H2 U (.tup [.int (j:Int),.int c]) U=some (.tup [.int (j:Int),.int c]):=Ah;generalize upd H2 U (.tup [.int (j:Int),.int c])=H3 at nU s2 kU ⊢;have hif:i<ras.length:=by omega
    have hic:i<T.cs.length:=by omega
    have lrow:=gr.row i (by omega);have lcap:=(fl.c _ (getD_mem (l:=T.cs) (d:=[]) hic)).1;obtain⟨cr,hcr,hcd⟩:=Aa.capRow rc hC hic;refine⟨U,_,rfl,Ae.of kU,rfl,_,_,rfl,_,_,rfl,rfl,⟨rfl,rfl,rfl,rfl,rfl,rfl,rfl,trivial⟩,?_⟩;rw [show(0+(i:Int))=(i:Int) by omega];refine⟨Fa,_,(i:Int),.ref (ras.getD i 0),rfl,rfl,Al.of (s2 _ _ fi.a),Jp hif,ras.getD i 0,_,(j:Int),.int ((f.getD i []).getD j 0),rfl,rfl,Al.of (s2 _ _ (fi.r i hif)),B4 (by omega),C,_,(i:Int),.ref cr,rfl,rfl,Ae.of (s2 _ _ hC),hcr,cr,_,(j:Int),.int ((T.cs.getD i []).getD j 0),rfl,rfl,Ae.of (s2 _ _ hcd),B4 (by omega),?_⟩;have ec:T.co.getD j 0=c:=by rw [getD_eq_getElem?_getD,hc];rfl
    refine⟨λc1=>?_,λc1=>⟨λz=>(by cases z),λ_=>⟨s2,hj,h2.2.2.skip nU λm=>absurd m.1 (of_decide_eq_false c1)⟩⟩⟩;refine⟨ms,i,hour,rfl,rfl,hh,by omega,s2 _ _ fi.m,λH4 s4=>⟨λc2=>λu H5 s5 k5=>?_,λc2=>⟨s2.trans s4,hj,h2.2.2.skip (nU.trans s4) λm=>absurd m.2 (of_decide_eq_false c2)⟩⟩⟩;refine⟨s2.trans (s4.trans s5),hj,h2.2.2.put (nU.trans (s4.trans s5)) (by omega) hj ⟨of_decide_eq_true c1,of_decide_eq_true c2⟩ ?_⟩;show Aa p H5 (.tuple [.int (T.co.getD j 0),.int (i:Int),.int (j:Int)]) (.ref u);rw [ec];exact Aa.tup k5 (.cons Aa.int (.cons Aa.int (.cons Aa.int .nil)))
   ·refine⟨h2.1,Cands.row ?_ o4⟩;have:=h2.2.2;rw [length_map] at this;exact this
  ·intro L hL;obtain⟨cs,rs,lcs,h1,h2⟩:=h.2.ex;have nL:=Ab.new (o:= .lst zs) hL;have kL:upd H1 L (.lst zs) L=some (.lst zs):=Ah;have s2:=h.1.trans nL;generalize upd H1 L (.lst zs)=H2 at nL kL s2 ⊢;have rs2:=Ac.ev (Ev.same (p:=p) nL) _ _ rs;have rs3:Ac p H2 ((cs.map λq=>(T.co.getD q.2 0,[PyData.int (q.1:Int),PyData.int (q.2:Int)])).map λq=> .tuple (.int q.1::q.2)) zs:=by rw [map_map];exact rs2
   refine⟨p,L,_,_,rfl,kL,rs3,?_,?_,λk qq u hq hv le=>?_⟩
   ·obtain⟨a,b,ha,hb,m⟩:=Rj fl lh no gr hh low;intro e;have e2:=List.map_eq_nil_iff.mp e;have:=h2 a b (.inl (by omega)) hb m;rw [e2] at this;cases this
   ·intro q1 m1 q2 m2;obtain⟨_,_,rfl⟩:=mem_map.mp m1;obtain⟨_,_,rfl⟩:=mem_map.mp m2;exact .cons (.int _ _) (.cons (.int _ _) .nil)
   obtain⟨⟨a,b⟩,hg,rg⟩:=Ac.mapGot rs2 hv;obtain⟨ha0,hb0,may0⟩:=h1 _ (mem_of_getElem? hg);have ha:a<=hour:=ha0;have hb:b<T.co.length:=hb0;have may:E4 T f ms hour a b:=may0;clear ha0 hb0 may0;obtain⟨t,xs,rfl,ht,rx⟩:=Aa.shape rg;rw [Ac.ints (ns:=[T.co.getD b 0,(a:Int),(b:Int)]) rx] at ht;have hif:a<ras.length:=by omega
   have hic:a<T.cs.length:=by omega
   have lrow:=gr.row a (by omega);have lcap:=(fl.c _ (getD_mem (l:=T.cs) (d:=[]) hic)).1;obtain⟨cr,hcr,hcd⟩:=Aa.capRow rc hC hic;refine⟨t,_,rfl,Ae.of ht,rfl,_,_,rfl,_,_,rfl,_,_,rfl,rfl,?_⟩;refine DU (σ':=[some (.ref A),some (.ref Fa),some (.ref Ma),some (.int (hour:Int)),some (.ref C),some (.ref B),some (.ref D),some (.int T.lo),some (.int T.hi),some (.int T.st),some (.int (T.co.getD b 0)),some (.int (a:Int)),some (.int (b:Int)),none,none,none,none]) rfl ?_;refine⟨Ma,_,(hour:Int),.int (ms.getD hour 0),rfl,rfl,Al.of (s2 _ _ fi.m),B4 hh,?_⟩;dsimp only [mI0,Dy];refine DU (σ':=[some (.ref A),some (.ref Fa),some (.ref Ma),some (.int (hour:Int)),some (.ref C),some (.ref B),some (.ref D),some (.int T.lo),some (.int T.hi),some (.int T.st),some (.int (T.co.getD b 0)),some (.int (a:Int)),some (.int (b:Int)),some (.int (T.lo-ms.getD hour 0)),none,none,none]) rfl ?_;refine⟨C,_,(a:Int),.ref cr,rfl,rfl,Ae.of (s2 _ _ hC),hcr,cr,_,(b:Int),.int ((T.cs.getD a []).getD b 0),rfl,rfl,Ae.of (s2 _ _ hcd),B4 (by omega),Fa,_,(a:Int),.ref (ras.getD a 0),rfl,rfl,Al.of (s2 _ _ fi.a),Jp hif,ras.getD a 0,_,(b:Int),.int ((f.getD a []).getD b 0),rfl,rfl,Al.of (s2 _ _ (fi.r a hif)),B4 (by omega),?_⟩;dsimp only [mI0,Dy];refine DU (σ':=[some (.ref A),some (.ref Fa),some (.ref Ma),some (.int (hour:Int)),some (.ref C),some (.ref B),some (.ref D),some (.int T.lo),some (.int T.hi),some (.int T.st),some (.int (T.co.getD b 0)),some (.int (a:Int)),some (.int (b:Int)),some (.int (T.lo-ms.getD hour 0)),some (.int ((T.cs.getD a []).getD b 0-(f.getD a []).getD b 0)),none,none]) rfl ?_;refine⟨ms,a,hour,rfl,rfl,hh,by omega,s2 _ _ fi.m,λH4 s4=>⟨_,_,_,rfl,λm hm m1 m2 m3=>?_⟩⟩;have s5:=s2.trans s4;have m0:0<m:=by
    have:=may.1;have:=may.2;rcases hm with rfl | rfl | rfl<;>omega
   have hget:=Ml (ns:=f.getD a []) (b:=b) (by omega);have hix:Ct ((f.getD a []).map V.int).length (b:Int)=some b:=Mm (by rw [length_map];omega);dsimp only [mI0,Dy];refine DU (σ':=[some (.ref A),some (.ref Fa),some (.ref Ma),some (.int (hour:Int)),some (.ref C),some (.ref B),some (.ref D),some (.int T.lo),some (.int T.hi),some (.int T.st),some (.int (T.co.getD b 0)),some (.int (a:Int)),some (.int (b:Int)),some (.int (T.lo-ms.getD hour 0)),some (.int ((T.cs.getD a []).getD b 0-(f.getD a []).getD b 0)),some (.int m),none]) rfl ?_;refine⟨Fa,_,(a:Int),.ref (ras.getD a 0),rfl,rfl,Al.of (s5 _ _ fi.a),Jp hif,?_⟩;refine⟨ras.getD a 0,_,b,.int ((f.getD a []).getD b 0),rfl,rfl,s5 _ _ (fi.r a hif),hget,?_⟩;refine⟨_,_,rfl,rfl,?_⟩;refine⟨ras.getD a 0,_,(b:Int),b,rfl,rfl,s5 _ _ (fi.r a hif),hix,?_⟩;have e6:((f.getD a []).map V.int).set b (V.int ((f.getD a []).getD b 0+m))=((f.getD a []).set b ((f.getD a []).getD b 0+m)).map V.int:=by rw [map_set]
   have k6:upd H4 (ras.getD a 0) (.lst (((f.getD a []).map V.int).set b (V.int ((f.getD a []).getD b 0+m)))) (ras.getD a 0)=some (.lst (((f.getD a []).set b ((f.getD a []).getD b 0+m)).map V.int)):=by rw [Ah,e6]
   have o6:∀c o,H4 c=some o->c≠ras.getD a 0->upd H4 (ras.getD a 0) (.lst (((f.getD a []).map V.int).set b (V.int ((f.getD a []).getD b 0+m)))) c=some o:=λc o e n=>by rw [Ar n];exact e
   generalize upd H4 (ras.getD a 0) (.lst (((f.getD a []).map V.int).set b (V.int ((f.getD a []).getD b 0+m))))=H6 at k6 o6 ⊢;have m6:H6 Ma=some (.lst (ms.map V.int)):=o6 _ _ (s5 _ _ fi.m) (Ne.symm (fi.nm a hif));refine⟨Ma,_,rfl,.inl (Al.of m6),?_⟩;rw [length_map];refine⟨_,_,rfl,⟨by omega,by omega,by omega,by omega⟩,?_⟩;rw [show((ms.length:Int)-(a:Int)).toNat=ms.length-a by omega];refine C1 (n:=ms.length-a) (λe σ H'=>(∃x16,σ=[some (.ref A),some (.ref Fa),some (.ref Ma),some (.int (hour:Int)),some (.ref C),some (.ref B),some (.ref D),some (.int T.lo),some (.int T.hi),some (.int T.st),some (.int (T.co.getD b 0)),some (.int (a:Int)),some (.int (b:Int)),some (.int (T.lo-ms.getD hour 0)),some (.int ((T.cs.getD a []).getD b 0-(f.getD a []).getD b 0)),some (.int m),x16])/\H' Ma=some (.lst ((Cc ms a (a+e) m).map V.int))/\∀c o,H6 c=some o->c≠Ma->H' c=some o) ⟨⟨_,rfl⟩,by rw [Nat.add_zero,Rk];exact m6,λc o e n=>e⟩ (λe σ H7 he h7=>?_) fun σ H7 h7=>?_
   ·obtain⟨⟨x16,rfl⟩,m7,o7⟩:=h7;have le:=Eo (ms:=ms) (a:=a) (e:=a+e) (m:=m);have hg:=Ml (ns:=Cc ms a (a+e) m) (b:=a+e) (by omega);refine⟨Ma,_,a+e,_,rfl,by rw [Int.natCast_add],m7,hg,_,_,rfl,rfl,Ma,_,((a+e:Nat):Int),a+e,rfl,by rw [Int.natCast_add],m7,Mm (by rw [length_map];omega),⟨_,rfl⟩,?_,λc o e1 n=>?_⟩
    ·rw [Ah,<-Nat.add_assoc,<-Rl (by omega) (by omega),map_set]
    ·rw [Ar n];exact o7 c o e1 n
   obtain⟨⟨x16,rfl⟩,m7,o7⟩:=h7;rw [show a+(ms.length-a)=ms.length by omega] at m7;have at1:∀i,(E5 f a b m).getD i []=if i=a then(f.getD a []).set b ((f.getD a []).getD b 0+m) else f.getD i []:=λi=>Jh (by omega)
   refine q H7 (E5 f a b m) (Cc ms a ms.length m) ⟨o7 _ _ (o6 _ _ (s5 _ _ fi.a) (Ne.symm (fi.nf a hif))) fi.fm,λi hi=>?_,by rw [show(E5 f a b m).length=f.length from length_set];exact fi.l,fi.nd,m7,fi.nm,fi.nf,fi.fm⟩ (gr.more (by omega) hb (by omega) m2) ?_ (λk hk=>?_) λc o e n1 n2=>?_
   ·rw [at1]
    by_cases e:i=a
    ·rw [if_pos e,e];exact o7 _ _ k6 (fi.nm a hif)
    ·rw [if_neg e];exact o7 _ _ (o6 _ _ (s5 _ _ (fi.r i hi)) λz=>e (fi.nd i a hi hif z)) (fi.nm i hi)
   ·rw [FH hh,if_pos ⟨ha,hh⟩];omega
   ·rw [FH hk];split<;>omega
   ·refine o7 _ _ (o6 _ _ (s5 _ _ e) λz=>n2 ?_) n1;rw [z];exact getD_mem hif
 ·exact h.elim
theorem za5:Ax ["terms","caps","coals","draws","low","high","start","firing","mains","hour"] ["terms"] (Ap waF):=AA
theorem SM (F:Df K mg "least_firing" waF ["terms"]) (T:Tx mg) (yau:Fn P w K mg base 2 "make_cheapest" ["terms","firing","mains","hour"] HD):Fn P w K mg base 3 "least_firing" ["terms"] HE:=by
 refine F.fn za5 (λvs H Q E h=>?_) (λf cdv A outer s H vs Q E hr h=>?_)
 ·unfold HE at h;split at h;rfl;exact h.elim
 refine⟨_,(Aj (Ba (cy 0) (AG K (n:=4) (Ai (Ag 1 za5.nd) (Ai (Ag 2 za5.nd) (Ai (Ag 3 za5.nd) (Ai (AG K (n:=3) (Ai (Ag 4 za5.nd) (Ai (Ag 5 za5.nd) (Ai (Ag 6 za5.nd) AC)))) AC)))))) (Aj (Fs (i:=7) ["row","coals"] [none,some 2] za5.nd rfl (Az (by rfl)) rfl (BA K (cy 1)) (AE.of rfl) (λ_ _ _ _=>(Ag 0 (AB (by rfl)))) (λ_ _ _ _=>AY) (λ_ _ _ _=>(A7 ["coal"] [none] rfl (BA K (cy 1)) (AE.of rfl) (λ_ _ _ _=>(Ag 0 (AB (by rfl)))) (λ_ _ _ _=>AY) (λ_ _ _ _=>Af)))) (Aj (Fs (i:=8) ["hour","start","draws"] [none,some 6,some 3] za5.nd rfl (Az (by rfl)) rfl (BQ rfl T.b_range (Ak (At (Bh K) rfl T.b_len PySem.boot_len (Ak (cy 3))))) (AE.of rfl) (λ_ _ _ _=>(Ag 0 (AB (by rfl)))) (λ_ _ _ _=>AY) (λ_ _ _ _=>(As Bl (cy 1) (At (DH rfl) rfl T.b_sum boot_sum (Ak (Cs wa0 (cy 2) DC (BS (As A1 (cy 0) Af)))))))) (Aj (Bs PassesOwn.never rfl (BQ rfl T.b_range (Ak (At (Bh K) rfl T.b_len PySem.boot_len (Ak (cy 3))))) (Ag 9 za5.nd) (An (M2 PassesOwn.never (AS CQ (Au (A4 K) (cy 8) (cy 9) (λ_ _=>rfl)) (cy 4) (AN _)) (An (Br (Am yau (hr.mono (by decide)) rfl (Bp (cy 0) (cy 7) (cy 8) (cy 9)))))))) (An (Aw (Bo (BI K) rfl T.b_tuple Bz (Ak (A7 ["row"] [none] rfl (Ee K (cy 7)) (AE.of rfl) (λ_ _ _ _=>(Ag 0 (AB (by rfl)))) (λ_ _ _ _=>AY) (λ_ _ _ _=>(Bo (BI K) rfl T.b_tuple Bz (Ak (cy 0))))))))))))),?_⟩;unfold HE at h;split at h
 ·rename_i v;obtain⟨p,T,fl,lh,no,r,q⟩:=h;obtain⟨A,C,B,D,M,xc,rfl,hA,hC,rc,hB,hD,hM⟩:=Aa.terms r;have l8:=fl.ok.l8;have o4:=fl.o;have lc:=fl.ok.lc;have lx:=rc.len;rw [length_map] at lx;refine⟨A,_,rfl,Ae.of hA,rfl,_,_,rfl,_,_,rfl,_,_,rfl,_,_,rfl,M,_,rfl,Ae.of hM,rfl,_,_,rfl,_,_,rfl,_,_,rfl,rfl,rfl,?_⟩;refine DU (σ':=[some (.ref A),some (.ref C),some (.ref B),some (.ref D),some (.int T.lo),some (.int T.hi),some (.int T.st),none,none,none]) rfl ?_;refine⟨C,rfl,⟨xc,Ae.of hC⟩,BF (xs:=xc) (λi zs H'=>Ab H H'/\Rows0 H H' i T.co.length zs) (by omega) ⟨Ab.refl _,Rows0.zero⟩ (λi zs H1 h=>by rw [h.2.len];omega) (λi zs H1 _ h=>Ae.of (h.1 _ _ hC)) (λi x zs H1 hx h=>?_) λzs H1 h=>?_⟩
  ·refine⟨⟨rfl,trivial⟩,λ_=>?_,λz=>by cases z⟩;refine⟨B,rfl,⟨_,Ae.of (h.1 _ _ hB)⟩,BF (xs:=T.co.map V.int) (λj ys H2=>Ab H1 H2/\ys=(List.replicate j (0:Int)).map V.int) (by rw [length_map];omega) ⟨Ab.refl _,rfl⟩ (λj ys H2 h2=>by rw [h2.2,length_map,length_replicate];omega) (λj ys H2 _ h2=>Ae.of (h2.1 _ _ (h.1 _ _ hB))) (λj y ys H2 hy h2=>?_) λys H2 h2=>?_⟩
   ·refine⟨trivial,λ_=>⟨h2.1,?_⟩,λz=>by cases z⟩;rw [h2.2,replicate_succ',map_append];rfl
   ·intro L hL;rw [length_map] at h2;have nL:=Ab.new (o:= .lst ys) hL;have n1:H1 L=none:=by
     cases z:H1 L with
     | none=>rfl
     | some o=>have:=h2.1 _ _ z;rw [hL] at this;cases this
    exact⟨h.1.trans (h2.1.trans nL),h.2.put h.1 (h2.1.trans nL) n1 (by rw [Ah,h2.2])⟩
  intro Fa hFa;obtain⟨ras,rfl,lr,hr1,hr2⟩:=h.2.ex;have nF:=Ab.new (o:= .lst (ras.map V.ref)) hFa;have kF:upd H1 Fa (.lst (ras.map V.ref)) Fa=some (.lst (ras.map V.ref)):=Ah;have s2:=h.1.trans nF;have fF:H Fa=none:=by
   cases z:H Fa with
   | none=>rfl
   | some o=>have:=h.1 _ _ z;rw [hFa] at this;cases this
  have nrF:∀k,k<ras.length->ras.getD k 0≠Fa:=λk hk e=>by
   have:=(hr1 k (by omega)).2;rw [e,hFa] at this;cases this
  have hr3:∀k,k<ras.length->upd H1 Fa (.lst (ras.map V.ref)) (ras.getD k 0)=some (.lst ((List.replicate T.co.length (0:Int)).map V.int)):=λk hk=>nF _ _ (hr1 k (by omega)).2
  generalize upd H1 Fa (.lst (ras.map V.ref))=H2 at nF kF s2 hr3 ⊢;refine DU (σ':=[some (.ref A),some (.ref C),some (.ref B),some (.ref D),some (.int T.lo),some (.int T.hi),some (.int T.st),some (.ref Fa),none,none]) rfl ?_;refine⟨D,_,rfl,.inr (Ae.of (s2 _ _ hD)),?_⟩;rw [length_map];refine⟨_,rfl,by omega,by omega,?_⟩;rw [show((T.ds.length:Int)).toNat=T.ds.length by omega];refine EI (n:=T.ds.length) (λi zs H'=>Ab H2 H'/\zs=((List.range i).map λk=>T.st-(T.ds.take (k+1)).sum).map V.int) (by omega) ⟨Ab.refl _,rfl⟩ (λi zs H' h=>by rw [h.2,length_map,length_map,length_range];omega) (λi zs H' hi h=>?_) λzs H3 h3=>?_
  ·refine⟨⟨rfl,rfl,trivial⟩,λ_=>?_,λz=>by cases z⟩;have e1:(0+(i:Int))+1=((i+1:Nat):Int):=by omega
   refine⟨(0+(i:Int))+1,rfl,D,_,rfl,h.1 _ _ (s2 _ _ hD),λl H4 s4 k4=>?_⟩;rw [e1,LO,<-map_take] at k4;refine⟨l,_,rfl,.inr k4,h.1.trans s4,?_⟩;rw [h.2,range_succ,map_append,map_append];rfl
  intro Ma hMa;have em:zs=(DT T).map V.int:=h3.2;have nM:=Ab.new (o:= .lst zs) hMa;have kM:upd H3 Ma (.lst zs) Ma=some (.lst ((DT T).map V.int)):=by rw [Ah,em]
  have s4:=s2.trans (h3.1.trans nM);have fM:H Ma=none:=by
   cases z:H Ma with
   | none=>rfl
   | some o=>have:=(s2.trans h3.1) _ _ z;rw [hMa] at this;cases this
  have kF4:=(h3.1.trans nM) _ _ kF;have hr4:=λk hk=>(h3.1.trans nM) _ _ (hr3 k hk)
  have nMF:Fa≠Ma:=Bb (h3.1 _ _ kF) hMa;have nrM:∀k,k<ras.length->ras.getD k 0≠Ma:=λk hk=>Bb (h3.1 _ _ (hr3 k hk)) hMa
  generalize upd H3 Ma (.lst zs)=H4 at nM kM s4 kF4 hr4 ⊢;have lrd:ras.length=T.ds.length:=by omega
  have fi0:Ff H4 Fa Ma ras (List.replicate T.ds.length (List.replicate T.co.length 0)) (DT T):=⟨kF4,λk hk=>by rw [FV (by omega)];exact hr4 k hk,by rw [length_replicate];exact lrd,λa b ha hb e=>hr2 a b (by omega) (by omega) e,kM,nrM,nrF,nMF⟩;have own:∀ {G:Hp},FU Ma ras H4 G->Ab H G:=λ{G} e b o hb=>by
   refine e b o (s4 _ _ hb) (λz=>by rw [z,fM] at hb;cases hb) λz=>?_
   obtain⟨k,hk,e2⟩:=SG z;rw [<-e2,(hr1 k (by omega)).1] at hb;cases hb
  refine DU (σ':=[some (.ref A),some (.ref C),some (.ref B),some (.ref D),some (.int T.lo),some (.int T.hi),some (.int T.st),some (.ref Fa),some (.ref Ma),none]) rfl ?_;refine⟨D,_,rfl,.inr (Ae.of (s4 _ _ hD)),?_⟩;rw [length_map];refine⟨_,rfl,by omega,by omega,?_⟩;rw [show((T.ds.length:Int)).toNat=T.ds.length by omega];refine C1 (n:=T.ds.length) (λi σ G=>(∃x9,σ=[some (.ref A),some (.ref C),some (.ref B),some (.ref D),some (.int T.lo),some (.int T.hi),some (.int T.st),some (.ref Fa),some (.ref Ma),x9])/\FU Ma ras H4 G/\∃f ms,Ff G Fa Ma ras f ms/\Gr T f ms/\∀k,k<i->T.lo<=ms.getD k 0) ⟨⟨_,rfl⟩,λb o e _ _=>e,_,_,fi0,SI fl,λk hk=>absurd hk (Nat.not_lt_zero _)⟩ (λi σ G hi hP=>?_) fun σ G hP=>?_
  ·obtain⟨⟨x9,rfl⟩,els,f,ms,fi,gr,lo⟩:=hP;rw [show(0+(i:Int))=(i:Int) by omega];have lmd:∀ {f ms},Gr T f ms->i<ms.length:=λg=>by rw [g.lm];exact hi
   refine⟨λn σ G=>σ=[some (.ref A),some (.ref C),some (.ref B),some (.ref D),some (.int T.lo),some (.int T.hi),some (.int T.st),some (.ref Fa),some (.ref Ma),some (.int (i:Int))]/\FU Ma ras H4 G/\∃f ms,Ff G Fa Ma ras f ms/\Gr T f ms/\(∀k,k<i->T.lo<=ms.getD k 0)/\n=(T.lo-ms.getD i 0).toNat,⟨_,rfl,els,f,ms,fi,gr,lo,rfl⟩,λn σ G hW=>?_⟩;obtain⟨rfl,els,f,ms,fi,gr,lo,rfl⟩:=hW;refine⟨Ma,_,(i:Int),.int (ms.getD i 0),rfl,rfl,Al.of fi.m,B4 (lmd gr),?_⟩
   by_cases c:ms.getD i 0<T.lo
   ·show if decide (ms.getD i 0<T.lo)=true then _ else _
    rw [if_pos (decide_eq_true c)];have sG:=own els;refine⟨fun σ G'=>σ=[some (.ref A),some (.ref C),some (.ref B),some (.ref D),some (.int T.lo),some (.int T.hi),some (.int T.st),some (.ref Fa),some (.ref Ma),some (.int (i:Int))]/\FU Ma ras H4 G'/\∃f' ms',Ff G' Fa Ma ras f' ms'/\Gr T f' ms'/\(∀k,k<i->T.lo<=ms'.getD k 0)/\ms.getD i 0<ms'.getD i 0,fun σ' G' hN=>?_,?_⟩
    ·obtain⟨e1,e2,f',ms',fi',gr',lo',lt⟩:=hN;exact⟨_,by omega,e1,e2,f',ms',fi',gr',lo',rfl⟩
    ·refine⟨p,T,i,f,ms,ras,fl,lh,no,rfl,Aa.ev (Ev.same sG) _ _ r,fi,gr,lmd gr,c,λG' f' ms' fi' gr' lt mono el2=>⟨rfl,λb o e n1 n2=>el2 b o (els b o e n1 n2) n1 n2,f',ms',fi',gr',λk hk=>Int.le_trans (lo k hk) (mono k (by rw [gr.lm];omega)),lt⟩⟩
   ·show if decide (ms.getD i 0<T.lo)=true then _ else _
    rw [if_neg (by rw [decide_eq_false c];exact Bool.false_ne_true)];refine⟨⟨_,rfl⟩,els,f,ms,fi,gr,λk hk=>?_⟩
    by_cases e:k=i
    ·rw [e];omega
    ·exact lo k (by omega)
  obtain⟨⟨x9,rfl⟩,els,f,ms,fi,gr,lo⟩:=hP;have sG:=own els;have lf:=gr.lf;refine⟨Fa,rfl,⟨_,Al.of fi.a⟩,Ft (xs:=ras.map V.ref) (λj zs G'=>Ab G G'/\Ac p G' ((f.take j).map AJ) zs) (by rw [length_map];omega) ⟨Ab.refl _,.nil⟩ (λj zs G' h=>?_) (λj zs G' _ h=>Al.of (h.1 _ _ fi.a)) (λj x zs G' hx h=>?_) λzs G' h=>?_⟩
  ·have:=h.2.len;rw [length_map,length_take] at this;omega
  ·rw [getElem?_map] at hx;have hj:j<ras.length:=by
    cases z:ras[j]? with
    | none=>rw [z] at hx;cases hx
    | some ra=>exact(List.getElem?_eq_some_iff.mp z).1
   have ex:x= .ref (ras.getD j 0):=by
    rw [getElem?_eq_getElem hj] at hx;rw [getD_eq_getElem?_getD,getElem?_eq_getElem hj];exact(Option.some.inj hx).symm
   subst ex;refine⟨trivial,λ_=>⟨ras.getD j 0,_,rfl,.inl ⟨Al.of (h.1 _ _ (fi.r j hj)),λt ht=>?_⟩⟩,λz=>by cases z⟩;have nt:=Ab.new (o:= .tup ((f.getD j []).map V.int)) ht;have gj:f[j]? =some (f.getD j []):=by rw [getD_eq_getElem?_getD,getElem?_eq_getElem (by omega)];rfl
   refine⟨h.1.trans nt,?_⟩;rw [A9 gj,map_append];exact Ac.append (Ac.ev (Ev.same nt) _ _ h.2) (.cons (Aa.row Ah) .nil)
  ·intro L hL;refine⟨L,_,rfl,.inl ⟨Al.of Ah,λt ht=>?_⟩⟩;have nL:=Ab.new (o:= .lst zs) hL;have nt:=Ab.new (o:= .tup zs) ht;have rs:=h.2;rw [length_map,take_of_length_le (by omega)] at rs;refine q t _ f ms (sG.trans (h.1.trans (nL.trans nt))) gr (λk hk=>lo k (by rw [<-gr.lm];exact hk)) ?_;exact Aa.tup Ah (Ac.ev (Ev.same (nL.trans nt)) _ _ rs)
 ·exact h.elim
end
end MF
end
section
namespace MF
open L2
inductive Jq (T:TM):PyData->Prop
 | short {q:Nat×Nat} (h:CL T=some q):Jq T (.tuple [.str "short",.int q.1,.int q.2])
 | fired {f:List (List Int)}{ms:List Int}{c:Int}{ps:List Int} (no:CL T=none) (g:Gr T f ms) (lo:∀k,k<ms.length->T.lo<=ms.getD k 0) (hf:Jg T c ps):Jq T (.tuple [.str "fired",.int c,FD f,AJ ps])
def FW:Sp:=λvs H Q _=>match vs with | [v,u]=>∃p P S,PL.ok P/\SY.ok S P.bs.length/\Aa p H P.d v/\Aa p H S.d u/\∀x H' d,Ab H H'->Jq (terms P S) d->Aa p H' d x->Q x H' | _=>False
section
variable {P : Program} {w : World} {K : Fgx} {mg : Str -> Option Value} {base : Heap}
theorem zak:Ax ["plant","story","terms","stretch","coal","prices"] ["plant","story"] (Ap waI):=AA
theorem SN (F:Df K mg "cheapest" waI ["plant","story"]) (T:Tx mg) (yav:Fn P w K mg base 3 "highest_floor" ["terms"] Hz) (yaw:Fn P w K mg base 3 "least_firing" ["terms"] HE) (yax:Fn P w K mg base 2 "least_stretch" ["terms"] HB) (ya9:Fn P w K mg base 10 "terms_of" ["plant","story"] FQ):Fn P w K mg base 11 "cheapest" ["plant","story"] FW:=by
 refine F.fn zak (λvs H Q E h=>?_) (λf cdv A outer s H vs Q E hr h=>?_)
 ·unfold FW at h;split at h;rfl;exact h.elim
 refine⟨_,(Aj (AD (i:=2) zak.nd rfl (Az (by rfl)) (Am ya9 (hr.mono (by decide)) rfl (Aq (cy 0) (cy 1)))) (Aj (AD (i:=3) zak.nd rfl (Az (by rfl)) (Am yax (hr.mono (by decide)) rfl (Ak (cy 2)))) (Aj (A8 (AS JO (cy 3) Du (AN _)) (An (Aw (As CI (Bj (Ak AT)) (cy 3)))) A6) (Aj (Ba (Am yav (hr.mono (by decide)) rfl (Ak (cy 2))) (AG K (n:=2) (Ai (Ag 4 zak.nd) (Ai (Ag 5 zak.nd) AC)))) (An (Aw (Bj (Bp AT (cy 4) (Am yaw (hr.mono (by decide)) rfl (Ak (cy 2))) (cy 5))))))))),?_⟩;unfold FW at h;split at h
 ·rename_i v u;obtain⟨p,P,S,ok,so,r,ru,q⟩:=h;refine⟨p,P,S,ok,so,r,ru,λtv H1 s1 rt=>?_⟩;have fl:=Ja ok so;refine⟨p,terms P S,fl.ok,rt,λx H2 s2 rx=>?_⟩;have s12:=s1.trans s2;cases z:CL (terms P S) with
  | none=>
   rw [z] at rx;have eu:x= .non:=by unfold Lg at rx;unfold Aa at rx;exact rx
   subst eu;refine⟨rfl,⟨λc=>by simp at c,λ_=>?_⟩⟩;refine⟨p,terms P S,fl,Aa.ev (Ev.same s2) _ _ rt,λy H3 c ps s3 ry hf=>?_⟩;obtain⟨a,b,rfl,ha,hb⟩:=Aa.tailShape ry;refine⟨a,_,rfl,Ae.of ha,rfl,_,_,rfl,_,_,rfl,rfl,?_⟩;refine⟨p,terms P S,fl,(show P.lo<=P.hi from Int.le_trans ok.ls ok.sh),z,Aa.ev (Ev.same (s2.trans s3)) _ _ rt,λA H4 f ms s4 gr lo rf=>λt H5 s5 k5=>?_⟩;exact q (.ref t) H5 _ (s12.trans (s3.trans (s4.trans s5))) (.fired z gr lo hf) (Aa.tup k5 (.cons Aa.str (.cons Aa.int (.cons (Aa.ev (Ev.same s5) _ _ rf) (.cons (Aa.row ((s4.trans s5) _ _ hb)) .nil)))))
  | some s0=>
   rw [z] at rx;obtain⟨A,eA,hA⟩:=Aa.pair rx;subst eA;refine⟨rfl,⟨λ_=>?_,λc=>by simp at c⟩⟩;refine λt1 H3 s3 k3=>⟨t1,A,[.str "short"],_,rfl,rfl,k3,s3 _ _ hA,by simp,λt4 H4 s4 k4=>?_⟩
   exact q (.ref t4) H4 _ (s12.trans (s3.trans s4)) (.short z) (Aa.tup k4 (.cons Aa.str (.cons Aa.int (.cons Aa.int .nil))))
 ·exact h.elim
end
end MF
end
section
namespace MF
open L2
variable {p : Addr} {H : Hp}
def HF:Sp:=λvs H Q _=>match vs with | [v,u]=>∃p r cs,Aa p H (AJ r) v/\Aa p H (AJ cs) u/\r.length=cs.length/\r.length<=1000/\(∀(j:Nat) (x c:Int),r[j]? =some x->cs[j]? =some c->0<=x/\x<=c)/\∀H',Ab H H'->Q (.bl true) H' | _=>False
def HG:Sp:=λvs H Q _=>match vs with | [v,u,w]=>∃p P S F,Tri p H P S F v u w/\∀H',Ab H H'->Q (.bl true) H' | _=>False
def HH:Sp:=λvs H Q _=>match vs with | [c,w]=>∃p P S F,PL.ok P/\SY.ok S P.bs.length/\FOk P S F/\Aa p H (Dd P S) c/\Aa p H (FD F) w/\∀H',Ab H H'->Q (.bl true) H' | _=>False
def FX:Sp:=λvs H Q _=>match vs with | [v,u,w]=>∃p P S F,Tri p H P S F v u w/\∀H',Ab H H'->Q .non H' | _=>False
def HI:Sp:=λvs H Q _=>match vs with | [v,u,w]=>∃p P S F,Tri p H P S F v u w/\∀t R sv H' k s xs,Run P S F k s->Ab H H'->H R=none->H' t=some (.tup [.ref R,sv])->H' R=some (.lst xs)->Ac p H' (Cg P S F k) xs->Aa p H' (Eh s) sv->Q (.ref t) H' | _=>False
def HJ:Sp:=λvs H Q _=>match vs with | [v,u,w]=>∃p P S F,Tri p H P S F v u w/\∀sv H' k s,Run P S F k s->Ab H H'->Aa p H' (Eh s) sv->Q sv H' | _=>False
def HK:Sp:=λvs H Q _=>match vs with | [v,u,w]=>∃p P S F,Tri p H P S F v u w/\∀H' k s,Run P S F k s->Ab H H'->Q (.bl s.isNone) H' | _=>False
def HL:Sp:=λvs H Q _=>match vs with | [v,u,w]=>∃p P S F,Tri p H P S F v u w/\ret H Q p (AJ (B8 P F)) | _=>False
theorem Aa.firing {F:List (List Int)}{v:V} (r:Aa p H (FD F) v):∃A xs,v= .ref A/\H A=some (.tup xs)/\Ac p H (F.map AJ) xs:=Aa.shape r
theorem Aa.ofRow {p:Addr}{H:Hp}{r:List Int}{v:V} (h:Aa p H (AJ r) v):∃A,v= .ref A/\H A=some (.tup (r.map V.int)):=by
 obtain⟨A,xs,rfl,hA,rs⟩:=Aa.shape h;rw [Ac.ints rs] at hA;exact⟨A,rfl,hA⟩
theorem SO {s:Option (Int×Int)}{sv:V} (r:Aa p H (Eh s) sv):decide (sv= .non)=s.isNone:=by
 cases s with
 | none=>unfold Eh Aa at r;subst r;rfl
 | some q=>
  unfold Eh at r;obtain⟨A,xs,rfl,_⟩:=Aa.shape r
  rfl
section
variable {P : Program} {w : World} {K : Fgx} {mg : Str -> Option Value} {base : Heap}
theorem SQ:Ax ["thing","caps"] ["thing","caps"] (Ap waq):=AA
theorem SR (F:Df K mg "is_row" waq ["thing","caps"]) (T:Tx mg) (ya1:Cw P w K mg base) (ya2:Er P w K mg base):Fn P w K mg base 3 "is_row" ["thing","caps"] HF:=by
 refine F.fn SQ (λvs H Q E h=>?_) (λf cdv A outer s H vs Q E hr h=>?_)
 ·unfold HF at h;split at h;rfl;exact h.elim
 refine⟨_,(An (Aw (Bg (Am ya1 (hr.mono (by decide)) rfl (AM (cy 0) (At (Bh K) rfl T.b_len PySem.boot_len (Ak (cy 1))) (At (Bh K) rfl T.b_len PySem.boot_len (Ak (cy 1))))) (BJ (At (Db rfl) rfl T.b_all boot_all (Ak (A7 ["part","cap"] [none,none] rfl (Gy P w K rfl T.b_zip (Aq (cy 0) (cy 1))) (AE.of rfl) (λ_ _ _ _=>(AG K (n:=2) (Ai (Ag 0 (AB (by rfl))) (Ai (Ag 1 (AB (by rfl))) AC)))) (λ_ _ _ _=>AY) (λ_ _ _ _=>(Am ya2 (hr.mono (by decide)) rfl (AM (cy 0) Af (cy 1))))))))))),?_⟩;unfold HF at h;split at h
 ·rename_i v u;obtain⟨p,r,cs,rv,ru,hl,h1000,bd,q⟩:=h;obtain⟨A,rfl,hA⟩:=Aa.ofRow rv;obtain⟨B,rfl,hB⟩:=Aa.ofRow ru;refine⟨B,_,rfl,.inr (Ae.of hB),B,_,rfl,.inr (Ae.of hB),p,_,rv,λb hb=>⟨λ_=>?_,λc=>?_⟩⟩
  ·refine⟨A,B,rfl,⟨_,Ae.of hA⟩,⟨_,Ae.of hB⟩,walk_zip (xs:=r.map V.int) (ys:=cs.map V.int) (λi zs H'=>Ab H H'/\zs=List.replicate i (V.bl true)) (by rw [length_map];omega) (by rw [length_map,length_map];exact hl) ⟨Ab.refl _,rfl⟩
    (λi zs H' h=>by rw [h.2,length_replicate];omega) (λi zs H' h=>⟨Ae.of (h.1 _ _ hA),Ae.of (h.1 _ _ hB)⟩) (λi x y zs H' T hx hy h hT=>?_) λzs H' h=>?_⟩
   ·rw [getElem?_map] at hx hy;cases z1:r[i]? with
    | none=>rw [z1] at hx;cases hx
    | some n=>
     cases z2:cs[i]? with
     | none=>rw [z2] at hy;cases hy
     | some m=>
      rw [z1] at hx;rw [z2] at hy;cases hx;cases hy;obtain⟨n0,nm⟩:=bd i n m z1 z2;refine⟨T,_,rfl,Ae.of Ah,rfl,_,_,rfl,_,_,rfl,rfl,trivial,λ_=>⟨p,.int n,Aa.int,λb1 e1=>⟨h.1.trans (Ab.new hT),?_⟩⟩,λc=>by cases c⟩;rw [Co n0 nm] at e1;rw [h.2,e1,replicate_succ']
   ·intro m hm;refine⟨m,List.replicate (r.map V.int).length true,rfl,by rw [Ah,h.2,map_replicate],?_⟩;have ea:(List.replicate (r.map V.int).length true).all id=true:=by simp
    rw [ea];exact q _ (h.1.trans (Ab.new hm))
  ·rw [Fe (by rw [length_map,length_map];omega) (by rw [length_map,length_map];omega)] at hb;rw [hb] at c;cases c
 ·exact h.elim
theorem SS:Ax ["caps","thing"] ["caps","thing"] (Ap wap):=AA
theorem ST (F:Df K mg "is_firing_within" wap ["caps","thing"]) (T:Tx mg) (yay:Fn P w K mg base 3 "is_row" ["thing","caps"] HF) (ya1:Cw P w K mg base):Fn P w K mg base 4 "is_firing_within" ["caps","thing"] HH:=by
 refine F.fn SS (λvs H Q E h=>?_) (λf cdv A outer s H vs Q E hr h=>?_)
 ·unfold HH at h;split at h;rfl;exact h.elim
 refine⟨_,(An (Aw (Bg (Am ya1 (hr.mono (by decide)) rfl (AM (cy 1) (At (Bh K) rfl T.b_len PySem.boot_len (Ak (cy 0))) (At (Bh K) rfl T.b_len PySem.boot_len (Ak (cy 0))))) (BJ (At (Db rfl) rfl T.b_all boot_all (Ak (A7 ["part","row"] [none,none] rfl (Gy P w K rfl T.b_zip (Aq (cy 1) (cy 0))) (AE.of rfl) (λ_ _ _ _=>(AG K (n:=2) (Ai (Ag 0 (AB (by rfl))) (Ai (Ag 1 (AB (by rfl))) AC)))) (λ_ _ _ _=>AY) (λ_ _ _ _=>(Am yay (hr.mono (by decide)) rfl (Aq (cy 0) (cy 1))))))))))),?_⟩;unfold HH at h;split at h
 ·rename_i c w;obtain⟨p,P,S,F,ok,so,fo,r1,rw',q⟩:=h;have x8:=so.x8;have b4:=ok.b4;have fl:=fo.len;obtain⟨A,xs,rfl,hA,rx⟩:=Aa.firing rw';unfold Dd at r1;obtain⟨B,ys,rfl,hB,ry⟩:=Aa.shape r1;have lx:=rx.len;rw [length_map] at lx;have ly:=ry.len;rw [length_map,Dg] at ly;refine⟨B,_,rfl,.inr (Ae.of hB),B,_,rfl,.inr (Ae.of hB),p,_,rw',λb hb=>⟨λ_=>?_,λc=>?_⟩⟩
  ·refine⟨A,B,rfl,⟨_,Ae.of hA⟩,⟨_,Ae.of hB⟩,walk_zip (xs:=xs) (ys:=ys) (λi zs H'=>Ab H H'/\zs=List.replicate i (V.bl true)) (by omega) (by omega) ⟨Ab.refl _,rfl⟩
    (λi zs H' h=>by rw [h.2,length_replicate];omega) (λi zs H' h=>⟨Ae.of (h.1 _ _ hA),Ae.of (h.1 _ _ hB)⟩) (λi x y zs H' T hx hy h hT=>?_) λzs H' h=>?_⟩
   ·obtain⟨r,hr,rr⟩:=Ac.mapGot rx hx;obtain⟨cs,hc,rc⟩:=Ac.mapGot ry hy;have hi:i<S.ex.length:=by
     have:=(List.getElem?_eq_some_iff.mp hx).1;omega
    rw [De hi] at hc;cases hc;have s2:=h.1.trans (Ab.new (o:= .tup [x,y]) hT);refine⟨T,_,rfl,Ae.of Ah,rfl,_,_,rfl,_,_,rfl,rfl,trivial,λ_=>⟨p,r,_,Aa.ev (Ev.same s2) _ _ rr,Aa.ev (Ev.same s2) _ _ rc,by rw [Fz];exact fo.row i r hr,by rw [fo.row i r hr];omega,λj x c hx hc=>fo.bd i r j x c hr hx hc,λH3 s3=>⟨s2.trans s3,?_⟩⟩,λc=>by cases c⟩;rw [h.2,replicate_succ']
   ·intro m hm;refine⟨m,List.replicate xs.length true,rfl,by rw [Ah,h.2,map_replicate],?_⟩;have ea:(List.replicate xs.length true).all id=true:=by simp
    rw [ea];exact q _ (h.1.trans (Ab.new hm))
  ·unfold FD at hb;rw [Fe (by rw [length_map];omega) (by rw [length_map];omega)] at hb;rw [hb] at c;cases c
 ·exact h.elim
theorem SU:Ax ["plant","story","thing"] ["plant","story","thing"] (Ap wao):=AA
theorem SV (F:Df K mg "is_firing" wao ["plant","story","thing"]) (T:Tx mg) (ya5:Fn P w K mg base 9 "caps_of" ["plant","story"] FN) (yaz:Fn P w K mg base 4 "is_firing_within" ["caps","thing"] HH):Fn P w K mg base 10 "is_firing" ["plant","story","thing"] HG:=by
 refine F.fn SU (λvs H Q E h=>?_) (λf cdv A outer s H vs Q E hr h=>?_)
 ·unfold HG at h;split at h;rfl;exact h.elim
 refine⟨_,(An (Aw (Am yaz (hr.mono (by decide)) rfl (Aq (Am ya5 (hr.mono (by decide)) rfl (Aq (cy 0) (cy 1))) (cy 2))))),?_⟩;unfold HG at h;split at h
 ·rename_i v u w;obtain⟨p,P,S,F,tr,q⟩:=h;exact⟨p,P,S,tr.ok,tr.so,tr.r,tr.ru,λv1 H1 s1 r1=>⟨p,P,S,F,tr.ok,tr.so,tr.fo,r1,(tr.sm s1).rw,λH2 s2=>q H2 (s1.trans s2)⟩⟩
 ·exact h.elim
theorem SW:Ax ["plant","story","firing"] ["plant","story","firing"] (Ap war):=AA
theorem SX (F:Df K mg "need_firing" war ["plant","story","firing"]) (T:Tx mg) (yaA:Fn P w K mg base 10 "is_firing" ["plant","story","thing"] HG):Fn P w K mg base 11 "need_firing" ["plant","story","firing"] FX:=by
 refine F.fn SW (λvs H Q E h=>?_) (λf cdv A outer s H vs Q E hr h=>?_)
 ·unfold FX at h;split at h;rfl;exact h.elim
 refine⟨_,(An (A8 (B5 (BU (Am yaA (hr.mono (by decide)) rfl (AM (cy 0) (cy 1) (cy 2))))) (An F6) A6)),?_⟩;unfold FX at h;split at h
 ·rename_i v u w;obtain⟨p,P,S,F,tr,q⟩:=h;exact⟨p,P,S,F,tr,λH' s=>⟨λc=>(by cases c),λc=>q H' s⟩⟩
 ·exact h.elim
theorem za3:Ax ["plant","story","firing","low","high","main","rows","hour","drawn","made","blown"] ["plant","story","firing"] (Ap was):=AA
theorem SZ (F:Df K mg "run_day" was ["plant","story","firing"]) (T:Tx mg) (ya6:Fn P w K mg base 9 "draws_of" ["plant","story"] FO) (yaa:Fn P w K mg base 11 "need_firing" ["plant","story","firing"] FX):Fn P w K mg base 12 "run_day" ["plant","story","firing"] HI:=by
 refine F.fn za3 (λvs H Q E h=>?_) (λf cdv A outer s H vs Q E hr h=>?_)
 ·unfold HI at h;split at h;rfl;exact h.elim
 refine⟨_,(Aj (Br (Am yaa (hr.mono (by decide)) rfl (AM (cy 0) (cy 1) (cy 2)))) (Aj (Ba (Au (AF K) (cy 0) Af (λ_ _=>rfl)) (AG K (n:=3) (Ai (Ag 3 za3.nd) (Ai (Ag 4 za3.nd) (Ai (Ag 5 za3.nd) AC))))) (Aj (AD (i:=6) za3.nd rfl (Az (by rfl)) (Bm BK)) (Aj (Bs PassesOwn.never rfl (Ef P w K rfl T.b_enumerate (Ak (Am ya6 (hr.mono (by decide)) rfl (Aq (cy 0) (cy 1))))) (AG K (n:=2) (Ai (Ag 7 za3.nd) (Ai (Ag 8 za3.nd) AC))) (Aj (AD (i:=9) za3.nd rfl (Az (by rfl)) (At (DH rfl) rfl T.b_sum boot_sum (Ak (Au (AF K) (cy 2) (cy 7) (λ_ _=>rfl))))) (Aj (Jy (i:=5) za3.nd rfl (Az (by rfl)) (As Bl (cy 9) (cy 8)) Ig) (Aj (A8 (AS CQ (cy 5) (cy 3) (AN _)) (An (Aw (Bd (Aq (cy 6) (Bd (Aq (cy 7) (As Bl (cy 3) (cy 5)))))))) A6) (Aj (AD (i:=10) za3.nd rfl (Az (by rfl)) (At (ED rfl) rfl T.b_max boot_max (Aq (As Bl (cy 5) (cy 4)) Af))) (Aj (Jy (i:=5) za3.nd rfl (Az (by rfl)) (cy 10) M0) (An (Br (BZ PySem.F.plainAttrs_list PySem.F.slot_list_append PySem.F.type_list_append B6 (cy 6) (Ak (Bd (Bp (cy 9) (cy 8) (cy 10) (cy 5))))))))))))) (An (Aw (Bd (Aq (cy 6) Du)))))))),?_⟩;unfold HI at h;split at h
 ·rename_i v u w;obtain⟨p,P,S,F,tr,q⟩:=h;refine⟨p,P,S,F,tr,λH1 s1=>?_⟩;have t1:=tr.sm s1;have x8:=tr.so.x8;have fl:=tr.fo.len;obtain⟨PA,PB,PE,PM,xb,xe,rfl,pA,pB,rb,pE,re,pM⟩:=Aa.plant t1.r;refine⟨PA,_,2,.ref PM,rfl,rfl,Ae.of pA,rfl,PM,_,rfl,Ae.of pM,rfl,_,_,rfl,_,_,rfl,_,_,rfl,rfl,λR hR=>?_⟩;have sR:Ab H1 (upd H1 R (.lst [])):=Ab.new hR;have hHR:H R=none:=s1.free hR;have tR:=t1.sm sR;refine⟨p,P,S,tr.ok,tr.so,tR.r,tR.ru,λv1 H2 s2 r2=>?_⟩;obtain⟨D,rfl,hD⟩:=Aa.ofRow (r:=draws P S) r2;have t2:=tR.sm s2;have sH2:Ab H H2:=s1.trans (sR.trans s2);obtain⟨FA,fx,rfl,hF,rx⟩:=Aa.firing t2.rw;refine⟨D,rfl,⟨_,Ae.of hD⟩,for_enum (xs:=(draws P S).map V.int) (λi σ H'=>(∃x7 x8 x9 x10,σ=[some (.ref PA),some u,some (.ref FA),some (.int P.lo),some (.int P.hi),some (.int (AH P S F i)),some (.ref R),x7,x8,x9,x10])/\Ev R H2 H'/\(∀j,j<i->P.lo<=AO P S F j)/\∃xs,H' R=some (.lst xs)/\Ac p H' (Cg P S F i) xs)
   ⟨⟨_,_,_,_,rfl⟩,Ev.refl,(λj hj=>absurd hj (Nat.not_lt_zero _)),[],s2 _ _ Ah,.nil⟩ (λi σ H' h=>Ae.of (h.2.1.tup hD)) (λi x σ H' T hx h hT=>?_) fun σ H' h=>?_⟩
  ·obtain⟨⟨x7,x8',x9,x10,rfl⟩,ev,up,xs,hRx,rxs⟩:=h;rw [getElem?_map] at hx;cases z:(draws P S)[i]? with
   | none=>rw [z] at hx;cases hx
   | some d=>
    rw [z] at hx;cases hx;have hi:i<S.ex.length:=by
     have:=(List.getElem?_eq_some_iff.mp z).1;rw [CJ] at this;exact this
    have ed:=K2 z;obtain⟨r,hr⟩:∃r,F[i]? =some r:=⟨F[i],by simp⟩;have em:=K1 hr;obtain⟨y,hy,ry⟩:=rx.get (i:=i) (d:=AJ r) (by rw [getElem?_map,hr];rfl);have nw:Ab H' (upd H' T (.tup [.int i,.int d])):=Ab.new hT;have ev2:Ev R H2 (upd H' T (.tup [.int i,.int d])):=ev.trans (Ev.same nw);obtain⟨ra,rfl,hra⟩:=Aa.ofRow ry;refine⟨T,_,rfl,Ae.of Ah,rfl,_,_,rfl,_,_,rfl,rfl,?_⟩;refine⟨FA,_,(i:Int),.ref ra,rfl,rfl,Ae.of (ev2.tup hF),BT hy,ra,r,rfl,.inr (ev2.tup hra),_,rfl,_,_,rfl,rfl,?_⟩;have epm:AH P S F i+(r.sum-d)=AO P S F i:=by unfold AO;rw [em,ed]
    refine⟨λc=>?_,λc=>?_⟩
    ·intro t1 ht1 t2 ht2;have c':=of_decide_eq_true c;have n12:=(Ab.new (o:= .tup [.int i,.int (P.lo-(AH P S F i+(r.sum-d)))]) ht1).trans (Ab.new (o:= .tup [.ref R,.ref t1]) ht2);refine q t2 R (.ref t1) _ i (some ((i:Int),P.lo-AO P S F i)) xs ⟨Nat.le_of_lt hi,up,.inr ⟨hi,by rw [<-epm];exact c',rfl⟩⟩ (Ab.evOwn sH2 hHR (ev2.trans (Ev.same n12))) hHR Ah ((nw.trans n12) _ _ hRx) (Ac.ev (Ev.same (nw.trans n12)) _ _ rxs) ?_;refine Aa.tup ((Ab.new ht2) _ _ Ah) ?_;rw [<-epm];exact .cons Aa.int (.cons Aa.int .nil)
    ·refine⟨_,_,rfl,_,rfl,_,_,rfl,rfl,.inl ⟨rfl,_,Al.of (nw _ _ hRx)⟩,λt ht=>?_⟩;have c':P.lo<=AO P S F i:=by
      have:=of_decide_eq_false c;have h2:¬AH P S F i+(r.sum-d)<P.lo:=this;rw [epm] at h2;omega
     have lx:=rxs.len;rw [K0] at lx;have hR3:upd (upd H' T (.tup [.int i,.int d])) t (.tup [.int r.sum,.int d,.int (if 0>AH P S F i+(r.sum-d)-P.hi then 0 else AH P S F i+(r.sum-d)-P.hi),.int (AH P S F i+(r.sum-d)-if 0>AH P S F i+(r.sum-d)-P.hi then 0 else AH P S F i+(r.sum-d)-P.hi)]) R=some (.lst xs):=(nw.trans (Ab.new ht)) _ _ hRx;have em2:AH P S F i+(r.sum-d)-(if 0>AH P S F i+(r.sum-d)-P.hi then 0 else AH P S F i+(r.sum-d)-P.hi)=AH P S F (i+1):=by rw [EO,<-epm];rfl
     refine⟨R,xs,.ref t,rfl,rfl,hR3,Dp (by omega),⟨some (.int i),some (.int d),some (.int r.sum),some (.int (if 0>AH P S F i+(r.sum-d)-P.hi then 0 else AH P S F i+(r.sum-d)-P.hi)),congrArg (λz=>[some (V.ref PA),some u,some (V.ref FA),some (V.int P.lo),some (V.int P.hi),some (V.int z),some (V.ref R),some (V.int i),some (V.int d),some (V.int r.sum),some (V.int (if 0>AH P S F i+(r.sum-d)-P.hi then 0 else AH P S F i+(r.sum-d)-P.hi))]) em2⟩,(ev2.trans (Ev.new ht)).trans (Ev.pen hR3),λj hj=>?_,_,Ah,?_⟩
     ·by_cases cj:j=i
      ·subst cj;exact c'
      ·exact up j (by omega)
     ·have tv:=TEv.upd (zs:=xs++[.ref t]) hR3;rw [KZ];refine Ac.snoc (Ac.tev ((Ev.same (p:=p) (nw.trans (Ab.new ht))).tev.trans tv) _ _ (Cf λd hd=>?_) rxs) (Aa.tev (p:=p) tv _ _ rfl (Aa.tup Ah ?_))
      ·unfold Cg at hd;obtain⟨k,_,rfl⟩:=mem_map.mp hd
       rfl
      ·rw [em,ed,EO,<-epm];exact .cons Aa.int (.cons Aa.int (.cons Aa.int (.cons Aa.int .nil)))
  ·obtain⟨⟨x7,x8',x9,x10,rfl⟩,ev,up,xs,hRx,rxs⟩:=h;rw [length_map,CJ] at up rxs;intro t ht;have nw:=Ab.new (o:= .tup [.ref R,.non]) ht;exact q t R .non _ S.ex.length none xs ⟨Nat.le_refl _,up,.inl ⟨rfl,rfl⟩⟩ (Ab.evOwn sH2 hHR (ev.trans (Ev.same nw))) hHR Ah (nw _ _ hRx) (Ac.ev (Ev.same nw) _ _ rxs) Aa.non
 ·exact h.elim
theorem zaw:Ax ["plant","story","firing","rows","short"] ["plant","story","firing"] (Ap wat):=AA
theorem S7 (F:Df K mg "falls_at" wat ["plant","story","firing"]) (T:Tx mg) (yaB:Fn P w K mg base 12 "run_day" ["plant","story","firing"] HI):Fn P w K mg base 13 "falls_at" ["plant","story","firing"] HJ:=by
 refine F.fn zaw (λvs H Q E h=>?_) (λf cdv A outer s H vs Q E hr h=>?_)
 ·unfold HJ at h;split at h;rfl;exact h.elim
 refine⟨_,(Aj (Ba (Am yaB (hr.mono (by decide)) rfl (AM (cy 0) (cy 1) (cy 2))) (AG K (n:=2) (Ai (Ag 3 zaw.nd) (Ai (Ag 4 zaw.nd) AC)))) (An (Aw (cy 4)))),?_⟩;unfold HJ at h;split at h
 ·rename_i v u w;obtain⟨p,P,S,F,tr,q⟩:=h;exact⟨p,P,S,F,tr,λt R sv H' k s xs run sm hR ht hRx rx rs=>⟨t,_,rfl,Ae.of ht,rfl,_,_,rfl,_,_,rfl,rfl,q sv H' k s run sm rs⟩⟩
 ·exact h.elim
theorem S8:Ax ["plant","story","firing"] ["plant","story","firing"] (Ap wau):=AA
theorem S9 (F:Df K mg "keeps_up" wau ["plant","story","firing"]) (T:Tx mg) (yaC:Fn P w K mg base 13 "falls_at" ["plant","story","firing"] HJ):Fn P w K mg base 14 "keeps_up" ["plant","story","firing"] HK:=by
 refine F.fn S8 (λvs H Q E h=>?_) (λf cdv A outer s H vs Q E hr h=>?_)
 ·unfold HK at h;split at h;rfl;exact h.elim
 refine⟨_,(An (Aw (C3 Ni (Am yaC (hr.mono (by decide)) rfl (AM (cy 0) (cy 1) (cy 2))) Du (AN _)))),?_⟩;unfold HK at h;split at h
 ·rename_i v u w;obtain⟨p,P,S,F,tr,q⟩:=h;refine⟨p,P,S,F,tr,λsv H' k s run sm rs=>⟨rfl,?_⟩⟩;rw [SO rs];exact q H' k s run sm
 ·exact h.elim
theorem Ta:Ax ["plant","story","firing"] ["plant","story","firing"] (Ap wax):=AA
theorem Tb (F:Df K mg "steam_by" wax ["plant","story","firing"]) (T:Tx mg) (yaa:Fn P w K mg base 11 "need_firing" ["plant","story","firing"] FX):Fn P w K mg base 12 "steam_by" ["plant","story","firing"] HL:=by
 refine F.fn Ta (λvs H Q E h=>?_) (λf cdv A outer s H vs Q E hr h=>?_)
 ·unfold HL at h;split at h;rfl;exact h.elim
 refine⟨_,(Aj (Br (Am yaa (hr.mono (by decide)) rfl (AM (cy 0) (cy 1) (cy 2)))) (An (Aw (Bo (BI K) rfl T.b_tuple Bz (Ak (A7 ["boiler","firing"] [none,some 2] rfl (BQ rfl T.b_range (Ak (At (Bh K) rfl T.b_len PySem.boot_len (Ak (Au (AF K) (cy 0) Af (λ_ _=>rfl)))))) (AE.of rfl) (λ_ _ _ _=>(Ag 0 (AB (by rfl)))) (λ_ _ _ _=>AY) (λ_ _ _ _=>(At (DH rfl) rfl T.b_sum boot_sum (Ak (A7 ["row","boiler"] [none,some 0] rfl (BA K (cy 1)) (AE.of rfl) (λ_ _ _ _=>(Ag 0 (AB (by rfl)))) (λ_ _ _ _=>AY) (λ_ _ _ _=>(Au (AF K) (cy 0) (cy 1) (λ_ _=>rfl))))))))))))),?_⟩;unfold HL at h;split at h
 ·rename_i v u w;obtain⟨p,P,S,F,tr,q⟩:=h;refine⟨p,P,S,F,tr,λH1 s1=>?_⟩;have t1:=tr.sm s1;have x8:=tr.so.x8;have b4:=tr.ok.b4;have fl:=tr.fo.len;obtain⟨PA,PB,PE,PM,xb,xe,rfl,pA,pB,rb,pE,re,pM⟩:=Aa.plant t1.r;obtain⟨FA,fx,rfl,hF,rx⟩:=Aa.firing t1.rw;have lb:=rb.len;rw [length_map] at lb;have lx:=rx.len;rw [length_map] at lx;refine⟨PA,_,0,.ref PB,rfl,rfl,Ae.of pA,rfl,PB,_,rfl,.inr (Ae.of pB),_,rfl,by omega,by omega,EI (n:=xb.length) (λi ys H'=>Ab H1 H'/\ys=((B8 P F).take i).map V.int) (by omega) ⟨Ab.refl _,rfl⟩ (λi ys H' h=>by rw [h.2,length_map,length_take];omega) (λi ys H' hi h=>?_) λys H' h=>?_⟩
  ·refine⟨⟨rfl,trivial⟩,λ_=>?_,λz=>by cases z⟩;refine⟨FA,rfl,⟨fx,Ae.of (h.1 _ _ hF)⟩,BF (xs:=fx) (λj zs H2=>Ab H1 H2/\zs=((F.take j).map λr=>r.getD i 0).map V.int) (by omega) ⟨h.1,rfl⟩ (λj zs H2 h=>by rw [h.2,length_map,length_map,length_take];omega) (λj zs H2 _ h=>Ae.of (h.1 _ _ hF)) (λj x zs H2 hx h2=>?_) λzs H2 h2=>?_⟩
   ·obtain⟨r,hr,rr⟩:=Ac.mapGot rx hx;obtain⟨ra,rfl,hra⟩:=Aa.ofRow (Aa.ev (Ev.same h2.1) _ _ rr);have hlr:=tr.fo.row j r hr;have hg:r[i]? =some (r.getD i 0):=by rw [getD_eq_getElem?_getD,getElem?_eq_getElem (by omega)];rfl
    refine⟨⟨rfl,trivial⟩,λ_=>⟨ra,_,_,.int (r.getD i 0),rfl,rfl,Ae.of hra,?_,h2.1,?_⟩,λz=>by cases z⟩
    ·rw [Int.zero_add];exact BT (by rw [getElem?_map,hg];rfl)
    ·rw [A9 hr,map_append,map_append,h2.2];rfl
   ·intro m hm;refine⟨m,F.map λr=>r.getD i 0,rfl,.inl ?_,h2.1.trans (Ab.new hm),?_⟩
    ·rw [Ah,h2.2,take_of_length_le (by omega)]
    ·have hg:(B8 P F)[i]? =some (F.map λr=>r.getD i 0).sum:=by unfold B8;rw [getElem?_map,getElem?_range (by omega)];rfl
     rw [A9 hg,map_append,h.2];rfl
  ·intro m hm;refine⟨m,_,rfl,.inl ⟨Al.of Ah,λt ht=>?_⟩⟩;refine q _ _ (s1.trans (h.1.trans ((Ab.new hm).trans (Ab.new ht)))) (Aa.row ?_);rw [Ah,h.2,take_of_length_le (by unfold B8;rw [length_map,length_range];omega)]
 ·exact h.elim
end
end MF
end
section
namespace MF
open L2
def Td (r c:List Int):Prop:=r.length=c.length/\∀(j:Nat) (x y:Int),r[j]? =some x->c[j]? =some y->0<=x/\x<=y
def HM:Sp:=λvs H Q _=>match vs with | [.ref p,v]=>AQ p H/\∃P S,PL.ok P/\SY.ok S P.bs.length/\Aa p H (Dd P S) v/\∀w H' F,FOk P S F->Aa p H' (FD F) w->Ev p H H'->AQ p H'->Q w H' | _=>False
def FY:Sp:=λvs H Q _=>match vs with | [vm,vd,vf]=>∃p P S F,PL.ok P/\SY.ok S P.bs.length/\FOk P S F/\Aa p H (.tuple [.int P.lo,.int P.hi,.int P.st]) vm/\Aa p H (Fy P S) vd/\Aa p H (FD F) vf/\∀t R sv H' k s xs,Run P S F k s->Ab H H'->H R=none->H' t=some (.tup [.ref R,sv])->H' R=some (.lst xs)->Ac p H' (Cg P S F k) xs->Aa p H' (Eh s) sv->Q (.ref t) H' | _=>False
theorem Mp {α:Type}{l:List α}{a x:α}{k:Nat} (h:(l++[a])[k]? =some x):l[k]? =some x\/(k=l.length/\x=a):=by
 by_cases c:k<l.length
 ·rw [getElem?_append_left c] at h;exact .inl h
 ·rw [getElem?_append_right (by omega)] at h;have:k-l.length=0:=by
   have:=(List.getElem?_eq_some_iff.mp h).1;simp at this;omega
  rw [this] at h;cases h;exact .inr ⟨by omega,rfl⟩
section
variable {P : Program} {w : World} {K : Fgx} {mg : Str -> Option Value} {base : Heap}
theorem zar:Ax ["_law_pen_here","_law_caps_here","_law_way","_law_rows","_law_row"] ["_law_pen_here","_law_caps_here"] (Ap waR):=AA
theorem Te (F:Df K mg "_law_firing" waR ["_law_pen_here","_law_caps_here"]) (T:Tx mg) (ya0:Fc P w K mg base):Fn P w K mg base 2 "_law_firing" ["_law_pen_here","_law_caps_here"] HM:=by
 refine F.fn zar (λvs H Q E h=>?_) (λf cdv A outer s H vs Q E hr h=>?_)
 ·unfold HM at h;split at h;rfl;exact h.elim
 refine⟨_,(Aj (Ba (Bd (Aq (Am ya0 (hr.mono (by decide)) rfl (Aq (cy 0) Af)) (Bm BK))) (AG K (n:=2) (Ai (Ag 2 zar.nd) (Ai (Ag 3 zar.nd) AC)))) (Aj (Bs PassesOwn.never rfl (BA K (cy 1)) (Ag 4 zar.nd) (An (Br (BZ PySem.F.plainAttrs_list PySem.F.slot_list_append PySem.F.type_list_append B6 (cy 3) (Ak (Bo (BI K) rfl T.b_tuple Bz (Ak (A7 ["_law_cap","_law_way","_law_pen_here"] [none,some 2,some 0] rfl (BA K (cy 4)) (AE.of rfl) (λ_ _ _ _=>(Ag 0 (AB (by rfl)))) (λ_ _ _ _=>AY) (λ_ _ _ _=>(Au (A4 K) (Bm (Bp (cy 0) Af (Am ya0 (hr.mono (by decide)) rfl (Aq (cy 2) (As A1 (cy 0) Af))) (Am ya0 (hr.mono (by decide)) rfl (Aq (cy 2) (As A1 (cy 0) Af))))) (cy 1) (λ_ _=>rfl))))))))))) (An (Aw (Bo (BI K) rfl T.b_tuple Bz (Ak (cy 3))))))),?_⟩;unfold HM at h;split at h
 ·rename_i p v;obtain⟨pn,P,S,ok,so,r,q⟩:=h;have x8:=so.x8;have b4:=ok.b4;refine⟨pn,by decide,by decide,λway H1 a1 c1 e1 pn1 R hR l0 hl0=>⟨l0,_,rfl,Ae.of Ah,rfl,_,_,rfl,_,_,rfl,rfl,?_⟩⟩;have nR:R≠p:=pn1.ne hR;have hHR:H R=none:=by
   cases z:H R with
   | none=>rfl
   | some o=>exact((e1 R o z).elim (fun⟨x,_⟩=>absurd x nR) λx=>by rw [x] at hR;cases hR)
  have s2:Ab H1 (upd (upd H1 R (.lst [])) l0 (.tup [.int way,.ref R])):=(Ab.new hR).trans (Ab.new hl0);have hR2:=(Ab.new (o:= .tup [.int way,.ref R]) hl0) _ _ (Ah (H:=H1) (a:=R) (o:= .lst []));unfold Dd at r;obtain⟨A,xs,rfl,hA,rx⟩:=Aa.shape (Aa.ev (e1.trans (Ev.same s2)) _ _ r);have lx:=rx.len;rw [length_map,Dg] at lx;refine⟨A,rfl,⟨xs,Ae.of hA⟩,JH (xs:=xs) (λi σ H2=>(∃x4,σ=[some (.ref p),some (.ref A),some (.int way),some (.ref R),x4])/\Ev p (upd (upd H1 R (.lst [])) l0 (.tup [.int way,.ref R])) (upd H2 R (.lst []))/\Ev p H H2/\AQ p H2/\∃ys F,H2 R=some (.lst ys)/\Ac p H2 (F.map AJ) ys/\F.length=i/\∀(k:Nat) (r c:List Int),F[k]? =some r->(caps P S)[k]? =some c->Td r c)
   ⟨⟨_,rfl⟩,?_,e1.trans (Ev.same s2),pn1.same s2,[],[],hR2,.nil,rfl,(λk r c h=>by simp at h)⟩ (λi σ H2 _ h=>?_) (λi x σ H2 hx h=>?_) fun σ H2 h=>?_⟩
  ·intro b o hb
   by_cases z:b=R
   ·subst z;rw [hR2] at hb;cases hb;exact .inr Ah
   ·exact .inr (by rw [Ar z];exact hb)
  ·have ha:=h.2.1.tup hA;have:A≠R:=by
    intro z;subst z;rw [hR2] at hA;cases hA
   rw [Ar this] at ha;exact Ae.of ha
  ·obtain⟨⟨x4,rfl⟩,ev0,ev,pn2,ys,F,hRy,rF,lF,hin⟩:=h;obtain⟨cs,hcs,rcs⟩:=Ac.mapGot rx hx;have hcb:=(Eg ok cs (mem_of_getElem? hcs)).1;have hcl:=(Eg ok cs (mem_of_getElem? hcs)).2;obtain⟨C,rfl,hC⟩:=Aa.ofRow rcs;have hC2:H2 C=some (.tup (cs.map V.int)):=by
    have ha:=ev0.tup hC;have:C≠R:=by
     intro z;subst z;rw [hR2] at hC;cases hC
    rw [Ar this] at ha;exact ha
   refine⟨.inl ⟨rfl,_,Al.of hRy⟩,C,rfl,⟨_,Ae.of hC2⟩,BF (xs:=cs.map V.int) (λj zs H3=>Ev p H2 H3/\AQ p H3/\∃ns:List Int,zs=ns.map V.int/\ns.length=j/\∀(k:Nat) (x y:Int),ns[k]? =some x->cs[k]? =some y->0<=x/\x<=y) (by rw [length_map];omega) ⟨Ev.refl,pn2,[],rfl,rfl,(λk x y h=>by simp at h)⟩ (λj zs H3 h=>?_) (λj zs H3 _ h=>Ae.of (h.1.tup hC2)) (λj x zs H3 hx h=>?_) λzs H3 h=>?_⟩
   ·obtain⟨_,_,ns,rfl,hn,_⟩:=h;rw [length_map];omega
   ·obtain⟨e3,pn3,ns,rfl,hn,hb⟩:=h;rw [getElem?_map] at hx;cases z:cs[j]? with
    | none=>rw [z] at hx;cases hx
    | some c=>
     rw [z] at hx;cases hx;have hc9:=hcb c (mem_of_getElem? z);refine⟨⟨rfl,rfl,trivial⟩,λ_=>⟨pn3,by omega,by omega,λg1 H4 a4 c4 e4 pn4=>⟨pn4,by omega,by omega,λg2 H5 a5 c5 e5 pn5 l hl=>?_⟩⟩,λz=>by cases z⟩;obtain⟨vv,hvv,hat⟩:=CZ (ns:=[c,0,g1,g2]) a1 (by simpa using c1);have hv':0<=vv/\vv<=c:=by
      simp only [mem_cons,not_mem_nil,or_false] at hvv;omega
     refine⟨l,_,way,.int vv,rfl,rfl,Al.of Ah,hat,e3.trans (e4.trans (e5.trans (Ev.new hl))),pn5.new hl,ns++[vv],by rw [map_append];rfl,by rw [length_append,hn];rfl,λk x y hx hy=>?_⟩;rcases Mp hx with h | ⟨h1,h2⟩
     ·exact hb k x y h hy
     ·subst h2;rw [h1,hn,z] at hy;cases hy;exact hv'
   ·obtain⟨e3,pn3,ns,rfl,hn,hb⟩:=h;rw [length_map] at hn;intro m hm;refine⟨m,_,rfl,.inl ⟨Al.of Ah,λt ht=>?_⟩⟩;have n3:=(Ab.new (o:= .lst (ns.map V.int)) hm).trans (Ab.new (o:= .tup (ns.map V.int)) ht);have hR3:=n3 _ _ (e3.lst hRy nR);have lF2:=rF.len;rw [length_map] at lF2;have hi:i<xs.length:=(List.getElem?_eq_some_iff.mp hx).1;have tv:=TEv.upd (zs:=ys++[.ref t]) hR3;refine⟨R,ys,.ref t,rfl,rfl,hR3,Dp (by omega),⟨_,rfl⟩,?_,((ev.trans e3).trans (Ev.same n3)).own hHR,?_,ys++[.ref t],F++[ns],Ah,?_,by rw [length_append,lF];rfl,λk r c hr hc=>?_⟩
    ·intro b o hb';rcases ev0 b o hb' with z | z
     ·exact .inl z
     ·by_cases zb:b=R
      ·subst zb;rw [Ah] at z ⊢;exact .inr z
      ·rw [Ar zb] at z;rcases(e3.trans (Ev.same n3)) b o z with y | y
       ·exact .inl y
       ·exact .inr (by rw [Ar zb,Ar zb];exact y)
    ·obtain⟨l,f,e⟩:=pn3.same n3;exact⟨l,f,by rw [Ar (Ne.symm nR)];exact e⟩
    ·rw [map_append];refine Ac.snoc (Ac.tev ((e3.trans (Ev.same n3)).tev.trans tv) _ _ (Cf λd hd=>?_) rF) (Aa.tev tv _ _ (DS _) (Aa.row (p:=p) Ah));obtain⟨rr,_,rfl⟩:=mem_map.mp hd;exact DS rr
    ·rcases Mp hr with h | ⟨h1,h2⟩
     ·exact hin k r c h hc
     ·subst h2;rw [h1,lF,hcs] at hc;cases hc;exact⟨hn,hb⟩
  ·obtain⟨⟨x4,rfl⟩,ev0,ev,pn2,ys,F,hRy,rF,lF,hin⟩:=h;refine⟨R,ys,rfl,.inl ⟨Al.of hRy,λt ht=>?_⟩⟩;refine q _ _ F ⟨by omega,λi r hr=>?_,λi r j x c hr hx hc=>?_⟩ (Aa.tup Ah (Ac.ev (Ev.new ht) _ _ rF)) (ev.trans (Ev.new ht)) (pn2.new ht)
   ·have hi:i<S.ex.length:=by
     have:=(List.getElem?_eq_some_iff.mp hr).1;omega
    have:=(hin i r _ hr (De hi)).1;rw [this,Fz]
   ·have hi:i<S.ex.length:=by
     have:=(List.getElem?_eq_some_iff.mp hr).1;omega
    exact(hin i r _ hr (De hi)).2 j x c hx hc
 ·exact h.elim
theorem zaf:Ax ["_law_main","_law_draws_here","_law_firing_here","_law_here","_law_rows","_law_hour","_law_row","_law_made","_law_blown"] ["_law_main","_law_draws_here","_law_firing_here"] (Ap waS):=AA
theorem Tf (F:Df K mg "_law_run" waS ["_law_main","_law_draws_here","_law_firing_here"]) (T:Tx mg)  :Fn P w K mg base 1 "_law_run" ["_law_main","_law_draws_here","_law_firing_here"] FY:=by
 refine F.fn zaf (λvs H Q E h=>?_) (λf cdv A outer s H vs Q E hr h=>?_)
 ·unfold FY at h;split at h;rfl;exact h.elim
 refine⟨_,(Aj (Dz (i:=3) (j:=4) rfl zaf.nd rfl rfl (by decide) rfl rfl (Aq (Au (AF K) (cy 0) Af (λ_ _=>rfl)) (Bm BK)) (by rfl)) (Aj (Bs PassesOwn.never rfl (Ef P w K rfl T.b_enumerate (Ak (cy 2))) (AG K (n:=2) (Ai (Ag 5 zaf.nd) (Ai (Ag 6 zaf.nd) AC))) (Aj (Dz (i:=7) (j:=8) rfl zaf.nd rfl rfl (by decide) rfl rfl (Aq (At (DH rfl) rfl T.b_sum boot_sum (Ak (cy 6))) Af) (by rfl)) (Aj (AD (i:=3) zaf.nd rfl (Az (by rfl)) (As Bl (As A1 (cy 3) (cy 7)) (Au (AF K) (cy 1) (cy 5) (λ_ _=>rfl)))) (Aj (A8 (AS CQ (cy 3) (Au (AF K) (cy 0) Af (λ_ _=>rfl)) (AN _)) (An (Aw (Bd (Aq (cy 4) (Bd (Aq (cy 5) (As Bl (Au (AF K) (cy 0) Af (λ_ _=>rfl)) (cy 3)))))))) A6) (Aj (A8 (AS Eb (cy 3) (Au (AF K) (cy 0) Af (λ_ _=>rfl)) (AN _)) (An (Dz (i:=8) (j:=3) rfl zaf.nd rfl rfl (by decide) rfl rfl (Aq (As Bl (cy 3) (Au (AF K) (cy 0) Af (λ_ _=>rfl))) (Au (AF K) (cy 0) Af (λ_ _=>rfl))) (by rfl))) A6) (An (Br (BZ PySem.F.plainAttrs_list PySem.F.slot_list_append PySem.F.type_list_append B6 (cy 4) (Ak (Bd (Bp (cy 7) (Au (AF K) (cy 1) (cy 5) (λ_ _=>rfl)) (cy 8) (cy 3)))))))))))) (An (Aw (Bd (Aq (cy 4) Du)))))),?_⟩;unfold FY at h;split at h
 ·rename_i vm vd vf;obtain⟨p,P,S,F,ok,so,fo,rm,rd,rf,q⟩:=h;have x8:=so.x8;have fl:=fo.len;obtain⟨M,xm,rfl,hM,rmm⟩:=Aa.shape rm;obtain⟨m1,m2,m3,rfl,r1,r2,r3⟩:=Ac.three rmm;unfold Aa at r1 r2 r3;subst r1 r2 r3;obtain⟨D,rfl,hD⟩:=Aa.ofRow (r:=draws P S) rd;obtain⟨FA,fx,rfl,hF,rx⟩:=Aa.firing rf;have lx:=rx.len;rw [length_map] at lx;refine⟨M,_,2,.int P.st,rfl,rfl,Ae.of hM,rfl,λR hR=>⟨_,_,rfl,?_⟩⟩;have sR:Ab H (upd H R (.lst [])):=Ab.new hR;refine⟨FA,rfl,⟨_,Ae.of (sR _ _ hF)⟩,for_enum (xs:=fx) (λi σ H'=>(∃x5 x6 x7 x8,σ=[some (.ref M),some (.ref D),some (.ref FA),some (.int (AH P S F i)),some (.ref R),x5,x6,x7,x8])/\Ev R (upd H R (.lst [])) H'/\(∀j,j<i->P.lo<=AO P S F j)/\∃xs,H' R=some (.lst xs)/\Ac p H' (Cg P S F i) xs)
   ⟨⟨_,_,_,_,rfl⟩,Ev.refl,(λj hj=>absurd hj (Nat.not_lt_zero _)),[],Ah,.nil⟩ (λi σ H' h=>Ae.of (h.2.1.tup (sR _ _ hF))) (λi x σ H' T hx h hT=>?_) fun σ H' h=>?_⟩
  ·obtain⟨⟨x5,x6,x7,x8',rfl⟩,ev,up,xs,hRx,rxs⟩:=h;have hi:i<S.ex.length:=by
    have:=(List.getElem?_eq_some_iff.mp hx).1;omega
   obtain⟨r,hr,rr⟩:=Ac.mapGot rx hx;obtain⟨d,z⟩:∃d,(draws P S)[i]? =some d:=⟨_,GD (by rw [CJ];exact hi)⟩;have ed:=K2 z;have em:=K1 hr;have nw:Ab H' (upd H' T (.tup [.int i,x])):=Ab.new hT;have ev2:Ev R (upd H R (.lst [])) (upd H' T (.tup [.int i,x])):=ev.trans (Ev.same nw);obtain⟨ra,rfl,hra⟩:=Aa.ofRow rr;have sH:Ab H (upd H' T (.tup [.int i,.ref ra])):=Ab.evOwn sR hR ev2;have epm:AH P S F i+r.sum-d=AO P S F i:=by unfold AO;rw [em,ed];omega
   have aD:Bu ((draws P S).map V.int) (i:Int)=some (.int d):=BT (by rw [getElem?_map,z];rfl);refine⟨T,_,rfl,Ae.of Ah,rfl,_,_,rfl,_,_,rfl,rfl,?_⟩;refine⟨ra,r,rfl,.inr (sH _ _ hra),_,_,rfl,D,_,(i:Int),.int d,rfl,rfl,Ae.of (sH _ _ hD),aD,?_⟩;refine⟨M,_,0,.int P.lo,rfl,rfl,Ae.of (sH _ _ hM),rfl,⟨λc=>?_,λc=>?_⟩⟩
   ·refine⟨M,_,0,.int P.lo,rfl,rfl,Ae.of (sH _ _ hM),rfl,?_⟩;intro t1 ht1 t2 ht2;have c':=of_decide_eq_true c;have n12:=(Ab.new (o:= .tup [.int i,.int (P.lo-(AH P S F i+r.sum-d))]) ht1).trans (Ab.new (o:= .tup [.ref R,.ref t1]) ht2);refine q t2 R (.ref t1) _ i (some ((i:Int),P.lo-AO P S F i)) xs ⟨Nat.le_of_lt hi,up,.inr ⟨hi,by rw [<-epm];exact c',rfl⟩⟩ (sH.trans n12) hR Ah ((nw.trans n12) _ _ hRx) (Ac.ev (Ev.same (nw.trans n12)) _ _ rxs) ?_;refine Aa.tup ((Ab.new ht2) _ _ Ah) ?_;rw [<-epm];exact .cons Aa.int (.cons Aa.int .nil)
   ·have c':P.lo<=AO P S F i:=by
     have h2:¬AH P S F i+r.sum-d<P.lo:=of_decide_eq_false c;rw [epm] at h2;omega
    have lxs:=rxs.len;rw [K0] at lxs;have fin:∀(b m:Int) (y5 y6 y7 y8:Option V),b=Bc P.hi (AO P S F i)->m=AH P S F (i+1)->∀t,upd H' T (.tup [.int i,.ref ra]) t=none->∀σ':L2.St,σ'=[some (.ref M),some (.ref D),some (.ref FA),some (.int m),some (.ref R),y5,y6,y7,y8]->
      (∃x5 x6 x7 x8,σ'=[some (.ref M),some (.ref D),some (.ref FA),some (.int (AH P S F (i+1))),some (.ref R),x5,x6,x7,x8])/\Ev R (upd H R (.lst [])) (upd (upd (upd H' T (.tup [.int i,.ref ra])) t (.tup [.int r.sum,.int d,.int b,.int m])) R (.lst (xs++[.ref t])))/\(∀j,j<i+1->P.lo<=AO P S F j)/\∃xs',upd (upd (upd H' T (.tup [.int i,.ref ra])) t (.tup [.int r.sum,.int d,.int b,.int m])) R (.lst (xs++[.ref t])) R=some (.lst xs')/\Ac p (upd (upd (upd H' T (.tup [.int i,.ref ra])) t (.tup [.int r.sum,.int d,.int b,.int m])) R (.lst (xs++[.ref t]))) (Cg P S F (i+1)) xs':=by
     intro b m y5 y6 y7 y8 hb hm t ht σ' hσ;have hR3:upd (upd H' T (.tup [.int i,.ref ra])) t (.tup [.int r.sum,.int d,.int b,.int m]) R=some (.lst xs):=(nw.trans (Ab.new ht)) _ _ hRx;refine⟨⟨y5,y6,y7,y8,by rw [hσ,hm]⟩,(ev2.trans (Ev.new ht)).trans (Ev.pen hR3),λj hj=>?_,_,Ah,?_⟩
     ·by_cases cj:j=i
      ·subst cj;exact c'
      ·exact up j (by omega)
     ·have tv:=TEv.upd (zs:=xs++[.ref t]) hR3;rw [KZ];refine Ac.snoc (Ac.tev ((Ev.same (p:=p) (nw.trans (Ab.new ht))).tev.trans tv) _ _ (Cf λd hd=>?_) rxs) (Aa.tev (p:=p) tv _ _ rfl (Aa.tup Ah ?_))
      ·unfold Cg at hd;obtain⟨k,_,rfl⟩:=mem_map.mp hd
       rfl
      ·rw [em,ed,<-hb,<-hm];exact .cons Aa.int (.cons Aa.int (.cons Aa.int (.cons Aa.int .nil)))
    refine⟨M,_,1,.int P.hi,rfl,rfl,Ae.of (sH _ _ hM),rfl,⟨λc2=>?_,λc2=>?_⟩⟩
    ·have c3:P.hi<AO P S F i:=by
      have h2:P.hi<AH P S F i+r.sum-d:=of_decide_eq_true c2;rw [epm] at h2;exact h2
     refine⟨M,_,1,.int P.hi,rfl,rfl,Ae.of (sH _ _ hM),rfl,M,_,1,.int P.hi,rfl,rfl,Ae.of (sH _ _ hM),rfl,_,_,rfl,?_⟩;refine⟨.inl ⟨rfl,_,Al.of (nw _ _ hRx)⟩,D,_,(i:Int),.int d,rfl,rfl,Ae.of (sH _ _ hD),aD,λt ht=>?_⟩;refine⟨R,xs,.ref t,rfl,rfl,(nw.trans (Ab.new ht)) _ _ hRx,Dp (by omega),?_⟩;exact fin (AH P S F i+r.sum-d-P.hi) P.hi _ _ _ _ (by rw [epm];unfold Bc;rw [if_neg (by omega)]) (by rw [EO];unfold Bc;rw [if_neg (by omega)];omega) t ht _ rfl
    ·have c3:AO P S F i<=P.hi:=by
      have h2:¬P.hi<AH P S F i+r.sum-d:=of_decide_eq_false c2;rw [epm] at h2;omega
     have e0:Bc P.hi (AO P S F i)=0:=by unfold Bc;split<;>omega
     refine⟨.inl ⟨rfl,_,Al.of (nw _ _ hRx)⟩,D,_,(i:Int),.int d,rfl,rfl,Ae.of (sH _ _ hD),aD,λt ht=>?_⟩;refine⟨R,xs,.ref t,rfl,rfl,(nw.trans (Ab.new ht)) _ _ hRx,Dp (by omega),?_⟩;exact fin 0 (AH P S F i+r.sum-d) _ _ _ _ e0.symm (by rw [EO,e0,epm];omega) t ht _ rfl
  ·obtain⟨⟨x5,x6,x7,x8',rfl⟩,ev,up,xs,hRx,rxs⟩:=h;rw [<-lx,fl] at up rxs;intro t ht;have nw:=Ab.new (o:= .tup [.ref R,.non]) ht;exact q t R .non _ S.ex.length none xs ⟨Nat.le_refl _,up,.inl ⟨rfl,rfl⟩⟩ (Ab.evOwn sR hR (ev.trans (Ev.same nw))) hR Ah (nw _ _ hRx) (Ac.ev (Ev.same nw) _ _ rxs) Aa.non
 ·exact h.elim
end
def Tg:List PyData->List Int->Bool
 | [],[]=>true
 | d::ds,j::r=>(match d with | .int i=>i==j | _=>false) && Tg ds r
 | _,_=>false
def HN:Sp:=λvs H Q _=>match vs with | [v,u,w]=>∃p P S F,Tri p H P S F v u w/\∀H',Ab H H'->Q (.int (coal P F)) H' | _=>False
section
variable {P : Program} {w : World} {K : Fgx} {mg : Str -> Option Value} {base : Heap}
theorem zaz:Ax ["plant","story","firing","made"] ["plant","story","firing"] (Ap waw):=AA
theorem Th (F:Df K mg "coal_of" waw ["plant","story","firing"]) (T:Tx mg) (yaD:Fn P w K mg base 12 "steam_by" ["plant","story","firing"] HL):Fn P w K mg base 13 "coal_of" ["plant","story","firing"] HN:=by
 refine F.fn zaz (λvs H Q E h=>?_) (λf cdv A outer s H vs Q E hr h=>?_)
 ·unfold HN at h;split at h;rfl;exact h.elim
 refine⟨_,(Aj (AD (i:=3) zaz.nd rfl (Az (by rfl)) (Am yaD (hr.mono (by decide)) rfl (AM (cy 0) (cy 1) (cy 2)))) (An (Aw (At (DH rfl) rfl T.b_sum boot_sum (Ak (A7 ["units","make","coal"] [none,none,none] rfl (Gy P w K rfl T.b_zip (Aq (cy 3) (Au (AF K) (cy 0) Af (λ_ _=>rfl)))) (AE.of rfl) (λ_ _ _ _=>(AG K (n:=2) (Ai (Ag 0 (AB (by rfl))) (Ai (AG K (n:=2) (Ai (Ag 1 (AB (by rfl))) (Ai (Ag 2 (AB (by rfl))) AC))) AC)))) (λ_ _ _ _=>AY) (λ_ _ _ _=>(As C9 (cy 0) (cy 2))))))))),?_⟩;unfold HN at h;split at h
 ·rename_i v u w;obtain⟨p,P,S,F,tr,q⟩:=h;have b4:=tr.ok.b4;refine⟨p,P,S,F,tr,λv1 H1 s1 r1=>?_⟩;obtain⟨PA,PB,PE,PM,xb,xe,rfl,pA,pB,rb,pE,re,pM⟩:=Aa.plant (tr.sm s1).r;obtain⟨M,rfl,hM⟩:=Aa.ofRow r1;have lb:=rb.len;rw [length_map] at lb;have ls:(B8 P F).length=P.bs.length:=by unfold B8;simp
  refine⟨PA,_,0,.ref PB,rfl,rfl,Ae.of pA,rfl,M,PB,rfl,⟨_,Ae.of hM⟩,⟨_,Ae.of pB⟩,walk_zip (xs:=(B8 P F).map V.int) (ys:=xb) (λi zs H'=>Ab H1 H'/\zs=((((B8 P F).zip P.bs).take i).map λq=>V.int (q.1 * q.2.2))) (by rw [length_map];omega) (by rw [length_map];omega) ⟨Ab.refl _,rfl⟩
   (λi zs H' h=>by rw [h.2,length_map,length_take];omega) (λi zs H' h=>⟨Ae.of (h.1 _ _ hM),Ae.of (h.1 _ _ pB)⟩) (λi x y zs H' T hx hy h hT=>?_) λzs H' h=>?_⟩
  ·rw [getElem?_map] at hx;obtain⟨c,hcc,rc⟩:=Ac.mapGot rb hy;cases z1:(B8 P F)[i]? with
   | none=>rw [z1] at hx;cases hx
   | some n=>
    rw [z1] at hx;cases hx;have s2:=h.1.trans (Ab.new (o:= .tup [.int n,y]) hT);obtain⟨l,zs',rfl,hl',rz⟩:=Aa.shape (Aa.ev (Ev.same s2) _ _ rc);obtain⟨y1,y2,rfl,r1',r2⟩:=Ac.two rz;unfold Aa at r1' r2;subst r1' r2;have bc:=tr.ok.b c (mem_of_getElem? hcc);have hz:((B8 P F).zip P.bs)[i]? =some (n,c):=by rw [List.getElem?_zip_eq_some];exact⟨z1,hcc⟩
    refine⟨T,_,rfl,Ae.of Ah,rfl,_,_,rfl,_,_,rfl,l,_,rfl,Ae.of hl',rfl,_,_,rfl,_,_,rfl,rfl,rfl,trivial,λ_=>⟨.inr ⟨by omega,by omega⟩,s2,?_⟩,λz=>by cases z⟩;rw [h.2,A9 hz,map_append];rfl
  ·intro m hm;refine⟨m,(((B8 P F).zip P.bs).map fun(q:Int×Int×Int)=>q.1 * q.2.2),rfl,.inl ?_,q _ (s1.trans (h.1.trans (Ab.new hm)))⟩;rw [Ah,h.2,take_of_length_le (by rw [List.length_zip,length_map];omega),map_map];rfl
 ·exact h.elim
end
structure Tc (K:Fgx) (mg:Str->Option Value) (M:Addr) (ds:List Addr):Prop where
 c_NoPlant:mg "NoPlant"=some (.ref (ds.getD 0 0))
 c_NoStory:mg "NoStory"=some (.ref (ds.getD 1 0))
 c_NoFiring:mg "NoFiring"=some (.ref (ds.getD 2 0))
 c_NoHour:mg "NoHour"=some (.ref (ds.getD 3 0))
 c_NoBoiler:mg "NoBoiler"=some (.ref (ds.getD 4 0))
 c_NoPrices:mg "NoPrices"=some (.ref (ds.getD 5 0))
 c_NoWay:mg "NoWay"=some (.ref (ds.getD 6 0))
 c_NoSet:mg "NoSet"=some (.ref (ds.getD 7 0))
 c_NoTanks:mg "NoTanks"=some (.ref (ds.getD 8 0))
 c_NoPump:mg "NoPump"=some (.ref (ds.getD 9 0))
 c_NoFeeding:mg "NoFeeding"=some (.ref (ds.getD 10 0))
 c_NoReadings:mg "NoReadings"=some (.ref (ds.getD 11 0))
 c_NoStart:mg "NoStart"=some (.ref (ds.getD 12 0))
 c_NoShifts:mg "NoShifts"=some (.ref (ds.getD 13 0))
 c_NoBook:mg "NoBook"=some (.ref (ds.getD 14 0))
 c_NoAmount:mg "NoAmount"=some (.ref (ds.getD 15 0))
 c_NoDeed:mg "NoDeed"=some (.ref (ds.getD 16 0))
 c_NoLine:mg "NoLine"=some (.ref (ds.getD 17 0))
 c_NoText:mg "NoText"=some (.ref (ds.getD 18 0))
 c_MainError:mg "MainError"=some (.ref M)
 mB:PySem.W.mroIn K M (.type "BaseException")=some true
 mT:PySem.W.typeIn K (.ref M)=some (.type "type")
 n_NoFiring:PySem.W.nsIn K mainGlobals "NoFiring"=some (some (.ref (ds.getD 2 0)))
 x_NoFiring:PySem.W.excIn K (ds.getD 2 0) IY "ValueError.__new__"=true
 w_NoFiring:EW K M ds 2=true
section
variable {P : Program} {w : World} {K : Fgx} {mg : Str -> Option Value} {base : Heap} {M : Addr} {ds : List Addr}
theorem za7:Ax ["_law_e","_law_kinds","_law_words","_law_word"] ["_law_e"] (Ap waV):=AA
theorem Ti (F:Df K mg "_law_kind" waV ["_law_e"]) (T:Tx mg) (C:Tc K mg M ds):EU P w K mg base 1 "_law_kind" ["_law_e"] (ET (WdK K M ds)):=by
 refine F.fnQ za7 (λvs H Q E h=>?_) (λf cdv A outer s H vs Q hr h=>?_)
 ·unfold ET at h;split at h;rfl;exact h.elim
 refine⟨_,(@Aj _ _ _ _ _ (@AD _ _ (1) _ _ _ _ za7.nd rfl (Az (by rfl)) (@Bm _ _ _ _ (@Ei _ _ _ _ _ _ _ _ _ (@At _ _ _ _ _ _ _ _ _ (BC K) rfl T.b_isinstance boot_isinstance (@Be _ _ _ _ _ (@cx _ 0 _ _ (by rfl)) (@A5 _ _ (.ref (ds.getD 0 0)) _ _ rfl C.c_NoPlant rfl (by decide)) (by rfl)) (by decide) (by decide) (by rfl) (by rfl)) (@At _ _ _ _ _ _ _ _ _ (BC K) rfl T.b_isinstance boot_isinstance (@Be _ _ _ _ _ (@cx _ 0 _ _ (by rfl)) (@A5 _ _ (.ref (ds.getD 1 0)) _ _ rfl C.c_NoStory rfl (by decide)) (by rfl)) (by decide) (by decide) (by rfl) (by rfl)) (@At _ _ _ _ _ _ _ _ _ (BC K) rfl T.b_isinstance boot_isinstance (@Be _ _ _ _ _ (@cx _ 0 _ _ (by rfl)) (@A5 _ _ (.ref (ds.getD 2 0)) _ _ rfl C.c_NoFiring rfl (by decide)) (by rfl)) (by decide) (by decide) (by rfl) (by rfl)) (@At _ _ _ _ _ _ _ _ _ (BC K) rfl T.b_isinstance boot_isinstance (@Be _ _ _ _ _ (@cx _ 0 _ _ (by rfl)) (@A5 _ _ (.ref (ds.getD 3 0)) _ _ rfl C.c_NoHour rfl (by decide)) (by rfl)) (by decide) (by decide) (by rfl) (by rfl)) (by rfl))) (by rfl) (CU (by rfl))) (@Aj _ _ _ _ _ (@AD _ _ (1) _ _ _ _ za7.nd rfl (Az (by rfl)) (@As _ _ _ _ _ _ _ _ (@EF _) (@cx _ 1 _ _ (by rfl)) (@Bm _ _ _ _ (@Ei _ _ _ _ _ _ _ _ _ (@At _ _ _ _ _ _ _ _ _ (BC K) rfl T.b_isinstance boot_isinstance (@Be _ _ _ _ _ (@cx _ 0 _ _ (by rfl)) (@A5 _ _ (.ref (ds.getD 4 0)) _ _ rfl C.c_NoBoiler rfl (by decide)) (by rfl)) (by decide) (by decide) (by rfl) (by rfl)) (@At _ _ _ _ _ _ _ _ _ (BC K) rfl T.b_isinstance boot_isinstance (@Be _ _ _ _ _ (@cx _ 0 _ _ (by rfl)) (@A5 _ _ (.ref (ds.getD 5 0)) _ _ rfl C.c_NoPrices rfl (by decide)) (by rfl)) (by decide) (by decide) (by rfl) (by rfl)) (@At _ _ _ _ _ _ _ _ _ (BC K) rfl T.b_isinstance boot_isinstance (@Be _ _ _ _ _ (@cx _ 0 _ _ (by rfl)) (@A5 _ _ (.ref (ds.getD 6 0)) _ _ rfl C.c_NoWay rfl (by decide)) (by rfl)) (by decide) (by decide) (by rfl) (by rfl)) (@At _ _ _ _ _ _ _ _ _ (BC K) rfl T.b_isinstance boot_isinstance (@Be _ _ _ _ _ (@cx _ 0 _ _ (by rfl)) (@A5 _ _ (.ref (ds.getD 7 0)) _ _ rfl C.c_NoSet rfl (by decide)) (by rfl)) (by decide) (by decide) (by rfl) (by rfl)) (by rfl)))) (by rfl) (CU (by rfl))) (@Aj _ _ _ _ _ (@AD _ _ (1) _ _ _ _ za7.nd rfl (Az (by rfl)) (@As _ _ _ _ _ _ _ _ (@EF _) (@cx _ 1 _ _ (by rfl)) (@Bm _ _ _ _ (@DI _ _ _ _ _ _ _ (@At _ _ _ _ _ _ _ _ _ (BC K) rfl T.b_isinstance boot_isinstance (@Be _ _ _ _ _ (@cx _ 0 _ _ (by rfl)) (@A5 _ _ (.ref (ds.getD 8 0)) _ _ rfl C.c_NoTanks rfl (by decide)) (by rfl)) (by decide) (by decide) (by rfl) (by rfl)) (@At _ _ _ _ _ _ _ _ _ (BC K) rfl T.b_isinstance boot_isinstance (@Be _ _ _ _ _ (@cx _ 0 _ _ (by rfl)) (@A5 _ _ (.ref (ds.getD 9 0)) _ _ rfl C.c_NoPump rfl (by decide)) (by rfl)) (by decide) (by decide) (by rfl) (by rfl)) (@At _ _ _ _ _ _ _ _ _ (BC K) rfl T.b_isinstance boot_isinstance (@Be _ _ _ _ _ (@cx _ 0 _ _ (by rfl)) (@A5 _ _ (.ref (ds.getD 10 0)) _ _ rfl C.c_NoFeeding rfl (by decide)) (by rfl)) (by decide) (by decide) (by rfl) (by rfl)) (by rfl)))) (by rfl) (CU (by rfl))) (@Aj _ _ _ _ _ (@AD _ _ (1) _ _ _ _ za7.nd rfl (Az (by rfl)) (@As _ _ _ _ _ _ _ _ (@EF _) (@cx _ 1 _ _ (by rfl)) (@Bm _ _ _ _ (@DI _ _ _ _ _ _ _ (@At _ _ _ _ _ _ _ _ _ (BC K) rfl T.b_isinstance boot_isinstance (@Be _ _ _ _ _ (@cx _ 0 _ _ (by rfl)) (@A5 _ _ (.ref (ds.getD 11 0)) _ _ rfl C.c_NoReadings rfl (by decide)) (by rfl)) (by decide) (by decide) (by rfl) (by rfl)) (@At _ _ _ _ _ _ _ _ _ (BC K) rfl T.b_isinstance boot_isinstance (@Be _ _ _ _ _ (@cx _ 0 _ _ (by rfl)) (@A5 _ _ (.ref (ds.getD 12 0)) _ _ rfl C.c_NoStart rfl (by decide)) (by rfl)) (by decide) (by decide) (by rfl) (by rfl)) (@At _ _ _ _ _ _ _ _ _ (BC K) rfl T.b_isinstance boot_isinstance (@Be _ _ _ _ _ (@cx _ 0 _ _ (by rfl)) (@A5 _ _ (.ref (ds.getD 13 0)) _ _ rfl C.c_NoShifts rfl (by decide)) (by rfl)) (by decide) (by decide) (by rfl) (by rfl)) (by rfl)))) (by rfl) (CU (by rfl))) (@Aj _ _ _ _ _ (@AD _ _ (1) _ _ _ _ za7.nd rfl (Az (by rfl)) (@As _ _ _ _ _ _ _ _ (@EF _) (@cx _ 1 _ _ (by rfl)) (@Bm _ _ _ _ (@Ei _ _ _ _ _ _ _ _ _ (@At _ _ _ _ _ _ _ _ _ (BC K) rfl T.b_isinstance boot_isinstance (@Be _ _ _ _ _ (@cx _ 0 _ _ (by rfl)) (@A5 _ _ (.ref (ds.getD 14 0)) _ _ rfl C.c_NoBook rfl (by decide)) (by rfl)) (by decide) (by decide) (by rfl) (by rfl)) (@At _ _ _ _ _ _ _ _ _ (BC K) rfl T.b_isinstance boot_isinstance (@Be _ _ _ _ _ (@cx _ 0 _ _ (by rfl)) (@A5 _ _ (.ref (ds.getD 15 0)) _ _ rfl C.c_NoAmount rfl (by decide)) (by rfl)) (by decide) (by decide) (by rfl) (by rfl)) (@At _ _ _ _ _ _ _ _ _ (BC K) rfl T.b_isinstance boot_isinstance (@Be _ _ _ _ _ (@cx _ 0 _ _ (by rfl)) (@A5 _ _ (.ref (ds.getD 16 0)) _ _ rfl C.c_NoDeed rfl (by decide)) (by rfl)) (by decide) (by decide) (by rfl) (by rfl)) (@At _ _ _ _ _ _ _ _ _ (BC K) rfl T.b_isinstance boot_isinstance (@Be _ _ _ _ _ (@cx _ 0 _ _ (by rfl)) (@A5 _ _ (.ref (ds.getD 17 0)) _ _ rfl C.c_NoLine rfl (by decide)) (by rfl)) (by decide) (by decide) (by rfl) (by rfl)) (by rfl)))) (by rfl) (CU (by rfl))) (@Aj _ _ _ _ _ (@Br _ _ _ _ (@BZ _ _ _ _ _ _ _ _ _ _ _ _ PySem.F.plainAttrs_list PySem.F.slot_list_append PySem.F.type_list_append B6 (@cx _ 1 _ _ (by rfl)) (@Ch _ _ _ (@At _ _ _ _ _ _ _ _ _ (BC K) rfl T.b_isinstance boot_isinstance (@Be _ _ _ _ _ (@cx _ 0 _ _ (by rfl)) (@A5 _ _ (.ref (ds.getD 18 0)) _ _ rfl C.c_NoText rfl (by decide)) (by rfl)) (by decide) (by decide) (by rfl) (by rfl)) (by rfl)) (by rfl) (by rfl) (by rfl) (by rfl) (by rfl)) (by rfl)) (@Aj _ _ _ _ _ (@A8 _ _ _ _ _ _ _ _ (@PW.pt _ _ _ (@Ec _ _ _ _ _ _ _ (@AS _ _ _ _ _ _ _ _ (@C2 _) (@Lj K _ _ _ _ _ _ _ _ _ _ _ _ PySem.F.plainAttrs_list PySem.F.slot_list_count PySem.F.type_list_count Qp (@cx _ 1 _ _ (by rfl)) (@Ch _ _ _ (@Bw _ _ _ _) (by rfl)) (by rfl) (by rfl) (by rfl) (by rfl) (by rfl) (by rfl)) (@Af _ _ _ _) (AN _)) (@Ey _ _ _ _ (@B5 _ _ _ _ (@BU _ _ _ (@At _ _ _ _ _ _ _ _ _ (BC K) rfl T.b_isinstance boot_isinstance (@Be _ _ _ _ _ (@cx _ 0 _ _ (by rfl)) (@DZ _ _ (.ty "ValueError") _ _ rfl T.b_ValueError PyProof.Rows.Boot.«ValueError» rfl (by decide) (by decide)) (by rfl)) (by decide) (by decide) (by rfl) (by rfl)) (by intro _;rfl)))))) (@An _ _ _ (@Aw _ _ _ _ (@Bd _ _ _ _ _ (@Ch _ _ _ (@AT _ _ _ _) (by rfl))))) (@A6 _)) (@Aj _ _ _ _ _ (@AD _ _ (2) _ _ _ _ za7.nd rfl (Az (by rfl)) (@Bm _ _ _ _ (@AV _ _ _ _ _ (@AT _ _ _ _) (@AV _ _ _ _ _ (@AT _ _ _ _) (@AV _ _ _ _ _ (@AT _ _ _ _) (@AV _ _ _ _ _ (@AT _ _ _ _) (@AV _ _ _ _ _ (@AT _ _ _ _) (@AV _ _ _ _ _ (@AT _ _ _ _) (@AV _ _ _ _ _ (@AT _ _ _ _) (@Ei _ _ _ _ _ _ _ _ _ (@AT _ _ _ _) (@AT _ _ _ _) (@AT _ _ _ _) (@AT _ _ _ _) (by rfl)) (by rfl)) (by rfl)) (by rfl)) (by rfl)) (by rfl)) (by rfl)) (by rfl))) (by rfl) (CU (by rfl))) (@Aj _ _ _ _ _ (@AD _ _ (2) _ _ _ _ za7.nd rfl (Az (by rfl)) (@As _ _ _ _ _ _ _ _ (@EF _) (@cx _ 2 _ _ (by rfl)) (@Bm _ _ _ _ (@AV _ _ _ _ _ (@AT _ _ _ _) (@AV _ _ _ _ _ (@AT _ _ _ _) (@AV _ _ _ _ _ (@AT _ _ _ _) (@AV _ _ _ _ _ (@AT _ _ _ _) (@Ei _ _ _ _ _ _ _ _ _ (@AT _ _ _ _) (@AT _ _ _ _) (@AT _ _ _ _) (@AT _ _ _ _) (by rfl)) (by rfl)) (by rfl)) (by rfl)) (by rfl)))) (by rfl) (CU (by rfl))) (@Aj _ _ _ _ _ (@AD _ _ (3) _ _ _ _ za7.nd rfl (Az (by rfl)) (@Au _ _ _ _ _ _ _ (@A4 _ K (by rfl)) (@cx _ 2 _ _ (by rfl)) (@Lj K _ _ _ _ _ _ _ _ _ _ _ _ PySem.F.plainAttrs_list PySem.F.slot_list_index PySem.F.type_list_index Qr (@cx _ 1 _ _ (by rfl)) (@Ch _ _ _ (@Bw _ _ _ _) (by rfl)) (by rfl) (by rfl) (by rfl) (by rfl) (by rfl) (by rfl)) (λ_ _=>rfl)) (by rfl) (CU (by rfl))) (@An _ _ _ (@Aw _ _ _ _ (@Fv _ _ _ _ _ _ _ _ (@AS _ _ _ _ _ _ _ _ (@DB _) (@cx _ 3 _ _ (by rfl)) (@AT _ _ _ _) (AN _)) (@Bd _ _ _ _ _ (@Be _ _ _ _ _ (@cx _ 3 _ _ (by rfl)) Qu (by rfl))) (@Bd _ _ _ _ _ (@Ch _ _ _ (@cx _ 3 _ _ (by rfl)) (by rfl)))))))))))))))),?_⟩;unfold ET at h;split at h
 ·rename_i e;obtain⟨C0,word,he,hw,q⟩:=h;obtain⟨i,hi16,rfl,hwd,hok⟩:=hw.ex;have hi:i<19:=Nat.lt_of_lt_of_le hi16 (by decide);obtain⟨kwd,ntx⟩:=Qv hi16 hwd;obtain⟨O,_,kj,kV⟩:=Lq hok;have kk:∀j,j<19->∀u,Ay (.ref (ds.getD j 0)) u->PySem.W.kitOne K (.ref (ds.getD i 0)) u=some (j==i):=λj hj u r=>by
   cases(show u=Value.ref _ from r);exact kj j hj
  have kv:∀u,Ay (.ty "ValueError") u->PySem.W.kitOne K (.ref (ds.getD i 0)) u=some true:=λu r=>by
   cases(show u=Value.type _ from r);exact kV
  refine⟨e,_,_,_,rfl,he,O,kk 0 (by decide),⟨e,_,_,_,rfl,he,O,kk 1 (by decide),⟨e,_,_,_,rfl,he,O,kk 2 (by decide),⟨e,_,_,_,rfl,he,O,kk 3 (by decide),?_⟩⟩⟩⟩;intro p0 n0;have S0:Ab H (upd H p0 (.lst [.bl (0==i),.bl (1==i),.bl (2==i),.bl (3==i)])):=Ab.new n0;have m0:upd H p0 (.lst [.bl (0==i),.bl (1==i),.bl (2==i),.bl (3==i)]) p0=some (.lst ([0==i,1==i,2==i,3==i].map V.bl)):=Ah
  revert S0 m0
  generalize upd H p0 (.lst [.bl (0==i),.bl (1==i),.bl (2==i),.bl (3==i)])=G0;intro S0 m0;have e0:=S0 e _ he;refine⟨e,_,_,_,rfl,e0,O,kk 4 (by decide),⟨e,_,_,_,rfl,e0,O,kk 5 (by decide),⟨e,_,_,_,rfl,e0,O,kk 6 (by decide),⟨e,_,_,_,rfl,e0,O,kk 7 (by decide),?_⟩⟩⟩⟩;intro q1 k1;have ne1:p0≠q1:=λz=>by rw [z,k1] at m0;cases m0
  refine⟨p0,q1,_,_,rfl,rfl,(Ar ne1).trans m0,Ah,B7 rfl,λp1 n1=>?_⟩;have T1:Ab G0 (upd G0 q1 (.lst [.bl (4==i),.bl (5==i),.bl (6==i),.bl (7==i)])):=Ab.new k1;have S1:Ab H (upd (upd G0 q1 (.lst [.bl (4==i),.bl (5==i),.bl (6==i),.bl (7==i)])) p1 (.lst (([0==i,1==i,2==i,3==i].map V.bl)++[.bl (4==i),.bl (5==i),.bl (6==i),.bl (7==i)]))):=(S0.trans T1).trans (Ab.new n1);have m1:upd (upd G0 q1 (.lst [.bl (4==i),.bl (5==i),.bl (6==i),.bl (7==i)])) p1 (.lst (([0==i,1==i,2==i,3==i].map V.bl)++[.bl (4==i),.bl (5==i),.bl (6==i),.bl (7==i)])) p1=some (.lst ([0==i,1==i,2==i,3==i,4==i,5==i,6==i,7==i].map V.bl)):=Ah
  revert S1 m1
  generalize upd (upd G0 q1 (.lst [.bl (4==i),.bl (5==i),.bl (6==i),.bl (7==i)])) p1 (.lst (([0==i,1==i,2==i,3==i].map V.bl)++[.bl (4==i),.bl (5==i),.bl (6==i),.bl (7==i)]))=G1;intro S1 m1;have e1:=S1 e _ he;refine⟨e,_,_,_,rfl,e1,O,kk 8 (by decide),⟨e,_,_,_,rfl,e1,O,kk 9 (by decide),⟨e,_,_,_,rfl,e1,O,kk 10 (by decide),?_⟩⟩⟩;intro q2 k2;have ne2:p1≠q2:=λz=>by rw [z,k2] at m1;cases m1
  refine⟨p1,q2,_,_,rfl,rfl,(Ar ne2).trans m1,Ah,B7 rfl,λp2 n2=>?_⟩;have T2:Ab G1 (upd G1 q2 (.lst [.bl (8==i),.bl (9==i),.bl (10==i)])):=Ab.new k2;have S2:Ab H (upd (upd G1 q2 (.lst [.bl (8==i),.bl (9==i),.bl (10==i)])) p2 (.lst (([0==i,1==i,2==i,3==i,4==i,5==i,6==i,7==i].map V.bl)++[.bl (8==i),.bl (9==i),.bl (10==i)]))):=(S1.trans T2).trans (Ab.new n2);have m2:upd (upd G1 q2 (.lst [.bl (8==i),.bl (9==i),.bl (10==i)])) p2 (.lst (([0==i,1==i,2==i,3==i,4==i,5==i,6==i,7==i].map V.bl)++[.bl (8==i),.bl (9==i),.bl (10==i)])) p2=some (.lst ([0==i,1==i,2==i,3==i,4==i,5==i,6==i,7==i,8==i,9==i,10==i].map V.bl)):=Ah
  revert S2 m2
  generalize upd (upd G1 q2 (.lst [.bl (8==i),.bl (9==i),.bl (10==i)])) p2 (.lst (([0==i,1==i,2==i,3==i,4==i,5==i,6==i,7==i].map V.bl)++[.bl (8==i),.bl (9==i),.bl (10==i)]))=G2;intro S2 m2;have e2:=S2 e _ he;refine⟨e,_,_,_,rfl,e2,O,kk 11 (by decide),⟨e,_,_,_,rfl,e2,O,kk 12 (by decide),⟨e,_,_,_,rfl,e2,O,kk 13 (by decide),?_⟩⟩⟩;intro q3 k3;have ne3:p2≠q3:=λz=>by rw [z,k3] at m2;cases m2
  refine⟨p2,q3,_,_,rfl,rfl,(Ar ne3).trans m2,Ah,B7 rfl,λp3 n3=>?_⟩;have T3:Ab G2 (upd G2 q3 (.lst [.bl (11==i),.bl (12==i),.bl (13==i)])):=Ab.new k3;have S3:Ab H (upd (upd G2 q3 (.lst [.bl (11==i),.bl (12==i),.bl (13==i)])) p3 (.lst (([0==i,1==i,2==i,3==i,4==i,5==i,6==i,7==i,8==i,9==i,10==i].map V.bl)++[.bl (11==i),.bl (12==i),.bl (13==i)]))):=(S2.trans T3).trans (Ab.new n3);have m3:upd (upd G2 q3 (.lst [.bl (11==i),.bl (12==i),.bl (13==i)])) p3 (.lst (([0==i,1==i,2==i,3==i,4==i,5==i,6==i,7==i,8==i,9==i,10==i].map V.bl)++[.bl (11==i),.bl (12==i),.bl (13==i)])) p3=some (.lst ([0==i,1==i,2==i,3==i,4==i,5==i,6==i,7==i,8==i,9==i,10==i,11==i,12==i,13==i].map V.bl)):=Ah
  revert S3 m3
  generalize upd (upd G2 q3 (.lst [.bl (11==i),.bl (12==i),.bl (13==i)])) p3 (.lst (([0==i,1==i,2==i,3==i,4==i,5==i,6==i,7==i,8==i,9==i,10==i].map V.bl)++[.bl (11==i),.bl (12==i),.bl (13==i)]))=G3;intro S3 m3;have e3:=S3 e _ he;refine⟨e,_,_,_,rfl,e3,O,kk 14 (by decide),⟨e,_,_,_,rfl,e3,O,kk 15 (by decide),⟨e,_,_,_,rfl,e3,O,kk 16 (by decide),⟨e,_,_,_,rfl,e3,O,kk 17 (by decide),?_⟩⟩⟩⟩;intro q4 k4;have ne4:p3≠q4:=λz=>by rw [z,k4] at m3;cases m3
  refine⟨p3,q4,_,_,rfl,rfl,(Ar ne4).trans m3,Ah,B7 rfl,λp4 n4=>?_⟩;have T4:Ab G3 (upd G3 q4 (.lst [.bl (14==i),.bl (15==i),.bl (16==i),.bl (17==i)])):=Ab.new k4;have S4:Ab H (upd (upd G3 q4 (.lst [.bl (14==i),.bl (15==i),.bl (16==i),.bl (17==i)])) p4 (.lst (([0==i,1==i,2==i,3==i,4==i,5==i,6==i,7==i,8==i,9==i,10==i,11==i,12==i,13==i].map V.bl)++[.bl (14==i),.bl (15==i),.bl (16==i),.bl (17==i)]))):=(S3.trans T4).trans (Ab.new n4);have m4:upd (upd G3 q4 (.lst [.bl (14==i),.bl (15==i),.bl (16==i),.bl (17==i)])) p4 (.lst (([0==i,1==i,2==i,3==i,4==i,5==i,6==i,7==i,8==i,9==i,10==i,11==i,12==i,13==i].map V.bl)++[.bl (14==i),.bl (15==i),.bl (16==i),.bl (17==i)])) p4=some (.lst ([0==i,1==i,2==i,3==i,4==i,5==i,6==i,7==i,8==i,9==i,10==i,11==i,12==i,13==i,14==i,15==i,16==i,17==i].map V.bl)):=Ah
  revert S4 m4
  generalize upd (upd G3 q4 (.lst [.bl (14==i),.bl (15==i),.bl (16==i),.bl (17==i)])) p4 (.lst (([0==i,1==i,2==i,3==i,4==i,5==i,6==i,7==i,8==i,9==i,10==i,11==i,12==i,13==i].map V.bl)++[.bl (14==i),.bl (15==i),.bl (16==i),.bl (17==i)]))=G4;intro S4 m4;have e4:=S4 e _ he;refine⟨.inl ⟨rfl,_,Al.of m4⟩,?_⟩;refine⟨e,_,_,_,rfl,e4,O,kk 18 (by decide),?_⟩;refine⟨p4,_,_,rfl,rfl,m4,DE (Nat.le_of_ble_eq_true rfl),?_⟩;have ne5:e≠p4:=λz=>by rw [z,m4] at e4;cases e4
  have m5:upd G4 p4 (.lst ([0==i,1==i,2==i,3==i,4==i,5==i,6==i,7==i,8==i,9==i,10==i,11==i,12==i,13==i,14==i,15==i,16==i,17==i].map V.bl++[.bl (18==i)])) p4=some (.lst ([0==i,1==i,2==i,3==i,4==i,5==i,6==i,7==i,8==i,9==i,10==i,11==i,12==i,13==i,14==i,15==i,16==i,17==i,18==i].map V.bl)):=Ah;have e5:upd G4 p4 (.lst ([0==i,1==i,2==i,3==i,4==i,5==i,6==i,7==i,8==i,9==i,10==i,11==i,12==i,13==i,14==i,15==i,16==i,17==i].map V.bl++[.bl (18==i)])) e=some (El e (ds.getD i 0)):=(Ar ne5).trans e4;have f4:H p4=none:=(S3.trans T4).free n4;have S5:Ab H (upd G4 p4 (.lst ([0==i,1==i,2==i,3==i,4==i,5==i,6==i,7==i,8==i,9==i,10==i,11==i,12==i,13==i,14==i,15==i,16==i,17==i].map V.bl++[.bl (18==i)]))):=Ab.evOwn S4 f4 (Ev.pen m4)
  revert m5 e5 S5
  generalize upd G4 p4 (.lst ([0==i,1==i,2==i,3==i,4==i,5==i,6==i,7==i,8==i,9==i,10==i,11==i,12==i,13==i,14==i,15==i,16==i,17==i].map V.bl++[.bl (18==i)]))=GA;intro m5 e5 S5;have cnt:([0==i,1==i,2==i,3==i,4==i,5==i,6==i,7==i,8==i,9==i,10==i,11==i,12==i,13==i,14==i,15==i,16==i,17==i,18==i]:List Bool).count true=1:=(by decide:∀i,i<19->([0==i,1==i,2==i,3==i,4==i,5==i,6==i,7==i,8==i,9==i,10==i,11==i,12==i,13==i,14==i,15==i,16==i,17==i,18==i]:List Bool).count true=1) i hi;refine⟨.inl ⟨rfl,_,Al.of m5⟩,⟨p4,_,rfl,rfl,m5,?_⟩⟩;rw [cnt];refine⟨rfl,⟨λc=>?_,λ_=>?_⟩⟩
  ·exact absurd c (by decide)
  refine⟨e,_,_,_,rfl,e5,O,kv,⟨λc=>?_,λ_=>?_⟩⟩
  ·cases c
  intro w0 u0;have Sw:Ab GA (upd GA w0 (.lst ((kindWords.take 11).map V.str))):=Ab.new u0;have mw:upd GA w0 (.lst ((kindWords.take 11).map V.str)) w0=some (.lst ((kindWords.take 11).map V.str)):=Ah
  revert Sw mw
  generalize hg:upd GA w0 (.lst ((kindWords.take 11).map V.str))=G5;intro Sw mw;have hg':(upd GA w0 (.lst [.str "plant",.str "story",.str "firing",.str "hour",.str "boiler",.str "prices",.str "way",.str "set",.str "tanks",.str "pump",.str "feeding"]))=G5:=hg;rw [hg'];intro w1 u1;have nw:w0≠w1:=λz=>by rw [z,u1] at mw;cases mw
  refine⟨w0,w1,_,_,rfl,rfl,(Ar nw).trans mw,Ah,B7 rfl,λw2 u2=>?_⟩;have S6:Ab G5 (upd (upd G5 w1 (.lst ((kindWords.drop 11).map V.str))) w2 (.lst (kindWords.map V.str))):=(Ab.new u1).trans (Ab.new u2);have m6:upd (upd G5 w1 (.lst ((kindWords.drop 11).map V.str))) w2 (.lst (kindWords.map V.str)) w2=some (.lst (kindWords.map V.str)):=Ah
  revert S6 m6
  generalize hg6:upd (upd G5 w1 (.lst ((kindWords.drop 11).map V.str))) w2 (.lst (kindWords.map V.str))=G6;intro S6 m6;have m7:=S6 p4 _ (Sw p4 _ m5);have hb1:([0==i,1==i,2==i,3==i,4==i,5==i,6==i,7==i,8==i,9==i,10==i,11==i,12==i,13==i,14==i,15==i,16==i,17==i,18==i]:List Bool)[i]? =some true:=(by decide:∀i,i<19->([0==i,1==i,2==i,3==i,4==i,5==i,6==i,7==i,8==i,9==i,10==i,11==i,12==i,13==i,14==i,15==i,16==i,17==i,18==i]:List Bool)[i]? =some true) i hi;have hb2:∀m,m<i->([0==i,1==i,2==i,3==i,4==i,5==i,6==i,7==i,8==i,9==i,10==i,11==i,12==i,13==i,14==i,15==i,16==i,17==i,18==i]:List Bool)[m]? =some false:=λm hm=>(by decide:∀i,i<19->∀m,m<i->([0==i,1==i,2==i,3==i,4==i,5==i,6==i,7==i,8==i,9==i,10==i,11==i,12==i,13==i,14==i,15==i,16==i,17==i,18==i]:List Bool)[m]? =some false) i hi m hm
  have hat:Bu (kindWords.map V.str) (i:Int)=some (.str word):=by
   rw [BT];rw [getElem?_map,kwd]
   rfl
  have hg6':(upd (upd G5 w1 (.lst [.str "readings",.str "start",.str "shifts",.str "book",.str "amount",.str "no deed",.str "line",.str "text"])) w2 (.lst ((kindWords.take 11).map V.str++[.str "readings",.str "start",.str "shifts",.str "book",.str "amount",.str "no deed",.str "line",.str "text"])))=G6:=hg6;rw [hg6'];refine⟨.inl ⟨rfl,_,Al.of m7⟩,⟨p4,_,i,rfl,rfl,m7,Nat.le_of_ble_eq_true rfl,hb1,hb2,⟨w2,_,_,_,rfl,rfl,Al.of m6,hat,?_⟩⟩⟩;refine⟨rfl,⟨λc=>?_,λ_ t ht=>?_⟩⟩
  ·have:V.str word=V.str "text" :=of_decide_eq_true c;exact absurd (V.str.inj this) ntx
  exact q _ t (((S5.trans Sw).trans S6).trans (Ab.new ht)) Ah
 ·exact h.elim
theorem Tj:Ax ["_law_call","_law_e"] ["_law_call"] (Ap waW):=AA
theorem Tk (F:Df K mg "_law_said" waW ["_law_call"]) (C:Tc K mg M ds) (Dw:EU P w K mg base 1 "_law_kind" ["_law_e"] (ET (WdK K M ds))):GS P w K mg base 18 "_law_said" ["_law_call"] (Em P w K mg base 17 (WdK K M ds)):=
 Qh F Tj rfl rfl rfl rfl rfl C.c_MainError C.mB C.mT (λ_ _ h=>h.mro) Dw (by decide)
theorem Mq:∀ {es:List PyData},es.all Dk=true->∃ns:List Int,es=ns.map .int/\∀n∈ns,0<=n
 | [],_=>⟨[],rfl,λn hn=>(nomatch hn)⟩
 | e::es,h=>by
  rw [all_cons,Bool.and_eq_true] at h;obtain⟨ns,rfl,h2⟩:=Mq h.2;have h1:=h.1;unfold Dk at h1;split at h1
  ·rename_i i;refine⟨i::ns,rfl,λn hn=>?_⟩;rcases mem_cons.mp hn with rfl | hn
   ·exact of_decide_eq_true h1
   ·exact h2 n hn
  ·cases h1
theorem Mr {n:Nat}{d:PyData} (h:Cy (n:Int) d=true):∃ns:List Int,d=AJ ns/\ns.length=n/\∀m∈ns,0<=m:=by
 unfold Cy at h;rw [Bool.and_eq_true] at h;obtain⟨h1,h2⟩:=h;split at h2
 ·rename_i es;obtain⟨ns,rfl,h3⟩:=Mq h2;refine⟨ns,rfl,?_,h3⟩;unfold A3 at h1;simp at h1;omega
 ·cases h2
theorem Ms:∀ {as bs:List Int},AJ as=AJ bs->as=bs
 | [],[],_=>rfl
 | a::as,b::bs,h=>by
  injection h with h
  injection h with h1 h2
  injection h1 with h1
  rw [h1,Ms (congrArg PyData.tuple h2)]
 | [],_::_,h=>by injection h with h;cases h
 | _::_,[],h=>by injection h with h;cases h
def HP (ds:List Addr):Sp:=λvs H Q E=>match vs with | [v,u,w]=>∃p P S F,Tri p H P S F v u w/\(∀k s,Run P S F k s->s≠none->∀H',Ab H H'->E (.ref (ds.getD 2 0)) none H')/\(∀k,Run P S F k none->∀H',Ab H H'->Q .non H') | _=>False
def FZ (ds:List Addr):Sp:=λvs H Q E=>match vs with | [v,u,w,x]=>∃p P S F d,Tri p H P S F v u w/\Aa p H d x/\(∀k s,Run P S F k s->s≠none->∀H',Ab H H'->E (.ref (ds.getD 2 0)) none H')/\(∀k b,Run P S F k none->(Cy (S.ex.length:Int) d=false->b=false)->(∀ns,d=AJ ns->ns.length=S.ex.length->(∀n∈ns,0<=n)->(b=true↔Ci (terms P S) ns=coal P F))->∀H',Ab H H'->Q (.bl b) H') | _=>False
theorem Tl:Ax ["plant","story","firing"] ["plant","story","firing"] (Ap wav):=AA
theorem Tm:Ax ["plant","story","firing","thing"] ["plant","story","firing","thing"] (Ap waJ):=AA
theorem Tn (F:Df K mg "need_keeping" wav ["plant","story","firing"]) (T:Tx mg) (C:Tc K mg M ds) (yaE:Fn P w K mg base 14 "keeps_up" ["plant","story","firing"] HK):Dh P w K mg base 15 "need_keeping" ["plant","story","firing"] (HP ds):=by
 refine F.fnE Tl (λvs H Q E h=>?_) (λf cdv A outer s H vs Q E hr h=>?_)
 ·unfold HP at h;split at h;rfl;exact h.elim
 unfold HP at h;split at h
 ·rename_i v u w;obtain⟨p,P,S,F,t,q1,q2⟩:=h;refine⟨_,(@An _ _ _ (@A8 _ _ _ _ _ _ _ _ (@B5 _ _ _ _ (@BU _ _ _ (@Am _ _ _ _ _ _ _ _ _ _ yaE (hr.mono (by decide)) rfl (@DI _ _ _ _ _ _ _ (@cx _ 0 _ _ (by rfl)) (@cx _ 1 _ _ (by rfl)) (@cx _ 2 _ _ (by rfl)) (by rfl)) (by decide) (by rfl) (by rfl)) (by intro _;rfl))) (@An _ _ _ (P7 Lk rfl C.n_NoFiring C.x_NoFiring rfl (@Ch _ _ _ (@AT _ _ _ _) (by rfl)))) (@A6 _))),?_⟩;refine⟨p,P,S,F,t,λH1 k s rn s1=>?_⟩;cases s with
  | none=>exact⟨λc=>(by cases c),λ_=>q2 k rn _ s1⟩
  | some s0=>exact⟨λ_=>⟨B7 rfl,q1 k _ rn (by simp) _ s1⟩,λc=>(by cases c)⟩
 ·exact h.elim
theorem To (F:Df K mg "prices_hold" waJ ["plant","story","firing","thing"]) (T:Tx mg) (yaF:Fn P w K mg base 13 "coal_of" ["plant","story","firing"] HN) (yaG:Fn P w K mg base 11 "floor_of" ["plant","story","prices"] Hx) (ya8:Fn P w K mg base 2 "is_counts" ["thing","many"] FR) (yaH:Dh P w K mg base 15 "need_keeping" ["plant","story","firing"] (HP ds)):Dh P w K mg base 16 "prices_hold" ["plant","story","firing","thing"] (FZ ds):=by
 refine F.fnE Tm (λvs H Q E h=>?_) (λf cdv A outer s H vs Q E hr h=>?_)
 ·unfold FZ at h;split at h;rfl;exact h.elim
 unfold FZ at h;split at h
 ·rename_i v u w x;obtain⟨p,P,S,F,d,t,rx,q1,q2⟩:=h;refine⟨_,(@Aj _ _ _ _ _ (@Br _ _ _ _ (Ll Lk yaH (hr.mono (by decide)) rfl (@DI _ _ _ _ _ _ _ (@cx _ 0 _ _ (by rfl)) (@cx _ 1 _ _ (by rfl)) (@cx _ 2 _ _ (by rfl)) (by rfl))) (by rfl)) (@An _ _ _ (@Aw _ _ _ _ (@Bg _ _ _ _ _ _ _ (@Am _ _ _ _ _ _ _ _ _ _ ya8 (hr.mono (by decide)) rfl (@Be _ _ _ _ _ (@cx _ 3 _ _ (by rfl)) (@At _ _ _ _ _ _ _ _ _ (@Bh _ K (by rfl)) rfl T.b_len PySem.boot_len (@Ch _ _ _ (@Au _ _ _ _ _ _ _ (@AF _ K (by rfl)) (@cx _ 1 _ _ (by rfl)) (@Af _ _ _ _) (λ_ _=>rfl)) (by rfl)) (by decide) (by decide) (by rfl) (by rfl)) (by rfl)) (by decide) (by rfl) (by rfl)) (@BJ _ _ _ _ _ (@C3 _ _ _ _ _ _ _ _ (@DB _) (@Am _ _ _ _ _ _ _ _ _ _ yaG (hr.mono (by decide)) rfl (@DI _ _ _ _ _ _ _ (@cx _ 0 _ _ (by rfl)) (@cx _ 1 _ _ (by rfl)) (@cx _ 3 _ _ (by rfl)) (by rfl)) (by decide) (by rfl) (by rfl)) (@Am _ _ _ _ _ _ _ _ _ _ yaF (hr.mono (by decide)) rfl (@DI _ _ _ _ _ _ _ (@cx _ 0 _ _ (by rfl)) (@cx _ 1 _ _ (by rfl)) (@cx _ 2 _ _ (by rfl)) (by rfl)) (by decide) (by rfl) (by rfl)) (AN _))))))),?_⟩;refine⟨p,P,S,F,t,q1,λk rn H1 s1=>?_⟩;have x8:=t.so.x8;obtain⟨A,B,E',xf,rfl,hA,hB,hE,rf⟩:=Aa.story (Aa.ev (Ev.same s1) _ _ t.ru);refine⟨A,_,0,.ref B,rfl,rfl,Ae.of hA,rfl,B,_,rfl,.inr (Ae.of hB),?_⟩;rw [length_map];refine⟨p,d,Aa.ev (Ev.same s1) _ _ rx,by omega,λb H2 hb s2=>?_⟩;have s12:=s1.trans s2;cases b with
  | false=>exact⟨λc=>(by cases c),λ_=>q2 k false rn (λ_=>rfl) (λns e l n0=>(by rw [e,<-l,Mg n0] at hb;cases hb)) _ s12⟩
  | true=>
   obtain⟨ns,rfl,ln,n0⟩:=Mr hb.symm;refine⟨λ_=>?_,λc=>(by cases c)⟩;refine⟨p,P,S,ns,t.ok,t.so,Aa.ev (Ev.same s12) _ _ t.r,Aa.ev (Ev.same s12) _ _ t.ru,Aa.ev (Ev.same s12) _ _ rx,ln,n0,λH3 s3=>?_⟩;have s13:=s12.trans s3;refine⟨p,P,S,F,t.sm s13,λH4 s4=>?_⟩;refine⟨rfl,?_⟩;exact q2 k (decide (V.int (Ci (terms P S) ns)=V.int (coal P F))) rn (λz=>absurd (hb.trans z) (by decide)) (λms e _ _=>by
    have:ms=ns:=Ms e.symm;rw [this];exact decide_eq_true_iff.trans ⟨λz=>(by injection z),λz=>(by rw [z])⟩) _ (s13.trans s4)
 ·exact h.elim
end
theorem HQ {X:Cx}{j:Nat}{p q:Pos}:PE X (.UnaryOp .USub (.Constant (.int 1) j p) q) (tC (.int (-1))):=(Nc Nf Af).weak fun σ H Q z=>⟨1,rfl,z⟩
theorem Ev.own {p W:Addr}{H H1 H2:Hp} (a:Ev p H H1) (n:H W=none) (b:Ev W H1 H2):Ev p H H2:=λc o h=>(a c o h).elim .inl λz=>(b c o z).elim (fun⟨e,_⟩=>by rw [e,n] at h;cases h) .inr
theorem AQ.own {p a:Addr}{H:Hp}{o:HO} (h:AQ p H) (n:a≠p):AQ p (upd H a o):=by
 obtain⟨l,f,e⟩:=h;exact⟨l,f,by rw [Ar (Ne.symm n)];exact e⟩
def GoodPr (ns:List Int):Prop:=∀x∈ns,0<=x/\x<=((10 ^ 26:Nat):Int)
theorem GoodPr.perm {a b:List Int} (h:GoodPr a) (p:b.Perm a):GoodPr b:=λx hx=>h x (p.mem_iff.mp hx)
def sp__law_floor:Sp:=λvs H Q _=>match vs with | [v,c,d,w]=>∃p P S ns,PL.ok P/\SY.ok S P.bs.length/\Aa p H P.d v/\Aa p H (Dd P S) c/\Aa p H (Fy P S) d/\Aa p H (AJ ns) w/\ns.length=S.ex.length/\(∀n∈ns,0<=n)/\∀H',Ab H H'->Q (.int (Ci (terms P S) ns)) H' | _=>False
def HR:Sp:=λvs H Q _=>match vs with | [.ref p,v,.int n]=>AQ p H/\1<=n/\n<=8/\∃P,PL.ok P/\Aa p H P.d v/\∀u H' ns,(ns.length:Int)=n->GoodPr ns->Aa p H' (AJ ns) u->Ev p H H'->AQ p H'->Q u H' | _=>False
section
variable {P : Program} {w : World} {K : Fgx} {mg : Str -> Option Value} {base : Heap}
theorem zal:Ax ["_law_pen_here","_law_plant_here","_law_hours","_law_some","_law_way","_law_got","_law_hour","_law_price"] ["_law_pen_here","_law_plant_here","_law_hours"] (Ap waT):=AA
theorem Tp (F:Df K mg "_law_prices" waT ["_law_pen_here","_law_plant_here","_law_hours"]) (T:Tx mg) (ya0:Fc P w K mg base):Fn P w K mg base 2 "_law_prices" ["_law_pen_here","_law_plant_here","_law_hours"] HR:=by
 refine F.fn zal (λvs H Q E h=>?_) (λf cdv A outer s H vs Q E hr h=>?_)
 ·unfold HR at h;split at h;rfl;exact h.elim
 refine⟨_,(Aj (Dz (i:=3) (j:=4) rfl zal.nd rfl rfl (by decide) rfl rfl (Aq (As FE (Ca (Ak Af)) (A7 ["_law_boiler"] [none] rfl (BA K (Au (AF K) (cy 1) Af (λ_ _=>rfl))) (AE.of rfl) (λ_ _ _ _=>(Ag 0 (AB (by rfl)))) (λ_ _ _ _=>AY) (λ_ _ _ _=>(Au (AF K) (cy 0) Af (λ_ _=>rfl))))) (Am ya0 (hr.mono (by decide)) rfl (Aq (cy 0) Af))) (by rfl)) (Aj (AD (i:=5) zal.nd rfl (Az (by rfl)) (Ca BK)) (Aj (Bs PassesOwn.never rfl (BQ rfl T.b_range (Ak (cy 2))) (Ag 6 zal.nd) (Aj (AD (i:=7) zal.nd rfl (Az (by rfl)) (As A1 (Au (A4 K) (cy 3) (Am ya0 (hr.mono (by decide)) rfl (Aq (cy 0) (At (Bh K) rfl T.b_len PySem.boot_len (Ak (cy 3))))) (λ_ _=>rfl)) (Au (A4 K) (Ca (Bp Af Af Af HQ)) (Am ya0 (hr.mono (by decide)) rfl (Aq (cy 0) Af)) (λ_ _=>rfl)))) (An (Br (BZ PySem.F.plainAttrs_list PySem.F.slot_list_append PySem.F.type_list_append B6 (cy 5) (Ak (Au (A4 K) (Ca (AV (At (ED rfl) rfl T.b_max boot_max (Aq Af (cy 7))) (Bp (At (ED rfl) rfl T.b_max boot_max (Aq Af (cy 7))) (Am ya0 (hr.mono (by decide)) rfl (Aq (cy 0) Af)) (As A1 (As II Af Af) (cy 6)) (At (ED rfl) rfl T.b_max boot_max (Aq Af (cy 7)))))) (cy 4) (λ_ _=>rfl)))))))) (An (Aw (Bo (BI K) rfl T.b_tuple Bz (Ak (Au (A4 K) (Ca (AV (At KH rfl T.b_sorted boot_sorted (Ak (cy 5))) (Bp (QD (cy 5) Af) (cy 5) (cy 5) (Pm (At KH rfl T.b_sorted boot_sorted (Ak (cy 5))) HQ)))) (cy 4) (λ_ _=>rfl))))))))),?_⟩;unfold HR at h;split at h
 ·rename_i p v n;obtain⟨pn,n1,n8,P,ok,r,q⟩:=h;have b1:=ok.b1;have b4:=ok.b4;refine λL0 H1 s1 hL0 kL0=>?_
  have pn1:=pn.same s1;have nL0:L0≠p:=pn.ne hL0;obtain⟨PA,PB,PE,PM,xb,xe,rfl,pA,pB,rb,pE,re,pM⟩:=Aa.plant (Aa.ev (Ev.same s1) _ _ r);have lb:=rb.len;rw [length_map] at lb;refine⟨PA,_,0,.ref PB,rfl,rfl,Ae.of pA,rfl,PB,rfl,⟨xb,Ae.of pB⟩,BF (xs:=xb) (λi ys H'=>Ab H1 H'/\ys=((P.bs.map (·.2)).take i).map V.int) (by omega) ⟨Ab.refl _,rfl⟩ (λi ys H' h=>by rw [h.2,length_map,length_take];omega) (λi ys H' _ h=>Ae.of (h.1 _ _ pB)) (λi x ys H' hx h=>?_) λys H2 h=>?_⟩
  ·obtain⟨f,hf,rd⟩:=Ac.mapGot rb hx;obtain⟨l,zs,rfl,hl',rz⟩:=Aa.shape (Aa.ev (Ev.same h.1) _ _ rd);obtain⟨y1,y2,rfl,r1,r2⟩:=Ac.two rz;unfold Aa at r1 r2;subst r1 r2;refine⟨trivial,λ_=>⟨l,_,1,.int f.2,rfl,rfl,Ae.of hl',rfl,h.1,?_⟩,λc=>by cases c⟩;have hf':(P.bs.map (·.2))[i]? =some f.2:=by rw [getElem?_map,hf];rfl
   rw [A9 hf',map_append,h.2];rfl
  intro L1 hL1;have s2:=h.1.trans (Ab.new (o:= .lst ys) hL1);have ey:ys=(P.bs.map (·.2)).map V.int:=by rw [h.2,take_of_length_le (by rw [length_map];omega)]
  have lco:(P.bs.map (·.2)).length=P.bs.length:=length_map _;have bco:∀x∈P.bs.map (·.2),1<=x/\x<=9:=λx hx=>by obtain⟨q,hq,rfl⟩:=mem_map.mp hx;have:=ok.b q hq;omega
  refine⟨L0,L1,_,_,rfl,rfl,s2 _ _ kL0,Ah,?_,λL2 H3 s3 hL2 kL2=>?_⟩
  ·rw [ey,length_map,lco];exact Nat.le_of_lt (DE (by show 1+_<=1000;omega))
  rw [ey] at kL2;have ek:[V.int 0]++(P.bs.map (·.2)).map V.int=(0::P.bs.map (·.2)).map V.int:=rfl;rw [ek] at kL2;have lso:(0::P.bs.map (·.2)).length=P.bs.length+1:=by rw [length_cons,lco]
  have bso:∀x∈(0:Int)::P.bs.map (·.2),0<=x/\x<=9:=λx hx=>by
   rcases mem_cons.mp hx with rfl | hx
   ·decide
   ·have:=bco x hx;omega
  generalize(0:Int)::P.bs.map (·.2)=so' at kL2 lso bso;have pn3:=pn1.same (s2.trans s3);have e3:Ev p H H3:=Ev.same (s1.trans (s2.trans s3));have nL2:L2≠p:=(pn1.same s2).ne hL2;refine⟨pn3,by decide,by decide,λg4 H4 a4 c4 e4 pn4=>?_⟩;refine⟨_,_,rfl,λR H5 s5 hR kR=>?_⟩;have kL5:=s5 _ _ (e4.lst kL2 nL2);have nR:R≠p:=pn4.ne hR;have nLR:L2≠R:=Bb (e4.lst kL2 nL2) hR;have eH5:Ev p H H5:=(e3.trans e4).trans (Ev.same s5);have hRH:H R=none:=by
   cases z:H R with
   | none=>rfl
   | some o=>
    rcases(e3.trans e4) R o z with⟨z',_⟩ | z'
    ·exact absurd z' nR
    ·rw [hR] at z';cases z'
  refine⟨n,rfl,by omega,by omega,C1 (n:=n.toNat) (λi σ H'=>∃x6 x7 ns,σ=[some (.ref p),some (.ref PA),some (.int n),some (.ref L2),some (.int g4),some (.ref R),x6,x7]/\ns.length=i/\GoodPr ns/\H' R=some (.lst (ns.map V.int))/\H' L2=some (.lst (so'.map V.int))/\Ev p H H'/\AQ p H') ⟨_,_,[],rfl,rfl,λ_ h=>(nomatch h),kR,kL5,eH5,pn4.same s5⟩ (λi σ H' hi h=>?_) fun σ H' h=>?_⟩
  ·obtain⟨x6,x7,ns,rfl,hns,gp,kR',kL',e',pn'⟩:=h;have f:=λ{H H':Hp} (s:Ab H H')=>Ev.same (p:=p) s
   refine⟨L2,_,rfl,.inl (Al.of kL'),pn',by rw [length_map];omega,by rw [length_map];omega,λg6 H6 a6 c6 e6 pn6=>?_⟩;rw [length_map] at c6;obtain⟨pv,mpv,hat1⟩:=CZ (ns:=so') a6 c6;have bpv:=bso pv mpv;refine⟨L2,_,g6,.int pv,rfl,rfl,Al.of (e6.lst kL' nL2),hat1,λL3 H7 s7 hL3 kL3=>⟨pn6.same s7,by decide,by decide,λg8 H8 a8 c8 e8 pn8=>?_⟩⟩;have nL3:L3≠p:=pn6.ne hL3;obtain⟨dv,mdv,hat2⟩:=CZ (ns:=[0,0,1,-1]) a8 (by simpa using c8);have bdv:dv=0\/dv=0\/dv=1\/dv= -1:=by simpa using mdv
   refine⟨L3,_,g8,.int dv,rfl,rfl,Al.of (e8.lst kL3 nL3),hat2,?_⟩;have e68:=e6.trans ((f s7).trans e8);have kR8:=e68.lst kR' nR;have kL8:=e68.lst kL' nL2;refine⟨.inl ⟨rfl,_,Al.of kR8⟩,0,pv+dv,rfl,0,pv+dv,rfl,pn8,by decide,by decide,λg9 H9 a9 c9 e9 pn9=>⟨⟨by decide,by decide,by decide⟩,0,pv+dv,rfl,λL4 H10 s10 hL4 kL4=>?_⟩⟩;have bmx:0<=(if pv+dv>0 then pv+dv else 0)/\(if pv+dv>0 then pv+dv else 0)<=10:=by split<;>omega
   generalize(if pv+dv>0 then pv+dv else 0)=mx at kL4 bmx;obtain⟨z,mz,hat3⟩:=CZ (ns:=[mx,mx,g9,10 ^(25:Int).toNat+(0+(i:Int)),mx]) a4 (by simpa using c4);have bz:0<=z/\z<=((10 ^ 26:Nat):Int):=by
    have e26:((10 ^ 26:Nat):Int)=100000000000000000000000000:=by decide
    have e25:(10:Int) ^(25:Int).toNat=10000000000000000000000000:=by decide
    rw [e25] at mz;rw [e26];have:z=mx\/z=mx\/z=g9\/z=10000000000000000000000000+(0+(i:Int))\/z=mx:=by simpa using mz
    omega
   have e10:=e68.trans (e9.trans (f s10));have kR10:=e10.lst kR' nR;have kL10:=e10.lst kL' nL2;have pn10:=pn9.same s10;refine⟨L4,_,g4,.int z,rfl,rfl,Al.of kL4,hat3,R,_,_,rfl,rfl,kR10,DE (by rw [length_map];omega),?_⟩;refine⟨_,_,ns++[z],rfl,by rw [length_append,hns];rfl,λx hx=>?_,by rw [Ah,map_append];rfl,by rw [Ar nLR];exact kL10,Ev.own (e'.trans e10) hRH (Ev.pen kR10),pn10.own nR⟩;rcases mem_append.mp hx with hx | hx
   ·exact gp x hx
   ·rw [mem_singleton.mp hx];exact bz
  ·obtain⟨x6,x7,ns,rfl,hns,gp,kR',kL',e',pn'⟩:=h;refine⟨R,ns,rfl,kR',by omega,λS1 n1' hS1 pm1 _=>?_⟩;have j1:=Ab.new (o:= .lst (n1'.map V.int)) hS1;have k1:upd H' S1 (.lst (n1'.map V.int)) S1=some (.lst (n1'.map V.int)):=Ah;generalize upd H' S1 (.lst (n1'.map V.int))=J1 at j1 k1 ⊢;refine⟨R,_,rfl,j1 _ _ kR',λS2 hS2=>?_⟩;have j2:=Ab.new (o:= .lst (ns.map V.int)) hS2;have k2:upd J1 S2 (.lst (ns.map V.int)) S2=some (.lst (ns.map V.int)):=Ah;generalize upd J1 S2 (.lst (ns.map V.int))=J2 at j2 k2 ⊢;refine⟨R,ns,rfl,(j1.trans j2) _ _ kR',by omega,λS3 n3' hS3 pm3 _=>?_⟩;have j3:=Ab.new (o:= .lst (n3'.map V.int)) hS3;have k3:upd J2 S3 (.lst (n3'.map V.int)) S3=some (.lst (n3'.map V.int)):=Ah;generalize upd J2 S3 (.lst (n3'.map V.int))=J3 at j3 k3 ⊢;refine⟨S3,_,rfl,k3,λS4 hS4=>?_⟩;have j4:=Ab.new (o:= .lst (n3'.map V.int).reverse) hS4;have k4:upd J3 S4 (.lst (n3'.map V.int).reverse) S4=some (.lst (n3'.reverse.map V.int)):=by rw [Ah,List.map_reverse]
   generalize upd J3 S4 (.lst (n3'.map V.int).reverse)=J4 at j4 k4 ⊢;refine λL J5 j5 hL kL=>?_
   have j15:=j2.trans (j3.trans (j4.trans j5));have fin:∀(X:Addr) (xs:List Int),J5 X=some (.lst (xs.map V.int))->xs.Perm ns->Bu [V.ref S1,.ref S2,.ref R,.ref R,.ref S4] g4=some (.ref X)->Fk (Io K) (λ_ H Q=>Q (.ref L) H) (λ_ H Q=>Q (.int g4) H) [] J5 (λx H=>KP K [x] H Q):=λX xs kX pm hat=>by
    refine⟨L,_,g4,.ref X,rfl,rfl,Al.of kL,hat,X,_,rfl,.inl ⟨Al.of kX,λt ht=>?_⟩⟩;refine q _ _ xs (by rw [pm.length_eq];omega) (gp.perm pm) (Aa.row Ah) (e'.trans (Ev.same (j1.trans (j15.trans (Ab.new ht))))) (pn'.same (j1.trans (j15.trans (Ab.new ht))))
   have cs:g4=0\/g4=1\/g4=2\/g4=3\/g4=4:=by omega
   rcases cs with rfl | rfl | rfl | rfl | rfl
   ·exact fin S1 n1' (j15 _ _ k1) pm1 rfl
   ·exact fin S2 ns ((j3.trans (j4.trans j5)) _ _ k2) (List.Perm.refl _) rfl
   ·exact fin R ns ((j1.trans j15) _ _ kR') (List.Perm.refl _) rfl
   ·exact fin R ns ((j1.trans j15) _ _ kR') (List.Perm.refl _) rfl
   ·exact fin S4 n3'.reverse (j5 _ _ k4) ((List.reverse_perm _).trans pm3) rfl
 ·exact h.elim
end
end MF
end
section
namespace MF
open L2
variable {xs : List V} {g : Int} {p L : Addr} {H H0 : Hp} {S : SY} {k i : Nat} {ps : List Int}
theorem _root_.L2.for_zip3 {P:Program}{w:World}{K:Fgx}{S1 S2 S3:AW P w K}{a b c:Addr}{xs ys zs:List V}{g:TG}{tb:TS}{D:CB}{σ:L2.St}{H:Hp} (Pv:Nat->L2.St->Hp->Prop) (he:xs.length=ys.length) (he2:xs.length=zs.length) (h0:Pv 0 σ H) (hl:∀i σ H,Pv i σ H->S1.Sq H a xs/\S2.Sq H b ys/\S3.Sq H c zs)
  (hs:∀i x y z σ H T,xs[i]? =some x->ys[i]? =some y->zs[i]? =some z->Pv i σ H->H T=none->g (.ref T) σ (upd H T (.tup [x,y,z])) fun σ2 H2=>tb { D with nx:=Pv (i+1),ct:=Pv (i+1),bk:=D.nx} σ2 H2) (hd:∀σ H,Pv xs.length σ H->D.nx σ H):
  ∃W:Nat->Nat->L2.St->Hp->Prop,(∃m,W 0 m σ H)/\∀i m σ H,W i m σ H->
   ((ER S1 S2 S3 a b c).stop i H/\D.nx σ H)\/((ER S1 S2 S3 a b c).go i H/\∃N:L2.St->Hp->Prop,(∀σ' H',N σ' H'->∃m',m'<m/\W (i+1) m' σ' H')/\∀x H',(ER S1 S2 S3 a b c).yld i H x H'->g x σ H' fun σ2 H2=>tb { D with nx:=N,ct:=N,bk:=D.nx} σ2 H2):=by
 refine⟨λi m σ H=>m=xs.length-i/\i<=xs.length/\Pv i σ H,⟨xs.length,by simp,Nat.zero_le _,h0⟩,?_⟩;rintro i m σ H ⟨rfl,hi,p⟩;obtain⟨q1,q2,q3⟩:=hl i σ H p
 by_cases hlt:i<xs.length
 ·have hy:i<ys.length:=by omega
  have hz:i<zs.length:=by omega
  refine .inr ⟨⟨xs,ys,zs,xs[i],ys[i],zs[i],q1,q2,q3,by simp [hlt],by simp [hy],by simp [hz]⟩,Pv (i+1),fun σ' H' p'=>⟨xs.length-(i+1),by omega,rfl,hlt,p'⟩,λv H' ⟨T,e,n,y⟩=>?_⟩;subst e;rw [y xs ys zs xs[i] ys[i] zs[i] q1 q2 q3 (by simp [hlt]) (by simp [hy]) (by simp [hz])];exact hs i xs[i] ys[i] zs[i] σ H T (by simp [hlt]) (by simp [hy]) (by simp [hz]) p n
 ·obtain rfl:i=xs.length:=by omega
  exact .inl ⟨⟨xs,ys,zs,q1,q2,q3,rfl⟩,hd σ H p⟩
theorem Tq (h0:0<=g) (h1:g<xs.length):∃(j:Nat) (v:V),xs[j]? =some v/\Bu xs g=some v:=by
 have hk:g.toNat<xs.length:=by omega
 have e:g=((g.toNat:Nat):Int):=by omega
 refine⟨g.toNat,xs[g.toNat],by simp [hk],?_⟩;have q:Bu xs ((g.toNat:Nat):Int)=some xs[g.toNat]:=BT (by simp [hk]);rw [<-e] at q;exact q
theorem Tr {ds:List PyData} (r:Ac p H ds xs) (h0:0<=g) (h1:g<xs.length):∃v d,Bu xs g=some v/\d∈ds/\Aa p H d v:=by
 obtain⟨j,v,hj,hv⟩:=Tq h0 h1;obtain⟨d,hd,rd⟩:=r.got hj;exact⟨v,d,hv,mem_of_getElem? hd,rd⟩
def HS:List PyData:=[.none,.bool true,.int 7,.str "0",.str "",.list [],.dict [],.tuple [],.tuple [.int 0],.int (-1),.tuple [.int 0,.int 0],.list [.int 0],.bool false,.tuple [.tuple []],.tuple [.tuple [.int 0],.tuple []],.int 41,.int (10 ^ 30)]
def HU:Sp:=λvs H Q _=>match vs with | [.ref p]=>AQ p H/\∀v H' d,Aa p H' d v->d∈HS->Ev p H H'->AQ p H'->Q v H' | _=>False
def HV:Sp:=λvs H Q _=>match vs with | [v,c,d,f,w]=>∃p P S F ns k,PL.ok P/\SY.ok S P.bs.length/\FOk P S F/\Aa p H P.d v/\Aa p H (Dd P S) c/\Aa p H (Fy P S) d/\Aa p H (FD F) f/\Aa p H (AJ ns) w/\ns.length=S.ex.length/\Run P S F k none/\∀b H',(b=true↔ ∀h,h<S.ex.length->FI P S F ns h)->Ab H H'->Q (.bl b) H' | _=>False
def HW:Sp:=λvs H Q _=>match vs with | [.int n,x]=>∃p d,Aa p H d x/\n<=1000/\∀b H',b=Cy n d->Ab H H'->Q (.bl b) H' | _=>False
theorem Cp {a b:Int} (h:(!decide (V.int a=V.int b))=false):a=b:=by
 have:=of_decide_eq_true (p:=V.int a=V.int b) (by simpa using h);injection this
theorem Eu {a b:Int} (h:(!decide (V.int a=V.int b))=true):a≠b:=λe=>by subst e;simp at h
def Dq (P:PL) (S:SY) (F:List (List Int)) (h:Nat) (pr:Int) (b:Nat):Prop:=((P.bs.getD b (0,0)).2<pr->(F.getD h []).getD b 0=((caps P S).getD h []).getD b 0)/\(pr<(P.bs.getD b (0,0)).2->(F.getD h []).getD b 0=0)
theorem Ts {P:PL}{F:List (List Int)}{ns:List Int}{h:Nat}{pr:Int}{b:Nat} (g:FI P S F ns h) (e:ns.getD h 0=pr) (hb:b<P.bs.length):Dq P S F h pr b:=by have:=g.b b hb;rw [e] at this;exact this
def DV (S:SY) (ns:List Int):Prop:=ns.length=S.ex.length/\GoodPr ns
structure Prs (p L:Addr) (S:SY) (H0 H:Hp) (k:Nat):Prop where
 ex:∃(xs:List V) (nss:List (List Int)),H L=some (.lst xs)/\Ac p H (nss.map AJ) xs/\(∀ns∈nss,DV S ns)/\1<=nss.length/\nss.length<=k
 ev:Ev p H0 H
 pen:AQ p H
 n0:H0 L=none
 nL:L≠p
theorem Prs.same {H':Hp} (g:Prs p L S H0 H k) (s:Ab H H'):Prs p L S H0 H' k:=by
 obtain⟨xs,nss,h1,h2,h3⟩:=g.ex;exact⟨⟨xs,nss,s _ _ h1,Ac.ev (Ev.same s) _ _ h2,h3⟩,g.ev.trans (Ev.same s),g.pen.same s,g.n0,g.nL⟩
theorem Prs.len (g:Prs p L S H0 H k) (hx:H L=some (.lst xs)) (hk:k<=900):xs.length<=1000:=by
 obtain⟨ys,nss,h1,h2,h3,h4,h5⟩:=g.ex;rw [hx] at h1;cases h1;have:=h2.len;rw [length_map] at this;omega
theorem Prs.add {v:V}{ns:List Int} (g:Prs p L S H0 H k) (hx:H L=some (.lst xs)) (r:Aa p H (AJ ns) v) (o:DV S ns):Prs p L S H0 (upd H L (.lst (xs++[v]))) (k+1):=by
 obtain⟨ys,nss,h1,h2,h3,h4,h5⟩:=g.ex;rw [hx] at h1;cases h1;have tv:=TEv.upd (zs:=xs++[v]) hx;refine⟨⟨xs++[v],nss++[ns],Ah,?_,λms hm=>?_,by rw [length_append];omega,by rw [length_append];show _+1<=_;omega⟩,Ev.own g.ev g.n0 (Ev.pen hx),g.pen.own g.nL,g.n0,g.nL⟩
 ·rw [map_append];refine Ac.snoc (Ac.tev tv _ _ (Cf λd hd=>?_) h2) (Aa.tev tv _ _ (DS ns) r);obtain⟨ms,_,rfl⟩:=mem_map.mp hd;exact DS ms
 ·rcases mem_append.mp hm with hm | hm
  ·exact h3 ms hm
  ·rw [mem_singleton.mp hm];exact o
theorem Tt:Bf (ps.map V.int) (some ((i:Int)+1)) none=(ps.drop (i+1)).map V.int:=by
 have e2:HT.sIx (ps.map V.int).length 0 (some ((i:Int)+1))=min (i+1) (ps.map V.int).length:=HT.sIx_nat _ _ (i+1);have e1:HT.sIx (ps.map V.int).length (ps.map V.int).length none=(ps.map V.int).length:=rfl;unfold Bf;rw [e1,e2,map_drop];rcases Nat.le_total (i+1) (ps.map V.int).length with c | c
 ·rw [Nat.min_eq_left c,take_of_length_le (by rw [length_drop];omega)]
 ·rw [Nat.min_eq_right c,List.drop_of_length_le (Nat.le_refl _),List.drop_of_length_le c,take_nil]
theorem Tu {x:Int} (o:DV S ps) (hi:i<S.ex.length) (h0:0<=x) (h1:x<=((10 ^ 26:Nat):Int)):DV S (ps.take i++[x]++ps.drop (i+1)):=by
 have l:=o.1;refine⟨by rw [length_append,length_append,length_take,length_drop];show _+1+_=_;omega,λy hy=>?_⟩;rcases mem_append.mp hy with hy | hy
 ·rcases mem_append.mp hy with hy | hy
  ·exact o.2 y (List.mem_of_mem_take hy)
  ·rw [mem_singleton.mp hy];exact⟨h0,h1⟩
 ·exact o.2 y (List.mem_of_mem_drop hy)
def HX:Sp:=λvs H Q _=>match vs with | [.ref p,v,u,.int n]=>AQ p H/\∃P S,PL.ok P/\SY.ok S P.bs.length/\Aa p H P.d v/\Aa p H S.d u/\n=(S.ex.length:Int)/\∀L H' xs (nss:List (List Int)),H L=none->L≠p->H' L=some (.lst xs)->Ac p H' (nss.map AJ) xs->(∀ns∈nss,DV S ns)->1<=nss.length->nss.length<=50->Ev p H H'->AQ p H'->Q (.ref L) H' | _=>False
section
variable {P : Program} {w : World} {K : Fgx} {mg : Str -> Option Value} {base : Heap}
theorem zaA:Ax ["_law_pen_here","_law_some"] ["_law_pen_here"] (Ap waU):=AA
theorem Tv (F:Df K mg "_law_odd" waU ["_law_pen_here"]) (T:Tx mg) (ya0:Fc P w K mg base):Fn P w K mg base 2 "_law_odd" ["_law_pen_here"] HU:=by
 refine F.fn zaA (λvs H Q E h=>?_) (λf cdv A outer s H vs Q E hr h=>?_)
 ·unfold HU at h;split at h;rfl;exact h.elim
 refine⟨_,(@Aj _ _ _ _ _ (@AD _ _ (1) _ _ _ _ zaA.nd rfl (Az (by rfl)) (@Ca _ _ _ _ (@AV _ _ _ _ _ (@Du _ _ _) (@AV _ _ _ _ _ (@Bw _ _ _ _) (@AV _ _ _ _ _ (@Af _ _ _ _) (@AV _ _ _ _ _ (@AT _ _ _ _) (@AV _ _ _ _ _ (@AT _ _ _ _) (@AV _ _ _ _ _ (@Ca _ _ _ _ (@BK _)) (@AV _ _ _ _ _ (@OJ _ _) (@AV _ _ _ _ _ (@Bj _ _ _ _ _ (@BK _)) (@AV _ _ _ _ _ (@Bj _ _ _ _ _ (@Ch _ _ _ (@Af _ _ _ _) (by rfl))) (@AV _ _ _ _ _ HQ (@AV _ _ _ _ _ (@Bj _ _ _ _ _ (@Be _ _ _ _ _ (@Af _ _ _ _) (@Af _ _ _ _) (by rfl))) (@AV _ _ _ _ _ (@Ca _ _ _ _ (@Ch _ _ _ (@Af _ _ _ _) (by rfl))) (@AV _ _ _ _ _ (@Bw _ _ _ _) (@Ei _ _ _ _ _ _ _ _ _ (@Bj _ _ _ _ _ (@Ch _ _ _ (@Bj _ _ _ _ _ (@BK _)) (by rfl))) (@Bj _ _ _ _ _ (@Be _ _ _ _ _ (@Bj _ _ _ _ _ (@Ch _ _ _ (@Af _ _ _ _) (by rfl))) (@Bj _ _ _ _ _ (@BK _)) (by rfl))) (@Af _ _ _ _) (@As _ _ _ _ _ _ _ _ (@II _) (@Af _ _ _ _) (@Af _ _ _ _)) (by rfl)) (by rfl)) (by rfl)) (by rfl)) (by rfl)) (by rfl)) (by rfl)) (by rfl)) (by rfl)) (by rfl)) (by rfl)) (by rfl)) (by rfl)) (by rfl))) (by rfl) (CU (by rfl))) (@An _ _ _ (@Aw _ _ _ _ (@Au _ _ _ _ _ _ _ (@A4 _ K (by rfl)) (@cx _ 1 _ _ (by rfl)) (@Am _ _ _ _ _ _ _ _ _ _ ya0 (hr.mono (by decide)) rfl (@Be _ _ _ _ _ (@cx _ 0 _ _ (by rfl)) (@Af _ _ _ _) (by rfl)) (by decide) (by rfl) (by rfl)) (λ_ _=>rfl))))),?_⟩;unfold HU at h;split at h
 ·rename_i p;obtain⟨pn,q⟩:=h;intro l1 G1 g1 hl1 k1 d1 hd1;have n1:=Ab.new (o:= .dK []) hd1;have kd:upd G1 d1 (.dK []) d1=some (.dK []):=Ah;have nd:d1≠p:=(pn.same g1).ne hd1;generalize upd G1 d1 (.dK [])=Gd at n1 kd ⊢;intro t1 G2 g2 k2 t2 G3 g3 k3 t3 G4 g4 k4 l2 G5 g5 hl2 k5 t4 G6 g6 k6 t5 G7 g7 k7 t6 G8 g8 k8 t7 G9 g9 k9 t8 G10 g10 k10;refine⟨⟨by decide,by decide,by decide⟩,λL H1 g11 hL kL=>?_⟩;have b9:=g10.trans g11;have b8:=g9.trans b9;have b7:=g8.trans b8;have b6:=g7.trans b7;have b5:=g6.trans b6;have b4:=g5.trans b5;have b3:=g4.trans b4;have b2:=g3.trans b3;have b1:=g2.trans b2;have bd:=n1.trans b1;have s10:=g1.trans (n1.trans (g2.trans (g3.trans (g4.trans (g5.trans (g6.trans (g7.trans (g8.trans (g9.trans g10)))))))));have s1:=s10.trans g11;have nL:L≠p:=(pn.same s10).ne hL;have e30:(10:Int) ^ Int.toNat 30=10 ^ 30:=by decide
  have i0:∀ {H:Hp},Aa p H (.int 0) (.int 0):=Aa.int;have rL:Ac p H1 HS _:= .cons Aa.non (.cons Aa.bl (.cons Aa.int (.cons Aa.str (.cons Aa.str (.cons (Aa.lst (pn.ne hl1) (bd _ _ k1) .nil) (.cons (by unfold Aa;exact⟨d1,_,rfl,nd,.inl ⟨rfl,rfl⟩,b1 _ _ kd⟩) (.cons (Aa.tup (b2 _ _ k2) .nil) (.cons (Aa.tup (b3 _ _ k3) (.cons i0 .nil)) (.cons Aa.int (.cons (Aa.tup (b4 _ _ k4) (.cons i0 (.cons i0 .nil))) (.cons (Aa.lst ((pn.same (g1.trans (n1.trans (g2.trans (g3.trans g4))))).ne hl2) (b5 _ _ k5) (.cons i0 .nil)) (.cons Aa.bl (.cons (Aa.tup (b7 _ _ k7) (.cons (Aa.tup (b6 _ _ k6) .nil) .nil)) (.cons (Aa.tup (g11 _ _ k10) (.cons (Aa.tup (b8 _ _ k8) (.cons i0 .nil)) (.cons (Aa.tup (b9 _ _ k9) .nil) .nil))) (.cons Aa.int (.cons (by show Aa p H1 (.int (10 ^ 30)) (.int (10 ^ Int.toNat 30));rw [e30];exact Aa.int) .nil))))))))))))))));have hlen:=rL.len;refine⟨pn.same s1,by decide,by decide,λg H2 h0 h1 e1 pn2=>?_⟩;obtain⟨v,d,hat,hd,rd⟩:=Tr (Ac.ev e1 _ _ rL) h0 (by show g<17;omega);exact⟨L,_,g,v,rfl,rfl,Al.of (e1.lst kL nL),hat,q v H2 d rd hd ((Ev.same s1).trans e1) pn2⟩
 ·exact h.elim
theorem za0:Ax ["_law_plant_here","_law_caps_here","_law_draws_here","_law_firing_here","_law_prices_here","_law_rows","_law_low","_law_high","_law_start","_law_hour","_law_price","_law_after","_law_made","_law_drawn","_law_blown","_law_main","_law_steam","_law_cap","_law_boiler"] ["_law_plant_here","_law_caps_here","_law_draws_here","_law_firing_here","_law_prices_here"] (Ap waX):=AA
theorem Tw (F:Df K mg "_law_good" waX ["_law_plant_here","_law_caps_here","_law_draws_here","_law_firing_here","_law_prices_here"]) (T:Tx mg) (yab:Fn P w K mg base 1 "_law_run" ["_law_main","_law_draws_here","_law_firing_here"] FY):Fn P w K mg base 2 "_law_good" ["_law_plant_here","_law_caps_here","_law_draws_here","_law_firing_here","_law_prices_here"] HV:=by
 refine F.fn za0 (λvs H Q E h=>?_) (λf cdv A outer s H vs Q E hr h=>?_)
 ·unfold HV at h;split at h;rfl;exact h.elim
 refine⟨_,(Aj (Ba (Bd (Aq (Au (AF K) (Am yab (hr.mono (by decide)) rfl (AM (Au (AF K) (cy 0) Af (λ_ _=>rfl)) (cy 2) (cy 3))) Af (λ_ _=>rfl)) (Au (AF K) (cy 0) Af (λ_ _=>rfl)))) (AG K (n:=2) (Ai (Ag 5 za0.nd) (Ai (AG K (n:=3) (Ai (Ag 6 za0.nd) (Ai (Ag 7 za0.nd) (Ai (Ag 8 za0.nd) AC)))) AC)))) (Aj (Bs PassesOwn.never rfl (Ef P w K rfl T.b_enumerate (Ak (cy 4))) (AG K (n:=2) (Ai (Ag 9 za0.nd) (Ai (Ag 10 za0.nd) AC))) (Aj (Ba (Bd (Aq (Au (AF K) (As CI (cy 4) (Bd (Ak Af))) (As A1 (cy 9) Af) (λ_ _=>rfl)) (Au (A4 K) (cy 5) (cy 9) (λ_ _=>rfl)))) (AG K (n:=2) (Ai (Ag 11 za0.nd) (Ai (AG K (n:=4) (Ai (Ag 12 za0.nd) (Ai (Ag 13 za0.nd) (Ai (Ag 14 za0.nd) (Ai (Ag 15 za0.nd) AC))))) AC)))) (Aj (Bs PassesOwn.never rfl (PV P w K rfl T.b_zip (AM (Au (AF K) (cy 3) (cy 9) (λ_ _=>rfl)) (Au (AF K) (cy 1) (cy 9) (λ_ _=>rfl)) (Au (AF K) (cy 0) Af (λ_ _=>rfl)))) (AG K (n:=3) (Ai (Ag 16 za0.nd) (Ai (Ag 17 za0.nd) (Ai (Ag 18 za0.nd) AC)))) (An (A8 (PW.pt (Ec (PW.pt (Da (AS CQ (Au (AF K) (cy 18) Af (λ_ _=>rfl)) (cy 10) (AN _)) (Dv (AS C2 (cy 16) (cy 17) (AN _))))) (Ey (PW.pt (Da (AS Eb (Au (AF K) (cy 18) Af (λ_ _=>rfl)) (cy 10) (AN _)) (Dv (AS C2 (cy 16) Af (AN _)))))))) (An (Aw Bw)) A6))) (An (A8 (PW.pt (Ec (PW.pt (Da (AS CQ (cy 10) (cy 11) (AN _)) (Dv (AS C2 (cy 15) (cy 7) (AN _))))) (Ec (PW.pt (Da (AS Eb (cy 10) (cy 11) (AN _)) (Dv (AS C2 (cy 15) (cy 6) (AN _))))) (Ey (PW.pt (Da (AS Eb (cy 10) Af (AN _)) (Dv (AS Eb (cy 14) Af (AN _))))))))) (An (Aw Bw)) A6))))) (An (Aw Bw)))),?_⟩;unfold HV at h;split at h
 ·rename_i v c d f w;obtain⟨p,P,S,F,ns,k,ok,so,fo,r,rc,rd,rf,rw',ln,run,q⟩:=h;have x8:=so.x8;have b4:=ok.b4;have lF:=fo.len;obtain⟨PA,PB,PE,PM,xb,xe,rfl,pA,pB,rb,pE,re,pM⟩:=Aa.plant r;have lb:=rb.len;rw [length_map] at lb;unfold Dd at rc;obtain⟨C,xc,rfl,hC,rcs⟩:=Aa.shape rc;obtain⟨W,rfl,hW⟩:=Aa.ofRow' rw';obtain⟨D,rfl,hD⟩:=Aa.ofRow (r:=draws P S) rd;obtain⟨FA,fx,rfl,hF,rF⟩:=Aa.firing rf;refine⟨PA,_,2,.ref PM,rfl,rfl,Ae.of pA,rfl,p,P,S,F,ok,so,fo,Aa.tup pM (.cons Aa.int (.cons Aa.int (.cons Aa.int .nil))),rd,rf,λt R sv H1 k1 s1 xs run1 sm1 hR kt kR rxs rsv=>?_⟩;obtain⟨rfl,rfl⟩:=run.uniq run1;have kn:k=S.ex.length:=by rcases run.fin with⟨_,z⟩ | ⟨_,_,z⟩;exact z;cases z
  refine⟨t,_,0,.ref R,rfl,rfl,Ae.of kt,rfl,PA,_,2,.ref PM,rfl,rfl,Ae.of (sm1 _ _ pA),rfl,λT2 hT2=>?_⟩;have s2:=sm1.trans (Ab.new (o:= .tup [.ref R,.ref PM]) hT2);have kR2:=(Ab.new (o:= .tup [.ref R,.ref PM]) hT2) _ _ kR;have rxs2:=Ac.ev (Ev.same (p:=p) (Ab.new (o:= .tup [.ref R,.ref PM]) hT2)) _ _ rxs;refine⟨T2,_,rfl,Ae.of Ah,rfl,_,_,rfl,_,_,rfl,PM,_,rfl,Ae.of (s2 _ _ pM),rfl,_,_,rfl,_,_,rfl,_,_,rfl,rfl,rfl,?_⟩;generalize upd H1 T2 (.tup [.ref R,.ref PM])=H2 at s2 kR2 rxs2 ⊢;refine⟨W,rfl,⟨_,Ae.of (s2 _ _ hW)⟩,for_enum (xs:=ns.map V.int) (λi σ H'=>(∃x9 x10 x11 x12 x13 x14 x15 x16 x17 x18,σ=[some (.ref PA),some (.ref C),some (.ref D),some (.ref FA),some (.ref W),some (.ref R),some (.int P.lo),some (.int P.hi),some (.int P.st),x9,x10,x11,x12,x13,x14,x15,x16,x17,x18])/\Ab H2 H'/\∀h,h<i->FI P S F ns h) ⟨⟨_,_,_,_,_,_,_,_,_,_,rfl⟩,Ab.refl _,λh hh=>absurd hh (Nat.not_lt_zero _)⟩ (λi σ H' h=>Ae.of (h.2.1 _ _ (s2 _ _ hW))) (λi x σ H' T' hx h hT=>?_) fun σ H' h=>?_⟩
  ·obtain⟨⟨x9,x10,x11,x12,x13,x14,x15,x16,x17,x18,rfl⟩,s3,gd⟩:=h;rw [getElem?_map] at hx;obtain⟨pr,hpr,rfl⟩:=Option.map_eq_some_iff.mp hx;have hi:i<ns.length:=(List.getElem?_eq_some_iff.mp hpr).1;have epr:ns.getD i 0=pr:=by rw [getD_eq_getElem?_getD,hpr];rfl
   have s4:=s2.trans (s3.trans (Ab.new (o:= .tup [.int i,.int pr]) hT));have s24:=s3.trans (Ab.new (o:= .tup [.int i,.int pr]) hT);refine⟨T',_,rfl,Ae.of Ah,rfl,_,_,rfl,_,_,rfl,rfl,?_⟩;generalize upd H' T' (.tup [.int i,.int pr])=H4 at s4 s24 ⊢;refine λu hu=>⟨W,u,_,_,rfl,rfl,(Ab.new hu) _ _ (s4 _ _ hW),Ah,by rw [length_map];show _+1<=1000;omega,λR5 H5 s5 k5=>?_⟩
   have s45:=(Ab.new (o:= .tup [.int 0]) hu).trans s5;have ek:(ns.map V.int++[V.int 0])=(ns++[0]).map V.int:=by rw [map_append];rfl
   rw [ek] at k5;have g2:=B4 (ns:=ns++[0]) (i:=i+1) (by rw [length_append];simp;omega);have eg:(ns++[0]).getD (i+1) 0=ns.getD (i+1) 0:=by
    rw [getD_eq_getElem?_getD,getD_eq_getElem?_getD]
    by_cases z:i+1<ns.length
    ·rw [getElem?_append_left z]
    ·rw [getElem?_append_right (by omega),show i+1-ns.length=0 by omega,getElem?_eq_none (l:=ns) (by omega)];rfl
   rw [eg] at g2;obtain⟨bh,hbh⟩:∃bh,ns.getD (i+1) 0=bh:=⟨_,rfl⟩;rw [hbh] at g2;obtain⟨y,hy,ry⟩:=rxs2.get (i:=i) (d:=IS P S F i) (by unfold Cg;rw [getElem?_map,getElem?_range (by omega)];rfl);have s25:=s24.trans s45;obtain⟨Y,ys,rfl,hY,rY⟩:=Aa.shape (Aa.ev (Ev.same (p:=p) s25) _ _ ry);rw [Ac.ints (ns:=[made F i,Cu P S i,Bc P.hi (AO P S F i),AH P S F (i+1)]) rY] at hY;refine⟨R5,_,_,.int bh,rfl,rfl,Ae.of k5,g2,R,_,(i:Int),.ref Y,rfl,rfl,Al.of (s25 _ _ kR2),BT hy,λT6 hT6=>?_⟩;have n6:=Ab.new (o:= .tup [.int bh,.ref Y]) hT6;have s26:=s25.trans n6;have sH6:=s4.trans (s45.trans n6);refine⟨T6,_,rfl,Ae.of Ah,rfl,_,_,rfl,_,_,rfl,Y,_,rfl,Ae.of (n6 _ _ hY),rfl,_,_,rfl,_,_,rfl,_,_,rfl,_,_,rfl,rfl,rfl,?_⟩;generalize upd H5 T6 (.tup [.int bh,.ref Y])=H6 at n6 s26 sH6 ⊢;have hrow:(caps P S)[i]? =some ((caps P S).getD i []):=by rw [getD_eq_getElem?_getD,getElem?_eq_getElem (by rw [Dg];omega)];rfl
   have lr:=(Eg (S:=S) ok _ (mem_of_getElem? hrow)).2;obtain⟨yc,hyc,ryc⟩:=rcs.get (i:=i) (d:=AJ ((caps P S).getD i [])) (by rw [getElem?_map,hrow];rfl);obtain⟨Cn,rfl,hCn⟩:=Aa.ofRow' ryc;have hfr:F[i]? =some (F.getD i []):=by rw [getD_eq_getElem?_getD,getElem?_eq_getElem (by omega)];rfl
   have lfr:=fo.row i _ hfr;obtain⟨yf,hyf,ryf⟩:=rF.get (i:=i) (d:=AJ (F.getD i [])) (by rw [getElem?_map,hfr];rfl);obtain⟨Fn',rfl,hFn⟩:=Aa.ofRow' ryf;refine⟨FA,_,(i:Int),.ref Fn',rfl,rfl,Ae.of (sH6 _ _ hF),BT hyf,C,xc,(i:Int),.ref Cn,rfl,rfl,Ae.of (sH6 _ _ hC),BT hyc,PA,_,0,.ref PB,rfl,rfl,Ae.of (sH6 _ _ pA),rfl,?_⟩;refine⟨Fn',Cn,PB,rfl,⟨_,Ae.of (sH6 _ _ hFn)⟩,⟨_,Ae.of (sH6 _ _ hCn)⟩,⟨_,Ae.of (sH6 _ _ pB)⟩,for_zip3 (xs:=(F.getD i []).map V.int) (ys:=((caps P S).getD i []).map V.int) (zs:=xb) (λj σ H'=>(∃x16 x17 x18,σ=[some (.ref PA),some (.ref C),some (.ref D),some (.ref FA),some (.ref W),some (.ref R),some (.int P.lo),some (.int P.hi),some (.int P.st),some (.int (i:Int)),some (.int pr),some (.int bh),some (.int (made F i)),some (.int (Cu P S i)),some (.int (Bc P.hi (AO P S F i))),some (.int (AH P S F (i+1))),x16,x17,x18])/\Ab H2 H'/\∀b,b<j->Dq P S F i pr b) (by rw [length_map,length_map];omega) (by rw [length_map];omega) ⟨⟨_,_,_,rfl⟩,s26,λb hb=>absurd hb (Nat.not_lt_zero _)⟩ (λj σ H' h=>⟨Ae.of (h.2.1 _ _ (s2 _ _ hFn)),Ae.of (h.2.1 _ _ (s2 _ _ hCn)),Ae.of (h.2.1 _ _ (s2 _ _ pB))⟩) (λj x y z σ H' T7 hx hy hz h hT7=>?_) fun σ H' h=>?_⟩
   ·obtain⟨⟨x16',x17',x18',rfl⟩,s7,bo⟩:=h;obtain⟨m,hm,rfl⟩:=Fg hx;obtain⟨cp,hcp,rfl⟩:=Fg hy;obtain⟨bb,hbb,rbb⟩:=Ac.mapGot rb hz;have n7:=Ab.new (o:= .tup [.int m,.int cp,z]) hT7;obtain⟨l,zs,rfl,hl',rz⟩:=Aa.shape (Aa.ev (Ev.same (p:=p) (s2.trans (s7.trans n7))) _ _ rbb);obtain⟨y1,y2,rfl,r1,r2⟩:=Ac.two rz;unfold Aa at r1 r2;subst r1 r2;have s28:=s7.trans n7;have e1:(F.getD i []).getD j 0=m:=by rw [getD_eq_getElem?_getD,hm];rfl
    have e2:((caps P S).getD i []).getD j 0=cp:=by rw [getD_eq_getElem?_getD,hcp];rfl
    have e3:P.bs.getD j (0,0)=bb:=by rw [getD_eq_getElem?_getD,hbb];rfl
    have hj:j<P.bs.length:=(List.getElem?_eq_some_iff.mp hbb).1;refine⟨T7,_,rfl,Ae.of Ah,rfl,_,_,rfl,_,_,rfl,_,_,rfl,rfl,?_⟩;generalize upd H' T7 (.tup [.int m,.int cp,.ref l])=H8 at s28 hl' ⊢;have bad:¬Dq P S F i pr j->Q (.bl false) H8:=λnb=>q false _ ⟨λz=>(by cases z),λz=>absurd (Ts (z i (by omega)) epr hj) nb⟩ (s2.trans s28)
    have good:Dq P S F i pr j->∀b,b<j+1->Dq P S F i pr b:=λg b hb=>by
     by_cases e:b=j
     ·subst e;exact g
     ·exact bo b (by omega)
    have nx:Dq P S F i pr j->(∃x16 x17 x18,([some (.ref PA),some (.ref C),some (.ref D),some (.ref FA),some (.ref W),some (.ref R),some (.int P.lo),some (.int P.hi),some (.int P.st),some (.int (i:Int)),some (.int pr),some (.int bh),some (.int (made F i)),some (.int (Cu P S i)),some (.int (Bc P.hi (AO P S F i))),some (.int (AH P S F (i+1))),some (.int m),some (.int cp),some (.ref l)]:L2.St)=[some (.ref PA),some (.ref C),some (.ref D),some (.ref FA),some (.ref W),some (.ref R),some (.int P.lo),some (.int P.hi),some (.int P.st),some (.int (i:Int)),some (.int pr),some (.int bh),some (.int (made F i)),some (.int (Cu P S i)),some (.int (Bc P.hi (AO P S F i))),some (.int (AH P S F (i+1))),x16,x17,x18])/\Ab H2 H8/\∀b,b<j+1->Dq P S F i pr b:=λg=>⟨⟨_,_,_,rfl⟩,s28,good g⟩
    have ib:Dq P S F i pr j↔(bb.2<pr->m=cp)/\(pr<bb.2->m=0):=by unfold Dq;rw [e1,e2,e3]
    refine⟨l,_,1,.int bb.2,rfl,rfl,Ae.of hl',rfl,⟨λc1=>⟨rfl,⟨λc2=>⟨λ_=>bad λg=>Eu c2 ((ib.mp g).1 (of_decide_eq_true c1)),λz=>(by cases z)⟩,λc2=>?_⟩⟩,λc1=>⟨λz=>(by cases z),λ_=>?_⟩⟩⟩
    ·refine⟨l,_,1,.int bb.2,rfl,rfl,Ae.of hl',rfl,⟨λc3=>⟨rfl,⟨λc4=>bad λg=>?_,λc4=>nx (ib.mpr ⟨λ_=>Cp c2,λ_=>Cp c4⟩)⟩⟩,λc3=>⟨λz=>(by cases z),λ_=>nx (ib.mpr ⟨λ_=>Cp c2,λz=>absurd z (of_decide_eq_false c3)⟩)⟩⟩⟩;exact Eu c4 ((ib.mp g).2 (of_decide_eq_true c3))
    ·refine⟨l,_,1,.int bb.2,rfl,rfl,Ae.of hl',rfl,⟨λc3=>⟨rfl,⟨λc4=>bad λg=>?_,λc4=>nx (ib.mpr ⟨λz=>absurd z (of_decide_eq_false c1),λ_=>Cp c4⟩)⟩⟩,λc3=>⟨λz=>(by cases z),λ_=>nx (ib.mpr ⟨λz=>absurd z (of_decide_eq_false c1),λz=>absurd z (of_decide_eq_false c3)⟩)⟩⟩⟩;exact Eu c4 ((ib.mp g).2 (of_decide_eq_true c3))
   ·obtain⟨⟨x16',x17',x18',rfl⟩,s7,bo⟩:=h;rw [length_map] at bo;have bad:¬((pr<bh->AH P S F (i+1)=P.hi)/\(bh<pr->AH P S F (i+1)=P.lo)/\(0<pr->Bc P.hi (AO P S F i)<=0))->Q (.bl false) H':=λnb=>q false _ ⟨λz=>(by cases z),λz=>by
     have g:=z i (by omega);refine absurd ⟨λc=>g.up (by rw [epr,hbh];exact c),λc=>g.dn (by rw [epr,hbh];exact c),λc=>Int.le_of_eq (g.bl (by rw [epr];exact c))⟩ nb⟩ (s2.trans s7)
    have nx:(pr<bh->AH P S F (i+1)=P.hi)->(bh<pr->AH P S F (i+1)=P.lo)->(0<pr->Bc P.hi (AO P S F i)<=0)->(∃x9 x10 x11 x12 x13 x14 x15 x16 x17 x18,([some (.ref PA),some (.ref C),some (.ref D),some (.ref FA),some (.ref W),some (.ref R),some (.int P.lo),some (.int P.hi),some (.int P.st),some (.int (i:Int)),some (.int pr),some (.int bh),some (.int (made F i)),some (.int (Cu P S i)),some (.int (Bc P.hi (AO P S F i))),some (.int (AH P S F (i+1))),x16',x17',x18']:L2.St)=[some (.ref PA),some (.ref C),some (.ref D),some (.ref FA),some (.ref W),some (.ref R),some (.int P.lo),some (.int P.hi),some (.int P.st),x9,x10,x11,x12,x13,x14,x15,x16,x17,x18])/\Ab H2 H'/\∀h,h<i+1->FI P S F ns h:=λa1 a2 a3=>by
     refine⟨⟨_,_,_,_,_,_,_,_,_,_,rfl⟩,s7,λh hh=>?_⟩
     by_cases e:h=i
     ·subst e;refine⟨λb hb=>by rw [epr];exact bo b (by omega),λc=>a1 (by rw [epr,hbh] at c;exact c),λc=>a2 (by rw [epr,hbh] at c;exact c),λc=>?_⟩;have:=a3 (by rw [epr] at c;exact c);have:=LY P.hi (AO P S F h);omega
     ·exact gd h (by omega)
    refine⟨λc1=>⟨rfl,⟨λc2=>⟨λ_=>bad λg=>Eu c2 (g.1 (of_decide_eq_true c1)),λz=>(by cases z)⟩,λc2=>?_⟩⟩,λc1=>⟨λz=>(by cases z),λ_=>?_⟩⟩
    ·refine⟨λc3=>⟨rfl,⟨λc4=>⟨λ_=>bad λg=>Eu c4 (g.2.1 (of_decide_eq_true c3)),λz=>(by cases z)⟩,λc4=>?_⟩⟩,λc3=>⟨λz=>(by cases z),λ_=>?_⟩⟩
     ·exact⟨λc5=>⟨λc6=>bad λg=>absurd (g.2.2 (of_decide_eq_true c5)) (by have:=of_decide_eq_true c6;omega),λc6=>nx (λ_=>Cp c2) (λ_=>Cp c4) (λ_=>by have:=of_decide_eq_false c6;omega)⟩,λc5=>⟨λz=>(by cases z),λ_=>nx (λ_=>Cp c2) (λ_=>Cp c4) (λz=>absurd z (of_decide_eq_false c5))⟩⟩
     ·exact⟨λc5=>⟨λc6=>bad λg=>absurd (g.2.2 (of_decide_eq_true c5)) (by have:=of_decide_eq_true c6;omega),λc6=>nx (λ_=>Cp c2) (λz=>absurd z (of_decide_eq_false c3)) (λ_=>by have:=of_decide_eq_false c6;omega)⟩,λc5=>⟨λz=>(by cases z),λ_=>nx (λ_=>Cp c2) (λz=>absurd z (of_decide_eq_false c3)) (λz=>absurd z (of_decide_eq_false c5))⟩⟩
    ·refine⟨λc3=>⟨rfl,⟨λc4=>⟨λ_=>bad λg=>Eu c4 (g.2.1 (of_decide_eq_true c3)),λz=>(by cases z)⟩,λc4=>?_⟩⟩,λc3=>⟨λz=>(by cases z),λ_=>?_⟩⟩
     ·exact⟨λc5=>⟨λc6=>bad λg=>absurd (g.2.2 (of_decide_eq_true c5)) (by have:=of_decide_eq_true c6;omega),λc6=>nx (λz=>absurd z (of_decide_eq_false c1)) (λ_=>Cp c4) (λ_=>by have:=of_decide_eq_false c6;omega)⟩,λc5=>⟨λz=>(by cases z),λ_=>nx (λz=>absurd z (of_decide_eq_false c1)) (λ_=>Cp c4) (λz=>absurd z (of_decide_eq_false c5))⟩⟩
     ·exact⟨λc5=>⟨λc6=>bad λg=>absurd (g.2.2 (of_decide_eq_true c5)) (by have:=of_decide_eq_true c6;omega),λc6=>nx (λz=>absurd z (of_decide_eq_false c1)) (λz=>absurd z (of_decide_eq_false c3)) (λ_=>by have:=of_decide_eq_false c6;omega)⟩,λc5=>⟨λz=>(by cases z),λ_=>nx (λz=>absurd z (of_decide_eq_false c1)) (λz=>absurd z (of_decide_eq_false c3)) (λz=>absurd z (of_decide_eq_false c5))⟩⟩
  ·obtain⟨⟨x9,x10,x11,x12,x13,x14,x15,x16,x17,x18,rfl⟩,s3,gd⟩:=h;rw [length_map] at gd;exact q true _ ⟨λ_=>by rw [<-ln];exact gd,λ_=>rfl⟩ (s2.trans s3)
 ·exact h.elim
theorem Ty:Ax ["_law_hours","_law_thing"] ["_law_hours","_law_thing"] (Ap waY):=AA
theorem Tz (F:Df K mg "_law_are_prices" waY ["_law_hours","_law_thing"]) (T:Tx mg)  :Fn P w K mg base 1 "_law_are_prices" ["_law_hours","_law_thing"] HW:=by
 refine F.fn Ty (λvs H Q E h=>?_) (λf cdv A outer s H vs Q E hr h=>?_)
 ·unfold HW at h;split at h;rfl;exact h.elim
 refine⟨_,(Aj (A8 (PW.pt (Ec (B5 (BU (At EK rfl T.b_isinstance boot_isinstance (Aq (cy 1) (DZ (v:= .ty "tuple") rfl T.b_tuple Bz rfl))))) (Ey (AS C2 (At (Bh K) rfl T.b_len PySem.boot_len (Ak (cy 1))) (cy 0) (AN _))))) (An (Aw Bw)) A6) (An (Aw (At (Db rfl) rfl T.b_all boot_all (Ak (A7 ["_law_one"] [none] rfl (BA K (cy 1)) (AE.of rfl) (λ_ _ _ _=>(Ag 0 (AB (by rfl)))) (λ_ _ _ _=>AY) (λ_ _ _ _=>(Bg (At EK rfl T.b_isinstance boot_isinstance (Aq (cy 0) (DZ (v:= .ty "int") rfl T.b_int L2.boot_int rfl))) (Bg (Kw (At EK rfl T.b_isinstance boot_isinstance (Aq (cy 0) (DZ (v:= .ty "bool") rfl T.b_bool L2.boot_bool rfl)))) (BJ (C3 IJ (cy 0) Af (AN _)))))))))))),?_⟩;unfold HW at h;split at h
 ·rename_i n x;obtain⟨p,d,r,m1000,q⟩:=h;refine⟨_,r.ty,.inr (.inr (.inl rfl)),⟨λc=>⟨λ_=>q false H ?_ (Ab.refl _),λz=>(by cases z)⟩,λc=>?_⟩⟩
  ·cases d<;>first | rfl | cases c
  ·cases d<;>first | cases c | skip
   rename_i es;obtain⟨A,xs,rfl,hA,rs⟩:=Aa.shape r;have lx:=rs.len;refine⟨A,_,rfl,.inr (Ae.of hA),rfl,⟨λc2=>q false H ?_ (Ab.refl _),λc2=>?_⟩⟩
   ·have:=Eu c2;unfold Cy A3;dsimp only;rw [lx]
    by_cases z:n<=(xs.length:Int)
    ·rw [decide_eq_false (p:=(xs.length:Int)<=n) (by omega),Bool.and_false,Bool.false_and]
    ·rw [decide_eq_false z,Bool.false_and,Bool.false_and]
   have en:=Cp c2;refine⟨A,rfl,⟨_,Ae.of hA⟩,BF (xs:=xs) (λi zs H'=>Ab H H'/\zs=(es.take i).map λe=>V.bl (Dk e)) (by omega) ⟨Ab.refl _,rfl⟩ (λi zs H' h=>by rw [h.2,length_map,length_take];omega) (λi zs H' _ h=>Ae.of (h.1 _ _ hA)) (λi x zs H' hx h=>?_) λzs H' h=>?_⟩
   ·obtain⟨e',he,re'⟩:=rs.got hx;have re2:=Aa.ev (Ev.same h.1) _ _ re';have fin:∀b,b=Dk e'->Ab H H'/\zs++[V.bl b]=(es.take (i+1)).map λe=>V.bl (Dk e):=λb hb=>⟨h.1,by rw [A9 he,map_append,h.2,hb];rfl⟩
    refine⟨trivial,λ_=>⟨_,re2.ty,.inl rfl,⟨λc1=>⟨_,re2.ty,.inr (.inl rfl),⟨λc2=>?_,λc2=>fin _ ?_⟩⟩,λc1=>fin _ ?_⟩⟩,λc=>by cases c⟩
    ·cases e'<;>first | (cases c1;done) | (cases c2;done) | skip
     rename_i i';unfold Aa at re2;subst re2;exact fin _ rfl
    ·cases e'<;>first | rfl | (cases c1;done) | (cases c2;done)
    ·cases e'<;>first | rfl | (cases c1;done)
   ·intro m2 hm;refine⟨m2,es.map Dk,rfl,by rw [Ah,h.2,take_of_length_le (by omega),map_map];rfl,?_⟩;refine q _ _ ?_ (h.1.trans (Ab.new hm));unfold Cy A3;dsimp only;rw [lx,decide_eq_true (p:=n<=(xs.length:Int)) (by omega),decide_eq_true (p:=(xs.length:Int)<=n) (by omega),Bool.true_and,Bool.true_and,all_map]
    rfl
 ·exact h.elim
theorem zam:Ax ["_law_pen_here","_law_plant_here","_law_story_here","_law_hours","_law_some","_law_paper","_law_prices_here","_law_at","_law_one"] ["_law_pen_here","_law_plant_here","_law_story_here","_law_hours"] (Ap waZ):=AA
theorem TC (F:Df K mg "_law_all_prices" waZ ["_law_pen_here","_law_plant_here","_law_story_here","_law_hours"]) (T:Tx mg) (yaI:Fn P w K mg base 2 "_law_prices" ["_law_pen_here","_law_plant_here","_law_hours"] HR) (yac:Fn P w K mg base 11 "cheapest" ["plant","story"] FW):Fn P w K mg base 12 "_law_all_prices" ["_law_pen_here","_law_plant_here","_law_story_here","_law_hours"] HX:=by
 refine F.fn zam (λvs H Q E h=>?_) (λf cdv A outer s H vs Q E hr h=>?_)
 ·unfold HX at h;split at h;rfl;exact h.elim
 refine⟨_,(Aj (Dz (i:=4) (j:=5) rfl zam.nd rfl rfl (by decide) rfl rfl (Aq (As FE (A7 ["_law_turn","_law_pen_here","_law_plant_here","_law_hours"] [none,some 0,some 1,some 3] rfl (BQ rfl T.b_range (Ak Af)) (AE.of rfl) (λ_ _ _ _=>(Ag 0 (AB (by rfl)))) (λ_ _ _ _=>AY) (λ_ _ _ _=>(Am yaI (hr.mono (by decide)) rfl (AM (cy 1) (cy 2) (cy 3))))) (Ca (Ak (As Pb (Bj (Ak Af)) (cy 3))))) (Am yac (hr.mono (by decide)) rfl (Aq (cy 1) (cy 2)))) (by rfl)) (Aj (A8 (AS DB (Au (AF K) (cy 5) Af (λ_ _=>rfl)) AT (AN _)) (Aj (AD (i:=6) zam.nd rfl (Az (by rfl)) (Au (AF K) (cy 5) Af (λ_ _=>rfl))) (Aj (Br (BZ PySem.F.plainAttrs_list PySem.F.slot_list_append PySem.F.type_list_append B6 (cy 4) (Ak (cy 6)))) (Aj (Bs PassesOwn.never rfl (BQ rfl T.b_range (Ak (cy 3))) (Ag 7 zam.nd) (An (Bs PassesOwn.never rfl (Ee K (Ca (Aq (As A1 (Au (AF K) (cy 6) (cy 7) (λ_ _=>rfl)) Af) (At (ED rfl) rfl T.b_max boot_max (Aq Af (As Bl (Au (AF K) (cy 6) (cy 7) (λ_ _=>rfl)) Af)))))) (Ag 8 zam.nd) (An (Br (BZ PySem.F.plainAttrs_list PySem.F.slot_list_append PySem.F.type_list_append B6 (cy 4) (Ak (As CI (As CI (Cs wa0 (cy 6) DC (BS (cy 7))) (Bj (Ak (cy 8)))) (Cs wa0 (cy 6) (BS (As A1 (cy 7) Af)) DC))))))))) (An (Br (BZ PySem.F.plainAttrs_list PySem.F.slot_list_append PySem.F.type_list_append B6 (cy 4) (Ak (Bo (BI K) rfl T.b_tuple Bz (Ak (A7 ["_law_one"] [none] rfl (BA K (cy 6)) (AE.of rfl) (λ_ _ _ _=>(Ag 0 (AB (by rfl)))) (λ_ _ _ _=>AY) (λ_ _ _ _=>(As A1 (cy 0) Af)))))))))))) A6) (An (Aw (cy 4))))),?_⟩;unfold HX at h;split at h
 ·rename_i p v u n;obtain⟨pn,P,S,ok,so,rv,ru,en,q⟩:=h;subst en;have x1:=so.x1;have x8:=so.x8;have f:=λ{H H':Hp} (s:Ab H H')=>Ev.same (p:=p) s
  refine⟨4,rfl,by decide,by decide,EI (n:=(4:Int).toNat) (λi ys H'=>Ev p H H'/\AQ p H'/\ys.length=i/\∃nss:List (List Int),nss.length=i/\Ac p H' (nss.map AJ) ys/\∀r∈nss,DV S r) (by decide) ⟨Ev.refl,pn,rfl,[],rfl,.nil,λ_ h=>(nomatch h)⟩ (λi ys H' h=>Nat.le_of_eq h.2.2.1) (λi ys H' hi h=>?_) λys H8 h=>?_⟩
  ·obtain⟨e8,pn8,ly,nss,ln,rs,g⟩:=h;refine⟨⟨rfl,rfl,rfl,trivial⟩,λ_=>⟨pn8,by omega,by omega,P,ok,Aa.ev e8 _ _ rv,λw9 H9 ms lm gm rm e9 pn9=>⟨e8.trans e9,pn9,by rw [length_append,ly];rfl,nss++[ms],by rw [length_append,ln];rfl,by rw [map_append];exact Ac.snoc (Ac.ev e9 _ _ rs) rm,λr hr=>?_⟩⟩,λz=>by cases z⟩;rcases mem_append.mp hr with hr | hr
   ·exact g r hr
   ·obtain rfl:=mem_singleton.mp hr;exact⟨by omega,gm⟩
  obtain⟨e8,pn8,ly,nss,ln,rs,gn⟩:=h;intro L8 hL8;have n8:=Ab.new (o:= .lst ys) hL8;have k8:upd H8 L8 (.lst ys) L8=some (.lst ys):=Ah;have nL8:L8≠p:=pn8.ne hL8;generalize upd H8 L8 (.lst ys)=H8' at n8 k8 ⊢;refine λt9 H9 s9 k9=>⟨t9,_,[.int 0],rfl,rfl,k9,by simp,by omega,by omega,by decide,λr10 H10 s10 k10=>λL11 H11 s11 hL11 kL11=>⟨L8,L11,_,_,rfl,rfl,(s9.trans (s10.trans s11)) _ _ k8,kL11,GZ (by rw [ly];show 4+1<=1000;decide),λL12 H12 s12 hL12 kL12=>?_⟩⟩
  have s812:=n8.trans (s9.trans (s10.trans (s11.trans s12)));have e12:=e8.trans (f s812);have pn12:=pn8.same s812;have nL12:L12≠p:=(pn8.same (n8.trans (s9.trans (s10.trans s11)))).ne hL12;have er:(List.replicate ((S.ex.length:Int)).toNat [V.int 0]).flatten=(List.replicate S.ex.length (0:Int)).map V.int:=by
   rw [Int.toNat_natCast,List.flatten_replicate_singleton,map_replicate]
  rw [er] at k10;have G12:Prs p L12 S H H12 5:=by
   refine⟨⟨_,nss++[List.replicate S.ex.length 0],kL12,?_,λr hr=>?_,by rw [length_append];show 1<=_+1;omega,by rw [length_append,ln];exact Nat.le_refl _⟩,e12,pn12,?_,nL12⟩
   ·rw [map_append];exact Ac.snoc (Ac.ev (f s812) _ _ rs) (Aa.row ((s11.trans s12) _ _ k10))
   ·rcases mem_append.mp hr with hr | hr
    ·exact gn r hr
    ·obtain rfl:=mem_singleton.mp hr;refine⟨length_replicate,λx hx=>?_⟩;rw [(List.mem_replicate.mp hx).2]
     decide
   ·cases z:H L12 with
    | none=>rfl
    | some o=>
     rcases(e8.trans (f (n8.trans (s9.trans (s10.trans s11))))) L12 o z with⟨z',_⟩ | z'
     ·exact absurd z' nL12
     ·rw [hL12] at z';cases z'
  clear s812 kL12 k10 kL11 k9 k8 rs gn;refine⟨p,P,S,ok,so,Aa.ev e12 _ _ rv,Aa.ev e12 _ _ ru,λx H13 d s13 pd rx=>⟨_,_,rfl,?_⟩⟩;have G13:=G12.same s13;have fin:∀k J,k<=50->Prs p L12 S H J k->Q (.ref L12) J:=λk J hk G=>by
   obtain⟨xs,nss,h1,h2,h3,h4,h5⟩:=G.ex;exact q L12 J xs nss G.n0 G.nL h1 h2 h3 h4 (by omega) G.ev G.pen
  have co9:∀y∈(0:Int)::(terms P S).co,y<=9:=λy hy=>by
   rcases mem_cons.mp hy with rfl | hy
   ·decide
   ·obtain⟨b,hb,rfl⟩:=mem_map.mp (show y∈P.bs.map (·.2) from hy);have:=ok.b b hb;omega
  have co0:∀y∈(0:Int)::(terms P S).co,0<=y:=λy hy=>by
   rcases mem_cons.mp hy with rfl | hy
   ·decide
   ·obtain⟨b,hb,rfl⟩:=mem_map.mp (show y∈P.bs.map (·.2) from hy);have:=ok.b b hb;omega
  cases pd with
  | short hq=>
   obtain⟨A,xs,rfl,hA,rs⟩:=Aa.shape rx;obtain⟨y1,y2,y3,rfl,r1,r2,r3⟩:=Ac.three rs;unfold Aa at r1;subst r1;refine⟨A,_,0,.str "short",rfl,rfl,Ae.of hA,rfl,rfl,⟨λc=>absurd c (by decide+kernel),λc=>?_⟩⟩;exact fin 5 _ (by decide) G13
  | @fired ff fms fc ps no gr lo hf=>
   obtain⟨A,xs,rfl,hA,rs⟩:=Aa.shape rx;obtain⟨y1,y2,y3,y4,rfl,r1,r2,r3,r4⟩:=Ac.four rs;unfold Aa at r1 r2;subst r1 r2;obtain⟨W,rfl,hW⟩:=Aa.ofRow' r4;have op:DV S ps:=⟨by rw [hf.len];exact CJ,λy hy=>?_⟩
   ·refine⟨A,_,0,.str "fired",rfl,rfl,Ae.of hA,rfl,rfl,⟨λc=>?_,λc=>absurd c (by decide+kernel)⟩⟩;refine⟨A,_,3,.ref W,rfl,rfl,Ae.of hA,rfl,?_⟩;obtain⟨xs,nss,h1,_⟩:=G13.ex;refine⟨.inl ⟨rfl,_,Al.of h1⟩,L12,_,_,rfl,rfl,h1,DE (G13.len h1 (by decide)),?_⟩;have G14:=G13.add h1 r4 op;have hW14:upd H13 L12 (.lst (xs++[.ref W])) W=some (.tup (ps.map V.int)):=TEv.upd h1 _ _ hW;generalize upd H13 L12 (.lst (xs++[.ref W]))=H14 at G14 hW14 ⊢;have lps:=op.1;refine⟨(S.ex.length:Int),rfl,by omega,by omega,C1 (n:=(S.ex.length:Int).toNat) (λi σ H'=>(∃x7 x8,σ=[some (.ref p),some v,some u,some (.int (S.ex.length:Int)),some (.ref L12),some (.ref A),some (.ref W),x7,x8])/\Prs p L12 S H H' (6+2 * i)/\H' W=some (.tup (ps.map V.int))) ⟨⟨_,_,rfl⟩,G14,hW14⟩ (λi σ H' hi h=>?_) fun σ H' h=>?_⟩
    ·obtain⟨⟨x7,x8',rfl⟩,G,hW'⟩:=h;have hi':i<ps.length:=by omega
     have hp:=op.2 _ (getD_mem (l:=ps) (d:=0) hi');have e26:((10 ^ 26:Nat):Int)=100000000000000000000000000:=by decide
     have hq:=hf.as _ (getD_mem (l:=ps) (d:=0) hi');have h9:ps.getD i 0<=9:=co9 _ hq;have ei:(0:Int)+(i:Int)=(i:Int):=by omega
     refine⟨W,_,_,.int (ps.getD i 0),rfl,rfl,Ae.of hW',by rw [ei];exact B4 hi',W,_,_,.int (ps.getD i 0),rfl,rfl,Ae.of hW',by rw [ei];exact B4 hi',_,_,rfl,λLt Ht st hLt kLt=>?_⟩;have bmx:0<=(if ps.getD i 0-1>0 then ps.getD i 0-1 else 0)/\(if ps.getD i 0-1>0 then ps.getD i 0-1 else 0)<=10:=by split<;>omega
     have mm:∀z∈ [ps.getD i 0+1,if ps.getD i 0-1>0 then ps.getD i 0-1 else 0],0<=z/\z<=10:=λz hz=>by
      simp only [mem_cons,not_mem_nil,or_false] at hz;rcases hz with rfl | rfl
      ·omega
      ·exact bmx
     have kLt':Ht Lt=some (.lst ([ps.getD i 0+1,if ps.getD i 0-1>0 then ps.getD i 0-1 else 0].map V.int)):=kLt;have l2:[ps.getD i 0+1,if ps.getD i 0-1>0 then ps.getD i 0-1 else 0].length=2:=rfl;clear kLt;generalize [ps.getD i 0+1,if ps.getD i 0-1>0 then ps.getD i 0-1 else 0]=zz at mm kLt' l2;obtain⟨xs0,_,h10,_⟩:=G.ex;have nLt:Lt≠L12:=λz=>by rw [z] at hLt;rw [h10] at hLt;cases hLt
     refine⟨Lt,rfl,⟨_,Al.of kLt'⟩,Ii (xs:=zz.map V.int) (λj σ H'=>(∃x8,σ=[some (.ref p),some v,some u,some (.int (S.ex.length:Int)),some (.ref L12),some (.ref A),some (.ref W),some (.int (0+(i:Int))),x8])/\Prs p L12 S H H' (6+2 * i+j)/\H' W=some (.tup (ps.map V.int))/\H' Lt=some (.lst (zz.map V.int))) ⟨⟨_,rfl⟩,G.same st,st _ _ hW',kLt'⟩ (λj σ H' _ h=>Al.of h.2.2.2) (λj x σ H' hx h=>?_) fun σ H' h=>?_⟩
     ·obtain⟨⟨x8'',rfl⟩,G2,hW2,kL2⟩:=h;obtain⟨z,hz,rfl⟩:=Fg hx;have hj:j<2:=by rw [<-l2];exact(List.getElem?_eq_some_iff.mp hz).1
      have bz:=mm z (mem_of_getElem? hz);obtain⟨xs2,nss2,h12,_⟩:=G2.ex;refine⟨.inl ⟨rfl,_,Al.of h12⟩,_,rfl,W,_,rfl,hW2,λt1 J1 s1 k1=>λt2 J2 s2 k2=>⟨t1,t2,_,_,rfl,rfl,s2 _ _ k1,k2,?_,λt3 J3 s3 k3=>⟨_,rfl,W,_,rfl,(s1.trans (s2.trans s3)) _ _ hW2,λt4 J4 s4 k4=>⟨t3,t4,_,_,rfl,rfl,s4 _ _ k3,k4,?_,λt5 J5 s5 k5=>?_⟩⟩⟩⟩
      ·have:=EE (ps.map V.int) none (some (0+(i:Int)));rw [length_map] at this;show _+1<=1000;omega
      ·have a1:=EE (ps.map V.int) none (some (0+(i:Int)));have a2:=EE (ps.map V.int) (some (0+(i:Int)+1)) none;rw [length_map] at a1 a2;rw [length_append];show _+1+_<=1000;omega
      have s15:=s1.trans (s2.trans (s3.trans (s4.trans s5)));have k5':J5 t5=some (.tup ((ps.take i++[z]++ps.drop (i+1)).map V.int)):=by
       rw [k5,ei,LO,Tt,map_append,map_append,map_take];rfl
      have G3:=G2.same s15;have h13:=s15 _ _ h12;refine⟨L12,_,_,rfl,rfl,h13,DE (G3.len h13 (by omega)),⟨_,rfl⟩,G3.add h13 (Aa.row k5') (Tu op (by omega) bz.1 (by omega)),TEv.upd h13 _ _ (s15 _ _ hW2),?_⟩;rw [Ar nLt];exact s15 _ _ kL2
     ·obtain⟨⟨x8'',rfl⟩,G2,hW2,kL2⟩:=h;rw [length_map,l2] at G2;exact⟨⟨_,_,rfl⟩,G2,hW2⟩
    ·obtain⟨⟨x7,x8',rfl⟩,G,hW'⟩:=h;have G':Prs p L12 S H H' 22:=⟨by obtain⟨a,b,c,d,e,f,g⟩:=G.ex;exact⟨a,b,c,d,e,f,by omega⟩,G.ev,G.pen,G.n0,G.nL⟩;obtain⟨xs2,nss2,h12,_⟩:=G'.ex;refine⟨.inl ⟨rfl,_,Al.of h12⟩,W,rfl,⟨_,Ae.of hW'⟩,BF (xs:=ps.map V.int) (λi ys J=>Ab H' J/\ys=((ps.take i).map (· +1)).map V.int) (by rw [length_map];omega) ⟨Ab.refl _,rfl⟩ (λi ys J h=>by rw [h.2,length_map,length_map,length_take];omega) (λi ys J _ h=>Ae.of (h.1 _ _ hW')) (λi x ys J hx h=>?_) λys J h=>?_⟩
     ·obtain⟨z,hz,rfl⟩:=Fg hx;refine⟨trivial,λ_=>⟨h.1,?_⟩,λc=>by cases c⟩;rw [A9 hz,map_append,map_append,h.2];rfl
     intro Lc hLc;have nc:=Ab.new (o:= .lst ys) hLc;have kc:upd J Lc (.lst ys) Lc=some (.lst ys):=Ah;generalize upd J Lc (.lst ys)=J2 at nc kc ⊢;refine⟨Lc,_,rfl,.inl ⟨Al.of kc,λt ht=>?_⟩⟩;have s3:=h.1.trans (nc.trans (Ab.new (o:= .tup ys) ht));have kt:upd J2 t (.tup ys) t=some (.tup ((ps.map (· +1)).map V.int)):=by rw [Ah,h.2,length_map,take_length]
     generalize upd J2 t (.tup ys)=J3 at s3 kt ⊢;have h13:=s3 _ _ h12;have G3:=G'.same s3;refine⟨L12,_,_,rfl,rfl,h13,DE (G3.len h13 (by decide)),fin 23 _ (by decide) (G3.add h13 (Aa.row kt) ⟨by rw [length_map];exact lps,λy hy=>?_⟩)⟩;obtain⟨z,hz,rfl⟩:=mem_map.mp hy;have:=op.2 z hz;have e26:((10 ^ 26:Nat):Int)=100000000000000000000000000:=by decide
     have h9:z<=9:=co9 _ (hf.as _ hz);show 0<=z+1/\z+1<=_;omega
   ·have e26:((10 ^ 26:Nat):Int)=100000000000000000000000000:=by decide
    have h9:y<=9:=co9 _ (hf.as _ hy);have h0:0<=y:=co0 _ (hf.as _ hy);omega
 ·exact h.elim
end
end MF
end
section
namespace MF
open L2
theorem TD {p TB:Addr}{H H':Hp}{ql:Str} (h:AQ p H) (t:TabIn H TB ql) (g:∀b o,H b=some o->b≠TB->H' b=some o):AQ p H':=by
 obtain⟨l,f,e⟩:=h;refine⟨l,f,g _ _ e λz=>?_⟩;obtain⟨ps,h1,_⟩:=t;rw [z,h1] at e;cases e
abbrev DW:Str:=(("_law_right" :Str)++ ".<locals>.")++ "<lambda>"
def HY:Sp:=λvs H Q _=>match vs with | [v,u,w,x]=>∃p P S F d k,Tri p H P S F v u w/\Aa p H d x/\Run P S F k none/\∀b H',(Cy (S.ex.length:Int) d=false->b=false)->(∀ns,d=AJ ns->ns.length=S.ex.length->(∀n∈ns,0<=n)->(b=true↔Ci (terms P S) ns=coal P F))->Ab H H'->Q (.bl b) H' | _=>False
def F0 (TB:Addr):Sp:=λvs H Q _=>match vs with | [.ref p,v,u,w]=>AQ p H/\TabIn H TB DW/\∃P S F,Tri p H P S F v u w/\∀H',A2 p H H'->AQ p H'->TabIn H' TB DW->Q (.bl true) H' | _=>False
theorem TF {ds:List Addr}{vs:List V}{H:Hp}{Q:VK}{E:XK} (h:HY vs H Q E):FZ ds vs H Q (λ_ _ _=>False):=by
 unfold HY at h;split at h
 ·obtain⟨p,P,S,F,d,k,t,r,run,q⟩:=h;refine⟨p,P,S,F,d,t,r,λk' s' run' ns=>absurd ((run.uniq run').2.symm) ns,λk' b run' h1 h2 H' s=>q b H' h1 h2 s⟩
 ·exact h.elim
theorem TH:∀d∈HS,Ed d:=by
 intro d hd;unfold HS at hd;simp only [mem_cons,not_mem_nil,or_false] at hd;rcases hd with rfl | rfl | rfl | rfl | rfl | rfl | rfl | rfl | rfl | rfl | rfl | rfl | rfl | rfl | rfl | rfl | rfl<;>exact⟨by decide+kernel,by decide,by first | exact .inl rfl | exact .inr rfl⟩
theorem TJ {i:Int} (h:i.natAbs<10 ^ 31):Small 40 0 (.int i):=by
 refine⟨?_,Nat.le_refl 0,rfl⟩;unfold B0;rw [if_pos h];exact Nat.le_refl _
theorem Jr {ns:List Int} (h:GoodPr ns):∀d∈ns.map PyData.int,Small 40 0 d:=λd hd=>by
 obtain⟨i,hi,rfl⟩:=mem_map.mp hd;have:=h i hi;have e26:((10 ^ 26:Nat):Int)=100000000000000000000000000:=by decide
 have e31:(10 ^ 31:Nat)=10000000000000000000000000000000:=by decide
 exact TJ (by omega)
theorem Fh {ds:List PyData} (h:∀d∈ds,Small 40 0 d) (l:ds.length<=100):Ed (.tuple ds):=(OS (m:=10000) h (by omega)).nice (by decide) (by decide)
theorem TK {ds:List PyData} (h:∀d∈ds,Small 40 0 d) (l:ds.length<=100):Ed (.list ds):=(OT (m:=10000) h (by omega)).nice (by decide) (by decide)
theorem DX {a:V}{l:List V}:Bu (a::l) 0=some a:=show Bu (a::l) ((0:Nat):Int)=some a from BT rfl
theorem HZ {p:Addr}{H:Hp}:∀r:List Int,Ac p H (r.map .int) (r.map V.int)
 | []=> .nil
 | a::r=> .cons Aa.int (HZ r)
theorem TN:PyData.eqv (.tuple [.str "firing"]) (.tuple [.str "firing"])=true:=by decide+kernel
theorem TQ {TB vs H Q E} (h:F0 TB vs H Q E):vs.length=4:=by unfold F0 at h;split at h;rfl;exact h.elim
section
variable {P : Program} {w : World} {K : Fgx} {mg : Str -> Option Value} {base : Heap}
theorem zab:Ax ["_law_pen_here","_law_plant_here","_law_story_here","_law_firing_here","_law_caps_here","_law_draws_here","_law_some","_law_good_here","_law_thing","_law_kept","_law_due"] ["_law_pen_here","_law_plant_here","_law_story_here","_law_firing_here"] (Ap wa2):=AA
theorem TR {M:Addr}{ds:List Addr}{c TB:Addr} (F:FJ K mg "_law_right" wa2 ["_law_pen_here","_law_plant_here","_law_story_here","_law_firing_here"] c) (hC:PySem.W.CodeHd base c TB) (hBu:base.BuiltinsAt mg TB) (T:Tx mg) (C:Tc K mg M ds) (yaJ:Fn P w K mg base 12 "_law_all_prices" ["_law_pen_here","_law_plant_here","_law_story_here","_law_hours"] HX) (yaK:Fn P w K mg base 1 "_law_are_prices" ["_law_hours","_law_thing"] HW) (yad:Fn P w K mg base 1 "_law_caps" ["_law_plant_here","_law_story_here"] FP) (yaL:Fn P w K mg base 1 "_law_draws" ["_law_plant_here","_law_story_here"] Hw) (yaM:Fn P w K mg base 2 "_law_good" ["_law_plant_here","_law_caps_here","_law_draws_here","_law_firing_here","_law_prices_here"] HV) (yaN:Fn P w K mg base 2 "_law_odd" ["_law_pen_here"] HU) (yab:Fn P w K mg base 1 "_law_run" ["_law_main","_law_draws_here","_law_firing_here"] FY) (yaO:Fn P w K mg base 16 "prices_hold" ["plant","story","firing","thing"] HY) (yaP:GS P w K mg base 18 "_law_said" ["_law_call"] (Em P w K mg base 17 (WdK K M ds))) (yaQ:Dh P w K mg base 16 "prices_hold" ["plant","story","firing","thing"] (FZ ds)):Fn P w K mg base 19 "_law_right" ["_law_pen_here","_law_plant_here","_law_story_here","_law_firing_here"] (F0 TB):=by
 refine F.fn zab (λvs H Q E h=>TQ h) (λf A outer s H vs Q E hr h=>?_);refine⟨_,(Aj (Dz (i:=4) (j:=5) rfl zab.nd rfl rfl (by decide) rfl rfl (Aq (Am yad (hr.mono (by decide)) rfl (Aq (cy 1) (cy 2))) (Am yaL (hr.mono (by decide)) rfl (Aq (cy 1) (cy 2)))) (by rfl)) (Aj (AD (i:=6) zab.nd rfl (Az (by rfl)) (Am yaJ (hr.mono (by decide)) rfl (Bp (cy 0) (cy 1) (cy 2) (At (Bh K) rfl T.b_len PySem.boot_len (Ak (cy 5)))))) (Aj (A8 (AS JO (Au (AF K) (Am yab (hr.mono (by decide)) rfl (AM (Au (AF K) (cy 1) Af (λ_ _=>rfl)) (cy 5) (cy 3))) Af (λ_ _=>rfl)) Du (AN _)) (An (Aw (C3 (Pw hr) (Qm (N':=["_law_plant_here","_law_story_here","_law_firing_here","_law_some"]) (cap:=[some 1,some 2,some 3,some 6]) yaP (hr.mono (by decide)) rfl (λ_=>rfl) rfl hC hBu (AE.of rfl) (by decide) rfl rfl rfl rfl (λ_ _ _ _=>rfl) (λA outer s H f c E hrA=>(Ll P9 yaQ ((hrA.deeper _).mono (by decide)) rfl (Bp (cy 0) (cy 1) (cy 2) (Au (A4 K) (cy 3) Af (λ_ _=>rfl)))))) (Bj (Ak AT)) (AN _)))) A6) (Aj (AD (i:=7) zab.nd rfl (Az (by rfl)) (Au (A4 K) (cy 6) Af (λ_ _=>rfl))) (Aj (AD (i:=6) zab.nd rfl (Az (by rfl)) (As FE (cy 6) (Ca (AV (Bo (QA K) rfl T.b_list KA (Ak (cy 7))) (AV (Cs wa0 (cy 7) (BS Af) DC) (Bp (As CI (cy 7) (Bj (Ak Af))) (As CI (Bj (Ak Du)) (Cs wa0 (cy 7) (BS Af) DC)) (As CI (Bj (Ak Bw)) (Cs wa0 (cy 7) (BS Af) DC)) (As CI (Bj (Ak HQ)) (Cs wa0 (cy 7) (BS Af) DC)))))))) (Aj (Bs PassesOwn.never rfl (Ee K (As FE (cy 6) (Ca (Ak (Am yaN (hr.mono (by decide)) rfl (Ak (cy 0))))))) (Ag 8 zab.nd) (Aj (Dz (i:=9) (j:=10) rfl zab.nd rfl rfl (by decide) rfl rfl (Aq (At (Gx hr) rfl T.b_repr boot_repr (Ak (cy 8))) Bw) (by rfl)) (Aj (A8 (BU (Am yaK (hr.mono (by decide)) rfl (Aq (At (Bh K) rfl T.b_len PySem.boot_len (Ak (cy 5))) (cy 8)))) (An (AD (i:=10) zab.nd rfl (Az (by rfl)) (Am yaM (hr.mono (by decide)) rfl (AV (cy 1) (Bp (cy 4) (cy 5) (cy 3) (cy 8)))))) A6) (An (A8 (PW.pt (Ec (AS C2 (At (Gx hr) rfl T.b_repr boot_repr (Ak (Am yaO (hr.mono (by decide)) rfl (Bp (cy 1) (cy 2) (cy 3) (cy 8))))) (At (Gx hr) rfl T.b_repr boot_repr (Ak (cy 10))) (AN _)) (Ey (AS C2 (At (Gx hr) rfl T.b_repr boot_repr (Ak (cy 8))) (cy 9) (AN _))))) (An (Aw Bw)) A6))))) (An (Aw Bw)))))))),?_⟩;unfold F0 at h;split at h
 ·rename_i p v u w;obtain⟨pn,tb,P,S,F,tr,q⟩:=h;have ok:=tr.ok;have so:=tr.so;have fo:=tr.fo;have x1:=so.x1;have x8:=so.x8;have f:=λ{H H':Hp} (s:Ab H H')=>Ev.same (p:=p) s
  refine⟨p,P,S,ok,so,tr.r,tr.ru,λvc H1 s1 rc=>⟨p,P,S,ok,so,Aa.ev (f s1) _ _ tr.r,Aa.ev (f s1) _ _ tr.ru,λvd H2 s2 rd=>⟨_,_,rfl,?_⟩⟩⟩;have s12:=s1.trans s2;have tr2:=tr.sm s12;have rc2:=Aa.ev (f s2) _ _ rc;obtain⟨D,rfl,hD⟩:=Aa.ofRow (r:=draws P S) rd;have lD:((draws P S).map V.int).length=S.ex.length:=by rw [length_map,CJ]
  refine⟨D,_,rfl,.inr (Ae.of hD),pn.same s12,P,S,ok,so,tr2.r,tr2.ru,by rw [lD],λL H3 xs nss hL nL kL rs gn l1 l50 e3 pn3=>?_⟩;have tr3:=tr2.ev e3;have rc3:=Aa.ev e3 _ _ rc2;have rd3:=Aa.ev e3 _ _ rd;have hD3:=e3.tup hD;have eH3:=(f s12).trans e3;have tb3:=tb.ev eH3;obtain⟨PA,PB,PE,PM,xb,xe,rfl,pA,pB,rb,pE,re,pM⟩:=Aa.plant tr3.r;refine⟨PA,_,2,.ref PM,rfl,rfl,Ae.of pA,rfl,p,P,S,F,ok,so,fo,Aa.tup pM (.cons Aa.int (.cons Aa.int (.cons Aa.int .nil))),rd3,tr3.rw,λt R sv H4 k s' xs' run s4 hR kt kR rxs rsv=>⟨t,_,1,sv,rfl,rfl,Ae.of kt,rfl,rfl,⟨λc=>?_,λc=>?_⟩⟩⟩
  ·have sn:s'≠none:=λz=>by
    subst z;have:sv= .non:=by unfold Eh Aa at rsv;exact rsv
    rw [this] at c;cases c
   have pn4:=pn3.same s4;have tb4:=tb3.same s4;refine⟨tb4,λJ1 T1 g1=>?_⟩;have eg:=A2.grow (p:=p) tb4 g1;have e34:=(A2.same (p:=p) s4).trans eg;cases nss with
   | nil=>cases l1
   | cons n0 rest=>
    unfold Ac at rs;obtain⟨v0,vs0,rfl,r0,_⟩:=rs;refine⟨L,_,0,v0,rfl,rfl,Al.of (e34.lst kL nL),DX,p,P,S,F,AJ n0,⟨ok,so,fo,Aa.evT e34 _ _ tr3.r,Aa.evT e34 _ _ tr3.ru,Aa.evT e34 _ _ tr3.rw⟩,Aa.evT e34 _ _ r0,λk' s'' run' ns' J2 j2=>⟨_,"firing",rfl,⟨2,by decide,rfl,rfl,C.w_NoFiring⟩,λJ3 w1 j3 hw1=>λu4 J4 j4 k4=>?_⟩,λk' b run' _ _ J2 j2=>absurd (run.uniq run').2 sn⟩;have j14:Ab J1 J4:=Ab.trans j2 (Ab.trans j3 j4);refine⟨p,.tuple [.str "firing"],.tuple [.str "firing"],Aa.tup (j4 _ _ hw1) (.cons Aa.str .nil),Aa.tup k4 (.cons Aa.str .nil),by decide+kernel,by decide+kernel,by decide+kernel,.inl ⟨by decide+kernel,by decide+kernel,?_⟩⟩;rw [TN];exact q J4 ((A2.ev eH3).trans (e34.trans (A2.same j14))) ((TD pn4 tb4 g1).same j14) (T1.same j14)
  have sn:s'=none:=by
   cases s' with
   | none=>rfl
   | some z=>
    obtain⟨a,xs,e,_⟩:=Aa.shape (ds:=[.int z.1,.int z.2]) rsv;rw [e] at c;cases c
  subst sn;have pn4:=pn3.same s4;have tb4:=tb3.same s4;have tr4:=tr3.sm s4;have rc4:=Aa.ev (f s4) _ _ rc3;have rd4:=Aa.ev (f s4) _ _ rd3;have hD4:=s4 _ _ hD3;have kL4:=s4 _ _ kL;have rs4:=Ac.ev (f s4) _ _ rs;have lxs:=rs4.len;rw [length_map] at lxs;obtain⟨n0,v0,hv0,r0,g0⟩:∃n0 v0,Bu xs 0=some v0/\Aa p H4 (AJ n0) v0/\DV S n0:=by
   cases nss with
   | nil=>cases l1
   | cons n0 rest=>
    have rs5:=rs4;unfold Ac at rs5;obtain⟨v0,vs0,rfl,r0,_⟩:=rs5;exact⟨n0,v0,DX,r0,gn n0 mem_cons_self⟩
  obtain⟨W,rfl,hW⟩:=Aa.ofRow' r0;have l0:=g0.1;refine⟨L,_,0,.ref W,rfl,rfl,Al.of kL4,hv0,?_⟩;refine⟨W,_,rfl,.inr (Ae.of hW),λa1 J1 j1 ha1 k1=>⟨1,rfl,W,_,rfl,j1 _ _ hW,λa2 J2 j2 k2=>?_⟩⟩;have jW2:=j1.trans j2;refine λb3 I3 i3 kb3=>⟨W,b3,_,_,rfl,rfl,(jW2.trans i3) _ _ hW,kb3,by rw [length_map];show _+1<=1000;omega,λa3 J3 j3 k3=>?_⟩
  have jW3:=jW2.trans (i3.trans j3);refine λb4 I4 i4 kb4=>⟨1,rfl,W,_,rfl,(jW3.trans i4) _ _ hW,λc4 G4 g4 kc4=>⟨b4,c4,_,_,rfl,rfl,g4 _ _ kb4,kc4,by rw [EX,length_drop,length_map];show 1+_<=1000;omega,λa4 J4 j4 k4=>?_⟩⟩
  have jW4:=jW3.trans (i4.trans (g4.trans j4));refine λb5 I5 i5 kb5=>⟨1,rfl,W,_,rfl,(jW4.trans i5) _ _ hW,λc5 G5 g5 kc5=>⟨b5,c5,_,_,rfl,rfl,g5 _ _ kb5,kc5,by rw [EX,length_drop,length_map];show 1+_<=1000;omega,λa5 J5 j5 k5=>?_⟩⟩
  have jW5:=jW4.trans (i5.trans (g5.trans j5));refine λb6 I6 i6 kb6=>⟨1,rfl,W,_,rfl,(jW5.trans i6) _ _ hW,λc6 G6 g6 kc6=>⟨b6,c6,_,_,rfl,rfl,g6 _ _ kb6,kc6,by rw [EX,length_drop,length_map];show 1+_<=1000;omega,λa6 J6 j6 k6=>?_⟩⟩
  have jW6:=jW5.trans (i6.trans (g6.trans j6));refine λL6 J7 j7 hL6 kL6=>⟨L,L6,_,_,rfl,rfl,(jW6.trans j7) _ _ kL4,kL6,GZ (by show _+6<=1000;omega),λL7 J8 j8 hL7 kL7=>?_⟩
  have jW8:=jW6.trans (j7.trans j8);have pn8:=pn4.same jW8;have nL7:L7≠p:=(pn4.same (jW6.trans j7)).ne hL7;refine⟨pn8,λv9 H9 d9 r9 m9 e9 pn9=>λL10 J10 j10 hL10 kL10=>⟨L7,L10,_,_,rfl,rfl,j10 _ _ (e9.lst kL7 nL7),kL10,GZ (by rw [length_append];show _+6+1<=1000;omega),λL11 J11 j11 hL11 kL11=>?_⟩⟩;have e11:Ev p J8 J11:=e9.trans (f (j10.trans j11));have e4:Ev p H4 J11:=(f jW8).trans e11;have pn11:=pn9.same (j10.trans j11);have tb11:=tb4.ev e4;have tr11:=tr4.ev e4;have rc11:=Aa.ev e4 _ _ rc4;have rd11:=Aa.ev e4 _ _ rd4;have hD11:=e4.tup hD4;have eH11:A2 p H J11:=(A2.ev (eH3.trans ((f s4).trans e4)));rw [EX] at k2 k4 k5 k6;have dr:(n0.map V.int).drop 1=(n0.drop 1).map V.int:=map_drop.symm;have rdr:Ac p J11 ((n0.drop 1).map .int) ((n0.map V.int).drop 1):=by rw [dr];exact HZ _
  have sm0:=Jr g0.2;have smd:∀d∈(n0.drop 1).map PyData.int,Small 40 0 d:=Jr λx hx=>g0.2 x (List.mem_of_mem_drop hx)
  have ld:((n0.drop 1).map PyData.int).length<=8:=by rw [length_map,length_drop];omega
  have n1:a1≠p:=pn4.ne ha1;have q3:=(i4.trans (g4.trans j4)).trans ((i5.trans (g5.trans j5)).trans ((i6.trans (g6.trans j6)).trans (j7.trans j8)));have q4:=(i5.trans (g5.trans j5)).trans ((i6.trans (g6.trans j6)).trans (j7.trans j8));have q5:=(i6.trans (g6.trans j6)).trans (j7.trans j8);have q6:=j7.trans j8;have q2:=(i3.trans j3).trans q3;have q1:=j2.trans q2;have rsA:Ac p J11 [.list (n0.map .int),.tuple ((n0.drop 1).map .int),.tuple (n0.map .int++[.int 0]),.tuple (.none::(n0.drop 1).map .int),.tuple (.bool true::(n0.drop 1).map .int),.tuple (.int (-1)::(n0.drop 1).map .int)] [.ref a1,.ref a2,.ref a3,.ref a4,.ref a5,.ref a6]:=
   .cons (Aa.lst n1 (e11.lst (q1 _ _ k1) n1) (HZ _)) (.cons (Aa.tup (e11.tup (q2 _ _ k2)) rdr) (.cons (Aa.tup (e11.tup (q3 _ _ k3)) ((HZ _).append (.cons Aa.int .nil))) (.cons (Aa.tup (e11.tup (q4 _ _ k4)) (.cons Aa.non rdr)) (.cons (Aa.tup (e11.tup (q5 _ _ k5)) (.cons Aa.bl rdr)) (.cons (Aa.tup (e11.tup (q6 _ _ k6)) (.cons Aa.int rdr)) .nil)))))
  have rsAll:Ac p J11 (nss.map AJ++[.list (n0.map .int),.tuple ((n0.drop 1).map .int),.tuple (n0.map .int++[.int 0]),.tuple (.none::(n0.drop 1).map .int),.tuple (.bool true::(n0.drop 1).map .int),.tuple (.int (-1)::(n0.drop 1).map .int)]++[d9]) (xs++[.ref a1,.ref a2,.ref a3,.ref a4,.ref a5,.ref a6]++[v9]):=((Ac.ev e4 _ _ rs4).append rsA).append (.cons (Aa.ev (f (j10.trans j11)) _ _ r9) .nil);have nsAll:∀d∈nss.map AJ++[.list (n0.map .int),.tuple ((n0.drop 1).map .int),.tuple (n0.map .int++[.int 0]),.tuple (.none::(n0.drop 1).map .int),.tuple (.bool true::(n0.drop 1).map .int),.tuple (.int (-1)::(n0.drop 1).map .int)]++[d9],Ed d:=λd hd=>by
   have s1:∀(c:PyData),Small 40 0 c->∀d∈c::(n0.drop 1).map PyData.int,Small 40 0 d:=λc hc d hd=>by
    rcases mem_cons.mp hd with rfl | hd
    ·exact hc
    ·exact smd d hd
   have l1':∀c:PyData,(c::(n0.drop 1).map PyData.int).length<=100:=λc=>by rw [length_cons];omega
   rcases mem_append.mp hd with hd | hd
   ·rcases mem_append.mp hd with hd | hd
    ·obtain⟨ns,hns,rfl⟩:=mem_map.mp hd;have g:=gn ns hns;exact Fh (Jr g.2) (by rw [length_map,g.1];omega)
    ·simp only [mem_cons,not_mem_nil,or_false] at hd;rcases hd with rfl | rfl | rfl | rfl | rfl | rfl
     ·exact TK sm0 (by rw [length_map,l0];omega)
     ·exact Fh smd (by omega)
     ·refine Fh (λd hd=>?_) (by rw [length_append,length_map,l0];show _+1<=100;omega);rcases mem_append.mp hd with hd | hd
      ·exact sm0 d hd
      ·rw [mem_singleton.mp hd];exact KW (by decide)
     ·exact Fh (s1 _ ⟨by decide+kernel,Nat.le_refl 0,rfl⟩) (l1' _)
     ·exact Fh (s1 _ ⟨by decide+kernel,Nat.le_refl 0,rfl⟩) (l1' _)
     ·exact Fh (s1 _ (KW (by decide))) (l1' _)
   ·rw [mem_singleton.mp hd];exact TH _ m9
  generalize nss.map AJ++[.list (n0.map .int),.tuple ((n0.drop 1).map .int),.tuple (n0.map .int++[.int 0]),.tuple (.none::(n0.drop 1).map .int),.tuple (.bool true::(n0.drop 1).map .int),.tuple (.int (-1)::(n0.drop 1).map .int)]++[d9]=dsA at rsAll nsAll;generalize xs++[V.ref a1,.ref a2,.ref a3,.ref a4,.ref a5,.ref a6]++[v9]=xsA at kL11 rsAll;have up:=run.up;have kn:k=S.ex.length:=by rcases run.fin with⟨_,z⟩ | ⟨_,_,z⟩;exact z;cases z
  rw [kn] at up;refine⟨L11,rfl,⟨_,Al.of kL11⟩,Ii (xs:=xsA) (λi σ H'=>(∃x8 x9 x10,σ=[some (.ref p),some (.ref PA),some u,some w,some vc,some (.ref D),some (.ref L7),some (.ref W),x8,x9,x10])/\Ab J11 H') ⟨⟨_,_,_,rfl⟩,Ab.refl _⟩ (λi σ H' _ h=>Al.of (h.2 _ _ kL11)) (λi y σ Hm hx h=>?_) fun σ Hm h=>?_⟩
  ·obtain⟨⟨x8',x9',x10',rfl⟩,sm⟩:=h;obtain⟨d,hd,rd0⟩:=rsAll.got hx;have nd:=nsAll d (mem_of_getElem? hd);have rdm:=Aa.ev (f sm) _ _ rd0;refine⟨p,d,rdm,nd,_,_,rfl,?_⟩;refine⟨D,_,rfl,.inr (Ae.of (sm _ _ hD11)),p,d,rdm,by rw [lD];omega,λb Hb eb sb=>?_⟩;rw [lD] at eb;have smb:=sm.trans sb;refine⟨λc=>?_,λc=>?_⟩
   ·subst c;obtain⟨ns,ed,ln,n00⟩:=Mr eb.symm;have rdn:Aa p J11 (AJ ns) y:=by rw [<-ed];exact rd0
    refine⟨p,P,S,F,ns,k,ok,so,fo,Aa.ev (f smb) _ _ tr11.r,Aa.ev (f smb) _ _ rc11,Aa.ev (f smb) _ _ rd11,Aa.ev (f smb) _ _ tr11.rw,Aa.ev (f smb) _ _ rdn,ln,run,λbg Hg ebg sg=>?_⟩;have smg:=smb.trans sg;refine⟨p,P,S,F,d,k,tr11.sm smg,Aa.ev (f smg) _ _ rd0,run,λb2 H2 h1 h2 s2=>⟨p,.bool b2,Aa.bl,GY b2,p,.bool bg,Aa.bl,GY bg,rfl,?_⟩⟩;have ebb:b2=bg:=by
     have i1:=h2 ns ed ln n00;have i2:=RC ok so fo up ln n00;exact Bool.eq_iff_iff.mpr (i1.trans (i2.trans ebg.symm))
    rw [ebb];refine⟨λz=>by simp at z,λ_=>⟨p,d,Aa.ev (f (smg.trans s2)) _ _ rd0,nd,rfl,⟨λz=>by simp at z,λ_=>⟨⟨_,_,_,rfl⟩,smg.trans s2⟩⟩⟩⟩
   ·subst c;refine⟨p,P,S,F,d,k,tr11.sm smb,Aa.ev (f smb) _ _ rd0,run,λb2 H2 h1 h2 s2=>⟨p,.bool b2,Aa.bl,GY b2,p,.bool false,Aa.bl,GY false,rfl,?_⟩⟩;have ebb:b2=false:=h1 eb.symm;rw [ebb];refine⟨λz=>by simp at z,λ_=>⟨p,d,Aa.ev (f (smb.trans s2)) _ _ rd0,nd,rfl,⟨λz=>by simp at z,λ_=>⟨⟨_,_,_,rfl⟩,smb.trans s2⟩⟩⟩⟩
  ·obtain⟨⟨x8',x9',x10',rfl⟩,sm⟩:=h;exact q _ (eH11.trans (A2.same sm)) (pn11.same sm) (tb11.same sm)
 ·exact h.elim
end
theorem TU {P:PL}{S:SY}{f:List (List Int)}{ms:List Int} (g:Gr (terms P S) f ms):FOk P S f:=by
 have lco:(terms P S).co.length=P.bs.length:=by show(P.bs.map (·.2)).length=_;rw [length_map]
 have lds:(terms P S).ds.length=S.ex.length:=CJ;have gf:∀(i:Nat) (r:List Int),f[i]? =some r->i<f.length/\f.getD i []=r:=λi r h=>⟨(List.getElem?_eq_some_iff.mp h).1,by rw [getD_eq_getElem?_getD,h];rfl⟩
 refine⟨by rw [g.lf,lds],λi r h=>?_,λi r j x c h hx hc=>?_⟩
 ·obtain⟨hi,e⟩:=gf i r h;have:=g.row i hi;rw [e,lco] at this;exact this
 ·obtain⟨hi,e⟩:=gf i r h;have hr:=g.row i hi;rw [e] at hr;have hj:j<(terms P S).co.length:=by rw [<-hr];exact(List.getElem?_eq_some_iff.mp hx).1
  have b:=g.bd i j hi hj;have e1:(terms P S).cs.getD i []=BV P.bs S.fs i:=by
   show(caps P S).getD i []=_;rw [getD_eq_getElem?_getD,De (by rw [<-lds,<-g.lf];exact hi)];rfl
  rw [e,e1,getD_eq_getElem?_getD,hx,getD_eq_getElem?_getD,hc] at b;exact b
theorem Mt {n:Nat}:(List.replicate n true).all id=true:=by
 rw [all_eq_true];intro b hb;rw [(List.mem_replicate.mp hb).2];rfl
theorem Js (F:List (List Int)):BX (FD F)=true:=Cf (ds:=F.map AJ) λd hd=>by
 obtain⟨r,_,rfl⟩:=mem_map.mp hd;exact DS r
theorem TV (P:PL):BX P.d=true:=Cf (ds:=[.tuple (P.bs.map bD),.tuple (P.es.map eD),.tuple [.int P.lo,.int P.hi,.int P.st]]) λd hd=>by
 simp only [mem_cons,not_mem_nil,or_false] at hd;rcases hd with rfl | rfl | rfl
 ·exact Cf λd hd=>by obtain⟨b,_,rfl⟩:=mem_map.mp hd;rfl
 ·exact Cf λd hd=>by obtain⟨b,_,rfl⟩:=mem_map.mp hd;rfl
 ·rfl
theorem TW (S:SY):BX S.d=true:=Cf (ds:=[AJ S.ex,.tuple (S.fs.map FT.d)]) λd hd=>by
 simp only [mem_cons,not_mem_nil,or_false] at hd;rcases hd with rfl | rfl
 ·exact DS _
 ·exact Cf λd hd=>by obtain⟨b,_,rfl⟩:=mem_map.mp hd;rfl
structure Mu (p L:Addr) (P:PL) (S:SY) (H:Hp):Prop where
 ex:∃(xs:List V) (fs:List (List (List Int))),H L=some (.lst xs)/\Ac p H (fs.map FD) xs/\(∀F∈fs,FOk P S F)/\fs.length<=3
 nL:L≠p
section
variable {P : Program} {w : World} {K : Fgx} {mg : Str -> Option Value} {base : Heap}
theorem zac:Ax ["_law_script","_law_cell_here","_law_pen_here","_law_turn","_law_plant_here","_law_story_here","_law_caps_here","_law_paper","_law_firings"] ["_law_script"] (Ap wa1):=AA
theorem TX {TB:Addr}{lf:Addr}{lfd:FuncData} (F:D5 K "law" "law" wa1 lf lfd) (T:Tx mg) (yad:Fn P w K mg base 1 "_law_caps" ["_law_plant_here","_law_story_here"] FP) (yaR:Fn P w K mg base 1 "_law_cell" ["_law_script","_law_k"] (Hi K)) (yaS:Fn P w K mg base 2 "_law_firing" ["_law_pen_here","_law_caps_here"] HM) (yaT:Fn P w K mg base 1 "_law_pen" ["_law_cell_here"] Hj) (yaU:Fn P w K mg base 2 "_law_plant" ["_law_pen_here"] Hk) (yaV:Fn P w K mg base 19 "_law_right" ["_law_pen_here","_law_plant_here","_law_story_here","_law_firing_here"] (F0 TB)) (yaW:Fn P w K mg base 2 "_law_story" ["_law_pen_here","_law_plant_here"] Hv) (yac:Fn P w K mg base 11 "cheapest" ["plant","story"] FW):CH P w K mg base CX0 20 lf lfd ["_law_script"] (sp_law K TB):=by
 refine F.ok zac (λvs H Q E h=>?_) (λcdv A outer s H vs Q E hr h=>?_)
 ·exact Rv h
 refine⟨_,(Aj (Bs PassesOwn.never rfl (Ee K (As FE (Ca (Ak (Am yaR (hr.mono (by decide)) rfl (Aq (cy 0) Af)))) (Cs (KN K) (cy 0) (BS Af) (BS Af)))) (Ag 1 zac.nd) (Aj (AD (i:=2) zac.nd rfl (Az (by rfl)) (Am yaT (hr.mono (by decide)) rfl (Ak (cy 1)))) (An (Bs PassesOwn.never rfl (BQ rfl T.b_range (Ak Af)) (Ag 3 zac.nd) (Aj (AD (i:=4) zac.nd rfl (Az (by rfl)) (Am yaU (hr.mono (by decide)) rfl (Ak (cy 2)))) (Aj (AD (i:=5) zac.nd rfl (Az (by rfl)) (Am yaW (hr.mono (by decide)) rfl (Aq (cy 2) (cy 4)))) (Aj (Dz (i:=6) (j:=7) rfl zac.nd rfl rfl (by decide) rfl rfl (Aq (Am yad (hr.mono (by decide)) rfl (Aq (cy 4) (cy 5))) (Am yac (hr.mono (by decide)) rfl (Aq (cy 4) (cy 5)))) (by rfl)) (Aj (AD (i:=8) zac.nd rfl (Az (by rfl)) (Ca (Aq (cy 6) (Am yaS (hr.mono (by decide)) rfl (Aq (cy 2) (cy 6)))))) (Aj (A8 (AS DB (Au (AF K) (cy 7) Af (λ_ _=>rfl)) AT (AN _)) (An (Br (BZ PySem.F.plainAttrs_list PySem.F.slot_list_append PySem.F.type_list_append B6 (cy 8) (Ak (Au (AF K) (cy 7) Af (λ_ _=>rfl)))))) A6) (An (A8 (B5 (BU (At (Db rfl) rfl T.b_all boot_all (Ak (A7 ["_law_firing_here","_law_pen_here","_law_plant_here","_law_story_here"] [none,some 2,some 4,some 5] rfl (Ee K (cy 8)) (AE.of rfl) (λ_ _ _ _=>(Ag 0 (AB (by rfl)))) (λ_ _ _ _=>AY) (λ_ _ _ _=>(Am yaV (hr.mono (by decide)) rfl (Bp (cy 1) (cy 2) (cy 3) (cy 0))))))))) (An (Aw Bw)) A6))))))))))) (An (Aw Bw))),?_⟩;unfold sp_law at h;split at h
 ·rename_i a;obtain⟨ns,hS,hn63,hTB,q⟩:=h;have tb0:TabIn H TB DW:=⟨#[],hTB,trivial,λpos v e=>(by have:(none:Option Value)=some v:=e;cases this)⟩;refine⟨ns,hS,by decide,λc0 l1 H01 s01 hl1 k01=>?_⟩;have hS1:Al K H01 a (ns.map V.int):=s01.seq hS;refine⟨1,rfl,2,rfl,a,_,rfl,hS1,λl2 hl2=>?_⟩;have lc:(Bf (ns.map V.int) (some 1) (some 2)).length<=63:=Nat.le_trans (EE _ _ _) (by rw [length_map];exact hn63);refine⟨l1,l2,[.int c0],_,rfl,rfl,(Ab.new hl2) _ _ k01,Ah,GZ (by rw [List.length_singleton];omega),λL H02 s02 hL kL=>?_⟩;have allI:∀v∈ [V.int c0]++Bf (ns.map V.int) (some 1) (some 2),∃i,v= .int i:=λv hv=>by
   rcases mem_append.mp hv with hv | hv
   ·exact⟨c0,mem_singleton.mp hv⟩
   ·obtain⟨i,_,e⟩:=mem_map.mp (Rw hv);exact⟨i,e.symm⟩
  have tb1:=tb0.same (s01.trans ((Ab.new hl2).trans s02));generalize [V.int c0]++Bf (ns.map V.int) (some 1) (some 2)=xs at allI kL;refine⟨L,rfl,⟨xs,Al.of kL⟩,Ii (xs:=xs) (λi σ H'=>(∃x1 x2 x3 x4 x5 x6 x7 x8,σ=[some (.ref a),x1,x2,x3,x4,x5,x6,x7,x8])/\H' L=some (.lst xs)/\TabIn H' TB DW) ⟨⟨_,_,_,_,_,_,_,_,rfl⟩,kL,tb1⟩ (λi σ H' _ h=>Al.of h.2.1) (λi x σ H1 hx h=>?_) fun σ H1 h=>q H1⟩;obtain⟨⟨x1,x2,x3,x4,x5,x6,x7,x8,rfl⟩,hL1,tb2⟩:=h;obtain⟨c,rfl⟩:=allI x (mem_of_getElem? hx);refine λp l f hp=>?_
  have nLp:L≠p:=Bb hL1 hp;have np:=Ab.new (o:= .lst [.int l,.int f]) hp;have pn2:AQ p (upd H1 p (.lst [.int l,.int f])):=⟨l,f,Ah⟩;have hL2:=np _ _ hL1;have tb3:=tb2.same np;generalize upd H1 p (.lst [.int l,.int f])=H2 at np pn2 hL2 tb3 ⊢;refine⟨3,rfl,by decide,by decide,C1 (n:=3) (λi σ H'=>(∃x3 x4 x5 x6 x7 x8,σ=[some (.ref a),some (.int c),some (.ref p),x3,x4,x5,x6,x7,x8])/\H' L=some (.lst xs)/\TabIn H' TB DW/\AQ p H') ⟨⟨_,_,_,_,_,_,rfl⟩,hL2,tb3,pn2⟩ (λi0 σ H' hi h=>?_) fun σ H' h=>?_⟩
  ·obtain⟨⟨x3,x4,x5,x6,x7,x8,rfl⟩,hL3,tb4,pn3⟩:=h;refine⟨pn3,λv H3 bs es lo hi' st gp rv e3 pn4=>?_⟩;obtain⟨P,ok,eP⟩:=gp.pl;rw [eP] at rv;refine⟨pn4,P,ok,rv,λu H4 S so ru e4 pn5=>?_⟩;have fS:=λ{H H':Hp} (s:Ab H H')=>Ev.same (p:=p) s
   have rv4:=Aa.ev e4 _ _ rv;refine⟨p,P,S,ok,so,rv4,ru,λvc H5 s5 rc=>⟨p,P,S,ok,so,Aa.ev (fS s5) _ _ rv4,Aa.ev (fS s5) _ _ ru,λx H6 d s6 pd rx=>⟨_,_,rfl,?_⟩⟩⟩;have rc6:=Aa.ev (fS s6) _ _ rc;have pn6:=pn5.same (s5.trans s6);refine⟨pn6,P,S,ok,so,rc6,λw7 H7 F fo rf e7 pn7=>λFL H8 s8 hFL kFL=>?_⟩;have e68:Ev p H6 H8:=e7.trans (fS s8);have e08:Ev p H' H8:=e3.trans (e4.trans ((fS (s5.trans s6)).trans e68));have rv8:=Aa.ev ((fS (s5.trans s6)).trans e68) _ _ rv4;have ru8:=Aa.ev ((fS (s5.trans s6)).trans e68) _ _ ru;have pn8:=pn7.same s8;have nFL:FL≠p:=pn7.ne hFL;have tb8:=tb4.ev e08;have hL8:=e08.lst hL3 nLp;have nLL:L≠FL:=Bb (e7.lst (((fS (s5.trans s6)).lst (e4.lst (e3.lst hL3 nLp) nLp) nLp)) nLp) hFL;have rx8:=Aa.ev e68 _ _ rx;have fis:Mu p FL P S H8:=⟨⟨_,[caps P S,F],kFL,.cons (Aa.ev e68 _ _ rc6) (.cons (Aa.ev (fS s8) _ _ rf) .nil),λG hG=>by
    simp only [mem_cons,not_mem_nil,or_false] at hG;rcases hG with rfl | rfl
    ·exact FOk.caps ok
    ·exact fo,(show 2<=3 from by decide)⟩,nFL⟩
   cases pd with
   | short hq=>
    obtain⟨A',ys',rfl,hA,rs⟩:=Aa.shape rx8;obtain⟨y1,y2,y3,rfl,r1,r2,r3⟩:=Ac.three rs;unfold Aa at r1;subst r1;refine⟨A',_,0,.str "short",rfl,rfl,Ae.of hA,rfl,rfl,⟨λc=>absurd c (by decide+kernel),λc=>?_⟩⟩;obtain⟨ys,fs,kF,rF,gF,l3⟩:=fis.ex;have lF:=rF.len;rw [length_map] at lF;refine⟨FL,rfl,⟨_,Al.of kF⟩,Ft (xs:=ys) (λj zs H'=>A2 p H8 H'/\AQ p H'/\TabIn H' TB DW/\zs=List.replicate j (V.bl true)) (by omega) ⟨A2.refl,pn8,tb8,rfl⟩ (λj zs H' h=>by rw [h.2.2.2,length_replicate];exact Nat.le_refl _) (λj zs H' _ h=>Al.of (h.1.lst kF fis.nL)) (λj y zs H' hy h=>?_) λzs H' h=>?_⟩
    ·obtain⟨G,hG,rG⟩:=Ac.mapGot rF hy;refine⟨⟨rfl,rfl,rfl,trivial⟩,λ_=>⟨h.2.1,h.2.2.1,P,S,G,⟨ok,so,gF G (mem_of_getElem? hG),Aa.evT h.1 _ _ rv8,Aa.evT h.1 _ _ ru8,Aa.evT h.1 _ _ rG⟩,λH'' e pn' tb'=>⟨h.1.trans e,pn',tb',?_⟩⟩,λz=>(by cases z)⟩;rw [h.2.2.2,replicate_succ']
    ·intro m hm;obtain⟨e,pn',tb',rfl⟩:=h;have nm:=Ab.new (o:= .lst (List.replicate ys.length (V.bl true))) hm;refine⟨m,List.replicate ys.length true,rfl,by rw [Ah,map_replicate],?_⟩;rw [Mt];exact⟨λz=>(by cases z),λ_=>⟨⟨_,_,_,_,_,_,rfl⟩,nm _ _ (e.lst hL8 nLp),tb'.same nm,pn'.same nm⟩⟩
   | @fired ff fms fc ps no gr lo' hf=>
    obtain⟨A',ys',rfl,hA,rs⟩:=Aa.shape rx8;obtain⟨y1,y2,y3,y4,rfl,r1,r2,r3,r4⟩:=Ac.four rs;unfold Aa at r1 r2;subst r1 r2;refine⟨A',_,0,.str "fired",rfl,rfl,Ae.of hA,rfl,rfl,⟨λc=>?_,λc=>absurd c (by decide+kernel)⟩⟩;refine⟨.inl ⟨rfl,_,Al.of kFL⟩,A',_,2,y3,rfl,rfl,Ae.of hA,rfl,FL,_,_,rfl,rfl,kFL,DE (show 2<=1000 from by decide),?_⟩;have tv:=TEv.upd (zs:=[vc,w7]++[y3]) kFL;have hL9:upd H8 FL (.lst ([vc,w7]++[y3])) L=some (.lst xs):=by rw [Ar nLL];exact hL8
    have tb9:TabIn (upd H8 FL (.lst ([vc,w7]++[y3]))) TB DW:=tb8.ev (Ev.pen kFL);have pn9:=pn8.own (o:= .lst ([vc,w7]++[y3])) nFL;have rv9:=Aa.tev (p':=p) tv _ _ (TV P) rv8;have ru9:=Aa.tev (p':=p) tv _ _ (TW S) ru8;have fis9:Mu p FL P S (upd H8 FL (.lst ([vc,w7]++[y3]))):=⟨⟨_,[caps P S,F,ff],Ah,.cons (Aa.tev tv _ _ (Js _) (Aa.ev e68 _ _ rc6)) (.cons (Aa.tev tv _ _ (Js _) (Aa.ev (fS s8) _ _ rf)) (.cons (Aa.tev tv _ _ (Js _) r3) .nil)),λG hG=>by
     simp only [mem_cons,not_mem_nil,or_false] at hG;rcases hG with rfl | rfl | rfl
     ·exact FOk.caps ok
     ·exact fo
     ·exact TU gr,(show 3<=3 from by decide)⟩,nFL⟩
    generalize upd H8 FL (.lst ([vc,w7]++[y3]))=H9 at hL9 tb9 pn9 rv9 ru9 fis9 ⊢;obtain⟨ys,fs,kF,rF,gF,l3⟩:=fis9.ex;have lF:=rF.len;rw [length_map] at lF;refine⟨FL,rfl,⟨_,Al.of kF⟩,Ft (xs:=ys) (λj zs H'=>A2 p H9 H'/\AQ p H'/\TabIn H' TB DW/\zs=List.replicate j (V.bl true)) (by omega) ⟨A2.refl,pn9,tb9,rfl⟩ (λj zs H' h=>by rw [h.2.2.2,length_replicate];exact Nat.le_refl _) (λj zs H' _ h=>Al.of (h.1.lst kF fis9.nL)) (λj y zs H' hy h=>?_) λzs H' h=>?_⟩
    ·obtain⟨G,hG,rG⟩:=Ac.mapGot rF hy;refine⟨⟨rfl,rfl,rfl,trivial⟩,λ_=>⟨h.2.1,h.2.2.1,P,S,G,⟨ok,so,gF G (mem_of_getElem? hG),Aa.evT h.1 _ _ rv9,Aa.evT h.1 _ _ ru9,Aa.evT h.1 _ _ rG⟩,λH'' e pn' tb'=>⟨h.1.trans e,pn',tb',?_⟩⟩,λz=>(by cases z)⟩;rw [h.2.2.2,replicate_succ']
    ·intro m hm;obtain⟨e,pn',tb',rfl⟩:=h;have nm:=Ab.new (o:= .lst (List.replicate ys.length (V.bl true))) hm;refine⟨m,List.replicate ys.length true,rfl,by rw [Ah,map_replicate],?_⟩;rw [Mt];exact⟨λz=>(by cases z),λ_=>⟨⟨_,_,_,_,_,_,rfl⟩,nm _ _ (e.lst hL9 nLp),tb'.same nm,pn'.same nm⟩⟩
  ·obtain⟨⟨x3,x4,x5,x6,x7,x8,rfl⟩,hL3,tb4,pn3⟩:=h;exact⟨⟨_,_,_,_,_,_,_,_,rfl⟩,hL3,tb4⟩
 ·exact h.elim
end
end MF
end
section
namespace MF
open L2
variable {oc pm : Value} {od an : Option Addr} {sl : Array (Option Value)} {h : Heap} {ps : List Str} {p0 p1 p2 p3 : Str}
abbrev D4 (K:Fgx) (x:Str) (st:Stmt):Prop:=∃(f:Addr) (oc:Value) (od an:Option Addr) (sl:Array (Option Value)) (kV dc pm cd ct:Value),PySem.W.nsIn K mainGlobals x=some (some (.ref f))/\K.lookup f=some ⟨oc,od,.func (PySem.W.fnOf x x (BL st) (Bi st) (Ap st) .none kV dc pm an cd ct),sl⟩/\PySem.W.codeIn K cd x=true/\PySem.W.keepIn K (.ref f)=true
theorem d4_mk {K:Fgx}{x:Str}{st:Stmt}{f:Addr}{kV dc cd ct:Value} (a:PySem.W.nsIn K mainGlobals x=some (some (.ref f))) (l:K.lookup f=some ⟨oc,od,.func (PySem.W.fnOf x x (BL st) (Bi st) (Ap st) .none kV dc pm an cd ct),sl⟩) (c:PySem.W.codeIn K cd x=true) (k:PySem.W.keepIn K (.ref f)=true):D4 K x st:=⟨_,_,_,_,_,_,_,_,_,_,a,l,c,k⟩
theorem F1 {K:Fgx}{mg:Str->Option Value}{x:Str}{st:Stmt} (X:K.In h) (G:h.Ns mainGlobals mg) (d:D4 K x st)
  (hb:∀(kV doc pm:Value) (an:Option Addr) (cdv ct:Value) (us:List Value),us.length=ps.length->bindArgs (PySem.W.fnOf x x (BL st) (Bi st) (Ap st) .none kV doc pm an cdv ct) ⟨us,[]⟩=pure (ps.zip us)):Df K mg x st ps:=by
 obtain⟨f,_,_,_,_,_,_,_,_,_,a,l,c,k⟩:=d;exact⟨f,_,Gg l c k,PySem.W.mg_of X G a,(Gg l c k).binds hb⟩
theorem BY {K:Fgx}{mg:Str->Option Value}{x:Str}{st:Stmt} (X:K.In h) (G:h.Ns mainGlobals mg) (d:D4 K x st) (hb:∀(kV doc pm:Value) (an:Option Addr) (cdv ct a0:Value),bindArgs (PySem.W.fnOf x x (BL st) (Bi st) (Ap st) .none kV doc pm an cdv ct) ⟨[a0],[]⟩=pure ([p0].zip [a0]):=by intros;rfl):Df K mg x st [p0]:=
 F1 X G d λ_ _ _ _ _ _ us hl=>match us,hl with | [_],_=>hb _ _ _ _ _ _ _
theorem BE {K:Fgx}{mg:Str->Option Value}{x:Str}{st:Stmt} (X:K.In h) (G:h.Ns mainGlobals mg) (d:D4 K x st) (hb:∀(kV doc pm:Value) (an:Option Addr) (cdv ct a0 a1:Value),bindArgs (PySem.W.fnOf x x (BL st) (Bi st) (Ap st) .none kV doc pm an cdv ct) ⟨[a0,a1],[]⟩=pure ([p0,p1].zip [a0,a1]):=by intros;rfl):Df K mg x st [p0,p1]:=
 F1 X G d λ_ _ _ _ _ _ us hl=>match us,hl with | [_,_],_=>hb _ _ _ _ _ _ _ _
theorem BP {K:Fgx}{mg:Str->Option Value}{x:Str}{st:Stmt} (X:K.In h) (G:h.Ns mainGlobals mg) (d:D4 K x st) (hb:∀(kV doc pm:Value) (an:Option Addr) (cdv ct a0 a1 a2:Value),bindArgs (PySem.W.fnOf x x (BL st) (Bi st) (Ap st) .none kV doc pm an cdv ct) ⟨[a0,a1,a2],[]⟩=pure ([p0,p1,p2].zip [a0,a1,a2]):=by intros;rfl):Df K mg x st [p0,p1,p2]:=
 F1 X G d λ_ _ _ _ _ _ us hl=>match us,hl with | [_,_,_],_=>hb _ _ _ _ _ _ _ _ _
theorem F2 {K:Fgx}{mg:Str->Option Value}{x:Str}{st:Stmt} (X:K.In h) (G:h.Ns mainGlobals mg) (d:D4 K x st) (hb:∀(kV doc pm:Value) (an:Option Addr) (cdv ct a0 a1 a2 a3:Value),bindArgs (PySem.W.fnOf x x (BL st) (Bi st) (Ap st) .none kV doc pm an cdv ct) ⟨[a0,a1,a2,a3],[]⟩=pure ([p0,p1,p2,p3].zip [a0,a1,a2,a3]):=by intros;rfl):Df K mg x st [p0,p1,p2,p3]:=
 F1 X G d λ_ _ _ _ _ _ us hl=>match us,hl with | [_,_,_,_],_=>hb _ _ _ _ _ _ _ _ _ _
theorem TY {K:Fgx}{mg:Str->Option Value}{x:Str}{st:Stmt}{p4:Str} (X:K.In h) (G:h.Ns mainGlobals mg) (d:D4 K x st) (hb:∀(kV doc pm:Value) (an:Option Addr) (cdv ct a0 a1 a2 a3 a4:Value),bindArgs (PySem.W.fnOf x x (BL st) (Bi st) (Ap st) .none kV doc pm an cdv ct) ⟨[a0,a1,a2,a3,a4],[]⟩=pure ([p0,p1,p2,p3,p4].zip [a0,a1,a2,a3,a4]):=by intros;rfl):Df K mg x st [p0,p1,p2,p3,p4]:=
 F1 X G d λ_ _ _ _ _ _ us hl=>match us,hl with | [_,_,_,_,_],_=>hb _ _ _ _ _ _ _ _ _ _ _
theorem TZ {K:Fgx}{mg:Str->Option Value}{x:Str}{st:Stmt}{f c:Addr}{kV doc ct:Value} (X:K.In h) (G:h.Ns mainGlobals mg)
  (a:PySem.W.nsIn K mainGlobals x=some (some (.ref f))) (l:K.lookup f=some ⟨oc,od,.func (PySem.W.fnOf x x (BL st) (Bi st) (Ap st) .none kV doc pm an (.ref c) ct),sl⟩) (hc:PySem.W.codeIn K (.ref c) x=true) (k:PySem.W.keepIn K (.ref f)=true)
  (hb:∀(kV doc pm:Value) (an:Option Addr) (cdv ct:Value) (us:List Value),us.length=ps.length->bindArgs (PySem.W.fnOf x x (BL st) (Bi st) (Ap st) .none kV doc pm an cdv ct) ⟨us,[]⟩=pure (ps.zip us)):FJ K mg x st ps c:=
 ⟨⟨f,_,⟨_,_,_,_,_,_,_,_,rfl,l,hc⟩,PySem.W.mg_of X G a,k,(Gg l hc k).binds hb⟩⟩
theorem T0 {K:Fgx}{x:Str}{f c T:Addr}{fd:FuncData} (a:PySem.W.nsIn K mainGlobals x=some (some (.ref f))) (l:K.lookup f=some ⟨oc,od,.func fd,sl⟩) (t:PySem.W.tabIn K x=some (c,T)):fd.code= .ref c:=by
 unfold PySem.W.tabIn at t;rw [a] at t;simp only [l] at t;split at t
 ·rename_i c' hc;split at t
  ·split at t
   ·have t':=Option.some.inj t;have e:c'=c:=congrArg Prod.fst t';rw [hc,e]
   ·cases t
  ·cases t
 ·cases t
abbrev FnAt (x:Str) (st:Stmt) (kV dc pm:Value) (an:Option Addr) (cd ct:Value):FuncData:=PySem.W.fnOf x x (BL st) (Bi st) (Ap st) .none kV dc pm an cd ct
open PySem.W in
theorem all_mk {l:OpenLaw}{w:World}{K:Frag}{mg:Str->Option Value}{fa c TB:Addr} (X:K.In h) (G:h.Ns mainGlobals mg) (hfa:mg "law"=some (.ref fa)) (ht:tabIn K "_law_right"=some (c,TB))
  {f57 f59:Addr}{R57 N57 R59 N59:Option Addr}{S57 S59:Array (Option Value)}{O57 V57 U57 W57 Y57 Z57 O59 V59 U59 W59 Y59 Z59:Value}
  (a0:D4 K "_law_caps" waP)
  (a1:D4 K "_law_cell" waK)
  (a2:D4 K "_law_draw" waM)
  (a3:D4 K "_law_firing" waR)
  (a4:D4 K "_law_pen" waL)
  (a5:D4 K "_law_plant" waN)
  (a6:D4 K "_law_prices" waT)
  (a7:D4 K "floor_at" waC)
  (a8:D4 K "tails_from" waE)
  (a9:D4 K "highest_floor" waD)
  (a10:D4 K "room_between" waH)
  (a11:D4 K "make_cheapest" waG)
  (a12:D4 K "least_firing" waF)
  (a13:D4 K "is_too_much" waz)
  (a14:D4 K "least_stretch" waA)
  (a15:D4 K "cap_under" wak)
  (a16:D4 K "words_for" waj)
  (a17:D4 K "caps_in" wai)
  (a18:D4 K "is_tuple_of" wa5)
  (a19:D4 K "is_whole" wa3)
  (a20:D4 K "is_whole_from" wa4)
  (a21:D4 K "is_fault" waf)
  (a22:D4 K "is_make_and_coal" wa9)
  (a23:D4 K "are_boilers" wa8)
  (a24:D4 K "is_engine" wab)
  (a25:D4 K "are_engines" waa)
  (a26:D4 K "is_main" wac)
  (a27:D4 K "is_plant" wa7)
  (a28:D4 K "need_plant" wad)
  (a29:D4 K "is_story" wae)
  (a30:D4 K "need_story" wag)
  (a31:D4 K "caps_of" wah)
  (a32:D4 K "drawn_by" wam)
  (a33:D4 K "draws_of" wal)
  (a34:D4 K "terms_of" wan)
  (a35:D4 K "cheapest" waI)
  (a36:D4 K "_law_all_prices" waZ)
  (a37:D4 K "_law_are_prices" waY)
  (a38:D4 K "_law_draws" waQ)
  (a39:D4 K "_law_run" waS)
  (a40:D4 K "_law_good" waX)
  (a41:D4 K "_law_odd" waU)
  (a42:D4 K "_law_kind" waV)
  (a43:D4 K "_law_said" waW)
  (a44:D4 K "is_row" waq)
  (a45:D4 K "is_firing_within" wap)
  (a46:D4 K "is_firing" wao)
  (a47:D4 K "need_firing" war)
  (a48:D4 K "steam_by" wax)
  (a49:D4 K "coal_of" waw)
  (a50:D4 K "is_counts" wa6)
  (a51:D4 K "floor_of" waB)
  (a52:D4 K "run_day" was)
  (a53:D4 K "falls_at" wat)
  (a54:D4 K "keeps_up" wau)
  (a55:D4 K "need_keeping" wav)
  (a56:D4 K "prices_hold" waJ)
  (a57:nsIn K mainGlobals "_law_right"=some (some (.ref f57))) (l57:K.lookup f57=some ⟨O57,R57,.func (FnAt "_law_right" wa2 V57 U57 W57 N57 Y57 Z57),S57⟩) (c57:codeIn K Y57 "_law_right"=true) (k57:keepIn K (.ref f57)=true)
  (a58:D4 K "_law_story" waO)
  (a59:nsIn K mainGlobals "law"=some (some (.ref f59))) (l59:K.lookup f59=some ⟨O59,R59,.func (FnAt "law" wa1 V59 U59 W59 N59 Y59 Z59),S59⟩) (c59:codeIn K Y59 "law"=true) (k59:keepIn K (.ref f59)=true)
  (z0:nsIn K mainGlobals "ValueError"=some none)
  (z1:nsIn K mainGlobals "all"=some none)
  (z2:nsIn K mainGlobals "bool"=some none)
  (z3:nsIn K mainGlobals "divmod"=some none)
  (z4:nsIn K mainGlobals "enumerate"=some none)
  (z5:nsIn K mainGlobals "int"=some none)
  (z6:nsIn K mainGlobals "isinstance"=some none)
  (z7:nsIn K mainGlobals "len"=some none)
  (z8:nsIn K mainGlobals "list"=some none)
  (z9:nsIn K mainGlobals "max"=some none)
  (z10:nsIn K mainGlobals "min"=some none)
  (z11:nsIn K mainGlobals "range"=some none)
  (z12:nsIn K mainGlobals "repr"=some none)
  (z13:nsIn K mainGlobals "reversed"=some none)
  (z14:nsIn K mainGlobals "sorted"=some none)
  (z15:nsIn K mainGlobals "sum"=some none)
  (z16:nsIn K mainGlobals "tuple"=some none)
  (z17:nsIn K mainGlobals "zip"=some none)
  {t0:Tok} (q0:nsIn K mainGlobals "MOST_BOILERS"=some (some (.int 4 t0)))
  {t1:Tok} (q1:nsIn K mainGlobals "MOST_ENGINES"=some (some (.int 4 t1)))
  {t2:Tok} (q2:nsIn K mainGlobals "MOST_FAULTS"=some (some (.int 4 t2)))
  {t3:Tok} (q3:nsIn K mainGlobals "MOST_HOURS"=some (some (.int 8 t3)))
  {t4:Tok} (q4:nsIn K mainGlobals "MOST_UNITS"=some (some (.int 9 t4)))
  {t5:Tok} (q5:nsIn K mainGlobals "MOST_EXTRA"=some (some (.int 20 t5)))
  {t6:Tok} (q6:nsIn K mainGlobals "MOST_IN_MAIN"=some (some (.int 40 t6)))
  {M d0 d1 d2 d3 d4 d5 d6 d7 d8 d9 d10 d11 d12 d13 d14 d15 d16 d17 d18:Addr}
  (y0:nsIn K mainGlobals "NoPlant"=some (some (.ref d0)))
  (y1:nsIn K mainGlobals "NoStory"=some (some (.ref d1)))
  (y2:nsIn K mainGlobals "NoFiring"=some (some (.ref d2)))
  (y3:nsIn K mainGlobals "NoHour"=some (some (.ref d3)))
  (y4:nsIn K mainGlobals "NoBoiler"=some (some (.ref d4)))
  (y5:nsIn K mainGlobals "NoPrices"=some (some (.ref d5)))
  (y6:nsIn K mainGlobals "NoWay"=some (some (.ref d6)))
  (y7:nsIn K mainGlobals "NoSet"=some (some (.ref d7)))
  (y8:nsIn K mainGlobals "NoTanks"=some (some (.ref d8)))
  (y9:nsIn K mainGlobals "NoPump"=some (some (.ref d9)))
  (y10:nsIn K mainGlobals "NoFeeding"=some (some (.ref d10)))
  (y11:nsIn K mainGlobals "NoReadings"=some (some (.ref d11)))
  (y12:nsIn K mainGlobals "NoStart"=some (some (.ref d12)))
  (y13:nsIn K mainGlobals "NoShifts"=some (some (.ref d13)))
  (y14:nsIn K mainGlobals "NoBook"=some (some (.ref d14)))
  (y15:nsIn K mainGlobals "NoAmount"=some (some (.ref d15)))
  (y16:nsIn K mainGlobals "NoDeed"=some (some (.ref d16)))
  (y17:nsIn K mainGlobals "NoLine"=some (some (.ref d17)))
  (y18:nsIn K mainGlobals "NoText"=some (some (.ref d18)))
  (yM:nsIn K mainGlobals "MainError"=some (some (.ref M))) (yB:mroIn K M (.type "BaseException")=some true) (yT:typeIn K (.ref M)=some (.type "type"))
  (x2:excIn K d2 IY "ValueError.__new__"=true) (w2:EW K M [d0,d1,d2,d3,d4,d5,d6,d7,d8,d9,d10,d11,d12,d13,d14,d15,d16,d17,d18] 2=true)
  :∃fd:FuncData,(∀(s:Shared) (v:Value),BindsTo s fd ⟨[v],[]⟩ [("_law_script",v)])/\∀base:Heap,K.In base->base.Ns mainGlobals mg->CodeHd base c TB->base.BuiltinsAt mg TB->CH l.prog w K mg base CX0 20 fa fd ["_law_script"] (sp_law K TB):=by
 have e:=hfa.symm.trans (PySem.W.mg_of X G a59);cases e;have T:Tx mg:=⟨mg_none_of X G z0,mg_none_of X G z1,mg_none_of X G z2,mg_none_of X G z3,mg_none_of X G z4,mg_none_of X G z5,mg_none_of X G z6,mg_none_of X G z7,mg_none_of X G z8,mg_none_of X G z9,mg_none_of X G z10,mg_none_of X G z11,mg_none_of X G z12,mg_none_of X G z13,mg_none_of X G z14,mg_none_of X G z15,mg_none_of X G z16,mg_none_of X G z17,⟨_,mg_of X G q0⟩,⟨_,mg_of X G q1⟩,⟨_,mg_of X G q2⟩,⟨_,mg_of X G q3⟩,⟨_,mg_of X G q4⟩,⟨_,mg_of X G q5⟩,⟨_,mg_of X G q6⟩⟩;have C:Tc K mg M [d0,d1,d2,d3,d4,d5,d6,d7,d8,d9,d10,d11,d12,d13,d14,d15,d16,d17,d18]:=⟨mg_of X G y0,mg_of X G y1,mg_of X G y2,mg_of X G y3,mg_of X G y4,mg_of X G y5,mg_of X G y6,mg_of X G y7,mg_of X G y8,mg_of X G y9,mg_of X G y10,mg_of X G y11,mg_of X G y12,mg_of X G y13,mg_of X G y14,mg_of X G y15,mg_of X G y16,mg_of X G y17,mg_of X G y18,mg_of X G yM,yB,yT,y2,x2,w2⟩;have ec:Y57= .ref c:=T0 a57 l57 ht;subst ec;have F57:FJ K mg "_law_right" wa2 ["_law_pen_here","_law_plant_here","_law_story_here","_law_firing_here"] c:=TZ X G a57 l57 c57 k57 λ_ _ _ _ _ _ us hl=>match us,hl with | [_,_,_,_],_=>rfl
 have F59:=Gg (st:=wa1) l59 c59 k59;refine⟨PySem.W.fnOf "law" "law" (BL wa1) (Bi wa1) (Ap wa1) .none V59 U59 W59 N59 Y59 Z59,λs v=> .of_eq rfl,λbase _ _ hC hBu=>?_⟩;have xa3:=Sr (P:=l.prog) (w:=w) (base:=base) (BE X G a0) T;have xaf:=RZ (P:=l.prog) (w:=w) (base:=base) (BE X G a1) T;have xa2:=R1 (P:=l.prog) (w:=w) (base:=base) (BE X G a2) T;have xag:=Te (BE X G a3) T xa2;have xah:=R0 (P:=l.prog) (w:=w) (base:=base) (BY X G a4) T;have xai:=R6 (BY X G a5) T xa2;have xaj:=Tp (BP X G a6) T xa2;have xa4:=Sz (P:=l.prog) (w:=w) (base:=base) (F2 X G a7) T;have xak:=SB (BP X G a8) T xa4;have xal:=SC (BY X G a9) T xak;have xam:=SK (P:=l.prog) (w:=w) (base:=base) (F2 X G a10) T;have xan:=SL (F2 X G a11) T xam;have xao:=SM (BY X G a12) T xan;have xap:=SD (P:=l.prog) (w:=w) (base:=base) (BE X G a13) T;have xaq:=SE (BY X G a14) T xap;have xar:=Sf (P:=l.prog) (w:=w) (base:=base) (BE X G a15) T;have xas:=Sh (P:=l.prog) (w:=w) (base:=base) (BP X G a16) T;have xat:=Sj (BP X G a17) T xar xas;have xa0:=RJ (P:=l.prog) (w:=w) (base:=base) (BP X G a18) T;have xa5:=RF (P:=l.prog) (w:=w) (base:=base) (BY X G a19) T;have xa1:=RH (BP X G a20) T xa5;have xau:=Sa (BP X G a21) T xa0 xa1;have xav:=RQ (BY X G a22) T xa0 xa1;have xaw:=RU (BY X G a23) T xav xa0;have xax:=RR (BY X G a24) T xa0 xa1;have xay:=RW (BY X G a25) T xax xa0;have xaz:=RS (BY X G a26) T xa0 xa1;have xaA:=RX (BY X G a27) T xaw xay xaz xa0;have xaB:=R9 (BY X G a28) T xaA;have xaC:=Sb (BE X G a29) T xau xa0 xa1 xaB;have xa6:=Sd (BE X G a30) T xaC;have xa7:=Sk (BE X G a31) T xat xa6;have xaD:=Sl (P:=l.prog) (w:=w) (base:=base) (BE X G a32) T;have xa8:=Sm (BE X G a33) T xaD xa6;have xa9:=Sv (BE X G a34) T xa7 xa8;have xaa:=SN (BE X G a35) T xal xao xaq xa9;have xaE:=TC (F2 X G a36) T xaj xaa;have xaF:=Tz (P:=l.prog) (w:=w) (base:=base) (BE X G a37) T;have xaG:=Ss (P:=l.prog) (w:=w) (base:=base) (BE X G a38) T;have xab:=Tf (P:=l.prog) (w:=w) (base:=base) (BP X G a39) T;have xaH:=Tw (TY X G a40) T xab;have xaI:=Tv (BY X G a41) T xa2;have xaJ:=Ti (P:=l.prog) (w:=w) (base:=base) (BY X G a42) T C;have xaK:=Tk (BY X G a43) C xaJ;have xaL:=SR (BE X G a44) T xa0 xa1;have xaM:=ST (BE X G a45) T xaL xa0;have xaN:=SV (BP X G a46) T xa7 xaM;have xac:=SX (BP X G a47) T xaN;have xaO:=Tb (BP X G a48) T xac;have xaP:=Th (BP X G a49) T xaO;have xad:=Sy (BE X G a50) T xa0 xa5;have xaQ:=SA (BP X G a51) T xa4 xad xa9;have xaR:=SZ (BP X G a52) T xa8 xac;have xaS:=S7 (BP X G a53) T xaR;have xaT:=S9 (BP X G a54) T xaS;have xaU:=Tn (BP X G a55) T C xaT;have xae:=To (F2 X G a56) T xaP xaQ xad xaU;have xaV:Fn l.prog w K mg base 16 "prices_hold" ["plant","story","firing","thing"] HY:=Dh.fn xae λvs H Q E h=>TF h
 have xaW:=TR F57 hC hBu T C xaE xaF xa3 xaG xaH xaI xab xaV xaK xae;have xaX:=So (BE X G a58) T xa2;exact TX F59 T xa3 xaf xag xah xai xaW xaX xaa
end MF
namespace PySem.W.Fast
def tw10035129634174463192:=0
def tw10121910629517943708:=0
def tw10189649465596308379:=0
def tw10342102212426608407:=0
def tw10356841161907580987:=0
def tw10657611197012696261:=0
def tw10731713294593902990:=0
def tw10804218733439840815:=0
def tw1086822017611367226:=0
def tw10932720372783023559:=0
def tw10977014824203456193:=0
def tw11095525064795685643:=0
def tw11285459325276938594:=0
def tw11304199999283186482:=0
def tw11348528493856384261:=0
def tw11381555824987940510:=0
def tw11395870665882916653:=0
def tw11480233059353840180:=0
def tw11628955473830678797:=0
def tw1163154929218971340:=0
def tw11672880373073990625:=0
def tw11731036903985842289:=0
def tw11761339946205317553:=0
def tw11763635743342397330:=0
def tw11807536928879183641:=0
def tw11817095104563668977:=0
def tw11909864758361360340:=0
def tw1199160062503203372:=0
def tw12100354914789061389:=0
def tw12120595699249055417:=0
def tw12136116411656105395:=0
def tw12211437670980569155:=0
def tw12232055231288439258:=0
def tw12252612162098251838:=0
def tw12275425395378908550:=0
def tw12278285106769083624:=0
def tw12391545459685294306:=0
def tw1261315724504475852:=0
def tw12618427536719684818:=0
def tw12789246617792224339:=0
def tw12819914047912522543:=0
def tw12888012900370139758:=0
def tw12924282875072843546:=0
def tw12991915422786352471:=0
def tw13034996952417346284:=0
def tw13181649855110136656:=0
def tw13195637818424727635:=0
def tw13204213848993656470:=0
def tw13235662005876385838:=0
def tw13247122120113738291:=0
def tw13291815388817028825:=0
def tw13328698326644240829:=0
def tw13444054012037915014:=0
def tw13525663343650560730:=0
def tw13538862023990666547:=0
def tw13620985498962100665:=0
def tw1362935876729077022:=0
def tw13717491281175050746:=0
def tw1371893714751692229:=0
def tw13813241437770778752:=0
def tw13938020683510010100:=0
def tw14097547438680240795:=0
def tw14205937584571577822:=0
def tw14445615136845889373:=0
def tw14462500664135183237:=0
def tw14557799641495149430:=0
def tw14601907209662648371:=0
def tw1465296688641325560:=0
def tw1469221156461806121:=0
def tw14825266646181274287:=0
def tw14942885573367052442:=0
def tw1500346681729574539:=0
def tw1543108800592382910:=0
def tw1546451013576272064:=0
def tw15491565554646852360:=0
def tw15591537624758292380:=0
def tw15633017775843731637:=0
def tw15634286747543489861:=0
def tw1572699123086400397:=0
def tw1577381234759521865:=0
def tw15777956952914337488:=0
def tw15904070062581086547:=0
def tw15941035649364623429:=0
def tw15942740561458429460:=0
def tw15949905645449937143:=0
def tw15994850266543950390:=0
def tw16008068129065594890:=0
def tw16044726555852915467:=0
def tw16055100925501828332:=0
def tw16072185240504328938:=0
def tw16072873952928486153:=0
def tw16167878862305872694:=0
def tw16206310243830961989:=0
def tw16243337408407912948:=0
def tw16303560293552870485:=0
def tw16436107507832001436:=0
def tw16545816074750294349:=0
def tw16550346238908647548:=0
def tw16614414335026388948:=0
def tw16653367592772479574:=0
def tw16781035267047404584:=0
def tw16815635203037719598:=0
def tw16828681595685230097:=0
def tw16880749360655986325:=0
def tw168860138110970900:=0
def tw16935255784574028849:=0
def tw16989233688729155917:=0
def tw17215778463196900387:=0
def tw17391672035382725571:=0
def tw17453505821799617691:=0
def tw17498168844375156197:=0
def tw17612229563315322277:=0
def tw17802892916399699212:=0
def tw17877882521301091289:=0
def tw1790842791472284856:=0
def tw18016096065678526786:=0
def tw18091550371799587813:=0
def tw18173775216453128015:=0
def tw18340043653750339142:=0
def tw18367947324924529031:=0
def tw1845847814681947914:=0
def tw1899300019509511399:=0
def tw1934298272848277867:=0
def tw201024955185172180:=0
def tw2068202257048598585:=0
def tw2079922734939323766:=0
def tw2129674968452816947:=0
def tw2140024946908013935:=0
def tw2285739779844196023:=0
def tw2297079704930942244:=0
def tw2638939587889893612:=0
def tw2643295875865113600:=0
def tw2675923948558400389:=0
def tw2678157987919364502:=0
def tw2812570686794499552:=0
def tw2892898866844183920:=0
def tw291866135074261270:=0
def tw2945012502619428382:=0
def tw2998187028000198626:=0
def tw3200681727390688304:=0
def tw3235996662362261399:=0
def tw3258846449717914192:=0
def tw3289054305778141079:=0
def tw340206813610733869:=0
def tw3404793359487763586:=0
def tw3410943710679310581:=0
def tw3504281270182463498:=0
def tw3748316179004672741:=0
def tw3772413986479967516:=0
def tw3846496758042141244:=0
def tw391432053944868829:=0
def tw4011110888620027098:=0
def tw407919109625858479:=0
def tw4088123641662205578:=0
def tw4120215402358962764:=0
def tw4140171843522655018:=0
def tw4213927971692553714:=0
def tw4308198798872962522:=0
def tw4320051464441537867:=0
def tw4386035368348372684:=0
def tw4528457280899311025:=0
def tw4529225512142209334:=0
def tw479311911431226379:=0
def tw490033780736528761:=0
def tw4919894139418261941:=0
def tw4968028403051868063:=0
def tw5037580055926797923:=0
def tw5048161634292812388:=0
def tw529799353348495676:=0
def tw5431319568348492275:=0
def tw5509756377012228011:=0
def tw5535852122269601121:=0
def tw5717280717331365500:=0
def tw575274474746284597:=0
def tw5850268752786594425:=0
def tw5874257121136535236:=0
def tw6000797087069422123:=0
def tw6073336039302728081:=0
def tw6098193460770584885:=0
def tw6127795349618809618:=0
def tw6201333328405696696:=0
def tw6251943774016476660:=0
def tw628236117149274043:=0
def tw6334712886385803263:=0
def tw6391846399098670969:=0
def tw6415012642210940232:=0
def tw6581837719999066433:=0
def tw6644880566118956815:=0
def tw6879899337574901307:=0
def tw6924540403422681402:=0
def tw693200297580700044:=0
def tw696548027100987647:=0
def tw7033920647175752852:=0
def tw7135513110483009388:=0
def tw7181544719238088712:=0
def tw7283418730150230846:=0
def tw7284177871109982286:=0
def tw734020774965183681:=0
def tw735590542865589130:=0
def tw7401235810882134789:=0
def tw7456095495560155939:=0
def tw7464184361651349327:=0
def tw7536792051239258542:=0
def tw7599498772428135389:=0
def tw7863739562618318179:=0
def tw8039700246585242164:=0
def tw8071268763155629461:=0
def tw8080372242833709474:=0
def tw8178524319362267948:=0
def tw8248629845948915011:=0
def tw8315426275186976455:=0
def tw8352631163708406276:=0
def tw8449964254379114130:=0
def tw8491366467809020798:=0
def tw8506240876558632281:=0
def tw8535107626272712320:=0
def tw8647946709515120068:=0
def tw8741700750076746425:=0
def tw8773075644782069851:=0
def tw8870856896300096583:=0
def tw8907621655101006576:=0
def tw8975031866678151094:=0
def tw9022448773299306940:=0
def tw9034067875788453766:=0
def tw9092442732055501774:=0
def tw9179663174900685372:=0
def tw9213789319317198313:=0
def tw9267776108317407876:=0
def tw929045117339227598:=0
def tw9300817489005148522:=0
def tw9324265602414308172:=0
def tw9470676341297433928:=0
def tw9488787557383054540:=0
def tw9708337078752533864:=0
def tw9781908592876762011:=0
end PySem.W.Fast
open PySem PySem.W PyProof.Rows
set_option maxRecDepth 100000 in
set_option maxHeartbeats 0 in
theorem PySem.Challenge.cw_mainfires_k24_prices_of_a_firing_holds : PySem.Challenge.rw_mainfires_k24_prices_of_a_firing.Holds := by
 w_on;o_law;k_head;(case hw=>w_witness2)
 k_fill
 refine L2.walk_ofT (l := PySem.Challenge.rw_mainfires_k24_prices_of_a_firing) (n := 63) (k := 20) (x := "_law_script") (xT := "_law_right") (CX := λ_ => L2.CX0) (sp := MF.sp_law) rfl (by decide) rfl ⟨rfl, by decide, by decide, rfl⟩ (λw h Y => PySem.W.km_in_of Y) rfl (λw => by kernel_rfl) (λw => by kernel_rfl) ?F (λ_ _ a _ ns hl hT hS => ⟨ns, hS, hl, hT, λ_ => rfl⟩) (λ_ _ _ _ _ z => z)
 case F=>
  intro w mg fa h c TB KX G hmg ht;refine' MF.all_mk KX G hmg ht ?_ ?_ ?_ ?_ ?_ ?_ ?_ ?_ ?_ ?_ ?_ ?_ ?_ ?_ ?_ ?_ ?_ ?_ ?_ ?_ ?_ ?_ ?_ ?_ ?_ ?_ ?_ ?_ ?_ ?_ ?_ ?_ ?_ ?_ ?_ ?_ ?_ ?_ ?_ ?_ ?_ ?_ ?_ ?_ ?_ ?_ ?_ ?_ ?_ ?_ ?_ ?_ ?_ ?_ ?_ ?_ ?_ ?_ ?_ ?_ ?_ ?_ ?_ ?_ ?_ ?_ ?_ ?_ ?_ ?_ ?_ ?_ ?_ ?_ ?_ ?_ ?_ ?_ ?_ ?_ ?_ ?_ ?_ ?_ ?_ ?_ ?_ ?_ ?_ ?_ ?_ ?_ ?_ ?_ ?_ ?_ ?_ ?_ ?_ ?_ ?_ ?_ ?_ ?_ ?_ ?_ ?_ ?_ ?_ ?_ ?_ ?_ ?_ ?_ ?_
  all_goals first | refine' MF.d4_mk ?_ ?_ ?_ ?_ | skip
  any_goals k_is
  any_goals k_exc
  all_goals kernel_rfl
end
