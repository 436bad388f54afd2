import PyProof.Rows.All
import Wide.All
import OpenK.AllK
import Wide.FinOn
import Lean
import PyProof.EqAt
import PyProof.EqKinds
import PyProof.TupleCall
import PyProof.Draws
import PyProof.ZipIter
import PyProof.EnumMake
import PyProof.IsiPairs
import PyProof.IsiHeapPairs
import PyProof.IsiNone
import PyProof.ReprRoads
import PyProof.ConsumeWalk
import PyProof.NeKinds
import PyProof.Rows.SeqMore
import PyProof.Rows.SortWalk
import PyProof.Rows.StrJoinMade
import PyProof.P3Eq
import PyProof.MeetsStr
import PyProof.MeetsStr2
import PyProof.StrLawsOcc
import PyProof.SliceStr2
import PyProof.Rows.StrMadeLen
import KE.KIntText
import PyProof.ListRange
import PyProof.CollectIter
import KE.KTryDeep
import PyProof.ExcBaseAll.ValueError
import PyProof.ExcArgsOwn
import PyProof.ExcAttrAll.ValueError
import KE.KLam
import PyProof.ExcInit
import OpenK.KMake
import PyProof.InstStoreFacts
import PyProof.Rows.FStr
import PyProof.StrWalks
import PyProof.AutoListH
import PyProof.DictItemsLoops
import KE.KEqDict
import PyProof.FitsReplace
import PyProof.Rows.StrDigits
import PyProof.StrLawsTight
import PyProof.StrLawsFirst
import PySem.Challenge.RW_mainfires_k94_no_lines_at_the_desk
open PySem PySem.Spec PyProof.Rows
abbrev Fgx := PySem.W.Frag
abbrev PNs := List (Addr × Obj)
abbrev VSP := Value → Shared → Prop
open List (mem_filter mem_range mem_cons_self mem_cons_of_mem mem_cons mem_append mem_append_left getElem?_set_self mem_filterMap mem_append_right length_cons length_nil map_cons length_map append_nil nodup_cons of_mem_zip length_take getElem?_map mem_of_getElem? length_append size_toArray length_drop length_set all_cons any_cons length_singleton map_nil forIn_cons lookup_cons all_eq_true any_eq_true mem_singleton forIn_nil not_mem_nil getD_eq_getElem?_getD getElem?_eq_getElem getElem_mem drop_zero take_length take_of_length_le getElem?_range all_map filter_append map_append mem_map sum_cons range_succ map_drop map_take drop_nil take_nil length_zip cons_append find?_cons map_map getElem?_zipWith length_zipWith length_range append_assoc getElem?_of_mem map_singleton getElem?_set map_set eq_nil_of_length_eq_zero mem_of_mem_take)
set_option Elab.async false
set_option linter.all false
set_option maxRecDepth 100000
set_option maxHeartbeats 4000000
section
namespace L2
abbrev AD:=Sum Int Str
def EM:AD->Value->Bool
 | .inl k,v=>Value.isInt k v
 | .inr x,v=>Value.isStrOf x v
def Nm (w:World):AD->Int
 | .inl k=>hashInt k
 | .inr x=>hashStr w x
theorem Ds:∀ {k:AD}{v:Value},EM k v=true->(∃i t,k=Sum.inl i/\v=Value.int i t)\/(∃x t,k=Sum.inr x/\v=Value.str x t)
 | .inl i,v,h=>by
  obtain⟨t,e⟩:=Value.isInt_shape (k:=i) (v:=v) h;exact .inl ⟨i,t,rfl,e⟩
 | .inr x,v,h=>by
  obtain⟨t,e⟩:=Value.isStrOf_shape (x:=x) (v:=v) h;exact .inr ⟨x,t,rfl,e⟩
theorem Nn (i:Int) (t:Tok):EM (.inl i) (.int i t)=true:=by simp [EM,Value.isInt]
theorem No (x:Str) (t:Tok):EM (.inr x) (.str x t)=true:=by simp [EM,Value.isStrOf]
theorem Np (a b:Int):decide ((Sum.inl a:AD)=Sum.inl b)=(a==b):=by
 by_cases e:a=b
 ·subst e;simp
 ·have h:¬(Sum.inl a:AD)=Sum.inl b:=λq=>e (Sum.inl.inj q)
  rw [decide_eq_false h];exact(beq_eq_false_iff_ne.mpr e).symm
theorem Kd (a b:Str):decide ((Sum.inr a:AD)=Sum.inr b)=decide (a=b):=by
 by_cases e:a=b
 ·subst e;simp
 ·have h:¬(Sum.inr a:AD)=Sum.inr b:=λq=>e (Sum.inr.inj q)
  rw [decide_eq_false h,decide_eq_false e]
theorem Nq (a:Int) (b:Str):decide ((Sum.inl a:AD)=Sum.inr b)=false:=decide_eq_false (λq=>nomatch q)
theorem Nr (a:Str) (b:Int):decide ((Sum.inr a:AD)=Sum.inl b)=false:=decide_eq_false (λq=>nomatch q)
def BP (prog:Program) (w:World):PySem.KeyKind prog w AD where
 is:=EM
 hash:=Nm w
 inj:=λv a b ha hb=>by
  rcases Ds ha with⟨i,t,rfl,rfl⟩ | ⟨x,t,rfl,rfl⟩
  ·rcases Ds hb with⟨j,u,rfl,e⟩ | ⟨y,u,rfl,e⟩
   ·injection e with e1 _;rw [e1]
   ·exact nomatch e
  ·rcases Ds hb with⟨j,u,rfl,e⟩ | ⟨y,u,rfl,e⟩
   ·exact nomatch e
   ·injection e with e1 _;rw [e1]
 byValue:=λk v h=>by
  rcases Ds h with⟨i,t,rfl,rfl⟩ | ⟨x,t,rfl,rfl⟩<;>rfl
 pyHash:=λhv h=>by
  rcases Ds hv with⟨i,t,rfl,rfl⟩ | ⟨x,t,rfl,rfl⟩
  ·exact wpAny_pyHash_int h
  ·exact wpAny_pyHash_str h
 eqBool:=λhu hv h=>by
  rcases Ds hu with⟨i,t,rfl,rfl⟩ | ⟨x,t,rfl,rfl⟩
  ·rcases Ds hv with⟨j,u,rfl,rfl⟩ | ⟨y,u,rfl,rfl⟩
   ·rw [Np] at h;exact wpAny_eqBool_int h
   ·rw [Nq] at h;exact SeqAt.EqAt.int_str i t y u _ _ _ _ h
  ·rcases Ds hv with⟨j,u,rfl,rfl⟩ | ⟨y,u,rfl,rfl⟩
   ·rw [Nr] at h;exact SeqAt.EqAt.str_int x t j u _ _ _ _ h
   ·rw [Kd] at h;exact wpAny_eqBool_str h
 «strs»:=λk x t v h=>by
  rcases Ds h with⟨i,u,rfl,e⟩ | ⟨y,u,rfl,e⟩
  ·exact nomatch e
  ·injection e with e1 _
   subst e1;cases v<;>rfl
theorem Nt (prog:Program) (w:World) (i:Int) (t:Tok):(BP prog w).is (.inl i) (.int i t)=true:=Nn i t
theorem Ix (prog:Program) (w:World) (x:Str) (t:Tok):(BP prog w).is (.inr x) (.str x t)=true:=No x t
end L2
namespace L2
inductive V where
 | non | bl (b:Bool) | int (i:Int) | str (x:Str) | byt (b:Array UInt8) | flt (b:UInt64) | ref (a:Addr) | ty (n:String)
 deriving DecidableEq
def RelV:V->Value->Prop
 | .non,u=>u=Value.none
 | .bl b,u=>u=Value.bool b
 | .int i,u=>∃t,u=Value.int i t
 | .str x,u=>∃t,u=Value.str x t
 | .byt b,u=>∃t,u=Value.bytes b t
 | .flt b,u=>∃t,u=Value.float b t
 | .ref a,u=>u=Value.ref a
 | .ty n,u=>u=Value.type n
abbrev As:List V->List Value->Prop:=Paired RelV
theorem As.length {xs:List V}{us:List Value} (r:As xs us):xs.length=us.length:=Paired.length r
theorem As.get:∀ {xs:List V}{us:List Value}{i:Nat}{x:V},As xs us->xs[i]? =some x->∃u,us[i]? =some u/\RelV x u
 | _,_,_,_,.nil,e=>by simp at e
 | _,_,0,_,.cons r _,e=>by simp at e;subst e;exact⟨_,rfl,r⟩
 | _,_,i+1,x,.cons _ t,e=>by
  obtain⟨u,h1,h2⟩:=As.get (i:=i) (x:=x) t (by simpa using e);exact⟨u,by simpa using h1,h2⟩
theorem As.set {x:V}{u:Value} (r:RelV x u):∀ {xs:List V}{us:List Value} (i:Nat),As xs us->As (xs.set i x) (us.set i u)
 | _,_,_,.nil=> .nil
 | _,_,0,.cons _ t=> .cons r t
 | _,_,i+1,.cons q t=> .cons q (As.set r i t)
theorem As.append:∀ {xs ys:List V}{us ws:List Value},As xs us->As ys ws->As (xs++ys) (us++ws)
 | _,_,_,_,.nil,s=>s
 | _,_,_,_,.cons r t,s=> .cons r (As.append t s)
theorem As.take:∀ {xs:List V}{us:List Value} (n:Nat),As xs us->As (xs.take n) (us.take n)
 | _,_,0,_=> .nil
 | _,_,_+1,.nil=> .nil
 | _,_,n+1,.cons r t=> .cons r (As.take n t)
theorem As.drop:∀ {xs:List V}{us:List Value} (n:Nat),As xs us->As (xs.drop n) (us.drop n)
 | _,_,0,r=>r
 | _,_,_+1,.nil=> .nil
 | _,_,n+1,.cons _ t=>As.drop n t
def RelO:Option V->Option Value->Prop
 | some v,some u=>RelV v u
 | none,none=>True
 | _,_=>False
def KV {κ:Type}:List (κ×V)->List (κ×Value)->Prop:=Paired fun(p:κ×V) (q:κ×Value)=>p.1=q.1/\RelV p.2 q.2
def kV:AD->V
 | .inl i=> .int i
 | .inr x=> .str x
inductive HO where
  | lst (xs:List V)
  | tup (xs:List V)
  | dK (kvs:List (AD×V)) | dT (kvs:List (List AD×V))
  | set (S:Int->Bool) (n:Nat)
  | ins (C dx:Addr) (fs:List (Str×V))
  | own (x:Addr)
  | xd (fs:List (Str×V))
  | met (f x:Addr)
  | rng (lo hi:Int)
  | frz (o:Obj) (u:HO)
  | tbl (ps:Array Value)
  | ext (φ:Heap->Prop)
abbrev Hp:=Addr->Option HO
def upd (H:Hp) (a:Addr) (o:HO):Hp:=λb=>if b=a then some o else H b
theorem Ae {H:Hp}{a:Addr}{o:HO}:upd H a o a=some o:=by unfold upd;rw [if_pos rfl]
theorem Aq {H:Hp}{a b:Addr}{o:HO} (h:b≠a):upd H a o b=H b:=by unfold upd;rw [if_neg h]
theorem Nu {H:Hp}{a b:Addr}{o u:HO} (h:H a=some o) (h':H b=some u) (d:o≠u):a≠b:=by
 intro e;subst e;rw [h] at h';exact d (Option.some.inj h')
theorem Bu {H:Hp}{a b:Addr}{o:HO} (h:H a=some o) (h':H b=none):a≠b:=by
 intro e;subst e;rw [h] at h';cases h'
section
variable (P : Program) (w : World)
def ObjOk (H:Hp) (h:Heap) (a:Addr):HO->Prop
 | .lst xs=>xs.length<=sizeLine/\∃(its:List Value) (n:Nat),As xs its/\h.get? a=some { cls:= .type "list",data:= .seq its.toArray n}
 | .tup xs=>xs.length<=sizeLine/\∃its:List Value,As xs its/\IsTup h a its.toArray
 | .dK kvs=>kvs.length<=sizeLine/\(a==sysModules)=false/\∃vs,KV kvs vs/\h.DictOf (BP P w) a vs
 | .dT kvs => kvs.length <= sizeLine /\ (a == sysModules) = false /\ ∃ xs : List (List AD × Addr × Value),
   Paired (fun(p:List AD×V) (q:List AD×Addr×Value)=>p.1=q.1/\H q.2.1=some (.tup (p.1.map kV))/\RelV p.2 q.2.2) kvs xs/\
   ∃o es ep,h.get? a=some o/\o.ExactDict/\o.data= .dict es ep/\es.toList=xs.map (entryOfKey (tupleKind (BP P w)))/\(xs.map (·.1)).Nodup
 | .set S n=>h.SetOf (intKind P w) a S n
 | .ins C dx fs => H dx = some (.own a) /\ fs.length <= 1000 /\ dx ≠ a /\ h.get? a = some (PySem.W.instObj C dx) /\
   ∃mA,h.Ns1 dx mA/\(∀f,RelO (fs.lookup f) (mA f))/\PySem.Within mA (fs.map (·.1))
 | .own _=>∃o,h.get? a=some o
 | .xd fs=>∃mA,h.Ns1 a mA/\∀f,RelO (fs.lookup f) (mA f)
 | .rng lo hi=>∃t u v,h.get? a=some { cls:= .type "range",data:= .fields #[.int lo t,.int hi u,.int 1 v]}
 | .frz o u=>h.get? a=some o/\ObjOk H h a u
 | .tbl ps=>h.get? a=some { cls:= .none,data:= .fields ps}
 | .met f x=>h.get? a=some (PySem.W.methodObj (.ref f) (.ref x))
 | .ext φ=>φ h/\(∃o,h.get? a=some o)/\∀h1 h2:Heap,φ h1->(∀o,h1.get? a=some o->h2.get? a=some o)->φ h2
def HOk (H:Hp) (h:Heap):Prop:=∀a o,H a=some o->ObjOk P w H h a o
end
section
variable {P : Program} {w : World} {H H' : Hp} {h h' : Heap} {a : Addr} {o : HO}
theorem ObjOk.lt (x:ObjOk P w H h a o):a<h.objs.size:=by
 cases o with
 | lst xs=>obtain⟨_,_,_,_,e⟩:=x;exact Heap.lt_size e
 | tup xs=>obtain⟨_,_,_,p⟩:=x;exact p.lt
 | dK kvs=>obtain⟨_,_,_,_,o,_,_,e,_⟩:=x;exact Heap.lt_size e
 | dT kvs=>obtain⟨_,_,_,_,o,_,_,e,_⟩:=x;exact Heap.lt_size e
 | set S n=>obtain⟨o,_,_,_,e,_⟩:=x;exact Heap.lt_size e
 | ins C dx fs=>obtain⟨_,_,_,e,_⟩:=x;exact Heap.lt_size e
 | own y=>obtain⟨_,e⟩:=x;exact Heap.lt_size e
 | xd fs=>obtain⟨_,⟨_,_,_,e,_⟩,_⟩:=x;exact Heap.lt_size e
 | rng lo hi=>obtain⟨_,_,_,e⟩:=x;exact Heap.lt_size e
 | frz ob u=>obtain⟨e,_⟩:=x;exact Heap.lt_size e
 | tbl ps=>exact Heap.lt_size (show h.get? a=some _ from x)
 | met f y=>exact Heap.lt_size (show h.get? a=some _ from x)
 | ext φ=>obtain⟨_,⟨_,e⟩,_⟩:=x;exact Heap.lt_size e
theorem Paired.mapP {α β:Type}{F G:α->β->Prop}:∀ {l₁:List α}{l₂:List β},Paired F l₁ l₂->(∀a b,F a b->G a b)->Paired G l₁ l₂
 | _,_,.nil,_=> .nil
 | _,_,.cons r t,f=> .cons (f _ _ r) (Paired.mapP t f)
theorem ObjOk.stay (x:ObjOk P w H h a o) (k:∀b u,(b=a\/H b=some (.own a))->h.get? b=some u->h'.get? b=some u)
  (ho:∀b,H b=some (.own a)->H' b=some (.own a)) (ht:∀b xs,H b=some (.tup xs)->H' b=some (.tup xs)):ObjOk P w H' h' a o:=by
 induction o with
 | lst xs=>obtain⟨z,its,n,r,e⟩:=x;exact⟨z,its,n,r,k _ _ (.inl rfl) e⟩
 | tup xs=>obtain⟨z,its,r,ob,e,c⟩:=x;exact⟨z,its,r,ob,k _ _ (.inl rfl) e,c⟩
 | dK kvs=>obtain⟨z,y,vs,r,ob,es,ep,e,c⟩:=x;exact⟨z,y,vs,r,ob,es,ep,k _ _ (.inl rfl) e,c⟩
 | dT kvs=>
  obtain⟨z,y,xs,r,ob,es,ep,e,c⟩:=x;exact⟨z,y,xs,Paired.mapP r λp q z=>⟨z.1,ht _ _ z.2.1,z.2.2⟩,ob,es,ep,k _ _ (.inl rfl) e,c⟩
 | set S n=>obtain⟨ob,es,ep,t,e,c⟩:=x;exact⟨ob,es,ep,t,k _ _ (.inl rfl) e,c⟩
 | ins C dx fs=>
  obtain⟨d,z,ne,e,mA,⟨od,es,ep,e2,c⟩,r⟩:=x;exact⟨ho _ d,z,ne,k _ _ (.inl rfl) e,mA,⟨od,es,ep,k _ _ (.inr d) e2,c⟩,r⟩
 | own y=>obtain⟨ob,e⟩:=x;exact⟨ob,k _ _ (.inl rfl) e⟩
 | xd fs=>obtain⟨mA,⟨od,es,ep,e,c⟩,r⟩:=x;exact⟨mA,⟨od,es,ep,k _ _ (.inl rfl) e,c⟩,r⟩
 | rng lo hi=>obtain⟨t,u,v,e⟩:=x;exact⟨t,u,v,k _ _ (.inl rfl) e⟩
 | frz ob u ih=>obtain⟨e,q⟩:=x;exact⟨k _ _ (.inl rfl) e,ih q⟩
 | tbl ps=>
  have e:h.get? a=some { cls:= .none,data:= .fields ps}:=x;show h'.get? a=some { cls:= .none,data:= .fields ps};exact k a _ (.inl rfl) e
 | met f y=>
  have e:h.get? a=some (PySem.W.methodObj (.ref f) (.ref y)):=x;show h'.get? a=some (PySem.W.methodObj (.ref f) (.ref y));exact k a _ (.inl rfl) e
 | ext φ=>obtain⟨p,⟨o,e⟩,st⟩:=x;exact⟨st _ _ p λo q=>k _ _ (.inl rfl) q,⟨o,k _ _ (.inl rfl) e⟩,st⟩
theorem HOk.lt (x:HOk P w H h) (e:H a=some o):a<h.objs.size:=(x a o e).lt
theorem HOk.fresh (x:HOk P w H h) (e:h.objs.size<=a):H a=none:=by
 cases q:H a with
 | none=>rfl
 | some u=>exact absurd (Nat.lt_of_lt_of_le (x.lt q) e) (Nat.lt_irrefl _)
theorem HOk.kept (x:HOk P w H h) (k:∀b u,h.get? b=some u->h'.get? b=some u):HOk P w H h':=λa o e=>
 (x a o e).stay (λb u _ q=>k b u q) (λ_ q=>q) λ_ _ q=>q
theorem HOk.laid (x:HOk P w H h) (k:∀b u,h.get? b=some u->h'.get? b=some u) (hp:h.objs.size<=a) (new:ObjOk P w (upd H a o) h' a o):HOk P w (upd H a o) h':=λb u e=>by
 have hn:=x.fresh hp
 by_cases hb:b=a
 ·subst hb;rw [Ae] at e;cases e;exact new
 ·rw [Aq hb] at e;exact(x b u e).stay (λc v _ q=>k c v q) (λc q=>by rw [Aq (Bu q hn)];exact q) λc xs q=>by rw [Aq (Bu q hn)];exact q
end
def Rd (H:Hp) (a:Addr) (u:HO):Prop:=H a=some u\/ ∃o,H a=some (.frz o u)
theorem Rd.ok {P:Program}{w:World}{H:Hp}{h:Heap}{a:Addr}{u:HO} (r:Rd H a u) (x:HOk P w H h):ObjOk P w H h a u:=by
 rcases r with r | ⟨o,r⟩
 ·exact x a u r
 ·obtain⟨_,q⟩:=x a _ r;exact q
def FB:Option HO->Prop
 | some (.lst _)=>True
 | some (.dK _)=>True
 | some (.dT _)=>True
 | some (.set _ _)=>True
 | some (.ins _ _ _)=>True
 | some (.ext _)=>True
 | _=>False
section
variable {P : Program} {w : World} {H : Hp} {h h' : Heap} {x e : Addr} {o' : HO}
theorem HOk.write (ok:HOk P w H h) (mu:FB (H x)) (he:e=x\/H e=some (.own x)) (k:∀b u,b≠e->h.get? b=some u->h'.get? b=some u) (heo:∃u,h'.get? e=some u)
  (new:ObjOk P w (upd H x o') h' x o'):HOk P w (upd H x o') h':=λb u q=>by
 have nown:∀c y,H c=some (.own y)->c≠x:=λc y r z=>by subst z;rw [r] at mu;exact mu
 have ntup:∀c xs,H c=some (.tup xs)->c≠x:=λc xs r z=>by subst z;rw [r] at mu;exact mu
 by_cases hb:b=x
 ·subst hb;rw [Ae] at q;cases q;exact new
 ·rw [Aq hb] at q
  by_cases hbe:b=e
  ·have q':H b=some (.own x):=by
    rcases he with z | z
    ·exact absurd (hbe.trans z) hb
    ·rw [hbe];exact z
   rw [q] at q';cases q';obtain⟨v,hv⟩:=heo;exact⟨v,by rw [hbe];exact hv⟩
  ·refine(ok b u q).stay (λc v hc r=>k c v ?_ r) (λc r=>by rw [Aq (nown c b r)];exact r) λc xs r=>by rw [Aq (ntup c xs r)];exact r
   rcases hc with rfl | hc
   ·exact hbe
   ·rintro rfl;rcases he with z | z
    ·exact nown c b hc z
    ·rw [hc] at z;cases z;exact hb rfl
end
structure Un (fs ex:List Addr) (H H':Hp) (h h':Heap):Prop where
 keep:∀b o,h.get? b=some o->H b=none->b ∉ fs->b ∉ ex->h'.get? b=some o
 slot:∀b o,h.get? b=some o->H b=none->b∈fs->b ∉ ex->∃sl,h'.get? b=some { o with slots:=sl}
 free:∀b o,h.get? b=some o->H b=none->b ∉ ex->H' b=none
 there:∀b o,h.get? b=some o->b ∉ ex->∃o',h'.get? b=some o'
 tups:∀b xs,H b=some (.tup xs)->H' b=some (.tup xs)
 frzs:∀b o u,H b=some (.frz o u)->H' b=some (.frz o u)
 tbls:∀b ps,H b=some (.tbl ps)->∃more,H' b=some (.tbl (ps++more))
section
variable {fs fs' ex ex' : List Addr} {H H1 H2 : Hp} {h h1 h2 h' : Heap} {a x e : Addr} {o : HO}
theorem Un.any (u:Un fs ex H H1 h h1) {b:Addr}{ob:Obj} (q:h.get? b=some ob) (n:H b=none) (hx:b ∉ ex):∃sl,h1.get? b=some { ob with slots:=sl}:=by
 by_cases hb:b∈fs
 ·exact u.slot b ob q n hb hx
 ·exact⟨ob.slots,u.keep b ob q n hb hx⟩
theorem Un.kept (k:∀b u,h.get? b=some u->h'.get? b=some u):Un fs ex H H h h':=
 ⟨λb ob q _ _ _=>k b ob q,λb ob q _ _ _=>⟨ob.slots,k b ob q⟩,λ_ _ _ n _=>n,λb ob q _=>⟨ob,k b ob q⟩,λ_ _ q=>q,λ_ _ _ q=>q,λ_ ps q=>⟨#[],by rw [q];simp⟩⟩
theorem Un.refl:Un fs ex H H h h:=Un.kept λ_ _ q=>q
theorem Un.laid (k:∀b u,h.get? b=some u->h'.get? b=some u) (hp:h.objs.size<=a) (hn:H a=none):Un fs ex H (upd H a o) h h' where
 keep:=λb u q _ _ _=>k b u q
 slot:=λb u q _ _ _=>⟨u.slots,k b u q⟩
 free:=λb u q n _=>by rw [Aq (Nat.ne_of_lt (Nat.lt_of_lt_of_le (Heap.lt_size q) hp))];exact n
 there:=λb u q _=>⟨u,k b u q⟩
 tups:=λb xs q=>by rw [Aq (Bu q hn)];exact q
 frzs:=λb u xs q=>by rw [Aq (Bu q hn)];exact q
 tbls:=λb ps q=>⟨#[],by rw [Aq (Bu q hn),q];simp⟩
theorem Un.write (mu:FB (H x)) (he:e=x\/H e=some (.own x)) (k:∀b u,b≠e->h.get? b=some u->h'.get? b=some u) (heo:∃u,h'.get? e=some u):Un fs ex H (upd H x o) h h':=by
 have hx:∀b,H b=none->b≠x:=λb n z=>by subst z;rw [n] at mu;exact mu
 have hb:∀b,H b=none->b≠e:=λb n z=>by
  subst z;rcases he with r | r
  ·exact hx b n r
  ·rw [n] at r;cases r
 have hm:∀b u,H b=some u->¬FB (some u)->b≠x:=λb u q nm z=>by subst z;rw [q] at mu;exact nm mu
 refine⟨λb u q n _ _=>k b u (hb b n) q,λb u q n _ _=>⟨u.slots,k b u (hb b n) q⟩,λb u q n _=>by rw [Aq (hx b n)];exact n,λb u q _=>?_,
  λb xs q=>by rw [Aq (hm b _ q λz=>z)];exact q,λb u xs q=>by rw [Aq (hm b _ q λz=>z)];exact q,λb ps q=>⟨#[],by rw [Aq (hm b _ q λz=>z),q];simp⟩⟩
 by_cases hbe:b=e
 ·subst hbe;exact heo
 ·exact⟨u,k b u hbe q⟩
end
def Gm (h:Heap) (H:Hp):List Addr:=(List.range h.objs.size).filter λa=>(H a).isSome
def C6 (h:Heap) (H:Hp):Heap:=PySem.W.hideAll h (Gm h H)
theorem Nv (h:Heap) (H:Hp):(C6 h H).objs.size=h.objs.size:=PySem.W.hideAll_size _ _
theorem Nw {h:Heap}{H:Hp}{b:Addr}{o:Obj} (e:h.get? b=some o) (n:H b=none):(C6 h H).get? b=some o:=
 PySem.W.hideAll_get _ e λhm=>by
  have q:(H b).isSome=true:=(mem_filter.mp hm).2;rw [n] at q;simp at q
theorem Nx {h:Heap}{H:Hp}{b:Addr}{o:Obj} (e:(C6 h H).get? b=some o):h.get? b=some o/\H b=none:=by
 have e':h.get? b=some o:=PySem.W.of_hideAll (Gm h H) e;refine⟨e',?_⟩;cases q:H b with
 | none=>rfl
 | some x=>
  have hm:b∈Gm h H:=mem_filter.mpr ⟨mem_range.mpr (Heap.lt_size e'),by simp [q]⟩;have z:(C6 h H).get? b=none:=PySem.W.hideAll_none (Gm h H) hm;rw [z] at e;cases e
def Ny (g h:Heap) (L:Addr):PNs:=(List.range h.objs.size).filterMap λa=>if a=L\/(g.get? a).isSome=true then none else(h.get? a).map λo=>(a,o)
def rest (g h:Heap) (L d:Addr):PNs:=(Ny g h L).filter λp=>decide (p.1≠d)
end L2
namespace L2
variable {g' : Array GenState} {t' i : Nat} {d' : Drawn} {ch : List Addr} {M : Model} {E : Value -> Shared -> Prop} {v : V} {u : Value} {Q : Unit -> Shared -> Prop}
structure Mod (K:Fgx) (mg:Str->Option Value) (base:Heap):Prop where
 kin:K.In base
 glob:base.Ns mainGlobals mg
 blt:∃mb,base.Ns builtinsNs mb/\∀x:Str,x≠ "__name__" ->mb x=bootBuiltins x
 nolimit:base.NoLimit
structure Cx where
 prog:Program
 w:World
 K:Fgx
 mg:Str->Option Value
 base:Heap
 A:Around
 N:List Str
 s₀:Shared
 H₀:Hp
 env:Env
 outer:List Env
 stack:List Env
 ex:List Addr
 fn:Str->Bool
 calm:Bool
 pn:PNs
 xe:VSP
def AB (l:List Env):List Addr:=l.filterMap (·.frame)
abbrev Cx.fs (X:Cx):List Addr:=AB X.outer
def Eh (sc:Scope) (x:Str):Prop:=sc.names.lookup x=some .local \/sc.names.lookup x=some .cell\/sc.names.lookup x=some .free
def DQ (sc:Scope) (x:Str):Prop:=sc.names.lookup x=some .local \/sc.names.lookup x=some .cell
def Nz (env:Env) (h:Heap) (m:Str->Option Value) (x:Str) (u:Value):Prop:=
 (env.kindOf x=some .local /\m x=some u)\/((env.kindOf x=some .cell\/env.kindOf x=some .free)/\∃c,env.cells.lookup x=some c/\h.IsCell c (some u))
structure Cx.Ok (X:Cx):Prop where
 mod:Mod X.K X.mg X.base
 kind:X.env.scope.kind= .function
 glob:X.env.globals=mainGlobals
 blt:X.env.builtins=builtinsNs
 above:X.s₀.heap.objs.size<=X.env.locals
 inj:∀x y c,X.env.cells.lookup x=some c->X.env.cells.lookup y=some c->x=y
 has:∀x,(X.env.kindOf x=some .cell\/X.env.kindOf x=some .free)->∃c,X.env.cells.lookup x=some c
 cab:∀x c,X.fn x=true->X.env.cells.lookup x=some c->X.s₀.heap.objs.size<=c
 hd:X.calm=true->X.A.handled=none
 frames:X.A.frames=some X.stack
 stk:X.stack=X.outer\/(X.stack=X.env::X.outer/\X.env.frame=some X.env.locals)
 exf:∀b∈X.ex,b≠X.env.locals/\∀x c,X.env.cells.lookup x=some c->c≠b
 bs:∀b o,X.base.get? b=some o->X.s₀.heap.get? b=some o/\X.H₀ b=none
 bsz:X.base.objs.size<=X.s₀.heap.objs.size
 noex:∀b o,X.base.get? b=some o->b ∉ X.ex
 exfs:∀b∈X.ex,b ∉ X.fs
 funs:X.s₀.heap.FunFrames X.base X.outer
 frf:∀b∈X.fs,X.H₀ b=none
structure Ac (X:Cx) (pins:PNs) (σ:List (Option V)) (H:Hp) (s:Shared):Prop where
 ok:X.Ok
 os:s.os=X.s₀.os
 bare:AllBare s.gens
 base:Un X.fs X.ex X.H₀ H X.s₀.heap s.heap
 loc:∃m,s.heap.Ns X.env.locals m/\∀(i:Nat) (x:Str) (v:V),X.N[i]? =some x->σ[i]? =some (some v)->Eh X.env.scope x->∃u,RelV v u/\Nz X.env s.heap m x u
 cell:∀x c,X.env.cells.lookup x=some c->∃v,s.heap.IsCell c v
 free:H X.env.locals=none
 freeC:∀x c,X.env.cells.lookup x=some c->H c=none
 pin:∀p∈X.pn++pins,s.heap.get? p.1=some p.2/\H p.1=none/\p.1≠X.env.locals/\p.1 ∉ X.fs/\∀v,p.2.data≠ .cell v
 hok:HOk X.prog X.w H s.heap
 len:σ.length=X.N.length
section
variable {X : Cx} {pins : List (Addr × Obj)} {σ : List (Option V)} {H H' : Hp} {s : Shared} {h' : Heap}
theorem Cx.Ok.nofr (ok:X.Ok) {b:Addr}{o:Obj} (e:X.base.get? b=some o):b ∉ X.fs:=λhb=>by
 have:=(ok.funs.mem hb).1;rw [e] at this;cases this
theorem Ac.bs (I:Ac X pins σ H s):∀b o,X.base.get? b=some o->s.heap.get? b=some o/\H b=none:=λb o e=>
 ⟨I.base.keep b o (I.ok.bs b o e).1 (I.ok.bs b o e).2 (I.ok.nofr e) (I.ok.noex b o e),I.base.free b o (I.ok.bs b o e).1 (I.ok.bs b o e).2 (I.ok.noex b o e)⟩
theorem Ac.bk (I:Ac X pins σ H s):∀b o,X.base.get? b=some o->s.heap.get? b=some o:=λb o e=>(I.bs b o e).1
theorem Ac.mod (I:Ac X pins σ H s):Mod X.K X.mg X.base:=I.ok.mod
theorem Ac.kIn (I:Ac X pins σ H s):X.K.In s.heap:=I.ok.mod.kin.keeps I.bk
theorem Ac.lt (I:Ac X pins σ H s):X.env.locals<s.heap.objs.size:=let ⟨_,hn,_⟩:=I.loc;hn.lt
theorem Ac.sz (I:Ac X pins σ H s):X.s₀.heap.objs.size<=s.heap.objs.size:=Nat.le_trans I.ok.above (Nat.le_of_lt I.lt)
theorem Ac.nofs (I:Ac X pins σ H s) {a:Addr} (h:s.heap.objs.size<=a):a ∉ X.fs:=λhb=>by
 obtain⟨_,o,ho,_⟩:=I.ok.funs.mem hb;exact absurd (Nat.lt_of_lt_of_le (Heap.lt_size ho) (Nat.le_trans I.sz h)) (Nat.lt_irrefl _)
theorem Ac.cne (I:Ac X pins σ H s):∀x c,X.env.cells.lookup x=some c->c≠X.env.locals:=λx c e z=>by
 obtain⟨v,o,ho,hd⟩:=I.cell x c e;obtain⟨m,⟨o',es,ep,ho',hd',_⟩,_⟩:=I.loc;rw [z,ho'] at ho;cases ho;rw [hd'] at hd;cases hd
theorem Ac.funs (I:Ac X pins σ H s):s.heap.FunFrames X.base X.outer:=by
 have all:∀(l:List Env),(∀b∈AB l,b∈X.fs)->X.s₀.heap.FunFrames X.base l->s.heap.FunFrames X.base l:=by
  intro l
  induction l with
  | nil=>intro _ _;trivial
  | cons env r ih=>
   intro hs hl;obtain⟨hk,⟨L,o,hf,hn,ho,hd⟩,hr⟩:=hl;have hL:L∈X.fs:=hs L (by unfold AB;rw [List.filterMap_cons,hf];exact mem_cons_self);obtain⟨sl,e⟩:=I.base.slot L o ho (I.ok.frf L hL) hL λz=>I.ok.exfs L z hL
   exact⟨hk,⟨L,_,hf,hn,e,hd⟩,ih (λb hb=>hs b (by unfold AB;rw [List.filterMap_cons,hf];exact mem_cons_of_mem _ hb)) hr⟩
 exact all X.outer (λ_ hb=>hb) I.ok.funs
theorem Ac.stack (I:Ac X pins σ H s):s.heap.FunFrames X.base X.stack:=by
 rcases I.ok.stk with e | ⟨e,hf⟩
 ·rw [e];exact I.funs
 ·rw [e];obtain⟨m,hn,_⟩:=I.loc;refine .cons (by rw [I.ok.kind];decide) hf hn ?_ I.funs;exact Heap.get?_none_of_le (Nat.le_trans I.ok.bsz I.ok.above)
theorem Ac.stkSub (I:Ac X pins σ H s):∀b∈AB X.stack,b∈X.env.locals::X.fs:=λb hb=>by
 rcases I.ok.stk with e | ⟨e,hf⟩
 ·rw [e] at hb;exact mem_cons_of_mem _ hb
 ·rw [e] at hb;unfold AB at hb;rw [List.filterMap_cons,hf] at hb;exact hb
theorem Ac.stkFree (I:Ac X pins σ H s):∀b∈AB X.stack,H b=none:=λb hb=>by
 rcases mem_cons.mp (I.stkSub b hb) with e | hb
 ·rw [e];exact I.free
 ·obtain⟨_,o,ho,_⟩:=I.ok.funs.mem hb;exact I.base.free b o ho (I.ok.frf b hb) λz=>I.ok.exfs b z hb
theorem Ac.step (I:Ac X pins σ H s)
  (hch:∀b∈ch,(b∈X.ex\/X.s₀.heap.objs.size<=b)/\b≠X.env.locals/\(∀x c,X.env.cells.lookup x=some c->c≠b)/\∀p∈X.pn++pins,p.1≠b)
  (keep:∀b o,b≠X.env.locals->b ∉ X.fs->b ∉ ch->s.heap.get? b=some o->H b=none->h'.get? b=some o)
  (slot:∀b o,b≠X.env.locals->b∈X.fs->b ∉ ch->s.heap.get? b=some o->H b=none->∃sl,h'.get? b=some { o with slots:=sl}) (free:∀b o,b ∉ ch->s.heap.get? b=some o->H b=none->H' b=none)
  (there:∀b o,b ∉ ch->s.heap.get? b=some o->∃o',h'.get? b=some o')
  (tups:∀b xs,H b=some (.tup xs)->H' b=some (.tup xs)) (frzs:∀b o u,H b=some (.frz o u)->H' b=some (.frz o u)) (tbls:∀b ps,H b=some (.tbl ps)->∃more,H' b=some (.tbl (ps++more)))
  (ns:∀m,s.heap.Ns X.env.locals m->h'.Ns X.env.locals m) (hok:HOk X.prog X.w H' h') (hg:AllBare g'):
  Ac X pins σ H' { s with heap:=h',gens:=g',drawn:=d',toks:=t'}:=by
 have neL:∀b o,X.s₀.heap.get? b=some o->b≠X.env.locals:=λb o e=>Nat.ne_of_lt (Nat.lt_of_lt_of_le (Heap.lt_size e) I.ok.above)
 have neC:∀b o,X.s₀.heap.get? b=some o->b ∉ X.ex->b ∉ ch:=λb o e hx hb=>by
  rcases(hch b hb).1 with z | z
  ·exact hx z
  ·exact absurd (Nat.lt_of_lt_of_le (Heap.lt_size e) z) (Nat.lt_irrefl _)
 have cellK:∀x c,X.env.cells.lookup x=some c->∀v,s.heap.IsCell c v->h'.IsCell c v:=λx c e v ⟨o,ho,hd⟩=>by
  have nch:c ∉ ch:=λz=>(hch c z).2.2.1 x c e rfl
  by_cases hc:c∈X.fs
  ·obtain⟨sl,q⟩:=slot c o (I.cne x c e) hc nch ho (I.freeC x c e);exact⟨_,q,hd⟩
  ·exact⟨o,keep c o (I.cne x c e) hc nch ho (I.freeC x c e),hd⟩
 refine⟨I.ok,I.os,hg,⟨λb o e n hb hx=>?_,λb o e n hb hx=>?_,λb o e n hx=>?_,λb o e hx=>?_,λb xs e=>tups b xs (I.base.tups b xs e),λb o xs e=>frzs b o xs (I.base.frzs b o xs e),λb ps e=>?_⟩,?_,λx c e=>?_,?_,λx c e=>?_,λp hp=>?_,hok,I.len⟩
 ·exact keep b o (neL b o e) hb (neC b o e hx) (I.base.keep b o e n hb hx) (I.base.free b o e n hx)
 ·obtain⟨sl,e1⟩:=I.base.slot b o e n hb hx;obtain⟨sl',e2⟩:=slot b _ (neL b o e) hb (neC b o e hx) e1 (I.base.free b o e n hx);exact⟨sl',e2⟩
 ·obtain⟨o',e1⟩:=I.base.there b o e hx;exact free b o' (neC b o e hx) e1 (I.base.free b o e n hx)
 ·obtain⟨o',e1⟩:=I.base.there b o e hx;exact there b o' (neC b o e hx) e1
 ·obtain⟨m1,e1⟩:=I.base.tbls b ps e;obtain⟨m2,e2⟩:=tbls b _ e1;exact⟨m1++m2,by rw [e2,Array.append_assoc]⟩
 ·obtain⟨m,hn,hl⟩:=I.loc;refine⟨m,ns m hn,λi x v e1 e2 e3=>?_⟩;obtain⟨u,r,l⟩:=hl i x v e1 e2 e3;refine⟨u,r,?_⟩;rcases l with l | ⟨k,c,e,z⟩
  ·exact .inl l
  ·exact .inr ⟨k,c,e,cellK x c e _ z⟩
 ·obtain⟨v,z⟩:=I.cell x c e;exact⟨v,cellK x c e v z⟩
 ·obtain⟨m,⟨o,_,_,ho,_⟩,_⟩:=I.loc;exact free _ o (λz=>(hch _ z).2.1 rfl) ho I.free
 ·obtain⟨v,o,ho,hd⟩:=I.cell x c e;exact free c o (λz=>(hch c z).2.2.1 x c e rfl) ho (I.freeC x c e)
 ·obtain⟨e,n,ne,nf,d⟩:=I.pin p hp;have nch:p.1 ∉ ch:=λz=>(hch p.1 z).2.2.2 p hp rfl
  exact⟨keep p.1 p.2 ne nf nch e n,free p.1 p.2 nch e n,ne,nf,d⟩
theorem Ac.un (I:Ac X pins σ H s) (u:Un X.fs [] H H' s.heap h') (hok:HOk X.prog X.w H' h'):Ac X pins σ H' { s with heap:=h',toks:=t'}:=by
 obtain⟨m,⟨o,es,ep,ho,r⟩,_⟩:=id I.loc;obtain⟨sl,hL⟩:=u.any ho I.free (by simp);exact I.step (g':=s.gens) (d':=s.drawn) (ch:=[]) (λ_ z=>nomatch z) (λb o _ hb _ e n=>u.keep b o e n hb (by simp)) (λb o _ hb _ e n=>u.slot b o e n hb (by simp)) (λb o _ e n=>u.free b o e n (by simp)) (λb o _ e=>u.there b o e (by simp)) u.tups u.frzs u.tbls (λm' hm=>by
  obtain⟨o',es',ep',ho',r'⟩:=hm;rw [ho] at ho';cases ho';exact⟨_,es',ep',hL,r'⟩) hok I.bare
theorem Ac.call (I:Ac X pins σ H s) (u:Un (AB X.stack) ch H H' s.heap h') (hok:HOk X.prog X.w H' h') (hg:AllBare g')
  (hch:∀b∈ch,(b∈X.ex\/X.s₀.heap.objs.size<=b)/\b≠X.env.locals/\(∀x c,X.env.cells.lookup x=some c->c≠b)/\∀p∈X.pn++pins,p.1≠b):
  Ac X pins σ H' { s with heap:=h',gens:=g',drawn:=d',toks:=t'}:=by
 obtain⟨m,⟨o,es,ep,ho,r⟩,_⟩:=id I.loc;obtain⟨sl,hL⟩:=u.any ho I.free λz=>(hch _ z).2.1 rfl
 exact I.step (ch:=ch) hch (λb o hL hb hc e n=>u.keep b o e n (λz=>(mem_cons.mp (I.stkSub b z)).elim hL hb) hc) (λb o _ _ hc e n=>u.any e n hc) (λb o hc e n=>u.free b o e n hc) (λb o hc e=>u.there b o e hc) u.tups u.frzs u.tbls (λm' hm=>by
  obtain⟨o',es',ep',ho',r'⟩:=hm;rw [ho] at ho';cases ho';exact⟨_,es',ep',hL,r'⟩) hok hg
theorem Ac.turned {it:Addr} (I:Ac X pins σ H s) (k:∀b o,b≠it->s.heap.get? b=some o->h'.get? b=some o) (hn:H it=none) (hL:it≠X.env.locals)
  (h1:it∈X.ex\/X.s₀.heap.objs.size<=it) (h2:∀x c,X.env.cells.lookup x=some c->c≠it) (h3:∀p∈X.pn++pins,p.1≠it):Ac X pins σ H { s with heap:=h',toks:=t'}:=by
 have nit:∀b u,H b=some u->b≠it:=λb u e z=>by rw [z,hn] at e;cases e
 refine I.step (g':=s.gens) (d':=s.drawn) (ch:=[it]) (λb hb=>?_) (λb o _ _ hc e _=>k b o (λz=>hc (by simp [z])) e) (λb o _ _ hc e _=>⟨o.slots,k b o (λz=>hc (by simp [z])) e⟩) (λ_ _ _ _ n=>n)
  (λb o hc e=>⟨o,k b o (λz=>hc (by simp [z])) e⟩) (λ_ _ e=>e) (λ_ _ _ e=>e) (λb ps e=>⟨#[],by rw [e];simp⟩) (λm hm=>?_) (λb u e=>?_) I.bare
 ·have e:b=it:=by simpa using hb
  subst e;exact⟨h1,hL,h2,h3⟩
 ·obtain⟨o,es,ep,ho,r⟩:=hm;exact⟨o,es,ep,k _ o (Ne.symm hL) ho,r⟩
 ·refine(I.hok b u e).stay (λc v hc q=>k c v ?_ q) (λ_ q=>q) λ_ _ q=>q
  rcases hc with z | z
  ·rw [z];exact nit b u e
  ·exact nit c _ z
theorem Ac.tok (I:Ac X pins σ H s) (t:Nat):Ac X pins σ H { s with toks:=t}:=I.un (h':=s.heap) (t':=t) Un.refl I.hok
theorem Ac.kept (I:Ac X pins σ H s) (k:∀b u,s.heap.get? b=some u->h'.get? b=some u):Ac X pins σ H { s with heap:=h',toks:=t'}:=I.un (Un.kept k) (I.hok.kept k)
theorem Ac.laid {a:Addr}{o:HO} (I:Ac X pins σ H s) (k:∀b u,s.heap.get? b=some u->h'.get? b=some u) (hp:s.heap.objs.size<=a) (new:ObjOk X.prog X.w (upd H a o) h' a o):
  Ac X pins σ (upd H a o) { s with heap:=h',toks:=t'}:=I.un (Un.laid k hp (I.hok.fresh hp)) (I.hok.laid k hp new)
theorem Ac.write {x e:Addr}{o:HO} (I:Ac X pins σ H s) (mu:FB (H x)) (he:e=x\/H e=some (.own x)) (k:∀b u,b≠e->s.heap.get? b=some u->h'.get? b=some u) (heo:∃u,h'.get? e=some u)
  (new:ObjOk X.prog X.w (upd H x o) h' x o):Ac X pins σ (upd H x o) { s with heap:=h',toks:=t'}:=I.un (Un.write mu he k heo) (I.hok.write mu he k heo new)
theorem Ac.weak {σ':List (Option V)} (I:Ac X pins σ H s) (hl:σ'.length=σ.length) (w:∀(i:Nat) v,σ'[i]? =some (some v)->σ[i]? =some (some v)):Ac X pins σ' H s:=
 ⟨I.ok,I.os,I.bare,I.base,let ⟨m,hn,hl'⟩:=I.loc;⟨m,hn,λi x v e1 e2 e3=>hl' i x v e1 (w i v e2) e3⟩,I.cell,I.free,I.freeC,I.pin,I.hok,hl.trans I.len⟩
theorem Ac.pins_of {pins':PNs} (I:Ac X pins σ H s) (h:∀p∈pins',s.heap.get? p.1=some p.2/\H p.1=none/\p.1≠X.env.locals/\p.1 ∉ X.fs/\∀v,p.2.data≠ .cell v):Ac X pins' σ H s:=
 ⟨I.ok,I.os,I.bare,I.base,I.loc,I.cell,I.free,I.freeC,λp hp=>(mem_append.mp hp).elim (λz=>I.pin p (mem_append_left _ z)) (h p),I.hok,I.len⟩
theorem Iy {N:List Str} (hN:N.Nodup) {i j:Nat}{x:Str} (a:N[i]? =some x) (b:N[j]? =some x):i=j:=by
 obtain⟨h1,e1⟩:=List.getElem?_eq_some_iff.mp a;obtain⟨h2,e2⟩:=List.getElem?_eq_some_iff.mp b;exact(List.getElem_inj hN).mp (e1.trans e2.symm)
theorem Iz {A:Around}{x:Str} (I:Ac X pins σ H s) (hN:X.N.Nodup) (hi:X.N[i]? =some x) (hx:DQ X.env.scope x) (r:RelV v u)
  (h:∀s',Ac X pins (σ.set i (some v)) H s'->(∃a,Heap.SameBut a s.heap s'.heap/\(a=X.env.locals\/X.env.cells.lookup x=some a))->Q () s') (hf:X.fn x=true\/X.env.scope.names.lookup x=some .local :=by first | exact .inl rfl | exact .inr rfl | assumption):wpAny M A (storeName X.env x u) Q E s:=by
 obtain⟨m,hn,hl⟩:=id I.loc;have hcls:(X.env.scope.kind== .class || (X.env.scope.kind== .module && X.env.locals !=X.env.globals))=false:=by rw [I.ok.kind];rfl
 have hiσ:i<σ.length:=by rw [I.len];exact(List.getElem?_eq_some_iff.mp hi).1
 have cne:=I.cne;have tracked:∀ {a:Addr}{h':Heap},(∃o,s.heap.get? a=some o/\H a=none)->Heap.SameBut a s.heap h'->HOk X.prog X.w H h':=λ{a h'} ha hs b ob e=>by
  obtain⟨_,_,hfree⟩:=ha;refine(I.hok b ob e).stay (λc w' hc q=>(hs.2 c ?_).trans q) (λ_ q=>q) λ_ _ q=>q
  rintro rfl;rcases hc with rfl | hc
  ·rw [hfree] at e;cases e
  ·rw [hfree] at hc;cases hc
 rcases hx with hk | hk
 ·refine wpAny_storeName_local hk hn (λh' hn' hs=>?_) hcls;obtain⟨oL,_,_,hoL,_⟩:=id hn;refine h _ ⟨I.ok,I.os,I.bare,⟨λb o e n hb hx=>?_,λb o e n hb hx=>?_,I.base.free,λb o e hx=>?_,I.base.tups,I.base.frzs,I.base.tbls⟩,⟨_,hn',λj y v' e1 e2 e3=>?_⟩,λy c e=>?_,I.free,I.freeC,λp hp=>?_,tracked ⟨oL,hoL,I.free⟩ hs,by simpa using I.len⟩ ⟨_,hs,.inl rfl⟩
  ·exact(hs.2 b (Nat.ne_of_lt (Nat.lt_of_lt_of_le (Heap.lt_size e) I.ok.above))).trans (I.base.keep b o e n hb hx)
  ·obtain⟨sl,e1⟩:=I.base.slot b o e n hb hx;exact⟨sl,(hs.2 b (Nat.ne_of_lt (Nat.lt_of_lt_of_le (Heap.lt_size e) I.ok.above))).trans e1⟩
  ·obtain⟨o',e1⟩:=I.base.there b o e hx;exact⟨o',(hs.2 b (Nat.ne_of_lt (Nat.lt_of_lt_of_le (Heap.lt_size e) I.ok.above))).trans e1⟩
  ·by_cases hj:j=i
   ·subst hj;rw [hi] at e1;cases e1;rw [getElem?_set_self hiσ] at e2;cases e2;exact⟨u,r,.inl ⟨hk,by simp⟩⟩
   ·rw [List.getElem?_set_ne (Ne.symm hj)] at e2;obtain⟨u',r',q⟩:=hl j y v' e1 e2 e3;refine⟨u',r',?_⟩;rcases q with⟨k,e⟩ | ⟨k,c,e,z⟩
    ·refine .inl ⟨k,?_⟩;have:y≠x:=λe=>hj (Iy hN e1 (e ▸ hi))
     simp [this,e]
    ·exact .inr ⟨k,c,e,z.sameBut hs (cne y c e)⟩
  ·obtain⟨w',z⟩:=I.cell y c e;exact⟨w',z.sameBut hs (cne y c e)⟩
  ·obtain⟨e,n,ne,nf,d⟩:=I.pin p hp;exact⟨(hs.2 p.1 ne).trans e,n,ne,nf,d⟩
 ·have hfn:X.fn x=true:=by
   rcases hf with z | z
   ·exact z
   ·rw [z] at hk;cases hk
  obtain⟨c,hc⟩:=I.ok.has x (.inl hk);obtain⟨w',z⟩:=I.cell x c hc;refine wpAny_storeName_cell I.ok.kind hk hc z (λh' hc' hs=>?_);obtain⟨oc,hoc,hocd⟩:=id z;refine h { s with heap:=h'} ⟨I.ok,I.os,I.bare,⟨λb o e n hb hx=>?_,λb o e n hb hx=>?_,I.base.free,λb o e hx=>?_,I.base.tups,I.base.frzs,I.base.tbls⟩,⟨m,hn.sameBut hs (Ne.symm (cne x c hc)),λj y v' e1 e2 e3=>?_⟩,λy c' e=>?_,I.free,I.freeC,λp hp=>?_,tracked ⟨oc,hoc,I.freeC x c hc⟩ hs,by simpa using I.len⟩ ⟨c,hs,.inr hc⟩
  ·exact(hs.2 b (Nat.ne_of_lt (Nat.lt_of_lt_of_le (Heap.lt_size e) (I.ok.cab x c hfn hc)))).trans (I.base.keep b o e n hb hx)
  ·obtain⟨sl,e1⟩:=I.base.slot b o e n hb hx;exact⟨sl,(hs.2 b (Nat.ne_of_lt (Nat.lt_of_lt_of_le (Heap.lt_size e) (I.ok.cab x c hfn hc)))).trans e1⟩
  ·obtain⟨o',e1⟩:=I.base.there b o e hx;exact⟨o',(hs.2 b (Nat.ne_of_lt (Nat.lt_of_lt_of_le (Heap.lt_size e) (I.ok.cab x c hfn hc)))).trans e1⟩
  ·by_cases hj:j=i
   ·subst hj;rw [hi] at e1;cases e1;rw [getElem?_set_self hiσ] at e2;cases e2;exact⟨u,r,.inr ⟨.inl hk,c,hc,hc'⟩⟩
   ·rw [List.getElem?_set_ne (Ne.symm hj)] at e2;obtain⟨u',r',q⟩:=hl j y v' e1 e2 e3;refine⟨u',r',?_⟩;rcases q with q | ⟨k,c',e,z'⟩
    ·exact .inl q
    ·refine .inr ⟨k,c',e,z'.sameBut hs ?_⟩;rintro rfl;exact hj (Iy hN e1 (I.ok.inj _ _ _ e hc ▸ hi))
  ·by_cases hcc:c'=c
   ·subst hcc;exact⟨_,hc'⟩
   ·obtain⟨w2,z2⟩:=I.cell y c' e;exact⟨w2,z2.sameBut hs hcc⟩
  ·obtain⟨e,n,ne,nf,d⟩:=I.pin p hp;refine⟨(hs.2 p.1 ?_).trans e,n,ne,nf,d⟩;intro q;rw [q,hoc] at e;have q':oc=p.2:=Option.some.inj e;exact d w' (by rw [<-q'];exact hocd)
theorem EN {A:Around}{x:Str} (I:Ac X pins σ H s) (hN:X.N.Nodup) (hi:X.N[i]? =some x) (hx:DQ X.env.scope x) (r:RelV v u)
  (h:∀s',Ac X pins (σ.set i (some v)) H s'->Q () s') (hf:X.fn x=true\/X.env.scope.names.lookup x=some .local :=by first | exact .inl rfl | exact .inr rfl | assumption):wpAny M A (storeName X.env x u) Q E s:=
 Iz I hN hi hx r (λs' I' _=>h s' I') hf
theorem Ac.call' {s':Shared} (I:Ac X pins σ H s) (ho:s'.os=s.os) (u:Un (AB X.stack) ch H H' s.heap s'.heap) (hok:HOk X.prog X.w H' s'.heap) (hg:AllBare s'.gens)
  (hch:∀b∈ch,(b∈X.ex\/X.s₀.heap.objs.size<=b)/\b≠X.env.locals/\(∀x c,X.env.cells.lookup x=some c->c≠b)/\∀p∈X.pn++pins,p.1≠b):Ac X pins σ H' s':=by
 obtain⟨h',g',d',t',o'⟩:=s';have e:o'=s.os:=ho;subst e;exact I.call (g':=g') (t':=t') (d':=d') u hok hg hch
end
abbrev XK:=Value->Option Addr->Hp->Prop
abbrev St:=List (Option V)
abbrev VK:=V->Hp->Prop
abbrev TE:=St->Hp->VK->Prop
abbrev TT:=St->Hp->(Bool->Hp->Prop)->Prop
abbrev TA:=St->Hp->(List V->Hp->Prop)->Prop
structure Ei where
 nx:St->Hp->Prop
 rt:VK
 bk:St->Hp->Prop:=λ_ _=>False
 ct:St->Hp->Prop:=λ_ _=>False
abbrev TS:=Ei->St->Hp->Prop
def EP (X:Cx) (pins:PNs) (σ:St) (Q:VK) (u:Value) (s':Shared):Prop:=∃v H',Ac X pins σ H' s'/\RelV v u/\Q v H'
def TP (X:Cx) (pins:PNs) (σ:St) (Q:Bool->Hp->Prop) (b:Bool) (s':Shared):Prop:=∃H',Ac X pins σ H' s'/\Q b H'
def AP (X:Cx) (pins:PNs) (σ:St) (Q:List V->Hp->Prop) (us:List Value) (s':Shared):Prop:=∃vs H',Ac X pins σ H' s'/\As vs us/\Q vs H'
def SP (X:Cx) (pins:PNs) (D:Ei) (f:Flow) (s':Shared):Prop:=
 match f with
 | .next=>∃σ' H',Ac X pins σ' H' s'/\D.nx σ' H'
 | .brk=>∃σ' H',Ac X pins σ' H' s'/\D.bk σ' H'
 | .cont=>∃σ' H',Ac X pins σ' H' s'/\D.ct σ' H'
 | .ret u=>∃v σ' H',Ac X pins σ' H' s'/\RelV v u/\D.rt v H'
def PE (X:Cx) (e:Expr) (t:TE):Prop:=
 ∀(pins:PNs) (s:Shared) (σ:St) (H:Hp) (Q:VK),Ac X pins σ H s->t σ H Q->wpAny (model X.prog X.w) X.A (eval e X.env) (EP X pins σ Q) X.xe s
def PT (X:Cx) (e:Expr) (t:TT):Prop:=
 ∀(pins:PNs) (s:Shared) (σ:St) (H:Hp) (Q:Bool->Hp->Prop),Ac X pins σ H s->t σ H Q->wpAny (model X.prog X.w) X.A (isTrue e X.env (eval e X.env)) (TP X pins σ Q) X.xe s
def PW (X:Cx) (e:Expr) (t:TT):Prop:=
 ∀(whole:Sem Value) (pins:PNs) (s:Shared) (σ:St) (H:Hp) (Q:Bool->Hp->Prop),Ac X pins σ H s->t σ H Q->wpAny (model X.prog X.w) X.A (isTrue e X.env whole) (TP X pins σ Q) X.xe s
theorem PW.pt {X:Cx}{e:Expr}{t:TT} (h:PW X e t):PT X e t:=h _
def PA (X:Cx) (es:List Expr) (t:TA):Prop:=
 ∀(pos:Pos) (pins:PNs) (s:Shared) (σ:St) (H:Hp) (Q:List V->Hp->Prop),Ac X pins σ H s->t σ H Q->wpAny (model X.prog X.w) X.A (spliced (backTo pos (starEach es X.env))) (AP X pins σ Q) X.xe s
def PS (X:Cx) (st:Stmt) (t:TS):Prop:=
 ∀(pins:PNs) (s:Shared) (σ:St) (H:Hp) (D:Ei),Ac X pins σ H s->t D σ H->wpAny (model X.prog X.w) X.A (exec st X.env) (SP X pins D) X.xe s
def PSs (X:Cx) (st:List Stmt) (t:TS):Prop:=
 ∀(pins:PNs) (s:Shared) (σ:St) (H:Hp) (D:Ei),Ac X pins σ H s->t D σ H->wpAny (model X.prog X.w) X.A (execs st X.env) (SP X pins D) X.xe s
theorem Ap {α:Type}{t:Sem α}{Q Q':α->Shared->Prop}{A:Around}{s:Shared} (h:wpAny M A t Q E s) (hQ:∀a s,Q a s->Q' a s):wpAny M A t Q' E s:=wpAny_mono h hQ λ_ _ x=>x
end L2
namespace L2
variable {E Q : Value -> Shared -> Prop} {pins : List (Addr × Obj)} {s : Shared} {σ : St} {H : Hp} {u : Value}
section
variable {X : Cx}
def NB (i:Nat):TE:=fun σ H Q=>∃v,σ[i]? =some (some v)/\Q v H
def tC (v:V):TE:=λ_ H Q=>Q v H
theorem Gn {i:Nat}{x:Str}{pos:Pos} (hN:X.N[i]? =some x) (hv:Eh X.env.scope x) (hd:(x==("__debug__" :Str))=false:=by decide) (hcd:(x==("__classdict__" :Str))=false:=by decide):PE X (.Name x pos) (NB i):=by
 intro pins s σ H Q I h;obtain⟨v,e,h⟩:=h;obtain⟨m,hn,hl⟩:=I.loc;obtain⟨u,r,l⟩:=hl i x v hN e hv;have fin:EP X pins σ Q u s:=⟨v,H,I,r,h⟩;rcases l with⟨hk,hm⟩ | ⟨hk,c,hc,hcell⟩
 ·exact wpAny_Name (wpAny_loadName_local I.ok.kind hk hn hm fin) hd
 ·rcases hk with hk | hk
  ·exact wpAny_Name (wpAny_loadName_cell I.ok.kind hk hc hcell fin) hd
  ·exact wpAny_Name (wpAny_loadName_free I.ok.kind hk hc hcell fin hcd) hd
theorem Af {i j pos}:PE X (.Constant (.int i) j pos) (tC (.int i)):=λ_ _ _ H _ I h=>wpAny_Constant_int ⟨.int i,H,I.tok _,⟨_,rfl⟩,h⟩
theorem BQ {b j pos}:PE X (.Constant (.bool b) j pos) (tC (.bl b)):=λ_ _ _ H _ I h=>Constant_bool ⟨.bl b,H,I,rfl,h⟩
theorem Ej {j pos}:PE X (.Constant .none j pos) (tC .non):=λ_ _ _ H _ I h=>Constant_none ⟨.non,H,I,rfl,h⟩
theorem Ao {x j pos}:PE X (.Constant (.str x) j pos) (tC (.str x)):=λ_ _ _ H _ I h=>Calls.Constant_str ⟨.str x,H,I.tok _,⟨_,rfl⟩,h⟩
def Gl (X:Cx) (x:Str):Prop:=X.env.kindOf x=some .globalImplicit
theorem Dt {x:Str}{pos:Pos} (I:Ac X pins σ H s) (hg:Gl X x) (hm:X.mg x=some u) (h:Q u s)
  (hd:(x==("__debug__" :Str))=false:=by decide):wpAny (model X.prog X.w) X.A (eval (.Name x pos) X.env) Q E s:=
 Calls.Name_function_global I.ok.kind hg (Calls.loadGlobal_global (by rw [I.ok.glob];exact I.mod.glob.keeps I.bk) hm h) hd
theorem DR {x:Str}{pos:Pos} (I:Ac X pins σ H s) (hg:Gl X x) (hm:X.mg x=none) (hv:bootBuiltins x=some u) (h:Q u s)
  (hn:x≠ "__name__" :=by decide) (hd:(x==("__debug__" :Str))=false:=by decide):wpAny (model X.prog X.w) X.A (eval (.Name x pos) X.env) Q E s:=by
 obtain⟨mb,h1,h2⟩:=I.mod.blt;exact Calls.Name_function_global I.ok.kind hg (Calls.loadGlobal_builtin (by rw [I.ok.glob];exact I.mod.glob.keeps I.bk) hm (by rw [I.ok.blt];exact h1.keeps I.bk) ((h2 x hn).trans hv) h) hd
theorem AO {x:Str}{v:V}{u:Value}{pos:Pos} (hg:Gl X x) (hm:X.mg x=some u) (r:RelV v u) (hd:(x==("__debug__" :Str))=false:=by decide):PE X (.Name x pos) (tC v):=
 λ_ _ _ H _ I h=>Dt I hg hm ⟨v,H,I,r,h⟩ hd
theorem Ek {x:Str}{v:V}{u:Value}{pos:Pos} (hg:Gl X x) (hm:X.mg x=none) (hv:bootBuiltins x=some u) (r:RelV v u) (hn:x≠ "__name__" :=by decide) (hd:(x==("__debug__" :Str))=false:=by decide):PE X (.Name x pos) (tC v):=
 λ_ _ _ H _ I h=>DR I hg hm hv ⟨v,H,I,r,h⟩ hn hd
variable {a b : Expr} {ta tb : TE} {pos : Pos}
def tB (t:TE):TT:=fun σ H Q=>t σ H λx H1=>∃c,x= .bl c/\Q c H1
variable {tA tB' : TT} {rest : List Expr}
def NC (t:TT):TT:=fun σ H Q=>t σ H λc H1=>Q (!c) H1
theorem Go (ha:PT X a tA):PW X (.BoolOp .And [a] pos) tA:=by
 intro wh pins s σ H Q I h;refine isTrue_and (Ap (ha pins s σ H Q I h) λc s1 e=>?_);cases c with
 | true=>exact isTrue_and_nil e
 | false=>exact e
theorem EO (ha:PT X a tA):PW X (.BoolOp .Or [a] pos) tA:=by
 intro wh pins s σ H Q I h;refine isTrue_or (Ap (ha pins s σ H Q I h) λc s1 e=>?_);cases c with
 | false=>exact isTrue_or_nil e
 | true=>exact e
theorem BD (ha:PT X a tA):PT X (.UnaryOp .Not a pos) (NC tA):=by
 intro pins s σ H Q I h;exact isTrue_not (ha pins s σ H (λc H1=>Q (!c) H1) I h)
theorem Ca {op}{t:TE} (h:PE X a t):PE X (.BoolOp op [a] pos) t:=λpins s σ H Q I hw=>BoolOp_one (h pins s σ H Q I hw)
end
end L2
namespace L2
variable {i : Nat} {P : Program} {tg : Expr}
def Ai (K:Fgx) (H:Hp) (a:Addr) (xs:List V):Prop:=
 Rd H a (.lst xs)\/
  ∃(o:Obj) (its:Array Value) (n:Nat),K.lookup a=some o/\o.cls= .type "list" /\o.dict=none/\o.data= .seq its n/\its.size<=sizeLine/\As xs its.toList
def Ag (K:Fgx) (H:Hp) (a:Addr) (xs:List V):Prop:=
 Rd H a (.tup xs)\/
  ∃(o:Obj) (its:Array Value) (n:Nat),K.lookup a=some o/\o.cls= .type "tuple" /\o.data= .seq its n/\its.size<=sizeLine/\As xs its.toList
def ND:Value->Option V
 | .none=>some .non
 | .bool b=>some (.bl b)
 | .int i _=>some (.int i)
 | .str x _=>some (.str x)
 | .bytes b _=>some (.byt b)
 | .float b _=>some (.flt b)
 | .ref a=>some (.ref a)
 | .type n=>some (.ty n)
 | _=>none
theorem RelV.abs {x:V}{u:Value} (r:RelV x u):ND u=some x:=by
 cases x with
 | non=>cases r;rfl
 | bl _=>cases r;rfl
 | int _=>obtain⟨t,rfl⟩:=r;rfl
 | str _=>obtain⟨t,rfl⟩:=r;rfl
 | byt _=>obtain⟨t,rfl⟩:=r;rfl
 | flt _=>obtain⟨t,rfl⟩:=r;rfl
 | ref _=>cases r;rfl
 | ty _=>cases r;rfl
theorem RelV.inj {x y:V}{u:Value} (r:RelV x u) (q:RelV y u):x=y:=Option.some.inj (r.abs.symm.trans q.abs)
theorem As.inj:∀ {xs ys:List V}{us:List Value},As xs us->As ys us->xs=ys
 | _,_,_,.nil,.nil=>rfl
 | _,_,_,.cons r t,.cons r' t'=>by rw [r.inj r',As.inj t t']
section
variable {X : Cx} {pins : List (Addr × Obj)} {σ : St} {H : Hp} {s : Shared} {a : Addr} {xs ys : List V}
theorem Ai.of {K:Fgx} (h:H a=some (.lst xs)):Ai K H a xs:= .inl (.inl h)
theorem Ag.of {K:Fgx} (h:H a=some (.tup xs)):Ag K H a xs:= .inl (.inl h)
theorem Ac.list (I:Ac X pins σ H s) (h:Ai X.K H a xs):∃its:List Value,As xs its/\PlainL s.heap a its.toArray/\xs.length<=sizeLine:=by
 rcases h with h | ⟨o,its,n,hk,hc,hd,hs,hz,r⟩
 ·obtain⟨z,its,n,r,e⟩:=h.ok I.hok;exact⟨its,r,⟨_,n,e,rfl,rfl,rfl⟩,z⟩
 ·refine⟨its.toList,r,⟨o,n,I.kIn a o hk,hc,hd,by simpa using hs⟩,?_⟩;have e:=r.length;simp only [Array.length_toList] at e;omega
theorem Ac.tuple (I:Ac X pins σ H s) (h:Ag X.K H a xs):∃its:List Value,As xs its/\IsTup s.heap a its.toArray/\xs.length<=sizeLine:=by
 rcases h with h | ⟨o,its,n,hk,hc,hs,hz,r⟩
 ·obtain⟨z,its,r,p⟩:=h.ok I.hok;exact⟨its,r,p,z⟩
 ·refine⟨its.toList,r,⟨o,I.kIn a o hk,hc,n,by simpa using hs⟩,?_⟩;have e:=r.length;simp only [Array.length_toList] at e;omega
theorem Ac.list_inj (I:Ac X pins σ H s) (h:Ai X.K H a xs) (h':Ai X.K H a ys):xs=ys:=by
 obtain⟨its,r,⟨o,n,e,_,_,d⟩,_⟩:=I.list h;obtain⟨its',r',⟨o',n',e',_,_,d'⟩,_⟩:=I.list h';rw [e] at e';cases e';rw [d] at d';injection d' with d1 _
 have:its=its':=by simpa using congrArg Array.toList d1
 subst this;exact r.inj r'
theorem Ac.tuple_inj (I:Ac X pins σ H s) (h:Ag X.K H a xs) (h':Ag X.K H a ys):xs=ys:=by
 obtain⟨its,r,⟨o,e,_,n,d⟩,_⟩:=I.tuple h;obtain⟨its',r',⟨o',e',_,n',d'⟩,_⟩:=I.tuple h';rw [e] at e';cases e';rw [d] at d';injection d' with d1 _
 have:its=its':=by simpa using congrArg Array.toList d1
 subst this;exact r.inj r'
end
abbrev Cx.wish (X:Cx) (E:VSP):Cx:= { X with xe:=E}
abbrev Cx.nox (X:Cx):Cx:=X.wish λ_ _=>False
theorem Cx.Ok.wish {X:Cx} (ok:X.Ok) (E:VSP):(X.wish E).Ok:=
 ⟨ok.mod,ok.kind,ok.glob,ok.blt,ok.above,ok.inj,ok.has,ok.cab,ok.hd,ok.frames,ok.stk,ok.exf,ok.bs,ok.bsz,ok.noex,ok.exfs,ok.funs,ok.frf⟩
theorem Cx.Ok.unwish {X:Cx}{E:VSP} (ok:(X.wish E).Ok):X.Ok:=
 ⟨ok.mod,ok.kind,ok.glob,ok.blt,ok.above,ok.inj,ok.has,ok.cab,ok.hd,ok.frames,ok.stk,ok.exf,ok.bs,ok.bsz,ok.noex,ok.exfs,ok.funs,ok.frf⟩
section
variable {X : Cx} {pins : List (Addr × Obj)} {σ : St} {H : Hp} {s : Shared} {E : Value -> Shared -> Prop}
theorem Ac.wish (I:Ac X pins σ H s) (E:VSP):Ac (X.wish E) pins σ H s:=⟨I.ok.wish E,I.os,I.bare,I.base,I.loc,I.cell,I.free,I.freeC,I.pin,I.hok,I.len⟩
theorem Ac.unwish (I:Ac (X.wish E) pins σ H s):Ac X pins σ H s:=⟨I.ok.unwish,I.os,I.bare,I.base,I.loc,I.cell,I.free,I.freeC,I.pin,I.hok,I.len⟩
theorem SP.unwish {D:Ei}{f:Flow}{s':Shared} (h:SP (X.wish E) pins D f s'):SP X pins D f s':=by
 cases f with
 | next=>obtain⟨σ',H',I,q⟩:=h;exact⟨σ',H',I.unwish,q⟩
 | brk=>obtain⟨σ',H',I,q⟩:=h;exact⟨σ',H',I.unwish,q⟩
 | cont=>obtain⟨σ',H',I,q⟩:=h;exact⟨σ',H',I.unwish,q⟩
 | ret u=>obtain⟨v,σ',H',I,r,q⟩:=h;exact⟨v,σ',H',I.unwish,r,q⟩
theorem PSs.nox {st:List Stmt}{t:TS} (h:PSs X.nox st t):PSs X st t:=λpins s σ H D I hw=>
 wpAny_mono (h pins s σ H D (I.wish _) hw) (λ_ _ q=>q.unwish) λ_ _ z=>False.elim z
end
section
variable {X : Cx} {st : Stmt} {rest : List Stmt} {t u : TS} {e : Expr} {te : TE} {pos : Pos}
def NE:TS:=λD σ H=>D.nx σ H
def NF (t u:TS):TS:=λD σ H=>t { D with nx:=u D} σ H
theorem A1:PSs X [] NE:=λ_ _ σ H _ I h=>wpAny_execs_nil ⟨σ,H,I,h⟩
theorem Ah (h1:PS X st t) (h2:PSs X rest u):PSs X (st::rest) (NF t u):=by
 intro pins s σ H D I h;refine wpAny_execs_cons (Ap (h1 pins s σ H { D with nx:=u D} I h) λf s1 q=>?_);cases f with
 | next=>
  obtain⟨σ',H',I',q⟩:=q;exact h2 pins s1 σ' H' D I' q
 | ret v=>exact q
 | brk=>exact q
 | cont=>exact q
theorem Aj (h1:PS X st t):PSs X [st] t:=by
 intro pins s σ H D I h;refine wpAny_execs_cons (Ap (h1 pins s σ H D I h) λf s1 q=>?_);cases f with
 | next=>exact wpAny_execs_nil q
 | ret v=>exact q
 | brk=>exact q
 | cont=>exact q
theorem Ac.quiet {pins:PNs}{σ:St}{H:Hp}{s:Shared} (I:Ac X pins σ H s):interactive X.env=false:=by simp [interactive,I.ok.kind]
def NG (te:TE):TS:=λD σ H=>te σ H λ_ H1=>D.nx σ H1
theorem Ba (he:PE X e te) (hs:swapsWith e none pos.line X.env=pure false:=by rfl):PS X (.Expr e pos) (NG te):=by
 intro pins s σ H D I h;exact wpAny_Expr_any (Ap (he pins s σ H _ I h) λv s1 ⟨x,H1,I1,r1,q1⟩=>⟨σ,H1,I1,q1⟩) I.quiet hs
def NH (te:TE):TS:=λD σ H=>te σ H D.rt
theorem Au (he:PE X e te):PS X (.Return (some e) pos) (NH te):=by
 intro pins s σ H D I h;exact wpAny_Return_some (Ap (he pins s σ H _ I h) λv s1 ⟨x,H1,I1,r1,q1⟩=>⟨x,σ,H1,I1,r1,q1⟩)
def NI:TS:=λ_ _ _=>False
theorem IA:PS X st NI:=λ_ _ _ _ _ _ h=>h.elim
end
abbrev TG:=V->St->Hp->(St->Hp->Prop)->Prop
abbrev C7:=List V->St->Hp->(St->Hp->Prop)->Prop
def PG (X:Cx) (target:Expr) (t:TG):Prop:=
 ∀(pins:PNs) (s:Shared) (σ:St) (H:Hp) (v:V) (u:Value) (Q:St->Hp->Prop),Ac X pins σ H s->RelV v u->t v σ H Q->
  wpAny (model X.prog X.w) X.A (assign target X.env u) (λ_ s'=>∃σ' H',Ac X pins σ' H' s'/\Q σ' H') X.xe s
def EQ (X:Cx) (ts:List Expr) (t:C7):Prop:=
 ∀(pins:PNs) (s:Shared) (σ:St) (H:Hp) (vs:List V) (us:List Value) (Q:St->Hp->Prop),Ac X pins σ H s->As vs us->t vs σ H Q->
  wpAny (model X.prog X.w) X.A (assignInOrder ((assignEach ts X.env).map (·.2)) us) (λ_ s'=>∃σ' H',Ac X pins σ' H' s'/\Q σ' H') X.xe s
abbrev IB:=V->V->V->Hp->(Hp->Prop)->Prop
def Ke (X:Cx) (t:IB):Prop:=
 ∀(pins:PNs) (s:Shared) (σ:St) (H:Hp) (o i v:V) (ov iv u:Value) (Q:Hp->Prop),Ac X pins σ H s->RelV o ov->RelV i iv->RelV v u->t o i v H Q->
  wpAny (model X.prog X.w) X.A (setItem ov iv u) (λ_ s'=>∃H',Ac X pins σ H' s'/\Q H') X.xe s
abbrev Gp:=V->V->Hp->VK->Prop
def IC (X:Cx) (op:Operator) (t:Gp):Prop:=
 ∀(pins:PNs) (s:Shared) (σ:St) (H:Hp) (x y:V) (v u:Value) (Q:VK),Ac X pins σ H s->RelV x v->RelV y u->t x y H Q->
  wpAny (model X.prog X.w) X.A (inplaceOp op v u) (EP X pins σ Q) X.xe s
section
variable {X : Cx} {pos : Pos}
def FC (i:Nat):TG:=λv σ H Q=>Q (σ.set i (some v)) H
theorem NJ {x:Str} (hN:X.N.Nodup) (hi:X.N[i]? =some x) (hx:DQ X.env.scope x) (hf:X.fn x=true\/X.env.scope.names.lookup x=some .local :=by first | exact .inl rfl | exact .inr rfl | assumption):PG X (.Name x pos) (FC i):=by
 intro pins s σ H v u Q I r h;exact wpAny_assign_Name (EN I hN hi hx r (λs' I'=>⟨_,H,I',h⟩) hf)
def NK:C7:=λvs σ H Q=>vs=[]/\Q σ H
def NL (t:TG) (u:C7):C7:=λvs σ H Q=>∃v r,vs=v::r/\t v σ H fun σ' H'=>u r σ' H' Q
theorem AQ:EQ X [] NK:=by
 intro pins s σ H vs us Q I r h;obtain⟨e,h⟩:=h;subst e;cases r;exact assignInOrder_nil ⟨σ,H,I,h⟩
theorem Ar {e:Expr}{es:List Expr}{t:TG}{u:C7} (h1:PG X e t) (h2:EQ X es u)
  (hs:(assignEach (e::es) X.env).map (·.2)=assign e X.env::(assignEach es X.env).map (·.2):=by rfl):EQ X (e::es) (NL t u):=by
 intro pins s σ H vs us Q I r h;obtain⟨v,vr,e1,h⟩:=h;subst e1;cases r with
 | cons r rr=>
  rw [hs];refine assignInOrder_cons (Ap (h1 pins s σ H _ _ _ I r h) λ_ s1 ⟨σ1,H1,I1,q1⟩=>?_);exact h2 pins s1 σ1 H1 _ _ Q I1 rr q1
def Kf (K:Fgx) (n:Nat) (t:C7):TG:=λv σ H Q=>∃a xs,v= .ref a/\Ag K H a xs/\xs.length=n/\t xs σ H Q
theorem NM {es:List Expr}{k:Nat}{t:C7}{n:Nat} (hc:X.calm=true) (h:EQ X es t)
  (hn:(assignEach es X.env).length=n:=by rfl) (hst:(assignEach es X.env).findIdx? (·.1)=none:=by rfl):PG X (.Tuple es k pos) (Kf X.K n t):=by
 intro pins s σ H v u Q I r hw;obtain⟨a,xs,e1,hq,hl,hw⟩:=hw;subst e1;cases r;obtain⟨its,rv,ht,hz⟩:=I.tuple hq;refine assign_Tuple_tuple (I.ok.hd hc) ht (by simp [hn,<-hl,rv.length]) hst λh' hx=>?_
 have I1:Ac X pins σ H { s with heap:=h'}:=I.kept (t':=s.toks) λb o e=>hx b o (Nat.ne_of_lt (Heap.lt_size e)) e
 exact h pins _ σ H xs _ Q I1 (by simpa using rv) hw
def NN (to ti:TE) (t:IB):TG:=λv σ H Q=>to σ H λo H1=>ti σ H1 λi H2=>t o i v H2 λH3=>Q σ H3
theorem ID {o i:Expr}{to ti:TE}{t:IB} (ho:PE X o to) (hi:PE X i ti) (hs:Ke X t)
  (ha : ∀ v, assign (.Subscript o i pos) X.env v = (do
   let ov<-holding [v] (eval o X.env)
   let iv<-holding [v,ov] (eval i X.env)
   standAt pos
   holding [v,ov,iv] (setItem ov iv v)
   release [v,ov,iv] []):=by intro _;rfl):PG X (.Subscript o i pos) (NN to ti t):=by
 intro pins s σ H v u Q I r h;rw [ha];refine wpAny_bind (wpAny_holding (Ap (ho pins s σ H _ I h) λov s1 ⟨x,H1,I1,r1,q1⟩=>?_));refine wpAny_bind (wpAny_holding (Ap (hi pins s1 σ H1 _ I1 q1) λiv s2 ⟨y,H2,I2,r2,q2⟩=>?_));refine wpAny_bind (wpAny_standAt (wpAny_bind (wpAny_holding (Ap (hs pins s2 σ H2 x y v ov iv u _ I2 r1 r2 r q2) λ_ s3 ⟨H3,I3,q3⟩=>?_))));exact wpAny_release ⟨σ,H3,I3,q3⟩
def Kg (te:TE) (g:TG):TS:=λD σ H=>te σ H λx H1=>g x σ H1 D.nx
theorem Bk {tg e:Expr}{te:TE}{g:TG} (he:PE X e te) (hg:PG X tg g) (hs:swapsWithSole [tg] e pos.line X.env=pure false:=by rfl) (hw:swappedStores [tg] e X.env=pure none:=by rfl)
  (h1:(assignEach [tg] X.env).map (·.2)=[assign tg X.env]:=by rfl):PS X (.Assign [tg] e pos) (Kg te g):=by
 intro pins s σ H D I h;refine wpAny_Assign_stores (Ap (he pins s σ H _ I h) λv s1 ⟨x,H1,I1,r1,q1⟩=>?_) hs hw;rw [h1];exact Ap (hg pins s1 σ H1 x v _ I1 r1 q1) λ_ s2 q=>q
theorem AG {i:Nat}{x:Str}{e:Expr}{te:TE}{pos':Pos} (hN:X.N.Nodup) (hi:X.N[i]? =some x) (hx:DQ X.env.scope x) (he:PE X e te) (hs:swapsWith e (some (.Name x pos')) pos.line X.env=pure false:=by rfl) (hf:X.fn x=true\/X.env.scope.names.lookup x=some .local :=by first | exact .inl rfl | exact .inr rfl | assumption):
  PS X (.Assign [.Name x pos'] e pos) (Kg te (FC i)):=by
 intro pins s σ H D I h;refine wpAny_Assign_Name (Ap (he pins s σ H _ I h) λv s1 ⟨y,H1,I1,r1,q1⟩=>?_) hs;exact EN I1 hN hi hx r1 (λs2 I2=>⟨_,H1,I2,q1⟩) hf
def NO (i j:Nat) (ta:TA):TS:=λD σ H=>ta σ H λvs H1=>∃v w,vs=[v,w]/\D.nx ((σ.set i (some v)).set j (some w)) H1
theorem NP {i j:Nat}{x y:Str}{a b:Expr}{ta:TA}{px py pt:Pos}{kt k2 pt2} (hc:X.calm=true) (hN:X.N.Nodup) (hi:X.N[i]? =some x) (hj:X.N[j]? =some y) (hij:i≠j)
  (hx:X.env.scope.names.lookup x=some .local) (hy:X.env.scope.names.lookup y=some .local) (ha:PA X [a,b] ta)
  (hw:swappedStores [.Tuple [.Name x px,.Name y py] kt pt] (.Tuple [a,b] k2 pt2) X.env=pure (some [x,y]))
  (hs:swapsWithSole [.Tuple [.Name x px,.Name y py] kt pt] (.Tuple [a,b] k2 pt2) pos.line X.env=pure false:=by rfl):
  PS X (.Assign [.Tuple [.Name x px,.Name y py] kt pt] (.Tuple [a,b] k2 pt2) pos) (NO i j ta):=by
 intro pins s σ H D I h;rw [exec_Assign_arm];refine wpAny_bind (wpAny_standAt ?_);rw [hs];refine wpAny_bind (wpAny_pure ?_);rw [if_neg (by decide)];refine wpAny_bind (Tuple_ (Ap (ha _ pins s σ H _ I h) λus s1 ⟨vs,H1,I1,r1,q1⟩=>?_));obtain⟨v,w,e1,q1⟩:=q1;subst e1;obtain⟨u1,u2,rfl,rv,rw'⟩:∃u1 u2,us=[u1,u2]/\RelV v u1/\RelV w u2:=by
  cases r1 with
  | cons p q=>
   cases q with
   | cons p' q'=>
    cases q';exact⟨_,_,rfl,p,p'⟩
 refine wpAny_newObj_type ?_ (by show 2<=sizeLine;decide);have I2:Ac X pins σ H1 { s1 with heap:=s1.heap.push { cls:= .type "tuple",data:= .seq [u1,u2].toArray}}:=I1.kept (t':=s1.toks) λb o e=>Heap.get?_push_of_some _ e
 rw [hw];refine wpAny_bind (wpAny_pure ?_);show wpAny (model X.prog X.w) X.A (do rule "assign.swapped-stores";let items<-unpackItems (.ref s1.heap.objs.size) 2 none;assignInOrder [λv=>bindName X.env y v,λv=>bindName X.env x v] items.reverse;pure Flow.next) _ _ _;refine wpAny_bind (wpAny_rule (wpAny_bind (unpackItems_tuple (items:= #[u1,u2]) (I.ok.hd hc) (IsTup.new s1.heap _) λh' hx'=>?_)));have I3:=I2.kept (h':=h') (t':=s1.toks) λb o e=>hx' b o (Nat.ne_of_lt (Heap.lt_size e)) e
 show wpAny _ _ (assignInOrder [λv=>bindName X.env y v,λv=>bindName X.env x v] [u2,u1] >>=λ_=>pure Flow.next) _ _ _;refine wpAny_bind (assignInOrder_cons (wpAny_bindName (EN I3 hN hj (.inl hy) rw' (λs2 I4=>?_) (.inr hy))));refine assignInOrder_cons (wpAny_bindName (EN I4 hN hi (.inl hx) rv (λs3 I5=>assignInOrder_nil (wpAny_pure ?_)) (.inr hx)));rw [List.set_comm _ _ (Ne.symm hij)] at I5;exact⟨_,H1,I5,q1⟩
def NQ (i:Nat) (te:TE) (ti:Gp):TS:=λD σ H=>∃x,σ[i]? =some (some x)/\te σ H λy H1=>ti x y H1 λz H2=>D.nx (σ.set i (some z)) H2
theorem Kh {x:Str}{e:Expr}{te:TE}{op:Operator}{ti:Gp}{pos':Pos} (hN:X.N.Nodup) (hi:X.N[i]? =some x) (hx:DQ X.env.scope x) (he:PE X e te) (ho:IC X op ti) (hf:X.fn x=true\/X.env.scope.names.lookup x=some .local :=by first | exact .inl rfl | exact .inr rfl | assumption):
  PS X (.AugAssign (.Name x pos') op e pos) (NQ i te ti):=by
 intro pins s σ H D I h;obtain⟨v,e1,h⟩:=h;obtain⟨m,hn,hl⟩:=I.loc;have vis:Eh X.env.scope x:=by rcases hx with k | k;exact .inl k;exact .inr (.inl k)
 obtain⟨u,r,l⟩:=hl i x v hi e1 vis;refine wpAny_AugAssign_Name ?_;have go:wpAny (model X.prog X.w) X.A (eval e X.env) (λw s₂=>wpAny (model X.prog X.w) X.A (inplaceOp op u w) (λr s₃=>wpAny (model X.prog X.w) X.A (storeName X.env x r) (λ_=>SP X pins D .next) X.xe s₃) X.xe s₂) X.xe s:=by
  refine Ap (he pins s σ H _ I h) λw s1 ⟨y,H1,I1,r1,q1⟩=>?_
  refine Ap (ho pins s1 σ H1 v y u w _ I1 r r1 q1) λz s2 ⟨zv,H2,I2,r2,q2⟩=>?_
  exact EN I2 hN hi hx r2 (λs3 I3=>⟨_,H2,I3,q2⟩) hf
 rcases l with⟨hk,hm⟩ | ⟨hk,c,hc,hcell⟩
 ·exact wpAny_loadName_local I.ok.kind hk hn hm go
 ·rcases hk with hk | hk
  ·exact wpAny_loadName_cell I.ok.kind hk hc hcell go
  ·rcases hx with k | k
   ·have:X.env.scope.names.lookup x=some .free:=hk;rw [k] at this;cases this
   ·have:X.env.scope.names.lookup x=some .free:=hk;rw [k] at this;cases this
def Ki (f:Int->Int->Int):Gp:=λx y H Q=>∃i j,x= .int i/\y= .int j/\Q (.int (f i j)) H
theorem NR:IC X .Add (Ki λi j=>i+j):=by
 intro pins s σ H x y v u Q I r1 r2 h;obtain⟨i,j,e1,e2,q⟩:=h;subst e1;subst e2;obtain⟨t,rfl⟩:=r1;obtain⟨t',rfl⟩:=r2;exact iadd_int ⟨.int _,H,I.tok _,⟨_,rfl⟩,q⟩
theorem NS:IC X .Sub (Ki λi j=>i-j):=by
 intro pins s σ H x y v u Q I r1 r2 h;obtain⟨i,j,e1,e2,q⟩:=h;subst e1;subst e2;obtain⟨t,rfl⟩:=r1;obtain⟨t',rfl⟩:=r2;exact isub_int ⟨.int _,H,I.tok _,⟨_,rfl⟩,q⟩
end
section
variable {X : Cx} {pos : Pos}
end
structure It where
 go:Nat->Hp->Prop
 yld:Nat->Hp->V->Hp->Prop
 stop:Nat->Hp->Prop
def Cj (X:Cx) (pins:PNs) (H:Hp) (b:Addr):Prop:=
 H b=none/\b≠X.env.locals/\b ∉ X.fs/\(b∈X.ex\/X.s₀.heap.objs.size<=b)/\(∀x c,X.env.cells.lookup x=some c->c≠b)/\∀p∈X.pn++pins,p.1≠b
theorem Ac.fpOk {X:Cx}{pins:PNs}{σ:St}{H H':Hp}{s:Shared}{b:Addr} (I:Ac X pins σ H s) (hb:s.heap.objs.size<=b) (hn:H' b=none):Cj X pins H' b:=by
 refine⟨hn,Nat.ne_of_gt (Nat.lt_of_lt_of_le I.lt hb),I.nofs hb,.inr (Nat.le_trans I.sz hb),λx c e z=>?_,λp hp z=>?_⟩
 ·obtain⟨v,q⟩:=I.cell x c e;exact absurd (Nat.lt_of_lt_of_le q.lt (by rw [z];exact hb)) (Nat.lt_irrefl _)
 ·exact absurd (Nat.lt_of_lt_of_le (Heap.lt_size (I.pin p hp).1) (by rw [z];exact hb)) (Nat.lt_irrefl _)
structure DS (P:Program) (w:World) (K:Fgx) (tg:Expr) (J:It) (fp:List Addr) (it:Addr) (tn:Nat->Heap->Prop):Prop where
 mem:it∈fp
 obj:∀i h,tn i h->∀b∈fp,∃o,h.get? b=some o/\∀v,o.data≠ .cell v
 keep:∀i h h',tn i h->(∀b∈fp,∀o,h.get? b=some o->h'.get? b=some o)->tn i h'
 item:∀(X:Cx),X.prog=P->X.w=w->X.K=K->X.calm=true->∀(i:Nat) (pins:PNs) (s:Shared) (σ:St) (H:Hp) (E:VSP),Ac X pins σ H s->(∀b∈fp,Cj X pins H b)->tn i s.heap->J.go i H->
  wpAny (model P w) X.A (pyNext (.ref it)) (λr s1=>∃u,r=some u/\
   wpAny (model P w) X.A (letOwnedTupleGo tg (.ref it) u) (λ_ s2=>∃x H',Ac X pins σ H' s2/\RelV x u/\J.yld i H x H'/\tn (i+1) s2.heap/\∀b∈fp,H' b=none) E s1) E s
 done:∀(X:Cx),X.prog=P->X.w=w->X.K=K->X.calm=true->∀(i:Nat) (pins:PNs) (s:Shared) (σ:St) (H:Hp) (E:VSP),Ac X pins σ H s->(∀b∈fp,Cj X pins H b)->tn i s.heap->J.stop i H->
  wpAny (model P w) X.A (pyNext (.ref it)) (λr s1=>r=none/\Ac X pins σ H s1) E s
 self:∀(A:Around) (i:Nat) (s:Shared) (Q:VSP) (E:VSP),tn i s.heap->Q (.ref it) s->wpAny (model P w) A (pyIter (.ref it)) Q E s
abbrev TI:=St->Hp->(It->Hp->Prop)->Prop
def IE (X:Cx) (pins:PNs) (σ:St) (tg:Expr) (R:It->Hp->Prop) (itv:Value) (s2:Shared):Prop:=
 ∃(it:Addr) (fp:List Addr) (tn:Nat->Heap->Prop) (J:It) (H':Hp),itv= .ref it/\Ac X pins σ H' s2/\DS X.prog X.w X.K tg J fp it tn/\tn 0 s2.heap/\(∀b∈fp,Cj X pins H' b)/\R J H'
def PI (X:Cx) (tg iter:Expr) (wi:TI):Prop:=
 ∀(pins:PNs) (s:Shared) (σ:St) (H:Hp) (R:It->Hp->Prop),Ac X pins σ H s->wi σ H R->
  wpAny (model X.prog X.w) X.A (eval iter X.env) (λv s1=>wpAny (model X.prog X.w) X.A (pyIter v) (IE X pins σ tg R) X.xe s1) X.xe s
theorem Gq {M:Model}{A:Around}{E:VSP}{s:Shared}{tg:Expr}{it:Addr}{u:Value}{o:Obj}{n:String}{vs:Array Value}{Q:Unit->Shared->Prop} (ho:s.heap.get? it=some o) (hc:o.cls= .type n) (hd:o.data= .fields vs)
    (hn:["enumerate","zip","dict_itemiterator","dict_reverseitemiterator","odict_iterator","itertools.zip_longest","itertools.pairwise"].contains n=false) (hQ:Q () s):wpAny M A (letOwnedTupleGo tg (.ref it) u) Q E s:=by
  unfold letOwnedTupleGo;cases tg<;>first
    | exact wpAny_pure hQ
    | (cases u<;>first
        | exact wpAny_pure hQ
        | (refine wpAny_bind (wpAny_load ho ?_)
           rw [hc,hd];show wpAny M A (if (["enumerate","zip","dict_itemiterator","dict_reverseitemiterator","odict_iterator","itertools.zip_longest","itertools.pairwise"].contains n && vs[0]? ==some (rawInt _))=true then _ else _) Q E s;rw [if_neg (by intro h;rw [hn,Bool.false_and] at h;cases h)];exact wpAny_pure hQ))
def ER (K:Fgx) (a:Addr):It:=
 ⟨λi H=>∃xs x,Ai K H a xs/\xs[i]? =some x,λi H x H'=>H'=H/\∀xs,Ai K H a xs->xs[i]? =some x,λi H=>∃xs,Ai K H a xs/\xs.length<=i⟩
def ES (K:Fgx) (a:Addr):It:=
 ⟨λi H=>∃xs x,Ag K H a xs/\xs[i]? =some x,λi H x H'=>H'=H/\∀xs,Ag K H a xs->xs[i]? =some x,λi H=>∃xs,Ag K H a xs/\xs.length<=i⟩
def C8 (lo:Int) (n:Nat):It:=⟨λi _=>i<n,λi H x H'=>H'=H/\x= .int (lo+i),λi _=>n<=i⟩
theorem NT {w:World}{K:Fgx} (a it:Addr):DS P w K tg (ER K a) [it] it (λi h=>h.IsListIter it a i) where
 mem:=by simp
 obj:=λi h st b hb=>by
  have e:b=it:=by simpa using hb
  subst e;obtain⟨o,e,c,d⟩:=st;exact⟨o,e,λv z=>by rw [d] at z;cases z⟩
 keep:=λi h h' st k=>st.at λo e=>k it (by simp) o e
 item:=by
  intro X hP hw hK hc i pins s σ H E I hf st hg;subst hP hw hK;obtain⟨xs,x,hq,hx⟩:=hg;obtain⟨its,rv,p,hz⟩:=I.list hq;obtain⟨u,hu,ru⟩:=rv.get hx;obtain⟨f0,f1,f2,f3,f4,f5⟩:=hf it (by simp);refine wpAny_pyNext_list_item st p.isList (x:=u) (by simpa using hu) λh' st' sb=>?_
  have I1:Ac X pins σ H { s with heap:=h'}:=I.turned (t':=s.toks) (λb o hb e=>(sb.2 b hb).trans e) f0 f1 f3 f4 f5;obtain⟨o,e,c,d⟩:=id st';exact⟨u,rfl,Gq (s:= { s with heap:=h'}) e c d (by decide) ⟨x,H,I1,ru,⟨rfl,λys hy=>by rw [I.list_inj hy hq];exact hx⟩,st',λb hb=>(hf b hb).1⟩⟩
 done:=by
  intro X hP hw hK hc i pins s σ H E I hf st hg;subst hP hw hK;obtain⟨xs,hq,hx⟩:=hg;obtain⟨its,rv,p,hz⟩:=I.list hq;obtain⟨f0,f1,f2,f3,f4,f5⟩:=hf it (by simp);have hl:=rv.length;exact wpAny_pyNext_list_end (I.ok.hd hc) st p.isList (by simp;omega) λh' eb=>⟨rfl,I.turned (t':=s.toks) (λb o hb e=>eb b o hb e) f0 f1 f3 f4 f5⟩
 self:=λ_ _ _ _ _ st h=>wpAny_pyIter_listiter st h
theorem NU {w:World}{K:Fgx} (a it:Addr):DS P w K tg (ES K a) [it] it (λi h=>h.IsTupleIter it a i) where
 mem:=by simp
 obj:=λi h st b hb=>by
  have e:b=it:=by simpa using hb
  subst e;obtain⟨o,e,c,d⟩:=st;exact⟨o,e,λv z=>by rw [d] at z;cases z⟩
 keep:=λi h h' st k=>st.at λo e=>k it (by simp) o e
 item:=by
  intro X hP hw hK hc i pins s σ H E I hf st hg;subst hP hw hK;obtain⟨xs,x,hq,hx⟩:=hg;obtain⟨its,rv,p,hz⟩:=I.tuple hq;obtain⟨u,hu,ru⟩:=rv.get hx;obtain⟨f0,f1,f2,f3,f4,f5⟩:=hf it (by simp);refine wpAny_pyNext_tuple_item st (show s.heap.IsTuple a its.toArray from p) (x:=u) (by simpa using hu) λh' st' sb=>?_
  have I1:Ac X pins σ H { s with heap:=h'}:=I.turned (t':=s.toks) (λb o hb e=>(sb.2 b hb).trans e) f0 f1 f3 f4 f5;obtain⟨o,e,c,d⟩:=id st';exact⟨u,rfl,Gq (s:= { s with heap:=h'}) e c d (by decide) ⟨x,H,I1,ru,⟨rfl,λys hy=>by rw [I.tuple_inj hy hq];exact hx⟩,st',λb hb=>(hf b hb).1⟩⟩
 done:=by
  intro X hP hw hK hc i pins s σ H E I hf st hg;subst hP hw hK;obtain⟨xs,hq,hx⟩:=hg;obtain⟨its,rv,p,hz⟩:=I.tuple hq;obtain⟨f0,f1,f2,f3,f4,f5⟩:=hf it (by simp);have hl:=rv.length;exact wpAny_pyNext_tuple_end (I.ok.hd hc) st (show s.heap.IsTuple a its.toArray from p) (by simp;omega) λh' eb=>⟨rfl,I.turned (t':=s.toks) (λb o hb e=>eb b o hb e) f0 f1 f3 f4 f5⟩
 self:=λ_ _ _ _ _ st h=>wpAny_pyIter_tupleiter st h
theorem NV {w:World}{K:Fgx} (it:Addr) (lo:Int) (n:Nat):DS P w K tg (C8 lo n) [it] it (λi h=>IsRangeIter h it (lo+(i:Nat) * 1) ((n:Int)-(i:Nat)) 1) where
 mem:=by simp
 obj:=λi h st b hb=>by
  have e:b=it:=by simpa using hb
  subst e;exact⟨_,st,λv z=>by
   have z':Data.fields _=Data.cell v:=z;cases z'⟩
 keep:=λi h h' st k=>k it (by simp) _ st
 item:=by
  intro X hP hw hK hc i pins s σ H E I hf st hg;subst hP hw hK;obtain⟨f0,f1,f2,f3,f4,f5⟩:=hf it (by simp);have W:=Walks.range (prog:=X.prog) (w:=X.w) (I.ok.hd hc) it lo 1 n;refine W.item i s _ _ hg st λv h' tk hv st' kk=>?_
  obtain⟨t,rfl⟩:=hv;have I1:Ac X pins σ H { s with heap:=h',toks:=tk}:=I.turned (λb o hb e=>kk b o (by simpa using hb) e) f0 f1 f3 f4 f5;refine⟨_,rfl,Gq (s:= { s with heap:=h',toks:=tk}) (n:="range_iterator") st' rfl rfl (by decide) ⟨.int (lo+i),H,I1,⟨t,?_⟩,⟨rfl,rfl⟩,st',λb hb=>(hf b hb).1⟩⟩;rw [Int.mul_one]
 done:=by
  intro X hP hw hK hc i pins s σ H E I hf st hg;subst hP hw hK;obtain⟨f0,f1,f2,f3,f4,f5⟩:=hf it (by simp);exact wpAny_pyNext_range_end (I.ok.hd hc) st (by have:n<=i:=hg;omega) λh' eb=>⟨rfl,I.turned (t':=s.toks) (λb o hb e=>eb b o hb e) f0 f1 f3 f4 f5⟩
 self:=λ_ _ _ _ _ st h=>wpAny_pyIter_rangeiter st h
end L2
namespace L2
variable {tl : TE} {pins : List (Addr × Obj)} {σ : St} {H : Hp} {s : Shared} {a : Addr} {fp : List Addr} {h : Heap} {xs : List V} {g : TG} {tb : TS} {D : Ei}
section
variable {X : Cx} {tg : Expr}
def Kj (K:Fgx) (tl:TE):TI:=fun σ H R=>tl σ H λx H1=>∃a,x= .ref a/\(∃xs,Ai K H1 a xs)/\R (ER K a) H1
def Kk (K:Fgx) (tl:TE):TI:=fun σ H R=>tl σ H λx H1=>∃a,x= .ref a/\(∃xs,Ag K H1 a xs)/\R (ES K a) H1
theorem NW {l:Expr} (hl:PE X l tl):PI X tg l (Kj X.K tl):=by
 intro pins s σ H R I h;refine Ap (hl pins s σ H _ I h) λv s1 ⟨x,H1,I1,r1,q1⟩=>?_
 obtain⟨a,e,⟨xs,hq⟩,q⟩:=q1;subst e;cases r1;obtain⟨its,rv,p,hz⟩:=I1.list hq;refine wpAny_pyIter_list p.isList ?_;refine⟨s1.heap.objs.size,[s1.heap.objs.size],_,_,H1,rfl,I1.kept (t':=s1.toks) λb o e=>Heap.get?_push_of_some _ e,NT a _,⟨_,Heap.get?_push_size _ rfl,rfl,rfl⟩,λb hb=>?_,q⟩;have e:b=s1.heap.objs.size:=by simpa using hb
 subst e;exact I1.fpOk (Nat.le_refl _) (I1.hok.fresh (Nat.le_refl _))
theorem NX {l:Expr} (hl:PE X l tl):PI X tg l (Kk X.K tl):=by
 intro pins s σ H R I h;refine Ap (hl pins s σ H _ I h) λv s1 ⟨x,H1,I1,r1,q1⟩=>?_
 obtain⟨a,e,⟨xs,hq⟩,q⟩:=q1;subst e;cases r1;obtain⟨its,rv,p,hz⟩:=I1.tuple hq;refine wpAny_pyIter_tuple (show s1.heap.IsTuple a its.toArray from p) ?_;refine⟨s1.heap.objs.size,[s1.heap.objs.size],_,_,H1,rfl,I1.kept (t':=s1.toks) λb o e=>Heap.get?_push_of_some _ e,NU a _,⟨_,Heap.get?_push_size _ rfl,rfl,rfl⟩,λb hb=>?_,q⟩;have e:b=s1.heap.objs.size:=by simpa using hb
 subst e;exact I1.fpOk (Nat.le_refl _) (I1.hok.fresh (Nat.le_refl _))
theorem Kl {R:It->Hp->Prop}{E:VSP}{lo hi:Int}{t u v:Tok}{tk:Nat} (I:Ac X pins σ H s) (h1: -(2 ^ 62)<=lo) (h2:lo<2 ^ 62) (h3: -(2 ^ 62)<=hi) (h4:hi<2 ^ 62)
  (q:R (C8 lo (hi-lo).toNat) H):wpAny (model X.prog X.w) X.A (pyIter (.ref s.heap.objs.size)) (IE X pins σ tg R) E { s with heap:=s.heap.push { cls:= .type "range",data:= .fields #[.int lo t,.int hi u,.int 1 v]},toks:=tk}:=by
 refine wpAny_pyIter_range (IsRange.new ..) (small_one h1 h2 h3 h4) ?_;have I1:Ac X pins σ H { s with heap:=s.heap.push { cls:= .type "range",data:= .fields #[.int lo t,.int hi u,.int 1 v]},toks:=tk}:=I.kept λb o e=>Heap.get?_push_of_some _ e
 refine⟨(s.heap.push { cls:= .type "range",data:= .fields #[.int lo t,.int hi u,.int 1 v]}).objs.size,[(s.heap.push { cls:= .type "range",data:= .fields #[.int lo t,.int hi u,.int 1 v]}).objs.size],_,_,H,rfl,
  I1.kept (t':=tk) λb o e=>Heap.get?_push_of_some _ e,NV _ lo (hi-lo).toNat,?_,λb hb=>?_,q⟩
 ·have e1:lo+((0:Nat):Int) * 1=lo:=by simp
  have e2:(((hi-lo).toNat:Nat):Int)-((0:Nat):Int)=Builtin.Range.rangeSize lo hi 1:=by rw [rangeSize_one];split<;>omega
  show IsRangeIter _ _ (lo+((0:Nat):Int) * 1) ((((hi-lo).toNat:Nat):Int)-((0:Nat):Int)) 1;rw [e1,e2];exact Heap.get?_push_size _ rfl
 ·have e:b=(s.heap.push { cls:= .type "range",data:= .fields #[.int lo t,.int hi u,.int 1 v]}).objs.size:=by simpa using hb
  subst e;exact I1.fpOk (Nat.le_refl _) (I1.hok.fresh (Nat.le_refl _))
def NY (ta:TA):TI:=fun σ H R=>ta σ H λvs H1=>∃j:Int,vs=[.int j]/\ -(2 ^ 62)<=j/\j<2 ^ 62/\R (C8 0 j.toNat) H1
def NZ (ta:TA):TI:=fun σ H R=>ta σ H λvs H1=>∃i j:Int,vs=[.int i,.int j]/\(-(2 ^ 62)<=i/\i<2 ^ 62/\ -(2 ^ 62)<=j/\j<2 ^ 62)/\R (C8 i (j-i).toNat) H1
theorem Da {a:Expr}{ta:TA}{p pos:Pos} (hg:Gl X "range") (hm:X.mg "range"=none) (ha:PA X [a] ta) (hs:starEach [a] X.env=[(false,eval a X.env)]:=by rfl):PI X tg (.Call (.Name "range" p) [a] [] pos) (NY ta):=by
 intro pins s σ H R I h;refine Call_ (DR I hg hm boot_range (PyProof.Rows.callWith_type1 (Ap (ha pos pins s σ H _ I h) λus s1 ⟨vs,H1,I1,r1,q1⟩=>?_) hs rfl));obtain⟨j,e,q1,q2,q⟩:=q1;subst e;cases r1 with
 | cons r rr=>
  cases rr;obtain⟨t,rfl⟩:=r;exact call_range_1 (Kl I1 (by omega) (by omega) q1 q2 (by simpa using q))
theorem N0 {a b:Expr}{ta:TA}{p pos:Pos} (hg:Gl X "range") (hm:X.mg "range"=none) (ha:PA X [a,b] ta) (hs:starEach [a,b] X.env=[(false,eval a X.env),(false,eval b X.env)]:=by rfl) (hs2:starEach [b] X.env=[(false,eval b X.env)]:=by rfl):
  PI X tg (.Call (.Name "range" p) [a,b] [] pos) (NZ ta):=by
 intro pins s σ H R I h;refine Call_ (DR I hg hm boot_range (PyProof.Rows.callWith_type1 (Ap (ha pos pins s σ H _ I h) λus s1 ⟨vs,H1,I1,r1,q1⟩=>?_) (by rw [hs,hs2]) (by rw [hs2];rfl)));obtain⟨i,j,e,⟨q1,q2,q3,q4⟩,q⟩:=q1;subst e;cases r1 with
 | cons r rr=>
  cases rr with
  | cons r' rr=>
   cases rr;obtain⟨t,rfl⟩:=r;obtain⟨t',rfl⟩:=r';exact call_range_2 (Kl I1 q1 q2 q3 q4 q)
def N1 (wi:TI) (g:TG) (tb:TS):TS:=λD σ H=>wi σ H λJ H1=>∃W:Nat->Nat->St->Hp->Prop,(∃m,W 0 m σ H1)/\∀i m σ H,W i m σ H->
 (J.stop i H/\D.nx σ H)\/(J.go i H/\∃N:St->Hp->Prop,(∀σ' H',N σ' H'->∃m',m'<m/\W (i+1) m' σ' H')/\∀x H',J.yld i H x H'->g x σ H' fun σ2 H2=>tb { D with nx:=N,ct:=N,bk:=D.nx} σ2 H2)
def El (fp:List Addr) (h:Heap):PNs:=fp.filterMap λb=>(h.get? b).map λo=>(b,o)
theorem Gr {b:Addr}{o:Obj} (hb:b∈fp) (e:h.get? b=some o):(b,o)∈El fp h:=mem_filterMap.mpr ⟨b,hb,by rw [e];rfl⟩
theorem Km {p:Addr×Obj} (hp:p∈El fp h):p.1∈fp/\h.get? p.1=some p.2:=by
 obtain⟨b,hb,e⟩:=mem_filterMap.mp hp;cases q:h.get? b with
 | none=>rw [q] at e;cases e
 | some o=>
  rw [q] at e;have e':(b,o)=p:=Option.some.inj e;subst e';exact⟨hb,q⟩
theorem Ac.pinned (I:Ac X pins σ H s) (hf:∀b∈fp,Cj X pins H b) (ho:∀b∈fp,∃o,s.heap.get? b=some o/\∀v,o.data≠ .cell v):Ac X (pins++El fp s.heap) σ H s:=
 I.pins_of λp hp=>(mem_append.mp hp).elim (λz=>I.pin p (mem_append_right _ z)) λz=>by
  obtain⟨hb,e⟩:=Km z;obtain⟨f0,f1,f2,_⟩:=hf p.1 hb;obtain⟨o,e',d⟩:=ho p.1 hb;rw [e] at e';cases e';exact⟨e,f0,f1,f2,d⟩
theorem Ac.unpinned {pl:PNs} (I:Ac X (pins++pl) σ H s):Ac X pins σ H s:=I.pins_of λp hp=>I.pin p (mem_append_right _ (mem_append_left _ hp))
theorem CU {iter:Expr}{body:List Stmt}{wi:TI}{g:TG}{tb:TS}{pos:Pos} (hp:PassesOwn (model X.prog X.w) X.A X.env X.xe) (hc:X.calm=true) (hi:PI X tg iter wi) (hg:PG X tg g) (hb:PSs X body tb)
  (hs:∀x,foldedSetIterable iter X.env x=pure x:=by intro _;rfl):PS X (.For tg iter body [] pos) (N1 wi g tb):=by
 intro pins s σ H D I h;refine wpAny_For (Ap (hi pins s σ H _ I h) λv s1 h1=>Ap h1 λitv s2 h2=>?_) hs;obtain⟨it,fp,tn,J,H2,e,I2,T,st2,f2,W,⟨m0,w0⟩,turn⟩:=h2;subst e;have stat:∀ {H':Hp},(∀b∈fp,H' b=none)->∀b∈fp,Cj X pins H' b:=λhn b hb=>⟨hn b hb,(f2 b hb).2⟩
 refine codeAny_forLoop_any (λn s'=>∃i σ' H',Ac X pins σ' H' s'/\tn i s'.heap/\(∀b∈fp,H' b=none)/\W i n σ' H') ?_ m0 ⟨0,σ,H2,I2,st2,λb hb=>(f2 b hb).1,w0⟩;rintro n s3 ⟨i,σ3,H3,I3,st3,fr3,w3⟩;rcases turn i n σ3 H3 w3 with⟨stop,qn⟩ | ⟨go,N,hN,step⟩
 ·refine wpAny_passesOwn hp (Ap (T.done X rfl rfl rfl hc i pins s3 σ3 H3 X.xe I3 (stat fr3) st3 stop) λr s4 ⟨hr,I4⟩=>?_);subst hr;exact wpAny_execs_nil ⟨σ3,H3,I4,qn⟩
 ·refine wpAny_passesOwn hp (Ap (T.item X rfl rfl rfl hc i pins s3 σ3 H3 X.xe I3 (stat fr3) st3 go) λr s4 ⟨u,hr,h4⟩=>?_);subst hr;refine wpAny_passesOwn hp (Ap h4 λ_ s5 ⟨x,H5,I5,r5,y5,st5,fr5⟩=>?_);have I5':=I5.pinned (stat fr5) (T.obj _ _ st5);refine wpAny_passesOwn hp (Ap (hg _ s5 σ3 H5 x u _ I5' r5 (step x H5 y5)) λ_ s6 ⟨σ6,H6,I6,q6⟩=>?_);refine wpAny_passesOwn hp (Ap (hb _ s6 σ6 H6 _ I6 q6) λf s7 q7=>?_);have again:∀ {σ7:St}{H7:Hp},Ac X (pins++El fp s5.heap) σ7 H7 s7->N σ7 H7->∃m,m<n/\∃i σ' H',Ac X pins σ' H' s7/\tn i s7.heap/\(∀b∈fp,H' b=none)/\W i m σ' H':=λ{σ7 H7} I7 n7=>by
   obtain⟨m',hm,w7⟩:=hN σ7 H7 n7;refine⟨m',hm,i+1,σ7,H7,I7.unpinned,T.keep _ _ _ st5 λb hb o e=>(I7.pin (b,o) (mem_append_right _ (mem_append_right _ (Gr hb e)))).1,λb hb=>?_,w7⟩;obtain⟨o,e,d⟩:=T.obj _ _ st5 b hb;exact(I7.pin (b,o) (mem_append_right _ (mem_append_right _ (Gr hb e)))).2.1
  cases f with
  | next=>obtain⟨σ7,H7,I7,n7⟩:=q7;exact again I7 n7
  | cont=>obtain⟨σ7,H7,I7,n7⟩:=q7;exact again I7 n7
  | brk=>obtain⟨σ7,H7,I7,q7⟩:=q7;exact⟨σ7,H7,I7.unpinned,q7⟩
  | ret v=>obtain⟨x7,σ7,H7,I7,r7,q7⟩:=q7;exact⟨x7,σ7,H7,I7.unpinned,r7,q7⟩
end
theorem Kn {K:Fgx} (Pv:Nat->St->Hp->Prop) (h0:Pv 0 σ H) (hl:∀i σ H,i<=xs.length->Pv i σ H->Ai K H a xs)
  (hs:∀i x σ H,xs[i]? =some x->Pv i σ H->g x σ H fun σ2 H2=>tb { D with nx:=Pv (i+1),ct:=Pv (i+1),bk:=D.nx} σ2 H2) (hd:∀σ H,Pv xs.length σ H->D.nx σ H):
  ∃W:Nat->Nat->St->Hp->Prop,(∃m,W 0 m σ H)/\∀i m σ H,W i m σ H->
   ((ER K a).stop i H/\D.nx σ H)\/((ER K a).go i H/\∃N:St->Hp->Prop,(∀σ' H',N σ' H'->∃m',m'<m/\W (i+1) m' σ' H')/\∀x H',(ER K a).yld i H x H'->g x σ H' fun σ2 H2=>tb { D with nx:=N,ct:=N,bk:=D.nx} σ2 H2):=by
 refine⟨λi m σ H=>m=xs.length-i/\i<=xs.length/\Pv i σ H,⟨xs.length,by simp,Nat.zero_le _,h0⟩,?_⟩;rintro i m σ H ⟨rfl,hi,p⟩;have q:=hl i σ H hi p
 by_cases hlt:i<xs.length
 ·refine .inr ⟨⟨xs,xs[i],q,by simp [hlt]⟩,Pv (i+1),fun σ' H' p'=>⟨xs.length-(i+1),by omega,rfl,hlt,p'⟩,λx H' y=>?_⟩;obtain⟨e,y⟩:=y;subst e;exact hs i x σ _ (y xs q) p
 ·have e:i=xs.length:=by omega
  subst e;exact .inl ⟨⟨xs,q,Nat.le_refl _⟩,hd σ H p⟩
theorem N3 {K:Fgx} (Pv:Nat->St->Hp->Prop) (h0:Pv 0 σ H) (hl:∀i σ H,i<=xs.length->Pv i σ H->Ag K H a xs)
  (hs:∀i x σ H,xs[i]? =some x->Pv i σ H->g x σ H fun σ2 H2=>tb { D with nx:=Pv (i+1),ct:=Pv (i+1),bk:=D.nx} σ2 H2) (hd:∀σ H,Pv xs.length σ H->D.nx σ H):
  ∃W:Nat->Nat->St->Hp->Prop,(∃m,W 0 m σ H)/\∀i m σ H,W i m σ H->
   ((ES K a).stop i H/\D.nx σ H)\/((ES K a).go i H/\∃N:St->Hp->Prop,(∀σ' H',N σ' H'->∃m',m'<m/\W (i+1) m' σ' H')/\∀x H',(ES K a).yld i H x H'->g x σ H' fun σ2 H2=>tb { D with nx:=N,ct:=N,bk:=D.nx} σ2 H2):=by
 refine⟨λi m σ H=>m=xs.length-i/\i<=xs.length/\Pv i σ H,⟨xs.length,by simp,Nat.zero_le _,h0⟩,?_⟩;rintro i m σ H ⟨rfl,hi,p⟩;have q:=hl i σ H hi p
 by_cases hlt:i<xs.length
 ·refine .inr ⟨⟨xs,xs[i],q,by simp [hlt]⟩,Pv (i+1),fun σ' H' p'=>⟨xs.length-(i+1),by omega,rfl,hlt,p'⟩,λx H' y=>?_⟩;obtain⟨e,y⟩:=y;subst e;exact hs i x σ _ (y xs q) p
 ·have e:i=xs.length:=by omega
  subst e;exact .inl ⟨⟨xs,q,Nat.le_refl _⟩,hd σ H p⟩
theorem FE {lo:Int}{n:Nat} (Pv:Nat->St->Hp->Prop) (h0:Pv 0 σ H)
  (hs:∀i σ H,i<n->Pv i σ H->g (.int (lo+i)) σ H fun σ2 H2=>tb { D with nx:=Pv (i+1),ct:=Pv (i+1),bk:=D.nx} σ2 H2) (hd:∀σ H,Pv n σ H->D.nx σ H):
  ∃W:Nat->Nat->St->Hp->Prop,(∃m,W 0 m σ H)/\∀i m σ H,W i m σ H->
   ((C8 lo n).stop i H/\D.nx σ H)\/((C8 lo n).go i H/\∃N:St->Hp->Prop,(∀σ' H',N σ' H'->∃m',m'<m/\W (i+1) m' σ' H')/\∀x H',(C8 lo n).yld i H x H'->g x σ H' fun σ2 H2=>tb { D with nx:=N,ct:=N,bk:=D.nx} σ2 H2):=by
 refine⟨λi m σ H=>m=n-i/\i<=n/\Pv i σ H,⟨n,by simp,Nat.zero_le _,h0⟩,?_⟩;rintro i m σ H ⟨rfl,hi,p⟩
 by_cases hlt:i<n
 ·refine .inr ⟨hlt,Pv (i+1),fun σ' H' p'=>⟨n-(i+1),by omega,rfl,hlt,p'⟩,λx H' y=>?_⟩;obtain⟨e,y⟩:=y;subst e y;exact hs i σ _ hlt p
 ·have e:i=n:=by omega
  subst e;exact .inl ⟨Nat.le_refl _,hd σ H p⟩
end L2
namespace L2
variable {g : Int -> Int -> Int} {i j : Int} {us : List Value}
abbrev R2:=V->V->Hp->VK->Prop
def OpR (X:Cx) (f:Value->Value->Sem Value) (r:R2):Prop:=
 ∀(pins:PNs) (s:Shared) (σ:St) (H:Hp) (x y:V) (v u:Value) (Q:VK),Ac X pins σ H s->RelV x v->RelV y u->r x y H Q->
  wpAny (model X.prog X.w) X.A (f v u) (EP X pins σ Q) X.xe s
def IF (X:Cx) (f:Value->Sem Value) (r:V->Hp->VK->Prop):Prop:=
 ∀(pins:PNs) (s:Shared) (σ:St) (H:Hp) (x:V) (v:Value) (Q:VK),Ac X pins σ H s->RelV x v->r x H Q->
  wpAny (model X.prog X.w) X.A (f v) (EP X pins σ Q) X.xe s
def BR (X:Cx) (f:Value) (r:List V->Hp->VK->Prop):Prop:=
 ∀(pins:PNs) (s:Shared) (σ:St) (H:Hp) (xs:List V) (us:List Value) (Q:VK),Ac X pins σ H s->As xs us->r xs H Q->
  wpAny (model X.prog X.w) X.A (call f us) (EP X pins σ Q) X.xe s
def Gs (r:R2) (ta tb:TE):TE:=fun σ H Q=>ta σ H λx H1=>tb σ H1 λy H2=>r x y H2 Q
def N4 (r:V->Hp->VK->Prop) (ta:TE):TE:=fun σ H Q=>ta σ H λx H1=>r x H1 Q
def rI (C:Int->Int->Prop) (g:Int->Int->V):R2:=λx y H Q=>∃i j,x= .int i/\y= .int j/\C i j/\Q (g i j) H
def Du (g:Int->Int->V):R2:=λx y H Q=>∃i j,x= .int i/\y= .int j/\Q (g i j) H
def rU (g:Int->V):V->Hp->VK->Prop:=λx H Q=>∃i,x= .int i/\Q (g i) H
section
variable {X : Cx} {a b c : Expr} {ta tb tc : TE} {pos : Pos}
theorem IG (ha:PE X a ta) (hb:PE X b tb) {pins:PNs}{s:Shared}{σ:St}{H:Hp}{R:V->V->Hp->Prop} (I:Ac X pins σ H s)
  (h:ta σ H λx H1=>tb σ H1 λy H2=>R x y H2) {Q:VSP}{f:Value->Value->Sem Value}
  (hf:∀v u s2 x y H2,Ac X pins σ H2 s2->RelV x v->RelV y u->R x y H2->wpAny (model X.prog X.w) X.A (f v u) Q X.xe s2):
  wpAny (model X.prog X.w) X.A (eval a X.env) (λv s₁=>wpAny (model X.prog X.w) X.A (eval b X.env) (λu s₂=>wpAny (model X.prog X.w) X.A (f v u) Q X.xe s₂) X.xe s₁) X.xe s:=by
 refine Ap (ha pins s σ H _ I h) λv s1 ⟨x,H1,I1,r1,q1⟩=>?_
 refine Ap (hb pins s1 σ H1 _ I1 q1) λu s2 ⟨y,H2,I2,r2,q2⟩=>?_
 exact hf v u s2 x y H2 I2 r1 r2 q2
theorem AA {op:Operator}{r:R2} (ho:OpR X (binaryOp op) r) (ha:PE X a ta) (hb:PE X b tb):PE X (.BinOp a op b pos) (Gs r ta tb):=by
 intro pins s σ H Q I h;exact wpAny_BinOp (IG ha hb I h λv u s2 x y H2 I2 rx ry q=>ho pins s2 σ H2 x y v u Q I2 rx ry q)
theorem N5 {op:UnaryOp}{r:V->Hp->VK->Prop} (ho:IF X (unaryOp op) r) (ha:PE X a ta):PE X (.UnaryOp op a pos) (N4 r ta):=by
 intro pins s σ H Q I h;exact UnaryOp_ (Ap (ha pins s σ H _ I h) λv s1 ⟨x,H1,I1,r1,q1⟩=>ho pins s1 σ H1 x v Q I1 r1 q1)
theorem Gt {f:Value->Value->Sem Value}{C:Int->Int->Prop}
  (rule:∀(i j:Int) (t u:Tok) (s:Shared) (Q:VSP) (E:VSP),C i j->Q (.int (g i j) s.toks) { s with toks:=s.toks+1}->wpAny (model X.prog X.w) X.A (f (.int i t) (.int j u)) Q E s):
  OpR X f (rI C λi j=> .int (g i j)):=by
 intro pins s σ H x y v u Q I rx ry h;obtain⟨i,j,rfl,rfl,hc,q⟩:=h;obtain⟨t,rfl⟩:=rx;obtain⟨t',rfl⟩:=ry;exact rule i j t t' s _ _ hc ⟨.int (g i j),H,I.tok _,⟨_,rfl⟩,q⟩
theorem Ko {f:Value->Value->Sem Value}
  (rule:∀(i j:Int) (t u:Tok) (s:Shared) (Q:VSP) (E:VSP),Q (.int (g i j) s.toks) { s with toks:=s.toks+1}->wpAny (model X.prog X.w) X.A (f (.int i t) (.int j u)) Q E s):
  OpR X f (Du λi j=> .int (g i j)):=by
 intro pins s σ H x y v u Q I rx ry h;obtain⟨i,j,rfl,rfl,q⟩:=h;obtain⟨t,rfl⟩:=rx;obtain⟨t',rfl⟩:=ry;exact rule i j t t' s _ _ ⟨.int (g i j),H,I.tok _,⟨_,rfl⟩,q⟩
theorem IH {f:Value->Value->Sem Value}{g:Int->Int->Bool}
  (rule:∀(i j:Int) (t u:Tok) (s:Shared) (Q:VSP) (E:VSP),Q (.bool (g i j)) s->wpAny (model X.prog X.w) X.A (f (.int i t) (.int j u)) Q E s):
  OpR X f (Du λi j=> .bl (g i j)):=by
 intro pins s σ H x y v u Q I rx ry h;obtain⟨i,j,rfl,rfl,q⟩:=h;obtain⟨t,rfl⟩:=rx;obtain⟨t',rfl⟩:=ry;exact rule i j t t' s _ _ ⟨.bl (g i j),H,I,rfl,q⟩
def II (i j:Int):Prop:=0<j/\j<1073741824
def Kp (i j:Int):Prop:=0<=j/\j<=1000000/\i.natAbs<2 ^ 64
def CMul (i j:Int):Prop:=(-(2 ^ 64)<i/\i<2 ^ 64)\/(-(2 ^ 64)<j/\j<2 ^ 64)
theorem CMul.ok (h:CMul i j):IntMulOk i j:=by
 rcases h with⟨h1,h2⟩ | ⟨h1,h2⟩
 ·exact .of_left (intBits_le_64 h1 h2)
 ·exact .of_right (intBits_le_64 h1 h2)
theorem op_add:OpR X (binaryOp .Add) (Du λi j=> .int (i+j)):=Ko λ_ _ _ _ _ _ _ q=>add_int q
theorem op_sub:OpR X (binaryOp .Sub) (Du λi j=> .int (i-j)):=Ko λ_ _ _ _ _ _ _ q=>sub_int q
theorem op_mul:OpR X (binaryOp .Mult) (rI CMul λi j=> .int (i * j)):=Gt λ_ _ _ _ _ _ _ hc q=>mul_int q hc.ok
theorem op_fdiv:OpR X (binaryOp .FloorDiv) (rI II λi j=> .int (i / j)):=Gt λi j _ _ _ _ _ hc q=>by
 have h1:(0:Int)<j:=hc.1;have h2:j<1073741824:=hc.2;exact floordiv_int (by omega) (by rw [Int.fdiv_eq_ediv_of_nonneg i (by omega)];exact q) (.inl (PyProof.noPylong_small (by omega)))
theorem op_mod:OpR X (binaryOp .Mod) (rI (λ_ j=>0<j) λi j=> .int (i % j)):=Gt λi j _ _ _ _ _ hc q=>by
 have h1:(0:Int)<j:=hc;exact mod_int' (by omega) (by rw [Int.fmod_eq_emod_of_nonneg i (by omega)];exact q)
theorem op_pow:OpR X (binaryOp .Pow) (rI Kp λi j=> .int (i ^ j.toNat)):=Gt λ_ _ _ _ _ _ _ hc q=>pow_int_small hc.1 hc.2.1 hc.2.2 q
theorem N6 {f:Value->Sem Value}{g:Int->Int}
  (rule:∀(i:Int) (t:Tok) (s:Shared) (Q:VSP) (E:VSP),Q (.int (g i) s.toks) { s with toks:=s.toks+1}->wpAny (model X.prog X.w) X.A (f (.int i t)) Q E s):
  IF X f (rU λi=> .int (g i)):=by
 intro pins s σ H x v Q I rx h;obtain⟨i,rfl,q⟩:=h;obtain⟨t,rfl⟩:=rx;exact rule i t s _ _ ⟨.int (g i),H,I.tok _,⟨_,rfl⟩,q⟩
theorem N7:IF X (unaryOp .USub) (rU λi=> .int (-i)):=N6 λ_ _ _ _ _ q=>neg_int q
end
def Kq:V->V->Bool
 | .non,.non=>true | .non,.int _=>true | .int _,.non=>true | .non,.bl _=>true | .bl _,.non=>true | .non,.str _=>true | .str _,.non=>true
 | .int _,.int _=>true | .bl _,.bl _=>true | .str _,.str _=>true | .byt _,.byt _=>true
 | .int _,.str _=>true | .str _,.int _=>true | .bl _,.str _=>true | .str _,.bl _=>true
 | _,_=>false
def N8:R2:=λx y H Q=>Kq x y=true/\Q (.bl (decide (x=y))) H
def N9:R2:=λx y H Q=>Kq x y=true/\Q (.bl (!decide (x=y))) H
theorem Dv:decide (V.int i=V.int j)=(i==j):=by
 rw [Bool.eq_iff_iff];simp
theorem Kr {i j:Bool}:decide (V.bl i=V.bl j)=(i==j):=by
 rw [Bool.eq_iff_iff];simp
theorem Ks {i j:Str}:decide (V.str i=V.str j)=(i==j):=by
 rw [Bool.eq_iff_iff];simp
theorem Kt {i j:Array UInt8}:decide (V.byt i=V.byt j)=(i.toList==j.toList):=by
 rw [Bool.eq_iff_iff];cases i;cases j;simp
section
variable {X : Cx} {a b c : Expr} {ta tb tc : TE} {pos : Pos}
theorem AR {pins:PNs}{σ:St}{H:Hp}{s:Shared}{Q:VK}{k k':Bool} (I:Ac X pins σ H s) (q:Q (.bl k) H) (e:k=k'):EP X pins σ Q (.bool k') s:=by
 subst e;exact⟨.bl k,H,I,rfl,q⟩
theorem Cy:OpR X (compareOp .Eq) N8:=by
 intro pins s σ H x y v u Q I rx ry h;obtain⟨hs,q⟩:=h;cases x with
 | non=>
  cases rx;cases y with
  | non=>cases ry;exact PySem.EqNone.eq_none_none (AR I q (by simp))
  | bl j=>cases ry;exact PySem.EqNone.eq_none_bool (AR I q (by simp))
  | int j=>obtain⟨t',rfl⟩:=ry;exact PySem.EqNone.eq_none_int (AR I q (by simp))
  | str j=>obtain⟨t',rfl⟩:=ry;exact PySem.EqNone.eq_none_str (AR I q (by simp))
  | _=>exact absurd (show false=true from hs) Bool.false_ne_true
 | bl i=>
  cases rx;cases y with
  | non=>cases ry;exact PySem.EqNone.eq_bool_none (AR I q (by simp))
  | bl j=>cases ry;exact eq_bool (AR I q Kr)
  | str j=>obtain⟨t',rfl⟩:=ry;exact PySem.EqMixed.eq_bool_str (AR I q (by simp))
  | _=>exact absurd (show false=true from hs) Bool.false_ne_true
 | int i=>
  obtain⟨t,rfl⟩:=rx;cases y with
  | non=>cases ry;exact PySem.EqNone.eq_int_none (AR I q (by simp))
  | int j=>obtain⟨t',rfl⟩:=ry;exact eq_int (AR I q Dv)
  | str j=>obtain⟨t',rfl⟩:=ry;exact PySem.EqMixed.eq_int_str (AR I q (by simp))
  | _=>exact absurd (show false=true from hs) Bool.false_ne_true
 | str i=>
  obtain⟨t,rfl⟩:=rx;cases y with
  | non=>cases ry;exact PySem.EqNone.eq_str_none (AR I q (by simp))
  | bl j=>cases ry;exact PySem.EqMixed.eq_str_bool (AR I q (by simp))
  | int j=>obtain⟨t',rfl⟩:=ry;exact PySem.EqMixed.eq_str_int (AR I q (by simp))
  | str j=>obtain⟨t',rfl⟩:=ry;exact eq_str (AR I q Ks)
  | _=>exact absurd (show false=true from hs) Bool.false_ne_true
 | byt i=>
  obtain⟨t,rfl⟩:=rx;cases y with
  | byt j=>obtain⟨t',rfl⟩:=ry;exact PySem.W.eq_bytes (AR I q Kt)
  | _=>exact absurd (show false=true from hs) Bool.false_ne_true
 | _=>cases y<;>exact absurd (show false=true from hs) Bool.false_ne_true
theorem Em:OpR X (compareOp .NotEq) N9:=by
 intro pins s σ H x y v u Q I rx ry h;obtain⟨hs,q⟩:=h;cases x with
 | non=>
  cases rx;cases y with
  | non=>cases ry;exact PySem.EqNone.ne_none_none (AR I q (by simp))
  | bl j=>cases ry;exact PySem.EqNone.ne_none_bool (AR I q (by simp))
  | int j=>obtain⟨t',rfl⟩:=ry;exact PySem.EqNone.ne_none_int (AR I q (by simp))
  | str j=>obtain⟨t',rfl⟩:=ry;exact PySem.EqNone.ne_none_str (AR I q (by simp))
  | _=>exact absurd (show false=true from hs) Bool.false_ne_true
 | bl i=>
  cases rx;cases y with
  | non=>cases ry;exact PySem.EqNone.ne_bool_none (AR I q (by simp))
  | bl j=>cases ry;exact ne_bool (AR I q (congrArg not Kr))
  | str j=>obtain⟨t',rfl⟩:=ry;exact PySem.EqMixed.ne_bool_str (AR I q (by simp))
  | _=>exact absurd (show false=true from hs) Bool.false_ne_true
 | int i=>
  obtain⟨t,rfl⟩:=rx;cases y with
  | non=>cases ry;exact PySem.EqNone.ne_int_none (AR I q (by simp))
  | int j=>obtain⟨t',rfl⟩:=ry;exact ne_int (AR I q (congrArg not Dv))
  | str j=>obtain⟨t',rfl⟩:=ry;exact PySem.EqMixed.ne_int_str (AR I q (by simp))
  | _=>exact absurd (show false=true from hs) Bool.false_ne_true
 | str i=>
  obtain⟨t,rfl⟩:=rx;cases y with
  | non=>cases ry;exact PySem.EqNone.ne_str_none (AR I q (by simp))
  | bl j=>cases ry;exact PySem.EqMixed.ne_str_bool (AR I q (by simp))
  | int j=>obtain⟨t',rfl⟩:=ry;exact PySem.EqMixed.ne_str_int (AR I q (by simp))
  | str j=>obtain⟨t',rfl⟩:=ry;exact ne_str (AR I q (congrArg not Ks))
  | _=>exact absurd (show false=true from hs) Bool.false_ne_true
 | byt i=>
  obtain⟨t,rfl⟩:=rx;cases y with
  | byt j=>obtain⟨t',rfl⟩:=ry;exact PySem.W.ne_bytes (AR I q (congrArg not Kt))
  | _=>exact absurd (show false=true from hs) Bool.false_ne_true
 | _=>cases y<;>exact absurd (show false=true from hs) Bool.false_ne_true
theorem op_lt:OpR X (compareOp .Lt) (Du λi j=> .bl (decide (i<j))):=IH λ_ _ _ _ _ _ _ q=>lt_int q
theorem op_le:OpR X (compareOp .LtE) (Du λi j=> .bl (decide (i<=j))):=IH λ_ _ _ _ _ _ _ q=>le_int q
theorem op_ge:OpR X (compareOp .GtE) (Du λi j=> .bl (decide (j<=i))):=IH λ_ _ _ _ _ _ _ q=>ge_int q
theorem IJ:OpR X (compareOp .Is) (λx y H Q=>y= .non/\Q (.bl (decide (x= .non))) H):=by
  intro pins s σ H x y v u Q I rx ry h;obtain⟨rfl,q⟩:=h;cases ry;refine is_none_gen (AR I q ?_);cases x<;>first
    | (cases rx;rfl)
    | (obtain⟨t,rfl⟩:=rx;rfl)
theorem AS (b:Expr) {op:CmpOp} (h:op≠ .In:=by decide) (h2:op≠ .NotIn:=by decide):behindInMarks op b=false:=by
 have e1:(op==CmpOp.In)=false:=by cases op<;>first | rfl | exact absurd rfl h
 have e2:(op==CmpOp.NotIn)=false:=by cases op<;>first | rfl | exact absurd rfl h2
 cases b<;>simp [behindInMarks,e1,e2]
theorem Db {op:CmpOp}{r:R2} (ho:OpR X (compareOp op) r) (ha:PE X a ta) (hb:PE X b tb) (hm:behindInMarks op b=false):PE X (.Compare a [op] [b] pos) (Gs r ta tb):=by
 intro pins s σ H Q I h;exact wpAny_Compare1 (IG ha hb I h λv u s2 x y H2 I2 rx ry q=>ho pins s2 σ H2 x y v u Q I2 rx ry q) hm
theorem Oa {xs:List V}{its:List Value} (r:As xs its):(!its.toArray.isEmpty)= !xs.isEmpty:=by
 cases r<;>simp
theorem ET:(sizeLine:Nat)<2 ^ 63:=by rw [sizeLine_eq];decide
theorem IK:OpR X (binaryOp .Add) (λx y H Q=>∃i j,x= .str i/\y= .str j/\i.length+j.length<=sizeLine/\Q (.str (i++j)) H):=by
 intro pins s σ H x y v u Q I rx ry h;obtain⟨i,j,rfl,rfl,hz,q⟩:=h;obtain⟨t,rfl⟩:=rx;obtain⟨t',rfl⟩:=ry;exact add_str (λt' tk=>⟨.str (i++j),H,I.tok _,⟨_,rfl⟩,q⟩) hz
theorem En {x:V} (r:As [x] us):∃u,us=[u]/\RelV x u:=by
 cases r with
 | cons r1 r2=>cases r2;exact⟨_,rfl,r1⟩
theorem IL {x y:V} (r:As [x,y] us):∃u w',us=[u,w']/\RelV x u/\RelV y w':=by
 cases r with
 | cons r1 r2=>
  cases r2 with
  | cons r3 r4=>cases r4;exact⟨_,_,rfl,r1,r3⟩
theorem Ku (hc:X.calm=true):BR X (.builtin "max") (λxs H Q=>∃i j,xs=[.int i,.int j]/\Q (.int (if j>i then j else i)) H):=by
 intro pins s σ H xs us Q I r h;obtain⟨i,j,rfl,q⟩:=h;obtain⟨u,w',rfl,⟨t,rfl⟩,⟨t',rfl⟩⟩:=IL r;refine max_two_ints (I.ok.hd hc) λh' tk k=>⟨_,H,I.kept k,?_,q⟩
 by_cases hj:j>i
 ·rw [if_pos hj,if_pos hj];exact⟨_,rfl⟩
 ·rw [if_neg hj,if_neg hj];exact⟨_,rfl⟩
theorem Ob (hc:X.calm=true):BR X (.builtin "min") (λxs H Q=>∃i j,xs=[.int i,.int j]/\Q (.int (if j<i then j else i)) H):=by
 intro pins s σ H xs us Q I r h;obtain⟨i,j,rfl,q⟩:=h;obtain⟨u,w',rfl,⟨t,rfl⟩,⟨t',rfl⟩⟩:=IL r;refine min_two_ints (I.ok.hd hc) λh' tk k=>⟨_,H,I.kept k,?_,q⟩
 by_cases hj:j<i
 ·rw [if_pos hj,if_pos hj];exact⟨_,rfl⟩
 ·rw [if_neg hj,if_neg hj];exact⟨_,rfl⟩
theorem Kv:BR X (.type "int") (λxs H Q=>(∃i,xs=[.int i]/\Q (.int i) H)\/ ∃k,xs=[.bl k]/\Q (.int (if k then 1 else 0)) H):=by
 intro pins s σ H xs us Q I r h;rcases h with⟨i,rfl,q⟩ | ⟨k,rfl,q⟩
 ·obtain⟨u,rfl,t,rfl⟩:=En r;exact call_int_int ⟨.int i,H,I,⟨_,rfl⟩,q⟩
 ·obtain⟨u,rfl,r1⟩:=En r;cases r1;exact call_int_bool ⟨.int (if k then 1 else 0),H,I.tok _,⟨_,rfl⟩,q⟩
theorem EU:BR X (.type "str") (λxs H Q=>∃i,xs=[.int i]/\i.natAbs.log2<1920/\Q (.str (toString i)) H):=by
 intro pins s σ H xs us Q I r h;obtain⟨i,rfl,hz,q⟩:=h;obtain⟨u,rfl,t,rfl⟩:=En r;exact PySem.P.str_of_int hz ⟨.str _,H,I.tok _,⟨_,rfl⟩,q⟩
theorem Oc:BR X (.builtin "divmod") (λxs H Q=>∃i j,xs=[.int i,.int j]/\II i j/\∀p,H p=none->Q (.ref p) (upd H p (.tup [.int (i / j),.int (i % j)]))):=by
 intro pins s σ H xs us Q I r h;obtain⟨i,j,rfl,⟨h1,h2⟩,q⟩:=h;obtain⟨u,w',rfl,⟨t,rfl⟩,⟨t',rfl⟩⟩:=IL r;refine divmod_int (by omega) ?_ (.inl (PyProof.noPylong_small (by omega)));rw [Int.fdiv_eq_ediv_of_nonneg i (by omega),Int.fmod_eq_emod_of_nonneg i (by omega)];have hn:H s.heap.objs.size=none:=I.hok.fresh (Nat.le_refl _);refine⟨.ref s.heap.objs.size,_,?_,rfl,q _ hn⟩;refine I.laid (λb o e=>Heap.get?_push_of_some _ e) (Nat.le_refl _) ⟨by simp only [length_cons,length_nil];rw [sizeLine_eq];decide,[.int (i / j) s.toks,.int (i % j) (s.toks+1)],.cons ⟨_,rfl⟩ (.cons ⟨_,rfl⟩ .nil),?_⟩;exact⟨_,Heap.get?_push_size s.heap rfl,rfl,0,rfl⟩
end
end L2
namespace L2
structure ObjM (h:Heap) (x dx C:Addr) (mA:Str->Option Value):Prop where
 obj:h.get? x=some (PySem.W.instObj C dx)
 ns:h.Ns1 dx mA
 ne:dx≠x
theorem Kw {h:Heap}{dx:Addr}{mA:Str->Option Value} (n:h.Ns1 dx mA):∃od,h.get? dx=some od/\∀name,PySem.W.lookIn name od=some (mA name):=by
 obtain⟨o,es,ep,ho,hd,hk,_,hm⟩:=n;refine⟨o,ho,λname=>?_⟩;have e:=hm name;unfold nsFind findBy at e;rw [<-Array.find?_toList] at e;unfold PySem.W.lookIn;rw [hd];dsimp only;split
 ·rename_i y q;rw [q] at e;exact congrArg some e
 ·rename_i q;rw [q] at e;have a:es.toList.any (·.refKey)=false:=by
   rw [List.any_eq_false];intro y hy;obtain⟨z,t,hkey⟩:=hk y (Array.mem_toList_iff.mp hy);simp [DictEntry.refKey,hkey]
  have a':¬es.toList.any (·.refKey)=true:=by rw [a];exact Bool.false_ne_true
  rw [if_neg a'];exact congrArg some e
theorem ObjM.look {h:Heap}{x dx C:Addr}{mA:Str->Option Value} (I:ObjM h x dx C mA):∃od,PySem.W.InstAt h x (PySem.W.instObj C dx) C (some od)/\∀name,PySem.W.lookIn name od=some (mA name):=
 let ⟨od,ho,hl⟩:=Kw I.ns
 ⟨od,⟨I.obj,rfl,rfl,ho⟩,hl⟩
section
variable {prog : Program} {w : World} {A : Around} {E : Value -> Shared -> Prop} {s : Shared} {K : Fgx} {x dx C f : Addr} {mA : Str -> Option Value} {name : Str} {v : Value}
theorem Od {expr:Bool}{Q:VSP} (X:K.In s.heap) (I:ObjM s.heap x dx C mA) (hg:PySem.W.plainGet K C name=true) (hh:PySem.W.hasDictIn K C=true)
  (ha:PySem.W.findIn K (.ref C) name=some none) (hv:mA name=some v) (hv':PySem.W.handedIn v=true) (h:Q v { s with toks:=s.toks+1}):
  wpAny (model prog w) A (getAttr (.ref x) name expr) Q E s:=by
 obtain⟨od,J,hl⟩:=I.look;exact PySem.W.get_value X J (PySem.W.plainGet_of hg).1 (PySem.W.findObj_own hh ha rfl (by rw [hl,hv])) hv' h
theorem Oe {pl:Sem Bool}{Q:Value×List Value->Shared->Prop} (X:K.In s.heap) (I:ObjM s.heap x dx C mA) (hg:PySem.W.plainGet K C name=true)
  (hf:PySem.W.findIn K (.ref C) name=some (some (.ref f))) (ht:PySem.W.isFn K (.ref f)=true) (hv:mA name=none) (h:Q (.ref f,[.ref x]) s):
  wpAny (model prog w) A (getMethod (.ref x) name pl) Q E s:=by
 obtain⟨od,J,hl⟩:=I.look;exact PySem.W.method_fn X J (PySem.W.plainGet_of hg).1 (PySem.W.plainGet_of hg).2 hf (beq_iff_eq.mp ht) (by show(PySem.W.lookIn name od).map (·.isSome)=some false;rw [hl,hv];rfl) h
theorem Of {ns:List Str}{Q:Unit->Shared->Prop} (X:K.In s.heap) (I:ObjM s.heap x dx C mA)
  (hs:PySem.W.findIn K (.ref C) "__setattr__"=some (some (.builtin "object.__setattr__"))) (hp:PySem.W.plainOver K C=true) (ht:PySem.W.takerIn K C name=some none) (hh:PySem.W.hasDictIn K C=true)
  (hw:PySem.Within mA ns) (hsz:ns.length<=sizeLine)
  (h:∀h',ObjM h' x dx C (λy=>if y=name then some v else mA y)->Heap.SameBut dx s.heap h'->Q () { s with heap:=h',toks:=s.toks+2}):
  wpAny (model prog w) A (setAttr (.ref x) name v) Q E s:=by
 obtain⟨od,J,hl⟩:=I.look;refine PySem.W.set_plain X J hs (PySem.W.osa_open (s:= { s with toks:=s.toks+1}) (r:=none) X J hp ht λb=>?_);obtain⟨cd,hc,hd'⟩:=PySem.W.any_some hh;have hx:s.heap.get? x=some ⟨.ref C,some dx,.plain,#[]⟩:=I.obj;refine wpAny_bind (wpAny_pure (wpAny_bind (wpAny_bind (wpAny_loadPart hx (wpAny_bind (PySem.W.Looks.here (s:= { s with toks:=s.toks+1}) (PySem.W.looks_clsIn X hc) ?_))))));rw [hd'];refine wpAny_pure (a:=some dx) (wpAny_bind (wpAny_pure (wpAny_bind ?_)));refine wpAny_nsSet1 (s:= { s with toks:=s.toks+1}) I.ns λh' hn2 hs2=>?_
 obtain⟨oD,esD,epD,hoD,hdD,hcD⟩:=hn2.count (PySem.Within.cons name v hw);refine wpAny_bind (wpAny_lookBehind hoD (by rw [hdD];exact pastItsLine_dict (Nat.le_trans hcD (by rw [length_cons];omega))) ?_);exact wpAny_pure (h _ ⟨(hs2.2 _ (Ne.symm I.ne)).trans I.obj,hn2,I.ne⟩ hs2)
theorem Og {R:Result->Shared->Prop}{vs:List Value}{kw:List (Str×Value)} (X:K.In s.heap) (hm:PySem.W.makesIn K C=true)
    (hi:PySem.W.findIn K (.ref C) "__init__"=some (some (.ref f))) (hf:PySem.W.typeIn K (.ref f)=some (.type "function"))
    (h:codeAny (model prog w) (A.under (.builtin "type.__call__" ⟨.ref C::vs,kw⟩)) (.call (.ref f) ⟨.ref (s.heap.objs.size+1)::vs,kw⟩) (PySem.W.InitBack (s.heap.objs.size+1) R)
      { s with heap:=(s.heap.push PySem.W.emptyDict).push (PySem.W.instObj C s.heap.objs.size)}):
    codeAny (model prog w) A (.call (.ref C) ⟨vs,kw⟩) R s:=by
  obtain⟨hh,g,d,t,os⟩:=s;exact PySem.W.make_core (PySem.W.makes_of X hm) (PySem.W.looks_findIn X hi) (λself=>PySem.W.bind_fn X self hf) (.inl rfl) h
end
def B4 (f:Str) (v:V):List (Str×V)->List (Str×V)
  | []=>[(f,v)]
  | (g,x)::r=>if g=f then(g,v)::r else(g,x)::B4 f v r
theorem Kx (f g:Str) (v:V):∀fs:List (Str×V),(B4 f v fs).lookup g=if g=f then some v else fs.lookup g
  | [] => by
    show List.lookup g [(f,v)]=_
    by_cases h:g=f
    . have hb:(g==f)=true:=beq_iff_eq.mpr h;simp only [List.lookup,hb,if_pos h]
    . have hb:(g==f)=false:=beq_eq_false_iff_ne.mpr h;simp only [List.lookup,hb,if_neg h]
  | (k, x) :: r => by
    have ih:=Kx f g v r;rw [show B4 f v ((k,x)::r)=(if k=f then(k,v)::r else(k,x)::B4 f v r) from rfl]
    by_cases hk:k=f
    . rw [if_pos hk]
      by_cases h:g=k
      . have hb:(g==k)=true:=beq_iff_eq.mpr h;simp only [List.lookup,hb,if_pos (h.trans hk)]
      . have hb:(g==k)=false:=beq_eq_false_iff_ne.mpr h;simp only [List.lookup,hb,if_neg (λe:g=f=>h (e.trans hk.symm))]
    . rw [if_neg hk]
      by_cases h:g=k
      . have hb:(g==k)=true:=beq_iff_eq.mpr h;simp only [List.lookup,hb,if_neg (λe:g=f=>hk (h.symm.trans e))]
      . have hb:(g==k)=false:=beq_eq_false_iff_ne.mpr h;simp only [List.lookup,hb];exact ih
theorem IM (f:Str) (v:V):∀fs:List (Str×V),f∈(B4 f v fs).map (·.1)/\∀g,g∈fs.map (·.1)->g∈(B4 f v fs).map (·.1)
  | []=>⟨by simp [B4],λg h=>by simp at h⟩
  | (k, x) :: r => by
    obtain⟨i1,i2⟩:=IM f v r;rw [show B4 f v ((k,x)::r)=(if k=f then(k,v)::r else(k,x)::B4 f v r) from rfl]
    by_cases hk:k=f
    . rw [if_pos hk];subst hk;exact⟨by simp,λg h=>by simpa using h⟩
    . rw [if_neg hk];refine⟨?_,λg h=>?_⟩
      . rw [map_cons];exact mem_cons_of_mem _ i1
      . rw [map_cons] at h ⊢;rcases mem_cons.mp h with e | e
        . exact mem_cons.mpr (.inl e)
        . exact mem_cons_of_mem _ (i2 g e)
theorem Ky (f:Str) (v:V):∀fs:List (Str×V),(B4 f v fs).length<=fs.length+1
  | []=>by simp [B4]
  | (k, x) :: r => by
    have ih:=Ky f v r;rw [show B4 f v ((k,x)::r)=(if k=f then(k,v)::r else(k,x)::B4 f v r) from rfl]
    by_cases hk:k=f
    . rw [if_pos hk,length_cons,length_cons];omega
    . rw [if_neg hk,length_cons,length_cons];omega
theorem RelO.some_of {v:V}{o:Option Value} (r:RelO (some v) o):∃u,o=some u/\RelV v u:=by
 cases o with
 | none=>exact(show False from r).elim
 | some u=>exact⟨u,rfl,r⟩
theorem RelO.none_of {o:Option Value} (r:RelO none o):o=none:=by
 cases o with
 | none=>rfl
 | some u=>exact(show False from r).elim
theorem Kz {v:V}{u:Value} (r:RelV v u):PySem.W.handedIn u=true:=by
 cases v with
 | non=>cases(show u=Value.none from r);rfl
 | bl b=>cases(show u=Value.bool b from r);rfl
 | int i=>obtain⟨t,e⟩:=(show ∃t,u=Value.int i t from r);cases e;rfl
 | str x=>obtain⟨t,e⟩:=(show ∃t,u=Value.str x t from r);cases e;rfl
 | byt b=>obtain⟨t,e⟩:=(show ∃t,u=Value.bytes b t from r);cases e;rfl
 | flt b=>obtain⟨t,e⟩:=(show ∃t,u=Value.float b t from r);cases e;rfl
 | ref a=>cases(show u=Value.ref a from r);rfl
 | ty n=>cases(show u=Value.type n from r);rfl
section
variable {P : Program} {w : World} {H H' : Hp} {h h' : Heap} {a C dx : Addr} {fs fs' : List (Str × V)}
theorem IN (hok:HOk P w H h) (e:H a=some (.ins C dx fs)):∃mA,ObjM h a dx C mA/\(∀f,RelO (fs.lookup f) (mA f))/\PySem.Within mA (fs.map (·.1))/\fs.length<=1000/\H dx=some (.own a):=by
 obtain⟨d,z,ne,ob,mA,n,r,q⟩:=(show ObjOk P w H h a (.ins C dx fs) from hok a _ e);exact⟨mA,⟨ob,n,ne⟩,r,q,z,d⟩
end
structure Cls (K:Fgx) (C:Addr):Prop where
 pg:PySem.W.plainGet K C Str.empty=true
 hd:PySem.W.hasDictIn K C=true
 po:PySem.W.plainOver K C=true
 sa:PySem.W.findIn K (.ref C) "__setattr__"=some (some (.builtin "object.__setattr__"))
theorem Cls.get {K:Fgx}{C:Addr} (c:Cls K C) (f:Str):PySem.W.plainGet K C f=true:=c.pg
def NoAttr (K:Fgx) (C:Addr) (f:Str):Prop:=PySem.W.findIn K (.ref C) f=some none
theorem NoAttr.taker {K:Fgx}{C:Addr}{f:Str} (n:NoAttr K C f):PySem.W.takerIn K C f=some none:=by
 unfold PySem.W.takerIn;rw [show PySem.W.findIn K (.ref C) f=some none from n]
 rfl
structure Con (K:Fgx) (C:Addr) (f:Str) (v:V) (u:Value):Prop where
 at_:PySem.W.findIn K (.ref C) f=some (some u)
 rel:RelV v u
 get:PySem.W.specialIn K u "__get__"=some none
 cp:PySem.W.copiedNames.contains f=false
structure EV (K:Fgx) (C:Addr) (m:Str) (f:Addr):Prop where
 at_:PySem.W.findIn K (.ref C) m=some (some (.ref f))
 fn:PySem.W.isFn K (.ref f)=true
 kp:PySem.W.keepIn K (.ref f)=true
section
variable {X : Cx} {pins : List (Addr × Obj)} {σ : St} {H : Hp} {s : Shared} {a C dx : Addr} {fs : List (Str × V)} {f : Str} {v : V} {A : Around} {E : Value -> Shared -> Prop}
theorem Oh {b:Bool}{Q:VSP} (I:Ac X pins σ H s) (e:H a=some (.ins C dx fs)) (c:Cls X.K C) (n:NoAttr X.K C f) (l:fs.lookup f=some v)
  (h:∀u s',Ac X pins σ H s'->RelV v u->Q u s'):wpAny (model X.prog X.w) A (getAttr (.ref a) f b) Q E s:=by
 obtain⟨mA,O,r,_,_,_⟩:=IN I.hok e;obtain⟨u,hu,ru⟩:=RelO.some_of (v:=v) (o:=mA f) (by rw [<-l];exact r f);exact Od I.kIn O (c.get f) c.hd n hu (Kz ru) (h u _ (I.tok _) ru)
theorem IO {m:Str}{g:Addr}{pl:Sem Bool}{Q:Value×List Value->Shared->Prop} (I:Ac X pins σ H s) (e:H a=some (.ins C dx fs)) (c:Cls X.K C) (k:EV X.K C m g) (l:fs.lookup m=none)
  (h:Q (.ref g,[.ref a]) s):wpAny (model X.prog X.w) A (getMethod (.ref a) m pl) Q E s:=by
 obtain⟨mA,O,r,_,_,_⟩:=IN I.hok e;have hn:mA m=none:=RelO.none_of (by rw [<-l];exact r m);exact Oe I.kIn O (c.get m) k.at_ k.fn hn h
theorem Oi {y:V}{u:Value}{Q:Unit->Shared->Prop} (I:Ac X pins σ H s) (e:H a=some (.ins C dx fs)) (c:Cls X.K C) (n:NoAttr X.K C f) (hl:fs.length<1000) (ry:RelV y u)
  (h:∀s',Ac X pins σ (upd H a (.ins C dx (B4 f y fs))) s'->Q () s'):wpAny (model X.prog X.w) A (setAttr (.ref a) f u) Q E s:=by
 obtain⟨mA,O,r,wi,_,ho⟩:=IN I.hok e;have hz:(fs.map (·.1)).length<=sizeLine:=by rw [length_map,sizeLine_eq];omega
 refine Of I.kIn O c.sa c.po n.taker c.hd wi hz λh' O' sb=>h _ ?_
 have hd:∃o,h'.get? dx=some o:=let ⟨o,_,_,e',_⟩:=O'.ns;⟨o,e'⟩;refine I.write (x:=a) (e:=dx) (by rw [e];exact True.intro) (.inr ho) (λb q hb z=>(sb.2 b hb).trans z) hd ?_;refine⟨by rw [Aq O.ne];exact ho,?_,O.ne,O'.obj,_,O'.ns,λg=>?_,λg hg=>?_⟩
 ·have:=Ky f y fs;omega
 ·show RelO ((B4 f y fs).lookup g) (if g=f then some u else mA g);rw [Kx]
  by_cases q:g=f
  ·rw [if_pos q,if_pos q];exact ry
  ·rw [if_neg q,if_neg q];exact r g
 ·by_cases q:g=f
  ·rw [q];exact(IM f y fs).1
  ·refine(IM f y fs).2 g (wi g λz=>hg ?_);show(if g=f then some u else mA g)=none;rw [if_neg q];exact z
theorem Ac.made (I:Ac X pins σ H s):Ac X pins σ (upd (upd H s.heap.objs.size (.own (s.heap.objs.size+1))) (s.heap.objs.size+1) (.ins C s.heap.objs.size []))
    { s with heap:=(s.heap.push PySem.W.emptyDict).push (PySem.W.instObj C s.heap.objs.size)}:=by
  have e1:(s.heap.push PySem.W.emptyDict).get? s.heap.objs.size=some PySem.W.emptyDict:=Heap.get?_push_size s.heap rfl;have e2:((s.heap.push PySem.W.emptyDict).push (PySem.W.instObj C s.heap.objs.size)).get? (s.heap.objs.size+1)=some (PySem.W.instObj C s.heap.objs.size):=by
    have:=Heap.get?_push_size (s.heap.push PySem.W.emptyDict) (o:=PySem.W.instObj C s.heap.objs.size) rfl
    rwa [Heap.size_push] at this
  have e3:(s.heap.push PySem.W.emptyDict).Ns s.heap.objs.size (λ_=>none):=⟨PySem.W.emptyDict,#[],_,e1,rfl,(λe he=>absurd he (by simp)),λ_=>rfl⟩;have I1:=I.laid (a:=s.heap.objs.size) (o:= .own (s.heap.objs.size+1)) (h':=s.heap.push PySem.W.emptyDict) (t':=s.toks) (λb u q=>Heap.get?_push_of_some _ q) (Nat.le_refl _) ⟨_,e1⟩;refine I1.laid (a:=s.heap.objs.size+1) (o:= .ins C s.heap.objs.size []) (t':=s.toks) (λb u q=>Heap.get?_push_of_some _ q) (Nat.le_of_eq (Heap.size_push _ _)) ?_;have ne:s.heap.objs.size≠s.heap.objs.size+1:=Nat.ne_of_lt (Nat.lt_succ_self _);refine⟨by rw [Aq ne,Ae],Nat.zero_le _,ne,e2,λ_=>none,(Heap.Ns1.of_empty e3).at λo q=>Heap.get?_push_of_some _ q,λ_=>True.intro,λy hy=>absurd rfl hy⟩
theorem KA {prog:Program}{w:World}{env:Env}{e:Expr}{f:Str}{pos:Pos}{s:Shared}{Q:VSP} (hb:attributeBase e f env (eval e env)=eval e env)
  (h:wpAny (model prog w) A (eval e env) (λo s₁=>wpAny (model prog w) A (getAttr o f true) Q E s₁) E s):wpAny (model prog w) A (eval (.Attribute e f pos) env) Q E s:=
 Attribute_any_ h (by rw [arm_eval_Attribute,hb])
end
def Oj (K:Fgx) (ta:TE) (f:Str):TE:=fun σ H Q=>ta σ H λx H1=>∃a C dx fs v,x= .ref a/\H1 a=some (.ins C dx fs)/\Cls K C/\NoAttr K C f/\fs.lookup f=some v/\Q v H1
def Ol (K:Fgx) (ta tv:TE) (f:Str):TS:=λD σ H=>tv σ H λy H1=>ta σ H1 λx H2=>∃a C dx fs,x= .ref a/\H2 a=some (.ins C dx fs)/\Cls K C/\NoAttr K C f/\fs.length<1000/\
 D.nx σ (upd H2 a (.ins C dx (B4 f y fs)))
section
variable {X : Cx} {o e value : Expr} {f : Str} {pos pos' tpos : Pos} {ta tv : TE}
theorem Bh (he:PE X e ta) (hb:attributeBase e f X.env (eval e X.env)=eval e X.env):PE X (.Attribute e f pos) (Oj X.K ta f):=by
 intro pins s σ H Q I h;refine KA hb (Ap (he pins s σ H _ I h) λu s1 ⟨x,H1,I1,rx,a,C,dx,fs,v,ex,ea,c,n,l,q⟩=>?_);subst ex;obtain rfl:u=Value.ref a:=rx;exact Oh I1 ea c n l λu' s2 I2 ru=>⟨v,H1,I2,ru,q⟩
theorem Gu (ha:PE X o ta) (hv:PE X value tv) (hs:swapsWith value (some (.Attribute o f pos')) pos.line X.env=pure false):PS X (.Assign [.Attribute o f pos'] value pos) (Ol X.K ta tv f):=by
 intro pins s σ H D I h;refine plainObj_wpAny_Assign_Attribute (Ap (hv pins s σ H _ I h) λu s1 ⟨y,H1,I1,ry,q⟩=>Ap (ha pins s1 σ H1 _ I1 q) λov s2 ⟨x,H2,I2,rx,a,C,dx,fs,ex,ea,c,n,l,q2⟩=>?_) hs;subst ex;obtain rfl:ov=Value.ref a:=rx;exact Oi I2 ea c n l ry λs3 I3=>⟨σ,_,I3,q2⟩
theorem methcall_of {pl:Sem Bool}{m:Str}{apos:Pos}{args:List Expr}{pins:PNs}{s:Shared}{σ:St}{H:Hp}{Q:VSP}{te:TE} (he:PE X e te) (I:Ac X pins σ H s)
  (h : te σ H λx H1 => ∃ a C dx fs g, x = .ref a /\ H1 a = some (.ins C dx fs) /\ Cls X.K C /\ EV X.K C m g /\ fs.lookup m = none /\
   ∀s1,Ac X pins σ H1 s1->wpAny (model X.prog X.w) X.A (callWith pos (.ref g) [.ref a] (backTo pos (starEach args X.env)) (backToKw pos (keywordEach [] X.env))) Q X.xe s1)
  (ht : eval (.Call (.Attribute e m apos) args [] pos) X.env = (do
   let ov<-eval e X.env
   standAt apos.atName
   let (f,first)<-holding [ov] (getMethod ov m pl)
   callWith pos f first (backTo pos (starEach args X.env)) (backToKw pos (keywordEach [] X.env)))):
  wpAny (model X.prog X.w) X.A (eval (.Call (.Attribute e m apos) args [] pos) X.env) Q X.xe s:=by
 refine PySem.W.methodCall_KW (pl:=pl) (Ap (he pins s σ H _ I h) λu s1 ⟨x,H1,I1,rx,a,C,dx,fs,g,ex,ea,c,k,l,q⟩=>?_) ht;subst ex;obtain rfl:u=Value.ref a:=rx;exact IO I1 ea c k l (q s1 I1)
end
section
variable {X : Cx} {pins : List (Addr × Obj)} {σ : St} {H : Hp} {s : Shared} {A : Around} {E : Value -> Shared -> Prop} {Q : Value -> Shared -> Prop} {c : Value} {b : Bool}
inductive CV (K:Fgx) (H:Hp):V->Value->Prop where
 | non:CV K H .non (.type "NoneType")
 | bl (x:Bool):CV K H (.bl x) (.type "bool")
 | int (i:Int):CV K H (.int i) (.type "int")
 | str (x:Str):CV K H (.str x) (.type "str")
 | flt (x:UInt64):CV K H (.flt x) (.type "float")
 | lst {a:Addr}{xs:List V} (e:H a=some (.lst xs)):CV K H (.ref a) (.type "list")
 | frz {a:Addr}{o:Obj}{xs:List V} (e:H a=some (.frz o (.lst xs))):CV K H (.ref a) (.type "list")
 | tup {a:Addr}{xs:List V} (e:H a=some (.tup xs)):CV K H (.ref a) (.type "tuple")
 | dK {a:Addr}{kvs:List (AD×V)} (e:H a=some (.dK kvs)):CV K H (.ref a) (.type "dict")
 | dT {a:Addr}{kvs:List (List AD×V)} (e:H a=some (.dT kvs)):CV K H (.ref a) (.type "dict")
 | ins {a C dx : Addr} {fs : List (Str × V)} (e : H a = some (.ins C dx fs)) (cl : Cls K C) (ha : PySem.W.findIn K (.ref C) "__class__" = some (some (.builtin "object.__class__")))
   (hn:PySem.W.specialIn K (.builtin "object.__class__") "__get__"=some (some (.builtin "getset_descriptor.__get__"))) (htk:PySem.W.takesIn K (.builtin "object.__class__")=some true)
   (hm:PySem.W.mroIn K C (.type "object")=some true):CV K H (.ref a) (.ref C)
end
end L2
namespace L2
variable {us : List Value} {kw : List (Str × Value)} {P : Program} {Q : VK} {vs : List V} {kindOf : Str -> Option NameKind} {qual : Str} {scope : Scope}
structure AJ (k:Nat) (A:Around):Prop where
 hd:A.handled=none
 dp:A.depth+3 * k+5<recursionLimit
 un:A.units+16 * k+200<cLine
 gd:A.guards=some []
theorem AJ.mono {j k:Nat}{A:Around} (r:AJ k A) (h:j<=k):AJ j A:=⟨r.hd,by have:=r.dp;omega,by have:=r.un;omega,r.gd⟩
theorem AJ.deeper {k:Nat}{A:Around} (r:AJ (k+1) A) (env:Env):AJ k (A.deeper env):=
 ⟨r.hd,by have:=r.dp;show A.depth+1+3 * k+5<_;omega,by have:=r.un;show A.units+3+16 * k+200<_;omega,r.gd⟩
theorem Om {A:Around}{C:Addr}:(A.under (.builtin "type.__call__" ⟨.ref C::us,kw⟩)).depth=A.depth+1:=by
 first | rfl | simp [Around.under,Code.weight,Code.isCreation,Code.isGuard,Code.isCaller,Code.frames,Code.isFrame,guardIds]
theorem On {A:Around}{C:Addr}:(A.under (.builtin "type.__call__" ⟨.ref C::us,kw⟩)).units=A.units+1:=by
 first | rfl | simp [Around.under,Code.cUnits,Code.frames,Code.isFrame]
theorem AJ.make {k:Nat}{A:Around} (r:AJ (k+1) A) (C:Addr) (us:List Value) (kw:List (Str×Value)):AJ k (A.under (.builtin "type.__call__" ⟨.ref C::us,kw⟩)):=
 ⟨r.hd,by have:=r.dp;rw [Om];omega,by have:=r.un;rw [On];omega,by first | exact r.gd | simpa [Around.under,Code.isGuard,guardIds] using r.gd⟩
theorem AJ.depth {k:Nat}{A:Around} (r:AJ k A):A.depth<recursionLimit:=by have:=r.dp;omega
theorem AJ.units0 {k:Nat}{A:Around} (r:AJ k A):A.units<cLine:=by have:=r.un;omega
def CH:TA:=λ_ H Q=>Q [] H
def Bv (ta:TE) (tr:TA):TA:=fun σ H Q=>ta σ H λx H1=>tr σ H1 λxs H2=>Q (x::xs) H2
section
variable {X : Cx} {e : Expr} {es : List Expr} {te : TE} {t : TA} {pos : Pos}
theorem BY:PA X [] CH:=λ_ _ _ _ H Q I h=>Calls.spliced_nil ⟨[],H,I,.nil,h⟩
theorem AE (ha:PE X e te) (hr:PA X es t) (hs:starEach (e::es) X.env=(false,eval e X.env)::starEach es X.env:=by rfl):PA X (e::es) (Bv te t):=by
 intro pos pins s σ H Q I h;rw [hs];show wpAny _ _ (spliced ((false,eval e X.env)::backTo pos (starEach es X.env))) _ _ s;refine Calls.spliced_cons (Ap (ha pins s σ H _ I h) λu s1 ⟨x,H1,I1,r1,q1⟩=>?_);exact Ap (hr pos pins s1 σ H1 _ I1 q1) λus s2 ⟨xs,H2,I2,r2,q2⟩=>⟨x::xs,H2,I2,.cons r1 r2,q2⟩
end
abbrev Sp:=List V->Hp->VK->XK->Prop
abbrev Ck:=List Env->Hp->Shared->XK->VSP
structure Cm (P:Program) (w:World) (K:Fgx) (mg:Str->Option Value) (base:Heap) (A:Around) (outer:List Env) (s:Shared) (H:Hp):Prop where
 frames:A.frames=some outer
 mod:Mod K mg base
 bs:∀b o,base.get? b=some o->s.heap.get? b=some o/\H b=none
 bsz:base.objs.size<=s.heap.objs.size
 funs:s.heap.FunFrames base outer
 frf:∀b∈AB outer,H b=none
 hok:HOk P w H s.heap
 bare:AllBare s.gens
def CE (outer:List Env) (P:Program) (w:World) (H:Hp) (s:Shared) (Q:VK) (u:Value) (s':Shared):Prop:=
 ∃v H',s'.os=s.os/\AllBare s'.gens/\Un (AB outer) [] H H' s.heap s'.heap/\HOk P w H' s'.heap/\RelV v u/\Q v H'
def CR (CX:Ck) (outer:List Env) (P:Program) (w:World) (H:Hp) (s:Shared) (Q:VK) (E:XK) (r:Result) (s':Shared):Prop:=
 match r with
 | .ok (.ret u)=>CE outer P w H s Q u s'
 | .ok _=>False
 | .error e=>CX outer H s E e s'
structure BE (P:Program) (w:World) (K:Fgx) (mg:Str->Option Value) (base:Heap) (CX:Ck) (k:Nat) (f:Addr) (fd:FuncData) (ps:List Str) (sp:Sp):Prop where
 len:∀vs H Q E,sp vs H Q E->vs.length=ps.length
 run:∀(A:Around) (outer:List Env) (s:Shared) (H:Hp) (args:Args) (us:List Value) (vs:List V) (Q:VK) (E:XK),AJ k A->Cm P w K mg base A outer s H->BindsTo s fd args (ps.zip us)->As vs us->sp vs H Q E->
  codeAny (model P w) A (.call (.ref f) args) (CR CX outer P w H s Q E) s
theorem Cm.make {w:World}{K:Fgx}{mg:Str->Option Value}{base:Heap}{A:Around}{outer:List Env}{s:Shared}{H:Hp} (e:Cm P w K mg base A outer s H) (C:Addr) (us:List Value) (kw:List (Str×Value)):
  Cm P w K mg base (A.under (.builtin "type.__call__" ⟨.ref C::us,kw⟩)) outer s H:=⟨by first | exact e.frames | (simpa [Around.under,Code.envs,Code.isFrame,pushEnvs] using e.frames),e.mod,e.bs,e.bsz,e.funs,e.frf,e.hok,e.bare⟩
section
variable {X : Cx} {pins : List (Addr × Obj)} {σ : St} {H : Hp} {s s' : Shared}
theorem Ac.env0 (I:Ac X pins σ H s):Cm X.prog X.w X.K X.mg X.base X.A X.stack s H:=
 ⟨I.ok.frames,I.ok.mod,I.bs,Nat.le_trans I.ok.bsz I.sz,I.stack,I.stkFree,I.hok,I.bare⟩
theorem Ac.after {u:Value} (I:Ac X pins σ H s) (h:CE X.stack X.prog X.w H s Q u s'):EP X pins σ Q u s':=by
 obtain⟨v,H',os,bare,un,hok,r,q⟩:=h;obtain⟨hh,g,d,t,os'⟩:=s';obtain rfl:os'=s.os:=os;exact⟨v,H',I.call (h':=hh) (g':=g) (d':=d) (t':=t) (ch:=[]) un hok bare (λb z=>absurd z (by simp)),r,q⟩
end
def Oo (sp:Sp) (dvs:List V) (E:XK) (t:TA):TE:=fun σ H Q=>t σ H λvs H1=>sp (vs++dvs) H1 Q E
def KB (C:Addr) (m:Str) (sp:Sp) (dvs:List V) (E:XK) (ta:TE) (t:TA):TE:=fun σ H Q=>ta σ H λx H1=>∃a dx fs,x= .ref a/\H1 a=some (.ins C dx fs)/\fs.lookup m=none/\
 t σ H1 λvs H2=>sp (x::(vs++dvs)) H2 Q E
def Op (C:Addr) (sp:Sp) (dvs:List V) (E:XK) (t:TA):TE:=fun σ H Q=>t σ H λvs H1=>∀x dx,H1 x=none->H1 dx=none->dx≠x->
 sp (.ref x::(vs++dvs)) (upd (upd H1 dx (.own x)) x (.ins C dx [])) (λv H2=>v= .non/\Q (.ref x) H2) E
def Binds (K:Fgx) (fd:FuncData) (ps:List Str) (ds:List Value):Prop:=
 ∀(s:Shared) (us:List Value),K.In s.heap->(us++ds).length=ps.length->BindsTo s fd ⟨us,[]⟩ (ps.zip (us++ds))
theorem Binds.all {K:Fgx}{fd:FuncData}{ps:List Str} (h:∀us:List Value,us.length=ps.length->bindArgs fd ⟨us,[]⟩=pure (ps.zip us)):Binds K fd ps []:=λs us _ hl=>by
 rw [append_nil] at hl ⊢;exact .of_eq (h us hl)
def Dd (CX:Ck) (X:Cx) (E:XK):Prop:=∀(pins:PNs) (σ:St) (H:Hp) (s:Shared) (e:Value) (s':Shared),Ac X pins σ H s->CX X.stack H s E e s'->X.xe e s'
section
variable {X : Cx} {CX : Ck} {k : Nat} {f C : Addr} {fd : FuncData} {ps : List Str} {sp : Sp} {dvs : List V} {ds : List Value} {E : XK} {x m : Str} {p pos apos : Pos} {e o : Expr} {es : List Expr} {ta : TE} {t : TA}
theorem Gv {pins:PNs}{σ:St}{H:Hp}{s:Shared}{Q:VK}{us:List Value}{vs:List V} (F:BE X.prog X.w X.K X.mg X.base CX k f fd ps sp) (hr:AJ k X.A) (hb:Binds X.K fd ps ds) (hd:As dvs ds) (hx:Dd CX X E)
  (I:Ac X pins σ H s) (r:As vs us) (h:sp (vs++dvs) H Q E):wpAny (model X.prog X.w) X.A (call (.ref f) us) (EP X pins σ Q) X.xe s:=by
 have r2:As (vs++dvs) (us++ds):=r.append hd;have hl:(us++ds).length=ps.length:=by rw [<-r2.length];exact F.len _ _ _ _ h
 refine wpAny_call (codeAny_mono (F.run X.A X.stack s H ⟨us,[]⟩ (us++ds) (vs++dvs) Q E hr I.env0 (hb s us I.kIn hl) r2 h) λr s' hq=>?_);cases r with
 | error e=>exact hx pins σ H s e s' I hq
 | ok fl=>
  cases fl with
  | ret u=>exact I.after hq
  | next=>exact False.elim hq
  | brk=>exact False.elim hq
  | cont=>exact False.elim hq
theorem KC (F:BE X.prog X.w X.K X.mg X.base CX k f fd ps sp) (hr:AJ k X.A) (hg:Gl X x) (hm:X.mg x=some (.ref f)) (hk:PySem.W.keepIn X.K (.ref f)=true) (hb:Binds X.K fd ps ds) (hd:As dvs ds) (hx:Dd CX X E)
  (ha:PA X (e::es) t) (hdb:(x==("__debug__" :Str))=false:=by decide) (he:starEach (e::es) X.env=(false,eval e X.env)::starEach es X.env:=by rfl) (hpl:(backTo pos (starEach es X.env)).any (·.1)=false:=by rfl):
  PE X (.Call (.Name x p) (e::es) [] pos) (Oo sp dvs E t):=by
 intro pins s σ H Q I h;refine wpAny_Call_Name_kw (Dt I hg hm ?_ hdb);refine PySem.W.callWith_K (h₀:=X.base) I.ok.mod.kin hk (Ap (ha pos pins s σ H _ I h) λus s1 ⟨vs,H1,I1,r,q⟩=>⟨I1.kIn,?_⟩) he hpl;exact Gv F hr hb hd hx I1 r q
theorem Oq {pl:Sem Bool} (he:PE X o ta) (c:Cls X.K C) (hm:EV X.K C m f) (F:BE X.prog X.w X.K X.mg X.base CX k f fd ps sp) (hr:AJ k X.A) (hb:Binds X.K fd ps ds) (hd:As dvs ds) (hx:Dd CX X E) (ha:PA X (e::es) t)
  (hst:starEach (e::es) X.env=(false,eval e X.env)::starEach es X.env:=by rfl) (hpl:(backTo pos (starEach es X.env)).any (·.1)=false:=by rfl)
  (ht : eval (.Call (.Attribute o m apos) (e :: es) [] pos) X.env = (do
   let ov<-eval o X.env
   standAt apos.atName
   let (f,first)<-holding [ov] (getMethod ov m pl)
   callWith pos f first (backTo pos (starEach (e::es) X.env)) (backToKw pos (keywordEach [] X.env))):=by rfl):
  PE X (.Call (.Attribute o m apos) (e::es) [] pos) (KB C m sp dvs E ta t):=by
 intro pins s σ H Q I h;refine PySem.W.methodCall_KW (pl:=pl) (Ap (he pins s σ H _ I h) λu s1 ⟨x,H1,I1,rx,a,dx,fs,ex,ea,l,q⟩=>?_) ht;subst ex;obtain rfl:u=Value.ref a:=rx;refine IO I1 ea c hm l ?_;refine PySem.W.callWith_K (first:=[.ref a]) (h₀:=X.base) I.ok.mod.kin hm.kp (Ap (ha pos pins s1 σ H1 _ I1 q) λus s2 ⟨vs,H2,I2,r,q2⟩=>⟨I2.kIn,?_⟩) hst hpl;exact Gv (us:= .ref a::us) (vs:= .ref a::vs) F hr hb hd hx I2 (.cons rfl r) q2
theorem Os {pl:Sem Bool} (he:PE X o ta) (c:Cls X.K C) (hm:EV X.K C m f) (F:BE X.prog X.w X.K X.mg X.base CX k f fd ps sp) (hr:AJ k X.A) (hb:Binds X.K fd ps ds) (hd:As dvs ds) (hx:Dd CX X E)
  (ht : eval (.Call (.Attribute o m apos) [] [] pos) X.env = (do
   let ov<-eval o X.env
   standAt apos.atName
   let (f,first)<-holding [ov] (getMethod ov m pl)
   callWith pos f first (backTo pos (starEach [] X.env)) (backToKw pos (keywordEach [] X.env))):=by rfl):
  PE X (.Call (.Attribute o m apos) [] [] pos) (KB C m sp dvs E ta CH):=by
 intro pins s σ H Q I h;refine PySem.W.methodCall_KW (pl:=pl) (Ap (he pins s σ H _ I h) λu s1 ⟨x,H1,I1,rx,a,dx,fs,ex,ea,l,q⟩=>?_) ht;subst ex;obtain rfl:u=Value.ref a:=rx;refine IO I1 ea c hm l ?_;exact PySem.W.callWith_K0 (first:=[.ref a]) I1.kIn hm.kp (Gv (us:=[.ref a]) (vs:=[.ref a]) F hr hb hd hx I1 (.cons rfl .nil) q)
structure Mk (K:Fgx) (C f:Addr):Prop where
 makes:PySem.W.makesIn K C=true
 init:PySem.W.findIn K (.ref C) "__init__"=some (some (.ref f))
 fn:PySem.W.isFn K (.ref f)=true
 kp:PySem.W.keepIn K (.ref C)=true
theorem Ot {pins:PNs}{σ:St}{H:Hp}{s:Shared} (M:Mk X.K C f) (F:BE X.prog X.w X.K X.mg X.base CX k f fd ps sp) (hr:AJ (k+1) X.A) (hb:Binds X.K fd ps ds) (hd:As dvs ds)
  (hx:Dd CX X E) (I:Ac X pins σ H s) (r:As vs us)
  (h:∀x dx,H x=none->H dx=none->dx≠x->sp (.ref x::(vs++dvs)) (upd (upd H dx (.own x)) x (.ins C dx [])) (λv H2=>v= .non/\Q (.ref x) H2) E):
  wpAny (model X.prog X.w) X.A (call (.ref C) us) (EP X pins σ Q) X.xe s:=by
 have hq:=h (s.heap.objs.size+1) s.heap.objs.size (I.hok.fresh (Nat.le_succ _)) (I.hok.fresh (Nat.le_refl _)) (Nat.ne_of_lt (Nat.lt_succ_self _));have I2:=Ac.made (C:=C) I;have r2:As (V.ref (s.heap.objs.size+1)::(vs++dvs)) (Value.ref (s.heap.objs.size+1)::(us++ds)):= .cons rfl (r.append hd);have hl:(Value.ref (s.heap.objs.size+1)::us++ds).length=ps.length:=by
  have e:=r2.length;rw [F.len _ _ _ _ hq] at e;exact e.symm
 refine wpAny_call (Og (f:=f) I.kIn M.makes M.init (beq_iff_eq.mp M.fn) (codeAny_mono (F.run _ X.stack _ _ ⟨Value.ref (s.heap.objs.size+1)::us,[]⟩ (Value.ref (s.heap.objs.size+1)::(us++ds)) _ _ E (hr.make C us [])
  (I2.env0.make C us []) (hb _ (Value.ref (s.heap.objs.size+1)::us) I2.kIn hl) r2 hq) λr s' hq'=>?_))
 cases r with
 | error e=>exact hx pins σ _ _ e s' I2 hq'
 | ok fl=>
  cases fl with
  | ret u=>
   obtain⟨v,H',I3,rv,ev,q3⟩:=I2.after hq';subst ev;exact⟨rv,⟨V.ref (s.heap.objs.size+1),H',I3,rfl,q3⟩⟩
  | next=>exact False.elim hq'
  | brk=>exact False.elim hq'
  | cont=>exact False.elim hq'
theorem Ou (M:Mk X.K C f) (F:BE X.prog X.w X.K X.mg X.base CX k f fd ps sp) (hr:AJ (k+1) X.A) (hg:Gl X x) (hm:X.mg x=some (.ref C)) (hb:Binds X.K fd ps ds) (hd:As dvs ds) (hx:Dd CX X E)
  (ha:PA X (e::es) t) (hdb:(x==("__debug__" :Str))=false:=by decide) (he:starEach (e::es) X.env=(false,eval e X.env)::starEach es X.env:=by rfl) (hpl:(backTo pos (starEach es X.env)).any (·.1)=false:=by rfl):
  PE X (.Call (.Name x p) (e::es) [] pos) (Op C sp dvs E t):=by
 intro pins s σ H Q I h;refine wpAny_Call_Name_kw (Dt I hg hm ?_ hdb);refine PySem.W.callWith_K (h₀:=X.base) I.ok.mod.kin M.kp (Ap (ha pos pins s σ H _ I h) λus s1 ⟨vs,H1,I1,r,q⟩=>⟨I1.kIn,?_⟩) he hpl;exact Ot M F hr hb hd hx I1 r q
end
section
variable {X : Cx} {CX : Ck} {k : Nat} {f C : Addr} {fd : FuncData} {ps ks : List Str} {sp : Sp} {E : XK} {x m : Str} {p pos apos kpos : Pos} {e o : Expr} {es : List Expr} {kws : List Keyword} {te ta : TE} {t tk : TA} {nm : Option Str}
structure KBinds (K:Fgx) (fd:FuncData) (ps ks:List Str) (g:List Value->List Value->List Value) (gV:List V->List V->List V):Prop where
 to:∀(s:Shared) (us ws:List Value),K.In s.heap->(g us ws).length=ps.length->BindsTo s fd ⟨us,ks.zip ws⟩ (ps.zip (g us ws))
 rel:∀ {vs:List V}{us:List Value}{zs:List V}{ws:List Value},As vs us->As zs ws->As (gV vs zs) (g us ws)
variable {g : List Value -> List Value -> List Value} {gV : List V -> List V -> List V}
end
structure At (N P:List Str) (sc:Scope):Prop where
 kind:sc.kind= .function
 co:sc.isCoroutine=false
 gen:sc.isGenerator=false
 nd:N.Nodup
 pre:N.take P.length=P
 par:∀x∈P,sc.names.lookup x=some .local \/sc.names.lookup x=some .cell
 nofree:∀y∈sc.names,y.2≠ .free
theorem Ax {N P:List Str}{sc:Scope} (a:sc.kind= .function:=by rfl) (b:sc.isCoroutine=false:=by rfl) (c:sc.isGenerator=false:=by rfl) (d:N.Nodup:=by decide+kernel) (e:N.take P.length=P:=by rfl) (f:∀x∈P,sc.names.lookup x=some .local \/sc.names.lookup x=some .cell:=by decide+kernel) (g:∀y∈sc.names,y.2≠ .free:=by decide+kernel):At N P sc:=⟨a,b,c,d,e,f,g⟩
theorem KG {x:Str}:∀ {binds:List (Str×Value)}{m:Str->Option Value},(∀v,(x,v) ∉ binds)->bindL kindOf binds m x=m x
  | [],_,_=>rfl
  | (n, v) :: r, m, h => by
    unfold bindL;rw [KG λw hw=>h w (mem_cons_of_mem _ hw)];split
    . have:x≠n:=by rintro rfl;exact h v mem_cons_self
      simp [this]
    . rfl
theorem KH {x:Str}:∀ {binds:List (Str×Value)}{m:Str->Option Value},(∀v,(x,v) ∉ binds)->bindC kindOf binds m x=m x
  | [],_,_=>rfl
  | (n, v) :: r, m, h => by
    unfold bindC;rw [KH λw hw=>h w (mem_cons_of_mem _ hw)];split
    . rfl
    . have:x≠n:=by rintro rfl;exact h v mem_cons_self
      simp [this]
theorem KI {kindOf:Str->Option NameKind}{x:Str}{v:Value}:∀ {P:List Str}{vs:List Value}{i:Nat}{m:Str->Option Value},P.Nodup->P[i]? =some x->vs[i]? =some v->kindOf x=some .local ->
  bindL kindOf (P.zip vs) m x=some v
 | [],_,_,_,_,h,_,_=>by simp at h
 | _::_,[],_,_,_,_,h,_=>by simp at h
 | p::P,w::vs,0,m,nd,h1,h2,hk=>by
  simp at h1 h2;subst h1;subst h2;show bindL kindOf ((p,w)::P.zip vs) m p=_;unfold bindL;rw [KG λv hv=>(nodup_cons.mp nd).1 (of_mem_zip hv).1,if_pos hk];simp
 | p::P,w::vs,i+1,m,nd,h1,h2,hk=>by
  show bindL kindOf ((p,w)::P.zip vs) m x=_;unfold bindL;exact KI (i:=i) (nodup_cons.mp nd).2 (by simpa using h1) (by simpa using h2) hk
theorem KJ {kindOf:Str->Option NameKind}{x:Str}{v:Value}:∀ {P:List Str}{vs:List Value}{i:Nat}{m:Str->Option Value},P.Nodup->P[i]? =some x->vs[i]? =some v->kindOf x≠some .local ->
  bindC kindOf (P.zip vs) m x=some v
 | [],_,_,_,_,h,_,_=>by simp at h
 | _::_,[],_,_,_,_,h,_=>by simp at h
 | p::P,w::vs,0,m,nd,h1,h2,hk=>by
  simp at h1 h2;subst h1;subst h2;show bindC kindOf ((p,w)::P.zip vs) m p=_;unfold bindC;rw [KH λv hv=>(nodup_cons.mp nd).1 (of_mem_zip hv).1,if_neg hk];simp
 | p::P,w::vs,i+1,m,nd,h1,h2,hk=>by
  show bindC kindOf ((p,w)::P.zip vs) m x=_;unfold bindC;exact KJ (i:=i) (nodup_cons.mp nd).2 (by simpa using h1) (by simpa using h2) hk
def start (N:List Str) (vs:List V):St:=vs.map some++List.replicate (N.length-vs.length) none
def BS (CX:Ck) (P:Program) (w:World) (K:Fgx) (mg:Str->Option Value) (base:Heap) (N:List Str) (qual:Str) (scope:Scope) (f:Addr) (cd:Value) (A:Around) (outer:List Env) (s:Shared) (H:Hp) (E:XK):Cx where
 prog:=P
 w:=w
 K:=K
 mg:=mg
 base:=base
 A:=A.deeper (envOfC qual scope s.heap.objs.size f cd)
 N:=N
 s₀:=s
 H₀:=H
 env:=envOfC qual scope s.heap.objs.size f cd
 outer:=outer
 stack:=envOfC qual scope s.heap.objs.size f cd::outer
 ex:=[]
 calm:=true
 fn:=λ_=>true
 pn:=[]
 xe:=λe s'=>wpAny (model P w) (A.deeper (envOfC qual scope s.heap.objs.size f cd)) (leaving (envOfC qual scope s.heap.objs.size f cd) e) (λ_ s''=>CX outer H s E e s'') (λe' s''=>CX outer H s E e' s'') s'
theorem KK {sc:Scope}{n:Nat}{x:Str} (h:sc.names.lookup x=some .cell):∃c,(cellsFrom n sc.names []).lookup x=some c:=by
 have q:=PySem.W.cellsFrom_some sc.names n [] (.inl h);exact Option.isSome_iff_exists.mp q
theorem KL {CX:Ck}{w:World}{K:Fgx}{mg:Str->Option Value}{base:Heap}{N ps:List Str}{f:Addr}{cd:Value}{A:Around}{outer:List Env}{s s1:Shared}{H:Hp}{E:XK}
  (S:At N ps scope) (hd:A.handled=none) (e0:Cm P w K mg base A outer s H) (hl:vs.length=ps.length) (r:As vs us)
  (x:InCallC s s.heap.objs.size (bindL (envOfC qual scope s.heap.objs.size f cd).kindOf (ps.zip us) λ_=>none) (cellsFrom (s.heap.objs.size+1) scope.names []) (bindC (envOfC qual scope s.heap.objs.size f cd).kindOf (ps.zip us) λ_=>none) s1):
  Ac (BS CX P w K mg base N qual scope f cd A outer s H E) [] (start N vs) H s1:=by
 have hpl:ps.length<=N.length:=by have:=congrArg List.length S.pre;rw [length_take] at this;omega
 obtain⟨h1,tk,rfl,hk⟩:=x.done;have noA:∀b:Addr,b ∉(BS CX P w K mg base N qual scope f cd A outer s H E).ex:=λb z=>absurd (show b∈([]:List Addr) from z) (by simp)
 refine⟨⟨e0.mod,S.kind,rfl,rfl,Nat.le_refl _,λy z c h1 h2=>?_,λy hy=>?_,λy c _ h=>?_,λ_=>hd,Around.frames_deeper e0.frames,.inr ⟨rfl,rfl⟩,λb z=>absurd z (noA b),e0.bs,e0.bsz,λb _ _=>noA b,λb z=>absurd z (noA b),e0.funs,e0.frf⟩,
  rfl,e0.bare,Un.kept hk,⟨_,x.toInCall.ns,λi y v h1 h2 h3=>?_⟩,λy c h=>⟨_,x.cell y c h⟩,e0.hok.fresh (Nat.le_refl _),λy c h=>?_,λp hp=>absurd (show p∈([]:PNs) from hp) (by simp),e0.hok.kept hk,?_⟩
 ·exact name_of_addr x.apart (PySem.mem_of_lookup h1) (PySem.mem_of_lookup h2)
 ·have hy:scope.names.lookup y=some .cell\/scope.names.lookup y=some .free:=hy;rcases hy with hy | hy
  ·exact KK hy
  ·exact absurd rfl (S.nofree _ (PySem.mem_of_lookup hy))
 ·exact Nat.le_of_lt (x.above y c (PySem.mem_of_lookup h))
 ·have hi:i<vs.length:=by
   unfold start at h2
   by_cases hi:i<vs.length
   ·exact hi
   ·rw [List.getElem?_append_right (by simpa using hi)] at h2;rw [List.getElem?_replicate] at h2;split at h2<;>cases h2
  have ha:vs[i]? =some v:=by
   unfold start at h2;rw [List.getElem?_append_left (by simpa using hi),getElem?_map] at h2;cases e:vs[i]? with
   | none=>rw [e] at h2;cases h2
   | some a=>rw [e] at h2;cases h2;rfl
  obtain⟨u,hu,rv⟩:=r.get ha;have hp:ps[i]? =some y:=by
   rw [<-S.pre,List.getElem?_take_of_lt (by omega)];exact h1
  have ndP:ps.Nodup:=by rw [<-S.pre];exact S.nd.sublist (List.take_sublist _ _)
  refine⟨u,rv,?_⟩;rcases S.par y (mem_of_getElem? hp) with k | k
  ·exact .inl ⟨k,KI ndP hp hu k⟩
  ·obtain⟨c,e⟩:=KK (n:=s.heap.objs.size+1) k;refine .inr ⟨.inl k,c,e,?_⟩;have q:=x.cell y c e;rw [KJ ndP hp hu (by show scope.names.lookup y≠_;rw [k];decide)] at q;exact q
 ·exact e0.hok.fresh (Nat.le_of_lt (x.above y c (PySem.mem_of_lookup h)))
 ·unfold start;show _=N.length;rw [length_append,length_map,List.length_replicate];omega
theorem Gw {CX:Ck}{w:World}{K:Fgx}{mg:Str->Option Value}{base:Heap}{k:Nat}{f:Addr}{name:Str}{params:Arguments}{body:List Stmt}{dV kV doc pm cdv ct oc:Value}{an od:Option Addr}
  {osl:Array (Option Value)}{N ps:List Str}{sp:Sp} (lk:K.lookup f=some ⟨oc,od,.func (PySem.W.fnOf name qual params body scope dV kV doc pm an cdv ct),osl⟩) (hcd:PySem.W.codeIn K cdv qual=true) (S:At N ps scope)
  (len:∀vs H Q E,sp vs H Q E->vs.length=ps.length)
  (hbody : ∀ (A : Around) (outer : List Env) (s : Shared) (H : Hp) (vs : List V) (Q : VK) (E : XK), AJ k (A.deeper (envOfC qual scope s.heap.objs.size f cdv)) -> sp vs H Q E ->
   ∃t,PSs (BS CX P w K mg base N qual scope f cdv A outer s H E) body t/\t { nx:=λ_ H'=>Q .non H',rt:=Q} (start N vs) H):
  BE P w K mg base CX (k+1) f (PySem.W.fnOf name qual params body scope dV kV doc pm an cdv ct) ps sp:=by
 refine⟨len,λA outer s H args us vs Q E hr e0 hb r hsp=>?_⟩;have hl:=len _ _ _ _ hsp;have KX:K.In s.heap:=e0.mod.kin.keeps λb o e=>(e0.bs b o e).1
 have lim:s.heap.NoLimit:=e0.mod.nolimit.keeps λb o e=>(e0.bs b o e).1
 have hkind:∀y∈ps.zip us,scope.names.lookup y.1=some .local \/(scope.names.lookup y.1=some .cell/\((cellsFrom (s.heap.objs.size+1) scope.names []).lookup y.1).isSome=true):=fun⟨n,v⟩ hy=>by
  rcases S.par n (of_mem_zip hy).1 with q | q
  ·exact .inl q
  ·exact .inr ⟨q,PySem.W.cellsFrom_some _ _ _ (.inl q)⟩
 refine codeAny_call_function hr.depth (KX _ _ lk) rfl S.co S.gen rfl (PySem.W.codeRec_of KX hcd) (hb _ _ _ _ ?_);refine wpAny_newFunctionEnv_cells S.kind hkind λenv he s1 x=>?_
 subst he;refine⟨lim.keeps x.toInCall.keep,codeAny_func ?_⟩;obtain⟨t,ht,hq⟩:=hbody A outer s H vs Q E (hr.deeper _) hsp;have I:Ac (BS CX P w K mg base N qual scope f cdv A outer s H E) [] (start N vs) H s1:=KL S hr.hd e0 hl r x;refine wpAny_mono (ht [] s1 (start N vs) H _ I hq) (λfl s' hs=>?_) λe s' hs=>hs
 have fin:∀ {σ':St}{H':Hp}{v:V}{u:Value},Ac (BS CX P w K mg base N qual scope f cdv A outer s H E) [] σ' H' s'->RelV v u->Q v H'->CE outer P w H s Q u s':=
  λ{σ' H' v u} J rv q=>⟨v,H',J.os,J.bare,J.base,J.hok,rv,q⟩
 cases fl with
 | ret u=>
  obtain⟨v,σ',H',J,rv,q⟩:=hs;exact fin J rv q
 | next=>
  obtain⟨σ',H',J,q⟩:=hs;exact fin (v:=V.non) (u:=Value.none) J rfl q
 | brk=>
  obtain⟨_,_,_,q⟩:=hs;exact False.elim q
 | cont=>
  obtain⟨_,_,_,q⟩:=hs;exact False.elim q
end L2
namespace L2
section
variable {X : Cx} {x : Str} {p pos : Pos} {e : Expr} {es : List Expr} {t : TA} {id T : String} {r : List V -> Hp -> VK -> Prop}
def KM (r:List V->Hp->VK->Prop) (t:TA):TE:=fun σ H Q=>t σ H λvs H1=>r vs H1 Q
theorem Ay (hc:BR X (.builtin id) r) (hg:Gl X x) (hm:X.mg x=none) (hv:bootBuiltins x=some (.builtin id)) (ha:PA X (e::es) t) (hn:x≠ "__name__" :=by decide) (hdb:(x==("__debug__" :Str))=false:=by decide)
  (he:starEach (e::es) X.env=(false,eval e X.env)::starEach es X.env:=by rfl) (hpl:(backTo pos (starEach es X.env)).any (·.1)=false:=by rfl):PE X (.Call (.Name x p) (e::es) [] pos) (KM r t):=by
 intro pins s σ H Q I h;refine wpAny_Call_Name_kw (DR I hg hm hv ?_ hn hdb);exact PyProof.Rows.callWith_builtin1 (Ap (ha pos pins s σ H _ I h) λus s1 ⟨vs,H1,I1,r1,q1⟩=>hc pins s1 σ H1 vs us Q I1 r1 q1) he hpl
theorem Be (hc:BR X (.type T) r) (hg:Gl X x) (hm:X.mg x=none) (hv:bootBuiltins x=some (.type T)) (ha:PA X (e::es) t) (hn:x≠ "__name__" :=by decide) (hdb:(x==("__debug__" :Str))=false:=by decide)
  (he:starEach (e::es) X.env=(false,eval e X.env)::starEach es X.env:=by rfl) (hpl:(backTo pos (starEach es X.env)).any (·.1)=false:=by rfl):PE X (.Call (.Name x p) (e::es) [] pos) (KM r t):=by
 intro pins s σ H Q I h;refine wpAny_Call_Name_kw (DR I hg hm hv ?_ hn hdb);exact PyProof.Rows.callWith_type1 (Ap (ha pos pins s σ H _ I h) λus s1 ⟨vs,H1,I1,r1,q1⟩=>hc pins s1 σ H1 vs us Q I1 r1 q1) he hpl
end
end L2
namespace HT
open PySem PyProof.Rows
variable {sl : Addr} {vl vu : Value}
section
open PySem.SeqAt
open PySem.AutoSeq1 (wpAny_loadPart')
open PySem.MeetsSeq PySem.MeetsSeq2 PySem.MeetsSeq3
end
section
variable {prog : Program} {w : World} {A : Around} {E : Value -> Shared -> Prop} {s : Shared}
def sIx (n d:Nat):Option Int->Nat
 | none=>d
 | some v=>if v<0 then(v+(n:Int)).toNat else min v.toNat n
theorem sIx_nat (n d k:Nat):sIx n d (some (k:Int))=min k n:=by
 show(if (k:Int)<0 then((k:Int)+(n:Int)).toNat else min (k:Int).toNat n)=min k n;rw [if_neg (by omega),Int.toNat_natCast]
theorem Ov (n d:Nat) (hd:d<=n) (o:Option Int):sIx n d o<=n:=by
 cases o with
 | none=>exact hd
 | some v=>
  show(if v<0 then(v+(n:Int)).toNat else min v.toNat n)<=n
  by_cases hv:v<0
  ·rw [if_pos hv];omega
  ·rw [if_neg hv];exact Nat.min_le_right _ _
theorem KN (v:Int) (n d:Nat):(if v<0 then max (v+(n:Int)) 0 else min v (n:Int))=((sIx n d (some v):Nat):Int):=by
 show(if v<0 then max (v+(n:Int)) 0 else min v (n:Int))=(((if v<0 then(v+(n:Int)).toNat else min v.toNat n):Nat):Int)
 by_cases hv:v<0
 ·simp only [if_pos hv];omega
 ·simp only [if_neg hv];omega
theorem Ow (lo hi:Option Int) (n:Nat):Builtin.Slice.sliceAdjust lo hi 1 (n:Int)=(((sIx n 0 lo:Nat):Int),((sIx n n hi:Nat):Int)):=by
 have h1:¬((1:Int)<0):=by omega
 unfold Builtin.Slice.sliceAdjust;simp only [h1,if_false];refine Prod.ext ?_ ?_
 ·cases lo with
  | none=>rfl
  | some v=>exact KN v n 0
 ·cases hi with
  | none=>rfl
  | some v=>exact KN v n n
theorem Ox (i j:Nat):Builtin.Slice.slicePlaces (i:Int) (j:Int) 1=j-i:=by
 unfold Builtin.Slice.slicePlaces;have h1:(1:Int) >0:=by omega
 simp only [h1,if_true,Int.ediv_one];split<;>omega
theorem KO {v:Value}{o:Option Int}{Q:Option Int->Shared->Prop} (p:IsPart v o) (h:Q o s):wpAny (model prog w) A (Builtin.Slice.slicePartIndex v) Q E s:=by
 cases p with
 | none=>exact slicePart_none h
 | int i t=>exact slicePart_int h
theorem sliceApplied_gen {lo hi:Option Int}{n:Nat}{Q:Int×Int×Nat->Shared->Prop} (hs:s.heap.IsSliceOf sl vl vu .none) (pl:IsPart vl lo) (pu:IsPart vu hi)
  (h:Q (((sIx n 0 lo:Nat):Int),1,sIx n n hi-sIx n 0 lo) s):wpAny (model prog w) A (Builtin.Slice.sliceApplied (.ref sl) (pure (n:Int))) Q E s:=by
 obtain⟨os,hos,hcs,hds⟩:=id hs;unfold Builtin.Slice.sliceApplied Builtin.Slice.sliceFields;refine wpAny_bind (wpAny_bind (wpAny_field hos hds (x:=vl) rfl (wpAny_bind (wpAny_field hos hds (x:=vu) rfl (wpAny_bind (wpAny_field hos hds (x:= .none) rfl (wpAny_pure ?_)))))));refine wpAny_bind (slicePart_none ?_);show wpAny _ _ (if ((1:Int)==0)=true then _ else _) _ _ s;rw [if_neg (by decide)];refine wpAny_bind (KO pl (wpAny_bind (KO pu (wpAny_bind (wpAny_pure ?_)))));show wpAny _ _ (match Builtin.Slice.sliceAdjust lo hi 1 (n:Int) with | (lo,hi)=>pure (lo,(1:Int),Builtin.Slice.slicePlaces lo hi 1)) _ _ s;rw [Ow lo hi n];show wpAny _ _ (pure (((sIx n 0 lo:Nat):Int),(1:Int),Builtin.Slice.slicePlaces ((sIx n 0 lo:Nat):Int) ((sIx n n hi:Nat):Int) 1)) _ _ s;rw [Ox];exact wpAny_pure h
theorem Oy (xs:Array Value) (i k:Nat):((List.range k).filterMap fun(m:Nat)=>xs[((i:Int)+(m:Int) * 1).toNat]?).toArray=((xs.toList.drop i).take k).toArray:=by
 have e:(fun(m:Nat)=>xs[((i:Int)+(m:Int) * 1).toNat]?)=λm=>xs[i+m]? :=by
  funext m
  have:((i:Int)+(m:Int) * 1).toNat=i+m:=by omega
  rw [this]
 rw [e];have:=pick_run xs i k;rw [List.filterMap_map] at this;have e2:((λx=>xs[x]?) ∘λx=>i+x)=λm=>xs[i+m]? :=rfl
 rw [e2] at this;rw [this]
theorem getItem_tuple_cut {t:Addr}{items:Array Value}{lo hi:Option Int}{Q:VSP} (ht:IsTup s.heap t items) (hs:s.heap.IsSliceOf sl vl vu .none) (pl:IsPart vl lo) (pu:IsPart vu hi)
  (hw:¬(sIx items.size 0 lo=0/\sIx items.size items.size hi=items.size))
  (h:Q (.ref s.heap.objs.size) { s with heap:=s.heap.push { cls:= .type "tuple",data:= .seq ((items.toList.drop (sIx items.size 0 lo)).take (sIx items.size items.size hi-sIx items.size 0 lo)).toArray}})
  (hsz:items.size<=sizeLine):wpAny (model prog w) A (getItem (.ref t) (.ref sl)) Q E s:=by
 have htake:sizeOk (.seq ((items.toList.drop (sIx items.size 0 lo)).take (sIx items.size items.size hi-sIx items.size 0 lo)).toArray):=by
  show((items.toList.drop (sIx items.size 0 lo)).take (sIx items.size items.size hi-sIx items.size 0 lo)).toArray.size<=sizeLine;rw [size_toArray,length_take,length_drop,Array.length_toList];omega
 have hj:sIx items.size items.size hi<=items.size:=Ov _ _ (Nat.le_refl _) hi;obtain⟨os,hos,hcs,hds⟩:=id hs;have hTs:s.TypeIs (.ref sl) "slice" :=⟨os,hos,hcs⟩;unfold getItem
 try with_reducible refine wpAny_holding ?_
 first | refine wpAny_bind (wpAny_pure ?_) | skip
 refine wpAny_bind (wpAny_sequenceKey ht.typeIs (by decide) ?_);refine wpAny_bind (wpAny_callSpecial?_slot (name:=Str.ofString "__getitem__") ht.typeIs PyProof.Rows.slot_tuple_getitem
  (wpAny_call_entry PyProof.Rows.slot_tuple_getitem ht.typeIs entry_tuple_getitem ?_ (args_tuple_getitem _ _)))
 show wpAny _ _ (Builtin.Tuple.tupleItemsOf (.ref t) >>=_) _ _ s;refine wpAny_bind (tupleItemsOf_ ht ?_);refine wpAny_bind (wpAny_typeOf hTs ?_);rw [if_pos (by decide)];refine wpAny_bind (sliceApplied_gen hs pl pu ?_);have hno:¬((((sIx items.size 0 lo:Nat):Int)==0 &&(1:Int)==1 &&(sIx items.size items.size hi-sIx items.size 0 lo)==items.size)=true):=by
  intro q;rw [Bool.and_eq_true,Bool.and_eq_true] at q;have q1:((sIx items.size 0 lo:Nat):Int)=0:=eq_of_beq q.1.1;have q2:sIx items.size items.size hi-sIx items.size 0 lo=items.size:=eq_of_beq q.2;exact hw ⟨by omega,by omega⟩
 show wpAny _ _ (if (((sIx items.size 0 lo:Nat):Int)==0 &&(1:Int)==1 &&(sIx items.size items.size hi-sIx items.size 0 lo)==items.size)=true then _ else _) _ _ s;rw [if_neg hno,Oy]
 first
  | exact wpAny_bind (m:=Builtin.Tuple.tupleExact _) (wpAny_newObj_type (wpAny_pure ⟨_,rfl,wpAny_pure h⟩) htake)
  | exact wpAny_bind (m:=Builtin.Tuple.tupleExact _) (wpAny_newObj_type (wpAny_bind (wpAny_pure (wpAny_pure ⟨_,rfl,wpAny_pure h⟩))) htake)
  | exact wpAny_bind (wpAny_bind (m:=Builtin.Tuple.tupleExact _) (wpAny_newObj_type (wpAny_pure (wpAny_pure ⟨_,rfl,wpAny_pure h⟩)) htake))
  | exact wpAny_bind (wpAny_bind (m:=Builtin.Tuple.tupleExact _) (wpAny_newObj_type (wpAny_pure ⟨_,rfl,wpAny_pure h⟩) htake))
end
end HT
namespace L2
abbrev TO:=St->Hp->(Option Int->Hp->Prop)->Prop
def PO (X:Cx) (e:Option Expr) (t:TO):Prop:=
 ∀(pins:PNs) (s:Shared) (σ:St) (H:Hp) (Q:Option Int->Hp->Prop),Ac X pins σ H s->t σ H Q->
  wpAny (model X.prog X.w) X.A (evalPart e X.env) (λu s'=>∃o H',Ac X pins σ H' s'/\IsPart u o/\Q o H') X.xe s
def Oz:TO:=λ_ H Q=>Q none H
def OA (t:TE):TO:=fun σ H Q=>t σ H λx H1=>∃i,x= .int i/\Q (some i) H1
section
variable {X : Cx} {e : Expr} {te : TE} {lo hi : Option Expr} {tl th : TO} {pos p2 : Pos}
theorem FF:PO X none Oz:=by
 intro pins s σ H Q I h;rw [evalPart_none];exact wpAny_pure ⟨none,H,I,.none,h⟩
theorem CW (h:PE X e te):PO X (some e) (OA te):=by
 intro pins s σ H Q I hw;rw [evalPart_some];refine Ap (h pins s σ H _ I hw) λu s1 ⟨x,H1,I1,r1,q1⟩=>?_
 obtain⟨i,rfl,q⟩:=q1;obtain⟨t,rfl⟩:=r1;exact⟨some i,H1,I1,.int i t,q⟩
def FG (X:Cx) (r:V->Option Int->Option Int->Hp->VK->Prop):Prop:=
 ∀(pins:PNs) (s:Shared) (σ:St) (H:Hp) (x:V) (v vl vu:Value) (lo hi:Option Int) (sl:Addr) (Q:VK),Ac X pins σ H s->RelV x v->s.heap.IsSliceOf sl vl vu .none->IsPart vl lo->IsPart vu hi->r x lo hi H Q->
  ∃T id,typeLookup (.type T) "__getitem__"=pure (some (.builtin id))/\s.TypeIs v T/\wpAny (model X.prog X.w) X.A (getItem v (.ref sl)) (EP X pins σ Q) X.xe s
def OB (r:V->Option Int->Option Int->Hp->VK->Prop) (te:TE) (tl th:TO):TE:=fun σ H Q=>te σ H λx H1=>tl σ H1 λl H2=>th σ H2 λu H3=>r x l u H3 Q
theorem DT {r:V->Option Int->Option Int->Hp->VK->Prop} (hr:FG X r) (he:PE X e te) (hl:PO X lo tl) (hu:PO X hi th):PE X (.Subscript e (.Slice lo hi none p2) pos) (OB r te tl th):=by
 intro pins s σ H Q I h;refine Subscript_ (Ap (he pins s σ H _ I h) λv s1 ⟨x,H1,I1,r1,q1⟩=>?_);refine wpAny_Slice (Ap (hl pins s1 σ H1 _ I1 q1) λvl s2 ⟨l,H2,I2,pl,q2⟩=>Ap (hu pins s2 σ H2 _ I2 q2) λvu s3 ⟨u,H3,I3,pu,q3⟩=>?_);rw [evalPart_none];refine wpAny_pure ?_;have I4:Ac X pins σ H3 { s3 with heap:=s3.heap.push { cls:= .type "slice",data:= .fields #[vl,vu,.none]}}:=I3.kept (t':=s3.toks) λb ob q=>Heap.get?_push_of_some _ q
 obtain⟨T,id,hT,ht,hg⟩:=hr pins { s3 with heap:=s3.heap.push { cls:= .type "slice",data:= .fields #[vl,vu,.none]}} σ H3 x v vl vu l u s3.heap.objs.size Q I4 r1 (Heap.IsSliceOf.new ..) pl pu q3;show wpAny (model X.prog X.w) X.A (subscriptTail e (.Slice lo hi none p2) v (.ref s3.heap.objs.size)) (EP X pins σ Q) X.xe { s3 with heap:=s3.heap.push { cls:= .type "slice",data:= .fields #[vl,vu,.none]}};exact tail_any (ops:=[.ref s3.heap.objs.size,v]) ht hT hg (by with_unfolding_all rfl)
def Bi (xs:List V) (lo hi:Option Int):List V:=(xs.drop (HT.sIx xs.length 0 lo)).take (HT.sIx xs.length xs.length hi-HT.sIx xs.length 0 lo)
theorem Gx (xs:List V) (lo hi:Option Int):(Bi xs lo hi).length<=xs.length:=by
 unfold Bi;rw [length_take,length_drop];omega
end
end L2
namespace L2
variable {n j : Nat} {i : Int} {α : Type} {xs : List α} {v u : Value} {pins : List (Addr × Obj)} {σ : St} {H : Hp} {s : Shared} {p : Addr} {y : V}
def CI (n:Nat) (i:Int):Option Nat:=if 0<=i then(if i<n then some i.toNat else none) else if -(n:Int)<=i then some (i+n).toNat else none
def BT {α:Type} (xs:List α) (i:Int):Option α:=(CI xs.length i).bind λj=>xs[j]?
theorem IP (h:CI n i=some j):seqIndex? i n=some j/\j<n/\ -(n:Int)<=i/\i<n:=by
 unfold CI at h
 by_cases h0:0<=i
 ·rw [if_pos h0] at h
  by_cases h1:i<n
  ·rw [if_pos h1] at h;have e:i.toNat=j:=Option.some.inj h;exact⟨by rw [seqIndex_of h0 h1,e],by omega,by omega,h1⟩
  ·rw [if_neg h1] at h;cases h
 ·rw [if_neg h0] at h
  by_cases h1: -(n:Int)<=i
  ·rw [if_pos h1] at h;have e:(i+n).toNat=j:=Option.some.inj h;exact⟨by rw [seqIndex_neg (by omega) h1,e],by omega,h1,by omega⟩
  ·rw [if_neg h1] at h;cases h
theorem IQ {v:α} (h:BT xs i=some v):∃j,seqIndex? i xs.length=some j/\xs[j]? =some v/\j<xs.length/\ -(xs.length:Int)<=i/\i<xs.length:=by
 unfold BT at h;cases e:CI xs.length i with
 | none=>rw [e] at h;cases h
 | some j=>
  rw [e] at h;obtain⟨h1,h2,h3,h4⟩:=IP e;exact⟨j,h1,h,h2,h3,h4⟩
theorem Cb {v:α} (h:xs[j]? =some v):BT xs (j:Int)=some v:=by
 have hj:j<xs.length:=(List.getElem?_eq_some_iff.mp h).1;have e:CI xs.length (j:Int)=some j:=by
  unfold CI;rw [if_pos (by omega),if_pos (by omega)];simp
 unfold BT;rw [e];exact h
theorem OC (xs:List α) (v:α):BT (xs++[v]) (-1)=some v:=by
 have hl:(xs++[v]).length=xs.length+1:=by simp
 have e:CI (xs++[v]).length (-1)=some xs.length:=by
  unfold CI;rw [hl,if_neg (by decide),if_pos (by omega)]
  congr 1
  omega
 unfold BT;rw [e];show(xs++[v])[xs.length]? =some v;simp
def OD (b:Expr):Prop:=∀o i,subscripted b false o i=operate [o,i] (getItem o i)
def EW (X:Cx) (r:R2):Prop:=
 ∀(value slice:Expr) (pins:PNs) (s:Shared) (σ:St) (H:Hp) (x y:V) (v u:Value) (Q:VK),Ac X pins σ H s->RelV x v->RelV y u->r x y H Q->
  subscripted slice false v u=operate [v,u] (getItem v u)->wpAny (model X.prog X.w) X.A (subscriptTail value slice v u) (EP X pins σ Q) X.xe s
def FH (X:Cx) (id:String) (r:V->List V->Hp->VK->Prop):Prop:=
 ∀(pins:PNs) (s:Shared) (σ:St) (H:Hp) (x:V) (xs:List V) (v:Value) (us:List Value) (Q:VK),Ac X pins σ H s->RelV x v->As xs us->r x xs H Q->
  wpAny (model X.prog X.w) X.A (call (.builtin id) (v::us)) (EP X pins σ Q) X.xe s
section
variable {X : Cx} {a b : Expr} {ta tb : TE} {pos : Pos}
theorem AK {r:R2} (hr:EW X r) (ha:PE X a ta) (hb:PE X b tb) (hs:OD b):PE X (.Subscript a b pos) (Gs r ta tb):=by
 intro pins s σ H Q I h;exact Subscript_ (IG ha hb I h λv u s2 x y H2 I2 rx ry q=>hr a b pins s2 σ H2 x y v u Q I2 rx ry q (hs _ _))
def KP (K:Fgx):R2:=λx y H Q=>∃p xs i v,x= .ref p/\y= .int i/\Ai K H p xs/\BT xs i=some v/\Q v H
def KQ (K:Fgx):R2:=λx y H Q=>∃p xs i v,x= .ref p/\y= .int i/\Ag K H p xs/\BT xs i=some v/\Q v H
def OE:R2:=λx y H Q=>∃z i c,x= .str z/\y= .int i/\z.length<=sizeLine/\BT z.cps.toList i=some c/\Q (.str ⟨#[c]⟩) H
theorem OF:EW X (KP X.K):=by
 intro value slice pins s σ H x y v u Q I rx ry h hs;obtain⟨p,xs,i,z,rfl,rfl,hq,he,q⟩:=h;cases rx;obtain⟨t,rfl⟩:=ry;obtain⟨its,r,pl,hz⟩:=I.list hq;obtain⟨j,h1,h2,h3,h4,h5⟩:=IQ he;obtain⟨w,ew,rw'⟩:=r.get h2;have hl:=r.length;have hn:=ET;have fin:EP X pins σ Q w s:=⟨z,H,I,rw',q⟩
 by_cases h0:0<=i
 ·have hj:i.toNat=j:=by
   rw [seqIndex_of h0 h5] at h1;exact Option.some.inj h1
  exact item_listR pl.isList h0 (by omega) (by rw [hj];simpa using ew) fin hs
 ·have hj:(i+(its.toArray.size:Int)).toNat=j:=by
   rw [seqIndex_neg (by omega) h4] at h1;rw [size_toArray,<-hl];exact Option.some.inj h1
  exact subscriptTail_builtinR (x:=w) pl.isList.typeIs slot_list_getitem.lookup
   (wpAny_getItem_list_neg (Q:=λr s'=>r=w/\EP X pins σ Q r s') pl.isList (by omega) (by rw [size_toArray]<;>omega) (by omega) (by rw [hj];simpa using ew) ⟨rfl,fin⟩) hs
theorem OG:EW X (KQ X.K):=by
 intro value slice pins s σ H x y v u Q I rx ry h hs;obtain⟨p,xs,i,z,rfl,rfl,hq,he,q⟩:=h;cases rx;obtain⟨t,rfl⟩:=ry;obtain⟨its,r,pl,hz⟩:=I.tuple hq;obtain⟨j,h1,h2,h3,h4,h5⟩:=IQ he;obtain⟨w,ew,rw'⟩:=r.get h2;have hl:=r.length;have hn:=ET;have fin:EP X pins σ Q w s:=⟨z,H,I,rw',q⟩;exact subscriptTail_builtinR (x:=w) pl.typeIs slot_tuple_getitem.lookup
  (getItem_tuple (j:=j) (Q:=λr s'=>r=w/\EP X pins σ Q r s') pl (by omega) (by omega) (by rw [size_toArray,<-hl];exact h1) (by simpa using ew) ⟨rfl,fin⟩) hs
theorem OH:EW X OE:=by
 intro value slice pins s σ H x y v u Q I rx ry h hs;obtain⟨z,i,c,rfl,rfl,hz,he,q⟩:=h;obtain⟨t,rfl⟩:=rx;obtain⟨t',rfl⟩:=ry;obtain⟨j,h1,h2,h3,h4,h5⟩:=IQ he;have hl:z.cps.toList.length=z.length:=by simp [Str.length]
 rw [hl] at h1 h4 h5;have hn:=ET;exact tail_any (typeIs_str s z t) slot_str_getitem.lookup (getItem_str (c:=c) (by
  have e1:decide (i< -(2 ^ 63:Int))=false:=decide_eq_false (by omega);have e2:decide (i≥2 ^ 63)=false:=decide_eq_false (by omega);rw [e1,e2,Bool.or_false]) (by rw [h1];simpa using h2) ⟨.str ⟨#[c]⟩,H,I.tok _,⟨_,rfl⟩,q⟩) hs
theorem OI (its:List Value) (n j:Nat) (u:Value):Obj.mapSeq (·.setIfInBounds j u) { cls:= .type "list",data:= .seq its.toArray n}= { cls:= .type "list",data:= .seq (its.set j u).toArray n}:=by
 simp [Obj.mapSeq]
theorem Ac.lst {xs:List V} (I:Ac X pins σ H s) (h:H p=some (.lst xs)):
  ∃(its:List Value) (n:Nat),As xs its/\s.heap.get? p=some { cls:= .type "list",data:= .seq its.toArray n}/\xs.length<=sizeLine:=by
 obtain⟨z,its,n,r,e⟩:=I.hok p _ h;exact⟨its,n,r,e,z⟩
theorem Ac.lstUpd {xs ys:List V}{its its':List Value}{n':Nat}{f:Obj->Obj} (I:Ac X pins σ H s) (h:H p=some (.lst xs))
  (ho:s.heap.get? p=some { cls:= .type "list",data:= .seq its.toArray n}) (hf:f { cls:= .type "list",data:= .seq its.toArray n}= { cls:= .type "list",data:= .seq its'.toArray n'}) (r:As ys its') (hz:ys.length<=sizeLine) (t:Nat):
  Ac X pins σ (upd H p (.lst ys)) { s with heap:=s.heap.update p f,toks:=t}:=by
 have e:(s.heap.update p f).get? p=some { cls:= .type "list",data:= .seq its'.toArray n'}:=by
  rw [Heap.get?_update_self f ho (by rw [hf]<;>rfl),hf]
 refine I.write (x:=p) (e:=p) (by rw [h];trivial) (.inl rfl) (λb u hb q=>(Heap.get?_update_other _ _ (Ne.symm hb)).trans q) ⟨_,e⟩ ?_;exact⟨hz,its',n',r,e⟩
def OJ:V->V->V->Hp->(Hp->Prop)->Prop:=λo i v H Q=>∃p xs k j,o= .ref p/\i= .int k/\H p=some (.lst xs)/\CI xs.length k=some j/\Q (upd H p (.lst (xs.set j v)))
theorem IR:Ke X OJ:=by
 intro pins s σ H o i v ov iv u Q I ro ri rv h;obtain⟨p,xs,k,j,rfl,rfl,hp,hj,q⟩:=h;cases ro;obtain⟨t,rfl⟩:=ri;obtain⟨its,n,r,ho,hz⟩:=I.lst hp;obtain⟨h1,h2,h3,h4⟩:=IP hj;have hl:=r.length;have hn:=ET;have I':Ac X pins σ (upd H p (.lst (xs.set j v))) { s with heap:=s.heap.update p (Obj.mapSeq (·.setIfInBounds j u))}:=
  I.lstUpd hp ho (OI its n j u) (r.set rv j) (by rw [length_set];exact hz) s.toks
 by_cases h0:0<=k
 ·have hk:k.toNat=j:=by
   rw [seqIndex_of h0 h4] at h1;exact Option.some.inj h1
  exact PySem.W.ki_setAt ho h0 (by omega) (by rw [size_toArray,<-hl];exact h4) (by rw [hk];exact⟨_,I',q⟩)
 ·have hk:(k+(its.toArray.size:Int)).toNat=j:=by
   rw [seqIndex_neg (by omega) h3] at h1;rw [size_toArray,<-hl];exact Option.some.inj h1
  exact PySem.W.ki_setBack ho (by omega) (by rw [size_toArray,<-hl];exact h3) (by omega) (by rw [hk];exact⟨_,I',q⟩)
theorem OK (lo hi:Option Int) (n:Nat):(sliceBounds lo hi none n).1=((HT.sIx n 0 lo:Nat):Int)/\(sliceBounds lo hi none n).2.1=((HT.sIx n n hi:Nat):Int)/\(sliceBounds lo hi none n).2.2=1:=by
 refine⟨?_,?_,rfl⟩
 ·cases lo with
  | none=>simp [sliceBounds,HT.sIx]
  | some i=>
   simp only [sliceBounds,HT.sIx,Option.getD_none,show(1:Int) >0 by decide,if_true]
   by_cases h:i<0
   ·simp only [h,if_true]<;>omega
   ·simp only [h,if_false]<;>omega
 ·cases hi with
  | none=>simp [sliceBounds,HT.sIx]
  | some i=>
   simp only [sliceBounds,HT.sIx,Option.getD_none,show(1:Int) >0 by decide,if_true]
   by_cases h:i<0
   ·simp only [h,if_true]<;>omega
   ·simp only [h,if_false]<;>omega
theorem OL (its:List Value) (lo hi:Option Int):slicePick its.toArray lo hi none=((its.drop (HT.sIx its.length 0 lo)).take (HT.sIx its.length its.length hi-HT.sIx its.length 0 lo)).toArray:=by
 obtain⟨h1,h2,h3⟩:=OK lo hi its.toArray.size;unfold slicePick;rw [h1,h2,h3];simp only [sliceRange_one,pick_run,size_toArray]<;>rfl
def KR (K:Fgx):V->Option Int->Option Int->Hp->VK->Prop:=λx lo hi H Q=>∃a xs,x= .ref a/\Ai K H a xs/\∀p,H p=none->Q (.ref p) (upd H p (.lst (Bi xs lo hi)))
theorem OM:FG X (KR X.K):=by
 intro pins s σ H x v vl vu lo hi sl Q I rx hs pl pu h;obtain⟨a,xs,rfl,hx,q⟩:=h;cases rx;obtain⟨its,r,ht,hz⟩:=I.list hx;have hlen:=r.length;refine⟨"list",_,slot_list_getitem.lookup,ht.isList.typeIs,?_⟩;refine wpAny_getItem_list_slice ht.isList hs pl pu .none (by simp) ?_ (by rw [size_toArray]<;>omega);rw [OL,<-hlen];refine⟨.ref s.heap.objs.size,_,I.laid (t':=s.toks) (o:= .lst (Bi xs lo hi)) (λb ob q=>Heap.get?_push_of_some _ q) (Nat.le_refl _) ?_,rfl,q _ (I.hok.fresh (Nat.le_refl _))⟩;exact⟨Nat.le_trans (Gx xs lo hi) hz,_,0,(r.drop (HT.sIx xs.length 0 lo)).take (HT.sIx xs.length xs.length hi-HT.sIx xs.length 0 lo),Heap.get?_push_size _ rfl⟩
def De:V->Bool
 | .non=>true
 | .bl _=>true
 | .int _=>true
 | .str _=>true
 | _=>false
def DU:V->V->Bool
 | .non,.non=>true
 | .bl a,.bl b=>a==b
 | .bl a,.int b=>(if a then 1 else 0)==b
 | .int a,.bl b=>a==(if b then 1 else 0)
 | .int a,.int b=>a==b
 | .str a,.str b=>a==b
 | _,_=>false
theorem ON {A:Around}{x:V} (ry:RelV y u) (rx:RelV x v) (fy:De y=true) (fx:De x=true):SeqAt.EqAt A s u v (DU y x):=by
 cases y with
 | non=>
  cases ry;cases x with
  | non=>cases rx;exact SeqAt.EqAt.same _
  | bl b=>cases rx;exact SeqAt.EqAt.none_bool b
  | int b=>obtain⟨t,rfl⟩:=rx;exact SeqAt.EqAt.none_int b t
  | str b=>obtain⟨t,rfl⟩:=rx;exact SeqAt.EqAt.none_str b t
  | _=>exact absurd (show false=true from fx) Bool.false_ne_true
 | bl a=>
  cases ry;cases x with
  | non=>cases rx;exact SeqAt.EqAt.bool_none a
  | bl b=>cases rx;exact SeqAt.EqAt.bool_bool a b
  | int b=>obtain⟨t,rfl⟩:=rx;exact SeqAt.EqAt.bool_int a b t
  | str b=>obtain⟨t,rfl⟩:=rx;exact SeqAt.EqAt.bool_str a b t
  | _=>exact absurd (show false=true from fx) Bool.false_ne_true
 | int a=>
  obtain⟨t',rfl⟩:=ry;cases x with
  | non=>cases rx;exact SeqAt.EqAt.int_none a t'
  | bl b=>cases rx;exact SeqAt.EqAt.int_bool a t' b
  | int b=>obtain⟨t,rfl⟩:=rx;exact SeqAt.EqAt.int_int a t' b t
  | str b=>obtain⟨t,rfl⟩:=rx;exact SeqAt.EqAt.int_str a t' b t
  | _=>exact absurd (show false=true from fx) Bool.false_ne_true
 | str a=>
  obtain⟨t',rfl⟩:=ry;cases x with
  | non=>cases rx;exact SeqAt.EqAt.str_none a t'
  | bl b=>cases rx;exact SeqAt.EqAt.str_bool a t' b
  | int b=>obtain⟨t,rfl⟩:=rx;exact SeqAt.EqAt.str_int a t' b t
  | str b=>obtain⟨t,rfl⟩:=rx;exact SeqAt.EqAt.str_str a t' b t
  | _=>exact absurd (show false=true from fx) Bool.false_ne_true
 | _=>exact absurd (show false=true from fy) Bool.false_ne_true
def Cc (x:V) (u:Value):Bool:=match u with
 | .none=>DU .non x
 | .bool b=>DU (.bl b) x
 | .int i _=>DU (.int i) x
 | .str z _=>DU (.str z) x
 | _=>false
theorem KS {x:V} (r:RelV y u) (f:De y=true):Cc x u=DU y x:=by
 cases y with
 | non=>cases r;rfl
 | bl b=>cases r;rfl
 | int i=>obtain⟨t,rfl⟩:=r;rfl
 | str z=>obtain⟨t,rfl⟩:=r;rfl
 | _=>exact absurd (show false=true from f) Bool.false_ne_true
theorem FI {x:V}:∀ {xs:List V}{us:List Value},As xs us->xs.all De=true->us.any (Cc x)=xs.any λy=>DU y x
 | _,_,.nil,_=>rfl
 | y::xs,u::us,.cons r t,f=>by
  rw [all_cons,Bool.and_eq_true] at f;rw [any_cons,any_cons,KS r f.1,FI t f.2]
theorem FJ {A:Around}{x:V} (rx:RelV x v) (fx:De x=true):∀ {xs:List V}{us:List Value},As xs us->xs.all De=true->∀u∈us,SeqAt.EqAt A s u v (Cc x u)
 | _,_,.nil,_=>λu hu=>by cases hu
 | y::xs,u::us,.cons r t,f=>λu' hu=>by
  rw [all_cons,Bool.and_eq_true] at f;rcases mem_cons.mp hu with rfl | hu
  ·rw [KS r f.1];exact ON r rx f.1 fx
  ·exact FJ rx fx t f.2 u' hu
def B5 (x:V) (xs:List V):Bool:=xs.any λy=>DU y x
def Gy (K:Fgx) (neg:Bool):R2:=λx y H Q=>∃p xs,y= .ref p/\(Ai K H p xs\/Ag K H p xs)/\De x=true/\xs.all De=true/\Q (.bl (if neg then !B5 x xs else B5 x xs)) H
theorem OO:OpR X (compareOp .In) (Gy X.K false):=by
 intro pins s σ H x y v u Q I rx ry h;obtain⟨p,xs,rfl,hq,fx,fs,q⟩:=h;cases ry;rcases hq with hq | hq
 ·obtain⟨its,r,pl,hz⟩:=I.list hq;refine SeqAt.in_listAt (Cc x) pl.isList (λw hw=>FJ rx fx r fs w (by simpa using hw)) ⟨.bl _,H,I,rfl,?_⟩;rw [show its.toArray.any (Cc x)=its.any (Cc x) by simp,FI r fs];exact q
 ·obtain⟨its,r,pl,hz⟩:=I.tuple hq;refine SeqAt.in_tupleAt (Cc x) pl (λw hw=>FJ rx fx r fs w (by simpa using hw)) ⟨.bl _,H,I,rfl,?_⟩;rw [show its.toArray.any (Cc x)=its.any (Cc x) by simp,FI r fs];exact q
theorem OP:OpR X (compareOp .NotIn) (Gy X.K true):=by
 intro pins s σ H x y v u Q I rx ry h;obtain⟨p,xs,rfl,hq,fx,fs,q⟩:=h;cases ry;rcases hq with hq | hq
 ·obtain⟨its,r,pl,hz⟩:=I.list hq;refine SeqAt.notIn_listAt (Cc x) pl.isList (λw hw=>FJ rx fx r fs w (by simpa using hw)) ⟨.bl _,H,I,rfl,?_⟩;rw [show its.toArray.any (Cc x)=its.any (Cc x) by simp,FI r fs];exact q
 ·obtain⟨its,r,pl,hz⟩:=I.tuple hq;refine SeqAt.notIn_tupleAt (Cc x) pl (λw hw=>FJ rx fx r fs w (by simpa using hw)) ⟨.bl _,H,I,rfl,?_⟩;rw [show its.toArray.any (Cc x)=its.any (Cc x) by simp,FI r fs];exact q
theorem OQ:BR X (.builtin "len") (λxs H Q=>∃p ys,xs=[.ref p]/\(Ai X.K H p ys\/Ag X.K H p ys)/\Q (.int ys.length) H):=by
 intro pins s σ H xs us Q I r h;obtain⟨p,ys,rfl,hq,q⟩:=h;obtain⟨u,rfl,rx⟩:=En r;cases rx;have hn:=ET;rcases hq with hq | hq
 ·obtain⟨its,r',pl,hz⟩:=I.list hq;have hlen:=r'.length;exact Calls.call_len_list pl.isList (by simp only [size_toArray]<;>omega) ⟨.int ys.length,H,I.tok _,⟨s.toks+1,by rw [size_toArray,hlen]⟩,q⟩
 ·obtain⟨its,r',pl,hz⟩:=I.tuple hq;have hlen:=r'.length;exact len_tuple pl (by simp only [size_toArray]<;>omega) ⟨.int ys.length,H,I.tok _,⟨s.toks+1,by rw [size_toArray,hlen]⟩,q⟩
theorem KU:BR X (.builtin "len") (λxs H Q=>∃z,xs=[.str z]/\z.length<=sizeLine/\Q (.int z.length) H):=by
 intro pins s σ H xs us Q I r h;obtain⟨z,rfl,hz,q⟩:=h;obtain⟨u,rfl,t,rfl⟩:=En r;have hn:=ET;exact len_str (by omega) ⟨.int z.length,H,I.tok _,⟨_,rfl⟩,q⟩
theorem OR:BR X (.type "tuple") (λxs H Q=>∃p ys,xs=[.ref p]/\((Ai X.K H p ys/\∀l,H l=none->Q (.ref l) (upd H l (.tup ys)))\/(Ag X.K H p ys/\Q (.ref p) H))):=by
 intro pins s σ H xs us Q I r h;obtain⟨p,ys,rfl,h⟩:=h;obtain⟨u,rfl,rx⟩:=En r;cases rx;rcases h with⟨hq,q⟩ | ⟨hq,q⟩
 ·obtain⟨its,r',pl,hz⟩:=I.list hq;have hlen:=r'.length;refine call_tuple_list pl.isList (λh' kp=>?_) (by simp only [size_toArray]<;>omega);have I1:Ac X pins σ H { s with heap:=h'}:=I.kept (t':=s.toks) kp;have I2:Ac X pins σ (upd H h'.objs.size (.tup ys)) { s with heap:=h'.push { cls:= .type "tuple",data:= .seq its.toArray}}:=
   I1.laid (t':=s.toks) (λb o e=>Heap.get?_push_of_some _ e) (Nat.le_refl _) (show ObjOk X.prog X.w _ _ _ (.tup ys) from⟨hz,its,r',IsTup.new _ _⟩)
  exact⟨.ref h'.objs.size,_,I2,rfl,q _ (I1.hok.fresh (Nat.le_refl _))⟩
 ·obtain⟨its,r',pl,hz⟩:=I.tuple hq;exact call_tuple_same pl ⟨.ref p,H,I,rfl,q⟩
def IS (K:Fgx) (T:String) (x:V) (H:Hp):Prop:=match x with
 | .str _=>T="str"
 | .int _=>T="int"
 | .ref p => (T = "list" /\ ∃ xs, Ai K H p xs) \/ (T = "tuple" /\ ∃ o, K.lookup p = some o /\ o.cls = .type "tuple" /\ o.dict = none) \/
   (T="dict" /\((∃kvs,H p=some (.dK kvs))\/ ∃kvs,H p=some (.dT kvs)))\/(T="set" /\∃S n,H p=some (.set S n))
 | _=>False
theorem KW {T:String}{x:V} (I:Ac X pins σ H s) (r:RelV x v) (ty:IS X.K T x H):
  s.TypeIs v T/\∀a,v= .ref a->∃ob,s.heap.get? a=some ob/\ob.dict=none:=by
 cases x with
 | str z=>
  obtain⟨t,rfl⟩:=r;cases(show T="str" from ty);exact⟨typeIs_str s z t,λ_ e=>nomatch e⟩
 | int i=>
  obtain⟨t,rfl⟩:=r;cases(show T="int" from ty);exact⟨typeIs_int s i t,λ_ e=>nomatch e⟩
 | ref p=>
  cases r;rcases ty with⟨rfl,xs,hq⟩ | ⟨rfl,o,hk,hc,hd⟩ | ⟨rfl,hk⟩ | ⟨rfl,S,n,hk⟩
  ·obtain⟨its,_,pl,_⟩:=I.list hq;refine⟨pl.isList.typeIs,λa e=>?_⟩;cases e;obtain⟨o,n,e,c,hd,_⟩:=pl;exact⟨o,e,hd⟩
  ·refine⟨⟨o,I.kIn p o hk,hc⟩,λa e=>?_⟩;cases e;exact⟨o,I.kIn _ o hk,hd⟩
  ·have z:∃o,s.heap.get? p=some o/\o.ExactDict:=by
    rcases hk with⟨kvs,hk⟩ | ⟨kvs,hk⟩
    ·obtain⟨_,_,_,_,o,_,_,e,ex,_⟩:=I.hok p _ hk;exact⟨o,e,ex⟩
    ·obtain⟨_,_,_,_,o,_,_,e,ex,_⟩:=I.hok p _ hk;exact⟨o,e,ex⟩
   obtain⟨o,e,ex⟩:=z;refine⟨⟨o,e,ex.1⟩,λa e2=>?_⟩;cases e2;exact⟨o,e,ex.2.1⟩
  ·obtain⟨o,_,_,_,e,ex,_⟩:=I.hok p _ hk;refine⟨⟨o,e,ex.1⟩,λa e2=>?_⟩;cases e2;exact⟨o,e,ex.2.1⟩
 | _=>exact False.elim ty
def OS (K:Fgx) (T:String) (r:V->List V->Hp->VK->Prop) (to:TE):TE:=fun σ H Q=>to σ H λx H1=>IS K T x H1/\r x [] H1 Q
def KY (K:Fgx) (T:String) (r:V->List V->Hp->VK->Prop) (to:TE) (t:TA):TE:=fun σ H Q=>to σ H λx H1=>IS K T x H1/\t σ H1 λxs H2=>r x xs H2 Q
variable {o e : Expr} {es : List Expr} {to : TE} {t : TA} {name : Str} {apos cpos : Pos} {T id : String} {r : V -> List V -> Hp -> VK -> Prop}
theorem OT (pa:PlainAttrs T) (slot:Slot T name id) (hty:typeOf (.builtin id)=pure (.type "method_descriptor")) (hm:FH X id r) (ho:PE X o to)
  (hbase:attributeBase o name X.env (eval o X.env)=eval o X.env:=by rfl) (hline:(apos.endLine==cpos.line)=true:=by rfl):PE X (.Call (.Attribute o name apos) [] [] cpos) (OS X.K T r to):=by
 intro pins s σ H Q I h;refine wpAny_Call_method0_late hbase hline (Ap (ho pins s σ H _ I h) λv s1 ⟨x,H1,I1,r1,ty,q1⟩=>?_);obtain⟨h1,h2⟩:=KW I1 r1 ty;exact⟨T,id,pa,slot,hty,h1,h2,Calls.callWith_builtin rfl (PySem.evalArgs_none (hm pins s1 σ H1 x [] v [] Q I1 r1 .nil q1))⟩
theorem Cn (pa:PlainAttrs T) (slot:Slot T name id) (hty:typeOf (.builtin id)=pure (.type "method_descriptor")) (hm:FH X id r) (ho:PE X o to) (ha:PA X (e::es) t)
  (hbase:attributeBase o name X.env (eval o X.env)=eval o X.env:=by rfl)
  (hfew : ((backTo cpos (starEach (e :: es) X.env)).all (λx => !x.1) && (backToKw cpos (keywordEach [] X.env)).all (λx => x.1.isSome)
   && decide ((e::es).length+([]:List Keyword).length+(if ([]:List Keyword).isEmpty then 0 else 1)<30))=true:=by rfl)
  (hline:(apos.endLine==cpos.line)=true:=by rfl) (hs:starEach (e::es) X.env=(false,eval e X.env)::starEach es X.env:=by rfl) (hplain:(backTo cpos (starEach es X.env)).any (·.1)=false:=by rfl):
  PE X (.Call (.Attribute o name apos) (e::es) [] cpos) (KY X.K T r to t):=by
 intro pins s σ H Q I h;refine wpAny_Call_method_late hbase hfew hline rfl (Ap (ho pins s σ H _ I h) λv s1 ⟨x,H1,I1,r1,ty,q1⟩=>?_);obtain⟨h1,h2⟩:=KW I1 r1 ty;refine⟨T,id,pa,slot,hty,h1,h2,?_⟩;have hA:=ha cpos pins s1 σ H1 _ I1 q1;rw [hs] at hA ⊢;refine Calls.callWith_builtin (by show(false || (backTo cpos (starEach es X.env)).any (·.1))=false;rw [hplain]<;>rfl) (Calls.evalArgs_plain ?_);exact Ap hA λus s2 ⟨vs,H2,I2,r2,q2⟩=>hm pins s2 σ H2 x vs v us Q I2 r1 r2 q2
end
end L2
namespace L2
variable {α : Type} {its : List Value} {n t' : Nat}
def Eo (X:Cx) (id:String) (r:V->List V->Hp->VK->Prop):Prop:=
 ∀(pins:PNs) (s:Shared) (σ:St) (H:Hp) (x:V) (xs:List V) (v:Value) (us:List Value) (Q:VK),Ac X pins σ H s->RelV x v->As xs us->r x xs H Q->
  wpAny (model X.prog X.w) X.A (call (.builtin id) (v::us)) (EP X pins σ Q) X.xe s
theorem As.one:∀ {x:V}{us:List Value},As [x] us->∃u,us=[u]/\RelV x u
 | _,_,.cons r .nil=>⟨_,rfl,r⟩
theorem As.two:∀ {x y:V}{us:List Value},As [x,y] us->∃u v,us=[u,v]/\RelV x u/\RelV y v
 | _,_,_,.cons r (.cons q .nil)=>⟨_,_,rfl,r,q⟩
theorem As.dropLast {xs:List V}{us:List Value} (h:As xs us):As xs.dropLast us.dropLast:=by
 induction h with
 | nil=>exact .nil
 | cons r t ih=>
  cases t with
  | nil=>exact .nil
  | cons q t'=>exact .cons r ih
theorem As.zero:∀ {us:List Value},As [] us->us=[]
 | _,.nil=>rfl
theorem As.eraseIdx:∀ {xs:List V}{us:List Value} (i:Nat),As xs us->As (xs.eraseIdx i) (us.eraseIdx i)
 | _,_,_,.nil=> .nil
 | _,_,0,.cons _ t=>t
 | _,_,i+1,.cons r t=> .cons r (As.eraseIdx i t)
theorem OU (l:List α):l.eraseIdx (l.length-1)=l.dropLast:=by
 induction l with
 | nil=>rfl
 | cons a r ih=>
  cases r with
  | nil=>rfl
  | cons b r=>
   have e:(a::b::r).length-1=((b::r).length-1)+1:=by
    have h1:(a::b::r).length=r.length+2:=rfl;have h2:(b::r).length=r.length+1:=rfl;omega
   rw [e,List.eraseIdx_cons_succ,ih]
   all_goals rfl
theorem KZ:∀(l:List α) (i:Nat),(l.eraseIdx i).length<=l.length
 | [],_=>Nat.le_refl _
 | _::_,0=>Nat.le_succ _
 | _::r,i+1=>Nat.succ_le_succ (KZ r i)
section
variable {X : Cx} {pins : List (Addr × Obj)} {σ : St} {H : Hp} {s : Shared} {l b : Addr} {xs ys zs : List V}
theorem Ac.lset {its':List Value}{f:Array Value->Array Value} (I:Ac X pins σ H s) (hH:H l=some (.lst xs))
  (e:s.heap.get? l=some { cls:= .type "list",data:= .seq its.toArray n}) (hf:f its.toArray=its'.toArray) (hv:As ys its') (hz:ys.length<=sizeLine):
  Ac X pins σ (upd H l (.lst ys)) { s with heap:=s.heap.update l (Obj.mapSeq f),toks:=t'}:=by
 have q:=PySem.IsL.update e f;rw [hf] at q;refine I.write (x:=l) (e:=l) (by rw [hH];exact trivial) (.inl rfl) (λb' u hb hu=>(Heap.get?_update_other s.heap (Obj.mapSeq f) (Ne.symm hb)).trans hu) ⟨_,q⟩ ?_;exact⟨hz,its',_,hv,q⟩
theorem Ac.lnew (I:Ac X pins σ H s) (hv:As ys its) (hz:ys.length<=sizeLine):
  Ac X pins σ (upd H s.heap.objs.size (.lst ys)) { s with heap:=s.heap.push { cls:= .type "list",data:= .seq its.toArray},toks:=t'}:=
 I.laid (λ_ _ q=>Heap.get?_push_of_some _ q) (Nat.le_refl _) ⟨hz,its,0,hv,Heap.get?_push_size _ rfl⟩
theorem Ac.fresh (I:Ac X pins σ H s):H s.heap.objs.size=none:=I.hok.fresh (Nat.le_refl _)
theorem Ac.lstM (I:Ac X pins σ H s) (hH:H l=some (.lst xs)):xs.length<=sizeLine/\∃(its:List Value) (n:Nat),As xs its/\xs.length=its.length/\s.heap.get? l=some { cls:= .type "list",data:= .seq its.toArray n}:=by
 obtain⟨z,its,n,r,e⟩:=I.hok l _ hH;exact⟨z,its,n,r,r.length,e⟩
theorem notLongL (h:n<=sizeLine):Builtin.List.listTooLong n=false:=by
 unfold Builtin.List.listTooLong;exact decide_eq_false (by omega)
end
section
variable {X : Cx}
def OV:V->List V->Hp->VK->Prop:=λx vs H Q=>∃l xs y,x= .ref l/\vs=[y]/\H l=some (.lst xs)/\xs.length<sizeLine/\Q .non (upd H l (.lst (xs++[y])))
theorem CY:Eo X "list.append" OV:=by
 intro pins s σ H x vs v us Q I rx rv h;obtain⟨l,xs,y,rfl,rfl,hH,hz,q⟩:=h;cases rx;obtain⟨u,rfl,ru⟩:=rv.one;obtain⟨z,its,n,r,hl,e⟩:=I.lstM hH;refine call_meets F.slot_list_append ⟨_,e,rfl⟩ F.entry_list_append (F.args_list_append_2 _ _) (PySem.list_append l its.toArray n u (by rw [size_toArray];omega)) ⟨e,?_⟩;refine⟨.non,_,I.lset (its':=its++[u]) hH e (by simp) (r.append (.cons ru .nil)) ?_,rfl,q⟩;rw [length_append,length_singleton];omega
def OW:V->List V->Hp->VK->Prop:=λx vs H Q=>∃l xs y,x= .ref l/\vs=[]/\H l=some (.lst xs)/\xs[xs.length-1]? =some y/\Q y (upd H l (.lst xs.dropLast))
theorem OX:Eo X "list.pop" OW:=by
 intro pins s σ H x vs v us Q I rx rv h;obtain⟨l,xs,y,rfl,rfl,hH,hy,q⟩:=h;cases rx;have hus:=rv.zero;subst hus;obtain⟨z,its,n,r,hl,e⟩:=I.lstM hH;obtain⟨u,hu,ru⟩:=r.get hy;have hy':its.toArray[its.toArray.size-1]? =some u:=by
  show its.toArray[its.length-1]? =some u;rw [<-Array.getElem?_toList,<-hl];exact hu
 refine call_meets F.slot_list_pop ⟨_,e,rfl⟩ F.entry_list_pop (F.args_list_pop_1 _) (MeetsSeq.list_pop_last l its.toArray n u hy' (by rw [size_toArray];omega)) ⟨e,?_⟩;refine⟨y,_,I.lset (its':=its.dropLast) hH e ?_ r.dropLast ?_,ru,q⟩
 ·show its.toArray.eraseIdxIfInBounds (its.toArray.size-1)=its.dropLast.toArray;rw [size_toArray,List.eraseIdxIfInBounds_toArray,OU]
 ·rw [List.length_dropLast];omega
def OY:V->List V->Hp->VK->Prop:=λx vs H Q=>∃l xs i k y,x= .ref l/\vs=[.int i]/\H l=some (.lst xs)/\ -(2 ^ 63)<=i/\i<2 ^ 63/\seqIndex? i xs.length=some k/\xs[k]? =some y/\Q y (upd H l (.lst (xs.eraseIdx k)))
theorem OZ:Eo X "list.pop" OY:=by
 intro pins s σ H x vs v us Q I rx rv h;obtain⟨l,xs,i,k,y,rfl,rfl,hH,h1,h2,hk,hy,q⟩:=h;cases rx;obtain⟨u,rfl,ru⟩:=rv.one;obtain⟨t,rfl⟩:=ru;obtain⟨z,its,n,r,hl,e⟩:=I.lstM hH;obtain⟨w,hw,rw'⟩:=r.get hy;refine call_meets F.slot_list_pop ⟨_,e,rfl⟩ F.entry_list_pop (F.args_list_pop_2 _ _)
  (MeetsSeq.list_pop_at l its.toArray n i t k w (fitsIndex_both h1 h2) (by rw [size_toArray,<-hl];exact hk) (by rw [<-Array.getElem?_toList];exact hw) (by rw [size_toArray];omega)) ⟨e,?_⟩
 refine⟨y,_,I.lset (its':=its.eraseIdx k) hH e ?_ (r.eraseIdx k) ?_,rw',q⟩
 ·show its.toArray.eraseIdxIfInBounds k=(its.eraseIdx k).toArray;rw [List.eraseIdxIfInBounds_toArray]
 ·have:=KZ xs k;omega
def O1:R2:=λx y H Q=>∃l b xs zs,x= .ref l/\y= .ref b/\H l=some (.lst xs)/\H b=some (.lst zs)/\xs.length+zs.length<=sizeLine/\∀p,H p=none->Q (.ref p) (upd H p (.lst (xs++zs)))
theorem EX:OpR X (binaryOp .Add) O1:=by
 intro pins s σ H x y v u Q I rx ry h;obtain⟨l,b,xs,zs,rfl,rfl,hH,hB,hz,q⟩:=h;cases rx;cases ry;obtain⟨z,its,n,r,hl,e⟩:=I.lstM hH;obtain⟨z2,its2,n2,r2,hl2,e2⟩:=I.lstM hB;refine PySem.P.add_list e e2 ?_ (by rw [size_toArray,size_toArray];omega);have ea:its.toArray++its2.toArray=(its++its2).toArray:=by simp
 rw [ea];exact⟨.ref _,_,I.lnew (t':=s.toks) (r.append r2) (by rw [length_append];omega),rfl,q _ I.fresh⟩
end
section
variable {prog : Program} {w : World} {A : Around} {E : Value -> Shared -> Prop} {s : Shared}
end
section
variable {X : Cx}
end
end L2
namespace Att
open PySem PySem.W PySem.Calls PyProof.Rows
theorem O2 {P:Params}{h:Heap}:∀(ns:List Int) (vs:List Value),WellAll P h vs (ns.map WData.int)->IntsAre vs ns:=by
 intro ns
 induction ns with
 | nil=>
  intro vs w;rw [map_nil] at w;cases w;exact .nil
 | cons n ns ih=>
  intro vs w;rw [map_cons] at w;cases w with
  | cons a b=>
   cases a;exact .cons _ _ (ih _ b)
theorem O3 {l:OpenLaw}{n:Nat} (hn:l.most=some n) {P:Params}{h:Heap}{args:List WData}{vals:List Value}
    (hpre:l.row.toRowW.claim.pre args=true) (hwl:WellAll P h vals args):
    ∃a vs ns,vals=[Value.ref a]/\args=[WData.list (ns.map WData.int)]/\h.get? a=some { cls:= .type "list",data:= .seq vs.toArray}/\IntsAre vs ns/\ns.length<=n:=by
  have hsh:WShape.hasAll [] args [.list .int]=true:=(pre_splitW hpre).1;have hc:l.pre.holds [] { args:=args}=true:=(pre_splitW hpre).2;obtain⟨d,r,rfl,h1,h2⟩:=hasAllW_cons hsh;obtain rfl:=hasAllW_nil h2;obtain⟨xs,rfl,h3⟩:=hasW_list h1;obtain⟨ns,rfl⟩:=items_int h3;have hlen:ns.length<=n:=by
    unfold OpenLaw.pre at hc;have h4:(WTm.not (.lt (.lit (.int (n:Int))) (.len (.arg 0)))).holds [] { args:=[.list (ns.map .int)]}=true:=by
      have h4:=(holds_andW hc).1;rw [hn] at h4;exact h4
    have h5:=condW_of h4 (w_not (w_lt w_lit (w_len_list (w_arg rfl))));rw [length_map] at h5;refine Nat.le_of_not_lt λq=>?_
    have q':(n:Int)<((ns.length:Nat):Int):=by omega
    first
      | (rw [decide_eq_true q'] at h5;exact absurd h5 (by decide))
      | (simp at h5;omega)
  cases hwl with
  | cons w1 w2 =>
    cases w2;cases w1 with
    | list ho hall=>exact⟨_,_,ns,rfl,rfl,ho,O2 ns _ hall,hlen⟩
theorem O4 (l:OpenLaw) (args:List WData):l.row.toRowW.claim.post args (.bool true) args=true:=
 postW_of (r:=l.row.toRowW) (X:=(true==true))
  (show WShape.has [] (.bool true) .bool=true by first | rfl | decide | simp [WShape.has,WShape.arms,WShape.armsAll])
  (show(WTm.eq .res (.lit (.bool true))).value [] { args:=args,res:=some (.bool true),after:=args}=some (.bool (true==true)) from w_eq_bool (w_res rfl) w_lit) rfl
theorem attach_call {l:OpenLaw}{n:Nat}{q:Program}{loose:List Str}{XP:(Str->Option Value)->Heap->Prop}{YP:World->Heap->Prop}{d:DefRec}
  (hn:l.most=some n) (hdf:d.params.defaults=[])
  (call : ∀ (w : World) (s₀ s₁ : Shared) (mg mb : Str -> Option Value) (fa : Addr) (o : Obj) (pm cd doc : Value) (a : Addr) (vs : List Value) (ns : List Int),
   Ground q loose [] XP w s₀ mg mb s₁.heap->YP w s₁.heap->
   s₁.heap.get? fa=some o->o.data= .func (docDef d.name d.params d.body d.scope pm cd doc)->s₁.heap.CodeRec cd d.name->mg d.name=some (.ref fa)->
   s₁.heap.get? a=some { cls:= .type "list",data:= .seq vs.toArray}->IntsAre vs ns->ns.length<=n->s₁.gens= #[]->
   codeAny (model l.prog w) callerA (.call (.ref fa) ⟨[.ref a],[]⟩) (λr s'=>r= .ok (.ret (.bool true))/\OldK s₁.heap s'.heap/\s'.os=s₁.os/\AllBare s'.gens) s₁):
  WalkO q loose XP YP l.row.toRowW d [] (λf vs=>PySem.call f vs):=by
 intro w s₀ s₁ mg mb G Y fa o pm cd doc dV kV ho hd hcd hD hmg hg args vals as hpre hlay hrd hwl hlo;obtain rfl:dV= .none:=Dflts.none hD hdf;obtain rfl:kV= .none:=Dflts.noKw hD;obtain⟨a,vs,ns,rfl,rfl,hobj,hints,hlen⟩:=O3 hn hpre hwl;refine enter_call (codeAny_mono (call w s₀ s₁ mg mb fa o pm cd doc a vs ns G Y ho (fd_plain hd) hcd hmg hobj hints hlen hg) λr s' hq=>?_);obtain⟨rfl,h2,h3,h4⟩:=hq;exact⟨.inl ⟨.bool true,.bool true,[],rfl,λ_=>rfl,.bool true,O4 l _,λ_=>⟨List.Pairwise.nil,λ_ hm=>(nomatch hm)⟩⟩,h2,h3,h4⟩
section
variable {prog : Program} {w : World} {A : Around} {E : Value -> Shared -> Prop} {s : Shared} {K : Frag}
end
end Att
namespace L2
theorem K0:∀ {vs:List Value}{ns:List Int},IntsAre vs ns->As (ns.map V.int) vs
 | _,_,.nil=> .nil
 | _,_,.cons n t h=> .cons ⟨t,rfl⟩ (K0 h)
end L2
namespace L2
end L2
namespace L2
variable {qual : Str} {fd : FuncData} {ps : List Str} {H H' : Hp}
def BM (s:Stmt):Arguments:=match s with
 | .FunctionDef _ a _ _ _ _ _ _ _ _=>a
 | _=> { posonlyargs:=[],args:=[],vararg:=none,kwonlyargs:=[],kw_defaults:=[],kwarg:=none,defaults:=[]}
def Bf (s:Stmt):List Stmt:=match s with
 | .FunctionDef _ _ b _ _ _ _ _ _ _=>b
 | _=>[]
def Ak (s:Stmt):Scope:=match s with
 | .FunctionDef _ _ _ _ _ _ sc _ _ _=>sc
 | _=> { kind:= .function,names:=[],isGenerator:=false,isCoroutine:=false}
abbrev CX0:Ck:=λ_ _ _ _ _ _=>False
abbrev E0:XK:=λ_ _ _=>False
theorem Ce {X:Cx}:Dd CX0 X E0:=λ_ _ _ _ _ _ _ h=>h.elim
structure Dx (K:Fgx) (x qual:Str) (st:Stmt) (f:Addr) (fd:FuncData):Prop where
 ex:∃(oc:Value) (od:Option Addr) (kV doc pm:Value) (an:Option Addr) (cdv ct:Value) (osl:Array (Option Value)),
  fd=PySem.W.fnOf x qual (BM st) (Bf st) (Ak st) .none kV doc pm an cdv ct/\K.lookup f=some ⟨oc,od,.func fd,osl⟩/\PySem.W.codeIn K cdv qual=true
 kp:PySem.W.keepIn K (.ref f)=true
section
variable {P : Program} {w : World} {K : Fgx} {mg : Str -> Option Value} {base : Heap}
theorem Dx.ok {x:Str}{st:Stmt}{f:Addr}{N:List Str}{k:Nat}{sp:Sp} (F:Dx K x qual st f fd) (S:At N ps (Ak st)) (len:∀vs H Q E,sp vs H Q E->vs.length=ps.length)
  (hbody : ∀ (cdv : Value) (A : Around) (outer : List Env) (s : Shared) (H : Hp) (vs : List V) (Q : VK) (E : XK), AJ k (A.deeper (envOfC qual (Ak st) s.heap.objs.size f cdv)) -> sp vs H Q E ->
   ∃t,PSs (BS CX0 P w K mg base N qual (Ak st) f cdv A outer s H E).nox (Bf st) t/\t { nx:=λ_ H'=>Q .non H',rt:=Q} (start N vs) H):BE P w K mg base CX0 (k+1) f fd ps sp:=by
 obtain⟨oc,od,kV,doc,pm,an,cdv,ct,osl,rfl,lk,hcd⟩:=F.ex;refine Gw lk hcd S len λA outer s H vs Q E hr hsp=>?_
 obtain⟨t,h,q⟩:=hbody cdv A outer s H vs Q E hr hsp;exact⟨t,h.nox,q⟩
theorem Dx.binds {x:Str}{st:Stmt}{f:Addr} (F:Dx K x qual st f fd)
  (h:∀(kV doc pm:Value) (an:Option Addr) (cdv ct:Value) (us:List Value),us.length=ps.length->bindArgs (PySem.W.fnOf x qual (BM st) (Bf st) (Ak st) .none kV doc pm an cdv ct) ⟨us,[]⟩=pure (ps.zip us)):Binds K fd ps []:=by
 obtain⟨oc,od,kV,doc,pm,an,cdv,ct,osl,rfl,lk,hcd⟩:=F.ex;exact .all (h kV doc pm an cdv ct)
theorem DV {x:Str}{st:Stmt}{f:Addr}{oc:Value}{od an:Option Addr}{osl:Array (Option Value)}{kV doc pm cdv ct:Value} (l:K.lookup f=some ⟨oc,od,.func (PySem.W.fnOf x qual (BM st) (Bf st) (Ak st) .none kV doc pm an cdv ct),osl⟩)
  (c:PySem.W.codeIn K cdv qual=true) (k:PySem.W.keepIn K (.ref f)=true):Dx K x qual st f (PySem.W.fnOf x qual (BM st) (Bf st) (Ak st) .none kV doc pm an cdv ct):=⟨⟨oc,od,kV,doc,pm,an,cdv,ct,osl,rfl,l,c⟩,k⟩
end
theorem Gz {n:Nat} (h:n<=1000):n<sizeLine:=Nat.lt_of_le_of_lt h (by decide)
section
variable {X : Cx}
end
def Ab (H H':Hp):Prop:=∀b o,H b=some o->H' b=some o
theorem Ab.refl (H:Hp):Ab H H:=λ_ _ h=>h
theorem Ab.trans {H1 H2:Hp} (a:Ab H H1) (b:Ab H1 H2):Ab H H2:=λc o h=>b c o (a c o h)
theorem Ab.free (e:Ab H H') {l:Addr} (h:H' l=Option.none):H l=Option.none:=by
 cases q:H l with
 | none=>rfl
 | some o=>
  rw [e l o q] at h;cases h
theorem Ab.seq {K:Fgx}{a:Addr}{xs:List V} (e:Ab H H') (h:Ai K H a xs):Ai K H' a xs:=by
 rcases h with(h | ⟨o,h⟩) | h
 ·exact .inl (.inl (e _ _ h))
 ·exact .inl (.inr ⟨o,e _ _ h⟩)
 ·exact .inr h
end L2
end
section
namespace L2
def A2 (cs:List (Str×Addr)):List (Str×NameKind)->List (Str×Addr)->List (Str×Addr)
  | [],acc=>acc
  | (n,k)::r,acc=>if k== .free then(match cs.lookup n with | some a=>A2 cs r ((n,a)::acc) | none=>A2 cs r acc) else A2 cs r acc
theorem IT {env:Env}:∀(names:List (Str×NameKind)) (acc:List (Str×Addr)),(∀y∈names,y.2= .free->∃c,env.cells.lookup y.1=some c)->
    (forIn names acc (fun(p:Str×NameKind) (cs:List (Str×Addr))=>do
      if (p.2==NameKind.free)=true then do
        let a<-cellOf env p.1
        pure (ForInStep.yield ((p.1,a)::cs))
      else pure (ForInStep.yield cs)):Sem (List (Str×Addr)))=pure (A2 env.cells names acc)
  | [],acc,_=>rfl
  | (n, k) :: r, acc, h => by
    rw [forIn_cons]
    by_cases hk:(k==NameKind.free)=true
    . obtain⟨c,hc⟩:=h (n,k) mem_cons_self (by simpa using hk);have hc':env.cells.lookup n=some c:=hc;simp only [hk,if_true,cellOf,hc',A2];exact IT r _ λy hy=>h y (mem_cons_of_mem _ hy)
    . have hk':(k==NameKind.free)=false:=by simpa using hk
      simp only [hk',Bool.false_eq_true,if_false,A2];exact IT r _ λy hy=>h y (mem_cons_of_mem _ hy)
theorem K1 {env:Env}{scope:Scope} (h:∀y∈scope.names,y.2= .free->∃c,env.cells.lookup y.1=some c):closureFor scope env=pure (A2 env.cells scope.names []):=by
 have q:=IT (env:=env) scope.names [] h;unfold closureFor;simp only [];have e:(forIn scope.names ([]:List (Str×Addr)) (fun(p:Str×NameKind) (cs:List (Str×Addr))=>do
   if (p.2==NameKind.free)=true then do
    let a<-cellOf env p.1
    pure (ForInStep.yield ((p.1,a)::cs))
   else pure (ForInStep.yield cs)):Sem (List (Str×Addr))) >>=(λcs=>pure cs)=pure (A2 env.cells scope.names []):=by rw [q];rfl
 exact e
theorem Ep {cs:List (Str×Addr)}{x:Str}{c:Addr}:∀(names:List (Str×NameKind)) (acc:List (Str×Addr)),(A2 cs names acc).lookup x=some c->cs.lookup x=some c\/acc.lookup x=some c
  | [],_,h=> .inr h
  | (n, k) :: r, acc, h => by
    unfold A2 at h;split at h
    . cases hc:cs.lookup n with
      | none=>rw [hc] at h;exact Ep r acc h
      | some a =>
        rw [hc] at h;rcases Ep r _ h with q | q
        . exact .inl q
        . rw [lookup_cons] at q;cases hx:x==n with
          | true=>rw [hx] at q;rw [beq_iff_eq.mp hx,hc];exact .inl q
          | false=>rw [hx] at q;exact .inr q
    . exact Ep r acc h
theorem GB {cs:List (Str×Addr)}{x:Str}{c:Addr} (hc:cs.lookup x=some c):∀(names:List (Str×NameKind)) (acc:List (Str×Addr)),acc.lookup x=some c->(A2 cs names acc).lookup x=some c
  | [],_,h=>h
  | (n, k) :: r, acc, h => by
    unfold A2;split
    . cases hn:cs.lookup n with
      | none=>exact GB hc r acc h
      | some a =>
        refine GB hc r _ ?_;rw [lookup_cons];cases hx:x==n with
        | true=>rw [beq_iff_eq.mp hx,hn] at hc;exact hc
        | false=>exact h
    . exact GB hc r acc h
theorem Er {cs:List (Str×Addr)}{x:Str}{c:Addr} (hc:cs.lookup x=some c):∀(names:List (Str×NameKind)) (acc:List (Str×Addr)),(x,NameKind.free)∈names->(A2 cs names acc).lookup x=some c
  | [],_,h=>nomatch h
  | (n, k) :: r, acc, h => by
    unfold A2;rcases mem_cons.mp h with e | h
    . cases e;simp only [beq_self_eq_true,if_true,hc];exact GB hc r _ (by simp [lookup_cons])
    . split
      . cases hn:cs.lookup n with
        | none=>exact Er hc r acc h
        | some a=>exact Er hc r _ h
      . exact Er hc r acc h
theorem FK {x:Str}{c:Addr}:∀(names:List (Str×NameKind)) (n:Nat) (acc:List (Str×Addr)),(cellsFrom n names acc).lookup x=some c->n<=c\/acc.lookup x=some c
  | [],_,_,h=> .inr h
  | (y, k) :: r, n, acc, h => by
    unfold cellsFrom at h;split at h
    . rcases FK r (n+1) _ h with q | q
      . exact .inl (by omega)
      . rw [lookup_cons] at q;cases hx:x==y with
        | true=>rw [hx] at q;cases q;exact .inl (Nat.le_refl _)
        | false=>rw [hx] at q;exact .inr q
    . exact FK r n acc h
theorem IU {x:Str}{c:Addr}{lo:Nat}:∀(names:List (Str×NameKind)) (n:Nat) (acc:List (Str×Addr)),lo<=n->((x,NameKind.cell)∈names\/ ∀c,acc.lookup x=some c->lo<=c)->(cellsFrom n names acc).lookup x=some c->lo<=c
  | [],_,_,_,hm,h=>hm.elim (λz=>nomatch z) λz=>z c h
  | (y, k) :: r, n, acc, hl, hm, h => by
    unfold cellsFrom at h;split at h
    . rename_i hk;refine IU r (n+1) _ (by omega) ?_ h
      by_cases hx:x=y
      . refine .inr λc' q=>?_
        rw [lookup_cons,hx,beq_self_eq_true] at q;cases q;exact hl
      . rcases hm with hm | hm
        . rcases mem_cons.mp hm with e | hm
          . cases e;exact absurd rfl hx
          . exact .inl hm
        . refine .inr λc' q=>hm c' ?_
          rw [lookup_cons,beq_eq_false_iff_ne.mpr hx] at q;exact q
    . rename_i hk;refine IU r n acc hl ?_ h;rcases hm with hm | hm
      . rcases mem_cons.mp hm with e | hm
        . cases e;exact absurd rfl hk
        . exact .inl hm
      . exact .inr hm
theorem IV {x:Str}{c:Addr}:∀(names:List (Str×NameKind)) (n:Nat) (acc:List (Str×Addr)),(x,NameKind.cell) ∉ names->acc.lookup x=some c->(cellsFrom n names acc).lookup x=some c
  | [],_,_,_,h=>h
  | (y, k) :: r, n, acc, hm, h => by
    have hm':(x,NameKind.cell) ∉ r:=λz=>hm (mem_cons_of_mem _ z)
    unfold cellsFrom;split
    . rename_i hk;refine IV r (n+1) _ hm' ?_;rw [lookup_cons];cases hx:x==y with
      | true =>
        have e1:k=NameKind.cell:=by simpa using hk
        exact absurd (by rw [beq_iff_eq.mp hx,e1];exact mem_cons_self) hm
      | false=>exact h
    . exact IV r n acc hm' h
theorem IW {x:Str}:∀(names:List (Str×NameKind)) (n:Nat) (acc:List (Str×Addr)),((x,NameKind.cell)∈names\/ ∃c,acc.lookup x=some c)->∃c,(cellsFrom n names acc).lookup x=some c
  | [],_,_,hm=>hm.elim (λz=>nomatch z) λz=>z
  | (y, k) :: r, n, acc, hm => by
    unfold cellsFrom;split
    . rename_i hk;refine IW r (n+1) _ ?_
      by_cases hx:x=y
      . exact .inr ⟨n,by rw [hx,lookup_cons,beq_self_eq_true]⟩
      . rcases hm with hm | ⟨c,hm⟩
        . rcases mem_cons.mp hm with e | hm
          . cases e;exact absurd rfl hx
          . exact .inl hm
        . exact .inr ⟨c,by rw [lookup_cons,beq_eq_false_iff_ne.mpr hx];exact hm⟩
    . rename_i hk;refine IW r n acc ?_;rcases hm with hm | hm
      . rcases mem_cons.mp hm with e | hm
        . cases e;exact absurd rfl hk
        . exact .inl hm
      . exact .inr hm
theorem IY:∀(names:List (Str×NameKind)) (n:Nat) (acc:List (Str×Addr)),(∀x c,acc.lookup x=some c->c<n)->(∀x y c,acc.lookup x=some c->acc.lookup y=some c->x=y)->
    ∀x y c,(cellsFrom n names acc).lookup x=some c->(cellsFrom n names acc).lookup y=some c->x=y
  | [],_,_,_,hi=>hi
  | (z, k) :: r, n, acc, hb, hi => by
    unfold cellsFrom;split
    . refine IY r (n+1) _ (λx c q=>?_) λx y c q q'=>?_
      . rw [lookup_cons] at q;cases hx:x==z with
        | true=>rw [hx] at q;cases q;exact Nat.lt_succ_self _
        | false=>rw [hx] at q;exact Nat.lt_succ_of_lt (hb x c q)
      . rw [lookup_cons] at q q';cases hx:x==z with
        | true =>
          rw [hx] at q;cases q;cases hy:y==z with
          | true=>rw [beq_iff_eq.mp hx,beq_iff_eq.mp hy]
          | false=>rw [hy] at q';exact absurd (hb y _ q') (Nat.lt_irrefl _)
        | false =>
          rw [hx] at q;cases hy:y==z with
          | true=>rw [hy] at q';cases q';exact absurd (hb x _ q) (Nat.lt_irrefl _)
          | false=>rw [hy] at q';exact hi x y c q q'
    . exact IY r n acc hb hi
theorem IZ:∀(names:List (Str×NameKind)) (h:Heap) (acc:List (Str×Addr)) {x:Str}{c:Addr},(cellsFrom h.objs.size names acc).lookup x=some c->(pushCells h names).IsCell c none\/acc.lookup x=some c
  | [],_,_,_,_,q=> .inr q
  | (z, k) :: r, h, acc, x, c, q => by
    unfold cellsFrom at q;unfold pushCells;split at q
    . rename_i hk;rw [if_pos hk];have e:(h.push { cls:= .type "cell",data:= .cell none}).objs.size=h.objs.size+1:=Heap.size_push ..;rw [<-e] at q;rcases IZ r _ _ q with q | q
      . exact .inl q
      . rw [lookup_cons] at q;cases hx:x==z with
        | true =>
          rw [hx] at q;cases q;refine .inl ?_;have w:(h.push { cls:= .type "cell",data:= .cell none}).IsCell h.objs.size none:=⟨_,Heap.get?_push_size _ rfl,rfl⟩;exact w.keeps (pushCells_keeps r _)
        | false=>rw [hx] at q;exact .inr q
    . rename_i hk;rw [if_neg hk];exact IZ r h acc q
def K2 (scope:Scope) (env:Env) (C:Addr):Env:=
  { scope:=relabel scope env,locals:=C,globals:=env.globals,cells:=cellsFrom (C+1) scope.names (A2 env.cells scope.names []),qual:=env.qual,func:=none,code:=env.code,frame:=env.frame,builtins:=env.builtins}
theorem O5 {M:Model}{A:Around}{E:VSP}{s:Shared}{scope:Scope}{env:Env}{cl:List (Str×Addr)}{Q:Env->Shared->Prop}
    (h:Q { scope:=scope,locals:=s.heap.objs.size,globals:=env.globals,cells:=cellsFrom (s.heap.objs.size+1) scope.names cl,qual:=env.qual,func:=none,code:=env.code,frame:=env.frame,builtins:=env.builtins}
      { s with heap:=pushCells (s.heap.push { cls:= .type "dict",data:= .dict #[]}) scope.names}):
    wpAny M A (newFunctionEnv scope env.globals cl [] env.qual none .none (some env)) Q E s:=by
  have Aw:({ s with heap:=s.heap.push { cls:= .type "dict",data:= .dict #[]}}:Shared).heap.objs.size=s.heap.objs.size+1:=Heap.size_push ..;rw [<-Aw] at h;unfold newFunctionEnv;simp only [Option.isSome_some,if_true];exact wpAny_bind (wpAny_alloc (wpAny_bind (wpAny_layCells _ (λn k cs=>by by_cases c:(k==NameKind.cell)=true<;>simp [c]) _ _ _ _ (wpAny_bind (wpAny_pure (wpAny_pure h))))))
structure AH (sc:Scope) (N:List Str) (scope:Scope) (N':List Str) (cap:List (Option Nat)):Prop where
 kind:scope.kind= .function
 free:∀y∈scope.names,y.2= .free->sc.names.lookup y.1=some .cell\/sc.names.lookup y.1=some .free
 len:cap.length=N'.length
 capt:∀(i j:Nat),cap[i]? =some (some j)->∃x:Str,N'[i]? =some x/\N[j]? =some x/\(x,NameKind.free)∈scope.names/\(x,NameKind.cell) ∉ scope.names
 names:∀y∈scope.names,y.2= .local ->scope.names.lookup y.1=some .local
 own:∀y∈scope.names,scope.names.lookup y.1=some y.2
def K3 (sc:Scope) (N:List Str) (scope:Scope) (N':List Str) (cap:List (Option Nat)):Bool:=
  scope.kind== .function &&(scope.names.all λy=>y.2 != .free || sc.names.lookup y.1==some .cell || sc.names.lookup y.1==some .free) && cap.length==N'.length &&
    ((List.range cap.length).all λi => match cap[i]? with
      | some (some j) => (match N'[i]?, N[j]? with
        | some x,some y=>x==y && scope.names.any (λz=>z.1==x && z.2== .free) && scope.names.all (λz=> !(z.1==x && z.2== .cell))
        | _,_=>false)
      | _=>true) && scope.names.all λy=>scope.names.lookup y.1==some y.2
theorem AH.of {sc:Scope}{N:List Str}{scope:Scope}{N':List Str}{cap:List (Option Nat)} (h:K3 sc N scope N' cap=true):AH sc N scope N' cap:=by
 unfold K3 at h;simp only [Bool.and_eq_true] at h;obtain⟨⟨⟨⟨h1,h2⟩,h3⟩,h4⟩,h5⟩:=h;have own:∀y∈scope.names,scope.names.lookup y.1=some y.2:=λy hy=>by
  have:=all_eq_true.mp h5 y hy
  simpa using this
 refine⟨by simpa using h1,λy hy hf=>?_,by simpa using h3,λi j e=>?_,λy hy hl=>by rw [own y hy,hl],own⟩
 ·have:=all_eq_true.mp h2 y hy;rw [hf] at this
  simpa using this
 ·have hi:i<cap.length:=(List.getElem?_eq_some_iff.mp e).1;have:=all_eq_true.mp h4 i (mem_range.mpr hi);rw [e] at this;dsimp only at this;cases hx:N'[i]? with
  | none=>rw [hx] at this;simp at this
  | some x=>
   cases hy:N[j]? with
   | none=>rw [hx,hy] at this;simp at this
   | some y=>
    rw [hx,hy] at this;simp only [Bool.and_eq_true] at this;obtain⟨⟨t1,t2⟩,t3⟩:=this;have e1:x=y:=by simpa using t1
    subst e1;obtain⟨z,hz,t⟩:=any_eq_true.mp t2;simp only [Bool.and_eq_true] at t;have z1:z.1=x:=by simpa using t.1
    have z2:z.2= .free:=by simpa using t.2
    have ez:z=(x,NameKind.free):=by rw [<-z1,<-z2]
    refine⟨x,rfl,rfl,ez ▸ hz,λhm=>?_⟩;have:=all_eq_true.mp t3 _ hm;simp at this
def AM (cap:List (Option Nat)) (σ:St):St:=cap.map λo=>match o with | some j=>(match σ[j]? with | some v=>v | none=>none) | none=>none
def CJ (X:Cx) (cs:List Expr) (t:TT):Prop:=
 ∀(pins:PNs) (s:Shared) (σ:St) (H:Hp) (Q:Bool->Hp->Prop),Ac X pins σ H s->t σ H Q->
  wpAny (model X.prog X.w) X.A (forIn cs true λc r=>if r=true then do let ok<-isTrue c X.env (eval c X.env);pure (ForInStep.yield ok) else pure (ForInStep.yield r)) (TP X pins σ Q) X.xe s
def O6:TT:=λ_ H Q=>Q true H
theorem A3 {X:Cx}:CJ X [] O6:=λ_ _ σ H Q I h=>wpAny_tests_nil ⟨H,I,h⟩
theorem FM {X:Cx}{c:Expr}{t:TT} (h:PT X c t):CJ X [c] t:=λpins s σ H Q I q=>wpAny_tests_one (h pins s σ H Q I q)
def A9 (X:Cx) (N':List Str) (scope:Scope) (s:Shared) (H:Hp) (ex:List Addr) (C:Addr):Cx:=
  { X with N:=N',s₀:=s,H₀:=H,env:=K2 scope X.env C,outer:=X.stack,ex:=ex,fn:=λx=>scope.names.any λz=>z.1==x && z.2== .cell,pn:=[],xe:=λ_ _=>False}
theorem GC {env:Env}{x:Str}:∀(names:List (Str×NameKind)),(names.map fun(n,k)=>if (k==NameKind.free && env.scope.kind== .function && env.kindOf n==some .cell) then(n,NameKind.cell) else(n,k)).lookup x=
    (names.lookup x).map λk=>if (k==NameKind.free && env.scope.kind== .function && env.kindOf x==some .cell) then NameKind.cell else k
  | []=>rfl
  | (n, k) :: r => by
    have ih:=GC (env:=env) (x:=x) r;show List.lookup x ((if (k==NameKind.free && env.scope.kind== .function && env.kindOf n==some .cell)=true then(n,NameKind.cell) else(n,k))::_)=_;cases hx:x==n with
    | true =>
      have e:x=n:=beq_iff_eq.mp hx;subst e;split<;>simp_all [lookup_cons]
    | false =>
      have e:(List.lookup x ((n,k)::r))=r.lookup x:=by rw [lookup_cons,hx]
      rw [e,<-ih];split<;>simp [lookup_cons,hx]
section
variable {X : Cx} {pins : List (Addr × Obj)} {σ : St} {H : Hp} {s : Shared} {scope : Scope} {N' : List Str} {cap : List (Option Nat)} {fp : List Addr}
theorem O7 (I:Ac X pins σ H s) (B:AH X.env.scope X.N scope N' cap) (hf:∀b∈fp,Cj X pins H b) (hlt:∀b∈fp,b<s.heap.objs.size) {C:Addr} (hC:s.heap.objs.size<=C):
  (A9 X N' scope s H fp C).Ok:=by
 have clt:∀x c,X.env.cells.lookup x=some c->c<s.heap.objs.size:=λx c e=>let ⟨_,q⟩:=I.cell x c e;q.lt
 have acc:∀x c,(A2 X.env.cells scope.names []).lookup x=some c->X.env.cells.lookup x=some c:=λx c e=>(Ep _ _ e).elim id λz=>nomatch z
 refine⟨I.ok.mod,B.kind,I.ok.glob,I.ok.blt,hC,λx y c h1 h2=>?_,λx hx=>?_,λx c hx h=>?_,I.ok.hd,I.ok.frames,.inl rfl,λb hb=>⟨?_,λx c h e=>?_⟩,I.bs,Nat.le_trans I.ok.bsz I.sz,λb o e hb=>?_,λb hb z=>?_,I.stack,I.stkFree⟩
 ·exact IY scope.names (C+1) _ (λx c e=>Nat.lt_succ_of_lt (Nat.lt_of_lt_of_le (clt x c (acc x c e)) hC)) (λx y c e e'=>I.ok.inj x y c (acc x c e) (acc y c e')) x y c h1 h2
 ·have hx':(relabel scope X.env).names.lookup x=some .cell\/(relabel scope X.env).names.lookup x=some .free:=hx;have hl:(scope.names.lookup x).isSome=true:=by
   unfold relabel at hx';rw [GC] at hx';cases q:scope.names.lookup x with
   | none=>rw [q] at hx';rcases hx' with z | z<;>cases z
   | some k=>rfl
  obtain⟨k,hk⟩:=Option.isSome_iff_exists.mp hl;have hm:=PySem.mem_of_lookup hk;refine IW scope.names (C+1) _ ?_;cases k with
  | cell=>exact .inl hm
  | free=>
   refine .inr ?_;obtain⟨c,hc⟩:=I.ok.has x (B.free _ hm rfl);exact⟨c,Er hc _ _ hm⟩
  | _=>
   unfold relabel at hx';rw [GC,hk] at hx';rcases hx' with z | z<;>simp at z
 ·have hx':(scope.names.any λz=>z.1==x && z.2== .cell)=true:=hx;obtain⟨z,hz,t⟩:=any_eq_true.mp hx';simp only [Bool.and_eq_true] at t;have z1:z.1=x:=by simpa using t.1
  have z2:z.2= .cell:=by simpa using t.2
  have ez:z=(x,NameKind.cell):=by rw [<-z1,<-z2]
  have:=IU (lo:=C+1) scope.names (C+1) _ (Nat.le_refl _) (.inl (ez ▸ hz)) h;exact Nat.le_trans hC (Nat.le_of_succ_le this)
 ·exact Nat.ne_of_lt (Nat.lt_of_lt_of_le (hlt b hb) hC)
 ·rcases FK scope.names (C+1) _ h with q | q
  ·have:=hlt b hb;rw [<-e] at this;exact absurd (Nat.lt_of_lt_of_le this (Nat.le_trans hC (Nat.le_of_succ_le q))) (Nat.lt_irrefl _)
  ·exact(hf b hb).2.2.2.2.1 x c (acc x c q) e
 ·obtain⟨_,_,_,f3,_⟩:=hf b hb;rcases f3 with f3 | f3
  ·exact I.ok.noex b o e f3
  ·exact absurd (Nat.lt_of_lt_of_le (Heap.lt_size e) (Nat.le_trans I.ok.bsz f3)) (Nat.lt_irrefl _)
 ·obtain⟨_,f1,f2,_⟩:=hf b hb;rcases mem_cons.mp (I.stkSub b z) with q | q
  ·exact f1 q
  ·exact f2 q
theorem O8 (I:Ac X pins σ H s) (B:AH X.env.scope X.N scope N' cap) (hf:∀b∈fp,Cj X pins H b) (hlt:∀b∈fp,b<s.heap.objs.size) {h3:Heap} (hk:∀b o,s.heap.get? b=some o->h3.get? b=some o) (hsz:s.heap.objs.size<=h3.objs.size):
  Ac (A9 X N' scope s H fp h3.objs.size) [] (AM cap σ) H { s with heap:=pushCells (h3.push { cls:= .type "dict",data:= .dict #[]}) scope.names}:=by
 have acc:∀x c,(A2 X.env.cells scope.names []).lookup x=some c->X.env.cells.lookup x=some c:=λx c e=>(Ep _ _ e).elim id λz=>nomatch z
 have hk3:∀b o,h3.get? b=some o->(pushCells (h3.push { cls:= .type "dict",data:= .dict #[]}) scope.names).get? b=some o:=λb o e=>pushCells_keeps _ _ b o (Heap.get?_push_of_some _ e)
 have hk4:∀b o,s.heap.get? b=some o->(pushCells (h3.push { cls:= .type "dict",data:= .dict #[]}) scope.names).get? b=some o:=λb o e=>hk3 b o (hk b o e)
 refine⟨O7 I B hf hlt hsz,rfl,I.bare,Un.kept hk4,⟨λ_=>none,(Heap.Ns.new h3 (.type "dict")).keeps (pushCells_keeps _ _),λi x v h1 h2 h4=>?_⟩,λx c h=>?_,?_,λx c h=>?_,λp hp=>absurd (show p∈([]:PNs) from hp) (by simp),I.hok.kept hk4,?_⟩
 ·have h2':(AM cap σ)[i]? =some (some v):=h2;unfold AM at h2';rw [getElem?_map] at h2';cases q:cap[i]? with
  | none=>rw [q] at h2';cases h2'
  | some o=>
   rw [q] at h2';cases o with
   | none=>exact nomatch Option.some.inj h2'
   | some j=>
    have h2'':(match σ[j]? with | some v=>v | none=>none)=some v:=Option.some.inj h2';cases qs:σ[j]? with
    | none=>rw [qs] at h2'';cases h2''
    | some v'=>
     rw [qs] at h2'';have hs:σ[j]? =some (some v):=by rw [qs];exact congrArg some h2''
     obtain⟨x',e1,e2,e3,e4⟩:=B.capt i j q;have h1':N'[i]? =some x:=h1;rw [h1'] at e1;cases e1;have hcf:=B.free _ e3 rfl;obtain⟨m,hn,hl⟩:=I.loc;obtain⟨u,ru,lk⟩:=hl j x v e2 hs (hcf.elim (λz=> .inr (.inl z)) λz=> .inr (.inr z));refine⟨u,ru,?_⟩;rcases lk with⟨lk,_⟩ | ⟨_,c,hc,ic⟩
     ·have lk':X.env.scope.names.lookup x=some .local :=lk;have hcf':X.env.scope.names.lookup x=some .cell\/X.env.scope.names.lookup x=some .free:=hcf;rw [lk'] at hcf';rcases hcf' with z | z<;>cases z
     ·refine .inr ⟨?_,c,IV _ _ _ e4 (Er hc _ _ e3),ic.keeps hk4⟩;have:(relabel scope X.env).names.lookup x=some .cell\/(relabel scope X.env).names.lookup x=some .free:=by
       unfold relabel;rw [GC,B.own _ e3];dsimp only [Option.map];split
       ·exact .inl rfl
       ·exact .inr rfl
      exact this
 ·have h':(cellsFrom (h3.objs.size+1) scope.names (A2 X.env.cells scope.names [])).lookup x=some c:=h;have e:(h3.push { cls:= .type "dict",data:= .dict #[]}).objs.size=h3.objs.size+1:=Heap.size_push ..;rw [<-e] at h';rcases IZ _ _ _ h' with q | q
  ·exact⟨_,q⟩
  ·obtain⟨v,z⟩:=I.cell x c (acc x c q);exact⟨v,z.keeps hk4⟩
 ·exact I.hok.fresh hsz
 ·rcases FK scope.names (h3.objs.size+1) _ h with q | q
  ·exact I.hok.fresh (Nat.le_trans hsz (Nat.le_of_succ_le q))
  ·exact I.freeC x c (acc x c q)
 ·show(AM cap σ).length=N'.length;unfold AM;rw [length_map];exact B.len
end
end L2
end
section
namespace L2
variable {E : Expr} {Y : Cx} {a : Addr} {PB : List (Addr × Obj)} {σ : St} {zs xs : List V} {H : Hp} {its : List Value} {k : Nat} {te : TE} {wi : TI} {g : TG} {tt : TT} {cap : List (Option Nat)} {Q : List V -> Hp -> Prop}
def Keep:St->St->Prop
 | [],[]=>True
 | none::r,_::r'=>Keep r r'
 | some v::r,o::r'=>o=some v/\Keep r r'
 | _,_=>False
theorem Keep.len:∀ {a b:St},Keep a b->a.length=b.length
 | [],[],_=>rfl
 | none::r,_::r',h=>by have h':Keep r r':=h;simp [Keep.len h']
 | some v::r,o::r',h=>by have h':o=some v/\Keep r r':=h;simp [Keep.len h'.2]
theorem Keep.get:∀ {a b:St}{i:Nat}{v:V},Keep a b->a[i]? =some (some v)->b[i]? =some (some v)
 | [],[],_,_,_,e=>by simp at e
 | none::r,_::r',0,v,h,e=>by simp at e
 | none::r,_::r',i+1,v,h,e=>by
  have h':Keep r r':=h
  simpa using Keep.get (i:=i) h' (by simpa using e)
 | some v::r,o::r',0,w,h,e=>by
  have h':o=some v/\Keep r r':=h;simp at e;simp [h'.1,e]
 | some v::r,o::r',i+1,w,h,e=>by
  have h':o=some v/\Keep r r':=h
  simpa using Keep.get (i:=i) h'.2 (by simpa using e)
def br (c:Bool) (A B:Prop):Prop:=(c=true->A)/\(c=false->B)
def I9 (wi:TI) (cap:List (Option Nat)) (g:TG) (tt:TT) (te:TE):St->Hp->(List V->Hp->Prop)->Prop:=fun σ H Q=>wi σ H λJ H1=>
 ∃W:Nat->Nat->List V->Hp->Prop,(∃m,W 0 m [] H1)/\∀i m ys H,W i m ys H->
  (J.stop i H/\Q ys H)\/
  (J.go i H /\ ys.length < sizeLine /\ ∃ N : List V -> Hp -> Prop, (∀ ys' H', N ys' H' -> ∃ m', m' < m /\ W (i + 1) m' ys' H') /\ ∀ x H', J.yld i H x H' -> g x (AM cap σ) H' fun σ2 H2 => Keep (AM cap σ) σ2 /\ tt σ2 H2 λb H3 =>
   br b (te σ2 H3 λy H4=>N (ys++[y]) H4) (N ys H3))
structure Ja (X:Cx) (pins:PNs) (C:Addr) (H:Hp) (s:Shared):Prop where
 ns:∃m,s.heap.Ns C m
 free:H C=none
 loc:C≠X.env.locals
 sz:X.s₀.heap.objs.size<=C
 cell:∀x c,X.env.cells.lookup x=some c->c≠C
 pin:∀p∈X.pn++pins,p.1≠C
abbrev TB:=St->List V->Hp->(List V->Hp->Prop)->Prop
def FN (E:Expr) (d:Nat) (tg it:Expr) (ifs:List Expr) (body:Sem PySem.Fin) (itv acc:Value) (env:Env):Sem PySem.Fin:=do
  standAt it.pos
  let r<-pyNext itv
  match r with
   | none=>pure (Fin.done Flow.next)
   | some v=>do
    letOwnedTupleGo tg itv v
    assign tg env v
    let ok<-forIn ifs true λc r=>if r=true then do let ok<-PySem.isTrue c env (eval c env);pure (ForInStep.yield ok) else pure (ForInStep.yield r)
    if ok=true then body else again (Code.compLoop E d itv acc env)
def GE (E:Expr) (d:Nat) (elt:Expr) (itv acc:Value) (env:Env):Sem PySem.Fin:=do
  let _<-(do
   let x<-eval elt env
   let _<-call (Value.builtin "list.append") [acc,x]
   pure ())
  again (Code.compLoop E d itv acc env)
def Jb (E:Expr) (d:Nat) (it2:Expr) (itv acc:Value) (env:Env):Sem PySem.Fin:=do
  let x<-eval it2 env
  standAt it2.pos
  let x<-foldedSetIterable it2 env x
  let j<-holding [x] (pyIter x)
  let _<-runOwn (Code.compStart E (d+1) j acc env) env
  again (Code.compLoop E d itv acc env)
abbrev GF (M:Model) (A:Around) (E:Expr) (d:Nat) (itv acc:Value) (env:Env) (body:Sem PySem.Fin) (P:Shared->Prop) (s:Shared):Prop:=wpAny M A body (λfin s'=>fin= .again (.compLoop E d itv acc env)/\P s') (λ_ _=>False) s
section
variable {prog : Program} {w : World} {A : Around} {R : Result -> Shared -> Prop} {s : Shared} {e0 tg it elt it2 : Expr} {gs : List Comprehension} {ifs : List Expr} {sc : Scope} {ps : Pos} {itv acc : Value} {env : Env} {d : Nat} {body : Sem PySem.Fin} {P : Shared -> Prop}
theorem O9 (h:wpAny (model prog w) A (eval elt env) (λx s₄=>wpAny (model prog w) A (call (.builtin "list.append") [acc,x]) (λ_ s₅=>P s₅) (λ_ _=>False) s₄) (λ_ _=>False) s):GF (model prog w) A E d itv acc env (GE E d elt itv acc env) P s:=
 wpAny_bind (wpAny_bind (wpAny_mono h (λx s₄ h₄=>wpAny_bind (wpAny_mono h₄ (λ_ s₅ h₅=>wpAny_pure (wpAny_pure ⟨rfl,h₅⟩)) λ_ _ h'=>h'.elim)) λ_ _ h'=>h'.elim))
theorem Pa (hs:∀x,foldedSetIterable it2 env x=pure x) (h:wpAny (model prog w) A (eval it2 env) (λx s₄=>wpAny (model prog w) A (pyIter x) (λj s₅=>codeAny (model prog w) (A.mark none) (.compStart E (d+1) j acc env) (λr s₆=>r= .ok .next/\P s₆) s₅) (λ_ _=>False) s₄) (λ_ _=>False) s):GF (model prog w) A E d itv acc env (Jb E d it2 itv acc env) P s:=by
 refine wpAny_bind (wpAny_mono h (λx s₄ h₄=>wpAny_bind (wpAny_standAt ?_)) λ_ _ h'=>h'.elim);rw [hs];refine wpAny_bind (wpAny_pure (wpAny_bind (wpAny_holding (wpAny_mono h₄ (λj s₅ h₅=>?_) λ_ _ h'=>h'.elim))));refine wpAny_bind (wpAny_runOwn (codeAny_mono h₅ λr s₆ h₆=>?_));obtain⟨rfl,h₆⟩:=h₆;exact wpAny_pure ⟨rfl,h₆⟩
theorem Pb (ht:compTurn (.ListComp e0 gs sc ps) d itv acc env=FN (.ListComp e0 gs sc ps) d tg it ifs body itv acc env) (I:Nat->Shared->Prop)
  (turn : ∀ n s, I n s -> wpAny (model prog w) A (pyNext itv) (λr s₁ => match r with
   | none=>R (.ok .next) s₁
   | some v => wpAny (model prog w) A (letOwnedTupleGo tg itv v) (λ_ s₁' => wpAny (model prog w) A (assign tg env v) (λ_ s₂ =>
     wpAny (model prog w) A (forIn ifs true λc r=>if r=true then do let ok<-isTrue c env (eval c env);pure (ForInStep.yield ok) else pure (ForInStep.yield r)) (λok s₃=>
      if ok=true then GF (model prog w) A (.ListComp e0 gs sc ps) d itv acc env body (λs₅=>∃m,m<n/\I m s₅) s₃
      else ∃m,m<n/\I m s₃) (λ_ _=>False) s₂) (λ_ _=>False) s₁') (λ_ _=>False) s₁) (λ_ _=>False) s)
  (n:Nat) (h:I n s):codeAny (model prog w) A (.compLoop (.ListComp e0 gs sc ps) d itv acc env) R s:=by
 refine codeAny_loop rfl I (λn s hI=>?_) n h;show wpAny _ A ((compTurn (.ListComp e0 gs sc ps) d itv acc env).onRaise (λx=>do noteFrame x env;theTreesLotGoes x)) _ _ s;refine wpAny_noted ?_;rw [ht];unfold FN;refine wpAny_bind (wpAny_standAt (wpAny_bind (wpAny_mono (turn n s hI) (λr s₁ h₁=>?_) λ_ _ h'=>h'.elim)));cases r with
 | none=>exact wpAny_pure h₁
 | some v=>
  refine wpAny_bind (wpAny_mono h₁ (λ_ s₁' h₁'=>?_) λ_ _ h'=>h'.elim);refine wpAny_bind (wpAny_mono h₁' (λ_ s₂ h₂=>wpAny_bind (wpAny_mono h₂ (λok s₃ h₃=>?_) λ_ _ h'=>h'.elim)) λ_ _ h'=>h'.elim);cases ok with
  | false=>exact wpAny_pure ⟨rfl,h₃⟩
  | true=>exact wpAny_mono h₃ (λfin s₅ ⟨e,q⟩=>by subst e;exact⟨rfl,q⟩) λ_ _ h'=>h'.elim
end
structure EY (Y:Cx) (a:Addr):Prop where
 loc:a≠Y.env.locals
 fs:a ∉ Y.fs
 sz:a∈Y.ex\/Y.s₀.heap.objs.size<=a
 cell:∀x c,Y.env.cells.lookup x=some c->c≠a
 pn:Y.pn=[]
 calm:Y.calm=true
abbrev Es (its:List Value) (k:Nat):Obj:= { cls:= .type "list",data:= .seq its.toArray k}
structure Grown (Y:Cx) (a:Addr) (PB:PNs) (σ:St) (zs:List V) (H:Hp) (s:Shared):Prop where
 inv:Ac Y PB σ H s
 no:H a=none
 len:zs.length<=sizeLine
 at':∃its k,s.heap.get? a=some (Es its k)/\As zs its
theorem Grown.pin {s:Shared} (A:EY Y a) (g:Grown Y a PB σ zs H s) (e:s.heap.get? a=some (Es its k)):Ac Y ((a,Es its k)::PB) σ H s:=
 g.inv.pins_of λp hp=>by
  rcases mem_cons.mp hp with rfl | hp
  ·exact⟨e,g.no,A.loc,A.fs,λv z=>by
    have z':Data.seq its.toArray k=Data.cell v:=z;cases z'⟩
  ·exact g.inv.pin p (mem_append_right _ hp)
theorem Ac.grown {s:Shared} (I:Ac Y ((a,Es its k)::PB) σ H s) (hz:zs.length<=sizeLine) (v:As zs its):Grown Y a PB σ zs H s:=by
 have q:=I.pin (a,Es its k) (mem_append_right _ mem_cons_self);exact⟨I.pins_of λp hp=>I.pin p (mem_append_right _ (mem_cons_of_mem _ hp)),q.2.1,hz,its,k,q.1,v⟩
def K4:List V->Prop->Prop:=λzs p=>zs.length<sizeLine/\p
def Pc:List V->Prop->Prop:=λ_ p=>p
def FO (Y:Cx) (a:Addr) (E:Expr) (d:Nat) (body:Value->Sem PySem.Fin) (C:List V->Prop) (B:TB):Prop:=
 ∀(jt:Value) (PB:PNs) (σ:St) (zs:List V) (H:Hp) (s:Shared) (N:List V->Hp->Prop) (P:Shared->Prop),(∀p∈PB,p.1≠a)->Grown Y a PB σ zs H s->C zs->B σ zs H N->(∀zs' H' s',Grown Y a PB σ zs' H' s'->N zs' H'->P s')->GF (model Y.prog Y.w) Y.A E d jt (.ref a) Y.env (body jt) P s
theorem K5 {e0 tg it:Expr}{gs:List Comprehension}{ifs:List Expr}{sc:Scope}{ps:Pos}{d m0:Nat}{Y:Cx}{a jt:Addr}{PB:PNs}{g:TG}{tt:TT}{B:TB}{C:List V->Prop}{Z:List V->Prop->Prop}{body:Value->Sem PySem.Fin}{fp:List Addr}{tn:Nat->Heap->Prop}{J:It}{W:Nat->Nat->List V->Hp->Prop}{σ:St}{ys:List V}{H:Hp}{s:Shared}{N:List V->Hp->Prop}{R:Result->Shared->Prop}
  (A:EY Y a) (hPB:∀p∈PB,p.1≠a) (ht:∀itv,compTurn (.ListComp e0 gs sc ps) d itv (.ref a) Y.env=FN (.ListComp e0 gs sc ps) d tg it ifs (body itv) itv (.ref a) Y.env) (hx:Y.xe=λ_ _=>False) (hg:PG Y tg g) (htt:CJ Y ifs tt) (hb:FO Y a (.ListComp e0 gs sc ps) d body C B) (hZ:∀zs p,Z zs p->C zs/\p)
  (T:DS Y.prog Y.w Y.K tg J fp jt tn) (na:∀b∈fp,b≠a) (fpY:∀ {o:Obj}{H':Hp},(∀b∈fp,H' b=none)->∀b∈fp,Cj Y ((a,o)::PB) H' b) (st:tn 0 s.heap) (gr:Grown Y a PB σ ys H s) (hn:∀b∈fp,H b=none) (w0:W 0 m0 ys H)
  (turn:∀j m zs H,W j m zs H->(J.stop j H/\N zs H)\/(J.go j H/\Z zs (∃N2:List V->Hp->Prop,(∀zs' H',N2 zs' H'->∃m',m'<m/\W (j+1) m' zs' H')/\∀x H',J.yld j H x H'->g x σ H' fun σ3 H2=>Keep σ σ3/\tt σ3 H2 λb H3=>br b (B σ3 zs H3 N2) (N2 zs H3))))
  (back:∀zs H' s',Grown Y a PB σ zs H' s'->N zs H'->R (.ok .next) s'):codeAny (model Y.prog Y.w) Y.A (.compLoop (.ListComp e0 gs sc ps) d (.ref jt) (.ref a) Y.env) R s:=by
 refine Pb (ht _) (λn' s'=>∃(j:Nat) (zs:List V) (H':Hp),Grown Y a PB σ zs H' s'/\tn j s'.heap/\(∀b∈fp,H' b=none)/\W j n' zs H') ?_ m0 ⟨0,ys,H,gr,st,hn,w0⟩;rintro n' s12 ⟨j,zs,H12,g12,st12,fr12,w12⟩;obtain⟨its',k',e12,v12⟩:=g12.at';have I12:=g12.pin A e12;rcases turn j n' zs H12 w12 with⟨stop,q⟩ | ⟨go2,hz0⟩
 ·refine Ap (T.done Y rfl rfl rfl A.calm j _ s12 _ H12 _ I12 (fpY fr12) st12 stop) λr s13 ⟨hr,I13⟩=>?_
  subst hr;exact back zs H12 s13 (Ac.grown I13 g12.len v12) q
 ·obtain⟨hC,N2,hN2,step2⟩:=hZ _ _ hz0;refine Ap (T.item Y rfl rfl rfl A.calm j _ s12 _ H12 _ I12 (fpY fr12) st12 go2) λr s13 ⟨u2,hr,h13⟩=>?_
  subst hr;refine Ap h13 λ_ s14 ⟨x2,H14,I14,r14,y14,st14,fr14⟩=>?_
  have I14':=I14.pinned (fpY fr14) (T.obj _ _ st14);have hgY:=hg _ s14 _ H14 x2 u2 _ I14' r14 (step2 x2 H14 y14);rw [hx] at hgY;refine Ap hgY λ_ s15 ⟨σ15,H15,I15,kp2,q15⟩=>?_
  have htY:=htt _ s15 σ15 H15 _ I15 q15;rw [hx] at htY;refine Ap htY λb2 s16 ⟨H16,I16,q16⟩=>?_
  have pn:∀p∈PB++El fp s14.heap,p.1≠a:=λp hp=>by
   rcases mem_append.mp hp with hp | hp
   ·exact hPB p hp
   ·exact na p.1 (Km hp).1
  have back2:∀ {σ':St}{zs':List V}{H':Hp}{s':Shared},Keep σ σ'->Grown Y a (PB++El fp s14.heap) σ' zs' H' s'->N2 zs' H'->∃m,m<n'/\∃(j:Nat) (zs:List V) (H':Hp),Grown Y a PB σ zs H' s'/\tn j s'.heap/\(∀b∈fp,H' b=none)/\W j m zs H':=λ{σ' zs' H' s'} kp G n2=>by
   obtain⟨m',hm,w16⟩:=hN2 _ _ n2;refine⟨m',hm,j+1,zs',H',⟨(G.inv.pins_of λp hp=>G.inv.pin p (mem_append_right _ (mem_append_left _ hp))).weak (by rw [kp.len]) λi v e=>kp.get e,G.no,G.len,G.at'⟩,T.keep _ _ _ st14 λb hb o e=>(G.inv.pin (b,o) (mem_append_right _ (mem_append_right _ (Gr hb e)))).1,λb hb=>?_,w16⟩;obtain⟨o,e,d⟩:=T.obj _ _ st14 b hb;exact(G.inv.pin (b,o) (mem_append_right _ (mem_append_right _ (Gr hb e)))).2.1
  have g16:Grown Y a (PB++El fp s14.heap) σ15 zs H16 s16:=Ac.grown I16 g12.len v12;cases b2 with
  | false=>
   rw [if_neg Bool.false_ne_true];exact back2 kp2 g16 (q16.2 rfl)
  | true=>
   rw [if_pos rfl];exact hb _ _ _ _ _ _ _ _ pn g16 hC (q16.1 rfl) λzs' H' s' G n2=>back2 kp2 G n2
def Jc (te:TE):TB:=fun σ zs H N=>te σ H λy H4=>N (zs++[y]) H4
theorem K6 {elt:Expr}{d:Nat} (A:EY Y a) (hx:Y.xe=λ_ _=>False) (he:PE Y elt te):FO Y a E d (λjt=>GE E d elt jt (.ref a) Y.env) (λzs=>zs.length<sizeLine) (Jc te):=by
 intro jt PB σ zs H s N P hPB gr zlt h back;obtain⟨its',k',e12,v12⟩:=gr.at';have I16:=gr.pin A e12;have heY:=he _ s σ H _ I16 h;rw [hx] at heY;refine O9 (Ap heY λyv s17 ⟨y,H17,I17,r17,n17⟩=>?_);have gI:=Ac.grown I17 gr.len v12;have b4:=(I17.pin (a,Es its' k') (mem_append_right _ mem_cons_self)).1;have hl:=v12.length;refine call_meets F.slot_list_append ⟨_,b4,rfl⟩ F.entry_list_append (F.args_list_append_2 _ _) (PySem.list_append a its'.toArray k' yv (by rw [size_toArray];omega)) ⟨b4,?_⟩;have q:=PySem.IsL.update b4 (λa=>a.push yv);have eqp:its'.toArray.push yv=(its'++[yv]).toArray:=by simp
 rw [eqp] at q;have I18:Ac Y PB σ H17 { s17 with heap:=s17.heap.update a (Obj.mapSeq λa=>a.push yv),toks:=s17.toks}:=
  gI.inv.turned (it:=a) (λb o hb e=>(Heap.get?_update_other s17.heap _ (Ne.symm hb)).trans e) gI.no A.loc A.sz A.cell λp hp z=>by
   rw [A.pn,List.nil_append] at hp;exact hPB p hp z
 exact back (zs++[y]) H17 _ ⟨I18,gI.no,by rw [length_append,length_singleton];omega,its'++[yv],_,q,v12.append (.cons r17 .nil)⟩ n17
def K7 (Z:List V->Prop->Prop) (wi:TI) (g:TG) (tt:TT) (B:TB):TB:=fun σ ys H N=>wi σ H λJ H1=>∃W:Nat->Nat->List V->Hp->Prop,(∃m,W 0 m ys H1)/\∀j m zs H,W j m zs H->
  (J.stop j H/\N zs H)\/(J.go j H/\Z zs (∃N2:List V->Hp->Prop,(∀zs' H',N2 zs' H'->∃m',m'<m/\W (j+1) m' zs' H')/\∀x H',J.yld j H x H'->g x σ H' fun σ3 H2=>Keep σ σ3/\tt σ3 H2 λb H3=>br b (B σ3 zs H3 N2) (N2 zs H3)))
theorem Pd {e0 tg it:Expr}{gs:List Comprehension}{ifs:List Expr}{sc:Scope}{ps:Pos}{d:Nat}{B:TB}{C:List V->Prop}{Z:List V->Prop->Prop}{body:Value->Sem PySem.Fin} (A:EY Y a) (hx:Y.xe=λ_ _=>False) (hs:∀x,foldedSetIterable it Y.env x=pure x)
  (ht:∀itv,compTurn (.ListComp e0 gs sc ps) (d+1) itv (.ref a) Y.env=FN (.ListComp e0 gs sc ps) (d+1) tg it ifs (body itv) itv (.ref a) Y.env)
  (hst:∀ {R:Result->Shared->Prop}{s:Shared}{j:Value},codeAny (model Y.prog Y.w) Y.A (.compLoop (.ListComp e0 gs sc ps) (d+1) j (.ref a) Y.env) R s->wpAny (model Y.prog Y.w) Y.A (pyIter j) (λj' s'=>codeAny (model Y.prog Y.w) Y.A (.compLoop (.ListComp e0 gs sc ps) (d+1) j' (.ref a) Y.env) R s') (notedBy (model Y.prog Y.w) Y.A Y.env λx s'=>R (.error x) s') s->codeAny (model Y.prog Y.w) Y.A (.compStart (.ListComp e0 gs sc ps) (d+1) j (.ref a) Y.env) R s)
  (hi:PI Y tg it wi) (hg:PG Y tg g) (htt:CJ Y ifs tt) (hb:FO Y a (.ListComp e0 gs sc ps) (d+1) body C B) (hZ:∀zs p,Z zs p->C zs/\p):FO Y a (.ListComp e0 gs sc ps) d (λjt=>Jb (.ListComp e0 gs sc ps) d it jt (.ref a) Y.env) (λ_=>True) (K7 Z wi g tt B):=by
 intro jt0 PB σ ys H s N P hPB gr _ h back;obtain⟨its,k,ee,v0⟩:=gr.at';have I0:=gr.pin A ee;have base:=hi _ s σ H _ I0 h;rw [hx] at base;refine Pa hs (Ap base λv9 s9 h9=>Ap h9 λitv2 s10 h10=>?_);obtain⟨jt,fp,tn,J,H10,e10,I10,T,st10,f10,W,⟨m2,w2⟩,turn⟩:=h10;subst e10;have g10:=Ac.grown I10 gr.len v0;have ne2:∀b∈fp,b≠a/\∀p∈PB,p.1≠b:=λb hb=>by
  obtain⟨_,_,_,_,_,f5⟩:=f10 b hb;exact⟨λz=>f5 (a,Es its k) (mem_append_right _ mem_cons_self) z.symm,λp hp=>f5 p (mem_append_right _ (mem_cons_of_mem _ hp))⟩
 have fpY:∀ {o:Obj}{H':Hp},(∀b∈fp,H' b=none)->∀b∈fp,Cj Y ((a,o)::PB) H' b:=λ{o H'} hn b hb=>by
  obtain⟨_,f1,f2',f3,f4,_⟩:=f10 b hb;refine⟨hn b hb,f1,f2',f3,f4,λp hp e=>?_⟩;rw [A.pn,List.nil_append] at hp;rcases mem_cons.mp hp with rfl | hp
  ·exact(ne2 b hb).1 e.symm
  ·exact(ne2 b hb).2 p hp e
 have loop:codeAny (model Y.prog Y.w) Y.A (.compLoop (.ListComp e0 gs sc ps) (d+1) (.ref jt) (.ref a) Y.env) (λr s₆=>r= .ok .next/\P s₆) s10:=
  K5 A hPB ht hx hg htt hb hZ T (λb hb=>(ne2 b hb).1) fpY st10 g10 (λb hb=>(f10 b hb).1) w2 turn λzs H' s' G n=>⟨rfl,back zs H' s' G n⟩
 exact hst loop (T.self _ 0 _ _ _ st10 loop)
theorem K8 {X:Cx}{tg iter e0:Expr}{gs:List Comprehension}{ifs:List Expr}{scope:Scope}{pos pos':Pos}{wi:TI}{g:TG}{tt:TT}{Bt:TB}{Cd:List V->Prop} (Z:List V->Prop->Prop) {N':List Str}{cap:List (Option Nat)}{use:Option (Value->Sem Unit)}{Q':VSP}{body:Value->Value->Env->Sem PySem.Fin}
  {pins:PNs}{s:Shared}{σ:St}{H:Hp}{Q:List V->Hp->Prop}
  (hc:X.calm=true) (hi:PI X tg iter wi) (B:AH X.env.scope X.N scope N' cap) (hg:∀s H ex C,PG (A9 X N' scope s H ex C) tg g) (ht:∀s H ex C,CJ (A9 X N' scope s H ex C) ifs tt)
  (htn:∀itv acc env,compTurn (.ListComp e0 (⟨tg,iter,ifs,0⟩::gs) scope pos) 0 itv acc env=FN (.ListComp e0 (⟨tg,iter,ifs,0⟩::gs) scope pos) 0 tg iter ifs (body itv acc env) itv acc env)
  (hbd:∀s H ex C a,EY (A9 X N' scope s H ex C) a->FO (A9 X N' scope s H ex C) a (.ListComp e0 (⟨tg,iter,ifs,0⟩::gs) scope pos) 0 (λitv=>body itv (.ref a) (A9 X N' scope s H ex C).env) Cd Bt) (hZ:∀zs p,Z zs p->Cd zs/\p)
  (hs:∀x,foldedSetIterable iter X.env x=pure x) (I:Ac X pins σ H s)
  (h:wi σ H λJ H1=>∃W:Nat->Nat->List V->Hp->Prop,(∃m,W 0 m [] H1)/\∀i m ys H,W i m ys H->(J.stop i H/\Q ys H)\/(J.go i H/\Z ys (∃N:List V->Hp->Prop,(∀ys' H',N ys' H'->∃m',m'<m/\W (i+1) m' ys' H')/\∀x H',J.yld i H x H'->g x (AM cap σ) H' fun σ2 H2=>Keep (AM cap σ) σ2/\tt σ2 H2 λb H3=>br b (Bt σ2 ys H3 N) (N ys H3))))
  (fin:∀(acc C:Addr) (H:Hp) (ys:List V) (s':Shared),H acc=none->Ac X pins σ (upd H acc (.lst ys)) s'->Ja X pins C (upd H acc (.lst ys)) s'->Q ys H->compPost (model X.prog X.w) X.A X.xe use Q' (.ref acc) C (.ok .next) s'):
  wpAny (model X.prog X.w) X.A (comprehension (.ListComp e0 (⟨tg,iter,ifs,0⟩::gs) scope pos) scope X.env pos' (newList []) false (eval iter X.env) use) Q' X.xe s:=by
 have hclos:closureFor scope X.env=pure (A2 X.env.cells scope.names []):=K1 λy hy hf=>I.ok.has y.1 (B.free y hy hf)
 refine wpAny_comprehension_free (cl:=A2 X.env.cells scope.names []) rfl hs hclos B.kind B.names (Ap (hi pins s σ H _ I h) λv s1 h1=>Ap h1 λitv s2 h2=>?_);obtain⟨it,fp,tn,J,H2,e,I2,T,st2,f2,W,⟨m0,w0⟩,turn⟩:=h2;subst e;refine wpAny_newObj_type (O5 ?_);dsimp only;generalize hH3:s2.heap.push { cls:= .type "list",dict:=none,data:= .seq ([]:List Value).toArray}=h3;have hsz3:h3.objs.size=s2.heap.objs.size+1:=by rw [<-hH3];exact Heap.size_push ..
 have hk3:∀b o,s2.heap.get? b=some o->h3.get? b=some o:=λb o e=>by rw [<-hH3];exact Heap.get?_push_of_some _ e
 have hacc3:h3.get? s2.heap.objs.size=some { cls:= .type "list",data:= .seq ([]:List Value).toArray}:=by rw [<-hH3];exact Heap.get?_push_size _ rfl
 have hlt:∀b∈fp,b<s2.heap.objs.size:=λb hb=>let ⟨o,e,_⟩:=T.obj _ _ st2 b hb;Heap.lt_size e
 have I4:=O8 I2 B f2 hlt hk3 (by rw [hsz3];exact Nat.le_succ _);have acc4:(pushCells (h3.push { cls:= .type "dict",data:= .dict #[]}) scope.names).get? s2.heap.objs.size=some { cls:= .type "list",data:= .seq ([]:List Value).toArray}:=pushCells_keeps _ _ _ _ (Heap.get?_push_of_some _ hacc3);have st4:tn 0 (pushCells (h3.push { cls:= .type "dict",data:= .dict #[]}) scope.names):=T.keep _ _ _ st2 λb _ o e=>pushCells_keeps _ _ _ _ (Heap.get?_push_of_some _ (hk3 b o e))
 have haC:s2.heap.objs.size≠h3.objs.size:=by rw [hsz3];exact Nat.ne_of_lt (Nat.lt_succ_self _)
 have haN:s2.heap.objs.size ∉ AB X.stack:=λz=>by
  rcases mem_cons.mp (I2.stkSub _ z) with q | q
  ·exact absurd I2.lt (by rw [<-q];exact Nat.lt_irrefl _)
  ·exact I2.nofs (Nat.le_refl _) q
 have okY:=I4.ok;have fpY:∀ {pins':PNs}{H':Hp},(∀b∈fp,H' b=none)->(∀p∈pins',p.1=s2.heap.objs.size)->∀b∈fp,Cj (A9 X N' scope s2 H2 fp h3.objs.size) pins' H' b:=λ{pins' H'} hn hp b hb=>
  ⟨hn b hb, (okY.exf b hb).1, okY.exfs b hb, .inl hb, (okY.exf b hb).2, λp z e => by
   have z':p∈pins':=z;have:=hlt b hb;rw [<-e,hp p z'] at this;exact Nat.lt_irrefl _ this⟩
 have cellNe:∀x c,(A9 X N' scope s2 H2 fp h3.objs.size).env.cells.lookup x=some c->c≠s2.heap.objs.size:=λx c ec z=>by
  rcases FK scope.names (h3.objs.size+1) _ ec with q' | q'
  ·rw [z,hsz3] at q';exact absurd q' (by omega)
  ·have ec':X.env.cells.lookup x=some c:=(Ep _ _ q').elim id λz=>nomatch z
   obtain⟨_,q''⟩:=I2.cell x c ec';have:=q''.lt;rw [z] at this;exact Nat.lt_irrefl _ this
 have loop:∀s4:Shared,s4= { s2 with heap:=pushCells (h3.push { cls:= .type "dict",data:= .dict #[]}) scope.names}->
   codeAny (model X.prog X.w) X.A (.compLoop (.ListComp e0 (⟨tg,iter,ifs,0⟩::gs) scope pos) 0 (.ref it) (.ref s2.heap.objs.size) (K2 scope X.env h3.objs.size)) (compPost (model X.prog X.w) X.A X.xe use Q' (.ref s2.heap.objs.size) h3.objs.size) s4:=by
  rintro s4 rfl;have A0:EY (A9 X N' scope s2 H2 fp h3.objs.size) s2.heap.objs.size:=⟨haC,haN,.inr (Nat.le_refl _),cellNe,rfl,hc⟩;refine K5 (Y:=A9 X N' scope s2 H2 fp h3.objs.size) (PB:=[]) (W:=W) A0 (λp hp=>absurd hp (by simp)) (λ_=>htn _ _ _) rfl (hg _ _ _ _) (ht _ _ _ _) (hbd _ _ _ _ _ A0) hZ T (λb hb z=>absurd (hlt b hb) (by rw [z];exact Nat.lt_irrefl _))
   (λ{o H'} hn b hb=>fpY hn (λp hp=>by rw [mem_singleton.mp hp]) b hb) st4 ⟨I4,I2.hok.fresh (Nat.le_refl _),Nat.zero_le _,[],0,acc4,.nil⟩ (λb hb=>(f2 b hb).1) w0 turn λys H5 s6 G q=>?_
  obtain⟨its,k,e6,v5⟩:=G.at';have fa5:=G.no;have z5:=G.len;have I6:=G.inv;have nacc:∀b u,H5 b=some u->b≠s2.heap.objs.size:=λb u q z=>by rw [z,fa5] at q;cases q
  have un:Un (AB X.stack) fp H2 (upd H5 s2.heap.objs.size (.lst ys)) s2.heap s6.heap:=by
   have u:=I6.base;refine⟨u.keep,u.slot,λb o q n hx=>?_,u.there,λb xs q=>?_,λb o xs q=>?_,λb ps q=>?_⟩
   ·rw [Aq (Nat.ne_of_lt (Heap.lt_size q))];exact u.free b o q n hx
   ·have z:=u.tups b xs q;rw [Aq (nacc b _ z)];exact z
   ·have z:=u.frzs b o xs q;rw [Aq (nacc b _ z)];exact z
   ·obtain⟨more,z⟩:=u.tbls b ps q;exact⟨more,by rw [Aq (nacc b _ z)];exact z⟩
  have hok:HOk X.prog X.w (upd H5 s2.heap.objs.size (.lst ys)) s6.heap:=λb u q=>by
   by_cases hb:b=s2.heap.objs.size
   ·subst hb;rw [Ae] at q;cases q;exact⟨z5,its,k,v5,e6⟩
   ·rw [Aq hb] at q;have o6:ObjOk X.prog X.w H5 s6.heap b u:=I6.hok b u q;exact o6.stay (λ_ _ _ e=>e) (λc z=>by rw [Aq (nacc c _ z)];exact z) λc xs z=>by rw [Aq (nacc c _ z)];exact z
  have IX:Ac X pins σ (upd H5 s2.heap.objs.size (.lst ys)) s6:=I2.call' (show s6.os=s2.os from I6.os) un hok I6.bare λb hb=>let f:=f2 b hb;⟨f.2.2.2.1,f.2.1,f.2.2.2.2.1,f.2.2.2.2.2⟩
  have hCs:s2.heap.objs.size<=h3.objs.size:=by rw [hsz3];exact Nat.le_succ _
  refine fin _ _ H5 ys s6 fa5 IX ⟨let ⟨m,hn,_⟩:=I6.loc;⟨m,hn⟩,?_,?_,Nat.le_trans I2.sz hCs,λx c ec z=>?_,λp hp z=>?_⟩ q
  ·rw [Aq (Ne.symm haC)];exact I6.free
  ·exact Nat.ne_of_gt (Nat.lt_of_lt_of_le I2.lt hCs)
  ·obtain⟨_,q⟩:=I2.cell x c ec;have:=q.lt;rw [z] at this;exact absurd (Nat.lt_of_lt_of_le this hCs) (Nat.lt_irrefl _)
  ·have:=Heap.lt_size (I2.pin p hp).1;rw [z] at this;exact absurd (Nat.lt_of_lt_of_le this hCs) (Nat.lt_irrefl _)
 exact codeAny_compStart_list (loop _ rfl) (T.self _ 0 _ _ _ st4 (loop _ rfl))
theorem K9 {X:Cx}{tg iter elt:Expr}{ifs:List Expr}{scope:Scope}{pos pos':Pos}{wi:TI}{g:TG}{tt:TT}{te:TE}{N':List Str}{cap:List (Option Nat)}{use:Option (Value->Sem Unit)}{Q':VSP}
  {pins:PNs}{s:Shared}{σ:St}{H:Hp}{Q:List V->Hp->Prop}
  (hc:X.calm=true) (hi:PI X tg iter wi) (B:AH X.env.scope X.N scope N' cap) (hg:∀s H ex C,PG (A9 X N' scope s H ex C) tg g) (ht:∀s H ex C,CJ (A9 X N' scope s H ex C) ifs tt) (he:∀s H ex C,PE (A9 X N' scope s H ex C) elt te)
  (hs:∀x,foldedSetIterable iter X.env x=pure x) (I:Ac X pins σ H s) (h:I9 wi cap g tt te σ H Q)
  (fin:∀(acc C:Addr) (H:Hp) (ys:List V) (s':Shared),H acc=none->Ac X pins σ (upd H acc (.lst ys)) s'->Ja X pins C (upd H acc (.lst ys)) s'->Q ys H->compPost (model X.prog X.w) X.A X.xe use Q' (.ref acc) C (.ok .next) s'):
  wpAny (model X.prog X.w) X.A (comprehension (.ListComp elt [⟨tg,iter,ifs,0⟩] scope pos) scope X.env pos' (newList []) false (eval iter X.env) use) Q' X.xe s:=
 K8 K4 (body:=λitv acc env=>GE (.ListComp elt [⟨tg,iter,ifs,0⟩] scope pos) 0 elt itv acc env) (Bt:=Jc te) hc hi B hg ht (λ_ _ _=>rfl) (λs H ex C a A=>K6 A rfl (he s H ex C)) (λ_ _ z=>z) hs I h fin
def Pe (wi:TI) (cap:List (Option Nat)) (g:TG) (tt:TT) (te:TE):TE:=fun σ H Q=>I9 wi cap g tt te σ H λys H'=>∀p,H' p=none->Q (.ref p) (upd H' p (.lst ys))
theorem A4 {X:Cx}{tg iter elt:Expr}{ifs:List Expr}{scope:Scope}{pos:Pos}{wi:TI}{g:TG}{tt:TT}{te:TE} (N':List Str) (cap:List (Option Nat))
  (hc:X.calm=true) (hi:PI X tg iter wi) (B:AH X.env.scope X.N scope N' cap) (hg:∀s H ex C,PG (A9 X N' scope s H ex C) tg g) (ht:∀s H ex C,CJ (A9 X N' scope s H ex C) ifs tt) (he:∀s H ex C,PE (A9 X N' scope s H ex C) elt te)
  (hs:∀x,foldedSetIterable iter X.env x=pure x:=by intro _;rfl):PE X (.ListComp elt [⟨tg,iter,ifs,0⟩] scope pos) (Pe wi cap g tt te):=by
 intro pins s σ H Q I h;rw [eval_ListComp];refine K9 (use:=none) hc hi B hg ht he hs I h λacc C H ys s' hn I' L q=>?_
 obtain⟨m,hm⟩:=L.ns;refine⟨m,hm,λh' hsb=>⟨.ref acc,_,I'.turned (t':=s'.toks) (it:=C) (λb o hb e=>hsb.extBut b o hb e) L.free L.loc (.inr L.sz) L.cell L.pin,rfl,q acc hn⟩⟩
def Pf (i:Nat) (wi:TI) (cap:List (Option Nat)) (g:TG) (tt:TT) (te:TE):TS:=λD σ H=>I9 wi cap g tt te σ H λys H'=>∀p,H' p=none->D.nx (σ.set i (some (.ref p))) (upd H' p (.lst ys))
theorem Jd {X:Cx}{i:Nat}{y:Str}{tg iter elt:Expr}{ifs:List Expr}{scope:Scope}{pos pos' pos'':Pos} (N':List Str) (cap:List (Option Nat)) (hN:X.N.Nodup) (hin:X.N[i]? =some y) (hy:DQ X.env.scope y)
  (hc:X.calm=true) (hi:PI X tg iter wi) (B:AH X.env.scope X.N scope N' cap) (hg:∀s H ex C,PG (A9 X N' scope s H ex C) tg g) (ht:∀s H ex C,CJ (A9 X N' scope s H ex C) ifs tt) (he:∀s H ex C,PE (A9 X N' scope s H ex C) elt te)
  (hsw:swapsWith (.ListComp elt [⟨tg,iter,ifs,0⟩] scope pos) (some (.Name y pos')) pos''.line X.env=pure true:=by rfl)
  (hf:X.fn y=true\/X.env.scope.names.lookup y=some .local :=by first | exact .inl rfl | exact .inr rfl | assumption)
  (hs:∀x,foldedSetIterable iter X.env x=pure x:=by intro _;rfl):PS X (.Assign [.Name y pos'] (.ListComp elt [⟨tg,iter,ifs,0⟩] scope pos) pos'') (Pf i wi cap g tt te):=by
 intro pins s σ H D I h;rw [exec_Assign_Name_used _ _ _ _ hsw];refine wpAny_bind (wpAny_standAt (wpAny_bind ?_));show wpAny _ X.A (do let _<-comprehension (.ListComp elt [⟨tg,iter,ifs,0⟩] scope pos) scope X.env _ (newList []) false (eval iter X.env) (some (assign (.Name y pos') X.env))) _ _ s;refine wpAny_bind (wpAny_mono (K9 (use:=some (assign (.Name y pos') X.env)) (Q':=λ_ s'=>SP X pins D .next s') hc hi B hg ht he hs I h λacc C H ys s' hn I' L q=>?_) (λ_ s' hq=>wpAny_pure (wpAny_pure hq)) λ_ _ e=>e);obtain⟨m,hm⟩:=L.ns;refine wpAny_assign_Name (Iz I' hN hin hy (show RelV (.ref acc) (.ref acc) from rfl) (λs'' I'' ⟨a,sb,ha⟩=>?_) hf);have hCa:C≠a:=by
  rcases ha with e | e
  ·rw [e];exact L.loc
  ·exact λz=>L.cell _ _ e z.symm
 refine⟨m,hm.sameBut sb hCa,λh' hsb=>?_⟩;exact⟨_,_,I''.turned (t':=s''.toks) (it:=C) (λb o hb e=>hsb.extBut b o hb e) L.free L.loc (.inr L.sz) L.cell L.pin,q acc hn⟩
def Et (J:It) (cap:List (Option Nat)) (g:TG) (tt:TT) (te:TE) (σ:St) (Q:List V->Hp->Prop) (H1:Hp):Prop:=
 ∃W:Nat->Nat->List V->Hp->Prop,(∃m,W 0 m [] H1)/\∀i m ys H,W i m ys H->
  (J.stop i H/\Q ys H)\/
  (J.go i H /\ ys.length < sizeLine /\ ∃ N : List V -> Hp -> Prop, (∀ ys' H', N ys' H' -> ∃ m', m' < m /\ W (i + 1) m' ys' H') /\ ∀ x H', J.yld i H x H' -> g x (AM cap σ) H' fun σ2 H2 => Keep (AM cap σ) σ2 /\ tt σ2 H2 λb H3 =>
   br b (te σ2 H3 λy H4=>N (ys++[y]) H4) (N ys H3))
theorem EZ {J:It} (n:Nat) (Pv:Nat->List V->Hp->Prop) (hn:n<=100000) (h0:Pv 0 [] H) (hz:∀i ys H,Pv i ys H->ys.length<=i)
  (hs:∀i ys H,i<n->Pv i ys H->J.go i H/\∀x H',J.yld i H x H'->g x (AM cap σ) H' fun σ2 H2=>Keep (AM cap σ) σ2/\tt σ2 H2 λb H3=>br b (te σ2 H3 λy H4=>Pv (i+1) (ys++[y]) H4) (Pv (i+1) ys H3))
  (hd:∀ys H,Pv n ys H->J.stop n H/\Q ys H):Et J cap g tt te σ Q H:=by
 refine⟨λi m ys H=>m=n-i/\i<=n/\Pv i ys H,⟨n,by simp,Nat.zero_le _,h0⟩,?_⟩;rintro i m ys H ⟨rfl,hi,p⟩
 by_cases hlt:i<n
 ·obtain⟨a,b⟩:=hs i ys H hlt p;refine .inr ⟨a,?_,Pv (i+1),λys' H' p'=>⟨n-(i+1),by omega,rfl,hlt,p'⟩,b⟩;have:=hz i ys H p;have:(100000:Nat)<sizeLine:=by decide
  omega
 ·have e:i=n:=by omega
  subst e;exact .inl (hd ys H p)
theorem BF {K:Fgx} (Pv:Nat->List V->Hp->Prop) (hn:xs.length<=100000) (h0:Pv 0 [] H) (hz:∀i ys H,Pv i ys H->ys.length<=i)
  (hl:∀i ys H,i<=xs.length->Pv i ys H->Ag K H a xs)
  (hs:∀i x ys H,xs[i]? =some x->Pv i ys H->g x (AM cap σ) H fun σ2 H2=>Keep (AM cap σ) σ2/\tt σ2 H2 λb H3=>br b (te σ2 H3 λy H4=>Pv (i+1) (ys++[y]) H4) (Pv (i+1) ys H3))
  (hd:∀ys H,Pv xs.length ys H->Q ys H):Et (ES K a) cap g tt te σ Q H:=
 EZ xs.length Pv hn h0 hz (λi ys H hi p=>⟨⟨xs,xs[i],hl i ys H (Nat.le_of_lt hi) p,by simp [hi]⟩,λx H' ⟨e,y⟩=>by subst e;exact hs i x ys _ (y xs (hl i ys _ (Nat.le_of_lt hi) p)) p⟩)
  λys H p=>⟨⟨xs,hl _ ys H (Nat.le_refl _) p,Nat.le_refl _⟩,hd ys H p⟩
theorem Dy {K:Fgx} (Pv:Nat->List V->Hp->Prop) (hn:xs.length<=100000) (h0:Pv 0 [] H) (hz:∀i ys H,Pv i ys H->ys.length<=i)
  (hl:∀i ys H,i<=xs.length->Pv i ys H->Ai K H a xs)
  (hs:∀i x ys H,xs[i]? =some x->Pv i ys H->g x (AM cap σ) H fun σ2 H2=>Keep (AM cap σ) σ2/\tt σ2 H2 λb H3=>br b (te σ2 H3 λy H4=>Pv (i+1) (ys++[y]) H4) (Pv (i+1) ys H3))
  (hd:∀ys H,Pv xs.length ys H->Q ys H):Et (ER K a) cap g tt te σ Q H:=
 EZ xs.length Pv hn h0 hz (λi ys H hi p=>⟨⟨xs,xs[i],hl i ys H (Nat.le_of_lt hi) p,by simp [hi]⟩,λx H' ⟨e,y⟩=>by subst e;exact hs i x ys _ (y xs (hl i ys _ (Nat.le_of_lt hi) p)) p⟩)
  λys H p=>⟨⟨xs,hl _ ys H (Nat.le_refl _) p,Nat.le_refl _⟩,hd ys H p⟩
theorem GG {lo:Int}{n:Nat} (Pv:Nat->List V->Hp->Prop) (hn:n<=100000) (h0:Pv 0 [] H) (hz:∀i ys H,Pv i ys H->ys.length<=i)
  (hs:∀i ys H,i<n->Pv i ys H->g (.int (lo+i)) (AM cap σ) H fun σ2 H2=>Keep (AM cap σ) σ2/\tt σ2 H2 λb H3=>br b (te σ2 H3 λy H4=>Pv (i+1) (ys++[y]) H4) (Pv (i+1) ys H3))
  (hd:∀ys H,Pv n ys H->Q ys H):Et (C8 lo n) cap g tt te σ Q H:=
 EZ n Pv hn h0 hz (λi ys H hi p=>⟨hi,λx H' ⟨e,y⟩=>by subst e y;exact hs i ys _ hi p⟩) λys H p=>⟨Nat.le_refl _,hd ys H p⟩
end L2
end
section
namespace L2
open AutoSeq1 (wpAny_loadPart')
section
variable {prog : Program} {w : World} {A : Around} {E : Value -> Shared -> Prop} {s : Shared}
theorem Pg {it t:Addr}{i:Nat}{items:Array Value}{x:Value}{Q:VSP} (hit:s.heap.IsTupleIter it t i) (ht:s.heap.IsTuple t items) (hx:items[i]? =some x)
  (hQ:∀h',h'.IsTupleIter it t (i+1)->Heap.SameBut it s.heap h'->Q x { s with heap:=h'}):wpAny (model prog w) A (Builtin.SmallTypes.nextOf (.ref it)) Q E s:=by
 obtain⟨o,ho,hc,hd⟩:=id hit;obtain⟨ol,hol,_,nl,hdl⟩:=ht;unfold Builtin.SmallTypes.nextOf;refine wpAny_bind (wpAny_callSpecial?_slot (name:=Str.ofString "__next__") hit.typeIs F.slot_tuple_iterator_next (wpAny_call_entry F.slot_tuple_iterator_next hit.typeIs F.entry_tuple_iterator_next ?_ (F.args_tuple_iterator_next_1 _)));show wpAny _ _ (field (.ref it) 0>>=_) _ _ s;refine wpAny_bind (wpAny_field ho hd (x:= .ref t) rfl ?_);show wpAny _ _ (if (Value.ref t==Value.none)=true then _ else _) _ _ s;rw [if_neg (show ¬((Value.ref t==Value.none)=true) from Bool.false_ne_true)];show wpAny _ _ (field (.ref it) 1>>=_) _ _ s;refine wpAny_bind (wpAny_field ho hd (x:= .int i 0) rfl ?_);show wpAny _ _ (seqItems? (.ref t) >>=_) _ _ s;refine wpAny_bind (wpAny_seqItems hol hdl ?_);simp only [Int.toNat_natCast,hx];refine wpAny_bind (wpAny_setField ho hd (by simp) (wpAny_pure ⟨x,rfl,wpAny_pure (hQ _ ?_ (Heap.SameBut.update ..))⟩));exact⟨_,Heap.get?_update_self _ ho (Obj.isFreed_of_fields (Obj.data_mapFields hd _)),(Obj.cls_mapFields ..).trans hc,by rw [Obj.data_mapFields hd];simp [rawInt]⟩
theorem Ph {it t:Addr}{i:Nat}{items:Array Value}{Q:VSP} (hh:A.handled=none) (hit:s.heap.IsTupleIter it t i) (ht:s.heap.IsTuple t items) (hx:items[i]? =none)
  (hE:∀h' e,Heap.ExtBut it s.heap h'->(∃o,h'.get? e=some o/\o.cls= .type "StopIteration")->E (.ref e) { s with heap:=h'}):wpAny (model prog w) A (Builtin.SmallTypes.nextOf (.ref it)) Q E s:=by
 obtain⟨o,ho,hc,hd⟩:=id hit;obtain⟨ol,hol,_,nl,hdl⟩:=ht;unfold Builtin.SmallTypes.nextOf;refine wpAny_bind (wpAny_callSpecial?_slot (name:=Str.ofString "__next__") hit.typeIs F.slot_tuple_iterator_next (wpAny_call_entry F.slot_tuple_iterator_next hit.typeIs F.entry_tuple_iterator_next ?_ (F.args_tuple_iterator_next_1 _)));show wpAny _ _ (field (.ref it) 0>>=_) _ _ s;refine wpAny_bind (wpAny_field ho hd (x:= .ref t) rfl ?_);show wpAny _ _ (if (Value.ref t==Value.none)=true then _ else _) _ _ s;rw [if_neg (show ¬((Value.ref t==Value.none)=true) from Bool.false_ne_true)];show wpAny _ _ (field (.ref it) 1>>=_) _ _ s;refine wpAny_bind (wpAny_field ho hd (x:= .int i 0) rfl ?_);show wpAny _ _ (seqItems? (.ref t) >>=_) _ _ s;refine wpAny_bind (wpAny_seqItems hol hdl ?_);simp only [Int.toNat_natCast,hx];refine wpAny_bind (wpAny_rule (wpAny_bind (wpAny_setField ho hd (by simp) ?_)));show wpAny _ _ (newExc (.type "StopIteration") [] >>=_) _ _ _;refine wpAny_bind ?_;simp only [newExc,newTuple];refine wpAny_bind (wpAny_newObj_type ?_ (by size_fits));refine wpAny_bind (m:=firstArgMember _ _) (wpAny_of_eq (a:=Value.none) (by first | rfl | (simp only [firstArgMember];rfl)) ?_);refine wpAny_newObj_type ?_ (by size_fits);simp only [raiseNew];refine wpAny_bind (wpAny_handled ?_);first | rw [show A.in1.handled=none from hh] | rw [hh]
 refine wpAny_bind (wpAny_pure (wpAny_throw ?_));exact hE _ _ (((Heap.SameBut.update ..).extBut.push _).push _) ⟨_,Heap.get?_push_size _ rfl,rfl⟩
end
structure Bl (P:Program) (w:World) (K:Fgx) where
 Sq:Hp->Addr->List V->Prop
 It:Heap->Addr->Addr->Nat->Prop
 Is:Heap->Addr->Array Value->Prop
 obj:Addr->Obj
 get:∀ {X:Cx}{pins:PNs}{σ:St}{H:Hp}{s:Shared}{a:Addr}{xs:List V},X.K=K->Ac X pins σ H s->Sq H a xs->∃its:List Value,As xs its/\Is s.heap a its.toArray/\xs.length<=sizeLine
 inj:∀ {X:Cx}{pins:PNs}{σ:St}{H:Hp}{s:Shared}{a:Addr}{xs ys:List V},X.K=K->Ac X pins σ H s->Sq H a xs->Sq H a ys->xs=ys
 draws:∀(A:Around),A.handled=none->∀(it l:Addr),l≠it->∀items:Array Value,Draws P w A it [it,l] items.size (λi v=>items[i]? =some v) (λi h=>It h it l i/\Is h l items)
 ito:∀ {h:Heap}{it l:Addr}{i:Nat},It h it l i->∃o,h.get? it=some o/\∀v,o.data≠ .cell v
 itk:∀ {h h':Heap}{it l:Addr}{i:Nat},It h it l i->(∀o,h.get? it=some o->h'.get? it=some o)->It h' it l i
 isk:∀ {h h':Heap}{l:Addr}{items:Array Value},Is h l items->(∀o,h.get? l=some o->h'.get? l=some o)->Is h' l items
 iso:∀ {h:Heap}{l:Addr}{items:Array Value},Is h l items->∃o,h.get? l=some o
 ok:Prop
 itn:ok->∀(h:Heap) (l:Addr),It (h.push (obj l)) h.objs.size l 0
def Eu (P:Program) (w:World) (K:Fgx):Bl P w K where
 Sq:=λH a xs=>Ai K H a xs
 It:=λh it l i=>h.IsListIter it l i
 Is:=λh l items=>h.IsList l items
 obj:=λl=> { cls:= .type "list_iterator",data:= .fields #[.ref l,.int 0 0]}
 get:=λ{X pins σ H s a xs} hK I q=>by subst hK;obtain⟨its,r,p,z⟩:=I.list q;exact⟨its,r,p.isList,z⟩
 inj:=λ{X pins σ H s a xs ys} hK I q q'=>by subst hK;exact I.list_inj q q'
 draws:=λA hh it l hne items=>Draws.list hh it l hne items
 ito:=λ{h it l i} ⟨o,e,c,d⟩=>⟨o,e,λv z=>by rw [d] at z;cases z⟩
 itk:=λ{h h' it l i} x k=>x.at k
 isk:=λ{h h' l items} x k=>x.at k
 iso:=λ{h l items} ⟨o,e,_⟩=>⟨o,e⟩
 ok:=True
 itn:=λ_ h l=>⟨_,Heap.get?_push_size _ rfl,rfl,rfl⟩
def CK (P:Program) (w:World) (K:Fgx):Bl P w K where
  Sq:=λH a xs=>Ag K H a xs
  It:=λh it l i=>h.IsTupleIter it l i
  Is:=λh l items=>h.IsTuple l items
  obj:=λl=> { cls:= .type "tuple_iterator",data:= .fields #[.ref l,.int 0 0]}
  get:=λ{X pins σ H s a xs} hK I q=>by subst hK;obtain⟨its,r,p,z⟩:=I.tuple q;exact⟨its,r,p,z⟩
  inj:=λ{X pins σ H s a xs ys} hK I q q'=>by subst hK;exact I.tuple_inj q q'
  draws:=λA hh it l hne items=>
    { live:=λ_ _ st=>let ⟨o,ho,_⟩:=st.1;⟨o,ho⟩
      frame:=λ_ _ _ st hk=>⟨let ⟨o,e,r⟩:=st.1;⟨o,hk it (by simp) o e,r⟩,let ⟨o,e,r⟩:=st.2;⟨o,hk l (by simp) o e,r⟩⟩
      item:=λi s Q E hi st hQ=>Pg st.1 st.2 (x:=items[i]) (by simp [hi]) λh' hit' hs'=>hQ _ h' s.toks (by simp [hi]) ⟨hit',st.2.extBut hs'.extBut hne⟩ hs'
      done:=λs Q E st hE=>Ph hh st.1 st.2 (by simp) hE}
  ito:=λ{h it l i} ⟨o,e,c,d⟩=>⟨o,e,λv z=>by rw [d] at z;cases z⟩
  itk:=λ{h h' it l i} ⟨o,e,r⟩ k=>⟨o,k o e,r⟩
  isk:=λ{h h' l items} ⟨o,e,r⟩ k=>⟨o,k o e,r⟩
  iso:=λ{h l items} ⟨o,e,_⟩=>⟨o,e⟩
  ok:=True
  itn:=λ_ h l=>⟨_,Heap.get?_push_size _ rfl,rfl,rfl⟩
end L2
end
section
namespace L2
variable {X : Cx} {pins : List (Addr × Obj)} {σ : St} {H : Hp} {s : Shared} {wr : List Addr} {h' : Heap} {k : Nat} {p pos pos' : Pos} {a : Expr} {ta : TA}
open AutoSeq1 (wpAny_loadPart')
theorem Ac.yielded {tk:Nat}{T:Addr}{vs:List V}{us:List Value} (I:Ac X pins σ H s) (hf:∀b∈wr,Cj X pins H b)
  (k:∀b o,b ∉ wr->s.heap.get? b=some o->h'.get? b=some o) (hT:s.heap.objs.size<=T) (ht:IsTup h' T us.toArray) (rv:As vs us) (hz:vs.length<=sizeLine):
  Ac X pins σ (upd H T (.tup vs)) { s with heap:=h',toks:=tk}:=by
 have hfr:H T=none:=I.hok.fresh hT;have nT:∀b u,H b=some u->b≠T:=λb u e=>Bu e hfr
 have nW:∀b u,H b=some u->b ∉ wr:=λb u e z=>by have:=(hf b z).1;rw [e] at this;cases this
 refine I.step (g':=s.gens) (d':=s.drawn) (ch:=wr) (λb hb=>let f:=hf b hb;⟨f.2.2.2.1,f.2.1,f.2.2.2.2.1,f.2.2.2.2.2⟩) (λb o _ _ hc e _=>k b o hc e) (λb o _ _ hc e _=>⟨o.slots,k b o hc e⟩)
  (λb o hc e n=>?_) (λb o hc e=>⟨o,k b o hc e⟩) (λb xs e=>by rw [Aq (nT b _ e)];exact e) (λb o xs e=>by rw [Aq (nT b _ e)];exact e) (λb ps e=>⟨#[],by rw [Aq (nT b _ e),e];simp⟩) (λm hm=>?_) (λb u e=>?_) I.bare
 ·rw [Aq (Nat.ne_of_lt (Nat.lt_of_lt_of_le (Heap.lt_size e) hT))];exact n
 ·obtain⟨o,es,ep,ho,r⟩:=hm;exact⟨o,es,ep,k _ o (λz=>(hf _ z).2.1 rfl) ho,r⟩
 ·by_cases hb:b=T
  ·subst hb;rw [Ae] at e;cases e;exact⟨hz,us,rv,ht⟩
  ·rw [Aq hb] at e;refine(I.hok b u e).stay (λc v hc q=>k c v ?_ q) (λc q=>by rw [Aq (nT c _ q)];exact q) λc xs q=>by rw [Aq (nT c _ q)];exact q
   rcases hc with z | z
   ·rw [z];exact nW b u e
   ·exact nW c _ z
theorem Ac.ended {tk:Nat} (I:Ac X pins σ H s) (hf:∀b∈wr,Cj X pins H b)
  (k:∀b o,b ∉ wr->s.heap.get? b=some o->h'.get? b=some o):Ac X pins σ H { s with heap:=h',toks:=tk}:=by
 have nW:∀b u,H b=some u->b ∉ wr:=λb u e z=>by have:=(hf b z).1;rw [e] at this;cases this
 refine I.step (g':=s.gens) (d':=s.drawn) (ch:=wr) (λb hb=>let f:=hf b hb;⟨f.2.2.2.1,f.2.1,f.2.2.2.2.1,f.2.2.2.2.2⟩) (λb o _ _ hc e _=>k b o hc e) (λb o _ _ hc e _=>⟨o.slots,k b o hc e⟩)
  (λb o hc e n=>n) (λb o hc e=>⟨o,k b o hc e⟩) (λb xs e=>e) (λb o xs e=>e) (λb ps e=>⟨#[],by rw [e];simp⟩) (λm hm=>?_) (λb u e=>?_) I.bare
 ·obtain⟨o,es,ep,ho,r⟩:=hm;exact⟨o,es,ep,k _ o (λz=>(hf _ z).2.1 rfl) ho,r⟩
 ·refine(I.hok b u e).stay (λc v hc q=>k c v ?_ q) (λc q=>q) λc xs q=>q
  rcases hc with z | z
  ·rw [z];exact nW b u e
  ·exact nW c _ z
def E1 {P:Program}{w:World}{K:Fgx} (S:Bl P w K) (a:Addr):It:=
 ⟨λi H=>∃xs x,S.Sq H a xs/\xs[i]? =some x,λi H v H'=>∃T,v= .ref T/\H T=none/\∀xs x,S.Sq H a xs->xs[i]? =some x->H'=upd H T (.tup [.int i,x]),λi H=>∃xs,S.Sq H a xs/\xs.length=i⟩
theorem La {P:Program}{w:World}{K:Fgx} (S:Bl P w K) {es:List Expr}{k:Nat}{pos:Pos} (a e it:Addr) (hei:e≠it) (hai:a≠it) (hae:a≠e):
  DS P w K (.Tuple es k pos) (E1 S a) [e,it] e (λi h=>(∃old,IsEnum h e it (i:Nat) old)/\S.It h it a i) where
 mem:=by simp
 obj:=λi h st b hb=>by
  obtain⟨⟨old,he⟩,hi⟩:=st;rcases mem_cons.mp hb with z | hb
  ·rw [z];exact⟨_,he,λv z=>by
    have z':Data.fields _=Data.cell v:=z;cases z'⟩
  ·rw [mem_singleton.mp hb];exact S.ito hi
 keep:=λi h h' st kk=>by
  obtain⟨⟨old,he⟩,hi⟩:=st;exact⟨⟨old,kk e (by simp) _ he⟩,S.itk hi λo q=>kk it (by simp) o q⟩
 item:=by
  intro X hP hw hK hc i pins s σ H E I hf st hg;subst hP hw;obtain⟨xs,x,hq,hx⟩:=hg;obtain⟨its,rv,is,hz⟩:=S.get hK I hq;obtain⟨u,hu,ru⟩:=rv.get hx;have W:=WalksT.enumerateD (S.draws X.A.in1 (I.ok.hd hc) it a hai its.toArray) e hei (by simp [hei,Ne.symm hae]) (by simp);have hi:i<its.toArray.size:=by have:=(List.getElem?_eq_some_iff.mp hu).1;simpa using this
  refine W.item i s _ _ hi ⟨st.1,st.2,is⟩ λT vals h1 tk hp hT htup hmid hk=>⟨_,rfl,?_⟩
  obtain⟨t,y,hy,hv⟩:=hp;have ey:y=u:=by
   have q:its.toArray[i]? =some u:=by simpa using hu
   rw [q] at hy;exact(Option.some.inj hy).symm
  subst ey hv;refine W.go es k pos i T { s with heap:=h1,toks:=tk} _ _ hmid λh2 st2 hk2=>?_
  have kk:∀b o,b ∉ [e,it]->s.heap.get? b=some o->h2.get? b=some o:=λb o hb q=>hk2 b o hb (hk b o hb q)
  have htup2:IsTup h2 T [Value.int i t,y].toArray:=by
   obtain⟨o,q,r⟩:=htup;exact⟨o,hk2 T o (W.apart i T h1 hmid) q,r⟩
  exact⟨.ref T,upd H T (.tup [.int i,x]),I.yielded (tk:=tk) (λb hb=>hf b hb) kk hT htup2 (.cons ⟨t,rfl⟩ (.cons ru .nil)) (by show 2<=sizeLine;decide),rfl,
   ⟨T, rfl, I.hok.fresh hT, λys z hy hz => by
    rw [S.inj hK I hy hq,hx] at hz;cases hz;rfl⟩,⟨st2.1,st2.2.1⟩,λb hb=>by
    have hbt:b<s.heap.objs.size:=by
     rcases mem_cons.mp hb with z | hb
     ·rw [z];obtain⟨old,q⟩:=st.1;exact Heap.lt_size q
     ·rw [mem_singleton.mp hb];obtain⟨o,q,_⟩:=S.ito st.2;exact Heap.lt_size q
    rw [Aq (Nat.ne_of_lt (Nat.lt_of_lt_of_le hbt hT))];exact(hf b hb).1⟩
 done:=by
  intro X hP hw hK hc i pins s σ H E I hf st hg;subst hP hw;obtain⟨xs,hq,hx⟩:=hg;obtain⟨its,rv,is,hz⟩:=S.get hK I hq;have W:=WalksT.enumerateD (S.draws X.A.in1 (I.ok.hd hc) it a hai its.toArray) e hei (by simp [hei,Ne.symm hae]) (by simp);have hn:its.toArray.size=i:=by have:=rv.length;simp;omega
  rw [hn] at W;exact W.done s _ _ ⟨st.1,st.2,is⟩ λh' tk hk=>⟨rfl,I.ended (tk:=tk) (λb hb=>hf b hb) hk⟩
 self:=λ_ _ _ _ _ st h=>by
  obtain⟨⟨old,he⟩,_⟩:=st;exact wpAny_pyIter_enum he h
theorem Pi (l:Addr) (items:Array Value):
    Meets (Builtin.«enumerate.__new__» ⟨[.type "enumerate",.ref l],[]⟩) (λ_ R s=>s.heap.IsTuple l items/\R (.ok (.ret (.ref (s.heap.push { cls:= .type "tuple_iterator",data:= .fields #[.ref l,.int 0 0]}).objs.size)))
        { s with heap:=(s.heap.push { cls:= .type "tuple_iterator",data:= .fields #[.ref l,.int 0 0]}).push { cls:= .type "enumerate",data:= .fields #[.none,.bool false,.ref s.heap.objs.size,rawInt 0,.none,.none]}}):=
  .of_wp λprog w A R s h=>by
    obtain⟨hp,g,d,tk,os⟩:=s;obtain⟨hl0,h⟩:=h;obtain⟨⟨c0,dct,dt,sl⟩,hl,hc0,n,hd0⟩:=id hl0;replace hc0:c0= .type "tuple" :=hc0;replace hd0:dt= .seq items n:=hd0;subst hc0 hd0;have hsub:=sub_enumerate;have hL:Heap.IsTuple (Shared.heap ⟨hp,g,d,tk,os⟩) l items:=⟨_,hl,rfl,n,rfl⟩
    wp_walk using wpAny_loadPart' hl
    refine wpAny_stack_any λst=>wpAny_pure ?_;split
    . rename_i c _ _ _ _ _;cases(c==Value.type "enumerate")
      . wp_walk using wpAny_loadPart' hl,wpAny_pyIter_tuple hL;exact⟨_,rfl,h⟩
      . wp_walk using wpAny_loadPart' hl,wpAny_pyIter_tuple hL;exact⟨_,rfl,h⟩
    . wp_walk using wpAny_loadPart' hl,wpAny_pyIter_tuple hL;exact⟨_,rfl,h⟩
theorem Pj {prog:Program}{w:World}{A:Around}{E:VSP}{s:Shared}{l:Addr}{items:Array Value}{Q:VSP} (hL:s.heap.IsTuple l items)
  (h:∀h',IsEnum h' (s.heap.objs.size+1) s.heap.objs.size 0 .none->h'.IsTupleIter s.heap.objs.size l 0->h'.objs.size=s.heap.objs.size+2->(∀b o,s.heap.get? b=some o->h'.get? b=some o)->Q (.ref (s.heap.objs.size+1)) { s with heap:=h'}):
  wpAny (model prog w) A (call (.type "enumerate") [.ref l]) Q E s:=by
 refine callType_new F.called_enumerate (by decide) (F.typeCall_enumerate_1 _) (F.newCall_enumerate_1 _) (λobj=>F.args_object_init_2 obj _) F.entry_enumerate_new (Pi l items) ⟨hL,?_⟩;have hz:(s.heap.push { cls:= .type "tuple_iterator",data:= .fields #[.ref l,.int 0 0]}).objs.size=s.heap.objs.size+1:=Heap.size_push ..;show _/\_;rw [hz];have he:IsEnum ((s.heap.push { cls:= .type "tuple_iterator",data:= .fields #[.ref l,.int 0 0]}).push { cls:= .type "enumerate",data:= .fields #[.none,.bool false,.ref s.heap.objs.size,rawInt 0,.none,.none]}) (s.heap.objs.size+1) s.heap.objs.size 0 .none:=by
  have:=Heap.get?_push_size (s.heap.push { cls:= .type "tuple_iterator",data:= .fields #[.ref l,.int 0 0]}) (o:= { cls:= .type "enumerate",data:= .fields #[.none,.bool false,.ref s.heap.objs.size,rawInt 0,.none,.none]}) rfl;rw [hz] at this;exact this
 exact⟨⟨_,he,rfl⟩,h _ he ⟨_,Heap.get?_push_of_some _ (Heap.get?_push_size _ rfl),rfl,rfl⟩ (by rw [Heap.size_push,hz]) λb o x=>Heap.get?_push_of_some _ (Heap.get?_push_of_some _ x)⟩
def GH {P:Program}{w:World}{K:Fgx} (S:Bl P w K) (ta:TA):TI:=fun σ H R=>ta σ H λvs H1=>∃a,vs=[.ref a]/\(∃xs,S.Sq H1 a xs)/\R (E1 S a) H1
theorem Pk {es:List Expr} (hg:Gl X "enumerate") (hm:X.mg "enumerate"=none) (ha:PA X [a] ta) (hs:starEach [a] X.env=[(false,eval a X.env)]:=by rfl):
  PI X (.Tuple es k pos') (.Call (.Name "enumerate" p) [a] [] pos) (GH (Eu X.prog X.w X.K) ta):=by
 intro pins s σ H R I h;refine Call_ (DR I hg hm boot_enumerate (PyProof.Rows.callWith_type1 (Ap (ha pos pins s σ H _ I h) λus s1 ⟨vs,H1,I1,r1,q1⟩=>?_) hs rfl));obtain⟨l,e,⟨xs,hq⟩,q⟩:=q1;subst e;obtain⟨u,rfl,ru⟩:=r1.one;cases ru;obtain⟨its,rv,is,hz⟩:=I1.list hq;obtain⟨ol,hol⟩:=(Eu X.prog X.w X.K).iso is.isList;have hlt:=Heap.lt_size hol;refine call_enumerate_list is.isList λh' hE hI hsz hk=>?_
 have I2:Ac X pins σ H1 { s1 with heap:=h'}:=I1.kept (t':=s1.toks) hk;refine wpAny_pyIter_enum hE ⟨s1.heap.objs.size+1,[s1.heap.objs.size+1,s1.heap.objs.size],_,_,H1,rfl,I2,La (Eu X.prog X.w X.K) l (s1.heap.objs.size+1) s1.heap.objs.size (Nat.succ_ne_self _) (Nat.ne_of_lt hlt) (Nat.ne_of_lt (Nat.lt_succ_of_lt hlt)),⟨⟨_,hE⟩,hI⟩,λb hb=>?_,q⟩;rcases mem_cons.mp hb with z | hb
 ·rw [z];exact I1.fpOk (Nat.le_succ _) (I1.hok.fresh (Nat.le_succ _))
 ·rw [mem_singleton.mp hb];exact I1.fpOk (Nat.le_refl _) (I1.hok.fresh (Nat.le_refl _))
theorem Pl {es:List Expr} (hg:Gl X "enumerate") (hm:X.mg "enumerate"=none) (ha:PA X [a] ta) (hs:starEach [a] X.env=[(false,eval a X.env)]:=by rfl):
  PI X (.Tuple es k pos') (.Call (.Name "enumerate" p) [a] [] pos) (GH (CK X.prog X.w X.K) ta):=by
 intro pins s σ H R I h;refine Call_ (DR I hg hm boot_enumerate (PyProof.Rows.callWith_type1 (Ap (ha pos pins s σ H _ I h) λus s1 ⟨vs,H1,I1,r1,q1⟩=>?_) hs rfl));obtain⟨l,e,⟨xs,hq⟩,q⟩:=q1;subst e;obtain⟨u,rfl,ru⟩:=r1.one;cases ru;obtain⟨its,rv,is,hz⟩:=I1.tuple hq;obtain⟨ol,hol,hol2⟩:=id is;have hlt:=Heap.lt_size hol;refine Pj (items:=its.toArray) ⟨ol,hol,hol2⟩ λh' hE hI hsz hk=>?_
 have I2:Ac X pins σ H1 { s1 with heap:=h'}:=I1.kept (t':=s1.toks) hk;refine wpAny_pyIter_enum hE ⟨s1.heap.objs.size+1,[s1.heap.objs.size+1,s1.heap.objs.size],_,_,H1,rfl,I2,La (CK X.prog X.w X.K) l (s1.heap.objs.size+1) s1.heap.objs.size (Nat.succ_ne_self _) (Nat.ne_of_lt hlt) (Nat.ne_of_lt (Nat.lt_succ_of_lt hlt)),⟨⟨_,hE⟩,hI⟩,λb hb=>?_,q⟩;rcases mem_cons.mp hb with z | hb
 ·rw [z];exact I1.fpOk (Nat.le_succ _) (I1.hok.fresh (Nat.le_succ _))
 ·rw [mem_singleton.mp hb];exact I1.fpOk (Nat.le_refl _) (I1.hok.fresh (Nat.le_refl _))
end L2
end
section
namespace L2
variable {k : Nat} {z : Addr} {a1 a2 : Value} {X : Cx} {p pos pos' : Pos} {e1 e2 : Expr} {ta : TA}
open AutoSeq1 (wpAny_loadPart')
def Dr {P:Program}{w:World}{K:Fgx} (S:Bl P w K) (it l:Addr) (xs:Array Value) (k:Nat) (h:Heap):Prop:=S.It h it l k/\S.Is h l xs
theorem Dr.ext {P:Program}{w:World}{K:Fgx}{S:Bl P w K}{it l b:Addr}{xs:Array Value}{h h':Heap} (d:Dr S it l xs k h) (e:Heap.ExtBut b h h') (h1:it≠b) (h2:l≠b):Dr S it l xs k h':=
 ⟨S.itk d.1 λo q=>e it o h1 q,S.isk d.2 λo q=>e l o h2 q⟩
abbrev CM (h:Heap) (z TI TO:Addr) (f0 f1:Value):Prop:=h.get? z=some { cls:= .type "zip",dict:=none,data:= .fields #[f0,f1,.bool false,.ref TI,.ref TO],slots:= #[]}
def GI (h:Heap) (z TI TO:Addr):Prop:=∃f0 f1,CM h z TI TO f0 f1/\(f0= .none\/ ∃T:Addr,f0=rawInt T)/\(f1= .bool false\/f1= .bool true)
theorem Pm {M:Model}{A:Around}{E:VSP}{s:Shared}{a:Addr}{Q:Option Obj->Shared->Prop} (h:Q (s.heap.get? a) s):wpAny M A (loadIfAlive a) Q E s:=λ_ _ _=>h
theorem Lb {P:Program}{w:World}{A:Around}{E:VSP}{s:Shared}{TI TO:Addr}{Q:Bool->Shared->Prop} (hz:GI s.heap z TI TO) (h1:∀f0 f1,CM s.heap z TI TO f0 f1->Q true s)
  (h2:∀g0,∀T:Addr,∀f1 f2,CM s.heap z TI TO (rawInt T) f1->CM g0 z TI TO (rawInt T) f2->(f2= .bool false\/f2= .bool true)->Heap.SameBut z s.heap g0->Q false { s with heap:=g0}):
  wpAny (model P w) A (Builtin.SmallTypes.ownedTupleIsFree (.ref z)) Q E s:=by
 obtain⟨f0,f1,hz,hf0,hf1⟩:=hz;unfold Builtin.SmallTypes.ownedTupleIsFree;refine wpAny_bind (wpAny_field hz rfl (x:=f0) rfl ?_);rcases hf0 with rfl | ⟨T,rfl⟩
 ·exact wpAny_pure (h1 _ _ hz)
 ·show wpAny _ _ (loadIfAlive T>>=_) _ _ _;refine wpAny_bind (Pm ?_);cases hTa:s.heap.get? T with
  | none=>
   simp only [Option.isNone_none,if_true];exact wpAny_pure (h1 _ _ hz)
  | some oT=>
   simp only [Option.isNone_some,Bool.false_eq_true,if_false];show wpAny _ _ (field (.ref z) 1>>=_) _ _ _;refine wpAny_bind (wpAny_field hz rfl (x:=f1) rfl ?_);rcases hf1 with rfl | rfl
   ·exact wpAny_bind (wpAny_setField_rec hz (by simp) λg0 hz0 hs0=>wpAny_pure (h2 g0 T _ _ hz hz0 (.inr rfl) hs0))
   ·exact wpAny_bind (wpAny_pure (wpAny_pure (h2 s.heap T _ _ hz hz (.inr rfl) ⟨rfl,λ_ _=>rfl⟩)))
structure GJ (z TI TO i1 i2 l1 l2:Addr):Prop where
 TI_z:TI≠z
 TO_z:TO≠z
 TO_TI:TO≠TI
 i1_z:i1≠z
 i1_TI:i1≠TI
 i1_TO:i1≠TO
 i2_z:i2≠z
 i2_TI:i2≠TI
 i2_TO:i2≠TO
 i2_i1:i2≠i1
 l1_z:l1≠z
 l1_TO:l1≠TO
 l1_i1:l1≠i1
 l1_i2:l1≠i2
 l2_z:l2≠z
 l2_TO:l2≠TO
 l2_i1:l2≠i1
 l2_i2:l2≠i2
abbrev BU (h:Heap) (T:Addr) (a1 a2:Value):Prop:=h.get? T=some { cls:= .type "tuple",data:= .seq #[a1,a2]}
theorem Lc {prog:Program}{w:World}{A:Around}{E:VSP}{s:Shared}{T:Addr}{x:Value}{Q:Unit->Shared->Prop} (hT:BU s.heap T a1 a2)
  (h:∀h',h'.get? T=some { cls:= .type "tuple",data:= .seq ((#[a1,a2]:Array Value).setIfInBounds k x)}->Heap.SameBut T s.heap h'->Q () { s with heap:=h'}):
  wpAny (model prog w) A (updateSeq T (·.setIfInBounds k x)) Q E s:=by
 have got:=Heap.get?_update_self (Obj.mapSeq λy=>y.setIfInBounds k x) hT rfl;exact wpAny_updateSeq hT rfl (h _ (got.trans (by simp [Obj.mapSeq])) (Heap.SameBut.update ..))
section
variable {P : Program} {w : World} {K : Fgx} {A : Around} {E : Value -> Shared -> Prop} {s : Shared} (S1 S2 : Bl P w K)
theorem Pn {z TI TO i1 i2 l1 l2:Addr}{k:Nat}{xs1 xs2:Array Value}{x1 x2 a1 a2:Value}{Q:VSP} (hh:A.handled=none) (D:GJ z TI TO i1 i2 l1 l2) (hz:GI s.heap z TI TO) (hTI:BU s.heap TI (.ref i1) (.ref i2)) (hTO:BU s.heap TO a1 a2) (h1:Dr S1 i1 l1 xs1 k s.heap) (h2:Dr S2 i2 l2 xs2 k s.heap) (hx1:xs1[k]? =some x1) (hx2:xs2[k]? =some x2)
  (hQ : ∀ h' tk, GI h' z TI TO -> (IsZip h' z TI TO (rawInt s.heap.objs.size) \/ IsZip s.heap z TI TO .none -> IsZip h' z TI TO (rawInt s.heap.objs.size)) -> (∃ a1 a2, BU h' TO a1 a2) -> Dr S1 i1 l1 xs1 (k + 1) h' -> Dr S2 i2 l2 xs2 (k + 1) h' -> BU h' s.heap.objs.size x1 x2 -> h'.objs.size = s.heap.objs.size + 1 ->
   (∀c o,c≠z->c≠TO->c≠i1->c≠i2->s.heap.get? c=some o->h'.get? c=some o)->Q (.ref s.heap.objs.size) { s with heap:=h',toks:=tk}):
  wpAny (model P w) A (Builtin.«zip.__next__» ⟨[.ref z],[]⟩) (λfin s'=>∃v,fin= .done (.ret v)/\Q v s') E s:=by
 have hl1:k<xs1.size:=(Array.getElem?_eq_some_iff.mp hx1).1;have hl2:k<xs2.size:=(Array.getElem?_eq_some_iff.mp hx2).1;have D1:=fun(A:Around) (hh:A.handled=none)=>S1.draws A hh i1 l1 D.l1_i1 xs1
 have D2:=fun(A:Around) (hh:A.handled=none)=>S2.draws A hh i2 l2 D.l2_i2 xs2
 obtain⟨f0',f1',hz',hf0',hf1'⟩:=id hz;show wpAny _ _ (field (.ref z) 2>>=_) _ _ _;refine wpAny_bind (wpAny_field hz' rfl (x:= .bool false) rfl ?_);show wpAny _ _ (field (.ref z) 3>>=_) _ _ _;refine wpAny_bind (wpAny_field hz' rfl (x:= .ref TI) rfl ?_);refine wpAny_bind (wpAny_seqItems hTI rfl ?_);show wpAny _ _ (Builtin.SmallTypes.ownedTupleIsFree (.ref z) >>=_) _ _ _;refine wpAny_bind (Lb hz (λf0 f1 hz=>?_) λg0 T f1 f2 hzs hz0 hf2 hs0=>?_)
 ·simp only [if_true];refine wpAny_bind (wpAny_rule ?_);refine wpAny_bind (wpAny_field hz rfl (x:= .ref TO) rfl ?_);refine wpAny_bind (wpAny_setField_rec hz (by simp) λg0 hz0 hs0=>?_);replace hz0:CM g0 z TI TO .ellipsis f1:=hz0;refine wpAny_bind ?_;simp only [List.zipIdx_cons,List.zipIdx_nil,forIn_cons,forIn_nil];refine wpAny_bind (wpAny_bind (wpAny_onRaise ?_));show wpAny _ _ (Builtin.SmallTypes.nextOf (.ref i1) >>=_) _ _ _;refine wpAny_bind ((D1 _ hh).item k _ _ _ hl1 (Dr.ext h1 hs0.extBut D.i1_z D.l1_z) λy1 g1 tk1 hy1 hd1 hs1=>wpAny_pure ?_);have ex1:y1=x1:=by rw [hx1] at hy1;exact(Option.some.inj hy1).symm
  subst ex1;have hd1':Dr S1 i1 l1 xs1 (k+1) g1:=hd1;have hT1:BU g1 TO a1 a2:=(hs1.extBut _ _ D.i1_TO.symm (hs0.extBut _ _ D.TO_z hTO));refine wpAny_bind (wpAny_seqItems hT1 rfl ?_);refine wpAny_bind (Lc hT1 λg2 hU1 hs2=>?_)
  replace hU1:BU g2 TO y1 a2:=hU1
  refine wpAny_bind (wpAny_letGo (wpAny_pure ?_));refine wpAny_bind (wpAny_bind (wpAny_onRaise ?_));show wpAny _ _ (Builtin.SmallTypes.nextOf (.ref i2) >>=_) _ _ _;refine wpAny_bind ((D2 _ hh).item k _ _ _ hl2 (Dr.ext (Dr.ext (Dr.ext h2 hs0.extBut D.i2_z D.l2_z) hs1.extBut D.i2_i1 D.l2_i1) hs2.extBut D.i2_TO D.l2_TO) λy2 g3 tk2 hy2 hd2 hs3=>wpAny_pure ?_);have ex2:y2=x2:=by rw [hx2] at hy2;exact(Option.some.inj hy2).symm
  subst ex2;have hd2':Dr S2 i2 l2 xs2 (k+1) g3:=hd2;have hT2:BU g3 TO y1 a2:=(hs3.extBut _ _ D.i2_TO.symm hU1);refine wpAny_bind (wpAny_seqItems hT2 rfl ?_);refine wpAny_bind (Lc hT2 λg4 hU2 hs4=>?_)
  replace hU2:BU g4 TO y1 y2:=hU2
  refine wpAny_bind (wpAny_letGo (wpAny_pure (wpAny_pure ?_)));refine wpAny_bind (wpAny_seqItems hU2 rfl ?_);refine wpAny_bind (wpAny_newTuple ?_);have hsz:g4.objs.size=s.heap.objs.size:=by rw [hs4.1,hs3.1,hs2.1,hs1.1,hs0.1]
  have hz5:CM g4 z TI TO .ellipsis f1:=(hs4.extBut _ _ D.TO_z.symm (hs3.extBut _ _ D.i2_z.symm (hs2.extBut _ _ D.TO_z.symm (hs1.extBut _ _ D.i1_z.symm hz0))));have hk5:∀c o,c≠z->c≠TO->c≠i1->c≠i2->s.heap.get? c=some o->g4.get? c=some o:=λc o cz cTO ci1 ci2 e=>(hs4.extBut _ _ cTO (hs3.extBut _ _ ci2 (hs2.extBut _ _ cTO (hs1.extBut _ _ ci1 (hs0.extBut _ _ cz e)))))
  have he1:Dr S1 i1 l1 xs1 (k+1) g4:=(Dr.ext (Dr.ext (Dr.ext hd1' hs2.extBut D.i1_TO D.l1_TO) hs3.extBut D.i2_i1.symm D.l1_i2) hs4.extBut D.i1_TO D.l1_TO);have he2:Dr S2 i2 l2 xs2 (k+1) g4:=(Dr.ext hd2' hs4.extBut D.i2_TO D.l2_TO);have hzlt:z<g4.objs.size:=Heap.lt_size hz5;show wpAny _ _ (Builtin.SmallTypes.ownedTupleHandOut (.ref z) (.ref g4.objs.size) >>=_) _ _ _;refine wpAny_bind ?_;unfold Builtin.SmallTypes.ownedTupleHandOut;have hz6:CM (g4.push { cls:= .type "tuple",data:= .seq #[y1,y2]}) z TI TO .ellipsis f1:=Heap.get?_push_of_some _ hz5;refine wpAny_bind (wpAny_setField_rec hz6 (by simp) λga hza hsa=>?_);replace hza:CM ga z TI TO (rawInt g4.objs.size) f1:=hza;refine wpAny_setField_rec hza (by simp) λgb hzb hsb=>?_;replace hzb:CM gb z TI TO (rawInt g4.objs.size) (.bool false):=hzb
  have up:∀c o,c≠z->g4.get? c=some o->gb.get? c=some o:=λc o c1 e=>hsb.extBut _ _ c1 (hsa.extBut _ _ c1 (Heap.get?_push_of_some _ e))
  have hTb:BU gb g4.objs.size y1 y2:=hsb.extBut _ _ (Nat.ne_of_gt hzlt) (hsa.extBut _ _ (Nat.ne_of_gt hzlt) (Heap.get?_push_size _ rfl));have hsb8:gb.objs.size=g4.objs.size+1:=by rw [hsb.1,hsa.1,Heap.size_push]
  have upE:Heap.ExtBut z g4 gb:=λc o c1 e=>up c o c1 e
  rw [hsz] at hzb hTb hsb8;refine wpAny_pure ⟨_,rfl,?_⟩;show Q (.ref g4.objs.size) _;rw [hsz];exact hQ gb _ ⟨_,_,hzb,.inr ⟨_,rfl⟩,.inl rfl⟩ (λ_=>hzb) ⟨_,_,up _ _ D.TO_z hU2⟩ (he1.ext upE D.i1_z D.l1_z) (he2.ext upE D.i2_z D.l2_z) hTb hsb8 λc o cz cTO ci1 ci2 e=>up c o cz (hk5 c o cz cTO ci1 ci2 e)
 ·simp only [Bool.false_eq_true,if_false];refine wpAny_bind ?_;simp only [<-Array.forIn_toList,forIn_cons,forIn_nil];refine wpAny_bind (wpAny_bind (wpAny_holding ?_));show wpAny _ _ (Builtin.SmallTypes.nextOf (.ref i1) >>=_) _ _ _;refine wpAny_bind ((D1 _ hh).item k _ _ _ hl1 (Dr.ext h1 hs0.extBut D.i1_z D.l1_z) λy1 g1 tk1 hy1 hd1 hs1=>wpAny_pure ?_);have ex1:y1=x1:=by rw [hx1] at hy1;exact(Option.some.inj hy1).symm
  subst ex1;have hd1':Dr S1 i1 l1 xs1 (k+1) g1:=hd1;refine wpAny_pure ?_;refine wpAny_bind (wpAny_bind (wpAny_holding ?_));show wpAny _ _ (Builtin.SmallTypes.nextOf (.ref i2) >>=_) _ _ _;refine wpAny_bind ((D2 _ hh).item k _ _ _ hl2 (Dr.ext (Dr.ext h2 hs0.extBut D.i2_z D.l2_z) hs1.extBut D.i2_i1 D.l2_i1) λy2 g2 tk2 hy2 hd2 hs2=>wpAny_pure ?_);have ex2:y2=x2:=by rw [hx2] at hy2;exact(Option.some.inj hy2).symm
  subst ex2;have hd2':Dr S2 i2 l2 xs2 (k+1) g2:=hd2;refine wpAny_pure (wpAny_pure ?_);show wpAny _ _ (newTuple [y1,y2] >>=_) _ _ _;refine wpAny_bind (wpAny_newTuple ?_);have hsz:g2.objs.size=s.heap.objs.size:=by rw [hs2.1,hs1.1,hs0.1]
  have hz5:CM g2 z TI TO (rawInt T) f2:=(hs2.extBut _ _ D.i2_z.symm (hs1.extBut _ _ D.i1_z.symm hz0));have hT5:BU g2 TO a1 a2:=(hs2.extBut _ _ D.i2_TO.symm (hs1.extBut _ _ D.i1_TO.symm (hs0.extBut _ _ D.TO_z hTO)));have he1:Dr S1 i1 l1 xs1 (k+1) g2:=(Dr.ext hd1' hs2.extBut D.i2_i1.symm D.l1_i2);have he2:Dr S2 i2 l2 xs2 (k+1) g2:=hd2';have hTb:BU (g2.push { cls:= .type "tuple",data:= .seq #[y1,y2]}) g2.objs.size y1 y2:=Heap.get?_push_size _ rfl;have hb8:(g2.push { cls:= .type "tuple",data:= .seq #[y1,y2]}).objs.size=g2.objs.size+1:=Heap.size_push ..;refine wpAny_pure ⟨_,rfl,?_⟩;show Q (.ref g2.objs.size) _;have res:=hQ (g2.push { cls:= .type "tuple",data:= .seq #[y1,y2]}) tk2 ⟨_,_,Heap.get?_push_of_some _ hz5,.inr ⟨_,rfl⟩,hf2⟩ (λc=>c.elim id λc=>absurd (congrArg (λo:Obj=>o.data) (Option.some.inj (hzs.symm.trans c))) (by simp [rawInt])) ⟨_,_,Heap.get?_push_of_some _ hT5⟩ ⟨S1.itk he1.1 λo q=>Heap.get?_push_of_some _ q,S1.isk he1.2 λo q=>Heap.get?_push_of_some _ q⟩ ⟨S2.itk he2.1 λo q=>Heap.get?_push_of_some _ q,S2.isk he2.2 λo q=>Heap.get?_push_of_some _ q⟩ (by rw [<-hsz];exact hTb) (by rw [hb8,hsz]) λc o cz cTO ci1 ci2 e=>Heap.get?_push_of_some _ (hs2.extBut _ _ ci2 (hs1.extBut _ _ ci1 (hs0.extBut _ _ cz e)))
  rw [hsz];exact res
theorem Po {TI TO i1 i2 l1 l2:Addr}{xs1 xs2:Array Value}{Q:Fin->Shared->Prop} (hh:A.handled=none) (D:GJ z TI TO i1 i2 l1 l2) (hz:GI s.heap z TI TO) (hTI:BU s.heap TI (.ref i1) (.ref i2)) (hTO:BU s.heap TO a1 a2) (h1:Dr S1 i1 l1 xs1 k s.heap) (h2:Dr S2 i2 l2 xs2 k s.heap) (hend:k=xs1.size)
  (hE:∀h' tk e,(∀c o,c≠z->c≠TO->c≠i1->c≠i2->s.heap.get? c=some o->h'.get? c=some o)->(∃o,h'.get? e=some o/\o.cls= .type "StopIteration")->E (.ref e) { s with heap:=h',toks:=tk}):
  wpAny (model P w) A (Builtin.«zip.__next__» ⟨[.ref z],[]⟩) Q E s:=by
 have D1:=fun(A:Around) (hh:A.handled=none)=>S1.draws A hh i1 l1 D.l1_i1 xs1
 have D2:=fun(A:Around) (hh:A.handled=none)=>S2.draws A hh i2 l2 D.l2_i2 xs2
 obtain⟨f0',f1',hz',hf0',hf1'⟩:=id hz;show wpAny _ _ (field (.ref z) 2>>=_) _ _ _;refine wpAny_bind (wpAny_field hz' rfl (x:= .bool false) rfl ?_);show wpAny _ _ (field (.ref z) 3>>=_) _ _ _;refine wpAny_bind (wpAny_field hz' rfl (x:= .ref TI) rfl ?_);refine wpAny_bind (wpAny_seqItems hTI rfl ?_);show wpAny _ _ (Builtin.SmallTypes.ownedTupleIsFree (.ref z) >>=_) _ _ _;refine wpAny_bind (Lb hz (λf0 f1 hz=>?_) λg0 T f1 f2 hzs hz0 hf2 hs0=>?_)
 ·simp only [if_true];refine wpAny_bind (wpAny_rule ?_);refine wpAny_bind (wpAny_field hz rfl (x:= .ref TO) rfl ?_);refine wpAny_bind (wpAny_setField_rec hz (by simp) λg0 hz0 hs0=>?_);replace hz0:CM g0 z TI TO .ellipsis f1:=hz0;refine wpAny_bind ?_;simp only [List.zipIdx_cons,List.zipIdx_nil,forIn_cons,forIn_nil];refine wpAny_bind (wpAny_bind (wpAny_onRaise ?_));show wpAny _ _ (Builtin.SmallTypes.nextOf (.ref i1) >>=_) _ _ _;have hcur:=(Dr.ext h1 hs0.extBut D.i1_z D.l1_z);subst hend;refine wpAny_bind ((D1 _ hh).done _ _ _ hcur λge e hse he=>?_);obtain⟨oe,hoe,hce⟩:=he;have hze:CM ge z TI TO .ellipsis f1:=hse _ _ D.i1_z.symm hz0;have hez:e≠z:=λx=>by subst x;rw [hze] at hoe;cases hoe;simp at hce
  exact wpAny_setField_rec hze (by simp) λgf _ hsf=>hE gf _ e (λc o cz cTO ci1 ci2 x=>hsf.extBut _ _ cz (hse _ _ ci1 (hs0.extBut _ _ cz x))) ⟨oe,hsf.extBut _ _ hez hoe,hce⟩
 ·simp only [Bool.false_eq_true,if_false];refine wpAny_bind ?_;simp only [<-Array.forIn_toList,forIn_cons,forIn_nil];refine wpAny_bind (wpAny_bind (wpAny_holding ?_));show wpAny _ _ (Builtin.SmallTypes.nextOf (.ref i1) >>=_) _ _ _;have hcur:=(Dr.ext h1 hs0.extBut D.i1_z D.l1_z);subst hend;refine wpAny_bind ((D1 _ hh).done _ _ _ hcur λge e hse he=>?_);obtain⟨oe,hoe,hce⟩:=he;exact hE ge _ e (λc o cz cTO ci1 ci2 x=>hse _ _ ci1 (hs0.extBut _ _ cz x)) ⟨oe,hoe,hce⟩
end
abbrev GK {P:Program}{w:World}{K:Fgx} (S1 S2:Bl P w K) (h:Heap) (l1 l2:Addr):Heap:=(h).push (S1.obj l1)
abbrev GL {P:Program}{w:World}{K:Fgx} (S1 S2:Bl P w K) (h:Heap) (l1 l2:Addr):Heap:=(GK S1 S2 h l1 l2).push (S2.obj l2)
abbrev GM {P:Program}{w:World}{K:Fgx} (S1 S2:Bl P w K) (h:Heap) (l1 l2:Addr):Heap:=(GL S1 S2 h l1 l2).push { cls:= .type "tuple",data:= .seq #[.ref h.objs.size,.ref (GK S1 S2 h l1 l2).objs.size]}
abbrev GN {P:Program}{w:World}{K:Fgx} (S1 S2:Bl P w K) (h:Heap) (l1 l2:Addr):Heap:=(GM S1 S2 h l1 l2).push { cls:= .type "tuple",data:= .seq #[.none,.none]}
abbrev Dz {P:Program}{w:World}{K:Fgx} (S1 S2:Bl P w K) (h:Heap) (l1 l2:Addr):Heap:=(GN S1 S2 h l1 l2).push { cls:= .type "zip",data:= .fields #[.none,.bool false,.bool false,.ref (GL S1 S2 h l1 l2).objs.size,.ref (GM S1 S2 h l1 l2).objs.size]}
def GO {P:Program}{w:World}{K:Fgx} (S1 S2:Bl P w K):Prop:=S1.ok/\S2.ok/\∀(l1 l2:Addr) (xs1 xs2:Array Value),
  Meets (Builtin.«zip.__new__» ⟨[.type "zip",.ref l1,.ref l2],[]⟩) (λ_ R s=>S1.Is s.heap l1 xs1/\S2.Is s.heap l2 xs2/\R (.ok (.ret (.ref (GN S1 S2 s.heap l1 l2).objs.size))) { s with heap:=Dz S1 S2 s.heap l1 l2})
theorem Pp {X:Cx}{p pos:Pos}{e1 e2:Expr}{ta:TA} (S1 S2:Bl X.prog X.w X.K) (zn:GO S1 S2) (hg:Gl X "zip") (hm:X.mg "zip"=none) (ha:PA X [e1,e2] ta) (hs1:starEach [e1,e2] X.env=[(false,eval e1 X.env),(false,eval e2 X.env)]) (hs2:starEach [e2] X.env=[(false,eval e2 X.env)])
  {pins:PNs}{s:Shared}{σ:St}{H:Hp}{R:Addr->Addr->Hp->Prop} (I:Ac X pins σ H s) (h:ta σ H λvs H1=>∃l1 l2,vs=[.ref l1,.ref l2]/\(∃xs,S1.Sq H1 l1 xs)/\(∃xs,S2.Sq H1 l2 xs)/\R l1 l2 H1):
  wpAny (model X.prog X.w) X.A (eval (.Call (.Name "zip" p) [e1,e2] [] pos) X.env) (λv s1=>∃l1 l2 H1,∃m:Nat,v= .ref (m+4)/\R l1 l2 H1/\Ac X pins σ H1 s1/\IsZip s1.heap (m+4) (m+2) (m+3) .none/\BU s1.heap (m+2) (.ref m) (.ref (m+1))/\BU s1.heap (m+3) .none .none/\S1.It s1.heap m l1 0/\S2.It s1.heap (m+1) l2 0/\l1<m/\l2<m/\(∀b,m<=b->Cj X pins H1 b)/\s1.heap.objs.size=m+5) X.xe s:=by
 refine Call_ (DR I hg hm boot_zip (PyProof.Rows.callWith_type1 (Ap (ha pos pins s σ H _ I h) λus s1 ⟨vs,H1,I1,r1,q1⟩=>?_) (by rw [hs1,hs2]) (by rw [hs2];rfl)));obtain⟨l1,l2,e,⟨xs1,hq1⟩,⟨xs2,hq2⟩,q⟩:=q1;subst e;rcases r1 with _ | ⟨ru1,r1⟩
 rcases r1 with _ | ⟨ru2,r1⟩
 cases r1;cases ru1;cases ru2;obtain⟨its1,rv1,is1,_⟩:=S1.get rfl I1 hq1;obtain⟨its2,rv2,is2,_⟩:=S2.get rfl I1 hq2;obtain⟨o1,ho1⟩:=S1.iso is1;have hl1:=Heap.lt_size ho1;obtain⟨o2,ho2⟩:=S2.iso is2;have hl2:=Heap.lt_size ho2;refine callType_new F.called_zip (by decide) (F.typeCall_zip_2 _ _) (F.newCall_zip_2 _ _) (λobj=>F.args_object_init_3 obj _ _) F.entry_zip_new (zn.2.2 l1 l2 its1.toArray its2.toArray) ⟨is1,is2,?_⟩;have z1:(GK S1 S2 s1.heap l1 l2).objs.size=s1.heap.objs.size+1:=by rw [Heap.size_push]
 have z2:(GL S1 S2 s1.heap l1 l2).objs.size=s1.heap.objs.size+2:=by rw [Heap.size_push,z1]
 have z3:(GM S1 S2 s1.heap l1 l2).objs.size=s1.heap.objs.size+3:=by rw [Heap.size_push,z2]
 have z4:(GN S1 S2 s1.heap l1 l2).objs.size=s1.heap.objs.size+4:=by rw [Heap.size_push,z3]
 have zz:(Dz S1 S2 s1.heap l1 l2).objs.size=s1.heap.objs.size+5:=by rw [Heap.size_push,z4]
 have gz:(Dz S1 S2 s1.heap l1 l2).get? (GN S1 S2 s1.heap l1 l2).objs.size=some _:=Heap.get?_push_size _ rfl;have gO:(Dz S1 S2 s1.heap l1 l2).get? (GM S1 S2 s1.heap l1 l2).objs.size=some _:=Heap.get?_push_of_some _ (Heap.get?_push_size _ rfl);have gI:(Dz S1 S2 s1.heap l1 l2).get? (GL S1 S2 s1.heap l1 l2).objs.size=some _:=Heap.get?_push_of_some _ (Heap.get?_push_of_some _ (Heap.get?_push_size _ rfl));have g1:S1.It (Dz S1 S2 s1.heap l1 l2) s1.heap.objs.size l1 0:=S1.itk (S1.itn zn.1 _ _) λo q=>Heap.get?_push_of_some _ (Heap.get?_push_of_some _ (Heap.get?_push_of_some _ (Heap.get?_push_of_some _ (q))))
 have g2:S2.It (Dz S1 S2 s1.heap l1 l2) (GK S1 S2 s1.heap l1 l2).objs.size l2 0:=S2.itk (S2.itn zn.2.1 _ _) λo q=>Heap.get?_push_of_some _ (Heap.get?_push_of_some _ (Heap.get?_push_of_some _ (q)))
 have kk:∀b o,s1.heap.get? b=some o->(Dz S1 S2 s1.heap l1 l2).get? b=some o:=λb o x=>Heap.get?_push_of_some _ (Heap.get?_push_of_some _ (Heap.get?_push_of_some _ (Heap.get?_push_of_some _ (Heap.get?_push_of_some _ (x)))))
 show _/\_;rw [z2,z3,z4] at gz;rw [z3] at gO;rw [z1,z2] at gI;rw [z4];rw [z1] at g2;generalize Dz S1 S2 s1.heap l1 l2=hE at g1 g2 gI gO gz kk zz ⊢;have I2:Ac X pins σ H1 { s1 with heap:=hE}:=I1.kept (t':=s1.toks) kk;exact⟨⟨_,gz,rfl⟩,l1,l2,H1,s1.heap.objs.size,rfl,q,I2,gz,gI,gO,g1,g2,hl1,hl2,λb hb=>I1.fpOk hb (I1.hok.fresh hb),zz⟩
set_option maxHeartbeats 8000000 in
theorem Pq (P:Program) (w:World) (K:Fgx):GO (CK P w K) (Eu P w K):=⟨trivial,trivial,λl1 l2 xs1 xs2=>
 .of_wp λprog w A R s h=>by
  obtain⟨hp,g,d,tk,os⟩:=s;obtain⟨hl1,hl2,h⟩:=h;have hsub:=sub_zip;have hL1:Heap.IsTuple (Shared.heap ⟨hp,g,d,tk,os⟩) l1 xs1:=hl1;have hL2:Heap.IsList (Shared.heap ⟨(hp).push { cls:= .type "tuple_iterator",data:= .fields #[.ref l1,.int 0 0]},g,d,tk,os⟩) l2 xs2:=Heap.IsList.push (hl2) _
  wp_walk using wpAny_pyIter_tuple hL1,wpAny_pyIter_list hL2
  exact⟨_,rfl,h⟩⟩
set_option maxHeartbeats 8000000 in
theorem Pr (P:Program) (w:World) (K:Fgx):GO (CK P w K) (CK P w K):=⟨trivial,trivial,λl1 l2 xs1 xs2=>
 .of_wp λprog w A R s h=>by
  obtain⟨hp,g,d,tk,os⟩:=s;obtain⟨hl1,hl2,h⟩:=h;have hsub:=sub_zip;have hL1:Heap.IsTuple (Shared.heap ⟨hp,g,d,tk,os⟩) l1 xs1:=hl1;have hL2:Heap.IsTuple (Shared.heap ⟨(hp).push { cls:= .type "tuple_iterator",data:= .fields #[.ref l1,.int 0 0]},g,d,tk,os⟩) l2 xs2:=Heap.IsTuple.push (hl2) _
  wp_walk using wpAny_pyIter_tuple hL1,wpAny_pyIter_tuple hL2
  exact⟨_,rfl,h⟩⟩
theorem Ps {n l1 l2:Nat} (h1:l1<n) (h2:l2<n):GJ (n+4) (n+2) (n+3) n (n+1) l1 l2:=by constructor<;>intro z<;>(have z':=z;revert z';intro z';try (change (_:Nat)=_ at z');omega)
def GP {P:Program}{w:World}{K:Fgx} (S1 S2:Bl P w K) (a b:Addr):It:=
 ⟨λi H=>∃xs ys x y,S1.Sq H a xs/\S2.Sq H b ys/\xs[i]? =some x/\ys[i]? =some y,λi H v H'=>∃T,v= .ref T/\H T=none/\∀xs ys x y,S1.Sq H a xs->S2.Sq H b ys->xs[i]? =some x->ys[i]? =some y->H'=upd H T (.tup [x,y]),
  λi H=>∃xs ys,S1.Sq H a xs/\S2.Sq H b ys/\xs.length=i⟩
theorem Pt {P:Program}{w:World}{K:Fgx} (S1 S2:Bl P w K) {es:List Expr}{k:Nat}{pos:Pos} (z TI TO i1 i2 l1 l2:Addr) (D:GJ z TI TO i1 i2 l1 l2):
  DS P w K (.Tuple es k pos) (GP S1 S2 l1 l2) [z,TI,TO,i1,i2] z (λi h=>IsZip h z TI TO .none/\BU h TI (.ref i1) (.ref i2)/\(∃a b,BU h TO a b)/\S1.It h i1 l1 i/\S2.It h i2 l2 i) where
 mem:=by simp
 obj:=λi h st b hb=>by
  obtain⟨hz,hTI,⟨a,b',hTO⟩,h1,h2⟩:=st;simp only [mem_cons,not_mem_nil,or_false] at hb;rcases hb with e | e | e | e | e<;>rw [e]
  ·exact⟨_,hz,λv q=>by have q':Data.fields _=Data.cell v:=q;cases q'⟩
  ·exact⟨_,hTI,λv q=>by have q':Data.seq _ _=Data.cell v:=q;cases q'⟩
  ·exact⟨_,hTO,λv q=>by have q':Data.seq _ _=Data.cell v:=q;cases q'⟩
  ·exact S1.ito h1
  ·exact S2.ito h2
 keep:=λi h h' st kk=>by
  obtain⟨hz,hTI,⟨a,b',hTO⟩,h1,h2⟩:=st;exact⟨kk z (by simp) _ hz,kk TI (by simp) _ hTI,⟨a,b',kk TO (by simp) _ hTO⟩,S1.itk h1 λo q=>kk i1 (by simp) o q,S2.itk h2 λo q=>kk i2 (by simp) o q⟩
 item:=by
  intro X hP hw hK hc i pins s σ H E I hf st hg;subst hP hw;obtain⟨xs,ys,x,y,hq1,hq2,hx,hy⟩:=hg;obtain⟨its1,rv1,is1,hz1⟩:=S1.get hK I hq1;obtain⟨its2,rv2,is2,hz2⟩:=S2.get hK I hq2;obtain⟨u1,hu1,ru1⟩:=rv1.get hx;obtain⟨u2,hu2,ru2⟩:=rv2.get hy;obtain⟨hz,hTI,⟨a,b',hTO⟩,h1,h2⟩:=st;have hh:=I.ok.hd hc;have hT:s.TypeIs (.ref z) "zip" :=⟨_,hz,rfl⟩;unfold pyNext;refine wpAny_bind (wpAny_attempt (wpAny_callSpecial?_slot (name:=Str.ofString "__next__") hT F.slot_zip_next (wpAny_call_entry F.slot_zip_next hT F.entry_zip_next
   (Pn S1 S2 (x1:=u1) (x2:=u2) hh D ⟨_,_,hz,.inl rfl,.inl rfl⟩ hTI hTO ⟨h1,is1⟩ ⟨h2,is2⟩ (by simpa using hu1) (by simpa using hu2) λh' tk _ az a2 a3 a4 a5 a6 hk=>wpAny_pure ⟨_,rfl,?_⟩) (F.args_zip_next_1 _))))
  obtain⟨b1,b2,a2⟩:=a2;refine wpAny_letOwnedTupleGo_zip (az (.inr hz)) λh'' z1 sb=>?_
  have kk:∀b o,b ∉ [z,TI,TO,i1,i2]->s.heap.get? b=some o->h''.get? b=some o:=λb o hb q=>sb.extBut b o (λe=>hb (by simp [e])) (hk b o (λe=>hb (by simp [e])) (λe=>hb (by simp [e])) (λe=>hb (by simp [e])) (λe=>hb (by simp [e])) q)
  have zl:z<s.heap.objs.size:=Heap.lt_size hz;have ht:IsTup h'' s.heap.objs.size [u1,u2].toArray:=⟨_,sb.extBut _ _ (Nat.ne_of_gt zl) a5,rfl,_,rfl⟩;exact⟨.ref s.heap.objs.size,upd H s.heap.objs.size (.tup [x,y]),I.yielded (tk:=tk) (λb hb=>hf b hb) kk (Nat.le_refl _) ht (.cons ru1 (.cons ru2 .nil)) (by show 2<=sizeLine;decide),rfl,
   ⟨_, rfl, I.hok.fresh (Nat.le_refl _), λxs' ys' x' y' e1 e2 e3 e4 => by
    rw [S1.inj hK I e1 hq1,hx] at e3;rw [S2.inj hK I e2 hq2,hy] at e4;cases e3;cases e4;rfl⟩,
   ⟨z1, sb.extBut _ _ D.TI_z (hk _ _ D.TI_z D.TO_TI.symm D.i1_TI.symm D.i2_TI.symm hTI), ⟨_, _, sb.extBut _ _ D.TO_z a2⟩, S1.itk a3.1 λo q => sb.extBut _ o D.i1_z q, S2.itk a4.1 λo q => sb.extBut _ o D.i2_z q⟩, λb hb => by
    have hbt:b<s.heap.objs.size:=by
     simp only [mem_cons,not_mem_nil,or_false] at hb;rcases hb with e | e | e | e | e<;>rw [e]
     ·exact zl
     ·exact Heap.lt_size hTI
     ·exact Heap.lt_size hTO
     ·obtain⟨o,q,_⟩:=S1.ito h1;exact Heap.lt_size q
     ·obtain⟨o,q,_⟩:=S2.ito h2;exact Heap.lt_size q
    rw [Aq (Nat.ne_of_lt hbt)];exact(hf b hb).1⟩
 done:=by
  intro X hP hw hK hc i pins s σ H E I hf st hg;subst hP hw;obtain⟨xs,ys,hq1,hq2,hend⟩:=hg;obtain⟨its1,rv1,is1,hz1⟩:=S1.get hK I hq1;obtain⟨its2,rv2,is2,hz2⟩:=S2.get hK I hq2;obtain⟨hz,hTI,⟨a,b',hTO⟩,h1,h2⟩:=st;have hh:=I.ok.hd hc;have hT:s.TypeIs (.ref z) "zip" :=⟨_,hz,rfl⟩;have e1:=rv1.length;have e2:=rv2.length;unfold pyNext;refine wpAny_bind (wpAny_attempt (wpAny_callSpecial?_slot (name:=Str.ofString "__next__") hT F.slot_zip_next (wpAny_call_entry F.slot_zip_next hT F.entry_zip_next
   (Po S1 S2 hh D ⟨_,_,hz,.inl rfl,.inl rfl⟩ hTI hTO ⟨h1,is1⟩ ⟨h2,is2⟩ (by simp;omega) λh' tk e hk he=>?_) (F.args_zip_next_1 _))))
  obtain⟨o,ho,hco⟩:=he;refine wpAny_bind (wpAny_isInstance (T:="StopIteration") (b:=true) ⟨o,ho,hco⟩ isSubtype_stop ?_);exact wpAny_pure ⟨rfl,I.ended (wr:=[z,TI,TO,i1,i2]) (tk:=tk) (λb hb=>hf b hb) λb o hb q=>hk b o (λe=>hb (by simp [e])) (λe=>hb (by simp [e])) (λe=>hb (by simp [e])) (λe=>hb (by simp [e])) q⟩
 self:=λ_ _ _ _ _ st h=>wpAny_pyIter_zip st.1 h
def FP {P:Program}{w:World}{K:Fgx} (S1 S2:Bl P w K) (ta:TA):TI:=fun σ H R=>ta σ H λvs H1=>∃a b,vs=[.ref a,.ref b]/\(∃xs,S1.Sq H1 a xs)/\(∃ys,S2.Sq H1 b ys)/\R (GP S1 S2 a b) H1
theorem Ld {es:List Expr} (S1 S2:Bl X.prog X.w X.K) (zn:GO S1 S2) (hg:Gl X "zip") (hm:X.mg "zip"=none) (ha:PA X [e1,e2] ta)
  (hs:starEach [e1,e2] X.env=[(false,eval e1 X.env),(false,eval e2 X.env)]) (hs2:starEach [e2] X.env=[(false,eval e2 X.env)]):PI X (.Tuple es k pos') (.Call (.Name "zip" p) [e1,e2] [] pos) (FP S1 S2 ta):=by
 intro pins s σ H R I h;refine Ap (Pp S1 S2 zn (R:=λl1 l2 H1=>R (GP S1 S2 l1 l2) H1) hg hm ha hs hs2 I h) λv s1 ⟨l1,l2,H1,m,e,q,I1,gz,gI,gO,g1,g2,h1,h2,fr,_⟩=>?_
 subst e;exact wpAny_pyIter_zip gz ⟨_,[m+4,m+2,m+3,m,m+1],_,_,H1,rfl,I1,Pt S1 S2 _ _ _ _ _ l1 l2 (Ps h1 h2),⟨gz,gI,⟨_,_,gO⟩,g1,g2⟩,λb hb=>fr b (by
  simp only [mem_cons,not_mem_nil,or_false] at hb;rcases hb with e | e | e | e | e<;>rw [e]<;>first | exact Nat.le_refl _ | exact Nat.le_add_right _ _),q⟩
theorem Pu {es:List Expr} (hg:Gl X "zip") (hm:X.mg "zip"=none) (ha:PA X [e1,e2] ta)
  (hs:starEach [e1,e2] X.env=[(false,eval e1 X.env),(false,eval e2 X.env)]:=by rfl) (hs2:starEach [e2] X.env=[(false,eval e2 X.env)]:=by rfl):PI X (.Tuple es k pos') (.Call (.Name "zip" p) [e1,e2] [] pos) (FP (CK X.prog X.w X.K) (Eu X.prog X.w X.K) ta):=Ld _ _ (Pq _ _ _) hg hm ha hs hs2
theorem Pw {es:List Expr} (hg:Gl X "zip") (hm:X.mg "zip"=none) (ha:PA X [e1,e2] ta)
  (hs:starEach [e1,e2] X.env=[(false,eval e1 X.env),(false,eval e2 X.env)]:=by rfl) (hs2:starEach [e2] X.env=[(false,eval e2 X.env)]:=by rfl):PI X (.Tuple es k pos') (.Call (.Name "zip" p) [e1,e2] [] pos) (FP (CK X.prog X.w X.K) (CK X.prog X.w X.K) ta):=Ld _ _ (Pr _ _ _) hg hm ha hs hs2
end L2
end
section
namespace L2
variable {C : Int -> Int -> Prop} {g : Int -> Int -> V} {y : V} {H : Hp} {Q : VK} {op op' : CmpOp} {r' : R2}
section
variable {X : Cx} {e a b c : Expr} {es rest : List Expr} {ta tb tc te : TE} {pos p : Pos} {tA tB' : TT} {t u : TS}
theorem PE.weak {t t':TE} (h:PE X e t) (w:∀σ H Q,t' σ H Q->t σ H Q):PE X e t':=λpins s σ H Q I q=>h pins s σ H Q I (w σ H Q q)
def Ew (i:Nat):TE:=fun σ H Q=>match σ[i]? with | some (some v)=>Q v H | _=>False
theorem cv (i:Nat) {x:Str}{pos:Pos} (hN:X.N[i]? =some x:=by rfl) (hv:Eh X.env.scope x:=by first | exact Or.inl rfl | exact Or.inr (Or.inl rfl) | exact Or.inr (Or.inr rfl)) (hd:(x==("__debug__" :Str))=false:=by decide)
  (hcd:(x==("__classdict__" :Str))=false:=by decide):PE X (.Name x pos) (Ew i):=(Gn hN hv hd hcd).weak fun σ H Q q=>by
 unfold Ew at q;split at q
 ·exact⟨_,by assumption,q⟩
 ·exact q.elim
end
section
variable {X : Cx} {e a b c : Expr} {es rest : List Expr} {ta tb tc te : TE} {pos p : Pos}
theorem Px {x:V} (h:match x,y with | .int i,.int j=>C i j/\Q (g i j) H | _,_=>False):rI C g x y H Q:=by
 split at h
 ·exact⟨_,_,rfl,rfl,h⟩
 ·exact h.elim
theorem Py {x:V} (h:match x,y with | .int i,.int j=>Q (g i j) H | _,_=>False):Du g x y H Q:=by
 split at h
 ·exact⟨_,_,rfl,rfl,h⟩
 ·exact h.elim
def mI (C:Int->Int->Prop) (g:Int->Int->V):R2:=λx y H Q=>match x,y with | .int i,.int j=>C i j/\Q (g i j) H | _,_=>False
def mI0 (g:Int->Int->V):R2:=λx y H Q=>match x,y with | .int i,.int j=>Q (g i j) H | _,_=>False
theorem OpR.mI {f:Value->Value->Sem Value} (h:OpR X f (rI C g)):OpR X f (L2.mI C g):=λpins s σ H x y v u Q I rx ry q=>h pins s σ H x y v u Q I rx ry (Px q)
theorem OpR.mI0 {f:Value->Value->Sem Value} (h:OpR X f (Du g)):OpR X f (L2.mI0 g):=λpins s σ H x y v u Q I rx ry q=>h pins s σ H x y v u Q I rx ry (Py q)
theorem Bm:OpR X (binaryOp .Add) (mI0 λi j=> .int (i+j)):=op_add.mI0
theorem Co:OpR X (binaryOp .Sub) (mI0 λi j=> .int (i-j)):=op_sub.mI0
theorem GQ:OpR X (binaryOp .Mult) (mI CMul λi j=> .int (i * j)):=op_mul.mI
theorem Je:OpR X (binaryOp .FloorDiv) (mI II λi j=> .int (i / j)):=op_fdiv.mI
theorem E2:OpR X (binaryOp .Mod) (mI (λ_ j=>0<j) λi j=> .int (i % j)):=op_mod.mI
theorem Le:OpR X (binaryOp .Pow) (mI Kp λi j=> .int (i ^ j.toNat)):=op_pow.mI
theorem DW:OpR X (compareOp .Lt) (mI0 λi j=> .bl (decide (i<j))):=op_lt.mI0
theorem DX:OpR X (compareOp .LtE) (mI0 λi j=> .bl (decide (i<=j))):=op_le.mI0
theorem Lf:OpR X (compareOp .GtE) (mI0 λi j=> .bl (decide (j<=i))):=op_ge.mI0
def mB (x:V) (Q:Bool->Prop):Prop:=match x with | .bl c=>Q c | _=>False
end
structure Mono (t:TE):Prop where
 m:∀ {σ H}{Q Q':VK},t σ H Q->(∀v H',Q v H'->Q' v H')->t σ H Q'
section
variable {X : Cx} {e a b c : Expr} {es rest : List Expr} {te : TE} {pos p : Pos}
def cB (t:TE):TT:=fun σ H Q=>t σ H λx H1=>match x with | .bl c=>Q c H1 | _=>False
theorem Bw {t:TE} (h:PE X e t) (he:∀whole,isTrue e X.env whole=(do let v<-whole;standAt e.pos;holding [v] (truthy v)):=by intro _;rfl):PT X e (cB t):=by
 intro pins s σ H Q I hw;refine isTrue_plain (Ap (h pins s σ H _ I hw) λv s1 ⟨x,H1,I1,r1,q1⟩=>?_) (he _);dsimp only at q1;split at q1
 ·cases r1;exact wpAny_truthy_bool ⟨H1,I1,q1⟩
 ·exact q1.elim
theorem AU {op:CmpOp}{r:R2}{ta tb:TE} (ho:OpR X (compareOp op) r) (ha:PE X a ta) (hb:PE X b tb) (hm:behindInMarks op b=false):PT X (.Compare a [op] [b] pos) (cB (Gs r ta tb)):=by
 intro pins s σ H Q I h;refine wpAny_isTrue_Compare1 (Ap (ha pins s σ H _ I h) λv s1 ⟨x,H1,I1,r1,q1⟩=>Ap (hb pins s1 σ H1 _ I1 q1) λu s2 ⟨y,H2,I2,r2,q2⟩=>
  Ap (ho pins s2 σ H2 x y v u _ I2 r1 r2 q2) λc s3 ⟨z,H3,I3,r3,q3⟩=>?_) hm
 dsimp only at q3;split at q3
 ·cases r3;exact wpAny_truthy_bool ⟨H3,I3,q3⟩
 ·exact q3.elim
def Lg (r r':R2) (ta tb tc:TE):TE:=fun σ H Q=>ta σ H λx H1=>tb σ H1 λy H2=>r x y H2 λz H3=>match z with | .bl k=>br k (tc σ H3 λw' H4=>r' y w' H4 Q) (Q (.bl false) H3) | _=>False
theorem Lh {r:R2}{ta tb tc:TE} (ho:OpR X (compareOp op) r) (ho':OpR X (compareOp op') r') (ha:PE X a ta) (hb:PE X b tb) (hc:PE X c tc)
  (hm:lastMarks [op,op'] [b,c]=false:=by with_unfolding_all rfl):PE X (.Compare a [op,op'] [b,c] pos) (Lg r r' ta tb tc):=by
 intro pins s σ H Q I h;refine Compare_chain (Ap (ha pins s σ H _ I h) λv s1 ⟨x,H1,I1,r1,q1⟩=>chain_link (Ap (hb pins s1 σ H1 _ I1 q1) λu s2 ⟨y,H2,I2,r2,q2⟩=>
  Ap (ho pins s2 σ H2 x y v u _ I2 r1 r2 q2) λd s3 ⟨z,H3,I3,r3,q3⟩=>?_)) hm
 dsimp only at q3;split at q3
 ·rename_i k;cases r3;refine wpAny_truthy_bool ?_;cases k with
  | false=>exact ite_ff ⟨.bl false,H3,I3,rfl,q3.2 rfl⟩
  | true=>exact ite_tt (chain_last (Ap (hc pins s3 σ H3 _ I3 (q3.1 rfl)) λw' s4 ⟨z',H4,I4,r4,q4⟩=>ho' pins s4 σ H4 y z' u w' Q I4 r2 r4 q4))
 ·exact q3.elim
theorem Pz {r:R2}{ta tb tc:TE} (ho:OpR X (compareOp op) r) (ho':OpR X (compareOp op') r') (ha:PE X a ta) (hb:PE X b tb) (hc:PE X c tc)
  (hm:lastMarks [op,op'] [b,c]=false:=by with_unfolding_all rfl):PT X (.Compare a [op,op'] [b,c] pos) (cB (Lg r r' ta tb tc)):=by
 intro pins s σ H Q I h;refine isTrue_chain (Ap (ha pins s σ H _ I h) λv s1 ⟨x,H1,I1,r1,q1⟩=>test_link (Ap (hb pins s1 σ H1 _ I1 q1) λu s2 ⟨y,H2,I2,r2,q2⟩=>
  Ap (ho pins s2 σ H2 x y v u _ I2 r1 r2 q2) λd s3 ⟨z,H3,I3,r3,q3⟩=>?_)) hm
 dsimp only at q3;split at q3
 ·rename_i k;cases r3;refine wpAny_truthy_bool ?_;cases k with
  | false=>exact ite_ff ⟨H3,I3,q3.2 rfl⟩
  | true=>
   refine ite_tt (test_last (Ap (hc pins s3 σ H3 _ I3 (q3.1 rfl)) λw' s4 ⟨z',H4,I4,r4,q4⟩=>Ap (ho' pins s4 σ H4 y z' u w' _ I4 r2 r4 q4) λd' s5 ⟨z2,H5,I5,r5,q5⟩=>?_));dsimp only at q5;split at q5
   ·cases r5;exact wpAny_truthy_bool ⟨H5,I5,q5⟩
   ·exact q5.elim
 ·exact q3.elim
def PC (t u:TT):TT:=fun σ H Q=>t σ H λc H1=>br c (u σ H1 Q) (Q false H1)
def PD (t u:TT):TT:=fun σ H Q=>t σ H λc H1=>br c (Q true H1) (u σ H1 Q)
theorem FQ {tA tB':TT} (ha:PT X a tA) (hb:PW X (.BoolOp .And (b::rest) pos) tB'):PW X (.BoolOp .And (a::b::rest) pos) (PC tA tB'):=by
 intro wh pins s σ H Q I h;refine isTrue_and (Ap (ha pins s σ H _ I h) λc s1 ⟨H1,I1,q1⟩=>?_);cases c with
 | true=>exact hb wh pins s1 σ H1 Q I1 (q1.1 rfl)
 | false=>exact⟨H1,I1,q1.2 rfl⟩
theorem E3 {tA tB':TT} (ha:PT X a tA) (hb:PW X (.BoolOp .Or (b::rest) pos) tB'):PW X (.BoolOp .Or (a::b::rest) pos) (PD tA tB'):=by
 intro wh pins s σ H Q I h;refine isTrue_or (Ap (ha pins s σ H _ I h) λc s1 ⟨H1,I1,q1⟩=>?_);cases c with
 | true=>exact⟨H1,I1,q1.1 rfl⟩
 | false=>exact hb wh pins s1 σ H1 Q I1 (q1.2 rfl)
def PF (ta tb:TE):TE:=fun σ H Q=>ta σ H λx H1=>match x with | .bl c=>br c (tb σ H1 Q) (Q (.bl false) H1) | _=>False
def PH (ta tb:TE):TE:=fun σ H Q=>ta σ H λx H1=>match x with | .bl c=>br c (Q (.bl true) H1) (tb σ H1 Q) | _=>False
def PJ (ta:TE):TE:=fun σ H Q=>ta σ H λx H1=>match x with | .bl c=>Q (.bl (!c)) H1 | _=>False
theorem Bz {ta tb:TE} (ha:PE X a ta) (hb:PE X (.BoolOp .And (b::rest) pos) tb):PE X (.BoolOp .And (a::b::rest) pos) (PF ta tb):=by
 intro pins s σ H Q I h;refine BoolOp_and (Ap (ha pins s σ H _ I h) λv s1 ⟨x,H1,I1,r1,q1⟩=>?_);dsimp only at q1;split at q1
 ·rename_i c;cases r1;refine wpAny_truthy_bool ?_;cases c with
  | true=>exact hb pins s1 σ H1 Q I1 (q1.1 rfl)
  | false=>exact⟨.bl false,H1,I1,rfl,q1.2 rfl⟩
 ·exact q1.elim
theorem PK {ta tb:TE} (ha:PE X a ta) (hb:PE X (.BoolOp .Or (b::rest) pos) tb):PE X (.BoolOp .Or (a::b::rest) pos) (PH ta tb):=by
 intro pins s σ H Q I h;refine BoolOp_or (Ap (ha pins s σ H _ I h) λv s1 ⟨x,H1,I1,r1,q1⟩=>?_);dsimp only at q1;split at q1
 ·rename_i c;cases r1;refine wpAny_truthy_bool ?_;cases c with
  | false=>exact hb pins s1 σ H1 Q I1 (q1.2 rfl)
  | true=>exact⟨.bl true,H1,I1,rfl,q1.1 rfl⟩
 ·exact q1.elim
theorem PN {ta:TE} (ha:PE X a ta):PE X (.UnaryOp .Not a pos) (PJ ta):=by
 intro pins s σ H Q I h;refine UnaryOp_ (Ap (ha pins s σ H _ I h) λv s1 ⟨x,H1,I1,r1,q1⟩=>?_);dsimp only at q1;split at q1
 ·rename_i c;cases r1;exact not_of (wpAny_truthy_bool ⟨.bl (!c),H1,I1,rfl,q1⟩)
 ·exact q1.elim
def PP (t:TT) (ta tb:TE):TE:=fun σ H Q=>t σ H λc H1=>br c (ta σ H1 Q) (tb σ H1 Q)
theorem Dg {ta tb:TE}{tA:TT} (hc:PT X c tA) (ha:PE X a ta) (hb:PE X b tb):PE X (.IfExp c a b pos) (PP tA ta tb):=by
 intro pins s σ H Q I h;refine wpAny_IfExp (Ap (hc pins s σ H _ I h) λd s1 ⟨H1,I1,q1⟩=>?_);cases d with
 | true=>exact ha pins s1 σ H1 Q I1 (q1.1 rfl)
 | false=>exact hb pins s1 σ H1 Q I1 (q1.2 rfl)
def PQ (c:TT) (t u:TS):TS:=λD σ H=>c σ H λb H1=>br b (t D σ H1) (u D σ H1)
theorem AT {sa sb:List Stmt}{tc:TT}{t u:TS} (hc:PT X c tc) (ha:PSs X sa t) (hb:PSs X sb u):PS X (.If c sa sb pos) (PQ tc t u):=by
 intro pins s σ H D I h;refine wpAny_If (Ap (hc pins s σ H _ I h) λd s1 ⟨H1,I1,q1⟩=>?_);cases d with
 | true=>exact ha pins s1 σ H1 D I1 (q1.1 rfl)
 | false=>exact hb pins s1 σ H1 D I1 (q1.2 rfl)
end
section
variable {X : Cx} {es : List Expr} {t : TA} {pos : Pos}
theorem few {n:Nat} (h:Nat.ble n 64=true):n<=sizeLine:=Nat.le_trans (Nat.le_of_ble_eq_true h) (by decide)
def PR (t:TA):TE:=fun σ H Q=>t σ H λxs H1=>match Nat.ble xs.length 64 with | true=>∀p,H1 p=none->Q (.ref p) (upd H1 p (.tup xs)) | false=>False
def PU (t:TA):TE:=fun σ H Q=>t σ H λxs H1=>match Nat.ble xs.length 64 with | true=>∀p,H1 p=none->Q (.ref p) (upd H1 p (.lst xs)) | false=>False
theorem BG {x1} (h:PA X es t):PE X (.Tuple es x1 pos) (PR t):=by
 intro pins s σ H Q I hq;refine wpAny_Tuple_spliced (Ap (h pos pins s σ H _ I hq) λus s1 ⟨xs,H1,I1,r,q⟩=>?_);dsimp only at q;split at q
 ·rename_i z;refine⟨by rw [<-r.length];exact few z,?_⟩;have hf:H1 s1.heap.objs.size=none:=I1.hok.fresh (Nat.le_refl _);refine⟨.ref s1.heap.objs.size,upd H1 s1.heap.objs.size (.tup xs),I1.laid (t':=s1.toks) (λb u e=>Heap.get?_push_of_some _ e) (Nat.le_refl _) ?_,rfl,q _ hf⟩;exact⟨few z,us,r,⟨_,Heap.get?_push_size _ rfl,rfl,_,rfl⟩⟩
 ·exact q.elim
theorem Bo (h:PA X es t):PE X (.List es pos) (PU t):=by
 intro pins s σ H Q I hq;refine wpAny_List_spliced (Ap (h pos pins s σ H _ I hq) λus s1 ⟨xs,H1,I1,r,q⟩=>?_);dsimp only at q;split at q
 ·rename_i z;refine⟨by rw [<-r.length];exact few z,?_⟩;have hf:H1 s1.heap.objs.size=none:=I1.hok.fresh (Nat.le_refl _);refine⟨.ref s1.heap.objs.size,upd H1 s1.heap.objs.size (.lst xs),I1.laid (t':=s1.toks) (λb u e=>Heap.get?_push_of_some _ e) (Nat.le_refl _) ?_,rfl,q _ hf⟩;exact⟨few z,us,0,r,Heap.get?_push_size _ rfl⟩
 ·exact q.elim
end
section
variable {P : Program} {w : World} {K : Fgx} {mg : Str -> Option Value} {base : Heap}
structure Fn (P:Program) (w:World) (K:Fgx) (mg:Str->Option Value) (base:Heap) (n:Nat) (x:Str) (ps:List Str) (sp:Sp):Prop where
 ex:∃(f:Addr) (fd:FuncData),BE P w K mg base CX0 n f fd ps sp/\mg x=some (.ref f)/\PySem.W.keepIn K (.ref f)=true/\Binds K fd ps []
structure Df (K:Fgx) (mg:Str->Option Value) (x:Str) (st:Stmt) (ps:List Str):Prop where
 ex:∃(f:Addr) (fd:FuncData),Dx K x x st f fd/\mg x=some (.ref f)/\Binds K fd ps []
theorem Df.fn {x:Str}{st:Stmt}{N ps:List Str}{k:Nat}{sp:Sp} (F:Df K mg x st ps) (S:At N ps (Ak st)) (len:∀vs H Q E,sp vs H Q E->vs.length=ps.length)
  (hbody : ∀ (f : Addr) (cdv : Value) (A : Around) (outer : List Env) (s : Shared) (H : Hp) (vs : List V) (Q : VK) (E : XK), AJ k (A.deeper (envOfC x (Ak st) s.heap.objs.size f cdv)) -> sp vs H Q E ->
   ∃t,PSs (BS CX0 P w K mg base N x (Ak st) f cdv A outer s H E).nox (Bf st) t/\t { nx:=λ_ H'=>Q .non H',rt:=Q} (start N vs) H):Fn P w K mg base (k+1) x ps sp:=by
 obtain⟨f,fd,hF,hm,hb⟩:=F.ex;exact⟨f,fd,hF.ok S len λcdv A outer s H vs Q E hr h=>hbody f cdv A outer s H vs Q E hr h,hm,hF.kp,hb⟩
def Li (sp:Sp) (t:TA):TE:=fun σ H Q=>t σ H λvs H1=>sp vs H1 Q E0
theorem An {X:Cx}{n:Nat}{x:Str}{ps:List Str}{sp:Sp}{e:Expr}{es:List Expr}{t:TA}{p pos:Pos} (F:Fn X.prog X.w X.K X.mg X.base n x ps sp) (hr:AJ n X.A) (hg:Gl X x) (ha:PA X (e::es) t)
  (hdb:(x==("__debug__" :Str))=false:=by decide) (he:starEach (e::es) X.env=(false,eval e X.env)::starEach es X.env:=by rfl) (hpl:(backTo pos (starEach es X.env)).any (·.1)=false:=by rfl):
  PE X (.Call (.Name x p) (e::es) [] pos) (Li sp t):=by
 obtain⟨f,fd,F,hm,hk,hb⟩:=F.ex;refine(KC (dvs:=[]) (E:=E0) F hr hg hm hk hb .nil Ce ha hdb he hpl).weak fun σ H Q q=>?_
 have e:∀vs:List V,vs++[]=vs:=λvs=>append_nil vs
 show t σ H λvs H1=>sp (vs++[]) H1 Q E0
 simp only [e];exact q
end
end L2
end
section
namespace L2
variable {p a : Addr} {H H' : Hp} {xs : List V}
def DK (kvs:List (PyData×PyData)) (ks:List (AD×V)):Prop:=(kvs=[]/\ks=[])\/(kvs=[(.int 0,.int 1)]/\ks=[(.inl 0,.int 1)])
mutual
def Aa (p:Addr) (H:Hp):PyData->V->Prop
 | .none,v=>v= .non
 | .bool b,v=>v= .bl b
 | .int i,v=>v= .int i
 | .str x,v=>v= .str x
 | .tuple ds,v=>∃a xs,v= .ref a/\H a=some (.tup xs)/\Ad p H ds xs
 | .list ds,v=>∃a xs,v= .ref a/\a≠p/\H a=some (.lst xs)/\Ad p H ds xs
 | .dict kvs,v=>∃a ks,v= .ref a/\a≠p/\DK kvs ks/\H a=some (.dK ks)
def Ad (p:Addr) (H:Hp):List PyData->List V->Prop
 | [],xs=>xs=[]
 | d::ds,xs=>∃x r,xs=x::r/\Aa p H d x/\Ad p H ds r
end
def Ev (p:Addr) (H H':Hp):Prop:=∀b o,H b=some o->(b=p/\∃xs,o= .lst xs)\/H' b=some o
theorem Ev.refl:Ev p H H:=λ_ _ h=> .inr h
theorem Ev.same (h:Ab H H'):Ev p H H':=λb o q=> .inr (h b o q)
theorem Ev.trans {H1 H2:Hp} (h:Ev p H H1) (h':Ev p H1 H2):Ev p H H2:=λb o q=>(h b o q).elim .inl λr=>h' b o r
theorem Ev.tup (h:Ev p H H') (q:H a=some (.tup xs)):H' a=some (.tup xs):=(h a _ q).elim (fun⟨_,ys,e⟩=>nomatch e) id
theorem Ev.lst (h:Ev p H H') (q:H a=some (.lst xs)) (n:a≠p):H' a=some (.lst xs):=(h a _ q).elim (fun⟨e,_⟩=>absurd e n) id
theorem Ev.dk {ks:List (AD×V)} (h:Ev p H H') (q:H a=some (.dK ks)):H' a=some (.dK ks):=(h a _ q).elim (fun⟨_,ys,e⟩=>nomatch e) id
theorem Ev.new {o:HO} (h:H a=none):Ev p H (upd H a o):=λb u q=> .inr (by rw [Aq (Bu q h)];exact q)
theorem Ev.pen {o:HO} (h:H p=some (.lst xs)):Ev p H (upd H p o):=λb u q=>by
 by_cases e:b=p
 ·subst e;rw [h] at q;cases q;exact .inl ⟨rfl,xs,rfl⟩
 ·exact .inr (by rw [Aq e];exact q)
theorem Ab.new {o:HO} (h:H a=none):Ab H (upd H a o):=λb u q=>by rw [Aq (Bu q h)];exact q
mutual
theorem Aa.ev (h:Ev p H H'):∀(d:PyData) (v:V),Aa p H d v->Aa p H' d v
 | .none,v,q=>q
 | .bool _,v,q=>q
 | .int _,v,q=>q
 | .str _,v,q=>q
 | .tuple ds,v,q=>by
  unfold Aa at q ⊢;obtain⟨a,xs,e,r,z⟩:=q;exact⟨a,xs,e,h.tup r,Ad.ev h ds xs z⟩
 | .list ds,v,q=>by
  unfold Aa at q ⊢;obtain⟨a,xs,e,n,r,z⟩:=q;exact⟨a,xs,e,n,h.lst r n,Ad.ev h ds xs z⟩
 | .dict kvs,v,q=>by
  unfold Aa at q ⊢;obtain⟨a,ks,e,n,k,r⟩:=q;exact⟨a,ks,e,n,k,h.dk r⟩
theorem Ad.ev (h:Ev p H H'):∀(ds:List PyData) (xs:List V),Ad p H ds xs->Ad p H' ds xs
 | [],xs,q=>by unfold Ad at q ⊢;exact q
 | d::ds,xs,q=>by
  unfold Ad at q ⊢;obtain⟨x,r,e,z,zs⟩:=q;exact⟨x,r,e,Aa.ev h d x z,Ad.ev h ds r zs⟩
end
theorem Ad.len:∀ {ds:List PyData}{xs:List V},Ad p H ds xs->ds.length=xs.length
 | [],xs,q=>by unfold Ad at q;subst q;rfl
 | d::ds,xs,q=>by
  unfold Ad at q;obtain⟨x,r,e,z,zs⟩:=q;subst e;simp [Ad.len zs]
theorem Ad.get {p:Addr}{H:Hp}:∀ {ds:List PyData}{xs:List V}{i:Nat}{d:PyData},Ad p H ds xs->ds[i]? =some d->∃x,xs[i]? =some x/\Aa p H d x
 | [],xs,i,d,q,e=>by simp at e
 | d::ds,xs,0,d',q,e=>by
  unfold Ad at q;obtain⟨x,r,rfl,z,zs⟩:=q;simp at e;subst e;exact⟨x,rfl,z⟩
 | d::ds,xs,i+1,d',q,e=>by
  unfold Ad at q;obtain⟨x,r,rfl,z,zs⟩:=q;obtain⟨y,hy,ry⟩:=Ad.get (i:=i) zs (by simpa using e);exact⟨y,by simpa using hy,ry⟩
theorem Ad.got {p:Addr}{H:Hp}:∀ {ds:List PyData}{xs:List V}{i:Nat}{x:V},Ad p H ds xs->xs[i]? =some x->∃d,ds[i]? =some d/\Aa p H d x
 | [],xs,i,x,q,e=>by unfold Ad at q;subst q;simp at e
 | d::ds,xs,0,x',q,e=>by
  unfold Ad at q;obtain⟨x,r,rfl,z,zs⟩:=q;simp at e;subst e;exact⟨d,rfl,z⟩
 | d::ds,xs,i+1,x',q,e=>by
  unfold Ad at q;obtain⟨x,r,rfl,z,zs⟩:=q;obtain⟨y,hy,ry⟩:=Ad.got (i:=i) zs (by simpa using e);exact⟨y,by simpa using hy,ry⟩
theorem Ad.nil:Ad p H [] []:=by unfold Ad;rfl
theorem Ad.cons {p:Addr}{H:Hp}{d:PyData}{ds:List PyData}{x:V}{xs:List V} (h:Aa p H d x) (r:Ad p H ds xs):Ad p H (d::ds) (x::xs):=by unfold Ad;exact⟨x,xs,rfl,h,r⟩
theorem Ad.append:∀ {ds es:List PyData}{xs ys:List V},Ad p H ds xs->Ad p H es ys->Ad p H (ds++es) (xs++ys)
 | [],_,xs,_,q,r=>by unfold Ad at q;subst q;exact r
 | d::ds,_,xs,_,q,r=>by
  unfold Ad at q;obtain⟨x,t,rfl,z,zs⟩:=q;exact .cons z (Ad.append zs r)
theorem Aa.tup {ds:List PyData} (h:H a=some (.tup xs)) (r:Ad p H ds xs):Aa p H (.tuple ds) (.ref a):=by unfold Aa;exact⟨a,xs,rfl,h,r⟩
theorem Aa.lst {ds:List PyData} (n:a≠p) (h:H a=some (.lst xs)) (r:Ad p H ds xs):Aa p H (.list ds) (.ref a):=by unfold Aa;exact⟨a,xs,rfl,n,h,r⟩
theorem Aa.int {i:Int}:Aa p H (.int i) (.int i):=by unfold Aa;rfl
theorem Aa.bl {i:Bool}:Aa p H (.bool i) (.bl i):=by unfold Aa;rfl
theorem Aa.str {i:Str}:Aa p H (.str i) (.str i):=by unfold Aa;rfl
theorem Aa.non:Aa p H .none .non:=by unfold Aa;rfl
def Lj (x:V) (H:Hp) (n:String):Prop:=match x with
 | .non=>n="NoneType" | .bl _=>n="bool" | .int _=>n="int" | .str _=>n="str"
 | .ref a=>(n="tuple" /\∃xs,H a=some (.tup xs))\/(n="list" /\∃xs,H a=some (.lst xs))\/(n="dict" /\∃kvs,H a=some (.dK kvs))
 | _=>False
def PV:PyData->String
 | .none=> "NoneType" | .bool _=> "bool" | .int _=> "int" | .str _=> "str" | .tuple _=> "tuple" | .list _=> "list" | .dict _=> "dict"
def Jf (n T:String):Bool:=n==T || (n=="bool" && T=="int")
theorem Aa.ty {v:V}:∀ {d:PyData},Aa p H d v->Lj v H (PV d)
 | .none,q=>by unfold Aa at q;subst q;rfl
 | .bool _,q=>by unfold Aa at q;subst q;rfl
 | .int _,q=>by unfold Aa at q;subst q;rfl
 | .str _,q=>by unfold Aa at q;subst q;rfl
 | .tuple ds,q=>by unfold Aa at q;obtain⟨a,xs,rfl,h,_⟩:=q;exact .inl ⟨rfl,xs,h⟩
 | .list ds,q=>by unfold Aa at q;obtain⟨a,xs,rfl,_,h,_⟩:=q;exact .inr (.inl ⟨rfl,xs,h⟩)
 | .dict kvs,q=>by unfold Aa at q;obtain⟨a,ks,rfl,_,_,h⟩:=q;exact .inr (.inr ⟨rfl,ks,h⟩)
def Ll:List V->Hp->VK->Prop:=λxs H Q=>match xs with
 | [x,.ty T]=>∃n,Lj x H n/\(T="int" \/T="bool" \/T="tuple" \/T="list" \/T="str")/\Q (.bl (Jf n T)) H
 | _=>False
section
variable {X : Cx}
theorem boot_int:bootBuiltins "int"=some (.type "int"):=by decide+kernel
theorem boot_bool:bootBuiltins "bool"=some (.type "bool"):=by decide+kernel
theorem BN:bootBuiltins "tuple"=some (.type "tuple"):=by decide+kernel
theorem DB:bootBuiltins "str"=some (.type "str"):=by decide+kernel
theorem E4:BR X (.builtin "isinstance") Ll:=by
 intro pins s σ H xs us Q I r h;unfold Ll at h;split at h
 ·rename_i x T;obtain⟨n,ht,hT,q⟩:=h;obtain⟨u,v,rfl,ru,rv⟩:=r.two;cases rv;have yes:∀s':Shared,Ac X pins σ H s'->Jf n T=true->EP X pins σ Q (.bool true) s':=λs' I' e=>⟨.bl true,H,I',rfl,by rw [e] at q;exact q⟩
  have no:Jf n T=false->EP X pins σ Q (.bool false) { s with toks:=s.toks+1}:=λe=>⟨.bl false,H,I.tok _,rfl,by rw [e] at q;exact q⟩
  cases x with
  | non=>
   have e:n="NoneType" :=ht;subst e;cases ru;rcases hT with rfl | rfl | rfl | rfl | rfl
   ·exact IsiPair.NoneType_int (no rfl)
   ·exact IsiPair.NoneType_bool (no rfl)
   ·exact IsiPair.NoneType_tuple (no rfl)
   ·exact IsiPair.NoneType_list (no rfl)
   ·exact IsiPair.NoneType_str (no rfl)
  | bl k=>
   have e:n="bool" :=ht;subst e;cases ru;rcases hT with rfl | rfl | rfl | rfl | rfl
   ·exact IsiPair.bool_int (yes _ I rfl)
   ·exact IsiPair.bool_bool (yes _ I rfl)
   ·exact IsiPair.bool_tuple (no rfl)
   ·exact IsiPair.bool_list (no rfl)
   ·exact IsiPair.bool_str (no rfl)
  | int k=>
   have e:n="int" :=ht;subst e;obtain⟨t,rfl⟩:=ru;rcases hT with rfl | rfl | rfl | rfl | rfl
   ·exact IsiPair.int_int (yes _ I rfl)
   ·exact IsiPair.int_bool (no rfl)
   ·exact IsiPair.int_tuple (no rfl)
   ·exact IsiPair.int_list (no rfl)
   ·exact IsiPair.int_str (no rfl)
  | str k=>
   have e:n="str" :=ht;subst e;obtain⟨t,rfl⟩:=ru;rcases hT with rfl | rfl | rfl | rfl | rfl
   ·exact IsiPair.str_int (no rfl)
   ·exact IsiPair.str_bool (no rfl)
   ·exact IsiPair.str_tuple (no rfl)
   ·exact IsiPair.str_list (no rfl)
   ·exact IsiPair.str_str (yes _ I rfl)
  | ref a=>
   cases ru;have ht':(n="tuple" /\∃xs,H a=some (.tup xs))\/(n="list" /\∃xs,H a=some (.lst xs))\/(n="dict" /\∃kvs,H a=some (.dK kvs)):=ht;rcases ht' with⟨e,xs,hx⟩ | ⟨e,xs,hx⟩ | ⟨e,xs,hx⟩
   ·subst e;obtain⟨_,its,_,o,ho,hc,_⟩:=I.hok a _ hx;rcases hT with rfl | rfl | rfl | rfl | rfl
    ·exact IsiPair.tuple_int ho hc (no rfl)
    ·exact IsiPair.tuple_bool ho hc (no rfl)
    ·exact IsiPair.tuple_tuple ho hc (yes _ I rfl)
    ·exact IsiPair.tuple_list ho hc (no rfl)
    ·exact IsiPair.tuple_str ho hc (no rfl)
   ·subst e;obtain⟨_,its,k,_,ho⟩:=I.hok a _ hx;rcases hT with rfl | rfl | rfl | rfl | rfl
    ·exact IsiPair.list_int ho rfl (no rfl)
    ·exact IsiPair.list_bool ho rfl (no rfl)
    ·exact IsiPair.list_tuple ho rfl (no rfl)
    ·exact IsiPair.list_list ho rfl (yes _ I rfl)
    ·exact IsiPair.list_str ho rfl (no rfl)
   ·subst e;obtain⟨_,_,vs,_,o,es,ep,ho,hc,_⟩:=I.hok a _ hx;have hc':o.cls= .type "dict" :=hc.1;rcases hT with rfl | rfl | rfl | rfl | rfl
    ·exact IsiPair.dict_int ho hc' (no rfl)
    ·exact IsiPair.dict_bool ho hc' (no rfl)
    ·exact IsiPair.dict_tuple ho hc' (no rfl)
    ·exact IsiPair.dict_list ho hc' (no rfl)
    ·exact IsiPair.dict_str ho hc' (no rfl)
  | byt _=>exact(show False from ht).elim
  | flt _=>exact(show False from ht).elim
  | ty _=>exact(show False from ht).elim
 ·exact h.elim
theorem DY (hc:X.calm=true):BR X (.builtin "all") (λxs H Q=>∃(p:Addr) (bs:List Bool),xs=[.ref p]/\H p=some (.lst (bs.map V.bl))/\Q (.bl (bs.all id)) H):=by
 intro pins s σ H xs us Q I r h;obtain⟨p,bs,rfl,hp,q⟩:=h;obtain⟨u,rfl,ru⟩:=r.one;cases ru;obtain⟨its,rv,pl,hz⟩:=I.list (Ai.of hp);refine call_all_walk (wpAny_pyIter_list pl.isList ?_);obtain⟨ol,_,hol,_⟩:=id pl;have hlt:=Heap.lt_size hol;refine⟨s.heap.objs.size,_,_,_,_,_,λi=>bs.getD i false,rfl,Walks.list (A:=X.A.in1) (I.ok.hd hc) s.heap.objs.size p (Nat.ne_of_lt hlt) its.toArray,⟨⟨_,Heap.get?_push_size _ rfl,rfl,rfl⟩,?_⟩,λi v s' Q' E' hi hq=>?_,λh' tk hk=>?_⟩
 ·exact pl.isList.at λo e=>Heap.get?_push_of_some _ e
 ·have hi':its[i]? =some v:=by simpa using hi
  have hl:=rv.length;have hb:i<bs.length:=by have:=(List.getElem?_eq_some_iff.mp hi').1;simp at hl;omega
  obtain⟨u,hu,ru⟩:=rv.get (i:=i) (x:= .bl bs[i]) (by simp [hb]);rw [hi'] at hu;cases hu;cases ru;dsimp only at hq;rw [getD_eq_getElem?_getD,getElem?_eq_getElem hb] at hq;exact wpAny_truthy_bool hq
 ·have hl:=rv.length;simp at hl;have e:(List.range its.toArray.size).all (λi=>bs.getD i false)=bs.all id:=by
   rw [size_toArray,<-hl,Bool.eq_iff_iff];simp only [all_eq_true,mem_range,id];constructor
   ·intro h x hx;obtain⟨i,hi,e⟩:=List.mem_iff_getElem.mp hx;have:=h i hi;rw [getD_eq_getElem?_getD,getElem?_eq_getElem hi] at this;rw [<-e];exact this
   ·intro h i hi;rw [getD_eq_getElem?_getD,getElem?_eq_getElem hi];exact h _ (getElem_mem hi)
  rw [e];refine⟨.bl (bs.all id),H,I.kept λb o eb=>hk b o ?_ (Heap.get?_push_of_some _ eb),rfl,q⟩;intro z;have z':b=s.heap.objs.size:=by simpa using z
  exact absurd (Heap.lt_size eb) (by rw [z'];exact Nat.lt_irrefl _)
end
end L2
end
section
namespace L2
open AutoSeq1 (wpAny_loadPart')
section
variable {X : Cx}
def GR (H:Hp) (xs:List V) (Q:VK):Prop:=∀r H',Ab H H'->H' r=some (.tup xs)->Q (.ref r) H'
theorem Ac.gotNew {pins:PNs}{σ:St}{H:Hp}{s:Shared}{Q:VK}{xs:List V}{us:List Value}{t':Nat} (I:Ac X pins σ H s) (q:GR H xs Q) (rv:As xs us) (hz:xs.length<=sizeLine):
  EP X pins σ Q (.ref s.heap.objs.size) { s with heap:=s.heap.push { cls:= .type "tuple",data:= .seq us.toArray},toks:=t'}:=
 ⟨.ref s.heap.objs.size,_,I.laid (o:= .tup xs) (λb ob e=>Heap.get?_push_of_some _ e) (Nat.le_refl _) ⟨hz,us,rv,IsTup.new _ _⟩,rfl,q _ _ (Ab.new (I.hok.fresh (Nat.le_refl _))) Ae⟩
def PX:R2:=λx y H Q=>∃a b xs ys,x= .ref a/\y= .ref b/\H a=some (.tup xs)/\H b=some (.tup ys)/\xs.length+ys.length<=1000/\GR H (xs++ys) Q
theorem Lm:OpR X (binaryOp .Add) PX:=by
 intro pins s σ H x y v u Q I rx ry h;obtain⟨a,b,xs,ys,rfl,rfl,ha,hb,hz,q⟩:=h;cases rx;cases ry;obtain⟨its,r1,ht,_⟩:=I.tuple (Ag.of ha);obtain⟨its2,r2,ht2,_⟩:=I.tuple (Ag.of hb);obtain⟨⟨cls,dd,data,sl⟩,ho,hc,n,hd⟩:=id ht;obtain⟨⟨cls2,dd2,data2,sl2⟩,ho2,hc2,n2,hd2⟩:=id ht2;simp only at hc hd hc2 hd2;subst hc hd hc2 hd2;have hl1:=r1.length;have hl2:=r2.length;have hs:(1000:Nat)<=sizeLine:=by decide
 by_cases hv:its=[]
 ·have e:xs=[]:=by subst hv;cases r1;rfl
  refine concat_meets ⟨_,ho,rfl⟩ ⟨_,ho2,rfl⟩ noFill_tuple_add seq_tuple_add PySem.F.slot_tuple_add PySem.F.entry_tuple_add (PySem.F.args_tuple_add_2 _ _) (tuple_addW0 a b its.toArray its2.toArray n n2 dd dd2 sl sl2 (by simp [hv])) ⟨ho,ho2,?_⟩;exact⟨.ref b,H,I,rfl,q b H (Ab.refl _) (by rw [e];exact hb)⟩
 ·by_cases hw:its2=[]
  ·have e:ys=[]:=by subst hw;cases r2;rfl
   refine concat_meets ⟨_,ho,rfl⟩ ⟨_,ho2,rfl⟩ noFill_tuple_add seq_tuple_add PySem.F.slot_tuple_add PySem.F.entry_tuple_add (PySem.F.args_tuple_add_2 _ _) (tuple_addW1 a b its.toArray its2.toArray n n2 dd dd2 sl sl2 (by simpa using hv) (by simp [hw])) ⟨ho,ho2,?_⟩;exact⟨.ref a,H,I,rfl,q a H (Ab.refl _) (by rw [e,append_nil];exact ha)⟩
  ·refine concat_meets ⟨_,ho,rfl⟩ ⟨_,ho2,rfl⟩ noFill_tuple_add seq_tuple_add PySem.F.slot_tuple_add PySem.F.entry_tuple_add (PySem.F.args_tuple_add_2 _ _)
    (tuple_addW2 a b its.toArray its2.toArray n n2 dd dd2 sl sl2 (by simpa using hv) (by simpa using hw) (by rw [size_toArray,size_toArray];omega)) ⟨ho,ho2,?_⟩
   have e:its.toArray++its2.toArray=(its++its2).toArray:=by simp
   rw [e];exact I.gotNew (t':=s.toks) q (r1.append r2) (by rw [length_append];omega)
theorem PY {t sl:Addr}{items:Array Value}{vl vu:Value}{lo hi:Option Int}{Q:VSP}{prog:Program}{w:World}{A:Around}{E:VSP}{s:Shared} (ht:IsTup s.heap t items) (hs:s.heap.IsSliceOf sl vl vu .none) (pl:IsPart vl lo) (pu:IsPart vu hi)
  (hw:HT.sIx items.size 0 lo=0/\HT.sIx items.size items.size hi=items.size) (h:Q (.ref t) s):wpAny (model prog w) A (getItem (.ref t) (.ref sl)) Q E s:=by
 obtain⟨os,hos,hcs,hds⟩:=id hs;have hTs:s.TypeIs (.ref sl) "slice" :=⟨os,hos,hcs⟩;unfold getItem
 try with_reducible refine wpAny_holding ?_
 first | refine wpAny_bind (wpAny_pure ?_) | skip
 refine wpAny_bind (wpAny_sequenceKey ht.typeIs (by decide) ?_);refine wpAny_bind (wpAny_callSpecial?_slot (name:=Str.ofString "__getitem__") ht.typeIs PyProof.Rows.slot_tuple_getitem (wpAny_call_entry PyProof.Rows.slot_tuple_getitem ht.typeIs entry_tuple_getitem ?_ (args_tuple_getitem _ _)));show wpAny _ _ (Builtin.Tuple.tupleItemsOf (.ref t) >>=_) _ _ s;refine wpAny_bind (tupleItemsOf_ ht ?_);refine wpAny_bind (wpAny_typeOf hTs ?_);rw [if_pos (by decide)];refine wpAny_bind (HT.sliceApplied_gen hs pl pu ?_);rw [hw.1,hw.2];show wpAny _ _ (if (((0:Nat):Int)==0 &&(1:Int)==1 &&(items.size-0)==items.size)=true then _ else _) _ _ s;rw [if_pos (by simp)];refine wpAny_bind (m:=Builtin.Tuple.tupleIsExact _) ?_;unfold Builtin.Tuple.tupleIsExact;refine wpAny_bind (wpAny_typeOf ht.typeIs (wpAny_pure ?_));rw [if_pos (by decide)];exact wpAny_bind (wpAny_rule (wpAny_pure ⟨_,rfl,wpAny_pure h⟩))
def PZ:V->Option Int->Option Int->Hp->VK->Prop:=λx lo hi H Q=>∃a xs,x= .ref a/\H a=some (.tup xs)/\GR H (Bi xs lo hi) Q
theorem wa2:FG X PZ:=by
 intro pins s σ H x v vl vu lo hi sl Q I rx hs pl pu h;obtain⟨a,xs,rfl,ha,q⟩:=h;cases rx;obtain⟨its,r,ht,hz⟩:=I.tuple (Ag.of ha);have hlen:its.toArray.size=xs.length:=by rw [size_toArray];exact r.length.symm
 refine⟨"tuple",_,PyProof.Rows.slot_tuple_getitem.lookup,ht.typeIs,?_⟩
 by_cases hw:HT.sIx xs.length 0 lo=0/\HT.sIx xs.length xs.length hi=xs.length
 ·refine PY ht hs pl pu (by rw [hlen];exact hw) ⟨.ref a,H,I,rfl,q a H (Ab.refl _) ?_⟩;unfold Bi;rw [hw.1,hw.2,drop_zero,Nat.sub_zero,take_length];exact ha
 ·refine HT.getItem_tuple_cut ht hs pl pu (by rw [hlen];exact hw) ?_ (by rw [hlen];exact hz);rw [hlen];have e:its.toArray.toList=its:=rfl;rw [e];exact I.gotNew (t':=s.toks) q ((r.drop _).take _) (Nat.le_trans (Gx xs lo hi) hz)
end
end L2
end
section
namespace L2
open AutoSeq1 (wpAny_loadPart')
section
variable {X : Cx}
def P1:TE:=λ_ H Q=>∀p,H p=none->Q (.ref p) (upd H p (.dK []))
def P2:List (PyData×PyData)->Nat | []=>2 | [(.int i,.int j)]=>if i=0/\j=1 then 6 else 10 ^ 9 | _=>10 ^ 9
mutual
def DD:PyData->Nat
 | .none=>4 | .bool _=>5 | .int i=>if i.natAbs<10 ^ 31 then 40 else 10 ^ 9 | .str x=>(reprText x).length
 | .tuple ds=>DZ ds+4 | .list ds=>DZ ds+4 | .dict kvs=>P2 kvs
def DZ:List PyData->Nat
 | []=>0
 | d::ds=>DD d+2+DZ ds
end
end
end L2
end
section
namespace L2
variable {i : Int} {p : Addr}
theorem P3 (h:i.natAbs<10 ^ 31):(Str.ofString (toString i)).length<=40:=by
 have h1:=int_text_length_le10 (a:=i) (k:=31) (by decide) h;have h2:(Str.ofString (toString i)).length=(toString i).length:=by rw [PySem.ofString_length]
 omega
theorem Jg (h:i.natAbs<10 ^ 31):i.natAbs.log2<1920:=by
 by_cases z:i.natAbs=0
 ·rw [z];decide
 ·exact Nat.lt_trans ((Nat.log2_lt z).mpr (Nat.lt_trans h (show 10 ^ 31<2 ^ 120 by decide))) (by decide)
section
variable {X : Cx} {pins : List (Addr × Obj)} {σ : St} {H : Hp} {s : Shared}
mutual
theorem Aa.reads (I:Ac X pins σ H s):∀(d:PyData) (v:V) (u:Value),d.hasDict=false->Aa p H d v->RelV v u->∃as,Reads s.heap u d as
 | .none,v,u,_,r,q=>by unfold Aa at r;subst r;cases q;exact⟨_,.none⟩
 | .bool b,v,u,_,r,q=>by unfold Aa at r;subst r;cases q;exact⟨_,.bool b⟩
 | .int i,v,u,_,r,q=>by unfold Aa at r;subst r;obtain⟨t,rfl⟩:=q;exact⟨_,.int i t⟩
 | .str x,v,u,_,r,q=>by unfold Aa at r;subst r;obtain⟨t,rfl⟩:=q;exact⟨_,.str x t⟩
 | .tuple ds,v,u,hd,r,q=>by
  unfold Aa at r;obtain⟨a,xs,rfl,ha,rs⟩:=r;cases q;obtain⟨its,rv,⟨o,ho,hc,n,hdt⟩,_⟩:=I.tuple (Ag.of ha);obtain⟨as,ra⟩:=Ad.reads I ds xs its (by unfold PyData.hasDict at hd;exact hd) rs rv;exact⟨as,.tuple ho hc hdt ra⟩
 | .list ds,v,u,hd,r,q=>by
  unfold Aa at r;obtain⟨a,xs,rfl,_,ha,rs⟩:=r;cases q;obtain⟨its,rv,⟨o,n,ho,hc,_,hdt⟩,_⟩:=I.list (Ai.of ha);obtain⟨as,ra⟩:=Ad.reads I ds xs its (by unfold PyData.hasDict at hd;exact hd) rs rv;exact⟨a::as,.list ho hc hdt ra⟩
 | .dict kvs,v,u,hd,_,_=>by unfold PyData.hasDict at hd;cases hd
theorem Ad.reads (I:Ac X pins σ H s):∀(ds:List PyData) (xs:List V) (us:List Value),PyData.hasDictAll ds=false->Ad p H ds xs->As xs us->∃as,ReadsAll s.heap us ds as
 | [],xs,us,_,r,q=>by unfold Ad at r;subst r;cases q;exact⟨_,.nil⟩
 | d::ds,xs,us,hd,r,q=>by
  unfold Ad at r;obtain⟨x,t,rfl,rx,rt⟩:=r;unfold PyData.hasDictAll at hd;obtain⟨h1,h2⟩:=Bool.or_eq_false_iff.mp hd;cases q with
  | cons q1 q2=>
   obtain⟨as,ra⟩:=Aa.reads I d x _ h1 rx q1;obtain⟨bs,rb⟩:=Ad.reads I ds t _ h2 rt q2;exact⟨as++bs,.cons ra rb⟩
end
mutual
def Ln:PyData->Bool
 | .list _=>false | .tuple ds=>Lo ds | .none=>true | .bool _=>true | .int _=>true | .str _=>true | .dict _=>true
def Lo:List PyData->Bool
 | []=>true
 | d::ds=>Ln d && Lo ds
end
structure Nice (d:PyData):Prop where
 w:DD d<=1000000
 dp:d.depth<=20
 nd:d.hasDict=false\/Ln d=true
theorem Ac.big (I:Ac X pins σ H s):sysModules<s.heap.objs.size:=by
 have h:mainGlobals<s.heap.objs.size:=(I.mod.glob.keeps I.bk).lt;exact Nat.lt_trans (by decide) h
theorem P4 {pos:Pos}:PE X (.Dict [] [] pos) P1:=λpins s σ H Q I h=>
 wpAny_Dict_empty ⟨.ref s.heap.objs.size,_,I.laid (a:=s.heap.objs.size) (o:= .dK []) (t':=s.toks) (λ_ _ q=>Heap.get?_push_of_some _ q) (Nat.le_refl _) ⟨Nat.zero_le _,beq_eq_false_iff_ne.mpr (Ne.symm (Nat.ne_of_lt I.big)),[],.nil,Heap.DictOf.new s.heap⟩,rfl,h _ (I.hok.fresh (Nat.le_refl _))⟩
end
end L2
end
section
namespace L2
section
variable {X : Cx} {P : Program} {w : World}
theorem Bp (K:Fgx) (h:X.K=K:=by rfl):EW X (KP K):=h ▸ OF
theorem Bq (K:Fgx) (h:X.K=K:=by rfl):EW X (KQ K):=h ▸ OG
theorem Jh (K:Fgx) (h:X.K=K:=by rfl):FG X (KR K):=h ▸ OM
theorem E5 (K:Fgx) (h:X.K=K:=by rfl):OpR X (compareOp .In) (Gy K false):=h ▸ OO
theorem P5 (K:Fgx) (h:X.K=K:=by rfl):OpR X (compareOp .NotIn) (Gy K true):=h ▸ OP
def P6 (K:Fgx):List V->Hp->VK->Prop:=λxs H Q=>∃p ys,xs=[.ref p]/\(Ai K H p ys\/Ag K H p ys)/\Q (.int (ys:List V).length) H
theorem Bn (K:Fgx) (h:X.K=K:=by rfl):BR X (.builtin "len") (P6 K):=h ▸ OQ
def P7 (K:Fgx):List V->Hp->VK->Prop:=λxs H Q=>∃p ys,xs=[.ref p]/\((Ai K H p ys/\∀l,H l=none->Q (.ref l) (upd H l (.tup ys)))\/(Ag K H p ys/\Q (.ref p) H))
theorem BV (K:Fgx) (h:X.K=K:=by rfl):BR X (.type "tuple") (P7 K):=h ▸ OR
theorem AV (K:Fgx) {es:List Expr}{k:Nat}{t:C7}{n:Nat}{pos:Pos} (h:EQ X es t) (hK:X.K=K:=by rfl) (hc:X.calm=true:=by rfl) (hn:(assignEach es X.env).length=n:=by rfl) (hst:(assignEach es X.env).findIdx? (·.1)=none:=by rfl):
  PG X (.Tuple es k pos) (Kf K n t):=hK ▸ NM hc h hn hst
theorem CZ (K:Fgx) {tg l:Expr}{tl:TE} (hl:PE X l tl) (h:X.K=K:=by rfl):PI X tg l (Kj K tl):=h ▸ NW hl
theorem BH (K:Fgx) {tg l:Expr}{tl:TE} (hl:PE X l tl) (h:X.K=K:=by rfl):PI X tg l (Kk K tl):=h ▸ NX hl
theorem P8 (P:Program) (w:World) (K:Fgx) {es:List Expr}{k:Nat}{p pos pos':Pos}{a:Expr}{ta:TA} (hg:Gl X "enumerate") (hm:X.mg "enumerate"=none) (ha:PA X [a] ta) (hP:X.prog=P:=by rfl) (hw:X.w=w:=by rfl) (hK:X.K=K:=by rfl) (hs:starEach [a] X.env=[(false,eval a X.env)]:=by rfl):
  PI X (.Tuple es k pos') (.Call (.Name "enumerate" p) [a] [] pos) (GH (Eu P w K) ta):=by subst hP hw hK;exact Pk hg hm ha hs
theorem GS (P:Program) (w:World) (K:Fgx) {es:List Expr}{k:Nat}{p pos pos':Pos}{a:Expr}{ta:TA} (hg:Gl X "enumerate") (hm:X.mg "enumerate"=none) (ha:PA X [a] ta) (hP:X.prog=P:=by rfl) (hw:X.w=w:=by rfl) (hK:X.K=K:=by rfl) (hs:starEach [a] X.env=[(false,eval a X.env)]:=by rfl):
  PI X (.Tuple es k pos') (.Call (.Name "enumerate" p) [a] [] pos) (GH (CK P w K) ta):=by subst hP hw hK;exact Pl hg hm ha hs
theorem P9 (P:Program) (w:World) (K:Fgx) {es:List Expr}{k:Nat}{p pos pos':Pos}{e1 e2:Expr}{ta:TA} (hg:Gl X "zip") (hm:X.mg "zip"=none) (ha:PA X [e1,e2] ta) (hP:X.prog=P:=by rfl) (hw:X.w=w:=by rfl) (hK:X.K=K:=by rfl)
  (hs:starEach [e1,e2] X.env=[(false,eval e1 X.env),(false,eval e2 X.env)]:=by rfl) (hs2:starEach [e2] X.env=[(false,eval e2 X.env)]:=by rfl):
  PI X (.Tuple es k pos') (.Call (.Name "zip" p) [e1,e2] [] pos) (FP (CK P w K) (Eu P w K) ta):=by subst hP hw hK;exact Pu hg hm ha hs hs2
theorem Ji (P:Program) (w:World) (K:Fgx) {es:List Expr}{k:Nat}{p pos pos':Pos}{e1 e2:Expr}{ta:TA} (hg:Gl X "zip") (hm:X.mg "zip"=none) (ha:PA X [e1,e2] ta) (hP:X.prog=P:=by rfl) (hw:X.w=w:=by rfl) (hK:X.K=K:=by rfl)
  (hs:starEach [e1,e2] X.env=[(false,eval e1 X.env),(false,eval e2 X.env)]:=by rfl) (hs2:starEach [e2] X.env=[(false,eval e2 X.env)]:=by rfl):
  PI X (.Tuple es k pos') (.Call (.Name "zip" p) [e1,e2] [] pos) (FP (CK P w K) (CK P w K) ta):=by subst hP hw hK;exact Pw hg hm ha hs hs2
end
section
variable {X : Cx}
def Qa:List V->Hp->VK->Prop:=λxs H Q=>∃(p:Addr) (ns:List Int),xs=[.ref p]/\H p=some (.lst (ns.map V.int))/\Q (.int ns.sum) H
theorem Jj:∀ {ns:List Int}{us:List Value},As (ns.map V.int) us->IntsAre us ns
 | [],us,h=>by cases h;exact .nil
 | n::ns,us,h=>by
  cases h with
  | cons r t=>obtain⟨k,rfl⟩:=r;exact .cons n k (Jj t)
theorem Lp (hc:X.calm=true):BR X (.builtin "sum") Qa:=by
 intro pins s σ H xs us Q I r h;obtain⟨p,ns,rfl,hp,q⟩:=h;obtain⟨u,rfl,ru⟩:=r.one;cases ru;obtain⟨its,rv,pl,hz⟩:=I.list (Ai.of hp);have hi:=Jj rv;obtain⟨xs,hx⟩:=AllInts.items hi.allInts;have hl:s.heap.IsList p (intItems xs):=hx ▸ pl.isList;refine sum_intListG (I.ok.hd hc) hl λh' tk t' hk=>?_
 have e1:ns=xs.toList.map (λx=>x.fst):=by rw [<-nums_intItems,<-hx,List.toList_toArray,hi.numsOf]
 have e2:preSum (numAt xs) xs.size=ns.sum:=by
  rw [preSum_eq,take_of_length_le (by simp),<-e1]
 rw [e2];exact⟨.int ns.sum,H,I.kept λb o eb=>hk b o eb,⟨t',rfl⟩,q⟩
end
section
variable {X : Cx} {tg : Expr}
end
end L2
end
section
namespace MF
open L2
variable {α : Type} {i n k : Nat} {h : Int} {ws : List Bool} {p : Addr} {H : Hp} {xs : List V}
theorem _root_.L2.walk_enum {P:Program}{w:World}{K:Fgx}{S:Bl P w K}{a:Addr}{xs:List V}{cap:List (Option Nat)}{g:TG}{tt:TT}{te:TE}{σ:L2.St}{Q:List V->Hp->Prop}{H:Hp} (Pv:Nat->List V->Hp->Prop) (hn:xs.length<=100000) (h0:Pv 0 [] H) (hz:∀i zs H,Pv i zs H->zs.length<=i)
  (hl:∀i zs H,Pv i zs H->S.Sq H a xs)
  (hs:∀i x zs H T,xs[i]? =some x->Pv i zs H->H T=none->g (.ref T) (AM cap σ) (upd H T (.tup [.int i,x])) fun σ2 H2=>Keep (AM cap σ) σ2/\tt σ2 H2 λb H3=>br b (te σ2 H3 λy H4=>Pv (i+1) (zs++[y]) H4) (Pv (i+1) zs H3))
  (hd:∀zs H,Pv xs.length zs H->Q zs H):Et (E1 S a) cap g tt te σ Q H:=
 EZ xs.length Pv hn h0 hz (λi zs H hi p=>by
  have q:=hl i zs H p;refine⟨⟨xs,xs[i],q,by simp [hi]⟩,λv H' ⟨T,e,n,y⟩=>?_⟩;subst e;rw [y xs xs[i] q (by simp [hi])];exact hs i xs[i] zs H T (by simp [hi]) p n)
  λzs H p=>⟨⟨xs,hl _ zs H p,rfl⟩,hd zs H p⟩
theorem _root_.L2.for_enum {P:Program}{w:World}{K:Fgx}{S:Bl P w K}{a:Addr}{xs:List V}{g:TG}{tb:TS}{D:Ei}{σ:L2.St}{H:Hp} (Pv:Nat->L2.St->Hp->Prop) (h0:Pv 0 σ H) (hl:∀i σ H,Pv i σ H->S.Sq H a xs)
  (hs:∀i x σ H T,xs[i]? =some x->Pv i σ H->H T=none->g (.ref T) σ (upd H T (.tup [.int i,x])) fun σ2 H2=>tb { D with nx:=Pv (i+1),ct:=Pv (i+1),bk:=D.nx} σ2 H2) (hd:∀σ H,Pv xs.length σ H->D.nx σ H):
  ∃W:Nat->Nat->L2.St->Hp->Prop,(∃m,W 0 m σ H)/\∀i m σ H,W i m σ H->
   ((E1 S a).stop i H/\D.nx σ H)\/((E1 S a).go i H/\∃N:L2.St->Hp->Prop,(∀σ' H',N σ' H'->∃m',m'<m/\W (i+1) m' σ' H')/\∀x H',(E1 S a).yld i H x H'->g x σ H' fun σ2 H2=>tb { D with nx:=N,ct:=N,bk:=D.nx} σ2 H2):=by
 refine⟨λi m σ H=>m=xs.length-i/\i<=xs.length/\Pv i σ H,⟨xs.length,by simp,Nat.zero_le _,h0⟩,?_⟩;rintro i m σ H ⟨rfl,hi,p⟩;have q:=hl i σ H p
 by_cases hlt:i<xs.length
 ·refine .inr ⟨⟨xs,xs[i],q,by simp [hlt]⟩,Pv (i+1),fun σ' H' p'=>⟨xs.length-(i+1),by omega,rfl,hlt,p'⟩,λx H' ⟨T,e,n,y⟩=>?_⟩;subst e;rw [y xs xs[i] q (by simp [hlt])];exact hs i xs[i] σ H T (by simp [hlt]) p n
 ·obtain rfl:i=xs.length:=by omega
  exact .inl ⟨⟨xs,q,rfl⟩,hd σ H p⟩
structure PL where
 bs:List (Int×Int)
 es:List (Int×Int×Int)
 lo:Int
 hi:Int
 st:Int
abbrev bD (q:Int×Int):PyData:= .tuple [.int q.1,.int q.2]
abbrev eD (q:Int×Int×Int):PyData:= .tuple [.int q.1,.int q.2.1,.int q.2.2]
def PL.d (P:PL):PyData:= .tuple [.tuple (P.bs.map bD),.tuple (P.es.map eD),.tuple [.int P.lo,.int P.hi,.int P.st]]
structure PL.ok (P:PL):Prop where
 b:∀q∈P.bs,1<=q.1/\q.1<=9/\1<=q.2/\q.2<=9
 b1:1<=P.bs.length
 b4:P.bs.length<=4
 e:∀q∈P.es,1<=q.1/\q.1<=9/\0<=q.2.1/\q.2.1<=7/\1<=q.2.2/\q.2.2<=8
 e4:P.es.length<=4
 lo0:0<=P.lo
 ls:P.lo<=P.st
 sh:P.st<=P.hi
 h4:P.hi<=40
structure FT where
 b:Int
 out:Bool
 f:Int
 l:Int
def wS (b:Bool):Str:=if b then"out" else"scaled"
abbrev wV (b:Bool):V:= .str (wS b)
abbrev FT.d (x:FT):PyData:= .tuple [.int x.b,.str (wS x.out),.int x.f,.int x.l]
structure SY where
 ex:List Int
 fs:List FT
def SY.d (S:SY):PyData:= .tuple [.tuple (S.ex.map .int),.tuple (S.fs.map FT.d)]
structure FT.ok (x:FT) (n h:Nat):Prop where
 b0:0<=x.b
 bn:x.b<n
 f0:0<=x.f
 fl:x.f<=x.l
 lh:x.l<h
structure SY.ok (S:SY) (n:Nat):Prop where
 x1:1<=S.ex.length
 x8:S.ex.length<=8
 x:∀u∈S.ex,0<=u/\u<=20
 f4:S.fs.length<=4
 f:∀x∈S.fs,x.ok n S.ex.length
def BZ (ws:List Bool) (m:Int):Int:=if ws.any id then 0 else if ws.any (!·) then m / 2 else m
def Cf (b h:Int) (x:FT):Bool:=x.b==b && decide (x.f<=h) && decide (h<=x.l)
def BA (fs:List FT) (b h:Int):List Bool:=(fs.filter (Cf b h)).map FT.out
def Bc (bs:List (Int×Int)) (fs:List FT) (h:Int):List Int:=bs.zipIdx.map λq=>BZ (BA fs q.2 h) q.1.1
def caps (P:PL) (S:SY):List (List Int):=(List.range S.ex.length).map fun(h:Nat)=>Bc P.bs S.fs (h:Int)
def drawn (q:Int×Int×Int) (h:Int):Int:=if h<q.2.1\/(h-q.2.1) % q.2.2≠0 then 0 else q.1
def draws (P:PL) (S:SY):List Int:=S.ex.zipIdx.map λq=>q.1+(P.es.map λe=>drawn e q.2).sum
abbrev AX (r:List Int):PyData:= .tuple (r.map .int)
def FR (P:PL) (S:SY):PyData:= .tuple ((caps P S).map AX)
def Qb (P:PL) (S:SY):PyData:=AX (draws P S)
def ret (H:Hp) (Q:VK) (p:Addr) (d:PyData):Prop:=∀v H',Ab H H'->Aa p H' d v->Q v H'
theorem AY {l:List α}{x:α} (h:l[i]? =some x):l.take (i+1)=l.take i++[x]:=by rw [List.take_add_one,h];rfl
theorem Jk {bs:List (Int×Int)}{fs:List FT}{q:Int×Int} (hq:bs[i]? =some q):(Bc bs fs h)[i]? =some (BZ (BA fs i h) q.1):=by
 unfold Bc;rw [getElem?_map,List.getElem?_zipIdx,hq];simp
theorem D0 {bs:List (Int×Int)}{fs:List FT}:(Bc bs fs h).length=bs.length:=by unfold Bc;simp
theorem BB {P:PL}{S:SY} (h:i<S.ex.length):(caps P S)[i]? =some (Bc P.bs S.fs i):=by
 unfold caps;rw [getElem?_map,getElem?_range h];rfl
theorem BI {P:PL}{S:SY}:(caps P S).length=S.ex.length:=by unfold caps;simp
theorem Qc {P:PL}{S:SY}{u:Int} (hu:S.ex[i]? =some u):(draws P S)[i]? =some (u+(P.es.map λe=>drawn e i).sum):=by
 unfold draws;rw [getElem?_map,List.getElem?_zipIdx,hu];simp
theorem Ex {P:PL}{S:SY}:(draws P S).length=S.ex.length:=by unfold draws;simp
theorem GT:B5 (.str "out") (ws.map wV)=ws.any id:=by
 induction ws with
 | nil=>rfl
 | cons b ws ih=>
  unfold B5 at ih ⊢;rw [map_cons,any_cons,ih,any_cons];cases b<;>rfl
theorem Jl:B5 (.str "scaled") (ws.map wV)=ws.any (!·):=by
 induction ws with
 | nil=>rfl
 | cons b ws ih=>
  unfold B5 at ih ⊢;rw [map_cons,any_cons,ih,any_cons];cases b<;>rfl
theorem GU:(ws.map wV).all De=true:=by
 rw [all_map,all_eq_true];intro b _
 rfl
theorem Qd (b:Bool):B5 (wV b) [.str "out",.str "scaled"]=true:=by cases b<;>rfl
theorem Lq {fs:List FT}{x:FT}{b:Int} (hx:fs[i]? =some x):BA (fs.take (i+1)) b h=if Cf b h x then BA (fs.take i) b h++[x.out] else BA (fs.take i) b h:=by
 unfold BA;rw [AY hx,filter_append]
 by_cases c:Cf b h x=true
 ·rw [if_pos c,List.filter_cons_of_pos c,map_append];rfl
 ·rw [if_neg c,List.filter_cons_of_neg c,List.filter_nil,append_nil]
theorem Ad.mapGot {f:α->PyData}{l:List α}{x:V} (r:Ad p H (l.map f) xs) (h:xs[i]? =some x):∃a,l[i]? =some a/\Aa p H (f a) x:=by
 obtain⟨d,hd,rd⟩:=r.got h;rw [getElem?_map] at hd;cases z:l[i]? with
 | none=>rw [z] at hd;cases hd
 | some a=>rw [z] at hd;cases hd;exact⟨a,rfl,rd⟩
theorem Ad.ints:∀ {ns:List Int}{xs:List V},Ad p H (ns.map .int) xs->xs=ns.map V.int
 | [],xs,r=>by unfold Ad at r;exact r
 | n::ns,xs,r=>by
  rw [map_cons] at r;unfold Ad at r;obtain⟨x,t,rfl,rx,rt⟩:=r;unfold Aa at rx;rw [rx,Ad.ints rt];rfl
theorem Ad.ofInts:∀ {ns:List Int},Ad p H (ns.map .int) (ns.map V.int)
 | []=> .nil
 | n::ns=> .cons Aa.int Ad.ofInts
theorem Ad.snoc {ds:List PyData}{d:PyData}{x:V} (r:Ad p H ds xs) (h:Aa p H d x):Ad p H (ds++[d]) (xs++[x]):=r.append (.cons h .nil)
theorem Aa.row {a:Addr}{r:List Int} (h:H a=some (.tup (r.map V.int))):Aa p H (AX r) (.ref a):=Aa.tup h Ad.ofInts
theorem Ab.own {H':Hp}{b:Addr}{o:HO} (s:Ab H H') (n:H b=none):Ab H (upd H' b o):=λx u q=>by rw [Aq (Bu q n)];exact s x u q
theorem Ad.four {a b c d:PyData} (r:Ad p H [a,b,c,d] xs):∃x y z w,xs=[x,y,z,w]/\Aa p H a x/\Aa p H b y/\Aa p H c z/\Aa p H d w:=by
 unfold Ad at r;obtain⟨x,s,rfl,hx,r⟩:=r;unfold Ad at r;obtain⟨y,s,rfl,hy,r⟩:=r;unfold Ad at r;obtain⟨z,s,rfl,hz,r⟩:=r;unfold Ad at r;obtain⟨w,s,rfl,hw,r⟩:=r;unfold Ad at r;subst r;exact⟨x,y,z,w,rfl,hx,hy,hz,hw⟩
theorem Qe {a b:V} (h:(!decide (a=b))=true):a≠b:=by simpa using h
structure Ey (n k:Nat) (d:PyData):Prop where
 w:DD d<=n
 dp:d.depth<=k
 nd:d.hasDict=false
theorem Lr:∀ {ds:List PyData},(∀d∈ds,Ey n k d)->DZ ds<=(n+2) * ds.length/\PyData.depthAll ds<=k/\PyData.hasDictAll ds=false
 | [],_=>⟨by unfold DZ;exact Nat.zero_le _,by unfold PyData.depthAll;exact Nat.zero_le _,rfl⟩
 | d::ds,h=>by
  obtain⟨a,b,c⟩:=Lr λx hx=>h x (mem_cons_of_mem _ hx)
  have s:=h d mem_cons_self;refine⟨?_,?_,?_⟩
  ·unfold DZ;rw [length_cons,Nat.mul_add];have:=s.w;omega
  ·unfold PyData.depthAll;exact Nat.max_le.mpr ⟨s.dp,b⟩
  ·unfold PyData.hasDictAll;rw [s.nd,c];rfl
theorem Ls {m:Nat}{ds:List PyData} (h:∀d∈ds,Ey n k d) (hm:(n+2) * ds.length+4<=m):Ey m (k+1) (.tuple ds):=by
 obtain⟨a,b,c⟩:=Lr h;exact⟨by unfold DD;omega,by unfold PyData.depth;omega,by unfold PyData.hasDict;exact c⟩
theorem Lu {i:Int} (h:i.natAbs<10 ^ 6):Ey 40 0 (.int i):=by
 refine⟨?_,Nat.le_refl 0,rfl⟩;unfold DD;rw [if_pos (Nat.lt_trans h (by decide))];exact Nat.le_refl _
theorem Qf {ws:List Bool}{m:Int} (h0:0<=m) (h9:m<=9):0<=BZ ws m/\BZ ws m<=m:=by
 unfold BZ;split
 ·omega
 ·split
  ·omega
  ·omega
theorem Cz {P:PL}{S:SY} (ok:P.ok):∀r∈caps P S,(∀i∈r,0<=i/\i<=9)/\r.length=P.bs.length:=λr hr=>by
 unfold caps at hr;obtain⟨h,_,rfl⟩:=mem_map.mp hr;refine⟨λi hi=>?_,D0⟩;unfold Bc at hi;obtain⟨q,hq,rfl⟩:=mem_map.mp hi;obtain⟨b1,b2,_⟩:=ok.b q.1 (List.fst_mem_of_mem_zipIdx hq);have:=Qf (ws:=BA S.fs q.2 h) (m:=q.1.1) (by omega) b2;omega
theorem Qg {q:Int×Int×Int} (h1:1<=q.1) (h9:q.1<=9):0<=drawn q h/\drawn q h<=9:=by
 unfold drawn;split<;>omega
theorem Lv {l:List Int} (h:∀i∈l,0<=i/\i<=9):0<=l.sum/\l.sum<=9 * l.length:=by
 induction l with
 | nil=>exact⟨Int.le_refl _,Int.le_refl _⟩
 | cons a l ih=>
  have:=h a mem_cons_self;have:=ih λi hi=>h i (mem_cons_of_mem _ hi)
  rw [sum_cons,length_cons];omega
theorem Qh {P:PL}{S:SY} (ok:P.ok) {n:Nat} (so:S.ok n):∀i∈draws P S,0<=i/\i<=56:=λi hi=>by
 unfold draws at hi;obtain⟨q,hq,rfl⟩:=mem_map.mp hi;have a:=so.x q.1 (List.fst_mem_of_mem_zipIdx hq);have b:=Lv (l:=P.es.map λe=>drawn e q.2) λi hi=>by
  obtain⟨e,he,rfl⟩:=mem_map.mp hi;obtain⟨e1,e2,_⟩:=ok.e e he;exact Qg e1 e2
 rw [length_map] at b;have:=ok.e4;omega
theorem Lw {l:List Int} (h:i<l.length):l[i]? =some (l.getD i 0):=by rw [getD_eq_getElem?_getD,getElem?_eq_getElem h];rfl
theorem Qi (h:i<n):CI n (i:Int)=some i:=by
 unfold CI;rw [if_pos (by omega),if_pos (by omega)]
 rfl
theorem Qj {m:Int} (c:ws.any id=false):m /(1+if ws.any (!·)=true then 1 else 0)=BZ ws m:=by
 unfold BZ;rw [c,if_neg (by decide:¬(false=true))];cases ws.any (!·) with
 | true=>rfl
 | false=>exact Int.ediv_one _
end MF
end
section
namespace L2
section
variable {X : Cx}
def Qk:List V->Hp->VK->Prop:=λxs H Q=>∃(p:Addr) (ns:List Int),xs=[.ref p]/\(H p=some (.lst (ns.map V.int))\/H p=some (.tup (ns.map V.int)))/\Q (.int ns.sum) H
theorem E6 (hc:X.calm=true):BR X (.builtin "sum") Qk:=by
 intro pins s σ H xs us Q I r h;obtain⟨p,ns,rfl,hp,q⟩:=h;rcases hp with hp | hp
 ·exact Lp hc pins s σ H _ us Q I r ⟨p,ns,rfl,hp,q⟩
 obtain⟨u,rfl,ru⟩:=r.one;cases ru;obtain⟨its,rv,pl,hz⟩:=I.tuple (Ag.of hp);have hi:=Jj rv;obtain⟨xs,hx⟩:=AllInts.items hi.allInts;have e1:ns=xs.toList.map (λx=>x.fst):=by rw [<-nums_intItems,<-hx,List.toList_toArray,hi.numsOf]
 have e2:preSum (numAt xs) xs.size=ns.sum:=by
  rw [preSum_eq,take_of_length_le (by simp),<-e1]
 have hl:s.heap.IsTuple p (intItems xs):=hx ▸(show s.heap.IsTuple p its.toArray from pl);refine call_sum_walkG (wpAny_pyIter_tuple hl ?_);have hlt:p<s.heap.objs.size:=by
  obtain⟨o,ho,_⟩:=id hl;exact Heap.lt_size ho
 refine⟨s.heap.objs.size,_,_,_,_,_,numAt xs,rfl,Walks.tuple (A:=X.A.in1) (I.ok.hd hc) s.heap.objs.size p (Nat.ne_of_lt hlt) (intItems xs),⟨⟨_,Heap.get?_push_size _ rfl,rfl,rfl⟩,?_⟩,λb hb=>?_,λi v hv=>intItems_at hv,λh' tk t' hk=>?_⟩
 ·obtain⟨o,ho,ho2⟩:=id hl;exact⟨o,Heap.get?_push_of_some _ ho,ho2⟩
 ·have:b=s.heap.objs.size\/b=p:=by simpa using hb
  rw [show(s.heap.push _).objs.size=s.heap.objs.size+1 from Array.size_push _];rcases this with rfl | rfl
  ·exact Nat.lt_succ_self _
  ·exact Nat.lt_succ_of_lt hlt
 ·have e3:(intItems xs).size=xs.size:=Array.size_map;rw [e3,e2];refine⟨.int ns.sum,H,I.kept λb o eb=>hk b o ?_ (Heap.get?_push_of_some _ eb),⟨t',rfl⟩,q⟩;intro z;have z':b=s.heap.objs.size:=by simpa using z
  exact absurd (Heap.lt_size eb) (by rw [z'];exact Nat.lt_irrefl _)
end
end L2
end
section
namespace MF
open L2
variable {H H' : Hp} {P : PL} {S : SY} {p : Addr} {F : List (List Int)} {v u : V} {i k : Nat}
theorem _root_.L2.walk_zip {P:Program}{w:World}{K:Fgx}{S1 S2:Bl P w K}{a b:Addr}{xs ys:List V}{cap:List (Option Nat)}{g:TG}{tt:TT}{te:TE}{σ:L2.St}{Q:List V->Hp->Prop}{H:Hp} (Pv:Nat->List V->Hp->Prop) (hn:xs.length<=100000) (he:xs.length=ys.length) (h0:Pv 0 [] H) (hz:∀i zs H,Pv i zs H->zs.length<=i)
  (hl:∀i zs H,Pv i zs H->S1.Sq H a xs/\S2.Sq H b ys)
  (hs:∀i x y zs H T,xs[i]? =some x->ys[i]? =some y->Pv i zs H->H T=none->g (.ref T) (AM cap σ) (upd H T (.tup [x,y])) fun σ2 H2=>Keep (AM cap σ) σ2/\tt σ2 H2 λb H3=>br b (te σ2 H3 λy H4=>Pv (i+1) (zs++[y]) H4) (Pv (i+1) zs H3))
  (hd:∀zs H,Pv xs.length zs H->Q zs H):Et (GP S1 S2 a b) cap g tt te σ Q H:=
 EZ xs.length Pv hn h0 hz (λi zs H hi p=>by
  obtain⟨q1,q2⟩:=hl i zs H p;have hy:i<ys.length:=by omega
  refine⟨⟨xs,ys,xs[i],ys[i],q1,q2,by simp [hi],by simp [hy]⟩,λv H' ⟨T,e,n,y⟩=>?_⟩;subst e;rw [y xs ys xs[i] ys[i] q1 q2 (by simp [hi]) (by simp [hy])];exact hs i xs[i] ys[i] zs H T (by simp [hi]) (by simp [hy]) p n)
  λzs H p=>⟨⟨xs,ys,(hl _ zs H p).1,(hl _ zs H p).2,rfl⟩,hd zs H p⟩
theorem Ab.evOwn {H2:Hp}{R:Addr} (s:Ab H H2) (n:H R=none) (e:Ev R H2 H'):Ab H H':=λb o q=>(e b o (s b o q)).elim (fun⟨z,_⟩=>by rw [z,n] at q;cases q) id
def FD (F:List (List Int)):PyData:= .tuple (F.map AX)
structure FOk (P:PL) (S:SY) (F:List (List Int)):Prop where
 len:F.length=S.ex.length
 row:∀(i:Nat) (r:List Int),F[i]? =some r->r.length=P.bs.length
 bd:∀(i:Nat) (r:List Int) (j:Nat) (x c:Int),F[i]? =some r->r[j]? =some x->(Bc P.bs S.fs i)[j]? =some c->0<=x/\x<=c
theorem FOk.caps (ok:P.ok):FOk P S (caps P S):=by
 refine⟨BI,λi r hr=>?_,λi r j x c hr hx hc=>?_⟩
 ·exact(Cz ok r (mem_of_getElem? hr)).2
 ·have hi:i<S.ex.length:=by
   have:=(List.getElem?_eq_some_iff.mp hr).1;rw [BI] at this;exact this
  rw [BB hi] at hr;cases hr;rw [hx] at hc;cases hc;have:=(Cz (S:=S) ok _ (mem_of_getElem? (BB hi))).1 x (mem_of_getElem? hx);omega
structure Tri (p:Addr) (H:Hp) (P:PL) (S:SY) (F:List (List Int)) (v u w:V):Prop where
 ok:P.ok
 so:S.ok P.bs.length
 fo:FOk P S F
 r:Aa p H P.d v
 ru:Aa p H S.d u
 rw:Aa p H (FD F) w
theorem Tri.ev {w:V} (t:Tri p H P S F v u w) (e:Ev p H H'):Tri p H' P S F v u w:=⟨t.ok,t.so,t.fo,Aa.ev e _ _ t.r,Aa.ev e _ _ t.ru,Aa.ev e _ _ t.rw⟩
theorem Tri.sm {w:V} (t:Tri p H P S F v u w) (e:Ab H H'):Tri p H' P S F v u w:=t.ev (Ev.same e)
def made (F:List (List Int)) (i:Nat):Int:=(F.getD i []).sum
def DE (P:PL) (S:SY) (i:Nat):Int:=(draws P S).getD i 0
def Ez (hi m:Int):Int:=if 0>m-hi then 0 else m-hi
def A6 (P:PL) (S:SY) (F:List (List Int)):Nat->Int
 | 0=>P.st
 | i+1=>A6 P S F i+(made F i-DE P S i)-Ez P.hi (A6 P S F i+(made F i-DE P S i))
def B0 (P:PL) (S:SY) (F:List (List Int)) (i:Nat):Int:=A6 P S F i+(made F i-DE P S i)
theorem Jm:A6 P S F (i+1)=B0 P S F i-Ez P.hi (B0 P S F i):=rfl
def FS (P:PL) (S:SY) (F:List (List Int)) (i:Nat):PyData:= .tuple [.int (made F i),.int (DE P S i),.int (Ez P.hi (B0 P S F i)),.int (A6 P S F (i+1))]
def C1 (P:PL) (S:SY) (F:List (List Int)) (k:Nat):List PyData:=(List.range k).map (FS P S F)
theorem Ql:C1 P S F (k+1)=C1 P S F k++[FS P S F k]:=by unfold C1;rw [range_succ,map_append];rfl
theorem Jn:(C1 P S F k).length=k:=by unfold C1;simp
def FU:Option (Int×Int)->PyData
 | none=> .none
 | some q=> .tuple [.int q.1,.int q.2]
structure D3 (P:PL) (S:SY) (F:List (List Int)) (k:Nat) (s:Option (Int×Int)):Prop where
 le:k<=S.ex.length
 up:∀i,i<k->P.lo<=B0 P S F i
 fin:(s=none/\k=S.ex.length)\/(k<S.ex.length/\B0 P S F k<P.lo/\s=some ((k:Int),P.lo-B0 P S F k))
theorem Lx {r:List Int} (h:F[i]? =some r):made F i=r.sum:=by unfold made;rw [getD_eq_getElem?_getD,h];rfl
theorem Ly {d:Int} (h:(draws P S)[i]? =some d):DE P S i=d:=by unfold DE;rw [getD_eq_getElem?_getD,h];rfl
end MF
end
section
namespace MF
open L2
variable {P : PL} {S : SY} {F : List (List Int)}
theorem FOk.bd9 (ok:P.ok) (fo:FOk P S F):∀r∈F,(∀x∈r,0<=x/\x<=9)/\r.length=P.bs.length:=λr hr=>by
 obtain⟨i,hi,e⟩:=List.mem_iff_getElem.mp hr;have hF:F[i]? =some r:=by rw [getElem?_eq_getElem hi,e]
 have hl:=fo.row i r hF;refine⟨λx hx=>?_,hl⟩;obtain⟨j,hj,ej⟩:=List.mem_iff_getElem.mp hx;have hR:r[j]? =some x:=by rw [getElem?_eq_getElem hj,ej]
 have hc:j<(Bc P.bs S.fs i).length:=by rw [D0];omega
 have hC:=getElem?_eq_getElem hc;have:=fo.bd i r j x _ hF hR hC;have hi':i<S.ex.length:=by have:=fo.len;omega
 have b:=(Cz (S:=S) ok _ (mem_of_getElem? (BB hi'))).1 _ (getElem_mem hc);omega
theorem Lz {P:PL}{S:SY}{F:List (List Int)} (ok:P.ok) (fo:FOk P S F) {i:Nat} (hi:i<S.ex.length):0<=made F i/\made F i<=36:=by
 have hlF:i<F.length:=by have:=fo.len;omega
 have hF:F[i]? =some F[i]:=getElem?_eq_getElem hlF;obtain⟨a,b⟩:=FOk.bd9 ok fo _ (mem_of_getElem? hF);rw [Lx hF];have:=Lv a;have:=ok.b4;omega
theorem LA {P:PL}{S:SY} (ok:P.ok) {n:Nat} (so:S.ok n) {i:Nat} (hi:i<S.ex.length):0<=DE P S i/\DE P S i<=56:=by
 have hD:(draws P S)[i]? =some ((draws P S).getD i 0):=Lw (by rw [Ex];exact hi);rw [Ly hD];exact Qh ok so _ (mem_of_getElem? hD)
theorem FV {P:PL}{S:SY}{F:List (List Int)} (ok:P.ok):∀ {k:Nat},(∀i,i<k->P.lo<=B0 P S F i)->P.lo<=A6 P S F k/\A6 P S F k<=P.hi
 | 0,_=>⟨ok.ls,ok.sh⟩
 | k+1,up=>by
  have h:=up k (by omega);have h1:=ok.ls;have h2:=ok.sh;rw [Jm];unfold Ez;split<;>omega
theorem small_row4 (ok:P.ok) {n:Nat} (so:S.ok n) (fo:FOk P S F) {k i:Nat} (hk:k<=S.ex.length) (up:∀i,i<k->P.lo<=B0 P S F i) (hi:i<k):Ey 200 1 (FS P S F i):=by
 have m1:=FV ok (k:=i) λj hj=>up j (by omega)
 have m2:=FV ok (k:=i+1) λj hj=>up j (by omega)
 have a:=Lz ok fo (i:=i) (by omega);have d:=LA ok so (i:=i) (by omega);have h0:=ok.lo0;have h4:=ok.h4;have hu:=up i hi;have hb:0<=Ez P.hi (B0 P S F i)/\Ez P.hi (B0 P S F i)<=100:=by
  unfold Ez B0;split<;>omega
 exact Ls (n:=40) (k:=0) (λd hd=>by
  simp only [mem_cons,not_mem_nil,or_false] at hd;rcases hd with rfl | rfl | rfl | rfl<;>exact Lu (by omega)) (by simp)
theorem Qm (ok:P.ok) {n:Nat} (so:S.ok n) (fo:FOk P S F) {k:Nat}{s:Option (Int×Int)} (run:D3 P S F k s):Ey 200 1 (FU s):=by
 rcases run.fin with⟨e,_⟩ | ⟨hk,hlt,e⟩
 ·subst e;exact⟨by unfold FU DD;decide,Nat.zero_le _,rfl⟩
 ·subst e;have m1:=FV ok run.up;have a:=Lz ok fo hk;have d:=LA ok so hk;have h0:=ok.lo0;have h4:=ok.h4;have h1:=ok.ls;have h2:=ok.sh;have x8:=so.x8;have hp:B0 P S F k=A6 P S F k+(made F k-DE P S k):=rfl;unfold FU;exact Ls (n:=40) (k:=0) (λd hd=>by
   simp only [mem_cons,not_mem_nil,or_false] at hd;rcases hd with rfl | rfl<;>exact Lu (by omega)) (by simp)
end MF
end
section
namespace L2
section
variable {X : Cx}
end
end L2
end
section
namespace L2
variable {sc : Scope}
section
variable {X : Cx}
def GV (sc:Scope) (x:Str):Bool:=match sc.names.lookup x with | some .local =>true | some .cell=>true | some .free=>true | _=>false
def GW (sc:Scope) (x:Str):Bool:=match sc.names.lookup x with | some .local =>true | some .cell=>true | _=>false
def GX (sc:Scope) (x:Str):Bool:=match sc.names.lookup x with | some .local =>true | _=>false
theorem Qn {x:Str} (h:GV sc x=true):Eh sc x:=by
 unfold GV at h;split at h
 ·exact .inl (by assumption)
 ·exact .inr (.inl (by assumption))
 ·exact .inr (.inr (by assumption))
 ·cases h
theorem AC {x:Str} (h:GW sc x=true):DQ sc x:=by
 unfold GW at h;split at h
 ·exact .inl (by assumption)
 ·exact .inr (by assumption)
 ·cases h
theorem Br {f:Bool}{x:Str} (h:(f || GX sc x)=true):f=true\/sc.names.lookup x=some .local :=by
 rcases Bool.or_eq_true_iff.mp h with h | h
 ·exact .inl h
 ·unfold GX at h;split at h
  ·exact .inr (by assumption)
  ·cases h
theorem cw (i:Nat) {x:Str}{pos:Pos} (hN:X.N[i]? =some x) (hv:GV X.env.scope x=true) (hd:(x==("__debug__" :Str) || x==("__classdict__" :Str))=false):PE X (.Name x pos) (Ew i):=
 cv i hN (Qn hv) (Bool.or_eq_false_iff.mp hd).1 (Bool.or_eq_false_iff.mp hd).2
theorem Qo {x:Str}{pos:Pos} (i:Nat) (hN:X.N.Nodup) (hi:X.N[i]? =some x) (hx:GW X.env.scope x=true) (hf:(X.fn x || GX X.env.scope x)=true):PG X (.Name x pos) (FC i):=NJ hN hi (AC hx) (Br hf)
def LC (X:Cx) (i:Nat) (x:Str):Bool:=X.N[i]? ==some x &&(GV X.env.scope x && !(x==("__debug__" :Str) || x==("__classdict__" :Str)))
theorem cx (i:Nat) {x:Str}{pos:Pos} (h:LC X i x=true):PE X (.Name x pos) (Ew i):=by
 obtain⟨h1,h2⟩:=Bool.and_eq_true_iff.mp h;obtain⟨h2,h3⟩:=Bool.and_eq_true_iff.mp h2;exact cw i (eq_of_beq h1) h2 (by simpa using h3)
def LD (X:Cx) (i:Nat) (x:Str):Bool:=X.N[i]? ==some x &&(GW X.env.scope x &&(X.fn x || GX X.env.scope x))
theorem DF {x:Str}{pos:Pos} (i:Nat) (hN:X.N.Nodup) (h:LD X i x=true):PG X (.Name x pos) (FC i):=by
 obtain⟨h1,h2⟩:=Bool.and_eq_true_iff.mp h;obtain⟨h2,h3⟩:=Bool.and_eq_true_iff.mp h2;exact Qo i hN (eq_of_beq h1) h2 h3
theorem AF {l:List Str} (h:decide l.Nodup=true):l.Nodup:=of_decide_eq_true h
def nS:Expr->Bool | .Starred _ _=>false | _=>true
theorem GY {e:Expr}{es:List Expr}{env:Env} (h:nS e=true):starEach (e::es) env=(false,eval e env)::starEach es env:=by
 cases e<;>first | rfl | exact absurd h Bool.false_ne_true
section
variable {e1 e2 e3 e4 : Expr} {t1 t2 t3 t4 : TE}
theorem AW (h1:PE X e1 t1) (hs:nS e1=true):PA X [e1] (Bv t1 CH):=AE h1 BY (GY hs)
theorem AN (h1:PE X e1 t1) (h2:PE X e2 t2) (hs:(nS e1 && nS e2)=true):PA X [e1,e2] (Bv t1 (Bv t2 CH)):=AE h1 (AW h2 (Bool.and_eq_true_iff.mp hs).2) (GY (Bool.and_eq_true_iff.mp hs).1)
theorem GZ (h1:PE X e1 t1) (h2:PE X e2 t2) (h3:PE X e3 t3) (hs:(nS e1 &&(nS e2 && nS e3))=true):PA X [e1,e2,e3] (Bv t1 (Bv t2 (Bv t3 CH))):=AE h1 (AN h2 h3 (Bool.and_eq_true_iff.mp hs).2) (GY (Bool.and_eq_true_iff.mp hs).1)
theorem Dh (h1:PE X e1 t1) (h2:PE X e2 t2) (h3:PE X e3 t3) (h4:PE X e4 t4) (hs:(nS e1 &&(nS e2 &&(nS e3 && nS e4)))=true):PA X [e1,e2,e3,e4] (Bv t1 (Bv t2 (Bv t3 (Bv t4 CH)))):=AE h1 (GZ h2 h3 h4 (Bool.and_eq_true_iff.mp hs).2) (GY (Bool.and_eq_true_iff.mp hs).1)
end
end
end L2
end
section
namespace L2
section
variable {X : Cx}
theorem cy (i:Nat) {x:Str}{pos:Pos} (h:LC X i x=true:=by rfl):PE X (.Name x pos) (Ew i):=cx i h
theorem Am {x:Str}{pos:Pos} (i:Nat) (hN:X.N.Nodup) (h:LD X i x=true:=by rfl):PG X (.Name x pos) (FC i):=DF i hN h
section
variable {e1 e2 e3 e4 : Expr} {t1 t2 t3 t4 : TE}
theorem Al (h1:PE X e1 t1) (hs:nS e1=true:=by rfl):PA X [e1] (Bv t1 CH):=AW h1 hs
theorem Av (h1:PE X e1 t1) (h2:PE X e2 t2) (hs:(nS e1 && nS e2)=true:=by rfl):PA X [e1,e2] (Bv t1 (Bv t2 CH)):=AN h1 h2 hs
theorem AI (h1:PE X e1 t1) (h2:PE X e2 t2) (h3:PE X e3 t3) (hs:(nS e1 &&(nS e2 && nS e3))=true:=by rfl):PA X [e1,e2,e3] (Bv t1 (Bv t2 (Bv t3 CH))):=GZ h1 h2 h3 hs
theorem E7 (h1:PE X e1 t1) (h2:PE X e2 t2) (h3:PE X e3 t3) (h4:PE X e4 t4) (hs:(nS e1 &&(nS e2 &&(nS e3 && nS e4)))=true:=by rfl):PA X [e1,e2,e3,e4] (Bv t1 (Bv t2 (Bv t3 (Bv t4 CH)))):=Dh h1 h2 h3 h4 hs
end
end
end L2
end
section
namespace L2
section
variable {X : Cx}
theorem Qp (hu:X.A.units<cLine):OpR X (compareOp .Eq) (λx y H Q=>∃(a b:Addr),x= .ref a/\y= .ref b/\H a=some (.lst [])/\H b=some (.lst [])/\Q (.bl true) H):=by
 intro pins s σ H x y v u Q I rx ry h;obtain⟨a,b,rfl,rfl,ha,hb,q⟩:=h;cases rx;cases ry;obtain⟨its,r1,p1,_⟩:=I.list (Ai.of ha);obtain⟨its2,r2,p2,_⟩:=I.list (Ai.of hb);cases r1;cases r2;exact SeqAt.RcAt.lists (e:=λ_=>true) p1.isList p2.isList (by simp) hu (λj h1 h2=>absurd h1 (by simp)) _ _ _ _ (AR I q (by rfl))
end
end L2
namespace MF
open L2
end MF
end
section
namespace L2
abbrev D5 (elt tg1 it1:Expr) (ifs1:List Expr) (tg2 it2:Expr) (ifs2:List Expr) (scope:Scope) (pos:Pos):Expr:= .ListComp elt [⟨tg1,it1,ifs1,0⟩,⟨tg2,it2,ifs2,0⟩] scope pos
section
variable {prog : Program} {w : World} {A : Around} {R : Result -> Shared -> Prop} {s : Shared} {elt tg1 it1 tg2 it2 : Expr} {ifs1 ifs2 : List Expr} {scope : Scope} {pos : Pos} {it acc : Value} {env : Env}
theorem Qq (h0:codeAny (model prog w) A (.compLoop (D5 elt tg1 it1 ifs1 tg2 it2 ifs2 scope pos) 1 it acc env) R s)
  (h:wpAny (model prog w) A (pyIter it) (λit' s'=>codeAny (model prog w) A (.compLoop (D5 elt tg1 it1 ifs1 tg2 it2 ifs2 scope pos) 1 it' acc env) R s') (notedBy (model prog w) A env λx s'=>R (.error x) s') s):
  codeAny (model prog w) A (.compStart (D5 elt tg1 it1 ifs1 tg2 it2 ifs2 scope pos) 1 it acc env) R s:=by
 refine codeAny_of_tree (id (wpAny_notedAt (id (id (wpAny_bind (wpAny_askSetting (wpAny_ite ?_)))))));split
 ·exact wpAny_bind (wpAny_pure (wpAny_pure ⟨rfl,h0⟩))
 ·exact wpAny_bind (wpAny_rule (wpAny_bind (wpAny_standAt (wpAny_bind (wpAny_mono h (λit' s' h'=>wpAny_pure ⟨rfl,h'⟩) λ_ _ z=>z)))))
end
def Ha (wi2:TI) (g2:TG) (tt2:TT) (te:TE):St->List V->Hp->(List V->Hp->Prop)->Prop:=fun σ ys H N=>wi2 σ H λJ H1=>
 ∃W:Nat->Nat->List V->Hp->Prop,(∃m,W 0 m ys H1)/\∀j m zs H,W j m zs H->
  (J.stop j H/\N zs H)\/
  (J.go j H /\ zs.length < sizeLine /\ ∃ N2 : List V -> Hp -> Prop, (∀ zs' H', N2 zs' H' -> ∃ m', m' < m /\ W (j + 1) m' zs' H') /\ ∀ x H', J.yld j H x H' -> g2 x σ H' fun σ3 H2 => Keep σ σ3 /\ tt2 σ3 H2 λb H3 =>
   br b (te σ3 H3 λy H4=>N2 (zs++[y]) H4) (N2 zs H3))
def LE (wi:TI) (cap:List (Option Nat)) (g:TG) (tt:TT) (wi2:TI) (g2:TG) (tt2:TT) (te:TE):St->Hp->(List V->Hp->Prop)->Prop:=fun σ H Q=>wi σ H λJ H1=>
 ∃W:Nat->Nat->List V->Hp->Prop,(∃m,W 0 m [] H1)/\∀i m ys H,W i m ys H->
  (J.stop i H/\Q ys H)\/
  (J.go i H /\ ∃ N : List V -> Hp -> Prop, (∀ ys' H', N ys' H' -> ∃ m', m' < m /\ W (i + 1) m' ys' H') /\ ∀ x H', J.yld i H x H' -> g x (AM cap σ) H' fun σ2 H2 => Keep (AM cap σ) σ2 /\ tt σ2 H2 λb H3 =>
   br b (Ha wi2 g2 tt2 te σ2 ys H3 N) (N ys H3))
theorem Qr {X:Cx}{tg iter tg2 iter2 elt:Expr}{ifs ifs2:List Expr}{scope:Scope}{pos pos':Pos}{wi wi2:TI}{g g2:TG}{tt tt2:TT}{te:TE}{N':List Str}{cap:List (Option Nat)}{use:Option (Value->Sem Unit)}{Q':VSP}
  {pins:PNs}{s:Shared}{σ:St}{H:Hp}{Q:List V->Hp->Prop}
  (hc:X.calm=true) (hi:PI X tg iter wi) (B:AH X.env.scope X.N scope N' cap) (hg:∀s H ex C,PG (A9 X N' scope s H ex C) tg g) (ht:∀s H ex C,CJ (A9 X N' scope s H ex C) ifs tt)
  (hi2:∀s H ex C,PI (A9 X N' scope s H ex C) tg2 iter2 wi2) (hg2:∀s H ex C,PG (A9 X N' scope s H ex C) tg2 g2) (ht2:∀s H ex C,CJ (A9 X N' scope s H ex C) ifs2 tt2) (he:∀s H ex C,PE (A9 X N' scope s H ex C) elt te)
  (hs:∀x,foldedSetIterable iter X.env x=pure x) (hs2:∀env x,foldedSetIterable iter2 env x=pure x) (I:Ac X pins σ H s) (h:LE wi cap g tt wi2 g2 tt2 te σ H Q)
  (fin:∀(acc C:Addr) (H:Hp) (ys:List V) (s':Shared),H acc=none->Ac X pins σ (upd H acc (.lst ys)) s'->Ja X pins C (upd H acc (.lst ys)) s'->Q ys H->compPost (model X.prog X.w) X.A X.xe use Q' (.ref acc) C (.ok .next) s'):
  wpAny (model X.prog X.w) X.A (comprehension (D5 elt tg iter ifs tg2 iter2 ifs2 scope pos) scope X.env pos' (newList []) false (eval iter X.env) use) Q' X.xe s:=
 K8 Pc (body:=λitv acc env=>Jb (D5 elt tg iter ifs tg2 iter2 ifs2 scope pos) 0 iter2 itv acc env) (Bt:=K7 K4 wi2 g2 tt2 (Jc te)) (Cd:=λ_=>True) hc hi B hg ht (λ_ _ _=>rfl)
  (λs H ex C a A=>Pd (body:=λitv=>GE (D5 elt tg iter ifs tg2 iter2 ifs2 scope pos) 1 elt itv (.ref a) _) A rfl (hs2 _) (λ_=>rfl) Qq (hi2 s H ex C) (hg2 s H ex C) (ht2 s H ex C) (K6 A rfl (he s H ex C)) λ_ _ z=>z) (λ_ _ z=>⟨trivial,z⟩) hs I h fin
end L2
end
section
namespace L2
section
variable {X : Cx}
end
def Qs (J:It) (g2:TG) (tt2:TT) (te:TE) (σ:St) (ys:List V) (N:List V->Hp->Prop) (H1:Hp):Prop:=
 ∃W:Nat->Nat->List V->Hp->Prop,(∃m,W 0 m ys H1)/\∀j m zs H,W j m zs H->
  (J.stop j H/\N zs H)\/
  (J.go j H /\ zs.length < sizeLine /\ ∃ N2 : List V -> Hp -> Prop, (∀ zs' H', N2 zs' H' -> ∃ m', m' < m /\ W (j + 1) m' zs' H') /\ ∀ x H', J.yld j H x H' -> g2 x σ H' fun σ3 H2 => Keep σ σ3 /\ tt2 σ3 H2 λb H3 =>
   br b (te σ3 H3 λy H4=>N2 (zs++[y]) H4) (N2 zs H3))
def Qt (J:It) (cap:List (Option Nat)) (g:TG) (tt:TT) (wi2:TI) (g2:TG) (tt2:TT) (te:TE) (σ:St) (Q:List V->Hp->Prop) (H1:Hp):Prop:=
 ∃W:Nat->Nat->List V->Hp->Prop,(∃m,W 0 m [] H1)/\∀i m ys H,W i m ys H->
  (J.stop i H/\Q ys H)\/
  (J.go i H /\ ∃ N : List V -> Hp -> Prop, (∀ ys' H', N ys' H' -> ∃ m', m' < m /\ W (i + 1) m' ys' H') /\ ∀ x H', J.yld i H x H' -> g x (AM cap σ) H' fun σ2 H2 => Keep (AM cap σ) σ2 /\ tt σ2 H2 λb H3 =>
   br b (Ha wi2 g2 tt2 te σ2 ys H3 N) (N ys H3))
end L2
namespace MF
open L2
def B6 (P:PL) (F:List (List Int)):List Int:=(List.range P.bs.length).map λb=>(F.map λr=>r.getD b 0).sum
def coal (P:PL) (F:List (List Int)):Int:=(((B6 P F).zip P.bs).map λq=>q.1 * q.2.2).sum
def Qu (h:Nat) (r:List Int):List (Int×Int):=(r.zipIdx.filter λq=>q.1==0).map λq=>((h:Int),(q.2:Int))
def bank (F:List (List Int)):List (Int×Int):=(F.zipIdx.map λq=>Qu q.2 q.1).flatten
end MF
end
section
namespace MF
open L2
abbrev Lt (d:PyData):List Nat:=d.shown.cps.toList
def tail (c:Nat):List PyData->List Nat
 | []=>[c]
 | d::ds=>44::32::(Lt d++tail c ds)
end MF
end
section
namespace L2
section
variable {X : Cx}
theorem Qv (hu:X.A.units<cLine):OpR X (compareOp .NotEq) (λx y H Q=>∃(a b:Addr) (xs:List V),x= .ref a/\y= .ref b/\H a=some (.lst xs)/\H b=some (.lst [])/\Q (.bl (!xs.isEmpty)) H):=by
 intro pins s σ H x y v u Q I rx ry h;obtain⟨a,b,xs,rfl,rfl,ha,hb,q⟩:=h;cases rx;cases ry;obtain⟨its,r1,p1,_⟩:=I.list (Ai.of ha);obtain⟨its2,r2,p2,_⟩:=I.list (Ai.of hb);cases r2;cases r1 with
 | nil=>exact SeqAt.RcNeAt.lists (e:=λ_=>true) p1.isList p2.isList (by simp) hu (λj h1 h2=>absurd h1 (by simp)) _ _ _ _ (AR I q (by rfl))
 | cons r t=>exact SeqAt.RcNeAt.lists_lengths p1.isList p2.isList (by simp) hu _ _ _ _ (AR I q (by rfl))
end
end L2
namespace MF
open L2
end MF
namespace L2
section
variable {X : Cx}
end
end L2
end
section
namespace L2
variable {n : Nat} {g g2 : TG} {tt tt2 : TT} {te : TE} {σ : St} {Q : List V -> Hp -> Prop} {H : Hp} {wi2 : TI}
theorem Qw {lo:Int}{ys:List V} (Pv:Nat->List V->Hp->Prop) (h0:Pv 0 ys H) (hz:∀i zs H,Pv i zs H->zs.length<100000)
  (hs:∀i zs H,i<n->Pv i zs H->g (.int (lo+i)) σ H fun σ2 H2=>Keep σ σ2/\tt σ2 H2 λb H3=>br b (te σ2 H3 λy H4=>Pv (i+1) (zs++[y]) H4) (Pv (i+1) zs H3))
  (hd:∀zs H,Pv n zs H->Q zs H):Qs (C8 lo n) g tt te σ ys Q H:=by
 refine⟨λi m zs H=>m=n-i/\i<=n/\Pv i zs H,⟨n,by simp,Nat.zero_le _,h0⟩,?_⟩;rintro i m zs H ⟨rfl,hi,p⟩
 by_cases hlt:i<n
 ·refine .inr ⟨hlt,Nat.lt_trans (hz i zs H p) (by decide),Pv (i+1),λzs' H' p'=>⟨n-(i+1),by omega,rfl,hlt,p'⟩,λv H' ⟨e,y⟩=>?_⟩;subst e y;exact hs i zs _ hlt p
 ·obtain rfl:i=n:=by omega
  exact .inl ⟨Nat.le_refl _,hd zs H p⟩
theorem Qx {lo:Int}{cap:List (Option Nat)} (Pv:Nat->List V->Hp->Prop) (h0:Pv 0 [] H)
  (hs:∀i zs H,i<n->Pv i zs H->g (.int (lo+i)) (AM cap σ) H fun σ2 H2=>Keep (AM cap σ) σ2/\tt σ2 H2 λb H3=>br b (Ha wi2 g2 tt2 te σ2 zs H3 (Pv (i+1))) (Pv (i+1) zs H3))
  (hd:∀zs H,Pv n zs H->Q zs H):Qt (C8 lo n) cap g tt wi2 g2 tt2 te σ Q H:=by
 refine⟨λi m zs H=>m=n-i/\i<=n/\Pv i zs H,⟨n,by simp,Nat.zero_le _,h0⟩,?_⟩;rintro i m zs H ⟨rfl,hi,p⟩
 by_cases hlt:i<n
 ·refine .inr ⟨hlt,Pv (i+1),λzs' H' p'=>⟨n-(i+1),by omega,rfl,hlt,p'⟩,λv H' ⟨e,y⟩=>?_⟩;subst e y;exact hs i zs _ hlt p
 ·obtain rfl:i=n:=by omega
  exact .inl ⟨Nat.le_refl _,hd zs H p⟩
def Qy (i:Nat) (wi:TI) (cap:List (Option Nat)) (g:TG) (tt:TT) (wi2:TI) (g2:TG) (tt2:TT) (te:TE):TS:=λD σ H=>LE wi cap g tt wi2 g2 tt2 te σ H λys H'=>∀p,H' p=none->D.nx (σ.set i (some (.ref p))) (upd H' p (.lst ys))
theorem Qz {X:Cx}{i:Nat}{y:Str}{tg iter tg2 iter2 elt:Expr}{ifs ifs2:List Expr}{scope:Scope}{pos pos' pos'':Pos}{wi:TI} (N':List Str) (cap:List (Option Nat)) (hN:X.N.Nodup) (hin:X.N[i]? =some y) (hy:DQ X.env.scope y)
  (hc:X.calm=true) (hi:PI X tg iter wi) (B:AH X.env.scope X.N scope N' cap) (hg:∀s H ex C,PG (A9 X N' scope s H ex C) tg g) (ht:∀s H ex C,CJ (A9 X N' scope s H ex C) ifs tt)
  (hi2:∀s H ex C,PI (A9 X N' scope s H ex C) tg2 iter2 wi2) (hg2:∀s H ex C,PG (A9 X N' scope s H ex C) tg2 g2) (ht2:∀s H ex C,CJ (A9 X N' scope s H ex C) ifs2 tt2) (he:∀s H ex C,PE (A9 X N' scope s H ex C) elt te)
  (hsw:swapsWith (D5 elt tg iter ifs tg2 iter2 ifs2 scope pos) (some (.Name y pos')) pos''.line X.env=pure true:=by rfl)
  (hf:X.fn y=true\/X.env.scope.names.lookup y=some .local :=by first | exact .inl rfl | exact .inr rfl | assumption)
  (hs:∀x,foldedSetIterable iter X.env x=pure x:=by intro _;rfl) (hs2:∀env x,foldedSetIterable iter2 env x=pure x:=by intro _ _;rfl):PS X (.Assign [.Name y pos'] (.ListComp elt [⟨tg,iter,ifs,0⟩,⟨tg2,iter2,ifs2,0⟩] scope pos) pos'') (Qy i wi cap g tt wi2 g2 tt2 te):=by
 intro pins s σ H D I h;rw [exec_Assign_Name_used _ _ _ _ hsw];refine wpAny_bind (wpAny_standAt (wpAny_bind ?_));show wpAny _ X.A (do let _<-comprehension (D5 elt tg iter ifs tg2 iter2 ifs2 scope pos) scope X.env _ (newList []) false (eval iter X.env) (some (assign (.Name y pos') X.env))) _ _ s;refine wpAny_bind (wpAny_mono (Qr (use:=some (assign (.Name y pos') X.env)) (Q':=λ_ s'=>SP X pins D .next s') hc hi B hg ht hi2 hg2 ht2 he hs hs2 I h λacc C H ys s' hn I' L q=>?_) (λ_ s' hq=>wpAny_pure (wpAny_pure hq)) λ_ _ e=>e);obtain⟨m,hm⟩:=L.ns;refine wpAny_assign_Name (Iz I' hN hin hy (show RelV (.ref acc) (.ref acc) from rfl) (λs'' I'' ⟨a,sb,ha⟩=>?_) hf);have hCa:C≠a:=by
  rcases ha with e | e
  ·rw [e];exact L.loc
  ·exact λz=>L.cell _ _ e z.symm
 refine⟨m,hm.sameBut sb hCa,λh' hsb=>?_⟩;exact⟨_,_,I''.turned (t':=s''.toks) (it:=C) (λb o hb e=>hsb.extBut b o hb e) L.free L.loc (.inr L.sz) L.cell L.pin,q acc hn⟩
def QA (te:TE):TT:=fun σ H Q=>te σ H λx H'=>∃a xs,x= .ref a/\H' a=some (.lst xs)/\Q (!xs.isEmpty) H'
theorem Jo {X:Cx}{a:Expr}{ta:TE} (ha:PE X a ta) (he:∀whole,isTrue a X.env whole=(do let v<-whole;standAt a.pos;holding [v] (truthy v)):=by intro _;rfl):PT X a (QA ta):=by
 intro pins s σ H Q I h;refine isTrue_plain (Ap (ha pins s σ H _ I h) λv s1 ⟨x,H1,I1,r1,q1⟩=>?_) (he _);obtain⟨b,xs,rfl,hb,q⟩:=q1;cases r1;obtain⟨its,r,pl,hz⟩:=I1.list (Ai.of hb);have hlen:=r.length;have big:sizeLine<2 ^ 63:=by decide
 exact wpAny_truthy_list pl.isList (by simp only [size_toArray];omega) ⟨H1,I1.tok _,by rw [Oa r];exact q⟩
theorem QB (l b:Addr) (es:Array PySem.DictEntry) (ep:Nat) (items2:Array Value) (n2:Nat) (dd dd2:Option Addr) (sl sl2:Array (Option Value)):
  Meets (Builtin.«dict.__eq__» ⟨[.ref l,.ref b],[]⟩) (λ_ R s=>s.heap.get? l=some { cls:= .type "dict",dict:=dd,data:= .dict es ep,slots:=sl}/\s.heap.get? b=some { cls:= .type "tuple",dict:=dd2,data:= .seq items2 n2,slots:=sl2}/\R (.ok (.ret .notImplemented)) s):=
 .of_wp λprog w A R s h=>by obtain⟨hp,g,d,tk,os⟩:=s;obtain⟨hl,hb,h⟩:=h;have f1:=F.sub_tuple_dict;wp_walk using AutoSeq1.wpAny_loadPart' hl,AutoSeq1.wpAny_loadPart' hb;exact⟨_,rfl,h⟩
theorem QC (l b:Addr) (es:Array PySem.DictEntry) (ep:Nat) (items:Array Value) (n:Nat) (dd dd2:Option Addr) (sl sl2:Array (Option Value)):
  Meets (Builtin.«tuple.__eq__» ⟨[.ref l,.ref b],[]⟩) (λ_ R s=>s.heap.get? l=some { cls:= .type "tuple",dict:=dd,data:= .seq items n,slots:=sl}/\s.heap.get? b=some { cls:= .type "dict",dict:=dd2,data:= .dict es ep,slots:=sl2}/\R (.ok (.ret .notImplemented)) s):=
 .of_wp λprog w A R s h=>by obtain⟨hp,g,d,tk,os⟩:=s;obtain⟨hl,hb,h⟩:=h;have f1:=F.sub_dict_tuple;wp_walk using AutoSeq1.wpAny_loadPart' hl,AutoSeq1.wpAny_loadPart' hb;exact⟨_,rfl,h⟩
section
variable {X : Cx}
def QD:R2:=λx y H Q=>∃p d e,Aa p H d x/\Aa p H e y/\e.canLay0=true/\e.hasDict=false/\e.depth<=20/\((d.canLay0=true/\d.hasDict=false/\Q (.bl (PyData.eqv d e)) H)\/(d= .dict []/\(∃es,e= .tuple es)/\Q (.bl false) H))
theorem QE {k:Nat} (hr:AJ k X.A):OpR X (compareOp .Eq) QD:=by
 intro pins s σ H x y v u Q I rx ry h;obtain⟨p,d,e,rd,re,ce,he,dp,h⟩:=h;have un:=hr.un;obtain⟨bs,rb⟩:=Aa.reads I e y u he re ry;rcases h with⟨cd,hd,q⟩ | ⟨rfl,⟨es,rfl⟩,q⟩
 ·obtain⟨as,ra⟩:=Aa.reads I d x v hd rd rx;exact SeqAt.compareEq_reads ra rb cd ce (by omega) (AR I q rfl)
 ·unfold Aa at rd re;obtain⟨l,ks,rfl,_,_,hb⟩:=rd;obtain⟨b,xs,rfl,hbt,_⟩:=re;cases rx;cases ry;obtain⟨_,hne,vs,kv,o,es',ep,ho,hx,hdt,_⟩:=I.hok l _ hb;obtain⟨its,rv,⟨o2,ho2,hc2,n2,hdt2⟩,_⟩:=I.tuple (Ag.of hbt);have hne:l≠b:=by
   intro z;subst z;rw [hb] at hbt;cases hbt
  have hc:=hx.1;obtain⟨cls,dd,data,sl⟩:=o;obtain⟨cls2,dd2,data2,sl2⟩:=o2;simp only at hc hdt hc2 hdt2;subst hc hdt hc2 hdt2;exact SeqAt.rc_eq_decline_or (k:=false) ⟨_,ho,rfl⟩ ⟨_,ho2,rfl⟩ (by decide) F.sub_tuple_dict F.slot_dict_eq F.slot_tuple_eq_refl
   (λ_ hq=>call_meets F.slot_dict_eq ⟨_,ho,rfl⟩ F.entry_dict_eq (F.args_dict_eq_2 _ _) (QB l b es' ep its.toArray n2 dd dd2 sl sl2) ⟨ho,ho2,hq⟩)
   (λ_ hq=>call_meets F.slot_tuple_eq_refl ⟨_,ho2,rfl⟩ F.entry_tuple_eq (F.args_tuple_eq_2 _ _) (QC b l es' ep its.toArray n2 dd2 dd sl2 sl) ⟨ho2,ho,hq⟩)
   (λ_ hq=>PySem.wpAny_isSame_ref_other hne ho ho2 (by simp) hq) (.inr (by omega)) (AR I q rfl)
end
end L2
namespace MF
open L2
variable {n k : Nat} {α : Type} {xs : List α}
structure TM where
 cs:List (List Int)
 co:List Int
 ds:List Int
 lo:Int
 hi:Int
 st:Int
def TM.d (T:TM):PyData:= .tuple [FD T.cs,AX T.co,AX T.ds,.tuple [.int T.lo,.int T.hi,.int T.st]]
def terms (P:PL) (S:SY):TM:=⟨caps P S,P.bs.map (·.2),draws P S,P.lo,P.hi,P.st⟩
structure TM.ok (T:TM):Prop where
 l8:T.ds.length<=8
 lc:T.cs.length=T.ds.length
theorem QF {P:PL}{S:SY} (so:S.ok n):(terms P S).ok:=⟨by show(draws P S).length<=8;rw [Ex];exact so.x8,by show(caps P S).length=(draws P S).length;rw [BI,Ex]⟩
def part {α:Type} (xs:List α) (f l:Nat):List α:=(xs.drop f).take (l+1-f)
theorem LF {f l:Nat} (h:f<=l) (hl:l<xs.length):(part xs f l).length=l+1-f:=by
 unfold part;rw [length_take,length_drop];omega
theorem Hb {xs:List V}{f l:Nat} (h:f<=l) (hl:l<xs.length):Bi xs (some (f:Int)) (some ((l:Int)+1))=part xs f l:=by
 have e:((l:Int)+1)=((l+1:Nat):Int):=by omega
 unfold Bi part;rw [e,HT.sIx_nat,HT.sIx_nat,Nat.min_eq_left (by omega),Nat.min_eq_left (by omega)]
theorem Hc {β:Type}{g:α->β}{f l:Nat}:part (xs.map g) f l=(part xs f l).map g:=by
 unfold part;rw [<-map_drop,<-map_take]
theorem Ad.part {p:Addr}{H:Hp}:∀ {ds:List PyData}{xs:List V},Ad p H ds xs->∀f l,Ad p H (MF.part ds f l) (MF.part xs f l):=by
 have dr:∀ {ds:List PyData}{xs:List V},Ad p H ds xs->∀f,Ad p H (ds.drop f) (xs.drop f):=by
  intro ds
  induction ds with
  | nil=>intro xs r f;unfold Ad at r;subst r;rw [drop_nil,drop_nil];exact .nil
  | cons d ds ih=>
   intro xs r f;have r':=r;unfold Ad at r;obtain⟨x,t,rfl,rx,rt⟩:=r;cases f with
   | zero=>exact r'
   | succ f=>exact ih rt f
 have tk:∀ {ds:List PyData}{xs:List V},Ad p H ds xs->∀f,Ad p H (ds.take f) (xs.take f):=by
  intro ds
  induction ds with
  | nil=>intro xs r f;unfold Ad at r;subst r;rw [take_nil,take_nil];exact .nil
  | cons d ds ih=>
   intro xs r f;unfold Ad at r;obtain⟨x,t,rfl,rx,rt⟩:=r;cases f with
   | zero=>exact .nil
   | succ f=>exact .cons rx (ih rt f)
 intro ds xs r f l;exact tk (dr r f) _
def most (T:TM) (f l:Nat):Int:=((part T.cs f l).map List.sum).sum
def QG (T:TM) (f l:Nat):Int:=(part T.ds f l).sum
def DG (T:TM) (f l:Nat):Bool:=decide ((if f=0 then T.st else T.hi)+most T f l<QG T f l+T.lo)
def DH (f k:Nat):List (Nat×Nat):=(List.range k).map λi=>(f,f+i)
def CB (n k:Nat):List (Nat×Nat):=((List.range k).map λf=>DH f (n-f)).flatten
abbrev pD (q:Nat×Nat):PyData:= .tuple [.int q.1,.int q.2]
theorem QH {f:Nat}:DH f (k+1)=DH f k++[(f,f+k)]:=by unfold DH;rw [range_succ,map_append];rfl
theorem LG {f:Nat}:(DH f k).length=k:=by unfold DH;simp
theorem LH:CB n (k+1)=CB n k++DH k (n-k):=by unfold CB;rw [range_succ,map_append,List.flatten_append];simp
theorem LJ:(CB n k).length<=n * k:=by
 induction k with
 | zero=>exact Nat.le_refl _
 | succ k ih=>rw [LH,length_append,LG,Nat.mul_succ];omega
theorem LK (h:k<=n):∀q∈CB n k,q.1<=q.2/\q.2<n:=by
 intro q hq;unfold CB at hq;obtain⟨l,hl,hq⟩:=List.mem_flatten.mp hq;obtain⟨f,hf,rfl⟩:=mem_map.mp hl;obtain⟨i,hi,rfl⟩:=mem_map.mp hq;have:=mem_range.mp hf;have:=mem_range.mp hi;exact⟨by show f<=f+i;omega,by show f+i<n;omega⟩
def E8 (T:TM):List (Nat×Nat):=(CB T.ds.length T.ds.length).filter λq=>DG T q.1 q.2
def DJ (T:TM):Option (Nat×Nat):=(E8 T).head?
def LL:Option (Nat×Nat)->PyData
 | none=> .none
 | some q=>pD q
end MF
end
section
namespace L2
section
variable {X : Cx}
end
end L2
end
section
namespace L2
def Az (x y:Str):List Str:=
 if (decide (x.length<y.length) || decide (Builtin.Str.strKind x<Builtin.Str.strKind y))=true then [x]
 else if (Builtin.Str.occurrences x y 0 x.length (x.length+1)).isEmpty=true then [x]
 else Builtin.Str.partsBetween x (Builtin.Str.occurrences x y 0 x.length (x.length+1)) y.length
theorem He (x y:Str):(Az x y).length<=x.length+2:=by
 unfold Az;split
 ·exact Nat.le_add_left 1 (x.length+1)
 ·split
  ·exact Nat.le_add_left 1 (x.length+1)
  ·have h:=StrLaws.occ_length_le x y 0 x.length (x.length+1);unfold Builtin.Str.partsBetween;simp only [length_map,length_zip,length_cons,length_append,length_nil];omega
theorem LM:∀(n:Nat) (l:List Str),As (l.map V.str) (strsFrom n l)
 | _,[]=> .nil
 | n,x::l=> .cons ⟨n,rfl⟩ (LM (n+1) l)
section
variable {X : Cx}
def QI:V->List V->Hp->VK->Prop:=λx vs H Q=>∃t y,x= .str t/\vs=[.str y]/\(y.length==0)=false/\t.length+2<=sizeLine/\∀l,H l=none->Q (.ref l) (upd H l (.lst ((Az t y).map V.str)))
theorem E9:Eo X "str.split" QI:=by
 intro pins s σ H x vs v us Q I rx rv h;obtain⟨t,y,rfl,rfl,hy,hz,q⟩:=h;obtain⟨t1,rfl⟩:=rx;obtain⟨u,rfl,t2,rfl⟩:=rv.one;have hl:=He t y;have q':=q _ I.fresh;have hv:=λn=>LM n (Az t y)
 unfold Az at hl q' hv;split at hl
 ·rename_i c;rw [if_pos c] at q' hv;refine call_meets F.slot_str_split rfl F.entry_str_split (F.args_str_split_2 _ _) (meets_str_split_cannot_occur t y t1 t2 c) ?_;exact⟨.ref _,_,I.lnew (t':=s.toks) (ys:=[V.str t]) (its:=[.str t t1]) (.cons ⟨t1,rfl⟩ .nil) (by show 1<=sizeLine;decide),rfl,q'⟩
 ·rename_i c;rw [if_neg c] at q' hv;have c':=Bool.eq_false_iff.mpr c;split at hl
  ·rename_i d;rw [if_pos d] at q' hv;refine call_meets F.slot_str_split rfl F.entry_str_split (F.args_str_split_2 _ _) (meets_str_split_not_found t y t1 t2 c' hy d) ?_;exact⟨.ref _,_,I.lnew (t':=s.toks) (ys:=[V.str t]) (its:=[.str t t1]) (.cons ⟨t1,rfl⟩ .nil) (by show 1<=sizeLine;decide),rfl,q'⟩
  ·rename_i d;rw [if_neg d] at q' hv;refine call_meets F.slot_str_split rfl F.entry_str_split (F.args_str_split_2 _ _) (meets_str_split_sep t y t1 t2 c' hy (Bool.eq_false_iff.mpr d) (by omega) (by omega)) ?_;exact⟨.ref _,_,I.lnew (t':=_) (hv s.toks) (by rw [length_map];omega),rfl,q'⟩
def Cg (sep:Str):List Str->Str
 | [x]=>x
 | l=>Builtin.Str.glued sep l
theorem LN:∀ {ss:List Str}{its:List Value},As (ss.map V.str) its->∃l:List (Str×Tok),its=strValues l/\l.map (·.1)=ss
 | [],its,r=>by cases r;exact⟨[],rfl,rfl⟩
 | x::ss,its,r=>by
  cases r with
  | cons r1 r2=>
   obtain⟨t,rfl⟩:=r1;obtain⟨l,rfl,rfl⟩:=LN r2;exact⟨(x,t)::l,rfl,rfl⟩
def QJ:V->List V->Hp->VK->Prop:=λx vs H Q=>∃sep l ss,x= .str sep/\vs=[.ref l]/\H l=some (.lst (List.map V.str ss))/\Builtin.Str.tooLong (ss.toArray.foldl (· + ·.length+sep.length) 0)=false/\(Cg sep ss).length<=sizeLine/\Q (.str (Cg sep ss)) H
theorem Fa:Eo X "str.join" QJ:=by
 intro pins s σ H x vs v us Q I rx rv h;obtain⟨sep,l,ss,rfl,rfl,hH,hl,hz,q⟩:=h;obtain⟨t1,rfl⟩:=rx;obtain⟨u,rfl,ru⟩:=rv.one;cases ru;obtain⟨its,r,p1,_⟩:=I.list (Ai.of hH);obtain⟨ps,rfl,rfl⟩:=LN r;refine call_meets F.slot_str_join rfl F.entry_str_join (F.args_str_join_2 _ _) (meets_str_join_list sep t1 l ps hl) ⟨p1.isList,?_⟩
 match ps,hz,q with
 | [],hz,q=>exact⟨hz,.str _,H,I.tok _,⟨_,rfl⟩,q⟩
 | [p],hz,q=>exact⟨.str _,H,I,⟨_,rfl⟩,q⟩
 | a::b::r,hz,q=>exact⟨hz,.str _,H,I.tok _,⟨_,rfl⟩,q⟩
def Cp (x:Str) (lo hi:Option Int):List Nat:=slicePicked x (lo.map λi=>(i,0)) (hi.map λi=>(i,0)) none
def Dj (x:Str) (lo hi:Option Int):Str:=if ((Cp x lo hi).length==x.length)=true then x else⟨((Cp x lo hi).filterMap (x.cps[·]?)).toArray⟩
theorem LO {v:Value}{lo:Option Int} (h:IsPart v lo):∃l:Option (Int×Tok),v=partValue l/\l.map (·.1)=lo:=by
 cases h with
 | none=>exact⟨none,rfl,rfl⟩
 | int i t=>exact⟨some (i,t),rfl,rfl⟩
def QK:V->Option Int->Option Int->Hp->VK->Prop:=λx lo hi H Q=>∃t,x= .str t/\t.length<=sizeLine/\(Dj t lo hi).length<=t.length/\Q (.str (Dj t lo hi)) H
theorem wb7:FG X QK:=by
 intro pins s σ H x v vl vu lo hi sl Q I rx hs pl pu h;obtain⟨t,rfl,hz,hz2,q⟩:=h;obtain⟨t1,rfl⟩:=rx;obtain⟨l,rfl,rfl⟩:=LO pl;obtain⟨u,rfl,rfl⟩:=LO pu;refine⟨"str",_,F.slot_str_getitem.lookup,rfl,wpAny_getItem_str_slice (l:=l) (u:=u) (st:=none) hs rfl ?_⟩;have e:slicePicked t l u none=Cp t (l.map (·.1)) (u.map (·.1)):=by
  unfold Cp slicePicked;cases l<;>cases u<;>rfl
 unfold sliceMade;unfold Dj at hz2 q;rw [e]
 by_cases c:((Cp t (l.map (·.1)) (u.map (·.1))).length==t.length)=true
 ·rw [if_pos c] at q hz2;rw [if_pos (by show(true && _)=true;rw [c];rfl)];exact⟨.str _,H,I,⟨_,rfl⟩,q⟩
 ·rw [if_neg c] at q hz2;rw [if_neg (by show ¬(true && _)=true;rw [Bool.true_and];exact c)];exact⟨Nat.le_trans hz2 hz,.str _,H,I.tok _,⟨_,rfl⟩,q⟩
theorem QL (x:Str) (lo hi:Option Int):(Dj x lo hi).length<=x.length:=by
 unfold Dj;split
 ·exact Nat.le_refl _
 ·have h:(Cp x lo hi).length<=x.length:=by
   unfold Cp slicePicked;exact indices_len_le _ _ _
  exact Nat.le_trans (show((Cp x lo hi).filterMap (x.cps[·]?)).toArray.size<=(Cp x lo hi).length by rw [size_toArray];exact List.length_filterMap_le _ _) h
theorem LP:BR X (.type "int") (λxs H Q=>∃n:Int,xs=[.str (Str.ofString (toString n))]/\0<=n/\n<10 ^ 10/\Q (.int n) H):=by
 intro pins s σ H xs us Q I r h;obtain⟨n,rfl,h0,h1,q⟩:=h;obtain⟨u,rfl,t,rfl⟩:=En r;exact PySem.W.KIN.call_num h0 h1 ⟨.int n,H,I.tok _,⟨_,rfl⟩,q⟩
end
section
variable {X : Cx} {pos : Pos}
end
section
variable {X : Cx}
end
section
variable {X : Cx}
end
section
variable {X : Cx}
end
end L2
end
section
namespace L2
open AutoSeq1 (wpAny_loadPart')
structure ZA3 (z TI TO i1 i2 i3 l1 l2 l3:Addr):Prop where
 TI_z:TI≠z
 TO_z:TO≠z
 TO_TI:TO≠TI
 i1_z:i1≠z
 i1_TI:i1≠TI
 i1_TO:i1≠TO
 i2_z:i2≠z
 i2_TI:i2≠TI
 i2_TO:i2≠TO
 i2_i1:i2≠i1
 i3_z:i3≠z
 i3_TI:i3≠TI
 i3_TO:i3≠TO
 i3_i1:i3≠i1
 i3_i2:i3≠i2
 l1_z:l1≠z
 l1_TO:l1≠TO
 l1_i1:l1≠i1
 l1_i2:l1≠i2
 l1_i3:l1≠i3
 l2_z:l2≠z
 l2_TO:l2≠TO
 l2_i1:l2≠i1
 l2_i2:l2≠i2
 l2_i3:l2≠i3
 l3_z:l3≠z
 l3_TO:l3≠TO
 l3_i1:l3≠i1
 l3_i2:l3≠i2
 l3_i3:l3≠i3
section
variable {P : Program} {w : World} {K : Fgx} {A : Around} {E : Value -> Shared -> Prop} {s : Shared} (S1 S2 S3 : Bl P w K)
end
end L2
end
section
namespace L2
open AutoSeq1 (wpAny_loadPart')
end L2
end
section
namespace L2
section
variable {X : Cx}
def QM (a b:TI):TI:=fun σ H R=>a σ H R\/b σ H R
theorem QN {tg it:Expr}{a b:TI} (ha:PI X tg it a) (hb:PI X tg it b):PI X tg it (QM a b):=λpins s σ H R I h=>h.elim (λq=>ha pins s σ H R I q) λq=>hb pins s σ H R I q
end
section
variable {X : Cx}
end
section
variable {prog : Program} {w : World} {A : Around} {R : Result -> Shared -> Prop} {s : Shared} {elt tg1 it1 tg2 it2 tg3 it3 : Expr} {ifs1 ifs2 ifs3 : List Expr} {scope : Scope} {pos : Pos} {it acc : Value} {env : Env}
end
def QO (wi2:TI) (g2:TG) (tt2:TT) (wi3:TI) (g3:TG) (tt3:TT) (te:TE):St->List V->Hp->(List V->Hp->Prop)->Prop:=fun σ ys H N=>wi2 σ H λJ H1=>
 ∃W:Nat->Nat->List V->Hp->Prop,(∃m,W 0 m ys H1)/\∀j m zs H,W j m zs H->
  (J.stop j H/\N zs H)\/
  (J.go j H /\ ∃ N2 : List V -> Hp -> Prop, (∀ zs' H', N2 zs' H' -> ∃ m', m' < m /\ W (j + 1) m' zs' H') /\ ∀ x H', J.yld j H x H' -> g2 x σ H' fun σ3 H2 => Keep σ σ3 /\ tt2 σ3 H2 λb H3 =>
   br b (Ha wi3 g3 tt3 te σ3 zs H3 N2) (N2 zs H3))
section
variable {X : Cx}
end
theorem Ch (K:Fgx) {o e:Expr}{es:List Expr}{to:TE}{t:TA}{name:Str}{apos cpos:Pos}{T id:String}{r:V->List V->Hp->VK->Prop}{X:Cx} (pa:PlainAttrs T) (slot:Slot T name id) (hty:typeOf (.builtin id)=pure (.type "method_descriptor")) (hm:FH X id r) (ho:PE X o to) (ha:PA X (e::es) t) (hK:X.K=K:=by rfl)
  (hbase:attributeBase o name X.env (eval o X.env)=eval o X.env:=by rfl)
  (hfew : ((backTo cpos (starEach (e :: es) X.env)).all (λx => !x.1) && (backToKw cpos (keywordEach [] X.env)).all (λx => x.1.isSome)
   && decide ((e::es).length+([]:List Keyword).length+(if ([]:List Keyword).isEmpty then 0 else 1)<30))=true:=by rfl)
  (hline:(apos.endLine==cpos.line)=true:=by rfl) (hs:starEach (e::es) X.env=(false,eval e X.env)::starEach es X.env:=by rfl) (hplain:(backTo cpos (starEach es X.env)).any (·.1)=false:=by rfl):
  PE X (.Call (.Attribute o name apos) (e::es) [] cpos) (KY K T r to t):=hK ▸ Cn pa slot hty hm ho ha hbase hfew hline hs hplain
def WalkO (J:It) (cap:List (Option Nat)) (g:TG) (tt:TT) (wi2:TI) (g2:TG) (tt2:TT) (wi3:TI) (g3:TG) (tt3:TT) (te:TE) (σ:St) (Q:List V->Hp->Prop) (H1:Hp):Prop:=
 ∃W:Nat->Nat->List V->Hp->Prop,(∃m,W 0 m [] H1)/\∀i m ys H,W i m ys H->
  (J.stop i H/\Q ys H)\/
  (J.go i H /\ ∃ N : List V -> Hp -> Prop, (∀ ys' H', N ys' H' -> ∃ m', m' < m /\ W (i + 1) m' ys' H') /\ ∀ x H', J.yld i H x H' -> g x (AM cap σ) H' fun σ2 H2 => Keep (AM cap σ) σ2 /\ tt σ2 H2 λb H3 =>
   br b (QO wi2 g2 tt2 wi3 g3 tt3 te σ2 ys H3 N) (N ys H3))
end L2
end
section
namespace L2
section
variable {X : Cx}
end
end L2
namespace MF
open L2
end MF
end
section
namespace L2
section
variable {X : Cx}
end
end L2
end
section
namespace L2
open AutoSeq1 (wpAny_loadPart')
section
variable {P : Program} {w : World} {K : Fgx} {A : Around} {E : Value -> Shared -> Prop} {s : Shared} (S1 S2 : Bl P w K)
end
end L2
end
section
namespace L2
section
variable {X : Cx}
section
open HT
variable {prog : Program} {w : World} {A : Around} {E : Value -> Shared -> Prop} {s : Shared}
end
def QP:R2:=λx y H Q=>∃p d e,Aa p H d x/\Aa p H e y/\e.canLay0=true/\e.hasDict=false/\e.depth<=20/\d.canLay0=true/\d.hasDict=false/\Q (.bl (!PyData.eqv d e)) H
theorem QQ {k:Nat} (hr:AJ k X.A):OpR X (compareOp .NotEq) QP:=by
 intro pins s σ H x y v u Q I rx ry h;obtain⟨p,d,e,rd,re,ce,he,dp,cd,hd,q⟩:=h;have un:=hr.un;obtain⟨bs,rb⟩:=Aa.reads I e y u he re ry;obtain⟨as,ra⟩:=Aa.reads I d x v hd rd rx;exact SeqAt.compareNe_reads ra rb cd ce (by omega) (AR I q rfl)
end
end L2
end
section
namespace L2
variable {h : Heap} {α : Type} {M : Model} {t : Sem α}
def KD (h h':Heap):Prop:=∀(b:Addr) (o:Obj),h.objs[b]? =some o->∃o':Obj,h'.objs[b]? =some o'/\o'.dict=o.dict
theorem KD.refl (h:Heap):KD h h:=λ_ o e=>⟨o,e,rfl⟩
theorem KD.trans {a b c:Heap} (x:KD a b) (y:KD b c):KD a c:=λi o e=>by
 obtain⟨o1,e1,d1⟩:=x i o e;obtain⟨o2,e2,d2⟩:=y i o1 e1;exact⟨o2,e2,d2.trans d1⟩
theorem LQ {b:Addr}{o:Obj} (e:h.get? b=some o):h.objs[b]? =some o:=by
 unfold Heap.get? at e;split at e
 ·cases e
 ·exact e
theorem KD.get {h':Heap}{b:Addr}{o o':Obj} (k:KD h h') (e:h.get? b=some o) (e':h'.get? b=some o'):o'.dict=o.dict:=by
 obtain⟨o2,e2,d⟩:=k b o (LQ e);rw [LQ e'] at e2;cases e2;exact d
theorem KD.push (h:Heap) (o:Obj):KD h (h.push o):=λb u e=>⟨u,by
 have hb:=(Array.getElem?_eq_some_iff.mp e).1;show(h.objs.push o)[b]? =some u;rw [Array.getElem?_push_lt hb,<-e,Array.getElem?_eq_getElem hb],rfl⟩
theorem KD.update (h:Heap) (a:Addr) {f:Obj->Obj} (hf:∀o,(f o).dict=o.dict):KD h (h.update a f):=λb u e=>by
 by_cases z:a=b
 ·exact⟨f u,by show(h.objs.modify a f)[b]? =_;rw [Array.getElem?_modify,if_pos z,e];rfl,hf u⟩
 ·exact⟨u,by show(h.objs.modify a f)[b]? =_;rw [Array.getElem?_modify,if_neg z,e],rfl⟩
inductive Tame {α:Type}:Sem α->Prop
 | pure (a:α):Tame (.pure a)
 | raise (e:Value):Tame (.raise e)
 | uns (w:String):Tame (.unsupported w)
 | rule {t:String}{k:Unit->Sem α} (h:∀x,Tame (k x)):Tame (.rule t k)
 | load {a:Addr}{p:Option Value}{k:Obj->Sem α} (h:∀x,Tame (k x)):Tame (.load a p k)
 | update {a:Addr}{p:Option Value}{f:Obj->Obj}{k:Unit->Sem α} (hf:∀o,(f o).dict=o.dict) (h:∀x,Tame (k x)):Tame (.update a p f k)
 | alloc {o:Obj}{k:Addr->Sem α} (h:∀x,Tame (k x)):Tame (.alloc o k)
 | stack {k:List (Code×Pos)->Sem α} (h:∀x,Tame (k x)):Tame (.stack k)
theorem Tame.bind {β:Type}{m:Sem α}{f:α->Sem β} (h:Tame m) (g:∀a,Tame (f a)):Tame (m>>=f):=by
 induction h with
 | pure a=>exact g a
 | raise e=>exact .raise e
 | uns w=>exact .uns w
 | rule _ ih=>exact .rule ih
 | load _ ih=>exact .load ih
 | update hf _ ih=>exact .update hf ih
 | alloc _ ih=>exact .alloc ih
 | stack _ ih=>exact .stack ih
theorem Tame.ite {c:Prop} [Decidable c] {a b:Sem α} (x:Tame a) (y:Tame b):Tame (if c then a else b):=by
 split
 ·exact x
 ·exact y
theorem Tame.wp {Γ:PySem.Ctx}{Q:α->Pos->Shared->Prop}{E:Value->Pos->Shared->Prop} (T:Tame t) {p:Pos}{s:Shared}{h0:Heap} (k0:KD h0 s.heap) (h:Sem.wp M Γ t Q E p s):
  Sem.wp M Γ t (λa p' s'=>Q a p' s'/\KD h0 s'.heap) E p s:=by
 induction T generalizing p s with
 | pure a=>rw [Sem.wp] at h ⊢;exact⟨h,k0⟩
 | raise e=>rw [Sem.wp] at h ⊢;exact h
 | uns w=>rw [Sem.wp] at h;exact h.elim
 | rule _ ih=>rw [Sem.wp] at h ⊢;exact ih _ k0 h
 | load _ ih=>rw [Sem.wp] at h ⊢;obtain⟨o,e,h⟩:=h;exact⟨o,e,ih _ k0 h⟩
 | update hf _ ih=>rw [Sem.wp] at h ⊢;exact⟨h.1,ih _ (k0.trans (KD.update _ _ hf)) h.2⟩
 | alloc _ ih=>rw [Sem.wp] at h ⊢;exact ih _ (k0.trans (KD.push _ _)) h
 | stack _ ih=>rw [Sem.wp] at h ⊢;exact ih _ k0 h
theorem Tame.any {A:Around}{Q:α->Shared->Prop}{E:VSP} (T:Tame t) {s:Shared} (h:wpAny M A t Q E s):wpAny M A t (λa s'=>Q a s'/\KD s.heap s'.heap) E s:=
 fun Γ p hΓ=>T.wp (KD.refl _) (h Γ p hΓ)
theorem Jp (a:Addr):Tame (load a):= .load λ_=> .pure _
theorem QR (v:Value):Tame (fieldsOf v):=by
 unfold fieldsOf;split
 ·refine(Jp _).bind λo=>?_
  split
  ·exact .pure _
  ·exact .uns _
 ·exact .uns _
theorem Hf (v:Value) (i:Nat):Tame (field v i):=by
 unfold field;refine(QR v).bind λo=>?_
 split
 ·exact .pure _
 ·exact .uns _
theorem QS (o:Obj) (f:Array Value->Array Value):(Obj.mapFields f o).dict=o.dict:=by
 unfold Obj.mapFields;split<;>rfl
theorem Jq (v:Value) (i:Nat) (x:Value):Tame (setField v i x):=by
 unfold setField;split
 ·unfold updateField;refine(Jp _).bind λo=>?_
  split
  ·exact .ite (.update (λo=>QS o _) λ_=> .pure _) (.uns _)
  ·exact .uns _
 ·exact .uns _
theorem Jr (e:Value) (f:Option Addr):Tame (setFlight e f):=by
 unfold setFlight;refine(Hf _ _).bind λo=>?_
 exact .ite (Jq _ _ _) (.pure _)
theorem LR:∀l,Tame (readyFrames l)
 | []=> .pure _
 | env::outer=>by
  unfold readyFrames;split
  ·refine(Jp _).bind λo=>?_
   refine .ite (.pure _) ?_;refine Tame.bind ?_ λb=>Tame.bind ?_ λv=>Tame.bind (.update (λ_=>rfl) λ_=> .pure _) λ_=>LR outer
   ·unfold behindIsImport;refine .ite (.pure _) (.ite (.pure _) ((Hf _ _).bind λ_=> .pure _))
   ·unfold keptBack;split
    ·refine .ite (.pure _) ?_;unfold underTheClaimsCaller;exact Tame.bind (Tame.bind (.stack λ_=> .pure _) λ_=> .pure _) λ_=> .pure _
    ·exact .pure _
  ·exact .uns _
theorem QT (env:Env):Tame (PySem.frameOf env):=by
 unfold PySem.frameOf frameEnvs;refine Tame.bind (Tame.bind (.stack λ_=> .pure _) λ_=> .pure _) λl=>?_
 refine Tame.bind ?_ λo=>?_
 ·unfold frameObject;split
  ·exact .pure _
  ·exact(LR _).bind λ_=> .pure _
 ·split
  ·exact .pure _
  ·exact .uns _
theorem QU (f:Addr) (b:Bool):Tame (entryPlaceOf f b):=by
 unfold entryPlaceOf;refine Tame.bind (.stack λ_=> .pure _) λl=>?_
 split
 ·exact .pure _
 ·exact .pure _
theorem QV (a b c d e:Value) (l:List Value):Tame (EntryCells.newEntry a b c d e l):=by
 unfold EntryCells.newEntry newFields newObj;dsimp only;refine .ite (.uns _) ?_;unfold newObjAsIs;exact Tame.bind (.alloc λ_=> .pure _) λ_=> .pure _
theorem LS (e:Value) (env:Env):Tame (noteFrame e env):=by
 unfold noteFrame;split
 ·refine(Hf _ _).bind λo=>?_
  refine .ite ((Hf _ _).bind λo=> .ite (.pure _) ((Jq _ _ _).bind λ_=>?_)) ?_
  all_goals exact(QT _).bind λ_=>(QU _ _).bind λ_=>(QV _ _ _ _ _ _).bind λ_=>Jq _ _ _
 ·exact .uns _
theorem LT (env:Env) (e:Value):Tame (leaving env e):=(LS e env).bind λ_=>Jr e none
end L2
end
section
namespace L2
theorem ObjOk.there {P:Program}{w:World}{H:Hp}{h:Heap}{a:Addr}{o:HO} (x:ObjOk P w H h a o):∃u,h.get? a=some u:=by
 cases o with
 | lst xs=>obtain⟨_,_,_,_,e⟩:=x;exact⟨_,e⟩
 | tup xs=>obtain⟨_,_,_,o,e,_⟩:=x;exact⟨_,e⟩
 | dK kvs=>obtain⟨_,_,_,_,o,_,_,e,_⟩:=x;exact⟨_,e⟩
 | dT kvs=>obtain⟨_,_,_,_,o,_,_,e,_⟩:=x;exact⟨_,e⟩
 | set S n=>obtain⟨o,_,_,_,e,_⟩:=x;exact⟨_,e⟩
 | ins C dx fs=>obtain⟨_,_,_,e,_⟩:=x;exact⟨_,e⟩
 | own y=>obtain⟨_,e⟩:=x;exact⟨_,e⟩
 | xd fs=>obtain⟨_,⟨_,_,_,e,_⟩,_⟩:=x;exact⟨_,e⟩
 | rng lo hi=>obtain⟨_,_,_,e⟩:=x;exact⟨_,e⟩
 | frz ob u=>obtain⟨e,_⟩:=x;exact⟨_,e⟩
 | tbl ps=>exact⟨_,x⟩
 | met f y=>exact⟨_,x⟩
 | ext φ=>obtain⟨_,⟨_,e⟩,_⟩:=x;exact⟨_,e⟩
structure QW (P:Program) (w:World) (outer:List Env) (H:Hp) (s:Shared) (H':Hp) (C e:Addr) (s':Shared):Prop where
 os:s'.os=s.os
 bare:AllBare s'.gens
 un:Un (AB outer) [] H H' s.heap s'.heap
 fly:∃B t,Heap.FlyingW B outer e (.ref C) t s'.heap/\(∀b o,s.heap.get? b=some o->H b=none->b ∉ AB outer->B.get? b=some o)/\
  (∀b o,s.heap.get? b=some o->b ∉ AB outer->∃o',B.get? b=some o')/\HOk P w H' B
def Bj (P:Program) (w:World):Ck:=λouter H s E v s'=>∃C e H' dx,v= .ref e/\QW P w outer H s H' C e s'/\(∃oe:Obj,s'.heap.get? e=some oe/\oe.dict=dx)/\E (.ref C) dx H'
structure IsDef (X:Cx) (E:XK):Prop where
 stk:X.stack=X.env::X.outer
 fr:X.env.frame=some X.env.locals
 ex:X.ex=[]
 xe:∀e s',wpAny (model X.prog X.w) X.A (leaving X.env e) (λ_ s''=>Bj X.prog X.w X.outer X.H₀ X.s₀ E e s'') (λ_ _=>False) s'->X.xe e s'
section
variable {X : Cx} {pins : List (Addr × Obj)} {σ : St} {H H' : Hp} {s s' : Shared} {C e : Addr} {E : XK}
theorem LU {env:Env}{l:List Env}{b L:Addr} (hf:env.frame=some L) (h:b∈AB (env::l)):b=L\/b∈AB l:=by
 unfold AB at h ⊢;obtain⟨x,hx,hb⟩:=mem_filterMap.mp h;rcases mem_cons.mp hx with rfl | hx
 ·rw [hf] at hb;exact .inl (Option.some.inj hb).symm
 ·exact .inr (mem_filterMap.mpr ⟨x,hx,hb⟩)
theorem IsDef.un0 (D:IsDef X E) (I:Ac X pins σ H s) (u:Un (AB X.stack) [] H H' s.heap s'.heap) {B h':Heap} (up:s'.heap.UpToSlots h') (ff:s'.heap.FunFrames B X.stack) (st:B.StaysIn h')
  (kB':∀b o,X.s₀.heap.get? b=some o->X.H₀ b=none->b ∉ AB X.outer->B.get? b=some o) (tB':∀b o,X.s₀.heap.get? b=some o->b ∉ AB X.outer->∃o',B.get? b=some o'):
  Un (AB X.outer) [] X.H₀ H' X.s₀.heap h':=by
 have nx:∀b,b ∉ X.ex:=λb z=>by rw [D.ex] at z;cases z
 have frn:∀b,b∈AB X.outer->∀o,s'.heap.get? b=some o->∀vs,o.data≠ .fields vs:=λb hb o eo=>by
  have hb':b∈(X.env::X.outer).filterMap (·.frame):=by
   obtain⟨x,hx,hf⟩:=mem_filterMap.mp hb;exact mem_filterMap.mpr ⟨x,.tail _ hx,hf⟩
  rw [D.stk] at ff;obtain⟨_,o',ho',hd⟩:=ff.mem hb';rw [eo] at ho';cases ho';exact hd
 have sub:∀b,b∈AB X.outer->b∈AB X.stack:=λb hb=>by
  rw [D.stk];obtain⟨x,hx,hf⟩:=mem_filterMap.mp hb;exact mem_filterMap.mpr ⟨x,.tail _ hx,hf⟩
 refine⟨λb o e n hb _=>st b o (kB' b o e n hb),λb o e n hb _=>?_,λb o e n _=>?_,λb o e _=>?_,λb xs q=>u.tups b xs (I.base.tups b xs q),λb o' xs q=>u.frzs b o' xs (I.base.frzs b o' xs q),λb ps q=>?_⟩
 ·obtain⟨s1,e1⟩:=I.base.slot b o e n hb (nx b);obtain⟨s2,e2⟩:=u.slot b _ e1 (I.base.free b o e n (nx b)) (sub b hb) (by simp);obtain⟨s3,e3⟩:=up b _ e2 (frn b hb _ e2);exact⟨s3,e3⟩
 ·obtain⟨o1,e1⟩:=I.base.there b o e (nx b);exact u.free b o1 e1 (I.base.free b o e n (nx b)) (by simp)
 ·by_cases hb:b∈AB X.outer
  ·obtain⟨o1,e1⟩:=I.base.there b o e (nx b);obtain⟨o2,e2⟩:=u.there b o1 e1 (by simp);obtain⟨s3,e3⟩:=up b _ e2 (frn b hb _ e2);exact⟨_,e3⟩
  ·obtain⟨o1,e1⟩:=tB' b o e hb;exact⟨o1,st b o1 e1⟩
 ·obtain⟨m1,e1⟩:=I.base.tbls b ps q;obtain⟨m2,e2⟩:=u.tbls b _ e1;exact⟨m1++m2,by rw [e2,Array.append_assoc]⟩
theorem IsDef.above (D:IsDef X E) (I:Ac X pins σ H s) {b:Addr}{o:Obj} (e:X.s₀.heap.get? b=some o) (n:b ∉ AB X.outer):b ∉ AB X.stack:=λz=>by
 rw [D.stk] at z;rcases LU D.fr z with q | q
 ·have:=Heap.lt_size e;rw [q] at this;exact absurd (Nat.lt_of_lt_of_le this I.ok.above) (Nat.lt_irrefl _)
 ·exact n q
theorem IsDef.un (D:IsDef X E) (I:Ac X pins σ H s) (u:Un (AB X.stack) [] H H' s.heap s'.heap) {B h':Heap} (up:s'.heap.UpToSlots h') (ff:s'.heap.FunFrames B X.stack) (st:B.StaysIn h')
  (kB:∀b o,s.heap.get? b=some o->H b=none->b ∉ AB X.stack->B.get? b=some o) (tB:∀b o,s.heap.get? b=some o->b ∉ AB X.stack->∃o',B.get? b=some o'):
  Un (AB X.outer) [] X.H₀ H' X.s₀.heap h'/\(∀b o,X.s₀.heap.get? b=some o->X.H₀ b=none->b ∉ AB X.outer->B.get? b=some o)/\
   (∀b o,X.s₀.heap.get? b=some o->b ∉ AB X.outer->∃o',B.get? b=some o'):=by
 have nl:∀b o,X.s₀.heap.get? b=some o->b≠X.env.locals:=λb o e z=>by
  have:=Heap.lt_size e;rw [z] at this;exact absurd (Nat.lt_of_lt_of_le this I.ok.above) (Nat.lt_irrefl _)
 have nx:∀b,b ∉ X.ex:=λb z=>by rw [D.ex] at z;cases z
 have ns:∀b o,X.s₀.heap.get? b=some o->b ∉ AB X.outer->b ∉ AB X.stack:=λb o e n z=>by
  rw [D.stk] at z;rcases LU D.fr z with q | q
  ·exact nl b o e q
  ·exact n q
 have kB':∀b o,X.s₀.heap.get? b=some o->X.H₀ b=none->b ∉ AB X.outer->B.get? b=some o:=λb o e n hb=>
  kB b o (I.base.keep b o e n hb (nx b)) (I.base.free b o e n (nx b)) (ns b o e hb)
 have tB':∀b o,X.s₀.heap.get? b=some o->b ∉ AB X.outer->∃o',B.get? b=some o':=λb o e hb=>by
  obtain⟨o1,e1⟩:=I.base.there b o e (nx b);exact tB b o1 e1 (ns b o e hb)
 exact⟨D.un0 I u up ff st kB' tB',kB',tB'⟩
theorem IsDef.passes (D:IsDef X E):Dd (Bj X.prog X.w) X E:=by
 intro pins σ H s v s' I ⟨C,e,H',dx,hv,x,⟨oe,he,hdx⟩,q⟩;subst hv;refine D.xe _ _ ?_;obtain⟨B,t,fl,kB,tB,hB⟩:=x.fly;have ff:=fl.2.2.1;have fl2:=fl;rw [D.stk] at fl2;have hfr:X.A.frames=some (X.env::X.outer):=by rw [<-D.stk];exact I.ok.frames
 refine wpAny_mono ((LT _ _).any (wpAny_leaves_onW (Q:=λ_ s2=>∃h',s2= { s' with heap:=h'}/\Heap.FlyingW B X.outer e (.ref C) t h'/\s'.heap.UpToSlots h') hfr D.fr fl2 λh' fl' up=>⟨h',rfl,fl',up⟩)) (λ_ s2 z=>?_) λ_ _ z=>z
 obtain⟨⟨h',rfl,fl',up⟩,kd⟩:=z;obtain⟨u,k1,k2⟩:=D.un I x.un up ff fl'.1 kB tB;obtain⟨o2,e2,_⟩:=fl'.there;exact⟨C,e,H',dx,rfl,⟨x.os.trans I.os,x.bare,u,B,t,fl',k1,k2,hB⟩,⟨o2,e2,(kd.get he e2).trans hdx⟩,q⟩
theorem IsDef.madeD (D:IsDef X E) (I:Ac X pins σ H s) {oe:Obj}{vs:Array Value}{a0:Value} (n0:X.s₀.heap.get? e=none) (ne:H e=none) (he:s.heap.get? e=some oe) (hc:oe.cls= .ref C) (hd:oe.data= .fields vs) (h1:vs[1]? =some .none) (h0:vs[0]? =some a0) (q:E (.ref C) oe.dict H):X.xe (.ref e) s:=by
 refine D.xe _ _ ?_;have hfr:X.A.frames=some (X.env::X.outer):=by rw [<-D.stk];exact I.ok.frames
 have hin:∀env∈(X.env::X.outer),∀b,env.frame=some b->b∈e::AB (X.env::X.outer):=λenv he b hb=> .tail _ (mem_filterMap.mpr ⟨env,he,hb⟩)
 have stS:s.heap.FunFrames X.base (X.env::X.outer):=by rw [<-D.stk];exact I.stack
 have ff:=PySem.W.funFrames_hide stS hin;refine wpAny_mono ((LT _ _).any (wpAny_leaving_firstW (Q:=λ_ s2=>∃h',s2= { s with heap:=h'}/\Heap.LeftW (PySem.W.hideAll s.heap (e::AB (X.env::X.outer))) (X.env::X.outer) e oe.cls a0 s.heap h') hfr ff D.fr he (λb o q=>PySem.W.of_hideAll _ q) (PySem.W.hideAll_none _ (.head _)) hd h1 h0 λh' z=>⟨h',rfl,z⟩)) (λ_ s2 z=>?_) λ_ _ z=>z
 obtain⟨⟨h',rfl,k1,⟨_,_,k2⟩,k3,k4⟩,kd⟩:=z;have gB:∀b o,s.heap.get? b=some o->b≠e->b ∉ AB X.stack->(PySem.W.hideAll s.heap (e::AB (X.env::X.outer))).get? b=some o:=λb o g m n=>PySem.W.hideAll_get _ g (by
  rw [<-D.stk];intro z;rcases mem_cons.mp z with q | q
  ·exact m q
  ·exact n q)
 have nx:∀b,b ∉ X.ex:=λb z=>by rw [D.ex] at z;cases z
 have be:∀b o,X.s₀.heap.get? b=some o->b≠e:=λb o g z=>by rw [z,n0] at g;cases g
 have kB:∀b o,X.s₀.heap.get? b=some o->X.H₀ b=none->b ∉ AB X.outer->(PySem.W.hideAll s.heap (e::AB (X.env::X.outer))).get? b=some o:=λb o g m n=>gB b o (I.base.keep b o g m n (nx b)) (be b o g) (D.above I g n)
 have tB:∀b o,X.s₀.heap.get? b=some o->b ∉ AB X.outer->∃o',(PySem.W.hideAll s.heap (e::AB (X.env::X.outer))).get? b=some o':=λb o g n=>by
  obtain⟨o1,e1⟩:=I.base.there b o g (nx b);exact⟨o1,gB b o1 e1 (be b o g) (D.above I g n)⟩
 have u:=D.un0 (s':=s) (H':=H) (h':=h') (B:=PySem.W.hideAll s.heap (e::AB (X.env::X.outer))) I (Un.kept λ_ _ z=>z) k4 (by rw [D.stk];exact ff) k1 kB tB;have k3':h'.TracedW (PySem.W.hideAll s.heap (e::AB (X.env::X.outer))) e (.ref C) a0:=hc ▸ k3;have fl:Heap.FlyingW (PySem.W.hideAll s.heap (e::AB (X.env::X.outer))) X.outer e (.ref C) a0 h':=⟨k1,PySem.W.hideAll_none _ (.head _),k2,k3'⟩;obtain⟨o2,e2,_⟩:=fl.there;refine⟨C,e,H,oe.dict,rfl,⟨I.os,I.bare,u,_,_,fl,kB,tB,λa o ea=>(I.hok a o ea).stay (λb u hb eb=>?_) (λ_ z=>z) λ_ _ z=>z⟩,⟨o2,e2,kd.get he e2⟩,q⟩;have hb':H b≠none:=by
  rcases hb with rfl | hb
  ·rw [ea];exact λz=>nomatch z
  ·rw [hb];exact λz=>nomatch z
 exact gB b u eb (λz=>hb' (z ▸ ne)) λz=>hb' (I.stkFree b z)
theorem IsDef.made (D:IsDef X E) (I:Ac X pins σ H s) {h1:Heap}{vs:List Value} (hx:Heap.MadeExcOf s.heap h1 e (.ref C) vs) (q:E (.ref C) none H):X.xe (.ref e) { s with heap:=h1}:=by
 obtain⟨t,ht,_,_⟩:=hx.there;have n0:X.s₀.heap.get? e=none:=by
  cases z:X.s₀.heap.get? e with
  | none=>rfl
  | some o=>
   obtain⟨o1,e1⟩:=I.base.there e o z (by rw [D.ex];simp);rw [hx.new] at e1;cases e1
 have nh:H e=none:=by
  cases z:H e with
  | none=>rfl
  | some o=>
   obtain⟨u,hu⟩:=ObjOk.there (I.hok e o z);rw [hx.new] at hu;cases hu
 exact D.madeD (I.kept hx.keeps) n0 nh ht rfl rfl rfl rfl q
end
end L2
end
section
namespace L2
open PySem PySem.Spec PyProof.Rows PySem.W Builtin Builtin.ObjectAttr Builtin.Getset_descriptor
def ExcAt (h:Heap) (x D:Addr):Prop:=∃ox,h.get? x=some ox/\ox.cls= .ref D
theorem ExcAt.type {M:Model}{h:Heap}{x D:Addr} (I:ExcAt h x D):Looks M h (typeOf (.ref x)) (.ref D):=
 match I with | ⟨_,h1,h2⟩=>h2 ▸(Looks.ld h1).andThen .now
structure D7 (K:Frag) (D:Addr):Prop where
 ga:findIn K (.ref D) "__getattribute__"=some (some (.builtin "BaseException.__getattribute__"))
 gt:findIn K (.ref D) "__getattr__"=some none
 cl:(clsIn K D).isSome=true
 ca:findIn K (.ref D) "__class__"=some (some (.builtin "object.__class__"))
 cn:specialIn K (.builtin "object.__class__") "__get__"=some (some (.builtin "getset_descriptor.__get__"))
 tk:takesIn K (.builtin "object.__class__")=some true
 ob:mroIn K D (.type "object")=some true
 bx:mroIn K D (.type "BaseException")=some true
section
variable {prog : Program} {w : World} {A : Around} {E : Value -> Shared -> Prop} {s : Shared} {K : Frag} {x D : Addr}
theorem QX {M:Model}{T:String}{h:Heap} (X:K.In h) (I:ExcAt h x D) (e:mroIn K D (.type T)=some true):Looks M h (isInstance (.ref x) (.type T)) true:=I.type.andThen (looks_mroIn X e)
theorem QY {M:Model}{h:Heap} (O:D7 K D) (X:K.In h) (I:ExcAt h x D):Looks M h (Builtin.ObjectAttr.find (.ref x) (.ref D) "__class__") (.bind (.builtin "getset_descriptor.__get__") (.builtin "object.__class__")):=by
 have d:Looks M h (Builtin.ObjectAttr.dataDescriptor? (some (.builtin "object.__class__")) (some (.builtin "getset_descriptor.__get__"))) (some (.builtin "getset_descriptor.__get__",.builtin "object.__class__")):=(looks_takesIn X O.tk).andThen .now;have g:Looks M h (Builtin.ObjectAttr.getOf (some (.builtin "object.__class__"))) (some (.builtin "getset_descriptor.__get__")):=looks_specialIn X O.cn;exact(looks_findIn X O.ca).andThen (g.andThen (d.andThen (Looks.tag .now)))
theorem QZ {R:Result->Shared->Prop}{tp:Value} (O:D7 K D) (X:K.In s.heap) (I:ExcAt s.heap x D) (h:R (.ok (.ret (.ref D))) s):
  codeAny (model prog w) A (.call (.builtin "getset_descriptor.__get__") ⟨[.builtin "object.__class__",.ref x,tp],[]⟩) R s:=by
 cases s;have t:=I.type (M:=model prog w);have o:=looks_mroIn (M:=model prog w) X O.ob;have a:=dga_obj (.builtin "object.__class__") tp x;have sl:=KF.slot_gs;refine codeAny_call_builtin sl.plain KF.entry_gs (sl.check _ _ _ _ _ _ _ _ KF.type_class (KF.args_gs _ _ _) ?_);have ow:=KF.owner_class;unfold Builtin.«getset_descriptor.__get__» descrGet descrGetter descrCheckInstance descrNameAndClass isInstance;simp only [a,ow]
 repeat (first | with_reducible refine Looks.at (by assumption) ?_ | wp_step)
 simp only [ow]
 repeat (first | with_reducible refine Looks.at (by assumption) ?_ | wp_step)
 have q:(Code.builtin "object.__class__" ⟨[.ref x],[]⟩).quiet=true:=Code.quiet_builtin _ (by decide+kernel);refine⟨q,codeAny_builtin KF.entry_class ?_⟩;simp only [Builtin.«object.__class__»,shownTypeOf]
 repeat (first | assumption | with_reducible refine Looks.at (by assumption) ?_ | wp_step)
set_option maxHeartbeats 1000000 in
theorem Q0 {Q:Option Value->Shared->Prop} (O:D7 K D) (X:K.In s.heap) (I:ExcAt s.heap x D) (h:Q (some (.ref D)) { s with toks:=s.toks+1}):wpAny (model prog w) A (getAttr? (.ref x) "__class__") Q E s:=by
 cases s;have L0:=I.type (M:=model prog w);have L1:=looks_findIn (M:=model prog w) X O.ga;have L2:=looks_findIn (M:=model prog w) X O.gt;have L3:=QY (M:=model prog w) O X I;have L4:=QX (M:=model prog w) X I O.bx;have b:=PySem.F.attr_ValueError.ga.bind (.ref x);have n:(Value.builtin "BaseException.__getattribute__"==Value.builtin "object.__getattribute__")=false:=by decide+kernel
 simp only [getAttr?,getAttrBy?,getAttrBy]
 repeat (any_goals (first | assumption | with_reducible refine Looks.at (by assumption) ?_ | wp_step))
 refine codeAny_call_builtin PySem.F.attr_ValueError.ga.plain F.entry_bexc_ga ?_;have kd:builtinKind "BaseException.__getattribute__"=some .slot:=by decide+kernel
 have sp:splitId "BaseException.__getattribute__"=some ("BaseException","__getattribute__"):=by decide+kernel
 have ar:=F.args_bexc_ga (.ref x);simp only [checkBuiltinCall,kd,sp]
 repeat (any_goals (first | assumption | with_reducible refine Looks.at (by assumption) ?_ | exact wpAny_of_eq (ar _) (wpAny_pure ‹_›) | wp_step))
 refine QZ O X I ?_
 repeat (any_goals (first | assumption | wp_step))
theorem Q1 (O:D7 K D):KitX K (.ref x) (.ref D) (λh=>ExcAt h x D):=by
 obtain⟨cd,hc⟩:=Option.isSome_iff_exists.mp O.cl;have at_:∃c d sl,K.lookup D=some ⟨c,d,.cls cd,sl⟩:=by
  unfold clsIn at hc;split at hc
  ·rename_i ho;exact⟨_,_,_,by rw [ho];cases hc;rfl⟩
  ·cases hc
 obtain⟨c,d,sl,ho⟩:=at_;refine⟨λ_ _ _ I=>I.type,λ_ _ X _=>?_,λh tp dd its n sl' X htp=>?_,λX I k=>Q0 O X I k⟩
 ·exact(Looks.ld (X _ _ ho)).andThen .now
 ·cases e:(Value.ref D==Value.ref tp)
  ·rfl
  ·have e':D=tp:=by simpa using e
   have:=X _ _ ho;rw [e',htp] at this;cases this
end
section
variable {X : Cx} {pins : List (Addr × Obj)} {σ : St} {H : Hp} {s : Shared} {A : Around} {E : Value -> Shared -> Prop} {Q : Value -> Shared -> Prop} {c : Value} {b : Bool} {a D : Addr}
end
end L2
end
section
namespace L2
theorem Q2 {K:Fgx}{mg:Str->Option Value}{base:Heap} (M:Mod K mg base):∃(loose:List Str) (mb:Str->Option Value),PySem.W.TopRead default loose mg mb base:=by
 obtain⟨mb,hb,hbb⟩:=M.blt;obtain⟨o,es,ep,ho,hd,hk,hf⟩:=M.glob;refine⟨es.toList.filterMap (λe=>match e.key with | .str n _=>some n | _=>none),mb,⟨⟨o,es,ep,ho,hd,hk,hf⟩,hb,M.nolimit,hbb,λx _ hx _ _ _=>?_⟩⟩;rw [<-hf];unfold nsFind findBy;rw [<-Array.find?_toList];cases q:es.toList.find? (λe=>e.key.isStr x) with
 | none=>rfl
 | some e=>
  exfalso
  have hm:=List.mem_of_find?_eq_some q;have hs:=List.find?_some q;obtain⟨n,t,hn⟩:=hk e (by simpa using hm);refine hx (mem_filterMap.mpr ⟨e,hm,?_⟩);rw [hn] at hs ⊢;have:n=x:=by simpa [Value.isStr] using hs
  rw [this]
abbrev B2:List Value:=[.type "ValueError",.type "Exception",.type "BaseException",.type "object"]
section
variable {X : Cx} {E : XK} {st : Stmt} {rest : List Stmt} {t : TS}
theorem D8 (D:IsDef X E) {x:Str}{C:Addr}{a:Expr}{ta:TA}{np cpos pos:Pos} (hc:X.calm=true) (hn:PySem.W.nsIn X.K mainGlobals x=some (some (.ref C))) (q:PySem.W.excIn X.K C B2 "ValueError.__new__"=true) (hg:Gl X x) (ha:PA X [a] ta)
  (hdb:(x==("__debug__" :Str))=false:=by decide) (he:starEach [a] X.env=(false,eval a X.env)::starEach [] X.env:=by rfl):
  PS X (.Raise (some (.Call (.Name x np) [a] [] cpos)) none pos) (λ_ σ H=>ta σ H λvs H1=>vs.length<=sizeLine/\E (.ref C) none H1):=by
 intro pins s σ H D' I h;obtain⟨loose,mb,T⟩:=Q2 I.ok.mod;have O:=(PySem.W.own_of_in I.ok.mod.kin T hn q).keeps I.bk;have O0:=O;obtain⟨tl,N,nm,qn,bs,hdct,sn,sub,ab,col,dd,k0,k1,k2,k3,k5,mN,hC,hN,hni,TL⟩:=(PySem.W.own_of_in I.ok.mod.kin T hn q).obj;refine wpAny_Raise_call_subT (C:=C) (nm:=nm) (q:=qn) (N:=N) (bs:=bs) (bm:=tl) (hdct:=hdct) (sn:=sn) (sub:=sub) (ab:=ab) (col:=col) (dd:=dd) (k0:=k0) (k1:=k1) (k2:=k2) (k3:=k3) (k5:=k5) PySem.F.excBase_ValueError (mN:=mN)
  (TL.hasType PySem.F.excBase_ValueError.hasBase) (I.ok.hd hc) (by rw [he];rfl) hni (Dt I hg O.bound ⟨rfl,?_⟩ hdb)
 have hp:=ha cpos pins s σ H _ I h;rw [he] at hp ⊢;refine Calls.evalArgs_plain (wpAny_mono hp (λus s2 ⟨vs,H1,I1,rv,hl,q1⟩=>⟨rfl,by rw [<-rv.length];exact hl,I1.bk _ _ hC,hN.keeps I1.bk,TL.keeps I1.bk,λh' e hm=>?_⟩) λ_ _ y=>y);exact D.made I1 hm q1
end
section
variable {P : Program} {w : World} {K : Fgx} {mg : Str -> Option Value} {base : Heap}
structure A7 (P:Program) (w:World) (K:Fgx) (mg:Str->Option Value) (base:Heap) (n:Nat) (x:Str) (ps:List Str) (sp:Sp):Prop where
 ex:∃(f:Addr) (fd:FuncData),BE P w K mg base (Bj P w) n f fd ps sp/\mg x=some (.ref f)/\PySem.W.keepIn K (.ref f)=true/\Binds K fd ps []
theorem isDef_cx {N:List Str}{qual:Str}{scope:Scope}{f:Addr}{cd:Value}{A:Around}{outer:List Env}{s:Shared}{H:Hp}{E:XK}:IsDef (BS (Bj P w) P w K mg base N qual scope f cd A outer s H E) E:=
 ⟨rfl,rfl,rfl,λe s' h=>wpAny_mono h (λ_ _ z=>z) λ_ _ z=>z.elim⟩
theorem Df.fnE {x:Str}{st:Stmt}{N ps:List Str}{k:Nat}{sp:Sp} (F:Df K mg x st ps) (S:At N ps (Ak st)) (len:∀vs H Q E,sp vs H Q E->vs.length=ps.length)
  (hbody : ∀ (f : Addr) (cdv : Value) (A : Around) (outer : List Env) (s : Shared) (H : Hp) (vs : List V) (Q : VK) (E : XK), AJ k (A.deeper (envOfC x (Ak st) s.heap.objs.size f cdv)) -> sp vs H Q E ->
   ∃t,PSs (BS (Bj P w) P w K mg base N x (Ak st) f cdv A outer s H E) (Bf st) t/\t { nx:=λ_ H'=>Q .non H',rt:=Q} (start N vs) H):A7 P w K mg base (k+1) x ps sp:=by
 obtain⟨f,fd,hF,hm,hb⟩:=F.ex;have kp:=hF.kp;obtain⟨oc,od,kV,doc,pm,an,cdv,ct,osl,rfl,lk,hcd⟩:=hF.ex;exact⟨f,_,Gw lk hcd S len λA outer s H vs Q E hr h=>hbody f cdv A outer s H vs Q E hr h,hm,kp,hb⟩
def Q3 (sp:Sp) (E:XK) (t:TA):TE:=fun σ H Q=>t σ H λvs H1=>sp vs H1 Q E
theorem Fb {X:Cx}{E:XK} (D:IsDef X E) {n:Nat}{x:Str}{ps:List Str}{sp:Sp}{e:Expr}{es:List Expr}{t:TA}{p pos:Pos} (F:A7 X.prog X.w X.K X.mg X.base n x ps sp) (hr:AJ n X.A) (hg:Gl X x) (ha:PA X (e::es) t)
  (hdb:(x==("__debug__" :Str))=false:=by decide) (he:starEach (e::es) X.env=(false,eval e X.env)::starEach es X.env:=by rfl) (hpl:(backTo pos (starEach es X.env)).any (·.1)=false:=by rfl):
  PE X (.Call (.Name x p) (e::es) [] pos) (Q3 sp E t):=by
 obtain⟨f,fd,F,hm,hk,hb⟩:=F.ex;refine(KC (dvs:=[]) (E:=E) F hr hg hm hk hb .nil D.passes ha hdb he hpl).weak fun σ H Q q=>?_
 have e:∀vs:List V,vs++[]=vs:=λvs=>append_nil vs
 show t σ H λvs H1=>sp (vs++[]) H1 Q E
 simp only [e];exact q
end
abbrev Fc (qual:Str) (scope:Scope) (L f:Addr) (cd:Value) (cl:List (Str×Addr)):Env:=PySem.W.envX qual scope L f cd cl
def FW (P:Program) (w:World) (K:Fgx) (mg:Str->Option Value) (base:Heap) (N:List Str) (qual:Str) (scope:Scope) (f:Addr) (cd:Value) (cl:List (Str×Addr)) (A:Around) (outer:List Env) (s:Shared) (H:Hp) (E:XK):Cx where
 prog:=P
 w:=w
 K:=K
 mg:=mg
 base:=base
 A:=A.deeper (Fc qual scope s.heap.objs.size f cd cl)
 N:=N
 s₀:=s
 H₀:=H
 env:=Fc qual scope s.heap.objs.size f cd cl
 outer:=outer
 stack:=Fc qual scope s.heap.objs.size f cd cl::outer
 ex:=[]
 calm:=true
 fn:=λ_=>false
 pn:=[]
 xe:=λe s'=>wpAny (model P w) (A.deeper (Fc qual scope s.heap.objs.size f cd cl)) (leaving (Fc qual scope s.heap.objs.size f cd cl) e) (λ_ s''=>Bj P w outer H s E e s'') (λe' s''=>Bj P w outer H s E e' s'') s'
theorem isDef_lam {P:Program}{w:World}{K:Fgx}{mg:Str->Option Value}{base:Heap}{N:List Str}{qual:Str}{scope:Scope}{f:Addr}{cd:Value}{cl:List (Str×Addr)}{A:Around}{outer:List Env}{s:Shared}{H:Hp}{E:XK}:
  IsDef (FW P w K mg base N qual scope f cd cl A outer s H E) E:=
 ⟨rfl,rfl,rfl,λe s' h=>wpAny_mono h (λ_ _ z=>z) λ_ _ z=>z.elim⟩
section
variable {X : Cx} {pins : List (Addr × Obj)} {σ : St} {H : Hp} {s s' : Shared} {scope : Scope} {N' : List Str} {cap : List (Option Nat)} {A : Around} {outer : List Env} {qual : Str} {f : Addr} {cd : Value} {E : XK}
theorem Q4 (I:Ac X pins σ H s) (B:AH X.env.scope X.N scope N' cap) (nc:∀x∈scope.names,x.2≠ .cell) (hd:A.handled=none) (e0:Cm X.prog X.w X.K X.mg X.base A outer s' H)
  (hcell:∀x c v,X.env.cells.lookup x=some c->s.heap.IsCell c v->s'.heap.IsCell c v) {h1:Heap}{tk:Nat} (hn:h1.Ns s'.heap.objs.size λ_=>none) (hk:∀b o,s'.heap.get? b=some o->h1.get? b=some o):
  Ac (FW X.prog X.w X.K X.mg X.base N' qual scope f cd (A2 X.env.cells scope.names []) A outer s' H E) [] (AM cap σ) H { s' with heap:=h1,toks:=tk}:=by
 have acc:∀x c,(A2 X.env.cells scope.names []).lookup x=some c->X.env.cells.lookup x=some c:=λx c e=>(Ep _ _ e).elim id λz=>nomatch z
 have noA:∀b:Addr,b ∉(FW X.prog X.w X.K X.mg X.base N' qual scope f cd (A2 X.env.cells scope.names []) A outer s' H E).ex:=λb z=>absurd (show b∈([]:List Addr) from z) (by simp)
 refine⟨⟨e0.mod,B.kind,rfl,rfl,Nat.le_refl _,λx y c a b=>I.ok.inj x y c (acc x c a) (acc y c b),λx hx=>?_,λx c z _=>(nomatch (show false=true from z)),λ_=>hd,Around.frames_deeper e0.frames,.inr ⟨rfl,rfl⟩,λb z=>absurd z (noA b),e0.bs,e0.bsz,λb _ _=>noA b,λb z=>absurd z (noA b),e0.funs,e0.frf⟩,
  rfl,e0.bare,Un.kept hk,⟨_,hn,λi x v h1' h2 h3=>?_⟩,λx c h=>?_,e0.hok.fresh (Nat.le_refl _),λx c h=>I.freeC x c (acc x c h),λp hp=>absurd (show p∈([]:PNs) from hp) (by simp),e0.hok.kept hk,?_⟩
 ·have hx':scope.names.lookup x=some .cell\/scope.names.lookup x=some .free:=hx;rcases hx' with z | z
  ·exact absurd rfl (nc _ (PySem.mem_of_lookup z))
  ·have hm:=PySem.mem_of_lookup z;obtain⟨c,hc⟩:=I.ok.has x (B.free _ hm rfl);exact⟨c,Er hc _ _ hm⟩
 ·have h2':(AM cap σ)[i]? =some (some v):=h2;unfold AM at h2';rw [getElem?_map] at h2';cases q:cap[i]? with
  | none=>rw [q] at h2';cases h2'
  | some o=>
   rw [q] at h2';cases o with
   | none=>exact nomatch Option.some.inj h2'
   | some j=>
    have h2'':(match σ[j]? with | some v=>v | none=>none)=some v:=Option.some.inj h2';cases qs:σ[j]? with
    | none=>rw [qs] at h2'';cases h2''
    | some v'=>
     rw [qs] at h2'';have hs:σ[j]? =some (some v):=by rw [qs];exact congrArg some h2''
     obtain⟨x',e1,e2,e3,e4⟩:=B.capt i j q;have h1'':N'[i]? =some x:=h1';rw [h1''] at e1;cases e1;have hcf:=B.free _ e3 rfl;obtain⟨m,hn,hl⟩:=I.loc;obtain⟨u,ru,lk⟩:=hl j x v e2 hs (hcf.elim (λz=> .inr (.inl z)) λz=> .inr (.inr z));refine⟨u,ru,?_⟩;rcases lk with⟨lk,_⟩ | ⟨_,c,hc,ic⟩
     ·have lk':X.env.scope.names.lookup x=some .local :=lk;have hcf':X.env.scope.names.lookup x=some .cell\/X.env.scope.names.lookup x=some .free:=hcf;rw [lk'] at hcf';rcases hcf' with z | z<;>cases z
     ·exact .inr ⟨.inr (B.own _ e3),c,Er hc _ _ e3,(hcell x c _ hc ic).keeps hk⟩
 ·obtain⟨v,z⟩:=I.cell x c (acc x c h);exact⟨v,(hcell x c v (acc x c h) z).keeps hk⟩
 ·unfold AM;show _=N'.length;rw [length_map];exact B.len
theorem Q5 (I:Ac X pins σ H s) (B:AH X.env.scope X.N scope N' cap) (nc:∀x∈scope.names,x.2≠ .cell) (co:scope.isCoroutine=false) (gen:scope.isGenerator=false) {k:Nat} (hr:AJ k A) (e0:Cm X.prog X.w X.K X.mg X.base A outer s' H)
  (hcell:∀x c v,X.env.cells.lookup x=some c->s.heap.IsCell c v->s'.heap.IsCell c v) {params:Arguments}{body:Expr}{pm ctv:Value}{c':Addr}{te:TE}{Q:VK}
  (ho:s'.heap.get? f=some (PySem.W.kla_obj "<lambda>" qual params body scope (A2 X.env.cells scope.names []) pm c' ctv)) (hcd:s'.heap.CodeRec (.ref c') qual)
  (hb:bindArgs (PySem.W.kla_fn "<lambda>" qual params body scope (A2 X.env.cells scope.names []) pm (.ref c') ctv) ⟨[],[]⟩=pure [])
  (hbody:PE (FW X.prog X.w X.K X.mg X.base N' qual scope f (.ref c') (A2 X.env.cells scope.names []) A outer s' H E) body te) (q:te (AM cap σ) H Q):
  codeAny (model X.prog X.w) A (.call (.ref f) ⟨[],[]⟩) (CR (Bj X.prog X.w) outer X.prog X.w H s' Q E) s':=by
 refine PySem.W.kla_callFunE hr.depth ho rfl co gen rfl hcd ?_;rw [hb];refine wpAny_pure (wpAny_newFunctionEnv nc (λx hx=>nomatch hx) (λh1 hns hsb=>?_) B.kind);have hk:∀b o,s'.heap.get? b=some o->h1.get? b=some o:=λb o e=>hsb.extBut b o (Nat.ne_of_lt (Heap.lt_size e)) (Heap.get?_push_of_some _ e)
 have hl:s'.heap.NoLimit:=e0.mod.nolimit.keeps λb o e=>(e0.bs b o e).1
 refine⟨hl.keeps hk,?_⟩;show codeAny _ _ (.expr body (Fc qual scope s'.heap.objs.size f (.ref c') (A2 X.env.cells scope.names []))) _ _;refine PySem.W.kla_codeExpr ?_;have J:=Q4 (tk:=s'.toks+([]:List (Str×Value)).length) (qual:=qual) (f:=f) (cd:= .ref c') (E:=E) I B nc hr.hd e0 hcell hns hk;refine wpAny_mono (hbody [] _ (AM cap σ) H Q J q) (λv s'' z=>?_) λe s'' z=>z
 obtain⟨v',H',J',rv,qv⟩:=z;exact⟨v',H',J'.os,J'.bare,J'.base,J'.hok,rv,qv⟩
end
end L2
end
section
namespace L2
variable {M : Model} {E : Value -> Shared -> Prop} {k : Nat}
abbrev Cx.hot (X:Cx) (A:Around):Cx:= { X with A:=A,calm:=false,xe:=λ_ _=>False}
section
variable {X : Cx} {pins : List (Addr × Obj)} {σ : St} {H H' : Hp} {s s' : Shared}
theorem Ac.hot (I:Ac X pins σ H s) {A:Around} (hf:A.frames=some X.stack):Ac (X.hot A) pins σ H s:=
 ⟨⟨I.ok.mod,I.ok.kind,I.ok.glob,I.ok.blt,I.ok.above,I.ok.inj,I.ok.has,I.ok.cab,λz=>(nomatch (show false=true from z)),hf,I.ok.stk,I.ok.exf,I.ok.bs,I.ok.bsz,I.ok.noex,I.ok.exfs,I.ok.funs,I.ok.frf⟩,I.os,I.bare,I.base,I.loc,I.cell,I.free,I.freeC,I.pin,I.hok,I.len⟩
theorem Ac.cool {A:Around} (ok:X.Ok) (I:Ac (X.hot A) pins σ H s):Ac X pins σ H s:=⟨ok,I.os,I.bare,I.base,I.loc,I.cell,I.free,I.freeC,I.pin,I.hok,I.len⟩
theorem LV {outer:List Env}{B h':Heap} (u:Un (AB outer) [] H H' s.heap s'.heap) (kB:∀b o,s.heap.get? b=some o->H b=none->b ∉ AB outer->B.get? b=some o)
  (tB:∀b o,s.heap.get? b=some o->b ∉ AB outer->∃o',B.get? b=some o') (ff:s'.heap.FunFrames B outer) (st:B.StaysIn h') (up:s'.heap.UpToSlots h'):Un (AB outer) [] H H' s.heap h':=by
 have frn:∀b,b∈AB outer->∀o,s'.heap.get? b=some o->∀vs,o.data≠ .fields vs:=λb hb o eo=>by
  obtain⟨_,o',ho',hd⟩:=ff.mem hb;rw [eo] at ho';cases ho';exact hd
 refine⟨λb o e n hb _=>st b o (kB b o e n hb),λb o e n hb hx=>?_,u.free,λb o e hx=>?_,u.tups,u.frzs,u.tbls⟩
 ·obtain⟨s1,e1⟩:=u.slot b o e n hb hx;obtain⟨s2,e2⟩:=up b _ e1 (frn b hb _ e1);exact⟨s2,e2⟩
 ·by_cases hb:b∈AB outer
  ·obtain⟨o1,e1⟩:=u.there b o e hx;obtain⟨s2,e2⟩:=up b _ e1 (frn b hb _ e1);exact⟨_,e2⟩
  ·obtain⟨o1,e1⟩:=tB b o e hb;exact⟨o1,st b o1 e1⟩
theorem Ac.track (I:Ac X pins σ H s) {a:Addr}{o:HO} (na:a≠X.env.locals) (nc:∀x c,X.env.cells.lookup x=some c->c≠a) (np:∀p∈X.pn++pins,p.1≠a) (n0:X.s₀.heap.get? a=none) (hn:H a=none)
  (ho:ObjOk X.prog X.w (upd H a o) s.heap a o):Ac X pins σ (upd H a o) s:=by
 have ne:∀b u,H b=some u->b≠a:=λb u e z=>by rw [z,hn] at e;cases e
 refine⟨I.ok,I.os,I.bare,⟨I.base.keep,I.base.slot,λb ob e n hx=>?_,I.base.there,λb xs q=>?_,λb ob xs q=>?_,λb ps q=>?_⟩,I.loc,I.cell,?_,λx c e=>?_,λp hp=>?_,λb ob e=>?_,I.len⟩
 ·rw [Aq (λz=>by rw [z,n0] at e;cases e)];exact I.base.free b ob e n hx
 ·have:=I.base.tups b xs q;rw [Aq (ne b _ this)];exact this
 ·have:=I.base.frzs b ob xs q;rw [Aq (ne b _ this)];exact this
 ·obtain⟨m,e⟩:=I.base.tbls b ps q;exact⟨m,by rw [Aq (ne b _ e)];exact e⟩
 ·rw [Aq (Ne.symm na)];exact I.free
 ·rw [Aq (nc x c e)];exact I.freeC x c e
 ·obtain⟨e,n,r⟩:=I.pin p hp;exact⟨e,by rw [Aq (np p hp)];exact n,r⟩
 ·by_cases z:b=a
  ·subst z;rw [Ae] at e;cases e;exact ho
  ·rw [Aq z] at e;refine(I.hok b ob e).stay (λ_ _ _ q=>q) (λc q=>?_) λc xs q=>?_
   ·rw [Aq (ne c _ q)];exact q
   ·rw [Aq (ne c _ q)];exact q
theorem Q6 {A:Around}{i:Nat}{x:Str}{pos:Pos}{Q:Unit->Shared->Prop} (I:Ac X pins σ H s) (hN:X.N.Nodup) (hi:X.N[i]? =some x) (hx:X.env.kindOf x=some .local)
  (h:∀s',Ac X pins (σ.set i none) H s'->Q () s'):wpAny M A (do bindName X.env x .none;unbindBehindTheSuite X.env x pos) Q E s:=by
 obtain⟨m,hn,hl⟩:=id I.loc;have hcls:(X.env.scope.kind== .class || (X.env.scope.kind== .module && X.env.locals !=X.env.globals))=false:=by rw [I.ok.kind];rfl
 have cne:=I.cne;refine wpAny_nameGoes_keeps hx hn hcls λh' v hn' hs=>?_
 obtain⟨oL,_,_,hoL,_⟩:=id hn;have nl:∀b o,X.s₀.heap.get? b=some o->b≠X.env.locals:=λb o e=>Nat.ne_of_lt (Nat.lt_of_lt_of_le (Heap.lt_size e) I.ok.above)
 refine h _ ⟨I.ok,I.os,I.bare,⟨λb o e n hb hx=>(hs.2 b (nl b o e)).trans (I.base.keep b o e n hb hx),λb o e n hb hx=>?_,I.base.free,λb o e hx=>?_,I.base.tups,I.base.frzs,I.base.tbls⟩,⟨_,hn',λj y v' e1 e2 e3=>?_⟩,λy c e=>?_,I.free,I.freeC,λp hp=>?_,λb ob e=>?_,by simpa using I.len⟩
 ·obtain⟨sl,e1⟩:=I.base.slot b o e n hb hx;exact⟨sl,(hs.2 b (nl b o e)).trans e1⟩
 ·obtain⟨o',e1⟩:=I.base.there b o e hx;exact⟨o',(hs.2 b (nl b o e)).trans e1⟩
 ·have hj:j≠i:=λz=>by
   subst z;have hiσ:j<σ.length:=by rw [I.len];exact(List.getElem?_eq_some_iff.mp hi).1
   rw [getElem?_set_self hiσ] at e2;cases e2
  rw [List.getElem?_set_ne (Ne.symm hj)] at e2;obtain⟨u',r',q⟩:=hl j y v' e1 e2 e3;refine⟨u',r',?_⟩;rcases q with⟨k,e⟩ | ⟨k,c,e,z⟩
  ·refine .inl ⟨k,?_⟩;have:y≠x:=λe=>hj (Iy hN e1 (e ▸ hi))
   simp [this,e]
  ·exact .inr ⟨k,c,e,z.sameBut hs (cne y c e)⟩
 ·obtain⟨w',z⟩:=I.cell y c e;exact⟨w',z.sameBut hs (cne y c e)⟩
 ·obtain⟨e,n,ne,nf,d⟩:=I.pin p hp;exact⟨(hs.2 p.1 ne).trans e,n,ne,nf,d⟩
 ·refine(I.hok b ob e).stay (λc w' hc q=>(hs.2 c ?_).trans q) (λ_ q=>q) λ_ _ q=>q
  rintro rfl;rcases hc with hc | hc
  ·rw [<-hc,I.free] at e;cases e
  ·rw [I.free] at hc;cases hc
end
theorem Q7 {A:Around}{s:Shared}{K:Fgx}{e C D:Addr}{Q:Bool->Shared->Prop} (X:K.In s.heap) (I:ExcAt s.heap e C) (hM:PySem.W.mroIn K C (.ref D)=some true)
  (hB:PySem.W.mroIn K D (.type "BaseException")=some true) (hT:PySem.W.typeIn K (.ref D)=some (.type "type")) (hq:Q true s):wpAny M A (excMatches (.ref e) (.ref D)) Q E s:=by
 have L0:=I.type (M:=M);have L1:=PySem.W.looks_mroIn (M:=M) X hM;have L2:=PySem.W.looks_mroIn (M:=M) X hB;have L3:=PySem.W.looks_typeIn (M:=M) X hT;have LI:PySem.W.Looks M s.heap (isType (.ref D)) true:=by
  unfold PySem.W.mroIn at hB;obtain⟨cd,hc,_⟩:=Option.bind_eq_some_iff.mp hB;unfold PySem.W.clsIn at hc;split at hc
  ·rename_i c' d' cd' sl' ho;intro A' Q' E' s' k q;unfold isType loadHead;exact wpAny_bind (wpAny_loadPart (k _ _ (X _ _ ho)) (wpAny_pure q))
  ·cases hc
 have LX:PySem.W.Looks M s.heap (isExcClass (.ref D)) true:=LI.andThen L2;obtain⟨hh,g,d,tk,os⟩:=s;unfold excMatches isInstance;refine wpAny_bind (wpAny_bind (L3.at ?_));rw [tc_notTuple];refine wpAny_pure ?_;simp only [Bool.false_eq_true,if_false];refine wpAny_bind (wpAny_pure ?_);simp only [forIn_cons,forIn_nil];refine wpAny_bind (wpAny_bind (wpAny_bind (LX.at ?_)));simp only [Bool.not_true,Bool.false_eq_true,if_false];refine wpAny_pure (wpAny_pure ?_);refine wpAny_bind (L0.at ?_);refine wpAny_bind (wpAny_bind (wpAny_bind (L1.at ?_)));simp only [if_true];exact wpAny_pure (wpAny_pure (wpAny_pure hq))
structure RoomQ (k:Nat) (A:Around):Prop where
 dp:A.depth+3 * k+5<recursionLimit
 un:A.units+16 * k+200<cLine
 gd:A.guards=some []
theorem AJ.q {A:Around} (r:AJ k A):RoomQ k A:=⟨r.dp,r.un,r.gd⟩
theorem RoomQ.mark {A:Around} (r:RoomQ k A) (h:Option Value):RoomQ k (A.mark h):=⟨r.dp,r.un,r.gd⟩
theorem RoomQ.room {A:Around} (r:RoomQ k A):AJ k { A with handled:=none}:=⟨rfl,r.dp,r.un,r.gd⟩
theorem RoomQ.mono {j:Nat}{A:Around} (r:RoomQ k A) (h:j<=k):RoomQ j A:=⟨by have:=r.dp;omega,by have:=r.un;omega,r.gd⟩
theorem LW {P:Program}{w:World}{K:Fgx}{mg:Str->Option Value}{base:Heap}{f:Addr}{name qual:Str}{params:Arguments}{body:List Stmt}{scope:Scope}{dV kV doc pm cdv ct oc:Value}{an od:Option Addr}
  {osl:Array (Option Value)}{N ps:List Str} (lk:K.lookup f=some ⟨oc,od,.func (PySem.W.fnOf name qual params body scope dV kV doc pm an cdv ct),osl⟩) (hcd:PySem.W.codeIn K cdv qual=true) (S:At N ps scope)
  {A:Around}{outer:List Env}{s:Shared}{H:Hp}{args:Args}{us:List Value}{vs:List V}{R:Result->Shared->Prop} (hr:RoomQ (k+1) A) (e0:Cm P w K mg base A outer s H)
  (hb:BindsTo s (PySem.W.fnOf name qual params body scope dV kV doc pm an cdv ct) args (ps.zip us)) (r:As vs us) (hl:vs.length=ps.length)
  (hbody : ∀ s1, Ac (BS CX0 P w K mg base N qual scope f cdv { A with handled := none } outer s H E0) [] (start N vs) H s1 -> wpAny (model P w) (A.deeper (envOfC qual scope s.heap.objs.size f cdv)) (execs body (envOfC qual scope s.heap.objs.size f cdv))
   (λfl s'=>match fl with | .ret u=>R (.ok (.ret u)) s' | .next=>R (.ok (.ret .none)) s' | _=>False) (λ_ _=>False) s1):
  codeAny (model P w) A (.call (.ref f) args) R s:=by
 have KX:K.In s.heap:=e0.mod.kin.keeps λb o e=>(e0.bs b o e).1
 have lim:s.heap.NoLimit:=e0.mod.nolimit.keeps λb o e=>(e0.bs b o e).1
 have hkind:∀y∈ps.zip us,scope.names.lookup y.1=some .local \/(scope.names.lookup y.1=some .cell/\((cellsFrom (s.heap.objs.size+1) scope.names []).lookup y.1).isSome=true):=fun⟨n,v⟩ hy=>by
  rcases S.par n (of_mem_zip hy).1 with q | q
  ·exact .inl q
  ·exact .inr ⟨q,PySem.W.cellsFrom_some _ _ _ (.inl q)⟩
 refine codeAny_call_function hr.room.depth (KX _ _ lk) rfl S.co S.gen rfl (PySem.W.codeRec_of KX hcd) (hb _ _ _ _ ?_);refine wpAny_newFunctionEnv_cells S.kind hkind λenv he s1 x=>?_
 subst he;refine⟨lim.keeps x.toInCall.keep,codeAny_func ?_⟩;have e1:Cm P w K mg base { A with handled:=none} outer s H:=⟨e0.frames,e0.mod,e0.bs,e0.bsz,e0.funs,e0.frf,e0.hok,e0.bare⟩;have I:Ac (BS CX0 P w K mg base N qual scope f cdv { A with handled:=none} outer s H E0) [] (start N vs) H s1:=KL S rfl e1 hl r x;refine wpAny_mono (hbody s1 I) (λfl s' hs=>?_) λe s' hs=>hs.elim
 cases fl with
 | ret u=>exact hs
 | next=>exact hs
 | brk=>exact hs.elim
 | cont=>exact hs.elim
end L2
end
section
namespace L2
def Js (Q:VK):VK:=λv H1=>∀t,H1 t=none->Q (.ref t) (upd H1 t (.tup [.str "told",v]))
section
variable {P : Program} {w : World} {K : Fgx} {mg : Str -> Option Value} {base : Heap}
structure Fd (P:Program) (w:World) (K:Fgx) (mg:Str->Option Value) (base:Heap) (n:Nat) (x:Str) (ps:List Str) (sp:Sp):Prop where
 ex:∃(f:Addr) (fd:FuncData),(∀(A:Around) (outer:List Env) (s:Shared) (H:Hp) (args:Args) (us:List Value) (vs:List V) (Q:VK),RoomQ n A->Cm P w K mg base A outer s H->BindsTo s fd args (ps.zip us)->As vs us->sp vs H Q E0->
  codeAny (model P w) A (.call (.ref f) args) (CR CX0 outer P w H s Q E0) s)/\(∀vs H Q E,sp vs H Q E->vs.length=ps.length)/\mg x=some (.ref f)/\PySem.W.keepIn K (.ref f)=true/\Binds K fd ps []
structure Hg (P:Program) (w:World) (K:Fgx) (mg:Str->Option Value) (base:Heap) (n:Nat) (x:Str) (ps:List Str) (sp:List Env->Shared->Sp):Prop where
 ex:∃(f:Addr) (fd:FuncData),(∀(A:Around) (outer:List Env) (s:Shared) (H:Hp) (args:Args) (us:List Value) (vs:List V) (Q:VK),AJ n A->Cm P w K mg base A outer s H->BindsTo s fd args (ps.zip us)->As vs us->sp outer s vs H Q E0->
  codeAny (model P w) A (.call (.ref f) args) (CR CX0 outer P w H s Q E0) s)/\mg x=some (.ref f)/\PySem.W.keepIn K (.ref f)=true/\Binds K fd ps []
theorem Df.fnQ {x:Str}{st:Stmt}{N ps:List Str}{k:Nat}{sp:Sp} (F:Df K mg x st ps) (S:At N ps (Ak st)) (len:∀vs H Q E,sp vs H Q E->vs.length=ps.length)
  (hbody : ∀ (f : Addr) (cdv : Value) (A : Around) (outer : List Env) (s : Shared) (H : Hp) (vs : List V) (Q : VK), RoomQ k (A.deeper (envOfC x (Ak st) s.heap.objs.size f cdv)) -> sp vs H Q E0 ->
   ∃t,PSs ((BS CX0 P w K mg base N x (Ak st) f cdv { A with handled:=none} outer s H E0).hot (A.deeper (envOfC x (Ak st) s.heap.objs.size f cdv))) (Bf st) t/\t { nx:=λ_ H'=>Q .non H',rt:=Q} (start N vs) H):
  Fd P w K mg base (k+1) x ps sp:=by
 obtain⟨f,fd,hF,hm,hb⟩:=F.ex;have kp:=hF.kp;obtain⟨oc,od,kV,doc,pm,an,cdv,ct,osl,rfl,lk,hcd⟩:=hF.ex;refine⟨f,_,λA outer s H args us vs Q hr e0 hbt r hsp=>?_,len,hm,kp,hb⟩;refine LW lk hcd S hr e0 hbt r (len _ _ _ _ hsp) λs1 I=>?_
 have hr':RoomQ k (A.deeper (envOfC x (Ak st) s.heap.objs.size f cdv)):=have z:=hr.room.deeper (envOfC x (Ak st) s.heap.objs.size f cdv);⟨z.dp,z.un,z.gd⟩;obtain⟨t,ht,hq⟩:=hbody f cdv A outer s H vs Q hr' hsp;refine wpAny_mono (ht [] s1 (start N vs) H _ (I.hot (Around.frames_deeper e0.frames)) hq) (λfl s' hs=>?_) λe s' hs=>hs
 cases fl with
 | ret u=>
  obtain⟨v,σ',H',J,rv,q⟩:=hs;exact⟨v,H',J.os,J.bare,J.base,J.hok,rv,q⟩
 | next=>
  obtain⟨σ',H',J,q⟩:=hs;exact⟨.non,H',J.os,J.bare,J.base,J.hok,rfl,q⟩
 | brk=>obtain⟨_,_,_,q⟩:=hs;exact q
 | cont=>obtain⟨_,_,_,q⟩:=hs;exact q
theorem Q8 {X:Cx}{n:Nat}{x:Str}{ps:List Str}{sp:Sp}{e:Expr}{es:List Expr}{t:TA}{p pos:Pos} (F:Fd X.prog X.w X.K X.mg X.base n x ps sp) (hr:RoomQ n X.A) (hg:Gl X x) (ha:PA X (e::es) t)
  (hdb:(x==("__debug__" :Str))=false:=by decide) (he:starEach (e::es) X.env=(false,eval e X.env)::starEach es X.env:=by rfl) (hpl:(backTo pos (starEach es X.env)).any (·.1)=false:=by rfl):
  PE X (.Call (.Name x p) (e::es) [] pos) (Li sp t):=by
 obtain⟨f,fd,F,hlen,hm,hk,hb⟩:=F.ex;intro pins s σ H Q I h;refine wpAny_Call_Name_kw (Dt I hg hm ?_ hdb);refine PySem.W.callWith_K (h₀:=X.base) I.ok.mod.kin hk (Ap (ha pos pins s σ H _ I h) λus s1 ⟨vs,H1,I1,r,q⟩=>⟨I1.kIn,?_⟩) he hpl;have hl:us.length=ps.length:=by rw [<-r.length];exact hlen _ _ _ _ q
 have hbb:=hb s1 us I1.kIn (by rw [append_nil];exact hl);rw [append_nil] at hbb;refine wpAny_call (codeAny_mono (F X.A X.stack s1 H1 ⟨us,[]⟩ us vs Q hr I1.env0 hbb r q) λr s' hq=>?_);cases r with
 | error e=>exact hq.elim
 | ok fl=>
  cases fl with
  | ret u=>exact I1.after hq
  | next=>exact False.elim hq
  | brk=>exact False.elim hq
  | cont=>exact False.elim hq
end
section
variable {X : Cx} {H : Hp} {f : Addr} {Q : VK} {W : Addr -> Str -> Prop}
end
abbrev LY (wn:Str) (i1 i2:Nat) (p1 p2 p3 p4 p5 p6 p7 p8 p9 p10 p11 p12:Pos):Stmt:=
 .Try [.Return (some (.Tuple [.Constant (.str "told") i1 p1,.Call (.Name "_law_call" p2) [] [] p3] i2 p4)) p5]
  [.ExceptHandler (some (.Name "MainError" p6)) (some "_law_e") [.Return (some (.Call (.Name wn p7) [.Name "_law_e" p8] [] p9)) p10] p11] [] [] p12
section
variable {X : Cx} {H : Hp} {f M : Addr} {Q : VK} {W : Addr -> Str -> Prop} {s1 : Shared}
end
def Hh (c:Addr) (q:Str):HO:= .ext λh=>h.CodeRec (.ref c) q
def TabIn (H:Hp) (P:Addr) (q:Str):Prop:=∃ps:Array Value,H P=some (.tbl ps)/\TriplesOk ps.toList/\∀pos v,codeAmong pos ps.toList=some v->∃c,v= .ref c/\H c=some (Hh c q)
theorem Q9 {l:List Value}{a b:Nat}{c:Value} (h:TriplesOk l):TriplesOk (l++[rawInt a,rawInt b,c]):=by
 fun_induction TriplesOk l with
 | case1=>exact trivial
 | case2 x t y t' z rest ih=>exact ih h
 | case3=>exact h.elim
theorem Ra {l:List Value}{a b:Nat}{c:Value}{pos:Pos}{v:Value} (h:TriplesOk l) (e:codeAmong pos (l++[rawInt a,rawInt b,c])=some v):codeAmong pos l=some v\/v=c:=by
 fun_induction TriplesOk l with
 | case1=>
  have e':codeAmong pos [rawInt a,rawInt b,c]=some v:=e;unfold codeAmong rawInt at e';dsimp only at e';split at e'
  ·exact .inr (Option.some.inj e').symm
  ·unfold codeAmong at e';cases e'
 | case2 x t y t' z rest ih=>
  rw [cons_append,cons_append,cons_append] at e;unfold codeAmong at e ⊢;split at e
  ·rename_i q;rw [if_pos q];exact .inl e
  ·rename_i q;rw [if_neg q];exact ih h e
 | case3=>exact h.elim
section
variable {X : Cx} {pins : List (Addr × Obj)} {σ : St} {H : Hp} {s : Shared} {scope : Scope} {N' : List Str} {cap : List (Option Nat)} {P c : Addr} {ql : Str} {params : Arguments} {body : Expr} {pos : Pos}
theorem Rb (I:Ac X pins σ H s) (hT:TabIn H P ql) (hcode:X.env.code= .ref c) (hC:PySem.W.CodeHd X.base c P) (hBu:X.base.BuiltinsAt X.mg P) (B:AH X.env.scope X.N scope N' cap)
  (hq:X.env.qual++ "<lambda>"=ql) (hdef:defaultsOf params X.env=([],[])) {Q:VSP}{E:VSP}
  (h : ∀ s1 H1 f c' pm ctv, Ac X pins σ H1 s1 -> TabIn H1 P ql -> (∀ b o, H b = some o -> b ≠ P -> H1 b = some o) -> H1 f = none -> f ∉ AB X.stack ->
   s1.heap.get? f=some (PySem.W.kla_obj "<lambda>" ql params body scope (A2 X.env.cells scope.names []) pm c' ctv)->H1 c'=some (Hh c' ql)->Q (.ref f) s1):
  wpAny (model X.prog X.w) X.A (eval (.Lambda params body scope pos) X.env) Q E s:=by
 obtain⟨ps,hP,ht,hcs⟩:=hT;have hPo:s.heap.get? P=some (PySem.W.tabObj ps):=I.hok P _ hP;have hcl:closureFor scope X.env=pure (A2 X.env.cells scope.names []):=K1 λy hy hf=>I.ok.has y.1 (B.free y hy hf)
 have hg:s.heap.Ns mainGlobals X.mg:=I.mod.glob.keeps I.bk;have hC':=hC.keeps I.bk;have hgP:mainGlobals≠P:=λq=>by
  obtain⟨o,es,ep,e,hd,_⟩:=hg;rw [q,hPo] at e;cases e;cases hd
 obtain⟨bm,ob,b1,b2,b3,b4,b5,b6⟩:=hBu;have hBu':s.heap.BuiltinsAt X.mg P:=⟨bm,ob,b1,b2,b3,b4,I.bk _ _ b5,b6⟩;have frLt:∀b∈AB X.stack,b<s.heap.objs.size:=λb hb=>by
  obtain⟨_,o,ho,_⟩:=I.stack.mem hb;exact Heap.lt_size ho
 refine PySem.W.kla_eval hdef ?_;rw [hq];cases hf:codeAmong pos ps.toList with
 | some cv=>
  obtain⟨c',rfl,hc'⟩:=hcs pos cv hf;refine PySem.W.kla_makeFunctionHit hcl I.ok.glob hg hcode hC' hPo ht hf hBu' λctv h' tk hk hsz=>?_
  have hk2:∀b o,s.heap.get? b=some o->(h'.push (PySem.W.kla_obj "<lambda>" ql params body scope (A2 X.env.cells scope.names []) ((X.mg "__name__").getD .none) c' ctv)).get? b=some o:=λb o e=>Heap.get?_push_of_some _ (hk b o e)
  refine h _ H h'.objs.size c' _ ctv (I.kept (t':=tk) hk2) ⟨ps,hP,ht,hcs⟩ (λb o e _=>e) (I.hok.fresh hsz) (λz=>?_) (Heap.get?_push_size _ rfl) hc';exact absurd (Nat.lt_of_lt_of_le (frLt _ z) hsz) (Nat.lt_irrefl _)
 | none=>
  refine PySem.W.kla_makeFunction hcl I.ok.glob hg hcode hC' hPo ht hf hgP hBu' λc' ctv h' tk hx hge hlt hrec htb=>?_
  have szle:s.heap.objs.size<=h'.objs.size:=Nat.le_of_lt (Nat.lt_of_le_of_lt hge hlt);have hx2:∀b o,b≠P->s.heap.get? b=some o->(h'.push (PySem.W.kla_obj "<lambda>" ql params body scope (A2 X.env.cells scope.names []) ((X.mg "__name__").getD .none) c' ctv)).get? b=some o:=λb o n e=>Heap.get?_push_of_some _ (hx b o n e)
  have hPlt:P<s.heap.objs.size:=Heap.lt_size hPo;have cP:c'≠P:=λz=>by rw [z] at hge;exact absurd (Nat.lt_of_lt_of_le hPlt hge) (Nat.lt_irrefl _)
  have hnc:H c'=none:=I.hok.fresh hge;have ne:∀b o,H b=some o->b≠c':=λb o e z=>by rw [z,hnc] at e;cases e
  let ps':Array Value:=ps++ #[rawInt pos.line,rawInt pos.col,.ref c']
  let H1:Hp:=upd (upd H P (.tbl ps')) c' (Hh c' ql)
  have h1c:H1 c'=some (Hh c' ql):=Ae;have h1P:H1 P=some (.tbl ps'):=by show upd _ c' _ P=_;rw [Aq (Ne.symm cP),Ae]
  have h1o:∀b,b≠P->b≠c'->H1 b=H b:=λb n m=>by show upd _ c' _ b=_;rw [Aq m,Aq n]
  have keepT:∀b o,H b=some o->b≠P->H1 b=some o:=λb o e n=>by rw [h1o b n (ne b o e)];exact e
  have un:Un (AB X.stack) [] H H1 s.heap (h'.push (PySem.W.kla_obj "<lambda>" ql params body scope (A2 X.env.cells scope.names []) ((X.mg "__name__").getD .none) c' ctv)):=by
   have nP:∀b,H b=none->b≠P:=λb n z=>by rw [z,hP] at n;cases n
   have nc2:∀b o,s.heap.get? b=some o->b≠c':=λb o e z=>by have:=Heap.lt_size e;rw [z] at this;exact absurd (Nat.lt_of_lt_of_le this hge) (Nat.lt_irrefl _)
   refine⟨λb o e n _ _=>hx2 b o (nP b n) e,λb o e n _ _=>⟨o.slots,hx2 b o (nP b n) e⟩,λb o e n _=>by rw [h1o b (nP b n) (nc2 b o e)];exact n,λb o e _=>?_,λb xs q=>keepT b _ q (λz=>by rw [z,hP] at q;cases q),
    λb o' xs q=>keepT b _ q (λz=>by rw [z,hP] at q;cases q),λb qs q=>?_⟩
   ·by_cases z:b=P
    ·subst z;exact⟨_,Heap.get?_push_of_some _ htb⟩
    ·exact⟨o,hx2 b o z e⟩
   ·by_cases z:b=P
    ·subst z;rw [hP] at q;cases q;exact⟨_,h1P⟩
    ·exact⟨#[],by rw [keepT b _ q z];simp⟩
  have hok:HOk X.prog X.w H1 (h'.push (PySem.W.kla_obj "<lambda>" ql params body scope (A2 X.env.cells scope.names []) ((X.mg "__name__").getD .none) c' ctv)):=λb o e=>by
   by_cases z:b=P
   ·subst z;rw [h1P] at e;cases e;exact Heap.get?_push_of_some _ htb
   ·by_cases z2:b=c'
    ·subst z2;rw [h1c] at e;cases e;refine⟨hrec.push _,?_,λg1 g2 x k=>?_⟩
     ·obtain⟨c2,oc,vs,t,e2,hoc,_⟩:=hrec;cases e2;exact⟨oc,Heap.get?_push_of_some _ hoc⟩
     ·obtain⟨c2,oc,vs,t,e2,hoc,r⟩:=x;cases e2;exact⟨_,oc,vs,t,rfl,k oc hoc,r⟩
    ·rw [h1o b z z2] at e;refine(I.hok b o e).stay (λd u hd q=>hx2 d u (λy=>?_) q) (λd q=>keepT d _ q λy=>by rw [y,hP] at q;cases q) λd xs q=>keepT d _ q λy=>by rw [y,hP] at q;cases q
     rcases hd with hd | hd
     ·exact z (hd ▸ y)
     ·rw [y,hP] at hd;cases hd
  have I1:Ac X pins σ H1 { s with heap:=h'.push (PySem.W.kla_obj "<lambda>" ql params body scope (A2 X.env.cells scope.names []) ((X.mg "__name__").getD .none) c' ctv),toks:=tk}:=
   I.call' (s':= { s with heap:=h'.push (PySem.W.kla_obj "<lambda>" ql params body scope (A2 X.env.cells scope.names []) ((X.mg "__name__").getD .none) c' ctv),toks:=tk}) (ch:=[]) rfl un hok I.bare λb z=>absurd z (by simp)
  refine h _ H1 h'.objs.size c' _ ctv I1 ⟨ps',h1P,?_,λpos' v e=>?_⟩ keepT ?_ (λz=>?_) (Heap.get?_push_size _ rfl) h1c
  ·show TriplesOk (ps++ #[rawInt pos.line,rawInt pos.col,.ref c']).toList;rw [Array.toList_append];exact Q9 ht
  ·have e':codeAmong pos' (ps++ #[rawInt pos.line,rawInt pos.col,.ref c']).toList=some v:=e;rw [Array.toList_append] at e';rcases Ra ht e' with q | q
   ·obtain⟨c2,r1,r2⟩:=hcs pos' v q;exact⟨c2,r1,keepT c2 _ r2 λy=>by rw [y,hP] at r2;cases r2⟩
   ·exact⟨c',q,h1c⟩
  ·rw [h1o _ (Nat.ne_of_gt (Nat.lt_of_lt_of_le hPlt szle)) (Nat.ne_of_gt hlt)];exact I.hok.fresh szle
  ·exact absurd (Nat.lt_of_lt_of_le (frLt _ z) szle) (Nat.lt_irrefl _)
end
section
variable {X : Cx} {scope : Scope} {N' : List Str} {cap : List (Option Nat)} {P c : Addr} {ql : Str} {params : Arguments} {body : Expr} {lpos p pos : Pos} {W : Addr -> Str -> Prop} {k : Nat} {te : XK -> TE}
end
theorem Rc (a b:Bool):MeetsSeq.EqGives (.bool a) (.bool b) (a==b):=λprog w A E s Q h=>PySem.SeqAt.EqAt.bool_bool a b prog w E Q h
def Fe:Value->Bool
 | .bool b=>b
 | _=>false
theorem Jt:∀ {bs:List Bool}{us:List Value},As (bs.map V.bl) us->us=bs.map Value.bool
 | [],_,h=>by cases h;rfl
 | b::bs,_,h=>by
  cases h with
  | cons r t=>
   have:=Jt t;subst this;have r':_=Value.bool b:=r;rw [r']
   rfl
theorem LZ {bs:List Bool}:∀y,y∈(bs.map Value.bool).toArray->MeetsSeq.EqGives y (.bool true) (Fe y):=λy hy=>by
 have hy':y∈bs.map Value.bool:=by simpa using hy
 obtain⟨b,_,rfl⟩:=mem_map.mp hy';have:=Rc b true;cases b<;>exact this
section
variable {X : Cx}
def Re:V->List V->Hp->VK->Prop:=λx vs H Q=>∃(l:Addr) (bs:List Bool),x= .ref l/\vs=[.bl true]/\H l=some (.lst (bs.map V.bl))/\Q (.int (bs.count true:Nat)) H
theorem Rf:FH X "list.count" Re:=by
 intro pins s σ H x vs v us Q I rx rv h;obtain⟨l,bs,rfl,rfl,hH,q⟩:=h;cases rx;obtain⟨u,rfl,ru⟩:=rv.one;have ru':u=Value.bool true:=ru;subst ru';obtain⟨its,r,pl,hz⟩:=I.list (Ai.of hH);have e:=Jt r;subst e;obtain⟨⟨cls,dd,data,sl⟩,ho,hc,n,hd⟩:=id pl.isList;simp only at hc hd;subst hc hd;refine call_meets PySem.F.slot_list_count ⟨_,ho,rfl⟩ PySem.F.entry_list_count (PySem.F.args_list_count_2 _ _) (PySem.SeqAt.list_countAt l (bs.map Value.bool).toArray n dd sl (.bool true) Fe) ⟨ho,λy hy=>(LZ y hy).at _ _,?_⟩;have ec:(bs.map Value.bool).toArray.toList.countP Fe=bs.count true:=by
  rw [show(bs.map Value.bool).toArray.toList=bs.map Value.bool from rfl,List.countP_map];unfold List.count
  congr 1
  funext b
  cases b<;>rfl
 rw [ec];exact⟨.int (bs.count true:Nat),H,I.tok _,⟨_,rfl⟩,q⟩
def Rg:V->List V->Hp->VK->Prop:=λx vs H Q=>∃(l:Addr) (bs:List Bool) (j:Nat),x= .ref l/\vs=[.bl true]/\H l=some (.lst (bs.map V.bl))/\bs.length<=1000/\bs[j]? =some true/\(∀m,m<j->bs[m]? =some false)/\Q (.int (j:Nat)) H
theorem Rh:FH X "list.index" Rg:=by
 intro pins s σ H x vs v us Q I rx rv h;obtain⟨l,bs,j,rfl,rfl,hH,hs,hj,hno,q⟩:=h;cases rx;obtain⟨u,rfl,ru⟩:=rv.one;have ru':u=Value.bool true:=ru;subst ru';obtain⟨_,its,n,r,ho⟩:=(show ObjOk X.prog X.w H s.heap l (.lst (bs.map V.bl)) from I.hok l _ hH);have e:=Jt r;subst e;have hjl:j<bs.length:=(List.getElem?_eq_some_iff.mp hj).1;have hbj:bs[j]=true:=(List.getElem?_eq_some_iff.mp hj).2;refine call_meets PySem.F.slot_list_index ⟨_,ho,rfl⟩ PySem.F.entry_list_index (PySem.F.args_list_index_2 _ _) (MeetsSeq.list_index l (bs.map Value.bool).toArray n (.bool true) Fe LZ j (by simpa using hjl) (by omega) (by simp [Fe,hbj]) (λm hm hlt=>?_)) ⟨ho,?_⟩
 ·have:=hno m hlt;have hbm:bs[m]'(by simpa using hm)=false:=(List.getElem?_eq_some_iff.mp this).2;simp [Fe,hbm]
 ·exact⟨.int (j:Nat),H,I.tok _,⟨_,rfl⟩,q⟩
end
def Ri:List Str:=["plant","story","firing","hour","boiler","prices","way","set","tanks","pump","feeding","readings","start","shifts","book","amount","deed","line","text"]
def BJ (K:Fgx) (M:Addr) (ds:List Addr) (i:Nat):Bool:=
 (PySem.W.findIn K (.ref (ds.getD i 0)) "__getattribute__"==some (some (.builtin "BaseException.__getattribute__"))) &&(PySem.W.findIn K (.ref (ds.getD i 0)) "__getattr__"==some none) &&(PySem.W.clsIn K (ds.getD i 0)).isSome &&
 (PySem.W.findIn K (.ref (ds.getD i 0)) "__class__"==some (some (.builtin "object.__class__"))) &&(PySem.W.specialIn K (.builtin "object.__class__") "__get__"==some (some (.builtin "getset_descriptor.__get__"))) &&(PySem.W.takesIn K (.builtin "object.__class__")==some true) &&
 (PySem.W.mroIn K (ds.getD i 0) (.type "object")==some true) &&(PySem.W.mroIn K (ds.getD i 0) (.type "BaseException")==some true) &&(PySem.W.mroIn K (ds.getD i 0) (.ref M)==some true) &&
 ((List.range 19).all λj=>PySem.W.kitOne K (.ref (ds.getD i 0)) (.ref (ds.getD j 0))==some (j==i)) &&(PySem.W.kitOne K (.ref (ds.getD i 0)) (.type "ValueError")==some true)
structure Wd (K:Fgx) (M:Addr) (ds:List Addr) (C:Addr) (word:Str):Prop where
 ex:∃i,i<19/\C=ds.getD i 0/\Ri[i]? =some word/\BJ K M ds i=true
section
variable {K : Fgx} {M : Addr} {ds : List Addr} {i : Nat}
theorem L6 (h:BJ K M ds i=true):D7 K (ds.getD i 0)/\PySem.W.mroIn K (ds.getD i 0) (.ref M)=some true/\(∀j,j<19->PySem.W.kitOne K (.ref (ds.getD i 0)) (.ref (ds.getD j 0))=some (j==i))/\PySem.W.kitOne K (.ref (ds.getD i 0)) (.type "ValueError")=some true:=by
 unfold BJ at h;simp only [Bool.and_eq_true,beq_iff_eq] at h;obtain⟨⟨⟨⟨⟨⟨⟨⟨⟨⟨h1,h2⟩,h3⟩,h4⟩,h5⟩,h6⟩,h7⟩,h8⟩,h9⟩,h10⟩,h11⟩:=h;refine⟨⟨h1,h2,h3,h4,h5,h6,h7,h8⟩,h9,λj hj=>?_,h11⟩;have:=all_eq_true.mp h10 j (mem_range.mpr hj);exact beq_iff_eq.mp this
end
def kindWords:List Str:=["plant","story","firing","hour","boiler","prices","way","set","tanks","pump","feeding","readings","start","shifts","book","amount","no deed","line","text"]
structure WdK (K:Fgx) (M:Addr) (ds:List Addr) (C:Addr) (word:Str):Prop where
 ex:∃i,i<18/\C=ds.getD i 0/\kindWords[i]? =some word/\BJ K M ds i=true
section
variable {X : Cx}
end
end L2
end
section
namespace L2
open PySem PySem.Spec PyProof.Rows PySem.W Builtin
abbrev CN (C:Addr) (dx:Option Addr) (t:Addr):Obj:= { cls:= .ref C,dict:=dx,data:= .fields #[.ref t,.none,.none,.none,.bool false,.none]}
def DL (K:Frag) (C fI:Addr):Bool:=keepIn K (.ref C) && findIn K (.ref C) "__init__"==some (some (.ref fI)) &&(K.lookup C).any λo=>o.cls== .type "type" && match o.data,o.slots with
 | .cls cd,⟨[_,_,_,_,k,_]⟩=>k==some (.builtin "ValueError.__new__") &&(cd.mro== .ref C::cd.mro.tail &&(!cd.hasDel && tailIn K B2 cd.mro.tail))
 | _,_=>false
def XLies (K:Frag) (h:Heap) (C fI:Addr):Prop:=K.In h/\findIn K (.ref C) "__init__"=some (some (.ref fI))/\
 ∃bm N nm qn bs hd sn sub ab col dd k0 k1 k2 k3 k5,h.get? C=some (excClassObj nm qn C N bs bm hd sn sub ab col dd k0 k1 k2 k3 k5 "ValueError.__new__")/\OwnTail h B2 bm
theorem Rj {K:Frag}{C fI:Addr} (q:DL K C fI=true):keepIn K (.ref C)=true:=by
 unfold DL at q;exact(Bool.and_eq_true_iff.mp (Bool.and_eq_true_iff.mp q).1).1
theorem L7 {K:Frag}{h:Heap}{C fI:Addr} (X:K.In h) (q:DL K C fI=true):XLies K h C fI:=by
 unfold DL at q;obtain⟨q,r⟩:=Bool.and_eq_true_iff.mp q;refine⟨X,eq_of_beq (Bool.and_eq_true_iff.mp q).2,?_⟩;obtain⟨o,l,r0⟩:=any_some r;obtain⟨c,r5⟩:=Bool.and_eq_true_iff.mp r0;have g:=X _ _ l;rcases o with⟨oc,dd,od,sl⟩
 obtain rfl:oc= .type "type" :=eq_of_beq c;clear r0 c l;dsimp only at r5;split at r5
 ·rename_i cd k0 k1 k2 k3 k k5;obtain⟨r1,r6⟩:=Bool.and_eq_true_iff.mp r5;obtain⟨r2,r7⟩:=Bool.and_eq_true_iff.mp r6;obtain⟨r3,r4⟩:=Bool.and_eq_true_iff.mp r7;rcases cd with⟨nm,bs,mro,N,qn,hd,sn,sub,ab,col,del⟩
  obtain rfl:=eq_of_beq r1;obtain rfl:del=false:=by cases del<;>first | rfl | cases r3
  have e2:mro= .ref C::mro.tail:=eq_of_beq r2;have T:=tail_of_in X r4;dsimp only at T;rw [e2] at g;exact⟨mro.tail,N,nm,qn,bs,hd,sn,sub,ab,col,dd,k0,k1,k2,k3,k5,g,T⟩
 ·cases r5
structure Rk (M:Model) (h:Heap) (C fI:Addr):Prop where
 typ:Looks M h (typeOf (.ref C)) (.type "type")
 mro:∃l,Looks M h (mroOf (.ref C)) (.ref C::l)
 made:Looks M h (Bind.madeBy (.ref C)) (some "ValueError.__new__")
 self:Looks M h (isSubtype (.ref C) (.ref C)) true
 exc:Looks M h (isSubtype (.ref C) (.type "BaseException")) true
 init:Looks M h (typeLookup (.ref C) "__init__") (some (.ref fI))
theorem XLies.keeps {K:Frag}{h h':Heap}{C fI:Addr} (c:XLies K h C fI) (k:∀b o,h.get? b=some o->h'.get? b=some o):XLies K h' C fI:=by
 obtain⟨X,e,bm,N,nm,qn,bs,hd,sn,sub,ab,col,dd,k0,k1,k2,k3,k5,hC,T⟩:=c;exact⟨λa o l=>k _ _ (X a o l),e,bm,N,nm,qn,bs,hd,sn,sub,ab,col,dd,k0,k1,k2,k3,k5,k _ _ hC,T.keeps k⟩
theorem XLies.seen {K:Frag}{h:Heap}{C fI:Addr} (c:XLies K h C fI) (M:Model):Rk M h C fI:=by
 obtain⟨X,e,bm,N,nm,qn,bs,hd,sn,sub,ab,col,dd,k0,k1,k2,k3,k5,hC,T⟩:=c;constructor
 ·exact(Looks.ld hC).andThen .now
 ·exact⟨bm,λ_ _ _ ⟨_,_,_,_,_⟩ k q=>wpAny_mroOf_exc (k _ _ hC) q⟩
 ·exact λ_ _ _ ⟨_,_,_,_,_⟩ k q=>wpAny_madeBy_exc (k _ _ hC) q
 ·exact λ_ _ _ ⟨_,_,_,_,_⟩ k q=>wpAny_isSubtype_exc (k _ _ hC) (by rw [List.contains_cons,beq_self_eq_true,Bool.true_or];exact q)
 ·exact λ_ _ _ ⟨_,_,_,_,_⟩ k q=>wpAny_isSubtype_exc (k _ _ hC) (by rw [show(Value.ref C::bm).contains (.type "BaseException")=true from by rw [List.contains_cons,T.hasType PySem.F.excBase_ValueError.hasBase];exact Bool.or_true _];exact q)
 ·exact looks_findIn X e
section
variable {M : Model} {A : Around} {E : Value -> Shared -> Prop} {s : Shared} {env : Env}
def Rl (K:Frag) (E:VSP) (v:Value) (s:Shared):Prop:=∃e C fI dx t,v= .ref e/\XLies K s.heap C fI/\s.heap.get? e=some (CN C dx t)/\E (.ref e) s
theorem Rm {K:Frag}{e:Expr}{pos:Pos}{Q:Flow->Shared->Prop} (hh:A.handled=none) (h:wpAny M A (eval e env) (Rl K E) E s):wpAny M A (exec (.Raise (some e) none pos) env) Q E s:=by
 rw [arm_exec_Raise];refine wpAny_bind (wpAny_standAt (wpAny_bind (wpAny_bind (Ap h λv s1 z=>wpAny_bind (wpAny_standAt (wpAny_pure ?_))))));obtain⟨x,C,fI,dx,t,rfl,c,hx,hE⟩:=z;have S:=c.seen M;obtain⟨hp,g,d,tk,os⟩:=s1;have cls:Looks M hp (typeOf (.ref x)) (.ref C):=(Looks.ld hx).andThen .now;have one:Looks M hp (isType (.ref x)) false:=(Looks.ld hx).andThen .now;have inst:Looks M hp (isInstance (.ref x) (.type "BaseException")) true:=cls.andThen S.exc;have bare:Looks M hp (field (.ref x) 1) .none:=(Looks.ld hx).andThen .now;have typ:=S.typ;have taken:∀m,Looks M hp (excFromValue (.ref x) m) (.ref x):=λm=>(one.andThen .now:Looks M hp (isExcClass (.ref x)) false).andThen (inst.andThen .now)
 have held:Looks M hp (raisedInstance (.ref x)) (.ref x):=cls.andThen (typ.andThen .now);have flight:Looks M hp (setFlight (.ref x) none) ():=bare.andThen .now;show wpAny M A (pure none>>=_) Q E _;refine wpAny_bind (wpAny_pure (wpAny_bind (wpAny_holding ((taken _).at (wpAny_bind (one.at (wpAny_bind (held.at (wpAny_bind (flight.at ?_))))))))));exact wpAny_raiseNew_none hh hE
end
section
variable {prog : Program} {w : World} {A : Around} {E : Value -> Shared -> Prop} {h : Heap} {g : Array GenState} {d : Drawn} {t : Nat} {os : OsState} {K : Frag} {C fI : Addr} {rest : List Value}
theorem XLies.new {R:Result->Shared->Prop} (c:XLies K h C fI) (hl:rest.length<=sizeLine)
  (q:∀h' e t0,(∀b o,h.get? b=some o->h'.get? b=some o)->h.get? e=none->h'.get? e=some (CN C none t0)->R (.ok (.ret (.ref e))) ⟨h',g,d,t,os⟩):
  codeAny (model prog w) A (.call (.builtin "ValueError.__new__") ⟨.ref C::rest,[]⟩) R ⟨h,g,d,t,os⟩:=by
 obtain⟨-,-,bm,N,nm,qn,bs,hd,sn,sub,ab,col,dd,k0,k1,k2,k3,k5,hC,T⟩:=c;have B:=PySem.F.excBase_ValueError;exact codeAny_call_builtin_code (Code.quiet_builtin _ B.quiet) (wpAny_check_new_subT B T hC (codeAny_exc_new_subT B T hC
  (q _ _ h.objs.size (λb o z=>Heap.get?_push_of_some _ (Heap.get?_push_of_some _ z)) (Heap.get?_none_of_le (Nat.le_succ _)) (by heap_get)) hl))
theorem XLies.call {Q:VSP} (c:XLies K h C fI) (hf:∃o,h.get? fI=some o/\o.cls= .type "function") (hl:rest.length<=sizeLine)
  (q : ∀ h' e t0, (∀ b o, h.get? b = some o -> h'.get? b = some o) -> h.get? e = none -> h'.get? e = some (CN C none t0) ->
   wpAny (model prog w) (A.under (.builtin "type.__call__" ⟨.ref C::rest,[]⟩)) (PySem.call (.ref fI) (.ref e::rest)) (λr s'=>r= .none/\Q (.ref e) s') E ⟨h',g,d,t,os⟩):
  wpAny (model prog w) A (PySem.call (.ref C) rest) Q E ⟨h,g,d,t,os⟩:=by
 have S:=c.seen (model prog w);have made:=S.made;obtain⟨l,mro⟩:=S.mro;have spec:Looks (model prog w) h (specialOf (.ref C) "__call__") (some (.builtin "type.__call__")):=S.typ.andThen (.of_pure tc_lookup);obtain⟨-,-,bm,N,nm,qn,bs,hd,sn,sub,ab,col,dd,k0,k1,k2,k3,k5,hC,-⟩:=id c;refine wpAny_call (codeAny_of_tree (nd_load hC ?_));refine wpAny_bind (wpAny_pure ?_);show wpAny _ _ (specialOf (.ref C) "__call__" >>=_) _ _ _;refine wpAny_bind (spec.at (wpAny_bind ((Looks.of_pure (tc_bind _)).at (wpAny_bind (wpAny_pure (wpAny_pure ⟨rfl,?_⟩))))));refine codeAny_call_builtin_at (Code.quiet_builtin _ (by decide+kernel)) entry_typeCall (wpAny_check_type_call_sub hC ?_);show wpAny _ _ (mroOf (.ref C) >>=_) _ _ _;refine wpAny_bind (mro.at ?_);show wpAny _ _ (Bind.madeBy (.ref C) >>=_) _ _ _;refine wpAny_bind (made.at (wpAny_bind (wpAny_pure (wpAny_bind (wpAny_holding (wpAny_call (c.new hl λh' e t0 k fr he=>?_)))))));have S':=(c.keeps k).seen (model prog w);have cls:Looks (model prog w) h' (typeOf (.ref e)) (.ref C):=(Looks.ld he).andThen .now;obtain⟨oI,hI,cI⟩:=hf;have fn:Looks (model prog w) h' (typeOf (.ref fI)) (.type "function"):=by rw [<-cI];exact(Looks.ld (k _ _ hI)).andThen .now
 have bound:Looks (model prog w) h' (bindSpecial (.ref fI) (.ref e)) (.ref fI,[.ref e]):=by
  unfold bindSpecial;exact fn.andThen (.of_pure (by kernel_rfl))
 refine wpAny_bind ((cls.andThen S'.self:Looks _ h' (isInstance (.ref e) (.ref C)) true).at ?_);show wpAny _ _ (holding _ (callSpecial? _ _ _ _) >>=_) _ _ _;refine wpAny_bind (wpAny_holding (wpAny_bind ((cls.andThen S'.init:Looks _ h' (specialOf (.ref e) "__init__") _).at (wpAny_holding (wpAny_bind (bound.at (wpAny_bind (Ap (q h' e t0 k fr he) λr s1 z=>?_))))))));obtain⟨rfl,z⟩:=z;exact wpAny_pure (wpAny_pure z)
end
end L2
end
section
namespace L2
def GotL (H:Hp) (xs:List V) (Q:VK):Prop:=∀r H',Ab H H'->H r=none->H' r=some (.lst xs)->Q (.ref r) H'
theorem GotL.at {H:Hp}{xs:List V}{Q:VK} (q:GotL H xs Q):∀p,H p=none->Q (.ref p) (upd H p (.lst xs)):=λp hp=>q p _ (Ab.new hp) hp Ae
section
variable {X : Cx} {es : List Expr} {t : TA} {pos : Pos}
def Rn (t:TA):TE:=fun σ H Q=>t σ H λxs H1=>match Nat.ble xs.length 64 with | true=>GR H1 xs Q | false=>False
def Ro (t:TA):TE:=fun σ H Q=>t σ H λxs H1=>match Nat.ble xs.length 64 with | true=>GotL H1 xs Q | false=>False
theorem Cq {x1} (h:PA X es t):PE X (.Tuple es x1 pos) (Rn t):=by
 intro pins s σ H Q I hq;refine wpAny_Tuple_spliced (Ap (h pos pins s σ H _ I hq) λus s1 ⟨xs,H1,I1,r,q⟩=>?_);dsimp only at q;split at q
 ·rename_i z;refine⟨by rw [<-r.length];exact few z,?_⟩;have hf:H1 s1.heap.objs.size=none:=I1.hok.fresh (Nat.le_refl _);refine⟨.ref s1.heap.objs.size,upd H1 s1.heap.objs.size (.tup xs),I1.laid (t':=s1.toks) (λb u e=>Heap.get?_push_of_some _ e) (Nat.le_refl _) ?_,rfl,q _ _ (Ab.new hf) Ae⟩;exact⟨few z,us,r,⟨_,Heap.get?_push_size _ rfl,rfl,_,rfl⟩⟩
 ·exact q.elim
theorem CD (h:PA X es t):PE X (.List es pos) (Ro t):=by
 intro pins s σ H Q I hq;refine wpAny_List_spliced (Ap (h pos pins s σ H _ I hq) λus s1 ⟨xs,H1,I1,r,q⟩=>?_);dsimp only at q;split at q
 ·rename_i z;refine⟨by rw [<-r.length];exact few z,?_⟩;have hf:H1 s1.heap.objs.size=none:=I1.hok.fresh (Nat.le_refl _);refine⟨.ref s1.heap.objs.size,upd H1 s1.heap.objs.size (.lst xs),I1.laid (t':=s1.toks) (λb u e=>Heap.get?_push_of_some _ e) (Nat.le_refl _) ?_,rfl,q.at _ hf⟩;exact⟨few z,us,0,r,Heap.get?_push_size _ rfl⟩
 ·exact q.elim
def Rp:R2:=λx y H Q=>∃l b xs zs,x= .ref l/\y= .ref b/\H l=some (.lst xs)/\H b=some (.lst zs)/\xs.length+zs.length<=sizeLine/\GotL H (xs++zs) Q
theorem Ju:OpR X (binaryOp .Add) Rp:=by
 intro pins s σ H x y v u Q I rx ry h;obtain⟨l,b,xs,zs,e1,e2,h1,h2,hz,q⟩:=h;exact EX pins s σ H x y v u Q I rx ry ⟨l,b,xs,zs,e1,e2,h1,h2,hz,q.at⟩
end
end L2
end
section
namespace L2
section
variable {X : Cx}
end
end L2
namespace MF
open L2
structure FlOk (T:TM):Prop where
 ok:T.ok
 c:∀r∈T.cs,r.length=T.co.length/\∀c∈r,0<=c/\c<=20
 o:T.co.length<=4
 o1:∀c∈T.co,1<=c/\c<=9
 d:∀x∈T.ds,0<=x/\x<=100
 l0:0<=T.lo
 h0:0<=T.hi
 s0:0<=T.st
 l4:T.lo<=100
 h4:T.hi<=100
 s4:T.st<=100
end MF
end
section
namespace MF
open L2
variable {p a : Addr} {H H' : Hp} {xs : List V}
structure FX (K:Fgx) (x qual:Str) (st:Stmt) (f:Addr) (fd:FuncData) (c:Addr):Prop where
 ex:∃(oc:Value) (od:Option Addr) (kV doc pm:Value) (an:Option Addr) (ct:Value) (osl:Array (Option Value)),
  fd=PySem.W.fnOf x qual (BM st) (Bf st) (Ak st) .none kV doc pm an (.ref c) ct/\K.lookup f=some ⟨oc,od,.func fd,osl⟩/\PySem.W.codeIn K (.ref c) qual=true
theorem FX.ok {P:Program}{w:World}{K:Fgx}{mg:Str->Option Value}{base:Heap}{x qual:Str}{st:Stmt}{f c:Addr}{fd:FuncData}{N ps:List Str}{k:Nat}{sp:Sp} (F:FX K x qual st f fd c) (S:At N ps (Ak st)) (len:∀vs H Q E,sp vs H Q E->vs.length=ps.length)
  (hbody : ∀ (A : Around) (outer : List Env) (s : Shared) (H : Hp) (vs : List V) (Q : VK) (E : XK), AJ k (A.deeper (envOfC qual (Ak st) s.heap.objs.size f (.ref c))) -> sp vs H Q E ->
   ∃t,PSs (BS CX0 P w K mg base N qual (Ak st) f (.ref c) A outer s H E).nox (Bf st) t/\t { nx:=λ_ H'=>Q .non H',rt:=Q} (start N vs) H):BE P w K mg base CX0 (k+1) f fd ps sp:=by
 obtain⟨oc,od,kV,doc,pm,an,ct,osl,rfl,lk,hcd⟩:=F.ex;refine Gw lk hcd S len λA outer s H vs Q E hr hsp=>?_
 obtain⟨t,h,q⟩:=hbody A outer s H vs Q E hr hsp;exact⟨t,h.nox,q⟩
def FY (K:Fgx) (TB:Addr):Sp:=λvs H Q _=>match vs with | [.ref a]=>∃ns:List Int,Ai K H a (ns.map V.int)/\ns.length<=63/\H TB=some (.tbl #[])/\∀H',Q (.bl true) H' | _=>False
theorem Rq {K TB vs H Q E} (h:FY K TB vs H Q E):vs.length=1:=by unfold FY at h;split at h;rfl;exact h.elim
def Bb (p:Addr) (H H':Hp):Prop:=∀b o,H b=some o->(b=p/\∃xs,o= .lst xs)\/(∃ps,o= .tbl ps)\/H' b=some o
theorem Bb.ev (e:Ev p H H'):Bb p H H':=λb o h=>(e b o h).elim .inl λz=> .inr (.inr z)
theorem Bb.refl:Bb p H H:=Bb.ev Ev.refl
theorem Bb.same (e:Ab H H'):Bb p H H':=Bb.ev (Ev.same e)
theorem Bb.trans {H1 H2:Hp} (a:Bb p H H1) (b:Bb p H1 H2):Bb p H H2:=λc o h=>(a c o h).elim .inl λz=>z.elim (λy=> .inr (.inl y)) λy=>b c o y
theorem Bb.tup (h:Bb p H H') (q:H a=some (.tup xs)):H' a=some (.tup xs):=by
 rcases h a _ q with⟨_,ys,e⟩ | ⟨ps,e⟩ | z
 ·cases e
 ·cases e
 ·exact z
theorem Bb.lst (h:Bb p H H') (q:H a=some (.lst xs)) (n:a≠p):H' a=some (.lst xs):=by
 rcases h a _ q with⟨e,_⟩ | ⟨ps,e⟩ | z
 ·exact absurd e n
 ·cases e
 ·exact z
theorem Bb.dk {ks:List (AD×V)} (h:Bb p H H') (q:H a=some (.dK ks)):H' a=some (.dK ks):=by
 rcases h a _ q with⟨_,ys,e⟩ | ⟨ps,e⟩ | z
 ·cases e
 ·cases e
 ·exact z
mutual
theorem Aa.evT (h:Bb p H H'):∀(d:PyData) (v:V),Aa p H d v->Aa p H' d v
 | .none,v,q=>q
 | .bool _,v,q=>q
 | .int _,v,q=>q
 | .str _,v,q=>q
 | .tuple ds,v,q=>by
  unfold Aa at q ⊢;obtain⟨a,xs,e,r,z⟩:=q;exact⟨a,xs,e,h.tup r,Ad.evT h ds xs z⟩
 | .list ds,v,q=>by
  unfold Aa at q ⊢;obtain⟨a,xs,e,n,r,z⟩:=q;exact⟨a,xs,e,n,h.lst r n,Ad.evT h ds xs z⟩
 | .dict kvs,v,q=>by
  unfold Aa at q ⊢;obtain⟨a,ks,e,n,k,r⟩:=q;exact⟨a,ks,e,n,k,h.dk r⟩
theorem Ad.evT (h:Bb p H H'):∀(ds:List PyData) (xs:List V),Ad p H ds xs->Ad p H' ds xs
 | [],xs,q=>by unfold Ad at q ⊢;exact q
 | d::ds,xs,q=>by
  unfold Ad at q ⊢;obtain⟨x,r,e,z,zs⟩:=q;exact⟨x,r,e,Aa.evT h d x z,Ad.evT h ds r zs⟩
end
theorem _root_.L2.TabIn.grow {H H':Hp}{TB:Addr}{ql:Str} (t:TabIn H TB ql) (e:∀b o,H b=some o->(∀xs,o≠ .lst xs)->H' b=some o):TabIn H' TB ql:=by
 obtain⟨ps,h1,h2,h3⟩:=t;refine⟨ps,e _ _ h1 (λxs z=>by cases z),h2,λpos v hv=>?_⟩;obtain⟨c,r1,r2⟩:=h3 pos v hv;exact⟨c,r1,e _ _ r2 (λxs z=>by cases z)⟩
theorem _root_.L2.TabIn.ev {p:Addr}{H H':Hp}{TB:Addr}{ql:Str} (t:TabIn H TB ql) (e:Ev p H H'):TabIn H' TB ql:=t.grow λb o q n=>(e b o q).elim (fun⟨_,xs,z⟩=>absurd z (n xs)) id
theorem _root_.L2.TabIn.same {H H':Hp}{TB:Addr}{ql:Str} (t:TabIn H TB ql) (e:Ab H H'):TabIn H' TB ql:=t.grow λb o q _=>e b o q
abbrev Ff:Str:=(("law" :Str)++ ".<locals>.")++ "<lambda>"
theorem Jv {n:Nat} (h:n<=1000):n<=sizeLine:=Nat.le_of_lt (Gz h)
end MF
end
section
namespace MF
open L2
structure DfC (K:Fgx) (mg:Str->Option Value) (x:Str) (st:Stmt) (ps:List Str) (c:Addr):Prop where
 ex:∃(f:Addr) (fd:FuncData),FX K x x st f fd c/\mg x=some (.ref f)/\PySem.W.keepIn K (.ref f)=true/\Binds K fd ps []
end MF
end
section
namespace MF
open L2
variable {qual : Str} {k : Nat}
section
variable {P : Program} {w : World} {K : Fgx} {mg : Str -> Option Value} {base : Heap}
structure Dm (K:Fgx) (C:Addr) (m qual:Str) (st:Stmt) (ps:List Str):Prop where
 ex:∃(f:Addr) (fd:FuncData),Dx K m qual st f fd/\EV K C m f/\Binds K fd ps []
structure Mt (CX:Ck) (P:Program) (w:World) (K:Fgx) (mg:Str->Option Value) (base:Heap) (n:Nat) (C:Addr) (m:Str) (ps:List Str) (sp:Sp):Prop where
 ex:∃(f:Addr) (fd:FuncData),BE P w K mg base CX n f fd ps sp/\EV K C m f/\Binds K fd ps []
theorem Dm.fn {C:Addr}{m:Str}{st:Stmt}{N ps:List Str}{sp:Sp} (F:Dm K C m qual st ps) (S:At N ps (Ak st)) (len:∀vs H Q E,sp vs H Q E->vs.length=ps.length)
  (hbody : ∀ (f : Addr) (cdv : Value) (A : Around) (outer : List Env) (s : Shared) (H : Hp) (vs : List V) (Q : VK) (E : XK), AJ k (A.deeper (envOfC qual (Ak st) s.heap.objs.size f cdv)) -> sp vs H Q E ->
   ∃t,PSs (BS CX0 P w K mg base N qual (Ak st) f cdv A outer s H E).nox (Bf st) t/\t { nx:=λ_ H'=>Q .non H',rt:=Q} (start N vs) H):Mt CX0 P w K mg base (k+1) C m ps sp:=by
 obtain⟨f,fd,hF,hm,hb⟩:=F.ex;exact⟨f,fd,hF.ok S len λcdv A outer s H vs Q E hr h=>hbody f cdv A outer s H vs Q E hr h,hm,hb⟩
theorem Dm.fnE {C:Addr}{m:Str}{st:Stmt}{N ps:List Str}{sp:Sp} (F:Dm K C m qual st ps) (S:At N ps (Ak st)) (len:∀vs H Q E,sp vs H Q E->vs.length=ps.length)
  (hbody : ∀ (f : Addr) (cdv : Value) (A : Around) (outer : List Env) (s : Shared) (H : Hp) (vs : List V) (Q : VK) (E : XK), AJ k (A.deeper (envOfC qual (Ak st) s.heap.objs.size f cdv)) -> sp vs H Q E ->
   ∃t,PSs (BS (Bj P w) P w K mg base N qual (Ak st) f cdv A outer s H E) (Bf st) t/\t { nx:=λ_ H'=>Q .non H',rt:=Q} (start N vs) H):Mt (Bj P w) P w K mg base (k+1) C m ps sp:=by
 obtain⟨f,fd,hF,hm,hb⟩:=F.ex;obtain⟨oc,od,kV,doc,pm,an,cdv,ct,osl,rfl,lk,hcd⟩:=hF.ex;exact⟨f,_,Gw lk hcd S len λA outer s H vs Q E hr h=>hbody f cdv A outer s H vs Q E hr h,hm,hb⟩
end
def Hi (C:Addr) (m:Str) (sp:Sp) (E:XK) (ta:TE) (t:TA):TE:=fun σ H Q=>ta σ H λx H1=>∃a dx fs,x= .ref a/\H1 a=some (.ins C dx fs)/\fs.lookup m=none/\t σ H1 λvs H2=>sp (x::vs) H2 Q E
section
variable {X : Cx} {CX : Ck} {E : XK} {n : Nat} {C : Addr} {m : Str} {ps : List Str} {sp : Sp} {o e : Expr} {es : List Expr} {ta : TE} {t : TA} {apos pos : Pos} {pl : Sem Bool}
theorem Dk (hx:Dd CX X E) (c:Cls X.K C) (F:Mt CX X.prog X.w X.K X.mg X.base n C m ps sp) (hr:AJ n X.A) (he:PE X o ta) (ha:PA X (e::es) t)
  (hst:starEach (e::es) X.env=(false,eval e X.env)::starEach es X.env:=by rfl) (hpl:(backTo pos (starEach es X.env)).any (·.1)=false:=by rfl)
  (ht : eval (.Call (.Attribute o m apos) (e :: es) [] pos) X.env = (do
   let ov<-eval o X.env
   standAt apos.atName
   let (f,first)<-holding [ov] (getMethod ov m pl)
   callWith pos f first (backTo pos (starEach (e::es) X.env)) (backToKw pos (keywordEach [] X.env))):=by rfl):
  PE X (.Call (.Attribute o m apos) (e::es) [] pos) (Hi C m sp E ta t):=by
 obtain⟨f,fd,F,hm,hb⟩:=F.ex;refine(Oq (dvs:=[]) (E:=E) (pl:=pl) he c hm F hr hb .nil hx ha hst hpl ht).weak fun σ H Q q=>?_
 have z:∀vs:List V,vs++[]=vs:=λvs=>append_nil vs
 show ta σ H λx H1=>∃a dx fs,x= .ref a/\H1 a=some (.ins C dx fs)/\fs.lookup m=none/\t σ H1 λvs H2=>sp (x::(vs++[])) H2 Q E
 simp only [z];exact q
theorem DM (hx:Dd CX X E) (c:Cls X.K C) (F:Mt CX X.prog X.w X.K X.mg X.base n C m ps sp) (hr:AJ n X.A) (he:PE X o ta)
  (ht : eval (.Call (.Attribute o m apos) [] [] pos) X.env = (do
   let ov<-eval o X.env
   standAt apos.atName
   let (f,first)<-holding [ov] (getMethod ov m pl)
   callWith pos f first (backTo pos (starEach [] X.env)) (backToKw pos (keywordEach [] X.env))):=by rfl):
  PE X (.Call (.Attribute o m apos) [] [] pos) (Hi C m sp E ta CH):=by
 obtain⟨f,fd,F,hm,hb⟩:=F.ex;exact Os (dvs:=[]) (E:=E) (pl:=pl) he c hm F hr hb .nil hx ht
end
section
variable {P : Program} {w : World} {K : Fgx} {mg : Str -> Option Value} {base : Heap}
structure Di (K:Fgx) (mg:Str->Option Value) (x:Str) (C:Addr) (qual:Str) (st:Stmt) (ps:List Str):Prop where
 ex:∃(f:Addr) (fd:FuncData),Dx K "__init__" qual st f fd/\Mk K C f/\Binds K fd ps []
 at_:mg x=some (.ref C)
structure Ms (P:Program) (w:World) (K:Fgx) (mg:Str->Option Value) (base:Heap) (n:Nat) (x:Str) (C:Addr) (ps:List Str) (sp:Sp):Prop where
 ex:∃(f:Addr) (fd:FuncData),BE P w K mg base CX0 n f fd ps sp/\Mk K C f/\Binds K fd ps []
 at_:mg x=some (.ref C)
theorem Di.fn {x:Str}{C:Addr}{st:Stmt}{N ps:List Str}{sp:Sp} (F:Di K mg x C qual st ps) (S:At N ps (Ak st)) (len:∀vs H Q E,sp vs H Q E->vs.length=ps.length)
  (hbody : ∀ (f : Addr) (cdv : Value) (A : Around) (outer : List Env) (s : Shared) (H : Hp) (vs : List V) (Q : VK) (E : XK), AJ k (A.deeper (envOfC qual (Ak st) s.heap.objs.size f cdv)) -> sp vs H Q E ->
   ∃t,PSs (BS CX0 P w K mg base N qual (Ak st) f cdv A outer s H E).nox (Bf st) t/\t { nx:=λ_ H'=>Q .non H',rt:=Q} (start N vs) H):Ms P w K mg base (k+1) x C ps sp:=by
 obtain⟨f,fd,hF,hm,hb⟩:=F.ex;exact⟨⟨f,fd,hF.ok S len λcdv A outer s H vs Q E hr h=>hbody f cdv A outer s H vs Q E hr h,hm,hb⟩,F.at_⟩
end
def Rr (C:Addr) (sp:Sp) (t:TA):TE:=fun σ H Q=>t σ H λvs H1=>∀a dx,H1 a=none->H1 dx=none->dx≠a->sp (.ref a::vs) (upd (upd H1 dx (.own a)) a (.ins C dx [])) (λv H2=>v= .non/\Q (.ref a) H2) E0
theorem L8 {X:Cx}{n:Nat}{x:Str}{C:Addr}{ps:List Str}{sp:Sp}{e:Expr}{es:List Expr}{t:TA}{p pos:Pos} (F:Ms X.prog X.w X.K X.mg X.base n x C ps sp) (hr:AJ (n+1) X.A) (hg:Gl X x) (ha:PA X (e::es) t)
  (hdb:(x==("__debug__" :Str))=false:=by decide) (he:starEach (e::es) X.env=(false,eval e X.env)::starEach es X.env:=by rfl) (hpl:(backTo pos (starEach es X.env)).any (·.1)=false:=by rfl):
  PE X (.Call (.Name x p) (e::es) [] pos) (Rr C sp t):=by
 obtain⟨⟨f,fd,F,M,hb⟩,hm⟩:=F;refine(Ou (dvs:=[]) (E:=E0) M F hr hg hm hb .nil Ce ha hdb he hpl).weak fun σ H Q q=>?_
 have z:∀vs:List V,vs++[]=vs:=λvs=>append_nil vs
 show t σ H λvs H1=>∀x dx,H1 x=none->H1 dx=none->dx≠x->sp (.ref x::(vs++[])) (upd (upd H1 dx (.own x)) x (.ins C dx [])) (λv H2=>v= .non/\Q (.ref x) H2) E0
 simp only [z];exact q
end MF
end
section
namespace L2
open PySem PySem.Spec PyProof.Rows PySem.W Builtin Builtin.ObjectAttr
variable {H : Hp} {t : Addr} {name : Str} {v : Value} {p1 p2 p3 pos : Pos} {ta : TE}
def B7 (e C:Addr) (dx:Option Addr):HO:= .ext λh=>∃t,h.get? e=some (CN C dx t)
theorem Jw {P:Program}{w:World}{h:Heap}{e C:Addr}{dx:Option Addr} (x:h.get? e=some (CN C dx t)):ObjOk P w H h e (B7 e C dx):=⟨⟨t,x⟩,⟨_,x⟩,λ_ _ ⟨t,y⟩ k=>⟨t,k _ y⟩⟩
structure Hj (K:Frag) (C:Addr) (f:Str):Prop where
 sa:findIn K (.ref C) "__setattr__"=some (some (.builtin "object.__setattr__"))
 mro:∃cd M,clsIn K C=some cd/\cd.mro= .ref C:: .ref M::B2/\cd.hasDict=true
 no:findIn K (.ref C) f=some none
section
variable {prog : Program} {w : World} {A : Around} {E : Value -> Shared -> Prop} {s : Shared} {K : Frag} {x C : Addr}
theorem Rs {a:Addr}{tk:Tok}{Q:PySem.Fin->Shared->Prop} (e:s.heap.get? a=some { cls:= .type "dict",data:= .dict #[]})
  (q:∀h',h'.Ns1 a (λy=>if y=name then some v else none)->(∀b,b≠a->h'.get? b=s.heap.get? b)->Q (.done (.ret .none)) { s with heap:=h',toks:=s.toks+1}):
  wpAny (model prog w) A (storeInDict a (.str name tk) name v) Q E s:=by
 have n0:s.heap.Ns1 a λ_=>none:= .of_empty ⟨_,#[],_,e,rfl,λ_ z=>absurd z (by simp),λ_=>rfl⟩
 simp only [storeInDict,newKeyGuard];exact wpAny_bind (wpAny_pure (wpAny_bind (wpAny_nsSet1 n0 λh' n same=>(by
  have few:=n.count (ns:=[name]) (Within.cons name v Within.nil);obtain⟨o,es,_,ho,hd,hl⟩:=few;have one:es.size<=sizeLine+1:=Nat.le_trans hl (by rw [sizeLine_eq];exact(by decide:1<=16777217));exact wpAny_bind (wpAny_lookBehind ho (hd ▸ pastItsLine_dict one) (wpAny_pure (q h' n same.2)))))))
theorem Rt {Q:Unit->Shared->Prop} (c:Hj K C name) (X:K.In s.heap) (hx:s.heap.get? x=some (CN C none t))
  (h:∀h' tk,h'.get? x=some (CN C (some s.heap.objs.size) t)->h'.Ns1 s.heap.objs.size (λy=>if y=name then some v else none)->(∀b o,b≠x->s.heap.get? b=some o->h'.get? b=some o)->Q () { s with heap:=h',toks:=tk}):
  wpAny (model prog w) A (setAttr (.ref x) name v) Q E s:=by
 obtain⟨cd,M,hc,hm,hd⟩:=c.mro;have I:InstAt s.heap x (CN C none t) C none:=⟨hx,rfl,rfl,trivial⟩;have line:Looks (model prog w) s.heap (mroOf (.ref C)) cd.mro:=(looks_clsIn X hc).andThen .now;have sub:Looks (model prog w) s.heap (isInstance (.ref x) (.type "object")) true:=I.type.andThen (looks_mroIn X (show mroIn K C (.type "object")=some true from by unfold mroIn;rw [hc,Option.bind_some,hm];rfl));refine set_plain X I c.sa (codeAny_call_builtin PySem.F.store_object.slot.plain PySem.F.store_object.entry (@check_slot (model prog w) _ _ { s with toks:=s.toks+1} "object.__setattr__" "object" "__setattr__" (.ref x) [.str name s.toks,v] [] _ PySem.F.store_object.kind PySem.F.store_object.split sub (PySem.F.store_object.args (.ref x) (.str name s.toks) v) ?_));rw [osa_eq,refuse_eq];refine wpAny_bind (wpAny_bind (I.type.at (wpAny_bind (line.at ?_))));rw [hm,refuseLoop_ref,refuseLoop_ref,PySem.F.store_ValueError.passes];refine wpAny_pure (wpAny_bind (I.type.at (wpAny_bind ((looks_findIn X c.no).at (wpAny_bind (wpAny_pure ?_))))));show wpAny _ _ (storeInOwnDict _ _ _ _ _ _) _ _ _
 let h1:=s.heap.push { cls:= .type "dict",data:= .dict #[]}
 let h2:=h1.update x λo=> { o with dict:=some s.heap.objs.size}
 have old:∀b o,s.heap.get? b=some o->h1.get? b=some o:=λb o z=>Heap.get?_push_of_some _ z
 have nx:s.heap.objs.size≠x:=λz=>absurd (Heap.lt_size hx) (by rw [<-z];exact Nat.lt_irrefl _)
 have e2:h2.get? s.heap.objs.size=some { cls:= .type "dict",data:= .dict #[]}:=by rw [<-Heap.get?_push_at (h:=s.heap) (o:= { cls:= .type "dict",data:= .dict #[]}) rfl rfl];exact Heap.get?_update_other _ _ nx.symm
 have x2:h2.get? x=some (CN C (some s.heap.objs.size) t):=Heap.get?_update_self _ (old _ _ hx) rfl;have got:∀A',wpAny (model prog w) A' (instanceDict x true) (λd s'=>d=some s.heap.objs.size/\s'= { s with heap:=h2,toks:=s.toks+1}) E { s with toks:=s.toks+1}:=λA'=>by
  refine wpAny_bind (wpAny_loadPart hx (wpAny_bind ((looks_clsIn X hc).at ?_)));rw [hd];exact wpAny_bind (wpAny_alloc (wpAny_bind (wpAny_update (old _ _ hx) (wpAny_pure ⟨rfl,rfl⟩))))
 refine wpAny_bind (wpAny_pure (wpAny_bind (wpAny_mono (got _) (λdx s' z=>?_) λ_ _ z=>z)));obtain⟨rfl,rfl⟩:=z;refine Rs e2 λh' n same=>h h' _ ((same x nx.symm).trans x2) n λb o hb z=>?_
 have hs:b≠s.heap.objs.size:=λy=>absurd (Heap.lt_size z) (by rw [y];exact Nat.lt_irrefl _)
 rw [same b hs,show h2.get? b=h1.get? b from Heap.get?_update_other _ _ hb.symm];exact old b o z
set_option maxHeartbeats 1000000 in
theorem Ru {name:Str}{expr:Bool}{ox:Obj}{od:Option Obj}{v:Value}{Q:VSP} (O:D7 K C) (X:K.In s.heap) (I:InstAt s.heap x ox C od) (hf:findObj K C od name=some (.value v)) (hv:handedIn v=true) (h:Q v { s with toks:=s.toks+1}):
  wpAny (model prog w) A (getAttr (.ref x) name expr) Q E s:=by
 cases s;have L0:=I.type (M:=model prog w);have L1:=looks_findIn (M:=model prog w) X O.ga;have L2:=looks_findIn (M:=model prog w) X O.gt;have L3:=looks_find (M:=model prog w) X I hf;have L4:Looks (model prog w) _ (isInstance (.ref x) (.type "BaseException")) true:=I.type.andThen (looks_mroIn X O.bx);have b:=PySem.F.attr_ValueError.ga.bind (.ref x);have n:(Value.builtin "BaseException.__getattribute__"==Value.builtin "object.__getattribute__")=false:=by decide+kernel
 have n2:(expr && onTheHeap (Value.builtin "BaseException.__getattribute__"))=false:=Bool.and_false _;simp only [getAttr,getAttrBy]
 repeat (any_goals (first | assumption | with_reducible refine Looks.at (by assumption) ?_ | wp_step))
 refine codeAny_call_builtin PySem.F.attr_ValueError.ga.plain F.entry_bexc_ga ?_;have kd:builtinKind "BaseException.__getattribute__"=some .slot:=by decide+kernel
 have sp:splitId "BaseException.__getattribute__"=some ("BaseException","__getattribute__"):=by decide+kernel
 have ar:=F.args_bexc_ga (.ref x);simp only [checkBuiltinCall,kd,sp]
 repeat (any_goals (first | assumption | with_reducible refine Looks.at (by assumption) ?_ | exact wpAny_of_eq (ar _) (wpAny_pure ‹_›) | wp_step))
 show wpAny _ _ (handedOut v) _ _ _;rw [handedOut_of hv];exact wpAny_pure h
end
section
variable {X : Cx}
def Rv (c:Str) (te:TE):TE:=fun σ H Q=>te σ H λv H1=>∃n:Int,v= .int n/\n.natAbs<1000/\Q (.str (c++Str.ofString (toString n))) H1
theorem Rw {c:Str}{e:Expr}{k:Nat}{te:TE} (hc:c.length<=1000) (he:PE X e te):PE X (.JoinedStr [.Constant (.str c) k p1,.FormattedValue e (-1) none p2] p3) (Rv c te):=by
 intro pins s σ H Q I h;refine JoinedStr_many (joinParts_cons (Calls.Constant_str ?_));show(Str.empty++c).length<=sizeLine/\wpAny _ _ (joinParts (Str.empty++c) _) _ _ _;rw [Str.empty_append];refine⟨by rw [sizeLine_eq];omega,?_⟩;refine joinParts_cons (FormattedValue_plain (Ap (he pins _ σ H _ (I.tok _) h) λu s1 ⟨v,H1,I1,rv,n,hv,hn,q⟩=>?_));subst hv;obtain⟨t,rfl⟩:=rv;have h2:n.natAbs.log2<10:=by
  rcases Nat.eq_zero_or_pos n.natAbs with z | z
  ·rw [z];decide
  ·exact(Nat.log2_lt (by omega)).mpr (by omega)
 have hl:(Str.ofString (toString n)).length<=11:=by
  have:=int_text_length_le (k:=10) (by decide) h2;rw [PySem.ofString_length];omega
 refine formatField_int_small (by omega) ⟨by rw [strLen_append,sizeLine_eq];omega,joinParts_nil ⟨.str (c++Str.ofString (toString n)),H1,(I1.tok _).tok _,⟨_,rfl⟩,q⟩ (by rw [strLen_append,sizeLine_eq];omega)⟩
structure Jx (K:Frag) (M:Addr):Prop where
 ga:specialIn K (.ref M) "__getattribute__"=some (some (.builtin "type.__getattribute__"))
 rd:readsIn K M (.type "type")=true
 fc:∃r,findCls K (.ref M) (.type "type") "__init__"=some r/\r= .val (.builtin "ValueError.__init__")
def Rx (K:Frag) (t:TA):TE:=fun σ H Q=>t σ H λvs H1=>∃e C fI v,vs=[.ref e,v]/\H1 e=some (B7 e C none)/\DL K C fI=true/\Q .non H1
theorem Ry {M:Addr}{x:Str}{a b:Expr}{t:TA}{pl:Sem Bool} (hx:Jx X.K M) (hg:Gl X x) (hm:X.mg x=some (.ref M)) (ha:PA X [a,b] t)
  (hdb:(x==("__debug__" :Str))=false:=by decide) (hst:starEach [a,b] X.env=(false,eval a X.env)::starEach [b] X.env:=by rfl) (hpl:(backTo p3 (starEach [b] X.env)).any (·.1)=false:=by rfl)
  (ht : eval (.Call (.Attribute (.Name x p1) "__init__" p2) [a, b] [] p3) X.env = (do
   let ov<-eval (.Name x p1) X.env
   standAt p2.atName
   let (f,first)<-holding [ov] (getMethod ov "__init__" pl)
   callWith p3 f first (backTo p3 (starEach [a,b] X.env)) (backToKw p3 (keywordEach [] X.env))):=by rfl):
  PE X (.Call (.Attribute (.Name x p1) "__init__" p2) [a,b] [] p3) (Rx X.K t):=by
 intro pins s σ H Q I h;refine methodCall_KW (pl:=pl) (Dt I hg hm ?_ hdb) ht;obtain⟨r,hf,hr⟩:=hx.fc;subst hr;refine method_cls I.kIn hx.ga (cls_value I.kIn hx.rd hf rfl ?_);have I0:=I.tok (s.toks+1);refine PyProof.Rows.callWith_builtin1 (Ap (ha p3 pins _ σ H _ I0 h) λus s1 ⟨vs,H1,I1,rv,e,C,fI,v,hv,he,hc,q⟩=>?_) hst hpl;subst hv;obtain⟨u1,u2,rfl,r1,r2⟩:=rv.two;obtain rfl:u1=Value.ref e:=r1;obtain⟨⟨t0,ht0⟩,_,_⟩:=(show ObjOk X.prog X.w H1 s1.heap e (B7 e C none) from I1.hok e _ he);refine wpAny_call (codeAny_call_builtin PySem.F.excBase_ValueError.init.plain PySem.F.excBase_ValueError.initEntry ?_);obtain⟨-,-,bm,N,nm,qn,bs,hd,sn,sub,ab,col,dd,k0,k1,k2,k3,k5,hC,T⟩:=L7 I1.kIn hc;obtain⟨hh,g,d,tk,os⟩:=s1;refine wpAny_check_init_subT PySem.F.excBase_ValueError T hC ht0 rfl ?_
 wp_walk
 have ht0':hh.get? e=some (CN C none t0):=ht0;have hp:(hh.push { cls:= .type "tuple",data:= .seq #[u2]}).get? e=some (CN C none t0):=Heap.get?_push_of_some _ ht0';have hw:((hh.push { cls:= .type "tuple",data:= .seq #[u2]}).update e (Obj.mapFields λx=>x.setIfInBounds 0 (.ref hh.objs.size))).get? e=some (CN C none hh.objs.size):=Heap.get?_update_self _ hp rfl;have I2:=I1.write (x:=e) (e:=e) (o:=B7 e C none) (t':=tk) (h':=(hh.push { cls:= .type "tuple",data:= .seq #[u2]}).update e (Obj.mapFields λx=>x.setIfInBounds 0 (.ref hh.objs.size))) (by rw [he];exact trivial) (.inl rfl)
  (λb o hb g=>(Heap.get?_update_other _ _ (Ne.symm hb)).trans (Heap.get?_push_of_some _ g)) ⟨_,hw⟩ (Jw hw)
 have eu:upd H1 e (B7 e C none)=H1:=funext λb=>by
  by_cases z:b=e
  ·rw [z,Ae];exact he.symm
  ·exact Aq z
 rw [eu] at I2;exact⟨.non,H1,I2,rfl,q⟩
def Rz (K:Frag) (ta tv:TE) (f:Str):TS:=λD σ H=>tv σ H λy H1=>ta σ H1 λx H2=>∃e C,x= .ref e/\H2 e=some (B7 e C none)/\Hj K C f/\∀a,H2 a=none->D.nx σ (upd (upd H2 e (B7 e C (some a))) a (.xd [(f,y)]))
theorem RB {o value:Expr}{f:Str}{pos':Pos}{tv:TE} (ha:PE X o ta) (hv:PE X value tv) (hs:swapsWith value (some (.Attribute o f pos')) pos.line X.env=pure false) (hex:X.ex=[]):PS X (.Assign [.Attribute o f pos'] value pos) (Rz X.K ta tv f):=by
 intro pins s σ H D I h;refine plainObj_wpAny_Assign_Attribute (Ap (hv pins s σ H _ I h) λu s1 ⟨y,H1,I1,ry,q⟩=>Ap (ha pins s1 σ H1 _ I1 q) λov s2 ⟨x,H2,I2,rx,e,C,ex,he,c,q2⟩=>?_) hs;subst ex;obtain rfl:ov=Value.ref e:=rx;obtain⟨⟨t0,ht0⟩,_,_⟩:=(show ObjOk X.prog X.w H2 s2.heap e (B7 e C none) from I2.hok e _ he);refine Rt c I2.kIn ht0 λh' tk hx hn hk=>?_
 have sz:H2 s2.heap.objs.size=none:=I2.hok.fresh (Nat.le_refl _);have ne:s2.heap.objs.size≠e:=Nat.ne_of_gt (Heap.lt_size ht0);have I3:=I2.write (x:=e) (e:=e) (o:=B7 e C (some s2.heap.objs.size)) (t':=tk) (h':=h') (by rw [he];exact trivial) (.inl rfl) (λb o hb g=>hk b o hb g) ⟨_,hx⟩ (Jw hx);have I4:=I3.track (a:=s2.heap.objs.size) (o:= .xd [(f,y)]) ?_ ?_ ?_ ?_ ?_ ?_
 ·exact⟨σ,_,I4,q2 _ sz⟩
 ·intro z;obtain⟨m,⟨o,_,_,ho,_⟩,_⟩:=I2.loc;exact absurd (Heap.lt_size ho) (by rw [<-z];exact Nat.lt_irrefl _)
 ·intro y' c' e' z;obtain⟨v,hv⟩:=I2.cell y' c' e';obtain⟨o,ho,_⟩:=hv;exact absurd (Heap.lt_size ho) (by rw [z];exact Nat.lt_irrefl _)
 ·intro p hp z;exact absurd (Heap.lt_size (I2.pin p hp).1) (by rw [z];exact Nat.lt_irrefl _)
 ·cases z:X.s₀.heap.get? s2.heap.objs.size with
  | none=>rfl
  | some o=>
   obtain⟨o1,e1⟩:=I2.base.there _ o z (by rw [hex];simp);exact absurd (Heap.lt_size e1) (Nat.lt_irrefl _)
 ·rw [Aq ne];exact sz
 ·refine⟨_,hn,λg=>?_⟩;show RelO (List.lookup g [(f,y)]) (if g=f then some u else none)
  by_cases z:g=f
  ·rw [if_pos z,z];simp [List.lookup];exact ry
  ·rw [if_neg z];have:(g==f)=false:=by simpa using z
   simp [List.lookup,this,RelO]
theorem Ac.untrack {pins:PNs}{σ:St}{H':Hp}{s:Shared}{e:Addr}{φ:Heap->Prop} (I:Ac X pins σ H' s) (hn:H e=none) (he:∀b,b≠e->H b=H' b) (hx:H' e=some (.ext φ)):Ac X pins σ H s:=by
 have no:∀b,H' b=none->H b=none:=λb z=>by
  by_cases q:b=e
  ·rw [q];exact hn
  ·rw [he b q];exact z
 have so:∀b u,b≠e->H' b=some u->H b=some u:=λb u q z=>by rw [he b q];exact z
 refine⟨I.ok,I.os,I.bare,⟨I.base.keep,I.base.slot,λb o g m x=>no b (I.base.free b o g m x),I.base.there,λb xs q=>so b _ (λz=>by have:=I.base.tups b xs q;rw [z,hx] at this;cases this) (I.base.tups b xs q),λb o xs q=>so b _ (λz=>by have:=I.base.frzs b o xs q;rw [z,hx] at this;cases this) (I.base.frzs b o xs q),λb ps q=>?_⟩,
  I.loc,I.cell,no _ I.free,λy c g=>no _ (I.freeC y c g),λp hp=>?_,λb ob g=>?_,I.len⟩
 ·obtain⟨m,z⟩:=I.base.tbls b ps q;exact⟨m,so b _ (λw=>by rw [w,hx] at z;cases z) z⟩
 ·obtain⟨a1,a2,a3⟩:=I.pin p hp;exact⟨a1,no _ a2,a3⟩
 ·have hb:b≠e:=λz=>by rw [z,hn] at g;cases g
  have g':H' b=some ob:=by rw [<-he b hb];exact g
  refine(I.hok b ob g').stay (λ_ _ _ q=>q) (λc q=>so c _ (λz=>?_) q) λc xs q=>so c _ (λz=>?_) q
  ·rw [z,hx] at q;cases q
  ·rw [z,hx] at q;cases q
def sp_init (C:Addr) (f:Str):Sp:=λvs H Q _=>match vs with
 | [.ref e,v]=>(∃n:Int,v= .int n/\n.natAbs<1000)/\H e=some (B7 e C none)/\∀a,H a=none->Q .non (upd (upd H e (B7 e C (some a))) a (.xd [(f,v)]))
 | _=>False
structure Xi (P:Program) (w:World) (K:Frag) (mg:Str->Option Value) (base:Heap) (n:Nat) (x:Str) (C:Addr) (f:Str):Prop where
 ex:∃(fI:Addr) (fd:FuncData) (ps:List Str),BE P w K mg base CX0 n fI fd ps (sp_init C f)/\DL K C fI=true/\isFn K (.ref fI)=true/\Binds K fd ps []
 at_:mg x=some (.ref C)
theorem Jy {E:XK} (D:IsDef X E) {n:Nat}{x f:Str}{C:Addr}{a:Expr}{ta:TA}{np cpos pos:Pos} (hc:X.calm=true) (F:Xi X.prog X.w X.K X.mg X.base n x C f) (hr:AJ (n+1) X.A) (hg:Gl X x) (ha:PA X [a] ta)
    (hdb:(x==("__debug__" :Str))=false:=by decide) (hes:starEach [a] X.env=(false,eval a X.env)::starEach [] X.env:=by rfl):
    PS X (.Raise (some (.Call (.Name x np) [a] [] cpos)) none pos) (λ_ σ H=>ta σ H λvs H1=>∃n:Int,vs=[.int n]/\n.natAbs<1000/\∀d,H1 d=none->E (.ref C) (some d) (upd H1 d (.xd [(f,.int n)]))):=by
  intro pins s σ H D' I h;obtain⟨⟨fI,fd,ps,F,hx,hfn,hb⟩,hm⟩:=F;have L:=L7 I.ok.mod.kin hx;refine Rm (K:=X.K) (I.ok.hd hc) (wpAny_Call_Name_kw (Dt I hg hm ?_ hdb));refine callWith_K (h₀:=X.base) I.ok.mod.kin (Rj hx) (Ap (ha cpos pins s σ H _ I h) λus s2 ⟨vs,H1,I1,rv,n,hv,hn,q1⟩=>⟨I1.kIn,?_⟩) hes rfl;subst hv;obtain⟨v,hvn⟩:∃v,v=V.int n:=⟨_,rfl⟩;rw [<-hvn] at rv q1;obtain⟨u,rfl,ru⟩:=rv.one;obtain⟨oI,hoI,hcI⟩:∃oI,s2.heap.get? fI=some oI/\oI.cls= .type "function" :=by
    obtain⟨oI,l,c⟩:=Option.map_eq_some_iff.mp (beq_iff_eq.mp hfn);exact⟨oI,I1.kIn _ _ l,c⟩
  refine(L.keeps I1.bk).call ⟨oI,hoI,hcI⟩ (by show 1<=sizeLine;rw [sizeLine_eq];omega) λh' e t0 hk hf ht0=>?_
  have nH:H1 e=none:=by
    cases z:H1 e with
    | none=>rfl
    | some o =>
      obtain⟨w,hw⟩:=ObjOk.there (I1.hok e o z);rw [hf] at hw;cases hw
  have n0:X.s₀.heap.get? e=none:=by
    cases z:X.s₀.heap.get? e with
    | none=>rfl
    | some o =>
      obtain⟨o1,e1⟩:=I1.base.there e o z (by rw [D.ex];simp);rw [hf] at e1;cases e1
  have I2:Ac X pins σ H1 { s2 with heap:=h'}:=I1.kept hk;have I3:Ac X pins σ (upd H1 e (B7 e C none)) { s2 with heap:=h'}:=by
    refine I2.track (λz=>?_) (λy c g z=>?_) (λp hp z=>?_) n0 nH (Jw ht0)
    . obtain⟨m,⟨o,_,_,ho,_⟩,_⟩:=I1.loc;rw [<-z,hf] at ho;cases ho
    . obtain⟨w,hw⟩:=I1.cell y c g;obtain⟨o,ho,_⟩:=hw;rw [z,hf] at ho;cases ho
    . have:=(I1.pin p hp).1;rw [z,hf] at this;cases this
  have hsp:sp_init C f [.ref e,v] (upd H1 e (B7 e C none)) (λr H'=>r= .non/\∃d,d≠e/\H1 d=none/\H'=upd (upd (upd H1 e (B7 e C none)) e (B7 e C (some d))) d (.xd [(f,v)])) E0:=
    ⟨⟨n, hvn, hn⟩, Ae, λd hd => (have nd : d ≠ e := λz => by rw [z, Ae] at hd; cases hd
      ⟨rfl,d,nd,(Aq nd).symm.trans hd,rfl⟩)⟩
  have r2:As [V.ref e,v] [Value.ref e,u]:= .cons rfl (.cons ru .nil);have hl:([Value.ref e,u]++[]).length=ps.length:=by
    have:=F.len _ _ _ _ hsp;exact this
  refine wpAny_call (codeAny_mono (F.run _ X.stack _ _ ⟨[.ref e,u],[]⟩ ([.ref e,u]++[]) _ _ E0 (hr.make C [u] []) (I3.env0.make C [u] []) (hb _ [.ref e,u] I3.kIn hl) r2 hsp) λr s3 hq=>?_);cases r with
  | error e=>exact hq.elim
  | ok fl =>
    cases fl with
    | ret u' =>
      obtain⟨v',H',I4,rv',ev,d,nd,hd,rfl⟩:=I3.after hq;subst ev;obtain⟨⟨t1,ht1⟩,_,_⟩:=(show ObjOk X.prog X.w _ s3.heap e (B7 e C (some d)) from I4.hok e _ (by rw [Aq (Ne.symm nd),Ae]));refine⟨rv',e,C,fI,some d,t1,rfl,L.keeps I4.bk,ht1,?_⟩;have I5:Ac X pins σ (upd H1 d (.xd [(f,v)])) s3:=I4.untrack (e:=e) (by rw [Aq (Ne.symm nd)];exact nH) (λb hb=>by
        by_cases z:b=d
        . rw [z,Ae,Ae]
        . rw [Aq z,Aq z,Aq hb,Aq hb]) (by rw [Aq (Ne.symm nd),Ae];rfl)
      exact D.madeD I5 n0 (by rw [Aq (Ne.symm nd)];exact nH) ht1 rfl rfl rfl rfl (q1 d hd)
    | next=>exact False.elim hq
    | brk=>exact False.elim hq
    | cont=>exact False.elim hq
def D9 (a D:Addr) (dx:Option Addr):HO:= .ext λh=>∃oe vs,h.get? a=some oe/\oe.cls= .ref D/\oe.dict=dx/\oe.data= .fields vs
def RD (K:Frag):List V->Hp->VK->Prop:=λxs H Q=>∃(e C:Addr) (dx:Option Addr) (v:V) (b:Bool),xs=[.ref e,v]/\H e=some (D9 e C dx)/\D7 K C/\(∀u,RelV v u->PySem.W.kitOne K (.ref C) u=some b)/\Q (.bl b) H
theorem BK (K:Frag) (hK:X.K=K:=by rfl):BR X (.builtin "isinstance") (RD K):=by
 subst hK;intro pins s σ H vs us Q I rv h;obtain⟨e,C,dx,v,b,rfl,he,O,k,q⟩:=h;obtain⟨u1,u2,rfl,r1,r2⟩:=rv.two;obtain rfl:u1=Value.ref e:=r1;obtain⟨⟨oe,vs,h1,h2,_⟩,_,_⟩:=(show ObjOk X.prog X.w H s.heap e (D9 e C dx) from I.hok e _ he);exact PySem.W.kia_one (Q1 O) I.kIn ⟨oe,h1,h2⟩ (k u2 r2) (λz=>nomatch z) λtk=>⟨.bl b,H,I.tok _,rfl,q⟩
def RE (K:Frag) (ta:TE) (f:Str):TE:=fun σ H Q=>ta σ H λx H1=>∃e C a fs v,x= .ref e/\H1 e=some (D9 e C (some a))/\H1 a=some (.xd fs)/\D7 K C/\hasDictIn K C=true/\findIn K (.ref C) f=some none/\fs.lookup f=some v/\Q v H1
theorem RF {e:Expr}{f:Str} (he:PE X e ta) (hb:attributeBase e f X.env (eval e X.env)=eval e X.env):PE X (.Attribute e f pos) (RE X.K ta f):=by
 intro pins s σ H Q I h;refine KA hb (Ap (he pins s σ H _ I h) λu s1 ⟨x,H1,I1,rx,e,C,a,fs,v,ex,ea,hx,O,hh,hn,l,q⟩=>?_);subst ex;obtain rfl:u=Value.ref e:=rx;obtain⟨⟨oe,vs,h1,h2,h3,h4⟩,_,_⟩:=(show ObjOk X.prog X.w H1 s1.heap e (D9 e C (some a)) from I1.hok e _ ea);obtain⟨mA,hn1,r⟩:=(show ObjOk X.prog X.w H1 s1.heap a (.xd fs) from I1.hok a _ hx);obtain⟨u,hu',ru⟩:=RelO.some_of (v:=v) (o:=mA f) (by rw [<-l];exact r f);obtain⟨od,ho,hl⟩:=Kw hn1;have J:InstAt s1.heap e oe C (some od):=⟨h1,h2,by unfold notCls;rw [h4],by rw [h3];exact ho⟩;refine Ru O I1.kIn J (v:=u) (findObj_own hh hn rfl (by rw [hl,hu'])) (Kz ru) ⟨v,H1,I1.tok _,ru,q⟩
end
end L2
end
section
namespace L2
def FZ (W:Addr->Option Addr->Hp->List V->Prop) (Q:VK):XK:=λc dx H2=>∃C ws,c= .ref C/\W C dx H2 ws/\∀H3 t,(∀b o,H2 b=some o->H3 b=some o)->H3 t=some (.tup ws)->Q (.ref t) H3
def Fg (W:Addr->Option Addr->Hp->List V->Prop):Sp:=λvs H Q _=>match vs with
 | [.ref e]=>∃C dx ws,H e=some (D9 e C dx)/\W C dx H ws/\∀H3 t,(∀b o,H b=some o->H3 b=some o)->H3 t=some (.tup ws)->Q (.ref t) H3
 | _=>False
def EA (P:Program) (w:World) (K:Fgx) (mg:Str->Option Value) (base:Heap) (k:Nat) (W:Addr->Option Addr->Hp->List V->Prop) (outer:List Env) (s:Shared):Sp:=λvs H Q _=>match vs with
 | [.ref f] => PySem.W.FnAt f s.heap /\ H f = none /\ f ∉ AB outer /\ ∀ (A' : Around) (outer' : List Env) (s' : Shared), AJ k A' -> Cm P w K mg base A' outer' s' H -> Un (AB outer) [] H H s.heap s'.heap ->
   codeAny (model P w) A' (.call (.ref f) ⟨[],[]⟩) (CR (Bj P w) outer' P w H s' (Js Q) (FZ W Q)) s'
 | _=>False
section
variable {X : Cx} {H : Hp} {f : Addr} {Q : VK} {W : Addr -> Option Addr -> Hp -> List V -> Prop}
theorem RG {k:Nat}{W0:VSP}{x:Str}{p pos:Pos} (hN:X.N[0]? =some x) (hv:Eh X.env.scope x) (hdb:(x==("__debug__" :Str))=false) (hcd:(x==("__classdict__" :Str))=false) (hex:X.ex=[]) (h0:X.H₀=H)
  (hr:AJ k X.A) (hs:EA X.prog X.w X.K X.mg X.base k W X.outer X.s₀ [.ref f] H Q E0)
  (hW:∀pins σ sc v s',Ac X pins σ H sc->Bj X.prog X.w X.stack H sc (FZ W Q) v s'->W0 v s'):
  PE (X.wish W0) (.Call (.Name x p) [] [] pos) (fun σ H' Q'=>σ[0]? =some (some (.ref f))/\H'=H/\∀v H2,Js Q v H2->Q' v H2):=by
 intro pins s σ H' Q' I ⟨hσ,e,hq⟩;subst e;obtain⟨hf,hn,hfr,run⟩:=hs;refine wpAny_Call_Name_kw (Ap ((Gn (X:=X.wish W0) (i:=0) hN hv hdb hcd) pins s σ H' (λv H2=>v= .ref f/\H2=H') I ?_) λu s2 ⟨v,H2,I2,r,q⟩=>?_)
 ·exact⟨.ref f,hσ,rfl,rfl⟩
 obtain⟨rfl,rfl⟩:=q;have hu:u= .ref f:=r;subst hu;have I3:Ac X pins σ H2 s2:=I2.unwish;have un:Un (AB X.outer) [] H2 H2 X.s₀.heap s2.heap:=by
  have:=I3.base;rw [hex,h0] at this;exact this
 obtain⟨oc,od,fd,sl,ho⟩:=hf;have ho2:=un.keep f _ ho hn hfr (by simp);refine PySem.W.callWith_F0 ⟨oc,od,fd,sl,ho2⟩ ?_;refine wpAny_call (codeAny_mono (run X.A X.stack s2 hr I3.env0 un) λr s' hc=>?_);cases r with
 | error e=>exact hW pins σ s2 e s' I3 hc
 | ok fl=>
  cases fl with
  | ret u=>
   obtain⟨v,H3,J,rv,qv⟩:=I2.after hc;exact⟨v,H3,J,rv,hq v H3 qv⟩
  | next=>exact False.elim hc
  | brk=>exact False.elim hc
  | cont=>exact False.elim hc
end
section
variable {X : Cx} {H : Hp} {f M : Addr} {Q : VK} {W : Addr -> Option Addr -> Hp -> List V -> Prop} {s1 : Shared}
theorem RH {wn:Str}{k n:Nat}{i1 i2:Nat}{p1 p2 p3 p4 p5 p6 p7 p8 p9 p10 p11 p12:Pos} (stk:X.stack=X.env::X.outer) (fr:X.env.frame=some X.env.locals) (hex:X.ex=[]) (hpn:X.pn=[]) (hc:X.calm=true) (h0:X.H₀=H) (hN:X.N=[("_law_call" :Str),("_law_e" :Str)])
  (k0:X.env.scope.names.lookup ("_law_call" :Str)=some .local) (k1:X.env.scope.names.lookup ("_law_e" :Str)=some .local) (gM:Gl X "MainError") (gw:Gl X wn) (hM:X.mg "MainError"=some (.ref M))
  (hB:PySem.W.mroIn X.K M (.type "BaseException")=some true) (hT:PySem.W.typeIn X.K (.ref M)=some (.type "type")) (hWM:∀C dx H ws,W C dx H ws->PySem.W.mroIn X.K C (.ref M)=some true) (hWe:∀C dx H H' ws,W C dx H ws->(∀b o,H b=some o->H' b=some o)->W C dx H' ws) (Dw:Fd X.prog X.w X.K X.mg X.base n wn ["_law_e"] (Fg W))
  (hdb:(wn==Str.ofString "__debug__")=false) (hr:AJ k X.A) (hn:n<=k) (hs:EA X.prog X.w X.K X.mg X.base k W X.outer X.s₀ [.ref f] H Q E0) (I:Ac X [] [some (.ref f),none] H s1):
  wpAny (model X.prog X.w) X.A (execs [LY wn i1 i2 p1 p2 p3 p4 p5 p6 p7 p8 p9 p10 p11 p12] X.env) (λfl s'=>match fl with | .ret u=>∃v σ H',Ac X [] σ H' s'/\RelV v u/\Q v H' | _=>False) (λ_ _=>False) s1:=by
 have hfr:X.A.frames=some (X.env::X.outer):=by rw [<-stk];exact I.ok.frames
 refine wpAny_execs_cons (wpAny_Try_except ?_);have hbody:PSs (X.wish λv s'=>∃pins σ sc,Ac X pins σ H sc/\Bj X.prog X.w X.stack H sc (FZ W Q) v s') [.Return (some (.Tuple [.Constant (.str "told") i1 p1,.Call (.Name "_law_call" p2) [] [] p3] i2 p4)) p5] _:=
  Aj (Au (BG (AE Ao (AE (RG (k:=k) (by rw [hN];rfl) (.inl k0) (by decide) (by decide) hex h0 hr hs λpins σ sc v s' a b=>⟨pins,σ,sc,a,b⟩) BY))))
 refine wpAny_mono (hbody [] s1 [some (.ref f),none] H { nx:=λ_ _=>False,rt:=Q} (I.wish _) ?_) (λfl s' z=>?_) λv s' z=>?_
 ·exact⟨rfl,rfl,λv H2 hq p hp=>hq p hp⟩
 ·cases fl with
  | ret u=>
   obtain⟨v,σ',H',J,rv,q⟩:=z;exact⟨v,σ',H',J.unwish,rv,q⟩
  | next=>obtain⟨_,_,_,q⟩:=z;exact q.elim
  | brk=>obtain⟨_,_,_,q⟩:=z;exact q.elim
  | cont=>obtain⟨_,_,_,q⟩:=z;exact q.elim
 obtain⟨pins,σ,sc,Ic0,C,a,H2,dx,rfl,x,⟨oe0,he0,hdx⟩,C',ws,hC',hw,hq⟩:=z;cases hC';have Ic:Ac X [] σ H sc:=Ic0.pins_of λp hp=>absurd hp (by simp)
 obtain⟨B,t,fl,kB,tB,hHB⟩:=x.fly;have ff:=fl.2.2.1;have nBa:B.get? a=none:=fl.2.1;have fl0:=fl;rw [stk] at fl0;refine wpAny_mono ((LS _ _).any (wpAny_looks_onW (Q:=λ_ s2=>∃h4,s2= { s' with heap:=h4}/\Heap.HeldW B (X.env::X.outer) a (.ref C) t X.env.locals h4/\s'.heap.UpToSlots h4) hfr fr fl0 λh4 held4 up4=>⟨h4,rfl,held4,up4⟩)) (λ_ s2 z=>?_) λ_ _ z=>z
 obtain⟨⟨h4,rfl,held4,up4⟩,kd4⟩:=z;refine wpAny_mono ((Jr _ _).any (wpAny_landsW (Q:=λ_ s2=>∃h5,s2= { s' with heap:=h5}/\Heap.FlyingW B (X.env::X.outer) a (.ref C) t h5/\h4.UpToSlots h5) held4 λh5 fl5 up5=>⟨h5,rfl,fl5,up5⟩)) (λ_ s2 z=>?_) λ_ _ z=>z
 obtain⟨⟨h5,rfl,fl5,up5⟩,kd5⟩:=z;have up:=up4.trans up5;have I5:Ac X [] σ H2 { s' with heap:=h5}:=Ic.call' (s':= { s' with heap:=h5}) (ch:=[]) x.os (LV x.un kB tB ff fl5.1 up) (hHB.kept fl5.1) x.bare λb z=>absurd z (by simp)
 have hA:(X.A.mark (some (.ref a))).frames=some X.stack:=I.ok.frames;have I5h:=I5.hot (A:=X.A.mark (some (.ref a))) hA;refine wpAny_handleBy_cons (codeAny_handlers_test ?_) (by intro q;cases q);refine Dt (X:=X.hot (X.A.mark (some (.ref a)))) I5h gM hM ?_;have at5:ExcAt h5 a C:=by
  obtain⟨oe,vs,h1,h2,_⟩:=fl5.first
  exact⟨oe,h1,h2⟩
 refine Q7 I5.kIn at5 (hWM C dx H2 ws hw) hB hT ?_;refine codeAny_handlers_suite_as ?_;refine wpAny_mono ((Jr _ _).any (lands_againW (Q:=λ_ s2=>∃h6,s2= { s' with heap:=h6}/\Heap.FlyingW B (X.env::X.outer) a (.ref C) t h6/\h5.UpToSlots h6) fl5 λh6 fl6 up6=>⟨h6,rfl,fl6,up6⟩)) (λ_ s2 z=>?_) λ_ _ z=>z
 obtain⟨⟨h6,rfl,fl6,up6⟩,kd6⟩:=z;have I6:Ac X [] σ H2 { s' with heap:=h6}:=Ic.call' (s':= { s' with heap:=h6}) (ch:=[]) x.os (LV x.un kB tB ff fl6.1 (up.trans up6)) (hHB.kept fl6.1) x.bare λb z=>absurd z (by simp)
 obtain⟨oe,vs,he1,he2,he3,_⟩:=fl6.first
 have hdx6:oe.dict=dx:=(((kd4.trans kd5).trans kd6).get he0 he1).trans hdx;have nH2:H2 a=none:=by
  cases q:H2 a with
  | none=>rfl
  | some o=>
   obtain⟨u,hu⟩:=ObjOk.there (hHB a o q);rw [nBa] at hu;cases hu
 have old:∀b o,sc.heap.get? b=some o->H b=none->b ∉ AB X.stack->b≠a:=λb o e n hb z=>by
  have:=kB b o e n hb;rw [z,nBa] at this;cases this
 have frA:a ∉ AB X.stack:=λz=>by
  have f6:=fl6.2.2.1;rw [<-stk] at f6;obtain⟨_,o',ho',hd⟩:=f6.mem z;rw [he1] at ho';cases ho';exact hd vs he3
 have na:a≠X.env.locals:=λz=>frA (by rw [stk,z];exact mem_filterMap.mpr ⟨X.env,.head _,fr⟩)
 have I7:Ac X [] σ (upd H2 a (D9 a C dx)) { s' with heap:=h6}:=by
  refine I6.track na (λy c e z=>?_) (λp hp z=>?_) ?_ nH2 ⟨⟨oe,vs,he1,he2,hdx6,he3⟩,⟨oe,he1⟩,λh1 h2 ⟨o,vs,e1,e2⟩ k=>⟨o,vs,k o e1,e2⟩⟩
  ·obtain⟨v,hv⟩:=Ic.cell y c e;obtain⟨o,ho,hd⟩:=hv;refine old c o ho (Ic.freeC y c e) (λhf=>?_) z;rcases mem_cons.mp (Ic.stkSub c hf) with q | q
   ·exact Ic.cne y c e q
   ·exact absurd q (z ▸ λq=>frA (by rw [stk];obtain⟨y',hy,hf'⟩:=mem_filterMap.mp q;exact mem_filterMap.mpr ⟨y',.tail _ hy,hf'⟩))
  ·rw [hpn] at hp;exact absurd hp (by simp)
  ·cases q:X.s₀.heap.get? a with
   | none=>rfl
   | some o=>
    exfalso
    obtain⟨o1,e1⟩:=Ic.base.there a o q (by rw [hex];simp);obtain⟨o2,e2⟩:=tB a o1 e1 frA;rw [nBa] at e2;cases e2
 have hN2:X.N.Nodup:=by rw [hN];decide
 have hi:X.N[1]? =some ("_law_e" :Str):=by rw [hN];rfl
 have I7h:=I7.hot (A:=X.A.mark (some (.ref a))) hA;refine EN (X:=X.hot (X.A.mark (some (.ref a)))) (v:= .ref a) I7h hN2 hi (.inl k1) rfl (λs8 I8=>?_) (.inr k1);have hsuite:PSs (X.hot (X.A.mark (some (.ref a)))) [.Return (some (.Call (.Name wn p7) [.Name "_law_e" p8] [] p9)) p10] _:=
  Aj (Au (Q8 (hdb:=hdb) (X:=X.hot (X.A.mark (some (.ref a)))) Dw ((hr.q.mono hn).mark _) gw (AE (Gn (i:=1) hi (.inl k1) (by decide) (by decide)) BY)))
 have hσl:1<σ.length:=by rw [Ic.len,hN];decide
 refine wpAny_mono (hsuite [] s8 (σ.set 1 (some (.ref a))) (upd H2 a (D9 a C dx)) { nx:=λ_ _=>False,rt:=Q} I8 ?_) (λfl s9 z=>?_) λ_ _ z=>z.elim
 ·refine⟨.ref a,getElem?_set_self hσl,C,dx,ws,Ae,hWe _ _ _ _ _ hw (λb o e=>by rw [Aq (λz=>by rw [z,nH2] at e;cases e)];exact e),λH3 t3 e3 h3=>?_⟩;exact hq H3 t3 (λb o e=>e3 b o (by rw [Aq (λz=>by rw [z,nH2] at e;cases e)];exact e)) h3
 ·cases fl with
  | ret u=>
   obtain⟨v,σ',H',J,rv,q⟩:=z;have J':Ac X [] σ' H' s9:=Ac.cool I.ok J;exact Q6 J' hN2 hi k1 λs10 I10=>⟨v,_,H',I10,rv,q⟩
  | next=>obtain⟨_,_,_,q⟩:=z;exact q.elim
  | brk=>obtain⟨_,_,_,q⟩:=z;exact q.elim
  | cont=>obtain⟨_,_,_,q⟩:=z;exact q.elim
end
theorem RI {wn:Str}{P:Program}{w:World}{K:Fgx}{mg:Str->Option Value}{base:Heap}{st:Stmt}{k n:Nat}{M:Addr}{W:Addr->Option Addr->Hp->List V->Prop}{i1 i2:Nat}{p1 p2 p3 p4 p5 p6 p7 p8 p9 p10 p11 p12:Pos}
  (F:Df K mg "_law_said" st ["_law_call"]) (S:At ["_law_call","_law_e"] ["_law_call"] (Ak st)) (hb:Bf st=[LY wn i1 i2 p1 p2 p3 p4 p5 p6 p7 p8 p9 p10 p11 p12])
  (k0:(Ak st).names.lookup ("_law_call" :Str)=some .local) (k1:(Ak st).names.lookup ("_law_e" :Str)=some .local) (gM:(Ak st).names.lookup ("MainError" :Str)=some .globalImplicit) (gw:(Ak st).names.lookup wn=some .globalImplicit)
  (hM:mg "MainError"=some (.ref M)) (hB:PySem.W.mroIn K M (.type "BaseException")=some true) (hT:PySem.W.typeIn K (.ref M)=some (.type "type")) (hWM:∀C dx H ws,W C dx H ws->PySem.W.mroIn K C (.ref M)=some true) (hWe:∀C dx H H' ws,W C dx H ws->(∀b o,H b=some o->H' b=some o)->W C dx H' ws)
  (Dw:Fd P w K mg base n wn ["_law_e"] (Fg W)) (hn:n<=k) (hdb:(wn==Str.ofString "__debug__")=false:=by decide):Hg P w K mg base (k+1) "_law_said" ["_law_call"] (EA P w K mg base k W):=by
 obtain⟨f,fd,hF,hm,hbd⟩:=F.ex;have kp:=hF.kp;obtain⟨oc,od,kV,doc,pm,an,cdv,ct,osl,rfl,lk,hcd⟩:=hF.ex;refine⟨f,_,λA outer s H args us vs Q hr e0 hbt r hsp=>?_,hm,kp,hbd⟩;have hl:∃g,vs=[.ref g]:=by
  unfold EA at hsp;split at hsp
  ·exact⟨_,rfl⟩
  ·exact hsp.elim
 obtain⟨g,rfl⟩:=hl;refine LW lk hcd S hr.q e0 hbt r rfl λs1 I=>?_
 have eA:({ A with handled:=none}:Around)=A:=by
  obtain⟨h,d,fs,gs,u⟩:=A;have:h=none:=hr.hd;subst this
  rfl
 rw [eA] at I;rw [hb];have hr':=hr.deeper (envOfC "_law_said" (Ak st) s.heap.objs.size f cdv);have I2:Ac (BS CX0 P w K mg base ["_law_call","_law_e"] "_law_said" (Ak st) f cdv A outer s H E0) [] [some (.ref g),none] H s1:=I;refine wpAny_mono (RH (X:=BS CX0 P w K mg base ["_law_call","_law_e"] "_law_said" (Ak st) f cdv A outer s H E0) (k:=k) rfl rfl rfl rfl rfl rfl rfl k0 k1 gM gw hM hB hT hWM hWe Dw hdb hr' hn hsp I2) (λfl s' z=>?_) λ_ _ z=>z
 cases fl with
 | ret u=>
  obtain⟨v,σ,H',J,rv,q⟩:=z;exact⟨v,H',J.os,J.bare,J.base,J.hok,rv,q⟩
 | next=>exact z.elim
 | brk=>exact z.elim
 | cont=>exact z.elim
section
variable {X : Cx} {scope : Scope} {N' : List Str} {cap : List (Option Nat)} {P c : Addr} {ql : Str} {params : Arguments} {body : Expr} {lpos p pos : Pos} {W : Addr -> Option Addr -> Hp -> List V -> Prop} {k : Nat} {te : XK -> TE}
def L9 (P:Addr) (ql:Str) (W:Addr->Option Addr->Hp->List V->Prop) (cap:List (Option Nat)) (te:XK->TE):TE:=fun σ H Q=>TabIn H P ql/\∀H1,TabIn H1 P ql->(∀b o,H b=some o->b≠P->H1 b=some o)->te (FZ W Q) (AM cap σ) H1 (Js Q)
theorem Ma (F:Hg X.prog X.w X.K X.mg X.base (k+1) "_law_said" ["_law_call"] (EA X.prog X.w X.K X.mg X.base k W)) (hr:AJ (k+1) X.A) (hg:Gl X "_law_said") (hfn:∀x,X.fn x=true) (hcode:X.env.code= .ref c) (hC:PySem.W.CodeHd X.base c P) (hBu:X.base.BuiltinsAt X.mg P)
  (B:AH X.env.scope X.N scope N' cap) (nc:∀x∈scope.names,x.2≠ .cell) (co:scope.isCoroutine=false) (gen:scope.isGenerator=false) (hq:X.env.qual++ "<lambda>"=ql) (hdef:defaultsOf params X.env=([],[]))
  (hbind:∀clos pm c' ctv,bindArgs (PySem.W.kla_fn "<lambda>" ql params body scope clos pm (.ref c') ctv) ⟨[],[]⟩=pure [])
  (hbody:∀(A:Around) (outer:List Env) (s:Shared) (H:Hp) (f c':Addr) (E:XK),AJ k A->PE (FW X.prog X.w X.K X.mg X.base N' ql scope f (.ref c') (A2 X.env.cells scope.names []) A outer s H E) body (te E))
  (he:starEach [.Lambda params body scope lpos] X.env=(false,eval (.Lambda params body scope lpos) X.env)::starEach [] X.env:=by rfl) (hpl:(backTo pos (starEach [] X.env)).any (·.1)=false:=by rfl):
  PE X (.Call (.Name "_law_said" p) [.Lambda params body scope lpos] [] pos) (L9 P ql W cap te):=by
 intro pins s σ H Q I ⟨hT,hqq⟩;obtain⟨f0,fd,run,hm,hk,hb⟩:=F.ex;refine wpAny_Call_Name_kw (Dt I hg hm ?_ (by decide));refine PySem.W.callWith_K (h₀:=X.base) I.ok.mod.kin hk (spliced_more (Rb I hT hcode hC hBu B hq hdef λs1 H1 f c' pm ctv I1 T1 k1 n1 n2 o1 c1=>spliced_none ⟨I1.kIn,?_⟩)) he hpl;have hbb:=hb s1 [.ref f] I1.kIn rfl;refine wpAny_call (codeAny_mono (run X.A X.stack s1 H1 ⟨[.ref f],[]⟩ [.ref f] [.ref f] Q hr I1.env0 hbb (.cons rfl .nil) ?_) λr s' hq=>?_)
 ·refine⟨⟨_,_,_,_,o1⟩,n1,n2,λA' outer' s' hr' e' un=>?_⟩;refine Q5 I1 B nc co gen hr' e' (λx cc v e ic=>?_) (un.keep f _ o1 n1 n2 (by simp)) (e'.hok c' _ c1).1 (hbind _ _ _ _) (hbody A' outer' s' H1 f c' _ hr') (hqq H1 T1 k1);obtain⟨o,ho,hd⟩:=ic;refine⟨o,un.keep cc o ho (I1.freeC x cc e) (λz=>?_) (by simp),hd⟩;rcases mem_cons.mp (I1.stkSub cc z) with q | q
  ·exact I1.cne x cc e q
  ·obtain⟨_,o',ho',_⟩:=I1.ok.funs.mem q;exact absurd (Nat.lt_of_lt_of_le (Heap.lt_size ho') (I1.ok.cab x cc (hfn x) e)) (Nat.lt_irrefl _)
 ·cases r with
  | error e=>exact hq.elim
  | ok fl=>
   cases fl with
   | ret u=>exact I1.after hq
   | next=>exact False.elim hq
   | brk=>exact False.elim hq
   | cont=>exact False.elim hq
end
def Bx (x y:Str):Str×Str×Str:=match Builtin.Str.occurrences x y 0 x.length 1 with
 | i::_=>(Builtin.Str.strSub x 0 i,y,Builtin.Str.strSub x (i+y.length) x.length)
 | []=>(x,Str.empty,Str.empty)
def Hk (x:Str):It:=⟨λi _=>i<x.cps.size,λi H v H'=>H'=H/\∃c,x.cps[i]? =some c/\v= .str ⟨#[c]⟩,λi _=>i=x.cps.size⟩
theorem RJ {P:Program}{w:World}{K:Fgx}{tg:Expr} (x:Str) (t:Tok) (it:Addr) {ty:String} (hty:ty="str_ascii_iterator" \/ty="str_iterator"):DS P w K tg (Hk x) [it] it (λi h=>h.IsStrIter it ty x t i) where
 mem:=mem_singleton.mpr rfl
 obj:=λi h st b hb=>by
  obtain rfl:=mem_singleton.mp hb;obtain⟨o,e,_,d⟩:=st;exact⟨o,e,λv z=>by rw [d] at z;cases z⟩
 keep:=λi h h' st k=>by
  obtain⟨o,e,r⟩:=st;exact⟨o,k it (mem_singleton.mpr rfl) o e,r⟩
 item:=by
  intro X hP hw hK hc i pins s σ H E I hf st hg;subst hP hw hK;obtain⟨f0,f1,f2,f3,f4,f5⟩:=hf it (mem_singleton.mpr rfl);have hx:x.cps[i]? =some x.cps[i]:=Array.getElem?_eq_getElem hg;have fin:∀h',h'.IsStrIter it ty x t (i+1)->Heap.SameBut it s.heap h'->∃u,some (Value.str ⟨#[x.cps[i]]⟩ s.toks)=some u/\
   wpAny (model X.prog X.w) X.A (letOwnedTupleGo tg (.ref it) u) (λ_ s2=>∃v H',Ac X pins σ H' s2/\RelV v u/\(Hk x).yld i H v H'/\s2.heap.IsStrIter it ty x t (i+1)/\∀b∈ [it],H' b=none) E { s with heap:=h',toks:=s.toks+1}:=λh' st' sb=>by
   have I1:Ac X pins σ H { s with heap:=h',toks:=s.toks+1}:=I.turned (t':=s.toks+1) (λb o hb e=>(sb.2 b hb).trans e) f0 f1 f3 f4 f5;obtain⟨o,e,c,d⟩:=id st';exact⟨_,rfl,Gq (s:= { s with heap:=h',toks:=s.toks+1}) e c d (by rcases hty with rfl | rfl<;>decide) ⟨.str ⟨#[x.cps[i]]⟩,H,I1,⟨_,rfl⟩,⟨rfl,_,hx,rfl⟩,st',λb hb=>(hf b hb).1⟩⟩
  rcases hty with rfl | rfl
  ·exact wpAny_pyNext_ascii_item st hx fin
  ·exact wpAny_pyNext_wide_item st hx fin
 done:=by
  intro X hP hw hK hc i pins s σ H E I hf st hg;subst hP hw hK;obtain⟨f0,f1,f2,f3,f4,f5⟩:=hf it (mem_singleton.mpr rfl);have hx:x.cps[i]? =none:=Array.getElem?_eq_none (Nat.le_of_eq hg.symm);rcases hty with rfl | rfl
  ·exact wpAny_pyNext_ascii_end (I.ok.hd hc) st hx λh' eb=>⟨rfl,I.turned (t':=s.toks) (λb o hb e=>eb b o hb e) f0 f1 f3 f4 f5⟩
  ·exact wpAny_pyNext_wide_end (I.ok.hd hc) st hx λh' eb=>⟨rfl,I.turned (t':=s.toks) (λb o hb e=>eb b o hb e) f0 f1 f3 f4 f5⟩
 self:=λ_ _ _ _ _ st h=>by
  rcases hty with rfl | rfl
  ·exact wpAny_pyIter_striter_ascii st h
  ·exact wpAny_pyIter_striter_wide st h
section
variable {X : Cx} {tg : Expr}
def RK (tl:TE):TI:=fun σ H R=>tl σ H λv H1=>∃x,v= .str x/\R (Hk x) H1
theorem RL {l:Expr}{tl:TE} (hl:PE X l tl):PI X tg l (RK tl):=by
 intro pins s σ H R I h;refine Ap (hl pins s σ H _ I h) λv s1 ⟨y,H1,I1,r1,x,e,q⟩=>?_
 subst e;obtain⟨t,rfl⟩:=r1;have fin:∀ty,(ty="str_ascii_iterator" \/ty="str_iterator")->IE X pins σ tg R (.ref s1.heap.objs.size) { s1 with heap:=s1.heap.push { cls:= .type ty,data:= .fields #[.str x t,.int 0 0]}}:=λty hty=>by
  refine⟨s1.heap.objs.size,[s1.heap.objs.size],_,_,H1,rfl,I1.kept (t':=s1.toks) λb o e=>Heap.get?_push_of_some _ e,RJ x t _ hty,⟨_,Heap.get?_push_size _ rfl,rfl,rfl⟩,λb hb=>?_,q⟩;have e:b=s1.heap.objs.size:=mem_singleton.mp hb;subst e;exact I1.fpOk (Nat.le_refl _) (I1.hok.fresh (Nat.le_refl _))
 cases ha:x.cps.all (· <128) with
 | true=>exact wpAny_pyIter_ascii ha (fin _ (.inl rfl))
 | false=>exact wpAny_pyIter_wide ha (fin _ (.inr rfl))
theorem RM {x:Str}{cap:List (Option Nat)}{g:TG}{tt:TT}{te:TE}{σ:St}{Q:List V->Hp->Prop}{H:Hp} (Pv:Nat->List V->Hp->Prop) (hn:x.cps.size<=100000) (h0:Pv 0 [] H) (hz:∀i ys H,Pv i ys H->ys.length<=i)
  (hs:∀i c ys H,x.cps[i]? =some c->Pv i ys H->g (.str ⟨#[c]⟩) (AM cap σ) H fun σ2 H2=>Keep (AM cap σ) σ2/\tt σ2 H2 λb H3=>br b (te σ2 H3 λy H4=>Pv (i+1) (ys++[y]) H4) (Pv (i+1) ys H3))
  (hd:∀ys H,Pv x.cps.size ys H->Q ys H):Et (Hk x) cap g tt te σ Q H:=
 EZ x.cps.size Pv hn h0 hz (λi ys H hi p=>⟨hi,λv H' ⟨e,c,hc,y⟩=>by subst e y;exact hs i c ys _ hc p⟩) λys H p=>⟨rfl,hd ys H p⟩
theorem RN:OpR X (compareOp .NotIn) (λx y H Q=>∃i j,x= .str i/\y= .str j/\Q (.bl (!(!(Builtin.Str.occurrences j i 0 j.length 1).isEmpty))) H):=by
 intro pins s σ H x y v u Q I rx ry h;obtain⟨i,j,rfl,rfl,q⟩:=h;obtain⟨t,rfl⟩:=rx;obtain⟨t',rfl⟩:=ry;exact P.notIn_str (AR I q rfl)
def RO:V->List V->Hp->VK->Prop:=λx vs H Q=>∃t y,x= .str t/\vs=[.str y]/\(y.length==0)=false/\t.length<=sizeLine/\∀u,H u=none->Q (.ref u) (upd H u (.tup [.str (Bx t y).1,.str (Bx t y).2.1,.str (Bx t y).2.2]))
theorem RP:Eo X "str.partition" RO:=by
 intro pins s σ H x vs v us Q I rx rv h;obtain⟨t,y,rfl,rfl,hy,hz,q⟩:=h;obtain⟨t1,rfl⟩:=rx;obtain⟨u,rfl,t2,rfl⟩:=rv.one;refine call_meets F.slot_str_partition rfl F.entry_str_partition (F.args_str_partition_2 _ _) (meets_str_partition t y t1 t2 hy hz) ?_;have q':=q _ I.fresh;have z3:∀a b c:V,[a,b,c].length<=sizeLine:=λ_ _ _=>by show 3<=sizeLine;decide
 unfold Bx at q';split
 ·rename_i i r e;rw [e] at q';refine⟨.ref _,_,?_,rfl,q'⟩;refine I.laid (λb o e=>Heap.get?_push_of_some _ e) (Nat.le_refl _) ⟨z3 _ _ _,[.str (Builtin.Str.strSub t 0 i) s.toks,.str y t2,.str (Builtin.Str.strSub t (i+y.length) t.length) (s.toks+1)],.cons ⟨_,rfl⟩ (.cons ⟨_,rfl⟩ (.cons ⟨_,rfl⟩ .nil)),?_⟩;exact⟨_,Heap.get?_push_size s.heap rfl,rfl,0,rfl⟩
 ·rename_i e;rw [e] at q';refine⟨.ref _,_,?_,rfl,q'⟩;refine I.laid (λb o e=>Heap.get?_push_of_some _ e) (Nat.le_refl _) ⟨z3 _ _ _,[.str t t1,.str Str.empty s.toks,.str Str.empty s.toks],.cons ⟨_,rfl⟩ (.cons ⟨_,rfl⟩ (.cons ⟨_,rfl⟩ .nil)),?_⟩;exact⟨_,Heap.get?_push_size s.heap rfl,rfl,0,rfl⟩
def RQ:V->List V->Hp->VK->Prop:=λx vs H Q=>∃l xs y,∃i:Nat,x= .ref l/\vs=[.int i,y]/\H l=some (.lst xs)/\i<=1000000/\xs.length<1000000/\Q .non (upd H l (.lst (xs.take i++[y]++xs.drop i)))
theorem RR:Eo X "list.insert" RQ:=by
 intro pins s σ H x vs v us Q I rx rv h;obtain⟨l,xs,y,i,rfl,rfl,hH,hi,hz,q⟩:=h;cases rx;obtain⟨u1,u,rfl,⟨t,rfl⟩,ru⟩:=rv.two;obtain⟨z,its,n,r,hl,e⟩:=I.lstM hH;have fit:¬(!Builtin.List.listFitsIndex (i:Int))=true:=by
  rw [fitsIndex_both (by omega) (by omega)];exact Bool.false_ne_true
 have sz:1000000<=sizeLine:=by rw [sizeLine_eq];exact Nat.le_of_ble_eq_true rfl
 have hsz:its.toArray.size<=sizeLine:=by rw [size_toArray];omega
 obtain⟨S,M,hS⟩:∃S,Meets (Builtin.«list.insert» ⟨[.ref l,.int (i:Int) t,u],[]⟩) S/\∀A R,R (Except.ok (Flow.ret Value.none)) { s with heap:=s.heap.update l (Obj.mapSeq λxs=>(xs.extract 0 (if (i:Int)<0 then((i:Int)+((xs.size:Nat):Int)).toNat else min (i:Int).toNat xs.size)).push u++xs.extract (if (i:Int)<0 then((i:Int)+((xs.size:Nat):Int)).toNat else min (i:Int).toNat xs.size))}->S A R s:=
  ⟨_,@AutoListH.list_insert_list_int_val_1 l its.toArray n (i:Int) t u fit hsz,λ_ _ h=>⟨e,h⟩⟩
 refine call_meets F.slot_list_insert ⟨_,e,rfl⟩ F.entry_list_insert (F.args_list_insert_3 _ _ _) (by with_reducible assumption) (hS _ _ ?_);refine⟨.non,_,I.lset (its':=its.take i++[u]++its.drop i) hH e ?_ (((r.take i).append (.cons ru .nil)).append (r.drop i)) ?_,rfl,q⟩
 ·have nn:¬((i:Int)<0):=by omega
  simp only [nn,if_false,Int.toNat_natCast,size_toArray,List.extract_toArray,List.push_toArray,List.append_toArray]
  congr 1
  by_cases c:i<=its.length
  ·rw [Nat.min_eq_left c];simp [List.extract_eq_drop_take];exact take_of_length_le (by rw [length_drop];exact Nat.le_refl _)
  ·rw [Nat.min_eq_right (by omega)];have d:its.drop i=[]:=List.drop_eq_nil_of_le (by omega);have k:its.take i=its:=take_of_length_le (by omega);rw [d,k];simp [List.extract_eq_drop_take]
 ·rw [length_append,length_append,length_take,length_drop];show _+1+_<=sizeLine;omega
def RS (te:TE):TT:=fun σ H Q=>te σ H λx H'=>∃t,x= .str t/\t.length<=sizeLine/\Q ((t.length:Int) !=0) H'
theorem RT {a:Expr}{ta:TE} (ha:PE X a ta) (he:∀whole,isTrue a X.env whole=(do let v<-whole;standAt a.pos;holding [v] (truthy v)):=by intro _;rfl):PT X a (RS ta):=by
  intro pins s σ H Q I h;refine isTrue_plain (Ap (ha pins s σ H _ I h) λv s1 ⟨x,H1,I1,r1,q1⟩=>?_) (he _);obtain⟨t,rfl,hz,q⟩:=q1;obtain⟨tk,rfl⟩:=r1;exact PySem.P.truthy_str (by have e := sizeLine_eq;omega) ⟨H1,I1.tok _,q⟩
end
end L2
end
section
namespace L2
variable {h' : Heap} {Q : Value -> Shared -> Prop}
section
variable {κ : Type} [DecidableEq κ]
def Cr (kvs:List (κ×V)) (k:κ):Option V:=(kvs.find? λkv=>decide (kv.1=k)).map (·.2)
def Ea (kvs:List (κ×V)) (k:κ) (v:V):List (κ×V):=
 if (kvs.any λkv=>decide (kv.1=k))=true then kvs.map (λkv=>if kv.1=k then(kv.1,v) else kv) else kvs++[(k,v)]
theorem Mb {p:κ×V}{r:List (κ×V)}{k:κ} (e:p.1=k):Cr (p::r) k=some p.2:=by simp [Cr,find?_cons,e]
theorem Mc {p:κ×V}{r:List (κ×V)}{k:κ} (e:¬p.1=k):Cr (p::r) k=Cr r k:=by simp [Cr,find?_cons,e]
theorem RU (kvs:List (κ×V)) (k:κ) (v:V):(Ea kvs k v).length<=kvs.length+1:=by
 unfold Ea;split
 ·rw [length_map];omega
 ·rw [length_append,length_cons,length_nil];omega
theorem RelO.isSome_eq {o:Option V}{u:Option Value} (r:RelO o u):o.isSome=u.isSome:=by
 cases o with
 | none=>cases u with
  | none=>rfl
  | some _=>exact(show False from r).elim
 | some _=>cases u with
  | none=>exact(show False from r).elim
  | some _=>rfl
theorem RelO.getD {o:Option V}{u:Option Value}{d:V}{d':Value} (r:RelO o u) (rd:RelV d d'):RelV (o.getD d) (u.getD d'):=by
 cases o with
 | none=>cases u with
  | none=>exact rd
  | some _=>exact(show False from r).elim
 | some _=>cases u with
  | none=>exact(show False from r).elim
  | some _=>exact r
theorem KV.val {kvs:List (κ×V)}{vs:List (κ×Value)} (r:KV kvs vs) (k:κ):RelO (Cr kvs k) (valueAt vs k):=by
 unfold KV at r
 induction r with
 | nil=>exact True.intro
 | @cons p q ps qs h t ih=>
  obtain⟨h1,h2⟩:=h
  by_cases e:p.1=k
  ·have e':q.1=k:=h1.symm.trans e;have b:valueAt (q::qs) k=some q.2:=by simp [valueAt,find?_cons,e']
   rw [Mb e,b];exact h2
  ·have e':¬q.1=k:=λz=>e (h1.trans z)
   have b:valueAt (q::qs) k=valueAt qs k:=by simp [valueAt,find?_cons,e']
   rw [Mc e,b];exact ih
theorem KV.any {kvs:List (κ×V)}{vs:List (κ×Value)} (r:KV kvs vs) (k:κ):(kvs.any λkv=>decide (kv.1=k))=vs.any λkv=>decide (kv.1=k):=by
 unfold KV at r
 induction r with
 | nil=>rfl
 | cons h t ih=>rw [any_cons,any_cons,ih,h.1]
theorem KV.repl {kvs:List (κ×V)}{vs:List (κ×Value)} (r:KV kvs vs) (k:κ) {y:V}{u:Value} (ry:RelV y u):
  KV (kvs.map λkv=>if kv.1=k then(kv.1,y) else kv) (vs.map λkv=>if kv.1=k then(kv.1,u) else kv):=by
 unfold KV at r ⊢
 induction r with
 | nil=>exact .nil
 | @cons p q ps qs h t ih=>
  rw [map_cons,map_cons];refine .cons ?_ ih;obtain⟨h1,h2⟩:=h
  by_cases e:p.1=k
  ·rw [if_pos e,if_pos (h1.symm.trans e)];exact⟨h1,ry⟩
  ·rw [if_neg e,if_neg (λz=>e (h1.trans z))];exact⟨h1,h2⟩
theorem KV.putX {kvs:List (κ×V)}{vs:List (κ×Value)} (r:KV kvs vs) (k:κ) {y:V}{u:Value} (ry:RelV y u):KV (Ea kvs k y) (stored vs k u):=by
 unfold Ea stored;rw [r.any k]
 by_cases e:(vs.any λkv=>decide (kv.1=k))=true
 ·rw [if_pos e,if_pos e];exact r.repl k ry
 ·rw [if_neg e,if_neg e];exact Paired.snoc r ⟨rfl,ry⟩
end
theorem F1 {P:Program}{w:World}{k:AD}{u:Value} (r:RelV (kV k) u):(BP P w).is k u=true:=by
 cases k with
 | inl i=>obtain⟨t,e⟩:=(show ∃t,u=Value.int i t from r);subst e;exact Nt P w i t
 | inr x=>obtain⟨t,e⟩:=(show ∃t,u=Value.str x t from r);subst e;exact Ix P w x t
theorem Md {P:Program}{w:World}:∀ {ks:List AD}{us:List Value},As (ks.map kV) us->ItemsAre (BP P w) ks us
 | [],_,r=>by rw [map_nil] at r;cases r;exact .nil
 | k::ks,_,r=>by
  rw [map_cons] at r;cases r with
  | cons h t=>exact .cons (F1 h) (Md t)
abbrev KT (H:Hp):List (List AD×V)->List (List AD×Addr×Value)->Prop:=Paired λp q=>p.1=q.1/\H q.2.1=some (.tup (p.1.map kV))/\RelV p.2 q.2.2
theorem KT.val {H:Hp}{kvs:List (List AD×V)}{xs:List (List AD×Addr×Value)} (r:KT H kvs xs) (k:List AD):RelO (Cr kvs k) ((atKey xs k).map (·.2)):=by
 induction r with
 | nil=>exact True.intro
 | @cons p q ps qs h t ih=>
  obtain⟨h1,_,h2⟩:=h
  by_cases e:p.1=k
  ·have e':q.1=k:=h1.symm.trans e;have b:atKey (q::qs) k=some q.2:=by simp [atKey,find?_cons,e']
   rw [Mb e,b];exact h2
  ·have e':¬q.1=k:=λz=>e (h1.trans z)
   have b:atKey (q::qs) k=atKey qs k:=by simp [atKey,find?_cons,e']
   rw [Mc e,b];exact ih
section
variable {P : Program} {w : World} {H : Hp} {h : Heap} {a : Addr}
theorem Me {u:HO} (ok:HOk P w H h) (e:Rd H a u):ObjOk P w H h a u:=e.ok ok
theorem Jz {kvs:List (AD×V)} (ok:HOk P w H h) (e:Rd H a (.dK kvs)):kvs.length<=sizeLine/\(a==sysModules)=false/\∃vs,KV kvs vs/\h.DictOf (BP P w) a vs:=
 show ObjOk P w H h a (.dK kvs) from Me ok e
theorem RV {kvs:List (AD×V)} (ok:HOk P w H h) (e:H a=some (.dK kvs)):kvs.length<=sizeLine/\(a==sysModules)=false/\∃vs,KV kvs vs/\h.DictOf (BP P w) a vs:=Jz ok (.inl e)
theorem Mf {ks:List AD} (ok:HOk P w H h) (e:H a=some (.tup (ks.map kV))):(tupleKind (BP P w)).is h ks a:=by
 obtain⟨_,its,r,o,h1,h2,n,h3⟩:=(show ObjOk P w H h a (.tup (ks.map kV)) from ok a _ e);exact⟨o,its.toArray,n,h1,h2,h3,by simpa using Md r⟩
theorem Mg {kvs:List (List AD×V)} (ok:HOk P w H h) (e:Rd H a (.dT kvs)):kvs.length<=sizeLine/\(a==sysModules)=false/\
  ∃xs,KT H kvs xs/\h.DictOfH (tupleKind (BP P w)) a xs:=by
 obtain⟨z,y,xs,r,o,es,ep,h1,h2,h3,h4,h5⟩:=(show ObjOk P w H h a (.dT kvs) from Me ok e);refine⟨z,y,xs,r,o,es,ep,h1,h2,h3,h4,λx hx=>?_,h5⟩;have all:∀ {l:List (List AD×V)}{m:List (List AD×Addr×Value)},KT H l m->∀x∈m,(tupleKind (BP P w)).is h x.1 x.2.1:=by
  intro l m q
  induction q with
  | nil=>intro x hx;exact nomatch hx
  | @cons p q ps qs hq t ih=>
   intro x hx;rcases mem_cons.mp hx with e | hx
   ·subst e;exact Mf ok (by rw [<-hq.1];exact hq.2.1)
   ·exact ih x hx
 exact all r x hx
end
def Mh (H:Hp) (a:Addr) (y:V) (r:Option V):Prop:=
 (∃kvs k,Rd H a (.dK kvs)/\y=kV k/\r=Cr kvs k)\/ ∃kvs k b,Rd H a (.dT kvs)/\y= .ref b/\H b=some (.tup (k.map kV))/\r=Cr kvs k
section
variable {X : Cx} {pins : List (Addr × Obj)} {σ : St} {H : Hp} {s : Shared} {a : Addr} {y v : V} {u r : Value} {o : Option V} {A : Around} {E : Value -> Shared -> Prop}
theorem Ac.bigX (I:Ac X pins σ H s):sysModules<s.heap.objs.size:=by
 have h:mainGlobals<s.heap.objs.size:=(I.mod.glob.keeps I.bk).lt;exact Nat.lt_trans (by decide) h
theorem RW {t':Nat}{ob:HO} (I:Ac X pins σ H s) (mu:FB (H a)) (hs:Heap.SameBut a s.heap h') (he:∃q,h'.get? a=some q) (new:ObjOk X.prog X.w (upd H a ob) h' a ob):
  Ac X pins σ (upd H a ob) { s with heap:=h',toks:=t'}:=
 I.write (x:=a) (e:=a) mu (.inl rfl) (λb q hb z=>(hs.2 b hb).trans z) he new
theorem RX {P:Program}{w:World}{H':Hp}{kvs:List (AD×V)}{vs:List (AD×Value)} (z:kvs.length<=sizeLine) (hd:(a==sysModules)=false) (rel:KV kvs vs) (dd:h'.DictOf (BP P w) a vs):
  ObjOk P w H' h' a (.dK kvs):=⟨z,hd,vs,rel,dd⟩
end
section
variable {X : Cx} {pins : List (Addr × Obj)} {σ : St} {H : Hp} {s : Shared} {a : Addr} {kvs : List (AD × V)} {k : AD} {u : Value} {A : Around} {E : Value -> Shared -> Prop}
end
def Mi (i:Expr):Prop:=∀ov iv,subscripted i false ov iv=operate [ov,iv] (getItem ov iv)
theorem RY {prog:Program}{w:World}{A:Around}{E:VSP}{s:Shared}{env:Env}{value slice:Expr}{pos:Pos}{T id:String}
  (hl:typeLookup (.type T) "__getitem__"=pure (some (.builtin id))) (hs:Mi slice)
  (h:wpAny (model prog w) A (eval value env) (λo s₁=>wpAny (model prog w) A (eval slice env) (λi s₂=>s₂.TypeIs o T/\wpAny (model prog w) A (getItem o i) Q E s₂) E s₁) E s):
  wpAny (model prog w) A (eval (.Subscript value slice pos) env) Q E s:=by
 refine Subscript_ (wpAny_mono h (λo s₁ h₁=>wpAny_mono h₁ (λi s₂ h₂=>?_) λ_ _ x=>x) λ_ _ x=>x);obtain⟨hT,h₂⟩:=h₂;unfold subscriptTail;refine wpAny_bind ?_;rw [getitemInPython_of_ne hT.not_modules];refine wpAny_bind (wpAny_specialOf hT hl ?_);have fin:wpAny (model prog w) A (subscripted slice false o i) (λr s₃=>wpAny (model prog w) A (letTemporaryGo value o r>>=λ_=>pure r) Q E s₃) E s₂:=by
  rw [hs o i];exact wpAny_operating (wpAny_mono h₂ (λr s₃ h₃=>wpAny_bind (wpAny_letTemporaryGo (wpAny_pure h₃))) λ_ _ x=>x)
 first
  | exact wpAny_pure (wpAny_bind fin)
  | exact wpAny_bind (wpAny_pure (wpAny_bind fin))
  | exact wpAny_bind fin
section
variable {X : Cx} {o i e value : Expr} {pos pos' tpos : Pos} {td ty tv : TE}
end
theorem RZ {P:Program}{w:World}{H:Hp} (h:Heap) (hb:sysModules<h.objs.size):ObjOk P w H (h.push { cls:= .type "dict",data:= .dict #[]}) h.objs.size (.dK []):=
 ⟨Nat.zero_le _,beq_eq_false_iff_ne.mpr (Ne.symm (Nat.ne_of_lt hb)),[],.nil,Heap.DictOf.new h⟩
section
variable {X : Cx} {pos : Pos}
end
def JA:List (TE×TE)->St->Hp->(List (V×V)->Hp->Prop)->Prop
  | [],_,H,Q=>Q [] H
  | (tk,tv)::r,σ,H,Q=>tk σ H λx H1=>tv σ H1 λy H2=>JA r σ H2 λps H3=>Q ((x,y)::ps) H3
abbrev VV:List (V×V)->List (Value×Value)->Prop:=Paired λp q=>RelV p.1 q.1/\RelV p.2 q.2
def Hl (X:Cx) (pos:Pos) (keys:List (Option Expr)) (values:List Expr) (trs:List (TE×TE)):Prop:=
 ∀(pins:PNs) (s:Shared) (σ:St) (H:Hp) (Q:List (V×V)->Hp->Prop),Ac X pins σ H s->JA trs σ H Q->
  wpAny (model X.prog X.w) X.A (evalPairs (pairTrees keys values X.env pos)) (λvs s'=>∃ps H',Ac X pins σ H' s'/\VV ps vs/\Q ps H') X.xe s
theorem R0 {X:Cx}{pos:Pos}:Hl X pos [] [] []:=λpins s σ H Q I h=>pairTrees_nil_walk ⟨[],H,I,.nil,h⟩
theorem DN {X:Cx}{pos:Pos}{k v:Expr}{ks:List (Option Expr)}{vs:List Expr}{tk tv:TE}{trs:List (TE×TE)} (hk:PE X k tk) (hv:PE X v tv) (hr:Hl X pos ks vs trs):
  Hl X pos (some k::ks) (v::vs) ((tk,tv)::trs):=λpins s σ H Q I h=>
 pairTrees_cons_walk (Ap (hk pins s σ H _ I h) λu s1 ⟨x,H1,I1,rx,q1⟩=>Ap (hv pins s1 σ H1 _ I1 q1) λw2 s2 ⟨y,H2,I2,ry,q2⟩=>
  Ap (hr pins s2 σ H2 _ I2 q2) λws s3 ⟨ps,H3,I3,rel,q3⟩=>⟨(x,y)::ps,H3,I3,.cons ⟨rx,ry⟩ rel,q3⟩)
def Eb (kvs more:List (AD×V)):List (AD×V):=more.foldl (λacc kv=>Ea acc kv.1 kv.2) kvs
theorem KV.merge:∀ {more:List (AD×V)}{rs:List (AD×Value)}{kvs:List (AD×V)}{vs:List (AD×Value)},KV more rs->KV kvs vs->KV (Eb kvs more) (merged vs rs):=by
 intro more rs kvs vs r;unfold KV at r
 induction r generalizing kvs vs with
 | nil=>intro q;exact q
 | @cons p q ps qs h t ih=>
  intro r0;have e:KV (Ea kvs p.1 p.2) (stored vs q.1 q.2):=by
   have:=r0.putX p.1 h.2;rw [<-h.1];exact this
  exact ih e
theorem Mj:∀(more kvs:List (AD×V)),(Eb kvs more).length<=kvs.length+more.length
 | [],kvs=>by show kvs.length<=kvs.length+0;omega
 | p::r,kvs=>by
  have h1:=Mj r (Ea kvs p.1 p.2);have h2:=RU kvs p.1 p.2;show(Eb (Ea kvs p.1 p.2) r).length<=_;rw [length_cons];omega
theorem Ml {P:Program}{w:World}:∀ {kvs:List (AD×V)}{ws:List (Value×Value)},VV (kvs.map λkv=>(kV kv.1,kv.2)) ws->∃rs,Carries (BP P w) ws rs/\KV kvs rs
 | [],_,r=>by rw [map_nil] at r;cases r;exact⟨[],True.intro,.nil⟩
 | p::kvs,_,r=>by
  rw [map_cons] at r;cases r with
  | @cons a b as bs h t=>
   obtain⟨rs,c,q⟩:=Ml (P:=P) (w:=w) t;obtain⟨b1,b2⟩:=b;exact⟨(p.1,b2)::rs,⟨F1 h.1,rfl,c⟩,.cons ⟨rfl,h.2⟩ q⟩
def R1 (trs:List (TE×TE)):TE:=fun σ H Q=>∀p,H p=none->JA trs σ (upd H p (.dK [])) λps H2=>H2 p=some (.dK [])/\∃kvs:List (AD×V),ps=kvs.map (λkv=>(kV kv.1,kv.2))/\kvs.length<=15/\Q (.ref p) (upd H2 p (.dK (Eb [] kvs)))
theorem R3 {X:Cx}{pos:Pos}{keys:List (Option Expr)}{values:List Expr}{trs:List (TE×TE)} (h:Hl X pos keys values trs) (hall:keys.all (·.isSome)=true) (hl:keys.length=values.length) (h0:keys≠ [])
  (h15:keys.length<=15):PE X (.Dict keys values pos) (R1 trs):=by
 intro pins s σ H Q I q;have hn:=I.hok.fresh (Nat.le_refl s.heap.objs.size);have I1:=I.laid (a:=s.heap.objs.size) (o:= .dK []) (h':=s.heap.push { cls:= .type "dict",data:= .dict #[]}) (t':=s.toks) (λ_ _ q=>Heap.get?_push_of_some _ q) (Nat.le_refl _) (RZ s.heap I.bigX);refine wpAny_Dict_walk (knd:=BP X.prog X.w) hall hl h0 h15 (Ap (h pins _ σ _ _ I1 (q _ hn)) λws s2 ⟨ps,H2,I2,rel,e,kvs,ep,lk,q2⟩=>?_);subst ep;obtain⟨rs,c,rk⟩:=Ml (P:=X.prog) (w:=X.w) rel;obtain⟨z,hd,vs0,r0,dd⟩:=RV I2.hok e;cases r0;refine⟨rs,c,dd,λh' dd' hs=>⟨.ref s.heap.objs.size,_,?_,rfl,q2⟩⟩;have hz:(Eb [] kvs).length<=sizeLine:=by
  have h1:=Mj kvs [];rw [length_nil] at h1;rw [sizeLine_eq];omega
 have he:∃q,h'.get? s.heap.objs.size=some q:=let ⟨q,_,_,hq,_⟩:=dd';⟨q,hq⟩;exact RW I2 (by rw [e];exact True.intro) hs he (RX hz hd (rk.merge .nil) dd')
structure M1 (X:Cx) (o:Expr) (m:Str) (apos:Pos) (e:Expr) (cpos:Pos):Prop where
 base:attributeBase o m X.env (eval o X.env)=eval o X.env
 few:((backTo cpos (starEach [e] X.env)).all (λx=> !x.1) &&(backToKw cpos (keywordEach [] X.env)).all (λx=>x.1.isSome)
  && decide (([e]:List Expr).length+([]:List Keyword).length+(if ([]:List Keyword).isEmpty then 0 else 1)<30))=true
 line:(apos.endLine==cpos.line)=true
 trees:backTo cpos (starEach [e] X.env)=[(false,eval e X.env)]
structure M2 (X:Cx) (o:Expr) (m:Str) (apos:Pos) (e f:Expr) (cpos:Pos):Prop where
 base:attributeBase o m X.env (eval o X.env)=eval o X.env
 few:((backTo cpos (starEach [e,f] X.env)).all (λx=> !x.1) &&(backToKw cpos (keywordEach [] X.env)).all (λx=>x.1.isSome)
  && decide (([e,f]:List Expr).length+([]:List Keyword).length+(if ([]:List Keyword).isEmpty then 0 else 1)<30))=true
 line:(apos.endLine==cpos.line)=true
 trees:backTo cpos (starEach [e,f] X.env)=[(false,eval e X.env),(false,eval f X.env)]
def Mm (H:Hp) (a:Addr):Prop:=(∃kvs,Rd H a (.dK kvs))\/ ∃kvs,Rd H a (.dT kvs)
theorem R4 {X:Cx}{pins:PNs}{σ:St}{H:Hp}{s:Shared}{a:Addr} (I:Ac X pins σ H s) (d:Mm H a):
  s.TypeIs (.ref a) "dict" /\(∀b,Value.ref a= .ref b->∃ob,s.heap.get? b=some ob/\ob.dict=none)/\(a==sysModules)=false:=by
 rcases d with⟨kvs,e⟩ | ⟨kvs,e⟩
 ·obtain⟨_,hd,vs,_,dd⟩:=Jz I.hok e;refine⟨dd.typeIs,λb q=>?_,hd⟩;cases q;obtain⟨ob,_,_,h1,h2,_⟩:=dd;exact⟨ob,h1,h2.2.1⟩
 ·obtain⟨_,hd,xs,_,dd⟩:=Mg I.hok e;refine⟨dd.typeIs,λb q=>?_,hd⟩;cases q;obtain⟨ob,_,_,h1,h2,_⟩:=dd;exact⟨ob,h1,h2.2.1⟩
section
variable {X : Cx} {pins : List (Addr × Obj)} {σ : St} {H : Hp} {s : Shared} {a : Addr} {y d : V} {u r : Value} {o : Option V} {A : Around} {E : Value -> Shared -> Prop}
theorem R5 (hu:A.units+1<cLine) (I:Ac X pins σ H s) (g:Mh H a y o) (ry:RelV y u) (rd:RelV d r) (h:∀w' s',Ac X pins σ H s'->RelV (o.getD d) w'->Q w' s'):
  wpAny (model X.prog X.w) A (call (.builtin "dict.get") [.ref a,u,r]) Q E s:=by
 rcases g with⟨kvs,k,e,ey,l⟩ | ⟨kvs,k,b,e,ey,eb,l⟩
 ·subst ey;obtain⟨z,hd,vs,rel,dd⟩:=Jz I.hok e;refine call_meetsIn PySem.F.slot_dict_get dd.typeIs PySem.F.entry_dict_get (PySem.F.args_dict_get_3 _ _ _) (meets_dict_get_default (BP X.prog X.w) a (F1 ry) hd r) ⟨_,dd.mapOf,h _ _ (I.tok _) ?_⟩;rw [l];exact(rel.val k).getD rd
 ·subst ey;cases(show u=Value.ref b from ry);obtain⟨z,hd,xs,rel,dd⟩:=Mg I.hok e;refine call_meetsIn PySem.F.slot_dict_get dd.typeIs PySem.F.entry_dict_get (PySem.F.args_dict_get_3 _ _ _) (meetsH_dict_get_default (tupleKind (BP X.prog X.w)) a b hd r) ⟨tupleKind_room_in1 hu,k,xs,Mf I.hok eb,dd,h _ _ (I.tok _) ?_⟩;rw [l];exact(rel.val k).getD rd
end
def R6 (td ty tx:TE):TE:=fun σ H Q=>td σ H λx H1=>∃a,x= .ref a/\Mm H1 a/\ty σ H1 λy H2=>tx σ H2 λz H3=>∃o,Mh H3 a y o/\Q (o.getD z) H3
section
variable {X : Cx} {o e f : Expr} {apos cpos : Pos} {td ty tx : TE}
theorem R7 (hu:X.A.units+1<cLine) (ho:PE X o td) (he:PE X e ty) (hf:PE X f tx) (m:M2 X o "get" apos e f cpos):PE X (.Call (.Attribute o "get" apos) [e,f] [] cpos) (R6 td ty tx):=by
 intro pins s σ H Q I h;refine wpAny_Call_method m.base m.few m.line PySem.F.plainAttrs_dict PySem.F.slot_dict_get PySem.F.type_dict_get (Ap (ho pins s σ H _ I h) λu s1 ⟨x,H1,I1,rx,a,ex,d,q1⟩=>?_);subst ex;obtain rfl:u=Value.ref a:=rx;obtain⟨t1,t2,_⟩:=R4 I1 d;refine⟨t1,t2,?_⟩;rw [m.trees];refine Calls.callWith_builtin rfl (Calls.evalArgs_plain (Calls.spliced_cons (Ap (he pins s1 σ H1 _ I1 q1) λiv s2 ⟨y,H2,I2,ry,q2⟩=>
  Calls.spliced_cons (Ap (hf pins s2 σ H2 _ I2 q2) λfv s3 ⟨z,H3,I3,rz,ov,g,q3⟩=>Calls.spliced_nil ?_))))
 exact R5 hu I3 g ry rz λw' s4 I4 rw'=>⟨_,H3,I4,rw',q3⟩
end
end L2
end
section
namespace L2
structure GD (P:Program) (w:World) (K:Fgx) (a:Addr) (kvs:List (AD×V)):Prop where
 ne:(a==sysModules)=false
 dd:∀h:Heap,K.In h->∃vs,KV kvs vs/\h.DictOf (BP P w) a vs
def Ec:List DictEntry->List (Str×Value)->Bool
 | [],[]=>true
 | e::es,p::ps=>(match e.key with | .str x _=>x==p.1 | _=>false) && e.val==p.2 && Ec es ps
 | _,_=>false
theorem Mn {P:Program}{w:World}{K:Fgx}{a:Addr}{es:Array DictEntry}{ep:Nat}{vs:List (Str×Value)}{kvs:List (AD×V)} (l:K.lookup a=some ⟨.type "dict",none,.dict es ep,#[]⟩) (ne:(a==sysModules)=false)
  (ek:Ec es.toList vs=true) (eh:es.toList.map (·.hash)=vs.map λp=>hashStr w p.1) (nd:(vs.map (·.1)).Nodup) (kv:KV kvs (vs.map λp=>((.inr p.1:AD),p.2))):GD P w K a kvs:=by
 refine⟨ne,λh X=>⟨_,kv,_,es,ep,X _ _ l,⟨rfl,rfl,rfl⟩,rfl,?_,?_,?_⟩⟩
 ·intro e he;have he':e∈es.toList:=Array.mem_toList_iff.mpr he;clear l kv nd he;generalize es.toList=el at ek eh he'
  induction el generalizing vs with
  | nil=>cases he'
  | cons e0 el ih=>
   cases vs with
   | nil=>cases ek
   | cons p ps=>
    unfold Ec at ek;simp only [Bool.and_eq_true] at ek;obtain⟨⟨h1,_⟩,h3⟩:=ek;rw [map_cons,map_cons] at eh;obtain⟨e1,e2⟩:=List.cons.inj eh;rcases mem_cons.mp he' with rfl | he'
    ·refine⟨.inr p.1,?_,e1⟩;split at h1
     ·rename_i x t hk;rw [hk,eq_of_beq h1];exact Ix P w p.1 t
     ·cases h1
    ·exact ih h3 e2 he'
 ·clear l kv nd eh;generalize es.toList=el at ek ⊢
  induction el generalizing vs with
  | nil=>cases vs with
   | nil=>exact .nil
   | cons p ps=>cases ek
  | cons e0 el ih=>
   cases vs with
   | nil=>cases ek
   | cons p ps=>
    unfold Ec at ek;simp only [Bool.and_eq_true] at ek;obtain⟨⟨h1,h2⟩,h3⟩:=ek;refine .cons ?_ (eq_of_beq h2) (ih h3);split at h1
    ·rename_i x t hk;show(BP P w).is (.inr p.1) e0.key=true;rw [hk,eq_of_beq h1];exact Ix P w p.1 t
    ·cases h1
 ·rw [map_map];have:(vs.map (Prod.fst∘λp:Str×Value=>((Sum.inr p.1:AD),p.2)))=(vs.map (·.1)).map Sum.inr:=by rw [map_map];rfl
  rw [this];exact List.Pairwise.map _ (λa b h e=>h (Sum.inr.inj e)) nd
section
variable {X : Cx} {o i : Expr} {pos : Pos} {ty : TE} {a : Addr} {kvs : List (AD × V)}
def Mo (kvs:List (AD×V)) (ty:TE):TE:=fun σ H Q=>ty σ H λy H2=>∃k v,y=kV k/\Cr kvs k=some v/\Q v H2
theorem Mp (G:GD X.prog X.w X.K a kvs) (ho:PE X o (tC (.ref a))) (hi:PE X i ty) (hs:Mi i):PE X (.Subscript o i pos) (Mo kvs ty):=by
 intro pins s σ H Q I h;refine RY PySem.F.slot_dict_getitem.lookup hs (Ap (ho pins s σ H (λv H1=>v= .ref a/\Mo kvs ty σ H1 Q) I ⟨rfl,h⟩) λu s1 ⟨x,H1,I1,rx,ex,q1⟩=>Ap (hi pins s1 σ H1 _ I1 q1) λiv s2 ⟨y,H2,I2,ry,k,v,ey,l,q2⟩=>?_);subst ex ey;obtain rfl:u=Value.ref a:=rx;obtain⟨vs,rel,dd⟩:=G.dd _ I2.kIn;obtain⟨w',hw,rw'⟩:=RelO.some_of (v:=v) (o:=valueAt vs k) (by rw [<-l];exact rel.val k);exact⟨dd.mapOf.typeIs,wpAny_getItem_of (F1 ry) dd.mapOf hw ⟨v,H2,I2.tok _,rw',q2⟩⟩
theorem R8 (G:GD X.prog X.w X.K a kvs):OpR X (compareOp .NotIn) (λx y H Q=>∃k,x=kV k/\y= .ref a/\Q (.bl (!(Cr kvs k).isSome)) H):=by
 intro pins s σ H x y v u Q I rx ry h;obtain⟨k,rfl,rfl,q⟩:=h;obtain rfl:u=Value.ref a:=ry;obtain⟨vs,rel,dd⟩:=G.dd _ I.kIn;refine wpAny_notIn_of (F1 rx) G.ne dd.mapOf ?_;rw [<-(rel.val k).isSome_eq];exact⟨.bl _,H,I.tok _,rfl,q⟩
end
structure JB (P:Program) (w:World) (K:Fgx) (mg:Str->Option Value) (base:Heap) (k:Nat) (f:Addr) (sp:Sp):Prop where
 ex:∃(n:Nat) (fd:FuncData) (ps:List Str),n<=k/\BE P w K mg base (Bj P w) n f fd ps sp/\PySem.W.keepIn K (.ref f)=true/\Binds K fd ps []
theorem A7.at {P:Program}{w:World}{K:Fgx}{mg:Str->Option Value}{base:Heap}{n k:Nat}{x:Str}{ps:List Str}{sp:Sp}{f:Addr} (F:A7 P w K mg base n x ps sp) (h:mg x=some (.ref f)) (hn:n<=k):JB P w K mg base k f sp:=by
 obtain⟨f',fd,F,hm,hk,hb⟩:=F.ex;rw [h] at hm;cases hm;exact⟨n,fd,ps,hn,F,hk,hb⟩
def R9 (P:Program) (w:World) (K:Fgx) (mg:Str->Option Value) (base:Heap) (k:Nat) (E:XK) (i:Nat) (t:TA):TE:=fun σ H Q=>∃f sp,σ[i]? =some (some (.ref f))/\JB P w K mg base k f sp/\t σ H λvs H1=>sp vs H1 Q E
theorem Sa {X:Cx}{E:XK}{k i:Nat}{x:Str}{e:Expr}{es:List Expr}{t:TA}{p pos:Pos} (D:IsDef X E) (hN:X.N[i]? =some x) (hv:Eh X.env.scope x) (hr:AJ k X.A) (ha:PA X (e::es) t)
  (hdb:(x==("__debug__" :Str))=false:=by decide) (hcd:(x==("__classdict__" :Str))=false:=by decide) (he:starEach (e::es) X.env=(false,eval e X.env)::starEach es X.env:=by rfl) (hpl:(backTo pos (starEach es X.env)).any (·.1)=false:=by rfl):
  PE X (.Call (.Name x p) (e::es) [] pos) (R9 X.prog X.w X.K X.mg X.base k E i t):=by
 intro pins s σ H Q I ⟨f,sp,hσ,⟨n,fd,ps,hn,F,hk,hb⟩,q⟩;refine wpAny_Call_Name_kw (Ap ((Gn (i:=i) hN hv hdb hcd) pins s σ H (λv H2=>v= .ref f/\H2=H) I ⟨.ref f,hσ,rfl,rfl⟩) λu s2 ⟨v,H2,I2,r,ev,eh⟩=>?_);subst ev eh;obtain rfl:u= .ref f:=r;refine PySem.W.callWith_K (h₀:=X.base) I.ok.mod.kin hk (Ap (ha pos pins s2 σ H2 _ I2 q) λus s3 ⟨vs,H1,I1,r,q⟩=>⟨I1.kIn,?_⟩) he hpl;exact Gv (ds:=[]) (dvs:=[]) F (hr.mono hn) hb .nil D.passes I1 r (by rw [append_nil];exact q)
end L2
end
section
namespace L2
variable {xs : Array Value}
section
variable {P : Program} {w : World} {A : Around} {E : Value -> Shared -> Prop}
theorem Sb {it l:Addr} (ne:l≠it) {n:Nat}:∀ {k:Nat}{s:Shared}{Q:List Value->Shared->Prop},s.heap.IsListIter it l k->s.heap.IsList l xs->k+n=xs.size->
  (∀h1,h1.IsListIter it l xs.size->h1.IsList l xs->Heap.ExtBut it s.heap h1->Q (xs.toList.drop k) { s with heap:=h1})->wpAny (model P w) A (draw (.ref it) n) Q E s:=by
 induction n with
 | zero=>
  intro k s Q a b c q;have z:xs.toList.drop k=[]:=List.drop_eq_nil_of_le (by rw [Array.length_toList];omega);have q0:=q s.heap (by rw [<-c];exact a) b λ_ _ _ g=>g
  rw [z] at q0;unfold draw;exact wpAny_pure q0
 | succ n ih=>
  intro k s Q a b c q;have lt:k<xs.size:=by omega
  have z:xs.toList.drop k=xs[k]::xs.toList.drop (k+1):=by rw [List.drop_eq_getElem_cons (by rw [Array.length_toList];exact lt),Array.getElem_toList]
  rw [z] at q;unfold draw;refine wpAny_bind (wpAny_pyNext_list_item a b (Array.getElem?_eq_getElem lt) λh1 a1 sb=>wpAny_bind (wpAny_holding (ih a1 (b.extBut sb.extBut ne) (by omega) λh2 a2 b2 eb=>?_)));exact wpAny_pure (q h2 a2 b2 λd o hd g=>eb d o hd (sb.extBut d o hd g))
theorem Sc {l:Addr}{ts:List (Bool×(Value->Sem Unit))}{Q:Unit->Shared->Prop}{s:Shared} (hh:A.handled=none) (hl:s.heap.IsList l xs) (n1:ts.length=xs.size) (n2:ts.findIdx? (·.1)=none)
  (q:∀h1,Heap.ExtBut s.heap.objs.size s.heap h1->wpAny (model P w) A (assignInOrder (ts.map (·.2)) xs.toList) Q E { s with heap:=h1}):wpAny (model P w) A (unpack (.ref l) ts) Q E s:=by
 have ne:l≠s.heap.objs.size:=by
  obtain⟨o,g,_⟩:=hl;exact λz=>absurd (Heap.lt_size g) (by rw [z];exact Nat.lt_irrefl _)
 have full:xs.toList.length=xs.size:=Array.length_toList;unfold unpack unpackItems notIterableAtAll;rw [n1,n2];refine wpAny_bind (wpAny_holding (wpAny_bind (wpAny_bind (wpAny_specialOf hl.typeIs F.slot_list_iter.lookup (wpAny_pure ?_)))));refine wpAny_bind (wpAny_holding (wpAny_pyIter_list hl (wpAny_bind (wpAny_holding (Sb ne ⟨_,Heap.get?_push_size _ rfl,rfl,rfl⟩ (hl.push _) (Nat.zero_add _) λh1 a b eb=>?_)))));rw [drop_zero,if_neg (by rw [full];exact Nat.lt_irrefl _)];refine wpAny_bind (wpAny_holding (wpAny_pyNext_list_end hh a b (Array.getElem?_eq_none (Nat.le_refl _)) λh2 eb2=>wpAny_pure (q h2 λd o hd g=>eb2 d o hd (eb d o hd (Heap.get?_push_of_some _ g)))))
end
section
variable {X : Cx}
def Sd (K:Fgx) (n:Nat) (t:C7):TG:=λv σ H Q=>∃a xs,v= .ref a/\Ai K H a xs/\xs.length=n/\t xs σ H Q
theorem Se (K:Fgx) {es:List Expr}{k:Nat}{t:C7}{n:Nat}{pos:Pos} (h:EQ X es t) (hc:X.calm=true:=by rfl) (hK:X.K=K:=by rfl)
  (hn:(assignEach es X.env).length=n:=by rfl) (hst:(assignEach es X.env).findIdx? (·.1)=none:=by rfl):PG X (.Tuple es k pos) (Sd K n t):=by
 subst hK;intro pins s σ H v u Q I r hw;obtain⟨a,xs,rfl,hq,hl,hw⟩:=hw;cases r;obtain⟨its,rv,pl,_⟩:=I.list hq;rw [assign_Tuple];refine wpAny_bind (wpAny_standAt (Sc (I.ok.hd hc) pl.isList (by rw [hn,<-hl,rv.length,size_toArray]) hst λh1 hx=>?_));have I1:Ac X pins σ H { s with heap:=h1}:=I.kept (t':=s.toks) λb o e=>hx b o (Nat.ne_of_lt (Heap.lt_size e)) e
 exact h pins _ σ H xs _ Q I1 rv hw
end
end L2
end
section
namespace L2
theorem Sf {X:Cx} (hu:X.A.units<cLine):OpR X (compareOp .Eq) (λx y H Q=>∃(a b:Addr) (xs:List V),x= .ref a/\y= .ref b/\H a=some (.lst xs)/\H b=some (.lst [])/\Q (.bl xs.isEmpty) H):=by
 intro pins s σ H x y v u Q I rx ry h;obtain⟨a,b,xs,rfl,rfl,ha,hb,q⟩:=h;cases xs with
 | nil=>exact Qp hu pins s σ H _ _ v u Q I rx ry ⟨a,b,rfl,rfl,ha,hb,q⟩
 | cons x xs=>
  cases rx;cases ry;obtain⟨its,r1,p1,_⟩:=I.list (Ai.of ha);obtain⟨its2,r2,p2,_⟩:=I.list (Ai.of hb);have l1:=r1.length;have l2:=r2.length;rw [length_cons] at l1;rw [length_nil] at l2;exact SeqAt.RcAt.lists_lengths p1.isList p2.isList (by simp;omega) hu _ _ _ _ (AR I q rfl)
theorem Sg {k:Nat}{A:Around} (hr:AJ k A):A.units+1<cLine:=by have:=hr.un;omega
end L2
end
section
namespace L2
variable {Ts : List (Addr × Addr)} {k : Nat}
def TabsAt (h:Heap) (mg:Str->Option Value) (Ts:List (Addr×Addr)):Prop:=∀x∈Ts,PySem.W.CodeHd h x.1 x.2/\h.BuiltinsAt mg x.2
def BC (Ts:List (Addr×Addr)) (b:Addr):Bool:=Ts.any λx=>x.2==b
theorem Sh {x:Addr×Addr} (h:x∈Ts):BC Ts x.2=true:=any_eq_true.mpr ⟨x,h,by simp⟩
theorem Mq {b:Addr} (h:BC Ts b=true):∃x∈Ts,x.2=b:=by
 obtain⟨x,hx,e⟩:=any_eq_true.mp h;exact⟨x,hx,by simpa using e⟩
theorem Si {P:Program}{w:World}{K:Fgx}{mg mb:Str->Option Value}{CX:Ck}{fa a:Addr}{fd:FuncData}{x:Str}{sp:Sp}{s₁:Shared}{vs:List Value}{ns:List Int}
  (KX:K.In s₁.heap) (hns:s₁.heap.Ns mainGlobals mg) (hb:s₁.heap.Ns builtinsNs mb) (hbb:∀x:Str,x≠ "__name__" ->mb x=bootBuiltins x) (hlim:s₁.heap.NoLimit) (hg:s₁.gens= #[])
  (ha:s₁.heap.get? a=some { cls:= .type "list",data:= .seq vs.toArray}) (hi:IntsAre vs ns) (hl:ns.length<=sizeLine) (hr:AJ k callerA)
  (tA:TabsAt s₁.heap mg Ts) (tO:∀x∈Ts,s₁.heap.get? x.2=some (PySem.W.tabObj #[])) (t3:PySem.W.noTabs K=true)
  (F:∀base:Heap,K.In base->base.Ns mainGlobals mg->TabsAt base mg Ts->BE P w K mg base CX k fa fd [x] sp) (hbind:∀(s:Shared) (u:Value),BindsTo s fd ⟨[u],[]⟩ [(x,u)])
  (hsp:∀H:Hp,(∀x∈Ts,H x.2=some (.tbl #[]))->Ai K H a (ns.map V.int)->sp [.ref a] H (λv _=>v= .bl true) λ_ _ _=>False)
  (hCX:∀H e s',CX [] H s₁ (λ_ _ _=>False) e s'->False):
  codeAny (model P w) callerA (.call (.ref fa) ⟨[.ref a],[]⟩) (λr s'=>r= .ok (.ret (.bool true))/\OldK s₁.heap s'.heap/\s'.os=s₁.os/\AllBare s'.gens) s₁:=by
 have rv:=K0 hi;have lenV:=hi.length;have oT:∀b,BC Ts b=true->s₁.heap.get? b=some (PySem.W.tabObj #[]):=λb z=>by
  obtain⟨x,hx,rfl⟩:=Mq z;exact tO x hx
 have aT:BC Ts a=false:=Bool.eq_false_iff.mpr λz=>by
  have:=oT a z;rw [ha] at this;cases this
 have kT:∀b,BC Ts b=true->K.lookup b=none:=λb z=>by
  cases q:K.lookup b with
  | none=>rfl
  | some o=>
   have e:=KX b o q;rw [oT b z] at e;cases e;have h2:=all_eq_true.mp t3 _ (PySem.W.mem_of_lookupK q);exact absurd (show false=true from h2) Bool.false_ne_true
 have core:∀H:Hp,(∀b,BC Ts b=true->H b=some (.tbl #[]))->(∀b,BC Ts b=false->H b=none\/ ∃o xs,H b=some (.frz o (.lst xs)))->Ai K H a (ns.map V.int)->HOk P w H s₁.heap->(∀b,H b≠none->b=a\/BC Ts b=true)->(H a≠none->K.lookup a=none)->
   codeAny (model P w) callerA (.call (.ref fa) ⟨[.ref a],[]⟩) (λr s'=>r= .ok (.ret (.bool true))/\OldK s₁.heap s'.heap/\s'.os=s₁.os/\AllBare s'.gens) s₁:=by
  intro H hHT hO hS hok hA hK;have base_of:∀ {b:Addr}{o:Obj},s₁.heap.get? b=some o->H b=none->(C6 s₁.heap H).get? b=some o:=λe n=>Nw e n
  have noA:∀ {b:Addr}{o:Obj},s₁.heap.get? b=some o->(∀xs n,o.data≠ .seq xs n)->(o.cls≠ .none\/ ∃es ep,o.data= .dict es ep)->H b=none:=λ{b o} e d1 d2=>by
   cases q:H b with
   | none=>rfl
   | some u=>
    rcases hA b (by rw [q];simp) with e' | e'
    ·subst e';rw [ha] at e;cases e;exact absurd rfl (d1 _ _)
    ·rw [oT b e'] at e;cases e;rcases d2 with d2 | ⟨es,ep,d2⟩
     ·exact absurd rfl d2
     ·have d':Data.fields #[]=Data.dict es ep:=d2;cases d'
  have noD:∀ {b:Addr}{o:Obj}{es:Array DictEntry}{ep:Nat},s₁.heap.get? b=some o->o.data= .dict es ep->H b=none:=λ{b o es ep} e d=>noA e (λxs n z=>by rw [d] at z;cases z) (.inr ⟨es,ep,d⟩)
  have nsK:∀ {b:Addr}{m:Str->Option Value},s₁.heap.Ns b m->(C6 s₁.heap H).Ns b m:=λ{b m} ⟨o,es,ep,e,d,r⟩=>⟨o,es,ep,base_of e (noD e d),d,r⟩
  have hKb:K.In (C6 s₁.heap H):=λb o e=>base_of (KX b o e) (by
   cases q:H b with
   | none=>rfl
   | some u=>
    rcases hA b (by rw [q];simp) with e' | e'
    ·subst e';rw [hK (by rw [q];simp)] at e;cases e
    ·rw [kT b e'] at e;cases e)
  have hM:Mod K mg (C6 s₁.heap H):=⟨hKb,nsK hns,⟨mb,nsK hb,hbb⟩,let ⟨mc,h1,h2⟩:=hlim;⟨mc,nsK h1,h2⟩⟩;have e0:Cm P w K mg (C6 s₁.heap H) callerA [] s₁ H:=⟨rfl,hM,λb o e=>Nx e,Nat.le_of_eq (Nv _ _),trivial,λb hb=>absurd (show b∈([]:List Addr) from hb) (by simp),hok,.of_eq hg⟩;have tA':TabsAt (C6 s₁.heap H) mg Ts:=λx hx=>by
   obtain⟨t1,t4⟩:=tA x hx;refine⟨?_,?_⟩
   ·obtain⟨o,vs',file,tf,flags,tg,inF,text,tt,e1,e2,e3,r⟩:=t1;exact⟨o,vs',file,tf,flags,tg,inF,text,tt,base_of e1 (noA e1 (λxs n q=>by rw [e3] at q;cases q) (.inl λq=>by rw [e2] at q;cases q)),e2,e3,r⟩
   ·obtain⟨bm,ob,b1,b2,b3,b4,b5,b6,b7,b8⟩:=t4;exact⟨bm,ob,b1,b2,b3,b4,base_of b5 (noA b5 (λxs n q=>by rw [b8] at q;cases q) (.inl λq=>by rw [b6] at q;cases q)),b6,b7,b8⟩
  refine codeAny_mono ((F _ hKb (nsK hns) tA').run callerA [] s₁ H ⟨[.ref a],[]⟩ [.ref a] [.ref a] _ _ hr e0 (hbind s₁ (.ref a)) (.cons rfl .nil) (hsp H (λx hx=>hHT _ (Sh hx)) hS)) λr s' h=>?_
  cases r with
  | error e=>exact(hCX H e s' h).elim
  | ok fl=>
   cases fl with
   | next=>exact False.elim h
   | brk=>exact False.elim h
   | cont=>exact False.elim h
   | ret u=>
    obtain⟨v,H',os,bare,un,hok',r',q⟩:=h;have q':v= .bl true:=q;subst q';obtain rfl:u=Value.bool true:=r';have keepO:∀b o,BC Ts b=false->s₁.heap.get? b=some o->s'.heap.get? b=some o:=λb o n e=>by
     cases q:H b with
     | none=>exact un.keep b o e q (by intro z;exact absurd (show b∈([]:List Addr) from z) (by simp)) (by simp)
     | some u=>
      rcases hO b n with z | ⟨ob,xs,z⟩
      ·rw [q] at z;cases z
      ·have z2:=un.frzs b ob _ z;obtain⟨e1,_⟩:=hok b _ z;obtain⟨e2,_⟩:=hok' b _ z2;rw [e] at e1;cases e1;exact e2
    refine⟨rfl,⟨λb o e=>?_,λb o e=>?_⟩,os,bare⟩
    ·cases hb:BC Ts b with
     | false=>exact .inl (keepO b o hb e)
     | true=>
      obtain⟨x,hx,ex⟩:=Mq hb;obtain⟨more,eT⟩:=un.tbls b #[] (hHT b hb);have oN:s'.heap.get? b=some (PySem.W.tabObj (#[]++more)):=hok' b _ eT;rw [oT b hb] at e;cases e;have tc:=((tA x hx).1.tab (tO x hx)).isCodeTable;rw [ex] at tc;exact .inr (.inl ⟨tc,rfl,#[],more,rfl,oN⟩)
    ·cases hb:BC Ts b with
     | false=>exact⟨o,keepO b o hb e⟩
     | true=>
      obtain⟨more,eT⟩:=un.tbls b #[] (hHT b hb);exact⟨_,hok' b _ eT⟩
 cases hk:K.lookup a with
 | some o=>
  have e:=KX a o hk;rw [ha] at e;cases e;refine core (λb=>if BC Ts b=true then some (.tbl #[]) else none) (λb z=>if_pos z) (λb n=> .inl (if_neg (by rw [n];exact Bool.false_ne_true))) (.inr ⟨_,vs.toArray,_,hk,rfl,rfl,rfl,by rw [size_toArray,lenV];exact hl,by simpa using rv⟩) (λb u z=>?_) (λb z=>?_) λz=>absurd (if_neg (by rw [aT];exact Bool.false_ne_true)) z
  ·by_cases hb:BC Ts b=true
   ·have z':=(if_pos hb).symm.trans z;cases z';exact oT b hb
   ·have z':=(if_neg hb).symm.trans z;cases z'
  ·by_cases hb:BC Ts b=true
   ·exact .inr hb
   ·exact absurd (if_neg hb) z
 | none=>
  have aT':¬BC Ts a=true:=by rw [aT];exact Bool.false_ne_true
  have ifa:(if BC Ts a=true then some (HO.tbl #[]) else if a=a then some (HO.frz { cls:= .type "list",data:= .seq vs.toArray} (.lst (ns.map V.int))) else none)=some (HO.frz { cls:= .type "list",data:= .seq vs.toArray} (.lst (ns.map V.int))):=by rw [if_neg aT',if_pos rfl]
  refine core (λb=>if BC Ts b=true then some (.tbl #[]) else if b=a then some (.frz { cls:= .type "list",data:= .seq vs.toArray} (.lst (ns.map V.int))) else none) (λb z=>if_pos z) (λb n=>?_) (.inl (.inr ⟨{ cls:= .type "list",data:= .seq vs.toArray},ifa⟩)) (λb u z=>?_) (λb z=>?_) λ_=>hk
  ·have n':¬BC Ts b=true:=by rw [n];exact Bool.false_ne_true
   by_cases hb:b=a
   ·exact .inr ⟨_,_,by rw [if_neg n',if_pos hb]⟩
   ·exact .inl (by rw [if_neg n',if_neg hb])
  ·dsimp only at z
   by_cases hb:BC Ts b=true
   ·rw [if_pos hb] at z;cases z;exact oT b hb
   ·rw [if_neg hb] at z
    by_cases hb:b=a
    ·rw [if_pos hb] at z;cases z;subst hb;exact⟨ha,by rw [length_map];exact hl,vs,_,rv,ha⟩
    ·rw [if_neg hb] at z;cases z
  ·by_cases hb:BC Ts b=true
   ·exact .inr hb
   ·by_cases hb2:b=a
    ·exact .inl hb2
    ·exact absurd (by show(if BC Ts b=true then _ else _)=none;rw [if_neg hb,if_neg hb2]) z
def B3 (K:Fgx) (x:Str):Addr×Addr:=(PySem.W.tabIn K x).getD (0,0)
theorem walk_ofN {l:PySem.W.OpenLaw}{n:Nat}{q:Program}{loose:List Str}{XP:(Str->Option Value)->Heap->Prop}{YP:World->Heap->Prop}{d:DefRec}{K:Params->Fgx}{CX:World->Ck}{sp:Fgx->Sp}{x:Str} (xs:List Str)
  (hn:l.most=some n) (hn2:n<=sizeLine) (hdf:d.params.defaults=[]) (hr:AJ k callerA)
  (hY:∀(w:World) (h:Heap),YP w h->(K w.params).In h) (hrec:∀y∈xs,∃dT,(recsOf q).find? (λe=>e.name==y)=some dT) (htab:∀w:World,(xs.all λy=>(PySem.W.tabIn (K w.params) y).isSome)=true) (hnt:∀w:World,PySem.W.noTabs (K w.params)=true)
  (F : ∀ (w : World) (mg : Str -> Option Value) (fa : Addr) (h : Heap), (K w.params).In h -> h.Ns mainGlobals mg -> mg d.name = some (.ref fa) ->
   ∃fd:FuncData,(∀(s:Shared) (u:Value),BindsTo s fd ⟨[u],[]⟩ [(x,u)])/\
    ∀base:Heap,(K w.params).In base->base.Ns mainGlobals mg->TabsAt base mg (xs.map (B3 (K w.params)))->BE l.prog w (K w.params) mg base (CX w) k fa fd [x] (sp (K w.params)))
  (hsp:∀(K:Fgx) (H:Hp) (a:Addr) (ns:List Int),ns.length<=n->(∀y∈xs,H (B3 K y).2=some (.tbl #[]))->Ai K H a (ns.map V.int)->sp K [.ref a] H (λv _=>v= .bl true) λ_ _ _=>False)
  (hCX:∀(w:World) (H:Hp) (s:Shared) (e:Value) (s':Shared),CX w [] H s (λ_ _ _=>False) e s'->False):
  PySem.W.WalkO q loose XP YP l.row.toRowW d [] (λf vs=>PySem.call f vs):=by
 refine Att.attach_call hn hdf λw s₀ s₁ mg mb fa o pm cd doc a vs ns G Y ho hd hcd hmg hobj hints hlen hg=>?_
 have KX:=hY w _ Y;obtain⟨fd,hb,hF⟩:=F w mg fa _ KX G.T.g hmg;have both:∀y∈xs,PySem.W.CodeHd s₁.heap (B3 (K w.params) y).1 (B3 (K w.params) y).2/\s₁.heap.get? (B3 (K w.params) y).2=some (PySem.W.tabObj #[]):=λy hy=>by
  obtain⟨dT,hr'⟩:=hrec y hy;have z:=all_eq_true.mp (htab w) y hy;obtain⟨⟨c,T⟩,ht⟩:=Option.isSome_iff_exists.mp z;have e:B3 (K w.params) y=(c,T):=by unfold B3;rw [ht];rfl
  rw [e];exact PySem.W.tab_of G.T KX hr' ht
 have tO:∀z∈xs.map (B3 (K w.params)),s₁.heap.get? z.2=some (PySem.W.tabObj #[]):=λz hz=>by
  obtain⟨y,hy,rfl⟩:=mem_map.mp hz;exact(both y hy).2
 have tA:TabsAt s₁.heap mg (xs.map (B3 (K w.params))):=λz hz=>by
  have t2:=tO z hz;obtain⟨y,hy,rfl⟩:=mem_map.mp hz;refine⟨(both y hy).1,?_⟩;obtain⟨bm,ob,b1,b2,b3,b4,b5,b6⟩:=G.T.bmain;refine⟨bm,ob,b1,b2,λz=>?_,λz=>?_,b3,b4,b5,b6⟩
  ·obtain⟨o,es,ep,e,hd',_⟩:=G.T.g;rw [z,e] at b3;cases b3;rw [hd'] at b6;cases b6
  ·rw [z,t2] at b3;cases b3;cases b4
 exact Si KX G.T.g G.T.b G.T.builtins G.T.nolimit hg hobj hints (Nat.le_trans hlen hn2) hr tA tO (hnt w) hF hb (λH h1 h2=>hsp (K w.params) H a ns hlen (λy hy=>h1 _ (mem_map.mpr ⟨y,hy,rfl⟩)) h2) λH e s'=>hCX w H s₁ e s'
end L2
end
section
namespace L2
variable {M : List Addr} {H H' H1 H2 : Hp} {ql : Str} {xs : List V}
def Mr (o:HO):Prop:=(∃xs,o= .lst xs)\/ ∃ps,o= .tbl ps
def EvX (M:List Addr) (H H':Hp):Prop:=∀b o,H b=some o->(b∈M/\Mr o)\/H' b=some o
theorem EvX.same (h:Ab H H'):EvX M H H':=λb o q=> .inr (h b o q)
theorem EvX.trans (a:EvX M H H1) (b:EvX M H1 H2):EvX M H H2:=λc o h=>(a c o h).elim .inl λz=>b c o z
theorem EvX.ev {p:Addr} (a:Ev p H H') (h:p∈M):EvX M H H':=λc o z=>(a c o z).imp_left fun⟨m,q⟩=>⟨m ▸ h,.inl q⟩
theorem EvX.tab {TB:Addr} (t:TabIn H TB ql) (g:∀b o,H b=some o->b≠TB->H' b=some o) (h:TB∈M):EvX M H H':=λb o z=>by
 by_cases e:b=TB
 ·obtain⟨ps,h1,_⟩:=t;rw [e,h1] at z;cases z;exact .inl ⟨e ▸ h,.inr ⟨_,rfl⟩⟩
 ·exact .inr (g b o z e)
theorem EvX.keep {b:Addr}{o:HO} (a:EvX M H H') (h:H b=some o) (n:¬Mr o):H' b=some o:=(a b o h).elim (λz=>absurd z.2 n) id
theorem EvX.tup {b:Addr} (a:EvX M H H') (h:H b=some (.tup xs)):H' b=some (.tup xs):=a.keep h λz=>by rcases z with⟨_,z⟩ | ⟨_,z⟩<;>cases z
theorem EvX.lst {b:Addr} (a:EvX M H H') (h:H b=some (.lst xs)) (n:b ∉ M):H' b=some (.lst xs):=(a b _ h).elim (λz=>absurd z.1 n) id
theorem EvX.sub {N:List Addr} (a:EvX M H H1) (b:EvX N H1 H2) (h:∀c∈N,c∈M\/H c=Option.none):EvX M H H2:=λc o z=>by
 rcases a c o z with y | y
 ·exact .inl y
 ·rcases b c o y with⟨m,k⟩ | w
  ·rcases h c m with q | q
   ·exact .inl ⟨q,k⟩
   ·rw [q] at z;cases z
  ·exact .inr w
theorem TabIn.ne {TB b:Addr} (t:TabIn H TB ql) (h:H b=some (.lst xs)):b≠TB:=λz=>by
 obtain⟨ps,h1,_⟩:=t;rw [z,h1] at h;cases h
end L2
end
section
namespace MF
open L2
def Aw (i : Nat) : Stmt := PySem.Challenge.pw_mainfires_k94_no_lines_at_the_desk.main.body.getD i (.Pass ⟨0, 0, 0, 0⟩)
abbrev wa4:Stmt:=Aw 22
abbrev wa5:Stmt:=Aw 23
abbrev wa6:Stmt:=Aw 24
abbrev wa7:Stmt:=Aw 25
abbrev wa8:Stmt:=Aw 34
abbrev wa9:Stmt:=Aw 35
abbrev waa:Stmt:=Aw 36
abbrev wab:Stmt:=Aw 37
abbrev wac:Stmt:=Aw 38
abbrev wad:Stmt:=Aw 39
abbrev wae:Stmt:=Aw 40
abbrev waf:Stmt:=Aw 41
abbrev wag:Stmt:=Aw 42
abbrev wah:Stmt:=Aw 43
abbrev wai:Stmt:=Aw 44
abbrev waj:Stmt:=Aw 45
abbrev wak:Stmt:=Aw 46
abbrev wal:Stmt:=Aw 47
abbrev wam:Stmt:=Aw 48
abbrev wan:Stmt:=Aw 49
abbrev wao:Stmt:=Aw 50
abbrev wap:Stmt:=Aw 51
abbrev waq:Stmt:=Aw 52
abbrev war:Stmt:=Aw 53
abbrev was:Stmt:=Aw 54
abbrev wau:Stmt:=Aw 55
abbrev wa3:Stmt:=Aw 56
abbrev wav:Stmt:=Aw 58
abbrev waw:Stmt:=Aw 59
abbrev wax:Stmt:=Aw 60
abbrev waz:Stmt:=Aw 61
abbrev waA:Stmt:=Aw 62
abbrev waB:Stmt:=Aw 64
abbrev waC:Stmt:=Aw 65
abbrev waD:Stmt:=Aw 66
abbrev waE:Stmt:=Aw 76
abbrev waF:Stmt:=Aw 77
abbrev waG:Stmt:=Aw 78
abbrev waH:Stmt:=Aw 79
abbrev waI:Stmt:=Aw 86
abbrev waJ:Stmt:=Aw 87
abbrev waK:Stmt:=Aw 88
abbrev waL:Stmt:=Aw 89
abbrev waM:Stmt:=Aw 91
abbrev waN:Stmt:=Aw 92
abbrev waO:Stmt:=Aw 93
abbrev waP:Stmt:=Aw 94
abbrev waQ:Stmt:=Aw 95
abbrev waR:Stmt:=Aw 96
abbrev waS:Stmt:=Aw 99
abbrev waT:Stmt:=Aw 102
abbrev waU:Stmt:=Aw 103
abbrev waV:Stmt:=Aw 104
abbrev waW:Stmt:=Aw 105
abbrev waX:Stmt:=Aw 106
abbrev waY:Stmt:=Aw 107
abbrev waZ:Stmt:=Aw 108
abbrev wb0:Stmt:=Aw 109
abbrev wb1:Stmt:=Aw 110
abbrev wb2:Stmt:=Aw 111
abbrev wb3:Stmt:=Aw 112
abbrev wb4:Stmt:=Aw 113
abbrev wb5:Stmt:=Aw 114
abbrev wb6:Stmt:=Aw 115
abbrev wa1:Stmt:=Aw 116
def Dl:Stmt->List Stmt | .ClassDef _ _ _ b _ _ _ _ _ _ _=>b | _=>[]
abbrev s_Watch___init__:Stmt:=(Dl (Aw 81)).getD 0 (.Pass ⟨0,0,0,0⟩)
abbrev s_Watch_kept_firing:Stmt:=(Dl (Aw 81)).getD 1 (.Pass ⟨0,0,0,0⟩)
abbrev s_Watch_stoke:Stmt:=(Dl (Aw 81)).getD 2 (.Pass ⟨0,0,0,0⟩)
abbrev s_Watch_bank:Stmt:=(Dl (Aw 81)).getD 3 (.Pass ⟨0,0,0,0⟩)
abbrev s_Watch_put_row:Stmt:=(Dl (Aw 81)).getD 4 (.Pass ⟨0,0,0,0⟩)
abbrev s_Watch_take_over:Stmt:=(Dl (Aw 81)).getD 5 (.Pass ⟨0,0,0,0⟩)
abbrev s_Watch_undo:Stmt:=(Dl (Aw 81)).getD 6 (.Pass ⟨0,0,0,0⟩)
abbrev s_Desk___init__:Stmt:=(Dl (Aw 100)).getD 0 (.Pass ⟨0,0,0,0⟩)
abbrev s_Desk_say:Stmt:=(Dl (Aw 100)).getD 1 (.Pass ⟨0,0,0,0⟩)
structure Tx (mg:Str->Option Value):Prop where
 b_ValueError:mg "ValueError"=none
 b_all:mg "all"=none
 b_bool:mg "bool"=none
 b_divmod:mg "divmod"=none
 b_enumerate:mg "enumerate"=none
 b_int:mg "int"=none
 b_isinstance:mg "isinstance"=none
 b_len:mg "len"=none
 b_max:mg "max"=none
 b_min:mg "min"=none
 b_range:mg "range"=none
 b_reversed:mg "reversed"=none
 b_str:mg "str"=none
 b_sum:mg "sum"=none
 b_tuple:mg "tuple"=none
 b_zip:mg "zip"=none
 g_MOST_BOILERS:∃t,mg "MOST_BOILERS"=some (.int 4 t)
 g_MOST_ENGINES:∃t,mg "MOST_ENGINES"=some (.int 4 t)
 g_MOST_FAULTS:∃t,mg "MOST_FAULTS"=some (.int 4 t)
 g_MOST_HOURS:∃t,mg "MOST_HOURS"=some (.int 8 t)
 g_MOST_UNITS:∃t,mg "MOST_UNITS"=some (.int 9 t)
 g_MOST_EXTRA:∃t,mg "MOST_EXTRA"=some (.int 20 t)
 g_MOST_IN_MAIN:∃t,mg "MOST_IN_MAIN"=some (.int 40 t)
 g_DONE:∃t,mg "DONE"=some (.str "ok" t)
 g_NOTHING:∃t,mg "NOTHING"=some (.str "-" t)
 g_MOST_WRITTEN:∃t,mg "MOST_WRITTEN"=some (.int 99 t)
def Sj:PyData->Bool | .int _=>true | _=>false
def AL (d:PyData) (lo hi:Int):Bool:=match d with | .int i=>decide (lo<=i) && decide (i<=hi) | _=>false
def Bg (d:PyData) (lo hi:Int):Bool:=match d with | .tuple ds=>decide (lo<=(ds.length:Int)) && decide ((ds.length:Int)<=hi) | _=>false
def Hm:Sp:=λvs H Q _=>match vs with | [v]=>∃p d,Aa p H d v/\∀b,b=Sj d->Q (.bl b) H | _=>False
def JC:Sp:=λvs H Q _=>match vs with | [v,.int lo,.int hi]=>∃p d,Aa p H d v/\∀b,b=AL d lo hi->Q (.bl b) H | _=>False
def JD:Sp:=λvs H Q _=>match vs with | [v,.int lo,.int hi]=>∃p d,Aa p H d v/\∀b,b=Bg d lo hi->Q (.bl b) H | _=>False
section
variable {P : Program} {w : World} {K : Fgx} {mg : Str -> Option Value} {base : Heap}
theorem Sk:At ["thing"] ["thing"] (Ak wa4):=Ax
theorem Sl (F:Df K mg "is_whole" wa4 ["thing"]) (T:Tx mg)  :Fn P w K mg base 1 "is_whole" ["thing"] Hm:=by
 refine F.fn Sk (λvs H Q E h=>?_) (λf cdv A outer s H vs Q E hr h=>?_)
 ·unfold Hm at h;split at h;rfl;exact h.elim
 refine⟨_,(Aj (Au (Bz (Ay E4 rfl T.b_isinstance boot_isinstance (Av (cy 0) (Ek (v:= .ty "int") rfl T.b_int L2.boot_int rfl))) (Ca (PN (Ay E4 rfl T.b_isinstance boot_isinstance (Av (cy 0) (Ek (v:= .ty "bool") rfl T.b_bool L2.boot_bool rfl)))))))),?_⟩;unfold Hm at h;split at h
 ·rename_i v;obtain⟨p,d,r,q⟩:=h;refine⟨_,r.ty,.inl rfl,⟨λc=>⟨_,r.ty,.inr (.inl rfl),?_⟩,λc=>?_⟩⟩
  ·exact q _ (by cases d<;>first | rfl | cases c)
  ·exact q _ (by cases d<;>first | rfl | cases c)
 ·exact h.elim
theorem Sm:At ["thing","least","most"] ["thing","least","most"] (Ak wa5):=Ax
abbrev Dn (P:Program) (w:World) (K:Fgx) (mg:Str->Option Value) (base:Heap):Prop:=Fn P w K mg base 2 "is_whole_from" ["thing","least","most"] JC
theorem Sn (F:Df K mg "is_whole_from" wa5 ["thing","least","most"]) (T:Tx mg) (yak:Fn P w K mg base 1 "is_whole" ["thing"] Hm):Dn P w K mg base:=by
 refine F.fn Sm (λvs H Q E h=>?_) (λf cdv A outer s H vs Q E hr h=>?_)
 ·unfold JC at h;split at h;rfl;exact h.elim
 refine⟨_,(Aj (Au (Bz (An yak (hr.mono (by decide)) rfl (Al (cy 0))) (Ca (Lh DX DX (cy 1) (cy 0) (cy 2)))))),?_⟩;unfold JC at h;split at h
 ·rename_i v lo hi;obtain⟨p,d,r,q⟩:=h;refine⟨p,d,r,λb hb=>⟨λc=>?_,λc=>?_⟩⟩
  ·subst c;cases d<;>first | cases hb | skip
   rename_i i;unfold Aa at r;subst r;refine⟨λc=>?_,λc=>?_⟩
   ·exact q _ (by unfold AL;dsimp only;rw [c];rfl)
   ·exact q _ (by unfold AL;dsimp only;rw [c];rfl)
  ·subst c;exact q _ (by cases d<;>first | rfl | cases hb)
 ·exact h.elim
theorem So:At ["thing","fewest","most"] ["thing","fewest","most"] (Ak wa6):=Ax
abbrev C2 (P:Program) (w:World) (K:Fgx) (mg:Str->Option Value) (base:Heap):Prop:=Fn P w K mg base 1 "is_tuple_of" ["thing","fewest","most"] JD
theorem Sr (F:Df K mg "is_tuple_of" wa6 ["thing","fewest","most"]) (T:Tx mg)  :C2 P w K mg base:=by
 refine F.fn So (λvs H Q E h=>?_) (λf cdv A outer s H vs Q E hr h=>?_)
 ·unfold JD at h;split at h;rfl;exact h.elim
 refine⟨_,(Aj (Au (Bz (Ay E4 rfl T.b_isinstance boot_isinstance (Av (cy 0) (Ek (v:= .ty "tuple") rfl T.b_tuple BN rfl))) (Ca (Lh DX DX (cy 1) (Ay (Bn K) rfl T.b_len PySem.boot_len (Al (cy 0))) (cy 2)))))),?_⟩;unfold JD at h;split at h
 ·rename_i v lo hi;obtain⟨p,d,r,q⟩:=h;refine⟨_,r.ty,.inr (.inr (.inl rfl)),⟨λc=>?_,λc=>?_⟩⟩
  ·cases d<;>first | cases c | skip
   rename_i ds;unfold Aa at r;obtain⟨a,xs,rfl,ha,rs⟩:=r;refine⟨a,xs,rfl,.inr (Ag.of ha),?_⟩;rw [<-rs.len];refine⟨λc=>?_,λc=>?_⟩
   ·exact q _ (by unfold Bg;dsimp only;rw [c];rfl)
   ·exact q _ (by unfold Bg;dsimp only;rw [c];rfl)
  ·exact q _ (by cases d<;>first | rfl | cases c)
 ·exact h.elim
end
end MF
end
section
namespace MF
open L2
variable {p : Addr} {H : Hp} {a : PyData} {xs : List V}
theorem Mu {α β:Type}{ds:List α}{i:Nat}{d:α} (f:α->β) (h:ds[i]? =some d):(ds.take (i+1)).map f=(ds.take i).map f++[f d]:=by
 rw [List.take_add_one,h,map_append];rfl
def EB (d:PyData):Bool:=match d with | .tuple [a,b]=>AL a 1 9 && AL b 1 9 | _=>false
def Ed (d:PyData):Bool:=match d with | .tuple [a,b,c]=>AL a 1 9 && AL b 0 7 && AL c 1 8 | _=>false
def EC (d:PyData):Bool:=match d with
 | .tuple [a,b,c]=>AL b 0 40 && match b with | .int hi=>AL c 0 hi &&(match c with | .int st=>AL a 0 st | _=>false) | _=>false
 | _=>false
def Fh (d:PyData):Bool:=match d with | .tuple ds=>Bg d 1 4 && ds.all EB | _=>false
def Fi (d:PyData):Bool:=match d with | .tuple ds=>Bg d 0 4 && ds.all Ed | _=>false
def Fj (d:PyData):Bool:=match d with | .tuple [a,b,c]=>Fh a && Fi b && EC c | _=>false
def Cs (f:PyData->Bool):Sp:=λvs H Q _=>match vs with | [v]=>∃p d,Aa p H d v/\∀b H',b=f d->Ab H H'->Q (.bl b) H' | _=>False
theorem Fk {f:PyData->Bool}{vs H Q E} (h:Cs f vs H Q E):vs.length=1:=by unfold Cs at h;split at h;rfl;exact h.elim
abbrev Hn:Sp:=Cs EB
abbrev Ho:Sp:=Cs Ed
abbrev Hq:Sp:=Cs EC
abbrev Hr:Sp:=Cs Fh
abbrev Hs:Sp:=Cs Fi
abbrev Ht:Sp:=Cs Fj
theorem Ss {vs H Q E} (h:Hn vs H Q E):vs.length=1:=Fk h
theorem Su {vs H Q E} (h:Ho vs H Q E):vs.length=1:=Fk h
theorem Sv {vs H Q E} (h:Hq vs H Q E):vs.length=1:=Fk h
theorem Sx {vs H Q E} (h:Hr vs H Q E):vs.length=1:=Fk h
theorem Sy {vs H Q E} (h:Hs vs H Q E):vs.length=1:=Fk h
theorem Sz {vs H Q E} (h:Ht vs H Q E):vs.length=1:=Fk h
theorem two {ds:List PyData} (h:Bg (.tuple ds) 2 2=true):∃a b,ds=[a,b]:=by
 unfold Bg at h;simp only [Bool.and_eq_true,decide_eq_true_eq] at h
 match ds,h with
 | [a,b],_=>exact⟨a,b,rfl⟩
 | [],h=>simp at h
 | [_],h=>simp at h
 | _::_::_::_,h=>simp at h;omega
theorem three {ds:List PyData} (h:Bg (.tuple ds) 3 3=true):∃a b c,ds=[a,b,c]:=by
 unfold Bg at h;simp only [Bool.and_eq_true,decide_eq_true_eq] at h
 match ds,h with
 | [a,b,c],_=>exact⟨a,b,c,rfl⟩
 | [],h=>simp at h
 | [_],h=>simp at h
 | [_,_],h=>simp at h
 | _::_::_::_::_,h=>simp at h;omega
theorem Fl {d:PyData}{lo hi:Int} (h:Bg d lo hi=true):∃ds,d= .tuple ds:=by
 cases d<;>first | exact⟨_,rfl⟩ | cases h
theorem Aa.shape {ds:List PyData}{v:V} (r:Aa p H (.tuple ds) v):∃a xs,v= .ref a/\H a=some (.tup xs)/\Ad p H ds xs:=by unfold Aa at r;exact r
theorem Ad.two {b:PyData} (r:Ad p H [a,b] xs):∃x y,xs=[x,y]/\Aa p H a x/\Aa p H b y:=by
 unfold Ad at r;obtain⟨x,s,rfl,hx,r⟩:=r;unfold Ad at r;obtain⟨y,s,rfl,hy,r⟩:=r;unfold Ad at r;subst r;exact⟨x,y,rfl,hx,hy⟩
theorem Ad.three {b c:PyData} (r:Ad p H [a,b,c] xs):∃x y z,xs=[x,y,z]/\Aa p H a x/\Aa p H b y/\Aa p H c z:=by
 unfold Ad at r;obtain⟨x,s,rfl,hx,r⟩:=r;obtain⟨y,z,rfl,hy,hz⟩:=Ad.two r;exact⟨x,y,z,rfl,hx,hy,hz⟩
section
variable {P : Program} {w : World} {K : Fgx} {mg : Str -> Option Value} {base : Heap}
theorem zak:At ["thing","make","coal"] ["thing"] (Ak waa):=Ax
theorem SB (F:Df K mg "is_make_and_coal" waa ["thing"]) (T:Tx mg) (ya2:C2 P w K mg base) (ya1:Dn P w K mg base):Fn P w K mg base 3 "is_make_and_coal" ["thing"] Hn:=by
 obtain⟨t_MOST_UNITS,g_MOST_UNITS⟩:=T.g_MOST_UNITS;refine F.fn zak (λvs H Q E h=>?_) (λf cdv A outer s H vs Q E hr h=>?_)
 ·exact Ss h
 refine⟨_,(Ah (AT (BD (Bw (An ya2 (hr.mono (by decide)) rfl (AI (cy 0) Af Af)))) (Aj (Au BQ)) A1) (Ah (Bk (cy 0) (AV K (n:=2) (Ar (Am 1 zak.nd) (Ar (Am 2 zak.nd) AQ)))) (Aj (Au (Bz (An ya1 (hr.mono (by decide)) rfl (AI (cy 1) Af (AO (v:= .int 9) rfl g_MOST_UNITS ⟨t_MOST_UNITS,rfl⟩))) (Ca (An ya1 (hr.mono (by decide)) rfl (AI (cy 2) Af (AO (v:= .int 9) rfl g_MOST_UNITS ⟨t_MOST_UNITS,rfl⟩))))))))),?_⟩;unfold Hn Cs at h;split at h
 ·rename_i v;obtain⟨p,d,r,q⟩:=h;refine⟨p,d,r,λb hb=>⟨λc=>?_,λc=>?_⟩⟩
  ·refine q false H ?_ (Ab.refl _);have e:Bg d 2 2=false:=by rw [<-hb];simpa using c
   cases d<;>first | rfl | skip
   rename_i ds
   match ds,e with
   | [a,b],e=>cases e
   | [],_=>rfl
   | [_],_=>rfl
   | _::_::_::_,_=>rfl
  ·have e:Bg d 2 2=true:=by rw [<-hb];simpa using c
   obtain⟨ds,rfl⟩:=Fl e;obtain⟨a,b,rfl⟩:=two e;obtain⟨l,xs,rfl,hl,rs⟩:=Aa.shape r;obtain⟨x,y,rfl,rx,ry⟩:=Ad.two rs;refine⟨l,[x,y],rfl,Ag.of hl,rfl,x,[y],rfl,y,[],rfl,rfl,p,a,rx,λb1 e1=>⟨λc=>⟨p,b,ry,λb2 e2=>?_⟩,λc=>?_⟩⟩
   ·exact q _ _ (by unfold EB;dsimp only;rw [e2,<-e1,c];rfl) (Ab.refl _)
   ·exact q _ _ (by unfold EB;dsimp only;rw [<-e1,c];rfl) (Ab.refl _)
 ·exact h.elim
theorem zae:At ["thing","draw","first","every"] ["thing"] (Ak wac):=Ax
theorem SC (F:Df K mg "is_engine" wac ["thing"]) (T:Tx mg) (ya2:C2 P w K mg base) (ya1:Dn P w K mg base):Fn P w K mg base 3 "is_engine" ["thing"] Ho:=by
 obtain⟨t_MOST_HOURS,g_MOST_HOURS⟩:=T.g_MOST_HOURS;obtain⟨t_MOST_UNITS,g_MOST_UNITS⟩:=T.g_MOST_UNITS;refine F.fn zae (λvs H Q E h=>?_) (λf cdv A outer s H vs Q E hr h=>?_)
 ·exact Su h
 refine⟨_,(Ah (AT (BD (Bw (An ya2 (hr.mono (by decide)) rfl (AI (cy 0) Af Af)))) (Aj (Au BQ)) A1) (Ah (Bk (cy 0) (AV K (n:=3) (Ar (Am 1 zae.nd) (Ar (Am 2 zae.nd) (Ar (Am 3 zae.nd) AQ))))) (Aj (Au (Bz (An ya1 (hr.mono (by decide)) rfl (AI (cy 1) Af (AO (v:= .int 9) rfl g_MOST_UNITS ⟨t_MOST_UNITS,rfl⟩))) (Bz (An ya1 (hr.mono (by decide)) rfl (AI (cy 2) Af (AA Co (AO (v:= .int 8) rfl g_MOST_HOURS ⟨t_MOST_HOURS,rfl⟩) Af))) (Ca (An ya1 (hr.mono (by decide)) rfl (AI (cy 3) Af (AO (v:= .int 8) rfl g_MOST_HOURS ⟨t_MOST_HOURS,rfl⟩)))))))))),?_⟩;unfold Ho Cs at h;split at h
 ·rename_i v;obtain⟨p,d,r,q⟩:=h;refine⟨p,d,r,λb hb=>⟨λc=>?_,λc=>?_⟩⟩
  ·refine q false H ?_ (Ab.refl _);have e:Bg d 3 3=false:=by rw [<-hb];simpa using c
   cases d<;>first | rfl | skip
   rename_i ds
   match ds,e with
   | [a,b,c],e=>cases e
   | [],_=>rfl
   | [_],_=>rfl
   | [_,_],_=>rfl
   | _::_::_::_::_,_=>rfl
  ·have e:Bg d 3 3=true:=by rw [<-hb];simpa using c
   obtain⟨ds,rfl⟩:=Fl e;obtain⟨a,b,c',rfl⟩:=three e;obtain⟨l,xs,rfl,hl,rs⟩:=Aa.shape r;obtain⟨x,y,z,rfl,rx,ry,rz⟩:=Ad.three rs;refine⟨l,[x,y,z],rfl,Ag.of hl,rfl,x,[y,z],rfl,y,[z],rfl,z,[],rfl,rfl,p,a,rx,λb1 e1=>⟨λc=>⟨p,b,ry,λb2 e2=>⟨λc2=>⟨p,c',rz,λb3 e3=>?_⟩,λc2=>?_⟩⟩,λc=>?_⟩⟩
   ·exact q _ _ (by unfold Ed;dsimp only;rw [e3,<-e1,c];rw [show AL b 0 7=true from by rw [<-c2,e2];rfl];rfl) (Ab.refl _)
   ·exact q _ _ (by unfold Ed;dsimp only;rw [<-e1,c];rw [show AL b 0 7=false from by rw [<-c2,e2];rfl];rfl) (Ab.refl _)
   ·exact q _ _ (by unfold Ed;dsimp only;rw [<-e1,c];rfl) (Ab.refl _)
 ·exact h.elim
theorem zaf:At ["thing","low","high","start"] ["thing"] (Ak wad):=Ax
theorem SD (F:Df K mg "is_main" wad ["thing"]) (T:Tx mg) (ya2:C2 P w K mg base) (ya1:Dn P w K mg base):Fn P w K mg base 3 "is_main" ["thing"] Hq:=by
 obtain⟨t_MOST_IN_MAIN,g_MOST_IN_MAIN⟩:=T.g_MOST_IN_MAIN;refine F.fn zaf (λvs H Q E h=>?_) (λf cdv A outer s H vs Q E hr h=>?_)
 ·exact Sv h
 refine⟨_,(Ah (AT (BD (Bw (An ya2 (hr.mono (by decide)) rfl (AI (cy 0) Af Af)))) (Aj (Au BQ)) A1) (Ah (Bk (cy 0) (AV K (n:=3) (Ar (Am 1 zaf.nd) (Ar (Am 2 zaf.nd) (Ar (Am 3 zaf.nd) AQ))))) (Aj (Au (Bz (An ya1 (hr.mono (by decide)) rfl (AI (cy 2) Af (AO (v:= .int 40) rfl g_MOST_IN_MAIN ⟨t_MOST_IN_MAIN,rfl⟩))) (Bz (An ya1 (hr.mono (by decide)) rfl (AI (cy 3) Af (cy 2))) (Ca (An ya1 (hr.mono (by decide)) rfl (AI (cy 1) Af (cy 3)))))))))),?_⟩;unfold Hq Cs at h;split at h
 ·rename_i v;obtain⟨p,d,r,q⟩:=h;refine⟨p,d,r,λb hb=>⟨λc=>?_,λc=>?_⟩⟩
  ·refine q false H ?_ (Ab.refl _);have e:Bg d 3 3=false:=by rw [<-hb];simpa using c
   cases d<;>first | rfl | skip
   rename_i ds
   match ds,e with
   | [a,b,c],e=>cases e
   | [],_=>rfl
   | [_],_=>rfl
   | [_,_],_=>rfl
   | _::_::_::_::_,_=>rfl
  ·have e:Bg d 3 3=true:=by rw [<-hb];simpa using c
   obtain⟨ds,rfl⟩:=Fl e;obtain⟨a,b,c',rfl⟩:=three e;obtain⟨l,xs,rfl,hl,rs⟩:=Aa.shape r;obtain⟨x,y,z,rfl,rx,ry,rz⟩:=Ad.three rs;refine⟨l,[x,y,z],rfl,Ag.of hl,rfl,x,[y,z],rfl,y,[z],rfl,z,[],rfl,rfl,p,b,ry,λb1 e1=>⟨λc1=>?_,λc1=>?_⟩⟩
   ·rw [c1] at e1;cases b<;>first | cases e1 | skip
    rename_i hi;unfold Aa at ry;subst ry;refine⟨p,c',rz,λb2 e2=>⟨λc2=>?_,λc2=>?_⟩⟩
    ·rw [c2] at e2;cases c'<;>first | cases e2 | skip
     rename_i st;unfold Aa at rz;subst rz;refine⟨p,a,rx,λb3 e3=>?_⟩;exact q _ _ (by unfold EC;dsimp only;rw [e3];rw [<-e1,<-e2];rfl) (Ab.refl _)
    ·exact q _ _ (by unfold EC;dsimp only;rw [<-e1,<-e2,c2];rfl) (Ab.refl _)
   ·exact q _ _ (by unfold EC;dsimp only;rw [<-e1,c1];rfl) (Ab.refl _)
 ·exact h.elim
theorem SE:At ["thing"] ["thing"] (Ak wa9):=Ax
theorem SF (F:Df K mg "are_boilers" wa9 ["thing"]) (T:Tx mg) (yal:Fn P w K mg base 3 "is_make_and_coal" ["thing"] Hn) (ya2:C2 P w K mg base):Fn P w K mg base 4 "are_boilers" ["thing"] Hr:=by
 obtain⟨t_MOST_BOILERS,g_MOST_BOILERS⟩:=T.g_MOST_BOILERS;refine F.fn SE (λvs H Q E h=>?_) (λf cdv A outer s H vs Q E hr h=>?_)
 ·exact Sx h
 refine⟨_,(Aj (Au (Bz (An ya2 (hr.mono (by decide)) rfl (AI (cy 0) Af (AO (v:= .int 4) rfl g_MOST_BOILERS ⟨t_MOST_BOILERS,rfl⟩))) (Ca (Ay (DY rfl) rfl T.b_all boot_all (Al (A4 ["part"] [none] rfl (BH K (cy 0)) (AH.of rfl) (λ_ _ _ _=>(Am 0 (AF (by rfl)))) (λ_ _ _ _=>A3) (λ_ _ _ _=>(An yal (hr.mono (by decide)) rfl (Al (cy 0))))))))))),?_⟩;unfold Hr Cs at h;split at h
 ·rename_i v;obtain⟨p,d,r,q⟩:=h;refine⟨p,d,r,λb hb=>⟨λc=>?_,λc=>?_⟩⟩
  ·rw [c] at hb;obtain⟨ds,rfl⟩:=Fl hb.symm;obtain⟨l,xs,rfl,hl,rs⟩:=Aa.shape r;have hlen:=rs.len;have hsm:ds.length<=4:=by
    have:=hb.symm;unfold Bg at this;simp only [Bool.and_eq_true,decide_eq_true_eq] at this;omega
   refine⟨l,rfl,⟨xs,Ag.of hl⟩,BF (xs:=xs) (λi ys H'=>Ab H H'/\ys=(ds.take i).map λd=>V.bl (EB d)) (by omega) ⟨Ab.refl _,rfl⟩ (λi ys H' h=>by rw [h.2,length_map,length_take];omega) (λi ys H' _ h=>Ag.of (h.1 _ _ hl)) (λi x ys H' hx h=>?_) λys H' h=>?_⟩
   ·obtain⟨d,hd,rd⟩:=rs.got hx;refine⟨trivial,λ_=>⟨p,d,Aa.ev (Ev.same h.1) d x rd,λb H2 e s2=>⟨h.1.trans s2,?_⟩⟩,λc=>by cases c⟩;rw [h.2,e,Mu _ hd]
   ·intro m hm;refine⟨m,ds.map EB,rfl,?_,?_⟩
    ·rw [Ae,h.2,<-hlen,take_length,map_map];rfl
    ·refine q _ _ ?_ (h.1.trans (Ab.new hm));unfold Fh;dsimp only;rw [<-hb,all_map,Bool.true_and];rfl
  ·refine q _ _ ?_ (Ab.refl _);have e:Bg d 1 4=false:=by rw [<-hb,c]
   unfold Fh;cases d<;>first | rfl | skip
   dsimp only;rw [e];rfl
 ·exact h.elim
theorem SG:At ["thing"] ["thing"] (Ak wab):=Ax
theorem SH (F:Df K mg "are_engines" wab ["thing"]) (T:Tx mg) (yam:Fn P w K mg base 3 "is_engine" ["thing"] Ho) (ya2:C2 P w K mg base):Fn P w K mg base 4 "are_engines" ["thing"] Hs:=by
 obtain⟨t_MOST_ENGINES,g_MOST_ENGINES⟩:=T.g_MOST_ENGINES;refine F.fn SG (λvs H Q E h=>?_) (λf cdv A outer s H vs Q E hr h=>?_)
 ·exact Sy h
 refine⟨_,(Aj (Au (Bz (An ya2 (hr.mono (by decide)) rfl (AI (cy 0) Af (AO (v:= .int 4) rfl g_MOST_ENGINES ⟨t_MOST_ENGINES,rfl⟩))) (Ca (Ay (DY rfl) rfl T.b_all boot_all (Al (A4 ["part"] [none] rfl (BH K (cy 0)) (AH.of rfl) (λ_ _ _ _=>(Am 0 (AF (by rfl)))) (λ_ _ _ _=>A3) (λ_ _ _ _=>(An yam (hr.mono (by decide)) rfl (Al (cy 0))))))))))),?_⟩;unfold Hs Cs at h;split at h
 ·rename_i v;obtain⟨p,d,r,q⟩:=h;refine⟨p,d,r,λb hb=>⟨λc=>?_,λc=>?_⟩⟩
  ·rw [c] at hb;obtain⟨ds,rfl⟩:=Fl hb.symm;obtain⟨l,xs,rfl,hl,rs⟩:=Aa.shape r;have hlen:=rs.len;have hsm:ds.length<=4:=by
    have:=hb.symm;unfold Bg at this;simp only [Bool.and_eq_true,decide_eq_true_eq] at this;omega
   refine⟨l,rfl,⟨xs,Ag.of hl⟩,BF (xs:=xs) (λi ys H'=>Ab H H'/\ys=(ds.take i).map λd=>V.bl (Ed d)) (by omega) ⟨Ab.refl _,rfl⟩ (λi ys H' h=>by rw [h.2,length_map,length_take];omega) (λi ys H' _ h=>Ag.of (h.1 _ _ hl)) (λi x ys H' hx h=>?_) λys H' h=>?_⟩
   ·obtain⟨d,hd,rd⟩:=rs.got hx;refine⟨trivial,λ_=>⟨p,d,Aa.ev (Ev.same h.1) d x rd,λb H2 e s2=>⟨h.1.trans s2,?_⟩⟩,λc=>by cases c⟩;rw [h.2,e,Mu _ hd]
   ·intro m hm;refine⟨m,ds.map Ed,rfl,?_,?_⟩
    ·rw [Ae,h.2,<-hlen,take_length,map_map];rfl
    ·refine q _ _ ?_ (h.1.trans (Ab.new hm));unfold Fi;dsimp only;rw [<-hb,all_map,Bool.true_and];rfl
  ·refine q _ _ ?_ (Ab.refl _);have e:Bg d 0 4=false:=by rw [<-hb,c]
   unfold Fi;cases d<;>first | rfl | skip
   dsimp only;rw [e];rfl
 ·exact h.elim
theorem zag:At ["thing","boilers","engines","main"] ["thing"] (Ak wa8):=Ax
theorem SI (F:Df K mg "is_plant" wa8 ["thing"]) (T:Tx mg) (yan:Fn P w K mg base 4 "are_boilers" ["thing"] Hr) (yao:Fn P w K mg base 4 "are_engines" ["thing"] Hs) (yap:Fn P w K mg base 3 "is_main" ["thing"] Hq) (ya2:C2 P w K mg base):Fn P w K mg base 5 "is_plant" ["thing"] Ht:=by
 refine F.fn zag (λvs H Q E h=>?_) (λf cdv A outer s H vs Q E hr h=>?_)
 ·exact Sz h
 refine⟨_,(Ah (AT (BD (Bw (An ya2 (hr.mono (by decide)) rfl (AI (cy 0) Af Af)))) (Aj (Au BQ)) A1) (Ah (Bk (cy 0) (AV K (n:=3) (Ar (Am 1 zag.nd) (Ar (Am 2 zag.nd) (Ar (Am 3 zag.nd) AQ))))) (Aj (Au (Bz (An yan (hr.mono (by decide)) rfl (Al (cy 1))) (Bz (An yao (hr.mono (by decide)) rfl (Al (cy 2))) (Ca (An yap (hr.mono (by decide)) rfl (Al (cy 3)))))))))),?_⟩;unfold Ht Cs at h;split at h
 ·rename_i v;obtain⟨p,d,r,q⟩:=h;refine⟨p,d,r,λb hb=>⟨λc=>?_,λc=>?_⟩⟩
  ·refine q false H ?_ (Ab.refl _);have e:Bg d 3 3=false:=by rw [<-hb];simpa using c
   cases d<;>first | rfl | skip
   rename_i ds
   match ds,e with
   | [a,b,c],e=>cases e
   | [],_=>rfl
   | [_],_=>rfl
   | [_,_],_=>rfl
   | _::_::_::_::_,_=>rfl
  ·have e:Bg d 3 3=true:=by rw [<-hb];simpa using c
   obtain⟨ds,rfl⟩:=Fl e;obtain⟨a,b,c',rfl⟩:=three e;obtain⟨l,xs,rfl,hl,rs⟩:=Aa.shape r;obtain⟨x,y,z,rfl,rx,ry,rz⟩:=Ad.three rs;refine⟨l,[x,y,z],rfl,Ag.of hl,rfl,x,[y,z],rfl,y,[z],rfl,z,[],rfl,rfl,p,a,rx,λb1 H1 e1 s1=>⟨λc=>⟨p,b,Aa.ev (Ev.same s1) _ _ ry,λb2 H2 e2 s2=>⟨λc2=>⟨p,c',Aa.ev (Ev.same (s1.trans s2)) _ _ rz,λb3 H3 e3 s3=>?_⟩,λc2=>?_⟩⟩,λc=>?_⟩⟩
   ·exact q _ _ (by unfold Fj;dsimp only;rw [e3,<-e1,<-e2,c,c2];rfl) (s1.trans (s2.trans s3))
   ·exact q _ _ (by unfold Fj;dsimp only;rw [<-e1,<-e2,c,c2];rfl) (s1.trans s2)
   ·exact q _ _ (by unfold Fj;dsimp only;rw [<-e1,c];rfl) s1
 ·exact h.elim
end
end MF
end
section
namespace MF
open L2
variable {p a : Addr} {H : Hp}
def A5 (p:Addr) (H:Hp):Prop:=∃l f:Int,H p=some (.lst [.int l,.int f])
theorem A5.new {o:HO} (h:A5 p H) (n:H a=none):A5 p (upd H a o):=by
 obtain⟨l,f,e⟩:=h;exact⟨l,f,by rw [Aq (Bu e n)];exact e⟩
theorem A5.ne (h:A5 p H) (n:H a=none):a≠p:=by obtain⟨l,f,e⟩:=h;exact Ne.symm (Bu e n)
theorem A5.same {H':Hp} (h:A5 p H) (s:Ab H H'):A5 p H':=by obtain⟨l,f,e⟩:=h;exact⟨l,f,s _ _ e⟩
def Hu (K:Fgx):Sp:=λvs H Q _=>match vs with | [.ref a,.int k]=>∃ns:List Int,Ai K H a (ns.map V.int)/\0<=k/\∀i,Q (.int i) H | _=>False
def Hv:Sp:=λvs H Q _=>match vs with | [.int c]=>∀p l f,H p=none->Q (.ref p) (upd H p (.lst [.int l,.int f])) | _=>False
def JE:Sp:=λvs H Q _=>match vs with | [.ref p,.int m]=>A5 p H/\0<m/\m<1000/\∀g H',0<=g->g<m->Ev p H H'->A5 p H'->Q (.int g) H' | _=>False
theorem ED {ns:List Int}{g:Int} (h0:0<=g) (h1:g<ns.length):∃v∈ns,BT (ns.map V.int) g=some (.int v):=by
 have hk:g.toNat<ns.length:=by omega
 have e:g=((g.toNat:Nat):Int):=by omega
 refine⟨ns[g.toNat],getElem_mem hk,?_⟩;have q:BT (ns.map V.int) ((g.toNat:Nat):Int)=some (.int ns[g.toNat]):=Cb (by simp [hk]);rw [<-e] at q;exact q
section
variable {P : Program} {w : World} {K : Fgx} {mg : Str -> Option Value} {base : Heap}
theorem SJ:At ["_law_script","_law_k"] ["_law_script","_law_k"] (Ak waT):=Ax
theorem SK (F:Df K mg "_law_cell" waT ["_law_script","_law_k"]) (T:Tx mg)  :Fn P w K mg base 1 "_law_cell" ["_law_script","_law_k"] (Hu K):=by
 refine F.fn SJ (λvs H Q E h=>?_) (λf cdv A outer s H vs Q E hr h=>?_)
 ·unfold Hu at h;split at h;rfl;exact h.elim
 refine⟨_,(Ah (AT (AU DW (cy 1) (Ay (Bn K) rfl T.b_len PySem.boot_len (Al (cy 0))) (AS _)) (Aj (Au (AK (Bp K) (cy 0) (cy 1) (λ_ _=>rfl)))) A1) (Aj (Au Af))),?_⟩;unfold Hu at h;split at h
 ·rename_i a k;obtain⟨ns,hs,h0,q⟩:=h;refine⟨a,_,rfl,.inl hs,⟨λc=>?_,λc=>q 0⟩⟩;have c':k<(ns.length:Int):=by have:=of_decide_eq_true c;simpa using this
  obtain⟨v,_,e⟩:=ED h0 c';exact⟨a,_,k,.int v,rfl,rfl,hs,e,q v⟩
 ·exact h.elim
theorem zar:At ["_law_cell_here","_law_left"] ["_law_cell_here"] (Ak waU):=Ax
theorem SL (F:Df K mg "_law_pen" waU ["_law_cell_here"]) (T:Tx mg)  :Fn P w K mg base 1 "_law_pen" ["_law_cell_here"] Hv:=by
 refine F.fn zar (λvs H Q E h=>?_) (λf cdv A outer s H vs Q E hr h=>?_)
 ·unfold Hv at h;split at h;rfl;exact h.elim
 refine⟨_,(Ah (AG (i:=1) zar.nd rfl (AC (by rfl)) (Ay (Ku rfl) rfl T.b_max boot_max (Av (cy 0) (AA Co Af (cy 0))))) (Aj (Au (Bo (Av (cy 1) (Be Kv rfl T.b_int L2.boot_int (Al (Db Lf (cy 1) (AA Le Af Af) (AS _))))))))),?_⟩;unfold Hv at h;split at h
 ·rename_i c;refine⟨c,0-c,rfl,?_⟩;exact⟨⟨by decide,by decide,by decide⟩,.inr ⟨_,rfl,λp hp=>h p _ _ hp⟩⟩
 ·exact h.elim
theorem za9:At ["_law_pen_here","_law_many","_law_left","_law_got","_law_stir"] ["_law_pen_here","_law_many"] (Ak waV):=Ax
abbrev Fm (P:Program) (w:World) (K:Fgx) (mg:Str->Option Value) (base:Heap):Prop:=Fn P w K mg base 1 "_law_draw" ["_law_pen_here","_law_many"] JE
theorem SM (F:Df K mg "_law_draw" waV ["_law_pen_here","_law_many"]) (T:Tx mg)  :Fm P w K mg base:=by
 refine F.fn za9 (λvs H Q E h=>?_) (λf cdv A outer s H vs Q E hr h=>?_)
 ·unfold JE at h;split at h;rfl;exact h.elim
 refine⟨_,(Ah (AT (AU Cy (AK (Bp K) (cy 0) Af (λ_ _=>rfl)) Af (AS _)) (Ah (Bk (Ay Oc rfl T.b_divmod boot_divmod (Av (AK (Bp K) (cy 0) Af (λ_ _=>rfl)) (cy 1))) (AV K (n:=2) (Ar (Am 2 za9.nd) (Ar (Am 3 za9.nd) AQ)))) (Ah (Bk (cy 2) (ID (cy 0) Af IR)) (Aj (Au (cy 3))))) A1) (Ah (AG (i:=4) za9.nd rfl (AC (by rfl)) (AA E2 (AA GQ (AA Bm (AA E2 (AK (Bp K) (cy 0) Af (λ_ _=>rfl)) Af) Af) Af) Af)) (Ah (AG (i:=4) za9.nd rfl (AC (by rfl)) (AA E2 (AA Bm (AA GQ (cy 4) (cy 4)) Af) Af)) (Ah (Bk (AA E2 (AA Bm (AA GQ (cy 4) Af) Af) Af) (ID (cy 0) Af IR)) (Aj (Au (AA E2 (AA Je (AK (Bp K) (cy 0) Af (λ_ _=>rfl)) Af) (cy 1)))))))),?_⟩;unfold JE at h;split at h
 ·rename_i p m;obtain⟨⟨l,f,hp⟩,h0,h1,q⟩:=h;refine⟨p,[.int l,.int f],1,.int f,rfl,rfl,Ai.of hp,rfl,rfl,⟨λc=>?_,λc=>?_⟩⟩
  ·refine⟨p,[.int l,.int f],0,.int l,rfl,rfl,Ai.of hp,rfl,l,m,rfl,⟨h0,by omega⟩,λt ht=>?_⟩;have hpt:p≠t:=Bu hp ht;have hp':upd H t (.tup [.int (l / m),.int (l % m)]) p=some (.lst [.int l,.int f]):=by rw [Aq hpt];exact hp
   refine⟨t,[.int (l / m),.int (l % m)],rfl,Ag.of Ae,rfl,_,_,rfl,_,_,rfl,rfl,?_⟩;refine⟨p,[.int l,.int f],0,0,rfl,rfl,hp',rfl,?_⟩;exact q _ _ (Int.emod_nonneg _ (by omega)) (Int.emod_lt_of_pos _ h0) ((Ev.new ht).trans (Ev.pen hp')) ⟨l / m,f,Ae⟩
  ·have b1:∀x:Int,-(2 ^ 64)<x % 2147483629:=λx=>Int.lt_of_lt_of_le (by decide) (Int.emod_nonneg x (by decide))
   have b2:∀x:Int,x % 2147483629<2 ^ 64:=λx=>Int.lt_trans (Int.emod_lt_of_pos x (by decide)) (by decide)
   have g1:(0:Int)<2147483647:=by decide
   have g2:(0:Int)<2147483629:=by decide
   have g3:(0:Int)<2147483587:=by decide
   have c1: -(2 ^ 64)<(69621:Int)/\(69621:Int)<2 ^ 64:=by decide
   have c2: -(2 ^ 64)<(48271:Int)/\(48271:Int)<2 ^ 64:=by decide
   refine⟨p,[.int l,.int f],0,.int l,rfl,rfl,Ai.of hp,rfl,g1,.inr c1,g2,.inl ⟨b1 _,b2 _⟩,g3,.inr c2,g2,p,[.int l,.int f],0,0,rfl,rfl,hp,rfl,?_⟩;refine⟨p,_,0,_,rfl,rfl,Ai.of Ae,rfl,⟨by decide,by decide⟩,h0,?_⟩;exact q _ _ (Int.emod_nonneg _ (by omega)) (Int.emod_lt_of_pos _ h0) (Ev.pen hp) ⟨_,f,Ae⟩
 ·exact h.elim
end
end MF
end
section
namespace MF
open L2
variable {H H2 H' H3 : Hp} {ys zs : List V} {p p' t : Addr} {Good : PyData -> Prop} {i : Nat}
mutual
def B8:PyData->Bool
 | .list _=>false | .dict _=>false | .tuple ds=>EE ds | _=>true
def EE:List PyData->Bool
 | []=>true
 | d::ds=>B8 d && EE ds
end
def TEv (H H':Hp):Prop:=∀a xs,H a=some (.tup xs)->H' a=some (.tup xs)
theorem TEv.trans {H1:Hp} (a:TEv H H1) (b:TEv H1 H2):TEv H H2:=λc o h=>b c o (a c o h)
theorem _root_.L2.Ev.tev {p:Addr}{H H':Hp} (h:Ev p H H'):TEv H H':=λa xs q=>h.tup q
theorem TEv.upd {a:Addr} (h:H a=some (.lst ys)):TEv H (upd H a (.lst zs)):=λb xs q=>by
 rw [Aq (Nu q h (by intro z;cases z))];exact q
mutual
theorem Aa.tev (h:TEv H H'):∀(d:PyData) (v:V),B8 d=true->Aa p H d v->Aa p' H' d v
 | .none,v,_,q=>q
 | .bool _,v,_,q=>q
 | .int _,v,_,q=>q
 | .str _,v,_,q=>q
 | .tuple ds,v,n,q=>by
  unfold Aa at q ⊢;obtain⟨a,xs,e,r,z⟩:=q;exact⟨a,xs,e,h _ _ r,Ad.tev h ds xs (by unfold B8 at n;exact n) z⟩
 | .list ds,v,n,q=>by unfold B8 at n;cases n
 | .dict kvs,v,n,q=>by unfold B8 at n;cases n
theorem Ad.tev (h:TEv H H'):∀(ds:List PyData) (xs:List V),EE ds=true->Ad p H ds xs->Ad p' H' ds xs
 | [],xs,_,q=>by unfold Ad at q ⊢;exact q
 | d::ds,xs,n,q=>by
  unfold Ad at q ⊢;unfold EE at n;obtain⟨n1,n2⟩:=Bool.and_eq_true_iff.mp n;obtain⟨x,r,e,z,zs⟩:=q;exact⟨x,r,e,Aa.tev h d x n1 z,Ad.tev h ds r n2 zs⟩
end
theorem Ct {ds:List PyData} (h:∀d∈ds,B8 d=true):EE ds=true:=by
 induction ds with
 | nil=>rfl
 | cons d ds ih=>unfold EE;rw [h d mem_cons_self,ih λx hx=>h x (mem_cons_of_mem _ hx)];rfl
theorem _root_.L2.Ev.own {p b:Addr}{H H':Hp}{o:HO} (h:Ev p H H') (n:H b=none):Ev p H (upd H' b o):=λx u q=>(h x u q).elim .inl λr=> .inr (by rw [Aq (Bu q n)];exact r)
def GoodB (d:PyData):Prop:=∃m c:Int,d= .tuple [.int m,.int c]/\1<=m/\m<=9/\1<=c/\c<=9
def GoodE (d:PyData):Prop:=∃a f e:Int,d= .tuple [.int a,.int f,.int e]/\1<=a/\a<=9/\0<=f/\f<=7/\1<=e/\e<=8
theorem GoodB.nm {d:PyData} (h:GoodB d):B8 d=true:=by obtain⟨m,c,rfl,_⟩:=h;rfl
theorem GoodE.nm {d:PyData} (h:GoodE d):B8 d=true:=by obtain⟨m,c,e,rfl,_⟩:=h;rfl
structure GoodP (bs es:List PyData) (lo hi st:Int):Prop where
 b:∀d∈bs,GoodB d
 b1:1<=bs.length
 b4:bs.length<=4
 e:∀d∈es,GoodE d
 e4:es.length<=4
 lo0:0<=lo
 ls:lo<=st
 sh:st<=hi
 h4:hi<=40
def Mv (bs es:List PyData) (lo hi st:Int):PyData:= .tuple [.tuple bs,.tuple es,.tuple [.int lo,.int hi,.int st]]
def Hw:Sp:=λvs H Q _=>match vs with | [.ref p]=>A5 p H/\∀v H' bs es lo hi st,GoodP bs es lo hi st->Aa p H' (Mv bs es lo hi st) v->Ev p H H'->A5 p H'->Q v H' | _=>False
structure Filled (Good:PyData->Prop) (p b:Addr) (H H2:Hp) (i:Nat):Prop where
 ev:Ev p H H2
 pen:A5 p H2
 ex:∃xs ds,H2 b=some (.lst xs)/\Ad p H2 ds xs/\(∀d∈ds,Good d)/\ds.length=i
theorem Filled.step {b:Addr}{d:PyData}{xs:List V}{ds:List PyData} (nm:∀d,Good d->B8 d=true) (hx:H2 b=some (.lst xs)) (rs:Ad p H2 ds xs) (gd:∀d∈ds,Good d) (hl:ds.length=i) (e3:Ev p H2 H3) (nb:b≠p) (hb:H b=none) (ev:Ev p H H3) (pn:A5 p H3)
  (ht:H3 t=none) (rd:Aa p (upd H3 t (.tup ys)) d (.ref t)) (g:Good d):Filled Good p b H (upd (upd H3 t (.tup ys)) b (.lst (xs++[.ref t]))) (i+1):=by
 have hb3:H3 b=some (.lst xs):=e3.lst hx nb;have hbt:b≠t:=Bu hb3 ht;have hbt':upd H3 t (.tup ys) b=some (.lst xs):=by rw [Aq hbt];exact hb3
 have tv:TEv (upd H3 t (.tup ys)) (upd (upd H3 t (.tup ys)) b (.lst (xs++[.ref t]))):=TEv.upd hbt';have pn2:A5 p (upd H3 t (.tup ys)):=pn.new ht;refine⟨(ev.trans (Ev.new ht)).own hb,?_,xs++[.ref t],ds++[d],Ae,?_,?_,by simp [hl]⟩
 ·obtain⟨l,f,e⟩:=pn2;exact⟨l,f,by rw [Aq (Ne.symm nb)];exact e⟩
 ·exact(Ad.tev ((e3.trans (Ev.new ht)).tev.trans tv) ds xs (Ct λd h=>nm d (gd d h)) rs).append (.cons (Aa.tev tv d _ (nm d g) rd) .nil)
 ·intro x hx;rcases mem_append.mp hx with h | h
  ·exact gd x h
  ·rw [mem_singleton.mp h];exact g
theorem Filled.done {b:Addr} (f:Filled Good p b H H2 i) (nb:b≠p) (e3:Ev p H2 H3):∃xs ds,H3 b=some (.lst xs)/\Ad p H3 ds xs/\(∀d∈ds,Good d)/\ds.length=i:=by
 obtain⟨xs,ds,h1,h2,h3,h4⟩:=f.ex;exact⟨xs,ds,e3.lst h1 nb,Ad.ev e3 ds xs h2,h3,h4⟩
theorem Filled.other {b e:Addr}{H4 H7:Hp}{ws:List V} (nm:∀d,Good d->B8 d=true) (f:Filled Good p b H H4 i) (e47:Ev p H4 H7) (ht:H7 t=none) (he:H7 e=some (.lst ys)) (hHe:H e=none) (nb:b≠p) (neb:b≠e) (ne:e≠p) (pn:A5 p H7):
  Filled Good p b H (upd (upd H7 t (.tup zs)) e (.lst ws)) i:=by
 obtain⟨xs,ds,h1,h2,h3,h4⟩:=f.ex;have h7:H7 b=some (.lst xs):=e47.lst h1 nb;have het:upd H7 t (.tup zs) e=some (.lst ys):=by rw [Aq (Bu he ht)];exact he
 refine⟨((f.ev.trans e47).trans (Ev.new ht)).own hHe,?_,xs,ds,?_,?_,h3,h4⟩
 ·obtain⟨l,g,z⟩:=pn.new (o:= .tup zs) ht;exact⟨l,g,by rw [Aq (Ne.symm ne)];exact z⟩
 ·rw [Aq neb,Aq (Bu h7 ht)];exact h7
 ·exact Ad.tev ((e47.trans (Ev.new ht)).tev.trans (TEv.upd het)) ds xs (Ct λd h=>nm d (h3 d h)) h2
theorem EF {n:Nat} (h:n<=1000):n<sizeLine:=Nat.lt_of_le_of_lt h (by decide)
section
variable {P : Program} {w : World} {K : Fgx} {mg : Str -> Option Value} {base : Heap}
theorem za4:At ["_law_pen_here","_law_boilers","_law_turn","_law_make","_law_engines","_law_low","_law_high"] ["_law_pen_here"] (Ak waW):=Ax
theorem SN (F:Df K mg "_law_plant" waW ["_law_pen_here"]) (T:Tx mg) (ya0:Fm P w K mg base):Fn P w K mg base 2 "_law_plant" ["_law_pen_here"] Hw:=by
 refine F.fn za4 (λvs H Q E h=>?_) (λf cdv A outer s H vs Q E hr h=>?_)
 ·unfold Hw at h;split at h;rfl;exact h.elim
 refine⟨_,(Ah (AG (i:=1) za4.nd rfl (AC (by rfl)) (Bo BY)) (Ah (CU PassesOwn.never rfl (Da rfl T.b_range (Al (AA Bm Af (An ya0 (hr.mono (by decide)) rfl (Av (cy 0) Af))))) (Am 2 za4.nd) (Ah (AG (i:=3) za4.nd rfl (AC (by rfl)) (AK (Bp K) (Bo (AI Af Af (AA Bm Af (An ya0 (hr.mono (by decide)) rfl (Av (cy 0) Af))))) (An ya0 (hr.mono (by decide)) rfl (Av (cy 0) Af)) (λ_ _=>rfl))) (Aj (Ba (Cn PySem.F.plainAttrs_list PySem.F.slot_list_append PySem.F.type_list_append CY (cy 1) (Al (BG (Av (cy 3) (AA Bm Af (An ya0 (hr.mono (by decide)) rfl (Av (cy 0) (AK (Bp K) (Bo (Av Af Af)) (An ya0 (hr.mono (by decide)) rfl (Av (cy 0) Af)) (λ_ _=>rfl))))))))))))) (Ah (AG (i:=4) za4.nd rfl (AC (by rfl)) (Bo BY)) (Ah (CU PassesOwn.never rfl (Da rfl T.b_range (Al (An ya0 (hr.mono (by decide)) rfl (Av (cy 0) Af)))) (Am 2 za4.nd) (Aj (Ba (Cn PySem.F.plainAttrs_list PySem.F.slot_list_append PySem.F.type_list_append CY (cy 4) (Al (BG (AI (AA Bm Af (An ya0 (hr.mono (by decide)) rfl (Av (cy 0) Af))) (An ya0 (hr.mono (by decide)) rfl (Av (cy 0) Af)) (AA Bm Af (An ya0 (hr.mono (by decide)) rfl (Av (cy 0) Af)))))))))) (Ah (AG (i:=5) za4.nd rfl (AC (by rfl)) (AK (Bp K) (Bo (Av Af (An ya0 (hr.mono (by decide)) rfl (Av (cy 0) Af)))) (An ya0 (hr.mono (by decide)) rfl (Av (cy 0) Af)) (λ_ _=>rfl))) (Ah (AG (i:=6) za4.nd rfl (AC (by rfl)) (Ay (Ob rfl) rfl T.b_min boot_min (Av Af (AA Bm (cy 5) (AK (Bp K) (Bo (AE Af (E7 Af Af Af (An ya0 (hr.mono (by decide)) rfl (Av (cy 0) Af))))) (An ya0 (hr.mono (by decide)) rfl (Av (cy 0) Af)) (λ_ _=>rfl)))))) (Aj (Au (BG (AI (Be (BV K) rfl T.b_tuple BN (Al (cy 1))) (Be (BV K) rfl T.b_tuple BN (Al (cy 4))) (BG (AI (cy 5) (cy 6) (AA Bm (cy 5) (An ya0 (hr.mono (by decide)) rfl (Av (cy 0) (AA Bm (AA Co (cy 6) (cy 5)) Af)))))))))))))))),?_⟩;unfold Hw at h;split at h
 ·rename_i p;obtain⟨pn,q⟩:=h;refine λb hb=>?_
  have nb:b≠p:=pn.ne hb;refine⟨pn.new hb,by decide,by decide,λg1 H1 a1 b1 e1 pn1=>?_⟩;have ev1:Ev p H H1:=(Ev.new hb).trans e1;have hb1:H1 b=some (.lst []):=e1.lst Ae nb;refine⟨1+g1,rfl,by omega,by omega,FE (n:=(1+g1).toNat) (λi σ H2=>∃t m,σ=[some (.ref p),some (.ref b),t,m,none,none,none]/\Filled GoodB p b H H2 i)
   ⟨none,none,rfl,ev1,pn1,[],[],hb1,.nil,(λ_ h=>nomatch h),rfl⟩ (λi σ H2 hi hP=>?_) fun σ H2 hP=>?_⟩
  ·obtain⟨t,m,rfl,ev,pn2,xs,ds,hx,rs,gd,hl⟩:=hP;refine⟨pn2,by decide,by decide,λg2 H3 a2 b2 e2 pn3 l1 hl1=>⟨pn3.new hl1,by decide,by decide,λg3 H4 a3 b3 e3 pn4=>?_⟩⟩;obtain⟨v,hv,hat⟩:=ED (ns:=[1,9,1+g2]) a3 (by simpa using b3);have hb4:H4 b=some (.lst xs):=e3.lst (by rw [Aq (Bu (e2.lst hx nb) hl1)];exact e2.lst hx nb) nb;refine⟨l1,_,g3,.int v,rfl,rfl,Ai.of (e3.lst Ae (pn3.ne hl1)),hat,.inl ⟨rfl,_,Ai.of hb4⟩,λl2 hl2=>⟨pn4.new hl2,by decide,by decide,λg4 H5 a4 b4 e4 pn5=>?_⟩⟩;obtain⟨v2,hv2,hat2⟩:=ED (ns:=[3,9]) a4 (by simpa using b4);have hv2':v2=3\/v2=9:=by simpa using hv2
   refine⟨l2,_,g4,.int v2,rfl,rfl,Ai.of (e4.lst Ae (pn4.ne hl2)),hat2,pn5,by omega,by omega,λg5 H6 a5 b5 e5 pn6 t1 ht1=>?_⟩;have e26:Ev p H2 H6:=e2.trans ((Ev.new hl1).trans (e3.trans ((Ev.new hl2).trans (e4.trans e5))));have hv':v=1\/v=9\/v=1+g2:=by simpa using hv
   refine⟨b,xs,.ref t1,rfl,rfl,by rw [Aq (Bu (e26.lst hx nb) ht1)];exact e26.lst hx nb,EF (by rw [<-rs.len,hl];omega),_,_,rfl,?_⟩;exact Filled.step (λd h=>h.nm) hx rs gd hl e26 nb hb (ev.trans e26) pn6 ht1 (Aa.tup Ae (.cons Aa.int (.cons Aa.int .nil))) ⟨v,1+g5,rfl,by omega,by omega,by omega,by omega⟩
  obtain⟨t,m,rfl,fb⟩:=hP;refine λe he=>?_
  have ne:e≠p:=fb.pen.ne he;have hne:H e=none:=by
   cases z:H e with
   | none=>rfl
   | some o=>exact((fb.ev e o z).elim (fun⟨x,_⟩=>absurd x ne) λx=>by rw [x] at he;cases he)
  have neb:e≠b:=by
   obtain⟨xs,ds,h1,_⟩:=fb.ex;exact Ne.symm (Bu h1 he)
  refine⟨fb.pen.new he,by decide,by decide,λg6 H3 a6 b6 e6 pn3=>?_⟩;have fb3:Filled GoodB p b H H3 (1+g1).toNat:=⟨fb.ev.trans ((Ev.new he).trans e6),pn3,fb.done nb ((Ev.new he).trans e6)⟩;refine⟨g6,rfl,by omega,by omega,FE (n:=g6.toNat) (λi σ H4=>∃t m,σ=[some (.ref p),some (.ref b),t,m,some (.ref e),none,none]/\Filled GoodB p b H H4 (1+g1).toNat/\Filled GoodE p e H H4 i)
   ⟨_,_,rfl,fb3,fb3.ev,pn3,[],[],e6.lst Ae ne,.nil,(λ_ h=>nomatch h),rfl⟩ (λi σ H4 hi hP=>?_) fun σ H4 hP=>?_⟩
  ·obtain⟨t,m,rfl,fb4,ev,pn2,xs,ds,hx,rs,gd,hl⟩:=hP;refine⟨.inl ⟨rfl,_,Ai.of hx⟩,pn2,by decide,by decide,λg7 H5 a7 b7 e7 pn5=>⟨pn5,by decide,by decide,λg8 H6 a8 b8 e8 pn6=>⟨pn6,by decide,by decide,λg9 H7 a9 b9 e9 pn7 t1 ht1=>?_⟩⟩⟩;have e47:Ev p H4 H7:=e7.trans (e8.trans e9);have he7:=e47.lst hx ne;refine⟨e,xs,.ref t1,rfl,rfl,by rw [Aq (Bu he7 ht1)];exact he7,EF (by rw [<-rs.len,hl];omega),_,_,rfl,?_,?_⟩
   ·exact Filled.other (λd h=>h.nm) fb4 e47 ht1 he7 hne nb (Ne.symm neb) ne pn7
   ·exact Filled.step (λd h=>h.nm) hx rs gd hl e47 ne hne (ev.trans e47) pn7 ht1 (Aa.tup Ae (.cons Aa.int (.cons Aa.int (.cons Aa.int .nil)))) ⟨1+g7,g8,1+g9,rfl,by omega,by omega,by omega,by omega,by omega,by omega⟩
  obtain⟨t,m,rfl,fb4,fe4⟩:=hP;have pn4:=fb4.pen;refine⟨pn4,by decide,by decide,λg7 H5 a7 b7 e7 pn5 l1 hl1=>⟨pn5.new hl1,by decide,by decide,λg8 H6 a8 b8 e8 pn6=>?_⟩⟩;obtain⟨low,hlow,hat⟩:=ED (ns:=[0,g7]) a8 (by simpa using b8);have hlow':low=0\/low=g7:=by simpa using hlow
  refine⟨l1,_,g8,.int low,rfl,rfl,Ai.of (e8.lst Ae (pn5.ne hl1)),hat,pn6,by decide,by decide,λg9 H7 a9 b9 e9 pn7 l2 hl2=>⟨pn7.new hl2,by decide,by decide,λg10 H8 a10 b10 e10 pn8=>?_⟩⟩;obtain⟨x,hx,hat2⟩:=ED (ns:=[0,3,10,40,g9]) a10 (by simpa using b10);have hx':x=0\/x=3\/x=10\/x=40\/x=g9:=by simpa using hx
  refine⟨l2,_,g10,.int x,rfl,rfl,Ai.of (e10.lst Ae (pn7.ne hl2)),hat2,40,low+x,rfl,?_⟩;have hhi:∃hi:Int,(if low+x<40 then low+x else 40)=hi/\low<=hi/\hi<=40:=by
   by_cases c:low+x<40
   ·exact⟨low+x,if_pos c,by omega,by omega⟩
   ·exact⟨40,if_neg c,by omega,by omega⟩
  obtain⟨hi,ehi,hi1,hi2⟩:=hhi;rw [ehi];have e48:Ev p H4 H8:=e7.trans ((Ev.new hl1).trans (e8.trans (e9.trans ((Ev.new hl2).trans e10))));obtain⟨xs,bs,hb8,rb8,gb,lb⟩:=fb4.done nb e48;obtain⟨ys,es,he8,re8,ge,le⟩:=fe4.done ne e48;refine⟨b,xs,rfl,.inl ⟨Ai.of hb8,λc1 hc1=>⟨e,ys,rfl,.inl ⟨Ai.of (by rw [Aq (Bu he8 hc1)];exact he8),λc2 hc2=>⟨(pn8.new hc1).new hc2,by omega,by omega,λg11 H9 a11 b11 e11 pn9 c3 hc3 c4 hc4=>?_⟩⟩⟩⟩⟩;have e89:Ev p H8 (upd (upd H9 c3 (.tup [.int low,.int hi,.int (low+g11)])) c4 (.tup [.ref c1,.ref c2,.ref c3])):=(Ev.new hc1).trans ((Ev.new hc2).trans (e11.trans ((Ev.new hc3).trans (Ev.new hc4))));have t1:upd (upd H9 c3 (.tup [.int low,.int hi,.int (low+g11)])) c4 (.tup [.ref c1,.ref c2,.ref c3]) c1=some (.tup xs):=
   ((Ev.new hc2).trans (e11.trans ((Ev.new hc3).trans (Ev.new hc4)))).tup Ae
  have t2:upd (upd H9 c3 (.tup [.int low,.int hi,.int (low+g11)])) c4 (.tup [.ref c1,.ref c2,.ref c3]) c2=some (.tup ys):=(e11.trans ((Ev.new hc3).trans (Ev.new hc4))).tup Ae;have t3:upd (upd H9 c3 (.tup [.int low,.int hi,.int (low+g11)])) c4 (.tup [.ref c1,.ref c2,.ref c3]) c3=some (.tup [.int low,.int hi,.int (low+g11)]):=(Ev.new (p:=p) hc4).tup Ae;refine q _ _ bs es low hi (low+g11) ⟨gb,by omega,by omega,ge,by omega,by omega,by omega,by omega,hi2⟩ ?_ (fb4.ev.trans (e48.trans e89)) ((pn9.new hc3).new hc4);exact Aa.tup Ae (.cons (Aa.tup t1 (Ad.ev e89 _ _ rb8)) (.cons (Aa.tup t2 (Ad.ev e89 _ _ re8)) (.cons (Aa.tup t3 (.cons Aa.int (.cons Aa.int (.cons Aa.int .nil)))) .nil)))
 ·exact h.elim
end
end MF
end
section
namespace MF
open L2
variable {p : Addr} {H : Hp} {v : V}
theorem CF {i lo hi:Int} (h1:lo<=i) (h2:i<=hi):AL (.int i) lo hi=true:=by unfold AL;dsimp only;rw [decide_eq_true h1,decide_eq_true h2];rfl
theorem Fo {ds:List PyData}{lo hi:Int} (h1:lo<=(ds.length:Int)) (h2:(ds.length:Int)<=hi):Bg (.tuple ds) lo hi=true:=by unfold Bg;dsimp only;rw [decide_eq_true h1,decide_eq_true h2];rfl
theorem SO {P:PL} (h:P.ok):Fj P.d=true:=by
 have b1:=h.b1;have b4:=h.b4;have e4:=h.e4;have hb:Fh (.tuple (P.bs.map bD))=true:=by
  unfold Fh;dsimp only;rw [Fo (by rw [length_map];omega) (by rw [length_map];omega),Bool.true_and,all_eq_true];intro d hd;obtain⟨q,hq,rfl⟩:=mem_map.mp hd;obtain⟨q1,q2,q3,q4⟩:=h.b q hq;unfold EB;dsimp only;rw [CF q1 q2,CF q3 q4];rfl
 have he:Fi (.tuple (P.es.map eD))=true:=by
  unfold Fi;dsimp only;rw [Fo (by rw [length_map];omega) (by rw [length_map];omega),Bool.true_and,all_eq_true];intro d hd;obtain⟨q,hq,rfl⟩:=mem_map.mp hd;obtain⟨q1,q2,q3,q4,q5,q6⟩:=h.e q hq;unfold Ed;dsimp only;rw [CF q1 q2,CF q3 q4,CF q5 q6];rfl
 have h0:=h.lo0;have h1:=h.ls;have h2:=h.sh;have h3:=h.h4;have hm:EC (.tuple [.int P.lo,.int P.hi,.int P.st])=true:=by
  unfold EC;dsimp only;rw [CF (by omega) h3,CF (by omega) h2,CF h0 h1];rfl
 unfold Fj PL.d;dsimp only;rw [hb,he,hm];rfl
def Hx:Sp:=λvs H Q _=>match vs with | [v]=>∃p P,PL.ok P/\Aa p H P.d v/\∀H',Ab H H'->Q .non H' | _=>False
def Hy:Sp:=λvs H Q _=>match vs with | [v,.int nb,.int hs]=>∃p x n h,FT.ok x n h/\nb=(n:Int)/\hs=(h:Int)/\Aa p H x.d v/\∀H',Ab H H'->Q (.bl true) H' | _=>False
def Hz:Sp:=λvs H Q _=>match vs with | [v,u]=>∃p P S,PL.ok P/\SY.ok S P.bs.length/\Aa p H P.d v/\Aa p H S.d u/\∀H',Ab H H'->Q (.bl true) H' | _=>False
def F2:Sp:=λvs H Q _=>match vs with | [v,u]=>∃p P S,PL.ok P/\SY.ok S P.bs.length/\Aa p H P.d v/\Aa p H S.d u/\∀H',Ab H H'->Q .non H' | _=>False
def HA:Sp:=λvs H Q _=>match vs with | [.ref a,.int m]=>∃ws:List Bool,H a=some (.lst (ws.map wV))/\∀H',Ab H H'->Q (.int (BZ ws m)) H' | _=>False
def HB:Sp:=λvs H Q _=>match vs with | [v,.int b,.int h]=>∃p fs,Aa p H (.tuple (fs.map FT.d)) v/\fs.length<=1000/\∀a H',Ab H H'->H' a=some (.lst ((BA fs b h).map wV))->Q (.ref a) H' | _=>False
def HC:Sp:=λvs H Q _=>match vs with | [v,u,.int h]=>∃p bs fs,Aa p H (.tuple (bs.map bD)) v/\Aa p H (.tuple (fs.map FT.d)) u/\bs.length<=1000/\fs.length<=1000/\ret H Q p (AX (Bc bs fs h)) | _=>False
def JF:Sp:=λvs H Q _=>match vs with | [v,u]=>∃p P S,PL.ok P/\SY.ok S P.bs.length/\Aa p H P.d v/\Aa p H S.d u/\ret H Q p (FR P S) | _=>False
def HD:Sp:=λvs H Q _=>match vs with | [v,.int h]=>∃p q,Aa p H (eD q) v/\1<=q.2.2/\Q (.int (drawn q h)) H | _=>False
def F3:Sp:=λvs H Q _=>match vs with | [v,u]=>∃p P S,PL.ok P/\SY.ok S P.bs.length/\Aa p H P.d v/\Aa p H S.d u/\ret H Q p (Qb P S) | _=>False
theorem Aa.plant {P:PL} (r:Aa p H P.d v):∃A B E M xb xe,v= .ref A/\H A=some (.tup [.ref B,.ref E,.ref M])/\H B=some (.tup xb)/\Ad p H (P.bs.map bD) xb/\H E=some (.tup xe)/\Ad p H (P.es.map eD) xe/\H M=some (.tup [.int P.lo,.int P.hi,.int P.st]):=by
 unfold PL.d at r;obtain⟨A,xs,rfl,hA,rs⟩:=Aa.shape r;obtain⟨x,y,z,rfl,rx,ry,rz⟩:=Ad.three rs;obtain⟨B,xb,rfl,hB,rb⟩:=Aa.shape rx;obtain⟨E,xe,rfl,hE,re⟩:=Aa.shape ry;obtain⟨M,xm,rfl,hM,rm⟩:=Aa.shape rz;obtain⟨m1,m2,m3,rfl,r1,r2,r3⟩:=Ad.three rm;unfold Aa at r1 r2 r3;subst r1 r2 r3;exact⟨A,B,E,M,xb,xe,rfl,hA,hB,rb,hE,re,hM⟩
theorem Aa.story {S:SY} (r:Aa p H S.d v):∃A B E xf,v= .ref A/\H A=some (.tup [.ref B,.ref E])/\H B=some (.tup (S.ex.map V.int))/\H E=some (.tup xf)/\Ad p H (S.fs.map FT.d) xf:=by
 unfold SY.d at r;obtain⟨A,xs,rfl,hA,rs⟩:=Aa.shape r;obtain⟨x,y,rfl,rx,ry⟩:=Ad.two rs;obtain⟨B,xb,rfl,hB,rb⟩:=Aa.shape rx;obtain⟨E,xe,rfl,hE,re⟩:=Aa.shape ry;rw [Ad.ints rb] at hB;exact⟨A,B,E,xe,rfl,hA,hB,hE,re⟩
section
variable {P : Program} {w : World} {K : Fgx} {mg : Str -> Option Value} {base : Heap}
theorem SQ:At ["plant"] ["plant"] (Ak wae):=Ax
theorem SR (F:Df K mg "need_plant" wae ["plant"]) (T:Tx mg) (yaq:Fn P w K mg base 5 "is_plant" ["thing"] Ht):Fn P w K mg base 6 "need_plant" ["plant"] Hx:=by
 refine F.fn SQ (λvs H Q E h=>?_) (λf cdv A outer s H vs Q E hr h=>?_)
 ·unfold Hx at h;split at h;rfl;exact h.elim
 refine⟨_,(Aj (AT (BD (Bw (An yaq (hr.mono (by decide)) rfl (Al (cy 0))))) (Aj IA) A1)),?_⟩;unfold Hx at h;split at h
 ·rename_i v;obtain⟨p,P,ok,r,q⟩:=h;refine⟨p,_,r,λb H' hb s=>⟨λc=>?_,λc=>q H' s⟩⟩;rw [hb,SO ok] at c;cases c
 ·exact h.elim
theorem zaa:At ["thing","boilers","hours","boiler","word","first","last"] ["thing","boilers","hours"] (Ak wag):=Ax
theorem SS (F:Df K mg "is_fault" wag ["thing","boilers","hours"]) (T:Tx mg) (ya2:C2 P w K mg base) (ya1:Dn P w K mg base):Fn P w K mg base 3 "is_fault" ["thing","boilers","hours"] Hy:=by
 refine F.fn zaa (λvs H Q E h=>?_) (λf cdv A outer s H vs Q E hr h=>?_)
 ·unfold Hy at h;split at h;rfl;exact h.elim
 refine⟨_,(Ah (AT (BD (Bw (An ya2 (hr.mono (by decide)) rfl (AI (cy 0) Af Af)))) (Aj (Au BQ)) A1) (Ah (Bk (cy 0) (AV K (n:=4) (Ar (Am 3 zaa.nd) (Ar (Am 4 zaa.nd) (Ar (Am 5 zaa.nd) (Ar (Am 6 zaa.nd) AQ)))))) (Aj (Au (Bz (An ya1 (hr.mono (by decide)) rfl (AI (cy 3) Af (AA Co (cy 1) Af))) (Bz (Db (E5 K) (cy 4) (BG (Av Ao Ao)) (by with_unfolding_all rfl)) (Bz (An ya1 (hr.mono (by decide)) rfl (AI (cy 6) Af (AA Co (cy 2) Af))) (Ca (An ya1 (hr.mono (by decide)) rfl (AI (cy 5) Af (cy 6))))))))))),?_⟩;unfold Hy at h;split at h
 ·rename_i v nb hs;obtain⟨p,x,n,k,ok,rfl,rfl,r,q⟩:=h;obtain⟨o1,o2,o3,o4,o5⟩:=ok;refine⟨p,_,r,λb hb=>⟨λc=>?_,λc=>?_⟩⟩
  ·rw [hb] at c;cases c
  ·obtain⟨l,xs,rfl,hl,rs⟩:=Aa.shape r;obtain⟨y1,y2,y3,y4,rfl,r1,r2,r3,r4⟩:=Ad.four rs;unfold Aa at r1 r2 r3 r4;subst r1 r2 r3 r4;refine⟨l,_,rfl,Ag.of hl,rfl,_,_,rfl,_,_,rfl,_,_,rfl,_,_,rfl,rfl,p,.int x.b,Aa.int,λb1 e1=>⟨λ_=>?_,λc1=>?_⟩⟩
   ·refine λt ht=>⟨t,_,rfl,.inr (Ag.of Ae),rfl,rfl,⟨λ_=>?_,λc2=>?_⟩⟩
    ·refine⟨p,.int x.l,Aa.int,λb2 e2=>⟨λ_=>⟨p,.int x.f,Aa.int,λb3 e3=>?_⟩,λc2=>?_⟩⟩
     ·rw [CF o3 o4] at e3;subst e3;exact q _ (Ab.new ht)
     ·rw [CF (by omega) (by omega)] at e2;rw [e2] at c2;cases c2
    ·rw [if_neg (by decide)] at c2;have:=Qd x.out;unfold wV at this;rw [this] at c2;cases c2
   ·rw [CF o1 (by omega)] at e1;rw [e1] at c1;cases c1
 ·exact h.elim
theorem zal:At ["plant","thing","extra","faults"] ["plant","thing"] (Ak waf):=Ax
theorem ST (F:Df K mg "is_story" waf ["plant","thing"]) (T:Tx mg) (yar:Fn P w K mg base 3 "is_fault" ["thing","boilers","hours"] Hy) (ya2:C2 P w K mg base) (ya1:Dn P w K mg base) (yas:Fn P w K mg base 6 "need_plant" ["plant"] Hx):Fn P w K mg base 7 "is_story" ["plant","thing"] Hz:=by
 obtain⟨t_MOST_EXTRA,g_MOST_EXTRA⟩:=T.g_MOST_EXTRA;obtain⟨t_MOST_FAULTS,g_MOST_FAULTS⟩:=T.g_MOST_FAULTS;obtain⟨t_MOST_HOURS,g_MOST_HOURS⟩:=T.g_MOST_HOURS;refine F.fn zal (λvs H Q E h=>?_) (λf cdv A outer s H vs Q E hr h=>?_)
 ·unfold Hz at h;split at h;rfl;exact h.elim
 refine⟨_,(Ah (Ba (An yas (hr.mono (by decide)) rfl (Al (cy 0)))) (Ah (AT (BD (Bw (An ya2 (hr.mono (by decide)) rfl (AI (cy 1) Af Af)))) (Aj (Au BQ)) A1) (Ah (Bk (cy 1) (AV K (n:=2) (Ar (Am 2 zal.nd) (Ar (Am 3 zal.nd) AQ)))) (Aj (Au (Bz (An ya2 (hr.mono (by decide)) rfl (AI (cy 2) Af (AO (v:= .int 8) rfl g_MOST_HOURS ⟨t_MOST_HOURS,rfl⟩))) (Bz (Ay (DY rfl) rfl T.b_all boot_all (Al (A4 ["units"] [none] rfl (BH K (cy 2)) (AH.of rfl) (λ_ _ _ _=>(Am 0 (AF (by rfl)))) (λ_ _ _ _=>A3) (λ_ _ _ _=>(An ya1 (hr.mono (by decide)) rfl (AI (cy 0) Af (AO (v:= .int 20) rfl g_MOST_EXTRA ⟨t_MOST_EXTRA,rfl⟩))))))) (Bz (An ya2 (hr.mono (by decide)) rfl (AI (cy 3) Af (AO (v:= .int 4) rfl g_MOST_FAULTS ⟨t_MOST_FAULTS,rfl⟩))) (Ca (Ay (DY rfl) rfl T.b_all boot_all (Al (A4 ["part","extra","plant"] [none,some 2,some 0] rfl (BH K (cy 3)) (AH.of rfl) (λ_ _ _ _=>(Am 0 (AF (by rfl)))) (λ_ _ _ _=>A3) (λ_ _ _ _=>(An yar (hr.mono (by decide)) rfl (AI (cy 0) (Ay (Bn K) rfl T.b_len PySem.boot_len (Al (AK (Bq K) (cy 2) Af (λ_ _=>rfl)))) (Ay (Bn K) rfl T.b_len PySem.boot_len (Al (cy 1)))))))))))))))))),?_⟩;unfold Hz at h;split at h
 ·rename_i v u;obtain⟨p,P,S,ok,so,r,ru,q⟩:=h;refine⟨p,P,ok,r,λH1 s1=>⟨p,S.d,Aa.ev (Ev.same s1) _ _ ru,λb hb=>⟨λc=>?_,λc=>?_⟩⟩⟩
  ·rw [hb] at c;cases c
  ·obtain⟨A,B,E,xf,rfl,hA,hB,hE,rf⟩:=Aa.story (Aa.ev (Ev.same s1) _ _ ru);obtain⟨PA,PB,PE,PM,xb,xe,rfl,pA,pB,rb,pE,re,pM⟩:=Aa.plant (Aa.ev (Ev.same s1) _ _ r);have x1:=so.x1;have x8:=so.x8;have f4:=so.f4;have lf:=rf.len;rw [length_map] at lf;have lb:=rb.len;rw [length_map] at lb;refine⟨A,_,rfl,Ag.of hA,rfl,_,_,rfl,_,_,rfl,rfl,p,_,Aa.row hB,λb1 e1=>⟨λ_=>?_,λc1=>?_⟩⟩
   ·refine⟨B,rfl,⟨_,Ag.of hB⟩,BF (xs:=S.ex.map V.int) (λi ys H'=>Ab H1 H'/\ys=List.replicate i (V.bl true)) (by rw [length_map];omega) ⟨Ab.refl _,rfl⟩ (λi ys H' h=>by rw [h.2,List.length_replicate];omega) (λi ys H' _ h=>Ag.of (h.1 _ _ hB)) (λi x ys H' hx h=>?_) λys H' h=>?_⟩
    ·rw [getElem?_map] at hx;cases z:S.ex[i]? with
     | none=>rw [z] at hx;cases hx
     | some n=>
      rw [z] at hx;cases hx;obtain⟨n0,n20⟩:=so.x n (mem_of_getElem? z);refine⟨trivial,λ_=>⟨p,.int n,Aa.int,λb e=>⟨h.1,?_⟩⟩,λc=>by cases c⟩;rw [CF n0 n20] at e;rw [h.2,e,List.replicate_succ']
    ·intro m hm;refine⟨m,List.replicate S.ex.length true,rfl,by rw [Ae,h.2,length_map,List.map_replicate],⟨λ_=>?_,λc=>?_⟩⟩
     ·have s2:Ab H1 (upd H' m (.lst ys)):=h.1.trans (Ab.new hm);refine⟨p,_,Aa.tup (s2 _ _ hE) (Ad.ev (Ev.same s2) _ _ rf),λb2 e2=>⟨λ_=>?_,λc2=>?_⟩⟩
      ·refine⟨E,rfl,⟨_,Ag.of (s2 _ _ hE)⟩,BF (xs:=xf) (λi zs H2=>Ab H1 H2/\zs=List.replicate i (V.bl true)) (by omega) ⟨s2,rfl⟩ (λi ys H' h=>by rw [h.2,List.length_replicate];omega) (λi ys H' _ h=>Ag.of (h.1 _ _ hE)) (λi x zs H2 hx h2=>?_) λzs H2 h2=>?_⟩
       ·obtain⟨f,hf,rd⟩:=Ad.mapGot rf hx;refine⟨⟨rfl,rfl,trivial⟩,λ_=>?_,λc=>by cases c⟩;refine⟨PA,_,0,.ref PB,rfl,rfl,Ag.of (h2.1 _ _ pA),rfl,PB,xb,rfl,.inr (Ag.of (h2.1 _ _ pB)),B,_,rfl,.inr (Ag.of (h2.1 _ _ hB)),?_⟩;refine⟨p,f,P.bs.length,S.ex.length,so.f f (mem_of_getElem? hf),by rw [lb],by rw [length_map],Aa.ev (Ev.same h2.1) _ _ rd,λH3 s3=>⟨h2.1.trans s3,?_⟩⟩;rw [h2.2,List.replicate_succ']
       ·intro m2 hm2;refine⟨m2,List.replicate xf.length true,rfl,by rw [Ae,h2.2,List.map_replicate],?_⟩;have ea:(List.replicate xf.length true).all id=true:=by simp
        rw [ea];exact q _ (s1.trans (h2.1.trans (Ab.new hm2)))
      ·rw [Fo (by rw [length_map];omega) (by rw [length_map];omega)] at e2;rw [e2] at c2;cases c2
     ·have ea:(List.replicate S.ex.length true).all id=true:=by simp
      rw [ea] at c;cases c
   ·rw [Fo (by rw [length_map];omega) (by rw [length_map];omega)] at e1;rw [e1] at c1;cases c1
 ·exact h.elim
theorem SU:At ["plant","story"] ["plant","story"] (Ak wah):=Ax
theorem SV (F:Df K mg "need_story" wah ["plant","story"]) (T:Tx mg) (yat:Fn P w K mg base 7 "is_story" ["plant","thing"] Hz):Fn P w K mg base 8 "need_story" ["plant","story"] F2:=by
 refine F.fn SU (λvs H Q E h=>?_) (λf cdv A outer s H vs Q E hr h=>?_)
 ·unfold F2 at h;split at h;rfl;exact h.elim
 refine⟨_,(Aj (AT (BD (Bw (An yat (hr.mono (by decide)) rfl (Av (cy 0) (cy 1))))) (Aj IA) A1)),?_⟩;unfold F2 at h;split at h
 ·rename_i v u;obtain⟨p,P,S,ok,so,r,ru,q⟩:=h;exact⟨p,P,S,ok,so,r,ru,λH' s=>⟨λc=>(by cases c),λc=>q H' s⟩⟩
 ·exact h.elim
theorem SW:At ["words","make"] ["words","make"] (Ak wal):=Ax
theorem SX (F:Df K mg "cap_under" wal ["words","make"]) (T:Tx mg)  :Fn P w K mg base 1 "cap_under" ["words","make"] HA:=by
 refine F.fn SW (λvs H Q E h=>?_) (λf cdv A outer s H vs Q E hr h=>?_)
 ·unfold HA at h;split at h;rfl;exact h.elim
 refine⟨_,(Ah (AT (AU (E5 K) Ao (cy 0) (by with_unfolding_all rfl)) (Aj (Au Af)) A1) (Ah (AT (AU (E5 K) Ao (cy 0) (by with_unfolding_all rfl)) (Aj (Au (AA Je (cy 1) Af))) A1) (Aj (Au (cy 1))))),?_⟩;unfold HA at h;split at h
 ·rename_i a m;obtain⟨ws,ha,q⟩:=h;refine⟨a,_,rfl,.inl (Ai.of ha),rfl,GU,⟨λc=>?_,λc=>?_⟩⟩
  ·rw [if_neg (by decide),GT] at c;have e:BZ ws m=0:=by unfold BZ;rw [if_pos c]
   rw [e] at q;exact q _ (Ab.refl _)
  ·rw [if_neg (by decide),GT] at c;refine⟨a,_,rfl,.inl (Ai.of ha),rfl,GU,⟨λc2=>?_,λc2=>?_⟩⟩
   ·rw [if_neg (by decide),Jl] at c2;have e:BZ ws m=m / 2:=by unfold BZ;rw [if_neg (by rw [c];decide),if_pos c2]
    rw [e] at q;exact⟨⟨by decide,by decide⟩,q _ (Ab.refl _)⟩
   ·rw [if_neg (by decide),Jl] at c2;have e:BZ ws m=m:=by unfold BZ;rw [if_neg (by rw [c];decide),if_neg (by rw [c2];decide)]
    rw [e] at q;exact q _ (Ab.refl _)
 ·exact h.elim
theorem SZ:At ["faults","boiler","hour"] ["faults","boiler","hour"] (Ak wak):=Ax
theorem S7 (F:Df K mg "words_for" wak ["faults","boiler","hour"]) (T:Tx mg)  :Fn P w K mg base 1 "words_for" ["faults","boiler","hour"] HB:=by
 refine F.fn SZ (λvs H Q E h=>?_) (λf cdv A outer s H vs Q E hr h=>?_)
 ·unfold HB at h;split at h;rfl;exact h.elim
 refine⟨_,(Aj (Au (A4 ["at","word","first","last","boiler","hour"] [none,none,none,none,some 1,some 2] rfl (BH K (cy 0)) (AH.of rfl) (λ_ _ _ _=>(AV K (n:=4) (Ar (Am 0 (AF (by rfl))) (Ar (Am 1 (AF (by rfl))) (Ar (Am 2 (AF (by rfl))) (Ar (Am 3 (AF (by rfl))) AQ)))))) (λ_ _ _ _=>(FM (PW.pt (FQ (AU Cy (cy 0) (cy 4) (AS _)) (Go (Pz DX DX (cy 2) (cy 5) (cy 3))))))) (λ_ _ _ _=>(cy 1))))),?_⟩;unfold HB at h;split at h
 ·rename_i v b hr';obtain⟨p,fs,r,hl,q⟩:=h;obtain⟨A,xs,rfl,hA,rs⟩:=Aa.shape r;have ln:=rs.len;rw [length_map] at ln;refine⟨A,rfl,⟨xs,Ag.of hA⟩,BF (xs:=xs) (λi ys H'=>Ab H H'/\ys=(BA (fs.take i) b hr').map wV) (by omega) ⟨Ab.refl _,rfl⟩ (λi ys H' h=>?_) (λi ys H' _ h=>Ag.of (h.1 _ _ hA)) (λi x ys H' hx h=>?_) λys H' h=>?_⟩
  ·rw [h.2,length_map];unfold BA;rw [length_map];exact Nat.le_trans (List.length_filter_le _ _) (by rw [length_take];omega)
  ·obtain⟨f,hf,rd⟩:=Ad.mapGot rs hx;obtain⟨l,zs,rfl,hl',rz⟩:=Aa.shape (Aa.ev (Ev.same h.1) _ _ rd);obtain⟨y1,y2,y3,y4,rfl,r1,r2,r3,r4⟩:=Ad.four rz;unfold Aa at r1 r2 r3 r4;subst r1 r2 r3 r4;have nx:=Lq (b:=b) (h:=hr') hf;have no:Cf b hr' f=false->Ab H H'/\ys=(BA (fs.take (i+1)) b hr').map wV:=λe=>⟨h.1,by rw [nx,e,if_neg (by decide)];exact h.2⟩
   refine⟨l,_,rfl,Ag.of hl',rfl,_,_,rfl,_,_,rfl,_,_,rfl,_,_,rfl,rfl,⟨rfl,rfl,trivial⟩,rfl,⟨λc1=>⟨λc2=>⟨λc3=>?_,λc3=>no ?_⟩,λc2=>⟨λz=>(by cases z),λ_=>no ?_⟩⟩,λc1=>⟨λz=>(by cases z),λ_=>no ?_⟩⟩⟩
   ·have e:Cf b hr' f=true:=by
     rw [Dv] at c1;unfold Cf;rw [c1,c2,c3];rfl
    refine⟨h.1,?_⟩;rw [nx,if_pos e,map_append,h.2];rfl
   ·unfold Cf;rw [c3,Bool.and_false]
   ·unfold Cf;rw [c2,Bool.and_false,Bool.false_and]
   ·rw [Dv] at c1;unfold Cf;rw [c1,Bool.false_and,Bool.false_and]
  ·intro m hm;refine q m _ (h.1.trans (Ab.new hm)) ?_;rw [Ae,h.2,take_of_length_le (by omega)]
 ·exact h.elim
theorem S8:At ["boilers","faults","hour"] ["boilers","faults","hour"] (Ak waj):=Ax
theorem S9 (F:Df K mg "caps_in" waj ["boilers","faults","hour"]) (T:Tx mg) (yau:Fn P w K mg base 1 "cap_under" ["words","make"] HA) (yav:Fn P w K mg base 1 "words_for" ["faults","boiler","hour"] HB):Fn P w K mg base 2 "caps_in" ["boilers","faults","hour"] HC:=by
 refine F.fn S8 (λvs H Q E h=>?_) (λf cdv A outer s H vs Q E hr h=>?_)
 ·unfold HC at h;split at h;rfl;exact h.elim
 refine⟨_,(Aj (Au (Be (BV K) rfl T.b_tuple BN (Al (A4 ["at","make","coal","faults","hour"] [none,none,none,some 1,some 2] rfl (GS P w K rfl T.b_enumerate (Al (cy 0))) (AH.of rfl) (λ_ _ _ _=>(AV K (n:=2) (Ar (Am 0 (AF (by rfl))) (Ar (AV K (n:=2) (Ar (Am 1 (AF (by rfl))) (Ar (Am 2 (AF (by rfl))) AQ))) AQ)))) (λ_ _ _ _=>A3) (λ_ _ _ _=>(An yau (hr.mono (by decide)) rfl (Av (An yav (hr.mono (by decide)) rfl (AI (cy 3) (cy 0) (cy 4))) (cy 1))))))))),?_⟩;unfold HC at h;split at h
 ·rename_i v u hour;obtain⟨p,bs,fs,r,ru,lb,lf,q⟩:=h;obtain⟨A,xs,rfl,hA,rs⟩:=Aa.shape r;have ln:=rs.len;rw [length_map] at ln;refine⟨A,rfl,⟨xs,Ag.of hA⟩,walk_enum (xs:=xs) (λi ys H'=>Ab H H'/\ys=((Bc bs fs hour).take i).map V.int) (by omega) ⟨Ab.refl _,rfl⟩ (λi ys H' h=>by rw [h.2,length_map,length_take];omega) (λi ys H' h=>Ag.of (h.1 _ _ hA)) (λi x ys H' T hx h hT=>?_) λys H' h=>?_⟩
  ·obtain⟨f,hf,rd⟩:=Ad.mapGot rs hx;have s2:Ab H (upd H' T (.tup [.int i,x])):=h.1.trans (Ab.new hT);obtain⟨l,zs,rfl,hl',rz⟩:=Aa.shape (Aa.ev (Ev.same s2) _ _ rd);obtain⟨y1,y2,rfl,r1,r2⟩:=Ad.two rz;unfold Aa at r1 r2;subst r1 r2;refine⟨T,_,rfl,Ag.of Ae,rfl,_,_,rfl,_,_,rfl,l,_,rfl,Ag.of hl',rfl,_,_,rfl,_,_,rfl,rfl,rfl,⟨rfl,rfl,trivial⟩,λ_=>?_,λz=>by cases z⟩;refine⟨p,fs,Aa.ev (Ev.same s2) _ _ ru,lf,λa H3 s3 ha=>⟨_,ha,λH4 s4=>⟨s2.trans (s3.trans s4),?_⟩⟩⟩;rw [AY (Jk hf),map_append,h.2];rfl
  ·intro m hm;refine⟨m,_,rfl,.inl ⟨Ai.of Ae,λt ht=>?_⟩⟩;refine q _ _ (h.1.trans ((Ab.new hm).trans (Ab.new ht))) (Aa.row ?_);rw [Ae,h.2,take_of_length_le (by rw [D0];omega)]
 ·exact h.elim
theorem zam:At ["plant","story","extra","faults"] ["plant","story"] (Ak wai):=Ax
abbrev Fp (P:Program) (w:World) (K:Fgx) (mg:Str->Option Value) (base:Heap):Prop:=Fn P w K mg base 9 "caps_of" ["plant","story"] JF
theorem Ta (F:Df K mg "caps_of" wai ["plant","story"]) (T:Tx mg) (yaw:Fn P w K mg base 2 "caps_in" ["boilers","faults","hour"] HC) (ya7:Fn P w K mg base 8 "need_story" ["plant","story"] F2):Fp P w K mg base:=by
 refine F.fn zam (λvs H Q E h=>?_) (λf cdv A outer s H vs Q E hr h=>?_)
 ·unfold JF at h;split at h;rfl;exact h.elim
 refine⟨_,(Ah (Ba (An ya7 (hr.mono (by decide)) rfl (Av (cy 0) (cy 1)))) (Ah (Bk (cy 1) (AV K (n:=2) (Ar (Am 2 zam.nd) (Ar (Am 3 zam.nd) AQ)))) (Aj (Au (Be (BV K) rfl T.b_tuple BN (Al (A4 ["hour","faults","plant"] [none,some 3,some 0] rfl (Da rfl T.b_range (Al (Ay (Bn K) rfl T.b_len PySem.boot_len (Al (cy 2))))) (AH.of rfl) (λ_ _ _ _=>(Am 0 (AF (by rfl)))) (λ_ _ _ _=>A3) (λ_ _ _ _=>(An yaw (hr.mono (by decide)) rfl (AI (AK (Bq K) (cy 2) Af (λ_ _=>rfl)) (cy 1) (cy 0))))))))))),?_⟩;unfold JF at h;split at h
 ·rename_i v u;obtain⟨p,P,S,ok,so,r,ru,q⟩:=h;refine⟨p,P,S,ok,so,r,ru,λH1 s1=>?_⟩;obtain⟨A,B,E,xf,rfl,hA,hB,hE,rf⟩:=Aa.story (Aa.ev (Ev.same s1) _ _ ru);obtain⟨PA,PB,PE,PM,xb,xe,rfl,pA,pB,rb,pE,re,pM⟩:=Aa.plant (Aa.ev (Ev.same s1) _ _ r);have x8:=so.x8;have f4:=so.f4;have b4:=ok.b4;refine⟨A,_,rfl,Ag.of hA,rfl,_,_,rfl,_,_,rfl,rfl,B,_,rfl,.inr (Ag.of hB),_,rfl,by omega,by rw [length_map];omega,GG (n:=(S.ex.map V.int).length) (λi ys H'=>Ab H1 H'/\Ad p H' (((caps P S).take i).map AX) ys) (by rw [length_map];omega) ⟨Ab.refl _,.nil⟩ (λi ys H' h=>by rw [<-h.2.len,length_map,length_take];omega) (λi ys H' hi h=>?_) λys H' h=>?_⟩
  ·rw [length_map] at hi;refine⟨⟨rfl,rfl,trivial⟩,λ_=>?_,λz=>by cases z⟩;refine⟨PA,_,0,.ref PB,rfl,rfl,Ag.of (h.1 _ _ pA),rfl,p,P.bs,S.fs,Aa.tup (h.1 _ _ pB) (Ad.ev (Ev.same h.1) _ _ rb),Aa.tup (h.1 _ _ hE) (Ad.ev (Ev.same h.1) _ _ rf),by omega,by omega,λv2 H2 s2 r2=>⟨h.1.trans s2,?_⟩⟩;rw [Int.zero_add] at r2;rw [AY (BB hi),map_append];exact Ad.snoc (Ad.ev (Ev.same s2) _ _ h.2) r2
  ·intro m hm;refine⟨m,_,rfl,.inl ⟨Ai.of Ae,λt ht=>?_⟩⟩;have s3:=(Ab.new (o:= .lst ys) hm).trans (Ab.new (o:= .tup ys) ht);refine q _ _ (s1.trans (h.1.trans s3)) (Aa.tup Ae ?_);have r3:=Ad.ev (Ev.same s3) _ _ h.2;rw [take_of_length_le (by rw [BI,length_map];exact Nat.le_refl _)] at r3;exact r3
 ·exact h.elim
theorem zah:At ["engine","hour","draw","first","every"] ["engine","hour"] (Ak wan):=Ax
theorem Tb (F:Df K mg "drawn_by" wan ["engine","hour"]) (T:Tx mg)  :Fn P w K mg base 1 "drawn_by" ["engine","hour"] HD:=by
 refine F.fn zah (λvs H Q E h=>?_) (λf cdv A outer s H vs Q E hr h=>?_)
 ·unfold HD at h;split at h;rfl;exact h.elim
 refine⟨_,(Ah (Bk (cy 0) (AV K (n:=3) (Ar (Am 2 zah.nd) (Ar (Am 3 zah.nd) (Ar (Am 4 zah.nd) AQ))))) (Ah (AT (PW.pt (E3 (AU DW (cy 1) (cy 3) (AS _)) (EO (AU Em (AA E2 (AA Co (cy 1) (cy 3)) (cy 4)) Af (AS _))))) (Aj (Au Af)) A1) (Aj (Au (cy 2))))),?_⟩;unfold HD at h;split at h
 ·rename_i v hour;obtain⟨p,e,r,e1,q⟩:=h;obtain⟨A,xs,rfl,hA,rs⟩:=Aa.shape r;obtain⟨y1,y2,y3,rfl,r1,r2,r3⟩:=Ad.three rs;unfold Aa at r1 r2 r3;subst r1 r2 r3;refine⟨A,_,rfl,Ag.of hA,rfl,_,_,rfl,_,_,rfl,_,_,rfl,rfl,⟨λc=>⟨λ_=>?_,λz=>by cases z⟩,λc=>⟨by omega,rfl,⟨λc2=>?_,λc2=>?_⟩⟩⟩⟩
  ·have z:drawn e hour=0:=by unfold drawn;rw [if_pos (.inl (of_decide_eq_true c))]
   rw [z] at q;exact q
  ·have z:drawn e hour=0:=by
    unfold drawn;exact if_pos (.inr λz=>Qe c2 (congrArg V.int z))
   rw [z] at q;exact q
  ·have z:drawn e hour=e.1:=by
    unfold drawn;rw [if_neg ?_];rintro(z | z)
    ·exact absurd (decide_eq_true z) (by rw [c];decide)
    ·apply z;have:V.int ((hour-e.2.1) % e.2.2)=V.int 0:=by simpa using c2
     injection this
   rw [z] at q;exact q
 ·exact h.elim
theorem zas:At ["plant","story","engines"] ["plant","story"] (Ak wam):=Ax
theorem Td (F:Df K mg "draws_of" wam ["plant","story"]) (T:Tx mg) (yax:Fn P w K mg base 1 "drawn_by" ["engine","hour"] HD) (ya7:Fn P w K mg base 8 "need_story" ["plant","story"] F2):Fn P w K mg base 9 "draws_of" ["plant","story"] F3:=by
 refine F.fn zas (λvs H Q E h=>?_) (λf cdv A outer s H vs Q E hr h=>?_)
 ·unfold F3 at h;split at h;rfl;exact h.elim
 refine⟨_,(Ah (Ba (An ya7 (hr.mono (by decide)) rfl (Av (cy 0) (cy 1)))) (Ah (AG (i:=2) zas.nd rfl (AC (by rfl)) (AK (Bq K) (cy 0) Af (λ_ _=>rfl))) (Aj (Au (Be (BV K) rfl T.b_tuple BN (Al (A4 ["hour","units","engines"] [none,none,some 2] rfl (GS P w K rfl T.b_enumerate (Al (AK (Bq K) (cy 1) Af (λ_ _=>rfl)))) (AH.of rfl) (λ_ _ _ _=>(AV K (n:=2) (Ar (Am 0 (AF (by rfl))) (Ar (Am 1 (AF (by rfl))) AQ)))) (λ_ _ _ _=>A3) (λ_ _ _ _=>(AA Bm (cy 1) (Ay (Lp rfl) rfl T.b_sum boot_sum (Al (A4 ["engine","hour"] [none,some 0] rfl (BH K (cy 2)) (AH.of rfl) (λ_ _ _ _=>(Am 0 (AF (by rfl)))) (λ_ _ _ _=>A3) (λ_ _ _ _=>(An yax (hr.mono (by decide)) rfl (Av (cy 0) (cy 1)))))))))))))))),?_⟩;unfold F3 at h;split at h
 ·rename_i v u;obtain⟨p,P,S,ok,so,r,ru,q⟩:=h;refine⟨p,P,S,ok,so,r,ru,λH1 s1=>?_⟩;obtain⟨A,B,E,xf,rfl,hA,hB,hE,rf⟩:=Aa.story (Aa.ev (Ev.same s1) _ _ ru);obtain⟨PA,PB,PE,PM,xb,xe,rfl,pA,pB,rb,pE,re,pM⟩:=Aa.plant (Aa.ev (Ev.same s1) _ _ r);have x8:=so.x8;have e4:=ok.e4;have le:=re.len;rw [length_map] at le;refine⟨PA,_,1,.ref PE,rfl,rfl,Ag.of pA,rfl,A,_,0,.ref B,rfl,rfl,Ag.of hA,rfl,B,rfl,⟨_,Ag.of hB⟩,walk_enum (xs:=S.ex.map V.int) (λi ys H'=>Ab H1 H'/\ys=((draws P S).take i).map V.int) (by rw [length_map];omega) ⟨Ab.refl _,rfl⟩ (λi ys H' h=>by rw [h.2,length_map,length_take];omega) (λi ys H' h=>Ag.of (h.1 _ _ hB)) (λi x ys H' T hx h hT=>?_) λys H' h=>?_⟩
  ·rw [getElem?_map] at hx;cases z:S.ex[i]? with
   | none=>rw [z] at hx;cases hx
   | some n=>
    rw [z] at hx;cases hx;have s2:Ab H1 (upd H' T (.tup [.int i,.int n])):=h.1.trans (Ab.new hT);refine⟨T,_,rfl,Ag.of Ae,rfl,_,_,rfl,_,_,rfl,rfl,⟨rfl,trivial⟩,λ_=>?_,λz=>by cases z⟩;refine⟨PE,rfl,⟨xe,Ag.of (s2 _ _ pE)⟩,BF (xs:=xe) (λj zs H2=>Ab H1 H2/\zs=((P.es.take j).map λe=>drawn e i).map V.int) (by omega) ⟨s2,rfl⟩ (λj zs H2 h=>by rw [h.2,length_map,length_map,length_take];omega) (λj zs H2 _ h=>Ag.of (h.1 _ _ pE)) (λj x zs H2 hx h2=>?_) λzs H2 h2=>?_⟩
    ·obtain⟨f,hf,rd⟩:=Ad.mapGot re hx;refine⟨⟨rfl,trivial⟩,λ_=>⟨p,f,Aa.ev (Ev.same h2.1) _ _ rd,(ok.e f (mem_of_getElem? hf)).2.2.2.2.1,h2.1,?_⟩,λz=>by cases z⟩;rw [AY hf,map_append,map_append,h2.2];rfl
    ·intro m hm;refine⟨m,P.es.map λe=>drawn e i,rfl,?_,h2.1.trans (Ab.new hm),?_⟩
     ·rw [Ae,h2.2,take_of_length_le (by omega)]
     ·rw [AY (Qc z),map_append,h.2];rfl
  ·intro m hm;refine⟨m,_,rfl,.inl ⟨Ai.of Ae,λt ht=>?_⟩⟩;refine q _ _ (s1.trans (h.1.trans ((Ab.new hm).trans (Ab.new ht)))) (Aa.row ?_);rw [Ae,h.2,take_of_length_le (by rw [Ex,length_map];omega)]
 ·exact h.elim
end
end MF
end
section
namespace MF
open L2
theorem Mw:∀ {bs:List PyData},(∀d∈bs,GoodB d)->∃l:List (Int×Int),bs=l.map bD/\∀q∈l,1<=q.1/\q.1<=9/\1<=q.2/\q.2<=9
 | [],_=>⟨[],rfl,λ_ h=>nomatch h⟩
 | d::ds,h=>by
  obtain⟨l,e,g⟩:=Mw λx hx=>h x (mem_cons_of_mem _ hx)
  obtain⟨m,c,rfl,a1,a2,a3,a4⟩:=h d mem_cons_self;refine⟨(m,c)::l,by rw [e];rfl,λq hq=>?_⟩;rcases mem_cons.mp hq with rfl | hq
  ·exact⟨a1,a2,a3,a4⟩
  ·exact g q hq
theorem Mx:∀ {es:List PyData},(∀d∈es,GoodE d)->∃l:List (Int×Int×Int),es=l.map eD/\∀q∈l,1<=q.1/\q.1<=9/\0<=q.2.1/\q.2.1<=7/\1<=q.2.2/\q.2.2<=8
 | [],_=>⟨[],rfl,λ_ h=>nomatch h⟩
 | d::ds,h=>by
  obtain⟨l,e,g⟩:=Mx λx hx=>h x (mem_cons_of_mem _ hx)
  obtain⟨m,c,k,rfl,a1,a2,a3,a4,a5,a6⟩:=h d mem_cons_self;refine⟨(m,c,k)::l,by rw [e];rfl,λq hq=>?_⟩;rcases mem_cons.mp hq with rfl | hq
  ·exact⟨a1,a2,a3,a4,a5,a6⟩
  ·exact g q hq
theorem GoodP.pl {bs es:List PyData}{lo hi st:Int} (g:GoodP bs es lo hi st):∃P:PL,P.ok/\Mv bs es lo hi st=P.d:=by
 obtain⟨lb,rfl,hb⟩:=Mw g.b;obtain⟨le,rfl,he⟩:=Mx g.e;have b1:=g.b1;have b4:=g.b4;have e4:=g.e4;rw [length_map] at b1 b4 e4;exact⟨⟨lb,le,lo,hi,st⟩,⟨hb,b1,b4,he,e4,g.lo0,g.ls,g.sh,g.h4⟩,rfl⟩
theorem Fq (r:List Int):B8 (AX r)=true:=by
 unfold B8;exact Ct λd hd=>by
  obtain⟨i,_,rfl⟩:=mem_map.mp hd
  rfl
theorem Te (k:Bool):0<(1:Int)+(if k=true then 1 else 0)/\(1:Int)+(if k=true then 1 else 0)<1073741824:=by cases k<;>decide
def GoodF (n h:Nat) (d:PyData):Prop:=∃x:FT,d=x.d/\x.ok n h
theorem GoodF.nm {n h:Nat}{d:PyData} (g:GoodF n h d):B8 d=true:=by obtain⟨x,rfl,_⟩:=g;rfl
theorem My {n h:Nat}:∀ {es:List PyData},(∀d∈es,GoodF n h d)->∃l:List FT,es=l.map FT.d/\∀q∈l,q.ok n h
 | [],_=>⟨[],rfl,λ_ h=>nomatch h⟩
 | d::ds,hh=>by
  obtain⟨l,e,g⟩:=My λx hx=>hh x (mem_cons_of_mem _ hx)
  obtain⟨x,rfl,a1⟩:=hh d mem_cons_self;refine⟨x::l,by rw [e];rfl,λq hq=>?_⟩;rcases mem_cons.mp hq with rfl | hq
  ·exact a1
  ·exact g q hq
def HE:Sp:=λvs H Q _=>match vs with | [.ref p,v]=>A5 p H/\∃P,PL.ok P/\Aa p H P.d v/\∀u H' S,SY.ok S P.bs.length->Aa p H' S.d u->Ev p H H'->A5 p H'->Q u H' | _=>False
def HF:Sp:=λvs H Q _=>match vs with | [v,u]=>∃p P S,PL.ok P/\SY.ok S P.bs.length/\Aa p H P.d v/\Aa p H S.d u/\ret H Q p (FR P S) | _=>False
section
variable {P : Program} {w : World} {K : Fgx} {mg : Str -> Option Value} {base : Heap}
theorem za7:At ["_law_pen_here","_law_plant_here","_law_hours","_law_most","_law_faults","_law_turn","_law_first","_law_last"] ["_law_pen_here","_law_plant_here"] (Ak waX):=Ax
theorem Tf (F:Df K mg "_law_story" waX ["_law_pen_here","_law_plant_here"]) (T:Tx mg) (ya0:Fm P w K mg base):Fn P w K mg base 2 "_law_story" ["_law_pen_here","_law_plant_here"] HE:=by
 refine F.fn za7 (λvs H Q E h=>?_) (λf cdv A outer s H vs Q E hr h=>?_)
 ·unfold HE at h;split at h;rfl;exact h.elim
 refine⟨_,(Ah (Bk (BG (Av (AA Bm Af (An ya0 (hr.mono (by decide)) rfl (Av (cy 0) Af))) (AK (Bp K) (Bo (E7 Af Af Af Af)) (An ya0 (hr.mono (by decide)) rfl (Av (cy 0) Af)) (λ_ _=>rfl)))) (AV K (n:=2) (Ar (Am 2 za7.nd) (Ar (Am 3 za7.nd) AQ)))) (Ah (AG (i:=4) za7.nd rfl (AC (by rfl)) (Bo BY)) (Ah (CU PassesOwn.never rfl (Da rfl T.b_range (Al (An ya0 (hr.mono (by decide)) rfl (Av (cy 0) Af)))) (Am 5 za7.nd) (Ah (AG (i:=6) za7.nd rfl (AC (by rfl)) (An ya0 (hr.mono (by decide)) rfl (Av (cy 0) (cy 2)))) (Ah (AG (i:=7) za7.nd rfl (AC (by rfl)) (AA Bm (cy 6) (An ya0 (hr.mono (by decide)) rfl (Av (cy 0) (AA Co (cy 2) (cy 6)))))) (Aj (Ba (Cn PySem.F.plainAttrs_list PySem.F.slot_list_append PySem.F.type_list_append CY (cy 4) (Al (BG (E7 (An ya0 (hr.mono (by decide)) rfl (Av (cy 0) (Ay (Bn K) rfl T.b_len PySem.boot_len (Al (AK (Bq K) (cy 1) Af (λ_ _=>rfl)))))) (AK (Bp K) (Bo (Av Ao Ao)) (An ya0 (hr.mono (by decide)) rfl (Av (cy 0) Af)) (λ_ _=>rfl)) (cy 6) (cy 7)))))))))) (Aj (Au (BG (Av (Be (BV K) rfl T.b_tuple BN (Al (A4 ["_law_hour","_law_pen_here","_law_most"] [none,some 0,some 3] rfl (Da rfl T.b_range (Al (cy 2))) (AH.of rfl) (λ_ _ _ _=>(Am 0 (AF (by rfl)))) (λ_ _ _ _=>A3) (λ_ _ _ _=>(An ya0 (hr.mono (by decide)) rfl (Av (cy 1) (cy 2))))))) (Be (BV K) rfl T.b_tuple BN (Al (cy 4)))))))))),?_⟩;unfold HE at h;split at h
 ·rename_i p v;obtain⟨pn,P,ok,r,q⟩:=h;have b1:=ok.b1;have b4:=ok.b4;refine⟨pn,by decide,by decide,λg1 H1 a1 c1 e1 pn1 l1 hl1=>⟨pn1.new hl1,by decide,by decide,λg2 H2 a2 c2 e2 pn2=>?_⟩⟩;obtain⟨mo,hmo,hat⟩:=ED (ns:=[1,4,9,21]) a2 (by simpa using c2);have hmo':1<=mo/\mo<=21:=by
   simp only [mem_cons,not_mem_nil,or_false] at hmo;omega
  refine⟨l1,_,g2,.int mo,rfl,rfl,Ai.of (e2.lst Ae (pn1.ne hl1)),hat,λl0 hl0=>⟨l0,_,rfl,Ag.of Ae,rfl,_,_,rfl,_,_,rfl,rfl,λb hb=>?_⟩⟩;have eA:Ev p H (upd H2 l0 (.tup [.int (1+g1),.int mo])):=e1.trans ((Ev.new hl1).trans (e2.trans (Ev.new hl0)))
  replace pn2:=pn2.new (o:= .tup [.int (1+g1),.int mo]) hl0
  have nb:b≠p:=pn2.ne hb;have hbH:H b=none:=by
   cases z:H b with
   | none=>rfl
   | some o=>exact((eA b o z).elim (fun⟨x,_⟩=>absurd x nb) λx=>by rw [x] at hb;cases hb)
  refine⟨pn2.new hb,by decide,by decide,λg3 H3 a3 c3 e3 pn3=>⟨g3,rfl,by omega,by omega,FE (n:=g3.toNat) (λi σ H4=>∃t f l,σ=[some (.ref p),some v,some (.int (1+g1)),some (.int mo),some (.ref b),t,f,l]/\Filled (GoodF P.bs.length (1+g1).toNat) p b H H4 i)
   ⟨_,_,_,rfl,eA.trans ((Ev.new hb).trans e3),pn3,[],[],e3.lst Ae nb,.nil,(λ_ h=>nomatch h),rfl⟩ (λi σ H4 hi hP=>?_) fun σ H4 hP=>?_⟩⟩
  ·obtain⟨t,f,l,rfl,ev,pn4,xs,ds,hx,rs,gd,hl⟩:=hP;refine⟨pn4,by omega,by omega,λf1 H5 a5 c5 e5 pn5=>⟨pn5,by omega,by omega,λf2 H6 a6 c6 e6 pn6=>?_⟩⟩;have e46:Ev p H4 H6:=e5.trans e6;obtain⟨PA,PB,PE,PM,xb,xe,rfl,pA,pB,rb,pE,re,pM⟩:=Aa.plant (Aa.ev (ev.trans e46) _ _ r);have lb:=rb.len;rw [length_map] at lb;refine⟨.inl ⟨rfl,_,Ai.of (e46.lst hx nb)⟩,PA,_,0,.ref PB,rfl,rfl,Ag.of pA,rfl,PB,xb,rfl,.inr (Ag.of pB),pn6,by omega,by omega,λf3 H7 a7 c7 e7 pn7 l2 hl2=>⟨pn7.new hl2,by decide,by decide,λg4 H8 a8 c8 e8 pn8=>?_⟩⟩;have hw:∃bb:Bool,BT [V.str "out",.str "scaled"] g4=some (wV bb):=by
    have:g4=0\/g4=1:=by omega
    rcases this with rfl | rfl
    ·exact⟨true,rfl⟩
    ·exact⟨false,rfl⟩
   obtain⟨bb,hw⟩:=hw;refine⟨l2,_,g4,wV bb,rfl,rfl,Ai.of (e8.lst Ae (pn7.ne hl2)),hw,λt1 ht1=>?_⟩;have e48:Ev p H4 H8:=e46.trans (e7.trans ((Ev.new hl2).trans e8));refine⟨b,xs,.ref t1,rfl,rfl,by rw [Aq (Bu (e48.lst hx nb) ht1)];exact e48.lst hx nb,EF (by rw [<-rs.len,hl];omega),_,_,_,rfl,?_⟩;exact Filled.step (λd h=>h.nm) hx rs gd hl e48 nb hbH (ev.trans e48) pn8 ht1 (Aa.tup Ae (.cons Aa.int (.cons Aa.str (.cons Aa.int (.cons Aa.int .nil))))) ⟨⟨f3,bb,f1,f1+f2⟩,rfl,⟨a7,by show f3<_;omega,a5,by show f1<=f1+f2;omega,by show f1+f2<_;omega⟩⟩
  ·obtain⟨t,f,l,rfl,fb⟩:=hP;refine⟨_,rfl,by omega,by omega,GG (n:=(1+g1).toNat) (λi ys H5=>Ev p H4 H5/\A5 p H5/\∃ns:List Int,ys=ns.map V.int/\ns.length=i/\∀u∈ns,0<=u/\u<=20) (by omega) ⟨Ev.refl,fb.pen,[],rfl,rfl,(λ_ h=>nomatch h)⟩ (λi ys H5 h=>?_) (λi ys H5 hi h=>?_) λys H5 h=>?_⟩
   ·obtain⟨_,_,ns,rfl,hn,_⟩:=h;rw [length_map];omega
   ·obtain⟨e5,pn5,ns,rfl,hn,hu⟩:=h;refine⟨⟨rfl,rfl,trivial⟩,λ_=>⟨pn5,by omega,by omega,λg6 H6 a6 c6 e6 pn6=>⟨e5.trans e6,pn6,ns++[g6],by rw [map_append];rfl,by rw [length_append,hn];rfl,λu hu'=>?_⟩⟩,λz=>by cases z⟩;rcases mem_append.mp hu' with h | h
    ·exact hu u h
    ·rw [mem_singleton.mp h];omega
   ·obtain⟨e5,pn5,ns,rfl,hn,hu⟩:=h;intro m hm;obtain⟨xs,fs,hb5,rb5,gf,lf⟩:=fb.done nb e5;refine⟨m,_,rfl,.inl ⟨Ai.of Ae,λt1 ht1=>⟨b,xs,rfl,.inl ⟨Ai.of ?_,λt2 ht2 t3 ht3=>?_⟩⟩⟩⟩
    ·exact((Ab.new hm).trans (Ab.new ht1)) _ _ hb5
    ·obtain⟨lF,rfl,gl⟩:=My gf;rw [length_map] at lf;have s5:Ab H5 (upd (upd (upd (upd H5 m (.lst (ns.map V.int))) t1 (.tup (ns.map V.int))) t2 (.tup xs)) t3 (.tup [.ref t1,.ref t2])):=(Ab.new hm).trans ((Ab.new ht1).trans ((Ab.new ht2).trans (Ab.new ht3)));refine q _ _ ⟨ns,lF⟩ ⟨by show 1<=ns.length;omega,by show ns.length<=8;omega,hu,by show lF.length<=4;omega,λx hx=>?_⟩ ?_ ((fb.ev.trans e5).trans (Ev.same s5)) (pn5.same s5)
     ·show x.ok _ ns.length;rw [hn];exact gl x hx
     ·refine Aa.tup Ae (.cons (Aa.row ?_) (.cons (Aa.tup ?_ (Ad.ev (Ev.same s5) _ _ rb5)) .nil))
      ·exact((Ab.new ht2).trans (Ab.new ht3)) _ _ Ae
      ·exact(Ab.new ht3) _ _ Ae
 ·exact h.elim
theorem za5:At ["_law_plant_here","_law_story_here","_law_rows","_law_hour","_law_row","_law_boiler","_law_make","_law_coal","_law_words"] ["_law_plant_here","_law_story_here"] (Ak waY):=Ax
theorem Tg (F:Df K mg "_law_caps" waY ["_law_plant_here","_law_story_here"]) (T:Tx mg)  :Fn P w K mg base 1 "_law_caps" ["_law_plant_here","_law_story_here"] HF:=by
 refine F.fn za5 (λvs H Q E h=>?_) (λf cdv A outer s H vs Q E hr h=>?_)
 ·unfold HF at h;split at h;rfl;exact h.elim
 refine⟨_,(Ah (AG (i:=2) za5.nd rfl (AC (by rfl)) (Bo BY)) (Ah (CU PassesOwn.never rfl (Da rfl T.b_range (Al (Ay (Bn K) rfl T.b_len PySem.boot_len (Al (AK (Bq K) (cy 1) Af (λ_ _=>rfl)))))) (Am 3 za5.nd) (Ah (AG (i:=4) za5.nd rfl (AC (by rfl)) (Bo BY)) (Ah (CU PassesOwn.never rfl (GS P w K rfl T.b_enumerate (Al (AK (Bq K) (cy 0) Af (λ_ _=>rfl)))) (AV K (n:=2) (Ar (Am 5 za5.nd) (Ar (AV K (n:=2) (Ar (Am 6 za5.nd) (Ar (Am 7 za5.nd) AQ))) AQ))) (Ah (Jd (i:=8) ["_law_one","_law_word","_law_first","_law_last","_law_boiler","_law_hour"] [none,none,none,none,some 5,some 3] za5.nd rfl (AC (by rfl)) rfl (BH K (AK (Bq K) (cy 1) Af (λ_ _=>rfl))) (AH.of rfl) (λ_ _ _ _=>(AV K (n:=4) (Ar (Am 0 (AF (by rfl))) (Ar (Am 1 (AF (by rfl))) (Ar (Am 2 (AF (by rfl))) (Ar (Am 3 (AF (by rfl))) AQ)))))) (λ_ _ _ _=>(FM (PW.pt (FQ (AU Cy (cy 0) (cy 4) (AS _)) (FQ (AU DX (cy 2) (cy 5) (AS _)) (Go (AU DX (cy 5) (cy 3) (AS _)))))))) (λ_ _ _ _=>(cy 1))) (Aj (Ba (Cn PySem.F.plainAttrs_list PySem.F.slot_list_append PySem.F.type_list_append CY (cy 4) (Al (Dg (AU (E5 K) Ao (cy 8) (by with_unfolding_all rfl)) Af (AA Je (cy 6) (AA Bm Af (Be Kv rfl T.b_int L2.boot_int (Al (Db (E5 K) Ao (cy 8) (by with_unfolding_all rfl))))))))))))) (Aj (Ba (Cn PySem.F.plainAttrs_list PySem.F.slot_list_append PySem.F.type_list_append CY (cy 2) (Al (Be (BV K) rfl T.b_tuple BN (Al (cy 4)))))))))) (Aj (Au (Be (BV K) rfl T.b_tuple BN (Al (cy 2))))))),?_⟩;unfold HF at h;split at h
 ·rename_i v u;obtain⟨p,P,S,ok,so,r,ru,q⟩:=h;obtain⟨A,B,E,xf,rfl,hA,hB,hE,rf⟩:=Aa.story ru;obtain⟨PA,PB,PE,PM,xb,xe,rfl,pA,pB,rb,pE,re,pM⟩:=Aa.plant r;have x8:=so.x8;have f4:=so.f4;have b4:=ok.b4;have lb:=rb.len;rw [length_map] at lb;have lf:=rf.len;rw [length_map] at lf;intro R hR;have s0:Ab H (upd H R (.lst [])):=Ab.new hR;refine⟨A,_,0,.ref B,rfl,rfl,Ag.of (s0 _ _ hA),rfl,B,_,rfl,.inr (Ag.of (s0 _ _ hB)),_,rfl,by omega,by rw [length_map];omega,FE (n:=(S.ex.map V.int).length) (λi σ H1=>(∃x3 x4 x5 x6 x7 x8,σ=[some (.ref PA),some (.ref A),some (.ref R),x3,x4,x5,x6,x7,x8])/\Ab H H1/\∃xs,H1 R=some (.lst xs)/\Ad p H1 (((caps P S).take i).map AX) xs)
   ⟨⟨_,_,_,_,_,_,rfl⟩,s0,[],Ae,.nil⟩ (λi σ H1 hi hP=>?_) fun σ H1 hP=>?_⟩
  ·obtain⟨⟨x3,x4,x5,x6,x7,x8',rfl⟩,s1,xs,hxs,rxs⟩:=hP;rw [length_map] at hi;have lx:=rxs.len;rw [length_map,length_take] at lx;intro b hb;have sb:Ab H1 (upd H1 b (.lst [])):=Ab.new hb;refine⟨PA,_,0,.ref PB,rfl,rfl,Ag.of (sb _ _ (s1 _ _ pA)),rfl,PB,rfl,⟨xb,Ag.of (sb _ _ (s1 _ _ pB))⟩,for_enum (xs:=xb) (λj σ H2=>(∃y5 y6 y7 y8,σ=[some (.ref PA),some (.ref A),some (.ref R),some (.int (0+i)),some (.ref b),y5,y6,y7,y8])/\Ab H1 H2/\H2 b=some (.lst (((Bc P.bs S.fs i).take j).map V.int)))
    ⟨⟨_,_,_,_,rfl⟩,sb,Ae⟩ (λj σ H2 h=>Ag.of (h.2.1 _ _ (s1 _ _ pB))) (λj x σ H2 T hx h hT=>?_) fun σ H2 h=>?_⟩
   ·obtain⟨⟨y5,y6,y7,y8,rfl⟩,s2,hb2⟩:=h;obtain⟨f,hf,rd⟩:=Ad.mapGot rb hx;have hj:j<xb.length:=(List.getElem?_eq_some_iff.mp hx).1;have s3:Ab H1 (upd H2 T (.tup [.int j,x])):=s2.trans (Ab.new hT);have s03:Ab H (upd H2 T (.tup [.int j,x])):=s1.trans s3;obtain⟨l,zs,rfl,hl',rz⟩:=Aa.shape (Aa.ev (Ev.same s03) _ _ rd);obtain⟨z1,z2,rfl,r1,r2⟩:=Ad.two rz;unfold Aa at r1 r2;subst r1 r2;refine⟨T,_,rfl,Ag.of Ae,rfl,_,_,rfl,_,_,rfl,l,_,rfl,Ag.of hl',rfl,_,_,rfl,_,_,rfl,rfl,rfl,?_⟩;refine⟨A,_,1,.ref E,rfl,rfl,Ag.of (s03 _ _ hA),rfl,E,rfl,⟨xf,Ag.of (s03 _ _ hE)⟩,BF (xs:=xf) (λk ys H3=>Ab (upd H2 T (.tup [.int j,.ref l])) H3/\ys=(BA (S.fs.take k) j i).map wV) (by omega) ⟨Ab.refl _,rfl⟩ (λk ys H' h=>?_) (λk ys H' _ h=>Ag.of (h.1 _ _ (s03 _ _ hE))) (λk x ys H' hx h=>?_) λys H3 h=>?_⟩
    ·rw [h.2,length_map];unfold BA;rw [length_map];exact Nat.le_trans (List.length_filter_le _ _) (by rw [length_take];omega)
    ·obtain⟨g,hg,rg⟩:=Ad.mapGot rf hx;obtain⟨l2,zs2,rfl,hl2,rz2⟩:=Aa.shape (Aa.ev (Ev.same (s03.trans h.1)) _ _ rg);obtain⟨w1,w2,w3,w4,rfl,r1,r2,r3,r4⟩:=Ad.four rz2;unfold Aa at r1 r2 r3 r4;subst r1 r2 r3 r4;have nx:=Lq (b:=j) (h:=i) hg;have no:Cf j i g=false->Ab (upd H2 T (.tup [.int j,.ref l])) H'/\ys=(BA (S.fs.take (k+1)) j i).map wV:=λe=>⟨h.1,by rw [nx,e,if_neg (by decide)];exact h.2⟩
     refine⟨l2,_,rfl,Ag.of hl2,rfl,_,_,rfl,_,_,rfl,_,_,rfl,_,_,rfl,rfl,⟨rfl,rfl,trivial⟩,rfl,⟨λc1=>⟨λc2=>⟨λc3=>?_,λc3=>no ?_⟩,λc2=>⟨λz=>(by cases z),λ_=>no ?_⟩⟩,λc1=>⟨λz=>(by cases z),λ_=>no ?_⟩⟩⟩
     ·have e:Cf j i g=true:=by
       rw [Dv] at c1;rw [Int.zero_add] at c2 c3;unfold Cf;rw [c1,c2,c3];rfl
      refine⟨h.1,?_⟩;rw [nx,if_pos e,map_append,h.2];rfl
     ·rw [Int.zero_add] at c3;unfold Cf;rw [c3,Bool.and_false]
     ·rw [Int.zero_add] at c2;unfold Cf;rw [c2,Bool.and_false,Bool.false_and]
     ·rw [Dv] at c1;unfold Cf;rw [c1,Bool.false_and,Bool.false_and]
    ·intro m hm;have ew:ys=(BA S.fs j i).map wV:=by rw [h.2,take_of_length_le (by omega)]
     subst ew;have s4:Ab H2 (upd H3 m (.lst ((BA S.fs j i).map wV))):=(Ab.new hT).trans (h.1.trans (Ab.new hm));have hb4:=s4 _ _ hb2;have hlen:(((Bc P.bs S.fs i).take j).map V.int).length<sizeLine:=EF (by rw [length_map,length_take];omega);refine⟨.inl ⟨rfl,_,Ai.of hb4⟩,m,_,rfl,.inl (Ai.of Ae),rfl,GU,⟨λc=>?_,λc=>?_⟩⟩
     ·rw [if_neg (by decide),GT] at c;refine⟨b,_,.int 0,rfl,rfl,hb4,hlen,⟨_,_,_,_,rfl⟩,Ab.own (s2.trans s4) hb,?_⟩;have e:BZ (BA S.fs j i) f.1=0:=by unfold BZ;rw [if_pos c]
      rw [Ae,AY (Jk hf),map_append,e];rfl
     ·rw [if_neg (by decide),GT] at c;refine⟨m,_,rfl,.inl (Ai.of Ae),rfl,GU,.inr ⟨_,rfl,?_⟩⟩;have ek:(if (false=true) then !B5 (V.str "scaled") ((BA S.fs j i).map wV) else B5 (V.str "scaled") ((BA S.fs j i).map wV))=(BA S.fs j i).any (!·):=by rw [if_neg (by decide)];exact Jl
      have e:=Qj (m:=f.1) c;refine⟨Te _,b,_,.int (BZ (BA S.fs j i) f.1),rfl,congrArg (λz=>[V.int z]) ((congrArg (fun(k:Bool)=>f.1 /(1+if k=true then 1 else 0)) ek).trans e),hb4,hlen,⟨_,_,_,_,rfl⟩,Ab.own (s2.trans s4) hb,?_⟩;rw [Ae,AY (Jk hf),map_append];rfl
   ·obtain⟨⟨y5,y6,y7,y8,rfl⟩,s2,hb2⟩:=h;rw [take_of_length_le (by rw [D0];omega)] at hb2;refine⟨.inl ⟨rfl,_,Ai.of (s2 _ _ hxs)⟩,b,_,rfl,.inl ⟨Ai.of hb2,λt ht=>?_⟩⟩;have s3:Ab H1 (upd H2 t (.tup ((Bc P.bs S.fs i).map V.int))):=s2.trans (Ab.new ht);have hR3:=s3 _ _ hxs;refine⟨R,xs,.ref t,rfl,rfl,hR3,EF (by omega),⟨_,_,_,_,_,_,rfl⟩,Ab.own (s1.trans s3) hR,_,Ae,?_⟩;have tv:=TEv.upd (zs:=xs++[.ref t]) hR3;rw [AY (BB hi),map_append];refine Ad.snoc (Ad.tev ((Ev.same (p:=p) s3).tev.trans tv) _ _ (Ct λd hd=>?_) rxs) (Aa.tev tv _ _ (Fq _) (Aa.row (p:=p) Ae));obtain⟨rr,_,rfl⟩:=mem_map.mp hd;exact Fq rr
  ·obtain⟨⟨x3,x4,x5,x6,x7,x8',rfl⟩,s1,xs,hxs,rxs⟩:=hP;refine⟨R,xs,rfl,.inl ⟨Ai.of hxs,λt ht=>q _ _ (s1.trans (Ab.new ht)) (Aa.tup Ae ?_)⟩⟩;rw [take_of_length_le (by rw [BI,length_map];exact Nat.le_refl _)] at rxs;exact Ad.ev (Ev.new ht) _ _ rxs
 ·exact h.elim
end
def Cu (d:PyData) (cs:List Int):Bool:=match d with | .tuple ds=>decide (ds.length=cs.length) &&(List.zipWith (λe c=>AL e 0 c) ds cs).all id | _=>false
def CO (cs:List (List Int)) (d:PyData):Bool:=match d with | .tuple ds=>decide (ds.length=cs.length) &&(List.zipWith Cu ds cs).all id | _=>false
theorem Mz {d:PyData}{n:Nat} (h:Bg d (n:Int) (n:Int)=true):∃ds,d= .tuple ds/\ds.length=n:=by
 cases d with
 | tuple ds=>
  unfold Bg at h;obtain⟨h1,h2⟩:=Bool.and_eq_true_iff.mp h;have h1:=of_decide_eq_true h1;have h2:=of_decide_eq_true h2;exact⟨ds,rfl,by omega⟩
 | _=>cases h
theorem Th {d:PyData}{cs:List Int} (h:Bg d (cs.length:Int) (cs.length:Int)=false):Cu d cs=false:=by
 cases d with
 | tuple ds=>
  unfold Cu
  by_cases e:ds.length=cs.length
  ·rw [Fo (by omega) (by omega)] at h;cases h
  ·simp [e]
 | _=>rfl
theorem Ti {d:PyData}{cs:List (List Int)} (h:Bg d (cs.length:Int) (cs.length:Int)=false):CO cs d=false:=by
 cases d with
 | tuple ds=>
  unfold CO
  by_cases e:ds.length=cs.length
  ·rw [Fo (by omega) (by omega)] at h;cases h
  ·simp [e]
 | _=>rfl
theorem MA {ds:List PyData}{cs:List Int} (h:ds.length=cs.length):Cu (.tuple ds) cs=(List.zipWith (λe c=>AL e 0 c) ds cs).all id:=by
 unfold Cu;simp [h]
theorem MB {ds:List PyData}{cs:List (List Int)} (h:ds.length=cs.length):CO cs (.tuple ds)=(List.zipWith Cu ds cs).all id:=by
 unfold CO;simp [h]
theorem Fr {α β:Type}{f:α->β->Bool}{l:List α}{m:List β}{i:Nat}{a:α}{b:β} (h1:l[i]? =some a) (h2:m[i]? =some b):(List.zipWith f l m)[i]? =some (f a b):=by rw [getElem?_zipWith,h1,h2]
theorem rowB_is {d:PyData}{cs:List Int}:Cu d cs=true↔ ∃r:List Int,d=AX r/\r.length=cs.length/\∀(j:Nat) (x c:Int),r[j]? =some x->cs[j]? =some c->0<=x/\x<=c:=by
 constructor
 ·intro h;cases d with
  | tuple ds=>
   unfold Cu at h;obtain⟨h1,h2⟩:=Bool.and_eq_true_iff.mp h;have h1:=of_decide_eq_true h1;rw [all_eq_true] at h2;have hi:∀j (hj:j<ds.length),∃x:Int,ds[j]= .int x/\∀c,cs[j]? =some c->0<=x/\x<=c:=λj hj=>by
    have hc:cs[j]? =some cs[j]:=getElem?_eq_getElem (by omega);have hz:=Fr (f:=λe c=>AL e 0 c) (getElem?_eq_getElem hj) hc;have:=h2 _ (mem_of_getElem? hz);cases hd:ds[j] with
    | int x=>
     rw [hd] at this;have this:AL (.int x) 0 cs[j]=true:=this;unfold AL at this;obtain⟨a1,a2⟩:=Bool.and_eq_true_iff.mp this;refine⟨x,rfl,λc e=>?_⟩;rw [hc] at e;cases e;exact⟨of_decide_eq_true a1,of_decide_eq_true a2⟩
    | _=>rw [hd] at this;cases this
   refine⟨ds.map λd=>match d with | .int x=>x | _=>0,?_,by rw [length_map];exact h1,λj x c hx hc=>?_⟩
   ·unfold AX
    congr 1
    refine List.ext_getElem (by simp) λj g1 g2=>?_
    obtain⟨x,e,_⟩:=hi j g1;simp [e]
   ·rw [getElem?_map] at hx;have hj:j<ds.length:=by have:=(List.getElem?_eq_some_iff.mp hc).1;omega
    obtain⟨y,e,b⟩:=hi j hj;rw [getElem?_eq_getElem hj,e] at hx;cases hx;exact b c hc
  | _=>cases h
 ·rintro⟨r,rfl,hl,b⟩;unfold AX;rw [MA (by rw [length_map];exact hl),all_eq_true];intro z hz;obtain⟨j,hj,e⟩:=List.getElem_of_mem hz;rw [length_zipWith,length_map] at hj;have hx:r[j]? =some r[j]:=getElem?_eq_getElem (by omega);have hc:cs[j]? =some cs[j]:=getElem?_eq_getElem (by omega);have:=b j _ _ hx hc;have e2:=Fr (f:=λe c=>AL e 0 c) (l:=r.map .int) (a:= .int r[j]) (by rw [getElem?_map,hx];rfl) hc;rw [getElem?_eq_getElem (by rw [length_zipWith,length_map];omega)] at e2;have e2:=Option.some.inj e2;rw [e2] at e;rw [<-e];exact CF this.1 this.2
theorem fireB_is {P:PL}{S:SY}{d:PyData}:CO (caps P S) d=true↔ ∃F,d=FD F/\FOk P S F:=by
 constructor
 ·intro h;cases d with
  | tuple ds=>
   unfold CO at h;obtain⟨h1,h2⟩:=Bool.and_eq_true_iff.mp h;have h1:=of_decide_eq_true h1;rw [all_eq_true] at h2;have hi:∀i (hi:i<ds.length),∃r:List Int,ds[i]=AX r/\r.length=P.bs.length/\∀(j:Nat) (x c:Int),r[j]? =some x->(Bc P.bs S.fs i)[j]? =some c->0<=x/\x<=c:=λi hi=>by
    have hc:=BB (P:=P) (S:=S) (i:=i) (by rw [<-BI (P:=P) (S:=S)];omega);have hz:=Fr (f:=Cu) (getElem?_eq_getElem hi) hc;obtain⟨r,e,l,b⟩:=rowB_is.mp (h2 _ (mem_of_getElem? hz));exact⟨r,e,by rw [l,D0],b⟩
   have hF:∃F:List (List Int),ds=F.map AX/\∀(i:Nat) r,F[i]? =some r->r.length=P.bs.length/\∀(j:Nat) (x c:Int),r[j]? =some x->(Bc P.bs S.fs i)[j]? =some c->0<=x/\x<=c:=by
    clear h h2;have key:∀(n:Nat),n<=ds.length->∃F:List (List Int),ds.take n=F.map AX/\∀(i:Nat) r,F[i]? =some r->r.length=P.bs.length/\∀(j:Nat) (x c:Int),r[j]? =some x->(Bc P.bs S.fs i)[j]? =some c->0<=x/\x<=c:=λn=>by
     induction n with
     | zero=>exact λ_=>⟨[],by simp,λi r h=>by cases h⟩
     | succ n ih=>
      intro hn;obtain⟨F,e,b⟩:=ih (by omega);obtain⟨r,e2,b2⟩:=hi n (by omega);have lF:F.length=n:=by have:=congrArg List.length e;rw [length_take,length_map] at this;omega
      refine⟨F++[r],by rw [AY (getElem?_eq_getElem (by omega)),e,e2,map_append];rfl,λi s hs=>?_⟩
      by_cases c:i<F.length
      ·rw [List.getElem?_append_left c] at hs;exact b i s hs
      ·have hl:=(List.getElem?_eq_some_iff.mp hs).1;rw [length_append,length_singleton] at hl;obtain rfl:i=n:=by omega
       rw [<-lF,List.getElem?_concat_length] at hs;cases hs;exact b2
    obtain⟨F,e,b⟩:=key ds.length (Nat.le_refl _);exact⟨F,by rw [<-e,take_length],b⟩
   obtain⟨F,rfl,b⟩:=hF;refine⟨F,rfl,?_,λi r hr=>(b i r hr).1,λi r j x c hr=>(b i r hr).2 j x c⟩;rw [length_map,BI] at h1;exact h1
  | _=>cases h
 ·rintro⟨F,rfl,fo⟩;unfold FD;have hl:(F.map AX).length=(caps P S).length:=by rw [length_map,BI,fo.len]
  rw [MB hl,all_eq_true];intro z hz;obtain⟨i,hi,e⟩:=List.getElem_of_mem hz;rw [length_zipWith,length_map] at hi;have hr:F[i]? =some F[i]:=getElem?_eq_getElem (by omega);have hc:=BB (P:=P) (S:=S) (i:=i) (by rw [<-fo.len];omega);have e2:=Fr (f:=Cu) (l:=F.map AX) (a:=AX F[i]) (by rw [getElem?_map,hr];rfl) hc;rw [getElem?_eq_getElem (by rw [length_zipWith,length_map];omega)] at e2;have e2:=Option.some.inj e2;rw [e2] at e;rw [<-e];exact rowB_is.mpr ⟨_,rfl,by rw [fo.row i _ hr,D0],λj x c h1 h2=>fo.bd i _ j x c hr h1 h2⟩
def HG:Sp:=λvs H Q _=>match vs with | [v,u]=>∃p d cs,Aa p H d v/\Aa p H (AX cs) u/\cs.length<=1000/\∀b H',b=Cu d cs->Ab H H'->Q (.bl b) H' | _=>False
def F4:Sp:=λvs H Q _=>match vs with | [v,u,w]=>∃p P S d,PL.ok P/\SY.ok S P.bs.length/\Aa p H P.d v/\Aa p H S.d u/\Aa p H d w/\∀b H',b=CO (caps P S) d->Ab H H'->Q (.bl b) H' | _=>False
def HH:Sp:=λvs H Q _=>match vs with | [c,w]=>∃p P S d,PL.ok P/\SY.ok S P.bs.length/\Aa p H (FR P S) c/\Aa p H d w/\∀b H',b=CO (caps P S) d->Ab H H'->Q (.bl b) H' | _=>False
def JG:Sp:=λvs H Q _=>match vs with | [v,u,w]=>∃p P S F,Tri p H P S F v u w/\∀H',Ab H H'->Q .non H' | _=>False
def F5:Sp:=λvs H Q _=>match vs with | [v,u,w]=>∃p P S F,Tri p H P S F v u w/\∀t R sv H' k s xs,D3 P S F k s->Ab H H'->H R=none->H' t=some (.tup [.ref R,sv])->H' R=some (.lst xs)->Ad p H' (C1 P S F k) xs->Aa p H' (FU s) sv->Q (.ref t) H' | _=>False
def F6:Sp:=λvs H Q _=>match vs with | [v,u,w]=>∃p P S F,Tri p H P S F v u w/\∀R H' k s xs,D3 P S F k s->Ab H H'->H R=none->H' R=some (.lst xs)->Ad p H' (C1 P S F k) xs->Q (.ref R) H' | _=>False
def HI:Sp:=λvs H Q _=>match vs with | [v,u,w]=>∃p P S F,Tri p H P S F v u w/\∀sv H' k s,D3 P S F k s->Ab H H'->Aa p H' (FU s) sv->Q sv H' | _=>False
def HJ:Sp:=λvs H Q _=>match vs with | [v,u,w]=>∃p P S F,Tri p H P S F v u w/\ret H Q p (AX (B6 P F)) | _=>False
theorem Aa.firing {p:Addr}{H:Hp}{F:List (List Int)}{v:V} (r:Aa p H (FD F) v):∃A xs,v= .ref A/\H A=some (.tup xs)/\Ad p H (F.map AX) xs:=Aa.shape r
theorem Aa.ofRow {p:Addr}{H:Hp}{r:List Int}{v:V} (h:Aa p H (AX r) v):∃A,v= .ref A/\H A=some (.tup (r.map V.int)):=by
 obtain⟨A,xs,rfl,hA,rs⟩:=Aa.shape h;rw [Ad.ints rs] at hA;exact⟨A,rfl,hA⟩
section
variable {P : Program} {w : World} {K : Fgx} {mg : Str -> Option Value} {base : Heap}
theorem Tj:At ["thing","caps"] ["thing","caps"] (Ak wau):=Ax
theorem Tk (F:Df K mg "is_row" wau ["thing","caps"]) (T:Tx mg) (ya2:C2 P w K mg base) (ya1:Dn P w K mg base):Fn P w K mg base 3 "is_row" ["thing","caps"] HG:=by
 refine F.fn Tj (λvs H Q E h=>?_) (λf cdv A outer s H vs Q E hr h=>?_)
 ·unfold HG at h;split at h;rfl;exact h.elim
 refine⟨_,(Aj (Au (Bz (An ya2 (hr.mono (by decide)) rfl (AI (cy 0) (Ay (Bn K) rfl T.b_len PySem.boot_len (Al (cy 1))) (Ay (Bn K) rfl T.b_len PySem.boot_len (Al (cy 1))))) (Ca (Ay (DY rfl) rfl T.b_all boot_all (Al (A4 ["part","cap"] [none,none] rfl (Ji P w K rfl T.b_zip (Av (cy 0) (cy 1))) (AH.of rfl) (λ_ _ _ _=>(AV K (n:=2) (Ar (Am 0 (AF (by rfl))) (Ar (Am 1 (AF (by rfl))) AQ)))) (λ_ _ _ _=>A3) (λ_ _ _ _=>(An ya1 (hr.mono (by decide)) rfl (AI (cy 0) Af (cy 1))))))))))),?_⟩;unfold HG at h;split at h
 ·rename_i v u;obtain⟨p,d,cs,rv,ru,h1000,q⟩:=h;obtain⟨B,rfl,hB⟩:=Aa.ofRow ru;refine⟨B,_,rfl,.inr (Ag.of hB),B,_,rfl,.inr (Ag.of hB),p,d,rv,λb hb=>?_⟩;rw [length_map] at hb;refine⟨λc=>?_,λc=>q _ H ?_ (Ab.refl _)⟩
  ·rw [hb] at c;obtain⟨ds,rfl,hl⟩:=Mz c;obtain⟨A,xs,rfl,hA,rs⟩:=Aa.shape rv;have lx:=rs.len;refine⟨A,B,rfl,⟨_,Ag.of hA⟩,⟨_,Ag.of hB⟩,walk_zip (xs:=xs) (ys:=cs.map V.int) (λi zs H'=>Ab H H'/\zs=((List.zipWith (λe c=>AL e 0 c) ds cs).take i).map V.bl) (by omega) (by rw [length_map];omega) ⟨Ab.refl _,rfl⟩
    (λi zs H' h=>by rw [h.2,length_map,length_take];omega) (λi zs H' h=>⟨Ag.of (h.1 _ _ hA),Ag.of (h.1 _ _ hB)⟩) (λi x y zs H' T hx hy h hT=>?_) λzs H' h=>?_⟩
   ·obtain⟨e,he,re⟩:=rs.got hx;rw [getElem?_map] at hy;cases z2:cs[i]? with
    | none=>rw [z2] at hy;cases hy
    | some m=>
     rw [z2] at hy;cases hy;have nT:=Ab.new (o:= .tup [x,.int m]) hT;refine⟨T,_,rfl,Ag.of Ae,rfl,_,_,rfl,_,_,rfl,rfl,trivial,λ_=>⟨p,e,Aa.ev (Ev.same (h.1.trans nT)) _ _ re,λb1 e1=>⟨h.1.trans nT,?_⟩⟩,λc=>by cases c⟩;rw [h.2,AY (Fr (f:=λe c=>AL e 0 c) he z2),map_append,e1];rfl
   ·intro m hm;refine⟨m,List.zipWith (λe c=>AL e 0 c) ds cs,rfl,by rw [Ae,h.2,take_of_length_le (by rw [length_zipWith];omega)],?_⟩;exact q _ _ (MA hl).symm (h.1.trans (Ab.new hm))
  ·rw [hb] at c;exact(Th c).symm
 ·exact h.elim
theorem Tl:At ["caps","thing"] ["caps","thing"] (Ak was):=Ax
theorem Tm (F:Df K mg "is_firing_within" was ["caps","thing"]) (T:Tx mg) (yay:Fn P w K mg base 3 "is_row" ["thing","caps"] HG) (ya2:C2 P w K mg base):Fn P w K mg base 4 "is_firing_within" ["caps","thing"] HH:=by
 refine F.fn Tl (λvs H Q E h=>?_) (λf cdv A outer s H vs Q E hr h=>?_)
 ·unfold HH at h;split at h;rfl;exact h.elim
 refine⟨_,(Aj (Au (Bz (An ya2 (hr.mono (by decide)) rfl (AI (cy 1) (Ay (Bn K) rfl T.b_len PySem.boot_len (Al (cy 0))) (Ay (Bn K) rfl T.b_len PySem.boot_len (Al (cy 0))))) (Ca (Ay (DY rfl) rfl T.b_all boot_all (Al (A4 ["part","row"] [none,none] rfl (Ji P w K rfl T.b_zip (Av (cy 1) (cy 0))) (AH.of rfl) (λ_ _ _ _=>(AV K (n:=2) (Ar (Am 0 (AF (by rfl))) (Ar (Am 1 (AF (by rfl))) AQ)))) (λ_ _ _ _=>A3) (λ_ _ _ _=>(An yay (hr.mono (by decide)) rfl (Av (cy 0) (cy 1))))))))))),?_⟩;unfold HH at h;split at h
 ·rename_i c w;obtain⟨p,P,S,d,ok,so,rc,rw',q⟩:=h;have x8:=so.x8;have b4:=ok.b4;obtain⟨B,cx,rfl,hB,rB⟩:=Aa.firing (F:=caps P S) rc;have lB:=rB.len;rw [length_map] at lB;have lc:(caps P S).length=S.ex.length:=BI;refine⟨B,_,rfl,.inr (Ag.of hB),B,_,rfl,.inr (Ag.of hB),p,d,rw',λb hb=>?_⟩;rw [<-lB] at hb;refine⟨λc=>?_,λc=>q _ H ?_ (Ab.refl _)⟩
  ·rw [hb] at c;obtain⟨ds,rfl,hl⟩:=Mz c;obtain⟨A,xs,rfl,hA,rs⟩:=Aa.shape rw';have lx:=rs.len;refine⟨A,B,rfl,⟨_,Ag.of hA⟩,⟨_,Ag.of hB⟩,walk_zip (xs:=xs) (ys:=cx) (λi zs H'=>Ab H H'/\zs=((List.zipWith Cu ds (caps P S)).take i).map V.bl) (by omega) (by omega) ⟨Ab.refl _,rfl⟩
    (λi zs H' h=>by rw [h.2,length_map,length_take];omega) (λi zs H' h=>⟨Ag.of (h.1 _ _ hA),Ag.of (h.1 _ _ hB)⟩) (λi x y zs H' T hx hy h hT=>?_) λzs H' h=>?_⟩
   ·obtain⟨e,he,re⟩:=rs.got hx;obtain⟨m,hm,rm⟩:=Ad.mapGot rB hy;have nT:=Ab.new (o:= .tup [x,y]) hT;have hi:i<S.ex.length:=by have:=(List.getElem?_eq_some_iff.mp hm).1;omega
    have lm:m.length<=1000:=by
     have:=BB (P:=P) hi;rw [hm] at this;rw [Option.some.inj this,D0];omega
    refine⟨T,_,rfl,Ag.of Ae,rfl,_,_,rfl,_,_,rfl,rfl,trivial,λ_=>⟨p,e,m,Aa.ev (Ev.same (h.1.trans nT)) _ _ re,Aa.ev (Ev.same (h.1.trans nT)) _ _ rm,lm,λb1 H2 e1 s2=>⟨h.1.trans (nT.trans s2),?_⟩⟩,λc=>by cases c⟩;rw [h.2,AY (Fr (f:=Cu) he hm),map_append,e1];rfl
   ·intro m hm;refine⟨m,List.zipWith Cu ds (caps P S),rfl,by rw [Ae,h.2,take_of_length_le (by rw [length_zipWith];omega)],?_⟩;exact q _ _ (MB hl).symm (h.1.trans (Ab.new hm))
  ·rw [hb] at c;exact(Ti c).symm
 ·exact h.elim
theorem Tn:At ["plant","story","thing"] ["plant","story","thing"] (Ak war):=Ax
theorem To (F:Df K mg "is_firing" war ["plant","story","thing"]) (T:Tx mg) (ya4:Fp P w K mg base) (yaz:Fn P w K mg base 4 "is_firing_within" ["caps","thing"] HH):Fn P w K mg base 10 "is_firing" ["plant","story","thing"] F4:=by
 refine F.fn Tn (λvs H Q E h=>?_) (λf cdv A outer s H vs Q E hr h=>?_)
 ·unfold F4 at h;split at h;rfl;exact h.elim
 refine⟨_,(Aj (Au (An yaz (hr.mono (by decide)) rfl (Av (An ya4 (hr.mono (by decide)) rfl (Av (cy 0) (cy 1))) (cy 2))))),?_⟩;unfold F4 at h;split at h
 ·rename_i v u w;obtain⟨p,P,S,d,ok,so,rv,ru,rw',q⟩:=h;exact⟨p,P,S,ok,so,rv,ru,λv1 H1 s1 r1=>⟨p,P,S,d,ok,so,r1,Aa.ev (Ev.same s1) _ _ rw',λb H2 e s2=>q b H2 e (s1.trans s2)⟩⟩
 ·exact h.elim
theorem MC:At ["plant","story","firing"] ["plant","story","firing"] (Ak wa3):=Ax
abbrev HK (P:Program) (w:World) (K:Fgx) (mg:Str->Option Value) (base:Heap):Prop:=Fn P w K mg base 11 "need_firing" ["plant","story","firing"] JG
theorem Tp (F:Df K mg "need_firing" wa3 ["plant","story","firing"]) (T:Tx mg) (ya8:Fn P w K mg base 10 "is_firing" ["plant","story","thing"] F4):HK P w K mg base:=by
 refine F.fn MC (λvs H Q E h=>?_) (λf cdv A outer s H vs Q E hr h=>?_)
 ·unfold JG at h;split at h;rfl;exact h.elim
 refine⟨_,(Aj (AT (BD (Bw (An ya8 (hr.mono (by decide)) rfl (AI (cy 0) (cy 1) (cy 2))))) (Aj IA) A1)),?_⟩;unfold JG at h;split at h
 ·rename_i v u w;obtain⟨p,P,S,F,tr,q⟩:=h;refine⟨p,P,S,FD F,tr.ok,tr.so,tr.r,tr.ru,tr.rw,λb H' e s=>?_⟩;rw [fireB_is.mpr ⟨F,rfl,tr.fo⟩] at e;subst e;exact⟨λc=>(by cases c),λc=>q H' s⟩
 ·exact h.elim
theorem za1:At ["plant","story","firing","low","high","main","rows","hour","drawn","made","blown"] ["plant","story","firing"] (Ak wav):=Ax
theorem Tq (F:Df K mg "run_day" wav ["plant","story","firing"]) (T:Tx mg) (ya9:Fn P w K mg base 9 "draws_of" ["plant","story"] F3) (ya5:HK P w K mg base):Fn P w K mg base 12 "run_day" ["plant","story","firing"] F5:=by
 refine F.fn za1 (λvs H Q E h=>?_) (λf cdv A outer s H vs Q E hr h=>?_)
 ·unfold F5 at h;split at h;rfl;exact h.elim
 refine⟨_,(Ah (Ba (An ya5 (hr.mono (by decide)) rfl (AI (cy 0) (cy 1) (cy 2)))) (Ah (Bk (AK (Bq K) (cy 0) Af (λ_ _=>rfl)) (AV K (n:=3) (Ar (Am 3 za1.nd) (Ar (Am 4 za1.nd) (Ar (Am 5 za1.nd) AQ))))) (Ah (AG (i:=6) za1.nd rfl (AC (by rfl)) (Bo BY)) (Ah (CU PassesOwn.never rfl (GS P w K rfl T.b_enumerate (Al (An ya9 (hr.mono (by decide)) rfl (Av (cy 0) (cy 1))))) (AV K (n:=2) (Ar (Am 7 za1.nd) (Ar (Am 8 za1.nd) AQ))) (Ah (AG (i:=9) za1.nd rfl (AC (by rfl)) (Ay (E6 rfl) rfl T.b_sum boot_sum (Al (AK (Bq K) (cy 2) (cy 7) (λ_ _=>rfl))))) (Ah (Kh (i:=5) za1.nd rfl (AC (by rfl)) (AA Co (cy 9) (cy 8)) NR) (Ah (AT (AU DW (cy 5) (cy 3) (AS _)) (Aj (Au (BG (Av (cy 6) (BG (Av (cy 7) (AA Co (cy 3) (cy 5)))))))) A1) (Ah (AG (i:=10) za1.nd rfl (AC (by rfl)) (Ay (Ku rfl) rfl T.b_max boot_max (Av (AA Co (cy 5) (cy 4)) Af))) (Ah (Kh (i:=5) za1.nd rfl (AC (by rfl)) (cy 10) NS) (Aj (Ba (Cn PySem.F.plainAttrs_list PySem.F.slot_list_append PySem.F.type_list_append CY (cy 6) (Al (BG (E7 (cy 9) (cy 8) (cy 10) (cy 5))))))))))))) (Aj (Au (BG (Av (cy 6) Ej)))))))),?_⟩;unfold F5 at h;split at h
 ·rename_i v u w;obtain⟨p,P,S,F,tr,q⟩:=h;refine⟨p,P,S,F,tr,λH1 s1=>?_⟩;have t1:=tr.sm s1;have x8:=tr.so.x8;have fl:=tr.fo.len;obtain⟨PA,PB,PE,PM,xb,xe,rfl,pA,pB,rb,pE,re,pM⟩:=Aa.plant t1.r;refine⟨PA,_,2,.ref PM,rfl,rfl,Ag.of pA,rfl,PM,_,rfl,Ag.of pM,rfl,_,_,rfl,_,_,rfl,_,_,rfl,rfl,λR hR=>?_⟩;have sR:Ab H1 (upd H1 R (.lst [])):=Ab.new hR;have hHR:H R=none:=s1.free hR;have tR:=t1.sm sR;refine⟨p,P,S,tr.ok,tr.so,tR.r,tR.ru,λv1 H2 s2 r2=>?_⟩;obtain⟨D,rfl,hD⟩:=Aa.ofRow (r:=draws P S) r2;have t2:=tR.sm s2;have sH2:Ab H H2:=s1.trans (sR.trans s2);obtain⟨FA,fx,rfl,hF,rx⟩:=Aa.firing t2.rw;refine⟨D,rfl,⟨_,Ag.of hD⟩,for_enum (xs:=(draws P S).map V.int) (λi σ H'=>(∃x7 x8 x9 x10,σ=[some (.ref PA),some u,some (.ref FA),some (.int P.lo),some (.int P.hi),some (.int (A6 P S F i)),some (.ref R),x7,x8,x9,x10])/\Ev R H2 H'/\(∀j,j<i->P.lo<=B0 P S F j)/\∃xs,H' R=some (.lst xs)/\Ad p H' (C1 P S F i) xs)
   ⟨⟨_,_,_,_,rfl⟩,Ev.refl,(λj hj=>absurd hj (Nat.not_lt_zero _)),[],s2 _ _ Ae,.nil⟩ (λi σ H' h=>Ag.of (h.2.1.tup hD)) (λi x σ H' T hx h hT=>?_) fun σ H' h=>?_⟩
  ·obtain⟨⟨x7,x8',x9,x10,rfl⟩,ev,up,xs,hRx,rxs⟩:=h;rw [getElem?_map] at hx;cases z:(draws P S)[i]? with
   | none=>rw [z] at hx;cases hx
   | some d=>
    rw [z] at hx;cases hx;have hi:i<S.ex.length:=by
     have:=(List.getElem?_eq_some_iff.mp z).1;rw [Ex] at this;exact this
    have ed:=Ly z;obtain⟨r,hr⟩:∃r,F[i]? =some r:=⟨F[i],by simp⟩;have em:=Lx hr;obtain⟨y,hy,ry⟩:=rx.get (i:=i) (d:=AX r) (by rw [getElem?_map,hr];rfl);have nw:Ab H' (upd H' T (.tup [.int i,.int d])):=Ab.new hT;have ev2:Ev R H2 (upd H' T (.tup [.int i,.int d])):=ev.trans (Ev.same nw);obtain⟨ra,rfl,hra⟩:=Aa.ofRow ry;refine⟨T,_,rfl,Ag.of Ae,rfl,_,_,rfl,_,_,rfl,rfl,?_⟩;refine⟨FA,_,(i:Int),.ref ra,rfl,rfl,Ag.of (ev2.tup hF),Cb hy,ra,r,rfl,.inr (ev2.tup hra),_,rfl,_,_,rfl,rfl,?_⟩;have epm:A6 P S F i+(r.sum-d)=B0 P S F i:=by unfold B0;rw [em,ed]
    refine⟨λc=>?_,λc=>?_⟩
    ·intro t1 ht1 t2 ht2;have c':=of_decide_eq_true c;have n12:=(Ab.new (o:= .tup [.int i,.int (P.lo-(A6 P S F i+(r.sum-d)))]) ht1).trans (Ab.new (o:= .tup [.ref R,.ref t1]) ht2);refine q t2 R (.ref t1) _ i (some ((i:Int),P.lo-B0 P S F i)) xs ⟨Nat.le_of_lt hi,up,.inr ⟨hi,by rw [<-epm];exact c',rfl⟩⟩ (Ab.evOwn sH2 hHR (ev2.trans (Ev.same n12))) hHR Ae ((nw.trans n12) _ _ hRx) (Ad.ev (Ev.same (nw.trans n12)) _ _ rxs) ?_;refine Aa.tup ((Ab.new ht2) _ _ Ae) ?_;rw [<-epm];exact .cons Aa.int (.cons Aa.int .nil)
    ·refine⟨_,_,rfl,_,rfl,_,_,rfl,rfl,.inl ⟨rfl,_,Ai.of (nw _ _ hRx)⟩,λt ht=>?_⟩;have c':P.lo<=B0 P S F i:=by
      have:=of_decide_eq_false c;have h2:¬A6 P S F i+(r.sum-d)<P.lo:=this;rw [epm] at h2;omega
     have lx:=rxs.len;rw [Jn] at lx;have hR3:upd (upd H' T (.tup [.int i,.int d])) t (.tup [.int r.sum,.int d,.int (if 0>A6 P S F i+(r.sum-d)-P.hi then 0 else A6 P S F i+(r.sum-d)-P.hi),.int (A6 P S F i+(r.sum-d)-if 0>A6 P S F i+(r.sum-d)-P.hi then 0 else A6 P S F i+(r.sum-d)-P.hi)]) R=some (.lst xs):=(nw.trans (Ab.new ht)) _ _ hRx;have em2:A6 P S F i+(r.sum-d)-(if 0>A6 P S F i+(r.sum-d)-P.hi then 0 else A6 P S F i+(r.sum-d)-P.hi)=A6 P S F (i+1):=by rw [Jm,<-epm];rfl
     refine⟨R,xs,.ref t,rfl,rfl,hR3,EF (by omega),⟨some (.int i),some (.int d),some (.int r.sum),some (.int (if 0>A6 P S F i+(r.sum-d)-P.hi then 0 else A6 P S F i+(r.sum-d)-P.hi)),congrArg (λz=>[some (V.ref PA),some u,some (V.ref FA),some (V.int P.lo),some (V.int P.hi),some (V.int z),some (V.ref R),some (V.int i),some (V.int d),some (V.int r.sum),some (V.int (if 0>A6 P S F i+(r.sum-d)-P.hi then 0 else A6 P S F i+(r.sum-d)-P.hi))]) em2⟩,(ev2.trans (Ev.new ht)).trans (Ev.pen hR3),λj hj=>?_,_,Ae,?_⟩
     ·by_cases cj:j=i
      ·subst cj;exact c'
      ·exact up j (by omega)
     ·have tv:=TEv.upd (zs:=xs++[.ref t]) hR3;rw [Ql];refine Ad.snoc (Ad.tev ((Ev.same (p:=p) (nw.trans (Ab.new ht))).tev.trans tv) _ _ (Ct λd hd=>?_) rxs) (Aa.tev (p:=p) tv _ _ rfl (Aa.tup Ae ?_))
      ·unfold C1 at hd;obtain⟨k,_,rfl⟩:=mem_map.mp hd
       rfl
      ·rw [em,ed,Jm,<-epm];exact .cons Aa.int (.cons Aa.int (.cons Aa.int (.cons Aa.int .nil)))
  ·obtain⟨⟨x7,x8',x9,x10,rfl⟩,ev,up,xs,hRx,rxs⟩:=h;rw [length_map,Ex] at up rxs;intro t ht;have nw:=Ab.new (o:= .tup [.ref R,.non]) ht;exact q t R .non _ S.ex.length none xs ⟨Nat.le_refl _,up,.inl ⟨rfl,rfl⟩⟩ (Ab.evOwn sH2 hHR (ev.trans (Ev.same nw))) hHR Ae (nw _ _ hRx) (Ad.ev (Ev.same nw) _ _ rxs) Aa.non
 ·exact h.elim
theorem zan:At ["plant","story","firing","rows","short"] ["plant","story","firing"] (Ak waw):=Ax
theorem Tr (F:Df K mg "course" waw ["plant","story","firing"]) (T:Tx mg) (yaa:Fn P w K mg base 12 "run_day" ["plant","story","firing"] F5):Fn P w K mg base 13 "course" ["plant","story","firing"] F6:=by
 refine F.fn zan (λvs H Q E h=>?_) (λf cdv A outer s H vs Q E hr h=>?_)
 ·unfold F6 at h;split at h;rfl;exact h.elim
 refine⟨_,(Ah (Bk (An yaa (hr.mono (by decide)) rfl (AI (cy 0) (cy 1) (cy 2))) (AV K (n:=2) (Ar (Am 3 zan.nd) (Ar (Am 4 zan.nd) AQ)))) (Aj (Au (cy 3)))),?_⟩;unfold F6 at h;split at h
 ·rename_i v u w;obtain⟨p,P,S,F,tr,q⟩:=h;exact⟨p,P,S,F,tr,λt R sv H' k s xs run sm hR ht hRx rx rs=>⟨t,_,rfl,Ag.of ht,rfl,_,_,rfl,_,_,rfl,rfl,q R H' k s xs run sm hR hRx rx⟩⟩
 ·exact h.elim
theorem zao:At ["plant","story","firing","rows","short"] ["plant","story","firing"] (Ak wax):=Ax
theorem Tt (F:Df K mg "falls_at" wax ["plant","story","firing"]) (T:Tx mg) (yaa:Fn P w K mg base 12 "run_day" ["plant","story","firing"] F5):Fn P w K mg base 13 "falls_at" ["plant","story","firing"] HI:=by
 refine F.fn zao (λvs H Q E h=>?_) (λf cdv A outer s H vs Q E hr h=>?_)
 ·unfold HI at h;split at h;rfl;exact h.elim
 refine⟨_,(Ah (Bk (An yaa (hr.mono (by decide)) rfl (AI (cy 0) (cy 1) (cy 2))) (AV K (n:=2) (Ar (Am 3 zao.nd) (Ar (Am 4 zao.nd) AQ)))) (Aj (Au (cy 4)))),?_⟩;unfold HI at h;split at h
 ·rename_i v u w;obtain⟨p,P,S,F,tr,q⟩:=h;exact⟨p,P,S,F,tr,λt R sv H' k s xs run sm hR ht hRx rx rs=>⟨t,_,rfl,Ag.of ht,rfl,_,_,rfl,_,_,rfl,rfl,q sv H' k s run sm rs⟩⟩
 ·exact h.elim
theorem Tu:At ["plant","story","firing"] ["plant","story","firing"] (Ak waA):=Ax
theorem Tv (F:Df K mg "steam_by" waA ["plant","story","firing"]) (T:Tx mg) (ya5:HK P w K mg base):Fn P w K mg base 12 "steam_by" ["plant","story","firing"] HJ:=by
 refine F.fn Tu (λvs H Q E h=>?_) (λf cdv A outer s H vs Q E hr h=>?_)
 ·unfold HJ at h;split at h;rfl;exact h.elim
 refine⟨_,(Ah (Ba (An ya5 (hr.mono (by decide)) rfl (AI (cy 0) (cy 1) (cy 2)))) (Aj (Au (Be (BV K) rfl T.b_tuple BN (Al (A4 ["boiler","firing"] [none,some 2] rfl (Da rfl T.b_range (Al (Ay (Bn K) rfl T.b_len PySem.boot_len (Al (AK (Bq K) (cy 0) Af (λ_ _=>rfl)))))) (AH.of rfl) (λ_ _ _ _=>(Am 0 (AF (by rfl)))) (λ_ _ _ _=>A3) (λ_ _ _ _=>(Ay (E6 rfl) rfl T.b_sum boot_sum (Al (A4 ["row","boiler"] [none,some 0] rfl (BH K (cy 1)) (AH.of rfl) (λ_ _ _ _=>(Am 0 (AF (by rfl)))) (λ_ _ _ _=>A3) (λ_ _ _ _=>(AK (Bq K) (cy 0) (cy 1) (λ_ _=>rfl))))))))))))),?_⟩;unfold HJ at h;split at h
 ·rename_i v u w;obtain⟨p,P,S,F,tr,q⟩:=h;refine⟨p,P,S,F,tr,λH1 s1=>?_⟩;have t1:=tr.sm s1;have x8:=tr.so.x8;have b4:=tr.ok.b4;have fl:=tr.fo.len;obtain⟨PA,PB,PE,PM,xb,xe,rfl,pA,pB,rb,pE,re,pM⟩:=Aa.plant t1.r;obtain⟨FA,fx,rfl,hF,rx⟩:=Aa.firing t1.rw;have lb:=rb.len;rw [length_map] at lb;have lx:=rx.len;rw [length_map] at lx;refine⟨PA,_,0,.ref PB,rfl,rfl,Ag.of pA,rfl,PB,_,rfl,.inr (Ag.of pB),_,rfl,by omega,by omega,GG (n:=xb.length) (λi ys H'=>Ab H1 H'/\ys=((B6 P F).take i).map V.int) (by omega) ⟨Ab.refl _,rfl⟩ (λi ys H' h=>by rw [h.2,length_map,length_take];omega) (λi ys H' hi h=>?_) λys H' h=>?_⟩
  ·refine⟨⟨rfl,trivial⟩,λ_=>?_,λz=>by cases z⟩;refine⟨FA,rfl,⟨fx,Ag.of (h.1 _ _ hF)⟩,BF (xs:=fx) (λj zs H2=>Ab H1 H2/\zs=((F.take j).map λr=>r.getD i 0).map V.int) (by omega) ⟨h.1,rfl⟩ (λj zs H2 h=>by rw [h.2,length_map,length_map,length_take];omega) (λj zs H2 _ h=>Ag.of (h.1 _ _ hF)) (λj x zs H2 hx h2=>?_) λzs H2 h2=>?_⟩
   ·obtain⟨r,hr,rr⟩:=Ad.mapGot rx hx;obtain⟨ra,rfl,hra⟩:=Aa.ofRow (Aa.ev (Ev.same h2.1) _ _ rr);have hlr:=tr.fo.row j r hr;have hg:r[i]? =some (r.getD i 0):=by rw [getD_eq_getElem?_getD,getElem?_eq_getElem (by omega)];rfl
    refine⟨⟨rfl,trivial⟩,λ_=>⟨ra,_,_,.int (r.getD i 0),rfl,rfl,Ag.of hra,?_,h2.1,?_⟩,λz=>by cases z⟩
    ·rw [Int.zero_add];exact Cb (by rw [getElem?_map,hg];rfl)
    ·rw [AY hr,map_append,map_append,h2.2];rfl
   ·intro m hm;refine⟨m,F.map λr=>r.getD i 0,rfl,.inl ?_,h2.1.trans (Ab.new hm),?_⟩
    ·rw [Ae,h2.2,take_of_length_le (by omega)]
    ·have hg:(B6 P F)[i]? =some (F.map λr=>r.getD i 0).sum:=by unfold B6;rw [getElem?_map,getElem?_range (by omega)];rfl
     rw [AY hg,map_append,h.2];rfl
  ·intro m hm;refine⟨m,_,rfl,.inl ⟨Ai.of Ae,λt ht=>?_⟩⟩;refine q _ _ (s1.trans (h.1.trans ((Ab.new hm).trans (Ab.new ht)))) (Aa.row ?_);rw [Ae,h.2,take_of_length_le (by unfold B6;rw [length_map,length_range];omega)]
 ·exact h.elim
end
def Tw (r c:List Int):Prop:=r.length=c.length/\∀(j:Nat) (x y:Int),r[j]? =some x->c[j]? =some y->0<=x/\x<=y
def HL:Sp:=λvs H Q _=>match vs with | [.ref p,v]=>A5 p H/\∃P S,PL.ok P/\SY.ok S P.bs.length/\Aa p H (FR P S) v/\∀w H' F,FOk P S F->Aa p H' (FD F) w->Ev p H H'->A5 p H'->Q w H' | _=>False
theorem MD {α:Type}{l:List α}{a x:α}{k:Nat} (h:(l++[a])[k]? =some x):l[k]? =some x\/(k=l.length/\x=a):=by
 by_cases c:k<l.length
 ·rw [List.getElem?_append_left c] at h;exact .inl h
 ·rw [List.getElem?_append_right (by omega)] at h;have:k-l.length=0:=by
   have:=(List.getElem?_eq_some_iff.mp h).1;simp at this;omega
  rw [this] at h;cases h;exact .inr ⟨by omega,rfl⟩
section
variable {P : Program} {w : World} {K : Fgx} {mg : Str -> Option Value} {base : Heap}
theorem zai:At ["_law_pen_here","_law_caps_here","_law_way","_law_rows","_law_row"] ["_law_pen_here","_law_caps_here"] (Ak waZ):=Ax
theorem Ty (F:Df K mg "_law_firing" waZ ["_law_pen_here","_law_caps_here"]) (T:Tx mg) (ya0:Fm P w K mg base):Fn P w K mg base 2 "_law_firing" ["_law_pen_here","_law_caps_here"] HL:=by
 refine F.fn zai (λvs H Q E h=>?_) (λf cdv A outer s H vs Q E hr h=>?_)
 ·unfold HL at h;split at h;rfl;exact h.elim
 refine⟨_,(Ah (Bk (BG (Av (An ya0 (hr.mono (by decide)) rfl (Av (cy 0) Af)) (Bo BY))) (AV K (n:=2) (Ar (Am 2 zai.nd) (Ar (Am 3 zai.nd) AQ)))) (Ah (CU PassesOwn.never rfl (BH K (cy 1)) (Am 4 zai.nd) (Aj (Ba (Cn PySem.F.plainAttrs_list PySem.F.slot_list_append PySem.F.type_list_append CY (cy 3) (Al (Be (BV K) rfl T.b_tuple BN (Al (A4 ["_law_cap","_law_way","_law_pen_here"] [none,some 2,some 0] rfl (BH K (cy 4)) (AH.of rfl) (λ_ _ _ _=>(Am 0 (AF (by rfl)))) (λ_ _ _ _=>A3) (λ_ _ _ _=>(AK (Bp K) (Bo (E7 (cy 0) Af (An ya0 (hr.mono (by decide)) rfl (Av (cy 2) (AA Bm (cy 0) Af))) (An ya0 (hr.mono (by decide)) rfl (Av (cy 2) (AA Bm (cy 0) Af))))) (cy 1) (λ_ _=>rfl))))))))))) (Aj (Au (Be (BV K) rfl T.b_tuple BN (Al (cy 3))))))),?_⟩;unfold HL at h;split at h
 ·rename_i p v;obtain⟨pn,P,S,ok,so,r,q⟩:=h;have x8:=so.x8;have b4:=ok.b4;refine⟨pn,by decide,by decide,λway H1 a1 c1 e1 pn1 R hR l0 hl0=>⟨l0,_,rfl,Ag.of Ae,rfl,_,_,rfl,_,_,rfl,rfl,?_⟩⟩;have nR:R≠p:=pn1.ne hR;have hHR:H R=none:=by
   cases z:H R with
   | none=>rfl
   | some o=>exact((e1 R o z).elim (fun⟨x,_⟩=>absurd x nR) λx=>by rw [x] at hR;cases hR)
  have s2:Ab H1 (upd (upd H1 R (.lst [])) l0 (.tup [.int way,.ref R])):=(Ab.new hR).trans (Ab.new hl0);have hR2:=(Ab.new (o:= .tup [.int way,.ref R]) hl0) _ _ (Ae (H:=H1) (a:=R) (o:= .lst []));unfold FR at r;obtain⟨A,xs,rfl,hA,rx⟩:=Aa.shape (Aa.ev (e1.trans (Ev.same s2)) _ _ r);have lx:=rx.len;rw [length_map,BI] at lx;refine⟨A,rfl,⟨xs,Ag.of hA⟩,N3 (xs:=xs) (λi σ H2=>(∃x4,σ=[some (.ref p),some (.ref A),some (.int way),some (.ref R),x4])/\Ev p (upd (upd H1 R (.lst [])) l0 (.tup [.int way,.ref R])) (upd H2 R (.lst []))/\Ev p H H2/\A5 p H2/\∃ys F,H2 R=some (.lst ys)/\Ad p H2 (F.map AX) ys/\F.length=i/\∀(k:Nat) (r c:List Int),F[k]? =some r->(caps P S)[k]? =some c->Tw r c)
   ⟨⟨_,rfl⟩,?_,e1.trans (Ev.same s2),pn1.same s2,[],[],hR2,.nil,rfl,(λk r c h=>by simp at h)⟩ (λi σ H2 _ h=>?_) (λi x σ H2 hx h=>?_) fun σ H2 h=>?_⟩
  ·intro b o hb
   by_cases z:b=R
   ·subst z;rw [hR2] at hb;cases hb;exact .inr Ae
   ·exact .inr (by rw [Aq z];exact hb)
  ·have ha:=h.2.1.tup hA;have:A≠R:=by
    intro z;subst z;rw [hR2] at hA;cases hA
   rw [Aq this] at ha;exact Ag.of ha
  ·obtain⟨⟨x4,rfl⟩,ev0,ev,pn2,ys,F,hRy,rF,lF,hin⟩:=h;obtain⟨cs,hcs,rcs⟩:=Ad.mapGot rx hx;have hcb:=(Cz ok cs (mem_of_getElem? hcs)).1;have hcl:=(Cz ok cs (mem_of_getElem? hcs)).2;obtain⟨C,rfl,hC⟩:=Aa.ofRow rcs;have hC2:H2 C=some (.tup (cs.map V.int)):=by
    have ha:=ev0.tup hC;have:C≠R:=by
     intro z;subst z;rw [hR2] at hC;cases hC
    rw [Aq this] at ha;exact ha
   refine⟨.inl ⟨rfl,_,Ai.of hRy⟩,C,rfl,⟨_,Ag.of hC2⟩,BF (xs:=cs.map V.int) (λj zs H3=>Ev p H2 H3/\A5 p H3/\∃ns:List Int,zs=ns.map V.int/\ns.length=j/\∀(k:Nat) (x y:Int),ns[k]? =some x->cs[k]? =some y->0<=x/\x<=y) (by rw [length_map];omega) ⟨Ev.refl,pn2,[],rfl,rfl,(λk x y h=>by simp at h)⟩ (λj zs H3 h=>?_) (λj zs H3 _ h=>Ag.of (h.1.tup hC2)) (λj x zs H3 hx h=>?_) λzs H3 h=>?_⟩
   ·obtain⟨_,_,ns,rfl,hn,_⟩:=h;rw [length_map];omega
   ·obtain⟨e3,pn3,ns,rfl,hn,hb⟩:=h;rw [getElem?_map] at hx;cases z:cs[j]? with
    | none=>rw [z] at hx;cases hx
    | some c=>
     rw [z] at hx;cases hx;have hc9:=hcb c (mem_of_getElem? z);refine⟨⟨rfl,rfl,trivial⟩,λ_=>⟨pn3,by omega,by omega,λg1 H4 a4 c4 e4 pn4=>⟨pn4,by omega,by omega,λg2 H5 a5 c5 e5 pn5 l hl=>?_⟩⟩,λz=>by cases z⟩;obtain⟨vv,hvv,hat⟩:=ED (ns:=[c,0,g1,g2]) a1 (by simpa using c1);have hv':0<=vv/\vv<=c:=by
      simp only [mem_cons,not_mem_nil,or_false] at hvv;omega
     refine⟨l,_,way,.int vv,rfl,rfl,Ai.of Ae,hat,e3.trans (e4.trans (e5.trans (Ev.new hl))),pn5.new hl,ns++[vv],by rw [map_append];rfl,by rw [length_append,hn];rfl,λk x y hx hy=>?_⟩;rcases MD hx with h | ⟨h1,h2⟩
     ·exact hb k x y h hy
     ·subst h2;rw [h1,hn,z] at hy;cases hy;exact hv'
   ·obtain⟨e3,pn3,ns,rfl,hn,hb⟩:=h;rw [length_map] at hn;intro m hm;refine⟨m,_,rfl,.inl ⟨Ai.of Ae,λt ht=>?_⟩⟩;have n3:=(Ab.new (o:= .lst (ns.map V.int)) hm).trans (Ab.new (o:= .tup (ns.map V.int)) ht);have hR3:=n3 _ _ (e3.lst hRy nR);have lF2:=rF.len;rw [length_map] at lF2;have hi:i<xs.length:=(List.getElem?_eq_some_iff.mp hx).1;have tv:=TEv.upd (zs:=ys++[.ref t]) hR3;refine⟨R,ys,.ref t,rfl,rfl,hR3,EF (by omega),⟨_,rfl⟩,?_,((ev.trans e3).trans (Ev.same n3)).own hHR,?_,ys++[.ref t],F++[ns],Ae,?_,by rw [length_append,lF];rfl,λk r c hr hc=>?_⟩
    ·intro b o hb';rcases ev0 b o hb' with z | z
     ·exact .inl z
     ·by_cases zb:b=R
      ·subst zb;rw [Ae] at z ⊢;exact .inr z
      ·rw [Aq zb] at z;rcases(e3.trans (Ev.same n3)) b o z with y | y
       ·exact .inl y
       ·exact .inr (by rw [Aq zb,Aq zb];exact y)
    ·obtain⟨l,f,e⟩:=pn3.same n3;exact⟨l,f,by rw [Aq (Ne.symm nR)];exact e⟩
    ·rw [map_append];refine Ad.snoc (Ad.tev ((e3.trans (Ev.same n3)).tev.trans tv) _ _ (Ct λd hd=>?_) rF) (Aa.tev tv _ _ (Fq _) (Aa.row (p:=p) Ae));obtain⟨rr,_,rfl⟩:=mem_map.mp hd;exact Fq rr
    ·rcases MD hr with h | ⟨h1,h2⟩
     ·exact hin k r c h hc
     ·subst h2;rw [h1,lF,hcs] at hc;cases hc;exact⟨hn,hb⟩
  ·obtain⟨⟨x4,rfl⟩,ev0,ev,pn2,ys,F,hRy,rF,lF,hin⟩:=h;refine⟨R,ys,rfl,.inl ⟨Ai.of hRy,λt ht=>?_⟩⟩;refine q _ _ F ⟨by omega,λi r hr=>?_,λi r j x c hr hx hc=>?_⟩ (Aa.tup Ae (Ad.ev (Ev.new ht) _ _ rF)) (ev.trans (Ev.new ht)) (pn2.new ht)
   ·have hi:i<S.ex.length:=by
     have:=(List.getElem?_eq_some_iff.mp hr).1;omega
    have:=(hin i r _ hr (BB hi)).1;rw [this,D0]
   ·have hi:i<S.ex.length:=by
     have:=(List.getElem?_eq_some_iff.mp hr).1;omega
    exact(hin i r _ hr (BB hi)).2 j x c hx hc
 ·exact h.elim
end
def Tz:List PyData->List Int->Bool
 | [],[]=>true
 | d::ds,j::r=>(match d with | .int i=>i==j | _=>false) && Tz ds r
 | _,_=>false
def HM:Sp:=λvs H Q _=>match vs with | [v,u,w]=>∃p P S F,Tri p H P S F v u w/\∀H',Ab H H'->Q (.int (coal P F)) H' | _=>False
section
variable {P : Program} {w : World} {K : Fgx} {mg : Str -> Option Value} {base : Heap}
theorem zat:At ["plant","story","firing","made"] ["plant","story","firing"] (Ak waz):=Ax
theorem TC (F:Df K mg "coal_of" waz ["plant","story","firing"]) (T:Tx mg) (yaA:Fn P w K mg base 12 "steam_by" ["plant","story","firing"] HJ):Fn P w K mg base 13 "coal_of" ["plant","story","firing"] HM:=by
 refine F.fn zat (λvs H Q E h=>?_) (λf cdv A outer s H vs Q E hr h=>?_)
 ·unfold HM at h;split at h;rfl;exact h.elim
 refine⟨_,(Ah (AG (i:=3) zat.nd rfl (AC (by rfl)) (An yaA (hr.mono (by decide)) rfl (AI (cy 0) (cy 1) (cy 2)))) (Aj (Au (Ay (E6 rfl) rfl T.b_sum boot_sum (Al (A4 ["units","make","coal"] [none,none,none] rfl (Ji P w K rfl T.b_zip (Av (cy 3) (AK (Bq K) (cy 0) Af (λ_ _=>rfl)))) (AH.of rfl) (λ_ _ _ _=>(AV K (n:=2) (Ar (Am 0 (AF (by rfl))) (Ar (AV K (n:=2) (Ar (Am 1 (AF (by rfl))) (Ar (Am 2 (AF (by rfl))) AQ))) AQ)))) (λ_ _ _ _=>A3) (λ_ _ _ _=>(AA GQ (cy 0) (cy 2))))))))),?_⟩;unfold HM at h;split at h
 ·rename_i v u w;obtain⟨p,P,S,F,tr,q⟩:=h;have b4:=tr.ok.b4;refine⟨p,P,S,F,tr,λv1 H1 s1 r1=>?_⟩;obtain⟨PA,PB,PE,PM,xb,xe,rfl,pA,pB,rb,pE,re,pM⟩:=Aa.plant (tr.sm s1).r;obtain⟨M,rfl,hM⟩:=Aa.ofRow r1;have lb:=rb.len;rw [length_map] at lb;have ls:(B6 P F).length=P.bs.length:=by unfold B6;simp
  refine⟨PA,_,0,.ref PB,rfl,rfl,Ag.of pA,rfl,M,PB,rfl,⟨_,Ag.of hM⟩,⟨_,Ag.of pB⟩,walk_zip (xs:=(B6 P F).map V.int) (ys:=xb) (λi zs H'=>Ab H1 H'/\zs=((((B6 P F).zip P.bs).take i).map λq=>V.int (q.1 * q.2.2))) (by rw [length_map];omega) (by rw [length_map];omega) ⟨Ab.refl _,rfl⟩
   (λi zs H' h=>by rw [h.2,length_map,length_take];omega) (λi zs H' h=>⟨Ag.of (h.1 _ _ hM),Ag.of (h.1 _ _ pB)⟩) (λi x y zs H' T hx hy h hT=>?_) λzs H' h=>?_⟩
  ·rw [getElem?_map] at hx;obtain⟨c,hcc,rc⟩:=Ad.mapGot rb hy;cases z1:(B6 P F)[i]? with
   | none=>rw [z1] at hx;cases hx
   | some n=>
    rw [z1] at hx;cases hx;have s2:=h.1.trans (Ab.new (o:= .tup [.int n,y]) hT);obtain⟨l,zs',rfl,hl',rz⟩:=Aa.shape (Aa.ev (Ev.same s2) _ _ rc);obtain⟨y1,y2,rfl,r1',r2⟩:=Ad.two rz;unfold Aa at r1' r2;subst r1' r2;have bc:=tr.ok.b c (mem_of_getElem? hcc);have hz:((B6 P F).zip P.bs)[i]? =some (n,c):=by rw [List.getElem?_zip_eq_some];exact⟨z1,hcc⟩
    refine⟨T,_,rfl,Ag.of Ae,rfl,_,_,rfl,_,_,rfl,l,_,rfl,Ag.of hl',rfl,_,_,rfl,_,_,rfl,rfl,rfl,trivial,λ_=>⟨.inr ⟨by omega,by omega⟩,s2,?_⟩,λz=>by cases z⟩;rw [h.2,AY hz,map_append];rfl
  ·intro m hm;refine⟨m,(((B6 P F).zip P.bs).map fun(q:Int×Int×Int)=>q.1 * q.2.2),rfl,.inl ?_,q _ (s1.trans (h.1.trans (Ab.new hm)))⟩;rw [Ae,h.2,take_of_length_le (by rw [length_zip,length_map];omega),map_map];rfl
 ·exact h.elim
end
end MF
end
section
namespace MF
open L2
variable {p : Addr} {H : Hp} {v : V}
def isStr (n:Int) (d:PyData):Bool:=match d with
 | .tuple [a,b]=>AL b 0 (n-1) &&(match b with | .int l=>AL a 0 l | _=>false)
 | _=>false
theorem Aa.intE {a b:Int} (h:b=a):Aa p H (.int a) (.int b):=by subst h;exact Aa.int
theorem Aa.terms {T:TM} (r:Aa p H T.d v):∃A C B D M xc,v= .ref A/\H A=some (.tup [.ref C,.ref B,.ref D,.ref M])/\H C=some (.tup xc)/\Ad p H (T.cs.map AX) xc/\H B=some (.tup (T.co.map V.int))/\H D=some (.tup (T.ds.map V.int))/\H M=some (.tup [.int T.lo,.int T.hi,.int T.st]):=by
 unfold TM.d at r;obtain⟨A,xs,rfl,hA,rs⟩:=Aa.shape r;obtain⟨x,y,z,w,rfl,rx,ry,rz,rw⟩:=Ad.four rs;obtain⟨C,xc,rfl,hC,rc⟩:=Aa.shape rx;obtain⟨B,xb,rfl,hB,rb⟩:=Aa.shape ry;obtain⟨D,xd,rfl,hD,rd⟩:=Aa.shape rz;obtain⟨M,xm,rfl,hM,rm⟩:=Aa.shape rw;obtain⟨m1,m2,m3,rfl,r1,r2,r3⟩:=Ad.three rm;unfold Aa at r1 r2 r3;subst r1 r2 r3;rw [Ad.ints rb] at hB;rw [Ad.ints rd] at hD;exact⟨A,C,B,D,M,xc,rfl,hA,hC,rc,hB,hD,hM⟩
theorem Aa.pair {q:Nat×Nat} (r:Aa p H (pD q) v):∃A,v= .ref A/\H A=some (.tup [.int q.1,.int q.2]):=by
 obtain⟨A,xs,rfl,hA,rs⟩:=Aa.shape r;obtain⟨x,y,rfl,rx,ry⟩:=Ad.two rs;unfold Aa at rx ry;subst rx ry;exact⟨A,rfl,hA⟩
theorem Aa.ofRow' {r:List Int} (h:Aa p H (AX r) v):∃A,v= .ref A/\H A=some (.tup (r.map V.int)):=by
 obtain⟨A,xs,rfl,hA,rs⟩:=Aa.shape h;rw [Ad.ints rs] at hA;exact⟨A,rfl,hA⟩
def HN:Sp:=λvs H Q _=>match vs with | [v,u]=>∃p P S,PL.ok P/\SY.ok S P.bs.length/\Aa p H P.d v/\Aa p H S.d u/\ret H Q p (terms P S).d | _=>False
def HP:Sp:=λvs H Q _=>match vs with | [v,u]=>∃p T f l,TM.ok T/\Aa p H T.d v/\Aa p H (pD (f,l)) u/\f<=l/\l<T.ds.length/\∀H',Ab H H'->Q (.bl (DG T f l)) H' | _=>False
def HQ:Sp:=λvs H Q _=>match vs with | [v]=>∃p T,TM.ok T/\Aa p H T.d v/\ret H Q p (LL (DJ T)) | _=>False
def HR:Sp:=λvs H Q _=>match vs with | [v,u]=>∃p P S,PL.ok P/\SY.ok S P.bs.length/\Aa p H P.d v/\Aa p H S.d u/\ret H Q p (LL (DJ (terms P S))) | _=>False
section
variable {P : Program} {w : World} {K : Fgx} {mg : Str -> Option Value} {base : Heap}
theorem zap:At ["plant","story","caps","coals"] ["plant","story"] (Ak waq):=Ax
theorem TD (F:Df K mg "terms_of" waq ["plant","story"]) (T:Tx mg) (ya4:Fp P w K mg base) (ya9:Fn P w K mg base 9 "draws_of" ["plant","story"] F3):Fn P w K mg base 10 "terms_of" ["plant","story"] HN:=by
 refine F.fn zap (λvs H Q E h=>?_) (λf cdv A outer s H vs Q E hr h=>?_)
 ·unfold HN at h;split at h;rfl;exact h.elim
 refine⟨_,(Ah (AG (i:=2) zap.nd rfl (AC (by rfl)) (An ya4 (hr.mono (by decide)) rfl (Av (cy 0) (cy 1)))) (Ah (AG (i:=3) zap.nd rfl (AC (by rfl)) (Be (BV K) rfl T.b_tuple BN (Al (A4 ["make","coal"] [none,none] rfl (BH K (AK (Bq K) (cy 0) Af (λ_ _=>rfl))) (AH.of rfl) (λ_ _ _ _=>(AV K (n:=2) (Ar (Am 0 (AF (by rfl))) (Ar (Am 1 (AF (by rfl))) AQ)))) (λ_ _ _ _=>A3) (λ_ _ _ _=>(cy 1)))))) (Aj (Au (BG (E7 (cy 2) (cy 3) (An ya9 (hr.mono (by decide)) rfl (Av (cy 0) (cy 1))) (AK (Bq K) (cy 0) Af (λ_ _=>rfl)))))))),?_⟩;unfold HN at h;split at h
 ·rename_i v u;obtain⟨p,P,S,ok,so,r,ru,q⟩:=h;refine⟨p,P,S,ok,so,r,ru,λcv H1 s1 rc=>?_⟩;obtain⟨PA,PB,PE,PM,xb,xe,rfl,pA,pB,rb,pE,re,pM⟩:=Aa.plant (Aa.ev (Ev.same s1) _ _ r);have b4:=ok.b4;have lb:=rb.len;rw [length_map] at lb;refine⟨PA,_,0,.ref PB,rfl,rfl,Ag.of pA,rfl,PB,rfl,⟨xb,Ag.of pB⟩,BF (xs:=xb) (λi ys H'=>Ab H1 H'/\ys=((P.bs.take i).map λq=>V.int q.2)) (by omega) ⟨Ab.refl _,rfl⟩ (λi ys H' h=>by rw [h.2,length_map,length_take];omega) (λi ys H' _ h=>Ag.of (h.1 _ _ pB)) (λi x ys H' hx h=>?_) λys H' h=>?_⟩
  ·obtain⟨f,hf,rd⟩:=Ad.mapGot rb hx;obtain⟨l,zs,rfl,hl',rz⟩:=Aa.shape (Aa.ev (Ev.same h.1) _ _ rd);obtain⟨y1,y2,rfl,r1,r2⟩:=Ad.two rz;unfold Aa at r1 r2;subst r1 r2;refine⟨l,_,rfl,Ag.of hl',rfl,_,_,rfl,_,_,rfl,rfl,trivial,λ_=>⟨h.1,?_⟩,λz=>by cases z⟩;rw [AY hf,map_append,h.2];rfl
  ·intro m hm;refine⟨m,_,rfl,.inl ⟨Ai.of Ae,λt ht=>?_⟩⟩;have nt:=Ab.new (o:= .tup ys) ht;have s2:=h.1.trans ((Ab.new (o:= .lst ys) hm).trans nt);refine⟨p,P,S,ok,so,Aa.ev (Ev.same (s1.trans s2)) _ _ r,Aa.ev (Ev.same (s1.trans s2)) _ _ ru,λdv H3 s3 rd=>?_⟩;have s13:=s2.trans s3;refine⟨PA,_,2,.ref PM,rfl,rfl,Ag.of (s13 _ _ pA),rfl,λt2 ht2=>?_⟩;have s4:=Ab.new (o:= .tup [cv,.ref t,dv,.ref PM]) ht2;have ey:ys=(P.bs.map (·.2)).map V.int:=by rw [h.2,take_of_length_le (by omega),map_map];rfl
   have ht4:=(s3.trans s4) _ _ (Ae (H:=upd H' m (.lst ys)) (a:=t) (o:= .tup ys));rw [ey] at ht4;refine q _ _ (s1.trans (s13.trans s4)) (Aa.tup Ae (.cons (Aa.ev (Ev.same (s13.trans s4)) _ _ rc) (.cons (Aa.row ht4) (.cons (Aa.ev (Ev.same s4) _ _ rd) (.cons (Aa.tup ((s13.trans s4) _ _ pM) (.cons Aa.int (.cons Aa.int (.cons Aa.int .nil)))) .nil)))))
 ·exact h.elim
theorem za2:At ["terms","stretch","caps","coals","draws","low","high","start","first","last","ahead","most"] ["terms","stretch"] (Ak waB):=Ax
theorem TF (F:Df K mg "is_too_much" waB ["terms","stretch"]) (T:Tx mg)  :Fn P w K mg base 1 "is_too_much" ["terms","stretch"] HP:=by
 refine F.fn za2 (λvs H Q E h=>?_) (λf cdv A outer s H vs Q E hr h=>?_)
 ·unfold HP at h;split at h;rfl;exact h.elim
 refine⟨_,(Ah (Bk (cy 0) (AV K (n:=4) (Ar (Am 2 za2.nd) (Ar (Am 3 za2.nd) (Ar (Am 4 za2.nd) (Ar (AV K (n:=3) (Ar (Am 5 za2.nd) (Ar (Am 6 za2.nd) (Ar (Am 7 za2.nd) AQ)))) AQ)))))) (Ah (Bk (cy 1) (AV K (n:=2) (Ar (Am 8 za2.nd) (Ar (Am 9 za2.nd) AQ)))) (Ah (AG (i:=10) za2.nd rfl (AC (by rfl)) (Dg (AU Cy (cy 8) Af (AS _)) (cy 7) (cy 6))) (Ah (AG (i:=11) za2.nd rfl (AC (by rfl)) (Ay (E6 rfl) rfl T.b_sum boot_sum (Al (A4 ["row"] [none] rfl (BH K (DT wa2 (cy 2) (CW (cy 8)) (CW (AA Bm (cy 9) Af)))) (AH.of rfl) (λ_ _ _ _=>(Am 0 (AF (by rfl)))) (λ_ _ _ _=>A3) (λ_ _ _ _=>(Ay (E6 rfl) rfl T.b_sum boot_sum (Al (cy 0)))))))) (Aj (Au (Db DW (AA Bm (cy 10) (cy 11)) (AA Bm (Ay (E6 rfl) rfl T.b_sum boot_sum (Al (DT wa2 (cy 4) (CW (cy 8)) (CW (AA Bm (cy 9) Af))))) (cy 5)) (AS _)))))))),?_⟩;unfold HP at h;split at h
 ·rename_i v u;obtain⟨p,T,f,l,ok,r,ru,hfl,hl,q⟩:=h;obtain⟨A,C,B,D,M,xc,rfl,hA,hC,rc,hB,hD,hM⟩:=Aa.terms r;obtain⟨U,rfl,hU⟩:=Aa.pair ru;have l8:=ok.l8;have lc:=ok.lc;have lx:=rc.len;rw [length_map] at lx;refine⟨A,_,rfl,Ag.of hA,rfl,_,_,rfl,_,_,rfl,_,_,rfl,_,_,rfl,M,_,rfl,Ag.of hM,rfl,_,_,rfl,_,_,rfl,_,_,rfl,rfl,rfl,?_⟩;refine⟨U,_,rfl,Ag.of hU,rfl,_,_,rfl,_,_,rfl,rfl,rfl,⟨λc=>?_,λc=>?_⟩⟩
  ·have ea:(if f=0 then T.st else T.hi)=T.st:=by
    rw [Dv] at c;have:(f:Int)=0:=by simpa using c
    rw [if_pos (by omega)]
   refine⟨(f:Int),rfl,(l:Int)+1,rfl,C,xc,rfl,hC,λR H1 s1 k1=>?_⟩;rw [Hb hfl (by omega)] at k1;have rp:=Ad.part (Ad.ev (Ev.same s1) _ _ rc) f l;rw [Hc] at rp;have lp:=LF (xs:=T.cs) hfl (by omega);have lq:=rp.len;rw [length_map] at lq;refine⟨R,rfl,⟨_,Ag.of k1⟩,BF (xs:=part xc f l) (λi ys H'=>Ab H1 H'/\ys=(((part T.cs f l).take i).map List.sum).map V.int) (by omega) ⟨Ab.refl _,rfl⟩ (λi ys H' h=>by rw [h.2,length_map,length_map,length_take];omega) (λi ys H' _ h=>Ag.of (h.1 _ _ k1)) (λi x ys H' hx h=>?_) λys H2 h=>?_⟩
   ·obtain⟨r',hr',rr⟩:=Ad.mapGot rp hx;obtain⟨ra,rfl,hra⟩:=Aa.ofRow' rr;refine⟨trivial,λ_=>⟨ra,r',rfl,.inr (h.1 _ _ hra),h.1,?_⟩,λz=>by cases z⟩;rw [AY hr',map_append,map_append,h.2];rfl
   ·intro m hm;have s2:=s1.trans (h.1.trans (Ab.new (o:= .lst ys) hm));refine⟨m,(part T.cs f l).map List.sum,rfl,.inl ?_,?_⟩
    ·rw [Ae,h.2,take_of_length_le (by omega)]
    refine⟨(f:Int),rfl,(l:Int)+1,rfl,D,T.ds.map V.int,rfl,s2 _ _ hD,λR2 H3 s3 k3=>?_⟩;rw [Hb hfl (by rw [length_map];exact hl),Hc] at k3;refine⟨R2,part T.ds f l,rfl,.inr k3,?_⟩;have:=q H3 (s2.trans s3);unfold DG at this;rw [ea] at this;exact this
  ·have ea:(if f=0 then T.st else T.hi)=T.hi:=by
    rw [Dv] at c;have:(f:Int)≠0:=by simpa using c
    rw [if_neg (by omega)]
   refine⟨(f:Int),rfl,(l:Int)+1,rfl,C,xc,rfl,hC,λR H1 s1 k1=>?_⟩;rw [Hb hfl (by omega)] at k1;have rp:=Ad.part (Ad.ev (Ev.same s1) _ _ rc) f l;rw [Hc] at rp;have lp:=LF (xs:=T.cs) hfl (by omega);have lq:=rp.len;rw [length_map] at lq;refine⟨R,rfl,⟨_,Ag.of k1⟩,BF (xs:=part xc f l) (λi ys H'=>Ab H1 H'/\ys=(((part T.cs f l).take i).map List.sum).map V.int) (by omega) ⟨Ab.refl _,rfl⟩ (λi ys H' h=>by rw [h.2,length_map,length_map,length_take];omega) (λi ys H' _ h=>Ag.of (h.1 _ _ k1)) (λi x ys H' hx h=>?_) λys H2 h=>?_⟩
   ·obtain⟨r',hr',rr⟩:=Ad.mapGot rp hx;obtain⟨ra,rfl,hra⟩:=Aa.ofRow' rr;refine⟨trivial,λ_=>⟨ra,r',rfl,.inr (h.1 _ _ hra),h.1,?_⟩,λz=>by cases z⟩;rw [AY hr',map_append,map_append,h.2];rfl
   ·intro m hm;have s2:=s1.trans (h.1.trans (Ab.new (o:= .lst ys) hm));refine⟨m,(part T.cs f l).map List.sum,rfl,.inl ?_,?_⟩
    ·rw [Ae,h.2,take_of_length_le (by omega)]
    refine⟨(f:Int),rfl,(l:Int)+1,rfl,D,T.ds.map V.int,rfl,s2 _ _ hD,λR2 H3 s3 k3=>?_⟩;rw [Hb hfl (by rw [length_map];exact hl),Hc] at k3;refine⟨R2,part T.ds f l,rfl,.inr k3,?_⟩;have:=q H3 (s2.trans s3);unfold DG at this;rw [ea] at this;exact this
 ·exact h.elim
theorem za6:At ["terms","caps","coals","draws","main","hours","stretches","found"] ["terms"] (Ak waC):=Ax
theorem TH (F:Df K mg "least_stretch" waC ["terms"]) (T:Tx mg) (yaB:Fn P w K mg base 1 "is_too_much" ["terms","stretch"] HP):Fn P w K mg base 2 "least_stretch" ["terms"] HQ:=by
 refine F.fn za6 (λvs H Q E h=>?_) (λf cdv A outer s H vs Q E hr h=>?_)
 ·unfold HQ at h;split at h;rfl;exact h.elim
 refine⟨_,(Ah (Bk (cy 0) (AV K (n:=4) (Ar (Am 1 za6.nd) (Ar (Am 2 za6.nd) (Ar (Am 3 za6.nd) (Ar (Am 4 za6.nd) AQ)))))) (Ah (AG (i:=5) za6.nd rfl (AC (by rfl)) (Ay (Bn K) rfl T.b_len PySem.boot_len (Al (cy 3)))) (Ah (Qz (i:=6) ["first","last","hours"] [none,none,some 5] za6.nd rfl (AC (by rfl)) rfl (Da rfl T.b_range (Al (cy 5))) (AH.of rfl) (λ_ _ _ _=>(Am 0 (AF (by rfl)))) (λ_ _ _ _=>A3) (λ_ _ _ _=>(N0 rfl T.b_range (Av (cy 0) (cy 2)))) (λ_ _ _ _=>(Am 1 (AF (by rfl)))) (λ_ _ _ _=>A3) (λ_ _ _ _=>(BG (Av (cy 0) (cy 1))))) (Ah (Jd (i:=7) ["stretch","terms"] [none,some 0] za6.nd rfl (AC (by rfl)) rfl (CZ K (cy 6)) (AH.of rfl) (λ_ _ _ _=>(Am 0 (AF (by rfl)))) (λ_ _ _ _=>(FM (Bw (An yaB (hr.mono (by decide)) rfl (Av (cy 1) (cy 0)))))) (λ_ _ _ _=>(cy 0))) (Aj (Au (Dg (Jo (cy 7)) (AK (Bp K) (cy 7) Af (λ_ _=>rfl)) Ej))))))),?_⟩;unfold HQ at h;split at h
 ·rename_i v;obtain⟨p,T,ok,r,q⟩:=h;obtain⟨A,C,B,D,M,xc,rfl,hA,hC,rc,hB,hD,hM⟩:=Aa.terms r;have l8:=ok.l8;refine⟨A,_,rfl,Ag.of hA,rfl,_,_,rfl,_,_,rfl,_,_,rfl,_,_,rfl,rfl,?_⟩;refine⟨D,_,rfl,.inr (Ag.of hD),?_⟩;rw [length_map];refine⟨_,rfl,by omega,by omega,Qx (n:=T.ds.length) (λi zs H'=>Ab H H'/\Ad p H' ((CB T.ds.length i).map pD) zs) ⟨Ab.refl _,.nil⟩ (λi zs H1 hi h=>?_) λzs H1 h=>?_⟩
  ·refine⟨⟨rfl,trivial⟩,λ_=>?_,λz=>by cases z⟩;have lz:=h.2.len;rw [length_map] at lz;have ls:=LJ (n:=T.ds.length) (k:=i);have lm:T.ds.length * i<=8 * 8:=Nat.mul_le_mul l8 (by omega);have e0:((T.ds.length:Int)-(0+(i:Int))).toNat=T.ds.length-i:=by omega
   refine⟨_,_,rfl,⟨by omega,by omega,by omega,by omega⟩,?_⟩;rw [e0];refine Qw (n:=T.ds.length-i) (λj ys H2=>Ab H H2/\Ad p H2 ((CB T.ds.length i++DH i j).map pD) ys/\j<=8) ⟨h.1,?_,Nat.zero_le _⟩ (λj ys H2 h=>?_) (λj ys H2 hj h2=>?_) λys H2 h2=>?_
   ·have e1:DH i 0=[]:=rfl;rw [e1,append_nil];exact h.2
   ·have h3:=h.2.1.len;rw [length_map,length_append,LG] at h3;have:=h.2.2;omega
   ·refine⟨⟨rfl,rfl,trivial⟩,λ_ t ht=>?_,λz=>by cases z⟩;have nt:=Ab.new (o:= .tup [.int (0+(i:Int)),.int (0+(i:Int)+(j:Int))]) ht;refine⟨h2.1.trans nt,?_,by omega⟩;rw [QH,<-append_assoc,map_append];exact Ad.snoc (Ad.ev (Ev.same nt) _ _ h2.2.1) (Aa.tup Ae (.cons (Aa.intE (by simp)) (.cons (Aa.intE (by simp)) .nil)))
   ·refine⟨h2.1,?_⟩;rw [LH];exact h2.2.1
  ·intro m hm;have s1:=h.1.trans (Ab.new (o:= .lst zs) hm);have r1:=Ad.ev (Ev.new (p:=p) (o:= .lst zs) hm) _ _ h.2;have lz:=h.2.len;rw [length_map] at lz;have ls:=LJ (n:=T.ds.length) (k:=T.ds.length);have lm:T.ds.length * T.ds.length<=8 * 8:=Nat.mul_le_mul l8 l8;refine⟨m,rfl,⟨zs,Ai.of Ae⟩,Dy (xs:=zs) (λi ys H'=>Ab (upd H1 m (.lst zs)) H'/\Ad p H' ((((CB T.ds.length T.ds.length).take i).filter λq=>DG T q.1 q.2).map pD) ys) (by omega) ⟨Ab.refl _,.nil⟩ (λi ys H' h=>?_) (λi ys H' _ h=>Ai.of (h.1 _ _ Ae)) (λi x ys H' hx h=>?_) λys H2 h2=>?_⟩
   ·rw [<-h.2.len,length_map];exact Nat.le_trans (List.length_filter_le _ _) (by rw [length_take];omega)
   ·obtain⟨⟨f,l⟩,hf,rd⟩:=Ad.mapGot r1 hx;obtain⟨hfl,hl⟩:=LK (Nat.le_refl _) _ (mem_of_getElem? hf);refine⟨⟨rfl,trivial⟩,p,T,f,l,ok,Aa.ev (Ev.same (s1.trans h.1)) _ _ r,Aa.ev (Ev.same h.1) _ _ rd,hfl,hl,λH3 s3=>⟨λc=>?_,λc=>?_⟩⟩
    ·refine⟨h.1.trans s3,?_⟩;rw [AY hf,filter_append,List.filter_cons_of_pos (by exact c),map_append];exact Ad.snoc (Ad.ev (Ev.same s3) _ _ h.2) (Aa.ev (Ev.same (h.1.trans s3)) _ _ rd)
    ·refine⟨h.1.trans s3,?_⟩;rw [AY hf,filter_append,List.filter_cons_of_neg (by rw [show DG T (f,l).1 (f,l).2=false from c];decide),List.filter_nil,append_nil];exact Ad.ev (Ev.same s3) _ _ h.2
   ·intro m2 hm2;rw [take_of_length_le (by omega)] at h2;have s2:=s1.trans (h2.1.trans (Ab.new (o:= .lst ys) hm2));have r2:=Ad.ev (Ev.new (p:=p) (o:= .lst ys) hm2) _ _ h2.2;refine⟨m2,ys,rfl,Ae,⟨λc=>?_,λc=>?_⟩⟩
    ·cases ys with
     | nil=>cases c
     | cons y ys=>
      refine⟨m2,_,0,y,rfl,rfl,Ai.of Ae,Cb (j:=0) rfl,q _ _ s2 ?_⟩;have eq:E8 T=(CB T.ds.length T.ds.length).filter λq=>DG T q.1 q.2:=rfl
      unfold DJ;rw [<-eq] at r2;cases z:E8 T with
      | nil=>rw [z] at r2;have:=r2.len;cases this
      | cons a l=>
       rw [z] at r2;unfold Ad at r2;obtain⟨x,t,e,rx,_⟩:=r2;cases e;exact rx
    ·cases ys with
     | cons y ys=>cases c
     | nil=>
      refine q _ _ s2 ?_;have eq:E8 T=(CB T.ds.length T.ds.length).filter λq=>DG T q.1 q.2:=rfl
      unfold DJ;rw [<-eq] at r2;cases z:E8 T with
      | nil=>exact Aa.non
      | cons a l=>rw [z] at r2;have:=r2.len;cases this
 ·exact h.elim
theorem TJ:At ["plant","story"] ["plant","story"] (Ak waD):=Ax
theorem TK (F:Df K mg "stretch_of" waD ["plant","story"]) (T:Tx mg) (yaC:Fn P w K mg base 2 "least_stretch" ["terms"] HQ) (yaD:Fn P w K mg base 10 "terms_of" ["plant","story"] HN):Fn P w K mg base 11 "stretch_of" ["plant","story"] HR:=by
 refine F.fn TJ (λvs H Q E h=>?_) (λf cdv A outer s H vs Q E hr h=>?_)
 ·unfold HR at h;split at h;rfl;exact h.elim
 refine⟨_,(Aj (Au (An yaC (hr.mono (by decide)) rfl (Al (An yaD (hr.mono (by decide)) rfl (Av (cy 0) (cy 1))))))),?_⟩;unfold HR at h;split at h
 ·rename_i v u;obtain⟨p,P,S,ok,so,r,ru,q⟩:=h;exact⟨p,P,S,ok,so,r,ru,λt H1 s1 rt=>⟨p,terms P S,QF so,rt,λv H2 s2 r2=>q v H2 (s1.trans s2) r2⟩⟩
 ·exact h.elim
end
end MF
end
section
namespace MF
open L2
abbrev nT (n:Int):Str:=Str.ofString (toString n)
def Bs (r:List Int):Str:=Cg " " (r.map nT)
def CP (F:List (List Int)):Str:=Cg "/" (F.map Bs)
def TN (c:Int):List Str:=(List.range (c+1).toNat).map fun(n:Nat)=>nT (n:Int)
def A8 (c:Int) (w:Str):Bool:=B5 (.str w) ((TN c).map V.str)
def CQ (cs:List Int) (ws:List Str):Bool:=decide (ws.length=cs.length) &&(List.zipWith A8 cs ws).all id
def F7:Sp:=λvs H Q _=>match vs with | [.int c,.str w]=>0<=c/\c<=99/\∀b H',b=A8 c w->Ab H H'->Q (.bl b) H' | _=>False
def HS:Sp:=λvs H Q _=>match vs with | [.ref a,.str t]=>∃cs:List Int,H a=some (.tup (cs.map V.int))/\cs.length<=4/\(∀c∈cs,0<=c/\c<=9)/\t.length<=200000/\∀b H',b=CQ cs (Az t " ")->Ab H H'->Q (.bl b) H' | _=>False
def HU:Sp:=λvs H Q _=>match vs with | [v,u,w]=>∃p P S F,Tri p H P S F v u w/\∀H',Ab H H'->Q (.str (CP F)) H' | _=>False
theorem JH {n:Nat} (h:n<=1000):n.log2<1920:=Nat.lt_of_le_of_lt (Nat.log2_le_self n) (by omega)
theorem TQ (l:List Str):(l.map V.str).all De=true:=by
 rw [all_map];exact all_eq_true.mpr λ_ _=>rfl
theorem ME (sep:Str) (B:Nat):∀(l:List Str) (a:Nat),(∀x∈l,x.length<=B)->l.foldl (λn x=>n+x.length+sep.length) a<=a+l.length *(B+sep.length)
 | [],a,_=>by simp
 | x::l,a,h=>by
  have h1:=h x (mem_cons_self ..);have h2:=ME sep B l (a+x.length+sep.length) λy hy=>h y (mem_cons_of_mem _ hy)
  rw [List.foldl_cons,length_cons,Nat.succ_mul];omega
theorem MG (B:Nat):∀(l:List Str),(∀x∈l,x.length<=B)->(l.map (·.length)).sum<=l.length * B
 | [],_=>by simp
 | x::l,h=>by
  have h1:=h x (mem_cons_self ..);have h2:=MG B l λy hy=>h y (mem_cons_of_mem _ hy)
  rw [map_cons,sum_cons,length_cons,Nat.succ_mul];omega
theorem HV {sep:Str}{l:List Str}{B:Nat} (h:∀x∈l,x.length<=B):(Cg sep l).length<=l.length *(B+sep.length):=by
 have g:(Builtin.Str.glued sep l).length<=l.length *(B+sep.length):=by
  rw [size_glued,Nat.mul_add];have:=MG B l h;have:=Nat.mul_le_mul_right sep.length (Nat.sub_le l.length 1);omega
 match l,h,g with
 | [],_,g=>exact g
 | [x],h,_=>exact Nat.le_trans (h x (mem_cons_self ..)) (by rw [length_singleton];omega)
 | _::_::_,_,g=>exact g
theorem Ft {sep:Str}{l:List Str}{B:Nat} (h:∀x∈l,x.length<=B) (hz:l.length *(B+sep.length)<=200000):Builtin.Str.tooLong (l.toArray.foldl (· + ·.length+sep.length) 0)=false/\(Cg sep l).length<=sizeLine:=by
 have z:(200000:Nat)<=sizeLine:=by decide
 have f:=ME sep B l 0 h;refine⟨?_,Nat.le_trans (Nat.le_trans (HV h) hz) z⟩;unfold Builtin.Str.tooLong;rw [List.foldl_toArray];exact decide_eq_false (by omega)
theorem JI {n:Int} (h0:0<=n) (h9:n<=9):(nT n).length<=11:=by
 have:=PyProof.Rows.len_str_of_int n;unfold nT;omega
theorem JJ {r:List Int} (h:∀n∈r,0<=n/\n<=9) (hl:r.length<=4):(Bs r).length<=48:=by
 have:=HV (sep:=" ") (l:=r.map nT) (B:=11) λx hx=>by
  obtain⟨n,hn,rfl⟩:=mem_map.mp hx;exact JI (h n hn).1 (h n hn).2
 rw [length_map] at this;have e:(Str.ofString " ").length=1:=(by decide);rw [e] at this;unfold Bs;omega
theorem EG {n:Nat} (h:n<=200000):n+2<=sizeLine:=Nat.le_trans (Nat.add_le_add_right h 2) (by decide)
section
variable {P : Program} {w : World} {K : Fgx} {mg : Str -> Option Value} {base : Heap}
theorem TR:At ["most","word"] ["most","word"] (Ak waH):=Ax
theorem TU (F:Df K mg "is_number_text" waH ["most","word"]) (T:Tx mg)  :Fn P w K mg base 1 "is_number_text" ["most","word"] F7:=by
 refine F.fn TR (λvs H Q E h=>?_) (λf cdv A outer s H vs Q E hr h=>?_)
 ·unfold F7 at h;split at h;rfl;exact h.elim
 refine⟨_,(Aj (Au (Db (E5 K) (cy 1) (A4 ["number"] [none] rfl (Da rfl T.b_range (Al (AA Bm (cy 0) Af))) (AH.of rfl) (λ_ _ _ _=>(Am 0 (AF (by rfl)))) (λ_ _ _ _=>A3) (λ_ _ _ _=>(Be EU rfl T.b_str DB (Al (cy 0))))) (by with_unfolding_all rfl)))),?_⟩;unfold F7 at h;split at h
 ·rename_i c w';obtain⟨c0,c9,q⟩:=h;refine⟨c+1,rfl,by omega,by omega,GG (n:=(c+1).toNat) (λi ys H'=>Ab H H'/\ys=((List.range i).map fun(n:Nat)=>nT (n:Int)).map V.str) (by omega) ⟨Ab.refl _,rfl⟩ (λi ys H' h=>by rw [h.2,length_map,length_map,length_range];exact Nat.le_refl _) (λi ys H' hi h=>?_) (λys H' h=>?_)⟩
  ·refine⟨trivial,λ_=>⟨_,rfl,JH (by omega),h.1,?_⟩,λz=>by cases z⟩;rw [h.2,range_succ,map_append,map_append,Int.zero_add];rfl
  ·intro m hm;refine⟨m,_,rfl,.inl (Ai.of Ae),rfl,by rw [h.2];exact TQ _,?_⟩;exact q _ _ (by rw [h.2];rfl) (h.1.trans (Ab.new hm))
 ·exact h.elim
theorem zau:At ["caps","row","words"] ["caps","row"] (Ak waG):=Ax
theorem TV (F:Df K mg "is_row_text" waG ["caps","row"]) (T:Tx mg) (yab:Fn P w K mg base 1 "is_number_text" ["most","word"] F7):Fn P w K mg base 2 "is_row_text" ["caps","row"] HS:=by
 refine F.fn zau (λvs H Q E h=>?_) (λf cdv A outer s H vs Q E hr h=>?_)
 ·unfold HS at h;split at h;rfl;exact h.elim
 refine⟨_,(Ah (AG (i:=2) zau.nd rfl (AC (by rfl)) (Ch K PySem.F.plainAttrs_str PySem.F.slot_str_split PySem.F.type_str_split E9 (cy 1) (Al Ao))) (Aj (Au (Bz (Db Cy (Ay (Bn K) rfl T.b_len PySem.boot_len (Al (cy 2))) (Ay (Bn K) rfl T.b_len PySem.boot_len (Al (cy 0))) (AS _)) (Ca (Ay (DY rfl) rfl T.b_all boot_all (Al (A4 ["cap","word"] [none,none] rfl (P9 P w K rfl T.b_zip (Av (cy 0) (cy 2))) (AH.of rfl) (λ_ _ _ _=>(AV K (n:=2) (Ar (Am 0 (AF (by rfl))) (Ar (Am 1 (AF (by rfl))) AQ)))) (λ_ _ _ _=>A3) (λ_ _ _ _=>(An yab (hr.mono (by decide)) rfl (Av (cy 0) (cy 1)))))))))))),?_⟩;unfold HS at h;split at h
 ·rename_i a t;obtain⟨cs,ha,l4,c9,hz,q⟩:=h;refine⟨rfl,t," ",rfl,rfl,by decide,EG hz,λl hl=>?_⟩;have n1:=Ab.new (o:= .lst ((Az t " ").map V.str)) hl;have kl:upd H l (.lst ((Az t " ").map V.str)) l=some (.lst ((Az t " ").map V.str)):=Ae;have sl:=He t " ";generalize upd H l (.lst ((Az t " ").map V.str))=H1 at n1 kl ⊢;refine⟨l,_,rfl,.inl (Ai.of kl),a,_,rfl,.inr (Ag.of (n1 _ _ ha)),rfl,?_⟩;have lw:((Az t " ").map V.str).length=(Az t " ").length:=length_map _;have lcs:(cs.map V.int).length=cs.length:=length_map _;refine⟨λc=>?_,λc=>?_⟩
  ·have e0:=of_decide_eq_true c;injection e0 with e0
   rw [lw,lcs] at e0;have e1:(Az t " ").length=cs.length:=by omega
   refine⟨a,l,rfl,⟨_,Ag.of (n1 _ _ ha)⟩,⟨_,Ai.of kl⟩,walk_zip (xs:=cs.map V.int) (ys:=(Az t " ").map V.str) (λi zs H'=>Ab H1 H'/\zs=((List.zipWith A8 cs (Az t " ")).take i).map V.bl) (by omega) (by omega) ⟨Ab.refl _,rfl⟩ (λi zs H' h=>by rw [h.2,length_map,length_take];omega) (λi zs H' h=>⟨Ag.of (h.1 _ _ (n1 _ _ ha)),Ai.of (h.1 _ _ kl)⟩) (λi x y zs H' T' hx hy h hT=>?_) (λzs H' h=>?_)⟩
   ·rw [getElem?_map] at hx hy;obtain⟨c0,hc0,rfl⟩:∃c0,cs[i]? =some c0/\V.int c0=x:=by
     cases z:cs[i]? with
     | none=>rw [z] at hx;cases hx
     | some c0=>rw [z] at hx;cases hx;exact⟨c0,rfl,rfl⟩
    obtain⟨w0,hw0,rfl⟩:∃w0,(Az t " ")[i]? =some w0/\V.str w0=y:=by
     cases z:(Az t " ")[i]? with
     | none=>rw [z] at hy;cases hy
     | some w0=>rw [z] at hy;cases hy;exact⟨w0,rfl,rfl⟩
    have nT':=Ab.new (o:= .tup [V.int c0,V.str w0]) hT;obtain⟨b0,b9⟩:=c9 c0 (mem_of_getElem? hc0);refine⟨T',_,rfl,Ag.of Ae,rfl,_,_,rfl,_,_,rfl,rfl,trivial,λ_=>⟨b0,by omega,λb H2 hb s2=>⟨h.1.trans (nT'.trans s2),?_⟩⟩,λz=>by cases z⟩;have ez:(List.zipWith A8 cs (Az t " "))[i]? =some (A8 c0 w0):=by rw [getElem?_zipWith,hc0,hw0]
    rw [h.2,AY ez,map_append,hb];rfl
   ·intro m hm;refine⟨m,List.zipWith A8 cs (Az t " "),rfl,?_,?_⟩
    ·rw [Ae,h.2,take_of_length_le (by rw [length_zipWith];omega)]
    ·refine q _ _ ?_ (n1.trans (h.1.trans (Ab.new hm)));unfold CQ;rw [decide_eq_true e1,Bool.true_and]
  ·have e0:=of_decide_eq_false c;refine q _ _ ?_ n1;unfold CQ;rw [decide_eq_false (λz=>e0 (by rw [lw,lcs,z])),Bool.false_and]
 ·exact h.elim
theorem TW:At ["plant","story","firing"] ["plant","story","firing"] (Ak waE):=Ax
theorem TX (F:Df K mg "firing_text" waE ["plant","story","firing"]) (T:Tx mg) (ya5:HK P w K mg base):Fn P w K mg base 12 "firing_text" ["plant","story","firing"] HU:=by
  refine F.fn TW (λvs H Q E h=>?_) (λf cdv A outer s H vs Q E hr h=>?_)
  . unfold HU at h;split at h;rfl;exact h.elim
  refine⟨_,(Ah (Ba (An ya5 (hr.mono (by decide)) rfl (AI (cy 0) (cy 1) (cy 2)))) (Aj (Au (Ch K PySem.F.plainAttrs_str PySem.F.slot_str_join PySem.F.type_str_join Fa Ao (Al (A4 ["row"] [none] rfl (BH K (cy 2)) (AH.of rfl) (λ_ _ _ _=>(Am 0 (AF (by rfl)))) (λ_ _ _ _=>A3) (λ_ _ _ _=>(Ch K PySem.F.plainAttrs_str PySem.F.slot_str_join PySem.F.type_str_join Fa Ao (Al (A4 ["made"] [none] rfl (BH K (cy 0)) (AH.of rfl) (λ_ _ _ _=>(Am 0 (AF (by rfl)))) (λ_ _ _ _=>A3) (λ_ _ _ _=>(Be EU rfl T.b_str DB (Al (cy 0)))))))))))))),?_⟩;unfold HU at h;split at h
  . rename_i v u w';obtain⟨p,P,S,F,tr,q⟩:=h;refine⟨p,P,S,F,tr,λH1 s1=>?_⟩;obtain⟨FA,fx,rfl,hFA,rfx⟩:=Aa.firing (Aa.ev (Ev.same s1) _ _ tr.rw);have x8:=tr.so.x8;have b4:=tr.ok.b4;have lf:=rfx.len;rw [length_map,tr.fo.len] at lf;have rows:∀(i:Nat) r,F[i]? =some r->(∀n∈r,0<=n/\n<=9)/\r.length<=4:=λi r hr=>by
      have l1:=tr.fo.row i r hr;refine⟨λn hn=>?_,by omega⟩;obtain⟨j,hj⟩:=getElem?_of_mem hn;have hi:i<S.ex.length:=by have:=(List.getElem?_eq_some_iff.mp hr).1;rw [tr.fo.len] at this;exact this
      have cb:=Cz (S:=S) tr.ok _ (mem_of_getElem? (BB hi));obtain⟨c,hc⟩:∃c,(Bc P.bs S.fs i)[j]? =some c:=⟨_,getElem?_eq_getElem (by have:=(List.getElem?_eq_some_iff.mp hj).1;omega)⟩;have b:=tr.fo.bd i r j n c hr hj hc;have c9:=cb.1 c (mem_of_getElem? hc);omega
    refine⟨rfl,FA,rfl,⟨_,Ag.of hFA⟩,BF (xs:=fx) (λj zs H'=>Ab H1 H'/\zs=((F.take j).map Bs).map V.str) (by omega) ⟨Ab.refl _,rfl⟩ (λj zs H' h=>by rw [h.2,length_map,length_map,length_take];omega) (λj zs H' _ h=>Ag.of (h.1 _ _ hFA)) (λj x zs H' hx h=>?_) (λzs H' h=>?_)⟩
    . obtain⟨r,hr,rr⟩:=Ad.mapGot rfx hx;obtain⟨RA,rfl,hRA⟩:=Aa.ofRow rr;obtain⟨r9,r4⟩:=rows j r hr;refine⟨trivial,λ_=>⟨rfl,RA,rfl,⟨_,Ag.of (h.1 _ _ hRA)⟩,BF (xs:=r.map V.int) (λk ys H2=>Ab H' H2/\ys=((r.take k).map nT).map V.str) (by rw [length_map];omega) ⟨Ab.refl _,rfl⟩ (λk ys H2 h2=>by rw [h2.2,length_map,length_map,length_take];omega) (λk ys H2 _ h2=>Ag.of ((h.1.trans h2.1) _ _ hRA)) (λk x ys H2 hx h2=>?_) (λys H2 h2=>?_)⟩,λz=>by cases z⟩
      . rw [getElem?_map] at hx;obtain⟨n,hn,rfl⟩:∃n,r[k]? =some n/\V.int n=x:=by
          cases z:r[k]? with
          | none=>rw [z] at hx;cases hx
          | some n=>rw [z] at hx;cases hx;exact⟨n,rfl,rfl⟩
        obtain⟨m0,m9⟩:=r9 n (mem_of_getElem? hn);refine⟨trivial,λ_=>⟨n,rfl,JH (by omega),h2.1,?_⟩,λz=>by cases z⟩;rw [h2.2,AY hn,map_append,map_append];rfl
      . intro m hm;have fit:=Ft (sep:=" ") (l:=r.map nT) (B:=11) (λx hx=>by
          obtain⟨n,hn,rfl⟩:=mem_map.mp hx;exact JI (r9 n hn).1 (r9 n hn).2) (by rw [length_map];have e:(Str.ofString " ").length=1:=(by decide);rw [e];omega)
        refine⟨" ",m,r.map nT,rfl,rfl,?_,fit.1,fit.2,h.1.trans (h2.1.trans (Ab.new hm)),?_⟩
        . rw [Ae,h2.2,length_map,take_of_length_le (Nat.le_refl _)]
        . rw [h.2,AY hr,map_append,map_append];rfl
    . intro m hm;have fit:=Ft (sep:="/") (l:=F.map Bs) (B:=48) (λx hx=>by
        obtain⟨r,hr,rfl⟩:=mem_map.mp hx;obtain⟨i,hi⟩:=getElem?_of_mem hr;exact JJ (rows i r hi).1 (rows i r hi).2) (by rw [length_map,tr.fo.len];have e:(Str.ofString "/").length=1:=(by decide);rw [e];omega)
      refine⟨"/",m,F.map Bs,rfl,rfl,?_,fit.1,fit.2,q _ (s1.trans (h.1.trans (Ab.new hm)))⟩;rw [Ae,h.2,take_of_length_le (by rw [tr.fo.len];omega)]
  . exact h.elim
end
end MF
end
section
namespace MF
open L2
variable {p : Nat -> Bool} {n : Nat} {ws : List Str} {C : Addr} {dx : Option Addr} {H : Hp}
abbrev wa0:Stmt:=(Dl (Aw 20)).getD 0 (.Pass ⟨0,0,0,0⟩)
structure Tc (K:Fgx) (mg:Str->Option Value) (M:Addr) (ds:List Addr):Prop where
 c_NoPlant:mg "NoPlant"=some (.ref (ds.getD 0 0))
 c_NoStory:mg "NoStory"=some (.ref (ds.getD 1 0))
 c_NoFiring:mg "NoFiring"=some (.ref (ds.getD 2 0))
 c_NoHour:mg "NoHour"=some (.ref (ds.getD 3 0))
 c_NoBoiler:mg "NoBoiler"=some (.ref (ds.getD 4 0))
 c_NoPrices:mg "NoPrices"=some (.ref (ds.getD 5 0))
 c_NoWay:mg "NoWay"=some (.ref (ds.getD 6 0))
 c_NoSet:mg "NoSet"=some (.ref (ds.getD 7 0))
 c_NoTanks:mg "NoTanks"=some (.ref (ds.getD 8 0))
 c_NoPump:mg "NoPump"=some (.ref (ds.getD 9 0))
 c_NoFeeding:mg "NoFeeding"=some (.ref (ds.getD 10 0))
 c_NoReadings:mg "NoReadings"=some (.ref (ds.getD 11 0))
 c_NoStart:mg "NoStart"=some (.ref (ds.getD 12 0))
 c_NoShifts:mg "NoShifts"=some (.ref (ds.getD 13 0))
 c_NoBook:mg "NoBook"=some (.ref (ds.getD 14 0))
 c_NoAmount:mg "NoAmount"=some (.ref (ds.getD 15 0))
 c_NoDeed:mg "NoDeed"=some (.ref (ds.getD 16 0))
 c_NoLine:mg "NoLine"=some (.ref (ds.getD 17 0))
 c_NoText:mg "NoText"=some (.ref (ds.getD 18 0))
 c_MainError:mg "MainError"=some (.ref M)
 mB:PySem.W.mroIn K M (.type "BaseException")=some true
 mT:PySem.W.typeIn K (.ref M)=some (.type "type")
 n_NoFiring:PySem.W.nsIn K mainGlobals "NoFiring"=some (some (.ref (ds.getD 2 0)))
 x_NoFiring:PySem.W.excIn K (ds.getD 2 0) B2 "ValueError.__new__"=true
 w_NoFiring:BJ K M ds 2=true
 n_NoHour:PySem.W.nsIn K mainGlobals "NoHour"=some (some (.ref (ds.getD 3 0)))
 x_NoHour:PySem.W.excIn K (ds.getD 3 0) B2 "ValueError.__new__"=true
 w_NoHour:BJ K M ds 3=true
 n_NoBoiler:PySem.W.nsIn K mainGlobals "NoBoiler"=some (some (.ref (ds.getD 4 0)))
 x_NoBoiler:PySem.W.excIn K (ds.getD 4 0) B2 "ValueError.__new__"=true
 w_NoBoiler:BJ K M ds 4=true
 n_NoAmount:PySem.W.nsIn K mainGlobals "NoAmount"=some (some (.ref (ds.getD 15 0)))
 x_NoAmount:PySem.W.excIn K (ds.getD 15 0) B2 "ValueError.__new__"=true
 w_NoAmount:BJ K M ds 15=true
 n_NoDeed:PySem.W.nsIn K mainGlobals "NoDeed"=some (some (.ref (ds.getD 16 0)))
 x_NoDeed:PySem.W.excIn K (ds.getD 16 0) B2 "ValueError.__new__"=true
 w_NoDeed:BJ K M ds 16=true
 n_NoLine:PySem.W.nsIn K mainGlobals "NoLine"=some (some (.ref (ds.getD 17 0)))
 x_NoLine:PySem.W.excIn K (ds.getD 17 0) B2 "ValueError.__new__"=true
 w_NoLine:BJ K M ds 17=true
 w_NoText:BJ K M ds 18=true
 hd:PySem.W.hasDictIn K (ds.getD 18 0)=true
 na:PySem.W.findIn K (.ref (ds.getD 18 0)) "at"=some none
 xb:Jx K M
 xc:Hj K (ds.getD 18 0) "at"
theorem Fu {X:Cx}{j:Nat}{p q:Pos}:PE X (.UnaryOp .USub (.Constant (.int 1) j p) q) (tC (.int (-1))):=(N5 N7 Af).weak fun σ H Q z=>⟨1,rfl,z⟩
def EH (w:Str):Int:=(((List.range 10).find? fun(n:Nat)=>nT (n:Int)==w).getD 0:Nat)
def F8 (cs:List Int) (ws:List Str):Option (List Int):=if CQ cs ws=true then some (ws.map EH) else none
def BW (C:List (List Int)) (ps:List Str) (i:Nat):Option (List Int):=if i<C.length then F8 (C.getD i []) (Az (ps.getD i Str.empty) " ") else none
def CG (C:List (List Int)) (ps:List Str):Sum Int (List (List Int)):=match(List.range ps.length).find? (λi=>(BW C ps i).isNone) with
 | some i=> .inl (i:Nat)
 | none=>if ps.length<C.length then .inl (-1) else .inr ((List.range ps.length).map λi=>(BW C ps i).getD [])
def JK (C:List (List Int)) (d:PyData):Sum Int (List (List Int)):=match d with | .str t=>CG C (Az t "/") | _=> .inl (-1)
theorem TY:∀ {n i:Nat},i<n->(∀j,j<i->p j=false)->p i=true->(List.range n).find? p=some i:=λ{n i} h1 h2 h3=>by
 rw [List.find?_range_eq_some];exact⟨h3,mem_range.mpr h1,λj hj=>by rw [h2 j hj];rfl⟩
theorem MH (h:∀j,j<n->p j=false):(List.range n).find? p=none:=by
 rw [List.find?_eq_none];intro x hx;rw [h x (mem_range.mp hx)];exact Bool.false_ne_true
theorem MI {c:Int}{w:Str} (h:A8 c w=true):∃n:Nat,(n:Int)<=c/\w=nT (n:Int):=by
 unfold A8 B5 at h;obtain⟨y,hy,e⟩:=any_eq_true.mp h;obtain⟨z,hz,rfl⟩:=mem_map.mp hy;obtain⟨n,hn,rfl⟩:=mem_map.mp hz;have hn':=mem_range.mp hn;refine⟨n,by omega,?_⟩;have:(nT (n:Int)==w)=true:=e;exact(eq_of_beq this).symm
theorem TZ {c:Int} (h:(n:Int)<=c):A8 c (nT (n:Int))=true:=by
 unfold A8 B5;refine any_eq_true.mpr ⟨.str (nT (n:Int)),mem_map.mpr ⟨_,mem_map.mpr ⟨n,mem_range.mpr (by omega),rfl⟩,rfl⟩,?_⟩;show(nT (n:Int)==nT (n:Int))=true;exact beq_self_eq_true _
theorem MJ:∀n:Nat,n<10->EH (nT (n:Int))=(n:Int):=by decide+kernel
theorem JL {cs:List Int} (h:CQ cs ws=true):ws.length=cs.length:=by
 unfold CQ at h;rw [Bool.and_eq_true] at h;exact of_decide_eq_true h.1
theorem MK {cs:List Int} (h:CQ cs ws=true) (h9:∀c∈cs,0<=c/\c<=9) {i:Nat}{w:Str} (hw:ws[i]? =some w):∃n:Nat,n<10/\w=nT (n:Int)/\EH w=(n:Int)/\∃c,cs[i]? =some c/\(n:Int)<=c:=by
 have hl:=JL h;unfold CQ at h;rw [Bool.and_eq_true] at h;have hi:=(List.getElem?_eq_some_iff.mp hw).1;have hc:cs[i]? =some cs[i]:=getElem?_eq_getElem (by omega);have hz:(List.zipWith A8 cs ws)[i]? =some (A8 cs[i] w):=by rw [getElem?_zipWith,hc,hw]
 have ok:A8 cs[i] w=true:=all_eq_true.mp h.2 _ (mem_of_getElem? hz);obtain⟨n,hn,rfl⟩:=MI ok;have:=(h9 _ (mem_of_getElem? hc)).2;exact⟨n,by omega,rfl,MJ n (by omega),_,hc,hn⟩
theorem F9 {C:List (List Int)}{ps:List Str}{i:Nat}{r:List Int} (h:BW C ps i=some r):i<C.length/\CQ (C.getD i []) (Az (ps.getD i Str.empty) " ")=true/\r=(Az (ps.getD i Str.empty) " ").map EH:=by
 unfold BW F8 at h;split at h
 ·rename_i c;split at h
  ·rename_i q;cases h;exact⟨c,q,rfl⟩
  ·cases h
 ·cases h
theorem ML {x y w:Str} (h:w∈Az x y):w.length<=x.length:=by
 unfold Az at h;split at h
 ·rw [mem_singleton.mp h];exact Nat.le_refl _
 ·split at h
  ·rw [mem_singleton.mp h];exact Nat.le_refl _
  ·unfold Builtin.Str.partsBetween at h;obtain⟨q,_,rfl⟩:=mem_map.mp h;exact strSub_length_le ..
def HW (CT:Addr):Sp:=λvs H Q E=>match vs with
 | [v, u, x] => ∃ p P S d, PL.ok P /\ SY.ok S P.bs.length /\ Aa p H P.d v /\ Aa p H S.d u /\ Aa p H d x /\ (∀ t, d = .str t -> t.length <= 200000) /\
   (∀n H' a,JK (caps P S) d= .inl n->Ab H H'->H a=none->H' a=some (.xd [("at",.int n)])->E (.ref CT) (some a) H')/\
   (∀F H' b,JK (caps P S) d= .inr F->Ab H H'->Aa p H' (FD F) (.ref b)->Q (.ref b) H')
 | _=>False
structure WB (K:Fgx) (M:Addr) (ds:List Addr) (C:Addr) (dx:Option Addr) (H:Hp) (ws:List V):Prop where
 ex:∃i word,i<19/\C=ds.getD i 0/\kindWords[i]? =some word/\BJ K M ds i=true/\(word≠Str.ofString "text" ->ws=[.str word])/\
  (word=Str.ofString "text" ->∃a v,dx=some a/\PySem.W.hasDictIn K C=true/\PySem.W.findIn K (.ref C) "at"=some none/\H a=some (.xd [("at",v)])/\ws=[.str word,v])
theorem WB.mro {K:Fgx}{M:Addr}{ds:List Addr}{ws:List V} (h:WB K M ds C dx H ws):PySem.W.mroIn K C (.ref M)=some true:=by
 obtain⟨i,_,_,rfl,_,q,_⟩:=h.ex;exact(L6 q).2.1
theorem WB.keep {K:Fgx}{M:Addr}{ds:List Addr}{H':Hp}{ws:List V} (h:WB K M ds C dx H ws) (k:∀b o,H b=some o->H' b=some o):WB K M ds C dx H' ws:=by
 obtain⟨i,word,h1,h2,h3,h4,h5,h6⟩:=h.ex;refine⟨i,word,h1,h2,h3,h4,h5,λz=>?_⟩;obtain⟨a,v,k1,k2,k3,k4,k5⟩:=h6 z;exact⟨a,v,k1,k2,k3,k _ _ k4,k5⟩
section
variable {P : Program} {w : World} {K : Fgx} {mg : Str -> Option Value} {base : Heap} {M : Addr} {ds : List Addr}
theorem T0:At ["self","at"] ["self","at"] (Ak wa0):=Ax
theorem T5 {f:Addr}{fd:FuncData} (F:Dx K "__init__" "NoText.__init__" wa0 f fd) (C:Tc K mg M ds) (hx:DL K (ds.getD 18 0) f=true):BE P w K mg base CX0 1 f fd ["self","at"] (sp_init (ds.getD 18 0) "at"):=by
 refine F.ok T0 (λvs H Q E h=>?_) (λcdv A outer s H vs Q E hr h=>?_)
 ·unfold sp_init at h;split at h;rfl;exact h.elim
 refine⟨_,Ah (Ba (Ry C.xb rfl C.c_MainError (AE (cv 0) (AE (Rw (by decide) (cv 1)) BY)))) (Aj (RB (cv 0) (cv 1) rfl rfl)),?_⟩;unfold sp_init at h;split at h
 ·rename_i e v;obtain⟨⟨n,rfl,hn⟩,he,q⟩:=h;refine⟨n,rfl,hn,e,_,f,_,rfl,he,hx,?_⟩;exact⟨e,_,rfl,he,C.xc,q⟩
 ·exact h.elim
theorem zab:At ["plant","story","text","caps","rows","at","row"] ["plant","story","text"] (Ak waF):=Ax
theorem T6 (F:Df K mg "firing_read" waF ["plant","story","text"]) (T:Tx mg) (C:Tc K mg M ds) (XI:Xi P w K mg base 1 "NoText" (ds.getD 18 0) "at") (ya4:Fp P w K mg base) (yaE:Fn P w K mg base 2 "is_row_text" ["caps","row"] HS):A7 P w K mg base 10 "firing_read" ["plant","story","text"] (HW (ds.getD 18 0)):=by
 refine F.fnE zab (λvs H Q E h=>?_) (λf cdv A outer s H vs Q E hr h=>?_)
 ·unfold HW at h;split at h;rfl;exact h.elim
 refine⟨_,(Ah (AG (i:=3) zab.nd rfl (AC (by rfl)) (An ya4 (hr.mono (by decide)) rfl (Av (cy 0) (cy 1)))) (Ah (AT (BD (Bw (Ay E4 rfl T.b_isinstance boot_isinstance (Av (cy 2) (Ek (v:= .ty "str") rfl T.b_str DB rfl))))) (Aj (Jy isDef_cx rfl XI (hr.mono (by decide)) rfl (Al Fu))) A1) (Ah (AG (i:=4) zab.nd rfl (AC (by rfl)) (Ch K PySem.F.plainAttrs_str PySem.F.slot_str_split PySem.F.type_str_split E9 (cy 2) (Al Ao))) (Ah (CU PassesOwn.leaving rfl (P8 P w K rfl T.b_enumerate (Al (cy 4))) (AV K (n:=2) (Ar (Am 5 zab.nd) (Ar (Am 6 zab.nd) AQ))) (Aj (AT (PW.pt (E3 (AU Lf (cy 5) (Ay (Bn K) rfl T.b_len PySem.boot_len (Al (cy 3))) (AS _)) (EO (BD (Bw (An yaE (hr.mono (by decide)) rfl (Av (AK (Bq K) (cy 3) (cy 5) (λ_ _=>rfl)) (cy 6)))))))) (Aj (Jy isDef_cx rfl XI (hr.mono (by decide)) rfl (Al (cy 5)))) A1))) (Ah (AT (AU DW (Ay (Bn K) rfl T.b_len PySem.boot_len (Al (cy 4))) (Ay (Bn K) rfl T.b_len PySem.boot_len (Al (cy 3))) (AS _)) (Aj (Jy isDef_cx rfl XI (hr.mono (by decide)) rfl (Al Fu))) A1) (Aj (Au (Be (BV K) rfl T.b_tuple BN (Al (A4 ["row"] [none] rfl (CZ K (cy 4)) (AH.of rfl) (λ_ _ _ _=>(Am 0 (AF (by rfl)))) (λ_ _ _ _=>A3) (λ_ _ _ _=>(Be (BV K) rfl T.b_tuple BN (Al (A4 ["word"] [none] rfl (CZ K (Ch K PySem.F.plainAttrs_str PySem.F.slot_str_split PySem.F.type_str_split E9 (cy 0) (Al Ao))) (AH.of rfl) (λ_ _ _ _=>(Am 0 (AF (by rfl)))) (λ_ _ _ _=>A3) (λ_ _ _ _=>(Be LP rfl T.b_int L2.boot_int (Al (cy 0)))))))))))))))))),?_⟩;unfold HW at h;split at h
 ·rename_i v u x;obtain⟨p,P,S,d,ok,so,rv,ru,rd,ht,qE,qF⟩:=h;have x8:=so.x8;have b4:=ok.b4;refine⟨p,P,S,ok,so,rv,ru,λvc H1 s1 rc=>?_⟩;obtain⟨CA,cx,rfl,hCA,rcx⟩:=Aa.firing rc;have rd1:=Aa.ev (Ev.same s1) _ _ rd;refine⟨_,Aa.ty rd1,.inr (.inr (.inr (.inr rfl))),⟨λc=>?_,λc=>?_⟩⟩
  ·refine⟨-1,rfl,by decide,λa ha=>qE (-1) _ a ?_ (s1.trans (Ab.new ha)) (s1.free ha) Ae⟩;cases d<;>first | rfl | cases c
  ·cases d<;>first | cases c | skip
   rename_i t;have tl:=ht t rfl;unfold Aa at rd1;subst rd1;refine⟨rfl,t,"/",rfl,rfl,by decide,EG tl,λl hl=>?_⟩;obtain⟨ps,eps⟩:∃ps,ps=Az t "/" :=⟨_,rfl⟩;obtain⟨C,eC⟩:∃C,C=caps P S:=⟨_,rfl⟩;have lps:=He t "/";have z200:(200000:Nat)+2<=sizeLine:=by decide
   have tlp:∀w∈ps,w.length<=200000:=λw hw=>Nat.le_trans (ML (eps ▸ hw)) tl
   have lC:C.length=S.ex.length:=by rw [eC];exact BI
   have C9:∀r∈C,(∀i∈r,0<=i/\i<=9)/\r.length=P.bs.length:=by rw [eC];exact Cz ok
   have rD:JK (caps P S) (.str t)=CG C ps:=by rw [eps,eC];rfl
   rw [rD] at qE qF;have n1:=Ab.new (o:= .lst ((Az t "/").map V.str)) hl;have kl:upd H1 l (.lst ((Az t "/").map V.str)) l=some (.lst ((Az t "/").map V.str)):=Ae;have s2:=s1.trans n1;have hC2:=n1 _ _ hCA;have rc2:=Ad.ev (Ev.same n1) _ _ rcx;have lcx:=rc2.len;rw [length_map,<-eC] at lcx;generalize upd H1 l (.lst ((Az t "/").map V.str))=H2 at n1 kl s2 hC2 rc2 ⊢;rw [<-eps] at kl lps;refine⟨l,rfl,⟨_,Ai.of kl⟩,for_enum (xs:=ps.map V.str) (λi σ H'=>(∃x5 x6,σ=[some v,some u,some (.str t),some (.ref CA),some (.ref l),x5,x6])/\Ab H2 H'/\∀j,j<i->∃r,BW C ps j=some r) ⟨⟨_,_,rfl⟩,Ab.refl _,λj hj=>absurd hj (Nat.not_lt_zero _)⟩ (λi σ H' h=>Ai.of (h.2.1 _ _ kl)) (λi x σ H' T hx h hT=>?_) fun σ H5 h=>?_⟩
   ·obtain⟨⟨x5,x6,rfl⟩,sh,hj⟩:=h;rw [getElem?_map] at hx;obtain⟨w0,hw0,rfl⟩:=Option.map_eq_some_iff.mp hx;have nT':=Ab.new (o:= .tup [V.int (i:Int),V.str w0]) hT;have hil:i<ps.length:=(List.getElem?_eq_some_iff.mp hw0).1;have sT:=sh.trans nT';have wat:ps.getD i Str.empty=w0:=by rw [getD_eq_getElem?_getD,hw0];rfl
    have hile:i<=C.length:=by
     by_cases z:i=0
     ·omega
     ·obtain⟨r,hr⟩:=hj (i-1) (by omega);have:=(F9 hr).1;omega
    have bad:BW C ps i=none->∀(H6:Hp),Ab H2 H6->∀a,H6 a=none->E (Value.ref (ds.getD 18 0)) (some a) (upd H6 a (HO.xd [("at",V.int (i:Int))])):=λhb H6 s6 a ha=>by
     refine qE i _ a ?_ ((s2.trans s6).trans (Ab.new ha)) ((s2.trans s6).free ha) Ae;unfold CG;rw [TY hil (λj hj'=>by obtain⟨r,hr⟩:=hj j hj';rw [hr];rfl) (by rw [hb];rfl)]
    refine⟨T,_,rfl,Ag.of Ae,rfl,_,_,rfl,_,_,rfl,rfl,?_⟩;refine⟨CA,cx,rfl,.inr (Ag.of (sT _ _ hC2)),⟨λc=>⟨λ_=>?_,λz=>(by cases z)⟩,λc=>?_⟩⟩
    ·have c':=of_decide_eq_true c;refine⟨i,rfl,by omega,bad ?_ _ sT⟩;unfold BW;rw [if_neg (by omega)]
    ·have c':=of_decide_eq_false c;have hic:i<C.length:=by omega
     have hCi:C[i]? =some (C.getD i []):=by rw [getD_eq_getElem?_getD,getElem?_eq_getElem hic];rfl
     obtain⟨y,hy,ry⟩:=rc2.get (i:=i) (d:=AX (C.getD i [])) (by rw [getElem?_map,<-eC,hCi];rfl);obtain⟨RA,rfl,hRA⟩:=Aa.ofRow ry;obtain⟨r9,rl⟩:=C9 _ (mem_of_getElem? hCi);refine⟨CA,cx,_,_,rfl,rfl,Ag.of (sT _ _ hC2),Cb hy,C.getD i [],sT _ _ hRA,by omega,r9,tlp w0 (mem_of_getElem? hw0),λb H6 hb s6=>⟨λcc=>?_,λcc=>?_⟩⟩
     ·refine⟨i,rfl,by omega,bad ?_ _ (sT.trans s6)⟩;unfold BW F8;rw [if_pos hic,wat,if_neg (by rw [<-hb];intro z;rw [z] at cc;cases cc)]
     ·refine⟨⟨_,_,rfl⟩,sT.trans s6,λj hj'=>?_⟩;rcases Nat.lt_succ_iff_lt_or_eq.mp hj' with z | rfl
      ·exact hj j z
      ·refine⟨(Az w0 " ").map EH,?_⟩;unfold BW F8;rw [if_pos hic,wat,if_pos (by rw [<-hb];cases b<;>first | rfl | cases cc)]
   ·obtain⟨⟨x5,x6,rfl⟩,sh,hj⟩:=h;rw [length_map] at hj;have all:(List.range ps.length).find? (λi=>(BW C ps i).isNone)=none:=MH λj hj'=>by obtain⟨r,hr⟩:=hj j hj';rw [hr];rfl
    refine⟨l,_,rfl,.inl (Ai.of (sh _ _ kl)),CA,cx,rfl,.inr (Ag.of (sh _ _ hC2)),⟨λc=>?_,λc=>?_⟩⟩
    ·have c':=of_decide_eq_true c;rw [length_map] at c';refine⟨-1,rfl,by decide,λa ha=>qE (-1) _ a ?_ ((s2.trans sh).trans (Ab.new ha)) ((s2.trans sh).free ha) Ae⟩;unfold CG;rw [all];exact if_pos (by omega)
    ·have c':=of_decide_eq_false c;rw [length_map] at c';have rF:CG C ps= .inr ((List.range ps.length).map λi=>(BW C ps i).getD []):=by
      unfold CG;rw [all];exact if_neg (by omega)
     have lsz:ps.length<=8:=by
      by_cases z:ps.length=0
      ·omega
      ·obtain⟨r,hr⟩:=hj (ps.length-1) (by omega);have:=(F9 hr).1;omega
     refine⟨l,rfl,⟨_,Ai.of (sh _ _ kl)⟩,Dy (xs:=ps.map V.str) (λi zs H'=>Ab H5 H'/\Ad p H' ((List.range i).map λj=>AX ((BW C ps j).getD [])) zs) (by rw [length_map];omega) ⟨Ab.refl _,.nil⟩ (λi zs H' h=>by have:=h.2.len;rw [length_map,length_range] at this;omega) (λi zs H' _ h=>Ai.of ((sh.trans h.1) _ _ kl)) (λi x zs H' hx h=>?_) λzs H6 h=>?_⟩
     ·rw [getElem?_map] at hx;obtain⟨w0,hw0,rfl⟩:=Option.map_eq_some_iff.mp hx;obtain⟨h1,h2⟩:=h;have hil:i<ps.length:=(List.getElem?_eq_some_iff.mp hw0).1;have wat:ps.getD i Str.empty=w0:=by rw [getD_eq_getElem?_getD,hw0];rfl
      obtain⟨r,hr⟩:=hj i hil;obtain⟨hic,hok,er⟩:=F9 hr;rw [wat] at hok er;have hCi:C[i]? =some (C.getD i []):=by rw [getD_eq_getElem?_getD,getElem?_eq_getElem hic];rfl
      obtain⟨r9,rl⟩:=C9 _ (mem_of_getElem? hCi);have lw:=JL hok;refine⟨trivial,λ_=>⟨rfl,w0," ",rfl,rfl,by decide,EG (tlp w0 (mem_of_getElem? hw0)),λl2 hl2=>?_⟩,λz=>by cases z⟩;have n3:=Ab.new (o:= .lst ((Az w0 " ").map V.str)) hl2;have k3:upd H' l2 (.lst ((Az w0 " ").map V.str)) l2=some (.lst ((Az w0 " ").map V.str)):=Ae;generalize upd H' l2 (.lst ((Az w0 " ").map V.str))=H3 at n3 k3 ⊢;generalize Az w0 " "=ws at hok er lw k3;refine⟨l2,rfl,⟨_,Ai.of k3⟩,Dy (xs:=ws.map V.str) (λk ys H4=>Ab H3 H4/\ys=((ws.take k).map EH).map V.int) (by rw [length_map];omega) ⟨Ab.refl _,rfl⟩ (λk ys H4 h=>by rw [h.2,length_map,length_map,length_take];omega) (λk ys H4 _ h=>Ai.of (h.1 _ _ k3)) (λk x ys H4 hx h=>?_) λys H4 h=>?_⟩
      ·rw [getElem?_map] at hx;obtain⟨w1,hw1,rfl⟩:=Option.map_eq_some_iff.mp hx;obtain⟨n,hn,rfl,en,_⟩:=MK hok r9 hw1;refine⟨trivial,λ_=>⟨n,rfl,by omega,by omega,h.1,?_⟩,λz=>by cases z⟩;rw [h.2,AY hw1,map_append,map_append,map_singleton,map_singleton,en]
      ·intro m hm;refine⟨m,ys,rfl,.inl ⟨Ai.of Ae,λl4 hl4=>?_⟩⟩;have s6:=n3.trans (h.1.trans ((Ab.new (o:= .lst ys) hm).trans (Ab.new (o:= .tup ys) hl4)));refine⟨h1.trans s6,?_⟩;rw [range_succ,map_append,map_singleton];refine Ad.append (Ad.ev (Ev.same s6) _ _ h2) (.cons (Aa.tup Ae ?_) .nil);rw [h.2,hr,er,take_of_length_le (by rw [length_map];omega)];exact Ad.ofInts
     ·intro m hm;refine⟨m,zs,rfl,.inl ⟨Ai.of Ae,λl4 hl4=>?_⟩⟩;have s6:=(Ab.new (o:= .lst zs) hm).trans (Ab.new (o:= .tup zs) hl4);have h2:=h.2;rw [length_map] at h2;refine qF _ _ l4 rF ((s2.trans sh).trans (h.1.trans s6)) (Aa.tup Ae ?_);rw [map_map];exact Ad.ev (Ev.same s6) _ _ h2
 ·exact h.elim
theorem za3:At ["_law_e","_law_kinds","_law_words","_law_word"] ["_law_e"] (Ak wb2):=Ax
theorem T7 (F:Df K mg "_law_kind" wb2 ["_law_e"]) (T:Tx mg) (C:Tc K mg M ds):Fd P w K mg base 1 "_law_kind" ["_law_e"] (Fg (WB K M ds)):=by
 refine F.fnQ za3 (λvs H Q E h=>?_) (λf cdv A outer s H vs Q hr h=>?_)
 ·unfold Fg at h;split at h;rfl;exact h.elim
 refine⟨_,(@Ah _ _ _ _ _ (@AG _ _ (1) _ _ _ _ za3.nd rfl (AC (by rfl)) (@Bo _ _ _ _ (@Dh _ _ _ _ _ _ _ _ _ (@Ay _ _ _ _ _ _ _ _ _ (BK K) rfl T.b_isinstance boot_isinstance (@AN _ _ _ _ _ (@cx _ 0 _ _ (by rfl)) (@AO _ _ (.ref (ds.getD 0 0)) _ _ rfl C.c_NoPlant rfl (by decide)) (by rfl)) (by decide) (by decide) (by rfl) (by rfl)) (@Ay _ _ _ _ _ _ _ _ _ (BK K) rfl T.b_isinstance boot_isinstance (@AN _ _ _ _ _ (@cx _ 0 _ _ (by rfl)) (@AO _ _ (.ref (ds.getD 1 0)) _ _ rfl C.c_NoStory rfl (by decide)) (by rfl)) (by decide) (by decide) (by rfl) (by rfl)) (@Ay _ _ _ _ _ _ _ _ _ (BK K) rfl T.b_isinstance boot_isinstance (@AN _ _ _ _ _ (@cx _ 0 _ _ (by rfl)) (@AO _ _ (.ref (ds.getD 2 0)) _ _ rfl C.c_NoFiring rfl (by decide)) (by rfl)) (by decide) (by decide) (by rfl) (by rfl)) (@Ay _ _ _ _ _ _ _ _ _ (BK K) rfl T.b_isinstance boot_isinstance (@AN _ _ _ _ _ (@cx _ 0 _ _ (by rfl)) (@AO _ _ (.ref (ds.getD 3 0)) _ _ rfl C.c_NoHour rfl (by decide)) (by rfl)) (by decide) (by decide) (by rfl) (by rfl)) (by rfl))) (by rfl) (Br (by rfl))) (@Ah _ _ _ _ _ (@AG _ _ (1) _ _ _ _ za3.nd rfl (AC (by rfl)) (@AA _ _ _ _ _ _ _ _ (@EX _) (@cx _ 1 _ _ (by rfl)) (@Bo _ _ _ _ (@Dh _ _ _ _ _ _ _ _ _ (@Ay _ _ _ _ _ _ _ _ _ (BK K) rfl T.b_isinstance boot_isinstance (@AN _ _ _ _ _ (@cx _ 0 _ _ (by rfl)) (@AO _ _ (.ref (ds.getD 4 0)) _ _ rfl C.c_NoBoiler rfl (by decide)) (by rfl)) (by decide) (by decide) (by rfl) (by rfl)) (@Ay _ _ _ _ _ _ _ _ _ (BK K) rfl T.b_isinstance boot_isinstance (@AN _ _ _ _ _ (@cx _ 0 _ _ (by rfl)) (@AO _ _ (.ref (ds.getD 5 0)) _ _ rfl C.c_NoPrices rfl (by decide)) (by rfl)) (by decide) (by decide) (by rfl) (by rfl)) (@Ay _ _ _ _ _ _ _ _ _ (BK K) rfl T.b_isinstance boot_isinstance (@AN _ _ _ _ _ (@cx _ 0 _ _ (by rfl)) (@AO _ _ (.ref (ds.getD 6 0)) _ _ rfl C.c_NoWay rfl (by decide)) (by rfl)) (by decide) (by decide) (by rfl) (by rfl)) (@Ay _ _ _ _ _ _ _ _ _ (BK K) rfl T.b_isinstance boot_isinstance (@AN _ _ _ _ _ (@cx _ 0 _ _ (by rfl)) (@AO _ _ (.ref (ds.getD 7 0)) _ _ rfl C.c_NoSet rfl (by decide)) (by rfl)) (by decide) (by decide) (by rfl) (by rfl)) (by rfl)))) (by rfl) (Br (by rfl))) (@Ah _ _ _ _ _ (@AG _ _ (1) _ _ _ _ za3.nd rfl (AC (by rfl)) (@AA _ _ _ _ _ _ _ _ (@EX _) (@cx _ 1 _ _ (by rfl)) (@Bo _ _ _ _ (@GZ _ _ _ _ _ _ _ (@Ay _ _ _ _ _ _ _ _ _ (BK K) rfl T.b_isinstance boot_isinstance (@AN _ _ _ _ _ (@cx _ 0 _ _ (by rfl)) (@AO _ _ (.ref (ds.getD 8 0)) _ _ rfl C.c_NoTanks rfl (by decide)) (by rfl)) (by decide) (by decide) (by rfl) (by rfl)) (@Ay _ _ _ _ _ _ _ _ _ (BK K) rfl T.b_isinstance boot_isinstance (@AN _ _ _ _ _ (@cx _ 0 _ _ (by rfl)) (@AO _ _ (.ref (ds.getD 9 0)) _ _ rfl C.c_NoPump rfl (by decide)) (by rfl)) (by decide) (by decide) (by rfl) (by rfl)) (@Ay _ _ _ _ _ _ _ _ _ (BK K) rfl T.b_isinstance boot_isinstance (@AN _ _ _ _ _ (@cx _ 0 _ _ (by rfl)) (@AO _ _ (.ref (ds.getD 10 0)) _ _ rfl C.c_NoFeeding rfl (by decide)) (by rfl)) (by decide) (by decide) (by rfl) (by rfl)) (by rfl)))) (by rfl) (Br (by rfl))) (@Ah _ _ _ _ _ (@AG _ _ (1) _ _ _ _ za3.nd rfl (AC (by rfl)) (@AA _ _ _ _ _ _ _ _ (@EX _) (@cx _ 1 _ _ (by rfl)) (@Bo _ _ _ _ (@GZ _ _ _ _ _ _ _ (@Ay _ _ _ _ _ _ _ _ _ (BK K) rfl T.b_isinstance boot_isinstance (@AN _ _ _ _ _ (@cx _ 0 _ _ (by rfl)) (@AO _ _ (.ref (ds.getD 11 0)) _ _ rfl C.c_NoReadings rfl (by decide)) (by rfl)) (by decide) (by decide) (by rfl) (by rfl)) (@Ay _ _ _ _ _ _ _ _ _ (BK K) rfl T.b_isinstance boot_isinstance (@AN _ _ _ _ _ (@cx _ 0 _ _ (by rfl)) (@AO _ _ (.ref (ds.getD 12 0)) _ _ rfl C.c_NoStart rfl (by decide)) (by rfl)) (by decide) (by decide) (by rfl) (by rfl)) (@Ay _ _ _ _ _ _ _ _ _ (BK K) rfl T.b_isinstance boot_isinstance (@AN _ _ _ _ _ (@cx _ 0 _ _ (by rfl)) (@AO _ _ (.ref (ds.getD 13 0)) _ _ rfl C.c_NoShifts rfl (by decide)) (by rfl)) (by decide) (by decide) (by rfl) (by rfl)) (by rfl)))) (by rfl) (Br (by rfl))) (@Ah _ _ _ _ _ (@AG _ _ (1) _ _ _ _ za3.nd rfl (AC (by rfl)) (@AA _ _ _ _ _ _ _ _ (@EX _) (@cx _ 1 _ _ (by rfl)) (@Bo _ _ _ _ (@Dh _ _ _ _ _ _ _ _ _ (@Ay _ _ _ _ _ _ _ _ _ (BK K) rfl T.b_isinstance boot_isinstance (@AN _ _ _ _ _ (@cx _ 0 _ _ (by rfl)) (@AO _ _ (.ref (ds.getD 14 0)) _ _ rfl C.c_NoBook rfl (by decide)) (by rfl)) (by decide) (by decide) (by rfl) (by rfl)) (@Ay _ _ _ _ _ _ _ _ _ (BK K) rfl T.b_isinstance boot_isinstance (@AN _ _ _ _ _ (@cx _ 0 _ _ (by rfl)) (@AO _ _ (.ref (ds.getD 15 0)) _ _ rfl C.c_NoAmount rfl (by decide)) (by rfl)) (by decide) (by decide) (by rfl) (by rfl)) (@Ay _ _ _ _ _ _ _ _ _ (BK K) rfl T.b_isinstance boot_isinstance (@AN _ _ _ _ _ (@cx _ 0 _ _ (by rfl)) (@AO _ _ (.ref (ds.getD 16 0)) _ _ rfl C.c_NoDeed rfl (by decide)) (by rfl)) (by decide) (by decide) (by rfl) (by rfl)) (@Ay _ _ _ _ _ _ _ _ _ (BK K) rfl T.b_isinstance boot_isinstance (@AN _ _ _ _ _ (@cx _ 0 _ _ (by rfl)) (@AO _ _ (.ref (ds.getD 17 0)) _ _ rfl C.c_NoLine rfl (by decide)) (by rfl)) (by decide) (by decide) (by rfl) (by rfl)) (by rfl)))) (by rfl) (Br (by rfl))) (@Ah _ _ _ _ _ (@Ba _ _ _ _ (@Cn _ _ _ _ _ _ _ _ _ _ _ _ PySem.F.plainAttrs_list PySem.F.slot_list_append PySem.F.type_list_append CY (@cx _ 1 _ _ (by rfl)) (@AW _ _ _ (@Ay _ _ _ _ _ _ _ _ _ (BK K) rfl T.b_isinstance boot_isinstance (@AN _ _ _ _ _ (@cx _ 0 _ _ (by rfl)) (@AO _ _ (.ref (ds.getD 18 0)) _ _ rfl C.c_NoText rfl (by decide)) (by rfl)) (by decide) (by decide) (by rfl) (by rfl)) (by rfl)) (by rfl) (by rfl) (by rfl) (by rfl) (by rfl)) (by rfl)) (@Ah _ _ _ _ _ (@AT _ _ _ _ _ _ _ _ (@PW.pt _ _ _ (@E3 _ _ _ _ _ _ _ (@AU _ _ _ _ _ _ _ _ (@Em _) (@Ch K _ _ _ _ _ _ _ _ _ _ _ _ PySem.F.plainAttrs_list PySem.F.slot_list_count PySem.F.type_list_count Rf (@cx _ 1 _ _ (by rfl)) (@AW _ _ _ (@BQ _ _ _ _) (by rfl)) (by rfl) (by rfl) (by rfl) (by rfl) (by rfl) (by rfl)) (@Af _ _ _ _) (AS _)) (@EO _ _ _ _ (@BD _ _ _ _ (@Bw _ _ _ (@Ay _ _ _ _ _ _ _ _ _ (BK K) rfl T.b_isinstance boot_isinstance (@AN _ _ _ _ _ (@cx _ 0 _ _ (by rfl)) (@Ek _ _ (.ty "ValueError") _ _ rfl T.b_ValueError PyProof.Rows.Boot.«ValueError» rfl (by decide) (by decide)) (by rfl)) (by decide) (by decide) (by rfl) (by rfl)) (by intro _;rfl)))))) (@Aj _ _ _ (@Au _ _ _ _ (@BG _ _ _ _ _ (@AW _ _ _ (@Ao _ _ _ _) (by rfl))))) (@A1 _)) (@Ah _ _ _ _ _ (@AG _ _ (2) _ _ _ _ za3.nd rfl (AC (by rfl)) (@Bo _ _ _ _ (@AE _ _ _ _ _ (@Ao _ _ _ _) (@AE _ _ _ _ _ (@Ao _ _ _ _) (@AE _ _ _ _ _ (@Ao _ _ _ _) (@AE _ _ _ _ _ (@Ao _ _ _ _) (@AE _ _ _ _ _ (@Ao _ _ _ _) (@AE _ _ _ _ _ (@Ao _ _ _ _) (@AE _ _ _ _ _ (@Ao _ _ _ _) (@Dh _ _ _ _ _ _ _ _ _ (@Ao _ _ _ _) (@Ao _ _ _ _) (@Ao _ _ _ _) (@Ao _ _ _ _) (by rfl)) (by rfl)) (by rfl)) (by rfl)) (by rfl)) (by rfl)) (by rfl)) (by rfl))) (by rfl) (Br (by rfl))) (@Ah _ _ _ _ _ (@AG _ _ (2) _ _ _ _ za3.nd rfl (AC (by rfl)) (@AA _ _ _ _ _ _ _ _ (@EX _) (@cx _ 2 _ _ (by rfl)) (@Bo _ _ _ _ (@AE _ _ _ _ _ (@Ao _ _ _ _) (@AE _ _ _ _ _ (@Ao _ _ _ _) (@AE _ _ _ _ _ (@Ao _ _ _ _) (@AE _ _ _ _ _ (@Ao _ _ _ _) (@Dh _ _ _ _ _ _ _ _ _ (@Ao _ _ _ _) (@Ao _ _ _ _) (@Ao _ _ _ _) (@Ao _ _ _ _) (by rfl)) (by rfl)) (by rfl)) (by rfl)) (by rfl)))) (by rfl) (Br (by rfl))) (@Ah _ _ _ _ _ (@AG _ _ (3) _ _ _ _ za3.nd rfl (AC (by rfl)) (@AK _ _ _ _ _ _ _ (@Bp _ K (by rfl)) (@cx _ 2 _ _ (by rfl)) (@Ch K _ _ _ _ _ _ _ _ _ _ _ _ PySem.F.plainAttrs_list PySem.F.slot_list_index PySem.F.type_list_index Rh (@cx _ 1 _ _ (by rfl)) (@AW _ _ _ (@BQ _ _ _ _) (by rfl)) (by rfl) (by rfl) (by rfl) (by rfl) (by rfl) (by rfl)) (λ_ _=>rfl)) (by rfl) (Br (by rfl))) (@Aj _ _ _ (@Au _ _ _ _ (@Dg _ _ _ _ _ _ _ _ (@AU _ _ _ _ _ _ _ _ (@Cy _) (@cx _ 3 _ _ (by rfl)) (@Ao _ _ _ _) (AS _)) (@BG _ _ _ _ _ (@AN _ _ _ _ _ (@cx _ 3 _ _ (by rfl)) (RF (cv 0) rfl) (by rfl))) (@BG _ _ _ _ _ (@AW _ _ _ (@cx _ 3 _ _ (by rfl)) (by rfl)))))))))))))))),?_⟩;unfold Fg at h;split at h
 ·rename_i e;obtain⟨C0,dx,ws,he,hw,q⟩:=h;obtain⟨i,word,hi,rfl,kwd,hok,hp,htx⟩:=hw.ex;obtain⟨O,_,kj,kV⟩:=L6 hok;have kk:∀j,j<19->∀u,RelV (.ref (ds.getD j 0)) u->PySem.W.kitOne K (.ref (ds.getD i 0)) u=some (j==i):=λj hj u r=>by
   cases(show u=Value.ref _ from r);exact kj j hj
  have kv:∀u,RelV (.ty "ValueError") u->PySem.W.kitOne K (.ref (ds.getD i 0)) u=some true:=λu r=>by
   cases(show u=Value.type _ from r);exact kV
  refine⟨e,_,_,_,_,rfl,he,O,kk 0 (by decide),⟨e,_,_,_,_,rfl,he,O,kk 1 (by decide),⟨e,_,_,_,_,rfl,he,O,kk 2 (by decide),⟨e,_,_,_,_,rfl,he,O,kk 3 (by decide),?_⟩⟩⟩⟩;intro p0 n0;have S0:Ab H (upd H p0 (.lst [.bl (0==i),.bl (1==i),.bl (2==i),.bl (3==i)])):=Ab.new n0;have m0:upd H p0 (.lst [.bl (0==i),.bl (1==i),.bl (2==i),.bl (3==i)]) p0=some (.lst ([0==i,1==i,2==i,3==i].map V.bl)):=Ae
  revert S0 m0
  generalize upd H p0 (.lst [.bl (0==i),.bl (1==i),.bl (2==i),.bl (3==i)])=G0;intro S0 m0;have e0:=S0 e _ he;refine⟨e,_,_,_,_,rfl,e0,O,kk 4 (by decide),⟨e,_,_,_,_,rfl,e0,O,kk 5 (by decide),⟨e,_,_,_,_,rfl,e0,O,kk 6 (by decide),⟨e,_,_,_,_,rfl,e0,O,kk 7 (by decide),?_⟩⟩⟩⟩;intro q1 k1;have ne1:p0≠q1:=λz=>by rw [z,k1] at m0;cases m0
  refine⟨p0,q1,_,_,rfl,rfl,(Aq ne1).trans m0,Ae,few rfl,λp1 n1=>?_⟩;have T1:Ab G0 (upd G0 q1 (.lst [.bl (4==i),.bl (5==i),.bl (6==i),.bl (7==i)])):=Ab.new k1;have S1:Ab H (upd (upd G0 q1 (.lst [.bl (4==i),.bl (5==i),.bl (6==i),.bl (7==i)])) p1 (.lst (([0==i,1==i,2==i,3==i].map V.bl)++[.bl (4==i),.bl (5==i),.bl (6==i),.bl (7==i)]))):=(S0.trans T1).trans (Ab.new n1);have m1:upd (upd G0 q1 (.lst [.bl (4==i),.bl (5==i),.bl (6==i),.bl (7==i)])) p1 (.lst (([0==i,1==i,2==i,3==i].map V.bl)++[.bl (4==i),.bl (5==i),.bl (6==i),.bl (7==i)])) p1=some (.lst ([0==i,1==i,2==i,3==i,4==i,5==i,6==i,7==i].map V.bl)):=Ae
  revert S1 m1
  generalize upd (upd G0 q1 (.lst [.bl (4==i),.bl (5==i),.bl (6==i),.bl (7==i)])) p1 (.lst (([0==i,1==i,2==i,3==i].map V.bl)++[.bl (4==i),.bl (5==i),.bl (6==i),.bl (7==i)]))=G1;intro S1 m1;have e1:=S1 e _ he;refine⟨e,_,_,_,_,rfl,e1,O,kk 8 (by decide),⟨e,_,_,_,_,rfl,e1,O,kk 9 (by decide),⟨e,_,_,_,_,rfl,e1,O,kk 10 (by decide),?_⟩⟩⟩;intro q2 k2;have ne2:p1≠q2:=λz=>by rw [z,k2] at m1;cases m1
  refine⟨p1,q2,_,_,rfl,rfl,(Aq ne2).trans m1,Ae,few rfl,λp2 n2=>?_⟩;have T2:Ab G1 (upd G1 q2 (.lst [.bl (8==i),.bl (9==i),.bl (10==i)])):=Ab.new k2;have S2:Ab H (upd (upd G1 q2 (.lst [.bl (8==i),.bl (9==i),.bl (10==i)])) p2 (.lst (([0==i,1==i,2==i,3==i,4==i,5==i,6==i,7==i].map V.bl)++[.bl (8==i),.bl (9==i),.bl (10==i)]))):=(S1.trans T2).trans (Ab.new n2);have m2:upd (upd G1 q2 (.lst [.bl (8==i),.bl (9==i),.bl (10==i)])) p2 (.lst (([0==i,1==i,2==i,3==i,4==i,5==i,6==i,7==i].map V.bl)++[.bl (8==i),.bl (9==i),.bl (10==i)])) p2=some (.lst ([0==i,1==i,2==i,3==i,4==i,5==i,6==i,7==i,8==i,9==i,10==i].map V.bl)):=Ae
  revert S2 m2
  generalize upd (upd G1 q2 (.lst [.bl (8==i),.bl (9==i),.bl (10==i)])) p2 (.lst (([0==i,1==i,2==i,3==i,4==i,5==i,6==i,7==i].map V.bl)++[.bl (8==i),.bl (9==i),.bl (10==i)]))=G2;intro S2 m2;have e2:=S2 e _ he;refine⟨e,_,_,_,_,rfl,e2,O,kk 11 (by decide),⟨e,_,_,_,_,rfl,e2,O,kk 12 (by decide),⟨e,_,_,_,_,rfl,e2,O,kk 13 (by decide),?_⟩⟩⟩;intro q3 k3;have ne3:p2≠q3:=λz=>by rw [z,k3] at m2;cases m2
  refine⟨p2,q3,_,_,rfl,rfl,(Aq ne3).trans m2,Ae,few rfl,λp3 n3=>?_⟩;have T3:Ab G2 (upd G2 q3 (.lst [.bl (11==i),.bl (12==i),.bl (13==i)])):=Ab.new k3;have S3:Ab H (upd (upd G2 q3 (.lst [.bl (11==i),.bl (12==i),.bl (13==i)])) p3 (.lst (([0==i,1==i,2==i,3==i,4==i,5==i,6==i,7==i,8==i,9==i,10==i].map V.bl)++[.bl (11==i),.bl (12==i),.bl (13==i)]))):=(S2.trans T3).trans (Ab.new n3);have m3:upd (upd G2 q3 (.lst [.bl (11==i),.bl (12==i),.bl (13==i)])) p3 (.lst (([0==i,1==i,2==i,3==i,4==i,5==i,6==i,7==i,8==i,9==i,10==i].map V.bl)++[.bl (11==i),.bl (12==i),.bl (13==i)])) p3=some (.lst ([0==i,1==i,2==i,3==i,4==i,5==i,6==i,7==i,8==i,9==i,10==i,11==i,12==i,13==i].map V.bl)):=Ae
  revert S3 m3
  generalize upd (upd G2 q3 (.lst [.bl (11==i),.bl (12==i),.bl (13==i)])) p3 (.lst (([0==i,1==i,2==i,3==i,4==i,5==i,6==i,7==i,8==i,9==i,10==i].map V.bl)++[.bl (11==i),.bl (12==i),.bl (13==i)]))=G3;intro S3 m3;have e3:=S3 e _ he;refine⟨e,_,_,_,_,rfl,e3,O,kk 14 (by decide),⟨e,_,_,_,_,rfl,e3,O,kk 15 (by decide),⟨e,_,_,_,_,rfl,e3,O,kk 16 (by decide),⟨e,_,_,_,_,rfl,e3,O,kk 17 (by decide),?_⟩⟩⟩⟩;intro q4 k4;have ne4:p3≠q4:=λz=>by rw [z,k4] at m3;cases m3
  refine⟨p3,q4,_,_,rfl,rfl,(Aq ne4).trans m3,Ae,few rfl,λp4 n4=>?_⟩;have T4:Ab G3 (upd G3 q4 (.lst [.bl (14==i),.bl (15==i),.bl (16==i),.bl (17==i)])):=Ab.new k4;have S4:Ab H (upd (upd G3 q4 (.lst [.bl (14==i),.bl (15==i),.bl (16==i),.bl (17==i)])) p4 (.lst (([0==i,1==i,2==i,3==i,4==i,5==i,6==i,7==i,8==i,9==i,10==i,11==i,12==i,13==i].map V.bl)++[.bl (14==i),.bl (15==i),.bl (16==i),.bl (17==i)]))):=(S3.trans T4).trans (Ab.new n4);have m4:upd (upd G3 q4 (.lst [.bl (14==i),.bl (15==i),.bl (16==i),.bl (17==i)])) p4 (.lst (([0==i,1==i,2==i,3==i,4==i,5==i,6==i,7==i,8==i,9==i,10==i,11==i,12==i,13==i].map V.bl)++[.bl (14==i),.bl (15==i),.bl (16==i),.bl (17==i)])) p4=some (.lst ([0==i,1==i,2==i,3==i,4==i,5==i,6==i,7==i,8==i,9==i,10==i,11==i,12==i,13==i,14==i,15==i,16==i,17==i].map V.bl)):=Ae
  revert S4 m4
  generalize upd (upd G3 q4 (.lst [.bl (14==i),.bl (15==i),.bl (16==i),.bl (17==i)])) p4 (.lst (([0==i,1==i,2==i,3==i,4==i,5==i,6==i,7==i,8==i,9==i,10==i,11==i,12==i,13==i].map V.bl)++[.bl (14==i),.bl (15==i),.bl (16==i),.bl (17==i)]))=G4;intro S4 m4;have e4:=S4 e _ he;refine⟨.inl ⟨rfl,_,Ai.of m4⟩,?_⟩;refine⟨e,_,_,_,_,rfl,e4,O,kk 18 (by decide),?_⟩;refine⟨p4,_,_,rfl,rfl,m4,Gz (Nat.le_of_ble_eq_true rfl),?_⟩;have ne5:e≠p4:=λz=>by rw [z,m4] at e4;cases e4
  have m5:upd G4 p4 (.lst ([0==i,1==i,2==i,3==i,4==i,5==i,6==i,7==i,8==i,9==i,10==i,11==i,12==i,13==i,14==i,15==i,16==i,17==i].map V.bl++[.bl (18==i)])) p4=some (.lst ([0==i,1==i,2==i,3==i,4==i,5==i,6==i,7==i,8==i,9==i,10==i,11==i,12==i,13==i,14==i,15==i,16==i,17==i,18==i].map V.bl)):=Ae;have e5:upd G4 p4 (.lst ([0==i,1==i,2==i,3==i,4==i,5==i,6==i,7==i,8==i,9==i,10==i,11==i,12==i,13==i,14==i,15==i,16==i,17==i].map V.bl++[.bl (18==i)])) e=some (D9 e (ds.getD i 0) dx):=(Aq ne5).trans e4;have f4:H p4=none:=(S3.trans T4).free n4;have S5:Ab H (upd G4 p4 (.lst ([0==i,1==i,2==i,3==i,4==i,5==i,6==i,7==i,8==i,9==i,10==i,11==i,12==i,13==i,14==i,15==i,16==i,17==i].map V.bl++[.bl (18==i)]))):=Ab.evOwn S4 f4 (Ev.pen m4)
  revert m5 e5 S5
  generalize upd G4 p4 (.lst ([0==i,1==i,2==i,3==i,4==i,5==i,6==i,7==i,8==i,9==i,10==i,11==i,12==i,13==i,14==i,15==i,16==i,17==i].map V.bl++[.bl (18==i)]))=GA;intro m5 e5 S5;have cnt:([0==i,1==i,2==i,3==i,4==i,5==i,6==i,7==i,8==i,9==i,10==i,11==i,12==i,13==i,14==i,15==i,16==i,17==i,18==i]:List Bool).count true=1:=(by decide:∀i,i<19->([0==i,1==i,2==i,3==i,4==i,5==i,6==i,7==i,8==i,9==i,10==i,11==i,12==i,13==i,14==i,15==i,16==i,17==i,18==i]:List Bool).count true=1) i hi;refine⟨.inl ⟨rfl,_,Ai.of m5⟩,⟨p4,_,rfl,rfl,m5,?_⟩⟩;rw [cnt];refine⟨rfl,⟨λc=>?_,λ_=>?_⟩⟩
  ·exact absurd c (by decide)
  refine⟨e,_,_,_,_,rfl,e5,O,kv,⟨λc=>?_,λ_=>?_⟩⟩
  ·cases c
  intro w0 u0;have Sw:Ab GA (upd GA w0 (.lst ((kindWords.take 11).map V.str))):=Ab.new u0;have mw:upd GA w0 (.lst ((kindWords.take 11).map V.str)) w0=some (.lst ((kindWords.take 11).map V.str)):=Ae
  revert Sw mw
  generalize hg:upd GA w0 (.lst ((kindWords.take 11).map V.str))=G5;intro Sw mw;have hg':(upd GA w0 (.lst [.str "plant",.str "story",.str "firing",.str "hour",.str "boiler",.str "prices",.str "way",.str "set",.str "tanks",.str "pump",.str "feeding"]))=G5:=hg;rw [hg'];intro w1 u1;have nw:w0≠w1:=λz=>by rw [z,u1] at mw;cases mw
  refine⟨w0,w1,_,_,rfl,rfl,(Aq nw).trans mw,Ae,few rfl,λw2 u2=>?_⟩;have S6:Ab G5 (upd (upd G5 w1 (.lst ((kindWords.drop 11).map V.str))) w2 (.lst (kindWords.map V.str))):=(Ab.new u1).trans (Ab.new u2);have m6:upd (upd G5 w1 (.lst ((kindWords.drop 11).map V.str))) w2 (.lst (kindWords.map V.str)) w2=some (.lst (kindWords.map V.str)):=Ae
  revert S6 m6
  generalize hg6:upd (upd G5 w1 (.lst ((kindWords.drop 11).map V.str))) w2 (.lst (kindWords.map V.str))=G6;intro S6 m6;have m7:=S6 p4 _ (Sw p4 _ m5);have hb1:([0==i,1==i,2==i,3==i,4==i,5==i,6==i,7==i,8==i,9==i,10==i,11==i,12==i,13==i,14==i,15==i,16==i,17==i,18==i]:List Bool)[i]? =some true:=(by decide:∀i,i<19->([0==i,1==i,2==i,3==i,4==i,5==i,6==i,7==i,8==i,9==i,10==i,11==i,12==i,13==i,14==i,15==i,16==i,17==i,18==i]:List Bool)[i]? =some true) i hi;have hb2:∀m,m<i->([0==i,1==i,2==i,3==i,4==i,5==i,6==i,7==i,8==i,9==i,10==i,11==i,12==i,13==i,14==i,15==i,16==i,17==i,18==i]:List Bool)[m]? =some false:=λm hm=>(by decide:∀i,i<19->∀m,m<i->([0==i,1==i,2==i,3==i,4==i,5==i,6==i,7==i,8==i,9==i,10==i,11==i,12==i,13==i,14==i,15==i,16==i,17==i,18==i]:List Bool)[m]? =some false) i hi m hm
  have hat:BT (kindWords.map V.str) (i:Int)=some (.str word):=by
   rw [Cb];rw [getElem?_map,kwd]
   rfl
  have hg6':(upd (upd G5 w1 (.lst [.str "readings",.str "start",.str "shifts",.str "book",.str "amount",.str "no deed",.str "line",.str "text"])) w2 (.lst ((kindWords.take 11).map V.str++[.str "readings",.str "start",.str "shifts",.str "book",.str "amount",.str "no deed",.str "line",.str "text"])))=G6:=hg6;rw [hg6'];refine⟨.inl ⟨rfl,_,Ai.of m7⟩,⟨p4,_,i,rfl,rfl,m7,Nat.le_of_ble_eq_true rfl,hb1,hb2,⟨w2,_,_,_,rfl,rfl,Ai.of m6,hat,?_⟩⟩⟩;have e7:=S6 e _ (Sw e _ e5);have SA:=(S5.trans Sw).trans S6;refine⟨rfl,⟨λc=>?_,λc t ht=>?_⟩⟩
  ·have ew:word=Str.ofString "text" :=V.str.inj (of_decide_eq_true c);obtain⟨aD,vD,rfl,hd,na,hD,rfl⟩:=htx ew;exact⟨e,_,_,_,vD,rfl,e7,SA aD _ hD,O,hd,na,rfl,λt ht=>q _ t (SA.trans (Ab.new ht)) Ae⟩
  ·have ew:word≠Str.ofString "text" :=λz=>(of_decide_eq_false c) (by rw [z])
   obtain rfl:=hp ew;exact q _ t (SA.trans (Ab.new ht)) Ae
 ·exact h.elim
theorem T8:At ["_law_call","_law_e"] ["_law_call"] (Ak wb3):=Ax
theorem T9 (F:Df K mg "_law_said" wb3 ["_law_call"]) (C:Tc K mg M ds) (Dw:Fd P w K mg base 1 "_law_kind" ["_law_e"] (Fg (WB K M ds))):Hg P w K mg base 18 "_law_said" ["_law_call"] (EA P w K mg base 17 (WB K M ds)):=
 RI F T8 rfl rfl rfl rfl rfl C.c_MainError C.mB C.mT (λ_ _ _ _ h=>WB.mro h) (λ_ _ _ _ _ h k=>WB.keep h k) Dw (by decide)
def Ga (ds:List Addr):Sp:=λvs H Q E=>match vs with | [u,h]=>∃p S n d,SY.ok S n/\Aa p H S.d u/\Aa p H d h/\(AL d 0 ((S.ex.length:Int)-1)=false->∀H',Ab H H'->E (.ref (ds.getD 3 0)) none H')/\(AL d 0 ((S.ex.length:Int)-1)=true->∀H',Ab H H'->Q .non H') | _=>False
def HX (ds:List Addr):Sp:=λvs H Q E=>match vs with | [v,b]=>∃p P d,PL.ok P/\Aa p H P.d v/\Aa p H d b/\(AL d 0 ((P.bs.length:Int)-1)=false->∀H',Ab H H'->E (.ref (ds.getD 4 0)) none H')/\(AL d 0 ((P.bs.length:Int)-1)=true->∀H',Ab H H'->Q .non H') | _=>False
def HY (ds:List Addr):Sp:=λvs H Q E=>match vs with | [v,u,w]=>∃p P S d,PL.ok P/\SY.ok S P.bs.length/\Aa p H P.d v/\Aa p H S.d u/\Aa p H d w/\(CO (caps P S) d=false->∀H',Ab H H'->E (.ref (ds.getD 2 0)) none H')/\(CO (caps P S) d=true->∀H',Ab H H'->Q .non H') | _=>False
theorem Ua:At ["story","hour"] ["story","hour"] (Ak wao):=Ax
theorem Ub:At ["plant","boiler"] ["plant","boiler"] (Ak wap):=Ax
theorem Uc (F:Df K mg "need_hour" wao ["story","hour"]) (T:Tx mg) (C:Tc K mg M ds) (ya1:Dn P w K mg base):A7 P w K mg base 3 "need_hour" ["story","hour"] (Ga ds):=by
 refine F.fnE Ua (λvs H Q E h=>?_) (λf cdv A outer s H vs Q E hr h=>?_)
 ·unfold Ga at h;split at h;rfl;exact h.elim
 unfold Ga at h;split at h
 ·rename_i u h';obtain⟨p,S,n,d,so,ru,rd,q1,q2⟩:=h;obtain⟨A,B,E,xf,rfl,hA,hB,hE,rf⟩:=Aa.story ru;refine⟨_,(Aj (AT (BD (Bw (An ya1 (hr.mono (by decide)) rfl (AI (cy 1) Af (AA Co (Ay (Bn K) rfl T.b_len PySem.boot_len (Al (AK (Bq K) (cy 0) Af (λ_ _=>rfl)))) Af))))) (Aj (D8 isDef_cx rfl C.n_NoHour C.x_NoHour rfl (Al Ao))) A1)),?_⟩;refine⟨A,_,0,.ref B,rfl,rfl,Ag.of hA,rfl,B,_,rfl,.inr (Ag.of hB),p,d,rd,λb hb=>⟨λc=>⟨few rfl,q1 ?_ _ (Ab.refl _)⟩,λc=>q2 ?_ _ (Ab.refl _)⟩⟩
  ·rw [length_map] at hb;rw [<-hb];simpa using c
  ·rw [length_map] at hb;rw [<-hb];simpa using c
 ·exact h.elim
theorem Ud (F:Df K mg "need_boiler" wap ["plant","boiler"]) (T:Tx mg) (C:Tc K mg M ds) (ya1:Dn P w K mg base):A7 P w K mg base 3 "need_boiler" ["plant","boiler"] (HX ds):=by
 refine F.fnE Ub (λvs H Q E h=>?_) (λf cdv A outer s H vs Q E hr h=>?_)
 ·unfold HX at h;split at h;rfl;exact h.elim
 unfold HX at h;split at h
 ·rename_i v b';obtain⟨p,P,d,ok,r,rd,q1,q2⟩:=h;obtain⟨PA,PB,PE,PM,xb,xe,rfl,pA,pB,rb,pE,re,pM⟩:=Aa.plant r;have lb:=rb.len;rw [length_map] at lb;refine⟨_,(Aj (AT (BD (Bw (An ya1 (hr.mono (by decide)) rfl (AI (cy 1) Af (AA Co (Ay (Bn K) rfl T.b_len PySem.boot_len (Al (AK (Bq K) (cy 0) Af (λ_ _=>rfl)))) Af))))) (Aj (D8 isDef_cx rfl C.n_NoBoiler C.x_NoBoiler rfl (Al Ao))) A1)),?_⟩;refine⟨PA,_,0,.ref PB,rfl,rfl,Ag.of pA,rfl,PB,_,rfl,.inr (Ag.of pB),p,d,rd,λb hb=>⟨λc=>⟨few rfl,q1 ?_ _ (Ab.refl _)⟩,λc=>q2 ?_ _ (Ab.refl _)⟩⟩
  ·rw [lb,<-hb];simpa using c
  ·rw [lb,<-hb];simpa using c
 ·exact h.elim
theorem Ue (F:Df K mg "need_firing" wa3 ["plant","story","firing"]) (T:Tx mg) (C:Tc K mg M ds) (ya8:Fn P w K mg base 10 "is_firing" ["plant","story","thing"] F4):A7 P w K mg base 11 "need_firing" ["plant","story","firing"] (HY ds):=by
 refine F.fnE MC (λvs H Q E h=>?_) (λf cdv A outer s H vs Q E hr h=>?_)
 ·unfold HY at h;split at h;rfl;exact h.elim
 unfold HY at h;split at h
 ·rename_i v u w';obtain⟨p,P,S,d,ok,so,r,ru,rd,q1,q2⟩:=h;refine⟨_,(Aj (AT (BD (Bw (An ya8 (hr.mono (by decide)) rfl (AI (cy 0) (cy 1) (cy 2))))) (Aj (D8 isDef_cx rfl C.n_NoFiring C.x_NoFiring rfl (Al Ao))) A1)),?_⟩;refine⟨p,P,S,d,ok,so,r,ru,rd,λb H' hb s'=>⟨λc=>⟨few rfl,q1 ?_ _ s'⟩,λc=>q2 ?_ _ s'⟩⟩
  ·rw [<-hb];simpa using c
  ·rw [<-hb];simpa using c
 ·exact h.elim
end
end MF
end
section
namespace MF
open L2
variable {xs : List V} {i : Nat} {p : Addr} {H : Hp} {S : SY}
theorem Uf (h:i<=xs.length):Bi xs none (some (i:Int))=xs.take i:=by
 unfold Bi HT.sIx;dsimp only;rw [if_neg (by omega),drop_zero,Nat.sub_zero,Int.toNat_natCast,Nat.min_eq_left h]
theorem MM {xs:List V}{x:V} (h:xs[xs.length-1]? =some x):BT xs (-1)=some x:=by
 have hne:xs≠ []:=λz=>by rw [z] at h;simp at h
 have e:=List.dropLast_concat_getLast hne;have e2:xs.getLast hne=x:=by rw [List.getLast_eq_getElem];exact(List.getElem?_eq_some_iff.mp h).2
 rw [<-e,e2];exact OC _ _
structure Wc (K:Fgx) (CA:Addr):Prop where
 cls:Cls K CA
 nP:NoAttr K CA "plant"
 nS:NoAttr K CA "story"
 nF:NoAttr K CA "firings"
def MN (v u:V) (L:Addr):List (Str×V):=[("plant",v),("story",u),("firings",.ref L)]
def WAt (CA:Addr) (H:Hp) (W L:Addr) (v u:V):Prop:=∃dx,H W=some (.ins CA dx (MN v u L))
abbrev FL:=List (List Int)
structure Wat (CA p:Addr) (H:Hp) (W L:Addr) (P:PL) (S:SY) (v u:V) (xs:List V) (Fs:List FL):Prop where
 ok:P.ok
 so:S.ok P.bs.length
 rv:Aa p H P.d v
 ru:Aa p H S.d u
 at_:WAt CA H W L v u
 lst:H L=some (.lst xs)
 reps:Ad p H (Fs.map FD) xs
 fok:∀F∈Fs,FOk P S F
def BO (F:FL) (i j:Nat) (x:Int):FL:=F.set i ((F.getD i []).set j x)
def CS (P:PL) (S:SY):FL:=(caps P S).map λr=>r.map λ_=>0
def Gb (F:FL) (i:Nat):FL:=F.set i ((F.getD i []).map λ_=>0)
def Ee (P:PL) (S:SY) (i j:Nat):Int:=((caps P S).getD i []).getD j 0
def EI (P:PL) (S:SY) (F:FL) (k:Nat):V:=if k=0 then .non else .int (A6 P S F k)
theorem EJ (F:List (List Int)):B8 (FD F)=true:=Ct (ds:=F.map AX) λd hd=>by
 obtain⟨r,_,rfl⟩:=mem_map.mp hd;exact Fq r
theorem JM (P:PL):B8 P.d=true:=Ct (ds:=[.tuple (P.bs.map bD),.tuple (P.es.map eD),.tuple [.int P.lo,.int P.hi,.int P.st]]) λd hd=>by
 simp only [mem_cons,not_mem_nil,or_false] at hd;rcases hd with rfl | rfl | rfl
 ·exact Ct λd hd=>by obtain⟨b,_,rfl⟩:=mem_map.mp hd;rfl
 ·exact Ct λd hd=>by obtain⟨b,_,rfl⟩:=mem_map.mp hd;rfl
 ·rfl
theorem JN (S:SY):B8 S.d=true:=Ct (ds:=[AX S.ex,.tuple (S.fs.map FT.d)]) λd hd=>by
 simp only [mem_cons,not_mem_nil,or_false] at hd;rcases hd with rfl | rfl
 ·exact Fq _
 ·exact Ct λd hd=>by obtain⟨b,_,rfl⟩:=mem_map.mp hd;rfl
theorem JO {d:PyData}{n:Nat} (h:AL d 0 ((n:Int)-1)=true):∃i:Nat,d= .int i/\i<n:=by
 cases d with
 | int i=>
  unfold AL at h;dsimp only at h;rw [Bool.and_eq_true] at h;have h0:=of_decide_eq_true h.1;have h1:=of_decide_eq_true h.2;exact⟨i.toNat,by rw [Int.toNat_of_nonneg h0],by omega⟩
 | _=>cases h
theorem Ug {d:PyData}{hi:Int} (h:AL d 0 hi=true):∃i:Int,d= .int i/\0<=i/\i<=hi:=by
 cases d with
 | int i=>
  unfold AL at h;dsimp only at h;rw [Bool.and_eq_true] at h;exact⟨i,rfl,of_decide_eq_true h.1,of_decide_eq_true h.2⟩
 | _=>cases h
theorem JP {d:PyData}{x:V} (rx:Aa p H d x):∀ {ds:List PyData}{xs:List V} (k:Nat),Ad p H ds xs->Ad p H (ds.set k d) (xs.set k x)
 | [],xs,k,r=>by unfold Ad at r;subst r;exact .nil
 | e::ds,xs,0,r=>by
  unfold Ad at r;obtain⟨y,t,rfl,ry,rt⟩:=r;exact .cons rx rt
 | e::ds,xs,k+1,r=>by
  unfold Ad at r;obtain⟨y,t,rfl,ry,rt⟩:=r;exact .cons ry (JP rx k rt)
theorem C3 {Fs:List FL}{F:FL} (r:Ad p H (Fs.map FD) xs) (h:Fs[Fs.length-1]? =some F):∃x,xs[xs.length-1]? =some x/\Aa p H (FD F) x:=by
 have l:=r.len;rw [length_map] at l;rw [<-l];exact Ad.get r (by rw [getElem?_map,h];rfl)
theorem HZ {P:PL}{F:FL} (fo:FOk P S F) {i:Nat} (h:i<S.ex.length):F[i]? =some (F.getD i [])/\(F.getD i []).length=P.bs.length:=by
 have hi:i<F.length:=by rw [fo.len];exact h
 have e:F[i]? =some (F.getD i []):=by rw [getD_eq_getElem?_getD,getElem?_eq_getElem hi];rfl
 exact⟨e,fo.row i _ e⟩
theorem MO {P:PL}{F:FL} (fo:FOk P S F) {i:Nat}{r:List Int} (hl:r.length=P.bs.length) (hb:∀(j:Nat) (x c:Int),r[j]? =some x->(Bc P.bs S.fs i)[j]? =some c->0<=x/\x<=c):FOk P S (F.set i r):=by
 refine⟨by rw [length_set];exact fo.len,λk q hk=>?_,λk q j x c hk hx hc=>?_⟩
 ·rw [getElem?_set] at hk;split at hk
  ·split at hk
   ·cases hk;exact hl
   ·cases hk
  ·exact fo.row k q hk
 ·rw [getElem?_set] at hk;split at hk
  ·rename_i e;split at hk
   ·cases hk;rw [<-e] at hc;exact hb j x c hx hc
   ·cases hk
  ·exact fo.bd k q j x c hk hx hc
theorem MP {P:PL}{j:Nat}{c:Int} (hi:i<S.ex.length) (hc:(Bc P.bs S.fs i)[j]? =some c):Ee P S i j=c:=by
 unfold Ee;have e:(caps P S).getD i []=Bc P.bs S.fs i:=by rw [getD_eq_getElem?_getD,BB hi];rfl
 rw [e,getD_eq_getElem?_getD,hc];rfl
theorem MQ {P:PL}{F:FL} (fo:FOk P S F) {i j:Nat}{x:Int} (hi:i<S.ex.length) (h0:0<=x) (h1:x<=Ee P S i j):FOk P S (BO F i j x):=by
 obtain⟨e,l⟩:=HZ fo hi;refine MO fo (by rw [length_set];exact l) λk y c hy hc=>?_
 rw [getElem?_set] at hy;split at hy
 ·rename_i ej;split at hy
  ·cases hy;rw [<-ej] at hc;rw [MP hi hc] at h1;exact⟨h0,h1⟩
  ·cases hy
 ·exact fo.bd i _ k y c e hy hc
theorem MR {P:PL} (ok:P.ok) {i j:Nat}{c:Int} (hi:i<S.ex.length) (hc:(Bc P.bs S.fs i)[j]? =some c):0<=c:=
 ((Cz (S:=S) ok _ (mem_of_getElem? (BB hi))).1 c (mem_of_getElem? hc)).1
theorem Uh {P:PL} (ok:P.ok) {F:FL} (fo:FOk P S F) {i:Nat} (hi:i<S.ex.length):FOk P S (Gb F i):=by
 obtain⟨e,l⟩:=HZ fo hi;refine MO fo (by rw [length_map];exact l) λk y c hy hc=>?_
 rw [getElem?_map] at hy;cases z:(F.getD i [])[k]? with
 | none=>rw [z] at hy;cases hy
 | some q=>rw [z] at hy;cases hy;exact⟨Int.le_refl _,MR ok hi hc⟩
theorem Ui {P:PL} (ok:P.ok):FOk P S (CS P S):=by
 have fo:=FOk.caps (S:=S) ok;refine⟨by unfold CS;rw [length_map];exact fo.len,λi r hr=>?_,λi r j x c hr hx hc=>?_⟩
 ·unfold CS at hr;rw [getElem?_map] at hr;cases z:(caps P S)[i]? with
  | none=>rw [z] at hr;cases hr
  | some q=>rw [z] at hr;cases hr;rw [length_map];exact fo.row i q z
 ·unfold CS at hr;rw [getElem?_map] at hr;cases z:(caps P S)[i]? with
  | none=>rw [z] at hr;cases hr
  | some q=>
   rw [z] at hr;cases hr;have hi:i<S.ex.length:=by
    have:=(List.getElem?_eq_some_iff.mp z).1;rw [BI] at this;exact this
   rw [getElem?_map] at hx;cases y:q[j]? with
   | none=>rw [y] at hx;cases hx
   | some b=>rw [y] at hx;cases hx;exact⟨Int.le_refl _,MR ok hi hc⟩
theorem MS {F:FL}{r:List Int}:(F.set i r).map AX=(F.map AX).set i (AX r):=map_set
theorem Uj {P:PL}{F:FL}{k:Nat} (h:k≠0):EI P S F k= .int (A6 P S F k):=if_neg h
theorem WAt.ev {CA L':Addr}{H':Hp}{W L:Addr}{v u:V} (h:WAt CA H W L v u) (e:Ev L' H H'):WAt CA H' W L v u:=by
 obtain⟨dx,h⟩:=h;rcases e _ _ h with⟨_,ys,z⟩ | z
 ·cases z
 ·exact⟨dx,z⟩
def Do (CA:Addr):Sp:=λvs H Q _=>match vs with | [.ref W]=>∃L v u xs x,WAt CA H W L v u/\H L=some (.lst xs)/\xs[xs.length-1]? =some x/\Q x H | _=>False
def Gc (CA:Addr):Sp:=λvs H Q _=>match vs with
 | [.ref W,.int n,y]=>∃L v u xs A as,∃k:Nat,n=(k:Int)/\WAt CA H W L v u/\H L=some (.lst xs)/\xs.length<=100/\xs[xs.length-1]? =some (.ref A)/\H A=some (.tup as)/\k<as.length/\as.length<=100/\
  ∀B H1,Ab H H1->H1 B=some (.tup (as.set k y))->Q .non (upd H1 L (.lst (xs++[.ref B])))
 | _=>False
def sp_init (CA:Addr):Sp:=λvs H Q _=>match vs with
 | [.ref W,v,u]=>∃p P S dx,PL.ok P/\SY.ok S P.bs.length/\Aa p H P.d v/\Aa p H S.d u/\H W=some (.ins CA dx [])/\
  ∀L B H',(∀b o,H b=some o->b≠W->H' b=some o)->WAt CA H' W L v u->H L=none->H' L=some (.lst [.ref B])->Aa p H' (FD (CS P S)) (.ref B)->Q .non H'
 | _=>False
def Ia (ds:List Addr) (CA:Addr):Sp:=λvs H Q E=>match vs with
 | [.ref W]=>∃L v u xs,WAt CA H W L v u/\H L=some (.lst xs)/\1<=xs.length/\xs.length<=100/\(xs.length=1->E (.ref (ds.getD 16 0)) none H)/\(1<xs.length->Q .non (upd H L (.lst xs.dropLast)))
 | _=>False
def Ib (ds:List Addr) (CA:Addr):Sp:=λvs H Q E=>match vs with
 | [.ref W,w]=>∃p L P S v u xs Fs d,Wat CA p H W L P S v u xs Fs/\xs.length<=100/\Aa p H d w/\(CO (caps P S) d=false->∀H',Ab H H'->E (.ref (ds.getD 2 0)) none H')/\(CO (caps P S) d=true->∀H',Ab H H'->Q .non (upd H' L (.lst (xs++[w]))))
 | _=>False
def Id (ds:List Addr) (CA:Addr):Sp:=λvs H Q E=>match vs with
 | [.ref W,h]=>∃p L P S v u xs Fs F d,Wat CA p H W L P S v u xs Fs/\xs.length<=100/\Fs[Fs.length-1]? =some F/\Aa p H d h/\(AL d 0 ((S.ex.length:Int)-1)=false->∀H',Ab H H'->E (.ref (ds.getD 3 0)) none H')/\
  ∀i:Nat,d= .int i->i<S.ex.length->∀B H1,Ab H H1->Aa p H1 (FD (Gb F i)) (.ref B)->Q .non (upd H1 L (.lst (xs++[.ref B])))
 | _=>False
def Ie (ds:List Addr) (CA:Addr):Sp:=λvs H Q E=>match vs with
 | [.ref W,h,b,a]=>∃p L P S v u xs Fs F dh db da,Wat CA p H W L P S v u xs Fs/\xs.length<=100/\Fs[Fs.length-1]? =some F/\Aa p H dh h/\Aa p H db b/\Aa p H da a/\
  (AL dh 0 ((S.ex.length:Int)-1)=false->∀H',Ab H H'->E (.ref (ds.getD 3 0)) none H')/\
  (AL dh 0 ((S.ex.length:Int)-1)=true->AL db 0 ((P.bs.length:Int)-1)=false->∀H',Ab H H'->E (.ref (ds.getD 4 0)) none H')/\
  ∀i j:Nat,dh= .int i->db= .int j->i<S.ex.length->j<P.bs.length->
   (AL da 0 (Ee P S i j)=false->∀H',Ab H H'->E (.ref (ds.getD 15 0)) none H')/\
   (∀x,da= .int x->0<=x->x<=Ee P S i j->∀B k s H',D3 P S (BO F i j x) k s->Ev L H H'->H' L=some (.lst (xs++[.ref B]))->Aa p H' (FD (BO F i j x)) (.ref B)->Q (EI P S (BO F i j x) k) H')
 | _=>False
def Ge:Sp:=λvs H Q _=>match vs with | [.ref A,.int n,y]=>∃xs,∃k:Nat,n=(k:Int)/\k<xs.length/\xs.length<=100/\H A=some (.tup xs)/\∀B H',Ab H H'->H' B=some (.tup (xs.set k y))->Q (.ref B) H' | _=>False
section
variable {P : Program} {w : World} {K : Fgx} {mg : Str -> Option Value} {base : Heap} {M : Addr} {ds : List Addr} {CA : Addr}
theorem Uk:At ["row","at","part"] ["row","at","part"] (Ak wa7):=Ax
theorem Ul (F:Df K mg "replaced" wa7 ["row","at","part"]) (T:Tx mg)  :Fn P w K mg base 1 "replaced" ["row","at","part"] Ge:=by
 refine F.fn Uk (λvs H Q E h=>?_) (λf cdv A outer s H vs Q E hr h=>?_)
 ·unfold Ge at h;split at h;rfl;exact h.elim
 refine⟨_,(Aj (Au (AA Lm (AA Lm (DT wa2 (cy 0) FF (CW (cy 1))) (BG (Al (cy 2)))) (DT wa2 (cy 0) (CW (AA Bm (cy 1) Af)) FF)))),?_⟩;unfold Ge at h;split at h
 ·rename_i A n y;obtain⟨xs,k,rfl,hk,l100,hA,q⟩:=h;refine⟨(k:Int),rfl,A,xs,rfl,hA,λu1 H1 s1 k1 t ht=>?_⟩;have n1:=Ab.new (o:= .tup [y]) ht;rw [Uf (by omega)] at k1;refine⟨u1,t,_,_,rfl,rfl,n1 _ _ k1,Ae,(by rw [length_take,length_singleton];omega),λu2 H2 s2 k2=>?_⟩;refine⟨(k:Int)+1,rfl,A,xs,rfl,(s1.trans (n1.trans s2)) _ _ hA,λu3 H3 s3 k3=>?_⟩;refine⟨u2,u3,_,_,rfl,rfl,s3 _ _ k2,k3,?_,λu4 H4 s4 k4=>?_⟩
  ·have:=Gx xs (some ((k:Int)+1)) none;rw [length_append,length_take,length_singleton];omega
  ·refine q u4 H4 (s1.trans (n1.trans (s2.trans (s3.trans s4)))) ?_;rw [k4]
   congr 2
   have e:Bi xs (some ((k:Int)+1)) none=xs.drop (k+1):=by
    unfold Bi;rw [show((k:Int)+1)=((k+1:Nat):Int) by omega,HT.sIx_nat,Nat.min_eq_left (by omega)];show(xs.drop (k+1)).take (xs.length-(k+1))=_;rw [take_of_length_le (by rw [length_drop];exact Nat.le_refl _)]
   rw [e,List.set_eq_take_append_cons_drop,if_pos hk,append_assoc];rfl
 ·exact h.elim
theorem Um:At ["self"] ["self"] (Ak s_Watch_kept_firing):=Ax
theorem Uo (F:Dm K CA "kept_firing" "Watch.kept_firing" s_Watch_kept_firing ["self"]) (T:Tx mg) (WK:Wc K CA)  :Mt CX0 P w K mg base 1 CA "kept_firing" ["self"] (Do CA):=by
 have WC:=WK.cls;refine F.fn Um (λvs H Q E h=>?_) (λf cdv A outer s H vs Q E hr h=>?_)
 ·unfold Do at h;split at h;rfl;exact h.elim
 unfold Do at h;split at h
 ·rename_i W;refine⟨_,(Aj (Au (AK (Bp K) (Bh (cy 0) rfl) Fu (λ_ _=>rfl)))),?_⟩;obtain⟨L,v,u,xs,x,⟨dx,hW⟩,hL,hx,q⟩:=h;exact⟨W,CA,dx,_,.ref L,rfl,hW,WC,WK.nF,rfl,L,xs,-1,x,rfl,rfl,Ai.of hL,MM hx,q⟩
 ·exact h.elim
theorem Up:At ["self","hour","row"] ["self","hour","row"] (Ak s_Watch_put_row):=Ax
theorem Uq (F:Dm K CA "put_row" "Watch.put_row" s_Watch_put_row ["self","hour","row"]) (T:Tx mg) (WK:Wc K CA) (ya3:Mt CX0 P w K mg base 1 CA "kept_firing" ["self"] (Do CA)) (yac:Fn P w K mg base 1 "replaced" ["row","at","part"] Ge):Mt CX0 P w K mg base 2 CA "put_row" ["self","hour","row"] (Gc CA):=by
 have WC:=WK.cls;refine F.fn Up (λvs H Q E h=>?_) (λf cdv A outer s H vs Q E hr h=>?_)
 ·unfold Gc at h;split at h;rfl;exact h.elim
 unfold Gc at h;split at h
 ·rename_i W n y;refine⟨_,(Aj (Ba (Cn PySem.F.plainAttrs_list PySem.F.slot_list_append PySem.F.type_list_append CY (Bh (cy 0) rfl) (Al (An yac (hr.mono (by decide)) rfl (AI (DM Ce WC ya3 (hr.mono (by decide)) (cy 0)) (cy 1) (cy 2))))))),?_⟩;obtain⟨L,v,u,xs,A',as,k,rfl,⟨dx,hW⟩,hL,h100,hx,hA,hk,ha,q⟩:=h;refine⟨W,CA,dx,_,.ref L,rfl,hW,WC,WK.nF,rfl,.inl ⟨rfl,_,Ai.of hL⟩,W,dx,_,rfl,hW,rfl,L,v,u,xs,_,⟨dx,hW⟩,hL,hx,?_⟩;refine⟨as,k,rfl,hk,ha,hA,λB H' s' hB=>?_⟩;exact⟨L,xs,.ref B,rfl,rfl,s' _ _ hL,Gz (by omega),q B H' s' hB⟩
 ·exact h.elim
theorem zav:At ["self","plant","story","nothing"] ["self","plant","story"] (Ak s_Watch___init__):=Ax
theorem Ur (F:Di K mg "Watch" CA "Watch.__init__" s_Watch___init__ ["self","plant","story"]) (T:Tx mg) (WK:Wc K CA) (ya4:Fp P w K mg base):Ms P w K mg base 10 "Watch" CA ["self","plant","story"] (sp_init CA):=by
 have WC:=WK.cls;refine F.fn zav (λvs H Q E h=>?_) (λf cdv A outer s H vs Q E hr h=>?_)
 ·unfold sp_init at h;split at h;rfl;exact h.elim
 unfold sp_init at h;split at h
 ·rename_i W v u;obtain⟨p,P,S,dx,ok,so,rv,ru,hW,q⟩:=h;refine⟨_,(Ah (AG (i:=3) zav.nd rfl (AC (by rfl)) (Be (BV K) rfl T.b_tuple BN (Al (A4 ["row"] [none] rfl (BH K (An ya4 (hr.mono (by decide)) rfl (Av (cy 1) (cy 2)))) (AH.of rfl) (λ_ _ _ _=>(Am 0 (AF (by rfl)))) (λ_ _ _ _=>A3) (λ_ _ _ _=>(Be (BV K) rfl T.b_tuple BN (Al (A4 ["cap"] [none] rfl (BH K (cy 0)) (AH.of rfl) (λ_ _ _ _=>(Am 0 (AF (by rfl)))) (λ_ _ _ _=>A3) (λ_ _ _ _=>Af))))))))) (Ah (Gu (cy 0) (cy 1) rfl) (Ah (Gu (cy 0) (cy 2) rfl) (Aj (Gu (cy 0) (Bo (Al (cy 3))) rfl))))),?_⟩;refine⟨p,P,S,ok,so,rv,ru,λcv H1 s1 rc=>?_⟩;obtain⟨CA',cx,rfl,hC,rcx⟩:=Aa.firing (F:=caps P S) rc;have x8:=so.x8;have b4:=ok.b4;have lc:=rcx.len;rw [length_map,BI] at lc;refine⟨CA',rfl,⟨_,Ag.of hC⟩,BF (xs:=cx) (λj ys H'=>Ab H1 H'/\Ad p H' (((CS P S).take j).map AX) ys) (by omega) ⟨Ab.refl _,.nil⟩ (λj ys H' h=>by have:=h.2.len;rw [length_map,length_take] at this;omega) (λj ys H' _ h=>Ag.of (h.1 _ _ hC)) (λj x ys H' hx h=>?_) (λys H' h=>?_)⟩
  ·obtain⟨r,hr,rr⟩:=Ad.mapGot rcx hx;obtain⟨RA,rfl,hRA⟩:=Aa.ofRow rr;have lr:=(Cz (S:=S) ok r (mem_of_getElem? hr)).2;refine⟨trivial,λ_=>?_,λz=>by cases z⟩;refine⟨RA,rfl,⟨_,Ag.of (h.1 _ _ hRA)⟩,BF (xs:=r.map V.int) (λk zs H2=>Ab H' H2/\zs=(r.take k).map λ_=>V.int 0) (by rw [length_map];omega) ⟨Ab.refl _,rfl⟩ (λk zs H2 h2=>by rw [h2.2,length_map,length_take];omega) (λk zs H2 _ h2=>Ag.of ((h.1.trans h2.1) _ _ hRA)) (λk x zs H2 hx h2=>?_) (λzs H2 h2=>?_)⟩
   ·refine⟨trivial,λ_=>?_,λz=>by cases z⟩;obtain⟨z,hz⟩:∃z,r[k]? =some z:=by
     rw [getElem?_map] at hx;cases z:r[k]? with
     | none=>rw [z] at hx;cases hx
     | some q=>exact⟨q,rfl⟩
    exact⟨h2.1,by rw [h2.2,AY hz,map_append];rfl⟩
   ·intro m hm;refine⟨m,_,rfl,.inl ⟨Ai.of Ae,λt ht=>?_⟩⟩;have s3:=h2.1.trans ((Ab.new (o:= .lst zs) hm).trans (Ab.new (o:= .tup zs) ht));have ht':upd (upd H2 m (.lst zs)) t (.tup zs) t=some (.tup ((r.map λ_=>(0:Int)).map V.int)):=by
     rw [Ae,h2.2,length_map,take_of_length_le (Nat.le_refl _),map_map];rfl
    refine⟨h.1.trans s3,?_⟩;have ez:(CS P S)[j]? =some (r.map λ_=>0):=by unfold CS;rw [getElem?_map,hr];rfl
    rw [AY ez,map_append];exact Ad.snoc (Ad.ev (Ev.same s3) _ _ h.2) (Aa.row ht')
  ·intro m hm;refine⟨m,_,rfl,.inl ⟨Ai.of Ae,λt ht=>?_⟩⟩;have s3:=(Ab.new (o:= .lst ys) hm).trans (Ab.new (o:= .tup ys) ht);have rz:Aa p (upd (upd H' m (.lst ys)) t (.tup ys)) (FD (CS P S)) (.ref t):=by
    refine Aa.tup Ae ?_;have r3:=Ad.ev (Ev.same (p:=p) s3) _ _ h.2;rw [take_of_length_le (by unfold CS;rw [length_map,BI];omega)] at r3;exact r3
   have s4:=s1.trans (h.1.trans s3);generalize upd (upd H' m (.lst ys)) t (.tup ys)=H3 at s4 rz ⊢;have hW3:=s4 _ _ hW;refine⟨W,CA,dx,[],rfl,hW3,WC,WK.nP,by decide,W,CA,dx,[("plant",v)],rfl,Ae,WC,WK.nS,by show(1:Nat)<1000;decide,λl hl=>?_⟩;have ins2:upd (upd H3 W (.ins CA dx [("plant",v)])) W (.ins CA dx [("plant",v),("story",u)]) W=some (.ins CA dx [("plant",v),("story",u)]):=Ae;have nl:l≠W:=λz=>by rw [z] at hl;have:=ins2.symm.trans hl;cases this
   have h3l:H3 l=none:=by
    have e2:upd (upd H3 W (.ins CA dx [("plant",v)])) W (.ins CA dx [("plant",v),("story",u)]) l=H3 l:=by rw [Aq nl,Aq nl]
    exact e2.symm.trans hl
   refine⟨W,CA,dx,[("plant",v),("story",u)],rfl,(Aq nl.symm).trans ins2,WC,WK.nF,by show(2:Nat)<1000;decide,?_⟩;have kk:∀b o,H3 b=some o->b≠W->upd (upd (upd (upd H3 W (.ins CA dx [("plant",v)])) W (.ins CA dx [("plant",v),("story",u)])) l (.lst [.ref t])) W (.ins CA dx (MN v u l)) b=some o:=λb o hb nb=>by
    have nbl:b≠l:=λz=>by rw [z,h3l] at hb;cases hb
    rw [Aq nb,Aq nbl,Aq nb,Aq nb];exact hb
   refine q l t _ (λb o hb nb=>kk b o (s4 _ _ hb) nb) ⟨dx,Ae⟩ ?_ ((Aq nl).trans Ae) (Aa.tev (p:=p) (λb ys hb=>kk b _ hb (λz=>by rw [z,hW3] at hb;cases hb)) _ _ (EJ _) rz);cases z:H l with
   | none=>rfl
   | some o=>rw [s4 _ _ z] at h3l;cases h3l
 ·exact h.elim
theorem Us:At ["self"] ["self"] (Ak s_Watch_undo):=Ax
theorem Ut (F:Dm K CA "undo" "Watch.undo" s_Watch_undo ["self"]) (T:Tx mg) (WK:Wc K CA) (C:Tc K mg M ds)  :Mt (Bj P w) P w K mg base 1 CA "undo" ["self"] (Ia ds CA):=by
 have WC:=WK.cls;refine F.fnE Us (λvs H Q E h=>?_) (λf cdv A outer s H vs Q E hr h=>?_)
 ·unfold Ia at h;split at h;rfl;exact h.elim
 unfold Ia at h;split at h
 ·rename_i W;obtain⟨L,v,u,xs,⟨dx,hW⟩,hL,h1,h100,q1,q2⟩:=h;refine⟨_,(Ah (AT (AU Cy (Ay (Bn K) rfl T.b_len PySem.boot_len (Al (Bh (cy 0) rfl))) Af (AS _)) (Aj (D8 isDef_cx rfl C.n_NoDeed C.x_NoDeed rfl (Al Ao))) A1) (Aj (Ba (OT PySem.F.plainAttrs_list PySem.F.slot_list_pop PySem.F.type_list_pop OX (Bh (cy 0) rfl))))),?_⟩;refine⟨W,CA,dx,_,.ref L,rfl,hW,WC,WK.nF,rfl,L,_,rfl,.inl (Ai.of hL),rfl,⟨λc=>?_,λc=>?_⟩⟩
  ·refine⟨few rfl,q1 ?_⟩;have c':=of_decide_eq_true c;injection c' with c'
   omega
  ·have c':=of_decide_eq_false c;have hn:xs.length≠1:=λz=>c' (by rw [z];rfl)
   obtain⟨y,hy⟩:∃y,xs[xs.length-1]? =some y:=⟨_,getElem?_eq_getElem (by omega)⟩;exact⟨W,CA,dx,_,.ref L,rfl,hW,WC,WK.nF,rfl,.inl ⟨rfl,_,Ai.of hL⟩,L,xs,y,rfl,rfl,hL,hy,q2 (by omega)⟩
 ·exact h.elim
theorem Uu:At ["self","firing"] ["self","firing"] (Ak s_Watch_take_over):=Ax
theorem Uv (F:Dm K CA "take_over" "Watch.take_over" s_Watch_take_over ["self","firing"]) (T:Tx mg) (WK:Wc K CA) (yaF:A7 P w K mg base 11 "need_firing" ["plant","story","firing"] (HY ds)):Mt (Bj P w) P w K mg base 12 CA "take_over" ["self","firing"] (Ib ds CA):=by
 have WC:=WK.cls;refine F.fnE Uu (λvs H Q E h=>?_) (λf cdv A outer s H vs Q E hr h=>?_)
 ·unfold Ib at h;split at h;rfl;exact h.elim
 unfold Ib at h;split at h
 ·rename_i W w';obtain⟨p,L,P,S,v,u,xs,Fs,d,wa,h100,rd,q1,q2⟩:=h;obtain⟨dx,hW⟩:=wa.at_;refine⟨_,(Ah (Ba (Fb isDef_cx yaF (hr.mono (by decide)) rfl (AI (Bh (cy 0) rfl) (Bh (cy 0) rfl) (cy 1)))) (Aj (Ba (Cn PySem.F.plainAttrs_list PySem.F.slot_list_append PySem.F.type_list_append CY (Bh (cy 0) rfl) (Al (cy 1)))))),?_⟩;refine⟨W,CA,dx,_,v,rfl,hW,WC,WK.nP,rfl,W,CA,dx,_,u,rfl,hW,WC,WK.nS,rfl,?_⟩;refine⟨p,P,S,d,wa.ok,wa.so,wa.rv,wa.ru,rd,q1,λc H1 s1=>?_⟩;have hW1:=s1 _ _ hW;have hL1:=s1 _ _ wa.lst;exact⟨W,CA,dx,_,.ref L,rfl,hW1,WC,WK.nF,rfl,.inl ⟨rfl,_,Ai.of hL1⟩,L,xs,w',rfl,rfl,hL1,Gz (by omega),q2 c H1 s1⟩
 ·exact h.elim
theorem Uw:At ["self","hour"] ["self","hour"] (Ak s_Watch_bank):=Ax
theorem Ux (F:Dm K CA "bank" "Watch.bank" s_Watch_bank ["self","hour"]) (T:Tx mg) (WK:Wc K CA) (yad:A7 P w K mg base 3 "need_hour" ["story","hour"] (Ga ds)) (ya3:Mt CX0 P w K mg base 1 CA "kept_firing" ["self"] (Do CA)) (yae:Mt CX0 P w K mg base 2 CA "put_row" ["self","hour","row"] (Gc CA)):Mt (Bj P w) P w K mg base 4 CA "bank" ["self","hour"] (Id ds CA):=by
 have WC:=WK.cls;refine F.fnE Uw (λvs H Q E h=>?_) (λf cdv A outer s H vs Q E hr h=>?_)
 ·unfold Id at h;split at h;rfl;exact h.elim
 unfold Id at h;split at h
 ·rename_i W h';obtain⟨p,L,P,S,v,u,xs,Fs,F,d,wa,h100,hF,rd,q1,q2⟩:=h;obtain⟨dx,hW⟩:=wa.at_;refine⟨_,(Ah (Ba (Fb isDef_cx yad (hr.mono (by decide)) rfl (Av (Bh (cy 0) rfl) (cy 1)))) (Aj (Ba (Dk Ce WC yae (hr.mono (by decide)) (cy 0) (Av (cy 1) (Be (BV K) rfl T.b_tuple BN (Al (A4 ["made"] [none] rfl (BH K (AK (Bq K) (DM Ce WC ya3 (hr.mono (by decide)) (cy 0)) (cy 1) (λ_ _=>rfl))) (AH.of rfl) (λ_ _ _ _=>(Am 0 (AF (by rfl)))) (λ_ _ _ _=>A3) (λ_ _ _ _=>Af))))))))),?_⟩;refine⟨W,CA,dx,_,u,rfl,hW,WC,WK.nS,rfl,p,S,P.bs.length,d,wa.so,wa.ru,rd,q1,λc H1 s1=>?_⟩;obtain⟨i,rfl,hi⟩:=JO c;unfold Aa at rd;subst rd;have hW1:=s1 _ _ hW;have hL1:=s1 _ _ wa.lst;have fo:=wa.fok F (mem_of_getElem? hF);obtain⟨x,hx,rx⟩:=C3 wa.reps hF;obtain⟨FA,fx,rfl,hFA,rfx⟩:=Aa.firing (Aa.ev (Ev.same s1) _ _ rx);obtain⟨er,lr⟩:=HZ fo hi;obtain⟨y,hy,ry⟩:=Ad.get (i:=i) rfx (by rw [getElem?_map,er];rfl);obtain⟨RA,rfl,hRA⟩:=Aa.ofRow ry;have x8:=wa.so.x8;have b4:=wa.ok.b4;have lf:=rfx.len;rw [length_map,fo.len] at lf;refine⟨W,dx,_,rfl,hW1,rfl,W,dx,_,rfl,hW1,rfl,L,v,u,xs,_,⟨dx,hW1⟩,hL1,hx,FA,fx,(i:Int),_,rfl,rfl,Ag.of hFA,Cb hy,RA,rfl,⟨_,Ag.of hRA⟩,BF (xs:=(F.getD i []).map V.int) (λj ys H'=>Ab H1 H'/\ys=((F.getD i []).take j).map λ_=>V.int 0) (by rw [length_map];omega) ⟨Ab.refl _,rfl⟩ (λj ys H' h=>by rw [h.2,length_map,length_take];omega) (λj ys H' _ h=>Ag.of (h.1 _ _ hRA)) (λj x ys H' hx h=>?_) (λys H' h=>?_)⟩
  ·refine⟨trivial,λ_=>?_,λz=>by cases z⟩;obtain⟨z,hz⟩:∃z,(F.getD i [])[j]? =some z:=by
    rw [getElem?_map] at hx;cases z:(F.getD i [])[j]? with
    | none=>rw [z] at hx;cases hx
    | some q=>exact⟨q,rfl⟩
   exact⟨h.1,by rw [h.2,AY hz,map_append];rfl⟩
  ·intro m hm;refine⟨m,_,rfl,.inl ⟨Ai.of Ae,λt ht=>?_⟩⟩;have s3:=h.1.trans ((Ab.new (o:= .lst ys) hm).trans (Ab.new (o:= .tup ys) ht));have ht':upd (upd H' m (.lst ys)) t (.tup ys) t=some (.tup (((F.getD i []).map λ_=>(0:Int)).map V.int)):=by
    rw [Ae,h.2,length_map,take_of_length_le (by omega),map_map];rfl
   generalize upd (upd H' m (.lst ys)) t (.tup ys)=H3 at s3 ht' ⊢;refine⟨L,v,u,xs,FA,fx,i,rfl,⟨dx,s3 _ _ hW1⟩,s3 _ _ hL1,h100,hx,s3 _ _ hFA,by omega,by omega,λB H4 s4 hB=>?_⟩;refine q2 i rfl hi B H4 (s1.trans (s3.trans s4)) (Aa.tup hB ?_);show Ad p H4 ((Gb F i).map AX) _;unfold Gb;rw [MS];exact JP (Aa.row (s4 _ _ ht')) i (Ad.ev (Ev.same (s3.trans s4)) _ _ rfx)
 ·exact h.elim
theorem zaw:At ["self","hour","boiler","amount","mains"] ["self","hour","boiler","amount"] (Ak s_Watch_stoke):=Ax
theorem Uy (F:Dm K CA "stoke" "Watch.stoke" s_Watch_stoke ["self","hour","boiler","amount"]) (T:Tx mg) (WK:Wc K CA) (C:Tc K mg M ds) (yad:A7 P w K mg base 3 "need_hour" ["story","hour"] (Ga ds)) (yaG:A7 P w K mg base 3 "need_boiler" ["plant","boiler"] (HX ds)) (ya1:Dn P w K mg base) (ya4:Fp P w K mg base) (yac:Fn P w K mg base 1 "replaced" ["row","at","part"] Ge) (yaf:Fn P w K mg base 13 "course" ["plant","story","firing"] F6) (ya3:Mt CX0 P w K mg base 1 CA "kept_firing" ["self"] (Do CA)) (yae:Mt CX0 P w K mg base 2 CA "put_row" ["self","hour","row"] (Gc CA)):Mt (Bj P w) P w K mg base 14 CA "stoke" ["self","hour","boiler","amount"] (Ie ds CA):=by
 have WC:=WK.cls;refine F.fnE zaw (λvs H Q E h=>?_) (λf cdv A outer s H vs Q E hr h=>?_)
 ·unfold Ie at h;split at h;rfl;exact h.elim
 unfold Ie at h;split at h
 ·rename_i W h' b' a';obtain⟨p,L,P,S,v,u,xs,Fs,F,dh,db,da,wa,h100,hF,rh,rb,ra,q1,q2,q3⟩:=h;obtain⟨dx,hW⟩:=wa.at_;refine⟨_,(Ah (Ba (Fb isDef_cx yad (hr.mono (by decide)) rfl (Av (Bh (cy 0) rfl) (cy 1)))) (Ah (Ba (Fb isDef_cx yaG (hr.mono (by decide)) rfl (Av (Bh (cy 0) rfl) (cy 2)))) (Ah (AT (BD (Bw (An ya1 (hr.mono (by decide)) rfl (AI (cy 3) Af (AK (Bq K) (AK (Bq K) (An ya4 (hr.mono (by decide)) rfl (Av (Bh (cy 0) rfl) (Bh (cy 0) rfl))) (cy 1) (λ_ _=>rfl)) (cy 2) (λ_ _=>rfl)))))) (Aj (D8 isDef_cx rfl C.n_NoAmount C.x_NoAmount rfl (Al Ao))) A1) (Ah (Ba (Dk Ce WC yae (hr.mono (by decide)) (cy 0) (Av (cy 1) (An yac (hr.mono (by decide)) rfl (AI (AK (Bq K) (DM Ce WC ya3 (hr.mono (by decide)) (cy 0)) (cy 1) (λ_ _=>rfl)) (cy 2) (cy 3)))))) (Ah (Jd (i:=4) ["made","drawn","blown","main"] [none,none,none,none] zaw.nd rfl (AC (by rfl)) rfl (CZ K (An yaf (hr.mono (by decide)) rfl (AI (Bh (cy 0) rfl) (Bh (cy 0) rfl) (DM Ce WC ya3 (hr.mono (by decide)) (cy 0))))) (AH.of rfl) (λ_ _ _ _=>(AV K (n:=4) (Ar (Am 0 (AF (by rfl))) (Ar (Am 1 (AF (by rfl))) (Ar (Am 2 (AF (by rfl))) (Ar (Am 3 (AF (by rfl))) AQ)))))) (λ_ _ _ _=>A3) (λ_ _ _ _=>(cy 3))) (Aj (Au (Dg (Jo (cy 4)) (AK (Bp K) (cy 4) Fu (λ_ _=>rfl)) Ej)))))))),?_⟩;refine⟨W,CA,dx,_,u,rfl,hW,WC,WK.nS,rfl,p,S,P.bs.length,dh,wa.so,wa.ru,rh,q1,λc H1 s1=>?_⟩;have hW1:=s1 _ _ hW;refine⟨W,CA,dx,_,v,rfl,hW1,WC,WK.nP,rfl,p,P,db,wa.ok,Aa.ev (Ev.same s1) _ _ wa.rv,Aa.ev (Ev.same s1) _ _ rb,λc2 H2 s2=>q2 c c2 H2 (s1.trans s2),λc2 H2 s2=>?_⟩;have s12:=s1.trans s2;have hW2:=s12 _ _ hW;obtain⟨i,rfl,hi⟩:=JO c;obtain⟨j,rfl,hj⟩:=JO c2;obtain⟨q4,q5⟩:=q3 i j rfl rfl hi hj;unfold Aa at rh rb;subst rh rb;refine⟨W,CA,dx,_,v,rfl,hW2,WC,WK.nP,rfl,W,CA,dx,_,u,rfl,hW2,WC,WK.nS,rfl,p,P,S,wa.ok,wa.so,Aa.ev (Ev.same s12) _ _ wa.rv,Aa.ev (Ev.same s12) _ _ wa.ru,λcv H3 s3 rc=>?_⟩;obtain⟨CC,cx,rfl,hC,rcx⟩:=Aa.firing (F:=caps P S) rc;obtain⟨y,hy,ry⟩:=Ad.get (i:=i) rcx (by rw [getElem?_map,BB hi];rfl);obtain⟨RC,rfl,hRC⟩:=Aa.ofRow ry;have lcap:(Bc P.bs S.fs i).length=P.bs.length:=(Cz (S:=S) wa.ok _ (mem_of_getElem? (BB hi))).2;obtain⟨c0,hc0⟩:∃c0,(Bc P.bs S.fs i)[j]? =some c0:=⟨_,getElem?_eq_getElem (by omega)⟩;have s13:=s12.trans s3;refine⟨CC,cx,(i:Int),_,rfl,rfl,Ag.of hC,Cb hy,RC,_,(j:Int),.int c0,rfl,rfl,Ag.of hRC,Cb (by rw [getElem?_map,hc0];rfl),p,da,Aa.ev (Ev.same s13) _ _ ra,λb hb=>?_⟩;rw [<-MP hi hc0] at hb;refine⟨λc3=>⟨few rfl,q4 (by rw [<-hb];simpa using c3) _ s13⟩,λc3=>?_⟩;obtain⟨x,rfl,x0,x1⟩:=Ug (d:=da) (hi:=Ee P S i j) (by rw [<-hb];simpa using c3);unfold Aa at ra;subst ra;have fo:=wa.fok F (mem_of_getElem? hF);have fo':=MQ fo hi x0 x1;obtain⟨fv,hx,rx⟩:=C3 wa.reps hF;obtain⟨FA,fx,rfl,hFA,rfx⟩:=Aa.firing (Aa.ev (Ev.same s13) _ _ rx);obtain⟨er,lr⟩:=HZ fo hi;obtain⟨y2,hy2,ry2⟩:=Ad.get (i:=i) rfx (by rw [getElem?_map,er];rfl);obtain⟨RA,rfl,hRA⟩:=Aa.ofRow ry2;have x8:=wa.so.x8;have b4:=wa.ok.b4;have lf:=rfx.len;rw [length_map,fo.len] at lf;have hW3:=s13 _ _ hW;have hL3:=s13 _ _ wa.lst;refine⟨W,dx,_,rfl,hW3,rfl,W,dx,_,rfl,hW3,rfl,L,v,u,xs,_,⟨dx,hW3⟩,hL3,hx,FA,fx,(i:Int),_,rfl,rfl,Ag.of hFA,Cb hy2,(F.getD i []).map V.int,j,rfl,by rw [length_map];omega,by rw [length_map];omega,hRA,λB1 H4 s4 hB1=>?_⟩;refine⟨L,v,u,xs,FA,fx,i,rfl,⟨dx,s4 _ _ hW3⟩,s4 _ _ hL3,h100,hx,s4 _ _ hFA,by omega,by omega,λB H5 s5 hB=>?_⟩;have s15:=s13.trans (s4.trans s5);have hL5:=s15 _ _ wa.lst;have rB:Aa p H5 (FD (BO F i j x)) (.ref B):=by
   refine Aa.tup hB ?_;show Ad p H5 ((BO F i j x).map AX) _;unfold BO;rw [MS];have hB1':H5 B1=some (.tup (((F.getD i []).set j x).map V.int)):=by rw [s5 _ _ hB1,map_set]
   exact JP (Aa.row hB1') i (Ad.ev (Ev.same (s4.trans s5)) _ _ rfx)
  have tv:TEv H5 (upd H5 L (.lst (xs++[.ref B]))):=TEv.upd hL5;have e16:Ev L H (upd H5 L (.lst (xs++[.ref B]))):=(Ev.same s15).trans (Ev.pen hL5);have rB6:=Aa.tev (p:=p) (p':=p) tv _ _ (EJ _) rB;have rv6:=Aa.tev (p:=p) (p':=p) tv _ _ (JM P) (Aa.ev (Ev.same s15) _ _ wa.rv);have ru6:=Aa.tev (p:=p) (p':=p) tv _ _ (JN S) (Aa.ev (Ev.same s15) _ _ wa.ru);have hL6:upd H5 L (.lst (xs++[.ref B])) L=some (.lst (xs++[.ref B])):=Ae;obtain⟨dx6,hW6⟩:=wa.at_.ev e16;generalize upd H5 L (.lst (xs++[.ref B]))=H6 at tv e16 rB6 rv6 ru6 hL6 hW6 ⊢;have hx6:(xs++[V.ref B])[(xs++[V.ref B]).length-1]? =some (.ref B):=by rw [length_append,length_singleton,Nat.add_sub_cancel,List.getElem?_append_right (Nat.le_refl _),Nat.sub_self];rfl
  refine⟨W,CA,dx6,_,v,rfl,hW6,WC,WK.nP,rfl,W,CA,dx6,_,u,rfl,hW6,WC,WK.nS,rfl,W,dx6,_,rfl,hW6,rfl,L,v,u,_,_,⟨dx6,hW6⟩,hL6,hx6,p,P,S,BO F i j x,⟨wa.ok,wa.so,fo',rv6,ru6,rB6⟩,λR H7 k s' ys run s7 hRn hR rys=>?_⟩;have e17:Ev L H H7:=e16.trans (Ev.same s7);have lys:=rys.len;rw [Jn] at lys;have rle:=run.le;refine⟨R,rfl,⟨_,Ai.of hR⟩,Dy (xs:=ys) (λn zs H'=>Ab H7 H'/\zs=(List.range n).map λm=>V.int (A6 P S (BO F i j x) (m+1))) (by omega) ⟨Ab.refl _,rfl⟩ (λn zs H' h=>by rw [h.2,length_map,length_range];exact Nat.le_refl _) (λn zs H' _ h=>Ai.of (h.1 _ _ hR)) (λn y zs H' hy h=>?_) (λzs H' h=>?_)⟩
  ·obtain⟨d,hd,rd⟩:=Ad.got rys hy;have hn:n<k:=by have:=(List.getElem?_eq_some_iff.mp hy).1;omega
   have ed:d=FS P S (BO F i j x) n:=by
    unfold C1 at hd;rw [getElem?_map,getElem?_range hn] at hd;cases hd;rfl
   subst ed;obtain⟨T',ts,rfl,hT,rts⟩:=Aa.shape rd;obtain⟨y1,y2,y3,y4,rfl,r1,r2,r3,r4⟩:=Ad.four rts;unfold Aa at r1 r2 r3 r4;subst r1 r2 r3 r4;refine⟨T',_,rfl,Ag.of (h.1 _ _ hT),rfl,_,_,rfl,_,_,rfl,_,_,rfl,_,_,rfl,rfl,trivial,λ_=>⟨h.1,?_⟩,λz=>by cases z⟩;rw [h.2,range_succ,map_append];rfl
  ·intro m hm;have n8:=Ab.new (o:= .lst zs) hm;have e18:Ev L H (upd H' m (.lst zs)):=e17.trans (Ev.same (h.1.trans n8));have s68:=s7.trans (h.1.trans n8);have fin:Q (EI P S (BO F i j x) k) (upd H' m (.lst zs)):=q5 x rfl x0 x1 B k s' _ run e18 (s68 _ _ hL6) (Aa.ev (Ev.same s68) _ _ rB6);have hz:=h.2;rw [<-lys] at hz;refine⟨m,zs,rfl,Ae,λc4=>?_,λc4=>?_⟩
   ·have k0:k≠0:=λz=>by rw [hz,z] at c4;cases c4
    rw [Uj k0] at fin;refine⟨m,zs,-1,_,rfl,rfl,Ai.of Ae,MM (x:= .int (A6 P S (BO F i j x) k)) ?_,fin⟩;rw [hz,length_map,length_range,getElem?_map,getElem?_range (by omega)];show some (V.int (A6 P S (BO F i j x) (k-1+1)))=_;rw [Nat.sub_add_cancel (by omega)]
   ·have k0:k=0:=by
     cases z:k with
     | zero=>rfl
     | succ n=>rw [hz,z,range_succ,map_append] at c4;simp at c4
    have el:EI P S (BO F i j x) k= .non:=by unfold EI;rw [if_pos k0]
    rw [el] at fin;exact fin
 ·exact h.elim
end
end MF
end
section
namespace MF
open L2
variable {S : SY} {F : List (List Int)} {a n : Int} {p L : Addr} {H H' : Hp} {xs : List V} {Fs : List FL} {α : Type}
theorem MT {l:List Int}{B:Int} (h:∀i∈l,0<=i/\i<=B):0<=l.sum/\l.sum<=B * l.length:=by
 induction l with
 | nil=>exact⟨Int.le_refl _,by simp⟩
 | cons a l ih=>
  have h1:=h a mem_cons_self;have h2:=ih λi hi=>h i (mem_cons_of_mem _ hi)
  rw [sum_cons,length_cons];have e:B *((l.length+1:Nat):Int)=B * l.length+B:=by rw [Int.natCast_add,Int.mul_add];simp
  omega
theorem Uz {P:PL} (ok:P.ok) (so:S.ok P.bs.length) (fo:FOk P S F):∀i∈B6 P F,0<=i/\i<=72:=λi hi=>by
 unfold B6 at hi;obtain⟨b,hb,rfl⟩:=mem_map.mp hi;have hb':=mem_range.mp hb;have:=MT (l:=F.map λr=>r.getD b 0) (B:=9) λx hx=>by
  obtain⟨r,hr,rfl⟩:=mem_map.mp hx;obtain⟨h9,hl⟩:=FOk.bd9 ok fo r hr;exact h9 _ (mem_of_getElem? (Lw (by omega)))
 rw [length_map,fo.len] at this;have:=so.x8;omega
theorem UA {P:PL} (ok:P.ok) (so:S.ok P.bs.length) (fo:FOk P S F):0<=coal P F/\coal P F<10000:=by
 unfold coal;have:=MT (l:=((B6 P F).zip P.bs).map λq=>q.1 * q.2.2) (B:=72 * 9) λx hx=>by
  obtain⟨q,hq,rfl⟩:=mem_map.mp hx;have h1:=Uz ok so fo q.1 (of_mem_zip hq).1;have h2:=ok.b q.2 (of_mem_zip hq).2;exact⟨Int.mul_nonneg h1.1 (by omega),Int.mul_le_mul h1.2 h2.2.2.2 (by omega) (by omega)⟩
 rw [length_map,length_zip] at this;have b4:=ok.b4;omega
abbrev Cv:=Sum Str (List Int)
def MU:Cv->List V
 | .inl t=>[.str t]
 | .inr ns=>ns.map V.int
def Ig (w:Str):Int:=(((List.range 100).find? fun(n:Nat)=>nT (n:Int)==w).getD 0:Nat)
theorem UB:∀n:Nat,n<100->Ig (nT (n:Int))=(n:Int):=by decide+kernel
def numbersL:List (Str×Int):=[("stoke",3),("bank",1),("undo",0),("least",0),("show",0),("main",0),("falls",0),("coal",0),("stretch",0)]
def C4 (s:Str):Option Int:=(numbersL.find? λp=>decide (p.1=s)).map (·.2)
def Dp:List (AD×V):=numbersL.map λp=>(.inr p.1,.int p.2)
theorem Ih (s:Str):Cr Dp (.inr s)=(C4 s).map V.int:=by
 unfold Cr Dp C4;rw [List.find?_map];have e:((λkv:AD×V=>decide (kv.1=Sum.inr s)) ∘λp:Str×Int=>((Sum.inr p.1:AD),V.int p.2))=λp=>decide (p.1=s):=funext λp=>Kd p.1 s
 rw [e];cases numbersL.find? λp=>decide (p.1=s)<;>rfl
def JQ (fs:List Addr):List (AD×V):=[(.inr "stoke",.ref (fs.getD 0 0)),(.inr "bank",.ref (fs.getD 1 0)),(.inr "fire",.ref (fs.getD 2 0)),(.inr "undo",.ref (fs.getD 3 0)),(.inr "least",.ref (fs.getD 4 0)),(.inr "show",.ref (fs.getD 5 0)),(.inr "main",.ref (fs.getD 6 0)),(.inr "falls",.ref (fs.getD 7 0)),(.inr "coal",.ref (fs.getD 8 0)),(.inr "stretch",.ref (fs.getD 9 0))]
def Cw (t:Str):Option (Str×Cv):=
 if (Bx t " ").1=("fire" :Str)/\(Bx t " ").2.1.length≠0 then some ("fire",.inl (Bx t " ").2.2)
 else match C4 (Bx t " ").1 with
  | none=>none
  | some k=>if (((Az t " ").drop 1).length:Int)=k/\((Az t " ").drop 1).all (A8 99)=true then some ((Bx t " ").1,.inr (((Az t " ").drop 1).map Ig)) else none
def By (d:PyData):Option (Str×Cv):=match d with | .str t=>Cw t | _=>none
def Fv (first:Str) (ps:Cv):Prop:=(first=("fire" :Str)/\∃t,ps= .inl t/\t.length<=200000)\/ ∃k ns,C4 first=some k/\ps= .inr ns/\(ns.length:Int)=k/\∀n∈ns,0<=n/\n<=99
theorem JR {w:Str} (h:A8 99 w=true):∃n:Nat,n<100/\w=nT (n:Int)/\Ig w=(n:Int):=by
 obtain⟨n,hn,rfl⟩:=MI h;exact⟨n,by omega,rfl,UB n (by omega)⟩
theorem UC (t y:Str):(Bx t y).2.2.length<=t.length:=by
 unfold Bx;split
 ·exact strSub_length_le ..
 ·exact Nat.zero_le _
theorem UD {t f:Str}{ps:Cv} (h:Cw t=some (f,ps)) (hl:t.length<=200000):Fv f ps:=by
 unfold Cw at h;split at h
 ·cases h;exact .inl ⟨rfl,_,rfl,Nat.le_trans (UC _ _) hl⟩
 ·split at h
  ·cases h
  ·rename_i k hk;split at h
   ·rename_i c;cases h;refine .inr ⟨k,_,hk,rfl,by rw [length_map];exact c.1,λn hn=>?_⟩;obtain⟨w,hw,rfl⟩:=mem_map.mp hn;obtain⟨m,hm,_,e⟩:=JR (all_eq_true.mp c.2 w hw);rw [e];omega
   ·cases h
def JS (P:PL) (S:SY) (F:FL) (k:Nat):Str:=if k=0 then"-" else nT (A6 P S F k)
def Ii (P:PL) (S:SY) (F:FL) (k:Nat):Str:=if k=0 then"none" else Bs ((List.range k).map λi=>A6 P S F (i+1))
def JT:Option (Int×Int)->Str
 | none=> "-"
 | some q=>Bs [q.1,q.2]
def JU:Option (Nat×Nat)->Str
 | none=> "-"
 | some q=>Bs [(q.1:Int),(q.2:Int)]
inductive Ci (P:PL) (S:SY) (Fs:List FL) (F:FL):Str->Cv->Str->List FL->Prop
 | stoke {i j:Nat}{x:Int}{k:Nat}{sg:Option (Int×Int)}:i<S.ex.length->j<P.bs.length->0<=x->x<=Ee P S i j->D3 P S (BO F i j x) k sg->Ci P S Fs F "stoke" (.inr [(i:Int),(j:Int),x]) (JS P S (BO F i j x) k) (Fs++[BO F i j x])
 | bank {i:Nat}:i<S.ex.length->Ci P S Fs F "bank" (.inr [(i:Int)]) "ok" (Fs++[Gb F i])
 | fire {t:Str}{G:FL}:CG (caps P S) (Az t "/")= .inr G->Ci P S Fs F "fire" (.inl t) "ok" (Fs++[G])
 | undo:1<Fs.length->Ci P S Fs F "undo" (.inr []) "ok" Fs.dropLast
 | «show»:Ci P S Fs F "show" (.inr []) (CP F) Fs
 | main {k:Nat}{sg:Option (Int×Int)}:D3 P S F k sg->Ci P S Fs F "main" (.inr []) (Ii P S F k) Fs
 | falls {k:Nat}{sg:Option (Int×Int)}:D3 P S F k sg->Ci P S Fs F "falls" (.inr []) (JT sg) Fs
 | coal:Ci P S Fs F "coal" (.inr []) (nT (coal P F)) Fs
 | stretch:Ci P S Fs F "stretch" (.inr []) (JU (DJ (terms P S))) Fs
inductive C5 (P:PL) (S:SY) (Fs:List FL):Str->Cv->Sum Nat Int->Prop
 | hour {i j x:Int}:0<=i->¬i<S.ex.length->C5 P S Fs "stoke" (.inr [i,j,x]) (.inl 3)
 | boiler {i j x:Int}:0<=i->i<S.ex.length->0<=j->¬j<P.bs.length->C5 P S Fs "stoke" (.inr [i,j,x]) (.inl 4)
 | amount {i j:Nat}{x:Int}:i<S.ex.length->j<P.bs.length->Ee P S i j<x->C5 P S Fs "stoke" (.inr [(i:Int),(j:Int),x]) (.inl 15)
 | bank {i:Int}:0<=i->¬i<S.ex.length->C5 P S Fs "bank" (.inr [i]) (.inl 3)
 | fire {t:Str}{n:Int}:CG (caps P S) (Az t "/")= .inl n->C5 P S Fs "fire" (.inl t) (.inr n)
 | undo:Fs.length=1->C5 P S Fs "undo" (.inr []) (.inl 16)
structure Outs (ds:List Addr) (P:PL) (S:SY) (Fs:List FL) (F:FL) (first:Str) (ps:Cv) (p L:Addr) (H:Hp) (Q:VK) (E:XK):Prop where
 no:∀i H',C5 P S Fs first ps (.inl i)->Ab H H'->E (.ref (ds.getD i 0)) none H'
 tx:∀n a H',C5 P S Fs first ps (.inr n)->Ab H H'->H a=none->H' a=some (.xd [("at",.int n)])->E (.ref (ds.getD 18 0)) (some a) H'
 ok:∀s Fs' xs' H',Ci P S Fs F first ps s Fs'->Ev L H H'->H' L=some (.lst xs')->Ad p H' (Fs'.map FD) xs'->Q (.str s) H'
def AZ (ds:List Addr) (CA:Addr) (first:Str):Sp:=λvs H Q E=>match vs with
 | [.ref W,.ref B]=>∃p L P S v u xs Fs F ps,Wat CA p H W L P S v u xs Fs/\xs.length<=90/\Fs[Fs.length-1]? =some F/\H B=some (.lst (MU ps))/\Fv first ps/\Outs ds P S Fs F first ps p L H Q E
 | _=>False
def Fw:Sp:=λvs H Q _=>match vs with | [.ref a]=>∃ns:List Int,(H a=some (.tup (ns.map V.int))\/H a=some (.lst (ns.map V.int)))/\ns.length<=10/\(∀n∈ns,n.natAbs<10 ^ 31)/\∀H',Ab H H'->Q (.str (Bs ns)) H' | _=>False
def Ij (CL:Addr):Sp:=λvs H Q E=>match vs with
 | [x] => ∃ p d, Aa p H d x /\ (∀ t, d = .str t -> t.length <= 200000) /\ (By d = none -> ∀ H', Ab H H' -> E (.ref CL) none H') /\
   ∀f ps b c H',By d=some (f,ps)->Ab H H'->H c=none->H' b=some (.tup [.str f,.ref c])->H' c=some (.lst (MU ps))->Q (.ref b) H'
 | _=>False
structure Ik (K:Fgx) (DA:Addr):Prop where
 cls:Cls K DA
 nW:NoAttr K DA "watch"
def Il (CA DA:Addr):Sp:=λvs H Q _=>match vs with
 | [.ref D,v,u]=>∃p P S dx,PL.ok P/\SY.ok S P.bs.length/\Aa p H P.d v/\Aa p H S.d u/\H D=some (.ins DA dx [])/\
  ∀W L B H',(∀b o,H b=some o->b≠D->H' b=some o)->(∃dx',H' D=some (.ins DA dx' [("watch",.ref W)]))->WAt CA H' W L v u->H L=none->H' L=some (.lst [.ref B])->Aa p H' (FD (CS P S)) (.ref B)->Q .non H'
 | _=>False
def EK (ds:List Addr) (CA DA:Addr):Sp:=λvs H Q E=>match vs with
 | [.ref D, x] => ∃ p L P S v u xs Fs F W d dx, H D = some (.ins DA dx [("watch", .ref W)]) /\ Wat CA p H W L P S v u xs Fs /\ xs.length <= 90 /\ Fs[Fs.length - 1]? = some F /\ Aa p H d x /\ (∀ t, d = .str t -> t.length <= 200000) /\
   (∀f ps,By d=some (f,ps)->f≠("least" :Str))/\(By d=none->∀H',Ab H H'->E (.ref (ds.getD 17 0)) none H')/\∀f ps,By d=some (f,ps)->Outs ds P S Fs F f ps p L H Q E
 | _=>False
theorem Ef {first:Str}{ps:Cv}{k:Int} (h:Fv first ps) (hf:first≠("fire" :Str)) (hk:C4 first=some k):∃ns,ps= .inr ns/\(ns.length:Int)=k/\∀n∈ns,0<=n/\n<=99:=by
 rcases h with⟨e,_⟩ | ⟨k',ns,e,rfl,hl,h9⟩
 ·exact absurd e hf
 ·rw [hk] at e;cases e;exact⟨ns,rfl,hl,h9⟩
theorem UE {ps:Cv} (h:Fv "fire" ps):∃t,ps= .inl t/\t.length<=200000:=by
 rcases h with⟨_,t,rfl,hl⟩ | ⟨k',ns,e,_⟩
 ·exact⟨t,rfl,hl⟩
 ·rw [show C4 "fire"=none from by decide] at e;cases e
theorem JV (h:AL (.int a) 0 (n-1)=false) (h0:0<=a):¬a<n:=λz=>by
 unfold AL at h;dsimp only at h;rw [decide_eq_true h0,Bool.true_and,decide_eq_true (by omega)] at h;cases h
theorem UF (h:AL (.int a) 0 (n-1)=true):0<=a/\a<n:=by
 unfold AL at h;dsimp only at h;rw [Bool.and_eq_true] at h;have h1:=of_decide_eq_true h.1;have h2:=of_decide_eq_true h.2;omega
theorem UG (h:AL (.int a) 0 n=false) (h0:0<=a):n<a:=by
 unfold AL at h;dsimp only at h;rw [decide_eq_true h0,Bool.true_and] at h;have:=of_decide_eq_false h;omega
theorem Wat.sameD {CA:Addr}{W:Addr}{P:PL}{v u:V} (h:Wat CA p H W L P S v u xs Fs) (s:Ab H H'):Wat CA p H' W L P S v u xs Fs:=by
 obtain⟨dx,hW⟩:=h.at_;exact⟨h.ok,h.so,Aa.ev (Ev.same s) _ _ h.rv,Aa.ev (Ev.same s) _ _ h.ru,⟨dx,s _ _ hW⟩,s _ _ h.lst,Ad.ev (Ev.same s) _ _ h.reps,h.fok⟩
theorem MV (Fs:List FL):EE (Fs.map FD)=true:=Ct λd hd=>by
 obtain⟨G,_,rfl⟩:=mem_map.mp hd;exact EJ G
theorem JW {F:FL}{x:V} (tv:TEv H H') (r:Ad p H (Fs.map FD) xs) (rx:Aa p H' (FD F) x):Ad p H' ((Fs++[F]).map FD) (xs++[x]):=by
 rw [map_append];exact Ad.append (Ad.tev tv _ _ (MV Fs) r) (.cons rx .nil)
theorem MW {P:PL}{ps:List Str}{G:FL} (ok:P.ok) (h:CG (caps P S) ps= .inr G):FOk P S G:=by
 unfold CG at h;split at h
 ·cases h
 ·rename_i hn;have all:∀j,j<ps.length->∃r,BW (caps P S) ps j=some r:=λj hj=>by
   have:=List.find?_eq_none.mp hn j (mem_range.mpr hj);cases z:BW (caps P S) ps j with
   | none=>rw [z] at this;exact absurd rfl this
   | some r=>exact⟨r,rfl⟩
  split at h
  ·cases h
  ·rename_i hl;cases h;have lle:ps.length=S.ex.length:=by
    rw [BI] at hl
    by_cases z:ps.length=0
    ·omega
    ·obtain⟨r,hr⟩:=all (ps.length-1) (by omega);have:=(F9 hr).1;rw [BI] at this;omega
   have row:∀i r,((List.range ps.length).map λi=>(BW (caps P S) ps i).getD [])[i]? =some r->i<S.ex.length/\CQ (Bc P.bs S.fs i) (Az (ps.getD i Str.empty) " ")=true/\r=(Az (ps.getD i Str.empty) " ").map EH:=λi r hr=>by
    rw [getElem?_map] at hr;obtain⟨j,hj,rfl⟩:=Option.map_eq_some_iff.mp hr;obtain⟨hj1,hj2⟩:=List.getElem?_eq_some_iff.mp hj;rw [length_range] at hj1;rw [List.getElem_range] at hj2;subst hj2;obtain⟨r,hr⟩:=all i hj1;obtain⟨h1,h2,h3⟩:=F9 hr;have e:(caps P S).getD i []=Bc P.bs S.fs i:=by rw [getD_eq_getElem?_getD,BB (by rw [BI] at h1;exact h1)];rfl
    rw [e] at h2;rw [hr];exact⟨by rw [BI] at h1;exact h1,h2,h3⟩
   refine⟨by rw [length_map,length_range,lle],λi r hr=>?_,λi r j x c hr hx hc=>?_⟩
   ·obtain⟨hi,ho,rfl⟩:=row i r hr;rw [length_map,JL ho];exact(Cz (S:=S) ok _ (mem_of_getElem? (BB hi))).2
   ·obtain⟨hi,ho,rfl⟩:=row i r hr;rw [getElem?_map] at hx;obtain⟨w,hw,rfl⟩:=Option.map_eq_some_iff.mp hx;obtain⟨n,hn,_,e,c',hc',hle⟩:=MK ho (Cz (S:=S) ok _ (mem_of_getElem? (BB hi))).1 hw;rw [hc] at hc';cases hc';rw [e];omega
theorem Ad.takeB:∀ {ds:List PyData}{xs:List V} (i:Nat),Ad p H ds xs->Ad p H (ds.take i) (xs.take i)
 | [],xs,i,r=>by unfold Ad at r;subst r;simp;exact .nil
 | d::ds,xs,0,r=>by simp;exact .nil
 | d::ds,xs,i+1,r=>by
  unfold Ad at r;obtain⟨x,t,rfl,rx,rt⟩:=r;rw [List.take_succ_cons,List.take_succ_cons];exact .cons rx (Ad.takeB i rt)
theorem UH {l:List α} (h:l.length=3):∃a b c,l=[a,b,c]:=by
 match l,h with
 | [a,b,c],_=>exact⟨a,b,c,rfl⟩
theorem UI {l:List α} (h:l.length=1):∃a,l=[a]:=by
 match l,h with
 | [a],_=>exact⟨a,rfl⟩
theorem MX {d:PyData}:∀ {ds:List PyData},d∈ds->DD d<=DZ ds
 | e::ds,h=>by
  unfold DZ;rcases mem_cons.mp h with rfl | h
  ·omega
  ·have:=MX h;omega
theorem UJ {n k:Nat}{i:Int}{ds:List PyData} (h:Ey n k (.tuple ds)) (hn:n<=1000000) (hi: .int i∈ds):i.natAbs<10 ^ 31:=by
 have w:=h.w;unfold DD at w;have w1:=MX hi;unfold DD at w1
 by_cases c:i.natAbs<10 ^ 31
 ·exact c
 ·rw [if_neg c] at w1;have:(10:Nat) ^ 9=1000000000:=by decide
  omega
theorem MY:Bi xs (some 1) none=xs.drop 1:=by
 unfold Bi;rw [show(1:Int)=((1:Nat):Int) from rfl,HT.sIx_nat];show(xs.drop (min 1 xs.length)).take (xs.length-min 1 xs.length)=_;cases xs with
 | nil=>rfl
 | cons x xs=>
  rw [length_cons,Nat.min_eq_left (by omega)];exact take_of_length_le (by rw [length_drop,length_cons];exact Nat.le_refl _)
theorem MZ {a:Str}{k:Int} (h:C4 a=some k):0<=k/\k<=3:=by
 unfold C4 at h;obtain⟨p,hp,rfl⟩:=Option.map_eq_some_iff.mp h;exact(by decide:∀p∈numbersL,0<=p.2/\p.2<=3) p (List.mem_of_find?_eq_some hp)
theorem UK {P:PL}{S:SY}{n:Nat} (so:S.ok n):∀q,DJ (terms P S)=some q->q.1<8/\q.2<8:=λq h=>by
 unfold DJ E8 at h;have hm:=List.mem_of_mem_head? (by rw [h];rfl:q∈((CB (terms P S).ds.length (terms P S).ds.length).filter λq=>DG (terms P S) q.1 q.2).head?);obtain⟨h1,h2⟩:=LK (Nat.le_refl _) _ (mem_filter.mp hm).1;have l:(terms P S).ds.length=S.ex.length:=Ex;have:=so.x8;omega
theorem Outs.same {ds:List Addr}{P:PL}{F:FL}{first:Str}{ps:Cv}{Q:VK}{E:XK} (o:Outs ds P S Fs F first ps p L H Q E) (s:Ab H H'):Outs ds P S Fs F first ps p L H' Q E:=
 ⟨λi H2 r s2=>o.no i H2 r (s.trans s2),λn a H2 r s2 ha hx=>o.tx n a H2 r (s.trans s2) (s.free ha) hx,λt Fs' xs' H2 a e hL r=>o.ok t Fs' xs' H2 a ((Ev.same s).trans e) hL r⟩
theorem UL {f:Str}{ps:Cv} (h:Fv f ps):f∈(["fire","stoke","bank","undo","least","show","main","falls","coal","stretch"]:List Str):=by
 rcases h with⟨rfl,_⟩ | ⟨k,ns,e,_⟩
 ·exact mem_cons_self ..
 ·unfold C4 at e;obtain⟨q,hq,_⟩:=Option.map_eq_some_iff.mp e;have h1:=List.mem_of_find?_eq_some hq;have h2:q.1=f:=by have:=List.find?_some hq;simpa using this
  rw [<-h2];exact mem_cons_of_mem _ ((by decide:∀q∈numbersL,q.1∈(["stoke","bank","undo","least","show","main","falls","coal","stretch"]:List Str)) q h1)
structure Dc (P:Program) (w:World) (K:Fgx) (mg:Str->Option Value) (NA SA:Addr) (fs:List Addr):Prop where
 g_NUMBERS:mg "NUMBERS"=some (.ref NA)
 g_SAYINGS:mg "SAYINGS"=some (.ref SA)
 gN:GD P w K NA Dp
 gS:GD P w K SA (JQ fs)
 f_say_stoke:mg "say_stoke"=some (.ref (fs.getD 0 0))
 f_say_bank:mg "say_bank"=some (.ref (fs.getD 1 0))
 f_say_fire:mg "say_fire"=some (.ref (fs.getD 2 0))
 f_say_undo:mg "say_undo"=some (.ref (fs.getD 3 0))
 f_say_least:mg "say_least"=some (.ref (fs.getD 4 0))
 f_say_show:mg "say_show"=some (.ref (fs.getD 5 0))
 f_say_main:mg "say_main"=some (.ref (fs.getD 6 0))
 f_say_falls:mg "say_falls"=some (.ref (fs.getD 7 0))
 f_say_coal:mg "say_coal"=some (.ref (fs.getD 8 0))
 f_say_stretch:mg "say_stretch"=some (.ref (fs.getD 9 0))
section
variable {P : Program} {w : World} {K : Fgx} {mg : Str -> Option Value} {base : Heap} {M : Addr} {ds : List Addr} {CA DA NA SA : Addr} {fs : List Addr}
theorem UM:At ["numbers"] ["numbers"] (Ak waR):=Ax
theorem UN (F:Df K mg "numbers_text" waR ["numbers"]) (T:Tx mg)  :Fn P w K mg base 1 "numbers_text" ["numbers"] Fw:=by
 refine F.fn UM (λvs H Q E h=>?_) (λf cdv A outer s H vs Q E hr h=>?_)
 ·unfold Fw at h;split at h;rfl;exact h.elim
 refine⟨_,(Aj (Au (Ch K PySem.F.plainAttrs_str PySem.F.slot_str_join PySem.F.type_str_join Fa Ao (Al (A4 ["number"] [none] rfl (QN (BH K (cy 0)) (CZ K (cy 0))) (AH.of rfl) (λ_ _ _ _=>(Am 0 (AF (by rfl)))) (λ_ _ _ _=>A3) (λ_ _ _ _=>(Be EU rfl T.b_str DB (Al (cy 0))))))))),?_⟩;unfold Fw at h;split at h
 ·rename_i a;obtain⟨ns,ha,l10,n31,q⟩:=h;have fit:=Ft (sep:=" ") (l:=ns.map nT) (B:=40) (λx hx=>by
   obtain⟨n,hn,rfl⟩:=mem_map.mp hx;exact P3 (n31 n hn)) (by
    have e:(Str.ofString " ").length=1:=(by decide);rw [length_map,e];omega)
  have fin:∀(ys:List V) H',Ab H H'/\ys=((ns.take (ns.map V.int).length).map nT).map V.str->∀m,H' m=none->∃sep l ss,V.str " "= .str sep/\ [V.ref m]=[.ref l]/\upd H' m (.lst ys) l=some (.lst (List.map V.str ss))/\Builtin.Str.tooLong (ss.toArray.foldl (· + ·.length+sep.length) 0)=false/\(Cg sep ss).length<=sizeLine/\Q (.str (Cg sep ss)) (upd H' m (.lst ys)):=λys H' h m hm=>by
   refine⟨" ",m,ns.map nT,rfl,rfl,?_,fit.1,fit.2,q _ (h.1.trans (Ab.new hm))⟩;rw [Ae,h.2,length_map,take_of_length_le (Nat.le_refl _)]
  have turn:∀(k:Nat) (x:V) (ys:List V) (H':Hp),(ns.map V.int)[k]? =some x->(Ab H H'/\ys=((ns.take k).map nT).map V.str)->∃n:Int,x= .int n/\n.natAbs.log2<1920/\Ab H H'/\ys++[V.str (nT n)]=((ns.take (k+1)).map nT).map V.str:=λk x ys H' hx h=>by
   rw [getElem?_map] at hx;obtain⟨n,hn,rfl⟩:=Option.map_eq_some_iff.mp hx;exact⟨n,rfl,Jg (n31 n (mem_of_getElem? hn)),h.1,by rw [h.2,AY hn,map_append,map_append];rfl⟩
  refine⟨rfl,?_⟩;rcases ha with ha | ha
  ·refine .inl ⟨a,rfl,⟨_,Ag.of ha⟩,BF (xs:=ns.map V.int) (λk ys H'=>Ab H H'/\ys=((ns.take k).map nT).map V.str) (by rw [length_map];omega) ⟨Ab.refl _,rfl⟩ (λk ys H' h=>by rw [h.2,length_map,length_map,length_take];omega) (λk ys H' _ h=>Ag.of (h.1 _ _ ha)) (λk x ys H' hx h=>?_) (λys H' h=>fin ys H' h)⟩;obtain⟨n,rfl,q1,q2,q3⟩:=turn k x ys H' hx h;exact⟨trivial,λ_=>⟨n,rfl,q1,q2,q3⟩,λz=>by cases z⟩
  ·refine .inr ⟨a,rfl,⟨_,Ai.of ha⟩,Dy (xs:=ns.map V.int) (λk ys H'=>Ab H H'/\ys=((ns.take k).map nT).map V.str) (by rw [length_map];omega) ⟨Ab.refl _,rfl⟩ (λk ys H' h=>by rw [h.2,length_map,length_map,length_take];omega) (λk ys H' _ h=>Ai.of (h.1 _ _ ha)) (λk x ys H' hx h=>?_) (λys H' h=>fin ys H' h)⟩;obtain⟨n,rfl,q1,q2,q3⟩:=turn k x ys H' hx h;exact⟨trivial,λ_=>⟨n,rfl,q1,q2,q3⟩,λz=>by cases z⟩
 ·exact h.elim
theorem zac:At ["line","first","blank","text","words"] ["line"] (Ak waS):=Ax
theorem UO (F:Df K mg "read_line" waS ["line"]) (T:Tx mg) (C:Tc K mg M ds) (WK:Wc K CA) (DC:Dc P w K mg NA SA fs) (yab:Fn P w K mg base 1 "is_number_text" ["most","word"] F7):A7 P w K mg base 2 "read_line" ["line"] (Ij (ds.getD 17 0)):=by
 have WC:=WK.cls;obtain⟨t_MOST_WRITTEN,g_MOST_WRITTEN⟩:=T.g_MOST_WRITTEN;refine F.fnE zac (λvs H Q E h=>?_) (λf cdv A outer s H vs Q E hr h=>?_)
 ·unfold Ij at h;split at h;rfl;exact h.elim
 refine⟨_,(Ah (AT (BD (Bw (Ay E4 rfl T.b_isinstance boot_isinstance (Av (cy 0) (Ek (v:= .ty "str") rfl T.b_str DB rfl))))) (Aj (D8 isDef_cx rfl C.n_NoLine C.x_NoLine rfl (Al Ao))) A1) (Ah (Bk (Ch K PySem.F.plainAttrs_str PySem.F.slot_str_partition PySem.F.type_str_partition RP (cy 0) (Al Ao)) (AV K (n:=3) (Ar (Am 1 zac.nd) (Ar (Am 2 zac.nd) (Ar (Am 3 zac.nd) AQ))))) (Ah (AT (PW.pt (FQ (AU Cy (cy 1) Ao (AS _)) (Go (RT (cy 2))))) (Aj (Au (Cq (Av (cy 1) (CD (Al (cy 3))))))) A1) (Ah (AG (i:=4) zac.nd rfl (AC (by rfl)) (DT (Jh K) (Ch K PySem.F.plainAttrs_str PySem.F.slot_str_split PySem.F.type_str_split E9 (cy 0) (Al Ao)) (CW Af) FF)) (Ah (AT (PW.pt (E3 (AU (R8 DC.gN) (cy 1) (AO (v:= .ref NA) rfl DC.g_NUMBERS rfl) (by with_unfolding_all rfl)) (EO (AU Em (Ay (Bn K) rfl T.b_len PySem.boot_len (Al (cy 4))) (Mp DC.gN (AO (v:= .ref NA) rfl DC.g_NUMBERS rfl) (cy 1) (λ_ _=>rfl)) (AS _))))) (Aj (D8 isDef_cx rfl C.n_NoLine C.x_NoLine rfl (Al Ao))) A1) (Ah (AT (BD (Bw (Ay (DY rfl) rfl T.b_all boot_all (Al (A4 ["word"] [none] rfl (CZ K (cy 4)) (AH.of rfl) (λ_ _ _ _=>(Am 0 (AF (by rfl)))) (λ_ _ _ _=>A3) (λ_ _ _ _=>(An yab (hr.mono (by decide)) rfl (Av (AO (v:= .int 99) rfl g_MOST_WRITTEN ⟨t_MOST_WRITTEN,rfl⟩) (cy 0))))))))) (Aj (D8 isDef_cx rfl C.n_NoLine C.x_NoLine rfl (Al Ao))) A1) (Aj (Au (Cq (Av (cy 1) (A4 ["word"] [none] rfl (CZ K (cy 4)) (AH.of rfl) (λ_ _ _ _=>(Am 0 (AF (by rfl)))) (λ_ _ _ _=>A3) (λ_ _ _ _=>(Be LP rfl T.b_int L2.boot_int (Al (cy 0))))))))))))))),?_⟩;unfold Ij at h;split at h
 ·rename_i x;obtain⟨p,d,rd,ht,qE,qQ⟩:=h;refine⟨_,Aa.ty rd,.inr (.inr (.inr (.inr rfl))),⟨λc=>?_,λc=>?_⟩⟩
  ·refine⟨few rfl,qE ?_ H (Ab.refl _)⟩;cases d<;>first | rfl | cases c
  ·cases d<;>first | cases c | skip
   rename_i t;have tl:=ht t rfl;unfold Aa at rd;subst rd;have pD:By (.str t)=Cw t:=rfl;rw [pD] at qE qQ;unfold Cw at qE qQ;refine⟨rfl,t," ",rfl,rfl,by decide,Nat.le_trans (Nat.le_add_right _ 2) (EG tl),λu1 hu1=>?_⟩;have bl:(Bx t " ").2.1.length<=sizeLine:=by
    have z:(200000:Nat)+2<=sizeLine:=by decide
    unfold Bx;split
    ·exact Nat.le_trans (show(Str.ofString " ").length<=1 by decide) (by omega)
    ·exact Nat.zero_le _
   generalize Bx t " "=pt at qE qQ bl ⊢;obtain⟨a,b,cc⟩:=pt;dsimp only at qE qQ bl ⊢;have n1:=Ab.new (o:= .tup [V.str a,V.str b,V.str cc]) hu1;have k1:upd H u1 (.tup [V.str a,V.str b,V.str cc]) u1=some (.tup [V.str a,V.str b,V.str cc]):=Ae;generalize upd H u1 (.tup [V.str a,V.str b,V.str cc])=H1 at n1 k1 ⊢;refine⟨u1,_,rfl,Ag.of k1,rfl,_,_,rfl,_,_,rfl,_,_,rfl,rfl,?_⟩;have e0:decide (V.str a=V.str (Str.ofString "fire"))=decide (a=Str.ofString "fire"):=by
    by_cases z:a=Str.ofString "fire"
    ·rw [z];simp
    ·rw [decide_eq_false z,decide_eq_false λy=>z (V.str.inj y)]
   by_cases hf:a=Str.ofString "fire" /\b.length≠0
   ·rw [if_pos hf] at qE qQ;obtain⟨rfl,hb⟩:=hf;refine⟨rfl,⟨λ_=>⟨b,rfl,bl,⟨λ_=>?_,λc2=>?_⟩⟩,λc1=>?_⟩⟩
    ·intro l H2 s2 hl k2 u2 H3 s3 k3;exact qQ _ _ u2 l H3 rfl (n1.trans (s2.trans s3)) (n1.free hl) k3 (s3 _ _ k2)
    ·exfalso
     have:(b.length:Int)=0:=by simpa using c2
     omega
    ·rw [decide_eq_true rfl] at c1;cases c1
   ·rw [if_neg hf] at qE qQ;refine⟨rfl,⟨λc1=>⟨b,rfl,bl,⟨λc2=>?_,λ_=>?_⟩⟩,λ_=>⟨λz=>(by cases z),λ_=>?_⟩⟩⟩
    ·exfalso
     rw [e0] at c1;refine hf ⟨of_decide_eq_true c1,λz=>?_⟩;rw [z] at c2;simp at c2
    all_goals
     refine⟨rfl,t," ",rfl,rfl,by decide,EG tl,λl hl=>⟨1,rfl,l,_,rfl,Ai.of Ae,λl2 hl2=>?_⟩⟩;have n2:=(Ab.new (o:= .lst ((Az t " ").map V.str)) hl).trans (Ab.new (o:= .lst (Bi ((Az t " ").map V.str) (some 1) none)) hl2);have k2:upd (upd H1 l (.lst ((Az t " ").map V.str))) l2 (.lst (Bi ((Az t " ").map V.str) (some 1) none)) l2=some (.lst (((Az t " ").drop 1).map V.str)):=by rw [Ae,MY,map_drop]
     generalize upd (upd H1 l (.lst ((Az t " ").map V.str))) l2 (.lst (Bi ((Az t " ").map V.str) (some 1) none))=H2 at n2 k2 ⊢;generalize(Az t " ").drop 1=ws at qE qQ k2;have s2:=n1.trans n2;cases hk:C4 a with
     | none=>
      rw [hk] at qE;refine⟨.inr a,rfl,rfl,⟨λ_=>⟨λ_=>⟨few rfl,qE rfl H2 s2⟩,λz=>(by cases z)⟩,λz=>?_⟩⟩;rw [Ih,hk] at z;cases z
     | some k=>
      rw [hk] at qE qQ;dsimp only at qE qQ;have k3:=MZ hk;refine⟨.inr a,rfl,rfl,⟨λz=>?_,λ_=>⟨l2,_,rfl,.inl (Ai.of k2),.inr a,.int k,rfl,?_,rfl,⟨λc4=>?_,λc4=>?_⟩⟩⟩⟩
      ·rw [Ih,hk] at z;cases z
      ·rw [Ih,hk];rfl
      ·refine⟨few rfl,qE (if_neg λz=>?_) H2 s2⟩;rw [length_map,z.1] at c4;rw [decide_eq_true rfl] at c4;cases c4
      ·have lw:(ws.length:Int)=k:=by
        rw [length_map] at c4
        by_cases z:(ws.length:Int)=k
        ·exact z
        ·rw [decide_eq_false λy=>z (by injection y)] at c4;cases c4
       refine⟨l2,rfl,⟨_,Ai.of k2⟩,Dy (xs:=ws.map V.str) (λi zs H'=>Ab H2 H'/\zs=((ws.take i).map (A8 99)).map V.bl) (by rw [length_map];omega) ⟨Ab.refl _,rfl⟩ (λi zs H' h=>by rw [h.2,length_map,length_map,length_take];omega) (λi zs H' _ h=>Ai.of (h.1 _ _ k2)) (λi y zs H' hy h=>?_) (λzs H' h=>?_)⟩
       ·rw [getElem?_map] at hy;obtain⟨w0,hw0,rfl⟩:=Option.map_eq_some_iff.mp hy;refine⟨trivial,λ_=>⟨by decide,by decide,λb' H'' hb' s''=>⟨h.1.trans s'',?_⟩⟩,λz=>by cases z⟩;rw [h.2,AY hw0,map_append,map_append,hb'];rfl
       ·intro m hm;have s3:=h.1.trans (Ab.new (o:= .lst zs) hm);refine⟨m,ws.map (A8 99),rfl,by rw [Ae,h.2,length_map,take_of_length_le (Nat.le_refl _)],⟨λc5=>?_,λc5=>?_⟩⟩
        ·refine⟨few rfl,qE (if_neg λz=>?_) _ (s2.trans s3)⟩;have:((ws.map (A8 99)).all id)=true:=by rw [all_map];exact z.2
         rw [this] at c5;cases c5
        ·have al:ws.all (A8 99)=true:=by
          have e:((ws.map (A8 99)).all id)=ws.all (A8 99):=by rw [all_map];rfl
          rw [<-e];revert c5;cases(ws.map (A8 99)).all id<;>simp
         rw [if_pos ⟨lw,al⟩] at qQ;have k4:=s3 _ _ k2;generalize upd H' m (.lst zs)=H4 at s3 k4 ⊢;refine⟨l2,rfl,⟨_,Ai.of k4⟩,Dy (xs:=ws.map V.str) (λi zs H'=>Ab H4 H'/\zs=((ws.take i).map Ig).map V.int) (by rw [length_map];omega) ⟨Ab.refl _,rfl⟩ (λi zs H' h=>by rw [h.2,length_map,length_map,length_take];omega) (λi zs H' _ h=>Ai.of (h.1 _ _ k4)) (λi y zs H' hy h=>?_) (λzs H' h=>?_)⟩
         ·rw [getElem?_map] at hy;obtain⟨w0,hw0,rfl⟩:=Option.map_eq_some_iff.mp hy;obtain⟨n,hn,rfl,en⟩:=JR (all_eq_true.mp al w0 (mem_of_getElem? hw0));refine⟨trivial,λ_=>⟨n,rfl,by omega,by omega,h.1,?_⟩,λz=>by cases z⟩;rw [h.2,AY hw0,map_append,map_append,map_singleton,map_singleton,en]
         ·intro m2 hm2 u2 H5 s5 k5;have n6:=Ab.new (o:= .lst zs) hm2;have s6:=(s2.trans s3).trans (h.1.trans n6);refine qQ _ _ u2 m2 H5 rfl (s6.trans s5) (((s2.trans s3).trans h.1).free hm2) k5 (s5 _ _ ?_);rw [Ae,h.2,length_map,take_of_length_le (Nat.le_refl _)];rfl
 ·exact h.elim
theorem zad:At ["watch","parts","hour","boiler","amount","main"] ["watch","parts"] (Ak waI):=Ax
theorem UP (F:Df K mg "say_stoke" waI ["watch","parts"]) (T:Tx mg) (C:Tc K mg M ds) (WK:Wc K CA) (yaH:Mt (Bj P w) P w K mg base 14 CA "stoke" ["self","hour","boiler","amount"] (Ie ds CA)):A7 P w K mg base 15 "say_stoke" ["watch","parts"] (AZ ds CA "stoke"):=by
 have WC:=WK.cls;obtain⟨t_NOTHING,g_NOTHING⟩:=T.g_NOTHING;refine F.fnE zad (λvs H Q E h=>?_) (λf cdv A outer s H vs Q E hr h=>?_)
 ·unfold AZ at h;split at h;rfl;exact h.elim
 refine⟨_,(Ah (Bk (cy 1) (Se K (n:=3) (Ar (Am 2 zad.nd) (Ar (Am 3 zad.nd) (Ar (Am 4 zad.nd) AQ))))) (Ah (AG (i:=5) zad.nd rfl (AC (by rfl)) (Dk isDef_cx.passes WC yaH (hr.mono (by decide)) (cy 0) (AI (cy 2) (cy 3) (cy 4)))) (Aj (Au (Dg (AU IJ (cy 5) Ej (AS _)) (AO (v:= .str "-") rfl g_NOTHING ⟨t_NOTHING,rfl⟩) (Be EU rfl T.b_str DB (Al (cy 5)))))))),?_⟩;unfold AZ at h;split at h
 ·rename_i W B;obtain⟨p,L,P0,S,v,u,xs,Fs,F0,ps,wa,l90,hF,hB,sh,o⟩:=h;obtain⟨dx,hW⟩:=wa.at_;have fo:=wa.fok F0 (mem_of_getElem? hF);obtain⟨x,hx,rx⟩:=C3 wa.reps hF;have lFs:=wa.reps.len;rw [length_map] at lFs;have hFl:1<=Fs.length:=by
   have:=(List.getElem?_eq_some_iff.mp hF).1;omega
  obtain⟨ns,rfl,hl,h99⟩:=Ef sh (by decide) (k:=3) (by decide);obtain⟨a,b,c,rfl⟩:=UH (show ns.length=3 by omega);have a0:=(h99 a (by simp)).1;have b0:=(h99 b (by simp)).1;have c0:=(h99 c (by simp)).1;refine⟨B,_,rfl,Ai.of hB,rfl,_,_,rfl,_,_,rfl,_,_,rfl,rfl,?_⟩;refine⟨W,dx,_,rfl,hW,rfl,p,L,P0,S,v,u,xs,Fs,F0,.int a,.int b,.int c,wa,by omega,hF,Aa.int,Aa.int,Aa.int,λw1 H' s'=>o.no 3 H' (.hour a0 (JV w1 a0)) s',λw1 w2 H' s'=>o.no 4 H' (.boiler a0 (UF w1).2 b0 (JV w2 b0)) s',λi j ei ej hi hj=>⟨λw3 H' s'=>?_,λx ex x0 x1 B' k sg H' run e hL rB=>?_⟩⟩
  ·cases ei;cases ej;exact o.no 15 H' (.amount hi hj (UG w3 c0)) s'
  ·cases ei;cases ej;cases ex;have rr:=JW (λb ys g=>e.tup g) wa.reps rB;have fin:=o.ok _ _ _ H' (.stoke hi hj x0 x1 run) e hL rr;unfold JS at fin;have mb:=FV wa.ok (F:=BO F0 i j c) (S:=S) (k:=k) run.up;generalize elv:EI P0 S (BO F0 i j c) k=lv;unfold EI at elv
   by_cases hk:k=0
   ·rw [if_pos hk] at elv fin;subst elv;exact⟨rfl,⟨λ_=>fin,λz=>by cases z⟩⟩
   ·rw [if_neg hk] at elv fin;subst elv;refine⟨rfl,⟨λz=>(by cases z),λ_=>⟨_,rfl,?_,fin⟩⟩⟩;have h4:=wa.ok.h4;have l0:=wa.ok.lo0;exact Jg (Nat.lt_of_lt_of_le (show _<1000 by omega) (by decide))
 ·exact h.elim
theorem UQ:At ["watch","parts"] ["watch","parts"] (Ak waJ):=Ax
theorem UR (F:Df K mg "say_bank" waJ ["watch","parts"]) (T:Tx mg) (C:Tc K mg M ds) (WK:Wc K CA) (yaI:Mt (Bj P w) P w K mg base 4 CA "bank" ["self","hour"] (Id ds CA)):A7 P w K mg base 5 "say_bank" ["watch","parts"] (AZ ds CA "bank"):=by
 have WC:=WK.cls;obtain⟨t_DONE,g_DONE⟩:=T.g_DONE;refine F.fnE UQ (λvs H Q E h=>?_) (λf cdv A outer s H vs Q E hr h=>?_)
 ·unfold AZ at h;split at h;rfl;exact h.elim
 refine⟨_,(Ah (Ba (Dk isDef_cx.passes WC yaI (hr.mono (by decide)) (cy 0) (Al (AK (Bp K) (cy 1) Af (λ_ _=>rfl))))) (Aj (Au (AO (v:= .str "ok") rfl g_DONE ⟨t_DONE,rfl⟩)))),?_⟩;unfold AZ at h;split at h
 ·rename_i W B;obtain⟨p,L,P0,S,v,u,xs,Fs,F0,ps,wa,l90,hF,hB,sh,o⟩:=h;obtain⟨dx,hW⟩:=wa.at_;have fo:=wa.fok F0 (mem_of_getElem? hF);obtain⟨x,hx,rx⟩:=C3 wa.reps hF;have lFs:=wa.reps.len;rw [length_map] at lFs;have hFl:1<=Fs.length:=by
   have:=(List.getElem?_eq_some_iff.mp hF).1;omega
  obtain⟨ns,rfl,hl,h99⟩:=Ef sh (by decide) (k:=1) (by decide);obtain⟨a,rfl⟩:=UI (show ns.length=1 by omega);have a0:=(h99 a (by simp)).1;refine⟨W,dx,_,rfl,hW,rfl,B,_,0,.int a,rfl,rfl,Ai.of hB,rfl,p,L,P0,S,v,u,xs,Fs,F0,.int a,wa,by omega,hF,Aa.int,λw1 H' s'=>o.no 3 H' (.bank a0 (JV w1 a0)) s',λi ei hi B' H1 s1 rB=>?_⟩;cases ei;have hL1:=s1 _ _ wa.lst;have tv:TEv H1 (upd H1 L (.lst (xs++[.ref B']))):=TEv.upd hL1;exact o.ok _ _ _ _ (.bank hi) ((Ev.same s1).trans (Ev.pen hL1)) Ae (JW (λb ys g=>tv _ _ (s1 _ _ g)) wa.reps (Aa.tev tv _ _ (EJ _) rB))
 ·exact h.elim
theorem US:At ["watch","parts"] ["watch","parts"] (Ak waK):=Ax
theorem UT (F:Df K mg "say_fire" waK ["watch","parts"]) (T:Tx mg) (C:Tc K mg M ds) (WK:Wc K CA) (yaJ:Mt (Bj P w) P w K mg base 12 CA "take_over" ["self","firing"] (Ib ds CA)) (yaK:A7 P w K mg base 10 "firing_read" ["plant","story","text"] (HW (ds.getD 18 0))):A7 P w K mg base 13 "say_fire" ["watch","parts"] (AZ ds CA "fire"):=by
 have WC:=WK.cls;obtain⟨t_DONE,g_DONE⟩:=T.g_DONE;refine F.fnE US (λvs H Q E h=>?_) (λf cdv A outer s H vs Q E hr h=>?_)
 ·unfold AZ at h;split at h;rfl;exact h.elim
 refine⟨_,(Ah (Ba (Dk isDef_cx.passes WC yaJ (hr.mono (by decide)) (cy 0) (Al (Fb isDef_cx yaK (hr.mono (by decide)) rfl (AI (Bh (cy 0) rfl) (Bh (cy 0) rfl) (AK (Bp K) (cy 1) Af (λ_ _=>rfl))))))) (Aj (Au (AO (v:= .str "ok") rfl g_DONE ⟨t_DONE,rfl⟩)))),?_⟩;unfold AZ at h;split at h
 ·rename_i W B;obtain⟨p,L,P0,S,v,u,xs,Fs,F0,ps,wa,l90,hF,hB,sh,o⟩:=h;obtain⟨dx,hW⟩:=wa.at_;have fo:=wa.fok F0 (mem_of_getElem? hF);obtain⟨x,hx,rx⟩:=C3 wa.reps hF;have lFs:=wa.reps.len;rw [length_map] at lFs;have hFl:1<=Fs.length:=by
   have:=(List.getElem?_eq_some_iff.mp hF).1;omega
  obtain⟨t,rfl,tl⟩:=UE sh;refine⟨W,dx,_,rfl,hW,rfl,W,CA,dx,_,v,rfl,hW,WC,WK.nP,rfl,W,CA,dx,_,u,rfl,hW,WC,WK.nS,rfl,B,_,0,.str t,rfl,rfl,Ai.of hB,rfl,?_⟩;refine⟨p,P0,S,.str t,wa.ok,wa.so,wa.rv,wa.ru,Aa.str,λt' e=>by cases e;exact tl,λn H' a hr' s' ha hx=>o.tx n a H' (.fire hr') s' ha hx,λG H' b hr' s' rG=>?_⟩;have fG:=MW wa.ok hr';refine⟨p,L,P0,S,v,u,xs,Fs,FD G,wa.sameD s',by omega,rG,λz=>?_,λ_ H2 s2=>?_⟩
  ·rw [fireB_is.mpr ⟨G,rfl,fG⟩] at z;cases z
  ·have hL1:=s2 _ _ (s' _ _ wa.lst);have tv:TEv H2 (upd H2 L (.lst (xs++[.ref b]))):=TEv.upd hL1;exact o.ok _ _ _ _ (.fire hr') ((Ev.same (s'.trans s2)).trans (Ev.pen hL1)) Ae (JW (λb ys g=>tv _ _ ((s'.trans s2) _ _ g)) wa.reps (Aa.tev tv _ _ (EJ _) (Aa.ev (Ev.same s2) _ _ rG)))
 ·exact h.elim
theorem UU:At ["watch","parts"] ["watch","parts"] (Ak waL):=Ax
theorem UV (F:Df K mg "say_undo" waL ["watch","parts"]) (T:Tx mg) (C:Tc K mg M ds) (WK:Wc K CA) (yaL:Mt (Bj P w) P w K mg base 1 CA "undo" ["self"] (Ia ds CA)):A7 P w K mg base 2 "say_undo" ["watch","parts"] (AZ ds CA "undo"):=by
 have WC:=WK.cls;obtain⟨t_DONE,g_DONE⟩:=T.g_DONE;refine F.fnE UU (λvs H Q E h=>?_) (λf cdv A outer s H vs Q E hr h=>?_)
 ·unfold AZ at h;split at h;rfl;exact h.elim
 refine⟨_,(Ah (Ba (DM isDef_cx.passes WC yaL (hr.mono (by decide)) (cy 0))) (Aj (Au (AO (v:= .str "ok") rfl g_DONE ⟨t_DONE,rfl⟩)))),?_⟩;unfold AZ at h;split at h
 ·rename_i W B;obtain⟨p,L,P0,S,v,u,xs,Fs,F0,ps,wa,l90,hF,hB,sh,o⟩:=h;obtain⟨dx,hW⟩:=wa.at_;have fo:=wa.fok F0 (mem_of_getElem? hF);obtain⟨x,hx,rx⟩:=C3 wa.reps hF;have lFs:=wa.reps.len;rw [length_map] at lFs;have hFl:1<=Fs.length:=by
   have:=(List.getElem?_eq_some_iff.mp hF).1;omega
  obtain⟨ns,rfl,hl,h99⟩:=Ef sh (by decide) (k:=0) (by decide);obtain rfl:ns=[]:=eq_nil_of_length_eq_zero (by omega);refine⟨W,dx,_,rfl,hW,rfl,L,v,u,xs,⟨dx,hW⟩,wa.lst,by omega,by omega,λe1=>o.no 16 H (.undo (by omega)) (Ab.refl _),λe1=>?_⟩;have tv:TEv H (upd H L (.lst xs.dropLast)):=TEv.upd wa.lst;refine o.ok _ _ _ _ (.undo (by omega)) (Ev.pen wa.lst) Ae ?_;have r:=Ad.tev (p':=p) tv _ _ (Ct λd hd=>by
   obtain⟨G,_,rfl⟩:=mem_map.mp (mem_of_mem_take hd);exact EJ G) (Ad.takeB (xs.length-1) wa.reps)
  rw [<-List.dropLast_eq_take (l:=xs)] at r;have e:Fs.dropLast.map FD=(Fs.map FD).take (xs.length-1):=by rw [List.map_dropLast,List.dropLast_eq_take,length_map,lFs]
  rw [e];exact r
 ·exact h.elim
theorem UW:At ["watch","parts"] ["watch","parts"] (Ak waM):=Ax
theorem UX (F:Df K mg "say_show" waM ["watch","parts"]) (T:Tx mg) (C:Tc K mg M ds) (WK:Wc K CA) (ya3:Mt CX0 P w K mg base 1 CA "kept_firing" ["self"] (Do CA)) (yaM:Fn P w K mg base 12 "firing_text" ["plant","story","firing"] HU):A7 P w K mg base 13 "say_show" ["watch","parts"] (AZ ds CA "show"):=by
 have WC:=WK.cls;refine F.fnE UW (λvs H Q E h=>?_) (λf cdv A outer s H vs Q E hr h=>?_)
 ·unfold AZ at h;split at h;rfl;exact h.elim
 refine⟨_,(Aj (Au (An yaM (hr.mono (by decide)) rfl (AI (Bh (cy 0) rfl) (Bh (cy 0) rfl) (DM Ce WC ya3 (hr.mono (by decide)) (cy 0)))))),?_⟩;unfold AZ at h;split at h
 ·rename_i W B;obtain⟨p,L,P0,S,v,u,xs,Fs,F0,ps,wa,l90,hF,hB,sh,o⟩:=h;obtain⟨dx,hW⟩:=wa.at_;have fo:=wa.fok F0 (mem_of_getElem? hF);obtain⟨x,hx,rx⟩:=C3 wa.reps hF;have lFs:=wa.reps.len;rw [length_map] at lFs;have hFl:1<=Fs.length:=by
   have:=(List.getElem?_eq_some_iff.mp hF).1;omega
  obtain⟨ns,rfl,hl,h99⟩:=Ef sh (by decide) (k:=0) (by decide);obtain rfl:ns=[]:=eq_nil_of_length_eq_zero (by omega);exact⟨W,CA,dx,_,v,rfl,hW,WC,WK.nP,rfl,W,CA,dx,_,u,rfl,hW,WC,WK.nS,rfl,W,dx,_,rfl,hW,rfl,L,v,u,xs,x,⟨dx,hW⟩,wa.lst,hx,p,P0,S,F0,⟨wa.ok,wa.so,fo,wa.rv,wa.ru,rx⟩,λH' s'=>o.ok _ _ _ H' .show (Ev.same s') (s' _ _ wa.lst) (Ad.ev (Ev.same s') _ _ wa.reps)⟩
 ·exact h.elim
theorem zax:At ["watch","parts","rows"] ["watch","parts"] (Ak waN):=Ax
theorem UY (F:Df K mg "say_main" waN ["watch","parts"]) (T:Tx mg) (C:Tc K mg M ds) (WK:Wc K CA) (ya3:Mt CX0 P w K mg base 1 CA "kept_firing" ["self"] (Do CA)) (yaf:Fn P w K mg base 13 "course" ["plant","story","firing"] F6) (ya6:Fn P w K mg base 1 "numbers_text" ["numbers"] Fw):A7 P w K mg base 14 "say_main" ["watch","parts"] (AZ ds CA "main"):=by
 have WC:=WK.cls;refine F.fnE zax (λvs H Q E h=>?_) (λf cdv A outer s H vs Q E hr h=>?_)
 ·unfold AZ at h;split at h;rfl;exact h.elim
 refine⟨_,(Ah (AG (i:=2) zax.nd rfl (AC (by rfl)) (An yaf (hr.mono (by decide)) rfl (AI (Bh (cy 0) rfl) (Bh (cy 0) rfl) (DM Ce WC ya3 (hr.mono (by decide)) (cy 0))))) (Aj (Au (Dg (Jo (cy 2)) (An ya6 (hr.mono (by decide)) rfl (Al (A4 ["made","drawn","blown","main"] [none,none,none,none] rfl (CZ K (cy 2)) (AH.of rfl) (λ_ _ _ _=>(AV K (n:=4) (Ar (Am 0 (AF (by rfl))) (Ar (Am 1 (AF (by rfl))) (Ar (Am 2 (AF (by rfl))) (Ar (Am 3 (AF (by rfl))) AQ)))))) (λ_ _ _ _=>A3) (λ_ _ _ _=>(cy 3))))) Ao)))),?_⟩;unfold AZ at h;split at h
 ·rename_i W B;obtain⟨p,L,P0,S,v,u,xs,Fs,F0,ps,wa,l90,hF,hB,sh,o⟩:=h;obtain⟨dx,hW⟩:=wa.at_;have fo:=wa.fok F0 (mem_of_getElem? hF);obtain⟨x,hx,rx⟩:=C3 wa.reps hF;have lFs:=wa.reps.len;rw [length_map] at lFs;have hFl:1<=Fs.length:=by
   have:=(List.getElem?_eq_some_iff.mp hF).1;omega
  obtain⟨ns,rfl,hl,h99⟩:=Ef sh (by decide) (k:=0) (by decide);obtain rfl:ns=[]:=eq_nil_of_length_eq_zero (by omega);have x8:=wa.so.x8;refine⟨W,CA,dx,_,v,rfl,hW,WC,WK.nP,rfl,W,CA,dx,_,u,rfl,hW,WC,WK.nS,rfl,W,dx,_,rfl,hW,rfl,L,v,u,xs,x,⟨dx,hW⟩,wa.lst,hx,p,P0,S,F0,⟨wa.ok,wa.so,fo,wa.rv,wa.ru,rx⟩,λR H1 k sg rs run s1 hR kR rR=>?_⟩;have kle:=run.le;have lr:=rR.len;rw [Jn] at lr;have fin:∀H',Ab H H'->Q (.str (Ii P0 S F0 k)) H':=λH' s'=>o.ok _ _ _ H' (.main run) (Ev.same s') (s' _ _ wa.lst) (Ad.ev (Ev.same s') _ _ wa.reps)
  unfold Ii at fin;refine⟨R,rs,rfl,kR,⟨λc=>?_,λc=>?_⟩⟩
  ·have k0:k≠0:=λz=>by
    have:rs=[]:=eq_nil_of_length_eq_zero (by omega);rw [this] at c;cases c
   rw [if_neg k0] at fin;refine⟨R,rfl,⟨_,Ai.of kR⟩,Dy (xs:=rs) (λi ys H'=>Ab H1 H'/\ys=((List.range i).map λi=>A6 P0 S F0 (i+1)).map V.int) (by omega) ⟨Ab.refl _,rfl⟩ (λi ys H' h=>by rw [h.2,length_map,length_map,length_range];exact Nat.le_refl _) (λi ys H' _ h=>Ai.of (h.1 _ _ kR)) (λi y ys H' hy h=>?_) (λys H' h=>?_)⟩
   ·have hi:i<k:=by have:=(List.getElem?_eq_some_iff.mp hy).1;omega
    obtain⟨d,hd,rd⟩:=rR.got hy;have ed:d=FS P0 S F0 i:=by
     unfold C1 at hd;rw [getElem?_map,getElem?_range hi] at hd;exact(Option.some.inj hd).symm
    subst ed;obtain⟨TA,ts,rfl,hT,rt⟩:=Aa.shape rd;obtain⟨y1,y2,y3,y4,rfl,r1,r2,r3,r4⟩:=Ad.four rt;unfold Aa at r4;subst r4;refine⟨TA,_,rfl,Ag.of (h.1 _ _ hT),rfl,_,_,rfl,_,_,rfl,_,_,rfl,_,_,rfl,rfl,trivial,λ_=>⟨h.1,?_⟩,λz=>by cases z⟩;rw [h.2,range_succ,map_append,map_append];rfl
   ·intro m hm;refine⟨(List.range k).map λi=>A6 P0 S F0 (i+1),.inr ?_,by rw [length_map,length_range];omega,λn hn=>?_,λH' s'=>fin H' (s1.trans (h.1.trans ((Ab.new hm).trans s')))⟩
    ·rw [Ae,h.2,<-lr]
    ·obtain⟨i,hi,rfl⟩:=mem_map.mp hn;have hik:=mem_range.mp hi;have m1:=FV wa.ok (F:=F0) (S:=S) (k:=i+1) λj hj=>run.up j (by omega)
     have h4:=wa.ok.h4;have l0:=wa.ok.lo0;exact Nat.lt_of_lt_of_le (show _<1000 by omega) (by decide)
  ·have k0:k=0:=by
    cases rs with
    | nil=>exact lr
    | cons _ _=>cases c
   rw [if_pos k0] at fin;exact fin H1 s1
 ·exact h.elim
theorem zay:At ["watch","parts","fall"] ["watch","parts"] (Ak waO):=Ax
theorem UZ (F:Df K mg "say_falls" waO ["watch","parts"]) (T:Tx mg) (C:Tc K mg M ds) (WK:Wc K CA) (ya3:Mt CX0 P w K mg base 1 CA "kept_firing" ["self"] (Do CA)) (yaN:Fn P w K mg base 13 "falls_at" ["plant","story","firing"] HI) (ya6:Fn P w K mg base 1 "numbers_text" ["numbers"] Fw):A7 P w K mg base 14 "say_falls" ["watch","parts"] (AZ ds CA "falls"):=by
 have WC:=WK.cls;obtain⟨t_NOTHING,g_NOTHING⟩:=T.g_NOTHING;refine F.fnE zay (λvs H Q E h=>?_) (λf cdv A outer s H vs Q E hr h=>?_)
 ·unfold AZ at h;split at h;rfl;exact h.elim
 refine⟨_,(Ah (AG (i:=2) zay.nd rfl (AC (by rfl)) (An yaN (hr.mono (by decide)) rfl (AI (Bh (cy 0) rfl) (Bh (cy 0) rfl) (DM Ce WC ya3 (hr.mono (by decide)) (cy 0))))) (Aj (Au (Dg (AU IJ (cy 2) Ej (AS _)) (AO (v:= .str "-") rfl g_NOTHING ⟨t_NOTHING,rfl⟩) (An ya6 (hr.mono (by decide)) rfl (Al (cy 2))))))),?_⟩;unfold AZ at h;split at h
 ·rename_i W B;obtain⟨p,L,P0,S,v,u,xs,Fs,F0,ps,wa,l90,hF,hB,sh,o⟩:=h;obtain⟨dx,hW⟩:=wa.at_;have fo:=wa.fok F0 (mem_of_getElem? hF);obtain⟨x,hx,rx⟩:=C3 wa.reps hF;have lFs:=wa.reps.len;rw [length_map] at lFs;have hFl:1<=Fs.length:=by
   have:=(List.getElem?_eq_some_iff.mp hF).1;omega
  obtain⟨ns,rfl,hl,h99⟩:=Ef sh (by decide) (k:=0) (by decide);obtain rfl:ns=[]:=eq_nil_of_length_eq_zero (by omega);refine⟨W,CA,dx,_,v,rfl,hW,WC,WK.nP,rfl,W,CA,dx,_,u,rfl,hW,WC,WK.nS,rfl,W,dx,_,rfl,hW,rfl,L,v,u,xs,x,⟨dx,hW⟩,wa.lst,hx,p,P0,S,F0,⟨wa.ok,wa.so,fo,wa.rv,wa.ru,rx⟩,λsv H1 k sg run s1 rs=>?_⟩;have fin:∀H',Ab H H'->Q (.str (JT sg)) H':=λH' s'=>o.ok _ _ _ H' (.falls run) (Ev.same s') (s' _ _ wa.lst) (Ad.ev (Ev.same s') _ _ wa.reps)
  have sm:=Qm wa.ok wa.so fo run;cases sg with
  | none=>
   have rs':sv= .non:=rs;subst rs';exact⟨rfl,⟨λ_=>fin H1 s1,λz=>by cases z⟩⟩
  | some q=>
   obtain⟨q1,q2⟩:=q;obtain⟨TA,ts,rfl,hT,rt⟩:=Aa.shape (ds:=[.int q1,.int q2]) rs;obtain⟨y1,y2,rfl,r1,r2⟩:=Ad.two rt;unfold Aa at r1 r2;subst r1 r2;refine⟨rfl,⟨λz=>(by cases z),λ_=>⟨[q1,q2],.inl hT,(show 2<=10 from by decide),λn hn=>?_,λH' s'=>fin H' (s1.trans s')⟩⟩⟩;refine UJ (ds:=[.int q1,.int q2]) sm (by decide) ?_;simp only [mem_cons,not_mem_nil,or_false] at hn ⊢;rcases hn with rfl | rfl
   ·exact .inl rfl
   ·exact .inr rfl
 ·exact h.elim
theorem U0:At ["watch","parts"] ["watch","parts"] (Ak waP):=Ax
theorem U1 (F:Df K mg "say_coal" waP ["watch","parts"]) (T:Tx mg) (C:Tc K mg M ds) (WK:Wc K CA) (ya3:Mt CX0 P w K mg base 1 CA "kept_firing" ["self"] (Do CA)) (yaO:Fn P w K mg base 13 "coal_of" ["plant","story","firing"] HM):A7 P w K mg base 14 "say_coal" ["watch","parts"] (AZ ds CA "coal"):=by
 have WC:=WK.cls;refine F.fnE U0 (λvs H Q E h=>?_) (λf cdv A outer s H vs Q E hr h=>?_)
 ·unfold AZ at h;split at h;rfl;exact h.elim
 refine⟨_,(Aj (Au (Be EU rfl T.b_str DB (Al (An yaO (hr.mono (by decide)) rfl (AI (Bh (cy 0) rfl) (Bh (cy 0) rfl) (DM Ce WC ya3 (hr.mono (by decide)) (cy 0)))))))),?_⟩;unfold AZ at h;split at h
 ·rename_i W B;obtain⟨p,L,P0,S,v,u,xs,Fs,F0,ps,wa,l90,hF,hB,sh,o⟩:=h;obtain⟨dx,hW⟩:=wa.at_;have fo:=wa.fok F0 (mem_of_getElem? hF);obtain⟨x,hx,rx⟩:=C3 wa.reps hF;have lFs:=wa.reps.len;rw [length_map] at lFs;have hFl:1<=Fs.length:=by
   have:=(List.getElem?_eq_some_iff.mp hF).1;omega
  obtain⟨ns,rfl,hl,h99⟩:=Ef sh (by decide) (k:=0) (by decide);obtain rfl:ns=[]:=eq_nil_of_length_eq_zero (by omega);have cb:=UA wa.ok wa.so fo;exact⟨W,CA,dx,_,v,rfl,hW,WC,WK.nP,rfl,W,CA,dx,_,u,rfl,hW,WC,WK.nS,rfl,W,dx,_,rfl,hW,rfl,L,v,u,xs,x,⟨dx,hW⟩,wa.lst,hx,p,P0,S,F0,⟨wa.ok,wa.so,fo,wa.rv,wa.ru,rx⟩,λH' s'=>⟨_,rfl,Jg (Nat.lt_of_lt_of_le (show _<10000 by omega) (by decide)),o.ok _ _ _ H' .coal (Ev.same s') (s' _ _ wa.lst) (Ad.ev (Ev.same s') _ _ wa.reps)⟩⟩
 ·exact h.elim
theorem zaz:At ["watch","parts","stretch"] ["watch","parts"] (Ak waQ):=Ax
theorem U2 (F:Df K mg "say_stretch" waQ ["watch","parts"]) (T:Tx mg) (C:Tc K mg M ds) (WK:Wc K CA) (yaP:Fn P w K mg base 11 "stretch_of" ["plant","story"] HR) (ya6:Fn P w K mg base 1 "numbers_text" ["numbers"] Fw):A7 P w K mg base 12 "say_stretch" ["watch","parts"] (AZ ds CA "stretch"):=by
 have WC:=WK.cls;obtain⟨t_NOTHING,g_NOTHING⟩:=T.g_NOTHING;refine F.fnE zaz (λvs H Q E h=>?_) (λf cdv A outer s H vs Q E hr h=>?_)
 ·unfold AZ at h;split at h;rfl;exact h.elim
 refine⟨_,(Ah (AG (i:=2) zaz.nd rfl (AC (by rfl)) (An yaP (hr.mono (by decide)) rfl (Av (Bh (cy 0) rfl) (Bh (cy 0) rfl)))) (Aj (Au (Dg (AU IJ (cy 2) Ej (AS _)) (AO (v:= .str "-") rfl g_NOTHING ⟨t_NOTHING,rfl⟩) (An ya6 (hr.mono (by decide)) rfl (Al (cy 2))))))),?_⟩;unfold AZ at h;split at h
 ·rename_i W B;obtain⟨p,L,P0,S,v,u,xs,Fs,F0,ps,wa,l90,hF,hB,sh,o⟩:=h;obtain⟨dx,hW⟩:=wa.at_;have fo:=wa.fok F0 (mem_of_getElem? hF);obtain⟨x,hx,rx⟩:=C3 wa.reps hF;have lFs:=wa.reps.len;rw [length_map] at lFs;have hFl:1<=Fs.length:=by
   have:=(List.getElem?_eq_some_iff.mp hF).1;omega
  obtain⟨ns,rfl,hl,h99⟩:=Ef sh (by decide) (k:=0) (by decide);obtain rfl:ns=[]:=eq_nil_of_length_eq_zero (by omega);refine⟨W,CA,dx,_,v,rfl,hW,WC,WK.nP,rfl,W,CA,dx,_,u,rfl,hW,WC,WK.nS,rfl,p,P0,S,wa.ok,wa.so,wa.rv,wa.ru,λsv H1 s1 rs=>?_⟩;have fin:∀H',Ab H H'->Q (.str (JU (DJ (terms P0 S)))) H':=λH' s'=>o.ok _ _ _ H' .stretch (Ev.same s') (s' _ _ wa.lst) (Ad.ev (Ev.same s') _ _ wa.reps)
  have bd:=UK wa.so (P:=P0);cases e:DJ (terms P0 S) with
  | none=>
   rw [e] at rs fin;have rs':sv= .non:=rs;subst rs';exact⟨rfl,⟨λ_=>fin H1 s1,λz=>by cases z⟩⟩
  | some q=>
   rw [e] at rs fin;obtain⟨q1,q2⟩:=q;have b:=bd _ e;obtain⟨TA,ts,rfl,hT,rt⟩:=Aa.shape (ds:=[.int (q1:Int),.int (q2:Int)]) rs;obtain⟨y1,y2,rfl,r1,r2⟩:=Ad.two rt;unfold Aa at r1 r2;subst r1 r2;refine⟨rfl,⟨λz=>(by cases z),λ_=>⟨[(q1:Int),(q2:Int)],.inl hT,(show 2<=10 from by decide),λn hn=>?_,λH' s'=>fin H' (s1.trans s')⟩⟩⟩;simp only [mem_cons,not_mem_nil,or_false] at hn;refine Nat.lt_of_lt_of_le (show _<1000 from ?_) (by decide);rcases hn with rfl | rfl<;>(dsimp only at b;omega)
 ·exact h.elim
theorem U3:At ["self","plant","story"] ["self","plant","story"] (Ak s_Desk___init__):=Ax
theorem U4 (F:Di K mg "Desk" DA "Desk.__init__" s_Desk___init__ ["self","plant","story"]) (T:Tx mg) (DK:Ik K DA) (yaQ:Ms P w K mg base 10 "Watch" CA ["self","plant","story"] (sp_init CA)):Ms P w K mg base 12 "Desk" DA ["self","plant","story"] (Il CA DA):=by
 have WC:=DK.cls;refine F.fn U3 (λvs H Q E h=>?_) (λf cdv A outer s H vs Q E hr h=>?_)
 ·unfold Il at h;split at h;rfl;exact h.elim
 refine⟨_,(Aj (Gu (cy 0) (L8 yaQ (hr.mono (by decide)) rfl (Av (cy 1) (cy 2))) rfl)),?_⟩;unfold Il at h;split at h
 ·rename_i D v u;obtain⟨p,P0,S,dx,ok,so,rv,ru,hD,q⟩:=h;intro W dxW hW0 hdx ne;have s1:Ab H (upd (upd H dxW (.own W)) W (.ins CA dxW [])):=(Ab.new hdx).trans (Ab.new (by rw [Aq (Ne.symm ne)];exact hW0));have nDW:D≠W:=λz=>by rw [z,hW0] at hD;cases hD
  refine⟨p,P0,S,dxW,ok,so,Aa.ev (Ev.same s1) _ _ rv,Aa.ev (Ev.same s1) _ _ ru,Ae,λL B H' keep wat hL0 hL rB=>⟨rfl,?_⟩⟩;have hD':=keep _ _ (s1 _ _ hD) nDW;have nL:=s1.free hL0;have nLD:L≠D:=λz=>by rw [z,hD] at nL;cases nL
  have tv:TEv H' (upd H' D (.ins DA dx [("watch",.ref W)])):=λb ys g=>by
   rw [Aq (λz=>by rw [z,hD'] at g;cases g)];exact g
  refine⟨D,DA,dx,[],rfl,hD',DK.cls,DK.nW,by decide,q W L B _ (λb o hb hbD=>?_) ⟨dx,Ae⟩ ?_ nL ?_ ?_⟩
  ·show upd H' D _ b=_;rw [Aq hbD];exact keep _ _ (s1 _ _ hb) λz=>by rw [z,hW0] at hb;cases hb
  ·obtain⟨dx',h⟩:=wat;refine⟨dx',?_⟩;show upd H' D _ W=_;rw [Aq (Ne.symm nDW)];exact h
  ·show upd H' D _ L=_;rw [Aq nLD];exact hL
  ·exact Aa.tev tv _ _ (EJ _) rB
 ·exact h.elim
theorem zaj:At ["self","line","first","parts","saying"] ["self","line"] (Ak s_Desk_say):=Ax
theorem U5 (F:Dm K DA "say" "Desk.say" s_Desk_say ["self","line"]) (T:Tx mg) (DK:Ik K DA) (C:Tc K mg M ds) (DC:Dc P w K mg NA SA fs) (yaR:A7 P w K mg base 2 "read_line" ["line"] (Ij (ds.getD 17 0))) (yaS:A7 P w K mg base 15 "say_stoke" ["watch","parts"] (AZ ds CA "stoke")) (yaT:A7 P w K mg base 5 "say_bank" ["watch","parts"] (AZ ds CA "bank")) (yaU:A7 P w K mg base 13 "say_fire" ["watch","parts"] (AZ ds CA "fire")) (yaV:A7 P w K mg base 2 "say_undo" ["watch","parts"] (AZ ds CA "undo")) (yaW:A7 P w K mg base 13 "say_show" ["watch","parts"] (AZ ds CA "show")) (yaX:A7 P w K mg base 14 "say_main" ["watch","parts"] (AZ ds CA "main")) (yaY:A7 P w K mg base 14 "say_falls" ["watch","parts"] (AZ ds CA "falls")) (yaZ:A7 P w K mg base 14 "say_coal" ["watch","parts"] (AZ ds CA "coal")) (yb0:A7 P w K mg base 12 "say_stretch" ["watch","parts"] (AZ ds CA "stretch")):Mt (Bj P w) P w K mg base 16 DA "say" ["self","line"] (EK ds CA DA):=by
 have WC:=DK.cls;refine F.fnE zaj (λvs H Q E h=>?_) (λf cdv A outer s H vs Q E hr h=>?_)
 ·unfold EK at h;split at h;rfl;exact h.elim
 refine⟨_,(Ah (Bk (Fb isDef_cx yaR (hr.mono (by decide)) rfl (Al (cy 1))) (AV K (n:=2) (Ar (Am 2 zaj.nd) (Ar (Am 3 zaj.nd) AQ)))) (Ah (AG (i:=4) zaj.nd rfl (AC (by rfl)) (Mp DC.gS (AO (v:= .ref SA) rfl DC.g_SAYINGS rfl) (cy 2) (λ_ _=>rfl))) (Aj (Au (Sa (k:=15) (i:=4) isDef_cx rfl (by first | exact Or.inl rfl | exact Or.inr (Or.inl rfl) | exact Or.inr (Or.inr rfl)) (hr.mono (by decide)) (Av (Bh (cy 0) rfl) (cy 3))))))),?_⟩;unfold EK at h;split at h
 ·rename_i D x;obtain⟨p,L,P0,S,v,u,xs,Fs,F0,W,d,dx,hD,wa,l90,hF,rd,ht,nl,qE,qO⟩:=h;refine⟨p,d,rd,ht,λhn H' s'=>qE hn H' s',λf ps b c H' hp s' hc hb hcl=>?_⟩;have sh:Fv f ps:=by
   cases d<;>first | cases hp | exact UD hp (ht _ rfl)
  have nl':=nl f ps hp;have o:=(qO f ps hp).same s';have at_:∃fa,Cr (JQ fs) (.inr f)=some (.ref fa)/\JB P w K mg base 15 fa (AZ ds CA f):=by
   have hm:=UL sh;simp only [mem_cons,not_mem_nil,or_false] at hm;rcases hm with rfl | rfl | rfl | rfl | rfl | rfl | rfl | rfl | rfl | rfl
   ·exact⟨_,rfl,yaU.at DC.f_say_fire (by decide)⟩
   ·exact⟨_,rfl,yaS.at DC.f_say_stoke (by decide)⟩
   ·exact⟨_,rfl,yaT.at DC.f_say_bank (by decide)⟩
   ·exact⟨_,rfl,yaV.at DC.f_say_undo (by decide)⟩
   ·exact absurd rfl nl'
   ·exact⟨_,rfl,yaW.at DC.f_say_show (by decide)⟩
   ·exact⟨_,rfl,yaX.at DC.f_say_main (by decide)⟩
   ·exact⟨_,rfl,yaY.at DC.f_say_falls (by decide)⟩
   ·exact⟨_,rfl,yaZ.at DC.f_say_coal (by decide)⟩
   ·exact⟨_,rfl,yb0.at DC.f_say_stretch (by decide)⟩
  obtain⟨fa,hfa,FA⟩:=at_;exact⟨b,_,rfl,Ag.of hb,rfl,_,_,rfl,_,_,rfl,rfl,.inr f,.ref fa,rfl,hfa,fa,_,rfl,FA,D,DA,dx,_,.ref W,rfl,s' _ _ hD,WC,DK.nW,rfl,p,L,P0,S,v,u,xs,Fs,F0,ps,wa.sameD s',l90,hF,hcl,sh,o⟩
 ·exact h.elim
end
end MF
end
section
namespace MF
open L2
variable {xs : List V} {g : Int} {p : Addr} {H H' H2 : Hp} {ws w2 : List Str}
theorem U6 (h0:0<=g) (h1:g<xs.length):∃(j:Nat) (v:V),xs[j]? =some v/\BT xs g=some v:=by
 have hk:g.toNat<xs.length:=by omega
 have e:g=((g.toNat:Nat):Int):=by omega
 refine⟨g.toNat,xs[g.toNat],by simp [hk],?_⟩;have q:BT xs ((g.toNat:Nat):Int)=some xs[g.toNat]:=Cb (by simp [hk]);rw [<-e] at q;exact q
theorem U7 {ds:List PyData} (r:Ad p H ds xs) (h0:0<=g) (h1:g<xs.length):∃v d,BT xs g=some v/\d∈ds/\Aa p H d v:=by
 obtain⟨j,v,hj,hv⟩:=U6 h0 h1;obtain⟨d,hd,rd⟩:=r.got hj;exact⟨v,d,hv,mem_of_getElem? hd,rd⟩
def Gf:List PyData:=[.none,.bool true,.int 7,.str "0",.str "",.list [],.dict [],.tuple [],.tuple [.int 0],.int (-1),.tuple [.int 0,.int 0],.list [.int 0],.bool false,.tuple [.tuple []],.tuple [.tuple [.int 0],.tuple []],.int 41,.int (10 ^ 30)]
def Im:Sp:=λvs H Q _=>match vs with | [.ref p]=>A5 p H/\∀v H' d,Aa p H' d v->d∈Gf->Ev p H H'->A5 p H'->Q v H' | _=>False
def JX (F:List (List Int)):Prop:=F.length<=8/\∀r∈F,r.length<=4/\∀n∈r,0<=n/\n<=9
def Io:Sp:=λvs H Q _=>match vs with | [x]=>∃p F,JX F/\Aa p H (FD F) x/\∀H',Ab H H'->Q (.str (CP F)) H' | _=>False
theorem JY {ss:List Str}{g:Int} (h0:0<=g) (h1:g<(ss.length:Int)):∃s,s∈ss/\BT (ss.map V.str) g=some (.str s):=by
 obtain⟨i,rfl⟩:=Int.eq_ofNat_of_zero_le h0;have hi:i<ss.length:=by omega
 exact⟨ss[i],getElem_mem hi,Cb (by rw [getElem?_map,getElem?_eq_getElem hi];rfl)⟩
theorem M0 {F:List (List Int)} (h:JX F):(CP F).length<=392:=by
 have e:(Str.ofString "/").length=1:=by decide
 have:=HV (sep:="/") (l:=F.map Bs) (B:=48) λx hx=>by
  obtain⟨r,hr,rfl⟩:=mem_map.mp hx;obtain⟨a,b⟩:=h.2 r hr;exact JJ b a
 rw [length_map,e] at this;have f8:=h.1;unfold CP;omega
theorem Gg (sep:Str):∀l:List Str,Cg sep l=Str.join sep l
 | []=>by unfold Cg;exact StrLaws.glued_eq_join sep []
 | [x]=>rfl
 | x::y::r=>StrLaws.glued_eq_join sep (x::y::r)
theorem U8 (x y:Str):Az x y=PySem.Txt.split x y:=rfl
theorem Gh {c:Nat}:∀ {a b u v:List Nat},c ∉ a->c ∉ b->a++c::u=b++c::v->a=b/\u=v
 | [],[],u,v,_,_,h=>⟨rfl,(List.cons.inj h).2⟩
 | [],y::b,u,v,_,hb,h=>absurd (mem_cons.mpr (.inl (List.cons.inj h).1)) hb
 | x::a,[],u,v,ha,_,h=>absurd (mem_cons.mpr (.inl (List.cons.inj h).1.symm)) ha
 | x::a,y::b,u,v,ha,hb,h=>by
  obtain⟨e1,e2⟩:=List.cons.inj h;obtain⟨e3,e4⟩:=Gh (λz=>ha (mem_cons_of_mem _ z)) (λz=>hb (mem_cons_of_mem _ z)) e2;exact⟨by rw [e1,e3],e4⟩
theorem Eg (c:Nat) (x y:Str) (r:List Str):(Str.join ⟨#[c]⟩ (x::y::r)).cps.toList=x.cps.toList++c::(Str.join ⟨#[c]⟩ (y::r)).cps.toList:=by
 show(x.cps++ #[c]++(Str.join ⟨#[c]⟩ (y::r)).cps).toList=_;rw [Array.toList_append,Array.toList_append,append_assoc]
 rfl
theorem M3 {c:Nat}:∀ {ps qs:List Str},ps≠ []->qs≠ []->(∀p∈ps,c ∉ p.cps.toList)->(∀q∈qs,c ∉ q.cps.toList)->Str.join ⟨#[c]⟩ ps=Str.join ⟨#[c]⟩ qs->ps=qs
 | [],_,h,_,_,_,_=>absurd rfl h
 | _::_,[],_,h,_,_,_=>absurd rfl h
 | [x],[y],_,_,_,_,h=>by rw [show x=y from h]
 | [x],y::z::r,_,_,hp,_,h=>by
  exfalso
  have e:x.cps.toList=y.cps.toList++c::(Str.join ⟨#[c]⟩ (z::r)).cps.toList:=by rw [<-Eg,<-h];rfl
  exact hp x (mem_cons_self ..) (by rw [e];exact mem_append_right _ (mem_cons_self ..))
 | x::y::r,[z],_,_,_,hq,h=>by
  exfalso
  have e:z.cps.toList=x.cps.toList++c::(Str.join ⟨#[c]⟩ (y::r)).cps.toList:=by rw [<-Eg,h];rfl
  exact hq z (mem_cons_self ..) (by rw [e];exact mem_append_right _ (mem_cons_self ..))
 | x::y::r,z::w::s,_,_,hp,hq,h=>by
  have e:=congrArg (λt:Str=>t.cps.toList) h;have e:(Str.join ⟨#[c]⟩ (x::y::r)).cps.toList=(Str.join ⟨#[c]⟩ (z::w::s)).cps.toList:=e;rw [Eg,Eg] at e;obtain⟨e1,e2⟩:=Gh (hp x (mem_cons_self ..)) (hq z (mem_cons_self ..)) e;have e3:x=z:=Str.ext' (Array.toList_inj.mp e1);have e4:Str.join ⟨#[c]⟩ (y::r)=Str.join ⟨#[c]⟩ (w::s):=Str.ext' (Array.toList_inj.mp e2);rw [e3,M3 (by simp) (by simp) (λp k=>hp p (mem_cons_of_mem _ k)) (λq k=>hq q (mem_cons_of_mem _ k)) e4]
theorem M4 {c:Nat}{ps:List Str} (hn:ps≠ []) (hp:∀p∈ps,c ∉ p.cps.toList):Az (Cg ⟨#[c]⟩ ps) ⟨#[c]⟩=ps:=by
 rw [Gg];refine M3 (c:=c) (λz=>?_) hn (λq hq=>StrLaws.split_free _ c q hq) hp (StrLaws.join_split _ _);have h:=StrLaws.join_split (Str.join ⟨#[c]⟩ ps) ⟨#[c]⟩;unfold Az at z;split at z
 ·cases z
 ·split at z
  ·cases z
  ·unfold Builtin.Str.partsBetween at z;have:=congrArg List.length z;simp at this
theorem Fx (t:Str):((32 ∉ t.cps.toList)/\Bx t " "=(t,Str.empty,Str.empty))\/ ∃a b:Str,32 ∉ a.cps.toList/\t.cps.toList=a.cps.toList++32::b.cps.toList/\Bx t " "=(a,Str.ofString " ",b):=by
 have eb:Str.ofString " "=⟨#[32]⟩:=by decide
 have e1:(⟨#[32]⟩:Str).length=1:=rfl;unfold Bx;rw [eb];rcases StrLaws.occ_head t ⟨#[32]⟩ 1 (Nat.le_refl 1) with⟨h0,hn⟩ | ⟨i,r,h0,hA,hn⟩
 ·rw [h0];refine .inl ⟨λz=>?_,rfl⟩;obtain⟨j,hj⟩:=getElem?_of_mem z;exact hn j ((StrLaws.subAt_one t 32 j).mpr hj)
 ·rw [h0];have hi:=(StrLaws.subAt_one t 32 i).mp hA;have hlt:i<t.cps.toList.length:=(List.getElem?_eq_some_iff.mp hi).1;have tl:t.length=t.cps.toList.length:=(Array.length_toList ..).symm;refine .inr ⟨Builtin.Str.strSub t 0 i,Builtin.Str.strSub t (i+(⟨#[32]⟩:Str).length) t.length,λz=>?_,?_,rfl⟩
  ·rw [StrLaws.strSub_toList,drop_zero,Nat.sub_zero] at z;obtain⟨j,hj⟩:=getElem?_of_mem z;have hji:j<i:=by
    have:=(List.getElem?_eq_some_iff.mp hj).1;rw [length_take] at this;omega
   rw [List.getElem?_take_of_lt hji] at hj;exact hn j hji ((StrLaws.subAt_one t 32 j).mpr hj)
  ·rw [StrLaws.strSub_toList,StrLaws.strSub_toList,drop_zero,Nat.sub_zero,e1,take_of_length_le (l:=t.cps.toList.drop (i+1)) (by rw [length_drop,tl];exact Nat.le_refl _)];have e:t.cps.toList.drop i=32::t.cps.toList.drop (i+1):=by
    rw [List.drop_eq_getElem_cons hlt]
    congr 1
    exact(List.getElem?_eq_some_iff.mp hi).2
   rw [<-e,List.take_append_drop]
theorem U9 (t:Str):∃ws,Az t " "=(Bx t " ").1::ws:=by
 have eb:Str.ofString " "=⟨#[32]⟩:=by decide
 have hj:=StrLaws.join_split t ⟨#[32]⟩;have hf:=StrLaws.split_free t 32;rw [<-U8] at hj hf;rw [<-eb] at hj hf;have hne:Az t " " ≠ []:=λz=>by
  unfold Az at z;split at z
  ·cases z
  ·split at z
   ·cases z
   ·unfold Builtin.Str.partsBetween at z;have:=congrArg List.length z;simp at this
 match hs:Az t " ",hne with
 | [p],_=>
  rw [hs] at hj hf;have e:p=t:=hj;have fr:=hf p (mem_singleton.mpr rfl);rw [e] at fr;rcases Fx t with⟨_,h⟩ | ⟨a,b,_,ht,_⟩
  ·exact⟨[],by rw [h,e]⟩
  ·exact absurd (by rw [ht];exact mem_append_right _ (mem_cons_self ..)) fr
 | p::q::r,_=>
  rw [hs,eb] at hj;rw [hs] at hf;have fr:=hf p (mem_cons_self ..);have et:t.cps.toList=p.cps.toList++32::(Str.join ⟨#[32]⟩ (q::r)).cps.toList:=by rw [<-Eg,hj]
  rcases Fx t with⟨hno,_⟩ | ⟨a,b,ha,ht,h⟩
  ·exact absurd (by rw [et];exact mem_append_right _ (mem_cons_self ..)) hno
  ·rw [h];have e:=Gh fr ha (et.symm.trans ht);exact⟨q::r,by rw [show p=a from Str.ext' (Array.toList_inj.mp e.1)]⟩
theorem Va (t:Str):(Dj t none (some 5)).cps.toList=t.cps.toList.take 5:=by
 have tl:t.length=t.cps.toList.length:=(Array.length_toList ..).symm;have key:(Cp t none (some 5)).filterMap (t.cps[·]?)=t.cps.toList.take 5:=by
  have e:Cp t none (some 5)=Builtin.Str.strSliceIndices (some ((0:Nat):Int)) (some ((min 5 t.length:Nat):Int)) 1 t.length:=by
   show Builtin.Str.strSliceIndices none (some 5) 1 t.length=_;unfold Builtin.Str.strSliceIndices;have e5:max (0:Int) (min 5 (t.length:Int))=max 0 (min ((min 5 t.length:Nat):Int) (t.length:Int)):=by omega
   have n1:¬((5:Int)<0):=by decide
   have n2:¬(((min 5 t.length:Nat):Int)<0):=by omega
   have n3:¬(((0:Nat):Int)<0):=by decide
   have n4:max (0:Int) (min ((0:Nat):Int) (t.length:Int))=0:=by omega
   simp only [n1,n2,n3,n4,e5,if_false,if_true,show((1:Int) >0)=True from by simp]
  rw [e,StrLaws.sliced_plain t (Nat.zero_le _) (Nat.min_le_right _ _),drop_zero,Nat.sub_zero]
  by_cases h:5<=t.length
  ·rw [Nat.min_eq_left h]
  ·rw [Nat.min_eq_right (by omega),take_of_length_le (by omega),take_of_length_le (by omega)]
 unfold Dj;split
 ·rename_i h;have hl:=congrArg List.length key;have h':(Cp t none (some 5)).length=t.length:=eq_of_beq h;have h2:=List.length_filterMap_le (t.cps[·]?) (Cp t none (some 5));rw [take_of_length_le];have e:Cp t none (some 5)=Builtin.Str.strSliceIndices (some ((0:Nat):Int)) (some ((min 5 t.length:Nat):Int)) 1 t.length:=by
   show Builtin.Str.strSliceIndices none (some 5) 1 t.length=_;unfold Builtin.Str.strSliceIndices;have e5:max (0:Int) (min 5 (t.length:Int))=max 0 (min ((min 5 t.length:Nat):Int) (t.length:Int)):=by omega
   have n1:¬((5:Int)<0):=by decide
   have n2:¬(((min 5 t.length:Nat):Int)<0):=by omega
   have n3:¬(((0:Nat):Int)<0):=by decide
   have n4:max (0:Int) (min ((0:Nat):Int) (t.length:Int))=0:=by omega
   simp only [n1,n2,n3,n4,e5,if_false,if_true,show((1:Int) >0)=True from by simp]
  rw [e,StrLaws.strSliceIndices_plain (Nat.zero_le _) (Nat.min_le_right _ _),length_map,length_range] at h';omega
 ·exact key
theorem Vb (t:Str):Dj t none (some 5)=Str.ofString "fire " ↔((Bx t " ").1=Str.ofString "fire" /\(Bx t " ").2.1.length≠0):=by
 have ef:(Str.ofString "fire ").cps.toList=(Str.ofString "fire").cps.toList++[32]:=by decide
 have fr:32 ∉(Str.ofString "fire").cps.toList:=by decide
 have l4:(Str.ofString "fire").cps.toList.length=4:=by decide
 have h5:=Va t;constructor
 ·intro h;rw [h,ef] at h5;have et:t.cps.toList=(Str.ofString "fire").cps.toList++32::t.cps.toList.drop 5:=by
   conv=>lhs;rw [<-List.take_append_drop 5 t.cps.toList,<-h5]
   rw [append_assoc];rfl
  rcases Fx t with⟨hno,_⟩ | ⟨a,b,ha,ht,hp⟩
  ·exact absurd (by rw [et];exact mem_append_right _ (mem_cons_self ..)) hno
  ·rw [hp];have e:=Gh fr ha (et.symm.trans ht);exact⟨(Str.ext' (Array.toList_inj.mp e.1)).symm,by show(Str.ofString " ").length≠0;decide⟩
 ·intro⟨h1,h2⟩;rcases Fx t with⟨_,hp⟩ | ⟨a,b,ha,ht,hp⟩
  ·rw [hp] at h2;exact absurd rfl h2
  ·rw [hp] at h1;have h1':a=Str.ofString "fire" :=h1;rw [h1'] at ht;refine Str.ext' (Array.toList_inj.mp ?_);rw [h5,ht,ef,List.take_append,l4,take_of_length_le (by rw [l4];decide)]
   rfl
def Hd (t:Str):Prop:=t.cps.toList.head? ≠some 108
instance (t:Str):Decidable (Hd t):=inferInstanceAs (Decidable (_≠_))
theorem Hd.app {a b:Str} (ha:Hd a) (hb:Hd b):Hd (a++b):=by
 unfold Hd at *;show(a.cps++b.cps).toList.head? ≠_;rw [Array.toList_append];cases h:a.cps.toList with
 | nil=>exact hb
 | cons x xs=>rw [h] at ha;exact ha
theorem Vc (h:∀w∈ws,Hd w):Hd (Cg ⟨#[32]⟩ ws):=by
 rw [Gg]
 match ws,h with
 | [],_=>unfold Hd;decide
 | [x],h=>exact h x (mem_singleton.mpr rfl)
 | x::y::r,h=>
  unfold Hd;rw [Eg];have:=h x (mem_cons_self ..);unfold Hd at this;cases e:x.cps.toList with
  | nil=>exact λz=>absurd z (by simp)
  | cons c cs=>rw [e] at this;exact this
theorem Vd {t f:Str}{ps:Cv} (h:Hd t) (hp:Cw t=some (f,ps)):f≠("least" :Str):=λz=>by
 have e1:(Bx t " ").1=f\/f=("fire" :Str):=by
  unfold Cw at hp;split at hp
  ·cases hp;exact .inr rfl
  ·split at hp
   ·cases hp
   ·split at hp
    ·cases hp;exact .inl rfl
    ·cases hp
 subst z;rcases e1 with e1 | e1
 ·refine h ?_;have l5:(Str.ofString "least").cps.toList=108::(Str.ofString "least").cps.toList.tail:=by decide
  rcases Fx t with⟨_,hq⟩ | ⟨a,b,_,ht,hq⟩
  ·rw [hq] at e1;rw [show t=Str.ofString "least" from e1,l5];rfl
  ·rw [hq] at e1;rw [ht,show a=Str.ofString "least" from e1,l5];rfl
 ·revert e1;decide
def Ip:Sp:=λvs H Q _=>match vs with | [.str w]=>w.length<=200000/\∀H',Ab H H'->Q (.bl (A8 99 w)) H' | _=>False
def Iq:Sp:=λvs H Q _=>match vs with | [x]=>∃p d,Aa p H d x/\(∀t,d= .str t->t.length<=200000)/\∀H',Ab H H'->Q (.bl (By d).isSome) H' | _=>False
def Ir:Sp:=λvs H Q _=>match vs with | [.ref p]=>A5 p H/\∀t H',Hd t->t.length<=200000->Ev p H H'->A5 p H'->Q (.str t) H' | _=>False
def DO:List Nat:=(Str.ofString "0123456789").cps.toList
def DP (w:Str):Bool:=(w.length==1 || w.length==2) && w.cps.toList.all (λc=>decide (c∈DO)) &&(w.length==1 || w.cps.toList.head? !=some 48)
theorem Ve (w:Str):A8 99 w=DP w:=by
 rw [Bool.eq_iff_iff];constructor
 ·intro h;obtain⟨n,hn,rfl,_⟩:=JR h;exact(by decide+kernel:∀n:Nat,n<100->DP (nT (n:Int))=true) n hn
 ·intro h;unfold DP at h;simp only [Bool.and_eq_true,Bool.or_eq_true,beq_iff_eq,bne_iff_ne,ne_eq,all_eq_true,decide_eq_true_eq] at h;obtain⟨⟨hl,hd⟩,hz⟩:=h;obtain⟨⟨l⟩⟩:=w;have e:(⟨⟨l⟩⟩:Str).length=l.length:=rfl;rw [e] at hl hz;have one:∀c∈DO,A8 99 ⟨#[c]⟩=true:=by decide+kernel
  have two:∀c∈DO,∀d∈DO,c≠48->A8 99 ⟨#[c,d]⟩=true:=by decide+kernel
  match l,hl,hd,hz with
  | [c],_,hd,_=>exact one c (hd c (mem_singleton.mpr rfl))
  | [c,d],_,hd,hz=>exact two c (hd c (mem_cons_self ..)) d (hd d (mem_cons_of_mem _ (mem_cons_self ..))) (λz=>hz.elim (λy=>by cases y) (λy=>y (by rw [z];rfl)))
  | [],hl,_,_=>exact absurd hl (by simp)
  | _::_::_::_,hl,_,_=>exact absurd hl (by simp)
theorem Vf (c:Nat):(!(Builtin.Str.occurrences (Str.ofString "0123456789") ⟨#[c]⟩ 0 (Str.ofString "0123456789").length 1).isEmpty)=decide (c∈DO):=StrLaws.found_one _ c
theorem M5 {α β:Type} (f:α->β):∀(l:List α) (i:Nat),(l.map f).eraseIdx i=(l.eraseIdx i).map f
 | [],_=>rfl
 | _::_,0=>rfl
 | x::l,i+1=>congrArg (f x:: ·) (M5 f l i)
def firstW:List Str:=["undo","show","stoke 0 0 0","bank 0","main","falls","coal","stretch","fire x","fire","fire ","stoke 1 2","stoke 7 3 9"]
def oddW:List Str:=["","00","-1","a","0","99","100","07","undo","Show","\t","0\t","x","+1","12","show","1.0"]
def Fy (ws:List Str):Prop:=ws.length<=10/\∀w∈ws,Hd w/\w.length<=20
instance (ws:List Str):Decidable (Fy ws):=inferInstanceAs (Decidable (_/\_))
theorem Vg:∀s∈firstW,(Az s " ").length<=5/\1<=(Az s " ").length/\s.length<=20/\∀w∈Az s " ",Hd w/\w.length<=20:=by decide+kernel
theorem Vh:∀s∈oddW,Hd s/\s.length<=20:=by decide+kernel
structure Wl (p:Addr) (H:Hp) (l:Addr) (H':Hp) (ws:List Str):Prop where
 lst:H' l=some (.lst (ws.map V.str))
 ev:Ev p H H'
 pn:A5 p H'
 no:H l=none
 ne:l≠p
 gd:Fy ws
theorem Wl.same {l:Addr} (w:Wl p H l H' ws) (s:Ab H' H2):Wl p H l H2 ws:=⟨s _ _ w.lst,w.ev.trans (.same s),w.pn.same s,w.no,w.ne,w.gd⟩
theorem Wl.step {l:Addr} (w:Wl p H l H' ws) (e:Ev p H' H2) (pn:A5 p H2):Wl p H l H2 ws:=⟨e.lst w.lst w.ne,w.ev.trans e,pn,w.no,w.ne,w.gd⟩
theorem Wl.put {l:Addr} (w:Wl p H l H' ws) (e:xs=w2.map V.str) (g:Fy w2):Wl p H l (upd H' l (.lst xs)) w2:=by
 refine⟨by rw [Ae,e],λb o z=>?_,?_,w.no,w.ne,g⟩
 ·have n:b≠l:=λy=>by rw [y,w.no] at z;cases z
  exact(w.ev b o z).imp_right λy=>(Aq n).trans y
 ·obtain⟨a,f,y⟩:=w.pn;exact⟨a,f,(Aq w.ne.symm).trans y⟩
theorem Fy.sub (g:Fy ws) (hl:w2.length<=10) {s:Str} (hs:Hd s/\s.length<=20) (h:∀w∈w2,w∈ws\/w=s):Fy w2:=⟨hl,λw hw=>(h w hw).elim (g.2 w) λz=>z ▸ hs⟩
section
variable {P : Program} {w : World} {K : Fgx} {mg : Str -> Option Value} {base : Heap}
theorem zaA:At ["_law_pen_here","_law_some"] ["_law_pen_here"] (Ak wb1):=Ax
theorem Vi (F:Df K mg "_law_odd" wb1 ["_law_pen_here"]) (T:Tx mg) (ya0:Fm P w K mg base):Fn P w K mg base 2 "_law_odd" ["_law_pen_here"] Im:=by
 refine F.fn zaA (λvs H Q E h=>?_) (λf cdv A outer s H vs Q E hr h=>?_)
 ·unfold Im at h;split at h;rfl;exact h.elim
 refine⟨_,(@Ah _ _ _ _ _ (@AG _ _ (1) _ _ _ _ zaA.nd rfl (AC (by rfl)) (@CD _ _ _ _ (@AE _ _ _ _ _ (@Ej _ _ _) (@AE _ _ _ _ _ (@BQ _ _ _ _) (@AE _ _ _ _ _ (@Af _ _ _ _) (@AE _ _ _ _ _ (@Ao _ _ _ _) (@AE _ _ _ _ _ (@Ao _ _ _ _) (@AE _ _ _ _ _ (@CD _ _ _ _ (@BY _)) (@AE _ _ _ _ _ (@P4 _ _) (@AE _ _ _ _ _ (@Cq _ _ _ _ _ (@BY _)) (@AE _ _ _ _ _ (@Cq _ _ _ _ _ (@AW _ _ _ (@Af _ _ _ _) (by rfl))) (@AE _ _ _ _ _ Fu (@AE _ _ _ _ _ (@Cq _ _ _ _ _ (@AN _ _ _ _ _ (@Af _ _ _ _) (@Af _ _ _ _) (by rfl))) (@AE _ _ _ _ _ (@CD _ _ _ _ (@AW _ _ _ (@Af _ _ _ _) (by rfl))) (@AE _ _ _ _ _ (@BQ _ _ _ _) (@Dh _ _ _ _ _ _ _ _ _ (@Cq _ _ _ _ _ (@AW _ _ _ (@Cq _ _ _ _ _ (@BY _)) (by rfl))) (@Cq _ _ _ _ _ (@AN _ _ _ _ _ (@Cq _ _ _ _ _ (@AW _ _ _ (@Af _ _ _ _) (by rfl))) (@Cq _ _ _ _ _ (@BY _)) (by rfl))) (@Af _ _ _ _) (@AA _ _ _ _ _ _ _ _ (@Le _) (@Af _ _ _ _) (@Af _ _ _ _)) (by rfl)) (by rfl)) (by rfl)) (by rfl)) (by rfl)) (by rfl)) (by rfl)) (by rfl)) (by rfl)) (by rfl)) (by rfl)) (by rfl)) (by rfl)) (by rfl))) (by rfl) (Br (by rfl))) (@Aj _ _ _ (@Au _ _ _ _ (@AK _ _ _ _ _ _ _ (@Bp _ K (by rfl)) (@cx _ 1 _ _ (by rfl)) (@An _ _ _ _ _ _ _ _ _ _ ya0 (hr.mono (by decide)) rfl (@AN _ _ _ _ _ (@cx _ 0 _ _ (by rfl)) (@Af _ _ _ _) (by rfl)) (by decide) (by rfl) (by rfl)) (λ_ _=>rfl))))),?_⟩;unfold Im at h;split at h
 ·rename_i p;obtain⟨pn,q⟩:=h;intro l1 G1 g1 hl1 k1 d1 hd1;have n1:=Ab.new (o:= .dK []) hd1;have kd:upd G1 d1 (.dK []) d1=some (.dK []):=Ae;have nd:d1≠p:=(pn.same g1).ne hd1;generalize upd G1 d1 (.dK [])=Gd at n1 kd ⊢;intro t1 G2 g2 k2 t2 G3 g3 k3 t3 G4 g4 k4 l2 G5 g5 hl2 k5 t4 G6 g6 k6 t5 G7 g7 k7 t6 G8 g8 k8 t7 G9 g9 k9 t8 G10 g10 k10;refine⟨⟨by decide,by decide,by decide⟩,λL H1 g11 hL kL=>?_⟩;have b9:=g10.trans g11;have b8:=g9.trans b9;have b7:=g8.trans b8;have b6:=g7.trans b7;have b5:=g6.trans b6;have b4:=g5.trans b5;have b3:=g4.trans b4;have b2:=g3.trans b3;have b1:=g2.trans b2;have bd:=n1.trans b1;have s10:=g1.trans (n1.trans (g2.trans (g3.trans (g4.trans (g5.trans (g6.trans (g7.trans (g8.trans (g9.trans g10)))))))));have s1:=s10.trans g11;have nL:L≠p:=(pn.same s10).ne hL;have e30:(10:Int) ^ Int.toNat 30=10 ^ 30:=by decide
  have i0:∀ {H:Hp},Aa p H (.int 0) (.int 0):=Aa.int;have rL:Ad p H1 Gf _:= .cons Aa.non (.cons Aa.bl (.cons Aa.int (.cons Aa.str (.cons Aa.str (.cons (Aa.lst (pn.ne hl1) (bd _ _ k1) .nil) (.cons (by unfold Aa;exact⟨d1,_,rfl,nd,.inl ⟨rfl,rfl⟩,b1 _ _ kd⟩) (.cons (Aa.tup (b2 _ _ k2) .nil) (.cons (Aa.tup (b3 _ _ k3) (.cons i0 .nil)) (.cons Aa.int (.cons (Aa.tup (b4 _ _ k4) (.cons i0 (.cons i0 .nil))) (.cons (Aa.lst ((pn.same (g1.trans (n1.trans (g2.trans (g3.trans g4))))).ne hl2) (b5 _ _ k5) (.cons i0 .nil)) (.cons Aa.bl (.cons (Aa.tup (b7 _ _ k7) (.cons (Aa.tup (b6 _ _ k6) .nil) .nil)) (.cons (Aa.tup (g11 _ _ k10) (.cons (Aa.tup (b8 _ _ k8) (.cons i0 .nil)) (.cons (Aa.tup (b9 _ _ k9) .nil) .nil))) (.cons Aa.int (.cons (by show Aa p H1 (.int (10 ^ 30)) (.int (10 ^ Int.toNat 30));rw [e30];exact Aa.int) .nil))))))))))))))));have hlen:=rL.len;refine⟨pn.same s1,by decide,by decide,λg H2 h0 h1 e1 pn2=>?_⟩;obtain⟨v,d,hat,hd,rd⟩:=U7 (Ad.ev e1 _ _ rL) h0 (by show g<17;omega);exact⟨L,_,g,v,rfl,rfl,Ai.of (e1.lst kL nL),hat,q v H2 d rd hd ((Ev.same s1).trans e1) pn2⟩
 ·exact h.elim
theorem Vj:At ["_law_firing_here"] ["_law_firing_here"] (Ak wb0):=Ax
theorem Vk (F:Df K mg "_law_text" wb0 ["_law_firing_here"]) (T:Tx mg)  :Fn P w K mg base 1 "_law_text" ["_law_firing_here"] Io:=by
  refine F.fn Vj (λvs H Q E h=>?_) (λf cdv A outer s H vs Q E hr h=>?_)
  . unfold Io at h;split at h;rfl;exact h.elim
  refine⟨_,(@Aj _ _ _ (@Au _ _ _ _ (@Ch K _ _ _ _ _ _ _ _ _ _ _ _ PySem.F.plainAttrs_str PySem.F.slot_str_join PySem.F.type_str_join Fa (@Ao _ _ _ _) (@AW _ _ _ (@A4 _ _ _ _ _ _ _ _ _ _ _ ["_law_row"] [none] rfl (@BH _ K _ _ _ (@cx _ 0 _ _ (by rfl)) (by rfl)) (AH.of rfl) (λ_ _ _ _=>(@DF _ _ _ 0 (AF (by rfl)) (by rfl))) (λ_ _ _ _=>(@A3 _)) (λ_ _ _ _=>(@Ch K _ _ _ _ _ _ _ _ _ _ _ _ PySem.F.plainAttrs_str PySem.F.slot_str_join PySem.F.type_str_join Fa (@Ao _ _ _ _) (@AW _ _ _ (@A4 _ _ _ _ _ _ _ _ _ _ _ ["_law_steam"] [none] rfl (@BH _ K _ _ _ (@cx _ 0 _ _ (by rfl)) (by rfl)) (AH.of rfl) (λ_ _ _ _=>(@DF _ _ _ 0 (AF (by rfl)) (by rfl))) (λ_ _ _ _=>(@A3 _)) (λ_ _ _ _=>(@Be _ _ _ _ _ _ _ _ _ (@EU _) rfl T.b_str DB (@AW _ _ _ (@cx _ 0 _ _ (by rfl)) (by rfl)) (by decide) (by decide) (by rfl) (by rfl))) (by intro _;rfl)) (by rfl)) (by rfl) (by rfl) (by rfl) (by rfl) (by rfl) (by rfl))) (by intro _;rfl)) (by rfl)) (by rfl) (by rfl) (by rfl) (by rfl) (by rfl) (by rfl)))),?_⟩;unfold Io at h;split at h
  . rename_i v;obtain⟨p,F,⟨f8,fr⟩,rw0,q⟩:=h;obtain⟨FA,fx,rfl,hFA,rfx⟩:=Aa.firing rw0;have lf:=rfx.len;rw [length_map] at lf;have rows:∀(i:Nat) r,F[i]? =some r->(∀n∈r,0<=n/\n<=9)/\r.length<=4:=λi r hr=>⟨(fr r (mem_of_getElem? hr)).2,(fr r (mem_of_getElem? hr)).1⟩
    refine⟨rfl,FA,rfl,⟨_,Ag.of hFA⟩,BF (xs:=fx) (λj zs H'=>Ab H H'/\zs=((F.take j).map Bs).map V.str) (by omega) ⟨Ab.refl _,rfl⟩ (λj zs H' h=>by rw [h.2,length_map,length_map,length_take];omega) (λj zs H' _ h=>Ag.of (h.1 _ _ hFA)) (λj x zs H' hx h=>?_) (λzs H' h=>?_)⟩
    . obtain⟨r,hr,rr⟩:=Ad.mapGot rfx hx;obtain⟨RA,rfl,hRA⟩:=Aa.ofRow rr;obtain⟨r9,r4⟩:=rows j r hr;refine⟨trivial,λ_=>⟨rfl,RA,rfl,⟨_,Ag.of (h.1 _ _ hRA)⟩,BF (xs:=r.map V.int) (λk ys H2=>Ab H' H2/\ys=((r.take k).map nT).map V.str) (by rw [length_map];omega) ⟨Ab.refl _,rfl⟩ (λk ys H2 h2=>by rw [h2.2,length_map,length_map,length_take];omega) (λk ys H2 _ h2=>Ag.of ((h.1.trans h2.1) _ _ hRA)) (λk x ys H2 hx h2=>?_) (λys H2 h2=>?_)⟩,λz=>by cases z⟩
      . rw [getElem?_map] at hx;obtain⟨n,hn,rfl⟩:∃n,r[k]? =some n/\V.int n=x:=by
          cases z:r[k]? with
          | none=>rw [z] at hx;cases hx
          | some n=>rw [z] at hx;cases hx;exact⟨n,rfl,rfl⟩
        obtain⟨m0,m9⟩:=r9 n (mem_of_getElem? hn);refine⟨trivial,λ_=>⟨n,rfl,JH (by omega),h2.1,?_⟩,λz=>by cases z⟩;rw [h2.2,AY hn,map_append,map_append];rfl
      . intro m hm;have fit:=Ft (sep:=" ") (l:=r.map nT) (B:=11) (λx hx=>by
          obtain⟨n,hn,rfl⟩:=mem_map.mp hx;exact JI (r9 n hn).1 (r9 n hn).2) (by rw [length_map];have e:(Str.ofString " ").length=1:=(by decide);rw [e];omega)
        refine⟨" ",m,r.map nT,rfl,rfl,?_,fit.1,fit.2,h.1.trans (h2.1.trans (Ab.new hm)),?_⟩
        . rw [Ae,h2.2,length_map,take_of_length_le (Nat.le_refl _)]
        . rw [h.2,AY hr,map_append,map_append];rfl
    . intro m hm;have fit:=Ft (sep:="/") (l:=F.map Bs) (B:=48) (λx hx=>by
        obtain⟨r,hr,rfl⟩:=mem_map.mp hx;obtain⟨i,hi⟩:=getElem?_of_mem hr;exact JJ (rows i r hi).1 (rows i r hi).2) (by rw [length_map];have e:(Str.ofString "/").length=1:=(by decide);rw [e];omega)
      refine⟨"/",m,F.map Bs,rfl,rfl,?_,fit.1,fit.2,q _ (h.1.trans (Ab.new hm))⟩;rw [Ae,h.2,take_of_length_le (by omega)]
  . exact h.elim
theorem Vl:At ["_law_word"] ["_law_word"] (Ak wb4):=Ax
theorem Vm (F:Df K mg "_law_is_number" wb4 ["_law_word"]) (T:Tx mg)  :Fn P w K mg base 1 "_law_is_number" ["_law_word"] Ip:=by
 refine F.fn Vl (λvs H Q E h=>?_) (λf cdv A outer s H vs Q E hr h=>?_)
 ·unfold Ip at h;split at h;rfl;exact h.elim
 refine⟨_,(Ah (AT (PW.pt (E3 (AU (P5 K) (Ay KU rfl T.b_len PySem.boot_len (Al (cy 0))) (Cq (Av Af Af)) (by with_unfolding_all rfl)) (EO (AU (Qv hr.units0) (A4 ["_law_sign"] [none] rfl (RL (cy 0)) (AH.of rfl) (λ_ _ _ _=>(Am 0 (AF (by rfl)))) (λ_ _ _ _=>(FM (AU RN (cy 0) Ao (by with_unfolding_all rfl)))) (λ_ _ _ _=>(cy 0))) (CD BY) (AS _))))) (Aj (Au BQ)) A1) (Aj (Au (PK (Db Cy (Ay KU rfl T.b_len PySem.boot_len (Al (cy 0))) Af (AS _)) (Ca (Db Em (AK OH (cy 0) Af (λ_ _=>rfl)) Ao (AS _))))))),?_⟩;unfold Ip at h;split at h
 ·rename_i w;obtain⟨hl,q⟩:=h;rw [Ve] at q;have sz:(200000:Nat)<=sizeLine:=by decide
  have wl:w.length=w.cps.size:=rfl;have wt:w.cps.toList.length=w.length:=Array.length_toList ..;refine⟨w,rfl,Nat.le_trans hl sz,λu H1 s1 k1=>⟨u,_,rfl,.inr (Ag.of k1),rfl,by rfl,?_⟩⟩;have inn:B5 (V.int (w.length:Int)) [V.int 1,V.int 2]=(w.length==1 || w.length==2):=by
   rw [Bool.eq_iff_iff];have e:B5 (V.int (w.length:Int)) [V.int 1,V.int 2]=((1:Int)==(w.length:Int) || ((2:Int)==(w.length:Int) || false)):=rfl;rw [e];simp only [Bool.or_false,Bool.or_eq_true,beq_iff_eq];omega
  refine⟨λc=>?_,λc=>?_⟩
  ·have c':(!B5 (V.int (w.length:Int)) [V.int 1,V.int 2])=true:=c;rw [inn] at c';have z:DP w=false:=by
    unfold DP;rw [show(w.length==1 || w.length==2)=false from by revert c';cases(w.length==1 || w.length==2)<;>simp]
    rfl
   rw [z] at q;exact⟨λ_=>q H1 s1,λz=>by cases z⟩
  ·have c':(!B5 (V.int (w.length:Int)) [V.int 1,V.int 2])=false:=c;rw [inn] at c';have w12:(w.length==1 || w.length==2)=true:=by revert c';cases(w.length==1 || w.length==2)<;>simp
   have l2:w.length<=2:=by
    rcases Bool.or_eq_true_iff.mp w12 with z | z<;>(have:=eq_of_beq z;omega)
   refine⟨w,rfl,RM (λi ys H'=>Ab H1 H'/\ys.length<=i/\(ys=[] ↔ ∀c∈w.cps.toList.take i,c∈DO)) (by omega) ⟨Ab.refl _,Nat.le_refl _,λ_ c hc=>(by cases hc),λ_=>rfl⟩ (λi ys H' h=>h.2.1) (λi c ys H' hc h=>?_) (λys H' h=>?_)⟩
   ·have hc':w.cps.toList[i]? =some c:=by rw [<-hc];exact Array.getElem?_toList ..
    refine⟨trivial,_,_,rfl,rfl,?_⟩;rw [Vf];refine⟨λd=>?_,λd=>?_⟩
    ·refine⟨h.1,by rw [length_append];exact Nat.succ_le_succ h.2.1,λz=>absurd z (by simp),λz=>?_⟩;have:=z c (by rw [AY hc'];exact mem_append_right _ (mem_singleton.mpr rfl));rw [decide_eq_true this] at d;cases d
    ·have hd:c∈DO:=by
      by_cases y:c∈DO
      ·exact y
      ·rw [decide_eq_false y] at d;cases d
     refine⟨h.1,Nat.le_succ_of_le h.2.1,h.2.2.trans ⟨λz x hx=>?_,λz x hx=>z x ?_⟩⟩
     ·rw [AY hc'] at hx;rcases mem_append.mp hx with y | y
      ·exact z x y
      ·rw [mem_singleton.mp y];exact hd
     ·rw [AY hc'];exact mem_append_left _ hx
   ·intro m hm l H2 s2 hl2 k2;have hw:=h.2.2;rw [<-wl,<-wt,take_of_length_le (Nat.le_refl _)] at hw;have s3:=s1.trans (h.1.trans ((Ab.new (o:= .lst ys) hm).trans s2));refine⟨m,l,ys,rfl,rfl,s2 _ _ Ae,k2,?_⟩;have al:ys.isEmpty=w.cps.toList.all (λc=>decide (c∈DO)):=by
     rw [Bool.eq_iff_iff,List.isEmpty_iff,all_eq_true,hw];exact⟨λz c hc=>decide_eq_true (z c hc),λz c hc=>of_decide_eq_true (z c hc)⟩
    refine⟨λd=>?_,λd=>?_⟩
    ·have z:DP w=false:=by
      unfold DP;rw [<-al,show ys.isEmpty=false from by revert d;cases ys.isEmpty<;>simp,Bool.and_false];rfl
     rw [z] at q;exact q H2 s3
    ·have ae:ys.isEmpty=true:=by revert d;cases ys.isEmpty<;>simp
     have z:DP w=(w.length==1 || w.cps.toList.head? !=some 48):=by
      unfold DP;rw [<-al,ae,w12];rfl
     rw [z] at q;refine⟨w,rfl,Nat.le_trans hl sz,rfl,?_⟩;have e1:decide (V.int (w.length:Int)=V.int 1)=(w.length==1):=by
      rw [Dv,Bool.eq_iff_iff];simp only [beq_iff_eq];omega
     rw [e1];refine⟨λd1=>?_,λd1=>?_⟩
     ·rw [d1,Bool.true_or] at q;exact q H2 s3
     ·rw [d1,Bool.false_or] at q;cases e:w.cps.toList with
      | nil=>
       rw [e] at wt;have:w.length=0:=wt.symm;rw [this] at w12;cases w12
      | cons c0 cs=>
       rw [e] at q;refine⟨w,0,c0,rfl,rfl,Nat.le_trans hl sz,Cb (j:=0) (by rw [e];rfl),rfl,?_⟩;have e3:(!decide (V.str ⟨#[c0]⟩=V.str (Str.ofString "0")))=((c0::cs).head? !=some 48):=by
        have e4:(V.str ⟨#[c0]⟩=V.str (Str.ofString "0")) ↔c0=48:=by
         refine⟨λz=>?_,λz=>by rw [z];rfl⟩;injection z with z
         have:=congrArg (λt:Str=>t.cps.toList.head?) z;exact Option.some.inj this
        rw [decide_eq_decide.mpr e4]
        by_cases z:c0=48
        ·subst z;rfl
        ·rw [decide_eq_false z,Bool.eq_iff_iff];simp [z]
       rw [e3];exact q H2 s3
 ·exact h.elim
theorem zaq:At ["_law_line_here","_law_words","_law_counts"] ["_law_line_here"] (Ak wb5):=Ax
theorem Vn (F:Df K mg "_law_is_line" wb5 ["_law_line_here"]) (T:Tx mg) (yb1:Fn P w K mg base 1 "_law_is_number" ["_law_word"] Ip):Fn P w K mg base 2 "_law_is_line" ["_law_line_here"] Iq:=by
 refine F.fn zaq (λvs H Q E h=>?_) (λf cdv A outer s H vs Q E hr h=>?_)
 ·unfold Iq at h;split at h;rfl;exact h.elim
 refine⟨_,(@Ah _ _ _ _ _ (@AT _ _ _ _ _ _ _ _ (@BD _ _ _ _ (@Bw _ _ _ (@Ay _ _ _ _ _ _ _ _ _ (@E4 _) rfl T.b_isinstance boot_isinstance (@AN _ _ _ _ _ (@cx _ 0 _ _ (by rfl)) (@Ek _ _ (.ty "str") _ _ rfl T.b_str DB rfl (by decide) (by decide)) (by rfl)) (by decide) (by decide) (by rfl) (by rfl)) (by intro _;rfl))) (@Aj _ _ _ (@Au _ _ _ _ (@BQ _ _ _ _))) (@A1 _)) (@Ah _ _ _ _ _ (@AT _ _ _ _ _ _ _ _ (@AU _ _ _ _ _ _ _ _ (@Cy _) (@DT _ _ _ _ _ _ _ _ _ _ wb7 (@cx _ 0 _ _ (by rfl)) (@FF _) (@CW _ _ _ (@Af _ _ _ _))) (@Ao _ _ _ _) (AS _)) (@Aj _ _ _ (@Au _ _ _ _ (@BQ _ _ _ _))) (@A1 _)) (@Ah _ _ _ _ _ (@AG _ _ (1) _ _ _ _ zaq.nd rfl (AC (by rfl)) (@Ch K _ _ _ _ _ _ _ _ _ _ _ _ PySem.F.plainAttrs_str PySem.F.slot_str_split PySem.F.type_str_split E9 (@cx _ 0 _ _ (by rfl)) (@AW _ _ _ (@Ao _ _ _ _) (by rfl)) (by rfl) (by rfl) (by rfl) (by rfl) (by rfl) (by rfl)) (by rfl) (Br (by rfl))) (@Ah _ _ _ _ _ (@AG _ _ (2) _ _ _ _ zaq.nd rfl (AC (by rfl)) (@R3 _ _ _ _ _ (@DN _ _ _ _ _ _ _ _ _ (@Ao _ _ _ _) (@Af _ _ _ _) (@DN _ _ _ _ _ _ _ _ _ (@Ao _ _ _ _) (@Af _ _ _ _) (@DN _ _ _ _ _ _ _ _ _ (@Ao _ _ _ _) (@Af _ _ _ _) (@DN _ _ _ _ _ _ _ _ _ (@Ao _ _ _ _) (@Af _ _ _ _) (@DN _ _ _ _ _ _ _ _ _ (@Ao _ _ _ _) (@Af _ _ _ _) (@DN _ _ _ _ _ _ _ _ _ (@Ao _ _ _ _) (@Af _ _ _ _) (@DN _ _ _ _ _ _ _ _ _ (@Ao _ _ _ _) (@Af _ _ _ _) (@DN _ _ _ _ _ _ _ _ _ (@Ao _ _ _ _) (@Af _ _ _ _) (@DN _ _ _ _ _ _ _ _ _ (@Ao _ _ _ _) (@Af _ _ _ _) (@R0 _ _)))))))))) rfl rfl (λz=>nomatch z) (by decide)) (by rfl) (Br (by rfl))) (@Ah _ _ _ _ _ (@AT _ _ _ _ _ _ _ _ (@AU _ _ _ _ _ _ _ _ (@Em _) (R7 (Sg hr) (@cx _ 2 _ _ (by rfl)) (@AK _ _ _ _ _ _ _ (@Bp _ K (by rfl)) (@cx _ 1 _ _ (by rfl)) (@Af _ _ _ _) (λ_ _=>rfl)) Fu ⟨rfl,rfl,rfl,rfl⟩) (@AA _ _ _ _ _ _ _ _ (@Co _) (@Ay _ _ _ _ _ _ _ _ _ (@Bn _ K (by rfl)) rfl T.b_len PySem.boot_len (@AW _ _ _ (@cx _ 1 _ _ (by rfl)) (by rfl)) (by decide) (by decide) (by rfl) (by rfl)) (@Af _ _ _ _)) (AS _)) (@Aj _ _ _ (@Au _ _ _ _ (@BQ _ _ _ _))) (@A1 _)) (@Aj _ _ _ (@Au _ _ _ _ (@Db _ _ _ _ _ _ _ _ (Sf hr.units0) (@A4 _ _ _ _ _ _ _ _ _ _ _ ["_law_word"] [none] rfl (@CZ _ K _ _ _ (@DT _ _ _ _ _ _ _ _ _ _ (@Jh _ K (by rfl)) (@cx _ 1 _ _ (by rfl)) (@CW _ _ _ (@Af _ _ _ _)) (@FF _)) (by rfl)) (AH.of rfl) (λ_ _ _ _=>(@DF _ _ _ 0 (AF (by rfl)) (by rfl))) (λ_ _ _ _=>(@FM _ _ _ (@BD _ _ _ _ (@Bw _ _ _ (@An _ _ _ _ _ _ _ _ _ _ yb1 (hr.mono (by decide)) rfl (@AW _ _ _ (@cx _ 0 _ _ (by rfl)) (by rfl)) (by decide) (by rfl) (by rfl)) (by intro _;rfl))))) (λ_ _ _ _=>(@cx _ 0 _ _ (by rfl))) (by intro _;rfl)) (@CD _ _ _ _ (@BY _)) (AS _))))))))),?_⟩;unfold Iq at h;split at h
 ·rename_i x;obtain⟨p,d,rd,ht,q⟩:=h;refine⟨_,Aa.ty rd,.inr (.inr (.inr (.inr rfl))),⟨λc=>?_,λc=>?_⟩⟩
  ·have z:(By d).isSome=false:=by cases d<;>first | rfl | cases c
   rw [z] at q;exact q H (Ab.refl _)
  ·cases d<;>first | cases c | skip
   rename_i t;have tl:=ht t rfl;unfold Aa at rd;subst rd;have sz:(200000:Nat)<=sizeLine:=by decide
   have tz:t.length<=sizeLine:=Nat.le_trans tl sz;have pD:By (.str t)=Cw t:=rfl;rw [pD] at q;unfold Cw at q;have fire:=Vb t;obtain⟨wt,hs⟩:=U9 t;obtain⟨first,hf⟩:∃f,f=(Bx t " ").1:=⟨_,rfl⟩;rw [<-hf] at hs fire q;refine⟨5,rfl,t,rfl,tz,QL t none (some 5),rfl,?_⟩;have e0:decide (V.str (Dj t none (some 5))=V.str (Str.ofString "fire "))=decide (Dj t none (some 5)=Str.ofString "fire "):=decide_eq_decide.mpr ⟨λz=>by injection z,λz=>by rw [z]⟩;rw [e0,decide_eq_decide.mpr fire];refine⟨λc1=>?_,λc1=>?_⟩
   ·have c2:=of_decide_eq_true c1;rw [if_pos c2] at q;exact q H (Ab.refl _)
   ·have c2:=of_decide_eq_false c1;rw [if_neg c2] at q;refine⟨rfl,t," ",rfl,rfl,by decide,EG tl,λl hl=>?_⟩;have n1:=Ab.new (o:= .lst ((Az t " ").map V.str)) hl;have kl:upd H l (.lst ((Az t " ").map V.str)) l=some (.lst ((Az t " ").map V.str)):=Ae;have lsz:=He t " ";rw [hs] at kl q lsz;rw [hs] at n1 ⊢;generalize upd H l (.lst ((first::wt).map V.str))=H1 at n1 kl ⊢;intro D hD;refine⟨Ae,Dp,rfl,by decide,?_⟩;have nD:=Ab.new (o:= .dK []) hD;have n2:Ab H1 (upd (upd H1 D (.dK [])) D (.dK (Eb [] Dp))):=λb o z=>by
     have ne:b≠D:=λy=>by rw [y,hD] at z;cases z
     rw [Aq ne,Aq ne];exact z
    have kD:upd (upd H1 D (.dK [])) D (.dK (Eb [] Dp)) D=some (.dK Dp):=by rw [Ae];rfl
    generalize upd (upd H1 D (.dK [])) D (.dK (Eb [] Dp))=H2 at n2 kD ⊢;have kl2:=n2 _ _ kl;have s02:=n1.trans n2;refine⟨D,rfl,.inl ⟨_,.inl kD⟩,l,_,0,.str first,rfl,rfl,Ai.of kl2,Cb (j:=0) rfl,_,.inl ⟨Dp,.inr first,.inl kD,rfl,rfl⟩,?_⟩;rw [Ih];refine⟨l,_,rfl,.inl (Ai.of kl2),?_⟩;have ll:(((first::wt).map V.str).length:Int)-1=(wt.length:Int):=by rw [length_map,length_cons];omega
    cases hk:C4 first with
    | none=>
     rw [hk] at q;refine⟨rfl,⟨λ_=>q H2 s02,λz=>?_⟩⟩;have z':(!decide (V.int (-1)=V.int ((((first::wt).map V.str).length:Int)-1)))=false:=z;rw [ll,decide_eq_false (λy=>by injection y with y;omega)] at z';cases z'
    | some k=>
     rw [hk] at q;dsimp only at q;rw [List.drop_succ_cons,drop_zero] at q;refine⟨rfl,⟨λc4=>?_,λc4=>?_⟩⟩
     ·have z':(!decide (V.int k=V.int ((((first::wt).map V.str).length:Int)-1)))=true:=c4;rw [ll] at z';rw [if_neg (λy=>by rw [y.1,decide_eq_true rfl] at z';cases z')] at q;exact q H2 s02
     ·have z':(!decide (V.int k=V.int ((((first::wt).map V.str).length:Int)-1)))=false:=c4;rw [ll] at z';have lk:(wt.length:Int)=k:=by
       by_cases y:(wt.length:Int)=k
       ·exact y
       ·rw [decide_eq_false (λu=>by injection u with u;exact y u.symm)] at z';cases z'
      refine⟨1,rfl,l,_,rfl,Ai.of kl2,λl2 hl2=>?_⟩;have n3:=Ab.new (o:= .lst (Bi ((first::wt).map V.str) (some 1) none)) hl2;have k3:upd H2 l2 (.lst (Bi ((first::wt).map V.str) (some 1) none)) l2=some (.lst (wt.map V.str)):=by rw [Ae,MY];rfl
      generalize upd H2 l2 (.lst (Bi ((first::wt).map V.str) (some 1) none))=H3 at n3 k3 ⊢;have s03:=s02.trans n3;have wl:∀w∈wt,w.length<=200000:=λw hw=>Nat.le_trans (ML (x:=t) (y:=" ") (by rw [hs];exact mem_cons_of_mem _ hw)) tl
      refine⟨l2,rfl,⟨_,Ai.of k3⟩,Dy (xs:=wt.map V.str) (λi zs H'=>Ab H3 H'/\zs.length<=i/\(zs=[] ↔ ∀w∈wt.take i,A8 99 w=true)) (by rw [length_map];have:=MZ hk;omega) ⟨Ab.refl _,Nat.le_refl _,λ_ c hc=>(by cases hc),λ_=>rfl⟩ (λi zs H' h=>h.2.1) (λi zs H' _ h=>Ai.of (h.1 _ _ k3)) (λi y zs H' hy h=>?_) (λzs H' h=>?_)⟩
      ·rw [getElem?_map] at hy;obtain⟨w0,hw0,rfl⟩:=Option.map_eq_some_iff.mp hy;refine⟨trivial,wl w0 (mem_of_getElem? hw0),λH'' s''=>⟨λd=>?_,λd=>?_⟩⟩
       ·have d':A8 99 w0=false:=by revert d;cases A8 99 w0<;>simp
        refine⟨h.1.trans s'',by rw [length_append];exact Nat.succ_le_succ h.2.1,λz=>absurd z (by simp),λz=>?_⟩;have:=z w0 (by rw [AY hw0];exact mem_append_right _ (mem_singleton.mpr rfl));rw [d'] at this;cases this
       ·have d':A8 99 w0=true:=by revert d;cases A8 99 w0<;>simp
        refine⟨h.1.trans s'',Nat.le_succ_of_le h.2.1,h.2.2.trans ⟨λz x hx=>?_,λz x hx=>z x ?_⟩⟩
        ·rw [AY hw0] at hx;rcases mem_append.mp hx with y | y
         ·exact z x y
         ·rw [mem_singleton.mp y];exact d'
        ·rw [AY hw0];exact mem_append_left _ hx
      ·intro m hm l4 H4 s4 hl4 k4;have hw:=h.2.2;rw [length_map,take_of_length_le (Nat.le_refl _)] at hw;refine⟨m,l4,zs,rfl,rfl,s4 _ _ Ae,k4,?_⟩;have s5:=s03.trans (h.1.trans ((Ab.new (o:= .lst zs) hm).trans s4));have e:zs.isEmpty=wt.all (A8 99):=by
        rw [Bool.eq_iff_iff,List.isEmpty_iff,all_eq_true,hw]
       rw [e];cases al:wt.all (A8 99) with
       | true=>rw [if_pos ⟨lk,al⟩] at q;exact q H4 s5
       | false=>rw [if_neg (λy=>by rw [al] at y;cases y.2)] at q;exact q H4 s5
 ·exact h.elim
theorem za8:At ["_law_pen_here","_law_some","_law_words","_law_at","_law_way","_law_rows","_law_odd_here","_law_line_here"] ["_law_pen_here"] (Ak wb6):=Ax
theorem Vo (F:Df K mg "_law_line" wb6 ["_law_pen_here"]) (T:Tx mg) (ya0:Fm P w K mg base):Fn P w K mg base 2 "_law_line" ["_law_pen_here"] Ir:=by
 refine F.fn za8 (λvs H Q E h=>?_) (λf cdv A outer s H vs Q E hr h=>?_)
 ·unfold Ir at h;split at h;rfl;exact h.elim
 refine⟨_,(@Ah _ _ _ _ _ (@AG _ _ (1) _ _ _ _ za8.nd rfl (AC (by rfl)) (@CD _ _ _ _ (@AE _ _ _ _ _ (@Ao _ _ _ _) (@AE _ _ _ _ _ (@Ao _ _ _ _) (@AE _ _ _ _ _ (@Ao _ _ _ _) (@AE _ _ _ _ _ (@Ao _ _ _ _) (@AE _ _ _ _ _ (@Ao _ _ _ _) (@AE _ _ _ _ _ (@Ao _ _ _ _) (@AE _ _ _ _ _ (@Ao _ _ _ _) (@Dh _ _ _ _ _ _ _ _ _ (@Ao _ _ _ _) (@Ao _ _ _ _) (@Ao _ _ _ _) (@Ao _ _ _ _) (by rfl)) (by rfl)) (by rfl)) (by rfl)) (by rfl)) (by rfl)) (by rfl)) (by rfl))) (by rfl) (Br (by rfl))) (@Ah _ _ _ _ _ (@AG _ _ (2) _ _ _ _ za8.nd rfl (AC (by rfl)) (@Ch K _ _ _ _ _ _ _ _ _ _ _ _ PySem.F.plainAttrs_str PySem.F.slot_str_split PySem.F.type_str_split E9 (@AK _ _ _ _ _ _ _ (@Bp _ K (by rfl)) (@AA _ _ _ _ _ _ _ _ (@Ju _) (@cx _ 1 _ _ (by rfl)) (@CD _ _ _ _ (@AN _ _ _ _ _ (@Ao _ _ _ _) (@Ao _ _ _ _) (by rfl)))) (@An _ _ _ _ _ _ _ _ _ _ ya0 (hr.mono (by decide)) rfl (@AN _ _ _ _ _ (@cx _ 0 _ _ (by rfl)) (@Af _ _ _ _) (by rfl)) (by decide) (by rfl) (by rfl)) (λ_ _=>rfl)) (@AW _ _ _ (@Ao _ _ _ _) (by rfl)) (by rfl) (by rfl) (by rfl) (by rfl) (by rfl) (by rfl)) (by rfl) (Br (by rfl))) (@Ah _ _ _ _ _ (@NP _ _ (3) (4) _ _ _ _ _ _ _ _ _ _ _ rfl za8.nd rfl rfl (by decide) rfl rfl (@AN _ _ _ _ _ (@An _ _ _ _ _ _ _ _ _ _ ya0 (hr.mono (by decide)) rfl (@AN _ _ _ _ _ (@cx _ 0 _ _ (by rfl)) (@Ay _ _ _ _ _ _ _ _ _ (@Bn _ K (by rfl)) rfl T.b_len PySem.boot_len (@AW _ _ _ (@cx _ 2 _ _ (by rfl)) (by rfl)) (by decide) (by decide) (by rfl) (by rfl)) (by rfl)) (by decide) (by rfl) (by rfl)) (@An _ _ _ _ _ _ _ _ _ _ ya0 (hr.mono (by decide)) rfl (@AN _ _ _ _ _ (@cx _ 0 _ _ (by rfl)) (@Af _ _ _ _) (by rfl)) (by decide) (by rfl) (by rfl)) (by rfl)) (by rfl) (by rfl)) (@Ah _ _ _ _ _ (@AG _ _ (5) _ _ _ _ za8.nd rfl (AC (by rfl)) (@CD _ _ _ _ (@AE _ _ _ _ _ (@Ao _ _ _ _) (@AE _ _ _ _ _ (@Ao _ _ _ _) (@AE _ _ _ _ _ (@Ao _ _ _ _) (@AE _ _ _ _ _ (@Ao _ _ _ _) (@AE _ _ _ _ _ (@Ao _ _ _ _) (@AE _ _ _ _ _ (@Ao _ _ _ _) (@AE _ _ _ _ _ (@Ao _ _ _ _) (@AE _ _ _ _ _ (@Ao _ _ _ _) (@AE _ _ _ _ _ (@Ao _ _ _ _) (@AE _ _ _ _ _ (@Ao _ _ _ _) (@AE _ _ _ _ _ (@Ao _ _ _ _) (@AE _ _ _ _ _ (@Ao _ _ _ _) (@AE _ _ _ _ _ (@Ao _ _ _ _) (@Dh _ _ _ _ _ _ _ _ _ (@Ao _ _ _ _) (@Ao _ _ _ _) (@Ao _ _ _ _) (@Ao _ _ _ _) (by rfl)) (by rfl)) (by rfl)) (by rfl)) (by rfl)) (by rfl)) (by rfl)) (by rfl)) (by rfl)) (by rfl)) (by rfl)) (by rfl)) (by rfl)) (by rfl))) (by rfl) (Br (by rfl))) (@Ah _ _ _ _ _ (@AG _ _ (6) _ _ _ _ za8.nd rfl (AC (by rfl)) (@AK _ _ _ _ _ _ _ (@Bp _ K (by rfl)) (@cx _ 5 _ _ (by rfl)) (@An _ _ _ _ _ _ _ _ _ _ ya0 (hr.mono (by decide)) rfl (@AN _ _ _ _ _ (@cx _ 0 _ _ (by rfl)) (@Af _ _ _ _) (by rfl)) (by decide) (by rfl) (by rfl)) (λ_ _=>rfl)) (by rfl) (Br (by rfl))) (@Ah _ _ _ _ _ (@AT _ _ _ _ _ _ _ _ (@AU _ _ _ _ _ _ _ _ (@DW _) (@cx _ 4 _ _ (by rfl)) (@Af _ _ _ _) (AS _)) (@Aj _ _ _ (@Bk _ _ _ _ _ _ (@cx _ 6 _ _ (by rfl)) (@ID _ _ _ _ _ _ _ (@cx _ 2 _ _ (by rfl)) (@cx _ 3 _ _ (by rfl)) (@IR _) (by intro _;rfl)) (by rfl) (by rfl) (by rfl))) (@Aj _ _ _ (@AT _ _ _ _ _ _ _ _ (@AU _ _ _ _ _ _ _ _ (@DW _) (@cx _ 4 _ _ (by rfl)) (@Af _ _ _ _) (AS _)) (@Aj _ _ _ (@Ba _ _ _ _ (@Cn _ _ _ _ _ _ _ _ _ _ _ _ PySem.F.plainAttrs_list PySem.F.slot_list_insert PySem.F.type_list_insert RR (@cx _ 2 _ _ (by rfl)) (@AN _ _ _ _ _ (@AA _ _ _ _ _ _ _ _ (@Bm _) (@cx _ 3 _ _ (by rfl)) (@Af _ _ _ _)) (@cx _ 6 _ _ (by rfl)) (by rfl)) (by rfl) (by rfl) (by rfl) (by rfl) (by rfl)) (by rfl))) (@Aj _ _ _ (@AT _ _ _ _ _ _ _ _ (@AU _ _ _ _ _ _ _ _ (@Cy _) (@cx _ 4 _ _ (by rfl)) (@Af _ _ _ _) (AS _)) (@Aj _ _ _ (@Ba _ _ _ _ (@Cn _ _ _ _ _ _ _ _ _ _ _ _ PySem.F.plainAttrs_list PySem.F.slot_list_pop PySem.F.type_list_pop OZ (@cx _ 2 _ _ (by rfl)) (@AW _ _ _ (@cx _ 3 _ _ (by rfl)) (by rfl)) (by rfl) (by rfl) (by rfl) (by rfl) (by rfl)) (by rfl))) (@Aj _ _ _ (@AT _ _ _ _ _ _ _ _ (@AU _ _ _ _ _ _ _ _ (@Cy _) (@cx _ 4 _ _ (by rfl)) (@Af _ _ _ _) (AS _)) (@Aj _ _ _ (@Ba _ _ _ _ (@Cn _ _ _ _ _ _ _ _ _ _ _ _ PySem.F.plainAttrs_list PySem.F.slot_list_append PySem.F.type_list_append CY (@cx _ 2 _ _ (by rfl)) (@AW _ _ _ (@cx _ 6 _ _ (by rfl)) (by rfl)) (by rfl) (by rfl) (by rfl) (by rfl) (by rfl)) (by rfl))) (@A1 _)))))))) (@Ah _ _ _ _ _ (@AG _ _ (7) _ _ _ _ za8.nd rfl (AC (by rfl)) (@Ch K _ _ _ _ _ _ _ _ _ _ _ _ PySem.F.plainAttrs_str PySem.F.slot_str_join PySem.F.type_str_join Fa (@Ao _ _ _ _) (@AW _ _ _ (@cx _ 2 _ _ (by rfl)) (by rfl)) (by rfl) (by rfl) (by rfl) (by rfl) (by rfl) (by rfl)) (by rfl) (Br (by rfl))) (@Aj _ _ _ (@Au _ _ _ _ (@Dg _ _ _ _ _ _ _ _ (@AU _ _ _ _ _ _ _ _ (@DW _) (@cx _ 4 _ _ (by rfl)) (@Af _ _ _ _) (AS _)) (@cx _ 7 _ _ (by rfl)) (@AK _ _ _ _ _ _ _ (@Bp _ K (by rfl)) (@CD _ _ _ _ (@AN _ _ _ _ _ (@AA _ _ _ _ _ _ _ _ (@IK _) (@cx _ 7 _ _ (by rfl)) (@Ao _ _ _ _)) (@AA _ _ _ _ _ _ _ _ (@IK _) (@Ao _ _ _ _) (@cx _ 7 _ _ (by rfl))) (by rfl))) (@AA _ _ _ _ _ _ _ _ (@Co _) (@cx _ 4 _ _ (by rfl)) (@Af _ _ _ _)) (λ_ _=>rfl)))))))))))),?_⟩;unfold Ir at h;split at h
 ·rename_i p;obtain⟨pn,q⟩:=h;have sz:(200000:Nat)<=sizeLine:=by decide
  intro L1 H1 s1 hl1 k1 L2 H2 s2 hl2 k2;refine⟨L1,L2,_,_,rfl,rfl,s2 _ _ k1,k2,Jv (show 11+2<=1000 from by decide),λL3 H3 s3 hl3 k3=>?_⟩;have s03:=s1.trans (s2.trans s3);refine⟨pn.same s03,by decide,by decide,λg H4 g0 g1 e4 pn4=>?_⟩;obtain⟨s0,hs0,as0⟩:=JY (ss:=firstW) g0 g1;have n3:L3≠p:=(pn.same (s1.trans s2)).ne hl3;have k3':H3 L3=some (.lst (firstW.map V.str)):=k3;obtain⟨f1,f2,f3,f4⟩:=Vg s0 hs0;refine⟨L3,_,g,.str s0,rfl,rfl,Ai.of (e4.lst k3' n3),as0,rfl,s0," ",rfl,rfl,by decide,EG (by omega),λl hl=>?_⟩;generalize Az s0 " "=ws at f1 f2 f4 ⊢;have e04:=(Ev.same (p:=p) s03).trans e4;have hl0:H l=none:=by
   cases z:H l with
   | none=>rfl
   | some o=>
    rcases e04 l o z with⟨y,_⟩ | y
    ·exact absurd y (pn4.ne hl)
    ·rw [hl] at y;cases y
  have w5:Wl p H l (upd H4 l (.lst (ws.map V.str))) ws:=⟨Ae,e04.trans (.new hl),pn4.new hl,hl0,pn4.ne hl,by omega,f4⟩;generalize upd H4 l (.lst (ws.map V.str))=H5 at w5 ⊢;refine⟨l,_,rfl,.inl (Ai.of w5.lst),w5.pn,by rw [length_map];omega,by rw [length_map];omega,λg3 H6 g30 g31 e6 pn6=>?_⟩;have w6:=w5.step e6 pn6;refine⟨w6.pn,by decide,by decide,λg4 H7 g40 g41 e7 pn7=>⟨_,_,rfl,?_⟩⟩;have w7:=w6.step e7 pn7;intro L5 H8 s8 hl8 k8;have w8:=w7.same s8;refine⟨w8.pn,by decide,by decide,λg5 H9 g50 g51 e9 pn9=>?_⟩;have w9:=w8.step e9 pn9;have k8':H8 L5=some (.lst (oddW.map V.str)):=k8;obtain⟨s6,hs6,as6⟩:=JY (ss:=oddW) g50 g51;have o6:=Vh s6 hs6;refine⟨L5,_,g5,.str s6,rfl,rfl,Ai.of (e9.lst k8' (w7.pn.ne hl8)),as6,?_⟩;clear k1 k2 k3 k3' k8 k8' as0 as6 hs0 hs6 f3;obtain⟨n3,rfl⟩:=Int.eq_ofNat_of_zero_le g30;rw [length_map] at g31;have hn3:n3<ws.length:=by omega
  have mem_set:∀(w:Str),w∈ws.set n3 s6->w∈ws\/w=s6:=λw hw=>List.mem_or_eq_of_mem_set hw
  have ix3:CI (ws.map V.str).length (n3:Int)=some n3:=Qi (by rw [length_map];exact hn3);refine⟨λc=>?_,λc=>⟨λc2=>?_,λc2=>⟨rfl,⟨λc3=>?_,λc3=>⟨rfl,⟨λc4=>?_,λc4=>?_⟩⟩⟩⟩⟩⟩;refine⟨l,_,_,n3,rfl,rfl,w9.lst,ix3,?_⟩;obtain⟨wz,w10⟩:∃wz,Wl p H l (upd H9 l (.lst ((ws.map V.str).set n3 (.str s6)))) wz:=⟨_,w9.put (w2:=ws.set n3 s6) (by rw [map_set]) (w9.gd.sub (by rw [length_set];omega) o6 mem_set)⟩;generalize upd H9 l (.lst ((ws.map V.str).set n3 (.str s6)))=H10 at w10 ⊢
  rotate_left
  refine⟨.inl ⟨rfl,_,Ai.of w9.lst⟩,l,_,.str s6,n3+1,rfl,rfl,w9.lst,by omega,by rw [length_map];omega,?_⟩;obtain⟨wz,w10⟩:∃wz,Wl p H l (upd H9 l (.lst ((ws.map V.str).take (n3+1)++[.str s6]++(ws.map V.str).drop (n3+1)))) wz:=⟨_,w9.put (w2:=ws.take (n3+1)++[s6]++ws.drop (n3+1)) (by rw [map_append,map_append,map_take,map_drop];rfl) (w9.gd.sub (by simp only [length_append,length_take,length_drop,length_singleton];omega) o6 λw hw=>by
   rcases mem_append.mp hw with y | y
   ·rcases mem_append.mp y with z | z
    ·exact .inl (mem_of_mem_take z)
    ·exact .inr (mem_singleton.mp z)
   ·exact .inl (List.mem_of_mem_drop y))⟩
  generalize upd H9 l (.lst ((ws.map V.str).take (n3+1)++[.str s6]++(ws.map V.str).drop (n3+1)))=H10 at w10 ⊢
  rotate_left
  refine⟨.inl ⟨rfl,_,Ai.of w9.lst⟩,l,_,_,n3,_,rfl,rfl,w9.lst,by omega,by omega,(IP ix3).1,(by rw [getElem?_map,getElem?_eq_getElem hn3];rfl),?_⟩;obtain⟨wz,w10⟩:∃wz,Wl p H l (upd H9 l (.lst ((ws.map V.str).eraseIdx n3))) wz:=⟨_,w9.put (w2:=ws.eraseIdx n3) (M5 ..) (w9.gd.sub (Nat.le_trans (List.length_eraseIdx_le ..) (by omega)) o6 λw hw=> .inl (List.mem_of_mem_eraseIdx hw))⟩;generalize upd H9 l (.lst ((ws.map V.str).eraseIdx n3))=H10 at w10 ⊢
  rotate_left
  refine⟨.inl ⟨rfl,_,Ai.of w9.lst⟩,l,_,_,rfl,rfl,w9.lst,by rw [length_map];omega,?_⟩;obtain⟨wz,w10⟩:∃wz,Wl p H l (upd H9 l (.lst (ws.map V.str++[.str s6]))) wz:=⟨_,w9.put (w2:=ws++[s6]) (by rw [map_append];rfl) (w9.gd.sub (by rw [length_append];exact(by omega:ws.length+1<=10)) o6 λw hw=>by
   rcases mem_append.mp hw with y | y
   ·exact .inl y
   ·exact .inr (mem_singleton.mp y))⟩
  generalize upd H9 l (.lst (ws.map V.str++[.str s6]))=H10 at w10 ⊢
  rotate_left
  obtain⟨wz,w10⟩:∃wz,Wl p H l H9 wz:=⟨_,w9⟩;obtain⟨H10,e10⟩:∃H10,H10=H9:=⟨_,rfl⟩;rw [<-e10] at w10 ⊢
  rotate_left
  all_goals
   have eb:Str.ofString " "=⟨#[32]⟩:=by decide
   have l1:(Str.ofString " ").length=1:=by decide
   have g10:=w10.gd.1;have jn:=Ft (sep:=" ") (l:=wz) (B:=20) (λx hx=>(w10.gd.2 x hx).2) (by rw [l1];omega);have jl:=HV (sep:=" ") (l:=wz) (B:=20) (λx hx=>(w10.gd.2 x hx).2);rw [l1] at jl;have hj:Hd (Cg " " wz):=by rw [eb];exact Vc λx hx=>(w10.gd.2 x hx).1
   refine⟨rfl," ",l,wz,rfl,rfl,w10.lst,jn.1,jn.2,?_⟩;have jz:(Cg " " wz).length<=210:=by omega
   generalize Cg " " wz=tx at hj jz ⊢;refine⟨λc8=>q tx H10 hj (by omega) w10.ev w10.pn,λc8=>?_⟩;refine⟨tx," ",rfl,rfl,by rw [l1];omega," ",tx,rfl,rfl,by rw [l1];omega,λL H11 s11 hL kL=>?_⟩;have c8':=of_decide_eq_false c8;obtain⟨sf,hsf,asf⟩:=JY (ss:=[tx++Str.ofString " ",Str.ofString " " ++tx]) (g:=g4-8) (by omega) (by show g4-8<2;omega);have w11:=w10.same s11;have hb:Hd (Str.ofString " "):=by decide
   refine⟨L,_,g4-8,.str sf,rfl,rfl,Ai.of kL,asf,q sf H11 ?_ ?_ w11.ev w11.pn⟩
   ·simp only [mem_cons,not_mem_nil,or_false] at hsf;rcases hsf with rfl | rfl
    ·exact hj.app hb
    ·exact hb.app hj
   ·simp only [mem_cons,not_mem_nil,or_false] at hsf;rcases hsf with rfl | rfl<;>(rw [strLen_append,l1];omega)
 ·exact h.elim
end
end MF
end
section
namespace MF
open L2
variable {F : FL} {H H' : Hp} {ql first s t : Str} {M : List Addr} {ps : Cv} {Fs' : List FL} {Q : VK} {E : XK} {i : Sum Nat Int}
theorem Vp {cs:List Int}{ws:List Str} (hl:ws.length=cs.length) (h:∀(i:Nat) w c,ws[i]? =some w->cs[i]? =some c->∃n:Nat,w=nT (n:Int)/\(n:Int)<=c):CQ cs ws=true:=by
 unfold CQ;rw [decide_eq_true hl,Bool.true_and];refine all_eq_true.mpr λb hb=>?_
 obtain⟨i,hi⟩:=getElem?_of_mem hb;rw [getElem?_zipWith] at hi;split at hi
 ·rename_i c w hc hw;cases hi;obtain⟨n,rfl,hn⟩:=h i w c hw hc;exact TZ hn
 ·cases hi
theorem Iu {P:PL}{S:SY}{F:List (List Int)} (ok:P.ok) (so:S.ok P.bs.length) (fo:FOk P S F):JX F:=by
 have x8:=so.x8;have b4:=ok.b4;have lf:=fo.len;refine⟨by omega,λr hr=>?_⟩;obtain⟨i,hi⟩:=getElem?_of_mem hr;have l1:=fo.row i r hi;have hi':i<S.ex.length:=by have:=(List.getElem?_eq_some_iff.mp hi).1;omega
 refine⟨by omega,λn hn=>?_⟩;obtain⟨j,hj⟩:=getElem?_of_mem hn;have cb:=Cz (S:=S) ok _ (mem_of_getElem? (BB hi'));obtain⟨c,hc⟩:∃c,(Bc P.bs S.fs i)[j]? =some c:=⟨_,getElem?_eq_getElem (by have:=(List.getElem?_eq_some_iff.mp hj).1;omega)⟩;have b:=fo.bd i r j n c hi hj hc;have c9:=cb.1 c (mem_of_getElem? hc);omega
theorem Vq {p TB:Addr} (h:A5 p H) (t:TabIn H TB ql) (g:∀b o,H b=some o->b≠TB->H' b=some o):A5 p H':=by
 obtain⟨l,f,e⟩:=h;refine⟨l,f,g _ _ e λz=>?_⟩;obtain⟨ps,h1,_⟩:=t;rw [z,h1] at e;cases e
theorem M6 {c d:Nat} (hcd:c≠d):∀ {ps:List Str},(∀p∈ps,d ∉ p.cps.toList)->d ∉(Str.join ⟨#[c]⟩ ps).cps.toList
 | [],_=>λz=>by cases z
 | [x],h=>h x (mem_singleton.mpr rfl)
 | x::y::r,h=>λz=>by
  rw [Eg] at z;rcases mem_append.mp z with z | z
  ·exact h x (mem_cons_self ..) z
  ·rcases mem_cons.mp z with z | z
   ·exact hcd z.symm
   ·exact M6 hcd (λp k=>h p (mem_cons_of_mem _ k)) z
theorem M7 {n:Int} (h0:0<=n) (h9:n<=9):32 ∉(nT n).cps.toList/\47 ∉(nT n).cps.toList:=by
 obtain⟨k,rfl⟩:=Int.eq_ofNat_of_zero_le h0;exact(by decide+kernel:∀k:Nat,k<10->32 ∉(nT (k:Int)).cps.toList/\47 ∉(nT (k:Int)).cps.toList) k (by omega)
theorem JZ:Str.ofString " "=⟨#[32]⟩:=by decide
theorem M8:Str.ofString "/"=⟨#[47]⟩:=by decide
theorem Vr {r:List Int} (h:∀n∈r,0<=n/\n<=9) (hr:r≠ []):Az (Bs r) " "=r.map nT:=by
 unfold Bs;rw [JZ];exact M4 (λz=>hr (List.map_eq_nil_iff.mp z)) λw hw=>by
  obtain⟨n,hn,rfl⟩:=mem_map.mp hw;exact(M7 (h n hn).1 (h n hn).2).1
theorem Vs {F:List (List Int)} (h:∀r∈F,∀n∈r,0<=n/\n<=9) (hF:F≠ []):Az (CP F) "/"=F.map Bs:=by
 unfold CP;rw [M8];refine M4 (λz=>hF (List.map_eq_nil_iff.mp z)) λw hw=>?_
 obtain⟨r,hr,rfl⟩:=mem_map.mp hw;unfold Bs;rw [JZ,Gg];exact M6 (by decide) λx hx=>by
  obtain⟨n,hn,rfl⟩:=mem_map.mp hx;exact(M7 (h r hr n hn).1 (h r hr n hn).2).2
theorem Vt {P:PL}{S:SY}{F:List (List Int)} (ok:P.ok) (so:S.ok P.bs.length) (fo:FOk P S F):CG (caps P S) (Az (CP F) "/")= .inr F:=by
 have fit:=Iu ok so fo;have x1:=so.x1;have b1:=ok.b1;have lf:=fo.len;rw [Vs (λr hr=>(fit.2 r hr).2) (λz=>by rw [z] at lf;have:(0:Nat)=S.ex.length:=lf;omega)];have at_:∀i r,F[i]? =some r->BW (caps P S) (F.map Bs) i=some r:=λi r hr=>by
  have hi:i<S.ex.length:=by have:=(List.getElem?_eq_some_iff.mp hr).1;omega
  have hm:=mem_of_getElem? hr;have lr:=fo.row i r hr;unfold BW;rw [if_pos (by rw [BI];exact hi)];have e1:(caps P S).getD i []=Bc P.bs S.fs i:=by rw [getD_eq_getElem?_getD,BB hi];rfl
  have e2:(F.map Bs).getD i Str.empty=Bs r:=by rw [getD_eq_getElem?_getD,getElem?_map,hr];rfl
  have dig:=(fit.2 r hm).2;rw [e1,e2,Vr dig (λz=>by rw [z] at lr;have:(0:Nat)=P.bs.length:=lr;omega)];unfold F8;have lc:(Bc P.bs S.fs i).length=P.bs.length:=(FOk.caps (S:=S) ok).row i _ (BB hi);rw [if_pos (Vp (by rw [length_map];omega) λj w c hw hc=>?_)]
  ·congr 1
   rw [map_map];refine(List.map_congr_left λn hn=>?_).trans (List.map_id r);obtain⟨h0,h9⟩:=dig n hn;obtain⟨k,rfl⟩:=Int.eq_ofNat_of_zero_le h0;exact MJ k (by omega)
  ·rw [getElem?_map] at hw;obtain⟨x,hx,rfl⟩:=Option.map_eq_some_iff.mp hw;have b:=fo.bd i r j x c hr hx hc;obtain⟨k,rfl⟩:=Int.eq_ofNat_of_zero_le b.1;exact⟨k,rfl,b.2⟩
 unfold CG;rw [length_map,MH λj hj=>by rw [at_ j _ (getElem?_eq_getElem hj)];rfl];dsimp only;rw [if_neg (by rw [BI];omega)]
 congr 1
 refine List.ext_getElem? λi=>?_
 rw [getElem?_map]
 by_cases hi:i<F.length
 ·rw [getElem?_range hi,getElem?_eq_getElem hi];show some ((BW _ _ i).getD [])=_;rw [at_ i _ (getElem?_eq_getElem hi)];rfl
 ·rw [List.getElem?_eq_none (by rw [length_range];omega),List.getElem?_eq_none (by omega)];rfl
theorem Vu (t:Str):Cw (Str.ofString "fire " ++t)=some (Str.ofString "fire",Sum.inl t):=by
 have e5:(Str.ofString "fire ").cps.toList=(Str.ofString "fire").cps.toList++[32]:=by decide
 have ec:(Str.ofString "fire " ++t).cps.toList=(Str.ofString "fire").cps.toList++32::t.cps.toList:=by
  show((Str.ofString "fire ").cps++t.cps).toList=_;rw [Array.toList_append,e5,append_assoc];rfl
 have fr:32 ∉(Str.ofString "fire").cps.toList:=by decide
 rcases Fx (Str.ofString "fire " ++t) with⟨hn,_⟩ | ⟨a,b,ha,ht,hp⟩
 ·exact absurd (by rw [ec];exact mem_append_right _ (mem_cons_self ..)) hn
 ·have e:=Gh fr ha (ec.symm.trans ht);have ea:a=Str.ofString "fire" :=(Str.ext' (Array.toList_inj.mp e.1)).symm;have eb:b=t:=(Str.ext' (Array.toList_inj.mp e.2)).symm;unfold Cw;rw [hp,ea,eb,if_pos ⟨rfl,by show(Str.ofString " ").length≠0;decide⟩]
def Gi:List Str:=["fire",""," ","\n","show\n","undo 1","stoke 0 0","bank","bank 100","least 0","coal "]
theorem Vv:∀s∈Gi++[Str.ofString "fires 0"],Cw s=none:=by decide+kernel
theorem Vw:∀d∈Gf,By d=none:=by decide+kernel
def Vx:PyData->Bool
 | .str t=>decide (t.length<=200000)
 | _=>true
theorem Vy:∀d∈Gf,∀t,d= .str t->t.length<=200000:=λd hd t e=>by
 have h:=(by decide+kernel:∀d∈Gf,Vx d=true) d hd;rw [e] at h;exact of_decide_eq_true h
theorem M9:Cw "show"=some (Str.ofString "show",Sum.inr []):=by decide+kernel
def J0 (ds:List Addr) (CA DA:Addr):Sp:=λvs H Q _=>EK ds CA DA vs H Q λ_ _ _=>False
theorem _root_.L2.EvX.tev {M:List Addr}{H H':Hp} (e:EvX M H H'):TEv H H':=λa xs q=>e.tup q
theorem WAt.evx {CA:Addr}{W L:Addr}{v u:V} (h:WAt CA H W L v u) (e:EvX M H H'):WAt CA H' W L v u:=by
 obtain⟨dx,h⟩:=h;exact⟨dx,e.keep h λz=>by rcases z with⟨_,z⟩ | ⟨_,z⟩<;>cases z⟩
theorem Wat.evx {CA p:Addr}{W L:Addr}{P:PL}{S:SY}{v u:V}{xs:List V}{Fs:List FL} (h:Wat CA p H W L P S v u xs Fs) (e:EvX M H H') (n:L ∉ M):Wat CA p H' W L P S v u xs Fs:=
 ⟨h.ok,h.so,Aa.tev e.tev _ _ (JM P) h.rv,Aa.tev e.tev _ _ (JN S) h.ru,h.at_.evx e,e.lst h.lst n,Ad.tev e.tev _ _ (MV Fs) h.reps,h.fok⟩
structure Lk (CA DA p TB:Addr) (H0:Hp) (P:PL) (S:SY) (v u:V) (D W L:Addr) (J:Hp) (xs:List V) (Fs:List FL):Prop where
 ins:∃dx,J D=some (.ins DA dx [("watch",.ref W)])
 wat:Wat CA p J W L P S v u xs Fs
 pn:A5 p J
 tab:TabIn J TB Ff
 ne:1<=Fs.length
 nl:L≠p
 e0:EvX [TB] H0 J
 hp:H0 p=none
 hL:H0 L=none
section
variable {CA DA p TB : Addr} {H0 : Hp} {P : PL} {S : SY} {v u : V} {D W L : Addr} {J J' : Hp} {xs : List V} {Fs : List FL}
theorem Lk.step (k:Lk CA DA p TB H0 P S v u D W L J xs Fs) (e:EvX M J J') (hM:∀c∈M,c=p\/c=TB) (pn:A5 p J') (T:TabIn J' TB Ff):Lk CA DA p TB H0 P S v u D W L J' xs Fs:=by
 obtain⟨dx,hD⟩:=k.ins;refine⟨⟨dx,(e _ _ hD).elim (fun⟨_,z⟩=>by rcases z with⟨ys,z⟩ | ⟨ps,z⟩<;>cases z) id⟩,k.wat.evx e λz=>?_,pn,T,k.ne,k.nl,k.e0.sub e λc hc=>(hM c hc).elim (λz=> .inr (z ▸ k.hp)) λz=> .inl (by simp [z]),k.hp,k.hL⟩;rcases hM _ z with y | y
 ·exact k.nl y
 ·exact k.tab.ne k.wat.lst y
theorem Lk.same (k:Lk CA DA p TB H0 P S v u D W L J xs Fs) (s:Ab J J'):Lk CA DA p TB H0 P S v u D W L J' xs Fs:=k.step (M:=[]) (EvX.same s) (λc hc=>by cases hc) (k.pn.same s) (k.tab.same s)
theorem Lk.penE (k:Lk CA DA p TB H0 P S v u D W L J xs Fs) (e:Ev p J J') (pn:A5 p J'):Lk CA DA p TB H0 P S v u D W L J' xs Fs:=k.step (M:=[p]) (EvX.ev e (by simp)) (λc hc=> .inl (mem_singleton.mp hc)) pn (k.tab.ev e)
theorem Lk.grow (k:Lk CA DA p TB H0 P S v u D W L J xs Fs) (T:TabIn J' TB Ff) (g:∀b o,J b=some o->b≠TB->J' b=some o):Lk CA DA p TB H0 P S v u D W L J' xs Fs:=k.step (M:=[TB]) (EvX.tab k.tab g (by simp)) (λc hc=> .inr (mem_singleton.mp hc)) (Vq k.pn k.tab g) T
def Fz (x:Str):Prop:=∀c∈x.cps.toList,c<0x110000
theorem BX (s:String):Fz (Str.ofString s):=λc hc=>by
 rw [Str.ofString_eq_toList] at hc;obtain⟨ch,_,rfl⟩:=mem_map.mp hc;rcases ch.valid with h | h
 ·exact Nat.lt_trans h (by decide)
 ·exact h.2
theorem Dq {x:Str} (h:Fz x):PyData.strOk x=true:=by
 unfold PyData.strOk;rw [<-Array.all_toList];exact all_eq_true.mpr λc hc=>decide_eq_true (h c hc)
theorem Ka {c:Nat} (hc:c<0x110000):∀ {ps:List Str},(∀p∈ps,Fz p)->Fz (Str.join ⟨#[c]⟩ ps)
 | [],_=>λ_ z=>by cases z
 | [x],h=>h x (mem_singleton.mpr rfl)
 | x::y::r,h=>λd z=>by
  rw [Eg] at z;rcases mem_append.mp z with z | z
  ·exact h x (mem_cons_self ..) d z
  ·rcases mem_cons.mp z with z | z
   ·rw [z];exact hc
   ·exact Ka hc (λp k=>h p (mem_cons_of_mem _ k)) d z
theorem Iv (r:List Int):Fz (Bs r):=by
 unfold Bs;rw [JZ,Gg];exact Ka (by decide) λp hp=>by
  obtain⟨n,_,rfl⟩:=mem_map.mp hp;exact BX _
theorem Vz (F:FL):Fz (CP F):=by
 unfold CP;rw [M8,Gg];exact Ka (by decide) λp hp=>by
  obtain⟨r,_,rfl⟩:=mem_map.mp hp;exact Iv r
theorem VA (a:Ci P S Fs F first ps s Fs'):PyData.strOk s=true:=by
 refine Dq ?_;cases a with
 | stoke=>unfold JS;split<;>exact BX _
 | bank=>exact BX _
 | fire=>exact BX _
 | undo=>exact BX _
 | «show»=>exact Vz F
 | main=>unfold Ii;split;exact BX _;exact Iv _
 | falls=>unfold JT;split;exact BX _;exact Iv _
 | coal=>exact BX _
 | stretch=>unfold JU;split;exact BX _;exact Iv _
theorem VB (ok:P.ok) (fok:∀G∈Fs,FOk P S G) (hF:Fs[Fs.length-1]? =some F) (a:Ci P S Fs F first ps s Fs'):(∀G∈Fs',FOk P S G)/\1<=Fs'.length/\Fs'.length<=Fs.length+1:=by
 have fo:=fok F (mem_of_getElem? hF);have n:=(List.getElem?_eq_some_iff.mp hF).1;have add:∀G,FOk P S G->(∀G'∈Fs++[G],FOk P S G')/\1<=(Fs++[G]).length/\(Fs++[G]).length<=Fs.length+1:=λG hG=>⟨λG' h=>(mem_append.mp h).elim (fok G') λz=>by rw [mem_singleton.mp z];exact hG,by simp,by simp⟩
 cases a with
 | stoke hi hj h0 h1 _=>exact add _ (MQ fo hi h0 h1)
 | bank hi=>exact add _ (Uh ok fo hi)
 | fire h=>exact add _ (MW ok h)
 | undo h=>exact⟨λG hG=>fok G (by rw [List.dropLast_eq_take] at hG;exact mem_of_mem_take hG),by rw [List.length_dropLast];omega,by rw [List.length_dropLast];omega⟩
 | «show»=>exact⟨fok,by omega,by omega⟩
 | main _=>exact⟨fok,by omega,by omega⟩
 | falls _=>exact⟨fok,by omega,by omega⟩
 | coal=>exact⟨fok,by omega,by omega⟩
 | stretch=>exact⟨fok,by omega,by omega⟩
theorem Lk.told {xs':List V} (k:Lk CA DA p TB H0 P S v u D W L J xs Fs) (hF:Fs[Fs.length-1]? =some F) (a:Ci P S Fs F first ps s Fs') (e:Ev L J J') (hL:J' L=some (.lst xs')) (r:Ad p J' (Fs'.map FD) xs'):Lk CA DA p TB H0 P S v u D W L J' xs' Fs'/\Fs'.length<=Fs.length+1:=by
 obtain⟨dx,hD⟩:=k.ins;obtain⟨f1,f2,f3⟩:=VB k.wat.ok k.wat.fok hF a;have w:=k.wat;have eX:EvX [L] J J':=EvX.ev e (by simp);obtain⟨l,f,hp⟩:=k.pn;exact⟨⟨⟨dx,(e _ _ hD).elim (fun⟨_,ys,z⟩=>nomatch z) id⟩,⟨w.ok,w.so,Aa.tev e.tev _ _ (JM P) w.rv,Aa.tev e.tev _ _ (JN S) w.ru,w.at_.evx eX,hL,r,f1⟩,⟨l,f,e.lst hp k.nl.symm⟩,k.tab.ev e,f2,k.nl,k.e0.sub eX (λc hc=> .inr (by rw [mem_singleton.mp hc];exact k.hL)),k.hp,k.hL⟩,f3⟩
theorem Lk.last (k:Lk CA DA p TB H0 P S v u D W L J xs Fs):Fs[Fs.length-1]? =some (Fs.getLastD []):=by
 have n:=k.ne;rw [List.getLastD_eq_getLast?,List.getLast?_eq_getElem?,getElem?_eq_getElem (by omega)];rfl
theorem Lk.say {ds:List Addr}{f:Str} (k:Lk CA DA p TB H0 P S v u D W L J xs Fs) (hn:Fs.length<=80) (hl:t.length<=200000) (hp:Cw t=some (f,ps)) (nl:f≠Str.ofString "least") (no:∀i,¬C5 P S Fs f ps i)
  (q:∀s Fs' xs' J',Ci P S Fs (Fs.getLastD []) f ps s Fs'->Lk CA DA p TB H0 P S v u D W L J' xs' Fs'->Fs'.length<=Fs.length+1->Q (.str s) J'):J0 ds CA DA [.ref D,.str t] J Q E:=by
 obtain⟨dx,hD⟩:=k.ins;have lx:=k.wat.reps.len;rw [length_map] at lx;have e:By (.str t)=some (f,ps):=hp;refine⟨p,L,P,S,v,u,xs,Fs,_,W,.str t,dx,hD,k.wat,by omega,k.last,Aa.str,λt' z=>by cases z;exact hl,λf' ps' z=>?_,λz=>?_,λf' ps' z=>?_⟩
 ·rw [e] at z;cases z;exact nl
 ·rw [e] at z;cases z
 ·rw [e] at z;cases z;exact⟨λi H' r _=>no _ r,λn a H' r _ _ _=>no _ r,λs Fs' xs' H' a e1 hL r=>(by obtain⟨k',l'⟩:=k.told k.last a e1 hL r;exact q s Fs' xs' H' a k' l')⟩
theorem Lk.ask {ds:List Addr}{x:V}{d:PyData} (k:Lk CA DA p TB H0 P S v u D W L J xs Fs) (hn:Fs.length<=80) (rd:Aa p J d x) (hl:∀t,d= .str t->t.length<=200000) (nl:∀f ps,By d=some (f,ps)->f≠Str.ofString "least")
  (q0:By d=none->∀J',Ab J J'->E (.ref (ds.getD 17 0)) none J')
  (q1:∀f ps i J',By d=some (f,ps)->(i=3\/i=4\/i=15\/i=16)->Ab J J'->E (.ref (ds.getD i 0)) none J')
  (q2:∀f ps n a J',By d=some (f,ps)->Ab J J'->J' a=some (.xd [("at",.int n)])->E (.ref (ds.getD 18 0)) (some a) J')
  (q:∀f ps s Fs' xs' J',By d=some (f,ps)->Lk CA DA p TB H0 P S v u D W L J' xs' Fs'->Fs'.length<=Fs.length+1->PyData.strOk s=true->Q (.str s) J'):EK ds CA DA [.ref D,x] J Q E:=by
 obtain⟨dx,hD⟩:=k.ins;have lx:=k.wat.reps.len;rw [length_map] at lx;refine⟨p,L,P,S,v,u,xs,Fs,_,W,d,dx,hD,k.wat,by omega,k.last,rd,hl,nl,q0,λf ps z=>⟨λi H' r s=>q1 f ps i H' z ?_ s,λn a H' r s _ ha=>q2 f ps n a H' z s ha,λs Fs' xs' H' a e1 hL r=>(by obtain⟨k',l'⟩:=k.told k.last a e1 hL r;exact q f ps s Fs' xs' H' z k' l' (VA a))⟩⟩;cases r<;>simp
end
theorem Na {P:PL}{S:SY}{Fs:List FL}{f:Str} (a:Ci P S Fs F f ps s Fs') (h:f=Str.ofString "show"):s=CP F/\Fs'=Fs:=by
 cases a<;>first | exact⟨rfl,rfl⟩ | exact absurd h (by decide)
theorem Nb {P:PL}{S:SY}{Fs:List FL}{f:Str} (r:C5 P S Fs f ps i) (h:f=Str.ofString "show"):False:=by
 cases r<;>exact absurd h (by decide)
theorem VC {P:PL}{S:SY}{Fs:List FL}{f:Str} (r:C5 P S Fs f ps i) (h:f=Str.ofString "fire") (e:ps= .inl t):∃n,CG (caps P S) (Az t "/")= .inl n:=by
 cases r with
 | fire h'=>cases e;exact⟨_,h'⟩
 | _=>first | exact absurd h (by decide) | cases e
theorem VD {p TB:Addr}{J J':Hp} (T:TabIn J TB ql) (g:∀b o,J b=some o->b≠TB->J' b=some o):Bb p J J':=λb o h=>by
 by_cases c:b=TB
 ·obtain⟨ps,t,_⟩:=T;rw [c,t] at h;cases h;exact .inr (.inl ⟨_,rfl⟩)
 ·exact .inr (.inr (g b o h c))
theorem VE (w:Str):PyData.eqv (.tuple [.str w]) (.tuple [.str "line"])=decide (w=Str.ofString "line"):=by
 simp only [PyData.eqv,PyData.eqvAll,Bool.and_true];rw [Bool.eq_iff_iff];simp only [beq_iff_eq,decide_eq_true_eq]
theorem Nc (w:Str) (d:PyData):PyData.eqv (.tuple [.str w,d]) (.tuple [.str "line"])=false:=by
 simp only [PyData.eqv,PyData.eqvAll,Bool.and_false]
theorem Nd (w:Str) (h:PyData.strOk w=true):(PyData.tuple [.str w]).canLay0=true/\(PyData.tuple [.str w]).hasDict=false:=by
 have e:(PyData.tuple [.str w]).canLay0=true:=by simp [PyData.canLay0,PyData.canLayAll0,h]
 exact⟨e,PyData.hasDict_of_canLay _ e⟩
theorem Nf (w s:Str) (h:PyData.strOk w=true) (h':PyData.strOk s=true):(PyData.tuple [.str w,.str s]).canLay0=true/\(PyData.tuple [.str w,.str s]).hasDict=false:=by
 have e:(PyData.tuple [.str w,.str s]).canLay0=true:=by simp [PyData.canLay0,PyData.canLayAll0,h,h']
 exact⟨e,PyData.hasDict_of_canLay _ e⟩
theorem Ng (w:Str) (n:Int) (h:PyData.strOk w=true):(PyData.tuple [.str w,.int n]).canLay0=true/\(PyData.tuple [.str w,.int n]).hasDict=false:=by
 have e:(PyData.tuple [.str w,.int n]).canLay0=true:=by simp [PyData.canLay0,PyData.canLayAll0,h]
 exact⟨e,PyData.hasDict_of_canLay _ e⟩
theorem Lk.asked {K:Fgx}{mg:Str->Option Value}{M:Addr}{ds:List Addr}{CA DA p TB:Addr}{H0:Hp}{P:PL}{S:SY}{v u:V}{D W L:Addr}{J:Hp}{xs:List V}{Fs:List FL}{cap:List (Option Nat)}{σ:L2.St}{x:V}{d:PyData} (C:Tc K mg M ds)
  (k:Lk CA DA p TB H0 P S v u D W L J xs Fs) (hσ:AM cap σ=[some x,some (.ref D)]) (hn:Fs.length<=80) (rd:Aa p J d x) (hl:∀t,d= .str t->t.length<=200000) (nl:∀f ps,By d=some (f,ps)->f≠Str.ofString "least")
  (tail : ∀ J' r w0 ws dd xs' Fs', Lk CA DA p TB H0 P S v u D W L J' xs' Fs' -> Fs'.length <= Fs.length + 1 -> J' r = some (.tup (.str w0 :: ws)) -> Aa p J' (.tuple (.str w0 :: dd)) (.ref r) -> (PyData.tuple (.str w0 :: dd)).canLay0 = true -> (PyData.tuple (.str w0 :: dd)).hasDict = false ->
   PyData.eqv (.tuple (.str w0::dd)) (.tuple [.str "line"])=(By d).isNone->((w0=Str.ofString "told" /\(By d).isSome=true)\/(w0≠Str.ofString "told" /\xs'=xs/\Fs'=Fs/\Bb p J J'))->Q (.ref r) J'):
  L9 TB Ff (WB K M ds) cap (λE=>Hi DA (Str.ofString "say") (EK ds CA DA) E (Ew 1) (Bv (Ew 0) CH)) σ J Q:=by
 refine⟨k.tab,λJ1 T1 g1=>?_⟩;have k1:=k.grow T1 g1;have eT:Bb p J J1:=VD k.tab g1;obtain⟨dx,hD⟩:=k1.ins;show Hi DA _ _ _ _ _ (AM cap σ) J1 _;rw [hσ];refine⟨D,dx,_,rfl,hD,rfl,?_⟩;have word:∀i J2,(i=3\/i=4\/i=15\/i=16\/i=17)->Ab J1 J2->(decide (i=17)=(By d).isNone)->FZ (WB K M ds) Q (.ref (ds.getD i 0)) none J2:=λi J2 hi s2 he=>by
  obtain⟨word,h1,h2,h3,h4,h5,h6⟩:∃word,kindWords[i]? =some word/\BJ K M ds i=true/\word≠Str.ofString "told" /\word≠Str.ofString "text" /\(decide (word=Str.ofString "line")=decide (i=17))/\PyData.strOk word=true:=by
   rcases hi with rfl | rfl | rfl | rfl | rfl
   ·exact⟨_,rfl,C.w_NoHour,by decide,by decide,by decide,Dq (BX _)⟩
   ·exact⟨_,rfl,C.w_NoBoiler,by decide,by decide,by decide,Dq (BX _)⟩
   ·exact⟨_,rfl,C.w_NoAmount,by decide,by decide,by decide,Dq (BX _)⟩
   ·exact⟨_,rfl,C.w_NoDeed,by decide,by decide,by decide,Dq (BX _)⟩
   ·exact⟨_,rfl,C.w_NoLine,by decide,by decide,by decide,Dq (BX _)⟩
  refine⟨_,[.str word],rfl,⟨i,word,by omega,rfl,h1,h2,λ_=>rfl,λz=>absurd z h4⟩,λJ3 t keep ht=>?_⟩;have k3:=(k1.same s2).same keep;refine tail J3 t word [] [] xs Fs k3 (Nat.le_succ _) ht (Aa.tup ht (.cons Aa.str .nil)) (Nd _ h6).1 (Nd _ h6).2 (by rw [VE,h5,he]) (.inr ⟨h3,rfl,rfl,eT.trans ((Bb.same s2).trans (Bb.same keep))⟩)
 refine k1.ask hn (Aa.evT eT _ _ rd) hl nl (λe J2 s2=>word 17 J2 (by simp) s2 (by rw [e];rfl)) (λf ps i J2 e hi s2=>word i J2 (by omega) s2 (by rw [e];exact decide_eq_false (by omega))) (λf ps n a J2 e s2 ha=>?_) (λf ps s Fs' xs' J2 e k2 l2 ok2=>?_)
 ·refine⟨_,[.str "text",.int n],rfl,⟨18,"text",by decide,rfl,rfl,C.w_NoText,λz=>absurd rfl z,λ_=>⟨a,_,rfl,C.hd,C.na,ha,rfl⟩⟩,λJ3 t keep ht=>?_⟩;have k3:=(k1.same s2).same keep;exact tail J3 t "text" [.int n] [.int n] xs Fs k3 (Nat.le_succ _) ht (Aa.tup ht (.cons Aa.str (.cons Aa.int .nil))) (Ng _ _ (Dq (BX _))).1 (Ng _ _ (Dq (BX _))).2 (by rw [Nc,e];rfl) (.inr ⟨by decide,rfl,rfl,eT.trans ((Bb.same s2).trans (Bb.same keep))⟩)
 ·intro t ht;have s3:=Ab.new (o:= .tup [.str "told",.str s]) ht;exact tail _ t "told" [.str s] [.str s] xs' Fs' (k2.same s3) l2 Ae (Aa.tup Ae (.cons Aa.str (.cons Aa.str .nil))) (Nf _ _ (Dq (BX _)) ok2).1 (Nf _ _ (Dq (BX _)) ok2).2 (by rw [Nc,e];rfl) (.inl ⟨rfl,by rw [e];rfl⟩)
theorem VF {xs:List V}{lo hi:Option Int}{v:V} (h:v∈Bi xs lo hi):v∈xs:=by unfold Bi at h;exact List.mem_of_mem_drop (mem_of_mem_take h)
section
variable {P : Program} {w : World} {K : Fgx} {mg : Str -> Option Value} {base : Heap}
theorem za0:At ["_law_script","_law_cell_here","_law_pen_here","_law_plant_here","_law_story_here","_law_desk","_law_bad","_law_line_here","_law_turn","_law_ahead","_law_word"] ["_law_script"] (Ak wa1):=Ax
theorem VG {M:Addr}{ds:List Addr}{c TB CA DA:Addr}{lf:Addr}{lfd:FuncData} (F:FX K "law" "law" wa1 lf lfd c) (hC:PySem.W.CodeHd base c TB) (hBu:base.BuiltinsAt mg TB) (T:Tx mg) (C:Tc K mg M ds) (DK:Ik K DA) (yb2:Fn P w K mg base 1 "_law_caps" ["_law_plant_here","_law_story_here"] HF) (yb3:Fn P w K mg base 1 "_law_cell" ["_law_script","_law_k"] (Hu K)) (yb4:Fn P w K mg base 2 "_law_firing" ["_law_pen_here","_law_caps_here"] HL) (yah:Fn P w K mg base 2 "_law_is_line" ["_law_line_here"] Iq) (yb5:Fn P w K mg base 2 "_law_line" ["_law_pen_here"] Ir) (yb6:Fn P w K mg base 2 "_law_odd" ["_law_pen_here"] Im) (yb7:Fn P w K mg base 1 "_law_pen" ["_law_cell_here"] Hv) (yb8:Fn P w K mg base 2 "_law_plant" ["_law_pen_here"] Hw) (yb9:Fn P w K mg base 2 "_law_story" ["_law_pen_here","_law_plant_here"] HE) (yba:Fn P w K mg base 1 "_law_text" ["_law_firing_here"] Io) (ybb:Ms P w K mg base 12 "Desk" DA ["self","plant","story"] (Il CA DA)) (yag:Mt CX0 P w K mg base 16 DA "say" ["self","line"] (J0 ds CA DA)) (yai:Mt (Bj P w) P w K mg base 16 DA "say" ["self","line"] (EK ds CA DA)) (yaj:Hg P w K mg base 18 "_law_said" ["_law_call"] (EA P w K mg base 17 (WB K M ds))):BE P w K mg base CX0 19 lf lfd ["_law_script"] (FY K TB):=by
 have WC:=DK.cls;refine F.ok za0 (λvs H Q E h=>?_) (λA outer s H vs Q E hr h=>?_)
 ·exact Rq h
 refine⟨_,(@Ah _ _ _ _ _ (@CU _ _ _ _ _ _ _ _ PassesOwn.never rfl (@CZ _ K _ _ _ (@AA _ _ _ _ _ _ _ _ (@Ju _) (@CD _ _ _ _ (@AW _ _ _ (@An _ _ _ _ _ _ _ _ _ _ yb3 (hr.mono (by decide)) rfl (@AN _ _ _ _ _ (@cx _ 0 _ _ (by rfl)) (@Af _ _ _ _) (by rfl)) (by decide) (by rfl) (by rfl)) (by rfl))) (@DT _ _ _ _ _ _ _ _ _ _ (@Jh _ K (by rfl)) (@cx _ 0 _ _ (by rfl)) (@CW _ _ _ (@Af _ _ _ _)) (@CW _ _ _ (@Af _ _ _ _)))) (by rfl)) (@DF _ _ _ 1 za0.nd (by rfl)) (@Ah _ _ _ _ _ (@AG _ _ (2) _ _ _ _ za0.nd rfl (AC (by rfl)) (@An _ _ _ _ _ _ _ _ _ _ yb7 (hr.mono (by decide)) rfl (@AW _ _ _ (@cx _ 1 _ _ (by rfl)) (by rfl)) (by decide) (by rfl) (by rfl)) (by rfl) (Br (by rfl))) (@Ah _ _ _ _ _ (@AG _ _ (3) _ _ _ _ za0.nd rfl (AC (by rfl)) (@An _ _ _ _ _ _ _ _ _ _ yb8 (hr.mono (by decide)) rfl (@AW _ _ _ (@cx _ 2 _ _ (by rfl)) (by rfl)) (by decide) (by rfl) (by rfl)) (by rfl) (Br (by rfl))) (@Ah _ _ _ _ _ (@AG _ _ (4) _ _ _ _ za0.nd rfl (AC (by rfl)) (@An _ _ _ _ _ _ _ _ _ _ yb9 (hr.mono (by decide)) rfl (@AN _ _ _ _ _ (@cx _ 2 _ _ (by rfl)) (@cx _ 3 _ _ (by rfl)) (by rfl)) (by decide) (by rfl) (by rfl)) (by rfl) (Br (by rfl))) (@Ah _ _ _ _ _ (@AG _ _ (5) _ _ _ _ za0.nd rfl (AC (by rfl)) (L8 ybb (hr.mono (by decide)) rfl (@AN _ _ _ _ _ (@cx _ 3 _ _ (by rfl)) (@cx _ 4 _ _ (by rfl)) (by rfl))) (by rfl) (Br (by rfl))) (@Ah _ _ _ _ _ (@Ba _ _ _ _ (Dk Ce WC yag (hr.mono (by decide)) (@cx _ 5 _ _ (by rfl)) (@AW _ _ _ (@AA _ _ _ _ _ _ _ _ (@IK _) (@Ao _ _ _ _) (@An _ _ _ _ _ _ _ _ _ _ yba (hr.mono (by decide)) rfl (@AW _ _ _ (@An _ _ _ _ _ _ _ _ _ _ yb4 (hr.mono (by decide)) rfl (@AN _ _ _ _ _ (@cx _ 2 _ _ (by rfl)) (@An _ _ _ _ _ _ _ _ _ _ yb2 (hr.mono (by decide)) rfl (@AN _ _ _ _ _ (@cx _ 3 _ _ (by rfl)) (@cx _ 4 _ _ (by rfl)) (by rfl)) (by decide) (by rfl) (by rfl)) (by rfl)) (by decide) (by rfl) (by rfl)) (by rfl)) (by decide) (by rfl) (by rfl))) (by rfl))) (by rfl)) (@Ah _ _ _ _ _ (@AG _ _ (6) _ _ _ _ za0.nd rfl (AC (by rfl)) (@CD _ _ _ _ (@AE _ _ _ _ _ (@Ao _ _ _ _) (@AE _ _ _ _ _ (@Ao _ _ _ _) (@AE _ _ _ _ _ (@Ao _ _ _ _) (@AE _ _ _ _ _ (@Ao _ _ _ _) (@AE _ _ _ _ _ (@Ao _ _ _ _) (@AE _ _ _ _ _ (@Ao _ _ _ _) (@AE _ _ _ _ _ (@Ao _ _ _ _) (@Dh _ _ _ _ _ _ _ _ _ (@Ao _ _ _ _) (@Ao _ _ _ _) (@Ao _ _ _ _) (@Ao _ _ _ _) (by rfl)) (by rfl)) (by rfl)) (by rfl)) (by rfl)) (by rfl)) (by rfl)) (by rfl))) (by rfl) (Br (by rfl))) (@Ah _ _ _ _ _ (@CU _ _ _ _ _ _ _ _ PassesOwn.never rfl (@CZ _ K _ _ _ (@AA _ _ _ _ _ _ _ _ (@Ju _) (@cx _ 6 _ _ (by rfl)) (@CD _ _ _ _ (@AN _ _ _ _ _ (@Ao _ _ _ _) (@An _ _ _ _ _ _ _ _ _ _ yb6 (hr.mono (by decide)) rfl (@AW _ _ _ (@cx _ 2 _ _ (by rfl)) (by rfl)) (by decide) (by rfl) (by rfl)) (by rfl)))) (by rfl)) (@DF _ _ _ 7 za0.nd (by rfl)) (@Aj _ _ _ (@AT _ _ _ _ _ _ _ _ (@PW.pt _ _ _ (@E3 _ _ _ _ _ _ _ (@Bw _ _ _ (@An _ _ _ _ _ _ _ _ _ _ yah (hr.mono (by decide)) rfl (@AW _ _ _ (@cx _ 7 _ _ (by rfl)) (by rfl)) (by decide) (by rfl) (by rfl)) (by intro _;rfl)) (@EO _ _ _ _ (@AU _ _ _ _ _ _ _ _ (@QQ _ _ hr) (Ma (N':=["_law_line_here","_law_desk"]) (cap:=[some 7,some 5]) yaj (hr.mono (by decide)) rfl (λ_=>rfl) rfl hC hBu (AH.of rfl) (by decide) rfl rfl rfl rfl (λ_ _ _ _=>rfl) (λA outer s H f c E hrA=>(Dk isDef_lam.passes WC yai ((hrA.deeper _).mono (by decide)) (@cx _ 1 _ _ (by rfl)) (@AW _ _ _ (@cx _ 0 _ _ (by rfl)) (by rfl))))) (@Cq _ _ _ _ _ (@AW _ _ _ (@Ao _ _ _ _) (by rfl))) (AS _))))) (@Aj _ _ _ (@Au _ _ _ _ (@BQ _ _ _ _))) (@A1 _))) (by intro _;rfl)) (@Aj _ _ _ (@CU _ _ _ _ _ _ _ _ PassesOwn.never rfl (@Da _ _ _ _ _ _ rfl T.b_range (@AW _ _ _ (@Af _ _ _ _) (by rfl)) (by rfl)) (@DF _ _ _ 8 za0.nd (by rfl)) (@Ah _ _ _ _ _ (@Bk _ _ _ _ _ _ (@Cq _ _ _ _ _ (@AN _ _ _ _ _ (@An _ _ _ _ _ _ _ _ _ _ yb5 (hr.mono (by decide)) rfl (@AW _ _ _ (@cx _ 2 _ _ (by rfl)) (by rfl)) (by decide) (by rfl) (by rfl)) (Dk Ce WC yag (hr.mono (by decide)) (@cx _ 5 _ _ (by rfl)) (@AW _ _ _ (@Ao _ _ _ _) (by rfl))) (by rfl))) (@AV _ K _ _ _ (2) _ (@Ar _ _ _ _ _ (@DF _ _ _ 7 za0.nd (by rfl)) (@Ar _ _ _ _ _ (@DF _ _ _ 9 za0.nd (by rfl)) (@AQ _) (by rfl)) (by rfl)) (by rfl) (by rfl) (by rfl) (by rfl)) (by rfl) (by rfl) (by rfl)) (@Ah _ _ _ _ _ (@AG _ _ (10) _ _ _ _ za0.nd rfl (AC (by rfl)) (Ma (N':=["_law_line_here","_law_desk"]) (cap:=[some 7,some 5]) yaj (hr.mono (by decide)) rfl (λ_=>rfl) rfl hC hBu (AH.of rfl) (by decide) rfl rfl rfl rfl (λ_ _ _ _=>rfl) (λA outer s H f c E hrA=>(Dk isDef_lam.passes WC yai ((hrA.deeper _).mono (by decide)) (@cx _ 1 _ _ (by rfl)) (@AW _ _ _ (@cx _ 0 _ _ (by rfl)) (by rfl))))) (by rfl) (Br (by rfl))) (@Ah _ _ _ _ _ (@AT _ _ _ _ _ _ _ _ (@AU _ _ _ _ _ _ _ _ (@Cy _) (@Db _ _ _ _ _ _ _ _ (@QE _ _ hr) (@cx _ 10 _ _ (by rfl)) (@Cq _ _ _ _ _ (@AW _ _ _ (@Ao _ _ _ _) (by rfl))) (AS _)) (@An _ _ _ _ _ _ _ _ _ _ yah (hr.mono (by decide)) rfl (@AW _ _ _ (@cx _ 7 _ _ (by rfl)) (by rfl)) (by decide) (by rfl) (by rfl)) (AS _)) (@Aj _ _ _ (@Au _ _ _ _ (@BQ _ _ _ _))) (@A1 _)) (@Aj _ _ _ (@AT _ _ _ _ _ _ _ _ (@PW.pt _ _ _ (@FQ _ _ _ _ _ _ _ (@AU _ _ _ _ _ _ _ _ (@Em _) (@AK _ _ _ _ _ _ _ (@Bq _ K (by rfl)) (@cx _ 10 _ _ (by rfl)) (@Af _ _ _ _) (λ_ _=>rfl)) (@Ao _ _ _ _) (AS _)) (@Go _ _ _ _ (@AU _ _ _ _ _ _ _ _ (@Em _) (Dk Ce WC yag (hr.mono (by decide)) (@cx _ 5 _ _ (by rfl)) (@AW _ _ _ (@Ao _ _ _ _) (by rfl))) (@cx _ 9 _ _ (by rfl)) (AS _))))) (@Aj _ _ _ (@Au _ _ _ _ (@BQ _ _ _ _))) (@A1 _)))))) (by intro _;rfl)))))))))) (by intro _;rfl)) (@Aj _ _ _ (@Au _ _ _ _ (@BQ _ _ _ _)))),?_⟩;unfold FY at h;split at h
 ·rename_i a;obtain⟨ns,hS,hn63,hTB,q⟩:=h;have tb0:TabIn H TB Ff:=⟨#[],hTB,trivial,λpos v e=>(by have:(none:Option Value)=some v:=e;cases this)⟩;refine⟨ns,hS,by decide,λc0 l1 H01 s01 hl1 k01=>?_⟩;have hS1:Ai K H01 a (ns.map V.int):=s01.seq hS;refine⟨1,rfl,3,rfl,a,_,rfl,hS1,λl2 hl2=>?_⟩;have lc:(Bi (ns.map V.int) (some 1) (some 3)).length<=63:=Nat.le_trans (Gx _ _ _) (by rw [length_map];exact hn63);refine⟨l1,l2,[.int c0],_,rfl,rfl,(Ab.new hl2) _ _ k01,Ae,Jv (by rw [length_singleton];omega),λL0 H02 s02 hL kL=>?_⟩;have allI:∀v∈ [V.int c0]++Bi (ns.map V.int) (some 1) (some 3),∃i,v= .int i:=λv hv=>by
   rcases mem_append.mp hv with hv | hv
   ·exact⟨c0,mem_singleton.mp hv⟩
   ·obtain⟨i,_,e⟩:=mem_map.mp (VF hv);exact⟨i,e.symm⟩
  have tb1:=tb0.same (s01.trans ((Ab.new hl2).trans s02));generalize [V.int c0]++Bi (ns.map V.int) (some 1) (some 3)=xs at allI kL;refine⟨L0,rfl,⟨xs,Ai.of kL⟩,Kn (xs:=xs) (λi σ H'=>(∃x1 x2 x3 x4 x5 x6 x7 x8 x9 x10,σ=[some (.ref a),x1,x2,x3,x4,x5,x6,x7,x8,x9,x10])/\H' L0=some (.lst xs)/\TabIn H' TB Ff) ⟨⟨_,_,_,_,_,_,_,_,_,_,rfl⟩,kL,tb1⟩ (λi σ H' _ h=>Ai.of h.2.1) (λi x σ H0 hx h=>?_) fun σ H1 h=>q H1⟩;obtain⟨⟨x1,x2,x3,x4,x5,x6,x7,x8,x9,x10,rfl⟩,hL0,tb2⟩:=h;obtain⟨cell,rfl⟩:=allI x (mem_of_getElem? hx);refine λp l f hp=>?_
  have np:=Ab.new (o:= .lst [.int l,.int f]) hp;have pn1:A5 p (upd H0 p (.lst [.int l,.int f])):=⟨l,f,Ae⟩;generalize upd H0 p (.lst [.int l,.int f])=H1 at np pn1 ⊢;refine⟨pn1,λv H2 bs es lo hi' st gp rv e2 pn2=>?_⟩;obtain⟨P,ok,eP⟩:=gp.pl;rw [eP] at rv;refine⟨pn2,P,ok,rv,λu H3 S so ru e3 pn3=>?_⟩;have rv3:=Aa.ev e3 _ _ rv;have e03:EvX [TB] H0 H3:=(EvX.same np).sub (EvX.ev (M:=[p]) (e2.trans e3) (by simp)) λc hc=> .inr (by rw [mem_singleton.mp hc];exact hp)
  have tb3:=(tb2.same np).ev (e2.trans e3);intro D dxD hD hdx ne;have sD:Ab H3 (upd (upd H3 dxD (.own D)) D (.ins DA dxD [])):=(Ab.new hdx).trans (Ab.new (by rw [Aq (Ne.symm ne)];exact hD));refine⟨p,P,S,dxD,ok,so,Aa.ev (Ev.same sD) _ _ rv3,Aa.ev (Ev.same sD) _ _ ru,Ae,λW L B H5 keep insD wat hLn hLl rB=>⟨rfl,?_⟩⟩;have hL3:=sD.free hLn;have s35:Ab H3 H5:=λb o z=>keep b o (sD b o z) λy=>by rw [y,hD] at z;cases z
  have free0:∀b,H3 b=none->H0 b=none:=λb z=>by
   cases y:H0 b with
   | none=>rfl
   | some o=>
    rcases e03 b o y with⟨m,_⟩ | w
    ·obtain⟨ps,t1,_⟩:=tb3;rw [mem_singleton.mp m,t1] at z;cases z
    ·rw [w] at z;cases z
  have k5:Lk CA DA p TB H0 P S v u D W L H5 [.ref B] [CS P S]:=⟨insD,⟨ok,so,Aa.ev (Ev.same s35) _ _ rv3,Aa.ev (Ev.same s35) _ _ ru,wat,hLl,.cons rB .nil,λG hG=>by rw [mem_singleton.mp hG];exact Ui ok⟩,pn3.same s35,tb3.same s35,Nat.le_refl _,pn3.ne hL3,e03.trans (EvX.same s35),hp,free0 L hL3⟩;clear keep insD wat hLn hLl rB sD;obtain⟨dx5,hD5⟩:=k5.ins;refine⟨D,dx5,_,rfl,hD5,rfl,?_⟩;have p5:=k5.pn;refine⟨p,P,S,ok,so,k5.wat.rv,k5.wat.ru,λvc H6 s6 rc=>⟨(k5.same s6).pn,P,S,ok,so,rc,λw7 H7 F fo rf e7 pn7=>⟨p,F,Iu ok so fo,rf,λH8 s8=>⟨Str.ofString "fire ",CP F,rfl,rfl,?_,?_⟩⟩⟩⟩
  ·have:=M0 (Iu ok so fo);have e:(Str.ofString "fire ").length=5:=by decide
   have z:(200000:Nat)<=sizeLine:=by decide
   omega
  have k8:=((k5.same s6).penE e7 pn7).same s8;refine k8.say (E:=E0) (by simp) ?_ (Vu _) (by decide) (λi r=>?_) λs9 Fs9 xs9 J a9 k9 l9=>?_
  ·have:=M0 (Iu ok so fo);have e:(Str.ofString "fire ").length=5:=by decide
   rw [strLen_append];omega
  ·obtain⟨n,hn⟩:=VC r rfl rfl;rw [Vt ok so fo] at hn;cases hn
  clear k5 k8 a9 rc rf p5;intro LB J1 s1 hlB kB;have k10:=k9.same s1;refine⟨k10.pn,λvo J2 d0 rd0 hd0 e11 pn11=>?_⟩;have k11:=k10.penE e11 pn11;intro L11 J3 s12 hL11 kL11;have nLB:LB≠p:=k9.pn.ne hlB;refine⟨LB,L11,_,_,rfl,rfl,s12 _ _ (e11.lst kB nLB),kL11,Jv (show 11+2<=1000 from by decide),λL12 J4 s13 hL12 kL12=>?_⟩;have k13:=(k11.same s12).same s13;have nL12:L12≠p:=(k11.same s12).pn.ne hL12;have rd13:=Aa.ev (Ev.same (p:=p) (s12.trans s13)) _ _ rd0;have items:∀x∈(Gi++[Str.ofString "fires 0"]).map V.str++[vo],∃d,Aa p J4 d x/\By d=none/\∀t,d= .str t->t.length<=200000:=λx hx=>by
   rcases mem_append.mp hx with hx | hx
   ·obtain⟨t,ht,rfl⟩:=mem_map.mp hx;exact⟨.str t,Aa.str,Vv t ht,λt' e=>by cases e;exact(by decide+kernel:∀t∈Gi++[Str.ofString "fires 0"],t.length<=200000) t ht⟩
   ·rw [mem_singleton.mp hx];exact⟨d0,rd13,Vw d0 hd0,Vy d0 hd0⟩
  have kL:J4 L12=some (.lst ((Gi++[Str.ofString "fires 0"]).map V.str++[vo])):=kL12;clear kL12 kB kL11 rd0;generalize(Gi++[Str.ofString "fires 0"]).map V.str++[vo]=ys at items kL;have l9':Fs9.length<=2:=by simpa using l9
  refine⟨L12,rfl,⟨_,Ai.of kL⟩,Kn (xs:=ys) (λi σ J=>(∃y7 y8 y9 y10,σ=[some (.ref a),some (.int cell),some (.ref p),some v,some u,some (.ref D),some (.ref LB),y7,y8,y9,y10])/\Lk CA DA p TB H0 P S v u D W L J xs9 Fs9/\Bb p J4 J) ⟨⟨_,_,_,_,rfl⟩,k13,Bb.refl⟩ (λi σ J _ h=>Ai.of (h.2.2.lst kL nL12)) (λi x σ J hx h=>?_) fun σ J h=>?_⟩
  ·obtain⟨⟨y7,y8,y9,y10,rfl⟩,kJ,eJ⟩:=h;obtain⟨d,rd,hd,hsh⟩:=items x (mem_of_getElem? hx);have rdJ:=Aa.evT eJ _ _ rd;refine⟨p,d,rdJ,hsh,λJ5 s5=>?_⟩;rw [hd];refine⟨λz=>(by cases z),λ_=>?_⟩;refine(kJ.same s5).asked C rfl (by omega) (Aa.ev (Ev.same (p:=p) s5) _ _ rdJ) hsh (λf ps z=>by rw [hd] at z;cases z) λJ6 r w0 ws dd xs' Fs' k6 l6 hr rr c1 c2 ev ho=>?_
   intro u7 J7 s7 k7;rw [hd] at ev;refine⟨p,_,.tuple [.str "line"],Aa.ev (Ev.same s7) _ _ rr,Aa.tup k7 (.cons Aa.str .nil),by decide+kernel,by decide+kernel,by decide+kernel,c1,c2,?_⟩;rw [ev];refine⟨λz=>(by cases z),λ_=>?_⟩;rcases ho with ho | ⟨_,rfl,rfl,e6⟩
   ·rw [hd] at ho;cases ho.2
   ·exact⟨⟨_,_,_,_,rfl⟩,k6.same s7,(eJ.trans (Bb.same s5)).trans (e6.trans (Bb.same s7))⟩
  ·obtain⟨⟨y7,y8,y9,y10,rfl⟩,kJ,eJ⟩:=h;refine⟨16,rfl,by decide,by decide,FE (n:=16) (λi σ J'=>(∃y7 y8 y9 y10,σ=[some (.ref a),some (.int cell),some (.ref p),some v,some u,some (.ref D),some (.ref LB),y7,y8,y9,y10])/\∃xs1 Fs1,Lk CA DA p TB H0 P S v u D W L J' xs1 Fs1/\Fs1.length<=i+2) ⟨⟨_,_,_,_,rfl⟩,xs9,Fs9,kJ,l9'⟩ (λi σ J' hi h=>?_) (fun σ J' h=>?_)⟩
   ·obtain⟨⟨y7,y8,y9,y10,rfl⟩,xs1,Fs1,k1,l1⟩:=h;refine⟨k1.pn,λt J2 hd hl e2 pn2=>?_⟩;have k2:=k1.penE e2 pn2;obtain⟨dx2,hD2⟩:=k2.ins;refine⟨D,dx2,_,rfl,hD2,rfl,k2.say (E:=E0) (by omega) (by decide) M9 (by decide) (λi r=>Nb r rfl) λs3 Fs3 xs3 J3 a3 k3 l3=>?_⟩;obtain⟨rfl,rfl⟩:=Na a3 rfl;intro u4 J4 s4 k4;refine⟨u4,_,rfl,Ag.of k4,rfl,_,_,rfl,_,_,rfl,rfl,?_⟩;have k5:=k3.same s4;refine k5.asked (d:= .str t) C rfl (by omega) Aa.str (λt' e=>by cases e;exact hl) (λf ps z=>Vd hd z) λJ6 r w0 ws dd xs6 Fs6 k6 l6 hr rr c1 c2 ev ho=>?_
    intro u7 J7 s7 k7;refine⟨p,_,.tuple [.str "line"],Aa.ev (Ev.same s7) _ _ rr,Aa.tup k7 (.cons Aa.str .nil),by decide+kernel,by decide+kernel,by decide+kernel,.inl ⟨c1,c2,?_⟩⟩;refine⟨p,.str t,Aa.str,λt' e=>by cases e;exact hl,λJ8 s8=>⟨rfl,?_⟩⟩;rw [ev];have k8:=(k6.same s7).same s8;refine⟨λz=>?_,λ_=>?_⟩
    ·revert z
     cases By (.str t)<;>(intro z;simp at z)
    refine⟨r,_,0,.str w0,rfl,rfl,Ag.of (s8 _ _ (s7 _ _ hr)),Cb (j:=0) rfl,rfl,⟨λc=>?_,λc=>?_⟩⟩
    ·rcases ho with⟨rfl,_⟩ | ⟨nz,rfl,rfl,_⟩
     ·rw [decide_eq_true rfl] at c;cases c
     ·obtain⟨dx8,hD8⟩:=k8.ins;refine⟨D,dx8,_,rfl,hD8,rfl,k8.say (E:=E0) (by omega) (by decide) M9 (by decide) (λi r=>Nb r rfl) λs9 Fs9' xs9' J9 a9 k9 l9=>?_⟩;obtain⟨rfl,rfl⟩:=Na a9 rfl;refine⟨rfl,⟨λz=>(by rw [decide_eq_true rfl] at z;cases z),λ_=>?_⟩⟩;exact⟨⟨_,_,_,_,rfl⟩,_,_,k9,by omega⟩
    ·exact⟨λz=>(by cases z),λ_=>⟨⟨_,_,_,_,rfl⟩,_,_,k8,by omega⟩⟩
   ·obtain⟨⟨y7,y8,y9,y10,rfl⟩,xs1,Fs1,k1,l1⟩:=h;exact⟨⟨_,_,_,_,_,_,_,_,_,_,rfl⟩,k1.e0.lst hL0 (by simp [tb2.ne hL0]),k1.tab⟩
 ·exact h.elim
end
end MF
end
section
namespace MF
open L2
variable {oc dc pm cd : Value} {od an : Option Addr} {sl : Array (Option Value)} {CA C a : Addr} {h : Heap} {ps : List Str} {p0 p1 : Str} {P : Program} {ep : Nat}
abbrev D4 (K:Fgx) (x:Str) (st:Stmt):Prop:=∃(f:Addr) (oc:Value) (od an:Option Addr) (sl:Array (Option Value)) (kV dc pm cd ct:Value),PySem.W.nsIn K mainGlobals x=some (some (.ref f))/\K.lookup f=some ⟨oc,od,.func (PySem.W.fnOf x x (BM st) (Bf st) (Ak st) .none kV dc pm an cd ct),sl⟩/\PySem.W.codeIn K cd x=true/\PySem.W.keepIn K (.ref f)=true
theorem d4_mk {K:Fgx}{x:Str}{st:Stmt}{f:Addr}{kV ct:Value} (a:PySem.W.nsIn K mainGlobals x=some (some (.ref f))) (l:K.lookup f=some ⟨oc,od,.func (PySem.W.fnOf x x (BM st) (Bf st) (Ak st) .none kV dc pm an cd ct),sl⟩) (c:PySem.W.codeIn K cd x=true) (k:PySem.W.keepIn K (.ref f)=true):D4 K x st:=⟨_,_,_,_,_,_,_,_,_,_,a,l,c,k⟩
abbrev D6 (K:Fgx) (CA:Addr) (x q:Str) (st:Stmt):Prop:=∃(f:Addr) (oc:Value) (od an:Option Addr) (sl:Array (Option Value)) (kV dc pm cd ct:Value),PySem.W.findIn K (.ref CA) x=some (some (.ref f))/\PySem.W.isFn K (.ref f)=true/\K.lookup f=some ⟨oc,od,.func (PySem.W.fnOf x q (BM st) (Bf st) (Ak st) .none kV dc pm an cd ct),sl⟩/\PySem.W.codeIn K cd q=true/\PySem.W.keepIn K (.ref f)=true
theorem d6_mk {K:Fgx}{x q:Str}{st:Stmt}{f:Addr}{kV ct:Value} (a:PySem.W.findIn K (.ref CA) x=some (some (.ref f))) (b:PySem.W.isFn K (.ref f)=true) (l:K.lookup f=some ⟨oc,od,.func (PySem.W.fnOf x q (BM st) (Bf st) (Ak st) .none kV dc pm an cd ct),sl⟩) (c:PySem.W.codeIn K cd q=true) (k:PySem.W.keepIn K (.ref f)=true):D6 K CA x q st:=⟨_,_,_,_,_,_,_,_,_,_,a,b,l,c,k⟩
theorem Kb {K:Fgx}{mg:Str->Option Value}{x:Str}{st:Stmt} (X:K.In h) (G:h.Ns mainGlobals mg) (d:D4 K x st)
  (hb:∀(kV doc pm:Value) (an:Option Addr) (cdv ct:Value) (us:List Value),us.length=ps.length->bindArgs (PySem.W.fnOf x x (BM st) (Bf st) (Ak st) .none kV doc pm an cdv ct) ⟨us,[]⟩=pure (ps.zip us)):Df K mg x st ps:=by
 obtain⟨f,_,_,_,_,_,_,_,_,_,a,l,c,k⟩:=d;exact⟨f,_,DV l c k,PySem.W.mg_of X G a,(DV l c k).binds hb⟩
theorem BL {K:Fgx}{mg:Str->Option Value}{x:Str}{st:Stmt} (X:K.In h) (G:h.Ns mainGlobals mg) (d:D4 K x st) (hb:∀(kV doc pm:Value) (an:Option Addr) (cdv ct a0:Value),bindArgs (PySem.W.fnOf x x (BM st) (Bf st) (Ak st) .none kV doc pm an cdv ct) ⟨[a0],[]⟩=pure ([p0].zip [a0]):=by intros;rfl):Df K mg x st [p0]:=
 Kb X G d λ_ _ _ _ _ _ us hl=>match us,hl with | [_],_=>hb _ _ _ _ _ _ _
theorem Bd {K:Fgx}{mg:Str->Option Value}{x:Str}{st:Stmt} (X:K.In h) (G:h.Ns mainGlobals mg) (d:D4 K x st) (hb:∀(kV doc pm:Value) (an:Option Addr) (cdv ct a0 a1:Value),bindArgs (PySem.W.fnOf x x (BM st) (Bf st) (Ak st) .none kV doc pm an cdv ct) ⟨[a0,a1],[]⟩=pure ([p0,p1].zip [a0,a1]):=by intros;rfl):Df K mg x st [p0,p1]:=
 Kb X G d λ_ _ _ _ _ _ us hl=>match us,hl with | [_,_],_=>hb _ _ _ _ _ _ _ _
theorem B9 {K:Fgx}{mg:Str->Option Value}{x:Str}{st:Stmt}{p2:Str} (X:K.In h) (G:h.Ns mainGlobals mg) (d:D4 K x st) (hb:∀(kV doc pm:Value) (an:Option Addr) (cdv ct a0 a1 a2:Value),bindArgs (PySem.W.fnOf x x (BM st) (Bf st) (Ak st) .none kV doc pm an cdv ct) ⟨[a0,a1,a2],[]⟩=pure ([p0,p1,p2].zip [a0,a1,a2]):=by intros;rfl):Df K mg x st [p0,p1,p2]:=
 Kb X G d λ_ _ _ _ _ _ us hl=>match us,hl with | [_,_,_],_=>hb _ _ _ _ _ _ _ _ _
theorem VH {K:Fgx}{x:Str}{f c T:Addr}{fd:FuncData} (a:PySem.W.nsIn K mainGlobals x=some (some (.ref f))) (l:K.lookup f=some ⟨oc,od,.func fd,sl⟩) (t:PySem.W.tabIn K x=some (c,T)):fd.code= .ref c:=by
 unfold PySem.W.tabIn at t;rw [a] at t;simp only [l] at t;split at t
 ·rename_i c' hc;split at t
  ·split at t
   ·have t':=Option.some.inj t;have e:c'=c:=congrArg Prod.fst t';rw [hc,e]
   ·cases t
  ·cases t
 ·cases t
theorem EL {K:Fgx}{x q:Str}{st:Stmt} (d:D6 K CA x q st) (hb:∀(kV doc pm:Value) (an:Option Addr) (cdv ct:Value) (us:List Value),us.length=ps.length->bindArgs (PySem.W.fnOf x q (BM st) (Bf st) (Ak st) .none kV doc pm an cdv ct) ⟨us,[]⟩=pure (ps.zip us)):Dm K CA x q st ps:=by
 obtain⟨f,_,_,_,_,_,_,_,_,_,a,b,l,c,k⟩:=d;exact⟨f,_,DV l c k,⟨a,b,k⟩,(DV l c k).binds hb⟩
theorem Nh {K:Fgx}{mg:Str->Option Value}{n:Str}{q:Str}{st:Stmt} (at_:mg n=some (.ref CA)) (m:PySem.W.makesIn K CA=true) (kc:PySem.W.keepIn K (.ref CA)=true) (d:D6 K CA "__init__" q st) (hb:∀(kV doc pm:Value) (an:Option Addr) (cdv ct:Value) (us:List Value),us.length=ps.length->bindArgs (PySem.W.fnOf "__init__" q (BM st) (Bf st) (Ak st) .none kV doc pm an cdv ct) ⟨us,[]⟩=pure (ps.zip us)):Di K mg n CA q st ps:=by
 obtain⟨f,_,_,_,_,_,_,_,_,_,a,b,l,c,k⟩:=d;exact⟨⟨f,_,DV l c k,⟨m,a,b,kc⟩,(DV l c k).binds hb⟩,at_⟩
theorem VI {K:Fgx}{x:Str} (h:(PySem.W.tabIn K x).isSome=true):PySem.W.tabIn K x=some ((B3 K x).1,(B3 K x).2):=by
 obtain⟨y,e⟩:=Option.isSome_iff_exists.mp h;have:B3 K x=y:=by unfold B3;rw [e];rfl
 rw [this,e]
abbrev DI (K:Fgx) (C:Addr):Prop:=∃(f:Addr) (oc:Value) (od an:Option Addr) (sl:Array (Option Value)) (kV dc pm cd ct:Value),PySem.W.findIn K (.ref C) "__init__"=some (some (.ref f))/\DL K C f=true/\PySem.W.isFn K (.ref f)=true/\K.lookup f=some ⟨oc,od,.func (PySem.W.fnOf "__init__" "NoText.__init__" (BM wa0) (Bf wa0) (Ak wa0) .none kV dc pm an cd ct),sl⟩/\PySem.W.codeIn K cd "NoText.__init__"=true/\PySem.W.keepIn K (.ref f)=true
theorem di_mk2 {K:Fgx}{f:Addr}{kV ct:Value} (b:PySem.W.findIn K (.ref C) "__init__"=some (some (.ref f))) (e:DL K C f=true) (h:PySem.W.isFn K (.ref f)=true) (l:K.lookup f=some ⟨oc,od,.func (PySem.W.fnOf "__init__" "NoText.__init__" (BM wa0) (Bf wa0) (Ak wa0) .none kV dc pm an cd ct),sl⟩) (c:PySem.W.codeIn K cd "NoText.__init__"=true) (k:PySem.W.keepIn K (.ref f)=true):DI K C:=⟨_,_,_,_,_,_,_,_,_,_,b,e,h,l,c,k⟩
def Kc (K:Fgx) (M C:Addr):Bool:=PySem.W.hasDictIn K C &&(PySem.W.findIn K (.ref C) "at"==some none) &&
 ((PySem.W.specialIn K (.ref M) "__getattribute__"==some (some (.builtin "type.__getattribute__"))) && PySem.W.readsIn K M (.type "type") &&(match PySem.W.findCls K (.ref M) (.type "type") "__init__" with | some (.val (.builtin n))=>n=="ValueError.__init__" | _=>false)) &&
 ((PySem.W.findIn K (.ref C) "__setattr__"==some (some (.builtin "object.__setattr__"))) &&(match PySem.W.clsIn K C with | some cd=>(cd.mro== .ref C:: .ref M::B2) && cd.hasDict | none=>false))
theorem Iw {K:Fgx}{M:Addr} (h:Kc K M C=true):PySem.W.hasDictIn K C=true/\PySem.W.findIn K (.ref C) "at"=some none/\Jx K M/\Hj K C "at" :=by
 unfold Kc at h;simp only [Bool.and_eq_true,beq_iff_eq] at h;obtain⟨⟨⟨h1,h2⟩,⟨h3,h4⟩,h5⟩,h6,h7⟩:=h;refine⟨h1,h2,⟨h3,h4,?_⟩,⟨h6,?_,h2⟩⟩
 ·cases z:PySem.W.findCls K (.ref M) (.type "type") "__init__" with
  | none=>rw [z] at h5;cases h5
  | some r=>
   rw [z] at h5;split at h5
   ·rename_i n e;refine⟨r,rfl,?_⟩;cases e;rw [eq_of_beq h5]
   ·cases h5
 ·cases z:PySem.W.clsIn K C with
  | none=>rw [z] at h7;cases h7
  | some cd=>
   rw [z] at h7;simp only [Bool.and_eq_true,beq_iff_eq] at h7;exact⟨cd,M,rfl,h7.1,h7.2⟩
theorem Mt.plain {w:World}{K:Fgx}{mg:Str->Option Value}{base:Heap}{n:Nat}{m:Str}{sp sp':Sp} (F:Mt (Bj P w) P w K mg base n C m ps sp) (h:∀vs H Q E,sp' vs H Q E->sp vs H Q (λ_ _ _=>False)):Mt CX0 P w K mg base n C m ps sp':=by
 obtain⟨f,fd,F,hm,hb⟩:=F.ex;refine⟨f,fd,⟨λvs H Q E q=>F.len vs H Q _ (h _ _ _ _ q),λA outer s H args us vs Q E hr he hb hv hs=>?_⟩,hm,hb⟩;refine codeAny_mono (F.run A outer s H args us vs Q _ hr he hb hv (h _ _ _ _ hs)) λr s' z=>?_
 unfold CR at z ⊢;cases r with
 | ok fl=>cases fl<;>exact z
 | error e=>obtain⟨_,_,_,_,_,_,_,q⟩:=z;exact q.elim
def Gj:List DictEntry->List (Str×Int)->Bool
 | [],[]=>true
 | e::es,p::ps=>(match e.key,e.val with | .str x _,.int n _=>x==p.1 && n==p.2 | _,_=>false) && Gj es ps
 | _,_=>false
def Gk:List DictEntry->List (Str×Addr)->Bool
 | [],[]=>true
 | e::es,p::ps=>(match e.key,e.val with | .str x _,.ref n=>x==p.1 && n==p.2 | _,_=>false) && Gk es ps
 | _,_=>false
theorem Ni:∀ {es:List DictEntry}{l:List (Str×Int)},Gj es l=true->∃vs:List (Str×Value),Ec es vs=true/\KV (l.map λp=>((.inr p.1:AD),V.int p.2)) (vs.map λp=>((.inr p.1:AD),p.2))/\vs.map (·.1)=l.map (·.1)
 | [],[],_=>⟨[],rfl,.nil,rfl⟩
 | [],_::_,h=>by cases h
 | _::_,[],h=>by cases h
 | e::es,p::ps,h=>by
  unfold Gj at h;obtain⟨h1,h2⟩:=Bool.and_eq_true_iff.mp h;obtain⟨vs,a,b,c⟩:=Ni h2;split at h1
  ·rename_i x t n t' hk hv;obtain⟨e1,e2⟩:=Bool.and_eq_true_iff.mp h1;refine⟨(p.1,e.val)::vs,?_,.cons ⟨rfl,?_⟩ b,by rw [map_cons,map_cons,c]⟩
   ·unfold Ec;rw [hk];simp only [e1,a,Bool.and_true,beq_self_eq_true]
   ·show L2.RelV (V.int p.2) e.val;rw [hv,show p.2=n from(eq_of_beq e2).symm];exact⟨_,rfl⟩
  ·cases h1
theorem Nj:∀ {es:List DictEntry}{l:List (Str×Addr)},Gk es l=true->∃vs:List (Str×Value),Ec es vs=true/\KV (l.map λp=>((.inr p.1:AD),V.ref p.2)) (vs.map λp=>((.inr p.1:AD),p.2))/\vs.map (·.1)=l.map (·.1)
 | [],[],_=>⟨[],rfl,.nil,rfl⟩
 | [],_::_,h=>by cases h
 | _::_,[],h=>by cases h
 | e::es,p::ps,h=>by
  unfold Gk at h;obtain⟨h1,h2⟩:=Bool.and_eq_true_iff.mp h;obtain⟨vs,a,b,c⟩:=Nj h2;split at h1
  ·rename_i x t n hk hv;obtain⟨e1,e2⟩:=Bool.and_eq_true_iff.mp h1;refine⟨(p.1,e.val)::vs,?_,.cons ⟨rfl,?_⟩ b,by rw [map_cons,map_cons,c]⟩
   ·unfold Ec;rw [hk];simp only [e1,a,Bool.and_true,beq_self_eq_true]
   ·show L2.RelV (V.ref p.2) e.val;rw [hv,show p.2=n from(eq_of_beq e2).symm]
    rfl
  ·cases h1
theorem Nk {w:World}{vs:List (Str×Value)}{ks:List Str} (h:vs.map (·.1)=ks):(vs.map λp=>hashStr w p.1)=ks.map (hashStr w):=by rw [<-h,map_map];rfl
def sayWs:List Str:=["stoke","bank","fire","undo","least","show","main","falls","coal","stretch"]
def Nl (fs:List Addr):List (Str×Addr):=[("stoke",fs.getD 0 0),("bank",fs.getD 1 0),("fire",fs.getD 2 0),("undo",fs.getD 3 0),("least",fs.getD 4 0),("show",fs.getD 5 0),("main",fs.getD 6 0),("falls",fs.getD 7 0),("coal",fs.getD 8 0),("stretch",fs.getD 9 0)]
theorem VJ {w:World}{K:Fgx}{es:Array DictEntry} (l:K.lookup a=some ⟨.type "dict",none,.dict es ep,#[]⟩) (ne:(a==sysModules)=false) (c:Gj es.toList numbersL=true) (hh:es.toList.map (·.hash)=(numbersL.map (·.1)).map (hashStr w)):GD P w K a Dp:=by
 obtain⟨vs,h1,h2,h3⟩:=Ni c;exact Mn l ne h1 (by rw [Nk h3];exact hh) (by rw [h3];decide) h2
theorem VL {w:World}{K:Fgx}{es:Array DictEntry}{fs:List Addr} (l:K.lookup a=some ⟨.type "dict",none,.dict es ep,#[]⟩) (ne:(a==sysModules)=false) (c:Gk es.toList (Nl fs)=true) (hh:es.toList.map (·.hash)=sayWs.map (hashStr w)):GD P w K a (JQ fs):=by
 obtain⟨vs,h1,h2,h3⟩:=Nj c;have h4:vs.map (·.1)=sayWs:=h3;exact Mn l ne h1 (by rw [Nk h4];exact hh) (by rw [h4];decide) h2
abbrev spN (K:Fgx):Sp:=FY K (B3 K "law").2
abbrev FnAt (x:Str) (st:Stmt) (kV dc pm:Value) (an:Option Addr) (cd ct:Value):FuncData:=PySem.W.fnOf x x (BM st) (Bf st) (Ak st) .none kV dc pm an cd ct
open PySem.W in
theorem all_mk {l:OpenLaw}{w:World}{K:Frag}{mg:Str->Option Value}{fa DA:Addr} (X:K.In h) (G:h.Ns mainGlobals mg) (hfa:mg "law"=some (.ref fa)) (h3:(tabIn K "law").isSome=true) (yC:nsIn K mainGlobals "Watch"=some (some (.ref CA))) (yD:nsIn K mainGlobals "Desk"=some (some (.ref DA)))
  {f73:Addr}{R73 N73:Option Addr}{S73:Array (Option Value)}{O73 V73 U73 W73 Y73 Z73:Value}
  (a0:D4 K "cap_under" wal)
  (a1:D4 K "words_for" wak)
  (a2:D4 K "caps_in" waj)
  (a3:D4 K "is_tuple_of" wa6)
  (a4:D4 K "is_whole" wa4)
  (a5:D4 K "is_whole_from" wa5)
  (a6:D4 K "is_fault" wag)
  (a7:D4 K "is_make_and_coal" waa)
  (a8:D4 K "are_boilers" wa9)
  (a9:D4 K "is_engine" wac)
  (a10:D4 K "are_engines" wab)
  (a11:D4 K "is_main" wad)
  (a12:D4 K "is_plant" wa8)
  (a13:D4 K "need_plant" wae)
  (a14:D4 K "is_story" waf)
  (a15:D4 K "need_story" wah)
  (a16:D4 K "caps_of" wai)
  (a17:D6 K CA "__init__" "Watch.__init__" s_Watch___init__)
  (a18:D6 K DA "__init__" "Desk.__init__" s_Desk___init__)
  (a19:D4 K "is_number_text" waH)
  (a20:D4 K "read_line" waS)
  (a21:D6 K CA "kept_firing" "Watch.kept_firing" s_Watch_kept_firing)
  (a22:D4 K "replaced" wa7)
  (a23:D6 K CA "put_row" "Watch.put_row" s_Watch_put_row)
  (a24:D4 K "drawn_by" wan)
  (a25:D4 K "draws_of" wam)
  (a26:D4 K "is_row" wau)
  (a27:D4 K "is_firing_within" was)
  (a28:D4 K "is_firing" war)
  (a29:D4 K "need_firing" wa3)
  (a30:D4 K "run_day" wav)
  (a31:D4 K "course" waw)
  (a32:D4 K "need_boiler" wap)
  (a33:D4 K "need_hour" wao)
  (a34:D6 K CA "stoke" "Watch.stoke" s_Watch_stoke)
  (a35:D4 K "say_stoke" waI)
  (a36:D6 K CA "bank" "Watch.bank" s_Watch_bank)
  (a37:D4 K "say_bank" waJ)
  (a38:D6 K CA "take_over" "Watch.take_over" s_Watch_take_over)
  (a39:D4 K "is_row_text" waG)
  (a40:D4 K "firing_read" waF)
  (a41:D4 K "say_fire" waK)
  (a42:D6 K CA "undo" "Watch.undo" s_Watch_undo)
  (a43:D4 K "say_undo" waL)
  (a44:D4 K "firing_text" waE)
  (a45:D4 K "say_show" waM)
  (a46:D4 K "numbers_text" waR)
  (a47:D4 K "say_main" waN)
  (a48:D4 K "falls_at" wax)
  (a49:D4 K "say_falls" waO)
  (a50:D4 K "steam_by" waA)
  (a51:D4 K "coal_of" waz)
  (a52:D4 K "say_coal" waP)
  (a53:D4 K "is_too_much" waB)
  (a54:D4 K "least_stretch" waC)
  (a55:D4 K "terms_of" waq)
  (a56:D4 K "stretch_of" waD)
  (a57:D4 K "say_stretch" waQ)
  (a58:D6 K DA "say" "Desk.say" s_Desk_say)
  (a59:D4 K "_law_caps" waY)
  (a60:D4 K "_law_cell" waT)
  (a61:D4 K "_law_draw" waV)
  (a62:D4 K "_law_firing" waZ)
  (a63:D4 K "_law_is_number" wb4)
  (a64:D4 K "_law_is_line" wb5)
  (a65:D4 K "_law_line" wb6)
  (a66:D4 K "_law_odd" wb1)
  (a67:D4 K "_law_pen" waU)
  (a68:D4 K "_law_plant" waW)
  (a69:D4 K "_law_kind" wb2)
  (a70:D4 K "_law_said" wb3)
  (a71:D4 K "_law_story" waX)
  (a72:D4 K "_law_text" wb0)
  (a73:nsIn K mainGlobals "law"=some (some (.ref f73))) (l73:K.lookup f73=some ⟨O73,R73,.func (FnAt "law" wa1 V73 U73 W73 N73 Y73 Z73),S73⟩) (c73:codeIn K Y73 "law"=true) (k73:keepIn K (.ref f73)=true)
  (pgCA:plainGet K CA Str.empty=true) (hdCA:hasDictIn K CA=true) (poCA:plainOver K CA=true) (saCA:findIn K (.ref CA) "__setattr__"=some (some (.builtin "object.__setattr__"))) (mkCA:makesIn K CA=true) (kcCA:keepIn K (.ref CA)=true)
  (n_plant:findIn K (.ref CA) "plant"=some none)
  (n_story:findIn K (.ref CA) "story"=some none)
  (n_firings:findIn K (.ref CA) "firings"=some none)
  (pgDA:plainGet K DA Str.empty=true) (hdDA:hasDictIn K DA=true) (poDA:plainOver K DA=true) (saDA:findIn K (.ref DA) "__setattr__"=some (some (.builtin "object.__setattr__"))) (mkDA:makesIn K DA=true) (kcDA:keepIn K (.ref DA)=true)
  (n_watch:findIn K (.ref DA) "watch"=some none)
  (z0:nsIn K mainGlobals "ValueError"=some none)
  (z1:nsIn K mainGlobals "all"=some none)
  (z2:nsIn K mainGlobals "bool"=some none)
  (z3:nsIn K mainGlobals "divmod"=some none)
  (z4:nsIn K mainGlobals "enumerate"=some none)
  (z5:nsIn K mainGlobals "int"=some none)
  (z6:nsIn K mainGlobals "isinstance"=some none)
  (z7:nsIn K mainGlobals "len"=some none)
  (z8:nsIn K mainGlobals "max"=some none)
  (z9:nsIn K mainGlobals "min"=some none)
  (z10:nsIn K mainGlobals "range"=some none)
  (z11:nsIn K mainGlobals "reversed"=some none)
  (z12:nsIn K mainGlobals "str"=some none)
  (z13:nsIn K mainGlobals "sum"=some none)
  (z14:nsIn K mainGlobals "tuple"=some none)
  (z15:nsIn K mainGlobals "zip"=some none)
  {t0:Tok} (q0:nsIn K mainGlobals "MOST_BOILERS"=some (some (.int 4 t0)))
  {t1:Tok} (q1:nsIn K mainGlobals "MOST_ENGINES"=some (some (.int 4 t1)))
  {t2:Tok} (q2:nsIn K mainGlobals "MOST_FAULTS"=some (some (.int 4 t2)))
  {t3:Tok} (q3:nsIn K mainGlobals "MOST_HOURS"=some (some (.int 8 t3)))
  {t4:Tok} (q4:nsIn K mainGlobals "MOST_UNITS"=some (some (.int 9 t4)))
  {t5:Tok} (q5:nsIn K mainGlobals "MOST_EXTRA"=some (some (.int 20 t5)))
  {t6:Tok} (q6:nsIn K mainGlobals "MOST_IN_MAIN"=some (some (.int 40 t6)))
  {t7:Tok} (q7:nsIn K mainGlobals "DONE"=some (some (.str "ok" t7)))
  {t8:Tok} (q8:nsIn K mainGlobals "NOTHING"=some (some (.str "-" t8)))
  {t9:Tok} (q9:nsIn K mainGlobals "MOST_WRITTEN"=some (some (.int 99 t9)))
  {M d0 d1 d2 d3 d4 d5 d6 d7 d8 d9 d10 d11 d12 d13 d14 d15 d16 d17 d18:Addr}
  (y0:nsIn K mainGlobals "NoPlant"=some (some (.ref d0)))
  (y1:nsIn K mainGlobals "NoStory"=some (some (.ref d1)))
  (y2:nsIn K mainGlobals "NoFiring"=some (some (.ref d2)))
  (y3:nsIn K mainGlobals "NoHour"=some (some (.ref d3)))
  (y4:nsIn K mainGlobals "NoBoiler"=some (some (.ref d4)))
  (y5:nsIn K mainGlobals "NoPrices"=some (some (.ref d5)))
  (y6:nsIn K mainGlobals "NoWay"=some (some (.ref d6)))
  (y7:nsIn K mainGlobals "NoSet"=some (some (.ref d7)))
  (y8:nsIn K mainGlobals "NoTanks"=some (some (.ref d8)))
  (y9:nsIn K mainGlobals "NoPump"=some (some (.ref d9)))
  (y10:nsIn K mainGlobals "NoFeeding"=some (some (.ref d10)))
  (y11:nsIn K mainGlobals "NoReadings"=some (some (.ref d11)))
  (y12:nsIn K mainGlobals "NoStart"=some (some (.ref d12)))
  (y13:nsIn K mainGlobals "NoShifts"=some (some (.ref d13)))
  (y14:nsIn K mainGlobals "NoBook"=some (some (.ref d14)))
  (y15:nsIn K mainGlobals "NoAmount"=some (some (.ref d15)))
  (y16:nsIn K mainGlobals "NoDeed"=some (some (.ref d16)))
  (y17:nsIn K mainGlobals "NoLine"=some (some (.ref d17)))
  (y18:nsIn K mainGlobals "NoText"=some (some (.ref d18)))
  (yM:nsIn K mainGlobals "MainError"=some (some (.ref M))) (yB:mroIn K M (.type "BaseException")=some true) (yT:typeIn K (.ref M)=some (.type "type"))
  (x2:excIn K d2 B2 "ValueError.__new__"=true) (w2:BJ K M [d0,d1,d2,d3,d4,d5,d6,d7,d8,d9,d10,d11,d12,d13,d14,d15,d16,d17,d18] 2=true)
  (x3:excIn K d3 B2 "ValueError.__new__"=true) (w3:BJ K M [d0,d1,d2,d3,d4,d5,d6,d7,d8,d9,d10,d11,d12,d13,d14,d15,d16,d17,d18] 3=true)
  (x4:excIn K d4 B2 "ValueError.__new__"=true) (w4:BJ K M [d0,d1,d2,d3,d4,d5,d6,d7,d8,d9,d10,d11,d12,d13,d14,d15,d16,d17,d18] 4=true)
  (x15:excIn K d15 B2 "ValueError.__new__"=true) (w15:BJ K M [d0,d1,d2,d3,d4,d5,d6,d7,d8,d9,d10,d11,d12,d13,d14,d15,d16,d17,d18] 15=true)
  (x16:excIn K d16 B2 "ValueError.__new__"=true) (w16:BJ K M [d0,d1,d2,d3,d4,d5,d6,d7,d8,d9,d10,d11,d12,d13,d14,d15,d16,d17,d18] 16=true)
  (x17:excIn K d17 B2 "ValueError.__new__"=true) (w17:BJ K M [d0,d1,d2,d3,d4,d5,d6,d7,d8,d9,d10,d11,d12,d13,d14,d15,d16,d17,d18] 17=true)
  (wT:BJ K M [d0,d1,d2,d3,d4,d5,d6,d7,d8,d9,d10,d11,d12,d13,d14,d15,d16,d17,d18] 18=true) (xk:Kc K M d18=true) (aI:DI K d18)
  {NA SA:Addr}{esN esS:Array DictEntry}{epN epS:Nat}{s0 s1 s2 s3 s4 s5 s6 s7 s8 s9:Addr}
  (yN:nsIn K mainGlobals "NUMBERS"=some (some (.ref NA))) (yS:nsIn K mainGlobals "SAYINGS"=some (some (.ref SA)))
  (g0:nsIn K mainGlobals "say_stoke"=some (some (.ref s0)))
  (g1:nsIn K mainGlobals "say_bank"=some (some (.ref s1)))
  (g2:nsIn K mainGlobals "say_fire"=some (some (.ref s2)))
  (g3:nsIn K mainGlobals "say_undo"=some (some (.ref s3)))
  (g4:nsIn K mainGlobals "say_least"=some (some (.ref s4)))
  (g5:nsIn K mainGlobals "say_show"=some (some (.ref s5)))
  (g6:nsIn K mainGlobals "say_main"=some (some (.ref s6)))
  (g7:nsIn K mainGlobals "say_falls"=some (some (.ref s7)))
  (g8:nsIn K mainGlobals "say_coal"=some (some (.ref s8)))
  (g9:nsIn K mainGlobals "say_stretch"=some (some (.ref s9)))
  (lN:K.lookup NA=some ⟨.type "dict",none,.dict esN epN,#[]⟩) (lS:K.lookup SA=some ⟨.type "dict",none,.dict esS epS,#[]⟩) (nN:(NA==sysModules)=false) (nS:(SA==sysModules)=false) (cN:Gj esN.toList numbersL=true) (cS:Gk esS.toList (Nl [s0,s1,s2,s3,s4,s5,s6,s7,s8,s9])=true) (hN:esN.toList.map (·.hash)=(numbersL.map (·.1)).map (hashStr w)) (hS:esS.toList.map (·.hash)=sayWs.map (hashStr w))
  :∃fd:FuncData,(∀(s:Shared) (v:Value),BindsTo s fd ⟨[v],[]⟩ [("_law_script",v)])/\∀base:Heap,K.In base->base.Ns mainGlobals mg->L2.TabsAt base mg ((["law"]:List Str).map (B3 K))->BE l.prog w K mg base CX0 19 fa fd ["_law_script"] (spN K):=by
 have e:=hfa.symm.trans (PySem.W.mg_of X G a73);cases e;have T:Tx mg:=⟨mg_none_of X G z0,mg_none_of X G z1,mg_none_of X G z2,mg_none_of X G z3,mg_none_of X G z4,mg_none_of X G z5,mg_none_of X G z6,mg_none_of X G z7,mg_none_of X G z8,mg_none_of X G z9,mg_none_of X G z10,mg_none_of X G z11,mg_none_of X G z12,mg_none_of X G z13,mg_none_of X G z14,mg_none_of X G z15,⟨_,mg_of X G q0⟩,⟨_,mg_of X G q1⟩,⟨_,mg_of X G q2⟩,⟨_,mg_of X G q3⟩,⟨_,mg_of X G q4⟩,⟨_,mg_of X G q5⟩,⟨_,mg_of X G q6⟩,⟨_,mg_of X G q7⟩,⟨_,mg_of X G q8⟩,⟨_,mg_of X G q9⟩⟩;have C:Tc K mg M [d0,d1,d2,d3,d4,d5,d6,d7,d8,d9,d10,d11,d12,d13,d14,d15,d16,d17,d18]:=⟨mg_of X G y0,mg_of X G y1,mg_of X G y2,mg_of X G y3,mg_of X G y4,mg_of X G y5,mg_of X G y6,mg_of X G y7,mg_of X G y8,mg_of X G y9,mg_of X G y10,mg_of X G y11,mg_of X G y12,mg_of X G y13,mg_of X G y14,mg_of X G y15,mg_of X G y16,mg_of X G y17,mg_of X G y18,mg_of X G yM,yB,yT,y2,x2,w2,y3,x3,w3,y4,x4,w4,y15,x15,w15,y16,x16,w16,y17,x17,w17,wT,(Iw xk).1,(Iw xk).2.1,(Iw xk).2.2.1,(Iw xk).2.2.2⟩;obtain⟨fI,ocI,odI,anI,slI,kVI,dcI,pmI,cdI,ctI,bI,eI,hI,lI,cI,kI⟩:=aI;have WK:Wc K CA:=⟨⟨pgCA,hdCA,poCA,saCA⟩,n_plant,n_story,n_firings⟩;have DK:Ik K DA:=⟨⟨pgDA,hdDA,poDA,saDA⟩,n_watch⟩;have DC:Dc l.prog w K mg NA SA [s0,s1,s2,s3,s4,s5,s6,s7,s8,s9]:=⟨mg_of X G yN,mg_of X G yS,VJ lN nN cN hN,VL lS nS cS hS,mg_of X G g0,mg_of X G g1,mg_of X G g2,mg_of X G g3,mg_of X G g4,mg_of X G g5,mg_of X G g6,mg_of X G g7,mg_of X G g8,mg_of X G g9⟩;have ec73:=VH a73 l73 (VI h3);have ec73:Y73= .ref (B3 K "law").1:=ec73;subst ec73;have F17:Di K mg "Watch" CA "Watch.__init__" s_Watch___init__ ["self","plant","story"]:=Nh (mg_of X G yC) mkCA kcCA a17 λ_ _ _ _ _ _ us hl=>match us,hl with | [_,_,_],_=>rfl
 have F18:Di K mg "Desk" DA "Desk.__init__" s_Desk___init__ ["self","plant","story"]:=Nh (mg_of X G yD) mkDA kcDA a18 λ_ _ _ _ _ _ us hl=>match us,hl with | [_,_,_],_=>rfl
 have F21:Dm K CA "kept_firing" "Watch.kept_firing" s_Watch_kept_firing ["self"]:=EL a21 λ_ _ _ _ _ _ us hl=>match us,hl with | [_],_=>rfl
 have F23:Dm K CA "put_row" "Watch.put_row" s_Watch_put_row ["self","hour","row"]:=EL a23 λ_ _ _ _ _ _ us hl=>match us,hl with | [_,_,_],_=>rfl
 have F34:Dm K CA "stoke" "Watch.stoke" s_Watch_stoke ["self","hour","boiler","amount"]:=EL a34 λ_ _ _ _ _ _ us hl=>match us,hl with | [_,_,_,_],_=>rfl
 have F36:Dm K CA "bank" "Watch.bank" s_Watch_bank ["self","hour"]:=EL a36 λ_ _ _ _ _ _ us hl=>match us,hl with | [_,_],_=>rfl
 have F38:Dm K CA "take_over" "Watch.take_over" s_Watch_take_over ["self","firing"]:=EL a38 λ_ _ _ _ _ _ us hl=>match us,hl with | [_,_],_=>rfl
 have F42:Dm K CA "undo" "Watch.undo" s_Watch_undo ["self"]:=EL a42 λ_ _ _ _ _ _ us hl=>match us,hl with | [_],_=>rfl
 have F58:Dm K DA "say" "Desk.say" s_Desk_say ["self","line"]:=EL a58 λ_ _ _ _ _ _ us hl=>match us,hl with | [_,_],_=>rfl
 have F73:FX K "law" "law" wa1 fa _ _:=⟨_,_,_,_,_,_,_,_,rfl,l73,c73⟩;refine⟨PySem.W.fnOf "law" "law" (BM wa1) (Bf wa1) (Ak wa1) .none V73 U73 W73 N73 (.ref (B3 K "law").1) Z73,λs v=> .of_eq rfl,λbase _ _ hTA=>?_⟩;have tL:=hTA _ (List.Mem.head _);have XI:Xi l.prog w K mg base 1 "NoText" d18 "at" :=⟨⟨fI,_,["self","at"],T5 (DV lI cI kI) C eI,eI,hI,(DV lI cI kI).binds λ_ _ _ _ _ _ us hl=>match us,hl with | [_,_],_=>rfl⟩,mg_of X G y18⟩;have xah:=SX (P:=l.prog) (w:=w) (base:=base) (Bd X G a0) T;have xai:=S7 (P:=l.prog) (w:=w) (base:=base) (B9 X G a1) T;have xaj:=S9 (B9 X G a2) T xah xai;have xa0:=Sr (P:=l.prog) (w:=w) (base:=base) (B9 X G a3) T;have xak:=Sl (P:=l.prog) (w:=w) (base:=base) (BL X G a4) T;have xa1:=Sn (B9 X G a5) T xak;have xal:=SS (B9 X G a6) T xa0 xa1;have xam:=SB (BL X G a7) T xa0 xa1;have xan:=SF (BL X G a8) T xam xa0;have xao:=SC (BL X G a9) T xa0 xa1;have xap:=SH (BL X G a10) T xao xa0;have xaq:=SD (BL X G a11) T xa0 xa1;have xar:=SI (BL X G a12) T xan xap xaq xa0;have xas:=SR (BL X G a13) T xar;have xat:=ST (Bd X G a14) T xal xa0 xa1 xas;have xa7:=SV (Bd X G a15) T xat;have xa3:=Ta (Bd X G a16) T xaj xa7;have xau:=Ur F17 T WK xa3;have xav:=U4 F18 T DK xau;have xa8:=TU (P:=l.prog) (w:=w) (base:=base) (Bd X G a19) T;have xaw:=UO (BL X G a20) T C WK DC xa8;have xa2:=Uo (P:=l.prog) (w:=w) (mg:=mg) (base:=base) F21 T WK;have xa9:=Ul (P:=l.prog) (w:=w) (base:=base) (B9 X G a22) T;have xaa:=Uq F23 T WK xa2 xa9;have xax:=Tb (P:=l.prog) (w:=w) (base:=base) (Bd X G a24) T;have xab:=Td (Bd X G a25) T xax xa7;have xay:=Tk (Bd X G a26) T xa0 xa1;have xaz:=Tm (Bd X G a27) T xay xa0;have xac:=To (B9 X G a28) T xa3 xaz;have xa5:=Tp (B9 X G a29) T xac;have xaA:=Ue (B9 X G a29) T C xac;have xad:=Tq (B9 X G a30) T xab xa5;have xae:=Tr (B9 X G a31) T xad;have xaB:=Ud (Bd X G a32) T C xa1;have xaf:=Uc (Bd X G a33) T C xa1;have xaC:=Uy F34 T WK C xaf xaB xa1 xa3 xa9 xae xa2 xaa;have xaD:=UP (Bd X G a35) T C WK xaC;have xaE:=Ux F36 T WK xaf xa2 xaa;have xaF:=UR (Bd X G a37) T C WK xaE;have xaG:=Uv F38 T WK xaA;have xaH:=TV (Bd X G a39) T xa8;have xaI:=T6 (B9 X G a40) T C XI xa3 xaH;have xaJ:=UT (Bd X G a41) T C WK xaG xaI;have xaK:=Ut (P:=l.prog) (w:=w) (mg:=mg) (base:=base) F42 T WK C;have xaL:=UV (Bd X G a43) T C WK xaK;have xaM:=TX (B9 X G a44) T xa5;have xaN:=UX (Bd X G a45) T C WK xa2 xaM;have xa6:=UN (P:=l.prog) (w:=w) (base:=base) (BL X G a46) T;have xaO:=UY (Bd X G a47) T C WK xa2 xae xa6;have xaP:=Tt (B9 X G a48) T xad;have xaQ:=UZ (Bd X G a49) T C WK xa2 xaP xa6;have xaR:=Tv (B9 X G a50) T xa5;have xaS:=TC (B9 X G a51) T xaR;have xaT:=U1 (Bd X G a52) T C WK xa2 xaS;have xaU:=TF (P:=l.prog) (w:=w) (base:=base) (Bd X G a53) T;have xaV:=TH (BL X G a54) T xaU;have xaW:=TD (Bd X G a55) T xa3 xab;have xaX:=TK (Bd X G a56) T xaV xaW;have xaY:=U2 (Bd X G a57) T C WK xaX xa6;have xag:=U5 F58 T DK C DC xaw xaD xaF xaJ xaL xaN xaO xaQ xaT xaY;have xaZ:Mt CX0 l.prog w K mg base 16 DA "say" ["self","line"] (J0 [d0,d1,d2,d3,d4,d5,d6,d7,d8,d9,d10,d11,d12,d13,d14,d15,d16,d17,d18] CA DA):=xag.plain λ_ _ _ _ h=>h
 have xb0:=Tg (P:=l.prog) (w:=w) (base:=base) (Bd X G a59) T;have xb1:=SK (P:=l.prog) (w:=w) (base:=base) (Bd X G a60) T;have xa4:=SM (P:=l.prog) (w:=w) (base:=base) (Bd X G a61) T;have xb2:=Ty (Bd X G a62) T xa4;have xb3:=Vm (P:=l.prog) (w:=w) (base:=base) (BL X G a63) T;have xb4:=Vn (BL X G a64) T xb3;have xb5:=Vo (BL X G a65) T xa4;have xb6:=Vi (BL X G a66) T xa4;have xb7:=SL (P:=l.prog) (w:=w) (base:=base) (BL X G a67) T;have xb8:=SN (BL X G a68) T xa4;have xb9:=T7 (P:=l.prog) (w:=w) (base:=base) (BL X G a69) T C;have xba:=T9 (BL X G a70) C xb9;have xbb:=Tf (Bd X G a71) T xa4;have xbc:=Vk (P:=l.prog) (w:=w) (base:=base) (BL X G a72) T;exact VG F73 tL.1 tL.2 T C DK xb0 xb1 xb2 xb4 xb5 xb6 xb7 xb8 xbb xbc xav xaZ xag xba
end MF
namespace PySem.W.Fast
def tw14182266353824314025:=0
def tw9068076890687465164:=0
def tw10446834509537487946:=0
def tw3209478520460118229:=0
def tw5308426636178498704:=0
def tw6490965826165622387:=0
def tw5219354083231110254:=0
def tw1645173199681426029:=0
def tw3183281824377072717:=0
def tw17514587828637704435:=0
def tw11166615746035849767:=0
def tw2786118973993128737:=0
def tw17758631139075164327:=0
def tw15509381792339093042:=0
def tw18410381587646735841:=0
def tw4858628976780427284:=0
def tw10763490741659409776:=0
def tw5092345464924607175:=0
def tw12580983055229077325:=0
def tw2659947287457757440:=0
def tw5229068517208874228:=0
def tw17081249370585663880:=0
def tw14240331915284579589:=0
def tw8932011559746876408:=0
def tw13080131569761175439:=0
def tw15910789143118624160:=0
def tw8090410171365975262:=0
def tw3208045139040805589:=0
def tw12394817098261702238:=0
def tw16542323028967796507:=0
def tw17437373446259572113:=0
def tw14480709582241158291:=0
def tw7778564116786165348:=0
def tw16569698609395826831:=0
def tw8095395917735831727:=0
def tw16631111490261618143:=0
def tw9861566524696745207:=0
def tw16337100300868492751:=0
def tw4771268853155046745:=0
def tw135207641172728789:=0
def tw8934347648473399280:=0
def tw10982222385986499736:=0
def tw14040996485947620993:=0
def tw9476661905803737314:=0
def tw18294040617969693075:=0
def tw4627739014095894603:=0
def tw10283940676281983281:=0
def tw9852258672312019677:=0
def tw14141605874326411755:=0
def tw14660362464576883264:=0
def tw17428312493405899973:=0
def tw9463541626629169891:=0
def tw1326676232075670595:=0
def tw4196326946824138586:=0
def tw10863876674164070103:=0
def tw10244549035990873266:=0
def tw2979015831405994109:=0
def tw11162693496321855858:=0
def tw15812287848134209639:=0
def tw14148816779410684250:=0
def tw6890203294852853416:=0
def tw8878089002213661724:=0
def tw7707652510775568216:=0
def tw8293299591903116121:=0
def tw15778824603032913987:=0
def tw13794772893640795326:=0
def tw6690868517926820391:=0
def tw12318348785281679789:=0
def tw4328662418407231191:=0
def tw12792754224327688786:=0
def tw4244859671928761364:=0
def tw1796588286826333425:=0
def tw2110307182618057875:=0
def tw1193810930784535918:=0
def tw3868591939088676578:=0
def tw2732599938329969090:=0
def tw6870244139287160050:=0
def tw5248350695446148565:=0
def tw16284004371338497682:=0
def tw8716761110285237546:=0
def tw1849925153169116542:=0
def tw1045266399632378772:=0
def tw17471691372342720607:=0
def tw8144384784119944402:=0
def tw13387762551979130074:=0
def tw97435440877316505:=0
def tw17929684866761580799:=0
def tw14303332080098517449:=0
def tw7107581687296695647:=0
def tw3715844528582442334:=0
def tw596132045458364655:=0
def tw18436375901645460372:=0
def tw9847687518313295606:=0
def tw17345591852536611087:=0
def tw9809200429443129237:=0
def tw13017717321740218990:=0
def tw11511062249389407221:=0
def tw7368294894413895466:=0
def tw450619654085885108:=0
def tw6576808728788452885:=0
def tw1383324470721508973:=0
def tw9197794483774319404:=0
def tw13772918731956751816:=0
def tw10394047186494560343:=0
def tw7270308794578652041:=0
def tw15198869774744811738:=0
def tw4906934940789445737:=0
def tw8572884610721149122:=0
def tw8712673363154456644:=0
def tw14194805703977936713:=0
def tw15472251839404880731:=0
def tw3078411535526423676:=0
def tw1612111785894368891:=0
def tw13830932682708642676:=0
def tw1402615808967898400:=0
def tw10604225125689923985:=0
def tw15704701823599441995:=0
def tw15931730456053374835:=0
def tw7367897614704512074:=0
def tw10052078015367702809:=0
def tw13779181975566113806:=0
def tw12545031440659078069:=0
def tw8535476248927799731:=0
def tw10737655127817745084:=0
def tw9311888876271260041:=0
def tw15106569755259640792:=0
def tw17417086898083790526:=0
def tw14399533541784939268:=0
def tw7657321214845630976:=0
def tw5854893887595279870:=0
def tw11071672013499926314:=0
def tw4562306760780467334:=0
def tw14787877009354428991:=0
def tw3301680257487373656:=0
def tw17165379872076245932:=0
def tw1043097956215203076:=0
def tw9150802970568248183:=0
def tw13591420767546497818:=0
def tw17472643268941579587:=0
def tw3989116427127135113:=0
def tw6546974287627857511:=0
def tw12991606415246516639:=0
def tw12507048012012343489:=0
def tw9969114829242715618:=0
def tw4765401337006308070:=0
def tw15885909196754185710:=0
def tw15553163180873226942:=0
def tw371173350398946766:=0
def tw11289745969243042852:=0
def tw4352765023434474471:=0
def tw6704010001096646506:=0
def tw1559903057932507240:=0
def tw7747738178096863614:=0
def tw2652815355016269956:=0
def tw13793651605073323258:=0
def tw15108857464050913018:=0
def tw7778286990863903178:=0
def tw10534251330720840872:=0
def tw14060828993175455821:=0
def tw14624039646060957606:=0
def tw18327966537848022536:=0
def tw15319110091321670656:=0
def tw15416444706156064749:=0
def tw12489977682569813000:=0
def tw9325484278849815524:=0
def tw15750539818627282958:=0
def tw14249216521751428161:=0
def tw4683644774347808032:=0
def tw12147784948310691056:=0
def tw15493300719443573438:=0
def tw2465071805727666940:=0
def tw5808848297306280779:=0
def tw182618843161162677:=0
def tw9118319655104575223:=0
def tw17524516314026016420:=0
def tw12557755285228478064:=0
def tw10695408553781229741:=0
def tw15324042688499701179:=0
def tw6853706930179151263:=0
def tw685696155805546174:=0
def tw16218191231126692528:=0
def tw2481880421098481977:=0
def tw10940688368694360728:=0
def tw15656028370278212971:=0
def tw4773936608246826298:=0
def tw12951259005890544246:=0
def tw15796591027756610477:=0
def tw17406468243920585651:=0
def tw15427291204957761564:=0
def tw16195392855480457727:=0
def tw7092207347373337696:=0
def tw12101427092498315824:=0
def tw8857317181535657914:=0
def tw17394006525628694953:=0
def tw7285152545115611824:=0
def tw10154290275795475113:=0
def tw10349223448829388906:=0
def tw2526368291898221729:=0
def tw13304660094063873625:=0
def tw14319509697265884353:=0
def tw12270457784395552243:=0
def tw155489193937746352:=0
def tw5606160527068478257:=0
def tw1332115371274751436:=0
def tw4085088627925981627:=0
def tw11802643783082241157:=0
def tw11645486506126568919:=0
def tw7438619487689632104:=0
def tw14786770657516735303:=0
def tw11643707422326006814:=0
def tw9329067518525208874:=0
def tw5436099694008545543:=0
def tw12307906332420564097:=0
def tw15514393845501976919:=0
def tw13524992714233499850:=0
def tw17393128968915207873:=0
def tw13144320720139189992:=0
def tw4647813929836795916:=0
def tw10401880217812936558:=0
def tw9334485113412443357:=0
def tw11401281031128164187:=0
def tw16679427871719871533:=0
def tw5202863917572012763:=0
def tw11922494794914535961:=0
def tw2417399945960757994:=0
def tw6669634784707766929:=0
def tw7040113580707585137:=0
end PySem.W.Fast
open PySem PySem.W PyProof.Rows
set_option maxRecDepth 100000 in
set_option maxHeartbeats 0 in
theorem PySem.Challenge.cw_mainfires_k94_no_lines_at_the_desk_holds : PySem.Challenge.rw_mainfires_k94_no_lines_at_the_desk.Holds := by
 w_on;o_law;k_head;(case hw=>w_witness2)
 k_fill
 refine L2.walk_ofN (l := PySem.Challenge.rw_mainfires_k94_no_lines_at_the_desk) (n := 63) (k := 19) (x := "_law_script") (CX := λ_ => L2.CX0) (sp := MF.spN) ["law"] rfl (by decide) rfl ⟨rfl, by decide, by decide, rfl⟩ (λw h Y => PySem.W.km_in_of Y) (λy hy => by simp only [mem_cons, not_mem_nil, or_false] at hy; rcases hy with rfl; exact ⟨_, rfl⟩) (λw => by kernel_rfl) (λw => by kernel_rfl) ?F (λK H a ns hl hT hS => ⟨ns, hS, hl, hT _ (List.Mem.head _), λ_ => rfl⟩) (λ_ _ _ _ _ z => z)
 case F=>
  intro w mg fa h KX G hmg;refine' MF.all_mk KX G hmg ?_ ?_ ?_ ?_ ?_ ?_ ?_ ?_ ?_ ?_ ?_ ?_ ?_ ?_ ?_ ?_ ?_ ?_ ?_ ?_ ?_ ?_ ?_ ?_ ?_ ?_ ?_ ?_ ?_ ?_ ?_ ?_ ?_ ?_ ?_ ?_ ?_ ?_ ?_ ?_ ?_ ?_ ?_ ?_ ?_ ?_ ?_ ?_ ?_ ?_ ?_ ?_ ?_ ?_ ?_ ?_ ?_ ?_ ?_ ?_ ?_ ?_ ?_ ?_ ?_ ?_ ?_ ?_ ?_ ?_ ?_ ?_ ?_ ?_ ?_ ?_ ?_ ?_ ?_ ?_ ?_ ?_ ?_ ?_ ?_ ?_ ?_ ?_ ?_ ?_ ?_ ?_ ?_ ?_ ?_ ?_ ?_ ?_ ?_ ?_ ?_ ?_ ?_ ?_ ?_ ?_ ?_ ?_ ?_ ?_ ?_ ?_ ?_ ?_ ?_ ?_ ?_ ?_ ?_ ?_ ?_ ?_ ?_ ?_ ?_ ?_ ?_ ?_ ?_ ?_ ?_ ?_ ?_ ?_ ?_ ?_ ?_ ?_ ?_ ?_ ?_ ?_ ?_ ?_ ?_ ?_ ?_ ?_ ?_ ?_ ?_ ?_ ?_ ?_ ?_ ?_ ?_ ?_ ?_ ?_ ?_ ?_ ?_ ?_ ?_ ?_ ?_ ?_ ?_ ?_ ?_ ?_ ?_ ?_ ?_ ?_ ?_ ?_ ?_
  all_goals first | refine' MF.d4_mk ?_ ?_ ?_ ?_ | refine' MF.d6_mk ?_ ?_ ?_ ?_ ?_ | refine' MF.di_mk2 ?_ ?_ ?_ ?_ ?_ ?_ | skip
  any_goals k_is
  try any_goals k_exc
  all_goals kernel_rfl
end
