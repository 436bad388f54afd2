import PyProof.Rows.All
import Wide.All
import OpenK.AllK
import Wide.FinOn
import Lean
import PyProof.EqAt
import PyProof.EqKinds
import PyProof.TupleCall
import PyProof.Draws
import PyProof.ZipIter
import PyProof.EnumMake
import PyProof.IsiPairs
import PyProof.IsiHeapPairs
import PyProof.IsiNone
import PyProof.ReprRoads
import PyProof.ConsumeWalk
import PyProof.NeKinds
import PyProof.Rows.SeqMore
import PyProof.Rows.SortWalk
import PyProof.Rows.StrJoinMade
import PyProof.P3Eq
import PyProof.ListRange
import PyProof.CollectIter
import KE.KTryDeep
import PyProof.ExcBaseAll.ValueError
import PyProof.ExcArgsOwn
import PyProof.ExcAttrAll.ValueError
import KE.KLam
import PyProof.DictItemsLoops
import PyProof.DictCompW
import KE.KRevIter
import PyProof.MinMaxWalk
import PyProof.Rows.RowHeap
import KE.KTupTruth
import KE.KSortTup
import PyProof.Rows.SetFrom
import PyProof.TupleOfGen
import PyProof.Rows.SetListFold
import PySem.Challenge.RW_mainfires_k56_papers_of_the_fewest_by_an
set_option Elab.async false
set_option linter.all false
set_option maxRecDepth 100000
set_option maxHeartbeats 4000000
section
namespace L2
open PySem PySem.Spec PyProof.Rows
abbrev Bx:=Sum Int Str
def HZ:Bx->Value->Bool
 | .inl k,v=>Value.isInt k v
 | .inr x,v=>Value.isStrOf x v
def MT (w:World):Bx->Int
 | .inl k=>hashInt k
 | .inr x=>hashStr w x
theorem C6:∀ {k:Bx}{v:Value},HZ k v=true->(∃i t,k=Sum.inl i/\v=Value.int i t)\/(∃x t,k=Sum.inr x/\v=Value.str x t)
 | .inl i,v,h=>by
  obtain⟨t,e⟩:=Value.isInt_shape (k:=i) (v:=v) h
  exact .inl ⟨i,t,rfl,e⟩
 | .inr x,v,h=>by
  obtain⟨t,e⟩:=Value.isStrOf_shape (x:=x) (v:=v) h
  exact .inr ⟨x,t,rfl,e⟩
theorem MU (a b:Int):decide ((Sum.inl a:Bx)=Sum.inl b)=(a==b):=by
 by_cases e:a=b
 ·subst e;simp
 ·have h:¬(Sum.inl a:Bx)=Sum.inl b:=λq=>e (Sum.inl.inj q)
  rw [decide_eq_false h]
  exact(beq_eq_false_iff_ne.mpr e).symm
theorem MV (a b:Str):decide ((Sum.inr a:Bx)=Sum.inr b)=decide (a=b):=by
 by_cases e:a=b
 ·subst e;simp
 ·have h:¬(Sum.inr a:Bx)=Sum.inr b:=λq=>e (Sum.inr.inj q)
  rw [decide_eq_false h,decide_eq_false e]
theorem MW (a:Int) (b:Str):decide ((Sum.inl a:Bx)=Sum.inr b)=false:=decide_eq_false (λq=>nomatch q)
theorem MX (a:Str) (b:Int):decide ((Sum.inr a:Bx)=Sum.inl b)=false:=decide_eq_false (λq=>nomatch q)
def FV (prog:Program) (w:World):PySem.KeyKind prog w Bx where
 is:=HZ
 hash:=MT w
 inj:=λv a b ha hb=>by
  rcases C6 ha with⟨i,t,rfl,rfl⟩ | ⟨x,t,rfl,rfl⟩
  ·rcases C6 hb with⟨j,u,rfl,e⟩ | ⟨y,u,rfl,e⟩
   ·injection e with e1 _;rw [e1]
   ·exact nomatch e
  ·rcases C6 hb with⟨j,u,rfl,e⟩ | ⟨y,u,rfl,e⟩
   ·exact nomatch e
   ·injection e with e1 _;rw [e1]
 byValue:=λk v h=>by
  rcases C6 h with⟨i,t,rfl,rfl⟩ | ⟨x,t,rfl,rfl⟩<;>rfl
 pyHash:=λhv h=>by
  rcases C6 hv with⟨i,t,rfl,rfl⟩ | ⟨x,t,rfl,rfl⟩
  ·exact wpAny_pyHash_int h
  ·exact wpAny_pyHash_str h
 eqBool:=λhu hv h=>by
  rcases C6 hu with⟨i,t,rfl,rfl⟩ | ⟨x,t,rfl,rfl⟩
  ·rcases C6 hv with⟨j,u,rfl,rfl⟩ | ⟨y,u,rfl,rfl⟩
   ·rw [MU] at h;exact wpAny_eqBool_int h
   ·rw [MW] at h;exact SeqAt.EqAt.int_str i t y u _ _ _ _ h
  ·rcases C6 hv with⟨j,u,rfl,rfl⟩ | ⟨y,u,rfl,rfl⟩
   ·rw [MX] at h;exact SeqAt.EqAt.str_int x t j u _ _ _ _ h
   ·rw [MV] at h;exact wpAny_eqBool_str h
 «strs»:=λk x t v h=>by
  rcases C6 h with⟨i,u,rfl,e⟩ | ⟨y,u,rfl,e⟩
  ·exact nomatch e
  ·injection e with e1 _
   subst e1
   cases v<;>rfl
end L2
namespace L2
open PySem PySem.Spec PyProof.Rows
inductive V where
 | non | bl (b:Bool) | int (i:Int) | str (x:Str) | byt (b:Array UInt8) | flt (b:UInt64) | ref (a:Addr) | ty (n:String)
 deriving DecidableEq
def AH:V->Value->Prop
 | .non,u=>u=Value.none
 | .bl b,u=>u=Value.bool b
 | .int i,u=>∃t,u=Value.int i t
 | .str x,u=>∃t,u=Value.str x t
 | .byt b,u=>∃t,u=Value.bytes b t
 | .flt b,u=>∃t,u=Value.float b t
 | .ref a,u=>u=Value.ref a
 | .ty n,u=>u=Value.type n
abbrev Ar:List V->List Value->Prop:=Paired AH
theorem Ar.length {xs:List V}{us:List Value} (r:Ar xs us):xs.length=us.length:=Paired.length r
theorem Ar.get:∀ {xs:List V}{us:List Value}{i:Nat}{x:V},Ar xs us->xs[i]? =some x->∃u,us[i]? =some u/\AH x u
 | _,_,_,_,.nil,e=>by simp at e
 | _,_,0,_,.cons r _,e=>by simp at e;subst e;exact⟨_,rfl,r⟩
 | _,_,i+1,x,.cons _ t,e=>by
  obtain⟨u,h1,h2⟩:=Ar.get (i:=i) (x:=x) t (by simpa using e)
  exact⟨u,by simpa using h1,h2⟩
theorem Ar.set {x:V}{u:Value} (r:AH x u):∀ {xs:List V}{us:List Value} (i:Nat),Ar xs us->Ar (xs.set i x) (us.set i u)
 | _,_,_,.nil=> .nil
 | _,_,0,.cons _ t=> .cons r t
 | _,_,i+1,.cons q t=> .cons q (Ar.set r i t)
theorem Ar.append:∀ {xs ys:List V}{us ws:List Value},Ar xs us->Ar ys ws->Ar (xs++ys) (us++ws)
 | _,_,_,_,.nil,s=>s
 | _,_,_,_,.cons r t,s=> .cons r (Ar.append t s)
theorem Ar.take:∀ {xs:List V}{us:List Value} (n:Nat),Ar xs us->Ar (xs.take n) (us.take n)
 | _,_,0,_=> .nil
 | _,_,_+1,.nil=> .nil
 | _,_,n+1,.cons r t=> .cons r (Ar.take n t)
theorem Ar.drop:∀ {xs:List V}{us:List Value} (n:Nat),Ar xs us->Ar (xs.drop n) (us.drop n)
 | _,_,0,r=>r
 | _,_,_+1,.nil=> .nil
 | _,_,n+1,.cons _ t=>Ar.drop n t
def JI:Option V->Option Value->Prop
 | some v,some u=>AH v u
 | none,none=>True
 | _,_=>False
def KV {κ:Type}:List (κ×V)->List (κ×Value)->Prop:=Paired fun(p:κ×V) (q:κ×Value)=>p.1=q.1/\AH p.2 q.2
def kV:Bx->V
 | .inl i=> .int i
 | .inr x=> .str x
inductive HO where
  | lst (xs:List V)
  | tup (xs:List V)
  | dK (kvs:List (Bx×V)) | dT (kvs:List (List Bx×V))
  | set (S:Int->Bool) (n:Nat)
  | ins (C dx:Addr) (fs:List (Str×V))
  | own (x:Addr)
  | xd (fs:List (Str×V))
  | met (f x:Addr)
  | rng (lo hi:Int)
  | frz (o:Obj) (u:HO)
  | tbl (ps:Array Value)
  | ext (φ:Heap->Prop)
abbrev Hp:=Addr->Option HO
def upd (H:Hp) (a:Addr) (o:HO):Hp:=λb=>if b=a then some o else H b
theorem Ag {H:Hp}{a:Addr}{o:HO}:upd H a o a=some o:=by unfold upd;rw [if_pos rfl]
theorem AA {H:Hp}{a b:Addr}{o:HO} (h:b≠a):upd H a o b=H b:=by unfold upd;rw [if_neg h]
theorem MY {H:Hp}{a b:Addr}{o u:HO} (h:H a=some o) (h':H b=some u) (d:o≠u):a≠b:=by
 intro e;subst e;rw [h] at h';exact d (Option.some.inj h')
theorem Bf {H:Hp}{a b:Addr}{o:HO} (h:H a=some o) (h':H b=none):a≠b:=by
 intro e;subst e;rw [h] at h';cases h'
section
variable (P : Program) (w : World)
def ObjOk (H:Hp) (h:Heap) (a:Addr):HO->Prop
 | .lst xs=>xs.length<=sizeLine/\∃(its:List Value) (n:Nat),Ar xs its/\h.get? a=some { cls:= .type "list",data:= .seq its.toArray n}
 | .tup xs=>xs.length<=sizeLine/\∃its:List Value,Ar xs its/\IsTup h a its.toArray
 | .dK kvs=>kvs.length<=sizeLine/\(a==sysModules)=false/\∃vs,KV kvs vs/\h.DictOf (FV P w) a vs
 | .dT kvs => kvs.length <= sizeLine /\ (a == sysModules) = false /\ ∃ xs : List (List Bx × Addr × Value),
   Paired (fun(p:List Bx×V) (q:List Bx×Addr×Value)=>p.1=q.1/\H q.2.1=some (.tup (p.1.map kV))/\AH p.2 q.2.2) kvs xs/\
   ∃o es ep,h.get? a=some o/\o.ExactDict/\o.data= .dict es ep/\es.toList=xs.map (entryOfKey (tupleKind (FV P w)))/\(xs.map (·.1)).Nodup
 | .set S n=>h.SetOf (intKind P w) a S n
 | .ins C dx fs => H dx = some (.own a) /\ fs.length <= 1000 /\ dx ≠ a /\ h.get? a = some (PySem.W.instObj C dx) /\
   ∃mA,h.Ns1 dx mA/\(∀f,JI (fs.lookup f) (mA f))/\PySem.Within mA (fs.map (·.1))
 | .own _=>∃o,h.get? a=some o
 | .xd fs=>∃mA,h.Ns1 a mA/\∀f,JI (fs.lookup f) (mA f)
 | .rng lo hi=>∃t u v,h.get? a=some { cls:= .type "range",data:= .fields #[.int lo t,.int hi u,.int 1 v]}
 | .frz o u=>h.get? a=some o/\ObjOk H h a u
 | .tbl ps=>h.get? a=some { cls:= .none,data:= .fields ps}
 | .met f x=>h.get? a=some (PySem.W.methodObj (.ref f) (.ref x))
 | .ext φ=>φ h/\(∃o,h.get? a=some o)/\∀h1 h2:Heap,φ h1->(∀o,h1.get? a=some o->h2.get? a=some o)->φ h2
def HOk (H:Hp) (h:Heap):Prop:=∀a o,H a=some o->ObjOk P w H h a o
end
section
variable {P : Program} {w : World} {H H' : Hp} {h h' : Heap} {a : Addr} {o : HO}
theorem ObjOk.lt (x:ObjOk P w H h a o):a<h.objs.size:=by
 cases o with
 | lst xs=>obtain⟨_,_,_,_,e⟩:=x;exact Heap.lt_size e
 | tup xs=>obtain⟨_,_,_,p⟩:=x;exact p.lt
 | dK kvs=>obtain⟨_,_,_,_,o,_,_,e,_⟩:=x;exact Heap.lt_size e
 | dT kvs=>obtain⟨_,_,_,_,o,_,_,e,_⟩:=x;exact Heap.lt_size e
 | set S n=>obtain⟨o,_,_,_,e,_⟩:=x;exact Heap.lt_size e
 | ins C dx fs=>obtain⟨_,_,_,e,_⟩:=x;exact Heap.lt_size e
 | own y=>obtain⟨_,e⟩:=x;exact Heap.lt_size e
 | xd fs=>obtain⟨_,⟨_,_,_,e,_⟩,_⟩:=x;exact Heap.lt_size e
 | rng lo hi=>obtain⟨_,_,_,e⟩:=x;exact Heap.lt_size e
 | frz ob u=>obtain⟨e,_⟩:=x;exact Heap.lt_size e
 | tbl ps=>exact Heap.lt_size (show h.get? a=some _ from x)
 | met f y=>exact Heap.lt_size (show h.get? a=some _ from x)
 | ext φ=>obtain⟨_,⟨_,e⟩,_⟩:=x;exact Heap.lt_size e
theorem Paired.mapP {α β:Type}{F G:α->β->Prop}:∀ {l₁:List α}{l₂:List β},Paired F l₁ l₂->(∀a b,F a b->G a b)->Paired G l₁ l₂
 | _,_,.nil,_=> .nil
 | _,_,.cons r t,f=> .cons (f _ _ r) (Paired.mapP t f)
theorem ObjOk.stay (x:ObjOk P w H h a o) (k:∀b u,(b=a\/H b=some (.own a))->h.get? b=some u->h'.get? b=some u)
  (ho:∀b,H b=some (.own a)->H' b=some (.own a)) (ht:∀b xs,H b=some (.tup xs)->H' b=some (.tup xs)):ObjOk P w H' h' a o:=by
 induction o with
 | lst xs=>obtain⟨z,its,n,r,e⟩:=x;exact⟨z,its,n,r,k _ _ (.inl rfl) e⟩
 | tup xs=>obtain⟨z,its,r,ob,e,c⟩:=x;exact⟨z,its,r,ob,k _ _ (.inl rfl) e,c⟩
 | dK kvs=>obtain⟨z,y,vs,r,ob,es,ep,e,c⟩:=x;exact⟨z,y,vs,r,ob,es,ep,k _ _ (.inl rfl) e,c⟩
 | dT kvs=>
  obtain⟨z,y,xs,r,ob,es,ep,e,c⟩:=x
  exact⟨z,y,xs,Paired.mapP r λp q z=>⟨z.1,ht _ _ z.2.1,z.2.2⟩,ob,es,ep,k _ _ (.inl rfl) e,c⟩
 | set S n=>obtain⟨ob,es,ep,t,e,c⟩:=x;exact⟨ob,es,ep,t,k _ _ (.inl rfl) e,c⟩
 | ins C dx fs=>
  obtain⟨d,z,ne,e,mA,⟨od,es,ep,e2,c⟩,r⟩:=x
  exact⟨ho _ d,z,ne,k _ _ (.inl rfl) e,mA,⟨od,es,ep,k _ _ (.inr d) e2,c⟩,r⟩
 | own y=>obtain⟨ob,e⟩:=x;exact⟨ob,k _ _ (.inl rfl) e⟩
 | xd fs=>obtain⟨mA,⟨od,es,ep,e,c⟩,r⟩:=x;exact⟨mA,⟨od,es,ep,k _ _ (.inl rfl) e,c⟩,r⟩
 | rng lo hi=>obtain⟨t,u,v,e⟩:=x;exact⟨t,u,v,k _ _ (.inl rfl) e⟩
 | frz ob u ih=>obtain⟨e,q⟩:=x;exact⟨k _ _ (.inl rfl) e,ih q⟩
 | tbl ps=>
  have e:h.get? a=some { cls:= .none,data:= .fields ps}:=x
  show h'.get? a=some { cls:= .none,data:= .fields ps}
  exact k a _ (.inl rfl) e
 | met f y=>
  have e:h.get? a=some (PySem.W.methodObj (.ref f) (.ref y)):=x
  show h'.get? a=some (PySem.W.methodObj (.ref f) (.ref y))
  exact k a _ (.inl rfl) e
 | ext φ=>obtain⟨p,⟨o,e⟩,st⟩:=x;exact⟨st _ _ p λo q=>k _ _ (.inl rfl) q,⟨o,k _ _ (.inl rfl) e⟩,st⟩
theorem HOk.lt (x:HOk P w H h) (e:H a=some o):a<h.objs.size:=(x a o e).lt
theorem HOk.fresh (x:HOk P w H h) (e:h.objs.size<=a):H a=none:=by
 cases q:H a with
 | none=>rfl
 | some u=>exact absurd (Nat.lt_of_lt_of_le (x.lt q) e) (Nat.lt_irrefl _)
theorem HOk.kept (x:HOk P w H h) (k:∀b u,h.get? b=some u->h'.get? b=some u):HOk P w H h':=λa o e=>
 (x a o e).stay (λb u _ q=>k b u q) (λ_ q=>q) λ_ _ q=>q
theorem HOk.laid (x:HOk P w H h) (k:∀b u,h.get? b=some u->h'.get? b=some u) (hp:h.objs.size<=a) (new:ObjOk P w (upd H a o) h' a o):HOk P w (upd H a o) h':=λb u e=>by
 have hn:=x.fresh hp
 by_cases hb:b=a
 ·subst hb;rw [Ag] at e;cases e;exact new
 ·rw [AA hb] at e
  exact(x b u e).stay (λc v _ q=>k c v q) (λc q=>by rw [AA (Bf q hn)];exact q) λc xs q=>by rw [AA (Bf q hn)];exact q
end
def Rd (H:Hp) (a:Addr) (u:HO):Prop:=H a=some u\/ ∃o,H a=some (.frz o u)
theorem Rd.ok {P:Program}{w:World}{H:Hp}{h:Heap}{a:Addr}{u:HO} (r:Rd H a u) (x:HOk P w H h):ObjOk P w H h a u:=by
 rcases r with r | ⟨o,r⟩
 ·exact x a u r
 ·obtain⟨_,q⟩:=x a _ r
  exact q
def FW:Option HO->Prop
 | some (.lst _)=>True
 | some (.dK _)=>True
 | some (.dT _)=>True
 | some (.set _ _)=>True
 | some (.ins _ _ _)=>True
 | some (.ext _)=>True
 | _=>False
section
variable {P : Program} {w : World} {H : Hp} {h h' : Heap} {x e : Addr} {o' : HO}
theorem HOk.write (ok:HOk P w H h) (mu:FW (H x)) (he:e=x\/H e=some (.own x)) (k:∀b u,b≠e->h.get? b=some u->h'.get? b=some u) (heo:∃u,h'.get? e=some u)
  (new:ObjOk P w (upd H x o') h' x o'):HOk P w (upd H x o') h':=λb u q=>by
 have nown:∀c y,H c=some (.own y)->c≠x:=λc y r z=>by subst z;rw [r] at mu;exact mu
 have ntup:∀c xs,H c=some (.tup xs)->c≠x:=λc xs r z=>by subst z;rw [r] at mu;exact mu
 by_cases hb:b=x
 ·subst hb;rw [Ag] at q;cases q;exact new
 ·rw [AA hb] at q
  by_cases hbe:b=e
  ·have q':H b=some (.own x):=by
    rcases he with z | z
    ·exact absurd (hbe.trans z) hb
    ·rw [hbe];exact z
   rw [q] at q';cases q'
   obtain⟨v,hv⟩:=heo
   exact⟨v,by rw [hbe];exact hv⟩
  ·refine(ok b u q).stay (λc v hc r=>k c v ?_ r) (λc r=>by rw [AA (nown c b r)];exact r) λc xs r=>by rw [AA (ntup c xs r)];exact r
   rcases hc with rfl | hc
   ·exact hbe
   ·rintro rfl
    rcases he with z | z
    ·exact nown c b hc z
    ·rw [hc] at z;cases z;exact hb rfl
end
structure Un (fs ex:List Addr) (H H':Hp) (h h':Heap):Prop where
 keep:∀b o,h.get? b=some o->H b=none->b ∉ fs->b ∉ ex->h'.get? b=some o
 slot:∀b o,h.get? b=some o->H b=none->b∈fs->b ∉ ex->∃sl,h'.get? b=some { o with slots:=sl}
 free:∀b o,h.get? b=some o->H b=none->b ∉ ex->H' b=none
 there:∀b o,h.get? b=some o->b ∉ ex->∃o',h'.get? b=some o'
 tups:∀b xs,H b=some (.tup xs)->H' b=some (.tup xs)
 frzs:∀b o u,H b=some (.frz o u)->H' b=some (.frz o u)
 tbls:∀b ps,H b=some (.tbl ps)->∃more,H' b=some (.tbl (ps++more))
section
variable {fs fs' ex ex' : List Addr} {H H1 H2 : Hp} {h h1 h2 h' : Heap} {a x e : Addr} {o : HO}
theorem Un.any (u:Un fs ex H H1 h h1) {b:Addr}{ob:Obj} (q:h.get? b=some ob) (n:H b=none) (hx:b ∉ ex):∃sl,h1.get? b=some { ob with slots:=sl}:=by
 by_cases hb:b∈fs
 ·exact u.slot b ob q n hb hx
 ·exact⟨ob.slots,u.keep b ob q n hb hx⟩
theorem Un.kept (k:∀b u,h.get? b=some u->h'.get? b=some u):Un fs ex H H h h':=
 ⟨λb ob q _ _ _=>k b ob q,λb ob q _ _ _=>⟨ob.slots,k b ob q⟩,λ_ _ _ n _=>n,λb ob q _=>⟨ob,k b ob q⟩,λ_ _ q=>q,λ_ _ _ q=>q,λ_ ps q=>⟨#[],by rw [q];simp⟩⟩
theorem Un.refl:Un fs ex H H h h:=Un.kept λ_ _ q=>q
theorem Un.laid (k:∀b u,h.get? b=some u->h'.get? b=some u) (hp:h.objs.size<=a) (hn:H a=none):Un fs ex H (upd H a o) h h' where
 keep:=λb u q _ _ _=>k b u q
 slot:=λb u q _ _ _=>⟨u.slots,k b u q⟩
 free:=λb u q n _=>by rw [AA (Nat.ne_of_lt (Nat.lt_of_lt_of_le (Heap.lt_size q) hp))];exact n
 there:=λb u q _=>⟨u,k b u q⟩
 tups:=λb xs q=>by rw [AA (Bf q hn)];exact q
 frzs:=λb u xs q=>by rw [AA (Bf q hn)];exact q
 tbls:=λb ps q=>⟨#[],by rw [AA (Bf q hn),q];simp⟩
theorem Un.write (mu:FW (H x)) (he:e=x\/H e=some (.own x)) (k:∀b u,b≠e->h.get? b=some u->h'.get? b=some u) (heo:∃u,h'.get? e=some u):Un fs ex H (upd H x o) h h':=by
 have hx:∀b,H b=none->b≠x:=λb n z=>by subst z;rw [n] at mu;exact mu
 have hb:∀b,H b=none->b≠e:=λb n z=>by
  subst z
  rcases he with r | r
  ·exact hx b n r
  ·rw [n] at r;cases r
 have hm:∀b u,H b=some u->¬FW (some u)->b≠x:=λb u q nm z=>by subst z;rw [q] at mu;exact nm mu
 refine⟨λb u q n _ _=>k b u (hb b n) q,λb u q n _ _=>⟨u.slots,k b u (hb b n) q⟩,λb u q n _=>by rw [AA (hx b n)];exact n,λb u q _=>?_,
  λb xs q=>by rw [AA (hm b _ q λz=>z)];exact q,λb u xs q=>by rw [AA (hm b _ q λz=>z)];exact q,λb ps q=>⟨#[],by rw [AA (hm b _ q λz=>z),q];simp⟩⟩
 by_cases hbe:b=e
 ·subst hbe;exact heo
 ·exact⟨u,k b u hbe q⟩
end
def FX (h:Heap) (H:Hp):List Addr:=(List.range h.objs.size).filter λa=>(H a).isSome
def Dm (h:Heap) (H:Hp):Heap:=PySem.W.hideAll h (FX h H)
theorem MZ (h:Heap) (H:Hp):(Dm h H).objs.size=h.objs.size:=PySem.W.hideAll_size _ _
theorem M0 {h:Heap}{H:Hp}{b:Addr}{o:Obj} (e:h.get? b=some o) (n:H b=none):(Dm h H).get? b=some o:=
 PySem.W.hideAll_get _ e λhm=>by
  have q:(H b).isSome=true:=(List.mem_filter.mp hm).2
  rw [n] at q;simp at q
theorem M3 {h:Heap}{H:Hp}{b:Addr}{o:Obj} (e:(Dm h H).get? b=some o):h.get? b=some o/\H b=none:=by
 have e':h.get? b=some o:=PySem.W.of_hideAll (FX h H) e
 refine⟨e',?_⟩
 cases q:H b with
 | none=>rfl
 | some x=>
  have hm:b∈FX h H:=List.mem_filter.mpr ⟨List.mem_range.mpr (Heap.lt_size e'),by simp [q]⟩
  have z:(Dm h H).get? b=none:=PySem.W.hideAll_none (FX h H) hm
  rw [z] at e;cases e
def M4 (g h:Heap) (L:Addr):List (Addr×Obj):=(List.range h.objs.size).filterMap λa=>if a=L\/(g.get? a).isSome=true then none else(h.get? a).map λo=>(a,o)
def Bk (g h:Heap) (L d:Addr):List (Addr×Obj):=(M4 g h L).filter λp=>decide (p.1≠d)
end L2
namespace L2
open PySem PySem.Spec PyProof.Rows
variable {g' : Array GenState} {t' i : Nat} {d' : Drawn} {ch : List Addr} {M : Model} {E : Value -> Shared -> Prop} {v : V} {u : Value} {Q : Unit -> Shared -> Prop}
structure Mod (K:PySem.W.Frag) (mg:Str->Option Value) (base:Heap):Prop where
 kin:K.In base
 glob:base.Ns mainGlobals mg
 blt:∃mb,base.Ns builtinsNs mb/\∀x:Str,x≠ "__name__" ->mb x=bootBuiltins x
 nolimit:base.NoLimit
structure Cx where
 prog:Program
 w:World
 K:PySem.W.Frag
 mg:Str->Option Value
 base:Heap
 A:Around
 N:List Str
 s₀:Shared
 H₀:Hp
 env:Env
 outer:List Env
 stack:List Env
 ex:List Addr
 fn:Str->Bool
 calm:Bool
 pn:List (Addr×Obj)
 xe:Value->Shared->Prop
def Ca (l:List Env):List Addr:=l.filterMap (·.frame)
abbrev Cx.fs (X:Cx):List Addr:=Ca X.outer
def Ez (sc:Scope) (x:Str):Prop:=sc.names.lookup x=some .local \/sc.names.lookup x=some .cell\/sc.names.lookup x=some .free
def DE (sc:Scope) (x:Str):Prop:=sc.names.lookup x=some .local \/sc.names.lookup x=some .cell
def M5 (env:Env) (h:Heap) (m:Str->Option Value) (x:Str) (u:Value):Prop:=
 (env.kindOf x=some .local /\m x=some u)\/((env.kindOf x=some .cell\/env.kindOf x=some .free)/\∃c,env.cells.lookup x=some c/\h.IsCell c (some u))
structure Cx.Ok (X:Cx):Prop where
 mod:Mod X.K X.mg X.base
 kind:X.env.scope.kind= .function
 glob:X.env.globals=mainGlobals
 blt:X.env.builtins=builtinsNs
 above:X.s₀.heap.objs.size<=X.env.locals
 inj:∀x y c,X.env.cells.lookup x=some c->X.env.cells.lookup y=some c->x=y
 has:∀x,(X.env.kindOf x=some .cell\/X.env.kindOf x=some .free)->∃c,X.env.cells.lookup x=some c
 cab:∀x c,X.fn x=true->X.env.cells.lookup x=some c->X.s₀.heap.objs.size<=c
 hd:X.calm=true->X.A.handled=none
 frames:X.A.frames=some X.stack
 stk:X.stack=X.outer\/(X.stack=X.env::X.outer/\X.env.frame=some X.env.locals)
 exf:∀b∈X.ex,b≠X.env.locals/\∀x c,X.env.cells.lookup x=some c->c≠b
 bs:∀b o,X.base.get? b=some o->X.s₀.heap.get? b=some o/\X.H₀ b=none
 bsz:X.base.objs.size<=X.s₀.heap.objs.size
 noex:∀b o,X.base.get? b=some o->b ∉ X.ex
 exfs:∀b∈X.ex,b ∉ X.fs
 funs:X.s₀.heap.FunFrames X.base X.outer
 frf:∀b∈X.fs,X.H₀ b=none
structure Ae (X:Cx) (pins:List (Addr×Obj)) (σ:List (Option V)) (H:Hp) (s:Shared):Prop where
 ok:X.Ok
 os:s.os=X.s₀.os
 bare:AllBare s.gens
 base:Un X.fs X.ex X.H₀ H X.s₀.heap s.heap
 loc:∃m,s.heap.Ns X.env.locals m/\∀(i:Nat) (x:Str) (v:V),X.N[i]? =some x->σ[i]? =some (some v)->Ez X.env.scope x->∃u,AH v u/\M5 X.env s.heap m x u
 cell:∀x c,X.env.cells.lookup x=some c->∃v,s.heap.IsCell c v
 free:H X.env.locals=none
 freeC:∀x c,X.env.cells.lookup x=some c->H c=none
 pin:∀p∈X.pn++pins,s.heap.get? p.1=some p.2/\H p.1=none/\p.1≠X.env.locals/\p.1 ∉ X.fs/\∀v,p.2.data≠ .cell v
 hok:HOk X.prog X.w H s.heap
 len:σ.length=X.N.length
section
variable {X : Cx} {pins : List (Addr × Obj)} {σ : List (Option V)} {H H' : Hp} {s : Shared} {h' : Heap}
theorem Cx.Ok.nofr (ok:X.Ok) {b:Addr}{o:Obj} (e:X.base.get? b=some o):b ∉ X.fs:=λhb=>by
 have:=(ok.funs.mem hb).1
 rw [e] at this;cases this
theorem Ae.bs (I:Ae X pins σ H s):∀b o,X.base.get? b=some o->s.heap.get? b=some o/\H b=none:=λb o e=>
 ⟨I.base.keep b o (I.ok.bs b o e).1 (I.ok.bs b o e).2 (I.ok.nofr e) (I.ok.noex b o e),I.base.free b o (I.ok.bs b o e).1 (I.ok.bs b o e).2 (I.ok.noex b o e)⟩
theorem Ae.bk (I:Ae X pins σ H s):∀b o,X.base.get? b=some o->s.heap.get? b=some o:=λb o e=>(I.bs b o e).1
theorem Ae.mod (I:Ae X pins σ H s):Mod X.K X.mg X.base:=I.ok.mod
theorem Ae.kIn (I:Ae X pins σ H s):X.K.In s.heap:=I.ok.mod.kin.keeps I.bk
theorem Ae.fr (I:Ae X pins σ H s):∃m,Fr X.base X.env.locals s.heap m:=
 let ⟨m,hn,_⟩:=I.loc
 ⟨m,hn,I.bk,Nat.le_trans I.ok.bsz I.ok.above⟩
theorem Ae.lt (I:Ae X pins σ H s):X.env.locals<s.heap.objs.size:=let ⟨_,hn,_⟩:=I.loc;hn.lt
theorem Ae.sz (I:Ae X pins σ H s):X.s₀.heap.objs.size<=s.heap.objs.size:=Nat.le_trans I.ok.above (Nat.le_of_lt I.lt)
theorem Ae.nofs (I:Ae X pins σ H s) {a:Addr} (h:s.heap.objs.size<=a):a ∉ X.fs:=λhb=>by
 obtain⟨_,o,ho,_⟩:=I.ok.funs.mem hb
 exact absurd (Nat.lt_of_lt_of_le (Heap.lt_size ho) (Nat.le_trans I.sz h)) (Nat.lt_irrefl _)
theorem Ae.cne (I:Ae X pins σ H s):∀x c,X.env.cells.lookup x=some c->c≠X.env.locals:=λx c e z=>by
 obtain⟨v,o,ho,hd⟩:=I.cell x c e
 obtain⟨m,⟨o',es,ep,ho',hd',_⟩,_⟩:=I.loc
 rw [z,ho'] at ho;cases ho;rw [hd'] at hd;cases hd
theorem Ae.funs (I:Ae X pins σ H s):s.heap.FunFrames X.base X.outer:=by
 have all:∀(l:List Env),(∀b∈Ca l,b∈X.fs)->X.s₀.heap.FunFrames X.base l->s.heap.FunFrames X.base l:=by
  intro l
  induction l with
  | nil=>intro _ _;trivial
  | cons env r ih=>
   intro hs hl
   obtain⟨hk,⟨L,o,hf,hn,ho,hd⟩,hr⟩:=hl
   have hL:L∈X.fs:=hs L (by unfold Ca;rw [List.filterMap_cons,hf];exact List.mem_cons_self)
   obtain⟨sl,e⟩:=I.base.slot L o ho (I.ok.frf L hL) hL λz=>I.ok.exfs L z hL
   exact⟨hk,⟨L,_,hf,hn,e,hd⟩,ih (λb hb=>hs b (by unfold Ca;rw [List.filterMap_cons,hf];exact List.mem_cons_of_mem _ hb)) hr⟩
 exact all X.outer (λ_ hb=>hb) I.ok.funs
theorem Ae.stack (I:Ae X pins σ H s):s.heap.FunFrames X.base X.stack:=by
 rcases I.ok.stk with e | ⟨e,hf⟩
 ·rw [e];exact I.funs
 ·rw [e]
  obtain⟨m,hn,_⟩:=I.loc
  refine .cons (by rw [I.ok.kind];decide) hf hn ?_ I.funs
  exact Heap.get?_none_of_le (Nat.le_trans I.ok.bsz I.ok.above)
theorem Ae.stkSub (I:Ae X pins σ H s):∀b∈Ca X.stack,b∈X.env.locals::X.fs:=λb hb=>by
 rcases I.ok.stk with e | ⟨e,hf⟩
 ·rw [e] at hb;exact List.mem_cons_of_mem _ hb
 ·rw [e] at hb
  unfold Ca at hb
  rw [List.filterMap_cons,hf] at hb
  exact hb
theorem Ae.stkFree (I:Ae X pins σ H s):∀b∈Ca X.stack,H b=none:=λb hb=>by
 rcases List.mem_cons.mp (I.stkSub b hb) with e | hb
 ·rw [e];exact I.free
 ·obtain⟨_,o,ho,_⟩:=I.ok.funs.mem hb
  exact I.base.free b o ho (I.ok.frf b hb) λz=>I.ok.exfs b z hb
theorem Ae.step (I:Ae X pins σ H s)
  (hch:∀b∈ch,(b∈X.ex\/X.s₀.heap.objs.size<=b)/\b≠X.env.locals/\(∀x c,X.env.cells.lookup x=some c->c≠b)/\∀p∈X.pn++pins,p.1≠b)
  (keep:∀b o,b≠X.env.locals->b ∉ X.fs->b ∉ ch->s.heap.get? b=some o->H b=none->h'.get? b=some o)
  (slot:∀b o,b≠X.env.locals->b∈X.fs->b ∉ ch->s.heap.get? b=some o->H b=none->∃sl,h'.get? b=some { o with slots:=sl}) (free:∀b o,b ∉ ch->s.heap.get? b=some o->H b=none->H' b=none)
  (there:∀b o,b ∉ ch->s.heap.get? b=some o->∃o',h'.get? b=some o')
  (tups:∀b xs,H b=some (.tup xs)->H' b=some (.tup xs)) (frzs:∀b o u,H b=some (.frz o u)->H' b=some (.frz o u)) (tbls:∀b ps,H b=some (.tbl ps)->∃more,H' b=some (.tbl (ps++more)))
  (ns:∀m,s.heap.Ns X.env.locals m->h'.Ns X.env.locals m) (hok:HOk X.prog X.w H' h') (hg:AllBare g'):
  Ae X pins σ H' { s with heap:=h',gens:=g',drawn:=d',toks:=t'}:=by
 have neL:∀b o,X.s₀.heap.get? b=some o->b≠X.env.locals:=λb o e=>Nat.ne_of_lt (Nat.lt_of_lt_of_le (Heap.lt_size e) I.ok.above)
 have neC:∀b o,X.s₀.heap.get? b=some o->b ∉ X.ex->b ∉ ch:=λb o e hx hb=>by
  rcases(hch b hb).1 with z | z
  ·exact hx z
  ·exact absurd (Nat.lt_of_lt_of_le (Heap.lt_size e) z) (Nat.lt_irrefl _)
 have cellK:∀x c,X.env.cells.lookup x=some c->∀v,s.heap.IsCell c v->h'.IsCell c v:=λx c e v ⟨o,ho,hd⟩=>by
  have nch:c ∉ ch:=λz=>(hch c z).2.2.1 x c e rfl
  by_cases hc:c∈X.fs
  ·obtain⟨sl,q⟩:=slot c o (I.cne x c e) hc nch ho (I.freeC x c e)
   exact⟨_,q,hd⟩
  ·exact⟨o,keep c o (I.cne x c e) hc nch ho (I.freeC x c e),hd⟩
 refine⟨I.ok,I.os,hg,⟨λb o e n hb hx=>?_,λb o e n hb hx=>?_,λb o e n hx=>?_,λb o e hx=>?_,λb xs e=>tups b xs (I.base.tups b xs e),λb o xs e=>frzs b o xs (I.base.frzs b o xs e),λb ps e=>?_⟩,?_,λx c e=>?_,?_,λx c e=>?_,λp hp=>?_,hok,I.len⟩
 ·exact keep b o (neL b o e) hb (neC b o e hx) (I.base.keep b o e n hb hx) (I.base.free b o e n hx)
 ·obtain⟨sl,e1⟩:=I.base.slot b o e n hb hx
  obtain⟨sl',e2⟩:=slot b _ (neL b o e) hb (neC b o e hx) e1 (I.base.free b o e n hx)
  exact⟨sl',e2⟩
 ·obtain⟨o',e1⟩:=I.base.there b o e hx
  exact free b o' (neC b o e hx) e1 (I.base.free b o e n hx)
 ·obtain⟨o',e1⟩:=I.base.there b o e hx
  exact there b o' (neC b o e hx) e1
 ·obtain⟨m1,e1⟩:=I.base.tbls b ps e
  obtain⟨m2,e2⟩:=tbls b _ e1
  exact⟨m1++m2,by rw [e2,Array.append_assoc]⟩
 ·obtain⟨m,hn,hl⟩:=I.loc
  refine⟨m,ns m hn,λi x v e1 e2 e3=>?_⟩
  obtain⟨u,r,l⟩:=hl i x v e1 e2 e3
  refine⟨u,r,?_⟩
  rcases l with l | ⟨k,c,e,z⟩
  ·exact .inl l
  ·exact .inr ⟨k,c,e,cellK x c e _ z⟩
 ·obtain⟨v,z⟩:=I.cell x c e
  exact⟨v,cellK x c e v z⟩
 ·obtain⟨m,⟨o,_,_,ho,_⟩,_⟩:=I.loc
  exact free _ o (λz=>(hch _ z).2.1 rfl) ho I.free
 ·obtain⟨v,o,ho,hd⟩:=I.cell x c e
  exact free c o (λz=>(hch c z).2.2.1 x c e rfl) ho (I.freeC x c e)
 ·obtain⟨e,n,ne,nf,d⟩:=I.pin p hp
  have nch:p.1 ∉ ch:=λz=>(hch p.1 z).2.2.2 p hp rfl
  exact⟨keep p.1 p.2 ne nf nch e n,free p.1 p.2 nch e n,ne,nf,d⟩
theorem Ae.un (I:Ae X pins σ H s) (u:Un X.fs [] H H' s.heap h') (hok:HOk X.prog X.w H' h'):Ae X pins σ H' { s with heap:=h',toks:=t'}:=by
 obtain⟨m,⟨o,es,ep,ho,r⟩,_⟩:=id I.loc
 obtain⟨sl,hL⟩:=u.any ho I.free (by simp)
 exact I.step (g':=s.gens) (d':=s.drawn) (ch:=[]) (λ_ z=>nomatch z) (λb o _ hb _ e n=>u.keep b o e n hb (by simp)) (λb o _ hb _ e n=>u.slot b o e n hb (by simp)) (λb o _ e n=>u.free b o e n (by simp)) (λb o _ e=>u.there b o e (by simp)) u.tups u.frzs u.tbls (λm' hm=>by
  obtain⟨o',es',ep',ho',r'⟩:=hm
  rw [ho] at ho';cases ho'
  exact⟨_,es',ep',hL,r'⟩) hok I.bare
theorem Ae.call (I:Ae X pins σ H s) (u:Un (Ca X.stack) ch H H' s.heap h') (hok:HOk X.prog X.w H' h') (hg:AllBare g')
  (hch:∀b∈ch,(b∈X.ex\/X.s₀.heap.objs.size<=b)/\b≠X.env.locals/\(∀x c,X.env.cells.lookup x=some c->c≠b)/\∀p∈X.pn++pins,p.1≠b):
  Ae X pins σ H' { s with heap:=h',gens:=g',drawn:=d',toks:=t'}:=by
 obtain⟨m,⟨o,es,ep,ho,r⟩,_⟩:=id I.loc
 obtain⟨sl,hL⟩:=u.any ho I.free λz=>(hch _ z).2.1 rfl
 exact I.step (ch:=ch) hch (λb o hL hb hc e n=>u.keep b o e n (λz=>(List.mem_cons.mp (I.stkSub b z)).elim hL hb) hc) (λb o _ _ hc e n=>u.any e n hc) (λb o hc e n=>u.free b o e n hc) (λb o hc e=>u.there b o e hc) u.tups u.frzs u.tbls (λm' hm=>by
  obtain⟨o',es',ep',ho',r'⟩:=hm
  rw [ho] at ho';cases ho'
  exact⟨_,es',ep',hL,r'⟩) hok hg
theorem Ae.turned {it:Addr} (I:Ae X pins σ H s) (k:∀b o,b≠it->s.heap.get? b=some o->h'.get? b=some o) (hn:H it=none) (hL:it≠X.env.locals)
  (h1:it∈X.ex\/X.s₀.heap.objs.size<=it) (h2:∀x c,X.env.cells.lookup x=some c->c≠it) (h3:∀p∈X.pn++pins,p.1≠it):Ae X pins σ H { s with heap:=h',toks:=t'}:=by
 have nit:∀b u,H b=some u->b≠it:=λb u e z=>by rw [z,hn] at e;cases e
 refine I.step (g':=s.gens) (d':=s.drawn) (ch:=[it]) (λb hb=>?_) (λb o _ _ hc e _=>k b o (λz=>hc (by simp [z])) e) (λb o _ _ hc e _=>⟨o.slots,k b o (λz=>hc (by simp [z])) e⟩) (λ_ _ _ _ n=>n)
  (λb o hc e=>⟨o,k b o (λz=>hc (by simp [z])) e⟩) (λ_ _ e=>e) (λ_ _ _ e=>e) (λb ps e=>⟨#[],by rw [e];simp⟩) (λm hm=>?_) (λb u e=>?_) I.bare
 ·have e:b=it:=by simpa using hb
  subst e
  exact⟨h1,hL,h2,h3⟩
 ·obtain⟨o,es,ep,ho,r⟩:=hm
  exact⟨o,es,ep,k _ o (Ne.symm hL) ho,r⟩
 ·refine(I.hok b u e).stay (λc v hc q=>k c v ?_ q) (λ_ q=>q) λ_ _ q=>q
  rcases hc with z | z
  ·rw [z];exact nit b u e
  ·exact nit c _ z
theorem Ae.tok (I:Ae X pins σ H s) (t:Nat):Ae X pins σ H { s with toks:=t}:=I.un (h':=s.heap) (t':=t) Un.refl I.hok
theorem Ae.kept (I:Ae X pins σ H s) (k:∀b u,s.heap.get? b=some u->h'.get? b=some u):Ae X pins σ H { s with heap:=h',toks:=t'}:=I.un (Un.kept k) (I.hok.kept k)
theorem Ae.laid {a:Addr}{o:HO} (I:Ae X pins σ H s) (k:∀b u,s.heap.get? b=some u->h'.get? b=some u) (hp:s.heap.objs.size<=a) (new:ObjOk X.prog X.w (upd H a o) h' a o):
  Ae X pins σ (upd H a o) { s with heap:=h',toks:=t'}:=I.un (Un.laid k hp (I.hok.fresh hp)) (I.hok.laid k hp new)
theorem Ae.write {x e:Addr}{o:HO} (I:Ae X pins σ H s) (mu:FW (H x)) (he:e=x\/H e=some (.own x)) (k:∀b u,b≠e->s.heap.get? b=some u->h'.get? b=some u) (heo:∃u,h'.get? e=some u)
  (new:ObjOk X.prog X.w (upd H x o) h' x o):Ae X pins σ (upd H x o) { s with heap:=h',toks:=t'}:=I.un (Un.write mu he k heo) (I.hok.write mu he k heo new)
theorem Ae.weak {σ':List (Option V)} (I:Ae X pins σ H s) (hl:σ'.length=σ.length) (w:∀(i:Nat) v,σ'[i]? =some (some v)->σ[i]? =some (some v)):Ae X pins σ' H s:=
 ⟨I.ok,I.os,I.bare,I.base,let ⟨m,hn,hl'⟩:=I.loc;⟨m,hn,λi x v e1 e2 e3=>hl' i x v e1 (w i v e2) e3⟩,I.cell,I.free,I.freeC,I.pin,I.hok,hl.trans I.len⟩
theorem Ae.pins_of {pins':List (Addr×Obj)} (I:Ae X pins σ H s) (h:∀p∈pins',s.heap.get? p.1=some p.2/\H p.1=none/\p.1≠X.env.locals/\p.1 ∉ X.fs/\∀v,p.2.data≠ .cell v):Ae X pins' σ H s:=
 ⟨I.ok,I.os,I.bare,I.base,I.loc,I.cell,I.free,I.freeC,λp hp=>(List.mem_append.mp hp).elim (λz=>I.pin p (List.mem_append_left _ z)) (h p),I.hok,I.len⟩
theorem JJ {N:List Str} (hN:N.Nodup) {i j:Nat}{x:Str} (a:N[i]? =some x) (b:N[j]? =some x):i=j:=by
 obtain⟨h1,e1⟩:=List.getElem?_eq_some_iff.mp a
 obtain⟨h2,e2⟩:=List.getElem?_eq_some_iff.mp b
 exact(List.getElem_inj hN).mp (e1.trans e2.symm)
theorem H0 {A:Around}{x:Str} (I:Ae X pins σ H s) (hN:X.N.Nodup) (hi:X.N[i]? =some x) (hx:DE X.env.scope x) (r:AH v u)
  (h:∀s',Ae X pins (σ.set i (some v)) H s'->(∃a,Heap.SameBut a s.heap s'.heap/\(a=X.env.locals\/X.env.cells.lookup x=some a))->Q () s') (hf:X.fn x=true\/X.env.scope.names.lookup x=some .local :=by first | exact .inl rfl | exact .inr rfl | assumption):wpAny M A (storeName X.env x u) Q E s:=by
 obtain⟨m,hn,hl⟩:=id I.loc
 have hcls:(X.env.scope.kind== .class || (X.env.scope.kind== .module && X.env.locals !=X.env.globals))=false:=by rw [I.ok.kind];rfl
 have hiσ:i<σ.length:=by rw [I.len];exact(List.getElem?_eq_some_iff.mp hi).1
 have cne:=I.cne
 have tracked:∀ {a:Addr}{h':Heap},(∃o,s.heap.get? a=some o/\H a=none)->Heap.SameBut a s.heap h'->HOk X.prog X.w H h':=λ{a h'} ha hs b ob e=>by
  obtain⟨_,_,hfree⟩:=ha
  refine(I.hok b ob e).stay (λc w' hc q=>(hs.2 c ?_).trans q) (λ_ q=>q) λ_ _ q=>q
  rintro rfl
  rcases hc with rfl | hc
  ·rw [hfree] at e;cases e
  ·rw [hfree] at hc;cases hc
 rcases hx with hk | hk
 ·refine wpAny_storeName_local hk hn (λh' hn' hs=>?_) hcls
  obtain⟨oL,_,_,hoL,_⟩:=id hn
  refine h _ ⟨I.ok,I.os,I.bare,⟨λb o e n hb hx=>?_,λb o e n hb hx=>?_,I.base.free,λb o e hx=>?_,I.base.tups,I.base.frzs,I.base.tbls⟩,⟨_,hn',λj y v' e1 e2 e3=>?_⟩,λy c e=>?_,I.free,I.freeC,λp hp=>?_,tracked ⟨oL,hoL,I.free⟩ hs,by simpa using I.len⟩ ⟨_,hs,.inl rfl⟩
  ·exact(hs.2 b (Nat.ne_of_lt (Nat.lt_of_lt_of_le (Heap.lt_size e) I.ok.above))).trans (I.base.keep b o e n hb hx)
  ·obtain⟨sl,e1⟩:=I.base.slot b o e n hb hx
   exact⟨sl,(hs.2 b (Nat.ne_of_lt (Nat.lt_of_lt_of_le (Heap.lt_size e) I.ok.above))).trans e1⟩
  ·obtain⟨o',e1⟩:=I.base.there b o e hx
   exact⟨o',(hs.2 b (Nat.ne_of_lt (Nat.lt_of_lt_of_le (Heap.lt_size e) I.ok.above))).trans e1⟩
  ·by_cases hj:j=i
   ·subst hj
    rw [hi] at e1;cases e1
    rw [List.getElem?_set_self hiσ] at e2
    cases e2
    exact⟨u,r,.inl ⟨hk,by simp⟩⟩
   ·rw [List.getElem?_set_ne (Ne.symm hj)] at e2
    obtain⟨u',r',q⟩:=hl j y v' e1 e2 e3
    refine⟨u',r',?_⟩
    rcases q with⟨k,e⟩ | ⟨k,c,e,z⟩
    ·refine .inl ⟨k,?_⟩
     have:y≠x:=λe=>hj (JJ hN e1 (e ▸ hi))
     simp [this,e]
    ·exact .inr ⟨k,c,e,z.sameBut hs (cne y c e)⟩
  ·obtain⟨w',z⟩:=I.cell y c e
   exact⟨w',z.sameBut hs (cne y c e)⟩
  ·obtain⟨e,n,ne,nf,d⟩:=I.pin p hp
   exact⟨(hs.2 p.1 ne).trans e,n,ne,nf,d⟩
 ·have hfn:X.fn x=true:=by
   rcases hf with z | z
   ·exact z
   ·rw [z] at hk;cases hk
  obtain⟨c,hc⟩:=I.ok.has x (.inl hk)
  obtain⟨w',z⟩:=I.cell x c hc
  refine wpAny_storeName_cell I.ok.kind hk hc z (λh' hc' hs=>?_)
  obtain⟨oc,hoc,hocd⟩:=id z
  refine h { s with heap:=h'} ⟨I.ok,I.os,I.bare,⟨λb o e n hb hx=>?_,λb o e n hb hx=>?_,I.base.free,λb o e hx=>?_,I.base.tups,I.base.frzs,I.base.tbls⟩,⟨m,hn.sameBut hs (Ne.symm (cne x c hc)),λj y v' e1 e2 e3=>?_⟩,λy c' e=>?_,I.free,I.freeC,λp hp=>?_,tracked ⟨oc,hoc,I.freeC x c hc⟩ hs,by simpa using I.len⟩ ⟨c,hs,.inr hc⟩
  ·exact(hs.2 b (Nat.ne_of_lt (Nat.lt_of_lt_of_le (Heap.lt_size e) (I.ok.cab x c hfn hc)))).trans (I.base.keep b o e n hb hx)
  ·obtain⟨sl,e1⟩:=I.base.slot b o e n hb hx
   exact⟨sl,(hs.2 b (Nat.ne_of_lt (Nat.lt_of_lt_of_le (Heap.lt_size e) (I.ok.cab x c hfn hc)))).trans e1⟩
  ·obtain⟨o',e1⟩:=I.base.there b o e hx
   exact⟨o',(hs.2 b (Nat.ne_of_lt (Nat.lt_of_lt_of_le (Heap.lt_size e) (I.ok.cab x c hfn hc)))).trans e1⟩
  ·by_cases hj:j=i
   ·subst hj
    rw [hi] at e1;cases e1
    rw [List.getElem?_set_self hiσ] at e2
    cases e2
    exact⟨u,r,.inr ⟨.inl hk,c,hc,hc'⟩⟩
   ·rw [List.getElem?_set_ne (Ne.symm hj)] at e2
    obtain⟨u',r',q⟩:=hl j y v' e1 e2 e3
    refine⟨u',r',?_⟩
    rcases q with q | ⟨k,c',e,z'⟩
    ·exact .inl q
    ·refine .inr ⟨k,c',e,z'.sameBut hs ?_⟩
     rintro rfl
     exact hj (JJ hN e1 (I.ok.inj _ _ _ e hc ▸ hi))
  ·by_cases hcc:c'=c
   ·subst hcc;exact⟨_,hc'⟩
   ·obtain⟨w2,z2⟩:=I.cell y c' e
    exact⟨w2,z2.sameBut hs hcc⟩
  ·obtain⟨e,n,ne,nf,d⟩:=I.pin p hp
   refine⟨(hs.2 p.1 ?_).trans e,n,ne,nf,d⟩
   intro q
   rw [q,hoc] at e
   have q':oc=p.2:=Option.some.inj e
   exact d w' (by rw [<-q'];exact hocd)
theorem E8 {A:Around}{x:Str} (I:Ae X pins σ H s) (hN:X.N.Nodup) (hi:X.N[i]? =some x) (hx:DE X.env.scope x) (r:AH v u)
  (h:∀s',Ae X pins (σ.set i (some v)) H s'->Q () s') (hf:X.fn x=true\/X.env.scope.names.lookup x=some .local :=by first | exact .inl rfl | exact .inr rfl | assumption):wpAny M A (storeName X.env x u) Q E s:=
 H0 I hN hi hx r (λs' I' _=>h s' I') hf
theorem Ae.call' {s':Shared} (I:Ae X pins σ H s) (ho:s'.os=s.os) (u:Un (Ca X.stack) ch H H' s.heap s'.heap) (hok:HOk X.prog X.w H' s'.heap) (hg:AllBare s'.gens)
  (hch:∀b∈ch,(b∈X.ex\/X.s₀.heap.objs.size<=b)/\b≠X.env.locals/\(∀x c,X.env.cells.lookup x=some c->c≠b)/\∀p∈X.pn++pins,p.1≠b):Ae X pins σ H' s':=by
 obtain⟨h',g',d',t',o'⟩:=s'
 have e:o'=s.os:=ho
 subst e
 exact I.call (g':=g') (t':=t') (d':=d') u hok hg hch
end
abbrev XK:=Value->Option Addr->Hp->Prop
abbrev St:=List (Option V)
abbrev VK:=V->Hp->Prop
abbrev TE:=St->Hp->VK->Prop
abbrev TT:=St->Hp->(Bool->Hp->Prop)->Prop
abbrev TA:=St->Hp->(List V->Hp->Prop)->Prop
structure DF where
 nx:St->Hp->Prop
 rt:VK
 bk:St->Hp->Prop:=λ_ _=>False
 ct:St->Hp->Prop:=λ_ _=>False
abbrev TS:=DF->St->Hp->Prop
def EP (X:Cx) (pins:List (Addr×Obj)) (σ:St) (Q:VK) (u:Value) (s':Shared):Prop:=∃v H',Ae X pins σ H' s'/\AH v u/\Q v H'
def TP (X:Cx) (pins:List (Addr×Obj)) (σ:St) (Q:Bool->Hp->Prop) (b:Bool) (s':Shared):Prop:=∃H',Ae X pins σ H' s'/\Q b H'
def AP (X:Cx) (pins:List (Addr×Obj)) (σ:St) (Q:List V->Hp->Prop) (us:List Value) (s':Shared):Prop:=∃vs H',Ae X pins σ H' s'/\Ar vs us/\Q vs H'
def SP (X:Cx) (pins:List (Addr×Obj)) (D:DF) (f:Flow) (s':Shared):Prop:=
 match f with
 | .next=>∃σ' H',Ae X pins σ' H' s'/\D.nx σ' H'
 | .brk=>∃σ' H',Ae X pins σ' H' s'/\D.bk σ' H'
 | .cont=>∃σ' H',Ae X pins σ' H' s'/\D.ct σ' H'
 | .ret u=>∃v σ' H',Ae X pins σ' H' s'/\AH v u/\D.rt v H'
def PE (X:Cx) (e:Expr) (t:TE):Prop:=
 ∀(pins:List (Addr×Obj)) (s:Shared) (σ:St) (H:Hp) (Q:VK),Ae X pins σ H s->t σ H Q->wpAny (model X.prog X.w) X.A (eval e X.env) (EP X pins σ Q) X.xe s
def PT (X:Cx) (e:Expr) (t:TT):Prop:=
 ∀(pins:List (Addr×Obj)) (s:Shared) (σ:St) (H:Hp) (Q:Bool->Hp->Prop),Ae X pins σ H s->t σ H Q->wpAny (model X.prog X.w) X.A (isTrue e X.env (eval e X.env)) (TP X pins σ Q) X.xe s
def PW (X:Cx) (e:Expr) (t:TT):Prop:=
 ∀(whole:Sem Value) (pins:List (Addr×Obj)) (s:Shared) (σ:St) (H:Hp) (Q:Bool->Hp->Prop),Ae X pins σ H s->t σ H Q->wpAny (model X.prog X.w) X.A (isTrue e X.env whole) (TP X pins σ Q) X.xe s
theorem PW.pt {X:Cx}{e:Expr}{t:TT} (h:PW X e t):PT X e t:=h _
def PA (X:Cx) (es:List Expr) (t:TA):Prop:=
 ∀(pos:Pos) (pins:List (Addr×Obj)) (s:Shared) (σ:St) (H:Hp) (Q:List V->Hp->Prop),Ae X pins σ H s->t σ H Q->wpAny (model X.prog X.w) X.A (spliced (backTo pos (starEach es X.env))) (AP X pins σ Q) X.xe s
def PS (X:Cx) (st:Stmt) (t:TS):Prop:=
 ∀(pins:List (Addr×Obj)) (s:Shared) (σ:St) (H:Hp) (D:DF),Ae X pins σ H s->t D σ H->wpAny (model X.prog X.w) X.A (exec st X.env) (SP X pins D) X.xe s
def PSs (X:Cx) (st:List Stmt) (t:TS):Prop:=
 ∀(pins:List (Addr×Obj)) (s:Shared) (σ:St) (H:Hp) (D:DF),Ae X pins σ H s->t D σ H->wpAny (model X.prog X.w) X.A (execs st X.env) (SP X pins D) X.xe s
theorem Av {α:Type}{t:Sem α}{Q Q':α->Shared->Prop}{A:Around}{s:Shared} (h:wpAny M A t Q E s) (hQ:∀a s,Q a s->Q' a s):wpAny M A t Q' E s:=wpAny_mono h hQ λ_ _ x=>x
end L2
namespace L2
open PySem PySem.Spec PyProof.Rows
variable {E Q : Value -> Shared -> Prop} {pins : List (Addr × Obj)} {s : Shared} {σ : St} {H : Hp} {u : Value} {v : V}
section
variable {X : Cx}
theorem bin {a b:Expr}{ta tb:TE} (ha:PE X a ta) (hb:PE X b tb) {pins:List (Addr×Obj)}{s:Shared}{σ:St}{H:Hp}{R:V->V->Hp->Prop} (I:Ae X pins σ H s) (h:ta σ H λx H1=>tb σ H1 λy H2=>R x y H2)
  {α:Type}{Q:α->Shared->Prop}{f:Value->Value->Sem α}
  (hf:∀v u s2 x y H2,Ae X pins σ H2 s2->AH x v->AH y u->R x y H2->wpAny (model X.prog X.w) X.A (f v u) Q X.xe s2):
  wpAny (model X.prog X.w) X.A (eval a X.env) (λv s₁=>wpAny (model X.prog X.w) X.A (eval b X.env) (λu s₂=>wpAny (model X.prog X.w) X.A (f v u) Q X.xe s₂) X.xe s₁) X.xe s:=by
 refine Av (ha pins s σ H _ I h) λv s1 ⟨x,H1,I1,r1,q1⟩=>?_
 refine Av (hb pins s1 σ H1 _ I1 q1) λu s2 ⟨y,H2,I2,r2,q2⟩=>?_
 exact hf v u s2 x y H2 I2 r1 r2 q2
def JK (i:Nat):TE:=fun σ H Q=>∃v,σ[i]? =some (some v)/\Q v H
def tC (v:V):TE:=λ_ H Q=>Q v H
theorem JL {i:Nat}{x:Str}{pos:Pos} (hN:X.N[i]? =some x) (hv:Ez X.env.scope x) (hd:(x==("__debug__" :Str))=false:=by decide) (hcd:(x==("__classdict__" :Str))=false:=by decide):PE X (.Name x pos) (JK i):=by
 intro pins s σ H Q I h
 obtain⟨v,e,h⟩:=h
 obtain⟨m,hn,hl⟩:=I.loc
 obtain⟨u,r,l⟩:=hl i x v hN e hv
 have fin:EP X pins σ Q u s:=⟨v,H,I,r,h⟩
 rcases l with⟨hk,hm⟩ | ⟨hk,c,hc,hcell⟩
 ·exact wpAny_Name (wpAny_loadName_local I.ok.kind hk hn hm fin) hd
 ·rcases hk with hk | hk
  ·exact wpAny_Name (wpAny_loadName_cell I.ok.kind hk hc hcell fin) hd
  ·exact wpAny_Name (wpAny_loadName_free I.ok.kind hk hc hcell fin hcd) hd
theorem pe_int {i j pos}:PE X (.Constant (.int i) j pos) (tC (.int i)):=λ_ _ _ H _ I h=>wpAny_Constant_int ⟨.int i,H,I.tok _,⟨_,rfl⟩,h⟩
theorem pe_bl {b j pos}:PE X (.Constant (.bool b) j pos) (tC (.bl b)):=λ_ _ _ H _ I h=>Constant_bool ⟨.bl b,H,I,rfl,h⟩
theorem pe_non {j pos}:PE X (.Constant .none j pos) (tC .non):=λ_ _ _ H _ I h=>Constant_none ⟨.non,H,I,rfl,h⟩
theorem pe_str {x j pos}:PE X (.Constant (.str x) j pos) (tC (.str x)):=λ_ _ _ H _ I h=>Calls.Constant_str ⟨.str x,H,I.tok _,⟨_,rfl⟩,h⟩
def Gl (X:Cx) (x:Str):Prop:=X.env.kindOf x=some .globalImplicit
theorem JM {x:Str}{pos:Pos} (I:Ae X pins σ H s) (hg:Gl X x) (hm:X.mg x=some u) (h:Q u s)
  (hd:(x==("__debug__" :Str))=false:=by decide):wpAny (model X.prog X.w) X.A (eval (.Name x pos) X.env) Q E s:=
 Calls.Name_function_global I.ok.kind hg (Calls.loadGlobal_global (by rw [I.ok.glob];exact I.mod.glob.keeps I.bk) hm h) hd
theorem CO {x:Str}{pos:Pos} (I:Ae X pins σ H s) (hg:Gl X x) (hm:X.mg x=none) (hv:bootBuiltins x=some u) (h:Q u s)
  (hn:x≠ "__name__" :=by decide) (hd:(x==("__debug__" :Str))=false:=by decide):wpAny (model X.prog X.w) X.A (eval (.Name x pos) X.env) Q E s:=by
 obtain⟨mb,h1,h2⟩:=I.mod.blt
 exact Calls.Name_function_global I.ok.kind hg (Calls.loadGlobal_builtin (by rw [I.ok.glob];exact I.mod.glob.keeps I.bk) hm (by rw [I.ok.blt];exact h1.keeps I.bk) ((h2 x hn).trans hv) h) hd
theorem CP {x:Str}{pos:Pos} (hg:Gl X x) (hm:X.mg x=some u) (r:AH v u) (hd:(x==("__debug__" :Str))=false:=by decide):PE X (.Name x pos) (tC v):=
 λ_ _ _ H _ I h=>JM I hg hm ⟨v,H,I,r,h⟩ hd
theorem CQ {x:Str}{pos:Pos} (hg:Gl X x) (hm:X.mg x=none) (hv:bootBuiltins x=some u) (r:AH v u) (hn:x≠ "__name__" :=by decide) (hd:(x==("__debug__" :Str))=false:=by decide):PE X (.Name x pos) (tC v):=
 λ_ _ _ H _ I h=>CO I hg hm hv ⟨v,H,I,r,h⟩ hn hd
variable {a b : Expr} {ta tb : TE} {pos : Pos}
variable {tA tB' : TT} {Bk : List Expr}
def M6 (t:TT):TT:=fun σ H Q=>t σ H λc H1=>Q (!c) H1
theorem JN (ha:PT X a tA):PW X (.BoolOp .And [a] pos) tA:=by
 intro wh pins s σ H Q I h
 refine isTrue_and (Av (ha pins s σ H Q I h) λc s1 e=>?_)
 cases c with
 | true=>exact isTrue_and_nil e
 | false=>exact e
theorem CS (ha:PT X a tA):PW X (.BoolOp .Or [a] pos) tA:=by
 intro wh pins s σ H Q I h
 refine isTrue_or (Av (ha pins s σ H Q I h) λc s1 e=>?_)
 cases c with
 | false=>exact isTrue_or_nil e
 | true=>exact e
theorem Bn (ha:PT X a tA):PT X (.UnaryOp .Not a pos) (M6 tA):=by
 intro pins s σ H Q I h
 exact isTrue_not (ha pins s σ H (λc H1=>Q (!c) H1) I h)
theorem Bl {op}{t:TE} (h:PE X a t):PE X (.BoolOp op [a] pos) t:=λpins s σ H Q I hw=>BoolOp_one (h pins s σ H Q I hw)
end
end L2
namespace L2
open PySem PySem.Spec PyProof.Rows
variable {i : Nat} {P : Program} {tg : Expr}
def Ai (K:PySem.W.Frag) (H:Hp) (a:Addr) (xs:List V):Prop:=
 Rd H a (.lst xs)\/
  ∃(o:Obj) (its:Array Value) (n:Nat),K.lookup a=some o/\o.cls= .type "list" /\o.dict=none/\o.data= .seq its n/\its.size<=sizeLine/\Ar xs its.toList
def Ac (K:PySem.W.Frag) (H:Hp) (a:Addr) (xs:List V):Prop:=
 Rd H a (.tup xs)\/
  ∃(o:Obj) (its:Array Value) (n:Nat),K.lookup a=some o/\o.cls= .type "tuple" /\o.data= .seq its n/\its.size<=sizeLine/\Ar xs its.toList
def M7:Value->Option V
 | .none=>some .non
 | .bool b=>some (.bl b)
 | .int i _=>some (.int i)
 | .str x _=>some (.str x)
 | .bytes b _=>some (.byt b)
 | .float b _=>some (.flt b)
 | .ref a=>some (.ref a)
 | .type n=>some (.ty n)
 | _=>none
theorem AH.abs {x:V}{u:Value} (r:AH x u):M7 u=some x:=by
 cases x with
 | non=>cases r;rfl
 | bl _=>cases r;rfl
 | int _=>obtain⟨t,rfl⟩:=r;rfl
 | str _=>obtain⟨t,rfl⟩:=r;rfl
 | byt _=>obtain⟨t,rfl⟩:=r;rfl
 | flt _=>obtain⟨t,rfl⟩:=r;rfl
 | ref _=>cases r;rfl
 | ty _=>cases r;rfl
theorem AH.inj {x y:V}{u:Value} (r:AH x u) (q:AH y u):x=y:=Option.some.inj (r.abs.symm.trans q.abs)
theorem Ar.inj:∀ {xs ys:List V}{us:List Value},Ar xs us->Ar ys us->xs=ys
 | _,_,_,.nil,.nil=>rfl
 | _,_,_,.cons r t,.cons r' t'=>by rw [r.inj r',Ar.inj t t']
section
variable {X : Cx} {pins : List (Addr × Obj)} {σ : St} {H : Hp} {s : Shared} {a : Addr} {xs ys : List V}
theorem Ai.of {K:PySem.W.Frag} (h:H a=some (.lst xs)):Ai K H a xs:= .inl (.inl h)
theorem Ac.of {K:PySem.W.Frag} (h:H a=some (.tup xs)):Ac K H a xs:= .inl (.inl h)
theorem Ae.list (I:Ae X pins σ H s) (h:Ai X.K H a xs):∃its:List Value,Ar xs its/\PlainL s.heap a its.toArray/\xs.length<=sizeLine:=by
 rcases h with h | ⟨o,its,n,hk,hc,hd,hs,hz,r⟩
 ·obtain⟨z,its,n,r,e⟩:=h.ok I.hok
  exact⟨its,r,⟨_,n,e,rfl,rfl,rfl⟩,z⟩
 ·refine⟨its.toList,r,⟨o,n,I.kIn a o hk,hc,hd,by simpa using hs⟩,?_⟩
  have e:=r.length
  simp only [Array.length_toList] at e
  omega
theorem Ae.tuple (I:Ae X pins σ H s) (h:Ac X.K H a xs):∃its:List Value,Ar xs its/\IsTup s.heap a its.toArray/\xs.length<=sizeLine:=by
 rcases h with h | ⟨o,its,n,hk,hc,hs,hz,r⟩
 ·obtain⟨z,its,r,p⟩:=h.ok I.hok
  exact⟨its,r,p,z⟩
 ·refine⟨its.toList,r,⟨o,I.kIn a o hk,hc,n,by simpa using hs⟩,?_⟩
  have e:=r.length
  simp only [Array.length_toList] at e
  omega
theorem Ae.list_inj (I:Ae X pins σ H s) (h:Ai X.K H a xs) (h':Ai X.K H a ys):xs=ys:=by
 obtain⟨its,r,⟨o,n,e,_,_,d⟩,_⟩:=I.list h
 obtain⟨its',r',⟨o',n',e',_,_,d'⟩,_⟩:=I.list h'
 rw [e] at e';cases e'
 rw [d] at d'
 injection d' with d1 _
 have:its=its':=by simpa using congrArg Array.toList d1
 subst this
 exact r.inj r'
theorem Ae.tuple_inj (I:Ae X pins σ H s) (h:Ac X.K H a xs) (h':Ac X.K H a ys):xs=ys:=by
 obtain⟨its,r,⟨o,e,_,n,d⟩,_⟩:=I.tuple h
 obtain⟨its',r',⟨o',e',_,n',d'⟩,_⟩:=I.tuple h'
 rw [e] at e';cases e'
 rw [d] at d'
 injection d' with d1 _
 have:its=its':=by simpa using congrArg Array.toList d1
 subst this
 exact r.inj r'
end
abbrev Cx.wish (X:Cx) (E:Value->Shared->Prop):Cx:= { X with xe:=E}
abbrev Cx.nox (X:Cx):Cx:=X.wish λ_ _=>False
theorem Cx.Ok.wish {X:Cx} (ok:X.Ok) (E:Value->Shared->Prop):(X.wish E).Ok:=
 ⟨ok.mod,ok.kind,ok.glob,ok.blt,ok.above,ok.inj,ok.has,ok.cab,ok.hd,ok.frames,ok.stk,ok.exf,ok.bs,ok.bsz,ok.noex,ok.exfs,ok.funs,ok.frf⟩
theorem Cx.Ok.unwish {X:Cx}{E:Value->Shared->Prop} (ok:(X.wish E).Ok):X.Ok:=
 ⟨ok.mod,ok.kind,ok.glob,ok.blt,ok.above,ok.inj,ok.has,ok.cab,ok.hd,ok.frames,ok.stk,ok.exf,ok.bs,ok.bsz,ok.noex,ok.exfs,ok.funs,ok.frf⟩
section
variable {X : Cx} {pins : List (Addr × Obj)} {σ : St} {H : Hp} {s : Shared} {E : Value -> Shared -> Prop}
theorem Ae.wish (I:Ae X pins σ H s) (E:Value->Shared->Prop):Ae (X.wish E) pins σ H s:=⟨I.ok.wish E,I.os,I.bare,I.base,I.loc,I.cell,I.free,I.freeC,I.pin,I.hok,I.len⟩
theorem Ae.unwish (I:Ae (X.wish E) pins σ H s):Ae X pins σ H s:=⟨I.ok.unwish,I.os,I.bare,I.base,I.loc,I.cell,I.free,I.freeC,I.pin,I.hok,I.len⟩
theorem SP.unwish {D:DF}{f:Flow}{s':Shared} (h:SP (X.wish E) pins D f s'):SP X pins D f s':=by
 cases f with
 | next=>obtain⟨σ',H',I,q⟩:=h;exact⟨σ',H',I.unwish,q⟩
 | brk=>obtain⟨σ',H',I,q⟩:=h;exact⟨σ',H',I.unwish,q⟩
 | cont=>obtain⟨σ',H',I,q⟩:=h;exact⟨σ',H',I.unwish,q⟩
 | ret u=>obtain⟨v,σ',H',I,r,q⟩:=h;exact⟨v,σ',H',I.unwish,r,q⟩
theorem PSs.nox {st:List Stmt}{t:TS} (h:PSs X.nox st t):PSs X st t:=λpins s σ H D I hw=>
 wpAny_mono (h pins s σ H D (I.wish _) hw) (λ_ _ q=>q.unwish) λ_ _ z=>False.elim z
end
section
variable {X : Cx} {st : Stmt} {Bk : List Stmt} {t u : TS} {e : Expr} {te : TE} {pos : Pos}
def M8:TS:=λD σ H=>D.nx σ H
def JO (t u:TS):TS:=λD σ H=>t { D with nx:=u D} σ H
theorem AZ:PSs X [] M8:=λ_ _ σ H _ I h=>wpAny_execs_nil ⟨σ,H,I,h⟩
theorem Ak (h1:PS X st t) (h2:PSs X Bk u):PSs X (st::Bk) (JO t u):=by
 intro pins s σ H D I h
 refine wpAny_execs_cons (Av (h1 pins s σ H { D with nx:=u D} I h) λf s1 q=>?_)
 cases f with
 | next=>
  obtain⟨σ',H',I',q⟩:=q
  exact h2 pins s1 σ' H' D I' q
 | ret v=>exact q
 | brk=>exact q
 | cont=>exact q
theorem An (h1:PS X st t):PSs X [st] t:=by
 intro pins s σ H D I h
 refine wpAny_execs_cons (Av (h1 pins s σ H D I h) λf s1 q=>?_)
 cases f with
 | next=>exact wpAny_execs_nil q
 | ret v=>exact q
 | brk=>exact q
 | cont=>exact q
theorem Ae.quiet {pins:List (Addr×Obj)}{σ:St}{H:Hp}{s:Shared} (I:Ae X pins σ H s):interactive X.env=false:=by simp [interactive,I.ok.kind]
def M9 (te:TE):TS:=λD σ H=>te σ H λ_ H1=>D.nx σ H1
theorem BW (he:PE X e te) (hs:swapsWith e none pos.line X.env=pure false:=by rfl):PS X (.Expr e pos) (M9 te):=by
 intro pins s σ H D I h
 exact wpAny_Expr_any (Av (he pins s σ H _ I h) λv s1 ⟨x,H1,I1,r1,q1⟩=>⟨σ,H1,I1,q1⟩) I.quiet hs
def JP (te:TE):TS:=λD σ H=>te σ H D.rt
theorem Aq (he:PE X e te):PS X (.Return (some e) pos) (JP te):=by
 intro pins s σ H D I h
 exact wpAny_Return_some (Av (he pins s σ H _ I h) λv s1 ⟨x,H1,I1,r1,q1⟩=>⟨x,σ,H1,I1,r1,q1⟩)
def Na:TS:=λ_ _ _=>False
theorem Ia:PS X st Na:=λ_ _ _ _ _ _ h=>h.elim
end
abbrev TG:=V->St->Hp->(St->Hp->Prop)->Prop
abbrev DG:=List V->St->Hp->(St->Hp->Prop)->Prop
def PG (X:Cx) (target:Expr) (t:TG):Prop:=
 ∀(pins:List (Addr×Obj)) (s:Shared) (σ:St) (H:Hp) (v:V) (u:Value) (Q:St->Hp->Prop),Ae X pins σ H s->AH v u->t v σ H Q->
  wpAny (model X.prog X.w) X.A (assign target X.env u) (λ_ s'=>∃σ' H',Ae X pins σ' H' s'/\Q σ' H') X.xe s
def E9 (X:Cx) (ts:List Expr) (t:DG):Prop:=
 ∀(pins:List (Addr×Obj)) (s:Shared) (σ:St) (H:Hp) (vs:List V) (us:List Value) (Q:St->Hp->Prop),Ae X pins σ H s->Ar vs us->t vs σ H Q->
  wpAny (model X.prog X.w) X.A (assignInOrder ((assignEach ts X.env).map (·.2)) us) (λ_ s'=>∃σ' H',Ae X pins σ' H' s'/\Q σ' H') X.xe s
abbrev Ib:=V->V->V->Hp->(Hp->Prop)->Prop
def JQ (X:Cx) (t:Ib):Prop:=
 ∀(pins:List (Addr×Obj)) (s:Shared) (σ:St) (H:Hp) (o i v:V) (ov iv u:Value) (Q:Hp->Prop),Ae X pins σ H s->AH o ov->AH i iv->AH v u->t o i v H Q->
  wpAny (model X.prog X.w) X.A (setItem ov iv u) (λ_ s'=>∃H',Ae X pins σ H' s'/\Q H') X.xe s
abbrev FY:=V->V->Hp->VK->Prop
def Ic (X:Cx) (op:Operator) (t:FY):Prop:=
 ∀(pins:List (Addr×Obj)) (s:Shared) (σ:St) (H:Hp) (x y:V) (v u:Value) (Q:VK),Ae X pins σ H s->AH x v->AH y u->t x y H Q->
  wpAny (model X.prog X.w) X.A (inplaceOp op v u) (EP X pins σ Q) X.xe s
section
variable {X : Cx} {pos : Pos}
def Ee (i:Nat):TG:=λv σ H Q=>Q (σ.set i (some v)) H
theorem Nb {x:Str} (hN:X.N.Nodup) (hi:X.N[i]? =some x) (hx:DE X.env.scope x) (hf:X.fn x=true\/X.env.scope.names.lookup x=some .local :=by first | exact .inl rfl | exact .inr rfl | assumption):PG X (.Name x pos) (Ee i):=by
 intro pins s σ H v u Q I r h
 exact wpAny_assign_Name (E8 I hN hi hx r (λs' I'=>⟨_,H,I',h⟩) hf)
def Nc:DG:=λvs σ H Q=>vs=[]/\Q σ H
def Nd (t:TG) (u:DG):DG:=λvs σ H Q=>∃v r,vs=v::r/\t v σ H fun σ' H'=>u r σ' H' Q
theorem AL:E9 X [] Nc:=by
 intro pins s σ H vs us Q I r h
 obtain⟨e,h⟩:=h
 subst e
 cases r
 exact assignInOrder_nil ⟨σ,H,I,h⟩
theorem Ap {e:Expr}{es:List Expr}{t:TG}{u:DG} (h1:PG X e t) (h2:E9 X es u)
  (hs:(assignEach (e::es) X.env).map (·.2)=assign e X.env::(assignEach es X.env).map (·.2):=by rfl):E9 X (e::es) (Nd t u):=by
 intro pins s σ H vs us Q I r h
 obtain⟨v,vr,e1,h⟩:=h
 subst e1
 cases r with
 | cons r rr=>
  rw [hs]
  refine assignInOrder_cons (Av (h1 pins s σ H _ _ _ I r h) λ_ s1 ⟨σ1,H1,I1,q1⟩=>?_)
  exact h2 pins s1 σ1 H1 _ _ Q I1 rr q1
def JR (K:PySem.W.Frag) (n:Nat) (t:DG):TG:=λv σ H Q=>∃a xs,v= .ref a/\Ac K H a xs/\xs.length=n/\t xs σ H Q
theorem Nf {es:List Expr}{k:Nat}{t:DG}{n:Nat} (hc:X.calm=true) (h:E9 X es t)
  (hn:(assignEach es X.env).length=n:=by rfl) (hst:(assignEach es X.env).findIdx? (·.1)=none:=by rfl):PG X (.Tuple es k pos) (JR X.K n t):=by
 intro pins s σ H v u Q I r hw
 obtain⟨a,xs,e1,hq,hl,hw⟩:=hw
 subst e1
 cases r
 obtain⟨its,rv,ht,hz⟩:=I.tuple hq
 refine assign_Tuple_tuple (I.ok.hd hc) ht (by simp [hn,<-hl,rv.length]) hst λh' hx=>?_
 have I1:Ae X pins σ H { s with heap:=h'}:=I.kept (t':=s.toks) λb o e=>hx b o (Nat.ne_of_lt (Heap.lt_size e)) e
 exact h pins _ σ H xs _ Q I1 (by simpa using rv) hw
def Ng (to ti:TE) (t:Ib):TG:=λv σ H Q=>to σ H λo H1=>ti σ H1 λi H2=>t o i v H2 λH3=>Q σ H3
theorem JS {o i:Expr}{to ti:TE}{t:Ib} (ho:PE X o to) (hi:PE X i ti) (hs:JQ X t)
  (ha : ∀ v, assign (.Subscript o i pos) X.env v = (do
   let ov<-holding [v] (eval o X.env)
   let iv<-holding [v,ov] (eval i X.env)
   standAt pos
   holding [v,ov,iv] (setItem ov iv v)
   release [v,ov,iv] []):=by intro _;rfl):PG X (.Subscript o i pos) (Ng to ti t):=by
 intro pins s σ H v u Q I r h
 rw [ha]
 refine wpAny_bind (wpAny_holding (Av (ho pins s σ H _ I h) λov s1 ⟨x,H1,I1,r1,q1⟩=>?_))
 refine wpAny_bind (wpAny_holding (Av (hi pins s1 σ H1 _ I1 q1) λiv s2 ⟨y,H2,I2,r2,q2⟩=>?_))
 refine wpAny_bind (wpAny_standAt (wpAny_bind (wpAny_holding (Av (hs pins s2 σ H2 x y v ov iv u _ I2 r1 r2 r q2) λ_ s3 ⟨H3,I3,q3⟩=>?_))))
 exact wpAny_release ⟨σ,H3,I3,q3⟩
def Id (te:TE) (g:TG):TS:=λD σ H=>te σ H λx H1=>g x σ H1 D.nx
theorem Bv {tg e:Expr}{te:TE}{g:TG} (he:PE X e te) (hg:PG X tg g) (hs:swapsWithSole [tg] e pos.line X.env=pure false:=by rfl) (hw:swappedStores [tg] e X.env=pure none:=by rfl)
  (h1:(assignEach [tg] X.env).map (·.2)=[assign tg X.env]:=by rfl):PS X (.Assign [tg] e pos) (Id te g):=by
 intro pins s σ H D I h
 refine wpAny_Assign_stores (Av (he pins s σ H _ I h) λv s1 ⟨x,H1,I1,r1,q1⟩=>?_) hs hw
 rw [h1]
 exact Av (hg pins s1 σ H1 x v _ I1 r1 q1) λ_ s2 q=>q
theorem AI {i:Nat}{x:Str}{e:Expr}{te:TE}{pos':Pos} (hN:X.N.Nodup) (hi:X.N[i]? =some x) (hx:DE X.env.scope x) (he:PE X e te) (hs:swapsWith e (some (.Name x pos')) pos.line X.env=pure false:=by rfl) (hf:X.fn x=true\/X.env.scope.names.lookup x=some .local :=by first | exact .inl rfl | exact .inr rfl | assumption):
  PS X (.Assign [.Name x pos'] e pos) (Id te (Ee i)):=by
 intro pins s σ H D I h
 refine wpAny_Assign_Name (Av (he pins s σ H _ I h) λv s1 ⟨y,H1,I1,r1,q1⟩=>?_) hs
 exact E8 I1 hN hi hx r1 (λs2 I2=>⟨_,H1,I2,q1⟩) hf
def Nh (i j:Nat) (ta:TA):TS:=λD σ H=>ta σ H λvs H1=>∃v w,vs=[v,w]/\D.nx ((σ.set i (some v)).set j (some w)) H1
theorem Ie {i j:Nat}{x y:Str}{a b:Expr}{ta:TA}{px py pt:Pos}{kt k2 pt2} (hc:X.calm=true) (hN:X.N.Nodup) (hi:X.N[i]? =some x) (hj:X.N[j]? =some y) (hij:i≠j)
  (hx:X.env.scope.names.lookup x=some .local) (hy:X.env.scope.names.lookup y=some .local) (ha:PA X [a,b] ta)
  (hw:swappedStores [.Tuple [.Name x px,.Name y py] kt pt] (.Tuple [a,b] k2 pt2) X.env=pure (some [x,y]))
  (hs:swapsWithSole [.Tuple [.Name x px,.Name y py] kt pt] (.Tuple [a,b] k2 pt2) pos.line X.env=pure false:=by rfl):
  PS X (.Assign [.Tuple [.Name x px,.Name y py] kt pt] (.Tuple [a,b] k2 pt2) pos) (Nh i j ta):=by
 intro pins s σ H D I h
 rw [exec_Assign_arm]
 refine wpAny_bind (wpAny_standAt ?_)
 rw [hs]
 refine wpAny_bind (wpAny_pure ?_)
 rw [if_neg (by decide)]
 refine wpAny_bind (Tuple_ (Av (ha _ pins s σ H _ I h) λus s1 ⟨vs,H1,I1,r1,q1⟩=>?_))
 obtain⟨v,w,e1,q1⟩:=q1
 subst e1
 obtain⟨u1,u2,rfl,rv,rw'⟩:∃u1 u2,us=[u1,u2]/\AH v u1/\AH w u2:=by
  cases r1 with
  | cons p q=>
   cases q with
   | cons p' q'=>
    cases q'
    exact⟨_,_,rfl,p,p'⟩
 refine wpAny_newObj_type ?_ (by show 2<=sizeLine;decide)
 have I2:Ae X pins σ H1 { s1 with heap:=s1.heap.push { cls:= .type "tuple",data:= .seq [u1,u2].toArray}}:=I1.kept (t':=s1.toks) λb o e=>Heap.get?_push_of_some _ e
 rw [hw]
 refine wpAny_bind (wpAny_pure ?_)
 show wpAny (model X.prog X.w) X.A (do rule "assign.swapped-stores";let items<-unpackItems (.ref s1.heap.objs.size) 2 none;assignInOrder [λv=>bindName X.env y v,λv=>bindName X.env x v] items.reverse;pure Flow.next) _ _ _
 refine wpAny_bind (wpAny_rule (wpAny_bind (unpackItems_tuple (items:= #[u1,u2]) (I.ok.hd hc) (IsTup.new s1.heap _) λh' hx'=>?_)))
 have I3:=I2.kept (h':=h') (t':=s1.toks) λb o e=>hx' b o (Nat.ne_of_lt (Heap.lt_size e)) e
 show wpAny _ _ (assignInOrder [λv=>bindName X.env y v,λv=>bindName X.env x v] [u2,u1] >>=λ_=>pure Flow.next) _ _ _
 refine wpAny_bind (assignInOrder_cons (wpAny_bindName (E8 I3 hN hj (.inl hy) rw' (λs2 I4=>?_) (.inr hy))))
 refine assignInOrder_cons (wpAny_bindName (E8 I4 hN hi (.inl hx) rv (λs3 I5=>assignInOrder_nil (wpAny_pure ?_)) (.inr hx)))
 rw [List.set_comm _ _ (Ne.symm hij)] at I5
 exact⟨_,H1,I5,q1⟩
def Ni (i:Nat) (te:TE) (ti:FY):TS:=λD σ H=>∃x,σ[i]? =some (some x)/\te σ H λy H1=>ti x y H1 λz H2=>D.nx (σ.set i (some z)) H2
theorem JT {x:Str}{e:Expr}{te:TE}{op:Operator}{ti:FY}{pos':Pos} (hN:X.N.Nodup) (hi:X.N[i]? =some x) (hx:DE X.env.scope x) (he:PE X e te) (ho:Ic X op ti) (hf:X.fn x=true\/X.env.scope.names.lookup x=some .local :=by first | exact .inl rfl | exact .inr rfl | assumption):
  PS X (.AugAssign (.Name x pos') op e pos) (Ni i te ti):=by
 intro pins s σ H D I h
 obtain⟨v,e1,h⟩:=h
 obtain⟨m,hn,hl⟩:=I.loc
 have vis:Ez X.env.scope x:=by rcases hx with k | k;exact .inl k;exact .inr (.inl k)
 obtain⟨u,r,l⟩:=hl i x v hi e1 vis
 refine wpAny_AugAssign_Name ?_
 have go:wpAny (model X.prog X.w) X.A (eval e X.env) (λw s₂=>wpAny (model X.prog X.w) X.A (inplaceOp op u w) (λr s₃=>wpAny (model X.prog X.w) X.A (storeName X.env x r) (λ_=>SP X pins D .next) X.xe s₃) X.xe s₂) X.xe s:=by
  refine Av (he pins s σ H _ I h) λw s1 ⟨y,H1,I1,r1,q1⟩=>?_
  refine Av (ho pins s1 σ H1 v y u w _ I1 r r1 q1) λz s2 ⟨zv,H2,I2,r2,q2⟩=>?_
  exact E8 I2 hN hi hx r2 (λs3 I3=>⟨_,H2,I3,q2⟩) hf
 rcases l with⟨hk,hm⟩ | ⟨hk,c,hc,hcell⟩
 ·exact wpAny_loadName_local I.ok.kind hk hn hm go
 ·rcases hk with hk | hk
  ·exact wpAny_loadName_cell I.ok.kind hk hc hcell go
  ·rcases hx with k | k
   ·have:X.env.scope.names.lookup x=some .free:=hk
    rw [k] at this;cases this
   ·have:X.env.scope.names.lookup x=some .free:=hk
    rw [k] at this;cases this
def JU (f:Int->Int->Int):FY:=λx y H Q=>∃i j,x= .int i/\y= .int j/\Q (.int (f i j)) H
theorem Nj:Ic X .Add (JU λi j=>i+j):=by
 intro pins s σ H x y v u Q I r1 r2 h
 obtain⟨i,j,e1,e2,q⟩:=h
 subst e1;subst e2
 obtain⟨t,rfl⟩:=r1
 obtain⟨t',rfl⟩:=r2
 exact iadd_int ⟨.int _,H,I.tok _,⟨_,rfl⟩,q⟩
theorem Nk:Ic X .Sub (JU λi j=>i-j):=by
 intro pins s σ H x y v u Q I r1 r2 h
 obtain⟨i,j,e1,e2,q⟩:=h
 subst e1;subst e2
 obtain⟨t,rfl⟩:=r1
 obtain⟨t',rfl⟩:=r2
 exact isub_int ⟨.int _,H,I.tok _,⟨_,rfl⟩,q⟩
end
section
variable {X : Cx} {pos : Pos}
end
structure It where
 go:Nat->Hp->Prop
 yld:Nat->Hp->V->Hp->Prop
 stop:Nat->Hp->Prop
def Ci (X:Cx) (pins:List (Addr×Obj)) (H:Hp) (b:Addr):Prop:=
 H b=none/\b≠X.env.locals/\b ∉ X.fs/\(b∈X.ex\/X.s₀.heap.objs.size<=b)/\(∀x c,X.env.cells.lookup x=some c->c≠b)/\∀p∈X.pn++pins,p.1≠b
theorem Ae.fpOk {X:Cx}{pins:List (Addr×Obj)}{σ:St}{H H':Hp}{s:Shared}{b:Addr} (I:Ae X pins σ H s) (hb:s.heap.objs.size<=b) (hn:H' b=none):Ci X pins H' b:=by
 refine⟨hn,Nat.ne_of_gt (Nat.lt_of_lt_of_le I.lt hb),I.nofs hb,.inr (Nat.le_trans I.sz hb),λx c e z=>?_,λp hp z=>?_⟩
 ·obtain⟨v,q⟩:=I.cell x c e
  exact absurd (Nat.lt_of_lt_of_le q.lt (by rw [z];exact hb)) (Nat.lt_irrefl _)
 ·exact absurd (Nat.lt_of_lt_of_le (Heap.lt_size (I.pin p hp).1) (by rw [z];exact hb)) (Nat.lt_irrefl _)
structure DH (P:Program) (w:World) (K:PySem.W.Frag) (tg:Expr) (J:It) (fp:List Addr) (it:Addr) (tn:Nat->Heap->Prop):Prop where
 mem:it∈fp
 obj:∀i h,tn i h->∀b∈fp,∃o,h.get? b=some o/\∀v,o.data≠ .cell v
 keep:∀i h h',tn i h->(∀b∈fp,∀o,h.get? b=some o->h'.get? b=some o)->tn i h'
 item:∀(X:Cx),X.prog=P->X.w=w->X.K=K->X.calm=true->∀(i:Nat) (pins:List (Addr×Obj)) (s:Shared) (σ:St) (H:Hp) (E:Value->Shared->Prop),Ae X pins σ H s->(∀b∈fp,Ci X pins H b)->tn i s.heap->J.go i H->
  wpAny (model P w) X.A (pyNext (.ref it)) (λr s1=>∃u,r=some u/\
   wpAny (model P w) X.A (letOwnedTupleGo tg (.ref it) u) (λ_ s2=>∃x H',Ae X pins σ H' s2/\AH x u/\J.yld i H x H'/\tn (i+1) s2.heap/\∀b∈fp,H' b=none) E s1) E s
 done:∀(X:Cx),X.prog=P->X.w=w->X.K=K->X.calm=true->∀(i:Nat) (pins:List (Addr×Obj)) (s:Shared) (σ:St) (H:Hp) (E:Value->Shared->Prop),Ae X pins σ H s->(∀b∈fp,Ci X pins H b)->tn i s.heap->J.stop i H->
  wpAny (model P w) X.A (pyNext (.ref it)) (λr s1=>r=none/\Ae X pins σ H s1) E s
 self:∀(A:Around) (i:Nat) (s:Shared) (Q:Value->Shared->Prop) (E:Value->Shared->Prop),tn i s.heap->Q (.ref it) s->wpAny (model P w) A (pyIter (.ref it)) Q E s
abbrev TI:=St->Hp->(It->Hp->Prop)->Prop
def JV (X:Cx) (pins:List (Addr×Obj)) (σ:St) (tg:Expr) (R:It->Hp->Prop) (itv:Value) (s2:Shared):Prop:=
 ∃(it:Addr) (fp:List Addr) (tn:Nat->Heap->Prop) (J:It) (H':Hp),itv= .ref it/\Ae X pins σ H' s2/\DH X.prog X.w X.K tg J fp it tn/\tn 0 s2.heap/\(∀b∈fp,Ci X pins H' b)/\R J H'
def PI (X:Cx) (tg iter:Expr) (wi:TI):Prop:=
 ∀(pins:List (Addr×Obj)) (s:Shared) (σ:St) (H:Hp) (R:It->Hp->Prop),Ae X pins σ H s->wi σ H R->
  wpAny (model X.prog X.w) X.A (eval iter X.env) (λv s1=>wpAny (model X.prog X.w) X.A (pyIter v) (JV X pins σ tg R) X.xe s1) X.xe s
theorem Ig {M:Model}{A:Around}{E:Value->Shared->Prop}{s:Shared}{tg:Expr}{it:Addr}{u:Value}{o:Obj}{n:String}{vs:Array Value}{Q:Unit->Shared->Prop} (ho:s.heap.get? it=some o) (hc:o.cls= .type n) (hd:o.data= .fields vs)
    (hn:["enumerate","zip","dict_itemiterator","dict_reverseitemiterator","odict_iterator","itertools.zip_longest","itertools.pairwise"].contains n=false) (hQ:Q () s):wpAny M A (letOwnedTupleGo tg (.ref it) u) Q E s:=by
  unfold letOwnedTupleGo
  cases tg<;>first
    | exact wpAny_pure hQ
    | (cases u<;>first
        | exact wpAny_pure hQ
        | (refine wpAny_bind (wpAny_load ho ?_)
           rw [hc,hd]
           show wpAny M A (if (["enumerate","zip","dict_itemiterator","dict_reverseitemiterator","odict_iterator","itertools.zip_longest","itertools.pairwise"].contains n && vs[0]? ==some (rawInt _))=true then _ else _) Q E s
           rw [if_neg (by intro h;rw [hn,Bool.false_and] at h;cases h)]
           exact wpAny_pure hQ))
def Ef (K:PySem.W.Frag) (a:Addr):It:=
 ⟨λi H=>∃xs x,Ai K H a xs/\xs[i]? =some x,λi H x H'=>H'=H/\∀xs,Ai K H a xs->xs[i]? =some x,λi H=>∃xs,Ai K H a xs/\xs.length<=i⟩
def EA (K:PySem.W.Frag) (a:Addr):It:=
 ⟨λi H=>∃xs x,Ac K H a xs/\xs[i]? =some x,λi H x H'=>H'=H/\∀xs,Ac K H a xs->xs[i]? =some x,λi H=>∃xs,Ac K H a xs/\xs.length<=i⟩
def Dn (lo:Int) (n:Nat):It:=⟨λi _=>i<n,λi H x H'=>H'=H/\x= .int (lo+i),λi _=>n<=i⟩
theorem Nl {w:World}{K:PySem.W.Frag} (a it:Addr):DH P w K tg (Ef K a) [it] it (λi h=>h.IsListIter it a i) where
 mem:=by simp
 obj:=λi h st b hb=>by
  have e:b=it:=by simpa using hb
  subst e
  obtain⟨o,e,c,d⟩:=st
  exact⟨o,e,λv z=>by rw [d] at z;cases z⟩
 keep:=λi h h' st k=>st.at λo e=>k it (by simp) o e
 item:=by
  intro X hP hw hK hc i pins s σ H E I hf st hg
  subst hP hw hK
  obtain⟨xs,x,hq,hx⟩:=hg
  obtain⟨its,rv,p,hz⟩:=I.list hq
  obtain⟨u,hu,ru⟩:=rv.get hx
  obtain⟨f0,f1,f2,f3,f4,f5⟩:=hf it (by simp)
  refine wpAny_pyNext_list_item st p.isList (x:=u) (by simpa using hu) λh' st' sb=>?_
  have I1:Ae X pins σ H { s with heap:=h'}:=I.turned (t':=s.toks) (λb o hb e=>(sb.2 b hb).trans e) f0 f1 f3 f4 f5
  obtain⟨o,e,c,d⟩:=id st'
  exact⟨u,rfl,Ig (s:= { s with heap:=h'}) e c d (by decide) ⟨x,H,I1,ru,⟨rfl,λys hy=>by rw [I.list_inj hy hq];exact hx⟩,st',λb hb=>(hf b hb).1⟩⟩
 done:=by
  intro X hP hw hK hc i pins s σ H E I hf st hg
  subst hP hw hK
  obtain⟨xs,hq,hx⟩:=hg
  obtain⟨its,rv,p,hz⟩:=I.list hq
  obtain⟨f0,f1,f2,f3,f4,f5⟩:=hf it (by simp)
  have hl:=rv.length
  exact wpAny_pyNext_list_end (I.ok.hd hc) st p.isList (by simp;omega) λh' eb=>⟨rfl,I.turned (t':=s.toks) (λb o hb e=>eb b o hb e) f0 f1 f3 f4 f5⟩
 self:=λ_ _ _ _ _ st h=>wpAny_pyIter_listiter st h
theorem Nm {w:World}{K:PySem.W.Frag} (a it:Addr):DH P w K tg (EA K a) [it] it (λi h=>h.IsTupleIter it a i) where
 mem:=by simp
 obj:=λi h st b hb=>by
  have e:b=it:=by simpa using hb
  subst e
  obtain⟨o,e,c,d⟩:=st
  exact⟨o,e,λv z=>by rw [d] at z;cases z⟩
 keep:=λi h h' st k=>st.at λo e=>k it (by simp) o e
 item:=by
  intro X hP hw hK hc i pins s σ H E I hf st hg
  subst hP hw hK
  obtain⟨xs,x,hq,hx⟩:=hg
  obtain⟨its,rv,p,hz⟩:=I.tuple hq
  obtain⟨u,hu,ru⟩:=rv.get hx
  obtain⟨f0,f1,f2,f3,f4,f5⟩:=hf it (by simp)
  refine wpAny_pyNext_tuple_item st (show s.heap.IsTuple a its.toArray from p) (x:=u) (by simpa using hu) λh' st' sb=>?_
  have I1:Ae X pins σ H { s with heap:=h'}:=I.turned (t':=s.toks) (λb o hb e=>(sb.2 b hb).trans e) f0 f1 f3 f4 f5
  obtain⟨o,e,c,d⟩:=id st'
  exact⟨u,rfl,Ig (s:= { s with heap:=h'}) e c d (by decide) ⟨x,H,I1,ru,⟨rfl,λys hy=>by rw [I.tuple_inj hy hq];exact hx⟩,st',λb hb=>(hf b hb).1⟩⟩
 done:=by
  intro X hP hw hK hc i pins s σ H E I hf st hg
  subst hP hw hK
  obtain⟨xs,hq,hx⟩:=hg
  obtain⟨its,rv,p,hz⟩:=I.tuple hq
  obtain⟨f0,f1,f2,f3,f4,f5⟩:=hf it (by simp)
  have hl:=rv.length
  exact wpAny_pyNext_tuple_end (I.ok.hd hc) st (show s.heap.IsTuple a its.toArray from p) (by simp;omega) λh' eb=>⟨rfl,I.turned (t':=s.toks) (λb o hb e=>eb b o hb e) f0 f1 f3 f4 f5⟩
 self:=λ_ _ _ _ _ st h=>wpAny_pyIter_tupleiter st h
theorem Nn {w:World}{K:PySem.W.Frag} (it:Addr) (lo:Int) (n:Nat):DH P w K tg (Dn lo n) [it] it (λi h=>IsRangeIter h it (lo+(i:Nat) * 1) ((n:Int)-(i:Nat)) 1) where
 mem:=by simp
 obj:=λi h st b hb=>by
  have e:b=it:=by simpa using hb
  subst e
  exact⟨_,st,λv z=>by
   have z':Data.fields _=Data.cell v:=z
   cases z'⟩
 keep:=λi h h' st k=>k it (by simp) _ st
 item:=by
  intro X hP hw hK hc i pins s σ H E I hf st hg
  subst hP hw hK
  obtain⟨f0,f1,f2,f3,f4,f5⟩:=hf it (by simp)
  have W:=Walks.range (prog:=X.prog) (w:=X.w) (I.ok.hd hc) it lo 1 n
  refine W.item i s _ _ hg st λv h' tk hv st' kk=>?_
  obtain⟨t,rfl⟩:=hv
  have I1:Ae X pins σ H { s with heap:=h',toks:=tk}:=I.turned (λb o hb e=>kk b o (by simpa using hb) e) f0 f1 f3 f4 f5
  refine⟨_,rfl,Ig (s:= { s with heap:=h',toks:=tk}) (n:="range_iterator") st' rfl rfl (by decide) ⟨.int (lo+i),H,I1,⟨t,?_⟩,⟨rfl,rfl⟩,st',λb hb=>(hf b hb).1⟩⟩
  rw [Int.mul_one]
 done:=by
  intro X hP hw hK hc i pins s σ H E I hf st hg
  subst hP hw hK
  obtain⟨f0,f1,f2,f3,f4,f5⟩:=hf it (by simp)
  exact wpAny_pyNext_range_end (I.ok.hd hc) st (by have:n<=i:=hg;omega) λh' eb=>⟨rfl,I.turned (t':=s.toks) (λb o hb e=>eb b o hb e) f0 f1 f3 f4 f5⟩
 self:=λ_ _ _ _ _ st h=>wpAny_pyIter_rangeiter st h
end L2
namespace L2
open PySem PySem.Spec PyProof.Rows
variable {tl : TE} {pins : List (Addr × Obj)} {σ : St} {H : Hp} {s : Shared} {a : Addr} {h : Heap} {xs : List V} {tb : TS} {D : DF}
section
variable {X : Cx} {tg : Expr}
def JW (K:PySem.W.Frag) (tl:TE):TI:=fun σ H R=>tl σ H λx H1=>∃a,x= .ref a/\(∃xs,Ai K H1 a xs)/\R (Ef K a) H1
def JX (K:PySem.W.Frag) (tl:TE):TI:=fun σ H R=>tl σ H λx H1=>∃a,x= .ref a/\(∃xs,Ac K H1 a xs)/\R (EA K a) H1
theorem No {l:Expr} (hl:PE X l tl):PI X tg l (JW X.K tl):=by
 intro pins s σ H R I h
 refine Av (hl pins s σ H _ I h) λv s1 ⟨x,H1,I1,r1,q1⟩=>?_
 obtain⟨a,e,⟨xs,hq⟩,q⟩:=q1
 subst e
 cases r1
 obtain⟨its,rv,p,hz⟩:=I1.list hq
 refine wpAny_pyIter_list p.isList ?_
 refine⟨s1.heap.objs.size,[s1.heap.objs.size],_,_,H1,rfl,I1.kept (t':=s1.toks) λb o e=>Heap.get?_push_of_some _ e,Nl a _,⟨_,Heap.get?_push_size _ rfl,rfl,rfl⟩,λb hb=>?_,q⟩
 have e:b=s1.heap.objs.size:=by simpa using hb
 subst e
 exact I1.fpOk (Nat.le_refl _) (I1.hok.fresh (Nat.le_refl _))
theorem Np {l:Expr} (hl:PE X l tl):PI X tg l (JX X.K tl):=by
 intro pins s σ H R I h
 refine Av (hl pins s σ H _ I h) λv s1 ⟨x,H1,I1,r1,q1⟩=>?_
 obtain⟨a,e,⟨xs,hq⟩,q⟩:=q1
 subst e
 cases r1
 obtain⟨its,rv,p,hz⟩:=I1.tuple hq
 refine wpAny_pyIter_tuple (show s1.heap.IsTuple a its.toArray from p) ?_
 refine⟨s1.heap.objs.size,[s1.heap.objs.size],_,_,H1,rfl,I1.kept (t':=s1.toks) λb o e=>Heap.get?_push_of_some _ e,Nm a _,⟨_,Heap.get?_push_size _ rfl,rfl,rfl⟩,λb hb=>?_,q⟩
 have e:b=s1.heap.objs.size:=by simpa using hb
 subst e
 exact I1.fpOk (Nat.le_refl _) (I1.hok.fresh (Nat.le_refl _))
theorem JY {R:It->Hp->Prop}{E:Value->Shared->Prop}{lo hi:Int}{t u v:Tok}{tk:Nat} (I:Ae X pins σ H s) (h1: -(2 ^ 62)<=lo) (h2:lo<2 ^ 62) (h3: -(2 ^ 62)<=hi) (h4:hi<2 ^ 62)
  (q:R (Dn lo (hi-lo).toNat) H):wpAny (model X.prog X.w) X.A (pyIter (.ref s.heap.objs.size)) (JV X pins σ tg R) E { s with heap:=s.heap.push { cls:= .type "range",data:= .fields #[.int lo t,.int hi u,.int 1 v]},toks:=tk}:=by
 refine wpAny_pyIter_range (IsRange.new ..) (small_one h1 h2 h3 h4) ?_
 have I1:Ae X pins σ H { s with heap:=s.heap.push { cls:= .type "range",data:= .fields #[.int lo t,.int hi u,.int 1 v]},toks:=tk}:=I.kept λb o e=>Heap.get?_push_of_some _ e
 refine⟨(s.heap.push { cls:= .type "range",data:= .fields #[.int lo t,.int hi u,.int 1 v]}).objs.size,[(s.heap.push { cls:= .type "range",data:= .fields #[.int lo t,.int hi u,.int 1 v]}).objs.size],_,_,H,rfl,
  I1.kept (t':=tk) λb o e=>Heap.get?_push_of_some _ e,Nn _ lo (hi-lo).toNat,?_,λb hb=>?_,q⟩
 ·have e1:lo+((0:Nat):Int) * 1=lo:=by simp
  have e2:(((hi-lo).toNat:Nat):Int)-((0:Nat):Int)=Builtin.Range.rangeSize lo hi 1:=by rw [rangeSize_one];split<;>omega
  show IsRangeIter _ _ (lo+((0:Nat):Int) * 1) ((((hi-lo).toNat:Nat):Int)-((0:Nat):Int)) 1
  rw [e1,e2]
  exact Heap.get?_push_size _ rfl
 ·have e:b=(s.heap.push { cls:= .type "range",data:= .fields #[.int lo t,.int hi u,.int 1 v]}).objs.size:=by simpa using hb
  subst e
  exact I1.fpOk (Nat.le_refl _) (I1.hok.fresh (Nat.le_refl _))
def Nq (ta:TA):TI:=fun σ H R=>ta σ H λvs H1=>∃j:Int,vs=[.int j]/\ -(2 ^ 62)<=j/\j<2 ^ 62/\R (Dn 0 j.toNat) H1
def JZ (ta:TA):TI:=fun σ H R=>ta σ H λvs H1=>∃i j:Int,vs=[.int i,.int j]/\(-(2 ^ 62)<=i/\i<2 ^ 62/\ -(2 ^ 62)<=j/\j<2 ^ 62)/\R (Dn i (j-i).toNat) H1
theorem CT {a:Expr}{ta:TA}{p pos:Pos} (hg:Gl X "range") (hm:X.mg "range"=none) (ha:PA X [a] ta) (hs:starEach [a] X.env=[(false,eval a X.env)]:=by rfl):PI X tg (.Call (.Name "range" p) [a] [] pos) (Nq ta):=by
 intro pins s σ H R I h
 refine Call_ (CO I hg hm boot_range (PyProof.Rows.callWith_type1 (Av (ha pos pins s σ H _ I h) λus s1 ⟨vs,H1,I1,r1,q1⟩=>?_) hs rfl))
 obtain⟨j,e,q1,q2,q⟩:=q1
 subst e
 cases r1 with
 | cons r rr=>
  cases rr
  obtain⟨t,rfl⟩:=r
  exact call_range_1 (JY I1 (by omega) (by omega) q1 q2 (by simpa using q))
theorem Ih {a b:Expr}{ta:TA}{p pos:Pos} (hg:Gl X "range") (hm:X.mg "range"=none) (ha:PA X [a,b] ta) (hs:starEach [a,b] X.env=[(false,eval a X.env),(false,eval b X.env)]:=by rfl) (hs2:starEach [b] X.env=[(false,eval b X.env)]:=by rfl):
  PI X tg (.Call (.Name "range" p) [a,b] [] pos) (JZ ta):=by
 intro pins s σ H R I h
 refine Call_ (CO I hg hm boot_range (PyProof.Rows.callWith_type1 (Av (ha pos pins s σ H _ I h) λus s1 ⟨vs,H1,I1,r1,q1⟩=>?_) (by rw [hs,hs2]) (by rw [hs2];rfl)))
 obtain⟨i,j,e,⟨q1,q2,q3,q4⟩,q⟩:=q1
 subst e
 cases r1 with
 | cons r rr=>
  cases rr with
  | cons r' rr=>
   cases rr
   obtain⟨t,rfl⟩:=r
   obtain⟨t',rfl⟩:=r'
   exact call_range_2 (JY I1 q1 q2 q3 q4 q)
def J0 (wi:TI) (g:TG) (tb:TS):TS:=λD σ H=>wi σ H λJ H1=>∃W:Nat->Nat->St->Hp->Prop,(∃m,W 0 m σ H1)/\∀i m σ H,W i m σ H->
 (J.stop i H/\D.nx σ H)\/(J.go i H/\∃N:St->Hp->Prop,(∀σ' H',N σ' H'->∃m',m'<m/\W (i+1) m' σ' H')/\∀x H',J.yld i H x H'->g x σ H' fun σ2 H2=>tb { D with nx:=N,ct:=N,bk:=D.nx} σ2 H2)
def Eg (fp:List Addr) (h:Heap):List (Addr×Obj):=fp.filterMap λb=>(h.get? b).map λo=>(b,o)
theorem FZ {fp:List Addr}{b:Addr}{o:Obj} (hb:b∈fp) (e:h.get? b=some o):(b,o)∈Eg fp h:=List.mem_filterMap.mpr ⟨b,hb,by rw [e];rfl⟩
theorem J1 {fp:List Addr}{p:Addr×Obj} (hp:p∈Eg fp h):p.1∈fp/\h.get? p.1=some p.2:=by
 obtain⟨b,hb,e⟩:=List.mem_filterMap.mp hp
 cases q:h.get? b with
 | none=>rw [q] at e;cases e
 | some o=>
  rw [q] at e
  have e':(b,o)=p:=Option.some.inj e
  subst e'
  exact⟨hb,q⟩
theorem Ae.pinned {fp:List Addr} (I:Ae X pins σ H s) (hf:∀b∈fp,Ci X pins H b) (ho:∀b∈fp,∃o,s.heap.get? b=some o/\∀v,o.data≠ .cell v):Ae X (pins++Eg fp s.heap) σ H s:=
 I.pins_of λp hp=>(List.mem_append.mp hp).elim (λz=>I.pin p (List.mem_append_right _ z)) λz=>by
  obtain⟨hb,e⟩:=J1 z
  obtain⟨f0,f1,f2,_⟩:=hf p.1 hb
  obtain⟨o,e',d⟩:=ho p.1 hb
  rw [e] at e';cases e'
  exact⟨e,f0,f1,f2,d⟩
theorem Ae.unpinned {pl:List (Addr×Obj)} (I:Ae X (pins++pl) σ H s):Ae X pins σ H s:=I.pins_of λp hp=>I.pin p (List.mem_append_right _ (List.mem_append_left _ hp))
theorem Bw {iter:Expr}{body:List Stmt}{wi:TI}{g:TG}{tb:TS}{pos:Pos} (hp:PassesOwn (model X.prog X.w) X.A X.env X.xe) (hc:X.calm=true) (hi:PI X tg iter wi) (hg:PG X tg g) (hb:PSs X body tb)
  (hs:∀x,foldedSetIterable iter X.env x=pure x:=by intro _;rfl):PS X (.For tg iter body [] pos) (J0 wi g tb):=by
 intro pins s σ H D I h
 refine wpAny_For (Av (hi pins s σ H _ I h) λv s1 h1=>Av h1 λitv s2 h2=>?_) hs
 obtain⟨it,fp,tn,J,H2,e,I2,T,st2,f2,W,⟨m0,w0⟩,turn⟩:=h2
 subst e
 --what stays true of the iterator's objects through the loop
 have stat:∀ {H':Hp},(∀b∈fp,H' b=none)->∀b∈fp,Ci X pins H' b:=λhn b hb=>⟨hn b hb,(f2 b hb).2⟩
 refine codeAny_forLoop_any (λn s'=>∃i σ' H',Ae X pins σ' H' s'/\tn i s'.heap/\(∀b∈fp,H' b=none)/\W i n σ' H') ?_ m0 ⟨0,σ,H2,I2,st2,λb hb=>(f2 b hb).1,w0⟩
 rintro n s3 ⟨i,σ3,H3,I3,st3,fr3,w3⟩
 rcases turn i n σ3 H3 w3 with⟨stop,qn⟩ | ⟨go,N,hN,step⟩
 ·refine wpAny_passesOwn hp (Av (T.done X rfl rfl rfl hc i pins s3 σ3 H3 X.xe I3 (stat fr3) st3 stop) λr s4 ⟨hr,I4⟩=>?_)
  subst hr
  exact wpAny_execs_nil ⟨σ3,H3,I4,qn⟩
 ·refine wpAny_passesOwn hp (Av (T.item X rfl rfl rfl hc i pins s3 σ3 H3 X.xe I3 (stat fr3) st3 go) λr s4 ⟨u,hr,h4⟩=>?_)
  subst hr
  refine wpAny_passesOwn hp (Av h4 λ_ s5 ⟨x,H5,I5,r5,y5,st5,fr5⟩=>?_)
  have I5':=I5.pinned (stat fr5) (T.obj _ _ st5)
  refine wpAny_passesOwn hp (Av (hg _ s5 σ3 H5 x u _ I5' r5 (step x H5 y5)) λ_ s6 ⟨σ6,H6,I6,q6⟩=>?_)
  refine wpAny_passesOwn hp (Av (hb _ s6 σ6 H6 _ I6 q6) λf s7 q7=>?_)
  have again:∀ {σ7:St}{H7:Hp},Ae X (pins++Eg fp s5.heap) σ7 H7 s7->N σ7 H7->∃m,m<n/\∃i σ' H',Ae X pins σ' H' s7/\tn i s7.heap/\(∀b∈fp,H' b=none)/\W i m σ' H':=λ{σ7 H7} I7 n7=>by
   obtain⟨m',hm,w7⟩:=hN σ7 H7 n7
   refine⟨m',hm,i+1,σ7,H7,I7.unpinned,T.keep _ _ _ st5 λb hb o e=>(I7.pin (b,o) (List.mem_append_right _ (List.mem_append_right _ (FZ hb e)))).1,λb hb=>?_,w7⟩
   obtain⟨o,e,d⟩:=T.obj _ _ st5 b hb
   exact(I7.pin (b,o) (List.mem_append_right _ (List.mem_append_right _ (FZ hb e)))).2.1
  cases f with
  | next=>obtain⟨σ7,H7,I7,n7⟩:=q7;exact again I7 n7
  | cont=>obtain⟨σ7,H7,I7,n7⟩:=q7;exact again I7 n7
  | brk=>obtain⟨σ7,H7,I7,q7⟩:=q7;exact⟨σ7,H7,I7.unpinned,q7⟩
  | ret v=>obtain⟨x7,σ7,H7,I7,r7,q7⟩:=q7;exact⟨x7,σ7,H7,I7.unpinned,r7,q7⟩
end
theorem Fa {K:PySem.W.Frag}{g:TG} (Pv:Nat->St->Hp->Prop) (h0:Pv 0 σ H) (hl:∀i σ H,i<=xs.length->Pv i σ H->Ai K H a xs)
  (hs:∀i x σ H,xs[i]? =some x->Pv i σ H->g x σ H fun σ2 H2=>tb { D with nx:=Pv (i+1),ct:=Pv (i+1),bk:=D.nx} σ2 H2) (hd:∀σ H,Pv xs.length σ H->D.nx σ H):
  ∃W:Nat->Nat->St->Hp->Prop,(∃m,W 0 m σ H)/\∀i m σ H,W i m σ H->
   ((Ef K a).stop i H/\D.nx σ H)\/((Ef K a).go i H/\∃N:St->Hp->Prop,(∀σ' H',N σ' H'->∃m',m'<m/\W (i+1) m' σ' H')/\∀x H',(Ef K a).yld i H x H'->g x σ H' fun σ2 H2=>tb { D with nx:=N,ct:=N,bk:=D.nx} σ2 H2):=by
 refine⟨λi m σ H=>m=xs.length-i/\i<=xs.length/\Pv i σ H,⟨xs.length,by simp,Nat.zero_le _,h0⟩,?_⟩
 rintro i m σ H ⟨rfl,hi,p⟩
 have q:=hl i σ H hi p
 by_cases hlt:i<xs.length
 ·refine .inr ⟨⟨xs,xs[i],q,by simp [hlt]⟩,Pv (i+1),fun σ' H' p'=>⟨xs.length-(i+1),by omega,rfl,hlt,p'⟩,λx H' y=>?_⟩
  obtain⟨e,y⟩:=y
  subst e
  exact hs i x σ _ (y xs q) p
 ·have e:i=xs.length:=by omega
  subst e
  exact .inl ⟨⟨xs,q,Nat.le_refl _⟩,hd σ H p⟩
theorem J2 {K:PySem.W.Frag}{g:TG} (Pv:Nat->St->Hp->Prop) (h0:Pv 0 σ H) (hl:∀i σ H,i<=xs.length->Pv i σ H->Ac K H a xs)
  (hs:∀i x σ H,xs[i]? =some x->Pv i σ H->g x σ H fun σ2 H2=>tb { D with nx:=Pv (i+1),ct:=Pv (i+1),bk:=D.nx} σ2 H2) (hd:∀σ H,Pv xs.length σ H->D.nx σ H):
  ∃W:Nat->Nat->St->Hp->Prop,(∃m,W 0 m σ H)/\∀i m σ H,W i m σ H->
   ((EA K a).stop i H/\D.nx σ H)\/((EA K a).go i H/\∃N:St->Hp->Prop,(∀σ' H',N σ' H'->∃m',m'<m/\W (i+1) m' σ' H')/\∀x H',(EA K a).yld i H x H'->g x σ H' fun σ2 H2=>tb { D with nx:=N,ct:=N,bk:=D.nx} σ2 H2):=by
 refine⟨λi m σ H=>m=xs.length-i/\i<=xs.length/\Pv i σ H,⟨xs.length,by simp,Nat.zero_le _,h0⟩,?_⟩
 rintro i m σ H ⟨rfl,hi,p⟩
 have q:=hl i σ H hi p
 by_cases hlt:i<xs.length
 ·refine .inr ⟨⟨xs,xs[i],q,by simp [hlt]⟩,Pv (i+1),fun σ' H' p'=>⟨xs.length-(i+1),by omega,rfl,hlt,p'⟩,λx H' y=>?_⟩
  obtain⟨e,y⟩:=y
  subst e
  exact hs i x σ _ (y xs q) p
 ·have e:i=xs.length:=by omega
  subst e
  exact .inl ⟨⟨xs,q,Nat.le_refl _⟩,hd σ H p⟩
theorem C7 {lo:Int}{n:Nat}{g:TG} (Pv:Nat->St->Hp->Prop) (h0:Pv 0 σ H)
  (hs:∀i σ H,i<n->Pv i σ H->g (.int (lo+i)) σ H fun σ2 H2=>tb { D with nx:=Pv (i+1),ct:=Pv (i+1),bk:=D.nx} σ2 H2) (hd:∀σ H,Pv n σ H->D.nx σ H):
  ∃W:Nat->Nat->St->Hp->Prop,(∃m,W 0 m σ H)/\∀i m σ H,W i m σ H->
   ((Dn lo n).stop i H/\D.nx σ H)\/((Dn lo n).go i H/\∃N:St->Hp->Prop,(∀σ' H',N σ' H'->∃m',m'<m/\W (i+1) m' σ' H')/\∀x H',(Dn lo n).yld i H x H'->g x σ H' fun σ2 H2=>tb { D with nx:=N,ct:=N,bk:=D.nx} σ2 H2):=by
 refine⟨λi m σ H=>m=n-i/\i<=n/\Pv i σ H,⟨n,by simp,Nat.zero_le _,h0⟩,?_⟩
 rintro i m σ H ⟨rfl,hi,p⟩
 by_cases hlt:i<n
 ·refine .inr ⟨hlt,Pv (i+1),fun σ' H' p'=>⟨n-(i+1),by omega,rfl,hlt,p'⟩,λx H' y=>?_⟩
  obtain⟨e,y⟩:=y
  subst e y
  exact hs i σ _ hlt p
 ·have e:i=n:=by omega
  subst e
  exact .inl ⟨Nat.le_refl _,hd σ H p⟩
end L2
namespace L2
open PySem PySem.Spec PyProof.Rows
variable {i j : Int} {us : List Value}
abbrev R2:=V->V->Hp->VK->Prop
def OpR (X:Cx) (f:Value->Value->Sem Value) (r:R2):Prop:=
 ∀(pins:List (Addr×Obj)) (s:Shared) (σ:St) (H:Hp) (x y:V) (v u:Value) (Q:VK),Ae X pins σ H s->AH x v->AH y u->r x y H Q->
  wpAny (model X.prog X.w) X.A (f v u) (EP X pins σ Q) X.xe s
def Ii (X:Cx) (f:Value->Sem Value) (r:V->Hp->VK->Prop):Prop:=
 ∀(pins:List (Addr×Obj)) (s:Shared) (σ:St) (H:Hp) (x:V) (v:Value) (Q:VK),Ae X pins σ H s->AH x v->r x H Q->
  wpAny (model X.prog X.w) X.A (f v) (EP X pins σ Q) X.xe s
def BH (X:Cx) (f:Value) (r:List V->Hp->VK->Prop):Prop:=
 ∀(pins:List (Addr×Obj)) (s:Shared) (σ:St) (H:Hp) (xs:List V) (us:List Value) (Q:VK),Ae X pins σ H s->Ar xs us->r xs H Q->
  wpAny (model X.prog X.w) X.A (call f us) (EP X pins σ Q) X.xe s
def CF (r:R2) (ta tb:TE):TE:=fun σ H Q=>ta σ H λx H1=>tb σ H1 λy H2=>r x y H2 Q
def Nr (r:V->Hp->VK->Prop) (ta:TE):TE:=fun σ H Q=>ta σ H λx H1=>r x H1 Q
def rI (C:Int->Int->Prop) (g:Int->Int->V):R2:=λx y H Q=>∃i j,x= .int i/\y= .int j/\C i j/\Q (g i j) H
def C8 (g:Int->Int->V):R2:=λx y H Q=>∃i j,x= .int i/\y= .int j/\Q (g i j) H
def rU (g:Int->V):V->Hp->VK->Prop:=λx H Q=>∃i,x= .int i/\Q (g i) H
section
variable {X : Cx} {a b c : Expr} {ta tb tc : TE} {pos : Pos}
theorem Ij (ha:PE X a ta) (hb:PE X b tb) {pins:List (Addr×Obj)}{s:Shared}{σ:St}{H:Hp}{R:V->V->Hp->Prop} (I:Ae X pins σ H s)
  (h:ta σ H λx H1=>tb σ H1 λy H2=>R x y H2) {Q:Value->Shared->Prop}{f:Value->Value->Sem Value}
  (hf:∀v u s2 x y H2,Ae X pins σ H2 s2->AH x v->AH y u->R x y H2->wpAny (model X.prog X.w) X.A (f v u) Q X.xe s2):
  wpAny (model X.prog X.w) X.A (eval a X.env) (λv s₁=>wpAny (model X.prog X.w) X.A (eval b X.env) (λu s₂=>wpAny (model X.prog X.w) X.A (f v u) Q X.xe s₂) X.xe s₁) X.xe s:=by
 refine Av (ha pins s σ H _ I h) λv s1 ⟨x,H1,I1,r1,q1⟩=>?_
 refine Av (hb pins s1 σ H1 _ I1 q1) λu s2 ⟨y,H2,I2,r2,q2⟩=>?_
 exact hf v u s2 x y H2 I2 r1 r2 q2
theorem Au {op:Operator}{r:R2} (ho:OpR X (binaryOp op) r) (ha:PE X a ta) (hb:PE X b tb):PE X (.BinOp a op b pos) (CF r ta tb):=by
 intro pins s σ H Q I h
 exact wpAny_BinOp (Ij ha hb I h λv u s2 x y H2 I2 rx ry q=>ho pins s2 σ H2 x y v u Q I2 rx ry q)
theorem Ik {op:UnaryOp}{r:V->Hp->VK->Prop} (ho:Ii X (unaryOp op) r) (ha:PE X a ta):PE X (.UnaryOp op a pos) (Nr r ta):=by
 intro pins s σ H Q I h
 exact UnaryOp_ (Av (ha pins s σ H _ I h) λv s1 ⟨x,H1,I1,r1,q1⟩=>ho pins s1 σ H1 x v Q I1 r1 q1)
theorem F3 {f:Value->Value->Sem Value}{C:Int->Int->Prop}{g:Int->Int->Int}
  (rule:∀(i j:Int) (t u:Tok) (s:Shared) (Q:Value->Shared->Prop) (E:Value->Shared->Prop),C i j->Q (.int (g i j) s.toks) { s with toks:=s.toks+1}->wpAny (model X.prog X.w) X.A (f (.int i t) (.int j u)) Q E s):
  OpR X f (rI C λi j=> .int (g i j)):=by
 intro pins s σ H x y v u Q I rx ry h
 obtain⟨i,j,rfl,rfl,hc,q⟩:=h
 obtain⟨t,rfl⟩:=rx
 obtain⟨t',rfl⟩:=ry
 exact rule i j t t' s _ _ hc ⟨.int (g i j),H,I.tok _,⟨_,rfl⟩,q⟩
theorem J3 {f:Value->Value->Sem Value}{g:Int->Int->Int}
  (rule:∀(i j:Int) (t u:Tok) (s:Shared) (Q:Value->Shared->Prop) (E:Value->Shared->Prop),Q (.int (g i j) s.toks) { s with toks:=s.toks+1}->wpAny (model X.prog X.w) X.A (f (.int i t) (.int j u)) Q E s):
  OpR X f (C8 λi j=> .int (g i j)):=by
 intro pins s σ H x y v u Q I rx ry h
 obtain⟨i,j,rfl,rfl,q⟩:=h
 obtain⟨t,rfl⟩:=rx
 obtain⟨t',rfl⟩:=ry
 exact rule i j t t' s _ _ ⟨.int (g i j),H,I.tok _,⟨_,rfl⟩,q⟩
theorem F4 {f:Value->Value->Sem Value}{g:Int->Int->Bool}
  (rule:∀(i j:Int) (t u:Tok) (s:Shared) (Q:Value->Shared->Prop) (E:Value->Shared->Prop),Q (.bool (g i j)) s->wpAny (model X.prog X.w) X.A (f (.int i t) (.int j u)) Q E s):
  OpR X f (C8 λi j=> .bl (g i j)):=by
 intro pins s σ H x y v u Q I rx ry h
 obtain⟨i,j,rfl,rfl,q⟩:=h
 obtain⟨t,rfl⟩:=rx
 obtain⟨t',rfl⟩:=ry
 exact rule i j t t' s _ _ ⟨.bl (g i j),H,I,rfl,q⟩
def Il (i j:Int):Prop:=0<j/\j<1073741824
def J4 (i j:Int):Prop:=0<=j/\j<=1000000/\i.natAbs<2 ^ 64
def CMul (i j:Int):Prop:=(-(2 ^ 64)<i/\i<2 ^ 64)\/(-(2 ^ 64)<j/\j<2 ^ 64)
theorem CMul.ok (h:CMul i j):IntMulOk i j:=by
 rcases h with⟨h1,h2⟩ | ⟨h1,h2⟩
 ·exact .of_left (intBits_le_64 h1 h2)
 ·exact .of_right (intBits_le_64 h1 h2)
theorem op_add:OpR X (binaryOp .Add) (C8 λi j=> .int (i+j)):=J3 λ_ _ _ _ _ _ _ q=>add_int q
theorem op_sub:OpR X (binaryOp .Sub) (C8 λi j=> .int (i-j)):=J3 λ_ _ _ _ _ _ _ q=>sub_int q
theorem op_mul:OpR X (binaryOp .Mult) (rI CMul λi j=> .int (i * j)):=F3 λ_ _ _ _ _ _ _ hc q=>mul_int q hc.ok
theorem op_fdiv:OpR X (binaryOp .FloorDiv) (rI Il λi j=> .int (i / j)):=F3 λi j _ _ _ _ _ hc q=>by
 have h1:(0:Int)<j:=hc.1
 have h2:j<1073741824:=hc.2
 exact floordiv_int (by omega) (by rw [Int.fdiv_eq_ediv_of_nonneg i (by omega)];exact q) (.inl (PyProof.noPylong_small (by omega)))
theorem op_mod:OpR X (binaryOp .Mod) (rI (λ_ j=>0<j) λi j=> .int (i % j)):=F3 λi j _ _ _ _ _ hc q=>by
 have h1:(0:Int)<j:=hc
 exact mod_int' (by omega) (by rw [Int.fmod_eq_emod_of_nonneg i (by omega)];exact q)
theorem op_pow:OpR X (binaryOp .Pow) (rI J4 λi j=> .int (i ^ j.toNat)):=F3 λ_ _ _ _ _ _ _ hc q=>pow_int_small hc.1 hc.2.1 hc.2.2 q
theorem Nt {f:Value->Sem Value}{g:Int->Int}
  (rule:∀(i:Int) (t:Tok) (s:Shared) (Q:Value->Shared->Prop) (E:Value->Shared->Prop),Q (.int (g i) s.toks) { s with toks:=s.toks+1}->wpAny (model X.prog X.w) X.A (f (.int i t)) Q E s):
  Ii X f (rU λi=> .int (g i)):=by
 intro pins s σ H x v Q I rx h
 obtain⟨i,rfl,q⟩:=h
 obtain⟨t,rfl⟩:=rx
 exact rule i t s _ _ ⟨.int (g i),H,I.tok _,⟨_,rfl⟩,q⟩
theorem Im:Ii X (unaryOp .USub) (rU λi=> .int (-i)):=Nt λ_ _ _ _ _ q=>neg_int q
end
def J5:V->V->Bool
 | .non,.non=>true | .non,.int _=>true | .int _,.non=>true | .non,.bl _=>true | .bl _,.non=>true | .non,.str _=>true | .str _,.non=>true
 | .int _,.int _=>true | .bl _,.bl _=>true | .str _,.str _=>true | .byt _,.byt _=>true
 | .int _,.str _=>true | .str _,.int _=>true | .bl _,.str _=>true | .str _,.bl _=>true
 | _,_=>false
def Nu:R2:=λx y H Q=>J5 x y=true/\Q (.bl (decide (x=y))) H
def Nv:R2:=λx y H Q=>J5 x y=true/\Q (.bl (!decide (x=y))) H
theorem DI:decide (V.int i=V.int j)=(i==j):=by
 rw [Bool.eq_iff_iff]
 simp
theorem J6 {i j:Bool}:decide (V.bl i=V.bl j)=(i==j):=by
 rw [Bool.eq_iff_iff]
 simp
theorem J7 {i j:Str}:decide (V.str i=V.str j)=(i==j):=by
 rw [Bool.eq_iff_iff]
 simp
theorem J8 {i j:Array UInt8}:decide (V.byt i=V.byt j)=(i.toList==j.toList):=by
 rw [Bool.eq_iff_iff]
 cases i
 cases j
 simp
section
variable {X : Cx} {a b c : Expr} {ta tb tc : TE} {pos : Pos}
theorem AW {pins:List (Addr×Obj)}{σ:St}{H:Hp}{s:Shared}{Q:VK}{k k':Bool} (I:Ae X pins σ H s) (q:Q (.bl k) H) (e:k=k'):EP X pins σ Q (.bool k') s:=by
 subst e
 exact⟨.bl k,H,I,rfl,q⟩
theorem Do:OpR X (compareOp .Eq) Nu:=by
 intro pins s σ H x y v u Q I rx ry h
 obtain⟨hs,q⟩:=h
 cases x with
 | non=>
  cases rx
  cases y with
  | non=>cases ry;exact PySem.EqNone.eq_none_none (AW I q (by simp))
  | bl j=>cases ry;exact PySem.EqNone.eq_none_bool (AW I q (by simp))
  | int j=>obtain⟨t',rfl⟩:=ry;exact PySem.EqNone.eq_none_int (AW I q (by simp))
  | str j=>obtain⟨t',rfl⟩:=ry;exact PySem.EqNone.eq_none_str (AW I q (by simp))
  | _=>exact absurd (show false=true from hs) Bool.false_ne_true
 | bl i=>
  cases rx
  cases y with
  | non=>cases ry;exact PySem.EqNone.eq_bool_none (AW I q (by simp))
  | bl j=>cases ry;exact eq_bool (AW I q J6)
  | str j=>obtain⟨t',rfl⟩:=ry;exact PySem.EqMixed.eq_bool_str (AW I q (by simp))
  | _=>exact absurd (show false=true from hs) Bool.false_ne_true
 | int i=>
  obtain⟨t,rfl⟩:=rx
  cases y with
  | non=>cases ry;exact PySem.EqNone.eq_int_none (AW I q (by simp))
  | int j=>obtain⟨t',rfl⟩:=ry;exact eq_int (AW I q DI)
  | str j=>obtain⟨t',rfl⟩:=ry;exact PySem.EqMixed.eq_int_str (AW I q (by simp))
  | _=>exact absurd (show false=true from hs) Bool.false_ne_true
 | str i=>
  obtain⟨t,rfl⟩:=rx
  cases y with
  | non=>cases ry;exact PySem.EqNone.eq_str_none (AW I q (by simp))
  | bl j=>cases ry;exact PySem.EqMixed.eq_str_bool (AW I q (by simp))
  | int j=>obtain⟨t',rfl⟩:=ry;exact PySem.EqMixed.eq_str_int (AW I q (by simp))
  | str j=>obtain⟨t',rfl⟩:=ry;exact eq_str (AW I q J7)
  | _=>exact absurd (show false=true from hs) Bool.false_ne_true
 | byt i=>
  obtain⟨t,rfl⟩:=rx
  cases y with
  | byt j=>obtain⟨t',rfl⟩:=ry;exact PySem.W.eq_bytes (AW I q J8)
  | _=>exact absurd (show false=true from hs) Bool.false_ne_true
 | _=>cases y<;>exact absurd (show false=true from hs) Bool.false_ne_true
theorem DJ:OpR X (compareOp .NotEq) Nv:=by
 intro pins s σ H x y v u Q I rx ry h
 obtain⟨hs,q⟩:=h
 cases x with
 | non=>
  cases rx
  cases y with
  | non=>cases ry;exact PySem.EqNone.ne_none_none (AW I q (by simp))
  | bl j=>cases ry;exact PySem.EqNone.ne_none_bool (AW I q (by simp))
  | int j=>obtain⟨t',rfl⟩:=ry;exact PySem.EqNone.ne_none_int (AW I q (by simp))
  | str j=>obtain⟨t',rfl⟩:=ry;exact PySem.EqNone.ne_none_str (AW I q (by simp))
  | _=>exact absurd (show false=true from hs) Bool.false_ne_true
 | bl i=>
  cases rx
  cases y with
  | non=>cases ry;exact PySem.EqNone.ne_bool_none (AW I q (by simp))
  | bl j=>cases ry;exact ne_bool (AW I q (congrArg not J6))
  | str j=>obtain⟨t',rfl⟩:=ry;exact PySem.EqMixed.ne_bool_str (AW I q (by simp))
  | _=>exact absurd (show false=true from hs) Bool.false_ne_true
 | int i=>
  obtain⟨t,rfl⟩:=rx
  cases y with
  | non=>cases ry;exact PySem.EqNone.ne_int_none (AW I q (by simp))
  | int j=>obtain⟨t',rfl⟩:=ry;exact ne_int (AW I q (congrArg not DI))
  | str j=>obtain⟨t',rfl⟩:=ry;exact PySem.EqMixed.ne_int_str (AW I q (by simp))
  | _=>exact absurd (show false=true from hs) Bool.false_ne_true
 | str i=>
  obtain⟨t,rfl⟩:=rx
  cases y with
  | non=>cases ry;exact PySem.EqNone.ne_str_none (AW I q (by simp))
  | bl j=>cases ry;exact PySem.EqMixed.ne_str_bool (AW I q (by simp))
  | int j=>obtain⟨t',rfl⟩:=ry;exact PySem.EqMixed.ne_str_int (AW I q (by simp))
  | str j=>obtain⟨t',rfl⟩:=ry;exact ne_str (AW I q (congrArg not J7))
  | _=>exact absurd (show false=true from hs) Bool.false_ne_true
 | byt i=>
  obtain⟨t,rfl⟩:=rx
  cases y with
  | byt j=>obtain⟨t',rfl⟩:=ry;exact PySem.W.ne_bytes (AW I q (congrArg not J8))
  | _=>exact absurd (show false=true from hs) Bool.false_ne_true
 | _=>cases y<;>exact absurd (show false=true from hs) Bool.false_ne_true
theorem op_lt:OpR X (compareOp .Lt) (C8 λi j=> .bl (decide (i<j))):=F4 λ_ _ _ _ _ _ _ q=>lt_int q
theorem op_le:OpR X (compareOp .LtE) (C8 λi j=> .bl (decide (i<=j))):=F4 λ_ _ _ _ _ _ _ q=>le_int q
theorem op_gt:OpR X (compareOp .Gt) (C8 λi j=> .bl (decide (j<i))):=F4 λ_ _ _ _ _ _ _ q=>gt_int q
theorem op_ge:OpR X (compareOp .GtE) (C8 λi j=> .bl (decide (j<=i))):=F4 λ_ _ _ _ _ _ _ q=>ge_int q
theorem Nw:OpR X (compareOp .Is) (λx y H Q=>y= .non/\Q (.bl (decide (x= .non))) H):=by
  intro pins s σ H x y v u Q I rx ry h
  obtain⟨rfl,q⟩:=h
  cases ry
  refine is_none_gen (AW I q ?_)
  cases x<;>first
    | (cases rx;rfl)
    | (obtain⟨t,rfl⟩:=rx;rfl)
theorem AX (b:Expr) {op:CmpOp} (h:op≠ .In:=by decide) (h2:op≠ .NotIn:=by decide):behindInMarks op b=false:=by
 have e1:(op==CmpOp.In)=false:=by cases op<;>first | rfl | exact absurd rfl h
 have e2:(op==CmpOp.NotIn)=false:=by cases op<;>first | rfl | exact absurd rfl h2
 cases b<;>simp [behindInMarks,e1,e2]
theorem CG {op:CmpOp}{r:R2} (ho:OpR X (compareOp op) r) (ha:PE X a ta) (hb:PE X b tb) (hm:behindInMarks op b=false):PE X (.Compare a [op] [b] pos) (CF r ta tb):=by
 intro pins s σ H Q I h
 exact wpAny_Compare1 (Ij ha hb I h λv u s2 x y H2 I2 rx ry q=>ho pins s2 σ H2 x y v u Q I2 rx ry q) hm
theorem J9 {xs:List V}{its:List Value} (r:Ar xs its):(!its.toArray.isEmpty)= !xs.isEmpty:=by
 cases r<;>simp
theorem F5:(sizeLine:Nat)<2 ^ 63:=by rw [sizeLine_eq];decide
theorem Fb {x:V} (r:Ar [x] us):∃u,us=[u]/\AH x u:=by
 cases r with
 | cons r1 r2=>cases r2;exact⟨_,rfl,r1⟩
theorem Io {x y:V} (r:Ar [x,y] us):∃u w',us=[u,w']/\AH x u/\AH y w':=by
 cases r with
 | cons r1 r2=>
  cases r2 with
  | cons r3 r4=>cases r4;exact⟨_,_,rfl,r1,r3⟩
theorem Ka (hc:X.calm=true):BH X (.builtin "max") (λxs H Q=>∃i j,xs=[.int i,.int j]/\Q (.int (if j>i then j else i)) H):=by
 intro pins s σ H xs us Q I r h
 obtain⟨i,j,rfl,q⟩:=h
 obtain⟨u,w',rfl,⟨t,rfl⟩,⟨t',rfl⟩⟩:=Io r
 refine max_two_ints (I.ok.hd hc) λh' tk k=>⟨_,H,I.kept k,?_,q⟩
 by_cases hj:j>i
 ·rw [if_pos hj,if_pos hj];exact⟨_,rfl⟩
 ·rw [if_neg hj,if_neg hj];exact⟨_,rfl⟩
theorem Ip (hc:X.calm=true):BH X (.builtin "min") (λxs H Q=>∃i j,xs=[.int i,.int j]/\Q (.int (if j<i then j else i)) H):=by
 intro pins s σ H xs us Q I r h
 obtain⟨i,j,rfl,q⟩:=h
 obtain⟨u,w',rfl,⟨t,rfl⟩,⟨t',rfl⟩⟩:=Io r
 refine min_two_ints (I.ok.hd hc) λh' tk k=>⟨_,H,I.kept k,?_,q⟩
 by_cases hj:j<i
 ·rw [if_pos hj,if_pos hj];exact⟨_,rfl⟩
 ·rw [if_neg hj,if_neg hj];exact⟨_,rfl⟩
theorem Iq:BH X (.type "int") (λxs H Q=>(∃i,xs=[.int i]/\Q (.int i) H)\/ ∃k,xs=[.bl k]/\Q (.int (if k then 1 else 0)) H):=by
 intro pins s σ H xs us Q I r h
 rcases h with⟨i,rfl,q⟩ | ⟨k,rfl,q⟩
 ·obtain⟨u,rfl,t,rfl⟩:=Fb r
  exact call_int_int ⟨.int i,H,I,⟨_,rfl⟩,q⟩
 ·obtain⟨u,rfl,r1⟩:=Fb r
  cases r1
  exact call_int_bool ⟨.int (if k then 1 else 0),H,I.tok _,⟨_,rfl⟩,q⟩
theorem Nx:BH X (.builtin "divmod") (λxs H Q=>∃i j,xs=[.int i,.int j]/\Il i j/\∀p,H p=none->Q (.ref p) (upd H p (.tup [.int (i / j),.int (i % j)]))):=by
 intro pins s σ H xs us Q I r h
 obtain⟨i,j,rfl,⟨h1,h2⟩,q⟩:=h
 obtain⟨u,w',rfl,⟨t,rfl⟩,⟨t',rfl⟩⟩:=Io r
 refine divmod_int (by omega) ?_ (.inl (PyProof.noPylong_small (by omega)))
 rw [Int.fdiv_eq_ediv_of_nonneg i (by omega),Int.fmod_eq_emod_of_nonneg i (by omega)]
 have hn:H s.heap.objs.size=none:=I.hok.fresh (Nat.le_refl _)
 refine⟨.ref s.heap.objs.size,_,?_,rfl,q _ hn⟩
 refine I.laid (λb o e=>Heap.get?_push_of_some _ e) (Nat.le_refl _) ⟨by simp only [List.length_cons,List.length_nil];rw [sizeLine_eq];decide,[.int (i / j) s.toks,.int (i % j) (s.toks+1)],.cons ⟨_,rfl⟩ (.cons ⟨_,rfl⟩ .nil),?_⟩
 exact⟨_,Heap.get?_push_size s.heap rfl,rfl,0,rfl⟩
end
end L2
namespace L2
open PySem PySem.Spec PyProof.Rows
structure ObjM (h:Heap) (x dx C:Addr) (mA:Str->Option Value):Prop where
 obj:h.get? x=some (PySem.W.instObj C dx)
 ns:h.Ns1 dx mA
 ne:dx≠x
section
variable {prog : Program} {w : World} {A : Around} {E : Value -> Shared -> Prop} {s : Shared} {K : PySem.W.Frag} {x dx C f : Addr} {mA : Str -> Option Value} {name : Str} {v : Value}
end
section
variable {P : Program} {w : World} {H H' : Hp} {h h' : Heap} {a C dx : Addr} {fs fs' : List (Str × V)}
end
structure Ny (K:PySem.W.Frag) (C:Addr):Prop where
 pg:PySem.W.plainGet K C Str.empty=true
 hd:PySem.W.hasDictIn K C=true
 po:PySem.W.plainOver K C=true
 sa:PySem.W.findIn K (.ref C) "__setattr__"=some (some (.builtin "object.__setattr__"))
structure Con (K:PySem.W.Frag) (C:Addr) (f:Str) (v:V) (u:Value):Prop where
 at_:PySem.W.findIn K (.ref C) f=some (some u)
 rel:AH v u
 get:PySem.W.specialIn K u "__get__"=some none
 cp:PySem.W.copiedNames.contains f=false
structure Meth (K:PySem.W.Frag) (C:Addr) (m:Str) (f:Addr):Prop where
 at_:PySem.W.findIn K (.ref C) m=some (some (.ref f))
 fn:PySem.W.isFn K (.ref f)=true
 kp:PySem.W.keepIn K (.ref f)=true
section
variable {X : Cx} {pins : List (Addr × Obj)} {σ : St} {H : Hp} {s : Shared} {a C dx : Addr} {fs : List (Str × V)} {f : Str} {v : V} {A : Around} {E : Value -> Shared -> Prop}
end
section
variable {X : Cx} {o e value : Expr} {f : Str} {pos pos' tpos : Pos} {ta tv : TE}
end
section
variable {X : Cx} {pins : List (Addr × Obj)} {σ : St} {H : Hp} {s : Shared} {A : Around} {E : Value -> Shared -> Prop} {Q : Value -> Shared -> Prop} {c : Value} {b : Bool}
inductive CU (K:PySem.W.Frag) (H:Hp):V->Value->Prop where
 | non:CU K H .non (.type "NoneType")
 | bl (x:Bool):CU K H (.bl x) (.type "bool")
 | int (i:Int):CU K H (.int i) (.type "int")
 | str (x:Str):CU K H (.str x) (.type "str")
 | flt (x:UInt64):CU K H (.flt x) (.type "float")
 | lst {a:Addr}{xs:List V} (e:H a=some (.lst xs)):CU K H (.ref a) (.type "list")
 | frz {a:Addr}{o:Obj}{xs:List V} (e:H a=some (.frz o (.lst xs))):CU K H (.ref a) (.type "list")
 | tup {a:Addr}{xs:List V} (e:H a=some (.tup xs)):CU K H (.ref a) (.type "tuple")
 | dK {a:Addr}{kvs:List (Bx×V)} (e:H a=some (.dK kvs)):CU K H (.ref a) (.type "dict")
 | dT {a:Addr}{kvs:List (List Bx×V)} (e:H a=some (.dT kvs)):CU K H (.ref a) (.type "dict")
 | ins {a C dx : Addr} {fs : List (Str × V)} (e : H a = some (.ins C dx fs)) (cl : Ny K C) (ha : PySem.W.findIn K (.ref C) "__class__" = some (some (.builtin "object.__class__")))
   (hn:PySem.W.specialIn K (.builtin "object.__class__") "__get__"=some (some (.builtin "getset_descriptor.__get__"))) (htk:PySem.W.takesIn K (.builtin "object.__class__")=some true)
   (hm:PySem.W.mroIn K C (.type "object")=some true):CU K H (.ref a) (.ref C)
end
end L2
namespace L2
open PySem PySem.Spec PyProof.Rows
variable {Q : VK} {us : List Value} {vs : List V} {P : Program} {kindOf : Str -> Option NameKind} {qual : Str} {scope : Scope}
structure Bo (k:Nat) (A:Around):Prop where
 hd:A.handled=none
 dp:A.depth+3 * k+5<recursionLimit
 un:A.units+16 * k+200<cLine
 gd:A.guards=some []
theorem Bo.mono {j k:Nat}{A:Around} (r:Bo k A) (h:j<=k):Bo j A:=⟨r.hd,by have:=r.dp;omega,by have:=r.un;omega,r.gd⟩
theorem Bo.deeper {k:Nat}{A:Around} (r:Bo (k+1) A) (env:Env):Bo k (A.deeper env):=
 ⟨r.hd,by have:=r.dp;show A.depth+1+3 * k+5<_;omega,by have:=r.un;show A.units+3+16 * k+200<_;omega,r.gd⟩
theorem Bo.depth {k:Nat}{A:Around} (r:Bo k A):A.depth<recursionLimit:=by have:=r.dp;omega
theorem Bo.units0 {k:Nat}{A:Around} (r:Bo k A):A.units<cLine:=by have:=r.un;omega
def CV:TA:=λ_ H Q=>Q [] H
def Bp (ta:TE) (tr:TA):TA:=fun σ H Q=>ta σ H λx H1=>tr σ H1 λxs H2=>Q (x::xs) H2
section
variable {X : Cx} {e : Expr} {es : List Expr} {te : TE} {t : TA} {pos : Pos}
theorem pa_nil:PA X [] CV:=λ_ _ _ _ H Q I h=>Calls.spliced_nil ⟨[],H,I,.nil,h⟩
theorem CW (ha:PE X e te) (hr:PA X es t) (hs:starEach (e::es) X.env=(false,eval e X.env)::starEach es X.env:=by rfl):PA X (e::es) (Bp te t):=by
 intro pos pins s σ H Q I h
 rw [hs]
 show wpAny _ _ (spliced ((false,eval e X.env)::backTo pos (starEach es X.env))) _ _ s
 refine Calls.spliced_cons (Av (ha pins s σ H _ I h) λu s1 ⟨x,H1,I1,r1,q1⟩=>?_)
 exact Av (hr pos pins s1 σ H1 _ I1 q1) λus s2 ⟨xs,H2,I2,r2,q2⟩=>⟨x::xs,H2,I2,.cons r1 r2,q2⟩
end
abbrev Sp:=List V->Hp->VK->XK->Prop
abbrev CC:=List Env->Hp->Shared->XK->Value->Shared->Prop
structure EB (P:Program) (w:World) (K:PySem.W.Frag) (mg:Str->Option Value) (base:Heap) (A:Around) (outer:List Env) (s:Shared) (H:Hp):Prop where
 frames:A.frames=some outer
 mod:Mod K mg base
 bs:∀b o,base.get? b=some o->s.heap.get? b=some o/\H b=none
 bsz:base.objs.size<=s.heap.objs.size
 funs:s.heap.FunFrames base outer
 frf:∀b∈Ca outer,H b=none
 hok:HOk P w H s.heap
 bare:AllBare s.gens
def CE (outer:List Env) (P:Program) (w:World) (H:Hp) (s:Shared) (Q:VK) (u:Value) (s':Shared):Prop:=
 ∃v H',s'.os=s.os/\AllBare s'.gens/\Un (Ca outer) [] H H' s.heap s'.heap/\HOk P w H' s'.heap/\AH v u/\Q v H'
def CR (CX:CC) (outer:List Env) (P:Program) (w:World) (H:Hp) (s:Shared) (Q:VK) (E:XK) (r:Result) (s':Shared):Prop:=
 match r with
 | .ok (.ret u)=>CE outer P w H s Q u s'
 | .ok _=>False
 | .error e=>CX outer H s E e s'
structure CY (P:Program) (w:World) (K:PySem.W.Frag) (mg:Str->Option Value) (base:Heap) (CX:CC) (k:Nat) (f:Addr) (fd:FuncData) (ps:List Str) (sp:Sp):Prop where
 len:∀vs H Q E,sp vs H Q E->vs.length=ps.length
 run:∀(A:Around) (outer:List Env) (s:Shared) (H:Hp) (args:Args) (us:List Value) (vs:List V) (Q:VK) (E:XK),Bo k A->EB P w K mg base A outer s H->BindsTo s fd args (ps.zip us)->Ar vs us->sp vs H Q E->
  codeAny (model P w) A (.call (.ref f) args) (CR CX outer P w H s Q E) s
section
variable {X : Cx} {pins : List (Addr × Obj)} {σ : St} {H : Hp} {s s' : Shared}
theorem Ae.env0 (I:Ae X pins σ H s):EB X.prog X.w X.K X.mg X.base X.A X.stack s H:=
 ⟨I.ok.frames,I.ok.mod,I.bs,Nat.le_trans I.ok.bsz I.sz,I.stack,I.stkFree,I.hok,I.bare⟩
theorem Ae.after {u:Value} (I:Ae X pins σ H s) (h:CE X.stack X.prog X.w H s Q u s'):EP X pins σ Q u s':=by
 obtain⟨v,H',os,bare,un,hok,r,q⟩:=h
 obtain⟨hh,g,d,t,os'⟩:=s'
 obtain rfl:os'=s.os:=os
 exact⟨v,H',I.call (h':=hh) (g':=g) (d':=d) (t':=t) (ch:=[]) un hok bare (λb z=>absurd z (by simp)),r,q⟩
end
def Nz (sp:Sp) (dvs:List V) (E:XK) (t:TA):TE:=fun σ H Q=>t σ H λvs H1=>sp (vs++dvs) H1 Q E
def Binds (K:PySem.W.Frag) (fd:FuncData) (ps:List Str) (ds:List Value):Prop:=
 ∀(s:Shared) (us:List Value),K.In s.heap->(us++ds).length=ps.length->BindsTo s fd ⟨us,[]⟩ (ps.zip (us++ds))
theorem Binds.all {K:PySem.W.Frag}{fd:FuncData}{ps:List Str} (h:∀us:List Value,us.length=ps.length->bindArgs fd ⟨us,[]⟩=pure (ps.zip us)):Binds K fd ps []:=λs us _ hl=>by
 rw [List.append_nil] at hl ⊢
 exact .of_eq (h us hl)
def Ir (CX:CC) (X:Cx) (E:XK):Prop:=∀(pins:List (Addr×Obj)) (σ:St) (H:Hp) (s:Shared) (e:Value) (s':Shared),Ae X pins σ H s->CX X.stack H s E e s'->X.xe e s'
section
variable {X : Cx} {CX : CC} {k : Nat} {f C : Addr} {fd : FuncData} {ps : List Str} {sp : Sp} {dvs : List V} {ds : List Value} {E : XK} {x m : Str} {p pos apos : Pos} {e o : Expr} {es : List Expr} {ta : TE} {t : TA}
theorem NA {pins:List (Addr×Obj)}{σ:St}{H:Hp}{s:Shared} (F:CY X.prog X.w X.K X.mg X.base CX k f fd ps sp) (hr:Bo k X.A) (hb:Binds X.K fd ps ds) (hd:Ar dvs ds) (hx:Ir CX X E)
  (I:Ae X pins σ H s) (r:Ar vs us) (h:sp (vs++dvs) H Q E):wpAny (model X.prog X.w) X.A (call (.ref f) us) (EP X pins σ Q) X.xe s:=by
 have r2:Ar (vs++dvs) (us++ds):=r.append hd
 have hl:(us++ds).length=ps.length:=by rw [<-r2.length];exact F.len _ _ _ _ h
 refine wpAny_call (codeAny_mono (F.run X.A X.stack s H ⟨us,[]⟩ (us++ds) (vs++dvs) Q E hr I.env0 (hb s us I.kIn hl) r2 h) λr s' hq=>?_)
 cases r with
 | error e=>exact hx pins σ H s e s' I hq
 | ok fl=>
  cases fl with
  | ret u=>exact I.after hq
  | next=>exact False.elim hq
  | brk=>exact False.elim hq
  | cont=>exact False.elim hq
theorem NB (F:CY X.prog X.w X.K X.mg X.base CX k f fd ps sp) (hr:Bo k X.A) (hg:Gl X x) (hm:X.mg x=some (.ref f)) (hk:PySem.W.keepIn X.K (.ref f)=true) (hb:Binds X.K fd ps ds) (hd:Ar dvs ds) (hx:Ir CX X E)
  (ha:PA X (e::es) t) (hdb:(x==("__debug__" :Str))=false:=by decide) (he:starEach (e::es) X.env=(false,eval e X.env)::starEach es X.env:=by rfl) (hpl:(backTo pos (starEach es X.env)).any (·.1)=false:=by rfl):
  PE X (.Call (.Name x p) (e::es) [] pos) (Nz sp dvs E t):=by
 intro pins s σ H Q I h
 refine wpAny_Call_Name_kw (JM I hg hm ?_ hdb)
 refine PySem.W.callWith_K (h₀:=X.base) I.ok.mod.kin hk (Av (ha pos pins s σ H _ I h) λus s1 ⟨vs,H1,I1,r,q⟩=>⟨I1.kIn,?_⟩) he hpl
 exact NA F hr hb hd hx I1 r q
structure Mk (K:PySem.W.Frag) (C f:Addr):Prop where
 makes:PySem.W.makesIn K C=true
 init:PySem.W.findIn K (.ref C) "__init__"=some (some (.ref f))
 fn:PySem.W.isFn K (.ref f)=true
 kp:PySem.W.keepIn K (.ref C)=true
end
section
variable {X : Cx} {CX : CC} {k : Nat} {f C : Addr} {fd : FuncData} {ps ks : List Str} {sp : Sp} {E : XK} {x m : Str} {p pos apos kpos : Pos} {e o : Expr} {es : List Expr} {kws : List Keyword} {te ta : TE} {t tk : TA} {nm : Option Str}
structure KBinds (K:PySem.W.Frag) (fd:FuncData) (ps ks:List Str) (g:List Value->List Value->List Value) (gV:List V->List V->List V):Prop where
 to:∀(s:Shared) (us ws:List Value),K.In s.heap->(g us ws).length=ps.length->BindsTo s fd ⟨us,ks.zip ws⟩ (ps.zip (g us ws))
 rel:∀ {vs:List V}{us:List Value}{zs:List V}{ws:List Value},Ar vs us->Ar zs ws->Ar (gV vs zs) (g us ws)
variable {g : List Value -> List Value -> List Value} {gV : List V -> List V -> List V}
end
structure AB (N P:List Str) (sc:Scope):Prop where
 kind:sc.kind= .function
 co:sc.isCoroutine=false
 gen:sc.isGenerator=false
 nd:N.Nodup
 pre:N.take P.length=P
 par:∀x∈P,sc.names.lookup x=some .local \/sc.names.lookup x=some .cell
 nofree:∀y∈sc.names,y.2≠ .free
theorem AD {N P:List Str}{sc:Scope} (a:sc.kind= .function:=by rfl) (b:sc.isCoroutine=false:=by rfl) (c:sc.isGenerator=false:=by rfl) (d:N.Nodup:=by decide+kernel) (e:N.take P.length=P:=by rfl) (f:∀x∈P,sc.names.lookup x=some .local \/sc.names.lookup x=some .cell:=by decide+kernel) (g:∀y∈sc.names,y.2≠ .free:=by decide+kernel):AB N P sc:=⟨a,b,c,d,e,f,g⟩
theorem Kb {x:Str}:∀ {binds:List (Str×Value)}{m:Str->Option Value},(∀v,(x,v) ∉ binds)->bindL kindOf binds m x=m x
  | [],_,_=>rfl
  | (n, v) :: r, m, h => by
    unfold bindL
    rw [Kb λw hw=>h w (List.mem_cons_of_mem _ hw)]
    split
    . have:x≠n:=by rintro rfl;exact h v List.mem_cons_self
      simp [this]
    . rfl
theorem Kc {x:Str}:∀ {binds:List (Str×Value)}{m:Str->Option Value},(∀v,(x,v) ∉ binds)->bindC kindOf binds m x=m x
  | [],_,_=>rfl
  | (n, v) :: r, m, h => by
    unfold bindC
    rw [Kc λw hw=>h w (List.mem_cons_of_mem _ hw)]
    split
    . rfl
    . have:x≠n:=by rintro rfl;exact h v List.mem_cons_self
      simp [this]
theorem Kd {kindOf:Str->Option NameKind}{x:Str}{v:Value}:∀ {P:List Str}{vs:List Value}{i:Nat}{m:Str->Option Value},P.Nodup->P[i]? =some x->vs[i]? =some v->kindOf x=some .local ->
  bindL kindOf (P.zip vs) m x=some v
 | [],_,_,_,_,h,_,_=>by simp at h
 | _::_,[],_,_,_,_,h,_=>by simp at h
 | p::P,w::vs,0,m,nd,h1,h2,hk=>by
  simp at h1 h2;subst h1;subst h2
  show bindL kindOf ((p,w)::P.zip vs) m p=_
  unfold bindL
  rw [Kb λv hv=>(List.nodup_cons.mp nd).1 (List.of_mem_zip hv).1,if_pos hk]
  simp
 | p::P,w::vs,i+1,m,nd,h1,h2,hk=>by
  show bindL kindOf ((p,w)::P.zip vs) m x=_
  unfold bindL
  exact Kd (i:=i) (List.nodup_cons.mp nd).2 (by simpa using h1) (by simpa using h2) hk
theorem Ke {kindOf:Str->Option NameKind}{x:Str}{v:Value}:∀ {P:List Str}{vs:List Value}{i:Nat}{m:Str->Option Value},P.Nodup->P[i]? =some x->vs[i]? =some v->kindOf x≠some .local ->
  bindC kindOf (P.zip vs) m x=some v
 | [],_,_,_,_,h,_,_=>by simp at h
 | _::_,[],_,_,_,_,h,_=>by simp at h
 | p::P,w::vs,0,m,nd,h1,h2,hk=>by
  simp at h1 h2;subst h1;subst h2
  show bindC kindOf ((p,w)::P.zip vs) m p=_
  unfold bindC
  rw [Kc λv hv=>(List.nodup_cons.mp nd).1 (List.of_mem_zip hv).1,if_neg hk]
  simp
 | p::P,w::vs,i+1,m,nd,h1,h2,hk=>by
  show bindC kindOf ((p,w)::P.zip vs) m x=_
  unfold bindC
  exact Ke (i:=i) (List.nodup_cons.mp nd).2 (by simpa using h1) (by simpa using h2) hk
def start (N:List Str) (vs:List V):St:=vs.map some++List.replicate (N.length-vs.length) none
def Eh (CX:CC) (P:Program) (w:World) (K:PySem.W.Frag) (mg:Str->Option Value) (base:Heap) (N:List Str) (qual:Str) (scope:Scope) (f:Addr) (cd:Value) (A:Around) (outer:List Env) (s:Shared) (H:Hp) (E:XK):Cx where
 prog:=P
 w:=w
 K:=K
 mg:=mg
 base:=base
 A:=A.deeper (envOfC qual scope s.heap.objs.size f cd)
 N:=N
 s₀:=s
 H₀:=H
 env:=envOfC qual scope s.heap.objs.size f cd
 outer:=outer
 stack:=envOfC qual scope s.heap.objs.size f cd::outer
 ex:=[]
 calm:=true
 fn:=λ_=>true
 pn:=[]
 xe:=λe s'=>wpAny (model P w) (A.deeper (envOfC qual scope s.heap.objs.size f cd)) (leaving (envOfC qual scope s.heap.objs.size f cd) e) (λ_ s''=>CX outer H s E e s'') (λe' s''=>CX outer H s E e' s'') s'
theorem Kf {sc:Scope}{n:Nat}{x:Str} (h:sc.names.lookup x=some .cell):∃c,(cellsFrom n sc.names []).lookup x=some c:=by
 have q:=PySem.W.cellsFrom_some sc.names n [] (.inl h)
 exact Option.isSome_iff_exists.mp q
theorem NC {CX:CC}{w:World}{K:PySem.W.Frag}{mg:Str->Option Value}{base:Heap}{N ps:List Str}{f:Addr}{cd:Value}{A:Around}{outer:List Env}{s s1:Shared}{H:Hp}{E:XK}
  (S:AB N ps scope) (hd:A.handled=none) (e0:EB P w K mg base A outer s H) (hl:vs.length=ps.length) (r:Ar vs us)
  (x:InCallC s s.heap.objs.size (bindL (envOfC qual scope s.heap.objs.size f cd).kindOf (ps.zip us) λ_=>none) (cellsFrom (s.heap.objs.size+1) scope.names []) (bindC (envOfC qual scope s.heap.objs.size f cd).kindOf (ps.zip us) λ_=>none) s1):
  Ae (Eh CX P w K mg base N qual scope f cd A outer s H E) [] (start N vs) H s1:=by
 have hpl:ps.length<=N.length:=by have:=congrArg List.length S.pre;rw [List.length_take] at this;omega
 obtain⟨h1,tk,rfl,hk⟩:=x.done
 have noA:∀b:Addr,b ∉(Eh CX P w K mg base N qual scope f cd A outer s H E).ex:=λb z=>absurd (show b∈([]:List Addr) from z) (by simp)
 refine⟨⟨e0.mod,S.kind,rfl,rfl,Nat.le_refl _,λy z c h1 h2=>?_,λy hy=>?_,λy c _ h=>?_,λ_=>hd,Around.frames_deeper e0.frames,.inr ⟨rfl,rfl⟩,λb z=>absurd z (noA b),e0.bs,e0.bsz,λb _ _=>noA b,λb z=>absurd z (noA b),e0.funs,e0.frf⟩,
  rfl,e0.bare,Un.kept hk,⟨_,x.toInCall.ns,λi y v h1 h2 h3=>?_⟩,λy c h=>⟨_,x.cell y c h⟩,e0.hok.fresh (Nat.le_refl _),λy c h=>?_,λp hp=>absurd (show p∈([]:List (Addr×Obj)) from hp) (by simp),e0.hok.kept hk,?_⟩
 ·exact name_of_addr x.apart (PySem.mem_of_lookup h1) (PySem.mem_of_lookup h2)
 ·have hy:scope.names.lookup y=some .cell\/scope.names.lookup y=some .free:=hy
  rcases hy with hy | hy
  ·exact Kf hy
  ·exact absurd rfl (S.nofree _ (PySem.mem_of_lookup hy))
 ·exact Nat.le_of_lt (x.above y c (PySem.mem_of_lookup h))
 ·have hi:i<vs.length:=by
   unfold start at h2
   by_cases hi:i<vs.length
   ·exact hi
   ·rw [List.getElem?_append_right (by simpa using hi)] at h2
    rw [List.getElem?_replicate] at h2
    split at h2<;>cases h2
  have ha:vs[i]? =some v:=by
   unfold start at h2
   rw [List.getElem?_append_left (by simpa using hi),List.getElem?_map] at h2
   cases e:vs[i]? with
   | none=>rw [e] at h2;cases h2
   | some a=>rw [e] at h2;cases h2;rfl
  obtain⟨u,hu,rv⟩:=r.get ha
  have hp:ps[i]? =some y:=by
   rw [<-S.pre,List.getElem?_take_of_lt (by omega)];exact h1
  have ndP:ps.Nodup:=by rw [<-S.pre];exact S.nd.sublist (List.take_sublist _ _)
  refine⟨u,rv,?_⟩
  rcases S.par y (List.mem_of_getElem? hp) with k | k
  ·exact .inl ⟨k,Kd ndP hp hu k⟩
  ·obtain⟨c,e⟩:=Kf (n:=s.heap.objs.size+1) k
   refine .inr ⟨.inl k,c,e,?_⟩
   have q:=x.cell y c e
   rw [Ke ndP hp hu (by show scope.names.lookup y≠_;rw [k];decide)] at q
   exact q
 ·exact e0.hok.fresh (Nat.le_of_lt (x.above y c (PySem.mem_of_lookup h)))
 ·unfold start
  show _=N.length
  rw [List.length_append,List.length_map,List.length_replicate]
  omega
theorem ND {CX:CC}{w:World}{K:PySem.W.Frag}{mg:Str->Option Value}{base:Heap}{k:Nat}{f:Addr}{name:Str}{params:Arguments}{body:List Stmt}{dV kV doc pm cdv ct oc:Value}{an od:Option Addr}
  {osl:Array (Option Value)}{N ps:List Str}{sp:Sp} (lk:K.lookup f=some ⟨oc,od,.func (PySem.W.fnOf name qual params body scope dV kV doc pm an cdv ct),osl⟩) (hcd:PySem.W.codeIn K cdv qual=true) (S:AB N ps scope)
  (len:∀vs H Q E,sp vs H Q E->vs.length=ps.length)
  (hbody : ∀ (A : Around) (outer : List Env) (s : Shared) (H : Hp) (vs : List V) (Q : VK) (E : XK), Bo k (A.deeper (envOfC qual scope s.heap.objs.size f cdv)) -> sp vs H Q E ->
   ∃t,PSs (Eh CX P w K mg base N qual scope f cdv A outer s H E) body t/\t { nx:=λ_ H'=>Q .non H',rt:=Q} (start N vs) H):
  CY P w K mg base CX (k+1) f (PySem.W.fnOf name qual params body scope dV kV doc pm an cdv ct) ps sp:=by
 refine⟨len,λA outer s H args us vs Q E hr e0 hb r hsp=>?_⟩
 have hl:=len _ _ _ _ hsp
 have KX:K.In s.heap:=e0.mod.kin.keeps λb o e=>(e0.bs b o e).1
 have lim:s.heap.NoLimit:=e0.mod.nolimit.keeps λb o e=>(e0.bs b o e).1
 have hkind:∀y∈ps.zip us,scope.names.lookup y.1=some .local \/(scope.names.lookup y.1=some .cell/\((cellsFrom (s.heap.objs.size+1) scope.names []).lookup y.1).isSome=true):=fun⟨n,v⟩ hy=>by
  rcases S.par n (List.of_mem_zip hy).1 with q | q
  ·exact .inl q
  ·exact .inr ⟨q,PySem.W.cellsFrom_some _ _ _ (.inl q)⟩
 refine codeAny_call_function hr.depth (KX _ _ lk) rfl S.co S.gen rfl (PySem.W.codeRec_of KX hcd) (hb _ _ _ _ ?_)
 refine wpAny_newFunctionEnv_cells S.kind hkind λenv he s1 x=>?_
 subst he
 refine⟨lim.keeps x.toInCall.keep,codeAny_func ?_⟩
 obtain⟨t,ht,hq⟩:=hbody A outer s H vs Q E (hr.deeper _) hsp
 have I:Ae (Eh CX P w K mg base N qual scope f cdv A outer s H E) [] (start N vs) H s1:=NC S hr.hd e0 hl r x
 refine wpAny_mono (ht [] s1 (start N vs) H _ I hq) (λfl s' hs=>?_) λe s' hs=>hs
 have fin:∀ {σ':St}{H':Hp}{v:V}{u:Value},Ae (Eh CX P w K mg base N qual scope f cdv A outer s H E) [] σ' H' s'->AH v u->Q v H'->CE outer P w H s Q u s':=
  λ{σ' H' v u} J rv q=>⟨v,H',J.os,J.bare,J.base,J.hok,rv,q⟩
 cases fl with
 | ret u=>
  obtain⟨v,σ',H',J,rv,q⟩:=hs
  exact fin J rv q
 | next=>
  obtain⟨σ',H',J,q⟩:=hs
  exact fin (v:=V.non) (u:=Value.none) J rfl q
 | brk=>
  obtain⟨_,_,_,q⟩:=hs
  exact False.elim q
 | cont=>
  obtain⟨_,_,_,q⟩:=hs
  exact False.elim q
end L2
namespace L2
open PySem PySem.Spec PyProof.Rows
section
variable {X : Cx} {x : Str} {p pos : Pos} {e : Expr} {es : List Expr} {t : TA} {id T : String} {r : List V -> Hp -> VK -> Prop}
def Iu (r:List V->Hp->VK->Prop) (t:TA):TE:=fun σ H Q=>t σ H λvs H1=>r vs H1 Q
theorem Aw (hc:BH X (.builtin id) r) (hg:Gl X x) (hm:X.mg x=none) (hv:bootBuiltins x=some (.builtin id)) (ha:PA X (e::es) t) (hn:x≠ "__name__" :=by decide) (hdb:(x==("__debug__" :Str))=false:=by decide)
  (he:starEach (e::es) X.env=(false,eval e X.env)::starEach es X.env:=by rfl) (hpl:(backTo pos (starEach es X.env)).any (·.1)=false:=by rfl):PE X (.Call (.Name x p) (e::es) [] pos) (Iu r t):=by
 intro pins s σ H Q I h
 refine wpAny_Call_Name_kw (CO I hg hm hv ?_ hn hdb)
 exact PyProof.Rows.callWith_builtin1 (Av (ha pos pins s σ H _ I h) λus s1 ⟨vs,H1,I1,r1,q1⟩=>hc pins s1 σ H1 vs us Q I1 r1 q1) he hpl
theorem Bd (hc:BH X (.type T) r) (hg:Gl X x) (hm:X.mg x=none) (hv:bootBuiltins x=some (.type T)) (ha:PA X (e::es) t) (hn:x≠ "__name__" :=by decide) (hdb:(x==("__debug__" :Str))=false:=by decide)
  (he:starEach (e::es) X.env=(false,eval e X.env)::starEach es X.env:=by rfl) (hpl:(backTo pos (starEach es X.env)).any (·.1)=false:=by rfl):PE X (.Call (.Name x p) (e::es) [] pos) (Iu r t):=by
 intro pins s σ H Q I h
 refine wpAny_Call_Name_kw (CO I hg hm hv ?_ hn hdb)
 exact PyProof.Rows.callWith_type1 (Av (ha pos pins s σ H _ I h) λus s1 ⟨vs,H1,I1,r1,q1⟩=>hc pins s1 σ H1 vs us Q I1 r1 q1) he hpl
end
end L2
namespace HT
open PySem PyProof.Rows
variable {sl : Addr} {vl vu : Value}
section
open PySem.SeqAt
open PySem.AutoSeq1 (wpAny_loadPart')
open PySem.MeetsSeq PySem.MeetsSeq2 PySem.MeetsSeq3
end
section
variable {prog : Program} {w : World} {A : Around} {E : Value -> Shared -> Prop} {s : Shared}
def sIx (n d:Nat):Option Int->Nat
 | none=>d
 | some v=>if v<0 then(v+(n:Int)).toNat else min v.toNat n
theorem sIx_nat (n d k:Nat):sIx n d (some (k:Int))=min k n:=by
 show(if (k:Int)<0 then((k:Int)+(n:Int)).toNat else min (k:Int).toNat n)=min k n
 rw [if_neg (by omega),Int.toNat_natCast]
theorem NE (n d:Nat) (hd:d<=n) (o:Option Int):sIx n d o<=n:=by
 cases o with
 | none=>exact hd
 | some v=>
  show(if v<0 then(v+(n:Int)).toNat else min v.toNat n)<=n
  by_cases hv:v<0
  ·rw [if_pos hv];omega
  ·rw [if_neg hv];exact Nat.min_le_right _ _
theorem Kg (v:Int) (n d:Nat):(if v<0 then max (v+(n:Int)) 0 else min v (n:Int))=((sIx n d (some v):Nat):Int):=by
 show(if v<0 then max (v+(n:Int)) 0 else min v (n:Int))=(((if v<0 then(v+(n:Int)).toNat else min v.toNat n):Nat):Int)
 by_cases hv:v<0
 ·simp only [if_pos hv];omega
 ·simp only [if_neg hv];omega
theorem NF (lo hi:Option Int) (n:Nat):Builtin.Slice.sliceAdjust lo hi 1 (n:Int)=(((sIx n 0 lo:Nat):Int),((sIx n n hi:Nat):Int)):=by
 have h1:¬((1:Int)<0):=by omega
 unfold Builtin.Slice.sliceAdjust
 simp only [h1,if_false]
 refine Prod.ext ?_ ?_
 ·cases lo with
  | none=>rfl
  | some v=>exact Kg v n 0
 ·cases hi with
  | none=>rfl
  | some v=>exact Kg v n n
theorem NG (i j:Nat):Builtin.Slice.slicePlaces (i:Int) (j:Int) 1=j-i:=by
 unfold Builtin.Slice.slicePlaces
 have h1:(1:Int) >0:=by omega
 simp only [h1,if_true,Int.ediv_one]
 split<;>omega
theorem Kh {v:Value}{o:Option Int}{Q:Option Int->Shared->Prop} (p:IsPart v o) (h:Q o s):wpAny (model prog w) A (Builtin.Slice.slicePartIndex v) Q E s:=by
 cases p with
 | none=>exact slicePart_none h
 | int i t=>exact slicePart_int h
theorem sliceApplied_gen {lo hi:Option Int}{n:Nat}{Q:Int×Int×Nat->Shared->Prop} (hs:s.heap.IsSliceOf sl vl vu .none) (pl:IsPart vl lo) (pu:IsPart vu hi)
  (h:Q (((sIx n 0 lo:Nat):Int),1,sIx n n hi-sIx n 0 lo) s):wpAny (model prog w) A (Builtin.Slice.sliceApplied (.ref sl) (pure (n:Int))) Q E s:=by
 obtain⟨os,hos,hcs,hds⟩:=id hs
 unfold Builtin.Slice.sliceApplied Builtin.Slice.sliceFields
 refine wpAny_bind (wpAny_bind (wpAny_field hos hds (x:=vl) rfl (wpAny_bind (wpAny_field hos hds (x:=vu) rfl (wpAny_bind (wpAny_field hos hds (x:= .none) rfl (wpAny_pure ?_)))))))
 refine wpAny_bind (slicePart_none ?_)
 show wpAny _ _ (if ((1:Int)==0)=true then _ else _) _ _ s
 rw [if_neg (by decide)]
 refine wpAny_bind (Kh pl (wpAny_bind (Kh pu (wpAny_bind (wpAny_pure ?_)))))
 show wpAny _ _ (match Builtin.Slice.sliceAdjust lo hi 1 (n:Int) with | (lo,hi)=>pure (lo,(1:Int),Builtin.Slice.slicePlaces lo hi 1)) _ _ s
 rw [NF lo hi n]
 show wpAny _ _ (pure (((sIx n 0 lo:Nat):Int),(1:Int),Builtin.Slice.slicePlaces ((sIx n 0 lo:Nat):Int) ((sIx n n hi:Nat):Int) 1)) _ _ s
 rw [NG]
 exact wpAny_pure h
theorem NH (xs:Array Value) (i k:Nat):((List.range k).filterMap fun(m:Nat)=>xs[((i:Int)+(m:Int) * 1).toNat]?).toArray=((xs.toList.drop i).take k).toArray:=by
 have e:(fun(m:Nat)=>xs[((i:Int)+(m:Int) * 1).toNat]?)=λm=>xs[i+m]? :=by
  funext m
  have:((i:Int)+(m:Int) * 1).toNat=i+m:=by omega
  rw [this]
 rw [e]
 have:=pick_run xs i k
 rw [List.filterMap_map] at this
 have e2:((λx=>xs[x]?) ∘λx=>i+x)=λm=>xs[i+m]? :=rfl
 rw [e2] at this
 rw [this]
theorem getItem_tuple_cut {t:Addr}{items:Array Value}{lo hi:Option Int}{Q:Value->Shared->Prop} (ht:IsTup s.heap t items) (hs:s.heap.IsSliceOf sl vl vu .none) (pl:IsPart vl lo) (pu:IsPart vu hi)
  (hw:¬(sIx items.size 0 lo=0/\sIx items.size items.size hi=items.size))
  (h:Q (.ref s.heap.objs.size) { s with heap:=s.heap.push { cls:= .type "tuple",data:= .seq ((items.toList.drop (sIx items.size 0 lo)).take (sIx items.size items.size hi-sIx items.size 0 lo)).toArray}})
  (hsz:items.size<=sizeLine):wpAny (model prog w) A (getItem (.ref t) (.ref sl)) Q E s:=by
 have htake:sizeOk (.seq ((items.toList.drop (sIx items.size 0 lo)).take (sIx items.size items.size hi-sIx items.size 0 lo)).toArray):=by
  show((items.toList.drop (sIx items.size 0 lo)).take (sIx items.size items.size hi-sIx items.size 0 lo)).toArray.size<=sizeLine
  rw [List.size_toArray,List.length_take,List.length_drop,Array.length_toList]
  omega
 have hj:sIx items.size items.size hi<=items.size:=NE _ _ (Nat.le_refl _) hi
 obtain⟨os,hos,hcs,hds⟩:=id hs
 have hTs:s.TypeIs (.ref sl) "slice" :=⟨os,hos,hcs⟩
 unfold getItem
 try with_reducible refine wpAny_holding ?_
 first | refine wpAny_bind (wpAny_pure ?_) | skip
 refine wpAny_bind (wpAny_sequenceKey ht.typeIs (by decide) ?_)
 refine wpAny_bind (wpAny_callSpecial?_slot (name:=Str.ofString "__getitem__") ht.typeIs PyProof.Rows.slot_tuple_getitem
  (wpAny_call_entry PyProof.Rows.slot_tuple_getitem ht.typeIs entry_tuple_getitem ?_ (args_tuple_getitem _ _)))
 show wpAny _ _ (Builtin.Tuple.tupleItemsOf (.ref t) >>=_) _ _ s
 refine wpAny_bind (tupleItemsOf_ ht ?_)
 refine wpAny_bind (wpAny_typeOf hTs ?_)
 rw [if_pos (by decide)]
 refine wpAny_bind (sliceApplied_gen hs pl pu ?_)
 have hno:¬((((sIx items.size 0 lo:Nat):Int)==0 &&(1:Int)==1 &&(sIx items.size items.size hi-sIx items.size 0 lo)==items.size)=true):=by
  intro q
  rw [Bool.and_eq_true,Bool.and_eq_true] at q
  have q1:((sIx items.size 0 lo:Nat):Int)=0:=eq_of_beq q.1.1
  have q2:sIx items.size items.size hi-sIx items.size 0 lo=items.size:=eq_of_beq q.2
  exact hw ⟨by omega,by omega⟩
 show wpAny _ _ (if (((sIx items.size 0 lo:Nat):Int)==0 &&(1:Int)==1 &&(sIx items.size items.size hi-sIx items.size 0 lo)==items.size)=true then _ else _) _ _ s
 rw [if_neg hno,NH]
 first
  | exact wpAny_bind (m:=Builtin.Tuple.tupleExact _) (wpAny_newObj_type (wpAny_pure ⟨_,rfl,wpAny_pure h⟩) htake)
  | exact wpAny_bind (m:=Builtin.Tuple.tupleExact _) (wpAny_newObj_type (wpAny_bind (wpAny_pure (wpAny_pure ⟨_,rfl,wpAny_pure h⟩))) htake)
  | exact wpAny_bind (wpAny_bind (m:=Builtin.Tuple.tupleExact _) (wpAny_newObj_type (wpAny_pure (wpAny_pure ⟨_,rfl,wpAny_pure h⟩)) htake))
  | exact wpAny_bind (wpAny_bind (m:=Builtin.Tuple.tupleExact _) (wpAny_newObj_type (wpAny_pure ⟨_,rfl,wpAny_pure h⟩) htake))
end
end HT
namespace L2
open PySem PySem.Spec PyProof.Rows
abbrev TO:=St->Hp->(Option Int->Hp->Prop)->Prop
def PO (X:Cx) (e:Option Expr) (t:TO):Prop:=
 ∀(pins:List (Addr×Obj)) (s:Shared) (σ:St) (H:Hp) (Q:Option Int->Hp->Prop),Ae X pins σ H s->t σ H Q->
  wpAny (model X.prog X.w) X.A (evalPart e X.env) (λu s'=>∃o H',Ae X pins σ H' s'/\IsPart u o/\Q o H') X.xe s
def NI:TO:=λ_ H Q=>Q none H
def NJ (t:TE):TO:=fun σ H Q=>t σ H λx H1=>∃i,x= .int i/\Q (some i) H1
theorem Ki {ns:List Int}:∀ {us:List Value},Ar (ns.map V.int) us->IntsAre us ns:=by
 induction ns with
 | nil=>intro us r;rw [List.map_nil] at r;cases r;exact .nil
 | cons n ns ih=>
  intro us r
  rw [List.map_cons] at r
  cases r with
  | cons r1 r2=>
   obtain⟨t,e⟩:=r1
   subst e
   exact .cons n t (ih r2)
section
variable {X : Cx} {e : Expr} {te : TE} {lo hi : Option Expr} {tl th : TO} {pos p2 : Pos}
theorem CH:PO X none NI:=by
 intro pins s σ H Q I h
 rw [evalPart_none]
 exact wpAny_pure ⟨none,H,I,.none,h⟩
theorem BP (h:PE X e te):PO X (some e) (NJ te):=by
 intro pins s σ H Q I hw
 rw [evalPart_some]
 refine Av (h pins s σ H _ I hw) λu s1 ⟨x,H1,I1,r1,q1⟩=>?_
 obtain⟨i,rfl,q⟩:=q1
 obtain⟨t,rfl⟩:=r1
 exact⟨some i,H1,I1,.int i t,q⟩
def F6 (X:Cx) (r:V->Option Int->Option Int->Hp->VK->Prop):Prop:=
 ∀(pins:List (Addr×Obj)) (s:Shared) (σ:St) (H:Hp) (x:V) (v vl vu:Value) (lo hi:Option Int) (sl:Addr) (Q:VK),Ae X pins σ H s->AH x v->s.heap.IsSliceOf sl vl vu .none->IsPart vl lo->IsPart vu hi->r x lo hi H Q->
  ∃T id,typeLookup (.type T) "__getitem__"=pure (some (.builtin id))/\s.TypeIs v T/\wpAny (model X.prog X.w) X.A (getItem v (.ref sl)) (EP X pins σ Q) X.xe s
def NK (r:V->Option Int->Option Int->Hp->VK->Prop) (te:TE) (tl th:TO):TE:=fun σ H Q=>te σ H λx H1=>tl σ H1 λl H2=>th σ H2 λu H3=>r x l u H3 Q
theorem Cj {r:V->Option Int->Option Int->Hp->VK->Prop} (hr:F6 X r) (he:PE X e te) (hl:PO X lo tl) (hu:PO X hi th):PE X (.Subscript e (.Slice lo hi none p2) pos) (NK r te tl th):=by
 intro pins s σ H Q I h
 refine Subscript_ (Av (he pins s σ H _ I h) λv s1 ⟨x,H1,I1,r1,q1⟩=>?_)
 refine wpAny_Slice (Av (hl pins s1 σ H1 _ I1 q1) λvl s2 ⟨l,H2,I2,pl,q2⟩=>Av (hu pins s2 σ H2 _ I2 q2) λvu s3 ⟨u,H3,I3,pu,q3⟩=>?_)
 rw [evalPart_none]
 refine wpAny_pure ?_
 have I4:Ae X pins σ H3 { s3 with heap:=s3.heap.push { cls:= .type "slice",data:= .fields #[vl,vu,.none]}}:=I3.kept (t':=s3.toks) λb ob q=>Heap.get?_push_of_some _ q
 obtain⟨T,id,hT,ht,hg⟩:=hr pins { s3 with heap:=s3.heap.push { cls:= .type "slice",data:= .fields #[vl,vu,.none]}} σ H3 x v vl vu l u s3.heap.objs.size Q I4 r1 (Heap.IsSliceOf.new ..) pl pu q3
 show wpAny (model X.prog X.w) X.A (subscriptTail e (.Slice lo hi none p2) v (.ref s3.heap.objs.size)) (EP X pins σ Q) X.xe { s3 with heap:=s3.heap.push { cls:= .type "slice",data:= .fields #[vl,vu,.none]}}
 exact tail_any (ops:=[.ref s3.heap.objs.size,v]) ht hT hg (by with_unfolding_all rfl)
def Bq (xs:List V) (lo hi:Option Int):List V:=(xs.drop (HT.sIx xs.length 0 lo)).take (HT.sIx xs.length xs.length hi-HT.sIx xs.length 0 lo)
theorem F7 (xs:List V) (lo hi:Option Int):(Bq xs lo hi).length<=xs.length:=by
 unfold Bq
 rw [List.length_take,List.length_drop]
 omega
end
end L2
namespace L2
open PySem PySem.Spec PyProof.Rows
variable {i : Int} {j : Nat} {α : Type} {xs : List α} {v u : Value} {pins : List (Addr × Obj)} {σ : St} {H : Hp} {s : Shared} {p : Addr} {y : V}
def Dp (n:Nat) (i:Int):Option Nat:=if 0<=i then(if i<n then some i.toNat else none) else if -(n:Int)<=i then some (i+n).toNat else none
def BX {α:Type} (xs:List α) (i:Int):Option α:=(Dp xs.length i).bind λj=>xs[j]?
theorem Kj {n:Nat} (h:Dp n i=some j):seqIndex? i n=some j/\j<n/\ -(n:Int)<=i/\i<n:=by
 unfold Dp at h
 by_cases h0:0<=i
 ·rw [if_pos h0] at h
  by_cases h1:i<n
  ·rw [if_pos h1] at h
   have e:i.toNat=j:=Option.some.inj h
   exact⟨by rw [seqIndex_of h0 h1,e],by omega,by omega,h1⟩
  ·rw [if_neg h1] at h;cases h
 ·rw [if_neg h0] at h
  by_cases h1: -(n:Int)<=i
  ·rw [if_pos h1] at h
   have e:(i+n).toNat=j:=Option.some.inj h
   exact⟨by rw [seqIndex_neg (by omega) h1,e],by omega,h1,by omega⟩
  ·rw [if_neg h1] at h;cases h
theorem Kk {v:α} (h:BX xs i=some v):∃j,seqIndex? i xs.length=some j/\xs[j]? =some v/\j<xs.length/\ -(xs.length:Int)<=i/\i<xs.length:=by
 unfold BX at h
 cases e:Dp xs.length i with
 | none=>rw [e] at h;cases h
 | some j=>
  rw [e] at h
  obtain⟨h1,h2,h3,h4⟩:=Kj e
  exact⟨j,h1,h,h2,h3,h4⟩
theorem C9 {v:α} (h:xs[j]? =some v):BX xs (j:Int)=some v:=by
 have hj:j<xs.length:=(List.getElem?_eq_some_iff.mp h).1
 have e:Dp xs.length (j:Int)=some j:=by
  unfold Dp
  rw [if_pos (by omega),if_pos (by omega)];simp
 unfold BX;rw [e];exact h
theorem Kl (xs:List α) (v:α):BX (xs++[v]) (-1)=some v:=by
 have hl:(xs++[v]).length=xs.length+1:=by simp
 have e:Dp (xs++[v]).length (-1)=some xs.length:=by
  unfold Dp
  rw [hl,if_neg (by decide),if_pos (by omega)]
  congr 1
  omega
 unfold BX
 rw [e]
 show(xs++[v])[xs.length]? =some v
 simp
def NL (b:Expr):Prop:=∀o i,subscripted b false o i=operate [o,i] (getItem o i)
def Fc (X:Cx) (r:R2):Prop:=
 ∀(value slice:Expr) (pins:List (Addr×Obj)) (s:Shared) (σ:St) (H:Hp) (x y:V) (v u:Value) (Q:VK),Ae X pins σ H s->AH x v->AH y u->r x y H Q->
  subscripted slice false v u=operate [v,u] (getItem v u)->wpAny (model X.prog X.w) X.A (subscriptTail value slice v u) (EP X pins σ Q) X.xe s
def NM (X:Cx) (id:String) (r:V->List V->Hp->VK->Prop):Prop:=
 ∀(pins:List (Addr×Obj)) (s:Shared) (σ:St) (H:Hp) (x:V) (xs:List V) (v:Value) (us:List Value) (Q:VK),Ae X pins σ H s->AH x v->Ar xs us->r x xs H Q->
  wpAny (model X.prog X.w) X.A (call (.builtin id) (v::us)) (EP X pins σ Q) X.xe s
section
variable {X : Cx} {a b : Expr} {ta tb : TE} {pos : Pos}
theorem Az {r:R2} (hr:Fc X r) (ha:PE X a ta) (hb:PE X b tb) (hs:NL b):PE X (.Subscript a b pos) (CF r ta tb):=by
 intro pins s σ H Q I h
 exact Subscript_ (Ij ha hb I h λv u s2 x y H2 I2 rx ry q=>hr a b pins s2 σ H2 x y v u Q I2 rx ry q (hs _ _))
def Iv (K:PySem.W.Frag):R2:=λx y H Q=>∃p xs i v,x= .ref p/\y= .int i/\Ai K H p xs/\BX xs i=some v/\Q v H
def Fd (K:PySem.W.Frag):R2:=λx y H Q=>∃p xs i v,x= .ref p/\y= .int i/\Ac K H p xs/\BX xs i=some v/\Q v H
theorem NN:Fc X (Iv X.K):=by
 intro value slice pins s σ H x y v u Q I rx ry h hs
 obtain⟨p,xs,i,z,rfl,rfl,hq,he,q⟩:=h
 cases rx
 obtain⟨t,rfl⟩:=ry
 obtain⟨its,r,pl,hz⟩:=I.list hq
 obtain⟨j,h1,h2,h3,h4,h5⟩:=Kk he
 obtain⟨w,ew,rw'⟩:=r.get h2
 have hl:=r.length
 have hn:=F5
 have fin:EP X pins σ Q w s:=⟨z,H,I,rw',q⟩
 by_cases h0:0<=i
 ·have hj:i.toNat=j:=by
   rw [seqIndex_of h0 h5] at h1
   exact Option.some.inj h1
  exact item_listR pl.isList h0 (by omega) (by rw [hj];simpa using ew) fin hs
 ·have hj:(i+(its.toArray.size:Int)).toNat=j:=by
   rw [seqIndex_neg (by omega) h4] at h1
   rw [List.size_toArray,<-hl]
   exact Option.some.inj h1
  exact subscriptTail_builtinR (x:=w) pl.isList.typeIs slot_list_getitem.lookup
   (wpAny_getItem_list_neg (Q:=λr s'=>r=w/\EP X pins σ Q r s') pl.isList (by omega) (by rw [List.size_toArray]<;>omega) (by omega) (by rw [hj];simpa using ew) ⟨rfl,fin⟩) hs
theorem NO:Fc X (Fd X.K):=by
 intro value slice pins s σ H x y v u Q I rx ry h hs
 obtain⟨p,xs,i,z,rfl,rfl,hq,he,q⟩:=h
 cases rx
 obtain⟨t,rfl⟩:=ry
 obtain⟨its,r,pl,hz⟩:=I.tuple hq
 obtain⟨j,h1,h2,h3,h4,h5⟩:=Kk he
 obtain⟨w,ew,rw'⟩:=r.get h2
 have hl:=r.length
 have hn:=F5
 have fin:EP X pins σ Q w s:=⟨z,H,I,rw',q⟩
 exact subscriptTail_builtinR (x:=w) pl.typeIs slot_tuple_getitem.lookup
  (getItem_tuple (j:=j) (Q:=λr s'=>r=w/\EP X pins σ Q r s') pl (by omega) (by omega) (by rw [List.size_toArray,<-hl];exact h1) (by simpa using ew) ⟨rfl,fin⟩) hs
theorem NP (its:List Value) (n j:Nat) (u:Value):Obj.mapSeq (·.setIfInBounds j u) { cls:= .type "list",data:= .seq its.toArray n}= { cls:= .type "list",data:= .seq (its.set j u).toArray n}:=by
 simp [Obj.mapSeq]
theorem Ae.lst {xs:List V} (I:Ae X pins σ H s) (h:H p=some (.lst xs)):
  ∃(its:List Value) (n:Nat),Ar xs its/\s.heap.get? p=some { cls:= .type "list",data:= .seq its.toArray n}/\xs.length<=sizeLine:=by
 obtain⟨z,its,n,r,e⟩:=I.hok p _ h
 exact⟨its,n,r,e,z⟩
theorem Ae.lstUpd {xs ys:List V}{its its':List Value}{n n':Nat}{f:Obj->Obj} (I:Ae X pins σ H s) (h:H p=some (.lst xs))
  (ho:s.heap.get? p=some { cls:= .type "list",data:= .seq its.toArray n}) (hf:f { cls:= .type "list",data:= .seq its.toArray n}= { cls:= .type "list",data:= .seq its'.toArray n'}) (r:Ar ys its') (hz:ys.length<=sizeLine) (t:Nat):
  Ae X pins σ (upd H p (.lst ys)) { s with heap:=s.heap.update p f,toks:=t}:=by
 have e:(s.heap.update p f).get? p=some { cls:= .type "list",data:= .seq its'.toArray n'}:=by
  rw [Heap.get?_update_self f ho (by rw [hf]<;>rfl),hf]
 refine I.write (x:=p) (e:=p) (by rw [h];trivial) (.inl rfl) (λb u hb q=>(Heap.get?_update_other _ _ (Ne.symm hb)).trans q) ⟨_,e⟩ ?_
 exact⟨hz,its',n',r,e⟩
def NQ:V->V->V->Hp->(Hp->Prop)->Prop:=λo i v H Q=>∃p xs k j,o= .ref p/\i= .int k/\H p=some (.lst xs)/\Dp xs.length k=some j/\Q (upd H p (.lst (xs.set j v)))
theorem Km:JQ X NQ:=by
 intro pins s σ H o i v ov iv u Q I ro ri rv h
 obtain⟨p,xs,k,j,rfl,rfl,hp,hj,q⟩:=h
 cases ro
 obtain⟨t,rfl⟩:=ri
 obtain⟨its,n,r,ho,hz⟩:=I.lst hp
 obtain⟨h1,h2,h3,h4⟩:=Kj hj
 have hl:=r.length
 have hn:=F5
 have I':Ae X pins σ (upd H p (.lst (xs.set j v))) { s with heap:=s.heap.update p (Obj.mapSeq (·.setIfInBounds j u))}:=
  I.lstUpd hp ho (NP its n j u) (r.set rv j) (by rw [List.length_set];exact hz) s.toks
 by_cases h0:0<=k
 ·have hk:k.toNat=j:=by
   rw [seqIndex_of h0 h4] at h1
   exact Option.some.inj h1
  exact PySem.W.ki_setAt ho h0 (by omega) (by rw [List.size_toArray,<-hl];exact h4) (by rw [hk];exact⟨_,I',q⟩)
 ·have hk:(k+(its.toArray.size:Int)).toNat=j:=by
   rw [seqIndex_neg (by omega) h3] at h1
   rw [List.size_toArray,<-hl]
   exact Option.some.inj h1
  exact PySem.W.ki_setBack ho (by omega) (by rw [List.size_toArray,<-hl];exact h3) (by omega) (by rw [hk];exact⟨_,I',q⟩)
theorem NR (lo hi:Option Int) (n:Nat):(sliceBounds lo hi none n).1=((HT.sIx n 0 lo:Nat):Int)/\(sliceBounds lo hi none n).2.1=((HT.sIx n n hi:Nat):Int)/\(sliceBounds lo hi none n).2.2=1:=by
 refine⟨?_,?_,rfl⟩
 ·cases lo with
  | none=>simp [sliceBounds,HT.sIx]
  | some i=>
   simp only [sliceBounds,HT.sIx,Option.getD_none,show(1:Int) >0 by decide,if_true]
   by_cases h:i<0
   ·simp only [h,if_true]<;>omega
   ·simp only [h,if_false]<;>omega
 ·cases hi with
  | none=>simp [sliceBounds,HT.sIx]
  | some i=>
   simp only [sliceBounds,HT.sIx,Option.getD_none,show(1:Int) >0 by decide,if_true]
   by_cases h:i<0
   ·simp only [h,if_true]<;>omega
   ·simp only [h,if_false]<;>omega
theorem NS (its:List Value) (lo hi:Option Int):slicePick its.toArray lo hi none=((its.drop (HT.sIx its.length 0 lo)).take (HT.sIx its.length its.length hi-HT.sIx its.length 0 lo)).toArray:=by
 obtain⟨h1,h2,h3⟩:=NR lo hi its.toArray.size
 unfold slicePick
 rw [h1,h2,h3]
 simp only [sliceRange_one,pick_run,List.size_toArray]<;>rfl
def Kn (K:PySem.W.Frag):V->Option Int->Option Int->Hp->VK->Prop:=λx lo hi H Q=>∃a xs,x= .ref a/\Ai K H a xs/\∀p,H p=none->Q (.ref p) (upd H p (.lst (Bq xs lo hi)))
theorem NT:F6 X (Kn X.K):=by
 intro pins s σ H x v vl vu lo hi sl Q I rx hs pl pu h
 obtain⟨a,xs,rfl,hx,q⟩:=h
 cases rx
 obtain⟨its,r,ht,hz⟩:=I.list hx
 have hlen:=r.length
 refine⟨"list",_,slot_list_getitem.lookup,ht.isList.typeIs,?_⟩
 refine wpAny_getItem_list_slice ht.isList hs pl pu .none (by simp) ?_ (by rw [List.size_toArray]<;>omega)
 rw [NS,<-hlen]
 refine⟨.ref s.heap.objs.size,_,I.laid (t':=s.toks) (o:= .lst (Bq xs lo hi)) (λb ob q=>Heap.get?_push_of_some _ q) (Nat.le_refl _) ?_,rfl,q _ (I.hok.fresh (Nat.le_refl _))⟩
 exact⟨Nat.le_trans (F7 xs lo hi) hz,_,0,(r.drop (HT.sIx xs.length 0 lo)).take (HT.sIx xs.length xs.length hi-HT.sIx xs.length 0 lo),Heap.get?_push_size _ rfl⟩
def CZ:V->Bool
 | .non=>true
 | .bl _=>true
 | .int _=>true
 | .str _=>true
 | _=>false
def Da:V->V->Bool
 | .non,.non=>true
 | .bl a,.bl b=>a==b
 | .bl a,.int b=>(if a then 1 else 0)==b
 | .int a,.bl b=>a==(if b then 1 else 0)
 | .int a,.int b=>a==b
 | .str a,.str b=>a==b
 | _,_=>false
theorem NU {A:Around}{x:V} (ry:AH y u) (rx:AH x v) (fy:CZ y=true) (fx:CZ x=true):SeqAt.EqAt A s u v (Da y x):=by
 cases y with
 | non=>
  cases ry
  cases x with
  | non=>cases rx;exact SeqAt.EqAt.same _
  | bl b=>cases rx;exact SeqAt.EqAt.none_bool b
  | int b=>obtain⟨t,rfl⟩:=rx;exact SeqAt.EqAt.none_int b t
  | str b=>obtain⟨t,rfl⟩:=rx;exact SeqAt.EqAt.none_str b t
  | _=>exact absurd (show false=true from fx) Bool.false_ne_true
 | bl a=>
  cases ry
  cases x with
  | non=>cases rx;exact SeqAt.EqAt.bool_none a
  | bl b=>cases rx;exact SeqAt.EqAt.bool_bool a b
  | int b=>obtain⟨t,rfl⟩:=rx;exact SeqAt.EqAt.bool_int a b t
  | str b=>obtain⟨t,rfl⟩:=rx;exact SeqAt.EqAt.bool_str a b t
  | _=>exact absurd (show false=true from fx) Bool.false_ne_true
 | int a=>
  obtain⟨t',rfl⟩:=ry
  cases x with
  | non=>cases rx;exact SeqAt.EqAt.int_none a t'
  | bl b=>cases rx;exact SeqAt.EqAt.int_bool a t' b
  | int b=>obtain⟨t,rfl⟩:=rx;exact SeqAt.EqAt.int_int a t' b t
  | str b=>obtain⟨t,rfl⟩:=rx;exact SeqAt.EqAt.int_str a t' b t
  | _=>exact absurd (show false=true from fx) Bool.false_ne_true
 | str a=>
  obtain⟨t',rfl⟩:=ry
  cases x with
  | non=>cases rx;exact SeqAt.EqAt.str_none a t'
  | bl b=>cases rx;exact SeqAt.EqAt.str_bool a t' b
  | int b=>obtain⟨t,rfl⟩:=rx;exact SeqAt.EqAt.str_int a t' b t
  | str b=>obtain⟨t,rfl⟩:=rx;exact SeqAt.EqAt.str_str a t' b t
  | _=>exact absurd (show false=true from fx) Bool.false_ne_true
 | _=>exact absurd (show false=true from fy) Bool.false_ne_true
def Dq (x:V) (u:Value):Bool:=match u with
 | .none=>Da .non x
 | .bool b=>Da (.bl b) x
 | .int i _=>Da (.int i) x
 | .str z _=>Da (.str z) x
 | _=>false
theorem Ko {x:V} (r:AH y u) (f:CZ y=true):Dq x u=Da y x:=by
 cases y with
 | non=>cases r;rfl
 | bl b=>cases r;rfl
 | int i=>obtain⟨t,rfl⟩:=r;rfl
 | str z=>obtain⟨t,rfl⟩:=r;rfl
 | _=>exact absurd (show false=true from f) Bool.false_ne_true
theorem Iw {x:V}:∀ {xs:List V}{us:List Value},Ar xs us->xs.all CZ=true->us.any (Dq x)=xs.any λy=>Da y x
 | _,_,.nil,_=>rfl
 | y::xs,u::us,.cons r t,f=>by
  rw [List.all_cons,Bool.and_eq_true] at f
  rw [List.any_cons,List.any_cons,Ko r f.1,Iw t f.2]
theorem Ix {A:Around}{x:V} (rx:AH x v) (fx:CZ x=true):∀ {xs:List V}{us:List Value},Ar xs us->xs.all CZ=true->∀u∈us,SeqAt.EqAt A s u v (Dq x u)
 | _,_,.nil,_=>λu hu=>by cases hu
 | y::xs,u::us,.cons r t,f=>λu' hu=>by
  rw [List.all_cons,Bool.and_eq_true] at f
  rcases List.mem_cons.mp hu with rfl | hu
  ·rw [Ko r f.1];exact NU r rx f.1 fx
  ·exact Ix rx fx t f.2 u' hu
def BQ (x:V) (xs:List V):Bool:=xs.any λy=>Da y x
def Kp (K:PySem.W.Frag) (neg:Bool):R2:=λx y H Q=>∃p xs,y= .ref p/\(Ai K H p xs\/Ac K H p xs)/\CZ x=true/\xs.all CZ=true/\Q (.bl (if neg then !BQ x xs else BQ x xs)) H
theorem NV:OpR X (compareOp .In) (Kp X.K false):=by
 intro pins s σ H x y v u Q I rx ry h
 obtain⟨p,xs,rfl,hq,fx,fs,q⟩:=h
 cases ry
 rcases hq with hq | hq
 ·obtain⟨its,r,pl,hz⟩:=I.list hq
  refine SeqAt.in_listAt (Dq x) pl.isList (λw hw=>Ix rx fx r fs w (by simpa using hw)) ⟨.bl _,H,I,rfl,?_⟩
  rw [show its.toArray.any (Dq x)=its.any (Dq x) by simp,Iw r fs]
  exact q
 ·obtain⟨its,r,pl,hz⟩:=I.tuple hq
  refine SeqAt.in_tupleAt (Dq x) pl (λw hw=>Ix rx fx r fs w (by simpa using hw)) ⟨.bl _,H,I,rfl,?_⟩
  rw [show its.toArray.any (Dq x)=its.any (Dq x) by simp,Iw r fs]
  exact q
theorem NW:BH X (.builtin "len") (λxs H Q=>∃p ys,xs=[.ref p]/\(Ai X.K H p ys\/Ac X.K H p ys)/\Q (.int ys.length) H):=by
 intro pins s σ H xs us Q I r h
 obtain⟨p,ys,rfl,hq,q⟩:=h
 obtain⟨u,rfl,rx⟩:=Fb r
 cases rx
 have hn:=F5
 rcases hq with hq | hq
 ·obtain⟨its,r',pl,hz⟩:=I.list hq
  have hlen:=r'.length
  exact Calls.call_len_list pl.isList (by simp only [List.size_toArray]<;>omega) ⟨.int ys.length,H,I.tok _,⟨s.toks+1,by rw [List.size_toArray,hlen]⟩,q⟩
 ·obtain⟨its,r',pl,hz⟩:=I.tuple hq
  have hlen:=r'.length
  exact len_tuple pl (by simp only [List.size_toArray]<;>omega) ⟨.int ys.length,H,I.tok _,⟨s.toks+1,by rw [List.size_toArray,hlen]⟩,q⟩
theorem NX:BH X (.type "list") (λxs H Q=>∃p ys,xs=[.ref p]/\(Ai X.K H p ys\/Ac X.K H p ys)/\∀l,H l=none->Q (.ref l) (upd H l (.lst ys))):=by
 intro pins s σ H xs us Q I r h
 obtain⟨p,ys,rfl,hq,q⟩:=h
 obtain⟨u,rfl,rx⟩:=Fb r
 cases rx
 have fin:∀(its:List Value),Ar ys its->ys.length<=sizeLine->∀(h':Heap) (c':Nat),(∀b o',s.heap.get? b=some o'->h'.get? b=some o')->
   h'.get? s.heap.objs.size=some { cls:= .type "list",dict:=none,data:= .seq its.toArray c',slots:= #[]}->EP X pins σ Q (.ref s.heap.objs.size) { s with heap:=h'}:=λits r' hz h' c' kp e=>
  ⟨.ref s.heap.objs.size,_,I.laid (t':=s.toks) kp (Nat.le_refl _) (show ObjOk X.prog X.w _ h' _ (.lst ys) from⟨hz,its,c',r',e⟩),rfl,q _ (I.hok.fresh (Nat.le_refl _))⟩
 rcases hq with hq | hq
 ·obtain⟨its,r',pl,hz⟩:=I.list hq
  have hlen:=r'.length
  obtain⟨o,ho,hc,n,hd⟩:=pl.isList
  exact call_list_seq p (.inl rfl) ho hc hd (λh' c' kp e=>fin its r' hz h' c' kp e) (by simp only [List.size_toArray]<;>omega)
 ·obtain⟨its,r',pl,hz⟩:=I.tuple hq
  have hlen:=r'.length
  obtain⟨o,ho,hc,n,hd⟩:=pl
  exact call_list_seq p (.inr rfl) ho hc hd (λh' c' kp e=>fin its r' hz h' c' kp e) (by simp only [List.size_toArray]<;>omega)
theorem NY:BH X (.type "tuple") (λxs H Q=>∃p ys,xs=[.ref p]/\((Ai X.K H p ys/\∀l,H l=none->Q (.ref l) (upd H l (.tup ys)))\/(Ac X.K H p ys/\Q (.ref p) H))):=by
 intro pins s σ H xs us Q I r h
 obtain⟨p,ys,rfl,h⟩:=h
 obtain⟨u,rfl,rx⟩:=Fb r
 cases rx
 rcases h with⟨hq,q⟩ | ⟨hq,q⟩
 ·obtain⟨its,r',pl,hz⟩:=I.list hq
  have hlen:=r'.length
  refine call_tuple_list pl.isList (λh' kp=>?_) (by simp only [List.size_toArray]<;>omega)
  have I1:Ae X pins σ H { s with heap:=h'}:=I.kept (t':=s.toks) kp
  have I2:Ae X pins σ (upd H h'.objs.size (.tup ys)) { s with heap:=h'.push { cls:= .type "tuple",data:= .seq its.toArray}}:=
   I1.laid (t':=s.toks) (λb o e=>Heap.get?_push_of_some _ e) (Nat.le_refl _) (show ObjOk X.prog X.w _ _ _ (.tup ys) from⟨hz,its,r',IsTup.new _ _⟩)
  exact⟨.ref h'.objs.size,_,I2,rfl,q _ (I1.hok.fresh (Nat.le_refl _))⟩
 ·obtain⟨its,r',pl,hz⟩:=I.tuple hq
  exact call_tuple_same pl ⟨.ref p,H,I,rfl,q⟩
def Kq (K:PySem.W.Frag) (T:String) (x:V) (H:Hp):Prop:=match x with
 | .str _=>T="str"
 | .int _=>T="int"
 | .ref p => (T = "list" /\ ∃ xs, Ai K H p xs) \/ (T = "tuple" /\ ∃ o, K.lookup p = some o /\ o.cls = .type "tuple" /\ o.dict = none) \/
   (T="dict" /\((∃kvs,H p=some (.dK kvs))\/ ∃kvs,H p=some (.dT kvs)))\/(T="set" /\∃S n,H p=some (.set S n))
 | _=>False
theorem NZ {T:String}{x:V} (I:Ae X pins σ H s) (r:AH x v) (ty:Kq X.K T x H):
  s.TypeIs v T/\∀a,v= .ref a->∃ob,s.heap.get? a=some ob/\ob.dict=none:=by
 cases x with
 | str z=>
  obtain⟨t,rfl⟩:=r
  cases(show T="str" from ty)
  exact⟨typeIs_str s z t,λ_ e=>nomatch e⟩
 | int i=>
  obtain⟨t,rfl⟩:=r
  cases(show T="int" from ty)
  exact⟨typeIs_int s i t,λ_ e=>nomatch e⟩
 | ref p=>
  cases r
  rcases ty with⟨rfl,xs,hq⟩ | ⟨rfl,o,hk,hc,hd⟩ | ⟨rfl,hk⟩ | ⟨rfl,S,n,hk⟩
  ·obtain⟨its,_,pl,_⟩:=I.list hq
   refine⟨pl.isList.typeIs,λa e=>?_⟩
   cases e
   obtain⟨o,n,e,c,hd,_⟩:=pl
   exact⟨o,e,hd⟩
  ·refine⟨⟨o,I.kIn p o hk,hc⟩,λa e=>?_⟩
   cases e
   exact⟨o,I.kIn _ o hk,hd⟩
  ·have z:∃o,s.heap.get? p=some o/\o.ExactDict:=by
    rcases hk with⟨kvs,hk⟩ | ⟨kvs,hk⟩
    ·obtain⟨_,_,_,_,o,_,_,e,ex,_⟩:=I.hok p _ hk
     exact⟨o,e,ex⟩
    ·obtain⟨_,_,_,_,o,_,_,e,ex,_⟩:=I.hok p _ hk
     exact⟨o,e,ex⟩
   obtain⟨o,e,ex⟩:=z
   refine⟨⟨o,e,ex.1⟩,λa e2=>?_⟩
   cases e2
   exact⟨o,e,ex.2.1⟩
  ·obtain⟨o,_,_,_,e,ex,_⟩:=I.hok p _ hk
   refine⟨⟨o,e,ex.1⟩,λa e2=>?_⟩
   cases e2
   exact⟨o,e,ex.2.1⟩
 | _=>exact False.elim ty
def N3 (K:PySem.W.Frag) (T:String) (r:V->List V->Hp->VK->Prop) (to:TE) (t:TA):TE:=fun σ H Q=>to σ H λx H1=>Kq K T x H1/\t σ H1 λxs H2=>r x xs H2 Q
variable {o e : Expr} {es : List Expr} {to : TE} {t : TA} {name : Str} {apos cpos : Pos} {T id : String} {r : V -> List V -> Hp -> VK -> Prop}
theorem CD (pa:PlainAttrs T) (slot:Slot T name id) (hty:typeOf (.builtin id)=pure (.type "method_descriptor")) (hm:NM X id r) (ho:PE X o to) (ha:PA X (e::es) t)
  (hbase:attributeBase o name X.env (eval o X.env)=eval o X.env:=by rfl)
  (hfew : ((backTo cpos (starEach (e :: es) X.env)).all (λx => !x.1) && (backToKw cpos (keywordEach [] X.env)).all (λx => x.1.isSome)
   && decide ((e::es).length+([]:List Keyword).length+(if ([]:List Keyword).isEmpty then 0 else 1)<30))=true:=by rfl)
  (hline:(apos.endLine==cpos.line)=true:=by rfl) (hs:starEach (e::es) X.env=(false,eval e X.env)::starEach es X.env:=by rfl) (hplain:(backTo cpos (starEach es X.env)).any (·.1)=false:=by rfl):
  PE X (.Call (.Attribute o name apos) (e::es) [] cpos) (N3 X.K T r to t):=by
 intro pins s σ H Q I h
 refine wpAny_Call_method_late hbase hfew hline rfl (Av (ho pins s σ H _ I h) λv s1 ⟨x,H1,I1,r1,ty,q1⟩=>?_)
 obtain⟨h1,h2⟩:=NZ I1 r1 ty
 refine⟨T,id,pa,slot,hty,h1,h2,?_⟩
 have hA:=ha cpos pins s1 σ H1 _ I1 q1
 rw [hs] at hA ⊢
 refine Calls.callWith_builtin (by show(false || (backTo cpos (starEach es X.env)).any (·.1))=false;rw [hplain]<;>rfl) (Calls.evalArgs_plain ?_)
 exact Av hA λus s2 ⟨vs,H2,I2,r2,q2⟩=>hm pins s2 σ H2 x vs v us Q I2 r1 r2 q2
end
end L2
namespace L2
open PySem PySem.Spec PyProof.Rows
variable {us its : List Value} {t' : Nat}
def Kr (X:Cx) (id:String) (r:V->List V->Hp->VK->Prop):Prop:=
 ∀(pins:List (Addr×Obj)) (s:Shared) (σ:St) (H:Hp) (x:V) (xs:List V) (v:Value) (us:List Value) (Q:VK),Ae X pins σ H s->AH x v->Ar xs us->r x xs H Q->
  wpAny (model X.prog X.w) X.A (call (.builtin id) (v::us)) (EP X pins σ Q) X.xe s
theorem Ar.one:∀ {x:V}{us:List Value},Ar [x] us->∃u,us=[u]/\AH x u
 | _,_,.cons r .nil=>⟨_,rfl,r⟩
theorem Ar.two:∀ {x y:V}{us:List Value},Ar [x,y] us->∃u v,us=[u,v]/\AH x u/\AH y v
 | _,_,_,.cons r (.cons q .nil)=>⟨_,_,rfl,r,q⟩
theorem Ar.reverse {xs:List V} (h:Ar xs us):Ar xs.reverse us.reverse:=by
 induction h with
 | nil=>exact .nil
 | cons r t ih=>rw [List.reverse_cons,List.reverse_cons];exact Ar.append ih (.cons r .nil)
theorem Ar.rep {xs:List V} (h:Ar xs us):∀k:Nat,Ar (List.replicate k xs).flatten (List.replicate k us).flatten
 | 0=> .nil
 | k+1=>by
  rw [List.replicate_succ,List.replicate_succ,List.flatten_cons,List.flatten_cons]
  exact Ar.append h (Ar.rep h k)
theorem Ks (its:List Value):∀(k:Nat) (acc:List Value),
  List.foldl (λx1 x2=>x1++x2) acc.toArray (List.replicate k its.toArray)=(acc++(List.replicate k its).flatten).toArray
 | 0,acc=>by simp
 | k+1,acc=>by
  have e:acc.toArray++its.toArray=(acc++its).toArray:=by simp
  have e2:(acc++its)++(List.replicate k its).flatten=acc++(List.replicate (k+1) its).flatten:=by
   rw [List.replicate_succ,List.flatten_cons,List.append_assoc]
  rw [<-e2,<-Ks its k (acc++its),<-e,List.replicate_succ,List.foldl_cons]
section
variable {X : Cx} {pins : List (Addr × Obj)} {σ : St} {H : Hp} {s : Shared} {l b : Addr} {xs ys zs : List V}
theorem Ae.lset {its':List Value}{n:Nat}{f:Array Value->Array Value} (I:Ae X pins σ H s) (hH:H l=some (.lst xs))
  (e:s.heap.get? l=some { cls:= .type "list",data:= .seq its.toArray n}) (hf:f its.toArray=its'.toArray) (hv:Ar ys its') (hz:ys.length<=sizeLine):
  Ae X pins σ (upd H l (.lst ys)) { s with heap:=s.heap.update l (Obj.mapSeq f),toks:=t'}:=by
 have q:=PySem.IsL.update e f
 rw [hf] at q
 refine I.write (x:=l) (e:=l) (by rw [hH];exact trivial) (.inl rfl) (λb' u hb hu=>(Heap.get?_update_other s.heap (Obj.mapSeq f) (Ne.symm hb)).trans hu) ⟨_,q⟩ ?_
 exact⟨hz,its',_,hv,q⟩
theorem Ae.lnew (I:Ae X pins σ H s) (hv:Ar ys its) (hz:ys.length<=sizeLine):
  Ae X pins σ (upd H s.heap.objs.size (.lst ys)) { s with heap:=s.heap.push { cls:= .type "list",data:= .seq its.toArray},toks:=t'}:=
 I.laid (λ_ _ q=>Heap.get?_push_of_some _ q) (Nat.le_refl _) ⟨hz,its,0,hv,Heap.get?_push_size _ rfl⟩
theorem Ae.fresh (I:Ae X pins σ H s):H s.heap.objs.size=none:=I.hok.fresh (Nat.le_refl _)
theorem Ae.lstM (I:Ae X pins σ H s) (hH:H l=some (.lst xs)):xs.length<=sizeLine/\∃(its:List Value) (n:Nat),Ar xs its/\xs.length=its.length/\s.heap.get? l=some { cls:= .type "list",data:= .seq its.toArray n}:=by
 obtain⟨z,its,n,r,e⟩:=I.hok l _ hH
 exact⟨z,its,n,r,r.length,e⟩
theorem N4 {n:Nat} (h:n<=sizeLine):Builtin.List.listTooLong n=false:=by
 unfold Builtin.List.listTooLong
 exact decide_eq_false (by omega)
end
section
variable {X : Cx}
def N5:V->List V->Hp->VK->Prop:=λx vs H Q=>∃l xs y,x= .ref l/\vs=[y]/\H l=some (.lst xs)/\xs.length<sizeLine/\Q .non (upd H l (.lst (xs++[y])))
theorem CI:Kr X "list.append" N5:=by
 intro pins s σ H x vs v us Q I rx rv h
 obtain⟨l,xs,y,rfl,rfl,hH,hz,q⟩:=h
 cases rx
 obtain⟨u,rfl,ru⟩:=rv.one
 obtain⟨z,its,n,r,hl,e⟩:=I.lstM hH
 refine call_meets F.slot_list_append ⟨_,e,rfl⟩ F.entry_list_append (F.args_list_append_2 _ _) (PySem.list_append l its.toArray n u (by rw [List.size_toArray];omega)) ⟨e,?_⟩
 refine⟨.non,_,I.lset (its':=its++[u]) hH e (by simp) (r.append (.cons ru .nil)) ?_,rfl,q⟩
 rw [List.length_append,List.length_singleton]
 omega
def N6:V->List V->Hp->VK->Prop:=λx vs H Q=>∃l b xs zs,x= .ref l/\vs=[.ref b]/\H l=some (.lst xs)/\H b=some (.lst zs)/\xs.length+zs.length<=sizeLine/\Q .non (upd H l (.lst (xs++zs)))
theorem N7:Kr X "list.extend" N6:=by
 intro pins s σ H x vs v us Q I rx rv h
 obtain⟨l,b,xs,zs,rfl,rfl,hH,hB,hz,q⟩:=h
 cases rx
 obtain⟨u,rfl,ru⟩:=rv.one
 cases ru
 obtain⟨z,its,n,r,hl,e⟩:=I.lstM hH
 obtain⟨z2,its2,n2,r2,hl2,e2⟩:=I.lstM hB
 have hsz:its.toArray.size+its2.toArray.size<=sizeLine:=by rw [List.size_toArray,List.size_toArray];omega
 have hlong:¬(!its.toArray.isEmpty && Builtin.List.listTooLong (its.toArray.size+its2.toArray.size))=true:=by
  rw [N4 hsz,Bool.and_false]
  exact Bool.false_ne_true
 refine call_meets F.slot_list_extend ⟨_,e,rfl⟩ F.entry_list_extend (F.args_list_extend_2 _ _)
  (AutoSeq1.list_extend_list_list_0 l its.toArray n b its2.toArray n2 hlong (by rw [List.size_toArray];omega) (by omega)) ⟨e,e2,?_⟩
 refine⟨.non,_,I.lset (its':=its++its2) hH e (by simp) (r.append r2) ?_,rfl,q⟩
 rw [List.length_append]
 omega
def N8:R2:=λx y H Q=>∃l b xs zs,x= .ref l/\y= .ref b/\H l=some (.lst xs)/\H b=some (.lst zs)/\xs.length+zs.length<=sizeLine/\∀p,H p=none->Q (.ref p) (upd H p (.lst (xs++zs)))
theorem Kt:OpR X (binaryOp .Add) N8:=by
 intro pins s σ H x y v u Q I rx ry h
 obtain⟨l,b,xs,zs,rfl,rfl,hH,hB,hz,q⟩:=h
 cases rx
 cases ry
 obtain⟨z,its,n,r,hl,e⟩:=I.lstM hH
 obtain⟨z2,its2,n2,r2,hl2,e2⟩:=I.lstM hB
 refine PySem.P.add_list e e2 ?_ (by rw [List.size_toArray,List.size_toArray];omega)
 have ea:its.toArray++its2.toArray=(its++its2).toArray:=by simp
 rw [ea]
 exact⟨.ref _,_,I.lnew (t':=s.toks) (r.append r2) (by rw [List.length_append];omega),rfl,q _ I.fresh⟩
theorem Ku {α:Type} (xs:List α) (k:Nat):(List.replicate k xs).flatten.length=k * xs.length:=by
 induction k with
 | zero=>simp
 | succ k ih=>rw [List.replicate_succ,List.flatten_cons,List.length_append,ih,Nat.succ_mul,Nat.add_comm]
end
section
variable {prog : Program} {w : World} {A : Around} {E : Value -> Shared -> Prop} {s : Shared}
end
section
variable {X : Cx}
end
end L2
namespace Att
open PySem PySem.W PySem.Calls PyProof.Rows
theorem N9 {P:Params}{h:Heap}:∀(ns:List Int) (vs:List Value),WellAll P h vs (ns.map WData.int)->IntsAre vs ns:=by
 intro ns
 induction ns with
 | nil=>
  intro vs w
  rw [List.map_nil] at w
  cases w
  exact .nil
 | cons n ns ih=>
  intro vs w
  rw [List.map_cons] at w
  cases w with
  | cons a b=>
   cases a
   exact .cons _ _ (ih _ b)
theorem Oa {l:OpenLaw}{n:Nat} (hn:l.most=some n) {P:Params}{h:Heap}{args:List WData}{vals:List Value}
    (hpre:l.row.toRowW.claim.pre args=true) (hwl:WellAll P h vals args):
    ∃a vs ns,vals=[Value.ref a]/\args=[WData.list (ns.map WData.int)]/\h.get? a=some { cls:= .type "list",data:= .seq vs.toArray}/\IntsAre vs ns/\ns.length<=n:=by
  have hsh:WShape.hasAll [] args [.list .int]=true:=(pre_splitW hpre).1
  have hc:l.pre.holds [] { args:=args}=true:=(pre_splitW hpre).2
  obtain⟨d,r,rfl,h1,h2⟩:=hasAllW_cons hsh
  obtain rfl:=hasAllW_nil h2
  obtain⟨xs,rfl,h3⟩:=hasW_list h1
  obtain⟨ns,rfl⟩:=items_int h3
  have hlen:ns.length<=n:=by
    unfold OpenLaw.pre at hc
    have h4:(WTm.not (.lt (.lit (.int (n:Int))) (.len (.arg 0)))).holds [] { args:=[.list (ns.map .int)]}=true:=by
      have h4:=(holds_andW hc).1
      rw [hn] at h4
      exact h4
    have h5:=condW_of h4 (w_not (w_lt w_lit (w_len_list (w_arg rfl))))
    rw [List.length_map] at h5
    refine Nat.le_of_not_lt λq=>?_
    have q':(n:Int)<((ns.length:Nat):Int):=by omega
    first
      | (rw [decide_eq_true q'] at h5;exact absurd h5 (by decide))
      | (simp at h5;omega)
  cases hwl with
  | cons w1 w2 =>
    cases w2
    cases w1 with
    | list ho hall=>exact⟨_,_,ns,rfl,rfl,ho,N9 ns _ hall,hlen⟩
theorem Ob (l:OpenLaw) (args:List WData):l.row.toRowW.claim.post args (.bool true) args=true:=
 postW_of (r:=l.row.toRowW) (X:=(true==true))
  (show WShape.has [] (.bool true) .bool=true by first | rfl | decide | simp [WShape.has,WShape.arms,WShape.armsAll])
  (show(WTm.eq .res (.lit (.bool true))).value [] { args:=args,res:=some (.bool true),after:=args}=some (.bool (true==true)) from w_eq_bool (w_res rfl) w_lit) rfl
theorem attach_call {l:OpenLaw}{n:Nat}{q:Program}{loose:List Str}{XP:(Str->Option Value)->Heap->Prop}{YP:World->Heap->Prop}{d:DefRec}
  (hn:l.most=some n) (hdf:d.params.defaults=[])
  (call : ∀ (w : World) (s₀ s₁ : Shared) (mg mb : Str -> Option Value) (fa : Addr) (o : Obj) (pm cd doc : Value) (a : Addr) (vs : List Value) (ns : List Int),
   Ground q loose [] XP w s₀ mg mb s₁.heap->YP w s₁.heap->
   s₁.heap.get? fa=some o->o.data= .func (docDef d.name d.params d.body d.scope pm cd doc)->s₁.heap.CodeRec cd d.name->mg d.name=some (.ref fa)->
   s₁.heap.get? a=some { cls:= .type "list",data:= .seq vs.toArray}->IntsAre vs ns->ns.length<=n->s₁.gens= #[]->
   codeAny (model l.prog w) callerA (.call (.ref fa) ⟨[.ref a],[]⟩) (λr s'=>r= .ok (.ret (.bool true))/\OldK s₁.heap s'.heap/\s'.os=s₁.os/\AllBare s'.gens) s₁):
  WalkO q loose XP YP l.row.toRowW d [] (λf vs=>PySem.call f vs):=by
 intro w s₀ s₁ mg mb G Y fa o pm cd doc dV kV ho hd hcd hD hmg hg args vals as hpre hlay hrd hwl hlo
 obtain rfl:dV= .none:=Dflts.none hD hdf
 obtain rfl:kV= .none:=Dflts.noKw hD
 obtain⟨a,vs,ns,rfl,rfl,hobj,hints,hlen⟩:=Oa hn hpre hwl
 refine enter_call (codeAny_mono (call w s₀ s₁ mg mb fa o pm cd doc a vs ns G Y ho (fd_plain hd) hcd hmg hobj hints hlen hg) λr s' hq=>?_)
 obtain⟨rfl,h2,h3,h4⟩:=hq
 exact⟨.inl ⟨.bool true,.bool true,[],rfl,λ_=>rfl,.bool true,Ob l _,λ_=>⟨List.Pairwise.nil,λ_ hm=>(nomatch hm)⟩⟩,h2,h3,h4⟩
section
variable {prog : Program} {w : World} {A : Around} {E : Value -> Shared -> Prop} {s : Shared} {K : Frag}
end
end Att
namespace L2
open PySem PySem.Spec PyProof.Rows
theorem Iy:∀ {vs:List Value}{ns:List Int},IntsAre vs ns->Ar (ns.map V.int) vs
 | _,_,.nil=> .nil
 | _,_,.cons n t h=> .cons ⟨t,rfl⟩ (Iy h)
def F8 (H:Hp):Prop:=∀b,H b=none\/ ∃o xs,H b=some (.frz o (.lst xs))
theorem Oc {P:Program}{w:World}{K:PySem.W.Frag}{mg mb:Str->Option Value}{CX:CC}{k:Nat}{fa a:Addr}{fd:FuncData}{x:Str}{sp:Sp}{s₁:Shared}{vs:List Value}{ns:List Int}
  (KX:K.In s₁.heap) (hns:s₁.heap.Ns mainGlobals mg) (hb:s₁.heap.Ns builtinsNs mb) (hbb:∀x:Str,x≠ "__name__" ->mb x=bootBuiltins x) (hlim:s₁.heap.NoLimit) (hg:s₁.gens= #[])
  (ha:s₁.heap.get? a=some { cls:= .type "list",data:= .seq vs.toArray}) (hi:IntsAre vs ns) (hl:ns.length<=sizeLine) (hr:Bo k callerA)
  (F:∀base:Heap,K.In base->base.Ns mainGlobals mg->CY P w K mg base CX k fa fd [x] sp) (hbind:∀(s:Shared) (u:Value),BindsTo s fd ⟨[u],[]⟩ [(x,u)])
  (hsp:∀H:Hp,F8 H->Ai K H a (ns.map V.int)->sp [.ref a] H (λv _=>v= .bl true) λ_ _ _=>False)
  (hCX:∀H e s',CX [] H s₁ (λ_ _ _=>False) e s'->False):
  codeAny (model P w) callerA (.call (.ref fa) ⟨[.ref a],[]⟩) (λr s'=>r= .ok (.ret (.bool true))/\OldK s₁.heap s'.heap/\s'.os=s₁.os/\AllBare s'.gens) s₁:=by
 have rv:=Iy hi
 have lenV:=hi.length
 --from an abstract heap in which nothing but the script may be tracked
 have core:∀H:Hp,F8 H->Ai K H a (ns.map V.int)->HOk P w H s₁.heap->(∀b,H b≠none->b=a)->(H a≠none->K.lookup a=none)->
   codeAny (model P w) callerA (.call (.ref fa) ⟨[.ref a],[]⟩) (λr s'=>r= .ok (.ret (.bool true))/\OldK s₁.heap s'.heap/\s'.os=s₁.os/\AllBare s'.gens) s₁:=by
  intro H hO hS hok hA hK
  have base_of:∀ {b:Addr}{o:Obj},s₁.heap.get? b=some o->H b=none->(Dm s₁.heap H).get? b=some o:=λe n=>M0 e n
  have noA:∀ {b:Addr}{o:Obj}{es:Array DictEntry}{ep:Nat},s₁.heap.get? b=some o->o.data= .dict es ep->H b=none:=λ{b o es ep} e d=>by
   cases q:H b with
   | none=>rfl
   | some u=>
    have e':b=a:=hA b (by rw [q];simp)
    subst e'
    rw [ha] at e;cases e
    have d':Data.seq vs.toArray _=Data.dict es ep:=d
    cases d'
  have nsK:∀ {b:Addr}{m:Str->Option Value},s₁.heap.Ns b m->(Dm s₁.heap H).Ns b m:=λ{b m} ⟨o,es,ep,e,d,r⟩=>⟨o,es,ep,base_of e (noA e d),d,r⟩
  have hKb:K.In (Dm s₁.heap H):=λb o e=>base_of (KX b o e) (by
   cases q:H b with
   | none=>rfl
   | some u=>
    have e':b=a:=hA b (by rw [q];simp)
    subst e'
    rw [hK (by rw [q];simp)] at e;cases e)
  have hM:Mod K mg (Dm s₁.heap H):=⟨hKb,nsK hns,⟨mb,nsK hb,hbb⟩,let ⟨mc,h1,h2⟩:=hlim;⟨mc,nsK h1,h2⟩⟩
  have e0:EB P w K mg (Dm s₁.heap H) callerA [] s₁ H:=⟨rfl,hM,λb o e=>M3 e,Nat.le_of_eq (MZ _ _),trivial,λb hb=>absurd (show b∈([]:List Addr) from hb) (by simp),hok,.of_eq hg⟩
  refine codeAny_mono ((F _ hKb (nsK hns)).run callerA [] s₁ H ⟨[.ref a],[]⟩ [.ref a] [.ref a] _ _ hr e0 (hbind s₁ (.ref a)) (.cons rfl .nil) (hsp H hO hS)) λr s' h=>?_
  cases r with
  | error e=>exact(hCX H e s' h).elim
  | ok fl=>
   cases fl with
   | next=>exact False.elim h
   | brk=>exact False.elim h
   | cont=>exact False.elim h
   | ret u=>
    obtain⟨v,H',os,bare,un,hok',r',q⟩:=h
    have q':v= .bl true:=q
    subst q'
    obtain rfl:u=Value.bool true:=r'
    refine⟨rfl,OldK.of_keep λb o e=>?_,os,bare⟩
    cases q:H b with
    | none=>exact un.keep b o e q (by intro z;exact absurd (show b∈([]:List Addr) from z) (by simp)) (by simp)
    | some u=>
     rcases hO b with z | ⟨ob,xs,z⟩
     ·rw [q] at z;cases z
     ·have z2:=un.frzs b ob _ z
      obtain⟨e1,_⟩:=hok b _ z
      obtain⟨e2,_⟩:=hok' b _ z2
      rw [e] at e1;cases e1
      exact e2
 cases hk:K.lookup a with
 | some o=>
  --the script is one of the module's own objects
  have e:=KX a o hk
  rw [ha] at e
  cases e
  refine core (λ_=>none) (λ_=> .inl rfl) (.inr ⟨_,vs.toArray,_,hk,rfl,rfl,rfl,by rw [List.size_toArray,lenV];exact hl,by simpa using rv⟩) (λb u z=>by have z':(none:Option HO)=some u:=z;cases z') (λb z=>absurd rfl z) λz=>absurd rfl z
 | none=>
  refine core (λb=>if b=a then some (.frz { cls:= .type "list",data:= .seq vs.toArray} (.lst (ns.map V.int))) else none) (λb=>?_) (.inl (.inr ⟨{ cls:= .type "list",data:= .seq vs.toArray},if_pos rfl⟩)) (λb u z=>?_) (λb z=>?_) λ_=>hk
  ·by_cases hb:b=a
   ·exact .inr ⟨_,_,if_pos hb⟩
   ·exact .inl (if_neg hb)
  ·by_cases hb:b=a
   ·have z':=(if_pos hb).symm.trans z
    cases z'
    subst hb
    exact⟨ha,by rw [List.length_map];exact hl,vs,_,rv,ha⟩
   ·have z':=(if_neg hb).symm.trans z
    cases z'
  ·by_cases hb:b=a
   ·exact hb
   ·exact absurd (if_neg hb) z
end L2
namespace L2
open PySem PySem.Spec PyProof.Rows
theorem Od {l:PySem.W.OpenLaw}{n k:Nat}{q:Program}{loose:List Str}{XP:(Str->Option Value)->Heap->Prop}{YP:World->Heap->Prop}{d:DefRec}{K:Params->PySem.W.Frag}{CX:World->CC}{sp:World->Sp}{x:Str}
  (hn:l.most=some n) (hn2:n<=sizeLine) (hdf:d.params.defaults=[]) (hr:Bo k callerA)
  (hY:∀(w:World) (h:Heap),YP w h->(K w.params).In h)
  (F : ∀ (w : World) (mg : Str -> Option Value) (fa : Addr) (h : Heap), (K w.params).In h -> h.Ns mainGlobals mg -> mg d.name = some (.ref fa) ->
   ∃fd:FuncData,(∀(s:Shared) (u:Value),BindsTo s fd ⟨[u],[]⟩ [(x,u)])/\
    ∀base:Heap,(K w.params).In base->base.Ns mainGlobals mg->CY l.prog w (K w.params) mg base (CX w) k fa fd [x] (sp w))
  (hsp:∀(w:World) (H:Hp) (a:Addr) (ns:List Int),ns.length<=n->F8 H->Ai (K w.params) H a (ns.map V.int)->sp w [.ref a] H (λv _=>v= .bl true) λ_ _ _=>False)
  (hCX:∀(w:World) (H:Hp) (s:Shared) (e:Value) (s':Shared),CX w [] H s (λ_ _ _=>False) e s'->False):
  PySem.W.WalkO q loose XP YP l.row.toRowW d [] (λf vs=>PySem.call f vs):=by
 refine Att.attach_call hn hdf λw s₀ s₁ mg mb fa o pm cd doc a vs ns G Y ho hd hcd hmg hobj hints hlen hg=>?_
 have KX:=hY w _ Y
 obtain⟨fd,hb,hF⟩:=F w mg fa _ KX G.T.g hmg
 exact Oc KX G.T.g G.T.b G.T.builtins G.T.nolimit hg hobj hints (Nat.le_trans hlen hn2) hr hF hb (λH hO hS=>hsp w H a ns hlen hO hS) λH e s'=>hCX w H s₁ e s'
theorem walk_ofK {l:PySem.W.OpenLaw}{n k:Nat}{q:Program}{loose:List Str}{XP:(Str->Option Value)->Heap->Prop}{YP:World->Heap->Prop}{d:DefRec}{K:Params->PySem.W.Frag}{CX:CC}{sp:PySem.W.Frag->Sp}{x:Str}
  (hn:l.most=some n) (hn2:n<=sizeLine) (hdf:d.params.defaults=[]) (hr:Bo k callerA)
  (hY:∀(w:World) (h:Heap),YP w h->(K w.params).In h)
  (F : ∀ (w : World) (mg : Str -> Option Value) (fa : Addr) (h : Heap), (K w.params).In h -> h.Ns mainGlobals mg -> mg d.name = some (.ref fa) ->
   ∃fd:FuncData,(∀(s:Shared) (u:Value),BindsTo s fd ⟨[u],[]⟩ [(x,u)])/\
    ∀base:Heap,(K w.params).In base->base.Ns mainGlobals mg->CY l.prog w (K w.params) mg base CX k fa fd [x] (sp (K w.params)))
  (hsp:∀(K:PySem.W.Frag) (H:Hp) (a:Addr) (ns:List Int),ns.length<=n->F8 H->Ai K H a (ns.map V.int)->sp K [.ref a] H (λv _=>v= .bl true) λ_ _ _=>False)
  (hCX:∀(H:Hp) (s:Shared) (e:Value) (s':Shared),CX [] H s (λ_ _ _=>False) e s'->False):
  PySem.W.WalkO q loose XP YP l.row.toRowW d [] (λf vs=>PySem.call f vs):=
 Od (K:=K) (CX:=λ_=>CX) (sp:=λw=>sp (K w.params)) hn hn2 hdf hr hY F (λw H a ns h1 h2 h3=>hsp (K w.params) H a ns h1 h2 h3) λ_ H s e s'=>hCX H s e s'
end L2
namespace L2
open PySem PySem.Spec PyProof.Rows
variable {qual : Str} {fd : FuncData} {ps : List Str} {H H' : Hp}
def Cq (s:Stmt):Arguments:=match s with
 | .FunctionDef _ a _ _ _ _ _ _ _ _=>a
 | _=> { posonlyargs:=[],args:=[],vararg:=none,kwonlyargs:=[],kw_defaults:=[],kwarg:=none,defaults:=[]}
def Cb (s:Stmt):List Stmt:=match s with
 | .FunctionDef _ _ b _ _ _ _ _ _ _=>b
 | _=>[]
def Ax (s:Stmt):Scope:=match s with
 | .FunctionDef _ _ _ _ _ _ sc _ _ _=>sc
 | _=> { kind:= .function,names:=[],isGenerator:=false,isCoroutine:=false}
abbrev CX0:CC:=λ_ _ _ _ _ _=>False
abbrev E0:XK:=λ_ _ _=>False
theorem Oe {X:Cx}:Ir CX0 X E0:=λ_ _ _ _ _ _ _ h=>h.elim
structure Ei (K:PySem.W.Frag) (x qual:Str) (st:Stmt) (f:Addr) (fd:FuncData):Prop where
 ex:∃(oc:Value) (od:Option Addr) (kV doc pm:Value) (an:Option Addr) (cdv ct:Value) (osl:Array (Option Value)),
  fd=PySem.W.fnOf x qual (Cq st) (Cb st) (Ax st) .none kV doc pm an cdv ct/\K.lookup f=some ⟨oc,od,.func fd,osl⟩/\PySem.W.codeIn K cdv qual=true
 kp:PySem.W.keepIn K (.ref f)=true
section
variable {P : Program} {w : World} {K : PySem.W.Frag} {mg : Str -> Option Value} {base : Heap}
theorem Ei.ok {x:Str}{st:Stmt}{f:Addr}{N:List Str}{k:Nat}{sp:Sp} (F:Ei K x qual st f fd) (S:AB N ps (Ax st)) (len:∀vs H Q E,sp vs H Q E->vs.length=ps.length)
  (hbody : ∀ (cdv : Value) (A : Around) (outer : List Env) (s : Shared) (H : Hp) (vs : List V) (Q : VK) (E : XK), Bo k (A.deeper (envOfC qual (Ax st) s.heap.objs.size f cdv)) -> sp vs H Q E ->
   ∃t,PSs (Eh CX0 P w K mg base N qual (Ax st) f cdv A outer s H E).nox (Cb st) t/\t { nx:=λ_ H'=>Q .non H',rt:=Q} (start N vs) H):CY P w K mg base CX0 (k+1) f fd ps sp:=by
 obtain⟨oc,od,kV,doc,pm,an,cdv,ct,osl,rfl,lk,hcd⟩:=F.ex
 refine ND lk hcd S len λA outer s H vs Q E hr hsp=>?_
 obtain⟨t,h,q⟩:=hbody cdv A outer s H vs Q E hr hsp
 exact⟨t,h.nox,q⟩
theorem Ei.binds {x:Str}{st:Stmt}{f:Addr} (F:Ei K x qual st f fd)
  (h:∀(kV doc pm:Value) (an:Option Addr) (cdv ct:Value) (us:List Value),us.length=ps.length->bindArgs (PySem.W.fnOf x qual (Cq st) (Cb st) (Ax st) .none kV doc pm an cdv ct) ⟨us,[]⟩=pure (ps.zip us)):Binds K fd ps []:=by
 obtain⟨oc,od,kV,doc,pm,an,cdv,ct,osl,rfl,lk,hcd⟩:=F.ex
 exact .all (h kV doc pm an cdv ct)
theorem Iz {x:Str}{st:Stmt}{f:Addr}{oc:Value}{od an:Option Addr}{osl:Array (Option Value)}{kV doc pm cdv ct:Value} (l:K.lookup f=some ⟨oc,od,.func (PySem.W.fnOf x qual (Cq st) (Cb st) (Ax st) .none kV doc pm an cdv ct),osl⟩)
  (c:PySem.W.codeIn K cdv qual=true) (k:PySem.W.keepIn K (.ref f)=true):Ei K x qual st f (PySem.W.fnOf x qual (Cq st) (Cb st) (Ax st) .none kV doc pm an cdv ct):=⟨⟨oc,od,kV,doc,pm,an,cdv,ct,osl,rfl,l,c⟩,k⟩
end
theorem F9 {n:Nat} (h:n<=1000):n<sizeLine:=Nat.lt_of_le_of_lt h (by decide)
section
variable {X : Cx}
theorem pv (i:Nat) {x:Str}{pos:Pos} (hN:X.N[i]? =some x:=by rfl) (hv:Ez X.env.scope x:=by first | exact Or.inl rfl | exact Or.inr (Or.inl rfl) | exact Or.inr (Or.inr rfl)) (hd:(x==("__debug__" :Str))=false:=by decide)
  (hcd:(x==("__classdict__" :Str))=false:=by decide):PE X (.Name x pos) (JK i):=JL hN hv hd hcd
end
def Ab (H H':Hp):Prop:=∀b o,H b=some o->H' b=some o
theorem Ab.refl (H:Hp):Ab H H:=λ_ _ h=>h
theorem Ab.trans {H1 H2:Hp} (a:Ab H H1) (b:Ab H1 H2):Ab H H2:=λc o h=>b c o (a c o h)
theorem Ab.free (e:Ab H H') {l:Addr} (h:H' l=Option.none):H l=Option.none:=by
 cases q:H l with
 | none=>rfl
 | some o=>
  rw [e l o q] at h
  cases h
theorem Ab.seq {K:PySem.W.Frag}{a:Addr}{xs:List V} (e:Ab H H') (h:Ai K H a xs):Ai K H' a xs:=by
 rcases h with(h | ⟨o,h⟩) | h
 ·exact .inl (.inl (e _ _ h))
 ·exact .inl (.inr ⟨o,e _ _ h⟩)
 ·exact .inr h
end L2
end
section
namespace L2
open PySem PySem.Spec PyProof.Rows
def BD (cs:List (Str×Addr)):List (Str×NameKind)->List (Str×Addr)->List (Str×Addr)
  | [],acc=>acc
  | (n,k)::r,acc=>if k== .free then(match cs.lookup n with | some a=>BD cs r ((n,a)::acc) | none=>BD cs r acc) else BD cs r acc
theorem IA {env:Env}:∀(names:List (Str×NameKind)) (acc:List (Str×Addr)),(∀y∈names,y.2= .free->∃c,env.cells.lookup y.1=some c)->
    (forIn names acc (fun(p:Str×NameKind) (cs:List (Str×Addr))=>do
      if (p.2==NameKind.free)=true then do
        let a<-cellOf env p.1
        pure (ForInStep.yield ((p.1,a)::cs))
      else pure (ForInStep.yield cs)):Sem (List (Str×Addr)))=pure (BD env.cells names acc)
  | [],acc,_=>rfl
  | (n, k) :: r, acc, h => by
    rw [List.forIn_cons]
    by_cases hk:(k==NameKind.free)=true
    . obtain⟨c,hc⟩:=h (n,k) List.mem_cons_self (by simpa using hk)
      have hc':env.cells.lookup n=some c:=hc
      simp only [hk,if_true,cellOf,hc',BD]
      exact IA r _ λy hy=>h y (List.mem_cons_of_mem _ hy)
    . have hk':(k==NameKind.free)=false:=by simpa using hk
      simp only [hk',Bool.false_eq_true,if_false,BD]
      exact IA r _ λy hy=>h y (List.mem_cons_of_mem _ hy)
theorem Of {env:Env}{scope:Scope} (h:∀y∈scope.names,y.2= .free->∃c,env.cells.lookup y.1=some c):closureFor scope env=pure (BD env.cells scope.names []):=by
 have q:=IA (env:=env) scope.names [] h
 unfold closureFor
 simp only []
 have e:(forIn scope.names ([]:List (Str×Addr)) (fun(p:Str×NameKind) (cs:List (Str×Addr))=>do
   if (p.2==NameKind.free)=true then do
    let a<-cellOf env p.1
    pure (ForInStep.yield ((p.1,a)::cs))
   else pure (ForInStep.yield cs)):Sem (List (Str×Addr))) >>=(λcs=>pure cs)=pure (BD env.cells scope.names []):=by rw [q];rfl
 exact e
theorem EC {cs:List (Str×Addr)}{x:Str}{c:Addr}:∀(names:List (Str×NameKind)) (acc:List (Str×Addr)),(BD cs names acc).lookup x=some c->cs.lookup x=some c\/acc.lookup x=some c
  | [],_,h=> .inr h
  | (n, k) :: r, acc, h => by
    unfold BD at h
    split at h
    . cases hc:cs.lookup n with
      | none=>rw [hc] at h;exact EC r acc h
      | some a =>
        rw [hc] at h
        rcases EC r _ h with q | q
        . exact .inl q
        . rw [List.lookup_cons] at q
          cases hx:x==n with
          | true=>rw [hx] at q;rw [beq_iff_eq.mp hx,hc];exact .inl q
          | false=>rw [hx] at q;exact .inr q
    . exact EC r acc h
theorem Ga {cs:List (Str×Addr)}{x:Str}{c:Addr} (hc:cs.lookup x=some c):∀(names:List (Str×NameKind)) (acc:List (Str×Addr)),acc.lookup x=some c->(BD cs names acc).lookup x=some c
  | [],_,h=>h
  | (n, k) :: r, acc, h => by
    unfold BD
    split
    . cases hn:cs.lookup n with
      | none=>exact Ga hc r acc h
      | some a =>
        refine Ga hc r _ ?_
        rw [List.lookup_cons]
        cases hx:x==n with
        | true=>rw [beq_iff_eq.mp hx,hn] at hc;exact hc
        | false=>exact h
    . exact Ga hc r acc h
theorem Fe {cs:List (Str×Addr)}{x:Str}{c:Addr} (hc:cs.lookup x=some c):∀(names:List (Str×NameKind)) (acc:List (Str×Addr)),(x,NameKind.free)∈names->(BD cs names acc).lookup x=some c
  | [],_,h=>nomatch h
  | (n, k) :: r, acc, h => by
    unfold BD
    rcases List.mem_cons.mp h with e | h
    . cases e
      simp only [beq_self_eq_true,if_true,hc]
      exact Ga hc r _ (by simp [List.lookup_cons])
    . split
      . cases hn:cs.lookup n with
        | none=>exact Fe hc r acc h
        | some a=>exact Fe hc r _ h
      . exact Fe hc r acc h
theorem Ff {x:Str}{c:Addr}:∀(names:List (Str×NameKind)) (n:Nat) (acc:List (Str×Addr)),(cellsFrom n names acc).lookup x=some c->n<=c\/acc.lookup x=some c
  | [],_,_,h=> .inr h
  | (y, k) :: r, n, acc, h => by
    unfold cellsFrom at h
    split at h
    . rcases Ff r (n+1) _ h with q | q
      . exact .inl (by omega)
      . rw [List.lookup_cons] at q
        cases hx:x==y with
        | true=>rw [hx] at q;cases q;exact .inl (Nat.le_refl _)
        | false=>rw [hx] at q;exact .inr q
    . exact Ff r n acc h
theorem IB {x:Str}{c:Addr}{lo:Nat}:∀(names:List (Str×NameKind)) (n:Nat) (acc:List (Str×Addr)),lo<=n->((x,NameKind.cell)∈names\/ ∀c,acc.lookup x=some c->lo<=c)->(cellsFrom n names acc).lookup x=some c->lo<=c
  | [],_,_,_,hm,h=>hm.elim (λz=>nomatch z) λz=>z c h
  | (y, k) :: r, n, acc, hl, hm, h => by
    unfold cellsFrom at h
    split at h
    . rename_i hk
      refine IB r (n+1) _ (by omega) ?_ h
      by_cases hx:x=y
      . refine .inr λc' q=>?_
        rw [List.lookup_cons,hx,beq_self_eq_true] at q
        cases q;exact hl
      . rcases hm with hm | hm
        . rcases List.mem_cons.mp hm with e | hm
          . cases e;exact absurd rfl hx
          . exact .inl hm
        . refine .inr λc' q=>hm c' ?_
          rw [List.lookup_cons,beq_eq_false_iff_ne.mpr hx] at q
          exact q
    . rename_i hk
      refine IB r n acc hl ?_ h
      rcases hm with hm | hm
      . rcases List.mem_cons.mp hm with e | hm
        . cases e;exact absurd rfl hk
        . exact .inl hm
      . exact .inr hm
theorem IC {x:Str}{c:Addr}:∀(names:List (Str×NameKind)) (n:Nat) (acc:List (Str×Addr)),(x,NameKind.cell) ∉ names->acc.lookup x=some c->(cellsFrom n names acc).lookup x=some c
  | [],_,_,_,h=>h
  | (y, k) :: r, n, acc, hm, h => by
    have hm':(x,NameKind.cell) ∉ r:=λz=>hm (List.mem_cons_of_mem _ z)
    unfold cellsFrom
    split
    . rename_i hk
      refine IC r (n+1) _ hm' ?_
      rw [List.lookup_cons]
      cases hx:x==y with
      | true =>
        have e1:k=NameKind.cell:=by simpa using hk
        exact absurd (by rw [beq_iff_eq.mp hx,e1];exact List.mem_cons_self) hm
      | false=>exact h
    . exact IC r n acc hm' h
theorem ID {x:Str}:∀(names:List (Str×NameKind)) (n:Nat) (acc:List (Str×Addr)),((x,NameKind.cell)∈names\/ ∃c,acc.lookup x=some c)->∃c,(cellsFrom n names acc).lookup x=some c
  | [],_,_,hm=>hm.elim (λz=>nomatch z) λz=>z
  | (y, k) :: r, n, acc, hm => by
    unfold cellsFrom
    split
    . rename_i hk
      refine ID r (n+1) _ ?_
      by_cases hx:x=y
      . exact .inr ⟨n,by rw [hx,List.lookup_cons,beq_self_eq_true]⟩
      . rcases hm with hm | ⟨c,hm⟩
        . rcases List.mem_cons.mp hm with e | hm
          . cases e;exact absurd rfl hx
          . exact .inl hm
        . exact .inr ⟨c,by rw [List.lookup_cons,beq_eq_false_iff_ne.mpr hx];exact hm⟩
    . rename_i hk
      refine ID r n acc ?_
      rcases hm with hm | hm
      . rcases List.mem_cons.mp hm with e | hm
        . cases e;exact absurd rfl hk
        . exact .inl hm
      . exact .inr hm
theorem IE:∀(names:List (Str×NameKind)) (n:Nat) (acc:List (Str×Addr)),(∀x c,acc.lookup x=some c->c<n)->(∀x y c,acc.lookup x=some c->acc.lookup y=some c->x=y)->
    ∀x y c,(cellsFrom n names acc).lookup x=some c->(cellsFrom n names acc).lookup y=some c->x=y
  | [],_,_,_,hi=>hi
  | (z, k) :: r, n, acc, hb, hi => by
    unfold cellsFrom
    split
    . refine IE r (n+1) _ (λx c q=>?_) λx y c q q'=>?_
      . rw [List.lookup_cons] at q
        cases hx:x==z with
        | true=>rw [hx] at q;cases q;exact Nat.lt_succ_self _
        | false=>rw [hx] at q;exact Nat.lt_succ_of_lt (hb x c q)
      . rw [List.lookup_cons] at q q'
        cases hx:x==z with
        | true =>
          rw [hx] at q;cases q
          cases hy:y==z with
          | true=>rw [beq_iff_eq.mp hx,beq_iff_eq.mp hy]
          | false=>rw [hy] at q';exact absurd (hb y _ q') (Nat.lt_irrefl _)
        | false =>
          rw [hx] at q
          cases hy:y==z with
          | true=>rw [hy] at q';cases q';exact absurd (hb x _ q) (Nat.lt_irrefl _)
          | false=>rw [hy] at q';exact hi x y c q q'
    . exact IE r n acc hb hi
theorem IF:∀(names:List (Str×NameKind)) (h:Heap) (acc:List (Str×Addr)) {x:Str}{c:Addr},(cellsFrom h.objs.size names acc).lookup x=some c->(pushCells h names).IsCell c none\/acc.lookup x=some c
  | [],_,_,_,_,q=> .inr q
  | (z, k) :: r, h, acc, x, c, q => by
    unfold cellsFrom at q
    unfold pushCells
    split at q
    . rename_i hk
      rw [if_pos hk]
      have e:(h.push { cls:= .type "cell",data:= .cell none}).objs.size=h.objs.size+1:=Heap.size_push ..
      rw [<-e] at q
      rcases IF r _ _ q with q | q
      . exact .inl q
      . rw [List.lookup_cons] at q
        cases hx:x==z with
        | true =>
          rw [hx] at q;cases q
          refine .inl ?_
          have w:(h.push { cls:= .type "cell",data:= .cell none}).IsCell h.objs.size none:=⟨_,Heap.get?_push_size _ rfl,rfl⟩
          exact w.keeps (pushCells_keeps r _)
        | false=>rw [hx] at q;exact .inr q
    . rename_i hk
      rw [if_neg hk]
      exact IF r h acc q
def Kv (scope:Scope) (env:Env) (C:Addr):Env:=
  { scope:=relabel scope env,locals:=C,globals:=env.globals,cells:=cellsFrom (C+1) scope.names (BD env.cells scope.names []),qual:=env.qual,func:=none,code:=env.code,frame:=env.frame,builtins:=env.builtins}
theorem Og {M:Model}{A:Around}{E:Value->Shared->Prop}{s:Shared}{scope:Scope}{env:Env}{cl:List (Str×Addr)}{Q:Env->Shared->Prop}
    (h:Q { scope:=scope,locals:=s.heap.objs.size,globals:=env.globals,cells:=cellsFrom (s.heap.objs.size+1) scope.names cl,qual:=env.qual,func:=none,code:=env.code,frame:=env.frame,builtins:=env.builtins}
      { s with heap:=pushCells (s.heap.push { cls:= .type "dict",data:= .dict #[]}) scope.names}):
    wpAny M A (newFunctionEnv scope env.globals cl [] env.qual none .none (some env)) Q E s:=by
  have AC:({ s with heap:=s.heap.push { cls:= .type "dict",data:= .dict #[]}}:Shared).heap.objs.size=s.heap.objs.size+1:=Heap.size_push ..
  rw [<-AC] at h
  unfold newFunctionEnv
  simp only [Option.isSome_some,if_true]
  exact wpAny_bind (wpAny_alloc (wpAny_bind (wpAny_layCells _ (λn k cs=>by by_cases c:(k==NameKind.cell)=true<;>simp [c]) _ _ _ _ (wpAny_bind (wpAny_pure (wpAny_pure h))))))
structure AO (sc:Scope) (N:List Str) (scope:Scope) (N':List Str) (cap:List (Option Nat)):Prop where
 kind:scope.kind= .function
 free:∀y∈scope.names,y.2= .free->sc.names.lookup y.1=some .cell\/sc.names.lookup y.1=some .free
 len:cap.length=N'.length
 capt:∀(i j:Nat),cap[i]? =some (some j)->∃x:Str,N'[i]? =some x/\N[j]? =some x/\(x,NameKind.free)∈scope.names/\(x,NameKind.cell) ∉ scope.names
 names:∀y∈scope.names,y.2= .local ->scope.names.lookup y.1=some .local
 own:∀y∈scope.names,scope.names.lookup y.1=some y.2
def Kw (sc:Scope) (N:List Str) (scope:Scope) (N':List Str) (cap:List (Option Nat)):Bool:=
  scope.kind== .function &&(scope.names.all λy=>y.2 != .free || sc.names.lookup y.1==some .cell || sc.names.lookup y.1==some .free) && cap.length==N'.length &&
    ((List.range cap.length).all λi => match cap[i]? with
      | some (some j) => (match N'[i]?, N[j]? with
        | some x,some y=>x==y && scope.names.any (λz=>z.1==x && z.2== .free) && scope.names.all (λz=> !(z.1==x && z.2== .cell))
        | _,_=>false)
      | _=>true) && scope.names.all λy=>scope.names.lookup y.1==some y.2
theorem AO.of {sc:Scope}{N:List Str}{scope:Scope}{N':List Str}{cap:List (Option Nat)} (h:Kw sc N scope N' cap=true):AO sc N scope N' cap:=by
 unfold Kw at h
 simp only [Bool.and_eq_true] at h
 obtain⟨⟨⟨⟨h1,h2⟩,h3⟩,h4⟩,h5⟩:=h
 have own:∀y∈scope.names,scope.names.lookup y.1=some y.2:=λy hy=>by
  have:=List.all_eq_true.mp h5 y hy
  simpa using this
 refine⟨by simpa using h1,λy hy hf=>?_,by simpa using h3,λi j e=>?_,λy hy hl=>by rw [own y hy,hl],own⟩
 ·have:=List.all_eq_true.mp h2 y hy
  rw [hf] at this
  simpa using this
 ·have hi:i<cap.length:=(List.getElem?_eq_some_iff.mp e).1
  have:=List.all_eq_true.mp h4 i (List.mem_range.mpr hi)
  rw [e] at this
  dsimp only at this
  cases hx:N'[i]? with
  | none=>rw [hx] at this;simp at this
  | some x=>
   cases hy:N[j]? with
   | none=>rw [hx,hy] at this;simp at this
   | some y=>
    rw [hx,hy] at this
    simp only [Bool.and_eq_true] at this
    obtain⟨⟨t1,t2⟩,t3⟩:=this
    have e1:x=y:=by simpa using t1
    subst e1
    obtain⟨z,hz,t⟩:=List.any_eq_true.mp t2
    simp only [Bool.and_eq_true] at t
    have z1:z.1=x:=by simpa using t.1
    have z2:z.2= .free:=by simpa using t.2
    have ez:z=(x,NameKind.free):=by rw [<-z1,<-z2]
    refine⟨x,rfl,rfl,ez ▸ hz,λhm=>?_⟩
    have:=List.all_eq_true.mp t3 _ hm
    simp at this
def A4 (cap:List (Option Nat)) (σ:St):St:=cap.map λo=>match o with | some j=>(match σ[j]? with | some v=>v | none=>none) | none=>none
def CJ (X:Cx) (cs:List Expr) (t:TT):Prop:=
 ∀(pins:List (Addr×Obj)) (s:Shared) (σ:St) (H:Hp) (Q:Bool->Hp->Prop),Ae X pins σ H s->t σ H Q->
  wpAny (model X.prog X.w) X.A (forIn cs true λc r=>if r=true then do let ok<-isTrue c X.env (eval c X.env);pure (ForInStep.yield ok) else pure (ForInStep.yield r)) (TP X pins σ Q) X.xe s
def Oh:TT:=λ_ H Q=>Q true H
theorem A5 {X:Cx}:CJ X [] Oh:=λ_ _ σ H Q I h=>wpAny_tests_nil ⟨H,I,h⟩
theorem IG {X:Cx}{c:Expr}{t:TT} (h:PT X c t):CJ X [c] t:=λpins s σ H Q I q=>wpAny_tests_one (h pins s σ H Q I q)
def A8 (X:Cx) (N':List Str) (scope:Scope) (s:Shared) (H:Hp) (ex:List Addr) (C:Addr):Cx:=
  { X with N:=N',s₀:=s,H₀:=H,env:=Kv scope X.env C,outer:=X.stack,ex:=ex,fn:=λx=>scope.names.any λz=>z.1==x && z.2== .cell,pn:=[],xe:=λ_ _=>False}
theorem Gb {env:Env}{x:Str}:∀(names:List (Str×NameKind)),(names.map fun(n,k)=>if (k==NameKind.free && env.scope.kind== .function && env.kindOf n==some .cell) then(n,NameKind.cell) else(n,k)).lookup x=
    (names.lookup x).map λk=>if (k==NameKind.free && env.scope.kind== .function && env.kindOf x==some .cell) then NameKind.cell else k
  | []=>rfl
  | (n, k) :: r => by
    have ih:=Gb (env:=env) (x:=x) r
    show List.lookup x ((if (k==NameKind.free && env.scope.kind== .function && env.kindOf n==some .cell)=true then(n,NameKind.cell) else(n,k))::_)=_
    cases hx:x==n with
    | true =>
      have e:x=n:=beq_iff_eq.mp hx
      subst e
      split<;>simp_all [List.lookup_cons]
    | false =>
      have e:(List.lookup x ((n,k)::r))=r.lookup x:=by rw [List.lookup_cons,hx]
      rw [e,<-ih]
      split<;>simp [List.lookup_cons,hx]
section
variable {X : Cx} {pins : List (Addr × Obj)} {σ : St} {H : Hp} {s : Shared} {scope : Scope} {N' : List Str} {cap : List (Option Nat)} {fp : List Addr}
theorem Oi (I:Ae X pins σ H s) (B:AO X.env.scope X.N scope N' cap) (hf:∀b∈fp,Ci X pins H b) (hlt:∀b∈fp,b<s.heap.objs.size) {C:Addr} (hC:s.heap.objs.size<=C):
  (A8 X N' scope s H fp C).Ok:=by
 have clt:∀x c,X.env.cells.lookup x=some c->c<s.heap.objs.size:=λx c e=>let ⟨_,q⟩:=I.cell x c e;q.lt
 have acc:∀x c,(BD X.env.cells scope.names []).lookup x=some c->X.env.cells.lookup x=some c:=λx c e=>(EC _ _ e).elim id λz=>nomatch z
 refine⟨I.ok.mod,B.kind,I.ok.glob,I.ok.blt,hC,λx y c h1 h2=>?_,λx hx=>?_,λx c hx h=>?_,I.ok.hd,I.ok.frames,.inl rfl,λb hb=>⟨?_,λx c h e=>?_⟩,I.bs,Nat.le_trans I.ok.bsz I.sz,λb o e hb=>?_,λb hb z=>?_,I.stack,I.stkFree⟩
 ·exact IE scope.names (C+1) _ (λx c e=>Nat.lt_succ_of_lt (Nat.lt_of_lt_of_le (clt x c (acc x c e)) hC)) (λx y c e e'=>I.ok.inj x y c (acc x c e) (acc y c e')) x y c h1 h2
 ·have hx':(relabel scope X.env).names.lookup x=some .cell\/(relabel scope X.env).names.lookup x=some .free:=hx
  have hl:(scope.names.lookup x).isSome=true:=by
   unfold relabel at hx'
   rw [Gb] at hx'
   cases q:scope.names.lookup x with
   | none=>rw [q] at hx';rcases hx' with z | z<;>cases z
   | some k=>rfl
  obtain⟨k,hk⟩:=Option.isSome_iff_exists.mp hl
  have hm:=PySem.mem_of_lookup hk
  refine ID scope.names (C+1) _ ?_
  cases k with
  | cell=>exact .inl hm
  | free=>
   refine .inr ?_
   obtain⟨c,hc⟩:=I.ok.has x (B.free _ hm rfl)
   exact⟨c,Fe hc _ _ hm⟩
  | _=>
   unfold relabel at hx'
   rw [Gb,hk] at hx'
   rcases hx' with z | z<;>simp at z
 ·have hx':(scope.names.any λz=>z.1==x && z.2== .cell)=true:=hx
  obtain⟨z,hz,t⟩:=List.any_eq_true.mp hx'
  simp only [Bool.and_eq_true] at t
  have z1:z.1=x:=by simpa using t.1
  have z2:z.2= .cell:=by simpa using t.2
  have ez:z=(x,NameKind.cell):=by rw [<-z1,<-z2]
  have:=IB (lo:=C+1) scope.names (C+1) _ (Nat.le_refl _) (.inl (ez ▸ hz)) h
  exact Nat.le_trans hC (Nat.le_of_succ_le this)
 ·exact Nat.ne_of_lt (Nat.lt_of_lt_of_le (hlt b hb) hC)
 ·rcases Ff scope.names (C+1) _ h with q | q
  ·have:=hlt b hb
   rw [<-e] at this
   exact absurd (Nat.lt_of_lt_of_le this (Nat.le_trans hC (Nat.le_of_succ_le q))) (Nat.lt_irrefl _)
  ·exact(hf b hb).2.2.2.2.1 x c (acc x c q) e
 ·obtain⟨_,_,_,f3,_⟩:=hf b hb
  rcases f3 with f3 | f3
  ·exact I.ok.noex b o e f3
  ·exact absurd (Nat.lt_of_lt_of_le (Heap.lt_size e) (Nat.le_trans I.ok.bsz f3)) (Nat.lt_irrefl _)
 ·obtain⟨_,f1,f2,_⟩:=hf b hb
  rcases List.mem_cons.mp (I.stkSub b z) with q | q
  ·exact f1 q
  ·exact f2 q
theorem Oj (I:Ae X pins σ H s) (B:AO X.env.scope X.N scope N' cap) (hf:∀b∈fp,Ci X pins H b) (hlt:∀b∈fp,b<s.heap.objs.size) {h3:Heap} (hk:∀b o,s.heap.get? b=some o->h3.get? b=some o) (hsz:s.heap.objs.size<=h3.objs.size):
  Ae (A8 X N' scope s H fp h3.objs.size) [] (A4 cap σ) H { s with heap:=pushCells (h3.push { cls:= .type "dict",data:= .dict #[]}) scope.names}:=by
 have acc:∀x c,(BD X.env.cells scope.names []).lookup x=some c->X.env.cells.lookup x=some c:=λx c e=>(EC _ _ e).elim id λz=>nomatch z
 have hk3:∀b o,h3.get? b=some o->(pushCells (h3.push { cls:= .type "dict",data:= .dict #[]}) scope.names).get? b=some o:=λb o e=>pushCells_keeps _ _ b o (Heap.get?_push_of_some _ e)
 have hk4:∀b o,s.heap.get? b=some o->(pushCells (h3.push { cls:= .type "dict",data:= .dict #[]}) scope.names).get? b=some o:=λb o e=>hk3 b o (hk b o e)
 refine⟨Oi I B hf hlt hsz,rfl,I.bare,Un.kept hk4,⟨λ_=>none,(Heap.Ns.new h3 (.type "dict")).keeps (pushCells_keeps _ _),λi x v h1 h2 h4=>?_⟩,λx c h=>?_,?_,λx c h=>?_,λp hp=>absurd (show p∈([]:List (Addr×Obj)) from hp) (by simp),I.hok.kept hk4,?_⟩
 ·have h2':(A4 cap σ)[i]? =some (some v):=h2
  unfold A4 at h2'
  rw [List.getElem?_map] at h2'
  cases q:cap[i]? with
  | none=>rw [q] at h2';cases h2'
  | some o=>
   rw [q] at h2'
   cases o with
   | none=>exact nomatch Option.some.inj h2'
   | some j=>
    have h2'':(match σ[j]? with | some v=>v | none=>none)=some v:=Option.some.inj h2'
    cases qs:σ[j]? with
    | none=>rw [qs] at h2'';cases h2''
    | some v'=>
     rw [qs] at h2''
     have hs:σ[j]? =some (some v):=by rw [qs];exact congrArg some h2''
     obtain⟨x',e1,e2,e3,e4⟩:=B.capt i j q
     have h1':N'[i]? =some x:=h1
     rw [h1'] at e1;cases e1
     have hcf:=B.free _ e3 rfl
     obtain⟨m,hn,hl⟩:=I.loc
     obtain⟨u,ru,lk⟩:=hl j x v e2 hs (hcf.elim (λz=> .inr (.inl z)) λz=> .inr (.inr z))
     refine⟨u,ru,?_⟩
     rcases lk with⟨lk,_⟩ | ⟨_,c,hc,ic⟩
     ·have lk':X.env.scope.names.lookup x=some .local :=lk
      have hcf':X.env.scope.names.lookup x=some .cell\/X.env.scope.names.lookup x=some .free:=hcf
      rw [lk'] at hcf';rcases hcf' with z | z<;>cases z
     ·refine .inr ⟨?_,c,IC _ _ _ e4 (Fe hc _ _ e3),ic.keeps hk4⟩
      have:(relabel scope X.env).names.lookup x=some .cell\/(relabel scope X.env).names.lookup x=some .free:=by
       unfold relabel
       rw [Gb,B.own _ e3]
       dsimp only [Option.map]
       split
       ·exact .inl rfl
       ·exact .inr rfl
      exact this
 ·have h':(cellsFrom (h3.objs.size+1) scope.names (BD X.env.cells scope.names [])).lookup x=some c:=h
  have e:(h3.push { cls:= .type "dict",data:= .dict #[]}).objs.size=h3.objs.size+1:=Heap.size_push ..
  rw [<-e] at h'
  rcases IF _ _ _ h' with q | q
  ·exact⟨_,q⟩
  ·obtain⟨v,z⟩:=I.cell x c (acc x c q)
   exact⟨v,z.keeps hk4⟩
 ·exact I.hok.fresh hsz
 ·rcases Ff scope.names (h3.objs.size+1) _ h with q | q
  ·exact I.hok.fresh (Nat.le_trans hsz (Nat.le_of_succ_le q))
  ·exact I.freeC x c (acc x c q)
 ·show(A4 cap σ).length=N'.length
  unfold A4
  rw [List.length_map]
  exact B.len
end
end L2
end
section
namespace L2
open PySem PySem.Spec PyProof.Rows
variable {E : Expr} {Y : Cx} {a : Addr} {PB : List (Addr × Obj)} {σ : St} {zs xs : List V} {H : Hp} {its : List Value} {k : Nat} {te : TE} {wi : TI} {tt : TT} {cap : List (Option Nat)} {Q : List V -> Hp -> Prop}
def Keep:St->St->Prop
 | [],[]=>True
 | none::r,_::r'=>Keep r r'
 | some v::r,o::r'=>o=some v/\Keep r r'
 | _,_=>False
theorem Keep.len:∀ {a b:St},Keep a b->a.length=b.length
 | [],[],_=>rfl
 | none::r,_::r',h=>by have h':Keep r r':=h;simp [Keep.len h']
 | some v::r,o::r',h=>by have h':o=some v/\Keep r r':=h;simp [Keep.len h'.2]
theorem Keep.get:∀ {a b:St}{i:Nat}{v:V},Keep a b->a[i]? =some (some v)->b[i]? =some (some v)
 | [],[],_,_,_,e=>by simp at e
 | none::r,_::r',0,v,h,e=>by simp at e
 | none::r,_::r',i+1,v,h,e=>by
  have h':Keep r r':=h
  simpa using Keep.get (i:=i) h' (by simpa using e)
 | some v::r,o::r',0,w,h,e=>by
  have h':o=some v/\Keep r r':=h
  simp at e
  simp [h'.1,e]
 | some v::r,o::r',i+1,w,h,e=>by
  have h':o=some v/\Keep r r':=h
  simpa using Keep.get (i:=i) h'.2 (by simpa using e)
def br (c:Bool) (A B:Prop):Prop:=(c=true->A)/\(c=false->B)
def IH (wi:TI) (cap:List (Option Nat)) (g:TG) (tt:TT) (te:TE):St->Hp->(List V->Hp->Prop)->Prop:=fun σ H Q=>wi σ H λJ H1=>
 ∃W:Nat->Nat->List V->Hp->Prop,(∃m,W 0 m [] H1)/\∀i m ys H,W i m ys H->
  (J.stop i H/\Q ys H)\/
  (J.go i H /\ ys.length < sizeLine /\ ∃ N : List V -> Hp -> Prop, (∀ ys' H', N ys' H' -> ∃ m', m' < m /\ W (i + 1) m' ys' H') /\ ∀ x H', J.yld i H x H' -> g x (A4 cap σ) H' fun σ2 H2 => Keep (A4 cap σ) σ2 /\ tt σ2 H2 λb H3 =>
   br b (te σ2 H3 λy H4=>N (ys++[y]) H4) (N ys H3))
structure II (X:Cx) (pins:List (Addr×Obj)) (C:Addr) (H:Hp) (s:Shared):Prop where
 ns:∃m,s.heap.Ns C m
 free:H C=none
 loc:C≠X.env.locals
 sz:X.s₀.heap.objs.size<=C
 cell:∀x c,X.env.cells.lookup x=some c->c≠C
 pin:∀p∈X.pn++pins,p.1≠C
abbrev TB:=St->List V->Hp->(List V->Hp->Prop)->Prop
def Fg (E:Expr) (d:Nat) (tg it:Expr) (ifs:List Expr) (body:Sem PySem.Fin) (itv acc:Value) (env:Env):Sem PySem.Fin:=do
  standAt it.pos
  let r<-pyNext itv
  match r with
   | none=>pure (Fin.done Flow.next)
   | some v=>do
    letOwnedTupleGo tg itv v
    assign tg env v
    let ok<-forIn ifs true λc r=>if r=true then do let ok<-PySem.isTrue c env (eval c env);pure (ForInStep.yield ok) else pure (ForInStep.yield r)
    if ok=true then body else again (Code.compLoop E d itv acc env)
def Gc (E:Expr) (d:Nat) (elt:Expr) (itv acc:Value) (env:Env):Sem PySem.Fin:=do
  let _<-(do
   let x<-eval elt env
   let _<-call (Value.builtin "list.append") [acc,x]
   pure ())
  again (Code.compLoop E d itv acc env)
def IJ (E:Expr) (d:Nat) (it2:Expr) (itv acc:Value) (env:Env):Sem PySem.Fin:=do
  let x<-eval it2 env
  standAt it2.pos
  let x<-foldedSetIterable it2 env x
  let j<-holding [x] (pyIter x)
  let _<-runOwn (Code.compStart E (d+1) j acc env) env
  again (Code.compLoop E d itv acc env)
abbrev Gd (M:Model) (A:Around) (E:Expr) (d:Nat) (itv acc:Value) (env:Env) (body:Sem PySem.Fin) (P:Shared->Prop) (s:Shared):Prop:=wpAny M A body (λfin s'=>fin= .again (.compLoop E d itv acc env)/\P s') (λ_ _=>False) s
section
variable {prog : Program} {w : World} {A : Around} {R : Result -> Shared -> Prop} {s : Shared} {e0 tg it elt it2 : Expr} {gs : List Comprehension} {ifs : List Expr} {sc : Scope} {ps : Pos} {itv acc : Value} {env : Env} {d : Nat} {body : Sem PySem.Fin} {P : Shared -> Prop}
theorem Ol (h:wpAny (model prog w) A (eval elt env) (λx s₄=>wpAny (model prog w) A (call (.builtin "list.append") [acc,x]) (λ_ s₅=>P s₅) (λ_ _=>False) s₄) (λ_ _=>False) s):Gd (model prog w) A E d itv acc env (Gc E d elt itv acc env) P s:=
 wpAny_bind (wpAny_bind (wpAny_mono h (λx s₄ h₄=>wpAny_bind (wpAny_mono h₄ (λ_ s₅ h₅=>wpAny_pure (wpAny_pure ⟨rfl,h₅⟩)) λ_ _ h'=>h'.elim)) λ_ _ h'=>h'.elim))
theorem Om (hs:∀x,foldedSetIterable it2 env x=pure x) (h:wpAny (model prog w) A (eval it2 env) (λx s₄=>wpAny (model prog w) A (pyIter x) (λj s₅=>codeAny (model prog w) (A.mark none) (.compStart E (d+1) j acc env) (λr s₆=>r= .ok .next/\P s₆) s₅) (λ_ _=>False) s₄) (λ_ _=>False) s):Gd (model prog w) A E d itv acc env (IJ E d it2 itv acc env) P s:=by
 refine wpAny_bind (wpAny_mono h (λx s₄ h₄=>wpAny_bind (wpAny_standAt ?_)) λ_ _ h'=>h'.elim)
 rw [hs]
 refine wpAny_bind (wpAny_pure (wpAny_bind (wpAny_holding (wpAny_mono h₄ (λj s₅ h₅=>?_) λ_ _ h'=>h'.elim))))
 refine wpAny_bind (wpAny_runOwn (codeAny_mono h₅ λr s₆ h₆=>?_))
 obtain⟨rfl,h₆⟩:=h₆
 exact wpAny_pure ⟨rfl,h₆⟩
theorem On (ht:compTurn (.ListComp e0 gs sc ps) d itv acc env=Fg (.ListComp e0 gs sc ps) d tg it ifs body itv acc env) (I:Nat->Shared->Prop)
  (turn : ∀ n s, I n s -> wpAny (model prog w) A (pyNext itv) (λr s₁ => match r with
   | none=>R (.ok .next) s₁
   | some v => wpAny (model prog w) A (letOwnedTupleGo tg itv v) (λ_ s₁' => wpAny (model prog w) A (assign tg env v) (λ_ s₂ =>
     wpAny (model prog w) A (forIn ifs true λc r=>if r=true then do let ok<-isTrue c env (eval c env);pure (ForInStep.yield ok) else pure (ForInStep.yield r)) (λok s₃=>
      if ok=true then Gd (model prog w) A (.ListComp e0 gs sc ps) d itv acc env body (λs₅=>∃m,m<n/\I m s₅) s₃
      else ∃m,m<n/\I m s₃) (λ_ _=>False) s₂) (λ_ _=>False) s₁') (λ_ _=>False) s₁) (λ_ _=>False) s)
  (n:Nat) (h:I n s):codeAny (model prog w) A (.compLoop (.ListComp e0 gs sc ps) d itv acc env) R s:=by
 refine codeAny_loop rfl I (λn s hI=>?_) n h
 show wpAny _ A ((compTurn (.ListComp e0 gs sc ps) d itv acc env).onRaise (λx=>do noteFrame x env;theTreesLotGoes x)) _ _ s
 refine wpAny_noted ?_
 rw [ht]
 unfold Fg
 refine wpAny_bind (wpAny_standAt (wpAny_bind (wpAny_mono (turn n s hI) (λr s₁ h₁=>?_) λ_ _ h'=>h'.elim)))
 cases r with
 | none=>exact wpAny_pure h₁
 | some v=>
  refine wpAny_bind (wpAny_mono h₁ (λ_ s₁' h₁'=>?_) λ_ _ h'=>h'.elim)
  refine wpAny_bind (wpAny_mono h₁' (λ_ s₂ h₂=>wpAny_bind (wpAny_mono h₂ (λok s₃ h₃=>?_) λ_ _ h'=>h'.elim)) λ_ _ h'=>h'.elim)
  cases ok with
  | false=>exact wpAny_pure ⟨rfl,h₃⟩
  | true=>exact wpAny_mono h₃ (λfin s₅ ⟨e,q⟩=>by subst e;exact⟨rfl,q⟩) λ_ _ h'=>h'.elim
end
structure ED (Y:Cx) (a:Addr):Prop where
 loc:a≠Y.env.locals
 fs:a ∉ Y.fs
 sz:a∈Y.ex\/Y.s₀.heap.objs.size<=a
 cell:∀x c,Y.env.cells.lookup x=some c->c≠a
 pn:Y.pn=[]
 calm:Y.calm=true
abbrev Ej (its:List Value) (k:Nat):Obj:= { cls:= .type "list",data:= .seq its.toArray k}
structure Grown (Y:Cx) (a:Addr) (PB:List (Addr×Obj)) (σ:St) (zs:List V) (H:Hp) (s:Shared):Prop where
 inv:Ae Y PB σ H s
 no:H a=none
 len:zs.length<=sizeLine
 at':∃its k,s.heap.get? a=some (Ej its k)/\Ar zs its
theorem Grown.pin {s:Shared} (A:ED Y a) (g:Grown Y a PB σ zs H s) (e:s.heap.get? a=some (Ej its k)):Ae Y ((a,Ej its k)::PB) σ H s:=
 g.inv.pins_of λp hp=>by
  rcases List.mem_cons.mp hp with rfl | hp
  ·exact⟨e,g.no,A.loc,A.fs,λv z=>by
    have z':Data.seq its.toArray k=Data.cell v:=z
    cases z'⟩
  ·exact g.inv.pin p (List.mem_append_right _ hp)
theorem Ae.grown {s:Shared} (I:Ae Y ((a,Ej its k)::PB) σ H s) (hz:zs.length<=sizeLine) (v:Ar zs its):Grown Y a PB σ zs H s:=by
 have q:=I.pin (a,Ej its k) (List.mem_append_right _ List.mem_cons_self)
 exact⟨I.pins_of λp hp=>I.pin p (List.mem_append_right _ (List.mem_cons_of_mem _ hp)),q.2.1,hz,its,k,q.1,v⟩
def Kx:List V->Prop->Prop:=λzs p=>zs.length<sizeLine/\p
def Oo:List V->Prop->Prop:=λ_ p=>p
def Fh (Y:Cx) (a:Addr) (E:Expr) (d:Nat) (body:Value->Sem PySem.Fin) (C:List V->Prop) (B:TB):Prop:=
 ∀(jt:Value) (PB:List (Addr×Obj)) (σ:St) (zs:List V) (H:Hp) (s:Shared) (N:List V->Hp->Prop) (P:Shared->Prop),(∀p∈PB,p.1≠a)->Grown Y a PB σ zs H s->C zs->B σ zs H N->(∀zs' H' s',Grown Y a PB σ zs' H' s'->N zs' H'->P s')->Gd (model Y.prog Y.w) Y.A E d jt (.ref a) Y.env (body jt) P s
theorem Ky {e0 tg it:Expr}{gs:List Comprehension}{ifs:List Expr}{sc:Scope}{ps:Pos}{d m0:Nat}{Y:Cx}{a jt:Addr}{PB:List (Addr×Obj)}{g:TG}{tt:TT}{B:TB}{C:List V->Prop}{Z:List V->Prop->Prop}{body:Value->Sem PySem.Fin}{fp:List Addr}{tn:Nat->Heap->Prop}{J:It}{W:Nat->Nat->List V->Hp->Prop}{σ:St}{ys:List V}{H:Hp}{s:Shared}{N:List V->Hp->Prop}{R:Result->Shared->Prop}
  (A:ED Y a) (hPB:∀p∈PB,p.1≠a) (ht:∀itv,compTurn (.ListComp e0 gs sc ps) d itv (.ref a) Y.env=Fg (.ListComp e0 gs sc ps) d tg it ifs (body itv) itv (.ref a) Y.env) (hx:Y.xe=λ_ _=>False) (hg:PG Y tg g) (htt:CJ Y ifs tt) (hb:Fh Y a (.ListComp e0 gs sc ps) d body C B) (hZ:∀zs p,Z zs p->C zs/\p)
  (T:DH Y.prog Y.w Y.K tg J fp jt tn) (na:∀b∈fp,b≠a) (fpY:∀ {o:Obj}{H':Hp},(∀b∈fp,H' b=none)->∀b∈fp,Ci Y ((a,o)::PB) H' b) (st:tn 0 s.heap) (gr:Grown Y a PB σ ys H s) (hn:∀b∈fp,H b=none) (w0:W 0 m0 ys H)
  (turn:∀j m zs H,W j m zs H->(J.stop j H/\N zs H)\/(J.go j H/\Z zs (∃N2:List V->Hp->Prop,(∀zs' H',N2 zs' H'->∃m',m'<m/\W (j+1) m' zs' H')/\∀x H',J.yld j H x H'->g x σ H' fun σ3 H2=>Keep σ σ3/\tt σ3 H2 λb H3=>br b (B σ3 zs H3 N2) (N2 zs H3))))
  (back:∀zs H' s',Grown Y a PB σ zs H' s'->N zs H'->R (.ok .next) s'):codeAny (model Y.prog Y.w) Y.A (.compLoop (.ListComp e0 gs sc ps) d (.ref jt) (.ref a) Y.env) R s:=by
 refine On (ht _) (λn' s'=>∃(j:Nat) (zs:List V) (H':Hp),Grown Y a PB σ zs H' s'/\tn j s'.heap/\(∀b∈fp,H' b=none)/\W j n' zs H') ?_ m0 ⟨0,ys,H,gr,st,hn,w0⟩
 rintro n' s12 ⟨j,zs,H12,g12,st12,fr12,w12⟩
 obtain⟨its',k',e12,v12⟩:=g12.at'
 have I12:=g12.pin A e12
 rcases turn j n' zs H12 w12 with⟨stop,q⟩ | ⟨go2,hz0⟩
 ·refine Av (T.done Y rfl rfl rfl A.calm j _ s12 _ H12 _ I12 (fpY fr12) st12 stop) λr s13 ⟨hr,I13⟩=>?_
  subst hr
  exact back zs H12 s13 (Ae.grown I13 g12.len v12) q
 ·obtain⟨hC,N2,hN2,step2⟩:=hZ _ _ hz0
  refine Av (T.item Y rfl rfl rfl A.calm j _ s12 _ H12 _ I12 (fpY fr12) st12 go2) λr s13 ⟨u2,hr,h13⟩=>?_
  subst hr
  refine Av h13 λ_ s14 ⟨x2,H14,I14,r14,y14,st14,fr14⟩=>?_
  have I14':=I14.pinned (fpY fr14) (T.obj _ _ st14)
  have hgY:=hg _ s14 _ H14 x2 u2 _ I14' r14 (step2 x2 H14 y14)
  rw [hx] at hgY
  refine Av hgY λ_ s15 ⟨σ15,H15,I15,kp2,q15⟩=>?_
  have htY:=htt _ s15 σ15 H15 _ I15 q15
  rw [hx] at htY
  refine Av htY λb2 s16 ⟨H16,I16,q16⟩=>?_
  have pn:∀p∈PB++Eg fp s14.heap,p.1≠a:=λp hp=>by
   rcases List.mem_append.mp hp with hp | hp
   ·exact hPB p hp
   ·exact na p.1 (J1 hp).1
  have back2:∀ {σ':St}{zs':List V}{H':Hp}{s':Shared},Keep σ σ'->Grown Y a (PB++Eg fp s14.heap) σ' zs' H' s'->N2 zs' H'->∃m,m<n'/\∃(j:Nat) (zs:List V) (H':Hp),Grown Y a PB σ zs H' s'/\tn j s'.heap/\(∀b∈fp,H' b=none)/\W j m zs H':=λ{σ' zs' H' s'} kp G n2=>by
   obtain⟨m',hm,w16⟩:=hN2 _ _ n2
   refine⟨m',hm,j+1,zs',H',⟨(G.inv.pins_of λp hp=>G.inv.pin p (List.mem_append_right _ (List.mem_append_left _ hp))).weak (by rw [kp.len]) λi v e=>kp.get e,G.no,G.len,G.at'⟩,T.keep _ _ _ st14 λb hb o e=>(G.inv.pin (b,o) (List.mem_append_right _ (List.mem_append_right _ (FZ hb e)))).1,λb hb=>?_,w16⟩
   obtain⟨o,e,d⟩:=T.obj _ _ st14 b hb
   exact(G.inv.pin (b,o) (List.mem_append_right _ (List.mem_append_right _ (FZ hb e)))).2.1
  have g16:Grown Y a (PB++Eg fp s14.heap) σ15 zs H16 s16:=Ae.grown I16 g12.len v12
  cases b2 with
  | false=>
   rw [if_neg Bool.false_ne_true]
   exact back2 kp2 g16 (q16.2 rfl)
  | true=>
   rw [if_pos rfl]
   exact hb _ _ _ _ _ _ _ _ pn g16 hC (q16.1 rfl) λzs' H' s' G n2=>back2 kp2 G n2
def IK (te:TE):TB:=fun σ zs H N=>te σ H λy H4=>N (zs++[y]) H4
theorem Kz {elt:Expr}{d:Nat} (A:ED Y a) (hx:Y.xe=λ_ _=>False) (he:PE Y elt te):Fh Y a E d (λjt=>Gc E d elt jt (.ref a) Y.env) (λzs=>zs.length<sizeLine) (IK te):=by
 intro jt PB σ zs H s N P hPB gr zlt h back
 obtain⟨its',k',e12,v12⟩:=gr.at'
 have I16:=gr.pin A e12
 have heY:=he _ s σ H _ I16 h
 rw [hx] at heY
 refine Ol (Av heY λyv s17 ⟨y,H17,I17,r17,n17⟩=>?_)
 have gI:=Ae.grown I17 gr.len v12
 have b4:=(I17.pin (a,Ej its' k') (List.mem_append_right _ List.mem_cons_self)).1
 have hl:=v12.length
 refine call_meets F.slot_list_append ⟨_,b4,rfl⟩ F.entry_list_append (F.args_list_append_2 _ _) (PySem.list_append a its'.toArray k' yv (by rw [List.size_toArray];omega)) ⟨b4,?_⟩
 have q:=PySem.IsL.update b4 (λa=>a.push yv)
 have eqp:its'.toArray.push yv=(its'++[yv]).toArray:=by simp
 rw [eqp] at q
 have I18:Ae Y PB σ H17 { s17 with heap:=s17.heap.update a (Obj.mapSeq λa=>a.push yv),toks:=s17.toks}:=
  gI.inv.turned (it:=a) (λb o hb e=>(Heap.get?_update_other s17.heap _ (Ne.symm hb)).trans e) gI.no A.loc A.sz A.cell λp hp z=>by
   rw [A.pn,List.nil_append] at hp
   exact hPB p hp z
 exact back (zs++[y]) H17 _ ⟨I18,gI.no,by rw [List.length_append,List.length_singleton];omega,its'++[yv],_,q,v12.append (.cons r17 .nil)⟩ n17
def KA (Z:List V->Prop->Prop) (wi:TI) (g:TG) (tt:TT) (B:TB):TB:=fun σ ys H N=>wi σ H λJ H1=>∃W:Nat->Nat->List V->Hp->Prop,(∃m,W 0 m ys H1)/\∀j m zs H,W j m zs H->
  (J.stop j H/\N zs H)\/(J.go j H/\Z zs (∃N2:List V->Hp->Prop,(∀zs' H',N2 zs' H'->∃m',m'<m/\W (j+1) m' zs' H')/\∀x H',J.yld j H x H'->g x σ H' fun σ3 H2=>Keep σ σ3/\tt σ3 H2 λb H3=>br b (B σ3 zs H3 N2) (N2 zs H3)))
theorem Op {e0 tg it:Expr}{gs:List Comprehension}{ifs:List Expr}{sc:Scope}{ps:Pos}{d:Nat}{g:TG}{B:TB}{C:List V->Prop}{Z:List V->Prop->Prop}{body:Value->Sem PySem.Fin} (A:ED Y a) (hx:Y.xe=λ_ _=>False) (hs:∀x,foldedSetIterable it Y.env x=pure x)
  (ht:∀itv,compTurn (.ListComp e0 gs sc ps) (d+1) itv (.ref a) Y.env=Fg (.ListComp e0 gs sc ps) (d+1) tg it ifs (body itv) itv (.ref a) Y.env)
  (hst:∀ {R:Result->Shared->Prop}{s:Shared}{j:Value},codeAny (model Y.prog Y.w) Y.A (.compLoop (.ListComp e0 gs sc ps) (d+1) j (.ref a) Y.env) R s->wpAny (model Y.prog Y.w) Y.A (pyIter j) (λj' s'=>codeAny (model Y.prog Y.w) Y.A (.compLoop (.ListComp e0 gs sc ps) (d+1) j' (.ref a) Y.env) R s') (notedBy (model Y.prog Y.w) Y.A Y.env λx s'=>R (.error x) s') s->codeAny (model Y.prog Y.w) Y.A (.compStart (.ListComp e0 gs sc ps) (d+1) j (.ref a) Y.env) R s)
  (hi:PI Y tg it wi) (hg:PG Y tg g) (htt:CJ Y ifs tt) (hb:Fh Y a (.ListComp e0 gs sc ps) (d+1) body C B) (hZ:∀zs p,Z zs p->C zs/\p):Fh Y a (.ListComp e0 gs sc ps) d (λjt=>IJ (.ListComp e0 gs sc ps) d it jt (.ref a) Y.env) (λ_=>True) (KA Z wi g tt B):=by
 intro jt0 PB σ ys H s N P hPB gr _ h back
 obtain⟨its,k,ee,v0⟩:=gr.at'
 have I0:=gr.pin A ee
 have base:=hi _ s σ H _ I0 h
 rw [hx] at base
 refine Om hs (Av base λv9 s9 h9=>Av h9 λitv2 s10 h10=>?_)
 obtain⟨jt,fp,tn,J,H10,e10,I10,T,st10,f10,W,⟨m2,w2⟩,turn⟩:=h10
 subst e10
 have g10:=Ae.grown I10 gr.len v0
 have ne2:∀b∈fp,b≠a/\∀p∈PB,p.1≠b:=λb hb=>by
  obtain⟨_,_,_,_,_,f5⟩:=f10 b hb
  exact⟨λz=>f5 (a,Ej its k) (List.mem_append_right _ List.mem_cons_self) z.symm,λp hp=>f5 p (List.mem_append_right _ (List.mem_cons_of_mem _ hp))⟩
 have fpY:∀ {o:Obj}{H':Hp},(∀b∈fp,H' b=none)->∀b∈fp,Ci Y ((a,o)::PB) H' b:=λ{o H'} hn b hb=>by
  obtain⟨_,f1,f2',f3,f4,_⟩:=f10 b hb
  refine⟨hn b hb,f1,f2',f3,f4,λp hp e=>?_⟩
  rw [A.pn,List.nil_append] at hp
  rcases List.mem_cons.mp hp with rfl | hp
  ·exact(ne2 b hb).1 e.symm
  ·exact(ne2 b hb).2 p hp e
 have loop:codeAny (model Y.prog Y.w) Y.A (.compLoop (.ListComp e0 gs sc ps) (d+1) (.ref jt) (.ref a) Y.env) (λr s₆=>r= .ok .next/\P s₆) s10:=
  Ky A hPB ht hx hg htt hb hZ T (λb hb=>(ne2 b hb).1) fpY st10 g10 (λb hb=>(f10 b hb).1) w2 turn λzs H' s' G n=>⟨rfl,back zs H' s' G n⟩
 exact hst loop (T.self _ 0 _ _ _ st10 loop)
theorem KB {X:Cx}{tg iter e0:Expr}{gs:List Comprehension}{ifs:List Expr}{scope:Scope}{pos pos':Pos}{wi:TI}{g:TG}{tt:TT}{Bt:TB}{Cd:List V->Prop} (Z:List V->Prop->Prop) {N':List Str}{cap:List (Option Nat)}{use:Option (Value->Sem Unit)}{Q':Value->Shared->Prop}{body:Value->Value->Env->Sem PySem.Fin}
  {pins:List (Addr×Obj)}{s:Shared}{σ:St}{H:Hp}{Q:List V->Hp->Prop}
  (hc:X.calm=true) (hi:PI X tg iter wi) (B:AO X.env.scope X.N scope N' cap) (hg:∀s H ex C,PG (A8 X N' scope s H ex C) tg g) (ht:∀s H ex C,CJ (A8 X N' scope s H ex C) ifs tt)
  (htn:∀itv acc env,compTurn (.ListComp e0 (⟨tg,iter,ifs,0⟩::gs) scope pos) 0 itv acc env=Fg (.ListComp e0 (⟨tg,iter,ifs,0⟩::gs) scope pos) 0 tg iter ifs (body itv acc env) itv acc env)
  (hbd:∀s H ex C a,ED (A8 X N' scope s H ex C) a->Fh (A8 X N' scope s H ex C) a (.ListComp e0 (⟨tg,iter,ifs,0⟩::gs) scope pos) 0 (λitv=>body itv (.ref a) (A8 X N' scope s H ex C).env) Cd Bt) (hZ:∀zs p,Z zs p->Cd zs/\p)
  (hs:∀x,foldedSetIterable iter X.env x=pure x) (I:Ae X pins σ H s)
  (h:wi σ H λJ H1=>∃W:Nat->Nat->List V->Hp->Prop,(∃m,W 0 m [] H1)/\∀i m ys H,W i m ys H->(J.stop i H/\Q ys H)\/(J.go i H/\Z ys (∃N:List V->Hp->Prop,(∀ys' H',N ys' H'->∃m',m'<m/\W (i+1) m' ys' H')/\∀x H',J.yld i H x H'->g x (A4 cap σ) H' fun σ2 H2=>Keep (A4 cap σ) σ2/\tt σ2 H2 λb H3=>br b (Bt σ2 ys H3 N) (N ys H3))))
  (fin:∀(acc C:Addr) (H:Hp) (ys:List V) (s':Shared),H acc=none->Ae X pins σ (upd H acc (.lst ys)) s'->II X pins C (upd H acc (.lst ys)) s'->Q ys H->compPost (model X.prog X.w) X.A X.xe use Q' (.ref acc) C (.ok .next) s'):
  wpAny (model X.prog X.w) X.A (comprehension (.ListComp e0 (⟨tg,iter,ifs,0⟩::gs) scope pos) scope X.env pos' (newList []) false (eval iter X.env) use) Q' X.xe s:=by
 have hclos:closureFor scope X.env=pure (BD X.env.cells scope.names []):=Of λy hy hf=>I.ok.has y.1 (B.free y hy hf)
 refine wpAny_comprehension_free (cl:=BD X.env.cells scope.names []) rfl hs hclos B.kind B.names (Av (hi pins s σ H _ I h) λv s1 h1=>Av h1 λitv s2 h2=>?_)
 obtain⟨it,fp,tn,J,H2,e,I2,T,st2,f2,W,⟨m0,w0⟩,turn⟩:=h2
 subst e
 refine wpAny_newObj_type (Og ?_)
 dsimp only
 generalize hH3:s2.heap.push { cls:= .type "list",dict:=none,data:= .seq ([]:List Value).toArray}=h3
 have hsz3:h3.objs.size=s2.heap.objs.size+1:=by rw [<-hH3];exact Heap.size_push ..
 have hk3:∀b o,s2.heap.get? b=some o->h3.get? b=some o:=λb o e=>by rw [<-hH3];exact Heap.get?_push_of_some _ e
 have hacc3:h3.get? s2.heap.objs.size=some { cls:= .type "list",data:= .seq ([]:List Value).toArray}:=by rw [<-hH3];exact Heap.get?_push_size _ rfl
 have hlt:∀b∈fp,b<s2.heap.objs.size:=λb hb=>let ⟨o,e,_⟩:=T.obj _ _ st2 b hb;Heap.lt_size e
 have I4:=Oj I2 B f2 hlt hk3 (by rw [hsz3];exact Nat.le_succ _)
 have acc4:(pushCells (h3.push { cls:= .type "dict",data:= .dict #[]}) scope.names).get? s2.heap.objs.size=some { cls:= .type "list",data:= .seq ([]:List Value).toArray}:=pushCells_keeps _ _ _ _ (Heap.get?_push_of_some _ hacc3)
 have st4:tn 0 (pushCells (h3.push { cls:= .type "dict",data:= .dict #[]}) scope.names):=T.keep _ _ _ st2 λb _ o e=>pushCells_keeps _ _ _ _ (Heap.get?_push_of_some _ (hk3 b o e))
 have haC:s2.heap.objs.size≠h3.objs.size:=by rw [hsz3];exact Nat.ne_of_lt (Nat.lt_succ_self _)
 have haN:s2.heap.objs.size ∉ Ca X.stack:=λz=>by
  rcases List.mem_cons.mp (I2.stkSub _ z) with q | q
  ·exact absurd I2.lt (by rw [<-q];exact Nat.lt_irrefl _)
  ·exact I2.nofs (Nat.le_refl _) q
 have okY:=I4.ok
 have fpY:∀ {pins':List (Addr×Obj)}{H':Hp},(∀b∈fp,H' b=none)->(∀p∈pins',p.1=s2.heap.objs.size)->∀b∈fp,Ci (A8 X N' scope s2 H2 fp h3.objs.size) pins' H' b:=λ{pins' H'} hn hp b hb=>
  ⟨hn b hb, (okY.exf b hb).1, okY.exfs b hb, .inl hb, (okY.exf b hb).2, λp z e => by
   have z':p∈pins':=z
   have:=hlt b hb
   rw [<-e,hp p z'] at this
   exact Nat.lt_irrefl _ this⟩
 have cellNe:∀x c,(A8 X N' scope s2 H2 fp h3.objs.size).env.cells.lookup x=some c->c≠s2.heap.objs.size:=λx c ec z=>by
  rcases Ff scope.names (h3.objs.size+1) _ ec with q' | q'
  ·rw [z,hsz3] at q'
   exact absurd q' (by omega)
  ·have ec':X.env.cells.lookup x=some c:=(EC _ _ q').elim id λz=>nomatch z
   obtain⟨_,q''⟩:=I2.cell x c ec'
   have:=q''.lt
   rw [z] at this
   exact Nat.lt_irrefl _ this
 have loop:∀s4:Shared,s4= { s2 with heap:=pushCells (h3.push { cls:= .type "dict",data:= .dict #[]}) scope.names}->
   codeAny (model X.prog X.w) X.A (.compLoop (.ListComp e0 (⟨tg,iter,ifs,0⟩::gs) scope pos) 0 (.ref it) (.ref s2.heap.objs.size) (Kv scope X.env h3.objs.size)) (compPost (model X.prog X.w) X.A X.xe use Q' (.ref s2.heap.objs.size) h3.objs.size) s4:=by
  rintro s4 rfl
  have A0:ED (A8 X N' scope s2 H2 fp h3.objs.size) s2.heap.objs.size:=⟨haC,haN,.inr (Nat.le_refl _),cellNe,rfl,hc⟩
  refine Ky (Y:=A8 X N' scope s2 H2 fp h3.objs.size) (PB:=[]) (W:=W) A0 (λp hp=>absurd hp (by simp)) (λ_=>htn _ _ _) rfl (hg _ _ _ _) (ht _ _ _ _) (hbd _ _ _ _ _ A0) hZ T (λb hb z=>absurd (hlt b hb) (by rw [z];exact Nat.lt_irrefl _))
   (λ{o H'} hn b hb=>fpY hn (λp hp=>by rw [List.mem_singleton.mp hp]) b hb) st4 ⟨I4,I2.hok.fresh (Nat.le_refl _),Nat.zero_le _,[],0,acc4,.nil⟩ (λb hb=>(f2 b hb).1) w0 turn λys H5 s6 G q=>?_
  obtain⟨its,k,e6,v5⟩:=G.at'
  have fa5:=G.no
  have z5:=G.len
  have I6:=G.inv
  have nacc:∀b u,H5 b=some u->b≠s2.heap.objs.size:=λb u q z=>by rw [z,fa5] at q;cases q
  have un:Un (Ca X.stack) fp H2 (upd H5 s2.heap.objs.size (.lst ys)) s2.heap s6.heap:=by
   have u:=I6.base
   refine⟨u.keep,u.slot,λb o q n hx=>?_,u.there,λb xs q=>?_,λb o xs q=>?_,λb ps q=>?_⟩
   ·rw [AA (Nat.ne_of_lt (Heap.lt_size q))]
    exact u.free b o q n hx
   ·have z:=u.tups b xs q
    rw [AA (nacc b _ z)];exact z
   ·have z:=u.frzs b o xs q
    rw [AA (nacc b _ z)];exact z
   ·obtain⟨more,z⟩:=u.tbls b ps q
    exact⟨more,by rw [AA (nacc b _ z)];exact z⟩
  have hok:HOk X.prog X.w (upd H5 s2.heap.objs.size (.lst ys)) s6.heap:=λb u q=>by
   by_cases hb:b=s2.heap.objs.size
   ·subst hb
    rw [Ag] at q;cases q
    exact⟨z5,its,k,v5,e6⟩
   ·rw [AA hb] at q
    have o6:ObjOk X.prog X.w H5 s6.heap b u:=I6.hok b u q
    exact o6.stay (λ_ _ _ e=>e) (λc z=>by rw [AA (nacc c _ z)];exact z) λc xs z=>by rw [AA (nacc c _ z)];exact z
  have IX:Ae X pins σ (upd H5 s2.heap.objs.size (.lst ys)) s6:=I2.call' (show s6.os=s2.os from I6.os) un hok I6.bare λb hb=>let f:=f2 b hb;⟨f.2.2.2.1,f.2.1,f.2.2.2.2.1,f.2.2.2.2.2⟩
  have hCs:s2.heap.objs.size<=h3.objs.size:=by rw [hsz3];exact Nat.le_succ _
  refine fin _ _ H5 ys s6 fa5 IX ⟨let ⟨m,hn,_⟩:=I6.loc;⟨m,hn⟩,?_,?_,Nat.le_trans I2.sz hCs,λx c ec z=>?_,λp hp z=>?_⟩ q
  ·rw [AA (Ne.symm haC)];exact I6.free
  ·exact Nat.ne_of_gt (Nat.lt_of_lt_of_le I2.lt hCs)
  ·obtain⟨_,q⟩:=I2.cell x c ec
   have:=q.lt
   rw [z] at this
   exact absurd (Nat.lt_of_lt_of_le this hCs) (Nat.lt_irrefl _)
  ·have:=Heap.lt_size (I2.pin p hp).1
   rw [z] at this
   exact absurd (Nat.lt_of_lt_of_le this hCs) (Nat.lt_irrefl _)
 exact codeAny_compStart_list (loop _ rfl) (T.self _ 0 _ _ _ st4 (loop _ rfl))
theorem KC {X:Cx}{tg iter elt:Expr}{ifs:List Expr}{scope:Scope}{pos pos':Pos}{wi:TI}{g:TG}{tt:TT}{te:TE}{N':List Str}{cap:List (Option Nat)}{use:Option (Value->Sem Unit)}{Q':Value->Shared->Prop}
  {pins:List (Addr×Obj)}{s:Shared}{σ:St}{H:Hp}{Q:List V->Hp->Prop}
  (hc:X.calm=true) (hi:PI X tg iter wi) (B:AO X.env.scope X.N scope N' cap) (hg:∀s H ex C,PG (A8 X N' scope s H ex C) tg g) (ht:∀s H ex C,CJ (A8 X N' scope s H ex C) ifs tt) (he:∀s H ex C,PE (A8 X N' scope s H ex C) elt te)
  (hs:∀x,foldedSetIterable iter X.env x=pure x) (I:Ae X pins σ H s) (h:IH wi cap g tt te σ H Q)
  (fin:∀(acc C:Addr) (H:Hp) (ys:List V) (s':Shared),H acc=none->Ae X pins σ (upd H acc (.lst ys)) s'->II X pins C (upd H acc (.lst ys)) s'->Q ys H->compPost (model X.prog X.w) X.A X.xe use Q' (.ref acc) C (.ok .next) s'):
  wpAny (model X.prog X.w) X.A (comprehension (.ListComp elt [⟨tg,iter,ifs,0⟩] scope pos) scope X.env pos' (newList []) false (eval iter X.env) use) Q' X.xe s:=
 KB Kx (body:=λitv acc env=>Gc (.ListComp elt [⟨tg,iter,ifs,0⟩] scope pos) 0 elt itv acc env) (Bt:=IK te) hc hi B hg ht (λ_ _ _=>rfl) (λs H ex C a A=>Kz A rfl (he s H ex C)) (λ_ _ z=>z) hs I h fin
def Oq (wi:TI) (cap:List (Option Nat)) (g:TG) (tt:TT) (te:TE):TE:=fun σ H Q=>IH wi cap g tt te σ H λys H'=>∀p,H' p=none->Q (.ref p) (upd H' p (.lst ys))
theorem A6 {X:Cx}{tg iter elt:Expr}{ifs:List Expr}{scope:Scope}{pos:Pos}{wi:TI}{g:TG}{tt:TT}{te:TE} (N':List Str) (cap:List (Option Nat))
  (hc:X.calm=true) (hi:PI X tg iter wi) (B:AO X.env.scope X.N scope N' cap) (hg:∀s H ex C,PG (A8 X N' scope s H ex C) tg g) (ht:∀s H ex C,CJ (A8 X N' scope s H ex C) ifs tt) (he:∀s H ex C,PE (A8 X N' scope s H ex C) elt te)
  (hs:∀x,foldedSetIterable iter X.env x=pure x:=by intro _;rfl):PE X (.ListComp elt [⟨tg,iter,ifs,0⟩] scope pos) (Oq wi cap g tt te):=by
 intro pins s σ H Q I h
 rw [eval_ListComp]
 refine KC (use:=none) hc hi B hg ht he hs I h λacc C H ys s' hn I' L q=>?_
 obtain⟨m,hm⟩:=L.ns
 refine⟨m,hm,λh' hsb=>⟨.ref acc,_,I'.turned (t':=s'.toks) (it:=C) (λb o hb e=>hsb.extBut b o hb e) L.free L.loc (.inr L.sz) L.cell L.pin,rfl,q acc hn⟩⟩
def Os (i:Nat) (wi:TI) (cap:List (Option Nat)) (g:TG) (tt:TT) (te:TE):TS:=λD σ H=>IH wi cap g tt te σ H λys H'=>∀p,H' p=none->D.nx (σ.set i (some (.ref p))) (upd H' p (.lst ys))
theorem Ot {X:Cx}{i:Nat}{y:Str}{tg iter elt:Expr}{ifs:List Expr}{scope:Scope}{pos pos' pos'':Pos}{g:TG} (N':List Str) (cap:List (Option Nat)) (hN:X.N.Nodup) (hin:X.N[i]? =some y) (hy:DE X.env.scope y)
  (hc:X.calm=true) (hi:PI X tg iter wi) (B:AO X.env.scope X.N scope N' cap) (hg:∀s H ex C,PG (A8 X N' scope s H ex C) tg g) (ht:∀s H ex C,CJ (A8 X N' scope s H ex C) ifs tt) (he:∀s H ex C,PE (A8 X N' scope s H ex C) elt te)
  (hsw:swapsWith (.ListComp elt [⟨tg,iter,ifs,0⟩] scope pos) (some (.Name y pos')) pos''.line X.env=pure true:=by rfl)
  (hf:X.fn y=true\/X.env.scope.names.lookup y=some .local :=by first | exact .inl rfl | exact .inr rfl | assumption)
  (hs:∀x,foldedSetIterable iter X.env x=pure x:=by intro _;rfl):PS X (.Assign [.Name y pos'] (.ListComp elt [⟨tg,iter,ifs,0⟩] scope pos) pos'') (Os i wi cap g tt te):=by
 intro pins s σ H D I h
 rw [exec_Assign_Name_used _ _ _ _ hsw]
 refine wpAny_bind (wpAny_standAt (wpAny_bind ?_))
 show wpAny _ X.A (do let _<-comprehension (.ListComp elt [⟨tg,iter,ifs,0⟩] scope pos) scope X.env _ (newList []) false (eval iter X.env) (some (assign (.Name y pos') X.env))) _ _ s
 refine wpAny_bind (wpAny_mono (KC (use:=some (assign (.Name y pos') X.env)) (Q':=λ_ s'=>SP X pins D .next s') hc hi B hg ht he hs I h λacc C H ys s' hn I' L q=>?_) (λ_ s' hq=>wpAny_pure (wpAny_pure hq)) λ_ _ e=>e)
 obtain⟨m,hm⟩:=L.ns
 refine wpAny_assign_Name (H0 I' hN hin hy (show AH (.ref acc) (.ref acc) from rfl) (λs'' I'' ⟨a,sb,ha⟩=>?_) hf)
 have hCa:C≠a:=by
  rcases ha with e | e
  ·rw [e];exact L.loc
  ·exact λz=>L.cell _ _ e z.symm
 refine⟨m,hm.sameBut sb hCa,λh' hsb=>?_⟩
 exact⟨_,_,I''.turned (t':=s''.toks) (it:=C) (λb o hb e=>hsb.extBut b o hb e) L.free L.loc (.inr L.sz) L.cell L.pin,q acc hn⟩
def Ek (J:It) (cap:List (Option Nat)) (g:TG) (tt:TT) (te:TE) (σ:St) (Q:List V->Hp->Prop) (H1:Hp):Prop:=
 ∃W:Nat->Nat->List V->Hp->Prop,(∃m,W 0 m [] H1)/\∀i m ys H,W i m ys H->
  (J.stop i H/\Q ys H)\/
  (J.go i H /\ ys.length < sizeLine /\ ∃ N : List V -> Hp -> Prop, (∀ ys' H', N ys' H' -> ∃ m', m' < m /\ W (i + 1) m' ys' H') /\ ∀ x H', J.yld i H x H' -> g x (A4 cap σ) H' fun σ2 H2 => Keep (A4 cap σ) σ2 /\ tt σ2 H2 λb H3 =>
   br b (te σ2 H3 λy H4=>N (ys++[y]) H4) (N ys H3))
theorem EE {J:It}{g:TG} (n:Nat) (Pv:Nat->List V->Hp->Prop) (hn:n<=100000) (h0:Pv 0 [] H) (hz:∀i ys H,Pv i ys H->ys.length<=i)
  (hs:∀i ys H,i<n->Pv i ys H->J.go i H/\∀x H',J.yld i H x H'->g x (A4 cap σ) H' fun σ2 H2=>Keep (A4 cap σ) σ2/\tt σ2 H2 λb H3=>br b (te σ2 H3 λy H4=>Pv (i+1) (ys++[y]) H4) (Pv (i+1) ys H3))
  (hd:∀ys H,Pv n ys H->J.stop n H/\Q ys H):Ek J cap g tt te σ Q H:=by
 refine⟨λi m ys H=>m=n-i/\i<=n/\Pv i ys H,⟨n,by simp,Nat.zero_le _,h0⟩,?_⟩
 rintro i m ys H ⟨rfl,hi,p⟩
 by_cases hlt:i<n
 ·obtain⟨a,b⟩:=hs i ys H hlt p
  refine .inr ⟨a,?_,Pv (i+1),λys' H' p'=>⟨n-(i+1),by omega,rfl,hlt,p'⟩,b⟩
  have:=hz i ys H p
  have:(100000:Nat)<sizeLine:=by decide
  omega
 ·have e:i=n:=by omega
  subst e
  exact .inl (hd ys H p)
theorem BR {K:PySem.W.Frag}{g:TG} (Pv:Nat->List V->Hp->Prop) (hn:xs.length<=100000) (h0:Pv 0 [] H) (hz:∀i ys H,Pv i ys H->ys.length<=i)
  (hl:∀i ys H,i<=xs.length->Pv i ys H->Ac K H a xs)
  (hs:∀i x ys H,xs[i]? =some x->Pv i ys H->g x (A4 cap σ) H fun σ2 H2=>Keep (A4 cap σ) σ2/\tt σ2 H2 λb H3=>br b (te σ2 H3 λy H4=>Pv (i+1) (ys++[y]) H4) (Pv (i+1) ys H3))
  (hd:∀ys H,Pv xs.length ys H->Q ys H):Ek (EA K a) cap g tt te σ Q H:=
 EE xs.length Pv hn h0 hz (λi ys H hi p=>⟨⟨xs,xs[i],hl i ys H (Nat.le_of_lt hi) p,by simp [hi]⟩,λx H' ⟨e,y⟩=>by subst e;exact hs i x ys _ (y xs (hl i ys _ (Nat.le_of_lt hi) p)) p⟩)
  λys H p=>⟨⟨xs,hl _ ys H (Nat.le_refl _) p,Nat.le_refl _⟩,hd ys H p⟩
theorem IL {K:PySem.W.Frag}{g:TG} (Pv:Nat->List V->Hp->Prop) (hn:xs.length<=100000) (h0:Pv 0 [] H) (hz:∀i ys H,Pv i ys H->ys.length<=i)
  (hl:∀i ys H,i<=xs.length->Pv i ys H->Ai K H a xs)
  (hs:∀i x ys H,xs[i]? =some x->Pv i ys H->g x (A4 cap σ) H fun σ2 H2=>Keep (A4 cap σ) σ2/\tt σ2 H2 λb H3=>br b (te σ2 H3 λy H4=>Pv (i+1) (ys++[y]) H4) (Pv (i+1) ys H3))
  (hd:∀ys H,Pv xs.length ys H->Q ys H):Ek (Ef K a) cap g tt te σ Q H:=
 EE xs.length Pv hn h0 hz (λi ys H hi p=>⟨⟨xs,xs[i],hl i ys H (Nat.le_of_lt hi) p,by simp [hi]⟩,λx H' ⟨e,y⟩=>by subst e;exact hs i x ys _ (y xs (hl i ys _ (Nat.le_of_lt hi) p)) p⟩)
  λys H p=>⟨⟨xs,hl _ ys H (Nat.le_refl _) p,Nat.le_refl _⟩,hd ys H p⟩
theorem IM {lo:Int}{n:Nat}{g:TG} (Pv:Nat->List V->Hp->Prop) (hn:n<=100000) (h0:Pv 0 [] H) (hz:∀i ys H,Pv i ys H->ys.length<=i)
  (hs:∀i ys H,i<n->Pv i ys H->g (.int (lo+i)) (A4 cap σ) H fun σ2 H2=>Keep (A4 cap σ) σ2/\tt σ2 H2 λb H3=>br b (te σ2 H3 λy H4=>Pv (i+1) (ys++[y]) H4) (Pv (i+1) ys H3))
  (hd:∀ys H,Pv n ys H->Q ys H):Ek (Dn lo n) cap g tt te σ Q H:=
 EE n Pv hn h0 hz (λi ys H hi p=>⟨hi,λx H' ⟨e,y⟩=>by subst e y;exact hs i ys _ hi p⟩) λys H p=>⟨Nat.le_refl _,hd ys H p⟩
end L2
end
section
namespace L2
open PySem PySem.Spec PyProof.Rows
open AutoSeq1 (wpAny_loadPart')
section
variable {prog : Program} {w : World} {A : Around} {E : Value -> Shared -> Prop} {s : Shared}
theorem Ou {it t:Addr}{i:Nat}{items:Array Value}{x:Value}{Q:Value->Shared->Prop} (hit:s.heap.IsTupleIter it t i) (ht:s.heap.IsTuple t items) (hx:items[i]? =some x)
  (hQ:∀h',h'.IsTupleIter it t (i+1)->Heap.SameBut it s.heap h'->Q x { s with heap:=h'}):wpAny (model prog w) A (Builtin.SmallTypes.nextOf (.ref it)) Q E s:=by
 obtain⟨o,ho,hc,hd⟩:=id hit;obtain⟨ol,hol,_,nl,hdl⟩:=ht;unfold Builtin.SmallTypes.nextOf
 refine wpAny_bind (wpAny_callSpecial?_slot (name:=Str.ofString "__next__") hit.typeIs F.slot_tuple_iterator_next (wpAny_call_entry F.slot_tuple_iterator_next hit.typeIs F.entry_tuple_iterator_next ?_ (F.args_tuple_iterator_next_1 _)))
 show wpAny _ _ (field (.ref it) 0>>=_) _ _ s;refine wpAny_bind (wpAny_field ho hd (x:= .ref t) rfl ?_)
 show wpAny _ _ (if (Value.ref t==Value.none)=true then _ else _) _ _ s;rw [if_neg (show ¬((Value.ref t==Value.none)=true) from Bool.false_ne_true)]
 show wpAny _ _ (field (.ref it) 1>>=_) _ _ s;refine wpAny_bind (wpAny_field ho hd (x:= .int i 0) rfl ?_)
 show wpAny _ _ (seqItems? (.ref t) >>=_) _ _ s;refine wpAny_bind (wpAny_seqItems hol hdl ?_);simp only [Int.toNat_natCast,hx]
 refine wpAny_bind (wpAny_setField ho hd (by simp) (wpAny_pure ⟨x,rfl,wpAny_pure (hQ _ ?_ (Heap.SameBut.update ..))⟩));exact⟨_,Heap.get?_update_self _ ho (Obj.isFreed_of_fields (Obj.data_mapFields hd _)),(Obj.cls_mapFields ..).trans hc,by rw [Obj.data_mapFields hd];simp [rawInt]⟩
theorem Ov {it t:Addr}{i:Nat}{items:Array Value}{Q:Value->Shared->Prop} (hh:A.handled=none) (hit:s.heap.IsTupleIter it t i) (ht:s.heap.IsTuple t items) (hx:items[i]? =none)
  (hE:∀h' e,Heap.ExtBut it s.heap h'->(∃o,h'.get? e=some o/\o.cls= .type "StopIteration")->E (.ref e) { s with heap:=h'}):wpAny (model prog w) A (Builtin.SmallTypes.nextOf (.ref it)) Q E s:=by
 obtain⟨o,ho,hc,hd⟩:=id hit;obtain⟨ol,hol,_,nl,hdl⟩:=ht;unfold Builtin.SmallTypes.nextOf
 refine wpAny_bind (wpAny_callSpecial?_slot (name:=Str.ofString "__next__") hit.typeIs F.slot_tuple_iterator_next (wpAny_call_entry F.slot_tuple_iterator_next hit.typeIs F.entry_tuple_iterator_next ?_ (F.args_tuple_iterator_next_1 _)))
 show wpAny _ _ (field (.ref it) 0>>=_) _ _ s;refine wpAny_bind (wpAny_field ho hd (x:= .ref t) rfl ?_)
 show wpAny _ _ (if (Value.ref t==Value.none)=true then _ else _) _ _ s;rw [if_neg (show ¬((Value.ref t==Value.none)=true) from Bool.false_ne_true)]
 show wpAny _ _ (field (.ref it) 1>>=_) _ _ s;refine wpAny_bind (wpAny_field ho hd (x:= .int i 0) rfl ?_)
 show wpAny _ _ (seqItems? (.ref t) >>=_) _ _ s;refine wpAny_bind (wpAny_seqItems hol hdl ?_);simp only [Int.toNat_natCast,hx]
 refine wpAny_bind (wpAny_rule (wpAny_bind (wpAny_setField ho hd (by simp) ?_)));show wpAny _ _ (newExc (.type "StopIteration") [] >>=_) _ _ _
 refine wpAny_bind ?_;simp only [newExc,newTuple];refine wpAny_bind (wpAny_newObj_type ?_ (by size_fits))
 refine wpAny_bind (m:=firstArgMember _ _) (wpAny_of_eq (a:=Value.none) (by first | rfl | (simp only [firstArgMember];rfl)) ?_);refine wpAny_newObj_type ?_ (by size_fits);simp only [raiseNew]
 refine wpAny_bind (wpAny_handled ?_);first | rw [show A.in1.handled=none from hh] | rw [hh]
 refine wpAny_bind (wpAny_pure (wpAny_throw ?_));exact hE _ _ (((Heap.SameBut.update ..).extBut.push _).push _) ⟨_,Heap.get?_push_size _ rfl,rfl⟩
end
structure A9 (P:Program) (w:World) (K:PySem.W.Frag) where
 Sq:Hp->Addr->List V->Prop
 It:Heap->Addr->Addr->Nat->Prop
 Is:Heap->Addr->Array Value->Prop
 obj:Addr->Obj
 get:∀ {X:Cx}{pins:List (Addr×Obj)}{σ:St}{H:Hp}{s:Shared}{a:Addr}{xs:List V},X.K=K->Ae X pins σ H s->Sq H a xs->∃its:List Value,Ar xs its/\Is s.heap a its.toArray/\xs.length<=sizeLine
 inj:∀ {X:Cx}{pins:List (Addr×Obj)}{σ:St}{H:Hp}{s:Shared}{a:Addr}{xs ys:List V},X.K=K->Ae X pins σ H s->Sq H a xs->Sq H a ys->xs=ys
 draws:∀(A:Around),A.handled=none->∀(it l:Addr),l≠it->∀items:Array Value,Draws P w A it [it,l] items.size (λi v=>items[i]? =some v) (λi h=>It h it l i/\Is h l items)
 ito:∀ {h:Heap}{it l:Addr}{i:Nat},It h it l i->∃o,h.get? it=some o/\∀v,o.data≠ .cell v
 itk:∀ {h h':Heap}{it l:Addr}{i:Nat},It h it l i->(∀o,h.get? it=some o->h'.get? it=some o)->It h' it l i
 isk:∀ {h h':Heap}{l:Addr}{items:Array Value},Is h l items->(∀o,h.get? l=some o->h'.get? l=some o)->Is h' l items
 iso:∀ {h:Heap}{l:Addr}{items:Array Value},Is h l items->∃o,h.get? l=some o
 itn:∀(h:Heap) (l:Addr),It (h.push (obj l)) h.objs.size l 0
 itr:∀ {A:Around}{E:Value->Shared->Prop}{s:Shared}{l:Addr}{items:Array Value}{Q:Value->Shared->Prop},Is s.heap l items->Q (.ref s.heap.objs.size) { s with heap:=s.heap.push (obj l)}->wpAny (model P w) A (pyIter (.ref l)) Q E s
def Fi (P:Program) (w:World) (K:PySem.W.Frag):A9 P w K where
 Sq:=λH a xs=>Ai K H a xs
 It:=λh it l i=>h.IsListIter it l i
 Is:=λh l items=>h.IsList l items
 obj:=λl=> { cls:= .type "list_iterator",data:= .fields #[.ref l,.int 0 0]}
 get:=λ{X pins σ H s a xs} hK I q=>by subst hK;obtain⟨its,r,p,z⟩:=I.list q;exact⟨its,r,p.isList,z⟩
 inj:=λ{X pins σ H s a xs ys} hK I q q'=>by subst hK;exact I.list_inj q q'
 draws:=λA hh it l hne items=>Draws.list hh it l hne items
 ito:=λ{h it l i} ⟨o,e,c,d⟩=>⟨o,e,λv z=>by rw [d] at z;cases z⟩
 itk:=λ{h h' it l i} x k=>x.at k
 isk:=λ{h h' l items} x k=>x.at k
 iso:=λ{h l items} ⟨o,e,_⟩=>⟨o,e⟩
 itn:=λh l=>⟨_,Heap.get?_push_size _ rfl,rfl,rfl⟩
 itr:=λ{A E s l items Q} x q=>wpAny_pyIter_list x q
def Cc (P:Program) (w:World) (K:PySem.W.Frag):A9 P w K where
  Sq:=λH a xs=>Ac K H a xs
  It:=λh it l i=>h.IsTupleIter it l i
  Is:=λh l items=>h.IsTuple l items
  obj:=λl=> { cls:= .type "tuple_iterator",data:= .fields #[.ref l,.int 0 0]}
  get:=λ{X pins σ H s a xs} hK I q=>by subst hK;obtain⟨its,r,p,z⟩:=I.tuple q;exact⟨its,r,p,z⟩
  inj:=λ{X pins σ H s a xs ys} hK I q q'=>by subst hK;exact I.tuple_inj q q'
  draws:=λA hh it l hne items=>
    { live:=λ_ _ st=>let ⟨o,ho,_⟩:=st.1;⟨o,ho⟩
      frame:=λ_ _ _ st hk=>⟨let ⟨o,e,r⟩:=st.1;⟨o,hk it (by simp) o e,r⟩,let ⟨o,e,r⟩:=st.2;⟨o,hk l (by simp) o e,r⟩⟩
      item:=λi s Q E hi st hQ=>Ou st.1 st.2 (x:=items[i]) (by simp [hi]) λh' hit' hs'=>hQ _ h' s.toks (by simp [hi]) ⟨hit',st.2.extBut hs'.extBut hne⟩ hs'
      done:=λs Q E st hE=>Ov hh st.1 st.2 (by simp) hE}
  ito:=λ{h it l i} ⟨o,e,c,d⟩=>⟨o,e,λv z=>by rw [d] at z;cases z⟩
  itk:=λ{h h' it l i} ⟨o,e,r⟩ k=>⟨o,k o e,r⟩
  isk:=λ{h h' l items} ⟨o,e,r⟩ k=>⟨o,k o e,r⟩
  iso:=λ{h l items} ⟨o,e,_⟩=>⟨o,e⟩
  itn:=λh l=>⟨_,Heap.get?_push_size _ rfl,rfl,rfl⟩
  itr:=λ{A E s l items Q} x q=>wpAny_pyIter_tuple x q
end L2
end
section
namespace L2
open PySem PySem.Spec PyProof.Rows
variable {X : Cx} {pins : List (Addr × Obj)} {σ : St} {H : Hp} {s : Shared} {wr : List Addr} {h' : Heap}
open AutoSeq1 (wpAny_loadPart')
theorem Ae.yielded {tk:Nat}{T:Addr}{vs:List V}{us:List Value} (I:Ae X pins σ H s) (hf:∀b∈wr,Ci X pins H b)
  (k:∀b o,b ∉ wr->s.heap.get? b=some o->h'.get? b=some o) (hT:s.heap.objs.size<=T) (ht:IsTup h' T us.toArray) (rv:Ar vs us) (hz:vs.length<=sizeLine):
  Ae X pins σ (upd H T (.tup vs)) { s with heap:=h',toks:=tk}:=by
 have hfr:H T=none:=I.hok.fresh hT
 have nT:∀b u,H b=some u->b≠T:=λb u e=>Bf e hfr
 have nW:∀b u,H b=some u->b ∉ wr:=λb u e z=>by have:=(hf b z).1;rw [e] at this;cases this
 refine I.step (g':=s.gens) (d':=s.drawn) (ch:=wr) (λb hb=>let f:=hf b hb;⟨f.2.2.2.1,f.2.1,f.2.2.2.2.1,f.2.2.2.2.2⟩) (λb o _ _ hc e _=>k b o hc e) (λb o _ _ hc e _=>⟨o.slots,k b o hc e⟩)
  (λb o hc e n=>?_) (λb o hc e=>⟨o,k b o hc e⟩) (λb xs e=>by rw [AA (nT b _ e)];exact e) (λb o xs e=>by rw [AA (nT b _ e)];exact e) (λb ps e=>⟨#[],by rw [AA (nT b _ e),e];simp⟩) (λm hm=>?_) (λb u e=>?_) I.bare
 ·rw [AA (Nat.ne_of_lt (Nat.lt_of_lt_of_le (Heap.lt_size e) hT))];exact n
 ·obtain⟨o,es,ep,ho,r⟩:=hm
  exact⟨o,es,ep,k _ o (λz=>(hf _ z).2.1 rfl) ho,r⟩
 ·by_cases hb:b=T
  ·subst hb
   rw [Ag] at e;cases e
   exact⟨hz,us,rv,ht⟩
  ·rw [AA hb] at e
   refine(I.hok b u e).stay (λc v hc q=>k c v ?_ q) (λc q=>by rw [AA (nT c _ q)];exact q) λc xs q=>by rw [AA (nT c _ q)];exact q
   rcases hc with z | z
   ·rw [z];exact nW b u e
   ·exact nW c _ z
theorem Ae.ended {tk:Nat} (I:Ae X pins σ H s) (hf:∀b∈wr,Ci X pins H b)
  (k:∀b o,b ∉ wr->s.heap.get? b=some o->h'.get? b=some o):Ae X pins σ H { s with heap:=h',toks:=tk}:=by
 have nW:∀b u,H b=some u->b ∉ wr:=λb u e z=>by have:=(hf b z).1;rw [e] at this;cases this
 refine I.step (g':=s.gens) (d':=s.drawn) (ch:=wr) (λb hb=>let f:=hf b hb;⟨f.2.2.2.1,f.2.1,f.2.2.2.2.1,f.2.2.2.2.2⟩) (λb o _ _ hc e _=>k b o hc e) (λb o _ _ hc e _=>⟨o.slots,k b o hc e⟩)
  (λb o hc e n=>n) (λb o hc e=>⟨o,k b o hc e⟩) (λb xs e=>e) (λb o xs e=>e) (λb ps e=>⟨#[],by rw [e];simp⟩) (λm hm=>?_) (λb u e=>?_) I.bare
 ·obtain⟨o,es,ep,ho,r⟩:=hm
  exact⟨o,es,ep,k _ o (λz=>(hf _ z).2.1 rfl) ho,r⟩
 ·refine(I.hok b u e).stay (λc v hc q=>k c v ?_ q) (λc q=>q) λc xs q=>q
  rcases hc with z | z
  ·rw [z];exact nW b u e
  ·exact nW c _ z
def EF {P:Program}{w:World}{K:PySem.W.Frag} (S:A9 P w K) (a:Addr):It:=
 ⟨λi H=>∃xs x,S.Sq H a xs/\xs[i]? =some x,λi H v H'=>∃T,v= .ref T/\H T=none/\∀xs x,S.Sq H a xs->xs[i]? =some x->H'=upd H T (.tup [.int i,x]),λi H=>∃xs,S.Sq H a xs/\xs.length=i⟩
theorem Ow {P:Program}{w:World}{K:PySem.W.Frag} (S:A9 P w K) {es:List Expr}{k:Nat}{pos:Pos} (a e it:Addr) (hei:e≠it) (hai:a≠it) (hae:a≠e):
  DH P w K (.Tuple es k pos) (EF S a) [e,it] e (λi h=>(∃old,IsEnum h e it (i:Nat) old)/\S.It h it a i) where
 mem:=by simp
 obj:=λi h st b hb=>by
  obtain⟨⟨old,he⟩,hi⟩:=st
  rcases List.mem_cons.mp hb with z | hb
  ·rw [z];exact⟨_,he,λv z=>by
    have z':Data.fields _=Data.cell v:=z
    cases z'⟩
  ·rw [List.mem_singleton.mp hb];exact S.ito hi
 keep:=λi h h' st kk=>by
  obtain⟨⟨old,he⟩,hi⟩:=st
  exact⟨⟨old,kk e (by simp) _ he⟩,S.itk hi λo q=>kk it (by simp) o q⟩
 item:=by
  intro X hP hw hK hc i pins s σ H E I hf st hg
  subst hP hw
  obtain⟨xs,x,hq,hx⟩:=hg
  obtain⟨its,rv,is,hz⟩:=S.get hK I hq
  obtain⟨u,hu,ru⟩:=rv.get hx
  have W:=WalksT.enumerateD (S.draws X.A.in1 (I.ok.hd hc) it a hai its.toArray) e hei (by simp [hei,Ne.symm hae]) (by simp)
  have hi:i<its.toArray.size:=by have:=(List.getElem?_eq_some_iff.mp hu).1;simpa using this
  refine W.item i s _ _ hi ⟨st.1,st.2,is⟩ λT vals h1 tk hp hT htup hmid hk=>⟨_,rfl,?_⟩
  obtain⟨t,y,hy,hv⟩:=hp
  have ey:y=u:=by
   have q:its.toArray[i]? =some u:=by simpa using hu
   rw [q] at hy;exact(Option.some.inj hy).symm
  subst ey hv
  refine W.go es k pos i T { s with heap:=h1,toks:=tk} _ _ hmid λh2 st2 hk2=>?_
  have kk:∀b o,b ∉ [e,it]->s.heap.get? b=some o->h2.get? b=some o:=λb o hb q=>hk2 b o hb (hk b o hb q)
  have htup2:IsTup h2 T [Value.int i t,y].toArray:=by
   obtain⟨o,q,r⟩:=htup
   exact⟨o,hk2 T o (W.apart i T h1 hmid) q,r⟩
  exact⟨.ref T,upd H T (.tup [.int i,x]),I.yielded (tk:=tk) (λb hb=>hf b hb) kk hT htup2 (.cons ⟨t,rfl⟩ (.cons ru .nil)) (by show 2<=sizeLine;decide),rfl,
   ⟨T, rfl, I.hok.fresh hT, λys z hy hz => by
    rw [S.inj hK I hy hq,hx] at hz;cases hz;rfl⟩,⟨st2.1,st2.2.1⟩,λb hb=>by
    have hbt:b<s.heap.objs.size:=by
     rcases List.mem_cons.mp hb with z | hb
     ·rw [z];obtain⟨old,q⟩:=st.1;exact Heap.lt_size q
     ·rw [List.mem_singleton.mp hb];obtain⟨o,q,_⟩:=S.ito st.2;exact Heap.lt_size q
    rw [AA (Nat.ne_of_lt (Nat.lt_of_lt_of_le hbt hT))];exact(hf b hb).1⟩
 done:=by
  intro X hP hw hK hc i pins s σ H E I hf st hg
  subst hP hw
  obtain⟨xs,hq,hx⟩:=hg
  obtain⟨its,rv,is,hz⟩:=S.get hK I hq
  have W:=WalksT.enumerateD (S.draws X.A.in1 (I.ok.hd hc) it a hai its.toArray) e hei (by simp [hei,Ne.symm hae]) (by simp)
  have hn:its.toArray.size=i:=by have:=rv.length;simp;omega
  rw [hn] at W
  exact W.done s _ _ ⟨st.1,st.2,is⟩ λh' tk hk=>⟨rfl,I.ended (tk:=tk) (λb hb=>hf b hb) hk⟩
 self:=λ_ _ _ _ _ st h=>by
  obtain⟨⟨old,he⟩,_⟩:=st
  exact wpAny_pyIter_enum he h
theorem Ox (l:Addr) (items:Array Value):
    Meets (Builtin.«enumerate.__new__» ⟨[.type "enumerate",.ref l],[]⟩) (λ_ R s=>s.heap.IsTuple l items/\R (.ok (.ret (.ref (s.heap.push { cls:= .type "tuple_iterator",data:= .fields #[.ref l,.int 0 0]}).objs.size)))
        { s with heap:=(s.heap.push { cls:= .type "tuple_iterator",data:= .fields #[.ref l,.int 0 0]}).push { cls:= .type "enumerate",data:= .fields #[.none,.bool false,.ref s.heap.objs.size,rawInt 0,.none,.none]}}):=
  .of_wp λprog w A R s h=>by
    obtain⟨hp,g,d,tk,os⟩:=s;obtain⟨hl0,h⟩:=h
    obtain⟨⟨c0,dct,dt,sl⟩,hl,hc0,n,hd0⟩:=id hl0;replace hc0:c0= .type "tuple" :=hc0;replace hd0:dt= .seq items n:=hd0;subst hc0 hd0
    have hsub:=sub_enumerate;have hL:Heap.IsTuple (Shared.heap ⟨hp,g,d,tk,os⟩) l items:=⟨_,hl,rfl,n,rfl⟩
    wp_walk using wpAny_loadPart' hl
    refine wpAny_stack_any λst=>wpAny_pure ?_;split
    . rename_i c _ _ _ _ _;cases(c==Value.type "enumerate")
      . wp_walk using wpAny_loadPart' hl,wpAny_pyIter_tuple hL;exact⟨_,rfl,h⟩
      . wp_walk using wpAny_loadPart' hl,wpAny_pyIter_tuple hL;exact⟨_,rfl,h⟩
    . wp_walk using wpAny_loadPart' hl,wpAny_pyIter_tuple hL;exact⟨_,rfl,h⟩
theorem Oy {prog:Program}{w:World}{A:Around}{E:Value->Shared->Prop}{s:Shared}{l:Addr}{items:Array Value}{Q:Value->Shared->Prop} (hL:s.heap.IsTuple l items)
  (h:∀h',IsEnum h' (s.heap.objs.size+1) s.heap.objs.size 0 .none->h'.IsTupleIter s.heap.objs.size l 0->h'.objs.size=s.heap.objs.size+2->(∀b o,s.heap.get? b=some o->h'.get? b=some o)->Q (.ref (s.heap.objs.size+1)) { s with heap:=h'}):
  wpAny (model prog w) A (call (.type "enumerate") [.ref l]) Q E s:=by
 refine callType_new F.called_enumerate (by decide) (F.typeCall_enumerate_1 _) (F.newCall_enumerate_1 _) (λobj=>F.args_object_init_2 obj _) F.entry_enumerate_new (Ox l items) ⟨hL,?_⟩
 have hz:(s.heap.push { cls:= .type "tuple_iterator",data:= .fields #[.ref l,.int 0 0]}).objs.size=s.heap.objs.size+1:=Heap.size_push ..
 show _/\_;rw [hz]
 have he:IsEnum ((s.heap.push { cls:= .type "tuple_iterator",data:= .fields #[.ref l,.int 0 0]}).push { cls:= .type "enumerate",data:= .fields #[.none,.bool false,.ref s.heap.objs.size,rawInt 0,.none,.none]}) (s.heap.objs.size+1) s.heap.objs.size 0 .none:=by
  have:=Heap.get?_push_size (s.heap.push { cls:= .type "tuple_iterator",data:= .fields #[.ref l,.int 0 0]}) (o:= { cls:= .type "enumerate",data:= .fields #[.none,.bool false,.ref s.heap.objs.size,rawInt 0,.none,.none]}) rfl
  rw [hz] at this;exact this
 exact⟨⟨_,he,rfl⟩,h _ he ⟨_,Heap.get?_push_of_some _ (Heap.get?_push_size _ rfl),rfl,rfl⟩ (by rw [Heap.size_push,hz]) λb o x=>Heap.get?_push_of_some _ (Heap.get?_push_of_some _ x)⟩
def KD {P:Program}{w:World}{K:PySem.W.Frag} (S:A9 P w K) (ta:TA):TI:=fun σ H R=>ta σ H λvs H1=>∃a,vs=[.ref a]/\(∃xs,S.Sq H1 a xs)/\R (EF S a) H1
theorem Oz {es:List Expr}{k:Nat}{p pos pos':Pos}{a:Expr}{ta:TA} (hg:Gl X "enumerate") (hm:X.mg "enumerate"=none) (ha:PA X [a] ta) (hs:starEach [a] X.env=[(false,eval a X.env)]:=by rfl):
  PI X (.Tuple es k pos') (.Call (.Name "enumerate" p) [a] [] pos) (KD (Cc X.prog X.w X.K) ta):=by
 intro pins s σ H R I h
 refine Call_ (CO I hg hm boot_enumerate (PyProof.Rows.callWith_type1 (Av (ha pos pins s σ H _ I h) λus s1 ⟨vs,H1,I1,r1,q1⟩=>?_) hs rfl))
 obtain⟨l,e,⟨xs,hq⟩,q⟩:=q1
 subst e
 obtain⟨u,rfl,ru⟩:=r1.one
 cases ru
 obtain⟨its,rv,is,hz⟩:=I1.tuple hq
 obtain⟨ol,hol,hol2⟩:=id is
 have hlt:=Heap.lt_size hol
 refine Oy (items:=its.toArray) ⟨ol,hol,hol2⟩ λh' hE hI hsz hk=>?_
 have I2:Ae X pins σ H1 { s1 with heap:=h'}:=I1.kept (t':=s1.toks) hk
 refine wpAny_pyIter_enum hE ⟨s1.heap.objs.size+1,[s1.heap.objs.size+1,s1.heap.objs.size],_,_,H1,rfl,I2,Ow (Cc X.prog X.w X.K) l (s1.heap.objs.size+1) s1.heap.objs.size (Nat.succ_ne_self _) (Nat.ne_of_lt hlt) (Nat.ne_of_lt (Nat.lt_succ_of_lt hlt)),⟨⟨_,hE⟩,hI⟩,λb hb=>?_,q⟩
 rcases List.mem_cons.mp hb with z | hb
 ·rw [z];exact I1.fpOk (Nat.le_succ _) (I1.hok.fresh (Nat.le_succ _))
 ·rw [List.mem_singleton.mp hb];exact I1.fpOk (Nat.le_refl _) (I1.hok.fresh (Nat.le_refl _))
end L2
end
section
namespace L2
open PySem PySem.Spec PyProof.Rows
variable {k : Nat} {a1 a2 : Value} {X : Cx} {p pos' : Pos} {e1 e2 : Expr} {ta : TA}
open AutoSeq1 (wpAny_loadPart')
def Dr {P:Program}{w:World}{K:PySem.W.Frag} (S:A9 P w K) (it l:Addr) (xs:Array Value) (k:Nat) (h:Heap):Prop:=S.It h it l k/\S.Is h l xs
theorem Dr.ext {P:Program}{w:World}{K:PySem.W.Frag}{S:A9 P w K}{it l b:Addr}{xs:Array Value}{h h':Heap} (d:Dr S it l xs k h) (e:Heap.ExtBut b h h') (h1:it≠b) (h2:l≠b):Dr S it l xs k h':=
 ⟨S.itk d.1 λo q=>e it o h1 q,S.isk d.2 λo q=>e l o h2 q⟩
abbrev Cr (h:Heap) (z TI TO:Addr) (f0 f1:Value):Prop:=h.get? z=some { cls:= .type "zip",dict:=none,data:= .fields #[f0,f1,.bool false,.ref TI,.ref TO],slots:= #[]}
def EG (h:Heap) (z TI TO:Addr):Prop:=∃f0 f1,Cr h z TI TO f0 f1/\(f0= .none\/ ∃T:Addr,f0=rawInt T)/\(f1= .bool false\/f1= .bool true)
theorem OA {M:Model}{A:Around}{E:Value->Shared->Prop}{s:Shared}{a:Addr}{Q:Option Obj->Shared->Prop} (h:Q (s.heap.get? a) s):wpAny M A (loadIfAlive a) Q E s:=λ_ _ _=>h
theorem IN {P:Program}{w:World}{A:Around}{E:Value->Shared->Prop}{s:Shared}{z TI TO:Addr}{Q:Bool->Shared->Prop} (hz:EG s.heap z TI TO) (h1:∀f0 f1,Cr s.heap z TI TO f0 f1->Q true s)
  (h2:∀g0,∀T:Addr,∀f1 f2,Cr s.heap z TI TO (rawInt T) f1->Cr g0 z TI TO (rawInt T) f2->(f2= .bool false\/f2= .bool true)->Heap.SameBut z s.heap g0->Q false { s with heap:=g0}):
  wpAny (model P w) A (Builtin.SmallTypes.ownedTupleIsFree (.ref z)) Q E s:=by
 obtain⟨f0,f1,hz,hf0,hf1⟩:=hz
 unfold Builtin.SmallTypes.ownedTupleIsFree
 refine wpAny_bind (wpAny_field hz rfl (x:=f0) rfl ?_)
 rcases hf0 with rfl | ⟨T,rfl⟩
 ·exact wpAny_pure (h1 _ _ hz)
 ·show wpAny _ _ (loadIfAlive T>>=_) _ _ _
  refine wpAny_bind (OA ?_)
  cases hTa:s.heap.get? T with
  | none=>
   simp only [Option.isNone_none,if_true]
   exact wpAny_pure (h1 _ _ hz)
  | some oT=>
   simp only [Option.isNone_some,Bool.false_eq_true,if_false]
   show wpAny _ _ (field (.ref z) 1>>=_) _ _ _
   refine wpAny_bind (wpAny_field hz rfl (x:=f1) rfl ?_)
   rcases hf1 with rfl | rfl
   ·exact wpAny_bind (wpAny_setField_rec hz (by simp) λg0 hz0 hs0=>wpAny_pure (h2 g0 T _ _ hz hz0 (.inr rfl) hs0))
   ·exact wpAny_bind (wpAny_pure (wpAny_pure (h2 s.heap T _ _ hz hz (.inr rfl) ⟨rfl,λ_ _=>rfl⟩)))
structure EH (z TI TO i1 i2 l1 l2:Addr):Prop where
 TI_z:TI≠z
 TO_z:TO≠z
 TO_TI:TO≠TI
 i1_z:i1≠z
 i1_TI:i1≠TI
 i1_TO:i1≠TO
 i2_z:i2≠z
 i2_TI:i2≠TI
 i2_TO:i2≠TO
 i2_i1:i2≠i1
 l1_z:l1≠z
 l1_TO:l1≠TO
 l1_i1:l1≠i1
 l1_i2:l1≠i2
 l2_z:l2≠z
 l2_TO:l2≠TO
 l2_i1:l2≠i1
 l2_i2:l2≠i2
abbrev Bg (h:Heap) (T:Addr) (a1 a2:Value):Prop:=h.get? T=some { cls:= .type "tuple",data:= .seq #[a1,a2]}
theorem IO {prog:Program}{w:World}{A:Around}{E:Value->Shared->Prop}{s:Shared}{T:Addr}{x:Value}{Q:Unit->Shared->Prop} (hT:Bg s.heap T a1 a2)
  (h:∀h',h'.get? T=some { cls:= .type "tuple",data:= .seq ((#[a1,a2]:Array Value).setIfInBounds k x)}->Heap.SameBut T s.heap h'->Q () { s with heap:=h'}):
  wpAny (model prog w) A (updateSeq T (·.setIfInBounds k x)) Q E s:=by
 have got:=Heap.get?_update_self (Obj.mapSeq λy=>y.setIfInBounds k x) hT rfl
 exact wpAny_updateSeq hT rfl (h _ (got.trans (by simp [Obj.mapSeq])) (Heap.SameBut.update ..))
section
variable {P : Program} {w : World} {K : PySem.W.Frag} {A : Around} {E : Value -> Shared -> Prop} {s : Shared} (S1 S2 : A9 P w K)
theorem KF {z TI TO i1 i2 l1 l2:Addr}{k:Nat}{xs1 xs2:Array Value}{x1 x2 a1 a2:Value}{Q:Value->Shared->Prop} (hh:A.handled=none) (D:EH z TI TO i1 i2 l1 l2) (hz:EG s.heap z TI TO) (hTI:Bg s.heap TI (.ref i1) (.ref i2)) (hTO:Bg s.heap TO a1 a2) (h1:Dr S1 i1 l1 xs1 k s.heap) (h2:Dr S2 i2 l2 xs2 k s.heap) (hx1:xs1[k]? =some x1) (hx2:xs2[k]? =some x2)
  (hQ : ∀ h' tk, EG h' z TI TO -> (IsZip h' z TI TO (rawInt s.heap.objs.size) \/ IsZip s.heap z TI TO .none -> IsZip h' z TI TO (rawInt s.heap.objs.size)) -> (∃ a1 a2, Bg h' TO a1 a2) -> Dr S1 i1 l1 xs1 (k + 1) h' -> Dr S2 i2 l2 xs2 (k + 1) h' -> Bg h' s.heap.objs.size x1 x2 -> h'.objs.size = s.heap.objs.size + 1 ->
   (∀c o,c≠z->c≠TO->c≠i1->c≠i2->s.heap.get? c=some o->h'.get? c=some o)->Q (.ref s.heap.objs.size) { s with heap:=h',toks:=tk}):
  wpAny (model P w) A (Builtin.«zip.__next__» ⟨[.ref z],[]⟩) (λfin s'=>∃v,fin= .done (.ret v)/\Q v s') E s:=by
 have hl1:k<xs1.size:=(Array.getElem?_eq_some_iff.mp hx1).1
 have hl2:k<xs2.size:=(Array.getElem?_eq_some_iff.mp hx2).1
 have D1:=fun(A:Around) (hh:A.handled=none)=>S1.draws A hh i1 l1 D.l1_i1 xs1
 have D2:=fun(A:Around) (hh:A.handled=none)=>S2.draws A hh i2 l2 D.l2_i2 xs2
 obtain⟨f0',f1',hz',hf0',hf1'⟩:=id hz
 show wpAny _ _ (field (.ref z) 2>>=_) _ _ _;refine wpAny_bind (wpAny_field hz' rfl (x:= .bool false) rfl ?_)
 show wpAny _ _ (field (.ref z) 3>>=_) _ _ _;refine wpAny_bind (wpAny_field hz' rfl (x:= .ref TI) rfl ?_)
 refine wpAny_bind (wpAny_seqItems hTI rfl ?_);show wpAny _ _ (Builtin.SmallTypes.ownedTupleIsFree (.ref z) >>=_) _ _ _
 refine wpAny_bind (IN hz (λf0 f1 hz=>?_) λg0 T f1 f2 hzs hz0 hf2 hs0=>?_)
 ·simp only [if_true]
  refine wpAny_bind (wpAny_rule ?_);refine wpAny_bind (wpAny_field hz rfl (x:= .ref TO) rfl ?_)
  refine wpAny_bind (wpAny_setField_rec hz (by simp) λg0 hz0 hs0=>?_);replace hz0:Cr g0 z TI TO .ellipsis f1:=hz0
  refine wpAny_bind ?_;simp only [List.zipIdx_cons,List.zipIdx_nil,List.forIn_cons,List.forIn_nil]
  refine wpAny_bind (wpAny_bind (wpAny_onRaise ?_));show wpAny _ _ (Builtin.SmallTypes.nextOf (.ref i1) >>=_) _ _ _
  refine wpAny_bind ((D1 _ hh).item k _ _ _ hl1 (Dr.ext h1 hs0.extBut D.i1_z D.l1_z) λy1 g1 tk1 hy1 hd1 hs1=>wpAny_pure ?_)
  have ex1:y1=x1:=by rw [hx1] at hy1;exact(Option.some.inj hy1).symm
  subst ex1
  have hd1':Dr S1 i1 l1 xs1 (k+1) g1:=hd1
  have hT1:Bg g1 TO a1 a2:=(hs1.extBut _ _ D.i1_TO.symm (hs0.extBut _ _ D.TO_z hTO))
  refine wpAny_bind (wpAny_seqItems hT1 rfl ?_);refine wpAny_bind (IO hT1 λg2 hU1 hs2=>?_)
  replace hU1:Bg g2 TO y1 a2:=hU1
  refine wpAny_bind (wpAny_letGo (wpAny_pure ?_))
  refine wpAny_bind (wpAny_bind (wpAny_onRaise ?_));show wpAny _ _ (Builtin.SmallTypes.nextOf (.ref i2) >>=_) _ _ _
  refine wpAny_bind ((D2 _ hh).item k _ _ _ hl2 (Dr.ext (Dr.ext (Dr.ext h2 hs0.extBut D.i2_z D.l2_z) hs1.extBut D.i2_i1 D.l2_i1) hs2.extBut D.i2_TO D.l2_TO) λy2 g3 tk2 hy2 hd2 hs3=>wpAny_pure ?_)
  have ex2:y2=x2:=by rw [hx2] at hy2;exact(Option.some.inj hy2).symm
  subst ex2
  have hd2':Dr S2 i2 l2 xs2 (k+1) g3:=hd2
  have hT2:Bg g3 TO y1 a2:=(hs3.extBut _ _ D.i2_TO.symm hU1)
  refine wpAny_bind (wpAny_seqItems hT2 rfl ?_);refine wpAny_bind (IO hT2 λg4 hU2 hs4=>?_)
  replace hU2:Bg g4 TO y1 y2:=hU2
  refine wpAny_bind (wpAny_letGo (wpAny_pure (wpAny_pure ?_)))
  refine wpAny_bind (wpAny_seqItems hU2 rfl ?_);refine wpAny_bind (wpAny_newTuple ?_)
  have hsz:g4.objs.size=s.heap.objs.size:=by rw [hs4.1,hs3.1,hs2.1,hs1.1,hs0.1]
  have hz5:Cr g4 z TI TO .ellipsis f1:=(hs4.extBut _ _ D.TO_z.symm (hs3.extBut _ _ D.i2_z.symm (hs2.extBut _ _ D.TO_z.symm (hs1.extBut _ _ D.i1_z.symm hz0))))
  have hk5:∀c o,c≠z->c≠TO->c≠i1->c≠i2->s.heap.get? c=some o->g4.get? c=some o:=λc o cz cTO ci1 ci2 e=>(hs4.extBut _ _ cTO (hs3.extBut _ _ ci2 (hs2.extBut _ _ cTO (hs1.extBut _ _ ci1 (hs0.extBut _ _ cz e)))))
  have he1:Dr S1 i1 l1 xs1 (k+1) g4:=(Dr.ext (Dr.ext (Dr.ext hd1' hs2.extBut D.i1_TO D.l1_TO) hs3.extBut D.i2_i1.symm D.l1_i2) hs4.extBut D.i1_TO D.l1_TO)
  have he2:Dr S2 i2 l2 xs2 (k+1) g4:=(Dr.ext hd2' hs4.extBut D.i2_TO D.l2_TO)
  have hzlt:z<g4.objs.size:=Heap.lt_size hz5
  show wpAny _ _ (Builtin.SmallTypes.ownedTupleHandOut (.ref z) (.ref g4.objs.size) >>=_) _ _ _;refine wpAny_bind ?_;unfold Builtin.SmallTypes.ownedTupleHandOut
  have hz6:Cr (g4.push { cls:= .type "tuple",data:= .seq #[y1,y2]}) z TI TO .ellipsis f1:=Heap.get?_push_of_some _ hz5
  refine wpAny_bind (wpAny_setField_rec hz6 (by simp) λga hza hsa=>?_);replace hza:Cr ga z TI TO (rawInt g4.objs.size) f1:=hza
  refine wpAny_setField_rec hza (by simp) λgb hzb hsb=>?_;replace hzb:Cr gb z TI TO (rawInt g4.objs.size) (.bool false):=hzb
  have up:∀c o,c≠z->g4.get? c=some o->gb.get? c=some o:=λc o c1 e=>hsb.extBut _ _ c1 (hsa.extBut _ _ c1 (Heap.get?_push_of_some _ e))
  have hTb:Bg gb g4.objs.size y1 y2:=hsb.extBut _ _ (Nat.ne_of_gt hzlt) (hsa.extBut _ _ (Nat.ne_of_gt hzlt) (Heap.get?_push_size _ rfl))
  have hsb8:gb.objs.size=g4.objs.size+1:=by rw [hsb.1,hsa.1,Heap.size_push]
  have upE:Heap.ExtBut z g4 gb:=λc o c1 e=>up c o c1 e
  rw [hsz] at hzb hTb hsb8
  refine wpAny_pure ⟨_,rfl,?_⟩;show Q (.ref g4.objs.size) _;rw [hsz]
  exact hQ gb _ ⟨_,_,hzb,.inr ⟨_,rfl⟩,.inl rfl⟩ (λ_=>hzb) ⟨_,_,up _ _ D.TO_z hU2⟩ (he1.ext upE D.i1_z D.l1_z) (he2.ext upE D.i2_z D.l2_z) hTb hsb8 λc o cz cTO ci1 ci2 e=>up c o cz (hk5 c o cz cTO ci1 ci2 e)
 ·simp only [Bool.false_eq_true,if_false]
  refine wpAny_bind ?_;simp only [<-Array.forIn_toList,List.forIn_cons,List.forIn_nil]
  refine wpAny_bind (wpAny_bind (wpAny_holding ?_));show wpAny _ _ (Builtin.SmallTypes.nextOf (.ref i1) >>=_) _ _ _
  refine wpAny_bind ((D1 _ hh).item k _ _ _ hl1 (Dr.ext h1 hs0.extBut D.i1_z D.l1_z) λy1 g1 tk1 hy1 hd1 hs1=>wpAny_pure ?_)
  have ex1:y1=x1:=by rw [hx1] at hy1;exact(Option.some.inj hy1).symm
  subst ex1
  have hd1':Dr S1 i1 l1 xs1 (k+1) g1:=hd1
  refine wpAny_pure ?_
  refine wpAny_bind (wpAny_bind (wpAny_holding ?_));show wpAny _ _ (Builtin.SmallTypes.nextOf (.ref i2) >>=_) _ _ _
  refine wpAny_bind ((D2 _ hh).item k _ _ _ hl2 (Dr.ext (Dr.ext h2 hs0.extBut D.i2_z D.l2_z) hs1.extBut D.i2_i1 D.l2_i1) λy2 g2 tk2 hy2 hd2 hs2=>wpAny_pure ?_)
  have ex2:y2=x2:=by rw [hx2] at hy2;exact(Option.some.inj hy2).symm
  subst ex2
  have hd2':Dr S2 i2 l2 xs2 (k+1) g2:=hd2
  refine wpAny_pure (wpAny_pure ?_)
  show wpAny _ _ (newTuple [y1,y2] >>=_) _ _ _;refine wpAny_bind (wpAny_newTuple ?_)
  have hsz:g2.objs.size=s.heap.objs.size:=by rw [hs2.1,hs1.1,hs0.1]
  have hz5:Cr g2 z TI TO (rawInt T) f2:=(hs2.extBut _ _ D.i2_z.symm (hs1.extBut _ _ D.i1_z.symm hz0))
  have hT5:Bg g2 TO a1 a2:=(hs2.extBut _ _ D.i2_TO.symm (hs1.extBut _ _ D.i1_TO.symm (hs0.extBut _ _ D.TO_z hTO)))
  have he1:Dr S1 i1 l1 xs1 (k+1) g2:=(Dr.ext hd1' hs2.extBut D.i2_i1.symm D.l1_i2)
  have he2:Dr S2 i2 l2 xs2 (k+1) g2:=hd2'
  have hTb:Bg (g2.push { cls:= .type "tuple",data:= .seq #[y1,y2]}) g2.objs.size y1 y2:=Heap.get?_push_size _ rfl
  have hb8:(g2.push { cls:= .type "tuple",data:= .seq #[y1,y2]}).objs.size=g2.objs.size+1:=Heap.size_push ..
  refine wpAny_pure ⟨_,rfl,?_⟩;show Q (.ref g2.objs.size) _
  have res:=hQ (g2.push { cls:= .type "tuple",data:= .seq #[y1,y2]}) tk2 ⟨_,_,Heap.get?_push_of_some _ hz5,.inr ⟨_,rfl⟩,hf2⟩ (λc=>c.elim id λc=>absurd (congrArg (λo:Obj=>o.data) (Option.some.inj (hzs.symm.trans c))) (by simp [rawInt])) ⟨_,_,Heap.get?_push_of_some _ hT5⟩ ⟨S1.itk he1.1 λo q=>Heap.get?_push_of_some _ q,S1.isk he1.2 λo q=>Heap.get?_push_of_some _ q⟩ ⟨S2.itk he2.1 λo q=>Heap.get?_push_of_some _ q,S2.isk he2.2 λo q=>Heap.get?_push_of_some _ q⟩ (by rw [<-hsz];exact hTb) (by rw [hb8,hsz]) λc o cz cTO ci1 ci2 e=>Heap.get?_push_of_some _ (hs2.extBut _ _ ci2 (hs1.extBut _ _ ci1 (hs0.extBut _ _ cz e)))
  rw [hsz];exact res
theorem OB {z TI TO i1 i2 l1 l2:Addr}{xs1 xs2:Array Value}{Q:Fin->Shared->Prop} (hh:A.handled=none) (D:EH z TI TO i1 i2 l1 l2) (hz:EG s.heap z TI TO) (hTI:Bg s.heap TI (.ref i1) (.ref i2)) (hTO:Bg s.heap TO a1 a2) (h1:Dr S1 i1 l1 xs1 k s.heap) (h2:Dr S2 i2 l2 xs2 k s.heap) (hend:k=xs1.size)
  (hE:∀h' tk e,(∀c o,c≠z->c≠TO->c≠i1->c≠i2->s.heap.get? c=some o->h'.get? c=some o)->(∃o,h'.get? e=some o/\o.cls= .type "StopIteration")->E (.ref e) { s with heap:=h',toks:=tk}):
  wpAny (model P w) A (Builtin.«zip.__next__» ⟨[.ref z],[]⟩) Q E s:=by
 have D1:=fun(A:Around) (hh:A.handled=none)=>S1.draws A hh i1 l1 D.l1_i1 xs1
 have D2:=fun(A:Around) (hh:A.handled=none)=>S2.draws A hh i2 l2 D.l2_i2 xs2
 obtain⟨f0',f1',hz',hf0',hf1'⟩:=id hz
 show wpAny _ _ (field (.ref z) 2>>=_) _ _ _;refine wpAny_bind (wpAny_field hz' rfl (x:= .bool false) rfl ?_)
 show wpAny _ _ (field (.ref z) 3>>=_) _ _ _;refine wpAny_bind (wpAny_field hz' rfl (x:= .ref TI) rfl ?_)
 refine wpAny_bind (wpAny_seqItems hTI rfl ?_);show wpAny _ _ (Builtin.SmallTypes.ownedTupleIsFree (.ref z) >>=_) _ _ _
 refine wpAny_bind (IN hz (λf0 f1 hz=>?_) λg0 T f1 f2 hzs hz0 hf2 hs0=>?_)
 ·simp only [if_true]
  refine wpAny_bind (wpAny_rule ?_);refine wpAny_bind (wpAny_field hz rfl (x:= .ref TO) rfl ?_)
  refine wpAny_bind (wpAny_setField_rec hz (by simp) λg0 hz0 hs0=>?_);replace hz0:Cr g0 z TI TO .ellipsis f1:=hz0
  refine wpAny_bind ?_;simp only [List.zipIdx_cons,List.zipIdx_nil,List.forIn_cons,List.forIn_nil]
  refine wpAny_bind (wpAny_bind (wpAny_onRaise ?_));show wpAny _ _ (Builtin.SmallTypes.nextOf (.ref i1) >>=_) _ _ _
  have hcur:=(Dr.ext h1 hs0.extBut D.i1_z D.l1_z)
  subst hend
  refine wpAny_bind ((D1 _ hh).done _ _ _ hcur λge e hse he=>?_)
  obtain⟨oe,hoe,hce⟩:=he
  have hze:Cr ge z TI TO .ellipsis f1:=hse _ _ D.i1_z.symm hz0
  have hez:e≠z:=λx=>by subst x;rw [hze] at hoe;cases hoe;simp at hce
  exact wpAny_setField_rec hze (by simp) λgf _ hsf=>hE gf _ e (λc o cz cTO ci1 ci2 x=>hsf.extBut _ _ cz (hse _ _ ci1 (hs0.extBut _ _ cz x))) ⟨oe,hsf.extBut _ _ hez hoe,hce⟩
 ·simp only [Bool.false_eq_true,if_false]
  refine wpAny_bind ?_;simp only [<-Array.forIn_toList,List.forIn_cons,List.forIn_nil]
  refine wpAny_bind (wpAny_bind (wpAny_holding ?_));show wpAny _ _ (Builtin.SmallTypes.nextOf (.ref i1) >>=_) _ _ _
  have hcur:=(Dr.ext h1 hs0.extBut D.i1_z D.l1_z)
  subst hend
  refine wpAny_bind ((D1 _ hh).done _ _ _ hcur λge e hse he=>?_)
  obtain⟨oe,hoe,hce⟩:=he
  exact hE ge _ e (λc o cz cTO ci1 ci2 x=>hse _ _ ci1 (hs0.extBut _ _ cz x)) ⟨oe,hoe,hce⟩
end
abbrev Ge {P:Program}{w:World}{K:PySem.W.Frag} (S1 S2:A9 P w K) (h:Heap) (l1 l2:Addr):Heap:=(h).push (S1.obj l1)
abbrev Gf {P:Program}{w:World}{K:PySem.W.Frag} (S1 S2:A9 P w K) (h:Heap) (l1 l2:Addr):Heap:=(Ge S1 S2 h l1 l2).push (S2.obj l2)
abbrev Gg {P:Program}{w:World}{K:PySem.W.Frag} (S1 S2:A9 P w K) (h:Heap) (l1 l2:Addr):Heap:=(Gf S1 S2 h l1 l2).push { cls:= .type "tuple",data:= .seq #[.ref h.objs.size,.ref (Ge S1 S2 h l1 l2).objs.size]}
abbrev Gh {P:Program}{w:World}{K:PySem.W.Frag} (S1 S2:A9 P w K) (h:Heap) (l1 l2:Addr):Heap:=(Gg S1 S2 h l1 l2).push { cls:= .type "tuple",data:= .seq #[.none,.none]}
abbrev Ds {P:Program}{w:World}{K:PySem.W.Frag} (S1 S2:A9 P w K) (h:Heap) (l1 l2:Addr):Heap:=(Gh S1 S2 h l1 l2).push { cls:= .type "zip",data:= .fields #[.none,.bool false,.bool false,.ref (Gf S1 S2 h l1 l2).objs.size,.ref (Gg S1 S2 h l1 l2).objs.size]}
def EI {P:Program}{w:World}{K:PySem.W.Frag} (S1 S2:A9 P w K):Prop:=∀(l1 l2:Addr) (xs1 xs2:Array Value),
  Meets (Builtin.«zip.__new__» ⟨[.type "zip",.ref l1,.ref l2],[]⟩) (λ_ R s=>S1.Is s.heap l1 xs1/\S2.Is s.heap l2 xs2/\R (.ok (.ret (.ref (Gh S1 S2 s.heap l1 l2).objs.size))) { s with heap:=Ds S1 S2 s.heap l1 l2})
theorem KG {X:Cx}{p pos:Pos}{e1 e2:Expr}{ta:TA} (S1 S2:A9 X.prog X.w X.K) (zn:EI S1 S2) (hg:Gl X "zip") (hm:X.mg "zip"=none) (ha:PA X [e1,e2] ta) (hs1:starEach [e1,e2] X.env=[(false,eval e1 X.env),(false,eval e2 X.env)]) (hs2:starEach [e2] X.env=[(false,eval e2 X.env)])
  {pins:List (Addr×Obj)}{s:Shared}{σ:St}{H:Hp}{R:Addr->Addr->Hp->Prop} (I:Ae X pins σ H s) (h:ta σ H λvs H1=>∃l1 l2,vs=[.ref l1,.ref l2]/\(∃xs,S1.Sq H1 l1 xs)/\(∃xs,S2.Sq H1 l2 xs)/\R l1 l2 H1):
  wpAny (model X.prog X.w) X.A (eval (.Call (.Name "zip" p) [e1,e2] [] pos) X.env) (λv s1=>∃l1 l2 H1,∃m:Nat,v= .ref (m+4)/\R l1 l2 H1/\Ae X pins σ H1 s1/\IsZip s1.heap (m+4) (m+2) (m+3) .none/\Bg s1.heap (m+2) (.ref m) (.ref (m+1))/\Bg s1.heap (m+3) .none .none/\S1.It s1.heap m l1 0/\S2.It s1.heap (m+1) l2 0/\l1<m/\l2<m/\(∀b,m<=b->Ci X pins H1 b)/\s1.heap.objs.size=m+5) X.xe s:=by
 refine Call_ (CO I hg hm boot_zip (PyProof.Rows.callWith_type1 (Av (ha pos pins s σ H _ I h) λus s1 ⟨vs,H1,I1,r1,q1⟩=>?_) (by rw [hs1,hs2]) (by rw [hs2];rfl)))
 obtain⟨l1,l2,e,⟨xs1,hq1⟩,⟨xs2,hq2⟩,q⟩:=q1
 subst e
 rcases r1 with _ | ⟨ru1,r1⟩
 rcases r1 with _ | ⟨ru2,r1⟩
 cases r1
 cases ru1;cases ru2
 obtain⟨its1,rv1,is1,_⟩:=S1.get rfl I1 hq1
 obtain⟨its2,rv2,is2,_⟩:=S2.get rfl I1 hq2
 obtain⟨o1,ho1⟩:=S1.iso is1
 have hl1:=Heap.lt_size ho1
 obtain⟨o2,ho2⟩:=S2.iso is2
 have hl2:=Heap.lt_size ho2
 refine callType_new F.called_zip (by decide) (F.typeCall_zip_2 _ _) (F.newCall_zip_2 _ _) (λobj=>F.args_object_init_3 obj _ _) F.entry_zip_new (zn l1 l2 its1.toArray its2.toArray) ⟨is1,is2,?_⟩
 have z1:(Ge S1 S2 s1.heap l1 l2).objs.size=s1.heap.objs.size+1:=by rw [Heap.size_push]
 have z2:(Gf S1 S2 s1.heap l1 l2).objs.size=s1.heap.objs.size+2:=by rw [Heap.size_push,z1]
 have z3:(Gg S1 S2 s1.heap l1 l2).objs.size=s1.heap.objs.size+3:=by rw [Heap.size_push,z2]
 have z4:(Gh S1 S2 s1.heap l1 l2).objs.size=s1.heap.objs.size+4:=by rw [Heap.size_push,z3]
 have zz:(Ds S1 S2 s1.heap l1 l2).objs.size=s1.heap.objs.size+5:=by rw [Heap.size_push,z4]
 have gz:(Ds S1 S2 s1.heap l1 l2).get? (Gh S1 S2 s1.heap l1 l2).objs.size=some _:=Heap.get?_push_size _ rfl
 have gO:(Ds S1 S2 s1.heap l1 l2).get? (Gg S1 S2 s1.heap l1 l2).objs.size=some _:=Heap.get?_push_of_some _ (Heap.get?_push_size _ rfl)
 have gI:(Ds S1 S2 s1.heap l1 l2).get? (Gf S1 S2 s1.heap l1 l2).objs.size=some _:=Heap.get?_push_of_some _ (Heap.get?_push_of_some _ (Heap.get?_push_size _ rfl))
 have g1:S1.It (Ds S1 S2 s1.heap l1 l2) s1.heap.objs.size l1 0:=S1.itk (S1.itn _ _) λo q=>Heap.get?_push_of_some _ (Heap.get?_push_of_some _ (Heap.get?_push_of_some _ (Heap.get?_push_of_some _ (q))))
 have g2:S2.It (Ds S1 S2 s1.heap l1 l2) (Ge S1 S2 s1.heap l1 l2).objs.size l2 0:=S2.itk (S2.itn _ _) λo q=>Heap.get?_push_of_some _ (Heap.get?_push_of_some _ (Heap.get?_push_of_some _ (q)))
 have kk:∀b o,s1.heap.get? b=some o->(Ds S1 S2 s1.heap l1 l2).get? b=some o:=λb o x=>Heap.get?_push_of_some _ (Heap.get?_push_of_some _ (Heap.get?_push_of_some _ (Heap.get?_push_of_some _ (Heap.get?_push_of_some _ (x)))))
 show _/\_
 rw [z2,z3,z4] at gz;rw [z3] at gO;rw [z1,z2] at gI;rw [z4]
 rw [z1] at g2
 generalize Ds S1 S2 s1.heap l1 l2=hE at g1 g2 gI gO gz kk zz ⊢
 have I2:Ae X pins σ H1 { s1 with heap:=hE}:=I1.kept (t':=s1.toks) kk
 exact⟨⟨_,gz,rfl⟩,l1,l2,H1,s1.heap.objs.size,rfl,q,I2,gz,gI,gO,g1,g2,hl1,hl2,λb hb=>I1.fpOk hb (I1.hok.fresh hb),zz⟩
set_option maxHeartbeats 8000000 in
theorem OC (P:Program) (w:World) (K:PySem.W.Frag):EI (Cc P w K) (Fi P w K):=λl1 l2 xs1 xs2=>
 .of_wp λprog w A R s h=>by
  obtain⟨hp,g,d,tk,os⟩:=s;obtain⟨hl1,hl2,h⟩:=h;have hsub:=sub_zip
  have hL1:Heap.IsTuple (Shared.heap ⟨hp,g,d,tk,os⟩) l1 xs1:=hl1
  have hL2:Heap.IsList (Shared.heap ⟨(hp).push { cls:= .type "tuple_iterator",data:= .fields #[.ref l1,.int 0 0]},g,d,tk,os⟩) l2 xs2:=Heap.IsList.push (hl2) _
  wp_walk using wpAny_pyIter_tuple hL1,wpAny_pyIter_list hL2
  exact⟨_,rfl,h⟩
set_option maxHeartbeats 8000000 in
theorem KH (P:Program) (w:World) (K:PySem.W.Frag):EI (Cc P w K) (Cc P w K):=λl1 l2 xs1 xs2=>
 .of_wp λprog w A R s h=>by
  obtain⟨hp,g,d,tk,os⟩:=s;obtain⟨hl1,hl2,h⟩:=h;have hsub:=sub_zip
  have hL1:Heap.IsTuple (Shared.heap ⟨hp,g,d,tk,os⟩) l1 xs1:=hl1
  have hL2:Heap.IsTuple (Shared.heap ⟨(hp).push { cls:= .type "tuple_iterator",data:= .fields #[.ref l1,.int 0 0]},g,d,tk,os⟩) l2 xs2:=Heap.IsTuple.push (hl2) _
  wp_walk using wpAny_pyIter_tuple hL1,wpAny_pyIter_tuple hL2
  exact⟨_,rfl,h⟩
theorem KI {n l1 l2:Nat} (h1:l1<n) (h2:l2<n):EH (n+4) (n+2) (n+3) n (n+1) l1 l2:=by constructor<;>intro z<;>(have z':=z;revert z';intro z';try (change (_:Nat)=_ at z');omega)
def El {P:Program}{w:World}{K:PySem.W.Frag} (S1 S2:A9 P w K) (a b:Addr):It:=
 ⟨λi H=>∃xs ys x y,S1.Sq H a xs/\S2.Sq H b ys/\xs[i]? =some x/\ys[i]? =some y,λi H v H'=>∃T,v= .ref T/\H T=none/\∀xs ys x y,S1.Sq H a xs->S2.Sq H b ys->xs[i]? =some x->ys[i]? =some y->H'=upd H T (.tup [x,y]),
  λi H=>∃xs ys,S1.Sq H a xs/\S2.Sq H b ys/\xs.length=i⟩
theorem OD {P:Program}{w:World}{K:PySem.W.Frag} (S1 S2:A9 P w K) {es:List Expr}{k:Nat}{pos:Pos} (z TI TO i1 i2 l1 l2:Addr) (D:EH z TI TO i1 i2 l1 l2):
  DH P w K (.Tuple es k pos) (El S1 S2 l1 l2) [z,TI,TO,i1,i2] z (λi h=>IsZip h z TI TO .none/\Bg h TI (.ref i1) (.ref i2)/\(∃a b,Bg h TO a b)/\S1.It h i1 l1 i/\S2.It h i2 l2 i) where
 mem:=by simp
 obj:=λi h st b hb=>by
  obtain⟨hz,hTI,⟨a,b',hTO⟩,h1,h2⟩:=st
  simp only [List.mem_cons,List.not_mem_nil,or_false] at hb
  rcases hb with e | e | e | e | e<;>rw [e]
  ·exact⟨_,hz,λv q=>by have q':Data.fields _=Data.cell v:=q;cases q'⟩
  ·exact⟨_,hTI,λv q=>by have q':Data.seq _ _=Data.cell v:=q;cases q'⟩
  ·exact⟨_,hTO,λv q=>by have q':Data.seq _ _=Data.cell v:=q;cases q'⟩
  ·exact S1.ito h1
  ·exact S2.ito h2
 keep:=λi h h' st kk=>by
  obtain⟨hz,hTI,⟨a,b',hTO⟩,h1,h2⟩:=st
  exact⟨kk z (by simp) _ hz,kk TI (by simp) _ hTI,⟨a,b',kk TO (by simp) _ hTO⟩,S1.itk h1 λo q=>kk i1 (by simp) o q,S2.itk h2 λo q=>kk i2 (by simp) o q⟩
 item:=by
  intro X hP hw hK hc i pins s σ H E I hf st hg
  subst hP hw
  obtain⟨xs,ys,x,y,hq1,hq2,hx,hy⟩:=hg
  obtain⟨its1,rv1,is1,hz1⟩:=S1.get hK I hq1
  obtain⟨its2,rv2,is2,hz2⟩:=S2.get hK I hq2
  obtain⟨u1,hu1,ru1⟩:=rv1.get hx
  obtain⟨u2,hu2,ru2⟩:=rv2.get hy
  obtain⟨hz,hTI,⟨a,b',hTO⟩,h1,h2⟩:=st
  have hh:=I.ok.hd hc
  have hT:s.TypeIs (.ref z) "zip" :=⟨_,hz,rfl⟩
  unfold pyNext
  refine wpAny_bind (wpAny_attempt (wpAny_callSpecial?_slot (name:=Str.ofString "__next__") hT F.slot_zip_next (wpAny_call_entry F.slot_zip_next hT F.entry_zip_next
   (KF S1 S2 (x1:=u1) (x2:=u2) hh D ⟨_,_,hz,.inl rfl,.inl rfl⟩ hTI hTO ⟨h1,is1⟩ ⟨h2,is2⟩ (by simpa using hu1) (by simpa using hu2) λh' tk _ az a2 a3 a4 a5 a6 hk=>wpAny_pure ⟨_,rfl,?_⟩) (F.args_zip_next_1 _))))
  obtain⟨b1,b2,a2⟩:=a2
  refine wpAny_letOwnedTupleGo_zip (az (.inr hz)) λh'' z1 sb=>?_
  have kk:∀b o,b ∉ [z,TI,TO,i1,i2]->s.heap.get? b=some o->h''.get? b=some o:=λb o hb q=>sb.extBut b o (λe=>hb (by simp [e])) (hk b o (λe=>hb (by simp [e])) (λe=>hb (by simp [e])) (λe=>hb (by simp [e])) (λe=>hb (by simp [e])) q)
  have zl:z<s.heap.objs.size:=Heap.lt_size hz
  have ht:IsTup h'' s.heap.objs.size [u1,u2].toArray:=⟨_,sb.extBut _ _ (Nat.ne_of_gt zl) a5,rfl,_,rfl⟩
  exact⟨.ref s.heap.objs.size,upd H s.heap.objs.size (.tup [x,y]),I.yielded (tk:=tk) (λb hb=>hf b hb) kk (Nat.le_refl _) ht (.cons ru1 (.cons ru2 .nil)) (by show 2<=sizeLine;decide),rfl,
   ⟨_, rfl, I.hok.fresh (Nat.le_refl _), λxs' ys' x' y' e1 e2 e3 e4 => by
    rw [S1.inj hK I e1 hq1,hx] at e3;rw [S2.inj hK I e2 hq2,hy] at e4;cases e3;cases e4;rfl⟩,
   ⟨z1, sb.extBut _ _ D.TI_z (hk _ _ D.TI_z D.TO_TI.symm D.i1_TI.symm D.i2_TI.symm hTI), ⟨_, _, sb.extBut _ _ D.TO_z a2⟩, S1.itk a3.1 λo q => sb.extBut _ o D.i1_z q, S2.itk a4.1 λo q => sb.extBut _ o D.i2_z q⟩, λb hb => by
    have hbt:b<s.heap.objs.size:=by
     simp only [List.mem_cons,List.not_mem_nil,or_false] at hb
     rcases hb with e | e | e | e | e<;>rw [e]
     ·exact zl
     ·exact Heap.lt_size hTI
     ·exact Heap.lt_size hTO
     ·obtain⟨o,q,_⟩:=S1.ito h1;exact Heap.lt_size q
     ·obtain⟨o,q,_⟩:=S2.ito h2;exact Heap.lt_size q
    rw [AA (Nat.ne_of_lt hbt)];exact(hf b hb).1⟩
 done:=by
  intro X hP hw hK hc i pins s σ H E I hf st hg
  subst hP hw
  obtain⟨xs,ys,hq1,hq2,hend⟩:=hg
  obtain⟨its1,rv1,is1,hz1⟩:=S1.get hK I hq1
  obtain⟨its2,rv2,is2,hz2⟩:=S2.get hK I hq2
  obtain⟨hz,hTI,⟨a,b',hTO⟩,h1,h2⟩:=st
  have hh:=I.ok.hd hc
  have hT:s.TypeIs (.ref z) "zip" :=⟨_,hz,rfl⟩
  have e1:=rv1.length
  have e2:=rv2.length
  unfold pyNext
  refine wpAny_bind (wpAny_attempt (wpAny_callSpecial?_slot (name:=Str.ofString "__next__") hT F.slot_zip_next (wpAny_call_entry F.slot_zip_next hT F.entry_zip_next
   (OB S1 S2 hh D ⟨_,_,hz,.inl rfl,.inl rfl⟩ hTI hTO ⟨h1,is1⟩ ⟨h2,is2⟩ (by simp;omega) λh' tk e hk he=>?_) (F.args_zip_next_1 _))))
  obtain⟨o,ho,hco⟩:=he
  refine wpAny_bind (wpAny_isInstance (T:="StopIteration") (b:=true) ⟨o,ho,hco⟩ isSubtype_stop ?_)
  exact wpAny_pure ⟨rfl,I.ended (wr:=[z,TI,TO,i1,i2]) (tk:=tk) (λb hb=>hf b hb) λb o hb q=>hk b o (λe=>hb (by simp [e])) (λe=>hb (by simp [e])) (λe=>hb (by simp [e])) (λe=>hb (by simp [e])) q⟩
 self:=λ_ _ _ _ _ st h=>wpAny_pyIter_zip st.1 h
def EJ {P:Program}{w:World}{K:PySem.W.Frag} (S1 S2:A9 P w K) (ta:TA):TI:=fun σ H R=>ta σ H λvs H1=>∃a b,vs=[.ref a,.ref b]/\(∃xs,S1.Sq H1 a xs)/\(∃ys,S2.Sq H1 b ys)/\R (El S1 S2 a b) H1
theorem IP {es:List Expr}{pos:Pos} (S1 S2:A9 X.prog X.w X.K) (zn:EI S1 S2) (hg:Gl X "zip") (hm:X.mg "zip"=none) (ha:PA X [e1,e2] ta)
  (hs:starEach [e1,e2] X.env=[(false,eval e1 X.env),(false,eval e2 X.env)]) (hs2:starEach [e2] X.env=[(false,eval e2 X.env)]):PI X (.Tuple es k pos') (.Call (.Name "zip" p) [e1,e2] [] pos) (EJ S1 S2 ta):=by
 intro pins s σ H R I h
 refine Av (KG S1 S2 zn (R:=λl1 l2 H1=>R (El S1 S2 l1 l2) H1) hg hm ha hs hs2 I h) λv s1 ⟨l1,l2,H1,m,e,q,I1,gz,gI,gO,g1,g2,h1,h2,fr,_⟩=>?_
 subst e
 exact wpAny_pyIter_zip gz ⟨_,[m+4,m+2,m+3,m,m+1],_,_,H1,rfl,I1,OD S1 S2 _ _ _ _ _ l1 l2 (KI h1 h2),⟨gz,gI,⟨_,_,gO⟩,g1,g2⟩,λb hb=>fr b (by
  simp only [List.mem_cons,List.not_mem_nil,or_false] at hb
  rcases hb with e | e | e | e | e<;>rw [e]<;>first | exact Nat.le_refl _ | exact Nat.le_add_right _ _),q⟩
theorem OE {es:List Expr}{pos:Pos} (hg:Gl X "zip") (hm:X.mg "zip"=none) (ha:PA X [e1,e2] ta)
  (hs:starEach [e1,e2] X.env=[(false,eval e1 X.env),(false,eval e2 X.env)]:=by rfl) (hs2:starEach [e2] X.env=[(false,eval e2 X.env)]:=by rfl):PI X (.Tuple es k pos') (.Call (.Name "zip" p) [e1,e2] [] pos) (EJ (Cc X.prog X.w X.K) (Fi X.prog X.w X.K) ta):=IP _ _ (OC _ _ _) hg hm ha hs hs2
theorem OF {es:List Expr}{pos:Pos} (hg:Gl X "zip") (hm:X.mg "zip"=none) (ha:PA X [e1,e2] ta)
  (hs:starEach [e1,e2] X.env=[(false,eval e1 X.env),(false,eval e2 X.env)]:=by rfl) (hs2:starEach [e2] X.env=[(false,eval e2 X.env)]:=by rfl):PI X (.Tuple es k pos') (.Call (.Name "zip" p) [e1,e2] [] pos) (EJ (Cc X.prog X.w X.K) (Cc X.prog X.w X.K) ta):=IP _ _ (KH _ _ _) hg hm ha hs hs2
end L2
end
section
namespace L2
open PySem PySem.Spec PyProof.Rows
variable {C : Int -> Int -> Prop} {y : V} {H : Hp} {Q : VK} {op op' : CmpOp} {r' : R2}
section
variable {X : Cx} {e a b c : Expr} {es Bk : List Expr} {ta tb tc te : TE} {pos p : Pos} {tA tB' : TT} {t u : TS}
theorem PE.weak {t t':TE} (h:PE X e t) (w:∀σ H Q,t' σ H Q->t σ H Q):PE X e t':=λpins s σ H Q I q=>h pins s σ H Q I (w σ H Q q)
def Ce (i:Nat):TE:=fun σ H Q=>match σ[i]? with | some (some v)=>Q v H | _=>False
theorem cv (i:Nat) {x:Str}{pos:Pos} (hN:X.N[i]? =some x:=by rfl) (hv:Ez X.env.scope x:=by first | exact Or.inl rfl | exact Or.inr (Or.inl rfl) | exact Or.inr (Or.inr rfl)) (hd:(x==("__debug__" :Str))=false:=by decide)
  (hcd:(x==("__classdict__" :Str))=false:=by decide):PE X (.Name x pos) (Ce i):=(JL hN hv hd hcd).weak fun σ H Q q=>by
 unfold Ce at q
 split at q
 ·exact⟨_,by assumption,q⟩
 ·exact q.elim
def cI (C:Int->Int->Prop) (g:Int->Int->V) (ta tb:TE):TE:=fun σ H Q=>ta σ H λx H1=>tb σ H1 λy H2=>match x,y with | .int i,.int j=>C i j/\Q (g i j) H2 | _,_=>False
end
section
variable {X : Cx} {e a b c : Expr} {es Bk : List Expr} {ta tb tc te : TE} {pos p : Pos}
theorem OG {g:Int->Int->V}{x:V} (h:match x,y with | .int i,.int j=>C i j/\Q (g i j) H | _,_=>False):rI C g x y H Q:=by
 split at h
 ·exact⟨_,_,rfl,rfl,h⟩
 ·exact h.elim
theorem OH {g:Int->Int->V}{x:V} (h:match x,y with | .int i,.int j=>Q (g i j) H | _,_=>False):C8 g x y H Q:=by
 split at h
 ·exact⟨_,_,rfl,rfl,h⟩
 ·exact h.elim
def mI (C:Int->Int->Prop) (g:Int->Int->V):R2:=λx y H Q=>match x,y with | .int i,.int j=>C i j/\Q (g i j) H | _,_=>False
def mI0 (g:Int->Int->V):R2:=λx y H Q=>match x,y with | .int i,.int j=>Q (g i j) H | _,_=>False
theorem OpR.mI {f:Value->Value->Sem Value}{g:Int->Int->V} (h:OpR X f (rI C g)):OpR X f (L2.mI C g):=λpins s σ H x y v u Q I rx ry q=>h pins s σ H x y v u Q I rx ry (OG q)
theorem OpR.mI0 {f:Value->Value->Sem Value}{g:Int->Int->V} (h:OpR X f (C8 g)):OpR X f (L2.mI0 g):=λpins s σ H x y v u Q I rx ry q=>h pins s σ H x y v u Q I rx ry (OH q)
theorem Bb:OpR X (binaryOp .Add) (mI0 λi j=> .int (i+j)):=op_add.mI0
theorem BE:OpR X (binaryOp .Sub) (mI0 λi j=> .int (i-j)):=op_sub.mI0
theorem Gi:OpR X (binaryOp .Mult) (mI CMul λi j=> .int (i * j)):=op_mul.mI
theorem Gj:OpR X (binaryOp .FloorDiv) (mI Il λi j=> .int (i / j)):=op_fdiv.mI
theorem EK:OpR X (binaryOp .Mod) (mI (λ_ j=>0<j) λi j=> .int (i % j)):=op_mod.mI
theorem KJ:OpR X (binaryOp .Pow) (mI J4 λi j=> .int (i ^ j.toNat)):=op_pow.mI
theorem DL:OpR X (compareOp .Lt) (mI0 λi j=> .bl (decide (i<j))):=op_lt.mI0
theorem Db:OpR X (compareOp .LtE) (mI0 λi j=> .bl (decide (i<=j))):=op_le.mI0
theorem KK:OpR X (compareOp .Gt) (mI0 λi j=> .bl (decide (j<i))):=op_gt.mI0
theorem OI:OpR X (compareOp .GtE) (mI0 λi j=> .bl (decide (j<=i))):=op_ge.mI0
def mB (x:V) (Q:Bool->Prop):Prop:=match x with | .bl c=>Q c | _=>False
end
structure Mono (t:TE):Prop where
 m:∀ {σ H}{Q Q':VK},t σ H Q->(∀v H',Q v H'->Q' v H')->t σ H Q'
section
variable {X : Cx} {e a b c : Expr} {es Bk : List Expr} {te : TE} {pos p : Pos}
def cB (t:TE):TT:=fun σ H Q=>t σ H λx H1=>match x with | .bl c=>Q c H1 | _=>False
theorem Bh {t:TE} (h:PE X e t) (he:∀whole,isTrue e X.env whole=(do let v<-whole;standAt e.pos;holding [v] (truthy v)):=by intro _;rfl):PT X e (cB t):=by
 intro pins s σ H Q I hw
 refine isTrue_plain (Av (h pins s σ H _ I hw) λv s1 ⟨x,H1,I1,r1,q1⟩=>?_) (he _)
 dsimp only at q1
 split at q1
 ·cases r1;exact wpAny_truthy_bool ⟨H1,I1,q1⟩
 ·exact q1.elim
theorem A1 {op:CmpOp}{r:R2}{ta tb:TE} (ho:OpR X (compareOp op) r) (ha:PE X a ta) (hb:PE X b tb) (hm:behindInMarks op b=false):PT X (.Compare a [op] [b] pos) (cB (CF r ta tb)):=by
 intro pins s σ H Q I h
 refine wpAny_isTrue_Compare1 (Av (ha pins s σ H _ I h) λv s1 ⟨x,H1,I1,r1,q1⟩=>Av (hb pins s1 σ H1 _ I1 q1) λu s2 ⟨y,H2,I2,r2,q2⟩=>
  Av (ho pins s2 σ H2 x y v u _ I2 r1 r2 q2) λc s3 ⟨z,H3,I3,r3,q3⟩=>?_) hm
 dsimp only at q3
 split at q3
 ·cases r3;exact wpAny_truthy_bool ⟨H3,I3,q3⟩
 ·exact q3.elim
def KM (r r':R2) (ta tb tc:TE):TE:=fun σ H Q=>ta σ H λx H1=>tb σ H1 λy H2=>r x y H2 λz H3=>match z with | .bl k=>br k (tc σ H3 λw' H4=>r' y w' H4 Q) (Q (.bl false) H3) | _=>False
theorem IQ {r:R2}{ta tb tc:TE} (ho:OpR X (compareOp op) r) (ho':OpR X (compareOp op') r') (ha:PE X a ta) (hb:PE X b tb) (hc:PE X c tc)
  (hm:lastMarks [op,op'] [b,c]=false:=by with_unfolding_all rfl):PE X (.Compare a [op,op'] [b,c] pos) (KM r r' ta tb tc):=by
 intro pins s σ H Q I h
 refine Compare_chain (Av (ha pins s σ H _ I h) λv s1 ⟨x,H1,I1,r1,q1⟩=>chain_link (Av (hb pins s1 σ H1 _ I1 q1) λu s2 ⟨y,H2,I2,r2,q2⟩=>
  Av (ho pins s2 σ H2 x y v u _ I2 r1 r2 q2) λd s3 ⟨z,H3,I3,r3,q3⟩=>?_)) hm
 dsimp only at q3
 split at q3
 ·rename_i k
  cases r3
  refine wpAny_truthy_bool ?_
  cases k with
  | false=>exact ite_ff ⟨.bl false,H3,I3,rfl,q3.2 rfl⟩
  | true=>exact ite_tt (chain_last (Av (hc pins s3 σ H3 _ I3 (q3.1 rfl)) λw' s4 ⟨z',H4,I4,r4,q4⟩=>ho' pins s4 σ H4 y z' u w' Q I4 r2 r4 q4))
 ·exact q3.elim
theorem OJ {r:R2}{ta tb tc:TE} (ho:OpR X (compareOp op) r) (ho':OpR X (compareOp op') r') (ha:PE X a ta) (hb:PE X b tb) (hc:PE X c tc)
  (hm:lastMarks [op,op'] [b,c]=false:=by with_unfolding_all rfl):PT X (.Compare a [op,op'] [b,c] pos) (cB (KM r r' ta tb tc)):=by
 intro pins s σ H Q I h
 refine isTrue_chain (Av (ha pins s σ H _ I h) λv s1 ⟨x,H1,I1,r1,q1⟩=>test_link (Av (hb pins s1 σ H1 _ I1 q1) λu s2 ⟨y,H2,I2,r2,q2⟩=>
  Av (ho pins s2 σ H2 x y v u _ I2 r1 r2 q2) λd s3 ⟨z,H3,I3,r3,q3⟩=>?_)) hm
 dsimp only at q3
 split at q3
 ·rename_i k
  cases r3
  refine wpAny_truthy_bool ?_
  cases k with
  | false=>exact ite_ff ⟨H3,I3,q3.2 rfl⟩
  | true=>
   refine ite_tt (test_last (Av (hc pins s3 σ H3 _ I3 (q3.1 rfl)) λw' s4 ⟨z',H4,I4,r4,q4⟩=>Av (ho' pins s4 σ H4 y z' u w' _ I4 r2 r4 q4) λd' s5 ⟨z2,H5,I5,r5,q5⟩=>?_))
   dsimp only at q5
   split at q5
   ·cases r5;exact wpAny_truthy_bool ⟨H5,I5,q5⟩
   ·exact q5.elim
 ·exact q3.elim
def OK (t u:TT):TT:=fun σ H Q=>t σ H λc H1=>br c (u σ H1 Q) (Q false H1)
def OL (t u:TT):TT:=fun σ H Q=>t σ H λc H1=>br c (Q true H1) (u σ H1 Q)
theorem IR {tA tB':TT} (ha:PT X a tA) (hb:PW X (.BoolOp .And (b::Bk) pos) tB'):PW X (.BoolOp .And (a::b::Bk) pos) (OK tA tB'):=by
 intro wh pins s σ H Q I h
 refine isTrue_and (Av (ha pins s σ H _ I h) λc s1 ⟨H1,I1,q1⟩=>?_)
 cases c with
 | true=>exact hb wh pins s1 σ H1 Q I1 (q1.1 rfl)
 | false=>exact⟨H1,I1,q1.2 rfl⟩
theorem Cs {tA tB':TT} (ha:PT X a tA) (hb:PW X (.BoolOp .Or (b::Bk) pos) tB'):PW X (.BoolOp .Or (a::b::Bk) pos) (OL tA tB'):=by
 intro wh pins s σ H Q I h
 refine isTrue_or (Av (ha pins s σ H _ I h) λc s1 ⟨H1,I1,q1⟩=>?_)
 cases c with
 | true=>exact⟨H1,I1,q1.1 rfl⟩
 | false=>exact hb wh pins s1 σ H1 Q I1 (q1.2 rfl)
def OM (ta tb:TE):TE:=fun σ H Q=>ta σ H λx H1=>match x with | .bl c=>br c (tb σ H1 Q) (Q (.bl false) H1) | _=>False
def ON (ta tb:TE):TE:=fun σ H Q=>ta σ H λx H1=>match x with | .bl c=>br c (Q (.bl true) H1) (tb σ H1 Q) | _=>False
def OO (ta:TE):TE:=fun σ H Q=>ta σ H λx H1=>match x with | .bl c=>Q (.bl (!c)) H1 | _=>False
theorem AY {ta tb:TE} (ha:PE X a ta) (hb:PE X (.BoolOp .And (b::Bk) pos) tb):PE X (.BoolOp .And (a::b::Bk) pos) (OM ta tb):=by
 intro pins s σ H Q I h
 refine BoolOp_and (Av (ha pins s σ H _ I h) λv s1 ⟨x,H1,I1,r1,q1⟩=>?_)
 dsimp only at q1
 split at q1
 ·rename_i c
  cases r1
  refine wpAny_truthy_bool ?_
  cases c with
  | true=>exact hb pins s1 σ H1 Q I1 (q1.1 rfl)
  | false=>exact⟨.bl false,H1,I1,rfl,q1.2 rfl⟩
 ·exact q1.elim
theorem OP {ta tb:TE} (ha:PE X a ta) (hb:PE X (.BoolOp .Or (b::Bk) pos) tb):PE X (.BoolOp .Or (a::b::Bk) pos) (ON ta tb):=by
 intro pins s σ H Q I h
 refine BoolOp_or (Av (ha pins s σ H _ I h) λv s1 ⟨x,H1,I1,r1,q1⟩=>?_)
 dsimp only at q1
 split at q1
 ·rename_i c
  cases r1
  refine wpAny_truthy_bool ?_
  cases c with
  | false=>exact hb pins s1 σ H1 Q I1 (q1.2 rfl)
  | true=>exact⟨.bl true,H1,I1,rfl,q1.1 rfl⟩
 ·exact q1.elim
theorem KN {ta:TE} (ha:PE X a ta):PE X (.UnaryOp .Not a pos) (OO ta):=by
 intro pins s σ H Q I h
 refine UnaryOp_ (Av (ha pins s σ H _ I h) λv s1 ⟨x,H1,I1,r1,q1⟩=>?_)
 dsimp only at q1
 split at q1
 ·rename_i c
  cases r1
  exact not_of (wpAny_truthy_bool ⟨.bl (!c),H1,I1,rfl,q1⟩)
 ·exact q1.elim
def OQ (t:TT) (ta tb:TE):TE:=fun σ H Q=>t σ H λc H1=>br c (ta σ H1 Q) (tb σ H1 Q)
theorem Dt {ta tb:TE}{tA:TT} (hc:PT X c tA) (ha:PE X a ta) (hb:PE X b tb):PE X (.IfExp c a b pos) (OQ tA ta tb):=by
 intro pins s σ H Q I h
 refine wpAny_IfExp (Av (hc pins s σ H _ I h) λd s1 ⟨H1,I1,q1⟩=>?_)
 cases d with
 | true=>exact ha pins s1 σ H1 Q I1 (q1.1 rfl)
 | false=>exact hb pins s1 σ H1 Q I1 (q1.2 rfl)
def OR (c:TT) (t u:TS):TS:=λD σ H=>c σ H λb H1=>br b (t D σ H1) (u D σ H1)
theorem A2 {sa sb:List Stmt}{tc:TT}{t u:TS} (hc:PT X c tc) (ha:PSs X sa t) (hb:PSs X sb u):PS X (.If c sa sb pos) (OR tc t u):=by
 intro pins s σ H D I h
 refine wpAny_If (Av (hc pins s σ H _ I h) λd s1 ⟨H1,I1,q1⟩=>?_)
 cases d with
 | true=>exact ha pins s1 σ H1 D I1 (q1.1 rfl)
 | false=>exact hb pins s1 σ H1 D I1 (q1.2 rfl)
end
section
variable {X : Cx} {es : List Expr} {t : TA} {pos : Pos}
theorem few {n:Nat} (h:Nat.ble n 64=true):n<=sizeLine:=Nat.le_trans (Nat.le_of_ble_eq_true h) (by decide)
def OS (t:TA):TE:=fun σ H Q=>t σ H λxs H1=>match Nat.ble xs.length 64 with | true=>∀p,H1 p=none->Q (.ref p) (upd H1 p (.tup xs)) | false=>False
def OT (t:TA):TE:=fun σ H Q=>t σ H λxs H1=>match Nat.ble xs.length 64 with | true=>∀p,H1 p=none->Q (.ref p) (upd H1 p (.lst xs)) | false=>False
theorem BI {x1} (h:PA X es t):PE X (.Tuple es x1 pos) (OS t):=by
 intro pins s σ H Q I hq
 refine wpAny_Tuple_spliced (Av (h pos pins s σ H _ I hq) λus s1 ⟨xs,H1,I1,r,q⟩=>?_)
 dsimp only at q
 split at q
 ·rename_i z
  refine⟨by rw [<-r.length];exact few z,?_⟩
  have hf:H1 s1.heap.objs.size=none:=I1.hok.fresh (Nat.le_refl _)
  refine⟨.ref s1.heap.objs.size,upd H1 s1.heap.objs.size (.tup xs),I1.laid (t':=s1.toks) (λb u e=>Heap.get?_push_of_some _ e) (Nat.le_refl _) ?_,rfl,q _ hf⟩
  exact⟨few z,us,r,⟨_,Heap.get?_push_size _ rfl,rfl,_,rfl⟩⟩
 ·exact q.elim
theorem BF (h:PA X es t):PE X (.List es pos) (OT t):=by
 intro pins s σ H Q I hq
 refine wpAny_List_spliced (Av (h pos pins s σ H _ I hq) λus s1 ⟨xs,H1,I1,r,q⟩=>?_)
 dsimp only at q
 split at q
 ·rename_i z
  refine⟨by rw [<-r.length];exact few z,?_⟩
  have hf:H1 s1.heap.objs.size=none:=I1.hok.fresh (Nat.le_refl _)
  refine⟨.ref s1.heap.objs.size,upd H1 s1.heap.objs.size (.lst xs),I1.laid (t':=s1.toks) (λb u e=>Heap.get?_push_of_some _ e) (Nat.le_refl _) ?_,rfl,q _ hf⟩
  exact⟨few z,us,0,r,Heap.get?_push_size _ rfl⟩
 ·exact q.elim
end
section
variable {P : Program} {w : World} {K : PySem.W.Frag} {mg : Str -> Option Value} {base : Heap}
structure Fn (P:Program) (w:World) (K:PySem.W.Frag) (mg:Str->Option Value) (base:Heap) (n:Nat) (x:Str) (ps:List Str) (sp:Sp):Prop where
 ex:∃(f:Addr) (fd:FuncData),CY P w K mg base CX0 n f fd ps sp/\mg x=some (.ref f)/\PySem.W.keepIn K (.ref f)=true/\Binds K fd ps []
structure Df (K:PySem.W.Frag) (mg:Str->Option Value) (x:Str) (st:Stmt) (ps:List Str):Prop where
 ex:∃(f:Addr) (fd:FuncData),Ei K x x st f fd/\mg x=some (.ref f)/\Binds K fd ps []
theorem Df.fn {x:Str}{st:Stmt}{N ps:List Str}{k:Nat}{sp:Sp} (F:Df K mg x st ps) (S:AB N ps (Ax st)) (len:∀vs H Q E,sp vs H Q E->vs.length=ps.length)
  (hbody : ∀ (f : Addr) (cdv : Value) (A : Around) (outer : List Env) (s : Shared) (H : Hp) (vs : List V) (Q : VK) (E : XK), Bo k (A.deeper (envOfC x (Ax st) s.heap.objs.size f cdv)) -> sp vs H Q E ->
   ∃t,PSs (Eh CX0 P w K mg base N x (Ax st) f cdv A outer s H E).nox (Cb st) t/\t { nx:=λ_ H'=>Q .non H',rt:=Q} (start N vs) H):Fn P w K mg base (k+1) x ps sp:=by
 obtain⟨f,fd,hF,hm,hb⟩:=F.ex
 exact⟨f,fd,hF.ok S len λcdv A outer s H vs Q E hr h=>hbody f cdv A outer s H vs Q E hr h,hm,hF.kp,hb⟩
def OU (sp:Sp) (t:TA):TE:=fun σ H Q=>t σ H λvs H1=>sp vs H1 Q E0
theorem Af {X:Cx}{n:Nat}{x:Str}{ps:List Str}{sp:Sp}{e:Expr}{es:List Expr}{t:TA}{p pos:Pos} (F:Fn X.prog X.w X.K X.mg X.base n x ps sp) (hr:Bo n X.A) (hg:Gl X x) (ha:PA X (e::es) t)
  (hdb:(x==("__debug__" :Str))=false:=by decide) (he:starEach (e::es) X.env=(false,eval e X.env)::starEach es X.env:=by rfl) (hpl:(backTo pos (starEach es X.env)).any (·.1)=false:=by rfl):
  PE X (.Call (.Name x p) (e::es) [] pos) (OU sp t):=by
 obtain⟨f,fd,F,hm,hk,hb⟩:=F.ex
 refine(NB (dvs:=[]) (E:=E0) F hr hg hm hk hb .nil Oe ha hdb he hpl).weak fun σ H Q q=>?_
 have e:∀vs:List V,vs++[]=vs:=λvs=>List.append_nil vs
 show t σ H λvs H1=>sp (vs++[]) H1 Q E0
 simp only [e]
 exact q
end
end L2
end
section
namespace L2
open PySem PySem.Spec PyProof.Rows
variable {p a : Addr} {H H' : Hp} {xs : List V}
def DK (kvs:List (PyData×PyData)) (ks:List (Bx×V)):Prop:=(kvs=[]/\ks=[])\/(kvs=[(.int 0,.int 1)]/\ks=[(.inl 0,.int 1)])
mutual
def Aa (p:Addr) (H:Hp):PyData->V->Prop
 | .none,v=>v= .non
 | .bool b,v=>v= .bl b
 | .int i,v=>v= .int i
 | .str x,v=>v= .str x
 | .tuple ds,v=>∃a xs,v= .ref a/\H a=some (.tup xs)/\Ad p H ds xs
 | .list ds,v=>∃a xs,v= .ref a/\a≠p/\H a=some (.lst xs)/\Ad p H ds xs
 | .dict kvs,v=>∃a ks,v= .ref a/\a≠p/\DK kvs ks/\H a=some (.dK ks)
def Ad (p:Addr) (H:Hp):List PyData->List V->Prop
 | [],xs=>xs=[]
 | d::ds,xs=>∃x r,xs=x::r/\Aa p H d x/\Ad p H ds r
end
def Ev (p:Addr) (H H':Hp):Prop:=∀b o,H b=some o->(b=p/\∃xs,o= .lst xs)\/H' b=some o
theorem Ev.refl:Ev p H H:=λ_ _ h=> .inr h
theorem Ev.same (h:Ab H H'):Ev p H H':=λb o q=> .inr (h b o q)
theorem Ev.trans {H1 H2:Hp} (h:Ev p H H1) (h':Ev p H1 H2):Ev p H H2:=λb o q=>(h b o q).elim .inl λr=>h' b o r
theorem Ev.tup (h:Ev p H H') (q:H a=some (.tup xs)):H' a=some (.tup xs):=(h a _ q).elim (fun⟨_,ys,e⟩=>nomatch e) id
theorem Ev.lst (h:Ev p H H') (q:H a=some (.lst xs)) (n:a≠p):H' a=some (.lst xs):=(h a _ q).elim (fun⟨e,_⟩=>absurd e n) id
theorem Ev.dk {ks:List (Bx×V)} (h:Ev p H H') (q:H a=some (.dK ks)):H' a=some (.dK ks):=(h a _ q).elim (fun⟨_,ys,e⟩=>nomatch e) id
theorem Ev.new {o:HO} (h:H a=none):Ev p H (upd H a o):=λb u q=> .inr (by rw [AA (Bf q h)];exact q)
theorem Ev.pen {o:HO} (h:H p=some (.lst xs)):Ev p H (upd H p o):=λb u q=>by
 by_cases e:b=p
 ·subst e;rw [h] at q;cases q;exact .inl ⟨rfl,xs,rfl⟩
 ·exact .inr (by rw [AA e];exact q)
theorem Ab.new {o:HO} (h:H a=none):Ab H (upd H a o):=λb u q=>by rw [AA (Bf q h)];exact q
mutual
theorem Aa.ev (h:Ev p H H'):∀(d:PyData) (v:V),Aa p H d v->Aa p H' d v
 | .none,v,q=>q
 | .bool _,v,q=>q
 | .int _,v,q=>q
 | .str _,v,q=>q
 | .tuple ds,v,q=>by
  unfold Aa at q ⊢
  obtain⟨a,xs,e,r,z⟩:=q
  exact⟨a,xs,e,h.tup r,Ad.ev h ds xs z⟩
 | .list ds,v,q=>by
  unfold Aa at q ⊢
  obtain⟨a,xs,e,n,r,z⟩:=q
  exact⟨a,xs,e,n,h.lst r n,Ad.ev h ds xs z⟩
 | .dict kvs,v,q=>by
  unfold Aa at q ⊢
  obtain⟨a,ks,e,n,k,r⟩:=q
  exact⟨a,ks,e,n,k,h.dk r⟩
theorem Ad.ev (h:Ev p H H'):∀(ds:List PyData) (xs:List V),Ad p H ds xs->Ad p H' ds xs
 | [],xs,q=>by unfold Ad at q ⊢;exact q
 | d::ds,xs,q=>by
  unfold Ad at q ⊢
  obtain⟨x,r,e,z,zs⟩:=q
  exact⟨x,r,e,Aa.ev h d x z,Ad.ev h ds r zs⟩
end
theorem Ad.len:∀ {ds:List PyData}{xs:List V},Ad p H ds xs->ds.length=xs.length
 | [],xs,q=>by unfold Ad at q;subst q;rfl
 | d::ds,xs,q=>by
  unfold Ad at q
  obtain⟨x,r,e,z,zs⟩:=q
  subst e
  simp [Ad.len zs]
theorem Ad.get {p:Addr}{H:Hp}:∀ {ds:List PyData}{xs:List V}{i:Nat}{d:PyData},Ad p H ds xs->ds[i]? =some d->∃x,xs[i]? =some x/\Aa p H d x
 | [],xs,i,d,q,e=>by simp at e
 | d::ds,xs,0,d',q,e=>by
  unfold Ad at q
  obtain⟨x,r,rfl,z,zs⟩:=q
  simp at e;subst e
  exact⟨x,rfl,z⟩
 | d::ds,xs,i+1,d',q,e=>by
  unfold Ad at q
  obtain⟨x,r,rfl,z,zs⟩:=q
  obtain⟨y,hy,ry⟩:=Ad.get (i:=i) zs (by simpa using e)
  exact⟨y,by simpa using hy,ry⟩
theorem Ad.got {p:Addr}{H:Hp}:∀ {ds:List PyData}{xs:List V}{i:Nat}{x:V},Ad p H ds xs->xs[i]? =some x->∃d,ds[i]? =some d/\Aa p H d x
 | [],xs,i,x,q,e=>by unfold Ad at q;subst q;simp at e
 | d::ds,xs,0,x',q,e=>by
  unfold Ad at q
  obtain⟨x,r,rfl,z,zs⟩:=q
  simp at e;subst e
  exact⟨d,rfl,z⟩
 | d::ds,xs,i+1,x',q,e=>by
  unfold Ad at q
  obtain⟨x,r,rfl,z,zs⟩:=q
  obtain⟨y,hy,ry⟩:=Ad.got (i:=i) zs (by simpa using e)
  exact⟨y,by simpa using hy,ry⟩
theorem Ad.nil:Ad p H [] []:=by unfold Ad;rfl
theorem Ad.cons {d:PyData}{ds:List PyData}{x:V} (h:Aa p H d x) (r:Ad p H ds xs):Ad p H (d::ds) (x::xs):=by unfold Ad;exact⟨x,xs,rfl,h,r⟩
theorem Ad.append:∀ {ds es:List PyData}{xs ys:List V},Ad p H ds xs->Ad p H es ys->Ad p H (ds++es) (xs++ys)
 | [],_,xs,_,q,r=>by unfold Ad at q;subst q;exact r
 | d::ds,_,xs,_,q,r=>by
  unfold Ad at q
  obtain⟨x,t,rfl,z,zs⟩:=q
  exact .cons z (Ad.append zs r)
theorem Aa.tup {ds:List PyData} (h:H a=some (.tup xs)) (r:Ad p H ds xs):Aa p H (.tuple ds) (.ref a):=by unfold Aa;exact⟨a,xs,rfl,h,r⟩
theorem Aa.lst {ds:List PyData} (n:a≠p) (h:H a=some (.lst xs)) (r:Ad p H ds xs):Aa p H (.list ds) (.ref a):=by unfold Aa;exact⟨a,xs,rfl,n,h,r⟩
theorem Aa.int {i:Int}:Aa p H (.int i) (.int i):=by unfold Aa;rfl
theorem Aa.bl {i:Bool}:Aa p H (.bool i) (.bl i):=by unfold Aa;rfl
theorem Aa.str {i:Str}:Aa p H (.str i) (.str i):=by unfold Aa;rfl
theorem Aa.non:Aa p H .none .non:=by unfold Aa;rfl
def KO (x:V) (H:Hp) (n:String):Prop:=match x with
 | .non=>n="NoneType" | .bl _=>n="bool" | .int _=>n="int" | .str _=>n="str"
 | .ref a=>(n="tuple" /\∃xs,H a=some (.tup xs))\/(n="list" /\∃xs,H a=some (.lst xs))\/(n="dict" /\∃kvs,H a=some (.dK kvs))
 | _=>False
def OV:PyData->String
 | .none=> "NoneType" | .bool _=> "bool" | .int _=> "int" | .str _=> "str" | .tuple _=> "tuple" | .list _=> "list" | .dict _=> "dict"
def IS (n T:String):Bool:=n==T || (n=="bool" && T=="int")
theorem Aa.ty {v:V}:∀ {d:PyData},Aa p H d v->KO v H (OV d)
 | .none,q=>by unfold Aa at q;subst q;rfl
 | .bool _,q=>by unfold Aa at q;subst q;rfl
 | .int _,q=>by unfold Aa at q;subst q;rfl
 | .str _,q=>by unfold Aa at q;subst q;rfl
 | .tuple ds,q=>by unfold Aa at q;obtain⟨a,xs,rfl,h,_⟩:=q;exact .inl ⟨rfl,xs,h⟩
 | .list ds,q=>by unfold Aa at q;obtain⟨a,xs,rfl,_,h,_⟩:=q;exact .inr (.inl ⟨rfl,xs,h⟩)
 | .dict kvs,q=>by unfold Aa at q;obtain⟨a,ks,rfl,_,_,h⟩:=q;exact .inr (.inr ⟨rfl,ks,h⟩)
def KP:List V->Hp->VK->Prop:=λxs H Q=>match xs with
 | [x,.ty T]=>∃n,KO x H n/\(T="int" \/T="bool" \/T="tuple" \/T="list" \/T="str")/\Q (.bl (IS n T)) H
 | _=>False
section
variable {X : Cx}
theorem boot_int:bootBuiltins "int"=some (.type "int"):=by decide+kernel
theorem boot_bool:bootBuiltins "bool"=some (.type "bool"):=by decide+kernel
theorem Bi:bootBuiltins "tuple"=some (.type "tuple"):=by decide+kernel
theorem Em:bootBuiltins "list"=some (.type "list"):=by decide+kernel
theorem C0:BH X (.builtin "isinstance") KP:=by
 intro pins s σ H xs us Q I r h
 unfold KP at h
 split at h
 ·rename_i x T
  obtain⟨n,ht,hT,q⟩:=h
  obtain⟨u,v,rfl,ru,rv⟩:=r.two
  cases rv
  have yes:∀s':Shared,Ae X pins σ H s'->IS n T=true->EP X pins σ Q (.bool true) s':=λs' I' e=>⟨.bl true,H,I',rfl,by rw [e] at q;exact q⟩
  have no:IS n T=false->EP X pins σ Q (.bool false) { s with toks:=s.toks+1}:=λe=>⟨.bl false,H,I.tok _,rfl,by rw [e] at q;exact q⟩
  cases x with
  | non=>
   have e:n="NoneType" :=ht
   subst e;cases ru
   rcases hT with rfl | rfl | rfl | rfl | rfl
   ·exact IsiPair.NoneType_int (no rfl)
   ·exact IsiPair.NoneType_bool (no rfl)
   ·exact IsiPair.NoneType_tuple (no rfl)
   ·exact IsiPair.NoneType_list (no rfl)
   ·exact IsiPair.NoneType_str (no rfl)
  | bl k=>
   have e:n="bool" :=ht
   subst e;cases ru
   rcases hT with rfl | rfl | rfl | rfl | rfl
   ·exact IsiPair.bool_int (yes _ I rfl)
   ·exact IsiPair.bool_bool (yes _ I rfl)
   ·exact IsiPair.bool_tuple (no rfl)
   ·exact IsiPair.bool_list (no rfl)
   ·exact IsiPair.bool_str (no rfl)
  | int k=>
   have e:n="int" :=ht
   subst e;obtain⟨t,rfl⟩:=ru
   rcases hT with rfl | rfl | rfl | rfl | rfl
   ·exact IsiPair.int_int (yes _ I rfl)
   ·exact IsiPair.int_bool (no rfl)
   ·exact IsiPair.int_tuple (no rfl)
   ·exact IsiPair.int_list (no rfl)
   ·exact IsiPair.int_str (no rfl)
  | str k=>
   have e:n="str" :=ht
   subst e;obtain⟨t,rfl⟩:=ru
   rcases hT with rfl | rfl | rfl | rfl | rfl
   ·exact IsiPair.str_int (no rfl)
   ·exact IsiPair.str_bool (no rfl)
   ·exact IsiPair.str_tuple (no rfl)
   ·exact IsiPair.str_list (no rfl)
   ·exact IsiPair.str_str (yes _ I rfl)
  | ref a=>
   cases ru
   have ht':(n="tuple" /\∃xs,H a=some (.tup xs))\/(n="list" /\∃xs,H a=some (.lst xs))\/(n="dict" /\∃kvs,H a=some (.dK kvs)):=ht
   rcases ht' with⟨e,xs,hx⟩ | ⟨e,xs,hx⟩ | ⟨e,xs,hx⟩
   ·subst e
    obtain⟨_,its,_,o,ho,hc,_⟩:=I.hok a _ hx
    rcases hT with rfl | rfl | rfl | rfl | rfl
    ·exact IsiPair.tuple_int ho hc (no rfl)
    ·exact IsiPair.tuple_bool ho hc (no rfl)
    ·exact IsiPair.tuple_tuple ho hc (yes _ I rfl)
    ·exact IsiPair.tuple_list ho hc (no rfl)
    ·exact IsiPair.tuple_str ho hc (no rfl)
   ·subst e
    obtain⟨_,its,k,_,ho⟩:=I.hok a _ hx
    rcases hT with rfl | rfl | rfl | rfl | rfl
    ·exact IsiPair.list_int ho rfl (no rfl)
    ·exact IsiPair.list_bool ho rfl (no rfl)
    ·exact IsiPair.list_tuple ho rfl (no rfl)
    ·exact IsiPair.list_list ho rfl (yes _ I rfl)
    ·exact IsiPair.list_str ho rfl (no rfl)
   ·subst e
    obtain⟨_,_,vs,_,o,es,ep,ho,hc,_⟩:=I.hok a _ hx
    have hc':o.cls= .type "dict" :=hc.1
    rcases hT with rfl | rfl | rfl | rfl | rfl
    ·exact IsiPair.dict_int ho hc' (no rfl)
    ·exact IsiPair.dict_bool ho hc' (no rfl)
    ·exact IsiPair.dict_tuple ho hc' (no rfl)
    ·exact IsiPair.dict_list ho hc' (no rfl)
    ·exact IsiPair.dict_str ho hc' (no rfl)
  | byt _=>exact(show False from ht).elim
  | flt _=>exact(show False from ht).elim
  | ty _=>exact(show False from ht).elim
 ·exact h.elim
theorem Ct (hc:X.calm=true):BH X (.builtin "all") (λxs H Q=>∃(p:Addr) (bs:List Bool),xs=[.ref p]/\H p=some (.lst (bs.map V.bl))/\Q (.bl (bs.all id)) H):=by
 intro pins s σ H xs us Q I r h
 obtain⟨p,bs,rfl,hp,q⟩:=h
 obtain⟨u,rfl,ru⟩:=r.one
 cases ru
 obtain⟨its,rv,pl,hz⟩:=I.list (Ai.of hp)
 refine call_all_walk (wpAny_pyIter_list pl.isList ?_)
 obtain⟨ol,_,hol,_⟩:=id pl
 have hlt:=Heap.lt_size hol
 refine⟨s.heap.objs.size,_,_,_,_,_,λi=>bs.getD i false,rfl,Walks.list (A:=X.A.in1) (I.ok.hd hc) s.heap.objs.size p (Nat.ne_of_lt hlt) its.toArray,⟨⟨_,Heap.get?_push_size _ rfl,rfl,rfl⟩,?_⟩,λi v s' Q' E' hi hq=>?_,λh' tk hk=>?_⟩
 ·exact pl.isList.at λo e=>Heap.get?_push_of_some _ e
 ·have hi':its[i]? =some v:=by simpa using hi
  have hl:=rv.length
  have hb:i<bs.length:=by have:=(List.getElem?_eq_some_iff.mp hi').1;simp at hl;omega
  obtain⟨u,hu,ru⟩:=rv.get (i:=i) (x:= .bl bs[i]) (by simp [hb])
  rw [hi'] at hu;cases hu;cases ru
  dsimp only at hq;rw [List.getD_eq_getElem?_getD,List.getElem?_eq_getElem hb] at hq
  exact wpAny_truthy_bool hq
 ·have hl:=rv.length
  simp at hl
  have e:(List.range its.toArray.size).all (λi=>bs.getD i false)=bs.all id:=by
   rw [List.size_toArray,<-hl,Bool.eq_iff_iff]
   simp only [List.all_eq_true,List.mem_range,id]
   constructor
   ·intro h x hx
    obtain⟨i,hi,e⟩:=List.mem_iff_getElem.mp hx
    have:=h i hi
    rw [List.getD_eq_getElem?_getD,List.getElem?_eq_getElem hi] at this
    rw [<-e];exact this
   ·intro h i hi
    rw [List.getD_eq_getElem?_getD,List.getElem?_eq_getElem hi]
    exact h _ (List.getElem_mem hi)
  rw [e]
  refine⟨.bl (bs.all id),H,I.kept λb o eb=>hk b o ?_ (Heap.get?_push_of_some _ eb),rfl,q⟩
  intro z
  have z':b=s.heap.objs.size:=by simpa using z
  exact absurd (Heap.lt_size eb) (by rw [z'];exact Nat.lt_irrefl _)
end
end L2
end
section
namespace L2
open PySem PySem.Spec PyProof.Rows
open AutoSeq1 (wpAny_loadPart')
section
variable {X : Cx}
def En (H:Hp) (xs:List V) (Q:VK):Prop:=∀r H',Ab H H'->H' r=some (.tup xs)->Q (.ref r) H'
theorem Ae.gotNew {pins:List (Addr×Obj)}{σ:St}{H:Hp}{s:Shared}{Q:VK}{xs:List V}{us:List Value}{t':Nat} (I:Ae X pins σ H s) (q:En H xs Q) (rv:Ar xs us) (hz:xs.length<=sizeLine):
  EP X pins σ Q (.ref s.heap.objs.size) { s with heap:=s.heap.push { cls:= .type "tuple",data:= .seq us.toArray},toks:=t'}:=
 ⟨.ref s.heap.objs.size,_,I.laid (o:= .tup xs) (λb ob e=>Heap.get?_push_of_some _ e) (Nat.le_refl _) ⟨hz,us,rv,IsTup.new _ _⟩,rfl,q _ _ (Ab.new (I.hok.fresh (Nat.le_refl _))) Ag⟩
def OW:R2:=λx y H Q=>∃a b xs ys,x= .ref a/\y= .ref b/\H a=some (.tup xs)/\H b=some (.tup ys)/\xs.length+ys.length<=1000/\En H (xs++ys) Q
theorem C1:OpR X (binaryOp .Add) OW:=by
 intro pins s σ H x y v u Q I rx ry h
 obtain⟨a,b,xs,ys,rfl,rfl,ha,hb,hz,q⟩:=h
 cases rx;cases ry
 obtain⟨its,r1,ht,_⟩:=I.tuple (Ac.of ha)
 obtain⟨its2,r2,ht2,_⟩:=I.tuple (Ac.of hb)
 obtain⟨⟨cls,dd,data,sl⟩,ho,hc,n,hd⟩:=id ht;obtain⟨⟨cls2,dd2,data2,sl2⟩,ho2,hc2,n2,hd2⟩:=id ht2;simp only at hc hd hc2 hd2;subst hc hd hc2 hd2
 have hl1:=r1.length;have hl2:=r2.length
 have hs:(1000:Nat)<=sizeLine:=by decide
 by_cases hv:its=[]
 ·have e:xs=[]:=by subst hv;cases r1;rfl
  refine concat_meets ⟨_,ho,rfl⟩ ⟨_,ho2,rfl⟩ noFill_tuple_add seq_tuple_add PySem.F.slot_tuple_add PySem.F.entry_tuple_add (PySem.F.args_tuple_add_2 _ _) (tuple_addW0 a b its.toArray its2.toArray n n2 dd dd2 sl sl2 (by simp [hv])) ⟨ho,ho2,?_⟩
  exact⟨.ref b,H,I,rfl,q b H (Ab.refl _) (by rw [e];exact hb)⟩
 ·by_cases hw:its2=[]
  ·have e:ys=[]:=by subst hw;cases r2;rfl
   refine concat_meets ⟨_,ho,rfl⟩ ⟨_,ho2,rfl⟩ noFill_tuple_add seq_tuple_add PySem.F.slot_tuple_add PySem.F.entry_tuple_add (PySem.F.args_tuple_add_2 _ _) (tuple_addW1 a b its.toArray its2.toArray n n2 dd dd2 sl sl2 (by simpa using hv) (by simp [hw])) ⟨ho,ho2,?_⟩
   exact⟨.ref a,H,I,rfl,q a H (Ab.refl _) (by rw [e,List.append_nil];exact ha)⟩
  ·refine concat_meets ⟨_,ho,rfl⟩ ⟨_,ho2,rfl⟩ noFill_tuple_add seq_tuple_add PySem.F.slot_tuple_add PySem.F.entry_tuple_add (PySem.F.args_tuple_add_2 _ _)
    (tuple_addW2 a b its.toArray its2.toArray n n2 dd dd2 sl sl2 (by simpa using hv) (by simpa using hw) (by rw [List.size_toArray,List.size_toArray];omega)) ⟨ho,ho2,?_⟩
   have e:its.toArray++its2.toArray=(its++its2).toArray:=by simp
   rw [e]
   exact I.gotNew (t':=s.toks) q (r1.append r2) (by rw [List.length_append];omega)
theorem OX {t sl:Addr}{items:Array Value}{vl vu:Value}{lo hi:Option Int}{Q:Value->Shared->Prop}{prog:Program}{w:World}{A:Around}{E:Value->Shared->Prop}{s:Shared} (ht:IsTup s.heap t items) (hs:s.heap.IsSliceOf sl vl vu .none) (pl:IsPart vl lo) (pu:IsPart vu hi)
  (hw:HT.sIx items.size 0 lo=0/\HT.sIx items.size items.size hi=items.size) (h:Q (.ref t) s):wpAny (model prog w) A (getItem (.ref t) (.ref sl)) Q E s:=by
 obtain⟨os,hos,hcs,hds⟩:=id hs
 have hTs:s.TypeIs (.ref sl) "slice" :=⟨os,hos,hcs⟩
 unfold getItem
 try with_reducible refine wpAny_holding ?_
 first | refine wpAny_bind (wpAny_pure ?_) | skip
 refine wpAny_bind (wpAny_sequenceKey ht.typeIs (by decide) ?_)
 refine wpAny_bind (wpAny_callSpecial?_slot (name:=Str.ofString "__getitem__") ht.typeIs PyProof.Rows.slot_tuple_getitem (wpAny_call_entry PyProof.Rows.slot_tuple_getitem ht.typeIs entry_tuple_getitem ?_ (args_tuple_getitem _ _)))
 show wpAny _ _ (Builtin.Tuple.tupleItemsOf (.ref t) >>=_) _ _ s;refine wpAny_bind (tupleItemsOf_ ht ?_);refine wpAny_bind (wpAny_typeOf hTs ?_);rw [if_pos (by decide)]
 refine wpAny_bind (HT.sliceApplied_gen hs pl pu ?_)
 rw [hw.1,hw.2]
 show wpAny _ _ (if (((0:Nat):Int)==0 &&(1:Int)==1 &&(items.size-0)==items.size)=true then _ else _) _ _ s
 rw [if_pos (by simp)]
 refine wpAny_bind (m:=Builtin.Tuple.tupleIsExact _) ?_
 unfold Builtin.Tuple.tupleIsExact
 refine wpAny_bind (wpAny_typeOf ht.typeIs (wpAny_pure ?_))
 rw [if_pos (by decide)]
 exact wpAny_bind (wpAny_rule (wpAny_pure ⟨_,rfl,wpAny_pure h⟩))
def OY:V->Option Int->Option Int->Hp->VK->Prop:=λx lo hi H Q=>∃a xs,x= .ref a/\H a=some (.tup xs)/\En H (Bq xs lo hi) Q
theorem s_tup:F6 X OY:=by
 intro pins s σ H x v vl vu lo hi sl Q I rx hs pl pu h
 obtain⟨a,xs,rfl,ha,q⟩:=h
 cases rx
 obtain⟨its,r,ht,hz⟩:=I.tuple (Ac.of ha)
 have hlen:its.toArray.size=xs.length:=by rw [List.size_toArray];exact r.length.symm
 refine⟨"tuple",_,PyProof.Rows.slot_tuple_getitem.lookup,ht.typeIs,?_⟩
 by_cases hw:HT.sIx xs.length 0 lo=0/\HT.sIx xs.length xs.length hi=xs.length
 ·refine OX ht hs pl pu (by rw [hlen];exact hw) ⟨.ref a,H,I,rfl,q a H (Ab.refl _) ?_⟩
  unfold Bq
  rw [hw.1,hw.2,List.drop_zero,Nat.sub_zero,List.take_length]
  exact ha
 ·refine HT.getItem_tuple_cut ht hs pl pu (by rw [hlen];exact hw) ?_ (by rw [hlen];exact hz)
  rw [hlen]
  have e:its.toArray.toList=its:=rfl
  rw [e]
  exact I.gotNew (t':=s.toks) q ((r.drop _).take _) (Nat.le_trans (F7 xs lo hi) hz)
theorem KQ:fillsNumberSlot (.type "tuple") "mul"=pure false:=
 PySem.fillsNumberSlot_seq (id:="tuple.__mul__") (r:=some (.builtin "tuple.__rmul__")) F.slot_tuple_mul.lookup (by decide+kernel) F.slot_tuple_rmul.lookup (by decide+kernel)
theorem KR:seqRepeat? (.type "tuple")=pure (some (.builtin "tuple.__mul__")):=by
 unfold seqRepeat?;rw [PySem.seqSlot_of (T:="tuple") (name:="__mul__") (id:="tuple.__mul__") F.slot_tuple_mul.lookup (by decide+kernel),PySem.seqSlot_of (T:="tuple") (name:="__rmul__") (id:="tuple.__rmul__") F.slot_tuple_rmul.lookup (by decide+kernel)];rfl
theorem KS (a:Int) (t:Tok) (l:Addr) (items:Array Value) (n:Nat) (dd:Option Addr) (sl:Array (Option Value)):
  Meets (Builtin.«int.__rmul__» ⟨[.int a t,.ref l],[]⟩) (λ_ R s=>s.heap.get? l=some { cls:= .type "tuple",dict:=dd,data:= .seq items n,slots:=sl}/\R (.ok (.ret Value.notImplemented)) s):=
 .of_wp λprog w A R s h=>by obtain⟨hp,g,d,tk,os⟩:=s;obtain⟨hl,h⟩:=h;wp_walk using wpAny_loadPart' hl;exact⟨_,rfl,h⟩
theorem OZ (l:Addr) (items:Array Value) (n:Nat) (dd:Option Addr) (sl:Array (Option Value)) (x:Int) (u:Tok) (hc0:¬(decide (x< -(2 ^ 63)) || decide (x≥2 ^ 63))=true) (hc1:¬(items.isEmpty || x==1)=true) (hc2:¬(decide (x<=0) || items.isEmpty)=true)
  (hc3:¬(items.size:Int) * x>(2 ^ 63-1)/ 8) (hc4:¬Builtin.Tuple.tupleTooMany ((items.size:Int) * x)=true) (hsz:sizeOk (.seq ((List.replicate x.toNat items).foldl (λa b=>a++b) #[]))):
  Meets (Builtin.«tuple.__mul__» ⟨[.ref l,.int x u],[]⟩) (λ_ R s=>s.heap.get? l=some { cls:= .type "tuple",dict:=dd,data:= .seq items n,slots:=sl}/\R (.ok (.ret (Value.ref s.heap.objs.size))) { s with heap:=s.heap.push { cls:=Value.type "tuple",data:=Data.seq ((List.replicate x.toNat items).foldl (λa b=>a++b) #[])}}):=
 .of_wp λprog w A R s h=>by
  obtain⟨hp,g,d,tk,os⟩:=s;obtain⟨hl,h⟩:=h;have f1:=AutoSeq1.idx_int;have f2:=AutoSeq1.sub_tuple_tuple
  wp_walk using wpAny_loadPart' hl
  rw [if_neg hc0]
  refine wpAny_bind (tupleItemsOf_ (items:=items) ⟨_,hl,rfl,n,rfl⟩ ?_)
  dsimp only
  rw [if_neg hc1,if_neg hc2,if_neg hc3,if_neg hc4]
  exact wpAny_bind (m:=Builtin.Tuple.tupleExact _) (wpAny_newObj_type (wpAny_pure ⟨_,rfl,h⟩) hsz)
def O0:R2:=λx y H Q=>∃a k xs,x= .ref a/\y= .int k/\H a=some (.tup xs)/\xs≠ []/\2<=k/\k<=100/\xs.length<=100/\En H (List.replicate k.toNat xs).flatten Q
theorem O1:OpR X (binaryOp .Mult) O0:=by
  intro pins s σ H x y v u Q I rx ry h
  obtain⟨a,k,xs,rfl,rfl,ha,hx,h1,h2,h3,q⟩:=h
  cases rx
  obtain⟨t,rfl⟩:=ry
  obtain⟨its,r,ht,hz⟩:=I.tuple (Ac.of ha)
  obtain⟨⟨cls,dd,data,sl⟩,ho,hc,n,hd⟩:=id ht;simp only at hc hd;subst hc hd
  have hl:=r.length
  refine wpAny_binaryOp_repeat_ref (T:="tuple") (U:="int") (by decide) ⟨_,ho,rfl⟩ (λs'=>typeIs_int s' k t) KQ F.fills_int_mul F.slot_int_rmul KR F.slot_int_index.lookup
    (call_meets F.slot_int_rmul (typeIs_int s k t) F.entry_int_rmul (F.args_int_rmul_2 _ _) (KS k t a its.toArray n dd sl) ⟨ho,rfl,⟨_,ho,rfl⟩,?_⟩)
  have hx':¬its.toArray.isEmpty=true:=by
    intro z
    have z':its=[]:=by simpa using z
    subst z';cases r;exact hx rfl
  have fl:(List.replicate k.toNat its.toArray).foldl (λa b=>a++b) #[]=(List.replicate k.toNat its).flatten.toArray:=by
    have:=Ks its k.toNat []
    rw [List.nil_append] at this
    exact this
  have hp1:(its.length:Int) * k<=100 * 100:=Int.mul_le_mul (by omega) (by omega) (by omega) (by omega)
  have hlen:(List.replicate k.toNat its).flatten.length<=10000:=by
    rw [Ku]
    have:k.toNat * its.length<=100 * 100:=Nat.mul_le_mul (by omega) (by omega)
    omega
  have hbig:(10000:Nat)<=sizeLine:=by decide
  refine call_meets F.slot_tuple_mul ⟨_,ho,rfl⟩ F.entry_tuple_mul (F.args_tuple_mul_2 _ _) (OZ a its.toArray n dd sl k t (by simp;omega) (by simp only [hx',Bool.false_or];simp;omega) (by simp only [hx',Bool.or_false];simp;omega) (by rw [List.size_toArray];omega)
    (by unfold Builtin.Tuple.tupleTooMany; rw [List.size_toArray]; simp; have : (sizeLine : Int) = 16777216 := by decide
        omega) (by rw [fl];show(List.replicate k.toNat its).flatten.toArray.size<=sizeLine;rw [List.size_toArray];omega)) ⟨ho,?_⟩
  rw [fl]
  exact I.gotNew (t':=s.toks) q (r.rep k.toNat) (by rw [Ku] at hlen ⊢;rw [hl];omega)
end
end L2
end
section
namespace L2
open PySem PySem.Spec PyProof.Rows
open AutoSeq1 (wpAny_loadPart')
section
variable {X : Cx}
theorem O2 {sl:Addr}{t:Tok}{n:Nat}{Q:Int×Int×Nat->Shared->Prop}{prog:Program}{w:World}{A:Around}{E:Value->Shared->Prop}{s:Shared} (hs:s.heap.IsSliceOf sl .none .none (.int (-1) t))
  (h:Q ((n:Int)-1,-1,n) s):wpAny (model prog w) A (Builtin.Slice.sliceApplied (.ref sl) (pure (n:Int))) Q E s:=by
 obtain⟨os,hos,hcs,hds⟩:=id hs
 unfold Builtin.Slice.sliceApplied Builtin.Slice.sliceFields
 refine wpAny_bind (wpAny_bind (wpAny_field hos hds (x:= .none) rfl (wpAny_bind (wpAny_field hos hds (x:= .none) rfl (wpAny_bind (wpAny_field hos hds (x:= .int (-1) t) rfl (wpAny_pure ?_)))))))
 refine wpAny_bind (slicePart_int ?_)
 show wpAny _ _ (if ((-1:Int)==0)=true then _ else _) _ _ s
 rw [if_neg (by decide)]
 refine wpAny_bind (slicePart_none (wpAny_bind (slicePart_none (wpAny_bind (wpAny_pure ?_)))))
 show wpAny _ _ (pure (((n:Int)-1),(-1:Int),Builtin.Slice.slicePlaces ((n:Int)-1) (-1) (-1))) _ _ s
 have e:Builtin.Slice.slicePlaces ((n:Int)-1) (-1) (-1)=n:=by
  unfold Builtin.Slice.slicePlaces
  rw [if_neg (by decide)]
  split<;>simp<;>omega
 rw [e]
 exact wpAny_pure h
theorem KT {α β:Type}{f g:α->Option β}:∀(l:List α),(∀k∈l,f k=g k)->l.filterMap f=l.filterMap g
 | [],_=>rfl
 | a::l,h=>by
  rw [List.filterMap_cons,List.filterMap_cons,h a List.mem_cons_self,KT l λk hk=>h k (List.mem_cons_of_mem _ hk)]
theorem O3 (xs:List Value):((List.range xs.length).filterMap fun(k:Nat)=>xs.toArray[(((xs.length:Int)-1)+(k:Int) *(-1)).toNat]?).toArray=xs.reverse.toArray:=by
 have e:∀k∈List.range xs.length,(fun(k:Nat)=>xs.toArray[(((xs.length:Int)-1)+(k:Int) *(-1)).toNat]?) k=xs.reverse[k]? :=λk hk=>by
  have hk':=List.mem_range.mp hk
  have:(((xs.length:Int)-1)+(k:Int) *(-1)).toNat=xs.length-1-k:=by omega
  dsimp only
  rw [this,List.getElem?_reverse hk']
  simp
 rw [KT _ e]
 congr 1
 have gen:∀(l:List Value) (n:Nat),n<=l.length->(List.range n).filterMap (λk=>l[k]?)=l.take n:=λl n=>by
  induction n with
  | zero=>intro _;simp
  | succ n ih=>
   intro hn
   rw [List.range_succ,List.filterMap_append,ih (by omega),List.take_add_one]
   rw [List.getElem?_eq_getElem (by omega)]
   simp [List.getElem?_eq_getElem (show n<l.length by omega)]
 have this:∀(l:List Value),(List.range l.length).filterMap (λk=>l[k]?)=l:=λl=>by rw [gen l l.length (Nat.le_refl _),List.take_length]
 have:=this xs.reverse
 rw [List.length_reverse] at this
 exact this
def O4 (te:TE):TE:=fun σ H Q=>te σ H λx H1=>∃a xs,x= .ref a/\H1 a=some (.tup xs)/\En H1 xs.reverse Q
theorem O5 {e st:Expr}{te:TE}{p2 pos:Pos} (he:PE X e te) (hst:PE X st (tC (.int (-1)))):PE X (.Subscript e (.Slice none none (some st) p2) pos) (O4 te):=by
 intro pins s σ H Q I h
 refine Subscript_ (Av (he pins s σ H _ I h) λv s1 ⟨x,H1,I1,r1,a,xs,ex,ha,q⟩=>?_)
 subst ex
 cases r1
 refine wpAny_Slice ?_
 rw [evalPart_none]
 refine wpAny_pure (wpAny_pure ?_)
 rw [evalPart_some]
 refine Av (hst pins s1 σ H1 (λv H'=>v= .int (-1)/\H'=H1) I1 ⟨rfl,rfl⟩) λu s3 ⟨y,H3,I3,r3,ey,eH⟩=>?_
 subst ey eH
 obtain⟨t,rfl⟩:=r3
 have I4:Ae X pins σ H3 { s3 with heap:=s3.heap.push { cls:= .type "slice",data:= .fields #[.none,.none,.int (-1) t]}}:=I3.kept (t':=s3.toks) λb ob q=>Heap.get?_push_of_some _ q
 generalize hs4:({ s3 with heap:=s3.heap.push { cls:= .type "slice",data:= .fields #[.none,.none,.int (-1) t]}}:Shared)=s4 at I4
 have hsl:s4.heap.IsSliceOf s3.heap.objs.size .none .none (.int (-1) t):=by rw [<-hs4];exact Heap.IsSliceOf.new ..
 obtain⟨its,r,ht,hz⟩:=I4.tuple (Ac.of ha)
 obtain⟨os,hos,hcs,hds⟩:=id hsl
 have hTs:s4.TypeIs (.ref s3.heap.objs.size) "slice" :=⟨os,hos,hcs⟩
 show wpAny (model X.prog X.w) X.A (subscriptTail e (.Slice none none (some st) p2) (.ref a) (.ref s3.heap.objs.size)) (EP X pins σ Q) X.xe s4
 refine tail_any (ops:=[.ref a,.ref s3.heap.objs.size]) ht.typeIs PyProof.Rows.slot_tuple_getitem.lookup ?_ (by with_unfolding_all rfl)
 unfold getItem
 try with_reducible refine wpAny_holding ?_
 first | refine wpAny_bind (wpAny_pure ?_) | skip
 refine wpAny_bind (wpAny_sequenceKey ht.typeIs (by decide) ?_)
 refine wpAny_bind (wpAny_callSpecial?_slot (name:=Str.ofString "__getitem__") ht.typeIs PyProof.Rows.slot_tuple_getitem (wpAny_call_entry PyProof.Rows.slot_tuple_getitem ht.typeIs entry_tuple_getitem ?_ (args_tuple_getitem _ _)))
 show wpAny _ _ (Builtin.Tuple.tupleItemsOf (.ref a) >>=_) _ _ s4;refine wpAny_bind (tupleItemsOf_ ht ?_);refine wpAny_bind (wpAny_typeOf hTs ?_);rw [if_pos (by decide)]
 have el:its.toArray.size=its.length:=by simp
 rw [el]
 refine wpAny_bind (O2 hsl ?_)
 show wpAny _ _ (if (((its.length:Int)-1)==0 &&(-1:Int)==1 && its.length==its.length)=true then _ else _) _ _ s4
 rw [if_neg (by simp),O3]
 have htake:sizeOk (.seq its.reverse.toArray):=by
  show its.reverse.toArray.size<=sizeLine
  have:=r.length
  simp;omega
 have fin:EP X pins σ Q (.ref s4.heap.objs.size) { s4 with heap:=s4.heap.push { cls:= .type "tuple",data:= .seq its.reverse.toArray}}:=I4.gotNew (t':=s4.toks) q r.reverse (by rw [List.length_reverse];exact hz)
 first
  | exact wpAny_bind (m:=Builtin.Tuple.tupleExact _) (wpAny_newObj_type (wpAny_pure ⟨_,rfl,wpAny_pure fin⟩) htake)
  | exact wpAny_bind (m:=Builtin.Tuple.tupleExact _) (wpAny_newObj_type (wpAny_bind (wpAny_pure (wpAny_pure ⟨_,rfl,wpAny_pure fin⟩))) htake)
  | exact wpAny_bind (wpAny_bind (m:=Builtin.Tuple.tupleExact _) (wpAny_newObj_type (wpAny_pure (wpAny_pure ⟨_,rfl,wpAny_pure fin⟩)) htake))
theorem O6 (hu:X.A.units<cLine):OpR X (compareOp .NotEq) (λx y H Q=>∃(a b:Addr) (ns ms:List Int),x= .ref a/\y= .ref b/\H a=some (.lst (ns.map V.int))/\H b=some (.lst (ms.map V.int))/\ns.length=ms.length/\Q (.bl (!decide (ns=ms))) H):=by
 intro pins s σ H x y v u Q I rx ry h
 obtain⟨a,b,ns,ms,rfl,rfl,ha,hb,hn,q⟩:=h
 cases rx;cases ry
 obtain⟨its,r1,p1,_⟩:=I.list (Ai.of ha)
 obtain⟨its2,r2,p2,_⟩:=I.list (Ai.of hb)
 have l1:=r1.length;have l2:=r2.length
 rw [List.length_map] at l1 l2
 refine SeqAt.RcNeAt.lists (e:=λj=>ns.getD j 0==ms.getD j 0) p1.isList p2.isList (by simp;omega) hu (λj h1 h2=>?_) _ _ _ _ (AW I q ?_)
 ·have j1:j<ns.length:=by simp at h1;omega
  have j2:j<ms.length:=by omega
  obtain⟨u1,e1,q1⟩:=r1.get (i:=j) (x:= .int ns[j]) (by simp [j1])
  obtain⟨u2,e2,q2⟩:=r2.get (i:=j) (x:= .int ms[j]) (by simp [j2])
  obtain⟨t1,rfl⟩:=q1;obtain⟨t2,rfl⟩:=q2
  have g1:its.toArray[j]=Value.int ns[j] t1:=by have:=(List.getElem?_eq_some_iff.mp e1).2;simpa using this
  have g2:its2.toArray[j]=Value.int ms[j] t2:=by have:=(List.getElem?_eq_some_iff.mp e2).2;simpa using this
  rw [g1,g2,List.getD_eq_getElem?_getD,List.getD_eq_getElem?_getD,List.getElem?_eq_getElem j1,List.getElem?_eq_getElem j2]
  exact λprog w E Q hq=>wpAny_eqBool_int hq
 ·have e:(List.range its.toArray.size).all (λj=>ns.getD j 0==ms.getD j 0)=decide (ns=ms):=by
   rw [List.size_toArray,<-l1,Bool.eq_iff_iff]
   simp only [List.all_eq_true,List.mem_range,beq_iff_eq,decide_eq_true_eq]
   constructor
   ·intro h
    apply List.ext_getElem hn
    intro i h1 h2
    have:=h i h1
    rw [List.getD_eq_getElem?_getD,List.getD_eq_getElem?_getD,List.getElem?_eq_getElem h1,List.getElem?_eq_getElem h2] at this
    exact this
   ·intro h i _;rw [h]
  rw [e]
theorem O7 (hu:X.A.units<cLine):OpR X (compareOp .NotEq) (λx y H Q=>∃(a b:Addr) (xs:List V),x= .ref a/\y= .ref b/\H a=some (.tup xs)/\H b=some (.tup [])/\Q (.bl (!xs.isEmpty)) H):=by
 intro pins s σ H x y v u Q I rx ry h
 obtain⟨a,b,xs,rfl,rfl,ha,hb,q⟩:=h
 cases rx;cases ry
 obtain⟨its,r1,p1,_⟩:=I.tuple (Ac.of ha)
 obtain⟨its2,r2,p2,_⟩:=I.tuple (Ac.of hb)
 cases r2
 refine SeqAt.RcNeAt.tuples (e:=λ_=>true) p1 p2 hu (λj h1 h2=>absurd h2 (by simp)) _ _ _ _ (AW I q ?_)
 cases r1 with
 | nil=>rfl
 | cons r t=>simp
def O8:TE:=λ_ H Q=>∀p,H p=none->Q (.ref p) (upd H p (.dK []))
def O9:TE:=λ_ H Q=>∀p,H p=none->Q (.ref p) (upd H p (.dK [(.inl 0,.int 1)]))
def KU:List (PyData×PyData)->Nat | []=>2 | [(.int i,.int j)]=>if i=0/\j=1 then 6 else 10 ^ 9 | _=>10 ^ 9
mutual
def Ck:PyData->Nat
 | .none=>4 | .bool _=>5 | .int i=>if i.natAbs<10 ^ 31 then 40 else 10 ^ 9 | .str x=>(reprText x).length
 | .tuple ds=>Du ds+4 | .list ds=>Du ds+4 | .dict kvs=>KU kvs
def Du:List PyData->Nat
 | []=>0
 | d::ds=>Ck d+2+Du ds
end
end
end L2
end
section
namespace L2
open PySem PySem.Spec PyProof.Rows
variable {i : Int} {p : Addr}
theorem KW:∀(ts:List Str) (k:Nat) (acc:Str),(textFrom k acc ts).length<=acc.length+piled ts
 | [],k,acc=>by show acc.length<=_;omega
 | t::ts,k,acc=>by
  have ih:=KW ts
  unfold textFrom
  rw [PySem.piled_cons]
  refine Nat.le_trans (ih _ _) ?_
  have e:(acc++(if k>0 then", " else"" :String)++t).length=acc.length+(if k>0 then 2 else 0)+t.length:=by
   rw [strLen_append,strLen_append]
   split<;>rfl
  rw [e]
  split<;>omega
theorem Pa (ts:List Str):(listText ts).length<=piled ts+2:=by
 unfold listText
 rw [strLen_append]
 have:=KW ts 0 "["
 have e1:(Str.ofString "[").length=1:=rfl
 have e2:(Str.ofString "]").length=1:=rfl
 omega
theorem Pb (ts:List Str):(tupleText ts).length<=piled ts+4:=by
 unfold tupleText
 rw [strLen_append,strLen_append]
 have e1:(Str.ofString "(").length=1:=rfl
 have e2:(Str.ofString (if (ts.length==1)=true then",)" else")")).length<=2:=by
  split
  ·exact Nat.le_refl 2
  ·exact Nat.le_succ 1
 have e3:(Str.join (Str.ofString ", ") ts).length<=piled ts:=by
  cases ts with
  | nil=>exact Nat.zero_le _
  | cons a r=>have:=join_length_add (a::r) (by simp);omega
 omega
theorem Pc (h:i.natAbs<10 ^ 31):(Str.ofString (toString i)).length<=40:=by
 have h1:=int_text_length_le10 (a:=i) (k:=31) (by decide) h
 have h2:(Str.ofString (toString i)).length=(toString i).length:=by rw [PySem.ofString_length]
 omega
theorem Pd (h:i.natAbs<10 ^ 31):i.natAbs.log2<1920:=by
 by_cases z:i.natAbs=0
 ·rw [z];decide
 ·exact Nat.lt_trans ((Nat.log2_lt z).mpr (Nat.lt_trans h (show 10 ^ 31<2 ^ 120 by decide))) (by decide)
mutual
theorem KY:∀d:PyData,Ck d<10 ^ 9->d.showable=true/\d.shown.length<=Ck d
 | .none,_=>⟨rfl,by show 4<=4;decide⟩
 | .bool b,_=>⟨rfl,by cases b<;>(unfold PyData.shown Ck;decide)⟩
 | .int i,h=>by
  unfold Ck at h ⊢
  by_cases c:i.natAbs<10 ^ 31
  ·rw [if_pos c]
   refine⟨?_,?_⟩
   ·unfold PyData.showable;exact decide_eq_true (Pd c)
   ·unfold PyData.shown;exact Pc c
  ·rw [if_neg c] at h;exact absurd h (Nat.lt_irrefl _)
 | .str x,h=>⟨rfl,by unfold PyData.shown Ck;exact Nat.le_refl _⟩
 | .tuple ds,h=>by
  unfold Ck at h ⊢
  obtain⟨a,b⟩:=IT ds (by omega)
  refine⟨by unfold PyData.showable;exact a,?_⟩
  unfold PyData.shown
  exact Nat.le_trans (Pb _) (by omega)
 | .list ds,h=>by
  unfold Ck at h ⊢
  obtain⟨a,b⟩:=IT ds (by omega)
  refine⟨by unfold PyData.showable;exact a,?_⟩
  unfold PyData.shown
  exact Nat.le_trans (Pa _) (by omega)
 | .dict kvs,h=>by
  unfold Ck at h
  unfold KU at h
  split at h
  ·exact⟨rfl,by decide+kernel⟩
  ·split at h
   ·rename_i i j c
    obtain⟨rfl,rfl⟩:=c
    exact⟨by decide+kernel,by decide+kernel⟩
   ·exact absurd h (Nat.lt_irrefl _)
  ·exact absurd h (Nat.lt_irrefl _)
theorem IT:∀ds:List PyData,Du ds<10 ^ 9->PyData.showableAll ds=true/\piled (PyData.shownAll ds)<=Du ds
 | [],_=>⟨rfl,by decide⟩
 | d::ds,h=>by
  unfold Du at h ⊢
  obtain⟨a,b⟩:=KY d (by omega)
  obtain⟨a',b'⟩:=IT ds (by omega)
  refine⟨by unfold PyData.showableAll;rw [a,a'];rfl,?_⟩
  unfold PyData.shownAll
  rw [PySem.piled_cons]
  omega
end
section
variable {X : Cx} {pins : List (Addr × Obj)} {σ : St} {H : Hp} {s : Shared}
mutual
theorem Aa.reads (I:Ae X pins σ H s):∀(d:PyData) (v:V) (u:Value),d.hasDict=false->Aa p H d v->AH v u->∃as,Reads s.heap u d as
 | .none,v,u,_,r,q=>by unfold Aa at r;subst r;cases q;exact⟨_,.none⟩
 | .bool b,v,u,_,r,q=>by unfold Aa at r;subst r;cases q;exact⟨_,.bool b⟩
 | .int i,v,u,_,r,q=>by unfold Aa at r;subst r;obtain⟨t,rfl⟩:=q;exact⟨_,.int i t⟩
 | .str x,v,u,_,r,q=>by unfold Aa at r;subst r;obtain⟨t,rfl⟩:=q;exact⟨_,.str x t⟩
 | .tuple ds,v,u,hd,r,q=>by
  unfold Aa at r
  obtain⟨a,xs,rfl,ha,rs⟩:=r
  cases q
  obtain⟨its,rv,⟨o,ho,hc,n,hdt⟩,_⟩:=I.tuple (Ac.of ha)
  obtain⟨as,ra⟩:=Ad.reads I ds xs its (by unfold PyData.hasDict at hd;exact hd) rs rv
  exact⟨as,.tuple ho hc hdt ra⟩
 | .list ds,v,u,hd,r,q=>by
  unfold Aa at r
  obtain⟨a,xs,rfl,_,ha,rs⟩:=r
  cases q
  obtain⟨its,rv,⟨o,n,ho,hc,_,hdt⟩,_⟩:=I.list (Ai.of ha)
  obtain⟨as,ra⟩:=Ad.reads I ds xs its (by unfold PyData.hasDict at hd;exact hd) rs rv
  exact⟨a::as,.list ho hc hdt ra⟩
 | .dict kvs,v,u,hd,_,_=>by unfold PyData.hasDict at hd;cases hd
theorem Ad.reads (I:Ae X pins σ H s):∀(ds:List PyData) (xs:List V) (us:List Value),PyData.hasDictAll ds=false->Ad p H ds xs->Ar xs us->∃as,ReadsAll s.heap us ds as
 | [],xs,us,_,r,q=>by unfold Ad at r;subst r;cases q;exact⟨_,.nil⟩
 | d::ds,xs,us,hd,r,q=>by
  unfold Ad at r
  obtain⟨x,t,rfl,rx,rt⟩:=r
  unfold PyData.hasDictAll at hd
  obtain⟨h1,h2⟩:=Bool.or_eq_false_iff.mp hd
  cases q with
  | cons q1 q2=>
   obtain⟨as,ra⟩:=Aa.reads I d x _ h1 rx q1
   obtain⟨bs,rb⟩:=Ad.reads I ds t _ h2 rt q2
   exact⟨as++bs,.cons ra rb⟩
end
mutual
def Fj:PyData->Bool
 | .list _=>false | .tuple ds=>Gk ds | .none=>true | .bool _=>true | .int _=>true | .str _=>true | .dict _=>true
def Gk:List PyData->Bool
 | []=>true
 | d::ds=>Fj d && Gk ds
end
mutual
theorem Aa.readsD (I:Ae X pins σ H s):∀(d:PyData) (v:V) (u:Value),Fj d=true->Aa p H d v->AH v u->∃as,Reads s.heap u d as/\¬sysModules∈as
 | .none,v,u,_,r,q=>by unfold Aa at r;subst r;cases q;exact⟨_,.none,List.not_mem_nil⟩
 | .bool b,v,u,_,r,q=>by unfold Aa at r;subst r;cases q;exact⟨_,.bool b,List.not_mem_nil⟩
 | .int i,v,u,_,r,q=>by unfold Aa at r;subst r;obtain⟨t,rfl⟩:=q;exact⟨_,.int i t,List.not_mem_nil⟩
 | .str x,v,u,_,r,q=>by unfold Aa at r;subst r;obtain⟨t,rfl⟩:=q;exact⟨_,.str x t,List.not_mem_nil⟩
 | .tuple ds,v,u,hd,r,q=>by
  unfold Aa at r
  obtain⟨a,xs,rfl,ha,rs⟩:=r
  cases q
  obtain⟨its,rv,⟨o,ho,hc,n,hdt⟩,_⟩:=I.tuple (Ac.of ha)
  obtain⟨as,ra,hn⟩:=Ad.readsD I ds xs its (by unfold Fj at hd;exact hd) rs rv
  exact⟨as,.tuple ho hc hdt ra,hn⟩
 | .list ds,v,u,hd,r,q=>by unfold Fj at hd;cases hd
 | .dict kvs,v,u,hd,r,q=>by
  unfold Aa at r
  obtain⟨a,ks,rfl,_,dk,hb⟩:=r
  cases q
  obtain⟨_,hne,vs,kv,o,es,ep,ho,hx,hdt,hl0,hl,hll⟩:=I.hok a _ hb
  have hsm:sysModules≠a:=λe=>by rw [<-e] at hne;simp at hne
  rcases dk with⟨rfl,rfl⟩ | ⟨rfl,rfl⟩
  ·cases kv
   have hes:es.toList=[]:=by
    generalize es.toList=l at hl
    cases hl;rfl
   exact⟨a::[]++[],.dict ho hx.1 hdt (by rw [hes];exact .nil) (by rw [hes];exact .nil),by simpa using hsm⟩
  ·cases kv with
   | cons h1 t1=>
    cases t1
    obtain⟨e1,e2⟩:=h1
    generalize hes:es.toList=l at hl
    cases hl with
    | cons k1 k2 k3=>
     cases k3
     rename_i kv' e
     have k1':HZ (.inl 0) e.key=true:=by
      have e1':(Sum.inl 0:Bx)=kv'.1:=e1
      rw [e1'];exact k1
     obtain⟨t,ht⟩:∃t,e.key=Value.int 0 t:=by
      rcases C6 k1' with⟨i,t,h,h'⟩ | ⟨x,t,h,_⟩
      ·cases h;exact⟨t,h'⟩
      ·cases h
     obtain⟨t1,ht1⟩:∃t,kv'.2=Value.int 1 t:=e2
     refine⟨a::([]++[])++([]++[]),.dict (kvs:=[(.int 0,.int 1)]) ho hx.1 hdt ?_ ?_,by simpa using hsm⟩
     ·rw [hes]
      show ReadsAll _ [e.key] [.int 0] _
      rw [ht]
      exact .cons (.int 0 t) .nil
     ·rw [hes]
      show ReadsAll _ [e.val] [.int 1] _
      rw [k2,ht1]
      exact .cons (.int 1 t1) .nil
theorem Ad.readsD (I:Ae X pins σ H s):∀(ds:List PyData) (xs:List V) (us:List Value),Gk ds=true->Ad p H ds xs->Ar xs us->∃as,ReadsAll s.heap us ds as/\¬sysModules∈as
 | [],xs,us,_,r,q=>by unfold Ad at r;subst r;cases q;exact⟨_,.nil,List.not_mem_nil⟩
 | d::ds,xs,us,hd,r,q=>by
  unfold Ad at r
  obtain⟨x,t,rfl,rx,rt⟩:=r
  unfold Gk at hd
  obtain⟨h1,h2⟩:=(Bool.and_eq_true _ _).mp hd
  cases q with
  | cons q1 q2=>
   obtain⟨as,ra,ha⟩:=Aa.readsD I d x _ h1 rx q1
   obtain⟨bs,rb,hb⟩:=Ad.readsD I ds t _ h2 rt q2
   exact⟨as++bs,.cons ra rb,λz=>(List.mem_append.mp z).elim ha hb⟩
end
structure Fk (d:PyData):Prop where
 w:Ck d<=1000000
 dp:d.depth<=20
 nd:d.hasDict=false\/Fj d=true
def KZ:List V->Hp->VK->Prop:=λxs H Q=>match xs with | [v]=>∃p d,Aa p H d v/\Fk d/\Q (.str d.shown) H | _=>False
theorem Gm {k:Nat} (hr:Bo k X.A):BH X (.builtin "repr") KZ:=by
 intro pins s σ H xs us Q I r h
 unfold KZ at h
 split at h
 ·rename_i v
  obtain⟨p,d,rd,nd,q⟩:=h
  obtain⟨u,rfl,ru⟩:=r.one
  obtain⟨sh,sl⟩:=KY d (Nat.lt_of_le_of_lt nd.w (by decide))
  have big:(1000000:Nat)<=sizeLine:=by decide
  have hsz:d.shown.length<=sizeLine:=Nat.le_trans sl (Nat.le_trans nd.w big)
  have un:=hr.un
  have fin:∀h' tk t,(∀b o,s.heap.get? b=some o->h'.get? b=some o)->EP X pins σ Q (.str d.shown t) { s with heap:=h',toks:=tk}:=λh' tk t hk=>⟨.str d.shown,H,I.kept hk,⟨t,rfl⟩,q⟩
  have isref:∀a,u= .ref a->wpAny (model X.prog X.w) X.A (call (.builtin "repr") [u]) (EP X pins σ Q) X.xe s:=λa e=>by
   subst e
   have dpt:X.A.units+(d.depth+1)<cLine:=by have:=nd.dp;omega
   rcases nd.nd with hd | hd
   ·obtain⟨as,ra⟩:=Aa.reads I d v _ hd rd ru
    exact repr_of_reads' ra sh (PyData.noDict_hsm hd) hr.gd dpt (λ_ _ e=>e) (λh' t tk hk=>fin h' tk t hk) hsz
   ·obtain⟨as,ra,hm⟩:=Aa.readsD I d v _ hd rd ru
    exact repr_of_reads' ra sh (λ_=>hm) hr.gd dpt (λ_ _ e=>e) (λh' t tk hk=>fin h' tk t hk) hsz
  cases d with
  | none=>unfold Aa at rd;subst rd;cases ru;exact PySem.P.repr_of_none (fin s.heap _ _ λ_ _ e=>e)
  | bool b=>unfold Aa at rd;subst rd;cases ru;exact PySem.P.repr_of_bool (by have:=fin s.heap (s.toks+1) s.toks λ_ _ e=>e;unfold PyData.shown at this;exact this)
  | int i=>
   unfold Aa at rd;subst rd;obtain⟨t,rfl⟩:=ru
   refine PySem.P.repr_of_int ?_ (by have:=fin s.heap (s.toks+1) s.toks λ_ _ e=>e;unfold PyData.shown at this;exact this)
   unfold PyData.showable at sh;exact of_decide_eq_true sh
  | str x=>
   unfold Aa at rd;subst rd;obtain⟨t,rfl⟩:=ru
   exact PySem.P.repr_of_str (by have:=fin s.heap (s.toks+1) s.toks λ_ _ e=>e;unfold PyData.shown at this;exact this) (by unfold PyData.shown at hsz;exact hsz)
  | tuple ds=>have rd':=rd;unfold Aa at rd';obtain⟨a,xs,rfl,_⟩:=rd';exact isref a ru
  | list ds=>have rd':=rd;unfold Aa at rd';obtain⟨a,xs,rfl,_⟩:=rd';exact isref a ru
  | dict kvs=>have rd':=rd;unfold Aa at rd';obtain⟨a,ks,rfl,_⟩:=rd';exact isref a ru
 ·exact h.elim
theorem Ae.big (I:Ae X pins σ H s):sysModules<s.heap.objs.size:=by
 have h:mainGlobals<s.heap.objs.size:=(I.mod.glob.keeps I.bk).lt
 exact Nat.lt_trans (by decide) h
theorem c_dict {pos:Pos}:PE X (.Dict [] [] pos) O8:=λpins s σ H Q I h=>
 wpAny_Dict_empty ⟨.ref s.heap.objs.size,_,I.laid (a:=s.heap.objs.size) (o:= .dK []) (t':=s.toks) (λ_ _ q=>Heap.get?_push_of_some _ q) (Nat.le_refl _) ⟨Nat.zero_le _,beq_eq_false_iff_ne.mpr (Ne.symm (Nat.ne_of_lt I.big)),[],.nil,Heap.DictOf.new s.heap⟩,rfl,h _ (I.hok.fresh (Nat.le_refl _))⟩
theorem c_dict1 {pos p1 p2:Pos}{j1 j2:Nat}:PE X (.Dict [some (.Constant (.int 0) j1 p1)] [.Constant (.int 1) j2 p2] pos) O9:=λpins s σ H Q I h=>by
 refine wpAny_Dict_walk (knd:=FV X.prog X.w) rfl rfl (by simp) (by show 1<=15;decide) ?_
 refine pairTrees_cons_walk (wpAny_Constant_int (wpAny_Constant_int (pairTrees_nil_walk ?_)))
 refine⟨[(.inl 0,_)],⟨rfl,rfl,trivial⟩,Heap.DictOf.new _,λh' hm hsb=>?_⟩
 ·exact⟨.ref s.heap.objs.size,_,I.laid (a:=s.heap.objs.size) (o:= .dK [(.inl 0,.int 1)]) (λb o e=>(hsb.2 b (Nat.ne_of_lt (Heap.lt_size e))).trans (Heap.get?_push_of_some _ e)) (Nat.le_refl _) ⟨by show 1<=sizeLine;decide,beq_eq_false_iff_ne.mpr (Ne.symm (Nat.ne_of_lt I.big)),_,.cons ⟨rfl,⟨_,rfl⟩⟩ .nil,hm⟩,rfl,h _ (I.hok.fresh (Nat.le_refl _))⟩
end
end L2
end
section
namespace L2
open PySem PySem.Spec PyProof.Rows
section
variable {X : Cx} {P : Program} {w : World}
theorem BS (K:PySem.W.Frag) (h:X.K=K:=by rfl):Fc X (Iv K):=h ▸ NN
theorem AF (K:PySem.W.Frag) (h:X.K=K:=by rfl):Fc X (Fd K):=h ▸ NO
theorem K0 (K:PySem.W.Frag) (h:X.K=K:=by rfl):F6 X (Kn K):=h ▸ NT
theorem DM (K:PySem.W.Frag) (h:X.K=K:=by rfl):OpR X (compareOp .In) (Kp K false):=h ▸ NV
def Pe (K:PySem.W.Frag):List V->Hp->VK->Prop:=λxs H Q=>∃p ys,xs=[.ref p]/\(Ai K H p ys\/Ac K H p ys)/\Q (.int (ys:List V).length) H
theorem AR (K:PySem.W.Frag) (h:X.K=K:=by rfl):BH X (.builtin "len") (Pe K):=h ▸ NW
def Pf (K:PySem.W.Frag):List V->Hp->VK->Prop:=λxs H Q=>∃p ys,xs=[.ref p]/\(Ai K H p ys\/Ac K H p ys)/\∀l,H l=none->Q (.ref l) (upd H l (.lst ys))
theorem Pg (K:PySem.W.Frag) (h:X.K=K:=by rfl):BH X (.type "list") (Pf K):=h ▸ NX
def Ph (K:PySem.W.Frag):List V->Hp->VK->Prop:=λxs H Q=>∃p ys,xs=[.ref p]/\((Ai K H p ys/\∀l,H l=none->Q (.ref l) (upd H l (.tup ys)))\/(Ac K H p ys/\Q (.ref p) H))
theorem BJ (K:PySem.W.Frag) (h:X.K=K:=by rfl):BH X (.type "tuple") (Ph K):=h ▸ NY
theorem AM (K:PySem.W.Frag) {es:List Expr}{k:Nat}{t:DG}{n:Nat}{pos:Pos} (h:E9 X es t) (hK:X.K=K:=by rfl) (hc:X.calm=true:=by rfl) (hn:(assignEach es X.env).length=n:=by rfl) (hst:(assignEach es X.env).findIdx? (·.1)=none:=by rfl):
  PG X (.Tuple es k pos) (JR K n t):=hK ▸ Nf hc h hn hst
theorem Dv (K:PySem.W.Frag) {tg l:Expr}{tl:TE} (hl:PE X l tl) (h:X.K=K:=by rfl):PI X tg l (JW K tl):=h ▸ No hl
theorem BK (K:PySem.W.Frag) {tg l:Expr}{tl:TE} (hl:PE X l tl) (h:X.K=K:=by rfl):PI X tg l (JX K tl):=h ▸ Np hl
theorem Eo (P:Program) (w:World) (K:PySem.W.Frag) {es:List Expr}{k:Nat}{p pos pos':Pos}{a:Expr}{ta:TA} (hg:Gl X "enumerate") (hm:X.mg "enumerate"=none) (ha:PA X [a] ta) (hP:X.prog=P:=by rfl) (hw:X.w=w:=by rfl) (hK:X.K=K:=by rfl) (hs:starEach [a] X.env=[(false,eval a X.env)]:=by rfl):
  PI X (.Tuple es k pos') (.Call (.Name "enumerate" p) [a] [] pos) (KD (Cc P w K) ta):=by subst hP hw hK;exact Oz hg hm ha hs
theorem IU (P:Program) (w:World) (K:PySem.W.Frag) {es:List Expr}{k:Nat}{p pos pos':Pos}{e1 e2:Expr}{ta:TA} (hg:Gl X "zip") (hm:X.mg "zip"=none) (ha:PA X [e1,e2] ta) (hP:X.prog=P:=by rfl) (hw:X.w=w:=by rfl) (hK:X.K=K:=by rfl)
  (hs:starEach [e1,e2] X.env=[(false,eval e1 X.env),(false,eval e2 X.env)]:=by rfl) (hs2:starEach [e2] X.env=[(false,eval e2 X.env)]:=by rfl):
  PI X (.Tuple es k pos') (.Call (.Name "zip" p) [e1,e2] [] pos) (EJ (Cc P w K) (Fi P w K) ta):=by subst hP hw hK;exact OE hg hm ha hs hs2
theorem DN (P:Program) (w:World) (K:PySem.W.Frag) {es:List Expr}{k:Nat}{p pos pos':Pos}{e1 e2:Expr}{ta:TA} (hg:Gl X "zip") (hm:X.mg "zip"=none) (ha:PA X [e1,e2] ta) (hP:X.prog=P:=by rfl) (hw:X.w=w:=by rfl) (hK:X.K=K:=by rfl)
  (hs:starEach [e1,e2] X.env=[(false,eval e1 X.env),(false,eval e2 X.env)]:=by rfl) (hs2:starEach [e2] X.env=[(false,eval e2 X.env)]:=by rfl):
  PI X (.Tuple es k pos') (.Call (.Name "zip" p) [e1,e2] [] pos) (EJ (Cc P w K) (Cc P w K) ta):=by subst hP hw hK;exact OF hg hm ha hs hs2
end
theorem PA.weak {X:Cx}{es:List Expr}{t t':TA} (h:PA X es t) (w:∀σ H Q,t' σ H Q->t σ H Q):PA X es t':=λpos pins s σ H Q I q=>h pos pins s σ H Q I (w σ H Q q)
def IV (i j:Int):List (PyData×PyData)->Bool | [(.int a,.int b)]=>a==0 && b==1 && i==0 && j==1 | _=>false
theorem Pi {i j:Int}{kvs:List (PyData×PyData)} (h:IV i j kvs=true):kvs=[(.int 0,.int 1)]/\i=0/\j=1:=by
 unfold IV at h
 split at h
 ·simp only [Bool.and_eq_true,beq_iff_eq] at h
  obtain⟨⟨⟨rfl,rfl⟩,rfl⟩,rfl⟩:=h
  exact⟨rfl,rfl,rfl⟩
 ·cases h
mutual
def Dc:PyData->Expr->Bool
 | .none,e=>match e with | .Constant .none _ _=>true | _=>false
 | .bool b,e=>match e with | .Constant (.bool c) _ _=>b==c | _=>false
 | .int i,e=>match e with
  | .Constant (.int j) _ _=>i==j
  | .UnaryOp .USub (.Constant (.int j) _ _) _=>i== -j
  | .BinOp (.Constant (.int a) _ _) .Pow (.Constant (.int b) _ _) _=>decide (0<=b/\b<=1000/\a.natAbs<1000) && i==a ^ b.toNat
  | _=>false
 | .str x,e=>match e with | .Constant (.str y) _ _=>x==y | _=>false
 | .tuple ds,e=>match e with | .Tuple es _ _=>EL ds es && Nat.ble ds.length 64 | _=>false
 | .list ds,e=>match e with | .List es _=>EL ds es && Nat.ble ds.length 64 | _=>false
 | .dict kvs,e=>match e with | .Dict [] [] _=>kvs.isEmpty | .Dict [some (.Constant (.int i) _ _)] [.Constant (.int j) _ _] _=>IV i j kvs | _=>false
def EL:List PyData->List Expr->Bool
 | [],es=>match es with | []=>true | _=>false
 | d::ds,es=>match es with | e::es=>Dc d e && EL ds es | []=>false
end
def Pj (d:PyData):TE:=λ_ H Q=>∀v H',Ab H H'->(∀p,H p≠none->Aa p H' d v)->Q v H'
def Pk (ds:List PyData):TA:=λ_ H Q=>∀vs H',Ab H H'->vs.length=ds.length->(∀p,H p≠none->Ad p H' ds vs)->Q vs H'
theorem Pl {d:PyData}{e:Expr}{es:List Expr}{env:Env} (h:Dc d e=true):starEach (e::es) env=(false,eval e env)::starEach es env:=by
 cases e<;>first | rfl | (cases d<;>cases h)
theorem Ab.some_ne {H H':Hp}{p a:Addr} (s:Ab H H') (h:H p≠none) (n:H' a=none):a≠p:=by
 intro e
 subst e
 cases z:H a with
 | none=>exact h z
 | some o=>rw [s _ _ z] at n;cases n
theorem Ab.some {H H':Hp}{p:Addr} (s:Ab H H') (h:H p≠none):H' p≠none:=by
 intro e
 cases z:H p with
 | none=>exact h z
 | some o=>rw [s _ _ z] at e;cases e
mutual
theorem IW {X:Cx}:∀(d:PyData) (e:Expr),Dc d e=true->PE X e (Pj d)
 | .none,e,h=>by
  unfold Dc at h
  split at h
  ·exact pe_non.weak fun σ H Q q=>q _ _ (Ab.refl _) λ_ _=>Aa.non
  ·cases h
 | .bool b,e,h=>by
  unfold Dc at h
  split at h
  ·have e:=eq_of_beq h
   subst e
   exact pe_bl.weak fun σ H Q q=>q _ _ (Ab.refl _) λ_ _=>Aa.bl
  ·cases h
 | .int i,e,h=>by
  unfold Dc at h
  split at h
  ·have e:=eq_of_beq h
   subst e
   exact pe_int.weak fun σ H Q q=>q _ _ (Ab.refl _) λ_ _=>Aa.int
  ·have e:=eq_of_beq h
   subst e
   exact(Ik Im pe_int).weak fun σ H Q q=>⟨_,rfl,q _ _ (Ab.refl _) λ_ _=>Aa.int⟩
  ·obtain⟨c,e⟩:=Bool.and_eq_true_iff.mp h
   have e:=eq_of_beq e
   subst e
   exact(Au KJ pe_int pe_int).weak fun σ H Q q=>⟨(by have c:=of_decide_eq_true c;exact⟨c.1,by omega,Nat.lt_trans c.2.2 (by decide)⟩),q _ _ (Ab.refl _) λ_ _=>Aa.int⟩
  ·cases h
 | .str x,e,h=>by
  unfold Dc at h
  split at h
  ·have e:=eq_of_beq h
   subst e
   exact pe_str.weak fun σ H Q q=>q _ _ (Ab.refl _) λ_ _=>Aa.str
  ·cases h
 | .tuple ds,e,h=>by
  unfold Dc at h
  split at h
  ·obtain⟨h1,h2⟩:=Bool.and_eq_true_iff.mp h
   refine(BI (IY ds _ h1)).weak fun σ H Q q=>?_
   intro vs H1 s l r
   rw [<-l] at h2
   show(match Nat.ble vs.length 64 with | true=>_ | false=>False)
   rw [h2]
   intro a ha
   exact q _ _ (s.trans (Ab.new ha)) λp hp=>Aa.tup Ag (Ad.ev (Ev.new ha) _ _ (r p hp))
  ·cases h
 | .list ds,e,h=>by
  unfold Dc at h
  split at h
  ·obtain⟨h1,h2⟩:=Bool.and_eq_true_iff.mp h
   refine(BF (IY ds _ h1)).weak fun σ H Q q=>?_
   intro vs H1 s l r
   rw [<-l] at h2
   show(match Nat.ble vs.length 64 with | true=>_ | false=>False)
   rw [h2]
   intro a ha
   exact q _ _ (s.trans (Ab.new ha)) λp hp=>Aa.lst (s.some_ne hp ha) Ag (Ad.ev (Ev.new ha) _ _ (r p hp))
  ·cases h
 | .dict kvs,e,h=>by
  unfold Dc at h
  split at h
  ·have e:kvs=[]:=by cases kvs with | nil=>rfl | cons a b=>cases h
   subst e
   refine c_dict.weak fun σ H Q q=>?_
   intro a ha
   refine q _ _ (Ab.new ha) λp hp=>?_
   unfold Aa
   exact⟨a,_,rfl,(Ab.refl H).some_ne hp ha,.inl ⟨rfl,rfl⟩,Ag⟩
  ·obtain⟨rfl,rfl,rfl⟩:=Pi h
   refine c_dict1.weak fun σ H Q q=>?_
   intro a ha
   refine q _ _ (Ab.new ha) λp hp=>?_
   unfold Aa
   exact⟨a,_,rfl,(Ab.refl H).some_ne hp ha,.inr ⟨rfl,rfl⟩,Ag⟩
  ·cases h
theorem IY {X:Cx}:∀(ds:List PyData) (es:List Expr),EL ds es=true->PA X es (Pk ds)
 | [],es,h=>by
  unfold EL at h
  split at h
  ·exact pa_nil.weak fun σ H Q q=>q _ _ (Ab.refl _) rfl λ_ _=> .nil
  ·cases h
 | d::ds,es,h=>by
  unfold EL at h
  split at h
  ·obtain⟨h1,h2⟩:=Bool.and_eq_true_iff.mp h
   refine(CW (IW d _ h1) (IY ds _ h2) (Pl h1)).weak fun σ H Q q=>?_
   intro v H1 s1 r1 vs H2 s2 l r2
   exact q _ _ (s1.trans s2) (by rw [List.length_cons,List.length_cons,l]) λp hp=> .cons (Aa.ev (Ev.same s2) _ _ (r1 p hp)) (r2 p (s1.some hp))
  ·cases h
end
section
variable {X : Cx}
def Pm:List V->Hp->VK->Prop:=λxs H Q=>∃(p:Addr) (ns:List Int),xs=[.ref p]/\H p=some (.lst (ns.map V.int))/\Q (.int ns.sum) H
theorem IZ:∀ {ns:List Int}{us:List Value},Ar (ns.map V.int) us->IntsAre us ns
 | [],us,h=>by cases h;exact .nil
 | n::ns,us,h=>by
  cases h with
  | cons r t=>obtain⟨k,rfl⟩:=r;exact .cons n k (IZ t)
theorem I8 (hc:X.calm=true):BH X (.builtin "sum") Pm:=by
 intro pins s σ H xs us Q I r h
 obtain⟨p,ns,rfl,hp,q⟩:=h
 obtain⟨u,rfl,ru⟩:=r.one
 cases ru
 obtain⟨its,rv,pl,hz⟩:=I.list (Ai.of hp)
 have hi:=IZ rv
 obtain⟨xs,hx⟩:=AllInts.items hi.allInts
 have hl:s.heap.IsList p (intItems xs):=hx ▸ pl.isList
 refine sum_intListG (I.ok.hd hc) hl λh' tk t' hk=>?_
 have e1:ns=xs.toList.map (λx=>x.fst):=by rw [<-nums_intItems,<-hx,List.toList_toArray,hi.numsOf]
 have e2:preSum (numAt xs) xs.size=ns.sum:=by
  rw [preSum_eq,List.take_of_length_le (by simp),<-e1]
 rw [e2]
 exact⟨.int ns.sum,H,I.kept λb o eb=>hk b o eb,⟨t',rfl⟩,q⟩
end
def Dw (i j k:Int):Nat:=(Builtin.Range.rangeSize i j k).toNat
theorem Le {i j k:Int} (h:1<=k) (hi: -1000<=i) (hj:j<=1000):0<=Builtin.Range.rangeSize i j k/\Builtin.Range.rangeSize i j k<=2001:=by
 unfold Builtin.Range.rangeSize
 rw [if_pos (by omega)]
 split
 ·have h1:0<=(j-i-1)/ k:=Int.ediv_nonneg (by omega) (by omega)
  have h2:(j-i-1)/ k<=(j-i-1):=Int.ediv_le_self _ (by omega)
  omega
 ·omega
theorem Pn {i j k:Int} (h:1<=k) (hk:k<=1000) (hi: -1000<=i) (hi':i<=1000) (hj: -1000<=j) (hj':j<=1000):Builtin.Range.small i j k=true:=by
 obtain⟨a,b⟩:=Le h hi hj'
 have f:∀z:Int,-5000<=z->z<=5000->Builtin.Range.rangeFitsLong z=true:=λz z1 z2=>by
  unfold Builtin.Range.rangeFitsLong
  simp only [Bool.and_eq_true,decide_eq_true_eq]
  omega
 unfold Builtin.Range.small
 rw [f i (by omega) (by omega),f j (by omega) (by omega),f k (by omega) (by omega),f _ (by omega) (by omega),if_pos (by omega),f (j+(k-1)) (by omega) (by omega)]
 simp
section
variable {X : Cx} {tg : Expr}
end
end L2
end
section
namespace MF
open PySem PySem.Spec PyProof.Rows L2
variable {α : Type} {i k : Nat} {h : Int} {ws : List Bool} {p : Addr} {H : Hp} {xs : List V}
theorem _root_.L2.walk_enum {P:Program}{w:World}{K:PySem.W.Frag}{S:A9 P w K}{a:Addr}{xs:List V}{cap:List (Option Nat)}{g:TG}{tt:TT}{te:TE}{σ:L2.St}{Q:List V->Hp->Prop}{H:Hp} (Pv:Nat->List V->Hp->Prop) (hn:xs.length<=100000) (h0:Pv 0 [] H) (hz:∀i zs H,Pv i zs H->zs.length<=i)
  (hl:∀i zs H,Pv i zs H->S.Sq H a xs)
  (hs:∀i x zs H T,xs[i]? =some x->Pv i zs H->H T=none->g (.ref T) (A4 cap σ) (upd H T (.tup [.int i,x])) fun σ2 H2=>Keep (A4 cap σ) σ2/\tt σ2 H2 λb H3=>br b (te σ2 H3 λy H4=>Pv (i+1) (zs++[y]) H4) (Pv (i+1) zs H3))
  (hd:∀zs H,Pv xs.length zs H->Q zs H):Ek (EF S a) cap g tt te σ Q H:=
 EE xs.length Pv hn h0 hz (λi zs H hi p=>by
  have q:=hl i zs H p
  refine⟨⟨xs,xs[i],q,by simp [hi]⟩,λv H' ⟨T,e,n,y⟩=>?_⟩
  subst e
  rw [y xs xs[i] q (by simp [hi])]
  exact hs i xs[i] zs H T (by simp [hi]) p n)
  λzs H p=>⟨⟨xs,hl _ zs H p,rfl⟩,hd zs H p⟩
theorem _root_.L2.for_enum {P:Program}{w:World}{K:PySem.W.Frag}{S:A9 P w K}{a:Addr}{xs:List V}{g:TG}{tb:TS}{D:DF}{σ:L2.St}{H:Hp} (Pv:Nat->L2.St->Hp->Prop) (h0:Pv 0 σ H) (hl:∀i σ H,Pv i σ H->S.Sq H a xs)
  (hs:∀i x σ H T,xs[i]? =some x->Pv i σ H->H T=none->g (.ref T) σ (upd H T (.tup [.int i,x])) fun σ2 H2=>tb { D with nx:=Pv (i+1),ct:=Pv (i+1),bk:=D.nx} σ2 H2) (hd:∀σ H,Pv xs.length σ H->D.nx σ H):
  ∃W:Nat->Nat->L2.St->Hp->Prop,(∃m,W 0 m σ H)/\∀i m σ H,W i m σ H->
   ((EF S a).stop i H/\D.nx σ H)\/((EF S a).go i H/\∃N:L2.St->Hp->Prop,(∀σ' H',N σ' H'->∃m',m'<m/\W (i+1) m' σ' H')/\∀x H',(EF S a).yld i H x H'->g x σ H' fun σ2 H2=>tb { D with nx:=N,ct:=N,bk:=D.nx} σ2 H2):=by
 refine⟨λi m σ H=>m=xs.length-i/\i<=xs.length/\Pv i σ H,⟨xs.length,by simp,Nat.zero_le _,h0⟩,?_⟩
 rintro i m σ H ⟨rfl,hi,p⟩
 have q:=hl i σ H p
 by_cases hlt:i<xs.length
 ·refine .inr ⟨⟨xs,xs[i],q,by simp [hlt]⟩,Pv (i+1),fun σ' H' p'=>⟨xs.length-(i+1),by omega,rfl,hlt,p'⟩,λx H' ⟨T,e,n,y⟩=>?_⟩
  subst e
  rw [y xs xs[i] q (by simp [hlt])]
  exact hs i xs[i] σ H T (by simp [hlt]) p n
 ·obtain rfl:i=xs.length:=by omega
  exact .inl ⟨⟨xs,q,rfl⟩,hd σ H p⟩
structure PL where
 bs:List (Int×Int)
 es:List (Int×Int×Int)
 lo:Int
 hi:Int
 st:Int
abbrev bD (q:Int×Int):PyData:= .tuple [.int q.1,.int q.2]
abbrev eD (q:Int×Int×Int):PyData:= .tuple [.int q.1,.int q.2.1,.int q.2.2]
def PL.d (P:PL):PyData:= .tuple [.tuple (P.bs.map bD),.tuple (P.es.map eD),.tuple [.int P.lo,.int P.hi,.int P.st]]
structure PL.ok (P:PL):Prop where
 b:∀q∈P.bs,1<=q.1/\q.1<=9/\1<=q.2/\q.2<=9
 b1:1<=P.bs.length
 b4:P.bs.length<=4
 e:∀q∈P.es,1<=q.1/\q.1<=9/\0<=q.2.1/\q.2.1<=7/\1<=q.2.2/\q.2.2<=8
 e4:P.es.length<=4
 lo0:0<=P.lo
 ls:P.lo<=P.st
 sh:P.st<=P.hi
 h4:P.hi<=40
structure FT where
 b:Int
 out:Bool
 f:Int
 l:Int
def wS (b:Bool):Str:=if b then"out" else"scaled"
abbrev wV (b:Bool):V:= .str (wS b)
abbrev FT.d (x:FT):PyData:= .tuple [.int x.b,.str (wS x.out),.int x.f,.int x.l]
structure SY where
 ex:List Int
 fs:List FT
def SY.d (S:SY):PyData:= .tuple [.tuple (S.ex.map .int),.tuple (S.fs.map FT.d)]
structure FT.ok (x:FT) (n h:Nat):Prop where
 b0:0<=x.b
 bn:x.b<n
 f0:0<=x.f
 fl:x.f<=x.l
 lh:x.l<h
structure SY.ok (S:SY) (n:Nat):Prop where
 x1:1<=S.ex.length
 x8:S.ex.length<=8
 x:∀u∈S.ex,0<=u/\u<=20
 f4:S.fs.length<=4
 f:∀x∈S.fs,x.ok n S.ex.length
def BY (ws:List Bool) (m:Int):Int:=if ws.any id then 0 else if ws.any (!·) then m / 2 else m
def Cm (b h:Int) (x:FT):Bool:=x.b==b && decide (x.f<=h) && decide (h<=x.l)
def BA (fs:List FT) (b h:Int):List Bool:=(fs.filter (Cm b h)).map FT.out
def Cn (bs:List (Int×Int)) (fs:List FT) (h:Int):List Int:=bs.zipIdx.map λq=>BY (BA fs q.2 h) q.1.1
def caps (P:PL) (S:SY):List (List Int):=(List.range S.ex.length).map fun(h:Nat)=>Cn P.bs S.fs (h:Int)
def drawn (q:Int×Int×Int) (h:Int):Int:=if h<q.2.1\/(h-q.2.1) % q.2.2≠0 then 0 else q.1
def draws (P:PL) (S:SY):List Int:=S.ex.zipIdx.map λq=>q.1+(P.es.map λe=>drawn e q.2).sum
abbrev Ay (r:List Int):PyData:= .tuple (r.map .int)
def Dd (P:PL) (S:SY):PyData:= .tuple ((caps P S).map Ay)
def I9 (P:PL) (S:SY):PyData:=Ay (draws P S)
def ret (H:Hp) (Q:VK) (p:Addr) (d:PyData):Prop:=∀v H',Ab H H'->Aa p H' d v->Q v H'
theorem A3 {l:List α}{x:α} (h:l[i]? =some x):l.take (i+1)=l.take i++[x]:=by rw [List.take_add_one,h];rfl
theorem Ja {bs:List (Int×Int)}{fs:List FT}{q:Int×Int} (hq:bs[i]? =some q):(Cn bs fs h)[i]? =some (BY (BA fs i h) q.1):=by
 unfold Cn;rw [List.getElem?_map,List.getElem?_zipIdx,hq];simp
theorem DO {bs:List (Int×Int)}{fs:List FT}:(Cn bs fs h).length=bs.length:=by unfold Cn;simp
theorem De {P:PL}{S:SY} (h:i<S.ex.length):(caps P S)[i]? =some (Cn P.bs S.fs i):=by
 unfold caps;rw [List.getElem?_map,List.getElem?_range h];rfl
theorem A7 {P:PL}{S:SY}:(caps P S).length=S.ex.length:=by unfold caps;simp
theorem Jb {P:PL}{S:SY}{u:Int} (hu:S.ex[i]? =some u):(draws P S)[i]? =some (u+(P.es.map λe=>drawn e i).sum):=by
 unfold draws;rw [List.getElem?_map,List.getElem?_zipIdx,hu];simp
theorem C2 {P:PL}{S:SY}:(draws P S).length=S.ex.length:=by unfold draws;simp
theorem Gn:BQ (.str "out") (ws.map wV)=ws.any id:=by
 induction ws with
 | nil=>rfl
 | cons b ws ih=>
  unfold BQ at ih ⊢
  rw [List.map_cons,List.any_cons,ih,List.any_cons]
  cases b<;>rfl
theorem Jc:BQ (.str "scaled") (ws.map wV)=ws.any (!·):=by
 induction ws with
 | nil=>rfl
 | cons b ws ih=>
  unfold BQ at ih ⊢
  rw [List.map_cons,List.any_cons,ih,List.any_cons]
  cases b<;>rfl
theorem Go:(ws.map wV).all CZ=true:=by
 rw [List.all_map,List.all_eq_true]
 intro b _
 rfl
theorem Po (b:Bool):BQ (wV b) [.str "out",.str "scaled"]=true:=by cases b<;>rfl
theorem Lf {fs:List FT}{x:FT}{b:Int} (hx:fs[i]? =some x):BA (fs.take (i+1)) b h=if Cm b h x then BA (fs.take i) b h++[x.out] else BA (fs.take i) b h:=by
 unfold BA
 rw [A3 hx,List.filter_append]
 by_cases c:Cm b h x=true
 ·rw [if_pos c,List.filter_cons_of_pos c,List.map_append];rfl
 ·rw [if_neg c,List.filter_cons_of_neg c,List.filter_nil,List.append_nil]
theorem Ad.mapGot {f:α->PyData}{l:List α}{x:V} (r:Ad p H (l.map f) xs) (h:xs[i]? =some x):∃a,l[i]? =some a/\Aa p H (f a) x:=by
 obtain⟨d,hd,rd⟩:=r.got h
 rw [List.getElem?_map] at hd
 cases z:l[i]? with
 | none=>rw [z] at hd;cases hd
 | some a=>rw [z] at hd;cases hd;exact⟨a,rfl,rd⟩
theorem Ad.ints:∀ {ns:List Int}{xs:List V},Ad p H (ns.map .int) xs->xs=ns.map V.int
 | [],xs,r=>by unfold Ad at r;exact r
 | n::ns,xs,r=>by
  rw [List.map_cons] at r
  unfold Ad at r
  obtain⟨x,t,rfl,rx,rt⟩:=r
  unfold Aa at rx
  rw [rx,Ad.ints rt];rfl
theorem Ad.ofInts:∀ {ns:List Int},Ad p H (ns.map .int) (ns.map V.int)
 | []=> .nil
 | n::ns=> .cons Aa.int Ad.ofInts
theorem Ad.snoc {ds:List PyData}{d:PyData}{x:V} (r:Ad p H ds xs) (h:Aa p H d x):Ad p H (ds++[d]) (xs++[x]):=r.append (.cons h .nil)
theorem Aa.row {a:Addr}{r:List Int} (h:H a=some (.tup (r.map V.int))):Aa p H (Ay r) (.ref a):=Aa.tup h Ad.ofInts
theorem Ab.own {H':Hp}{b:Addr}{o:HO} (s:Ab H H') (n:H b=none):Ab H (upd H' b o):=λx u q=>by rw [AA (Bf q n)];exact s x u q
theorem Ad.four {a b c d:PyData} (r:Ad p H [a,b,c,d] xs):∃x y z w,xs=[x,y,z,w]/\Aa p H a x/\Aa p H b y/\Aa p H c z/\Aa p H d w:=by
 unfold Ad at r;obtain⟨x,s,rfl,hx,r⟩:=r;unfold Ad at r;obtain⟨y,s,rfl,hy,r⟩:=r;unfold Ad at r;obtain⟨z,s,rfl,hz,r⟩:=r;unfold Ad at r;obtain⟨w,s,rfl,hw,r⟩:=r;unfold Ad at r;subst r;exact⟨x,y,z,w,rfl,hx,hy,hz,hw⟩
theorem Pp {a b:V} (h:(!decide (a=b))=true):a≠b:=by simpa using h
structure Small (n k:Nat) (d:PyData):Prop where
 w:Ck d<=n
 dp:d.depth<=k
 nd:d.hasDict=false
theorem Jd {n:Nat}:∀ {ds:List PyData},(∀d∈ds,Small n k d)->Du ds<=(n+2) * ds.length/\PyData.depthAll ds<=k/\PyData.hasDictAll ds=false
 | [],_=>⟨by unfold Du;exact Nat.zero_le _,by unfold PyData.depthAll;exact Nat.zero_le _,rfl⟩
 | d::ds,h=>by
  obtain⟨a,b,c⟩:=Jd λx hx=>h x (List.mem_cons_of_mem _ hx)
  have s:=h d List.mem_cons_self
  refine⟨?_,?_,?_⟩
  ·unfold Du
   rw [List.length_cons,Nat.mul_add]
   have:=s.w;omega
  ·unfold PyData.depthAll;exact Nat.max_le.mpr ⟨s.dp,b⟩
  ·unfold PyData.hasDictAll;rw [s.nd,c];rfl
theorem Fl {n k m:Nat}{ds:List PyData} (h:∀d∈ds,Small n k d) (hm:(n+2) * ds.length+4<=m):Small m (k+1) (.tuple ds):=by
 obtain⟨a,b,c⟩:=Jd h
 exact⟨by unfold Ck;omega,by unfold PyData.depth;omega,by unfold PyData.hasDict;exact c⟩
theorem Gp {n m:Nat}{ds:List PyData} (h:∀d∈ds,Small n k d) (hm:(n+2) * ds.length+4<=m):Small m (k+1) (.list ds):=by
 obtain⟨a,b,c⟩:=Jd h
 exact⟨by unfold Ck;omega,by unfold PyData.depth;omega,by unfold PyData.hasDict;exact c⟩
theorem Small.mono {n n' k':Nat}{d:PyData} (h:Small n k d) (h1:n<=n') (h2:k<=k'):Small n' k' d:=⟨Nat.le_trans h.w h1,Nat.le_trans h.dp h2,h.nd⟩
theorem Small.nice {n:Nat}{d:PyData} (h:Small n k d) (h1:n<=1000000) (h2:k<=20):Fk d:=⟨Nat.le_trans h.w h1,Nat.le_trans h.dp h2,.inl h.nd⟩
theorem Gq {i:Int} (h:i.natAbs<10 ^ 6):Small 40 0 (.int i):=by
 refine⟨?_,Nat.le_refl 0,rfl⟩
 unfold Ck
 rw [if_pos (Nat.lt_trans h (by decide))]
 exact Nat.le_refl _
theorem Gs {r:List Int} (h:∀i∈r,i.natAbs<10 ^ 6) (hl:r.length<=20):Small 1000 1 (Ay r):=Fl (n:=40) (k:=0) (λd hd=>by
 obtain⟨i,hi,rfl⟩:=List.mem_map.mp hd
 exact Gq (h i hi)) (by rw [List.length_map];omega)
theorem Je {rs:List (List Int)} (h:∀r∈rs,(∀i∈r,i.natAbs<10 ^ 6)/\r.length<=20) (hl:rs.length<=20):Small 30000 2 (.tuple (rs.map Ay)):=Fl (n:=1000) (k:=1) (λd hd=>by
 obtain⟨i,hi,rfl⟩:=List.mem_map.mp hd
 exact Gs (h i hi).1 (h i hi).2) (by rw [List.length_map];omega)
theorem Pq {ws:List Bool}{m:Int} (h0:0<=m) (h9:m<=9):0<=BY ws m/\BY ws m<=m:=by
 unfold BY
 split
 ·omega
 ·split
  ·omega
  ·omega
theorem Dx {P:PL}{S:SY} (ok:P.ok):∀r∈caps P S,(∀i∈r,0<=i/\i<=9)/\r.length=P.bs.length:=λr hr=>by
 unfold caps at hr
 obtain⟨h,_,rfl⟩:=List.mem_map.mp hr
 refine⟨λi hi=>?_,DO⟩
 unfold Cn at hi
 obtain⟨q,hq,rfl⟩:=List.mem_map.mp hi
 obtain⟨b1,b2,_⟩:=ok.b q.1 (List.fst_mem_of_mem_zipIdx hq)
 have:=Pq (ws:=BA S.fs q.2 h) (m:=q.1.1) (by omega) b2
 omega
theorem Pr {P:PL}{S:SY} (ok:P.ok) {n:Nat} (so:S.ok n):Small 30000 2 (Dd P S):=Je (λr hr=>by
 obtain⟨a,b⟩:=Dx ok r hr
 have:=ok.b4
 exact⟨λi hi=>by have:=a i hi;omega,by omega⟩) (by rw [A7];have:=so.x8;omega)
theorem Ps {q:Int×Int×Int} (h1:1<=q.1) (h9:q.1<=9):0<=drawn q h/\drawn q h<=9:=by
 unfold drawn
 split<;>omega
theorem Lg {l:List Int} (h:∀i∈l,0<=i/\i<=9):0<=l.sum/\l.sum<=9 * l.length:=by
 induction l with
 | nil=>exact⟨Int.le_refl _,Int.le_refl _⟩
 | cons a l ih=>
  have:=h a List.mem_cons_self
  have:=ih λi hi=>h i (List.mem_cons_of_mem _ hi)
  rw [List.sum_cons,List.length_cons]
  omega
theorem Pu {P:PL}{S:SY} (ok:P.ok) {n:Nat} (so:S.ok n):∀i∈draws P S,0<=i/\i<=56:=λi hi=>by
 unfold draws at hi
 obtain⟨q,hq,rfl⟩:=List.mem_map.mp hi
 have a:=so.x q.1 (List.fst_mem_of_mem_zipIdx hq)
 have b:=Lg (l:=P.es.map λe=>drawn e q.2) λi hi=>by
  obtain⟨e,he,rfl⟩:=List.mem_map.mp hi
  obtain⟨e1,e2,_⟩:=ok.e e he
  exact Ps e1 e2
 rw [List.length_map] at b
 have:=ok.e4
 omega
theorem Lh {l:List Int} (h:i<l.length):l[i]? =some (l.getD i 0):=by rw [List.getD_eq_getElem?_getD,List.getElem?_eq_getElem h];rfl
theorem Pw {f e:Int}{n t:Nat} (he:1<=e):t<Dw f n e↔f+t * e<n:=by
 unfold Dw Builtin.Range.rangeSize
 rw [if_pos (by omega)]
 by_cases c:f<n
 ·rw [if_pos c]
  have h1:0<=((n:Int)-f-1)/ e:=Int.ediv_nonneg (by omega) (by omega)
  have h2:(t:Int)<=((n:Int)-f-1)/ e↔(t:Int) * e<=(n:Int)-f-1:=Int.le_ediv_iff_mul_le (by omega)
  constructor
  ·intro h
   have:=h2.mp (by omega)
   omega
  ·intro h
   have:=h2.mpr (by omega)
   omega
 ·rw [if_neg c]
  have h3:0<=(t:Int) * e:=Int.mul_nonneg (by omega) (by omega)
  constructor
  ·intro h;exact absurd h (Nat.not_lt_zero _)
  ·intro h;omega
theorem Px {m:Int} (c:ws.any id=false):m /(1+if ws.any (!·)=true then 1 else 0)=BY ws m:=by
 unfold BY
 rw [c,if_neg (by decide:¬(false=true))]
 cases ws.any (!·) with
 | true=>rfl
 | false=>exact Int.ediv_one _
end MF
end
section
namespace L2
open PySem PySem.Spec PyProof.Rows
section
variable {X : Cx}
def Li:List V->Hp->VK->Prop:=λxs H Q=>∃(p:Addr) (ns:List Int),xs=[.ref p]/\(H p=some (.lst (ns.map V.int))\/H p=some (.tup (ns.map V.int)))/\Q (.int ns.sum) H
theorem EM (hc:X.calm=true):BH X (.builtin "sum") Li:=by
 intro pins s σ H xs us Q I r h
 obtain⟨p,ns,rfl,hp,q⟩:=h
 rcases hp with hp | hp
 ·exact I8 hc pins s σ H _ us Q I r ⟨p,ns,rfl,hp,q⟩
 obtain⟨u,rfl,ru⟩:=r.one
 cases ru
 obtain⟨its,rv,pl,hz⟩:=I.tuple (Ac.of hp)
 have hi:=IZ rv
 obtain⟨xs,hx⟩:=AllInts.items hi.allInts
 have e1:ns=xs.toList.map (λx=>x.fst):=by rw [<-nums_intItems,<-hx,List.toList_toArray,hi.numsOf]
 have e2:preSum (numAt xs) xs.size=ns.sum:=by
  rw [preSum_eq,List.take_of_length_le (by simp),<-e1]
 have hl:s.heap.IsTuple p (intItems xs):=hx ▸(show s.heap.IsTuple p its.toArray from pl)
 refine call_sum_walkG (wpAny_pyIter_tuple hl ?_)
 have hlt:p<s.heap.objs.size:=by
  obtain⟨o,ho,_⟩:=id hl
  exact Heap.lt_size ho
 refine⟨s.heap.objs.size,_,_,_,_,_,numAt xs,rfl,Walks.tuple (A:=X.A.in1) (I.ok.hd hc) s.heap.objs.size p (Nat.ne_of_lt hlt) (intItems xs),⟨⟨_,Heap.get?_push_size _ rfl,rfl,rfl⟩,?_⟩,λb hb=>?_,λi v hv=>intItems_at hv,λh' tk t' hk=>?_⟩
 ·obtain⟨o,ho,ho2⟩:=id hl
  exact⟨o,Heap.get?_push_of_some _ ho,ho2⟩
 ·have:b=s.heap.objs.size\/b=p:=by simpa using hb
  rw [show(s.heap.push _).objs.size=s.heap.objs.size+1 from Array.size_push _]
  rcases this with rfl | rfl
  ·exact Nat.lt_succ_self _
  ·exact Nat.lt_succ_of_lt hlt
 ·have e3:(intItems xs).size=xs.size:=Array.size_map
  rw [e3,e2]
  refine⟨.int ns.sum,H,I.kept λb o eb=>hk b o ?_ (Heap.get?_push_of_some _ eb),⟨t',rfl⟩,q⟩
  intro z
  have z':b=s.heap.objs.size:=by simpa using z
  exact absurd (Heap.lt_size eb) (by rw [z'];exact Nat.lt_irrefl _)
end
end L2
end
section
namespace MF
open PySem PySem.Spec PyProof.Rows L2
variable {H H' : Hp} {P : PL} {S : SY} {p : Addr} {F : List (List Int)} {v u : V} {i k : Nat}
theorem _root_.L2.walk_zip {P:Program}{w:World}{K:PySem.W.Frag}{S1 S2:A9 P w K}{a b:Addr}{xs ys:List V}{cap:List (Option Nat)}{g:TG}{tt:TT}{te:TE}{σ:L2.St}{Q:List V->Hp->Prop}{H:Hp} (Pv:Nat->List V->Hp->Prop) (hn:xs.length<=100000) (he:xs.length=ys.length) (h0:Pv 0 [] H) (hz:∀i zs H,Pv i zs H->zs.length<=i)
  (hl:∀i zs H,Pv i zs H->S1.Sq H a xs/\S2.Sq H b ys)
  (hs:∀i x y zs H T,xs[i]? =some x->ys[i]? =some y->Pv i zs H->H T=none->g (.ref T) (A4 cap σ) (upd H T (.tup [x,y])) fun σ2 H2=>Keep (A4 cap σ) σ2/\tt σ2 H2 λb H3=>br b (te σ2 H3 λy H4=>Pv (i+1) (zs++[y]) H4) (Pv (i+1) zs H3))
  (hd:∀zs H,Pv xs.length zs H->Q zs H):Ek (El S1 S2 a b) cap g tt te σ Q H:=
 EE xs.length Pv hn h0 hz (λi zs H hi p=>by
  obtain⟨q1,q2⟩:=hl i zs H p
  have hy:i<ys.length:=by omega
  refine⟨⟨xs,ys,xs[i],ys[i],q1,q2,by simp [hi],by simp [hy]⟩,λv H' ⟨T,e,n,y⟩=>?_⟩
  subst e
  rw [y xs ys xs[i] ys[i] q1 q2 (by simp [hi]) (by simp [hy])]
  exact hs i xs[i] ys[i] zs H T (by simp [hi]) (by simp [hy]) p n)
  λzs H p=>⟨⟨xs,ys,(hl _ zs H p).1,(hl _ zs H p).2,rfl⟩,hd zs H p⟩
theorem Ab.evOwn {H2:Hp}{R:Addr} (s:Ab H H2) (n:H R=none) (e:Ev R H2 H'):Ab H H':=λb o q=>(e b o (s b o q)).elim (fun⟨z,_⟩=>by rw [z,n] at q;cases q) id
def FD (F:List (List Int)):PyData:= .tuple (F.map Ay)
structure FOk (P:PL) (S:SY) (F:List (List Int)):Prop where
 len:F.length=S.ex.length
 row:∀(i:Nat) (r:List Int),F[i]? =some r->r.length=P.bs.length
 bd:∀(i:Nat) (r:List Int) (j:Nat) (x c:Int),F[i]? =some r->r[j]? =some x->(Cn P.bs S.fs i)[j]? =some c->0<=x/\x<=c
theorem FOk.caps (ok:P.ok):FOk P S (caps P S):=by
 refine⟨A7,λi r hr=>?_,λi r j x c hr hx hc=>?_⟩
 ·exact(Dx ok r (List.mem_of_getElem? hr)).2
 ·have hi:i<S.ex.length:=by
   have:=(List.getElem?_eq_some_iff.mp hr).1
   rw [A7] at this;exact this
  rw [De hi] at hr
  cases hr
  rw [hx] at hc
  cases hc
  have:=(Dx (S:=S) ok _ (List.mem_of_getElem? (De hi))).1 x (List.mem_of_getElem? hx)
  omega
structure Tri (p:Addr) (H:Hp) (P:PL) (S:SY) (F:List (List Int)) (v u w:V):Prop where
 ok:P.ok
 so:S.ok P.bs.length
 fo:FOk P S F
 r:Aa p H P.d v
 ru:Aa p H S.d u
 rw:Aa p H (FD F) w
theorem Tri.ev {w:V} (t:Tri p H P S F v u w) (e:Ev p H H'):Tri p H' P S F v u w:=⟨t.ok,t.so,t.fo,Aa.ev e _ _ t.r,Aa.ev e _ _ t.ru,Aa.ev e _ _ t.rw⟩
theorem Tri.sm {w:V} (t:Tri p H P S F v u w) (e:Ab H H'):Tri p H' P S F v u w:=t.ev (Ev.same e)
def made (F:List (List Int)) (i:Nat):Int:=(F.getD i []).sum
def DP (P:PL) (S:SY) (i:Nat):Int:=(draws P S).getD i 0
def Ep (hi m:Int):Int:=if 0>m-hi then 0 else m-hi
def AT (P:PL) (S:SY) (F:List (List Int)):Nat->Int
 | 0=>P.st
 | i+1=>AT P S F i+(made F i-DP P S i)-Ep P.hi (AT P S F i+(made F i-DP P S i))
def BB (P:PL) (S:SY) (F:List (List Int)) (i:Nat):Int:=AT P S F i+(made F i-DP P S i)
theorem Fm:AT P S F (i+1)=BB P S F i-Ep P.hi (BB P S F i):=rfl
def Lj (P:PL) (S:SY) (F:List (List Int)) (i:Nat):PyData:= .tuple [.int (made F i),.int (DP P S i),.int (Ep P.hi (BB P S F i)),.int (AT P S F (i+1))]
def DQ (P:PL) (S:SY) (F:List (List Int)) (k:Nat):List PyData:=(List.range k).map (Lj P S F)
theorem Py:DQ P S F (k+1)=DQ P S F k++[Lj P S F k]:=by unfold DQ;rw [List.range_succ,List.map_append];rfl
theorem Pz:(DQ P S F k).length=k:=by unfold DQ;simp
def Fo:Option (Int×Int)->PyData
 | none=> .none
 | some q=> .tuple [.int q.1,.int q.2]
structure Fp (P:PL) (S:SY) (F:List (List Int)) (k:Nat) (s:Option (Int×Int)):Prop where
 le:k<=S.ex.length
 up:∀i,i<k->P.lo<=BB P S F i
 fin:(s=none/\k=S.ex.length)\/(k<S.ex.length/\BB P S F k<P.lo/\s=some ((k:Int),P.lo-BB P S F k))
theorem EN {r:List Int} (h:F[i]? =some r):made F i=r.sum:=by unfold made;rw [List.getD_eq_getElem?_getD,h];rfl
theorem EO {d:Int} (h:(draws P S)[i]? =some d):DP P S i=d:=by unfold DP;rw [List.getD_eq_getElem?_getD,h];rfl
end MF
end
section
namespace MF
open PySem PySem.Spec PyProof.Rows L2
theorem FOk.bd9 {P:PL}{S:SY}{F:List (List Int)} (ok:P.ok) (fo:FOk P S F):∀r∈F,(∀x∈r,0<=x/\x<=9)/\r.length=P.bs.length:=λr hr=>by
 obtain⟨i,hi,e⟩:=List.mem_iff_getElem.mp hr
 have hF:F[i]? =some r:=by rw [List.getElem?_eq_getElem hi,e]
 have hl:=fo.row i r hF
 refine⟨λx hx=>?_,hl⟩
 obtain⟨j,hj,ej⟩:=List.mem_iff_getElem.mp hx
 have hR:r[j]? =some x:=by rw [List.getElem?_eq_getElem hj,ej]
 have hc:j<(Cn P.bs S.fs i).length:=by rw [DO];omega
 have hC:=List.getElem?_eq_getElem hc
 have:=fo.bd i r j x _ hF hR hC
 have hi':i<S.ex.length:=by have:=fo.len;omega
 have b:=(Dx (S:=S) ok _ (List.mem_of_getElem? (De hi'))).1 _ (List.getElem_mem hc)
 omega
end MF
end
section
namespace L2
open PySem PySem.Spec PyProof.Rows
theorem PC (l:Addr) (items:Array Value) (n:Nat) (dd:Option Addr) (sl:Array (Option Value)) (u:Tok):
  Meets (Builtin.«tuple.__mul__» ⟨[.ref l,.int 1 u],[]⟩) (λ_ R s=>s.heap.get? l=some { cls:= .type "tuple",dict:=dd,data:= .seq items n,slots:=sl}/\R (.ok (.ret (Value.ref l))) s):=
 .of_wp λprog w A R s h=>by
  obtain⟨hp,g,d,tk,os⟩:=s;obtain⟨hl,h⟩:=h;have f1:=AutoSeq1.idx_int;have f2:=AutoSeq1.sub_tuple_tuple
  have ht:IsTup hp l items:=⟨_,hl,rfl,n,rfl⟩
  wp_walk using wpAny_loadPart' hl
  exact⟨_,rfl,h⟩
section
variable {X : Cx}
def PD:R2:=λx y H Q=>∃a k xs,x= .ref a/\y= .int k/\H a=some (.tup xs)/\xs≠ []/\1<=k/\k<=100/\xs.length<=100/\En H (List.replicate k.toNat xs).flatten Q
theorem PF:OpR X (binaryOp .Mult) PD:=by
 intro pins s σ H x y v u Q I rx ry h
 obtain⟨a,k,xs,rfl,rfl,ha,hx,h1,h2,h3,q⟩:=h
 by_cases hk:k=1
 ·subst hk
  cases rx
  obtain⟨t,rfl⟩:=ry
  obtain⟨its,r,ht,hz⟩:=I.tuple (Ac.of ha)
  obtain⟨⟨cls,dd,data,sl⟩,ho,hc,n,hd⟩:=id ht;simp only at hc hd;subst hc hd
  refine wpAny_binaryOp_repeat_ref (T:="tuple") (U:="int") (by decide) ⟨_,ho,rfl⟩ (λs'=>typeIs_int s' 1 t) KQ F.fills_int_mul F.slot_int_rmul KR F.slot_int_index.lookup
   (call_meets F.slot_int_rmul (typeIs_int s 1 t) F.entry_int_rmul (F.args_int_rmul_2 _ _) (KS 1 t a its.toArray n dd sl) ⟨ho,rfl,⟨_,ho,rfl⟩,?_⟩)
  refine call_meets F.slot_tuple_mul ⟨_,ho,rfl⟩ F.entry_tuple_mul (F.args_tuple_mul_2 _ _) (PC a its.toArray n dd sl t) ⟨ho,?_⟩
  refine⟨.ref a,H,I,rfl,q a H (Ab.refl _) ?_⟩
  rw [ha]
  simp
 ·exact O1 pins s σ H _ _ v u Q I rx ry ⟨a,k,xs,rfl,rfl,ha,hx,by omega,h2,h3,q⟩
end
end L2
end
section
namespace L2
open PySem PySem.Spec PyProof.Rows
variable {sc : Scope}
section
variable {X : Cx}
def Gu (sc:Scope) (x:Str):Bool:=match sc.names.lookup x with | some .local =>true | some .cell=>true | some .free=>true | _=>false
def Gv (sc:Scope) (x:Str):Bool:=match sc.names.lookup x with | some .local =>true | some .cell=>true | _=>false
def Gw (sc:Scope) (x:Str):Bool:=match sc.names.lookup x with | some .local =>true | _=>false
theorem PH {x:Str} (h:Gu sc x=true):Ez sc x:=by
 unfold Gu at h
 split at h
 ·exact .inl (by assumption)
 ·exact .inr (.inl (by assumption))
 ·exact .inr (.inr (by assumption))
 ·cases h
theorem AE {x:Str} (h:Gv sc x=true):DE sc x:=by
 unfold Gv at h
 split at h
 ·exact .inl (by assumption)
 ·exact .inr (by assumption)
 ·cases h
theorem Cf {f:Bool}{x:Str} (h:(f || Gw sc x)=true):f=true\/sc.names.lookup x=some .local :=by
 rcases Bool.or_eq_true_iff.mp h with h | h
 ·exact .inl h
 ·unfold Gw at h
  split at h
  ·exact .inr (by assumption)
  ·cases h
theorem cw (i:Nat) {x:Str}{pos:Pos} (hN:X.N[i]? =some x) (hv:Gu X.env.scope x=true) (hd:(x==("__debug__" :Str) || x==("__classdict__" :Str))=false):PE X (.Name x pos) (Ce i):=
 cv i hN (PH hv) (Bool.or_eq_false_iff.mp hd).1 (Bool.or_eq_false_iff.mp hd).2
theorem PJ {x:Str}{pos:Pos} (i:Nat) (hN:X.N.Nodup) (hi:X.N[i]? =some x) (hx:Gv X.env.scope x=true) (hf:(X.fn x || Gw X.env.scope x)=true):PG X (.Name x pos) (Ee i):=Nb hN hi (AE hx) (Cf hf)
def Lk (X:Cx) (i:Nat) (x:Str):Bool:=X.N[i]? ==some x &&(Gu X.env.scope x && !(x==("__debug__" :Str) || x==("__classdict__" :Str)))
theorem cx (i:Nat) {x:Str}{pos:Pos} (h:Lk X i x=true):PE X (.Name x pos) (Ce i):=by
 obtain⟨h1,h2⟩:=Bool.and_eq_true_iff.mp h
 obtain⟨h2,h3⟩:=Bool.and_eq_true_iff.mp h2
 exact cw i (eq_of_beq h1) h2 (by simpa using h3)
def Ll (X:Cx) (i:Nat) (x:Str):Bool:=X.N[i]? ==some x &&(Gv X.env.scope x &&(X.fn x || Gw X.env.scope x))
theorem Cu {x:Str}{pos:Pos} (i:Nat) (hN:X.N.Nodup) (h:Ll X i x=true):PG X (.Name x pos) (Ee i):=by
 obtain⟨h1,h2⟩:=Bool.and_eq_true_iff.mp h
 obtain⟨h2,h3⟩:=Bool.and_eq_true_iff.mp h2
 exact PJ i hN (eq_of_beq h1) h2 h3
theorem AJ {l:List Str} (h:decide l.Nodup=true):l.Nodup:=of_decide_eq_true h
def nS:Expr->Bool | .Starred _ _=>false | _=>true
theorem Gx {e:Expr}{es:List Expr}{env:Env} (h:nS e=true):starEach (e::es) env=(false,eval e env)::starEach es env:=by
 cases e<;>first | rfl | exact absurd h Bool.false_ne_true
section
variable {e1 e2 e3 e4 : Expr} {t1 t2 t3 t4 : TE}
theorem AU (h1:PE X e1 t1) (hs:nS e1=true):PA X [e1] (Bp t1 CV):=CW h1 pa_nil (Gx hs)
theorem BC (h1:PE X e1 t1) (h2:PE X e2 t2) (hs:(nS e1 && nS e2)=true):PA X [e1,e2] (Bp t1 (Bp t2 CV)):=CW h1 (AU h2 (Bool.and_eq_true_iff.mp hs).2) (Gx (Bool.and_eq_true_iff.mp hs).1)
theorem Cg (h1:PE X e1 t1) (h2:PE X e2 t2) (h3:PE X e3 t3) (hs:(nS e1 &&(nS e2 && nS e3))=true):PA X [e1,e2,e3] (Bp t1 (Bp t2 (Bp t3 CV))):=CW h1 (BC h2 h3 (Bool.and_eq_true_iff.mp hs).2) (Gx (Bool.and_eq_true_iff.mp hs).1)
theorem BZ (h1:PE X e1 t1) (h2:PE X e2 t2) (h3:PE X e3 t3) (h4:PE X e4 t4) (hs:(nS e1 &&(nS e2 &&(nS e3 && nS e4)))=true):PA X [e1,e2,e3,e4] (Bp t1 (Bp t2 (Bp t3 (Bp t4 CV)))):=CW h1 (Cg h2 h3 h4 (Bool.and_eq_true_iff.mp hs).2) (Gx (Bool.and_eq_true_iff.mp hs).1)
end
end
end L2
end
section
namespace L2
open PySem PySem.Spec PyProof.Rows
section
variable {X : Cx}
theorem cy (i:Nat) {x:Str}{pos:Pos} (h:Lk X i x=true:=by rfl):PE X (.Name x pos) (Ce i):=cx i h
theorem Aj {x:Str}{pos:Pos} (i:Nat) (hN:X.N.Nodup) (h:Ll X i x=true:=by rfl):PG X (.Name x pos) (Ee i):=Cu i hN h
section
variable {e1 e2 e3 e4 : Expr} {t1 t2 t3 t4 : TE}
theorem Ao (h1:PE X e1 t1) (hs:nS e1=true:=by rfl):PA X [e1] (Bp t1 CV):=AU h1 hs
theorem Am (h1:PE X e1 t1) (h2:PE X e2 t2) (hs:(nS e1 && nS e2)=true:=by rfl):PA X [e1,e2] (Bp t1 (Bp t2 CV)):=BC h1 h2 hs
theorem AG (h1:PE X e1 t1) (h2:PE X e2 t2) (h3:PE X e3 t3) (hs:(nS e1 &&(nS e2 && nS e3))=true:=by rfl):PA X [e1,e2,e3] (Bp t1 (Bp t2 (Bp t3 CV))):=Cg h1 h2 h3 hs
theorem CK (h1:PE X e1 t1) (h2:PE X e2 t2) (h3:PE X e3 t3) (h4:PE X e4 t4) (hs:(nS e1 &&(nS e2 &&(nS e3 && nS e4)))=true:=by rfl):PA X [e1,e2,e3,e4] (Bp t1 (Bp t2 (Bp t3 (Bp t4 CV)))):=BZ h1 h2 h3 h4 hs
end
end
end L2
end
section
namespace L2
open PySem PySem.Spec PyProof.Rows
section
variable {X : Cx}
end
end L2
namespace MF
open PySem PySem.Spec PyProof.Rows L2
end MF
end
section
namespace L2
open PySem PySem.Spec PyProof.Rows
abbrev DR (elt tg1 it1:Expr) (ifs1:List Expr) (tg2 it2:Expr) (ifs2:List Expr) (scope:Scope) (pos:Pos):Expr:= .ListComp elt [⟨tg1,it1,ifs1,0⟩,⟨tg2,it2,ifs2,0⟩] scope pos
section
variable {prog : Program} {w : World} {A : Around} {R : Result -> Shared -> Prop} {s : Shared} {elt tg1 it1 tg2 it2 : Expr} {ifs1 ifs2 : List Expr} {scope : Scope} {pos : Pos} {it acc : Value} {env : Env}
theorem PK (h0:codeAny (model prog w) A (.compLoop (DR elt tg1 it1 ifs1 tg2 it2 ifs2 scope pos) 1 it acc env) R s)
  (h:wpAny (model prog w) A (pyIter it) (λit' s'=>codeAny (model prog w) A (.compLoop (DR elt tg1 it1 ifs1 tg2 it2 ifs2 scope pos) 1 it' acc env) R s') (notedBy (model prog w) A env λx s'=>R (.error x) s') s):
  codeAny (model prog w) A (.compStart (DR elt tg1 it1 ifs1 tg2 it2 ifs2 scope pos) 1 it acc env) R s:=by
 refine codeAny_of_tree (id (wpAny_notedAt (id (id (wpAny_bind (wpAny_askSetting (wpAny_ite ?_)))))))
 split
 ·exact wpAny_bind (wpAny_pure (wpAny_pure ⟨rfl,h0⟩))
 ·exact wpAny_bind (wpAny_rule (wpAny_bind (wpAny_standAt (wpAny_bind (wpAny_mono h (λit' s' h'=>wpAny_pure ⟨rfl,h'⟩) λ_ _ z=>z)))))
end
def Gy (wi2:TI) (g2:TG) (tt2:TT) (te:TE):St->List V->Hp->(List V->Hp->Prop)->Prop:=fun σ ys H N=>wi2 σ H λJ H1=>
 ∃W:Nat->Nat->List V->Hp->Prop,(∃m,W 0 m ys H1)/\∀j m zs H,W j m zs H->
  (J.stop j H/\N zs H)\/
  (J.go j H /\ zs.length < sizeLine /\ ∃ N2 : List V -> Hp -> Prop, (∀ zs' H', N2 zs' H' -> ∃ m', m' < m /\ W (j + 1) m' zs' H') /\ ∀ x H', J.yld j H x H' -> g2 x σ H' fun σ3 H2 => Keep σ σ3 /\ tt2 σ3 H2 λb H3 =>
   br b (te σ3 H3 λy H4=>N2 (zs++[y]) H4) (N2 zs H3))
def Lm (wi:TI) (cap:List (Option Nat)) (g:TG) (tt:TT) (wi2:TI) (g2:TG) (tt2:TT) (te:TE):St->Hp->(List V->Hp->Prop)->Prop:=fun σ H Q=>wi σ H λJ H1=>
 ∃W:Nat->Nat->List V->Hp->Prop,(∃m,W 0 m [] H1)/\∀i m ys H,W i m ys H->
  (J.stop i H/\Q ys H)\/
  (J.go i H /\ ∃ N : List V -> Hp -> Prop, (∀ ys' H', N ys' H' -> ∃ m', m' < m /\ W (i + 1) m' ys' H') /\ ∀ x H', J.yld i H x H' -> g x (A4 cap σ) H' fun σ2 H2 => Keep (A4 cap σ) σ2 /\ tt σ2 H2 λb H3 =>
   br b (Gy wi2 g2 tt2 te σ2 ys H3 N) (N ys H3))
theorem PN {X:Cx}{tg iter tg2 iter2 elt:Expr}{ifs ifs2:List Expr}{scope:Scope}{pos pos':Pos}{wi wi2:TI}{g g2:TG}{tt tt2:TT}{te:TE}{N':List Str}{cap:List (Option Nat)}{use:Option (Value->Sem Unit)}{Q':Value->Shared->Prop}
  {pins:List (Addr×Obj)}{s:Shared}{σ:St}{H:Hp}{Q:List V->Hp->Prop}
  (hc:X.calm=true) (hi:PI X tg iter wi) (B:AO X.env.scope X.N scope N' cap) (hg:∀s H ex C,PG (A8 X N' scope s H ex C) tg g) (ht:∀s H ex C,CJ (A8 X N' scope s H ex C) ifs tt)
  (hi2:∀s H ex C,PI (A8 X N' scope s H ex C) tg2 iter2 wi2) (hg2:∀s H ex C,PG (A8 X N' scope s H ex C) tg2 g2) (ht2:∀s H ex C,CJ (A8 X N' scope s H ex C) ifs2 tt2) (he:∀s H ex C,PE (A8 X N' scope s H ex C) elt te)
  (hs:∀x,foldedSetIterable iter X.env x=pure x) (hs2:∀env x,foldedSetIterable iter2 env x=pure x) (I:Ae X pins σ H s) (h:Lm wi cap g tt wi2 g2 tt2 te σ H Q)
  (fin:∀(acc C:Addr) (H:Hp) (ys:List V) (s':Shared),H acc=none->Ae X pins σ (upd H acc (.lst ys)) s'->II X pins C (upd H acc (.lst ys)) s'->Q ys H->compPost (model X.prog X.w) X.A X.xe use Q' (.ref acc) C (.ok .next) s'):
  wpAny (model X.prog X.w) X.A (comprehension (DR elt tg iter ifs tg2 iter2 ifs2 scope pos) scope X.env pos' (newList []) false (eval iter X.env) use) Q' X.xe s:=
 KB Oo (body:=λitv acc env=>IJ (DR elt tg iter ifs tg2 iter2 ifs2 scope pos) 0 iter2 itv acc env) (Bt:=KA Kx wi2 g2 tt2 (IK te)) (Cd:=λ_=>True) hc hi B hg ht (λ_ _ _=>rfl)
  (λs H ex C a A=>Op (body:=λitv=>Gc (DR elt tg iter ifs tg2 iter2 ifs2 scope pos) 1 elt itv (.ref a) _) A rfl (hs2 _) (λ_=>rfl) PK (hi2 s H ex C) (hg2 s H ex C) (ht2 s H ex C) (Kz A rfl (he s H ex C)) λ_ _ z=>z) (λ_ _ z=>⟨trivial,z⟩) hs I h fin
end L2
end
section
namespace L2
open PySem PySem.Spec PyProof.Rows
section
variable {X : Cx}
end
def PP (J:It) (g2:TG) (tt2:TT) (te:TE) (σ:St) (ys:List V) (N:List V->Hp->Prop) (H1:Hp):Prop:=
 ∃W:Nat->Nat->List V->Hp->Prop,(∃m,W 0 m ys H1)/\∀j m zs H,W j m zs H->
  (J.stop j H/\N zs H)\/
  (J.go j H /\ zs.length < sizeLine /\ ∃ N2 : List V -> Hp -> Prop, (∀ zs' H', N2 zs' H' -> ∃ m', m' < m /\ W (j + 1) m' zs' H') /\ ∀ x H', J.yld j H x H' -> g2 x σ H' fun σ3 H2 => Keep σ σ3 /\ tt2 σ3 H2 λb H3 =>
   br b (te σ3 H3 λy H4=>N2 (zs++[y]) H4) (N2 zs H3))
def PQ (J:It) (cap:List (Option Nat)) (g:TG) (tt:TT) (wi2:TI) (g2:TG) (tt2:TT) (te:TE) (σ:St) (Q:List V->Hp->Prop) (H1:Hp):Prop:=
 ∃W:Nat->Nat->List V->Hp->Prop,(∃m,W 0 m [] H1)/\∀i m ys H,W i m ys H->
  (J.stop i H/\Q ys H)\/
  (J.go i H /\ ∃ N : List V -> Hp -> Prop, (∀ ys' H', N ys' H' -> ∃ m', m' < m /\ W (i + 1) m' ys' H') /\ ∀ x H', J.yld i H x H' -> g x (A4 cap σ) H' fun σ2 H2 => Keep (A4 cap σ) σ2 /\ tt σ2 H2 λb H3 =>
   br b (Gy wi2 g2 tt2 te σ2 ys H3 N) (N ys H3))
end L2
namespace MF
open PySem PySem.Spec PyProof.Rows L2
def PR (P:PL) (F:List (List Int)):List Int:=(List.range P.bs.length).map λb=>(F.map λr=>r.getD b 0).sum
def coal (P:PL) (F:List (List Int)):Int:=(((PR P F).zip P.bs).map λq=>q.1 * q.2.2).sum
end MF
end
section
namespace MF
open PySem PySem.Spec PyProof.Rows L2
abbrev Lt (d:PyData):List Nat:=d.shown.cps.toList
def tail (c:Nat):List PyData->List Nat
 | []=>[c]
 | d::ds=>44::32::(Lt d++tail c ds)
end MF
end
section
namespace L2
open PySem PySem.Spec PyProof.Rows
theorem EQ {P:Program}{w:World}{K:PySem.W.Frag}{S1 S2:A9 P w K}{a b:Addr}{xs ys:List V}{g:TG}{tb:TS}{D:DF}{σ:St}{H:Hp} (Pv:Nat->St->Hp->Prop) (he:xs.length=ys.length) (h0:Pv 0 σ H) (hl:∀i σ H,Pv i σ H->S1.Sq H a xs/\S2.Sq H b ys)
  (hs:∀i x y σ H T,xs[i]? =some x->ys[i]? =some y->Pv i σ H->H T=none->g (.ref T) σ (upd H T (.tup [x,y])) fun σ2 H2=>tb { D with nx:=Pv (i+1),ct:=Pv (i+1),bk:=D.nx} σ2 H2) (hd:∀σ H,Pv xs.length σ H->D.nx σ H):
  ∃W:Nat->Nat->St->Hp->Prop,(∃m,W 0 m σ H)/\∀i m σ H,W i m σ H->
   ((El S1 S2 a b).stop i H/\D.nx σ H)\/((El S1 S2 a b).go i H/\∃N:St->Hp->Prop,(∀σ' H',N σ' H'->∃m',m'<m/\W (i+1) m' σ' H')/\∀x H',(El S1 S2 a b).yld i H x H'->g x σ H' fun σ2 H2=>tb { D with nx:=N,ct:=N,bk:=D.nx} σ2 H2):=by
 refine⟨λi m σ H=>m=xs.length-i/\i<=xs.length/\Pv i σ H,⟨xs.length,by simp,Nat.zero_le _,h0⟩,?_⟩
 rintro i m σ H ⟨rfl,hi,p⟩
 obtain⟨q1,q2⟩:=hl i σ H p
 by_cases hlt:i<xs.length
 ·have hy:i<ys.length:=by omega
  refine .inr ⟨⟨xs,ys,xs[i],ys[i],q1,q2,by simp [hlt],by simp [hy]⟩,Pv (i+1),fun σ' H' p'=>⟨xs.length-(i+1),by omega,rfl,hlt,p'⟩,λv H' ⟨T,e,n,y⟩=>?_⟩
  subst e
  rw [y xs ys xs[i] ys[i] q1 q2 (by simp [hlt]) (by simp [hy])]
  exact hs i xs[i] ys[i] σ H T (by simp [hlt]) (by simp [hy]) p n
 ·obtain rfl:i=xs.length:=by omega
  exact .inl ⟨⟨xs,ys,q1,q2,rfl⟩,hd σ H p⟩
section
variable {X : Cx}
end
end L2
namespace MF
open PySem PySem.Spec PyProof.Rows L2
end MF
namespace L2
open PySem PySem.Spec PyProof.Rows
section
variable {X : Cx}
end
end L2
end
section
namespace L2
open PySem PySem.Spec PyProof.Rows
theorem PU {lo:Int}{n:Nat}{g:TG}{tt:TT}{te:TE}{σ:St}{ys:List V}{Q:List V->Hp->Prop}{H:Hp} (Pv:Nat->List V->Hp->Prop) (h0:Pv 0 ys H) (hz:∀i zs H,Pv i zs H->zs.length<100000)
  (hs:∀i zs H,i<n->Pv i zs H->g (.int (lo+i)) σ H fun σ2 H2=>Keep σ σ2/\tt σ2 H2 λb H3=>br b (te σ2 H3 λy H4=>Pv (i+1) (zs++[y]) H4) (Pv (i+1) zs H3))
  (hd:∀zs H,Pv n zs H->Q zs H):PP (Dn lo n) g tt te σ ys Q H:=by
 refine⟨λi m zs H=>m=n-i/\i<=n/\Pv i zs H,⟨n,by simp,Nat.zero_le _,h0⟩,?_⟩
 rintro i m zs H ⟨rfl,hi,p⟩
 by_cases hlt:i<n
 ·refine .inr ⟨hlt,Nat.lt_trans (hz i zs H p) (by decide),Pv (i+1),λzs' H' p'=>⟨n-(i+1),by omega,rfl,hlt,p'⟩,λv H' ⟨e,y⟩=>?_⟩
  subst e y
  exact hs i zs _ hlt p
 ·obtain rfl:i=n:=by omega
  exact .inl ⟨Nat.le_refl _,hd zs H p⟩
def PV (i:Nat) (wi:TI) (cap:List (Option Nat)) (g:TG) (tt:TT) (wi2:TI) (g2:TG) (tt2:TT) (te:TE):TS:=λD σ H=>Lm wi cap g tt wi2 g2 tt2 te σ H λys H'=>∀p,H' p=none->D.nx (σ.set i (some (.ref p))) (upd H' p (.lst ys))
theorem PX {X:Cx}{i:Nat}{y:Str}{tg iter tg2 iter2 elt:Expr}{ifs ifs2:List Expr}{scope:Scope}{pos pos' pos'':Pos}{wi wi2:TI}{g g2:TG}{tt tt2:TT}{te:TE} (N':List Str) (cap:List (Option Nat)) (hN:X.N.Nodup) (hin:X.N[i]? =some y) (hy:DE X.env.scope y)
  (hc:X.calm=true) (hi:PI X tg iter wi) (B:AO X.env.scope X.N scope N' cap) (hg:∀s H ex C,PG (A8 X N' scope s H ex C) tg g) (ht:∀s H ex C,CJ (A8 X N' scope s H ex C) ifs tt)
  (hi2:∀s H ex C,PI (A8 X N' scope s H ex C) tg2 iter2 wi2) (hg2:∀s H ex C,PG (A8 X N' scope s H ex C) tg2 g2) (ht2:∀s H ex C,CJ (A8 X N' scope s H ex C) ifs2 tt2) (he:∀s H ex C,PE (A8 X N' scope s H ex C) elt te)
  (hsw:swapsWith (DR elt tg iter ifs tg2 iter2 ifs2 scope pos) (some (.Name y pos')) pos''.line X.env=pure true:=by rfl)
  (hf:X.fn y=true\/X.env.scope.names.lookup y=some .local :=by first | exact .inl rfl | exact .inr rfl | assumption)
  (hs:∀x,foldedSetIterable iter X.env x=pure x:=by intro _;rfl) (hs2:∀env x,foldedSetIterable iter2 env x=pure x:=by intro _ _;rfl):PS X (.Assign [.Name y pos'] (.ListComp elt [⟨tg,iter,ifs,0⟩,⟨tg2,iter2,ifs2,0⟩] scope pos) pos'') (PV i wi cap g tt wi2 g2 tt2 te):=by
 intro pins s σ H D I h
 rw [exec_Assign_Name_used _ _ _ _ hsw]
 refine wpAny_bind (wpAny_standAt (wpAny_bind ?_))
 show wpAny _ X.A (do let _<-comprehension (DR elt tg iter ifs tg2 iter2 ifs2 scope pos) scope X.env _ (newList []) false (eval iter X.env) (some (assign (.Name y pos') X.env))) _ _ s
 refine wpAny_bind (wpAny_mono (PN (use:=some (assign (.Name y pos') X.env)) (Q':=λ_ s'=>SP X pins D .next s') hc hi B hg ht hi2 hg2 ht2 he hs hs2 I h λacc C H ys s' hn I' L q=>?_) (λ_ s' hq=>wpAny_pure (wpAny_pure hq)) λ_ _ e=>e)
 obtain⟨m,hm⟩:=L.ns
 refine wpAny_assign_Name (H0 I' hN hin hy (show AH (.ref acc) (.ref acc) from rfl) (λs'' I'' ⟨a,sb,ha⟩=>?_) hf)
 have hCa:C≠a:=by
  rcases ha with e | e
  ·rw [e];exact L.loc
  ·exact λz=>L.cell _ _ e z.symm
 refine⟨m,hm.sameBut sb hCa,λh' hsb=>?_⟩
 exact⟨_,_,I''.turned (t':=s''.toks) (it:=C) (λb o hb e=>hsb.extBut b o hb e) L.free L.loc (.inr L.sz) L.cell L.pin,q acc hn⟩
theorem PY (l b:Addr) (es:Array PySem.DictEntry) (ep:Nat) (items2:Array Value) (n2:Nat) (dd dd2:Option Addr) (sl sl2:Array (Option Value)):
  Meets (Builtin.«dict.__eq__» ⟨[.ref l,.ref b],[]⟩) (λ_ R s=>s.heap.get? l=some { cls:= .type "dict",dict:=dd,data:= .dict es ep,slots:=sl}/\s.heap.get? b=some { cls:= .type "tuple",dict:=dd2,data:= .seq items2 n2,slots:=sl2}/\R (.ok (.ret .notImplemented)) s):=
 .of_wp λprog w A R s h=>by obtain⟨hp,g,d,tk,os⟩:=s;obtain⟨hl,hb,h⟩:=h;have f1:=F.sub_tuple_dict;wp_walk using AutoSeq1.wpAny_loadPart' hl,AutoSeq1.wpAny_loadPart' hb;exact⟨_,rfl,h⟩
theorem PZ (l b:Addr) (es:Array PySem.DictEntry) (ep:Nat) (items:Array Value) (n:Nat) (dd dd2:Option Addr) (sl sl2:Array (Option Value)):
  Meets (Builtin.«tuple.__eq__» ⟨[.ref l,.ref b],[]⟩) (λ_ R s=>s.heap.get? l=some { cls:= .type "tuple",dict:=dd,data:= .seq items n,slots:=sl}/\s.heap.get? b=some { cls:= .type "dict",dict:=dd2,data:= .dict es ep,slots:=sl2}/\R (.ok (.ret .notImplemented)) s):=
 .of_wp λprog w A R s h=>by obtain⟨hp,g,d,tk,os⟩:=s;obtain⟨hl,hb,h⟩:=h;have f1:=F.sub_dict_tuple;wp_walk using AutoSeq1.wpAny_loadPart' hl,AutoSeq1.wpAny_loadPart' hb;exact⟨_,rfl,h⟩
section
variable {X : Cx}
def P0:R2:=λx y H Q=>∃p d e,Aa p H d x/\Aa p H e y/\e.canLay0=true/\e.hasDict=false/\e.depth<=20/\((d.canLay0=true/\d.hasDict=false/\Q (.bl (PyData.eqv d e)) H)\/(d= .dict []/\(∃es,e= .tuple es)/\Q (.bl false) H))
theorem Ln {k:Nat} (hr:Bo k X.A):OpR X (compareOp .Eq) P0:=by
 intro pins s σ H x y v u Q I rx ry h
 obtain⟨p,d,e,rd,re,ce,he,dp,h⟩:=h
 have un:=hr.un
 obtain⟨bs,rb⟩:=Aa.reads I e y u he re ry
 rcases h with⟨cd,hd,q⟩ | ⟨rfl,⟨es,rfl⟩,q⟩
 ·obtain⟨as,ra⟩:=Aa.reads I d x v hd rd rx
  exact SeqAt.compareEq_reads ra rb cd ce (by omega) (AW I q rfl)
 ·unfold Aa at rd re
  obtain⟨l,ks,rfl,_,_,hb⟩:=rd
  obtain⟨b,xs,rfl,hbt,_⟩:=re
  cases rx
  cases ry
  obtain⟨_,hne,vs,kv,o,es',ep,ho,hx,hdt,_⟩:=I.hok l _ hb
  obtain⟨its,rv,⟨o2,ho2,hc2,n2,hdt2⟩,_⟩:=I.tuple (Ac.of hbt)
  have hne:l≠b:=by
   intro z
   subst z
   rw [hb] at hbt
   cases hbt
  have hc:=hx.1
  obtain⟨cls,dd,data,sl⟩:=o
  obtain⟨cls2,dd2,data2,sl2⟩:=o2
  simp only at hc hdt hc2 hdt2
  subst hc hdt hc2 hdt2
  exact SeqAt.rc_eq_decline_or (k:=false) ⟨_,ho,rfl⟩ ⟨_,ho2,rfl⟩ (by decide) F.sub_tuple_dict F.slot_dict_eq F.slot_tuple_eq_refl
   (λ_ hq=>call_meets F.slot_dict_eq ⟨_,ho,rfl⟩ F.entry_dict_eq (F.args_dict_eq_2 _ _) (PY l b es' ep its.toArray n2 dd dd2 sl sl2) ⟨ho,ho2,hq⟩)
   (λ_ hq=>call_meets F.slot_tuple_eq_refl ⟨_,ho2,rfl⟩ F.entry_tuple_eq (F.args_tuple_eq_2 _ _) (PZ b l es' ep its.toArray n2 dd2 dd sl2 sl) ⟨ho2,ho,hq⟩)
   (λ_ hq=>PySem.wpAny_isSame_ref_other hne ho ho2 (by simp) hq) (.inr (by omega)) (AW I q rfl)
end
end L2
namespace MF
open PySem PySem.Spec PyProof.Rows L2
variable {α : Type} {xs : List α} {k : Nat}
structure TM where
 cs:List (List Int)
 co:List Int
 ds:List Int
 lo:Int
 hi:Int
 st:Int
def TM.d (T:TM):PyData:= .tuple [FD T.cs,Ay T.co,Ay T.ds,.tuple [.int T.lo,.int T.hi,.int T.st]]
def terms (P:PL) (S:SY):TM:=⟨caps P S,P.bs.map (·.2),draws P S,P.lo,P.hi,P.st⟩
structure TM.ok (T:TM):Prop where
 l8:T.ds.length<=8
 lc:T.cs.length=T.ds.length
theorem Fq {P:PL}{S:SY}{n:Nat} (so:S.ok n):(terms P S).ok:=⟨by show(draws P S).length<=8;rw [C2];exact so.x8,by show(caps P S).length=(draws P S).length;rw [A7,C2]⟩
def part {α:Type} (xs:List α) (f l:Nat):List α:=(xs.drop f).take (l+1-f)
theorem Lo {f l:Nat} (h:f<=l) (hl:l<xs.length):(part xs f l).length=l+1-f:=by
 unfold part;rw [List.length_take,List.length_drop];omega
theorem Gz {xs:List V}{f l:Nat} (h:f<=l) (hl:l<xs.length):Bq xs (some (f:Int)) (some ((l:Int)+1))=part xs f l:=by
 have e:((l:Int)+1)=((l+1:Nat):Int):=by omega
 unfold Bq part
 rw [e,HT.sIx_nat,HT.sIx_nat,Nat.min_eq_left (by omega),Nat.min_eq_left (by omega)]
theorem GB {β:Type}{g:α->β}{f l:Nat}:part (xs.map g) f l=(part xs f l).map g:=by
 unfold part;rw [<-List.map_drop,<-List.map_take]
theorem Ad.part {p:Addr}{H:Hp}:∀ {ds:List PyData}{xs:List V},Ad p H ds xs->∀f l,Ad p H (MF.part ds f l) (MF.part xs f l):=by
 have dr:∀ {ds:List PyData}{xs:List V},Ad p H ds xs->∀f,Ad p H (ds.drop f) (xs.drop f):=by
  intro ds
  induction ds with
  | nil=>intro xs r f;unfold Ad at r;subst r;rw [List.drop_nil,List.drop_nil];exact .nil
  | cons d ds ih=>
   intro xs r f
   have r':=r
   unfold Ad at r
   obtain⟨x,t,rfl,rx,rt⟩:=r
   cases f with
   | zero=>exact r'
   | succ f=>exact ih rt f
 have tk:∀ {ds:List PyData}{xs:List V},Ad p H ds xs->∀f,Ad p H (ds.take f) (xs.take f):=by
  intro ds
  induction ds with
  | nil=>intro xs r f;unfold Ad at r;subst r;rw [List.take_nil,List.take_nil];exact .nil
  | cons d ds ih=>
   intro xs r f
   unfold Ad at r
   obtain⟨x,t,rfl,rx,rt⟩:=r
   cases f with
   | zero=>exact .nil
   | succ f=>exact .cons rx (ih rt f)
 intro ds xs r f l
 exact tk (dr r f) _
def most (T:TM) (f l:Nat):Int:=((part T.cs f l).map List.sum).sum
def Jf (T:TM) (f l:Nat):Int:=(part T.ds f l).sum
def BL (T:TM) (f l:Nat):Bool:=decide ((if f=0 then T.st else T.hi)+most T f l<Jf T f l+T.lo)
def C3 (f k:Nat):List (Nat×Nat):=(List.range k).map λi=>(f,f+i)
def C4 (n k:Nat):List (Nat×Nat):=((List.range k).map λf=>C3 f (n-f)).flatten
abbrev pD (q:Nat×Nat):PyData:= .tuple [.int q.1,.int q.2]
theorem P3 {f:Nat}:C3 f (k+1)=C3 f k++[(f,f+k)]:=by unfold C3;rw [List.range_succ,List.map_append];rfl
theorem Jg {n:Nat}:C4 n (k+1)=C4 n k++C3 k (n-k):=by unfold C4;rw [List.range_succ,List.map_append,List.flatten_append];simp
theorem P4 {n:Nat} (h:k<=n):∀q∈C4 n k,q.1<=q.2/\q.2<n:=by
 intro q hq
 unfold C4 at hq
 obtain⟨l,hl,hq⟩:=List.mem_flatten.mp hq
 obtain⟨f,hf,rfl⟩:=List.mem_map.mp hl
 obtain⟨i,hi,rfl⟩:=List.mem_map.mp hq
 have:=List.mem_range.mp hf
 have:=List.mem_range.mp hi
 exact⟨by show f<=f+i;omega,by show f+i<n;omega⟩
def Fs (T:TM):List (Nat×Nat):=(C4 T.ds.length T.ds.length).filter λq=>BL T q.1 q.2
def Co (T:TM):Option (Nat×Nat):=(Fs T).head?
def DS:Option (Nat×Nat)->PyData
 | none=> .none
 | some q=>pD q
def Dg (T:TM) (f:Nat):Nat->Int
 | 0=>if f=0 then T.st else T.hi
 | k+1=>Dg T f k+(T.cs.getD (f+k) []).sum-T.ds.getD (f+k) 0
theorem Lp {f:Nat}{x:α} (h:xs[f+k]? =some x):(xs.drop f).take (k+1)=(xs.drop f).take k++[x]:=A3 (by rw [List.getElem?_drop];exact h)
theorem Lr {T:TM} (ok:T.ok) {f:Nat}:∀k,f+k<=T.ds.length->Dg T f k=(if f=0 then T.st else T.hi)+(((T.cs.drop f).take k).map List.sum).sum-((T.ds.drop f).take k).sum
 | 0,_=>by rw [List.take_zero,List.take_zero,List.map_nil,List.sum_nil];show(if f=0 then T.st else T.hi)=_;omega
 | k+1,h=>by
  have ih:=Lr ok (f:=f) k (by omega)
  have lc:=ok.lc
  have h1:T.cs[f+k]? =some (T.cs.getD (f+k) []):=by rw [List.getD_eq_getElem?_getD,List.getElem?_eq_getElem (by omega)];rfl
  have h2:T.ds[f+k]? =some (T.ds.getD (f+k) 0):=Lh (by omega)
  rw [Lp h1,Lp h2,List.map_append,List.sum_append,List.sum_append,List.map_cons,List.map_nil,List.sum_cons,List.sum_nil,List.sum_cons,List.sum_nil]
  show Dg T f k+_-_=_
  omega
def Jh (T:TM) (f l:Nat):Bool:=decide (Dg T f (l+1-f)<T.lo)
theorem P5 {T:TM} (ok:T.ok) {f l:Nat} (h:f<=l) (hl:l<T.ds.length):Jh T f l=BL T f l:=by
 unfold Jh BL most Jf part
 rw [Lr ok _ (by omega),Bool.eq_iff_iff,decide_eq_true_eq,decide_eq_true_eq]
 omega
end MF
end
section
namespace L2
open PySem PySem.Spec PyProof.Rows
section
variable {X : Cx} {pos : Pos}
end
end L2
end
section
namespace L2
open PySem PySem.Spec PyProof.Rows
section
variable {X : Cx}
end
section
variable {X : Cx}
end
section
variable {X : Cx}
def GC (d:PyData) (ss:List Str):Bool:=match d with | .str z=>ss.any (λy=>y==z) | _=>false
def Ft (d:PyData) (u:Value):Bool:=match d with | .str z=>(match u with | .str a _=>a==z | _=>false) | _=>false
def P6 (K:PySem.W.Frag):R2:=λx y H Q=>∃p q ss d,y= .ref q/\Ac K H q (List.map V.str ss)/\Aa p H d x/\(∀kvs,d≠ .dict kvs)/\Q (.bl (!GC d ss)) H
theorem Ls {d:PyData}:∀ {ss:List Str}{us:List Value},Ar (ss.map V.str) us->us.any (Ft d)=GC d ss
 | [],us,h=>by cases h;cases d<;>rfl
 | a::ss,us,h=>by
  cases h with
  | cons r t=>
   obtain⟨k,rfl⟩:=r
   rw [List.any_cons,Ls t]
   cases d<;>first | rfl | (simp [GC,Ft])
theorem Lu:∀ {ss:List Str}{us:List Value},Ar (ss.map V.str) us->∀u∈us,∃a t,u=Value.str a t
 | [],us,h=>by cases h;intro u hu;cases hu
 | a::ss,us,h=>by
  cases h with
  | cons r t=>
   intro u hu
   rcases List.mem_cons.mp hu with rfl | hu
   ·obtain⟨k,rfl⟩:=r;exact⟨_,_,rfl⟩
   ·exact Lu t u hu
theorem P7 {k:Nat} (K:PySem.W.Frag) (hr:Bo k X.A) (hK:X.K=K:=by rfl):OpR X (compareOp .NotIn) (P6 K):=by
 subst hK
 intro pins s σ H x y v u Q I rx ry h
 obtain⟨p,qa,ss,d,rfl,hq,rd,nd,q⟩:=h
 cases ry
 have un:=hr.un
 have in1:X.A.in1.units<=X.A.units+1:=by first | exact Nat.le_refl _ | exact Nat.le_succ _ | (unfold PySem.Around.in1;simp)
 obtain⟨its,r,pl,hz⟩:=I.tuple hq
 refine SeqAt.notIn_tupleAt (Ft d) pl (λw hw=>?_) ⟨.bl _,H,I,rfl,?_⟩
 ·obtain⟨a,t,rfl⟩:=Lu r w (by simpa using hw)
  cases d with
  | none=>unfold Aa at rd;subst rd;cases rx;exact SeqAt.EqAt.str_none a t
  | bool b=>unfold Aa at rd;subst rd;cases rx;exact SeqAt.EqAt.str_bool a t b
  | int i=>unfold Aa at rd;subst rd;obtain⟨t',rfl⟩:=rx;exact SeqAt.EqAt.str_int a t i t'
  | str z=>unfold Aa at rd;subst rd;obtain⟨t',rfl⟩:=rx;exact SeqAt.EqAt.str_str a t z t'
  | tuple ds=>
   unfold Aa at rd
   obtain⟨b,xs,rfl,hb,_⟩:=rd
   cases rx
   obtain⟨its2,rv,pl2,_⟩:=I.tuple (Ac.of hb)
   exact SeqAt.EqAt.str_tuple a t pl2 (by omega)
  | list ds=>
   unfold Aa at rd
   obtain⟨b,xs,rfl,_,hb,_⟩:=rd
   cases rx
   obtain⟨its2,rv,pl2,_⟩:=I.list (Ai.of hb)
   exact SeqAt.EqAt.str_list a t pl2.isList (by omega)
  | dict kvs=>exact absurd rfl (nd kvs)
 ·rw [show its.toArray.any (Ft d)=its.any (Ft d) by simp,Ls r]
  exact q
end
end L2
end
section
namespace L2
open PySem PySem.Spec PyProof.Rows
open AutoSeq1 (wpAny_loadPart')
structure ZA3 (z TI TO i1 i2 i3 l1 l2 l3:Addr):Prop where
 TI_z:TI≠z
 TO_z:TO≠z
 TO_TI:TO≠TI
 i1_z:i1≠z
 i1_TI:i1≠TI
 i1_TO:i1≠TO
 i2_z:i2≠z
 i2_TI:i2≠TI
 i2_TO:i2≠TO
 i2_i1:i2≠i1
 i3_z:i3≠z
 i3_TI:i3≠TI
 i3_TO:i3≠TO
 i3_i1:i3≠i1
 i3_i2:i3≠i2
 l1_z:l1≠z
 l1_TO:l1≠TO
 l1_i1:l1≠i1
 l1_i2:l1≠i2
 l1_i3:l1≠i3
 l2_z:l2≠z
 l2_TO:l2≠TO
 l2_i1:l2≠i1
 l2_i2:l2≠i2
 l2_i3:l2≠i3
 l3_z:l3≠z
 l3_TO:l3≠TO
 l3_i1:l3≠i1
 l3_i2:l3≠i2
 l3_i3:l3≠i3
section
variable {P : Program} {w : World} {K : PySem.W.Frag} {A : Around} {E : Value -> Shared -> Prop} {s : Shared} (S1 S2 S3 : A9 P w K)
end
end L2
end
section
namespace L2
open PySem PySem.Spec PyProof.Rows
variable {a : Addr}
open AutoSeq1 (wpAny_loadPart')
def KpBut (a:Addr) (g g':Heap):Prop:=∀b o,b≠a->g.get? b=some o->g'.get? b=some o
theorem KpBut.trans {g g' g2:Heap} (x:KpBut a g g') (y:KpBut a g' g2):KpBut a g g2:=λb o n e=>y b o n (x b o n e)
theorem KpBut.upd {g:Heap} (f:Obj->Obj):KpBut a g (g.update a f):=λb o n e=>by rw [Heap.get?_update_ne _ _ _ _ n];exact e
theorem KpBut.new {g:Heap} (o:Obj):KpBut a g (g.push o):=λ_ _ _ e=>Heap.get?_push_of_some _ e
end L2
end
section
namespace L2
open PySem PySem.Spec PyProof.Rows
section
variable {X : Cx}
def P8 (a b:TI):TI:=fun σ H R=>a σ H R\/b σ H R
theorem GD {tg it:Expr}{a b:TI} (ha:PI X tg it a) (hb:PI X tg it b):PI X tg it (P8 a b):=λpins s σ H R I h=>h.elim (λq=>ha pins s σ H R I q) λq=>hb pins s σ H R I q
end
section
variable {X : Cx}
end
section
variable {prog : Program} {w : World} {A : Around} {R : Result -> Shared -> Prop} {s : Shared} {elt tg1 it1 tg2 it2 tg3 it3 : Expr} {ifs1 ifs2 ifs3 : List Expr} {scope : Scope} {pos : Pos} {it acc : Value} {env : Env}
end
def P9 (wi2:TI) (g2:TG) (tt2:TT) (wi3:TI) (g3:TG) (tt3:TT) (te:TE):St->List V->Hp->(List V->Hp->Prop)->Prop:=fun σ ys H N=>wi2 σ H λJ H1=>
 ∃W:Nat->Nat->List V->Hp->Prop,(∃m,W 0 m ys H1)/\∀j m zs H,W j m zs H->
  (J.stop j H/\N zs H)\/
  (J.go j H /\ ∃ N2 : List V -> Hp -> Prop, (∀ zs' H', N2 zs' H' -> ∃ m', m' < m /\ W (j + 1) m' zs' H') /\ ∀ x H', J.yld j H x H' -> g2 x σ H' fun σ3 H2 => Keep σ σ3 /\ tt2 σ3 H2 λb H3 =>
   br b (Gy wi3 g3 tt3 te σ3 zs H3 N2) (N2 zs H3))
theorem Ae.gotList {X:Cx}{pins:List (Addr×Obj)}{σ:St}{H:Hp}{s:Shared}{h':Heap}{tk n:Nat}{T:Addr}{vs:List V}{us:List Value} (I:Ae X pins σ H s)
  (k:∀b o,s.heap.get? b=some o->h'.get? b=some o) (hT:s.heap.objs.size<=T) (ht:h'.get? T=some { cls:= .type "list",data:= .seq us.toArray n}) (rv:Ar vs us) (hz:vs.length<=sizeLine):
  Ae X pins σ (upd H T (.lst vs)) { s with heap:=h',toks:=tk}:=by
 have hfr:H T=none:=I.hok.fresh hT
 have nT:∀b u,H b=some u->b≠T:=λb u e=>Bf e hfr
 refine I.step (g':=s.gens) (d':=s.drawn) (ch:=[]) (λb hb=>absurd hb (by simp)) (λb o _ _ hc e _=>k b o e) (λb o _ _ hc e _=>⟨o.slots,k b o e⟩)
  (λb o hc e n=>?_) (λb o hc e=>⟨o,k b o e⟩) (λb xs e=>by rw [AA (nT b _ e)];exact e) (λb o xs e=>by rw [AA (nT b _ e)];exact e) (λb ps e=>⟨#[],by rw [AA (nT b _ e),e];simp⟩) (λm hm=>?_) (λb u e=>?_) I.bare
 ·rw [AA (Nat.ne_of_lt (Nat.lt_of_lt_of_le (Heap.lt_size e) hT))];exact n
 ·obtain⟨o,es,ep,ho,r⟩:=hm
  exact⟨o,es,ep,k _ o ho,r⟩
 ·by_cases hb:b=T
  ·subst hb
   rw [Ag] at e;cases e
   exact⟨hz,us,n,rv,ht⟩
  ·rw [AA hb] at e
   exact(I.hok b u e).stay (λc v hc q=>k c v q) (λc q=>by rw [AA (nT c _ q)];exact q) λc xs q=>by rw [AA (nT c _ q)];exact q
section
variable {X : Cx}
end
def WalkO (J:It) (cap:List (Option Nat)) (g:TG) (tt:TT) (wi2:TI) (g2:TG) (tt2:TT) (wi3:TI) (g3:TG) (tt3:TT) (te:TE) (σ:St) (Q:List V->Hp->Prop) (H1:Hp):Prop:=
 ∃W:Nat->Nat->List V->Hp->Prop,(∃m,W 0 m [] H1)/\∀i m ys H,W i m ys H->
  (J.stop i H/\Q ys H)\/
  (J.go i H /\ ∃ N : List V -> Hp -> Prop, (∀ ys' H', N ys' H' -> ∃ m', m' < m /\ W (i + 1) m' ys' H') /\ ∀ x H', J.yld i H x H' -> g x (A4 cap σ) H' fun σ2 H2 => Keep (A4 cap σ) σ2 /\ tt σ2 H2 λb H3 =>
   br b (P9 wi2 g2 tt2 wi3 g3 tt3 te σ2 ys H3 N) (N ys H3))
end L2
end
section
namespace L2
open PySem PySem.Spec PyProof.Rows
def Dy (i j k:Int):List Int:=(List.range (Dw i j k)).map λt:Nat=>i+(t:Int) * k
theorem Qa {n:Nat}{i k:Int}{acc:Array Value} (h:ItemsOf (λt v=>∃u,v=Value.int (i+(t:Int) * k) u) acc n):Ar (((List.range n).map λt:Nat=>i+(t:Int) * k).map V.int) acc.toList:=by
 have go:∀(m:Nat) (us:List Value),us.length=m->(∀(j:Nat) (v:Value),us[j]? =some v->∃t,v= .int (i+(j:Int) * k) t)->Ar (((List.range m).map λt:Nat=>i+(t:Int) * k).map V.int) us:=by
  intro m
  induction m with
  | zero=>intro us hl _;cases us with
   | nil=>exact .nil
   | cons _ _=>cases hl
  | succ m ih=>
   intro us hl hu
   have hne:us≠ []:=λe=>by rw [e] at hl;cases hl
   have e:us=us.dropLast++[us.getLast hne]:=(List.dropLast_concat_getLast hne).symm
   have hdl:us.dropLast.length=m:=by rw [List.length_dropLast,hl];rfl
   rw [List.range_succ,List.map_append,List.map_append,e]
   refine(ih us.dropLast hdl λj v hv=>?_).append (.cons ?_ .nil)
   ·refine hu j v ?_
    rw [e,List.getElem?_append_left (List.getElem?_eq_some_iff.mp hv).1];exact hv
   ·refine hu m _ ?_
    rw [List.getLast_eq_getElem,List.getElem?_eq_some_iff]
    exact⟨by omega,by congr 1;omega⟩
 refine go n acc.toList (by simpa using h.1) λj v hv=>?_
 exact h.2 j v (by simpa using hv)
section
variable {X : Cx}
def Qb (ta:TA):TE:=fun σ H Q=>ta σ H λvs H1=>∃i j k:Int,vs=[.int i,.int j,.int k]/\(-1000<=i/\i<=1000/\ -1000<=j/\j<=1000/\1<=k/\k<=1000)/\∀p,H1 p=none->Q (.ref p) (upd H1 p (.lst ((Dy i j k).map V.int)))
theorem Qc {a b c:Expr}{ta:TA}{p pos p2 pos2:Pos} (hc:X.calm=true) (hg0:Gl X "list") (hm0:X.mg "list"=none) (hg:Gl X "range") (hm:X.mg "range"=none) (ha:PA X [a,b,c] ta)
  (hs0:starEach [.Call (.Name "range" p2) [a,b,c] [] pos2] X.env=[(false,eval (.Call (.Name "range" p2) [a,b,c] [] pos2) X.env)]:=by rfl) (hs:starEach [a,b,c] X.env=(false,eval a X.env)::starEach [b,c] X.env:=by rfl) (hs2:starEach [b,c] X.env=[(false,eval b X.env),(false,eval c X.env)]:=by rfl):
  PE X (.Call (.Name "list" p) [.Call (.Name "range" p2) [a,b,c] [] pos2] [] pos) (Qb ta):=by
 intro pins s σ H Q I h
 refine Call_ (CO I hg0 hm0 Em (PyProof.Rows.callWith_type1 (by
  rw [hs0]
  refine Calls.spliced_cons (Call_ (CO I hg hm boot_range (PyProof.Rows.callWith_type1 (Av (ha pos2 pins s σ H _ I h) λus s1 ⟨vs,H1,I1,r1,q1⟩=>?_) hs (by rw [hs2];rfl))))
  obtain⟨i,j,k,e,⟨q1,q2,q3,q4,q5,q6⟩,q⟩:=q1
  subst e
  rcases r1 with _ | ⟨r,r1⟩
  rcases r1 with _ | ⟨r',r1⟩
  rcases r1 with _ | ⟨r'',r1⟩
  cases r1
  obtain⟨t,rfl⟩:=r
  obtain⟨t',rfl⟩:=r'
  obtain⟨t'',rfl⟩:=r''
  have hk:k.natAbs.log2<30:=by
   by_cases z:k.natAbs=0
   ·omega
   ·exact(Nat.log2_lt z).mpr (show k.natAbs<2 ^ 30 by omega)
  have ndv:Builtin.divisionGoesByPylong (j-i) k=false:=by
   unfold Builtin.divisionGoesByPylong
   dsimp only
   rw [show(decide ((if (k==0)=true then 0 else k.natAbs.log2 / 30+1) >300))=false from decide_eq_false (by
    split
    ·omega
    ·rw [Nat.div_eq_of_lt hk];omega),Bool.false_and]
  refine call_range_3 (by omega) (Calls.spliced_nil ?_) (.inl ndv)
  have hsz:(s1.heap.push { cls:= .type "range",data:= .fields #[.int i t,.int j t',.int k t'']}).objs.size=s1.heap.objs.size+1:=Heap.size_push ..
  obtain⟨b0,b1⟩:=Le q5 q1 q4
  refine call_list_range (n:=Dw i j k) (I.ok.hd hc) (IsRange.new ..) (Pn q5 q6 q1 q2 q3 q4) (by unfold Dw;omega) (by unfold Dw;omega) λh' tk acc' c' hk hS hacc=>?_
  have hv:=Qa hacc
  have I2:=I1.gotList (tk:=tk) (T:=s1.heap.objs.size+1) (us:=acc'.toList) (n:=c') (λb o e=>hk b o (Heap.get?_push_of_some _ e)) (Nat.le_succ _) (by rw [<-hsz];simpa using hS) hv (by
   rw [List.length_map,List.length_map,List.length_range]
   have:(3000:Nat)<=sizeLine:=by decide
   unfold Dw;omega)
  refine⟨.ref (s1.heap.objs.size+1),_,I2,?_,q _ (I1.hok.fresh (Nat.le_succ _))⟩
  show AH (.ref (s1.heap.objs.size+1)) (.ref _)
  rw [<-hsz];rfl) hs0 rfl))
end
theorem Qd {i j k:Int}:((Dy i j k).map V.int).all CZ=true:=by
 rw [List.all_eq_true]
 intro x hx
 obtain⟨a,_,rfl⟩:=List.mem_map.mp hx
 rfl
end L2
namespace MF
open PySem PySem.Spec PyProof.Rows L2
theorem Qe {f e:Int}{h:Nat} (he:1<=e) (h8:h<8):BQ (.int (h:Int)) ((Dy f 8 e).map V.int)=decide (¬((h:Int)<f\/((h:Int)-f) % e≠0)):=by
 unfold BQ Dy
 rw [List.map_map,List.any_map]
 have key:((List.range (Dw f 8 e)).any ((λy=>Da y (V.int (h:Int))) ∘V.int∘λt:Nat=>f+(t:Int) * e))=true↔ ¬((h:Int)<f\/((h:Int)-f) % e≠0):=by
  rw [List.any_eq_true]
  constructor
  ·rintro⟨t,ht,q⟩
   have q':(f+(t:Int) * e==(h:Int))=true:=q
   have q':f+(t:Int) * e=(h:Int):=by simpa using q'
   have h3:0<=(t:Int) * e:=Int.mul_nonneg (by omega) (by omega)
   rintro(c | c)
   ·omega
   ·apply c
    rw [show(h:Int)-f=(t:Int) * e by omega]
    exact Int.mul_emod_left _ _
  ·intro c
   have c1:¬(h:Int)<f:=λz=>c (.inl z)
   have c2:((h:Int)-f) % e=0:=by
    by_cases z:((h:Int)-f) % e=0
    ·exact z
    ·exact absurd (.inr z) c
   have hd:((h:Int)-f)=((h:Int)-f)/ e * e:=by
    have:=Int.emod_add_mul_ediv ((h:Int)-f) e
    rw [c2] at this
    rw [Int.mul_comm];omega
   have h0:0<=((h:Int)-f)/ e:=Int.ediv_nonneg (by omega) (by omega)
   refine⟨(((h:Int)-f)/ e).toNat,List.mem_range.mpr ((Pw (n:=8) he).mpr ?_),?_⟩
   ·rw [Int.toNat_of_nonneg h0]
    show f+_<(8:Int)
    omega
   ·show(f+((((h:Int)-f)/ e).toNat:Int) * e==(h:Int))=true
    rw [Int.toNat_of_nonneg h0,beq_iff_eq]
    omega
 cases z:((List.range (Dw f 8 e)).any ((λy=>Da y (V.int (h:Int))) ∘V.int∘λt:Nat=>f+(t:Int) * e)) with
 | true=>exact(decide_eq_true (key.mp z)).symm
 | false=>exact(decide_eq_false λc=>by rw [key.mpr c] at z;cases z).symm
end MF
end
section
namespace L2
open PySem PySem.Spec PyProof.Rows
section
variable {X : Cx}
end
end L2
end
section
namespace L2
open PySem PySem.Spec PyProof.Rows
variable {k : Nat} {X : Cx}
open AutoSeq1 (wpAny_loadPart')
section
variable {P : Program} {w : World} {K : PySem.W.Frag} {A : Around} {E : Value -> Shared -> Prop} {s : Shared} (S1 S2 : A9 P w K)
theorem Qf {z TI TO i1 i2 l1 l2:Addr}{xs1 xs2:Array Value}{a1 a2:Value}{Q:Fin->Shared->Prop} (hh:A.handled=none) (D:EH z TI TO i1 i2 l1 l2) (hz:EG s.heap z TI TO) (hTI:Bg s.heap TI (.ref i1) (.ref i2)) (hTO:Bg s.heap TO a1 a2) (h1:Dr S1 i1 l1 xs1 k s.heap) (h2:Dr S2 i2 l2 xs2 k s.heap) (hl1:k<xs1.size) (hend:k=xs2.size)
  (hE:∀h' tk e,(∀c o,c≠z->c≠TO->c≠i1->c≠i2->s.heap.get? c=some o->h'.get? c=some o)->(∃o,h'.get? e=some o/\o.cls= .type "StopIteration")->E (.ref e) { s with heap:=h',toks:=tk}):
  wpAny (model P w) A (Builtin.«zip.__next__» ⟨[.ref z],[]⟩) Q E s:=by
 have D1:=fun(A:Around) (hh:A.handled=none)=>S1.draws A hh i1 l1 D.l1_i1 xs1
 have D2:=fun(A:Around) (hh:A.handled=none)=>S2.draws A hh i2 l2 D.l2_i2 xs2
 obtain⟨f0',f1',hz',hf0',hf1'⟩:=id hz
 show wpAny _ _ (field (.ref z) 2>>=_) _ _ _;refine wpAny_bind (wpAny_field hz' rfl (x:= .bool false) rfl ?_)
 show wpAny _ _ (field (.ref z) 3>>=_) _ _ _;refine wpAny_bind (wpAny_field hz' rfl (x:= .ref TI) rfl ?_)
 refine wpAny_bind (wpAny_seqItems hTI rfl ?_);show wpAny _ _ (Builtin.SmallTypes.ownedTupleIsFree (.ref z) >>=_) _ _ _
 refine wpAny_bind (IN hz (λf0 f1 hz=>?_) λg0 T f1 f2 hzs hz0 hf2 hs0=>?_)
 ·simp only [if_true]
  refine wpAny_bind (wpAny_rule ?_);refine wpAny_bind (wpAny_field hz rfl (x:= .ref TO) rfl ?_)
  refine wpAny_bind (wpAny_setField_rec hz (by simp) λg0 hz0 hs0=>?_);replace hz0:Cr g0 z TI TO .ellipsis f1:=hz0
  refine wpAny_bind ?_;simp only [List.zipIdx_cons,List.zipIdx_nil,List.forIn_cons,List.forIn_nil]
  refine wpAny_bind (wpAny_bind (wpAny_onRaise ?_));show wpAny _ _ (Builtin.SmallTypes.nextOf (.ref i1) >>=_) _ _ _
  refine wpAny_bind ((D1 _ hh).item k _ _ _ hl1 (Dr.ext h1 hs0.extBut D.i1_z D.l1_z) λy1 g1 tk1 hy1 hd1 hs1=>wpAny_pure ?_)
  have hd1':Dr S1 i1 l1 xs1 (k+1) g1:=hd1
  have hT1:Bg g1 TO a1 a2:=(hs1.extBut _ _ D.i1_TO.symm (hs0.extBut _ _ D.TO_z hTO))
  refine wpAny_bind (wpAny_seqItems hT1 rfl ?_);refine wpAny_bind (IO hT1 λg2 hU1 hs2=>?_)
  replace hU1:Bg g2 TO y1 a2:=hU1
  refine wpAny_bind (wpAny_letGo (wpAny_pure ?_))
  refine wpAny_bind (wpAny_bind (wpAny_onRaise ?_));show wpAny _ _ (Builtin.SmallTypes.nextOf (.ref i2) >>=_) _ _ _
  have hcur:=(Dr.ext (Dr.ext (Dr.ext h2 hs0.extBut D.i2_z D.l2_z) hs1.extBut D.i2_i1 D.l2_i1) hs2.extBut D.i2_TO D.l2_TO)
  subst hend
  refine wpAny_bind ((D2 _ hh).done _ _ _ hcur λge e hse he=>?_)
  obtain⟨oe,hoe,hce⟩:=he
  have hze:Cr ge z TI TO .ellipsis f1:=hse _ _ D.i2_z.symm (hs2.extBut _ _ D.TO_z.symm (hs1.extBut _ _ D.i1_z.symm hz0))
  have hez:e≠z:=λx=>by subst x;rw [hze] at hoe;cases hoe;simp at hce
  exact wpAny_setField_rec hze (by simp) λgf _ hsf=>hE gf _ e (λc o cz cTO ci1 ci2 x=>hsf.extBut _ _ cz (hse _ _ ci2 (hs2.extBut _ _ cTO (hs1.extBut _ _ ci1 (hs0.extBut _ _ cz x))))) ⟨oe,hsf.extBut _ _ hez hoe,hce⟩
 ·simp only [Bool.false_eq_true,if_false]
  refine wpAny_bind ?_;simp only [<-Array.forIn_toList,List.forIn_cons,List.forIn_nil]
  refine wpAny_bind (wpAny_bind (wpAny_holding ?_));show wpAny _ _ (Builtin.SmallTypes.nextOf (.ref i1) >>=_) _ _ _
  refine wpAny_bind ((D1 _ hh).item k _ _ _ hl1 (Dr.ext h1 hs0.extBut D.i1_z D.l1_z) λy1 g1 tk1 hy1 hd1 hs1=>wpAny_pure ?_)
  have hd1':Dr S1 i1 l1 xs1 (k+1) g1:=hd1
  refine wpAny_pure ?_
  refine wpAny_bind (wpAny_bind (wpAny_holding ?_));show wpAny _ _ (Builtin.SmallTypes.nextOf (.ref i2) >>=_) _ _ _
  have hcur:=(Dr.ext (Dr.ext h2 hs0.extBut D.i2_z D.l2_z) hs1.extBut D.i2_i1 D.l2_i1)
  subst hend
  refine wpAny_bind ((D2 _ hh).done _ _ _ hcur λge e hse he=>?_)
  obtain⟨oe,hoe,hce⟩:=he
  exact hE ge _ e (λc o cz cTO ci1 ci2 x=>hse _ _ ci2 (hs1.extBut _ _ ci1 (hs0.extBut _ _ cz x))) ⟨oe,hoe,hce⟩
end
def GE {P:Program}{w:World}{K:PySem.W.Frag} (S1 S2:A9 P w K) (a b:Addr):It:=
 ⟨λi H=>∃xs ys x y,S1.Sq H a xs/\S2.Sq H b ys/\xs[i]? =some x/\ys[i]? =some y,λi H v H'=>∃T,v= .ref T/\H T=none/\∀xs ys x y,S1.Sq H a xs->S2.Sq H b ys->xs[i]? =some x->ys[i]? =some y->H'=upd H T (.tup [x,y]),
  λi H=>∃xs ys,S1.Sq H a xs/\S2.Sq H b ys/\i<xs.length/\ys.length=i⟩
theorem Qg {P:Program}{w:World}{K:PySem.W.Frag} (S1 S2:A9 P w K) {es:List Expr}{k:Nat}{pos:Pos} (z TI TO i1 i2 l1 l2:Addr) (D:EH z TI TO i1 i2 l1 l2):
  DH P w K (.Tuple es k pos) (GE S1 S2 l1 l2) [z,TI,TO,i1,i2] z (λi h=>IsZip h z TI TO .none/\Bg h TI (.ref i1) (.ref i2)/\(∃a b,Bg h TO a b)/\S1.It h i1 l1 i/\S2.It h i2 l2 i) where
 mem:=by simp
 obj:=λi h st b hb=>by
  obtain⟨hz,hTI,⟨a,b',hTO⟩,h1,h2⟩:=st
  simp only [List.mem_cons,List.not_mem_nil,or_false] at hb
  rcases hb with e | e | e | e | e<;>rw [e]
  ·exact⟨_,hz,λv q=>by have q':Data.fields _=Data.cell v:=q;cases q'⟩
  ·exact⟨_,hTI,λv q=>by have q':Data.seq _ _=Data.cell v:=q;cases q'⟩
  ·exact⟨_,hTO,λv q=>by have q':Data.seq _ _=Data.cell v:=q;cases q'⟩
  ·exact S1.ito h1
  ·exact S2.ito h2
 keep:=λi h h' st kk=>by
  obtain⟨hz,hTI,⟨a,b',hTO⟩,h1,h2⟩:=st
  exact⟨kk z (by simp) _ hz,kk TI (by simp) _ hTI,⟨a,b',kk TO (by simp) _ hTO⟩,S1.itk h1 λo q=>kk i1 (by simp) o q,S2.itk h2 λo q=>kk i2 (by simp) o q⟩
 item:=by
  intro X hP hw hK hc i pins s σ H E I hf st hg
  subst hP hw
  obtain⟨xs,ys,x,y,hq1,hq2,hx,hy⟩:=hg
  obtain⟨its1,rv1,is1,hz1⟩:=S1.get hK I hq1
  obtain⟨its2,rv2,is2,hz2⟩:=S2.get hK I hq2
  obtain⟨u1,hu1,ru1⟩:=rv1.get hx
  obtain⟨u2,hu2,ru2⟩:=rv2.get hy
  obtain⟨hz,hTI,⟨a,b',hTO⟩,h1,h2⟩:=st
  have hh:=I.ok.hd hc
  have hT:s.TypeIs (.ref z) "zip" :=⟨_,hz,rfl⟩
  unfold pyNext
  refine wpAny_bind (wpAny_attempt (wpAny_callSpecial?_slot (name:=Str.ofString "__next__") hT F.slot_zip_next (wpAny_call_entry F.slot_zip_next hT F.entry_zip_next
   (KF S1 S2 (x1:=u1) (x2:=u2) hh D ⟨_,_,hz,.inl rfl,.inl rfl⟩ hTI hTO ⟨h1,is1⟩ ⟨h2,is2⟩ (by simpa using hu1) (by simpa using hu2) λh' tk _ az a2 a3 a4 a5 a6 hk=>wpAny_pure ⟨_,rfl,?_⟩) (F.args_zip_next_1 _))))
  obtain⟨b1,b2,a2⟩:=a2
  refine wpAny_letOwnedTupleGo_zip (az (.inr hz)) λh'' z1 sb=>?_
  have kk:∀b o,b ∉ [z,TI,TO,i1,i2]->s.heap.get? b=some o->h''.get? b=some o:=λb o hb q=>sb.extBut b o (λe=>hb (by simp [e])) (hk b o (λe=>hb (by simp [e])) (λe=>hb (by simp [e])) (λe=>hb (by simp [e])) (λe=>hb (by simp [e])) q)
  have zl:z<s.heap.objs.size:=Heap.lt_size hz
  have ht:IsTup h'' s.heap.objs.size [u1,u2].toArray:=⟨_,sb.extBut _ _ (Nat.ne_of_gt zl) a5,rfl,_,rfl⟩
  exact⟨.ref s.heap.objs.size,upd H s.heap.objs.size (.tup [x,y]),I.yielded (tk:=tk) (λb hb=>hf b hb) kk (Nat.le_refl _) ht (.cons ru1 (.cons ru2 .nil)) (by show 2<=sizeLine;decide),rfl,
   ⟨_, rfl, I.hok.fresh (Nat.le_refl _), λxs' ys' x' y' e1 e2 e3 e4 => by
    rw [S1.inj hK I e1 hq1,hx] at e3;rw [S2.inj hK I e2 hq2,hy] at e4;cases e3;cases e4;rfl⟩,
   ⟨z1, sb.extBut _ _ D.TI_z (hk _ _ D.TI_z D.TO_TI.symm D.i1_TI.symm D.i2_TI.symm hTI), ⟨_, _, sb.extBut _ _ D.TO_z a2⟩, S1.itk a3.1 λo q => sb.extBut _ o D.i1_z q, S2.itk a4.1 λo q => sb.extBut _ o D.i2_z q⟩, λb hb => by
    have hbt:b<s.heap.objs.size:=by
     simp only [List.mem_cons,List.not_mem_nil,or_false] at hb
     rcases hb with e | e | e | e | e<;>rw [e]
     ·exact zl
     ·exact Heap.lt_size hTI
     ·exact Heap.lt_size hTO
     ·obtain⟨o,q,_⟩:=S1.ito h1;exact Heap.lt_size q
     ·obtain⟨o,q,_⟩:=S2.ito h2;exact Heap.lt_size q
    rw [AA (Nat.ne_of_lt hbt)];exact(hf b hb).1⟩
 done:=by
  intro X hP hw hK hc i pins s σ H E I hf st hg
  subst hP hw
  obtain⟨xs,ys,hq1,hq2,hlt,hend⟩:=hg
  obtain⟨its1,rv1,is1,hz1⟩:=S1.get hK I hq1
  obtain⟨its2,rv2,is2,hz2⟩:=S2.get hK I hq2
  obtain⟨hz,hTI,⟨a,b',hTO⟩,h1,h2⟩:=st
  have hh:=I.ok.hd hc
  have hT:s.TypeIs (.ref z) "zip" :=⟨_,hz,rfl⟩
  have e1:=rv1.length
  have e2:=rv2.length
  unfold pyNext
  refine wpAny_bind (wpAny_attempt (wpAny_callSpecial?_slot (name:=Str.ofString "__next__") hT F.slot_zip_next (wpAny_call_entry F.slot_zip_next hT F.entry_zip_next
   (Qf S1 S2 hh D ⟨_,_,hz,.inl rfl,.inl rfl⟩ hTI hTO ⟨h1,is1⟩ ⟨h2,is2⟩ (by simp;omega) (by simp;omega) λh' tk e hk he=>?_) (F.args_zip_next_1 _))))
  obtain⟨o,ho,hco⟩:=he
  refine wpAny_bind (wpAny_isInstance (T:="StopIteration") (b:=true) ⟨o,ho,hco⟩ isSubtype_stop ?_)
  exact wpAny_pure ⟨rfl,I.ended (wr:=[z,TI,TO,i1,i2]) (tk:=tk) (λb hb=>hf b hb) λb o hb q=>hk b o (λe=>hb (by simp [e])) (λe=>hb (by simp [e])) (λe=>hb (by simp [e])) (λe=>hb (by simp [e])) q⟩
 self:=λ_ _ _ _ _ st h=>wpAny_pyIter_zip st.1 h
def Lv {P:Program}{w:World}{K:PySem.W.Frag} (S1 S2:A9 P w K) (ta:TA):TI:=fun σ H R=>ta σ H λvs H1=>∃a b,vs=[.ref a,.ref b]/\(∃xs,S1.Sq H1 a xs)/\(∃ys,S2.Sq H1 b ys)/\R (GE S1 S2 a b) H1
theorem Qh {es:List Expr}{p pos pos':Pos}{e1 e2:Expr}{ta:TA} (S1 S2:A9 X.prog X.w X.K) (zn:EI S1 S2) (hg:Gl X "zip") (hm:X.mg "zip"=none) (ha:PA X [e1,e2] ta)
  (hs:starEach [e1,e2] X.env=[(false,eval e1 X.env),(false,eval e2 X.env)]) (hs2:starEach [e2] X.env=[(false,eval e2 X.env)]):PI X (.Tuple es k pos') (.Call (.Name "zip" p) [e1,e2] [] pos) (Lv S1 S2 ta):=by
 intro pins s σ H R I h
 refine Av (KG S1 S2 zn (R:=λl1 l2 H1=>R (GE S1 S2 l1 l2) H1) hg hm ha hs hs2 I h) λv s1 ⟨l1,l2,H1,m,e,q,I1,gz,gI,gO,g1,g2,h1,h2,fr,_⟩=>?_
 subst e
 exact wpAny_pyIter_zip gz ⟨_,[m+4,m+2,m+3,m,m+1],_,_,H1,rfl,I1,Qg S1 S2 _ _ _ _ _ l1 l2 (KI h1 h2),⟨gz,gI,⟨_,_,gO⟩,g1,g2⟩,λb hb=>fr b (by
  simp only [List.mem_cons,List.not_mem_nil,or_false] at hb
  rcases hb with e | e | e | e | e<;>rw [e]<;>first | exact Nat.le_refl _ | exact Nat.le_add_right _ _),q⟩
theorem Qi (P:Program) (w:World) (K:PySem.W.Frag) {es:List Expr}{k:Nat}{p pos pos':Pos}{e1 e2:Expr}{ta:TA} (hg:Gl X "zip") (hm:X.mg "zip"=none) (ha:PA X [e1,e2] ta) (hP:X.prog=P:=by rfl) (hw:X.w=w:=by rfl) (hK:X.K=K:=by rfl)
  (hs:starEach [e1,e2] X.env=[(false,eval e1 X.env),(false,eval e2 X.env)]:=by rfl) (hs2:starEach [e2] X.env=[(false,eval e2 X.env)]:=by rfl):
  PI X (.Tuple es k pos') (.Call (.Name "zip" p) [e1,e2] [] pos) (Lv (Cc P w K) (Cc P w K) ta):=by subst hP hw hK;exact Qh _ _ (KH _ _ _) hg hm ha hs hs2
theorem Qj {P:Program}{w:World}{K:PySem.W.Frag}{S1 S2:A9 P w K}{a b:Addr}{xs ys:List V}{cap:List (Option Nat)}{g:TG}{tt:TT}{te:TE}{σ:L2.St}{Q:List V->Hp->Prop}{H:Hp} (Pv:Nat->List V->Hp->Prop) (hn:ys.length<=100000) (he:ys.length<xs.length) (h0:Pv 0 [] H) (hz:∀i ys H,Pv i ys H->ys.length<=i)
  (hl:∀i zs H,Pv i zs H->S1.Sq H a xs/\S2.Sq H b ys)
  (hs:∀i x y zs H T,xs[i]? =some x->ys[i]? =some y->Pv i zs H->H T=none->g (.ref T) (A4 cap σ) (upd H T (.tup [x,y])) fun σ2 H2=>Keep (A4 cap σ) σ2/\tt σ2 H2 λb H3=>br b (te σ2 H3 λy H4=>Pv (i+1) (zs++[y]) H4) (Pv (i+1) zs H3))
  (hd:∀zs H,Pv ys.length zs H->Q zs H):Ek (GE S1 S2 a b) cap g tt te σ Q H:=
 EE ys.length Pv hn h0 hz (λi zs H hi p=>by
  obtain⟨q1,q2⟩:=hl i zs H p
  have hx:i<xs.length:=by omega
  refine⟨⟨xs,ys,xs[i],ys[i],q1,q2,by simp [hx],by simp [hi]⟩,λv H' ⟨T,e,n,y⟩=>?_⟩
  subst e
  rw [y xs ys xs[i] ys[i] q1 q2 (by simp [hx]) (by simp [hi])]
  exact hs i xs[i] ys[i] zs H T (by simp [hx]) (by simp [hi]) p n)
  λzs H p=>⟨⟨xs,ys,(hl _ zs H p).1,(hl _ zs H p).2,he,rfl⟩,hd zs H p⟩
end L2
end
section
namespace L2
open PySem PySem.Spec PyProof.Rows
section
variable {X : Cx}
section
open HT
variable {prog : Program} {w : World} {A : Around} {E : Value -> Shared -> Prop} {s : Shared}
end
end
theorem ObjOk.there {P:Program}{w:World}{H:Hp}{h:Heap}{a:Addr}{o:HO} (x:ObjOk P w H h a o):∃u,h.get? a=some u:=by
 cases o with
 | lst xs=>obtain⟨_,_,_,_,e⟩:=x;exact⟨_,e⟩
 | tup xs=>obtain⟨_,_,_,o,e,_⟩:=x;exact⟨_,e⟩
 | dK kvs=>obtain⟨_,_,_,_,o,_,_,e,_⟩:=x;exact⟨_,e⟩
 | dT kvs=>obtain⟨_,_,_,_,o,_,_,e,_⟩:=x;exact⟨_,e⟩
 | set S n=>obtain⟨o,_,_,_,e,_⟩:=x;exact⟨_,e⟩
 | ins C dx fs=>obtain⟨_,_,_,e,_⟩:=x;exact⟨_,e⟩
 | own y=>obtain⟨_,e⟩:=x;exact⟨_,e⟩
 | xd fs=>obtain⟨_,⟨_,_,_,e,_⟩,_⟩:=x;exact⟨_,e⟩
 | rng lo hi=>obtain⟨_,_,_,e⟩:=x;exact⟨_,e⟩
 | frz ob u=>obtain⟨e,_⟩:=x;exact⟨_,e⟩
 | tbl ps=>exact⟨_,x⟩
 | met f y=>exact⟨_,x⟩
 | ext φ=>obtain⟨_,⟨_,e⟩,_⟩:=x;exact⟨_,e⟩
structure Qk (P:Program) (w:World) (outer:List Env) (H:Hp) (s:Shared) (H':Hp) (C e:Addr) (s':Shared):Prop where
 os:s'.os=s.os
 bare:AllBare s'.gens
 un:Un (Ca outer) [] H H' s.heap s'.heap
 fly:∃B t,Heap.FlyingW B outer e (.ref C) t s'.heap/\(∀b o,s.heap.get? b=some o->H b=none->b ∉ Ca outer->B.get? b=some o)/\
  (∀b o,s.heap.get? b=some o->b ∉ Ca outer->∃o',B.get? b=some o')/\HOk P w H' B
def Lw (P:Program) (w:World):CC:=λouter H s E v s'=>∃C e H',v= .ref e/\Qk P w outer H s H' C e s'/\E (.ref C) none H'
structure IsDef (X:Cx) (E:XK):Prop where
 stk:X.stack=X.env::X.outer
 fr:X.env.frame=some X.env.locals
 ex:X.ex=[]
 xe:∀e s',wpAny (model X.prog X.w) X.A (leaving X.env e) (λ_ s''=>Lw X.prog X.w X.outer X.H₀ X.s₀ E e s'') (λ_ _=>False) s'->X.xe e s'
section
variable {X : Cx} {pins : List (Addr × Obj)} {σ : St} {H H' : Hp} {s s' : Shared} {C e : Addr} {E : XK}
end
end L2
end
section
namespace L2
open PySem PySem.Spec PyProof.Rows PySem.W Builtin Builtin.ObjectAttr Builtin.Getset_descriptor
structure ExcCls (K:Frag) (D:Addr):Prop where
 ga:findIn K (.ref D) "__getattribute__"=some (some (.builtin "BaseException.__getattribute__"))
 gt:findIn K (.ref D) "__getattr__"=some none
 cl:(clsIn K D).isSome=true
 ca:findIn K (.ref D) "__class__"=some (some (.builtin "object.__class__"))
 cn:specialIn K (.builtin "object.__class__") "__get__"=some (some (.builtin "getset_descriptor.__get__"))
 tk:takesIn K (.builtin "object.__class__")=some true
 ob:mroIn K D (.type "object")=some true
 bx:mroIn K D (.type "BaseException")=some true
section
variable {prog : Program} {w : World} {A : Around} {E : Value -> Shared -> Prop} {s : Shared} {K : Frag} {x D : Addr}
end
section
variable {X : Cx} {pins : List (Addr × Obj)} {σ : St} {H : Hp} {s : Shared} {A : Around} {E : Value -> Shared -> Prop} {Q : Value -> Shared -> Prop} {c : Value} {b : Bool} {a D : Addr}
end
end L2
end
section
namespace L2
open PySem PySem.Spec PyProof.Rows
section
variable {X : Cx} {E : XK} {st : Stmt} {Bk : List Stmt} {t : TS}
end
section
variable {P : Program} {w : World} {K : PySem.W.Frag} {mg : Str -> Option Value} {base : Heap}
structure FnE (P:Program) (w:World) (K:PySem.W.Frag) (mg:Str->Option Value) (base:Heap) (n:Nat) (x:Str) (ps:List Str) (sp:Sp):Prop where
 ex:∃(f:Addr) (fd:FuncData),CY P w K mg base (Lw P w) n f fd ps sp/\mg x=some (.ref f)/\PySem.W.keepIn K (.ref f)=true/\Binds K fd ps []
end
section
variable {X : Cx} {pins : List (Addr × Obj)} {σ : St} {H : Hp} {s s' : Shared} {scope : Scope} {N' : List Str} {cap : List (Option Nat)} {A : Around} {outer : List Env} {qual : Str} {f : Addr} {cd : Value} {E : XK}
end
section
variable {X : Cx} {pins : List (Addr × Obj)} {σ : St} {H H' : Hp} {s s' : Shared}
end
structure Ql (k:Nat) (A:Around):Prop where
 dp:A.depth+3 * k+5<recursionLimit
 un:A.units+16 * k+200<cLine
 gd:A.guards=some []
section
variable {P : Program} {w : World} {K : PySem.W.Frag} {mg : Str -> Option Value} {base : Heap}
structure FnQ (P:Program) (w:World) (K:PySem.W.Frag) (mg:Str->Option Value) (base:Heap) (n:Nat) (x:Str) (ps:List Str) (sp:Sp):Prop where
 ex:∃(f:Addr) (fd:FuncData),(∀(A:Around) (outer:List Env) (s:Shared) (H:Hp) (args:Args) (us:List Value) (vs:List V) (Q:VK),Ql n A->EB P w K mg base A outer s H->BindsTo s fd args (ps.zip us)->Ar vs us->sp vs H Q E0->
  codeAny (model P w) A (.call (.ref f) args) (CR CX0 outer P w H s Q E0) s)/\(∀vs H Q E,sp vs H Q E->vs.length=ps.length)/\mg x=some (.ref f)/\PySem.W.keepIn K (.ref f)=true/\Binds K fd ps []
structure FnS (P:Program) (w:World) (K:PySem.W.Frag) (mg:Str->Option Value) (base:Heap) (n:Nat) (x:Str) (ps:List Str) (sp:List Env->Shared->Sp):Prop where
 ex:∃(f:Addr) (fd:FuncData),(∀(A:Around) (outer:List Env) (s:Shared) (H:Hp) (args:Args) (us:List Value) (vs:List V) (Q:VK),Bo n A->EB P w K mg base A outer s H->BindsTo s fd args (ps.zip us)->Ar vs us->sp outer s vs H Q E0->
  codeAny (model P w) A (.call (.ref f) args) (CR CX0 outer P w H s Q E0) s)/\mg x=some (.ref f)/\PySem.W.keepIn K (.ref f)=true/\Binds K fd ps []
end
section
variable {X : Cx} {H : Hp} {f : Addr} {Q : VK} {W : Addr -> Str -> Prop}
end
section
variable {X : Cx} {H : Hp} {f M : Addr} {Q : VK} {W : Addr -> Str -> Prop} {s1 : Shared}
end
section
variable {X : Cx} {pins : List (Addr × Obj)} {σ : St} {H : Hp} {s : Shared} {scope : Scope} {N' : List Str} {cap : List (Option Nat)} {P c : Addr} {ql : Str} {params : Arguments} {body : Expr} {pos : Pos}
end
section
variable {X : Cx} {scope : Scope} {N' : List Str} {cap : List (Option Nat)} {P c : Addr} {ql : Str} {params : Arguments} {body : Expr} {lpos p pos : Pos} {W : Addr -> Str -> Prop} {k : Nat} {te : XK -> TE}
end
section
variable {X : Cx}
end
def Lx:List Str:=["plant","story","firing","hour","boiler","prices","way","set","tanks","pump","feeding","readings","start","shifts","book","amount","deed","line","text"]
def Ly (K:PySem.W.Frag) (M:Addr) (ds:List Addr) (i:Nat):Bool:=
 (PySem.W.findIn K (.ref (ds.getD i 0)) "__getattribute__"==some (some (.builtin "BaseException.__getattribute__"))) &&(PySem.W.findIn K (.ref (ds.getD i 0)) "__getattr__"==some none) &&(PySem.W.clsIn K (ds.getD i 0)).isSome &&
 (PySem.W.findIn K (.ref (ds.getD i 0)) "__class__"==some (some (.builtin "object.__class__"))) &&(PySem.W.specialIn K (.builtin "object.__class__") "__get__"==some (some (.builtin "getset_descriptor.__get__"))) &&(PySem.W.takesIn K (.builtin "object.__class__")==some true) &&
 (PySem.W.mroIn K (ds.getD i 0) (.type "object")==some true) &&(PySem.W.mroIn K (ds.getD i 0) (.type "BaseException")==some true) &&(PySem.W.mroIn K (ds.getD i 0) (.ref M)==some true) &&
 ((List.range 19).all λj=>PySem.W.kitOne K (.ref (ds.getD i 0)) (.ref (ds.getD j 0))==some (j==i)) &&(PySem.W.kitOne K (.ref (ds.getD i 0)) (.type "ValueError")==some true)
structure Wd (K:PySem.W.Frag) (M:Addr) (ds:List Addr) (C:Addr) (word:Str):Prop where
 ex:∃i,i<19/\C=ds.getD i 0/\Lx[i]? =some word/\Ly K M ds i=true
section
variable {K : PySem.W.Frag} {M : Addr} {ds : List Addr} {i : Nat}
end
structure WdK (K:PySem.W.Frag) (M:Addr) (ds:List Addr) (C:Addr) (word:Str):Prop where
 ex:∃i,i<16/\C=ds.getD i 0/\Lx[i]? =some word/\Ly K M ds i=true
section
variable {X : Cx}
end
def GotL (H:Hp) (xs:List V) (Q:VK):Prop:=∀r H',Ab H H'->H r=none->H' r=some (.lst xs)->Q (.ref r) H'
theorem GotL.at {H:Hp}{xs:List V}{Q:VK} (q:GotL H xs Q):∀p,H p=none->Q (.ref p) (upd H p (.lst xs)):=λp hp=>q p _ (Ab.new hp) hp Ag
section
variable {X : Cx} {es : List Expr} {t : TA} {pos : Pos}
def Qm (t:TA):TE:=fun σ H Q=>t σ H λxs H1=>match Nat.ble xs.length 64 with | true=>En H1 xs Q | false=>False
def Qn (t:TA):TE:=fun σ H Q=>t σ H λxs H1=>match Nat.ble xs.length 64 with | true=>GotL H1 xs Q | false=>False
theorem AK {x1} (h:PA X es t):PE X (.Tuple es x1 pos) (Qm t):=by
 intro pins s σ H Q I hq
 refine wpAny_Tuple_spliced (Av (h pos pins s σ H _ I hq) λus s1 ⟨xs,H1,I1,r,q⟩=>?_)
 dsimp only at q
 split at q
 ·rename_i z
  refine⟨by rw [<-r.length];exact few z,?_⟩
  have hf:H1 s1.heap.objs.size=none:=I1.hok.fresh (Nat.le_refl _)
  refine⟨.ref s1.heap.objs.size,upd H1 s1.heap.objs.size (.tup xs),I1.laid (t':=s1.toks) (λb u e=>Heap.get?_push_of_some _ e) (Nat.le_refl _) ?_,rfl,q _ _ (Ab.new hf) Ag⟩
  exact⟨few z,us,r,⟨_,Heap.get?_push_size _ rfl,rfl,_,rfl⟩⟩
 ·exact q.elim
theorem B0 (h:PA X es t):PE X (.List es pos) (Qn t):=by
 intro pins s σ H Q I hq
 refine wpAny_List_spliced (Av (h pos pins s σ H _ I hq) λus s1 ⟨xs,H1,I1,r,q⟩=>?_)
 dsimp only at q
 split at q
 ·rename_i z
  refine⟨by rw [<-r.length];exact few z,?_⟩
  have hf:H1 s1.heap.objs.size=none:=I1.hok.fresh (Nat.le_refl _)
  refine⟨.ref s1.heap.objs.size,upd H1 s1.heap.objs.size (.lst xs),I1.laid (t':=s1.toks) (λb u e=>Heap.get?_push_of_some _ e) (Nat.le_refl _) ?_,rfl,q.at _ hf⟩
  exact⟨few z,us,0,r,Heap.get?_push_size _ rfl⟩
 ·exact q.elim
def Qo:R2:=λx y H Q=>∃l b xs zs,x= .ref l/\y= .ref b/\H l=some (.lst xs)/\H b=some (.lst zs)/\xs.length+zs.length<=sizeLine/\GotL H (xs++zs) Q
theorem Dh:OpR X (binaryOp .Add) Qo:=by
 intro pins s σ H x y v u Q I rx ry h
 obtain⟨l,b,xs,zs,e1,e2,h1,h2,hz,q⟩:=h
 exact Kt pins s σ H x y v u Q I rx ry ⟨l,b,xs,zs,e1,e2,h1,h2,hz,q.at⟩
def Qp (K:PySem.W.Frag):List V->Hp->VK->Prop:=λxs H Q=>∃p ys,xs=[.ref p]/\(Ai K H p ys\/Ac K H p ys)/\GotL H ys Q
theorem ER (K:PySem.W.Frag) (h:X.K=K:=by rfl):BH X (.type "list") (Qp K):=by
 intro pins s σ H xs us Q I r hq
 obtain⟨p,ys,e,hs,q⟩:=hq
 exact Pg K h pins s σ H xs us Q I r ⟨p,ys,e,hs,q.at⟩
end
end L2
end
section
namespace L2
open PySem PySem.Spec PyProof.Rows
section
variable {X : Cx}
end
end L2
namespace MF
open PySem PySem.Spec PyProof.Rows L2
def Qq (p:Int) (q:Int×Int):Int:=if q.2<p then q.1 *(q.2-p) else 0
def Qr (r co:List Int) (p:Int):Int:=((r.zip co).map (Qq p)).sum
def Qs (lo hi p b:Int):Int:=(p-b) *(if b<p then lo else hi)
def Lz (T:TM) (h:Nat) (p b:Int):Int:=p * T.ds.getD h 0+Qr (T.cs.getD h []) T.co p+Qs T.lo T.hi p b
def Qt (T:TM) (ns:List Int) (k:Nat):Int:=((List.range k).map λh=>Lz T h (ns.getD h 0) (ns.getD (h+1) 0)).sum
def LA (T:TM) (ns:List Int):Int:=Qt T ns ns.length-ns.getD 0 0 * T.st
structure Fu (T:TM):Prop where
 ok:T.ok
 c:∀r∈T.cs,r.length=T.co.length/\∀c∈r,0<=c/\c<=20
 o:T.co.length<=4
 o1:∀c∈T.co,1<=c/\c<=9
 d:∀x∈T.ds,0<=x/\x<=100
 l0:0<=T.lo
 h0:0<=T.hi
 s0:0<=T.st
 l4:T.lo<=100
 h4:T.hi<=100
 s4:T.st<=100
theorem getD_mem {α:Type}{l:List α}{i:Nat}{d:α} (h:i<l.length):l.getD i d∈l:=by
 rw [List.getD_eq_getElem?_getD,List.getElem?_eq_getElem h];exact List.getElem_mem h
theorem GF {P:PL}{S:SY} (ok:P.ok) {n:Nat} (so:S.ok n):Fu (terms P S):=by
 have h0:=ok.lo0
 have h1:=ok.ls
 have h2:=ok.sh
 have h3:=ok.h4
 refine⟨Fq so,λr hr=>⟨by rw [(Dx ok r hr).2];show P.bs.length=(P.bs.map (·.2)).length;rw [List.length_map],λc hc=>by have:=(Dx ok r hr).1 c hc;omega⟩,by show(P.bs.map (·.2)).length<=4;rw [List.length_map];exact ok.b4,λc hc=>?_,λx hx=>?_,h0,?_,?_,?_,?_,?_⟩
 ·obtain⟨q,hq,rfl⟩:=List.mem_map.mp hc
  have:=ok.b q hq
  omega
 ·have:=Pu ok so x hx;omega
 ·show 0<=P.hi;omega
 ·show 0<=P.st;omega
 ·show P.lo<=100;omega
 ·show P.hi<=100;omega
 ·show P.st<=100;omega
theorem Fv {xs:List V}:Bq xs (some 1) none=xs.drop 1:=by
 have e1:HT.sIx xs.length xs.length none=xs.length:=rfl
 have e2:HT.sIx xs.length 0 (some 1)=min 1 xs.length:=HT.sIx_nat _ _ 1
 unfold Bq
 rw [e1,e2]
 cases xs with
 | nil=>rfl
 | cons a l=>rw [Nat.min_eq_left (by simp)];simp
end MF
end
section
namespace L2
open PySem PySem.Spec PyProof.Rows
end L2
end
section
namespace L2
open PySem PySem.Spec PyProof.Rows
abbrev KL:=List (Bx×V)
section
variable {prog : Program} {w : World} {A : Around} {R : Result -> Shared -> Prop} {s : Shared} {kx vx tg it : Expr} {ifs : List Expr} {sc : Scope} {ps : Pos} {itv : Value} {D : Addr} {env : Env}
end
structure GrownD (Y:Cx) (a:Addr) (PB:List (Addr×Obj)) (σ:St) (zs:KL) (H:Hp) (s:Shared):Prop where
 inv:Ae Y PB σ H s
 no:H a=none
 len:zs.length<=sizeLine
 at':∃o vs,s.heap.get? a=some o/\KV zs vs/\s.heap.DictOf (FV Y.prog Y.w) a vs
section
variable {prog : Program} {w : World} {A : Around} {E : Value -> Shared -> Prop} {s : Shared}
end
section
variable {X : Cx} {tg : Expr}
end
end L2
end
section
namespace L2
open PySem PySem.Spec PyProof.Rows SeqAt
def Qu (op:CmpOp) (A:Around) (s:Shared) (y x:Value) (b:Bool):Prop:=
 ∀(P:Program) (w:World) (E Q:Value->Shared->Prop),Q (.bool b) s->wpAny (model P w) A (richCompare op y x) Q E s
inductive GG (op:CmpOp) (A:Around) (s:Shared) (last:Bool):List (Value×Value)->Bool->Prop
 | none:GG op A s last [] last
 | same {x y:Value}{ps:List (Value×Value)}{r:Bool}:EqAt A s x y true->GG op A s last ps r->GG op A s last ((x,y)::ps) r
 | unlike {x y:Value}{ps:List (Value×Value)}{r:Bool}:EqAt A s x y false->Qu op A s x y r->GG op A s last ((x,y)::ps) r
inductive LB:PyData->PyData->Prop
 | int (a b:Int):LB (.int a) (.int b)
 | row (as bs:List Int):LB (.tuple (as.map .int)) (.tuple (bs.map .int))
end L2
end
section
namespace MF
open PySem PySem.Spec PyProof.Rows L2
def Ji (T:TM):Nat->List Int->Int
 | _,[]=>0
 | h,p::r=>Lz T h p (r.headD 0)+Ji T (h+1) r
def Fw (T:TM) (ps:List Int):Prop:=∀x∈ps,x∈0::T.co
structure Qv (T:TM) (h:Nat) (x f:Int) (ps:List Int):Prop where
 len:ps.length=T.ds.length-h
 val:f=Ji T h ps
 hd:ps.headD 0=x
 as:Fw T ps
 AC:∀qs:List Int,qs.length=T.ds.length-h->Fw T qs->qs.headD 0=x->Ji T h qs<=f
def Qw (T:TM) (h:Nat) (x:Int):Prop:=if h=T.ds.length then x=0 else x∈0::T.co
structure HiFl (T:TM) (f:Int) (ps:List Int):Prop where
 val:f=LA T ps
 len:ps.length=T.ds.length
 as:Fw T ps
 AC:∀qs:List Int,qs.length=T.ds.length->Fw T qs->LA T qs<=f
abbrev Qx (f:Int) (ps:List Int):PyData:= .tuple [.int f,Ay ps]
structure TailsAt (p:Addr) (H:Hp) (T:TM) (h:Nat) (kvs:KL):Prop where
 one:∀q∈kvs,∃x f ps,q.1= .inl x/\Aa p H (Qx f ps) q.2/\Qv T h x f ps
 all:∀x,Qw T h x->∃q∈kvs,q.1= .inl x
end MF
namespace MF
open PySem PySem.Spec PyProof.Rows L2
end MF
end
section
namespace MF
open PySem PySem.Spec PyProof.Rows L2
structure Gr (T:TM) (f:List (List Int)) (ms:List Int):Prop where
 lf:f.length=T.ds.length
 row:∀i,i<f.length->(f.getD i []).length=T.co.length
 bd:∀i b,i<f.length->b<T.co.length->0<=(f.getD i []).getD b 0/\(f.getD i []).getD b 0<=(T.cs.getD i []).getD b 0
 lm:ms.length=T.ds.length
 ms:∀k,k<ms.length->ms.getD k 0=(if k=0 then T.st else ms.getD (k-1) 0)+(f.getD k []).sum-T.ds.getD k 0
def LC:List Int->List Int->Int
 | f::fs,o::os=>o * f+LC fs os
 | _,_=>0
structure GoodAt (P:PL) (S:SY) (F:List (List Int)) (ns:List Int) (h:Nat):Prop where
 b:∀b,b<P.bs.length->((P.bs.getD b (0,0)).2<ns.getD h 0->(F.getD h []).getD b 0=((caps P S).getD h []).getD b 0)/\(ns.getD h 0<(P.bs.getD b (0,0)).2->(F.getD h []).getD b 0=0)
 up:ns.getD h 0<ns.getD (h+1) 0->AT P S F (h+1)=P.hi
 dn:ns.getD (h+1) 0<ns.getD h 0->AT P S F (h+1)=P.lo
 bl:0<ns.getD h 0->Ep P.hi (BB P S F h)=0
structure Qy (T:TM) (f:List (List Int)) (ms:List Int) (h:Nat) (ps:List Int):Prop where
 len:ps.length=T.ds.length
 as:Fw T ps
 z:∀k,h<k->ps.getD k 0=0
 b:∀k b,k<T.ds.length->b<T.co.length->(T.co.getD b 0<ps.getD k 0->(f.getD k []).getD b 0=(T.cs.getD k []).getD b 0)/\(ps.getD k 0<T.co.getD b 0->(f.getD k []).getD b 0=0)
 up:∀k,k<h->ps.getD k 0<ps.getD (k+1) 0->ms.getD k 0=T.hi
 dn:∀k,k<h->ps.getD (k+1) 0<ps.getD k 0->ms.getD k 0=T.lo
 hi:∀k,k<T.ds.length->ms.getD k 0<=T.hi
 mon:∀k,h<=k->k+1<T.ds.length->ms.getD (k+1) 0<=ms.getD k 0
def Qz (t:List (Int×Int)) (k:Int):Option Int:=(t.find? λq=>decide (q.1=k)).map (·.2)
structure Mn (L:Int×Int->Prop) (t:List (Int×Int)):Prop where
 snd:∀q∈t,L q
 cmp:∀q,L q->∃w,Qz t q.1=some w/\w<=q.2
 nd:(t.map (·.1)).Nodup
def Att (cs os:List Int) (k:Nat) (q:Int×Int):Prop:=∃r:List Int,r.length=k/\(∀b,b<k->0<=r.getD b 0/\r.getD b 0<=cs.getD b 0)/\q=(r.sum,LC r (os.take k))
def sm (T:TM) (f l:Nat):Int:=Jf T f l-most T f l
abbrev dT (T:TM) (j:Nat):Int:=T.ds.getD j 0
structure Spr (T:TM) (b sp:Nat->Int):Prop where
 sum:∀j,j<T.ds.length->b j+sp j=(T.cs.getD j []).sum
 pos:∀j,j<T.ds.length->0<=sp j
def mT (T:TM) (F:List (List Int)):Nat->Int
 | 0=>T.st
 | i+1=>min T.hi (mT T F i+(F.getD i []).sum-T.ds.getD i 0)
structure FeT (T:TM) (F:List (List Int)):Prop where
 len:F.length=T.ds.length
 row:∀i,i<T.ds.length->(F.getD i []).length=T.co.length
 bd:∀i b,i<T.ds.length->b<T.co.length->0<=(F.getD i []).getD b 0/\(F.getD i []).getD b 0<=(T.cs.getD i []).getD b 0
 lo:∀i,i<T.ds.length->T.lo<=mT T F (i+1)
structure At (T:TM) (h:Nat) (f:List (List Int)) (ms ps:List Int):Prop where
 g:Gr T f ms
 o:Qy T f ms h ps
 lo:∀j,j<h->T.lo<=ms.getD j 0
end MF
end
section
namespace L2
open PySem PySem.Spec PyProof.Rows
theorem QA {K:PySem.W.Frag}{a:Addr}{xs:List V}{cap:List (Option Nat)}{g:TG}{tt:TT}{wi2:TI}{g2:TG}{tt2:TT}{te:TE}{σ:St}{Q:List V->Hp->Prop}{H:Hp} (Pv:Nat->List V->Hp->Prop) (h0:Pv 0 [] H)
  (hl:∀i zs H,Pv i zs H->Ai K H a xs)
  (hs:∀i x zs H,xs[i]? =some x->Pv i zs H->g x (A4 cap σ) H fun σ2 H2=>Keep (A4 cap σ) σ2/\tt σ2 H2 λb H3=>br b (Gy wi2 g2 tt2 te σ2 zs H3 (Pv (i+1))) (Pv (i+1) zs H3))
  (hd:∀zs H,Pv xs.length zs H->Q zs H):PQ (Ef K a) cap g tt wi2 g2 tt2 te σ Q H:=by
 refine⟨λi m zs H=>m=xs.length-i/\i<=xs.length/\Pv i zs H,⟨_,rfl,Nat.zero_le _,h0⟩,?_⟩
 rintro i m zs H ⟨rfl,hi,p⟩
 rcases Nat.lt_or_eq_of_le hi with hlt | rfl
 ·exact .inr ⟨⟨xs,xs[i],hl i zs H p,by simp [hlt]⟩,Pv (i+1),λzs' H' p'=>⟨xs.length-(i+1),by omega,rfl,hlt,p'⟩,λv H' ⟨e,y⟩=>by subst e;exact hs i v zs _ (y xs (hl i zs _ p)) p⟩
 ·exact .inl ⟨⟨xs,hl _ zs H p,Nat.le_refl _⟩,hd zs H p⟩
end L2
namespace MF
open PySem PySem.Spec PyProof.Rows L2
theorem Jj {b:Int}:∀ {ns:List Int},BQ (.int b) (ns.map V.int)=decide (b∈ns)
 | []=>rfl
 | n::ns=>by
  have ih:=Jj (b:=b) (ns:=ns)
  unfold BQ at ih ⊢
  rw [List.map_cons,List.any_cons,ih,Bool.eq_iff_iff,Bool.or_eq_true,decide_eq_true_eq,decide_eq_true_eq,List.mem_cons]
  refine or_congr_left ?_
  show((n==b)=true) ↔_
  rw [beq_iff_eq];exact eq_comm
theorem LD {ns:List Int}:(ns.map V.int).all CZ=true:=by
 rw [List.all_eq_true];intro x hx;obtain⟨n,_,rfl⟩:=List.mem_map.mp hx;rfl
def Bm (ch r:List Int):List Int:=r.zipIdx.map λq=>if (q.2:Int)∈ch then q.1 else 0
def only (T:TM) (ch:List Int):TM:= { T with cs:=T.cs.map (Bm ch)}
theorem DT {ch r:List Int}:(Bm ch r).length=r.length:=by unfold Bm;simp
theorem LE {ch r:List Int}{i:Nat}:(Bm ch r).getD i 0=if (i:Int)∈ch then r.getD i 0 else 0:=by
 unfold Bm
 rw [List.getD_eq_getElem?_getD,List.getElem?_map,List.getElem?_zipIdx,List.getD_eq_getElem?_getD]
 cases r[i]? with
 | none=>simp
 | some x=>simp
theorem QB {ch r:List Int}{x:Int} (h:x∈Bm ch r):x=0\/x∈r:=by
 obtain⟨i,hi,rfl⟩:=List.getElem_of_mem h
 rw [DT] at hi
 have e:=LE (ch:=ch) (r:=r) (i:=i)
 rw [List.getD_eq_getElem?_getD,List.getElem?_eq_getElem (by rw [DT];exact hi)] at e
 have e':(Bm ch r)[i]'(by rw [DT];exact hi)=_:=e
 rw [e']
 by_cases c:(i:Int)∈ch
 ·rw [if_pos c];exact .inr (getD_mem hi)
 ·rw [if_neg c];exact .inl rfl
theorem ES {T:TM} (ok:T.ok) {ch:List Int}:(only T ch).ok:=⟨ok.l8,by show(T.cs.map _).length=_;rw [List.length_map];exact ok.lc⟩
theorem LF {T:TM} (fl:Fu T) {ch:List Int}:Fu (only T ch):=by
 refine⟨ES fl.ok,λr hr=>?_,fl.o,fl.o1,fl.d,fl.l0,fl.h0,fl.s0,fl.l4,fl.h4,fl.s4⟩
 obtain⟨r0,h0,rfl⟩:=List.mem_map.mp (show r∈T.cs.map (Bm ch) from hr)
 obtain⟨a,b⟩:=fl.c r0 h0
 refine⟨by rw [DT];exact a,λc hc=>?_⟩
 rcases QB hc with e | e
 ·omega
 ·exact b c e
structure IsSet (n:Nat) (c:List Int):Prop where
 up:c.Pairwise (· < ·)
 bd:∀x∈c,0<=x/\x<(n:Int)
theorem LG:∀ {c:List Int}{a b:Int},c.Pairwise (· < ·)->(∀x∈c,a<=x/\x<b)->(c.length:Int)<=max 0 (b-a)
 | [],a,b,_,_=>by show(0:Int)<=_;omega
 | x::c,a,b,h,hb=>by
  have h1:=hb x (by simp)
  have ih:=LG (c:=c) (a:=x+1) (b:=b) (List.pairwise_cons.mp h).2 λy hy=>⟨by have:=(List.pairwise_cons.mp h).1 y hy;omega,(hb y (by simp [hy])).2⟩
  rw [List.length_cons]
  omega
theorem IsSet.len {n:Nat}{c:List Int} (h:IsSet n c):c.length<=n:=by
 have:=LG h.up h.bd
 omega
def BM (c:List Int):Int:=match c.getLast? with | none=>0 | some x=>x+1
def grow (n:Nat) (c:List Int):List (List Int):=(List.range ((n:Int)-BM c).toNat).map fun(i:Nat)=>c++[BM c+(i:Int)]
def Ba (n:Nat):Nat->List (List Int)
 | 0=>[[]]
 | k+1=>(Ba n k).flatMap (grow n)
theorem GH {c:List Int}{x:Int}:BM (c++[x])=x+1:=by unfold BM;rw [List.getLast?_concat]
theorem IsSet.first {n:Nat}{c:List Int} (h:IsSet n c):0<=BM c/\BM c<=n/\∀x∈c,x<BM c:=by
 rcases List.eq_nil_or_concat c with e | ⟨d,y,e⟩
 ·subst e;exact⟨by decide,by show(0:Int)<=n;omega,λx hx=>by cases hx⟩
 ·rw [List.concat_eq_append] at e
  subst e
  rw [GH]
  have hy:=h.bd y (by simp)
  refine⟨by omega,by omega,λx hx=>?_⟩
  rcases List.mem_append.mp hx with hx | hx
  ·have:=(List.pairwise_append.mp h.up).2.2 x hx y (by simp)
   omega
  ·rw [List.mem_singleton] at hx;omega
theorem LH {n:Nat}{c d:List Int} (h:IsSet n c):d∈grow n c↔ ∃x,d=c++[x]/\IsSet n d:=by
 obtain⟨f0,f1,f2⟩:=h.first
 unfold grow
 rw [List.mem_map]
 constructor
 ·rintro⟨i,hi,rfl⟩
  have:=List.mem_range.mp hi
  refine⟨_,rfl,?_,λx hx=>?_⟩
  ·exact List.pairwise_append.mpr ⟨h.up,List.pairwise_singleton ..,λx hx y hy=>by rw [List.mem_singleton] at hy;have:=f2 x hx;omega⟩
  ·rcases List.mem_append.mp hx with hx | hx
   ·exact h.bd x hx
   ·rw [List.mem_singleton] at hx;omega
 ·rintro⟨x,rfl,hs⟩
  have hx:=hs.bd x (by simp)
  have:BM c<=x:=by
   rcases List.eq_nil_or_concat c with e | ⟨d,y,e⟩
   ·subst e;exact hx.1
   ·rw [List.concat_eq_append] at e
    subst e
    rw [GH]
    have:=(List.pairwise_append.mp hs.up).2.2 y (by simp) x (by simp)
    omega
  exact⟨(x-BM c).toNat,by rw [List.mem_range];omega,by rw [show BM c+((x-BM c).toNat:Int)=x from by omega]⟩
theorem mem_sets {n:Nat}:∀ {k:Nat}{c:List Int},c∈Ba n k↔IsSet n c/\c.length=k
 | 0,c=>by
  show c∈ [[]] ↔_
  rw [List.mem_singleton]
  constructor
  ·rintro rfl;exact⟨⟨.nil,λx hx=>by cases hx⟩,rfl⟩
  ·rintro⟨_,h⟩;exact List.length_eq_zero_iff.mp h
 | k+1,c=>by
  show c∈(Ba n k).flatMap (grow n) ↔_
  rw [List.mem_flatMap]
  constructor
  ·rintro⟨d,hd,hc⟩
   obtain⟨h1,h2⟩:=mem_sets.mp hd
   obtain⟨x,rfl,hs⟩:=(LH h1).mp hc
   exact⟨hs,by simp [h2]⟩
  ·rintro⟨hs,hl⟩
   rcases List.eq_nil_or_concat c with e | ⟨d,x,e⟩
   ·subst e;simp at hl
   ·rw [List.concat_eq_append] at e
    subst e
    have hd:IsSet n d:=⟨(List.pairwise_append.mp hs.up).1,λy hy=>hs.bd y (by simp [hy])⟩
    exact⟨d,mem_sets.mpr ⟨hd,by simpa using hl⟩,(LH hd).mpr ⟨x,rfl,hs⟩⟩
theorem DU:∀n,n<=4->∀k,k<=4->(Ba n k).length<=6:=by decide+kernel
def Dz (n:Nat):List Int:=(List.range n).map fun(i:Nat)=>(i:Int)
end MF
namespace MF
open PySem PySem.Spec PyProof.Rows L2
theorem Jk {P:PL}{S:SY} (ok:P.ok) (so:S.ok P.bs.length) {c:List Int}:FOk P S (only (terms P S) c).cs:=by
 have fo:=FOk.caps (S:=S) ok
 have at_:∀(i:Nat) (r:List Int),(only (terms P S) c).cs[i]? =some r->∃r0,(caps P S)[i]? =some r0/\r=Bm c r0:=λi r h=>by
  rw [show(only (terms P S) c).cs=(caps P S).map (Bm c) from rfl,List.getElem?_map] at h
  cases z:(caps P S)[i]? with
  | none=>rw [z] at h;cases h
  | some r0=>rw [z] at h;cases h;exact⟨r0,rfl,rfl⟩
 refine⟨by show((caps P S).map _).length=_;rw [List.length_map];exact fo.len,λi r h=>?_,λi r j x y h hx hy=>?_⟩
 ·obtain⟨r0,h0,rfl⟩:=at_ i r h
  rw [DT];exact fo.row i r0 h0
 ·obtain⟨r0,h0,rfl⟩:=at_ i r h
  have hj:j<r0.length:=by have:=(List.getElem?_eq_some_iff.mp hx).1;rw [DT] at this;exact this
  have e:=LE (ch:=c) (r:=r0) (i:=j)
  rw [List.getD_eq_getElem?_getD,hx,List.getD_eq_getElem?_getD,List.getElem?_eq_getElem hj] at e
  have b:=fo.bd i r0 j r0[j] y h0 (List.getElem?_eq_getElem hj) hy
  by_cases z:(j:Int)∈c
  ·rw [if_pos z] at e
   have e':x=r0[j]:=e
   rw [e'];exact b
  ·rw [if_neg z] at e
   have e':x=0:=e
   omega
end MF
end
section
namespace L2
open PySem PySem.Spec PyProof.Rows
section
variable {prog : Program} {w : World} {A : Around} {E : Value -> Shared -> Prop} {s : Shared} {t : Addr} {items : Array Value}
theorem QC:((items.size:Int) !=0)= !items.isEmpty:=by
 cases z:items.isEmpty
 ·have:items.size≠0:=λe=>by rw [Array.isEmpty,e] at z;cases z
  show _=true
  rw [bne_iff_ne];omega
 ·have:items.size=0:=by simpa [Array.isEmpty] using z
  rw [this];rfl
theorem LI {Q:Bool->Shared->Prop} (ht:IsTup s.heap t items) (hfit:(items.size:Int)<2 ^ 63) (h:Q (!items.isEmpty) { s with toks:=s.toks+1+1}):wpAny (model prog w) A (truthy (.ref t)) Q E s:=by
 have hT:=ht.typeIs
 have nb:=PySem.W.ktl_noBool
 have ln:=slot_tuple_len.lookup
 have ng:¬((items.size:Int) ≥2 ^ 63):=by omega
 have n0:¬((items.size:Int)<0):=by omega
 unfold truthy
 repeat (any_goals (first | assumption | with_reducible refine wpAny_callSpecial?_none (by assumption) (by assumption) ?_ | wp_step))
 refine codeAny_builtin entry_len ?_
 rw [Around.under_plainId plain_len _]
 unfold Builtin.«len»
 refine wpAny_bind (m:=oneArg "len" _) (wpAny_pure (wpAny_bind (wpAny_callSpecial?_slot (name:=Str.ofString "__len__") hT slot_tuple_len (wpAny_call_entry slot_tuple_len hT entry_tuple_len ?_ (args_tuple_len _)))))
 show wpAny _ _ (do retInt (<-Builtin.Tuple.tupleItemsOf (.ref t)).size) _ _ s
 refine wpAny_bind (tupleItemsOf_ ht (wpAny_bind (wpAny_mkInt (wpAny_pure ⟨_,rfl,?_⟩))))
 have e:=QC (items:=items)
 simp only [ng,n0,if_false]
 repeat (any_goals (first | assumption | (rw [if_neg ng]) | (rw [e];assumption) | wp_step))
end
def QD (te:TE):TT:=fun σ H Q=>te σ H λx H'=>∃a xs,x= .ref a/\H' a=some (.tup xs)/\Q (!xs.isEmpty) H'
theorem LJ {X:Cx}{a:Expr}{ta:TE} (ha:PE X a ta) (he:∀whole,isTrue a X.env whole=(do let v<-whole;standAt a.pos;holding [v] (truthy v)):=by intro _;rfl):PT X a (QD ta):=by
 intro pins s σ H Q I h
 refine isTrue_plain (Av (ha pins s σ H _ I h) λv s1 ⟨x,H1,I1,r1,q1⟩=>?_) (he _)
 obtain⟨b,xs,rfl,hb,q⟩:=q1
 cases r1
 obtain⟨its,r,pl,hz⟩:=I1.tuple (Ac.of hb)
 have hlen:=r.length
 have big:sizeLine<2 ^ 63:=by decide
 exact LI pl (by simp only [List.size_toArray];omega) ⟨H1,I1.tok _,by rw [J9 r];exact q⟩
end L2
end
section
namespace L2
open PySem PySem.Spec PyProof.Rows
def Zd (H:Hp) (Ts:List Addr) (xs ys:List V):Prop:=∀(j:Nat) (T:Addr) (x y:V),Ts[j]? =some T->xs[j]? =some x->ys[j]? =some y->H T=some (.tup [x,y])
structure LzS {X:Cx} (S1 S2:A9 X.prog X.w X.K) (pins:List (Addr×Obj)) (σ:St) (z TI TO i1 i2 l1 l2 S:Addr) (xs ys:List V) (i:Nat) (s:Shared) (H:Hp) (Ts:List Addr) (c:Nat):Prop where
 I:Ae X pins σ H s
 fp:∀b∈ [z,TI,TO,i1,i2,S],Ci X pins H b
 z:EG s.heap z TI TO
 ti:Bg s.heap TI (.ref i1) (.ref i2)
 to:∃a b,Bg s.heap TO a b
 i1:S1.It s.heap i1 l1 i
 i2:S2.It s.heap i2 l2 i
 s1:S1.Sq H l1 xs
 s2:S2.Sq H l2 ys
 l:s.heap.get? S=some { cls:= .type "list",dict:=none,data:= .seq (Ts.map Value.ref).toArray c,slots:= #[]}
 n:Ts.length=i
 zd:Zd H Ts xs ys
section
variable {prog : Program} {w : World} {A : Around} {s : Shared} {R : Result -> Shared -> Prop} {E : Value -> Shared -> Prop}
structure NilAt (S:Addr) (g g':Heap):Prop where
 it:∃c,g'.get? S=some { cls:= .type "list",dict:=none,data:= .seq #[] c,slots:= #[]}
 kp:KpBut S g g'
 sz:g'.objs.size=g.objs.size
end
set_option maxHeartbeats 8000000 in
theorem QE (P:Program) (w:World) (K:PySem.W.Frag):EI (Fi P w K) (Cc P w K):=λl1 l2 xs1 xs2=>
 .of_wp λprog w A R s h=>by
  obtain⟨hp,g,d,tk,os⟩:=s;obtain⟨hl1,hl2,h⟩:=h;have hsub:=sub_zip
  have hL1:Heap.IsList (Shared.heap ⟨hp,g,d,tk,os⟩) l1 xs1:=hl1
  have hL2:Heap.IsTuple (Shared.heap ⟨(hp).push { cls:= .type "list_iterator",data:= .fields #[.ref l1,.int 0 0]},g,d,tk,os⟩) l2 xs2:=Heap.IsTuple.push (hl2) _
  wp_walk using wpAny_pyIter_list hL1,wpAny_pyIter_tuple hL2
  exact⟨_,rfl,h⟩
theorem LK (P:Program) (w:World) (K:PySem.W.Frag) {X:Cx}{es:List Expr}{k:Nat}{p pos pos':Pos}{e1 e2:Expr}{ta:TA} (hg:Gl X "zip") (hm:X.mg "zip"=none) (ha:PA X [e1,e2] ta) (hP:X.prog=P:=by rfl) (hw:X.w=w:=by rfl) (hK:X.K=K:=by rfl)
  (hs:starEach [e1,e2] X.env=[(false,eval e1 X.env),(false,eval e2 X.env)]:=by rfl) (hs2:starEach [e2] X.env=[(false,eval e2 X.env)]:=by rfl):
  PI X (.Tuple es k pos') (.Call (.Name "zip" p) [e1,e2] [] pos) (EJ (Fi P w K) (Cc P w K) ta):=by subst hP hw hK;exact IP _ _ (QE _ _ _) hg hm ha hs hs2
end L2
end
section
namespace L2
open PySem PySem.Spec PyProof.Rows PySem.W
def Jl {α:Type} (lt:Nat->Nat->Bool):KasT α->α
 | .ret a=>a
 | .ask i j k=>Jl lt (k (lt i j))
def kIn {α:Type} (n:Nat):KasT α->Bool
 | .ret _=>true
 | .ask i j k=>decide (i<n) && decide (j<n) && kIn n (k true) && kIn n (k false)
theorem QF {α:Type}{n i j:Nat}{k:Bool->KasT α} (h:kIn n (.ask i j k)=true):i<n/\j<n/\∀b,kIn n (k b)=true:=by
 unfold kIn at h
 simp only [Bool.and_eq_true,decide_eq_true_eq] at h
 exact⟨h.1.1.1,h.1.1.2,λb=>by cases b;exact h.2;exact h.1.2⟩
theorem LL {α:Type}{n:Nat}{lt:Nat->Nat->Bool}{cmp:Nat->Nat->(Bool->Shared->Prop)->Shared->Prop}{s:Shared} (hc:∀i j C,i<n->j<n->C (lt i j) s->cmp i j C s):
  ∀ {t:KasT α}{Q:α->Shared->Prop},kIn n t=true->Q (Jl lt t) s->t.kasWp cmp Q s
 | .ret _,_,_,h=>h
 | .ask i j k,_,hi,h=>by
  obtain⟨h1,h2,h3⟩:=QF hi
  exact hc i j _ h1 h2 (LL hc (h3 _) h)
section
variable {prog : Program} {w : World} {A : Around} {E : Value -> Shared -> Prop} {s : Shared}
theorem QG {a:Addr}{vs:List Value}{n:Nat}{P:PySem.Fin->Shared->Prop} (ho:s.heap.get? a=some (seqObj "list" vs.toArray n)) (few:vs.length<=1)
  (h:∀g c,KpBut a s.heap g->g.get? a=some (seqObj "list" vs.toArray c)->P (.done (.ret .none)) { s with heap:=g}):wpAny (model prog w) A (Builtin.«list.sort» ⟨[.ref a],[]⟩) P E s:=by
 have big:vs.toArray.size<=sizeLine:=by rw [List.size_toArray];exact Nat.le_trans few (by decide)
 have few':vs.toArray.size<2:=by rw [List.size_toArray];omega
 have same:(arrOf (SortSt.mk' general' (vs.toArray.zip vs.toArray) #[] 7 none)).map (·.2)=vs.toArray:=by
  match vs,few with
  | [],_=>show(Array.zip #[] #[]).map _=_;simp
  | [v],_=>show(Array.zip #[v] #[v]).map _=_;simp
  | _::_::_,f=>simp at f
 obtain⟨e1,u1⟩:∃e1,(s.heap.update a (Obj.mapSeq λ_=> #[])).get? a=some (seqObj "list" #[] e1):=⟨_,get?_update_seq ho λ_=> #[]⟩
 have k1:=KpBut.upd (a:=a) (g:=s.heap) (Obj.mapSeq λ_=> #[])
 rw [list_sort_plain]
 refine wpAny_bind (listItems_at ho rfl (wpAny_bind (listUpdate_at ho rfl ?_ big (Nat.zero_le _))))
 generalize s.heap.update a (Obj.mapSeq λ_=> #[])=g1 at u1 k1
 refine wpAny_bind (seqEpoch_at (s:= { s with heap:=g1}) u1 rfl (wpAny_bind (wpAny_newTuple (wpAny_bind (wpAny_newList (wpAny_holding ?_) (Nat.zero_le _))) big)))
 have u3:((g1.push (seqObj "tuple" vs.toArray 0)).push (seqObj "list" #[] 0)).get? a=some (seqObj "list" #[] e1):=Heap.get?_push_of_some _ (Heap.get?_push_of_some _ u1)
 have k3:KpBut a s.heap ((g1.push (seqObj "tuple" vs.toArray 0)).push (seqObj "list" #[] 0)):=k1.trans ((KpBut.new _).trans (KpBut.new _))
 show wpAny (model prog w) A _ P E { s with heap:=(g1.push (seqObj "tuple" vs.toArray 0)).push (seqObj "list" #[] 0)}
 generalize(g1.push (seqObj "tuple" vs.toArray 0)).push (seqObj "list" #[] 0)=g3 at u3 k3
 simp only [if_pos few',StateT.run_pure]
 refine wpAny_bind (wpAny_pure (wpAny_bind (wpAny_pure (wpAny_bind (seqEpoch_at (s:= { s with heap:=g3}) u3 rfl ?_)))))
 dsimp only
 rw [same]
 refine wpAny_bind (listUpdate_at (s:= { s with heap:=g3}) u3 rfl ?_ (Nat.zero_le _) (Nat.le_succ_of_le big))
 rw [bne_self_eq_false]
 exact wpAny_pure (h _ _ (k3.trans (KpBut.upd _)) (get?_update_seq u3 λ_=>vs.toArray))
theorem QH {l:Addr}{vs:List Value}{Q:Value->Shared->Prop} (hl:s.heap.IsList l vs.toArray) (few:vs.length<=1)
  (h:∀D g c,s.heap.objs.size<=D->(∀b o,s.heap.get? b=some o->g.get? b=some o)->g.get? D=some (seqObj "list" vs.toArray c)->Q (.ref D) { s with heap:=g}):wpAny (model prog w) A (call (.builtin "sorted") [.ref l]) Q E s:=by
 have big:vs.length<=sizeLine:=Nat.le_trans few (by decide)
 have kS:∀b o,s.heap.get? b=some o->((s.heap.push (seqObj "list" #[] 0)).update s.heap.objs.size (Obj.mapSeq (· ++vs.toArray))).get? b=some o:=λb o e=>KpBut.upd _ b o (Nat.ne_of_lt (Heap.lt_size e)) (Heap.get?_push_of_some _ e)
 have zS:((s.heap.push (seqObj "list" #[] 0)).update s.heap.objs.size (Obj.mapSeq (· ++vs.toArray))).objs.size=s.heap.objs.size+1:=by simp [Heap.size_update,size_push']
 refine Calls.call_function_entry kind_sorted plain_sorted entry_sorted (args_sorted1 _) (wpAny_bind (m:=checkCount "sorted" 1 1 _) (wpAny_pure (wpAny_bind (collect_list hl ?_ big))))
 generalize(s.heap.push (seqObj "list" #[] 0)).update s.heap.objs.size (Obj.mapSeq (· ++vs.toArray))=gS at kS zS
 refine wpAny_bind (wpAny_newList ?_ big)
 have oD:(gS.push (seqObj "list" vs.toArray 0)).get? gS.objs.size=some (seqObj "list" vs.toArray 0):=Heap.get?_push_size _ rfl
 exact wpAny_bind (wpAny_holding (wpAny_call_entry slot_list_sort ⟨_,oD,rfl⟩ entry_list_sort (QG (s:= { s with heap:=gS.push (seqObj "list" vs.toArray 0)}) oD few λg c kp gD=>⟨_,rfl,wpAny_pure ⟨_,rfl,h gS.objs.size g c (by rw [zS];exact Nat.le_succ _) (λb o e=>kp b o (Nat.ne_of_lt (by rw [zS];exact Nat.lt_succ_of_lt (Heap.lt_size e))) (Heap.get?_push_of_some _ (kS b o e))) gD⟩⟩) (args_list_sort _)))
def Jm (g:Heap) (L:Addr):List (Addr×Obj):=(List.range g.objs.size).filterMap λb=>if b=L then none else(g.get? b).map λo=>(b,o)
theorem allBut_mem {g:Heap}{L:Addr}{q:Addr×Obj}:q∈Jm g L↔q.1≠L/\g.get? q.1=some q.2:=by
 unfold Jm
 rw [List.mem_filterMap]
 constructor
 ·rintro⟨b,_,e⟩
  by_cases z:b=L
  ·rw [if_pos z] at e;cases e
  ·rw [if_neg z] at e
   cases y:g.get? b with
   | none=>rw [y] at e;cases e
   | some o=>rw [y] at e;cases e;exact⟨z,y⟩
 ·rintro⟨n,e⟩
  exact⟨q.1,List.mem_range.mpr (Heap.lt_size e),by rw [if_neg n,e];rfl⟩
end
theorem Ae.laidF {X:Cx}{pins:List (Addr×Obj)}{σ:St}{H:Hp}{s:Shared}{g:Heap}{D:Addr}{o:HO}{m:Str->Option Value} (I:Ae X pins σ H s) (kp:∀b u,b≠X.env.locals->s.heap.get? b=some u->g.get? b=some u) (n0:s.heap.Ns X.env.locals m) (n1:g.Ns X.env.locals m)
  (off:s.heap.get? D=none) (new:ObjOk X.prog X.w (upd H D o) g D o):Ae X pins σ (upd H D o) { s with heap:=g}:=by
 have hD:H D=none:=by
  cases e:H D with
  | none=>rfl
  | some u=>obtain⟨ob,z⟩:=(I.hok D u e).there;rw [off] at z;cases z
 have ne:∀b u,s.heap.get? b=some u->b≠D:=λb u e z=>by rw [z,off] at e;cases e
 have nt:∀b u,H b=some u->b≠D:=λb u e z=>by rw [z,hD] at e;cases e
 have nl:∀b u,H b=some u->b≠X.env.locals:=λb u e z=>by rw [z,I.free] at e;cases e
 refine I.step (g':=s.gens) (t':=s.toks) (d':=s.drawn) (ch:=[]) (λ_ z=>nomatch z) (λb u n _ _ e _=>kp b u n e) (λb u n _ _ e _=>⟨u.slots,kp b u n e⟩) (λb u _ e n=>by rw [AA (ne b u e)];exact n) (λb u _ e=>?_)
  (λb xs e=>by rw [AA (nt b _ e)];exact e) (λb u v e=>by rw [AA (nt b _ e)];exact e) (λb ps e=>⟨#[],by rw [AA (nt b _ e),e];simp⟩) (λm' z=>?_) (λb u e=>?_) I.bare
 ·by_cases z:b=X.env.locals
  ·obtain⟨o',_,_,q,_⟩:=n1
   exact⟨o',by rw [z];exact q⟩
  ·exact⟨u,kp b u z e⟩
 ·have em:m'=m:=by
   obtain⟨o1,es1,ep1,q1,d1,_,f1⟩:=z
   obtain⟨o2,es2,ep2,q2,d2,_,f2⟩:=n0
   rw [q1] at q2;cases q2
   rw [d1] at d2;cases d2
   funext x
   rw [<-f1,<-f2]
  rw [em];exact n1
 ·by_cases z:b=D
  ·subst z
   rw [Ag] at e
   cases e
   exact new
  ·rw [AA z] at e
   refine(I.hok b u e).stay (λc v hc q=>kp c v ?_ q) (λc q=>by rw [AA (nt c _ q)];exact q) λc xs q=>by rw [AA (nt c _ q)];exact q
   rcases hc with y | y
   ·rw [y];exact nl b u e
   ·exact nl c _ y
theorem LM:∀ {Ts:List Addr}{us:List Value},Ar (Ts.map V.ref) us->us=Ts.map Value.ref
 | [],_,.nil=>rfl
 | T::Ts,_,.cons h r=>by
  have:=LM r
  cases h
  rw [this];rfl
end L2
end
section
namespace L2
open PySem PySem.Spec PyProof.Rows PySem.W
variable {H : Hp} {Ts : List Addr} {rs : List (List Int)}
def Cv:List Int->List Int->Bool
 | a::as,b::bs=>decide (a<b) || (decide (a=b) && Cv as bs)
 | _,_=>false
theorem LN:∀ {as:List Int},Cv as as=false
 | []=>rfl
 | a::as=>by unfold Cv;rw [LN];simp
theorem LO:∀ {as bs:List Int},Cv as bs=true->Cv bs as=false
 | a::as,b::bs,h=>by
  unfold Cv at h ⊢
  simp only [Bool.or_eq_true,Bool.and_eq_true,decide_eq_true_eq] at h
  rcases h with h | ⟨rfl,h⟩
  ·rw [decide_eq_false (by omega),decide_eq_false (by omega)];rfl
  ·rw [LO h];simp
 | [],_,h=>by simp [Cv] at h
 | _::_,[],h=>by simp [Cv] at h
section
variable {prog : Program} {w : World} {A : Around} {E : Value -> Shared -> Prop} {s : Shared}
theorem LP {C:Bool->Shared->Prop}:∀ {us vs:List Value}{as bs:List Int}{i:Nat},IntsAre us as->IntsAre vs bs->as.length=bs.length->C (Cv as bs) s->KatLex prog w A true false C (us.zip vs) i s
 | _,_,_,_,i,.nil,.nil,_,h=>kat_nil h
 | _,_,_,_,i,.cons a t hr,.cons b u hq,hl,h=>by
  refine kat_cons (wpAny_eqBool_int ?_)
  refine kat_go (λe=>kat_yes (LP hr hq (by simpa using hl) ?_)) λe=>kat_no ?_
  ·have e':a=b:=by simpa using e
   unfold Cv at h
   rw [decide_eq_false (by omega),decide_eq_true e'] at h
   simpa using h
  ·have e':a≠b:=by simpa using e
   have hx:C (decide (a<b)) s:=by
    unfold Cv at h
    rw [decide_eq_false e'] at h
    simpa using h
   cases i with
   | zero=>exact oneLt_int hx
   | succ i=>exact kat_one _ _ (wpAny_lt_int hx)
 | _,_,_,_,i,.nil,.cons _ _ _,hl,_=>by simp at hl
 | _,_,_,_,i,.cons _ _ _,.nil,hl,_=>by simp at hl
end
def LQ (n:Nat):Bool:=kIn n (kas_sort n) && decide ((Jl (λi j=>decide (i<j)) (kas_sort n)).toList=List.range n)
theorem QI:∀n,n<=6->2<=n->LQ n=true:=by decide+kernel
def LR (h:Heap) (vs:List Value) (rs:List (List Int)):Prop:=vs.length=rs.length/\∀(j:Nat) (v:Value),vs[j]? =some v->∃a o n its,v= .ref a/\h.get? a=some o/\o.cls= .type "tuple" /\o.data= .seq (List.toArray its) n/\IntsAre its (rs.getD j [])
def RwT (H:Hp) (Ts:List Addr) (rs:List (List Int)):Prop:=Ts.length=rs.length/\∀(j:Nat) (T:Addr) (r:List Int),Ts[j]? =some T->rs[j]? =some r->H T=some (.tup (r.map V.int))
def QJ:List V->Hp->VK->Prop:=λxs H Q=>∃(p:Addr) (Ts:List Addr) (rs:List (List Int)) (k:Nat),xs=[.ref p]/\H p=some (.lst (Ts.map V.ref))/\Ts.length<=6/\RwT H Ts rs/\1<=k/\(∀r∈rs,r.length=k)/\rs.Pairwise (λa b=>Cv a b=true)/\
 ∀(l:Addr) (H':Hp),Ab H H'->H l=none->H' l=some (.lst (Ts.map V.ref))->Q (.ref l) H'
theorem LS:∀ {vs:List Value}{h:Heap},(∀v∈vs,∃a o n c t its,v=Value.ref a/\h.get? a=some o/\o.cls= .type "tuple" /\o.data= .seq (List.toArray (Value.int c t::its)) n)->∃fs,KatTups h vs fs/\fs.length=vs.length/\∀f∈fs,∃c t,f=Value.int c t
 | [],_,_=>⟨[],.nil,rfl,λ_ h=>by cases h⟩
 | v::vs,h,hv=>by
  obtain⟨a,o,n,c,t,its,rfl,ho,hc,hd⟩:=hv v (by simp)
  obtain⟨fs,h1,h2,h3⟩:=LS (vs:=vs) (h:=h) λv hv'=>hv v (by simp [hv'])
  refine⟨.int c t::fs,.cons ho hc hd ?_ h1,by simp [h2],λf hf=>?_⟩
  ·simp
  ·rcases List.mem_cons.mp hf with e | e
   ·exact⟨c,t,e⟩
   ·exact h3 f e
theorem QK {X:Cx}:BH X (.builtin "sorted") QJ:=by
 intro pins s σ H xs us Q I r h
 obtain⟨p,Ts,rs,k,rfl,hp,hn,rw_,k1,hk,up,q⟩:=h
 obtain⟨u,rfl,ru⟩:=r.one
 cases ru
 obtain⟨its,rv,pl,hz⟩:=I.list (Ai.of hp)
 have hl:=rv.length
 rw [List.length_map] at hl
 have ei:its=Ts.map Value.ref:=LM rv
 have pv:LR s.heap its rs:=⟨by rw [<-hl,rw_.1],λj v hv=>by
  rw [ei,List.getElem?_map] at hv
  cases hT:Ts[j]? with
  | none=>rw [hT] at hv;cases hv
  | some T=>
   rw [hT] at hv
   cases hv
   have lj:j<rs.length:=by rw [<-rw_.1];exact(List.getElem?_eq_some_iff.mp hT).1
   have hH:=rw_.2 j T rs[j] hT (List.getElem?_eq_getElem lj)
   obtain⟨us,r',t',z'⟩:=I.tuple (Ac.of hH)
   obtain⟨o,ho,hc,n,hd⟩:=t'
   exact⟨T,o,n,us,rfl,ho,hc,hd,by rw [show rs.getD j []=rs[j] from by rw [List.getD_eq_getElem?_getD,List.getElem?_eq_getElem lj];rfl];exact Ki r'⟩⟩
 obtain⟨m,n0,_⟩:=id I.loc
 have fin:∀(D:Addr) (g:Heap) (c:Nat),s.heap.get? D=none->(∀b u,b≠X.env.locals->s.heap.get? b=some u->g.get? b=some u)->g.Ns X.env.locals m->g.get? D=some (seqObj "list" its.toArray c)->EP X pins σ Q (.ref D) { s with heap:=g}:=by
  intro D g c off kp n1 gD
  have hfr:H D=none:=by
   cases e:H D with
   | none=>rfl
   | some u=>obtain⟨ob,z⟩:=(I.hok D u e).there;rw [off] at z;cases z
  refine⟨.ref D,_,I.laidF (o:= .lst (Ts.map V.ref)) kp n0 n1 off ⟨by rw [List.length_map];exact Nat.le_trans hn (by decide),its,c,rv,by simpa [seqObj] using gD⟩,rfl,q _ _ (Ab.new hfr) hfr Ag⟩
 by_cases h2:2<=its.length
 ·have F0:Fr {} X.env.locals s.heap m:=⟨n0,λb o e=>(by rw [Heap.get?_none_of_le (Nat.zero_le b)] at e;cases e),Nat.zero_le _⟩
  have N0:News {} X.env.locals s.heap (Jm s.heap X.env.locals):=λz hz=>⟨(allBut_mem.mp hz).2,(allBut_mem.mp hz).1,Heap.get?_none_of_le (Nat.zero_le _)⟩
  have ck:=QI its.length (by omega) h2
  unfold LQ at ck
  rw [Bool.and_eq_true,decide_eq_true_eq] at ck
  obtain⟨ki,kr⟩:=ck
  refine kat_sorted F0 N0 pl.isList h2 (by omega) λD e1 g F1 N1 below=>?_
  have nD:D≠X.env.locals:=(N1 _ List.mem_cons_self).2.1
  have off:s.heap.get? D=none:=by
   cases e:s.heap.get? D with
   | none=>rfl
   | some ob=>exact absurd (below (D,ob) (allBut_mem.mpr ⟨nD,e⟩)) (Nat.lt_irrefl D)
  have pg:LR g its rs:=⟨pv.1,λj v hv=>by
   obtain⟨a,o,n,us,e,ho,hc,hd,ia⟩:=pv.2 j v hv
   refine⟨a,o,n,us,e,(N1 (a,o) (List.mem_cons_of_mem _ (allBut_mem.mpr ⟨λz=>?_,ho⟩))).1,hc,hd,ia⟩
   obtain⟨o2,_,_,q2,d2,_⟩:=n0
   have z':a=X.env.locals:=z
   rw [<-z',ho] at q2
   cases q2
   rw [hd] at d2;cases d2⟩
  obtain⟨fs,t1,t2,t3⟩:=LS (vs:=its) (h:=g) (λv hv=>by
   obtain⟨j,hj,e⟩:=List.mem_iff_getElem.mp hv
   obtain⟨a,o,n,us,e',x1,x2,x3,ia⟩:=pg.2 j v (by rw [List.getElem?_eq_getElem hj,e])
   have lj:j<rs.length:=by rw [<-pg.1];exact hj
   have hr:=hk rs[j] (List.getElem_mem lj)
   rw [show rs.getD j []=rs[j] from by rw [List.getD_eq_getElem?_getD,List.getElem?_eq_getElem lj];rfl] at ia
   generalize rs[j]=row at ia hr
   cases ia with
   | nil=>simp at hr;omega
   | cons c t hr'=>exact⟨a,o,n,c,t,_,e',x1,x2,x3⟩)
  refine kat_kind (s:= { s with heap:=g}) (T:= .type "int") t1 (by omega) (λf hf=>by
   obtain⟨c,t,e⟩:=t3 f hf
   rw [e]
   exact Looks.of_pure rfl) rfl ?_
  show KasT.kasWp _ _ _ _
  refine LL (n:=its.length) (lt:=λi j=>decide (i<j)) (λi j C hi hj hC=>?_) ki ?_
  ·unfold kas_ask
   obtain⟨a,o,n,us1,e,ho,hc,hd,ia⟩:=pg.2 i its[i] (List.getElem?_eq_getElem hi)
   obtain⟨a',o',n',us2,e',ho',hc',hd',ia'⟩:=pg.2 j its[j] (List.getElem?_eq_getElem hj)
   rw [show its.getD i Value.none= .ref a from by rw [List.getD_eq_getElem?_getD,List.getElem?_eq_getElem hi,<-e];rfl,show its.getD j Value.none= .ref a' from by rw [List.getD_eq_getElem?_getD,List.getElem?_eq_getElem hj,<-e'];rfl]
   have li:i<rs.length:=by rw [<-pg.1];exact hi
   have lj:j<rs.length:=by rw [<-pg.1];exact hj
   rw [show rs.getD i []=rs[i] from by rw [List.getD_eq_getElem?_getD,List.getElem?_eq_getElem li];rfl] at ia
   rw [show rs.getD j []=rs[j] from by rw [List.getD_eq_getElem?_getD,List.getElem?_eq_getElem lj];rfl] at ia'
   have l1:=hk _ (List.getElem_mem li)
   have l2:=hk _ (List.getElem_mem lj)
   have s1:=ia.length
   have s2:=ia'.length
   refine kat_lt ho hd ho' hd' ?_
   have sz:decide (us1.toArray.size<us2.toArray.size)=false:=decide_eq_false (by simp only [List.size_toArray];omega)
   rw [sz]
   refine LP ia ia' (by omega) ?_
   have el:Cv rs[i] rs[j]=decide (i<j):=by
    rcases Nat.lt_trichotomy i j with c | c | c
    ·rw [decide_eq_true c];exact List.pairwise_iff_getElem.mp up i j li lj c
    ·subst c;rw [LN,decide_eq_false (Nat.lt_irrefl _)]
    ·rw [decide_eq_false (by omega)];exact LO (List.pairwise_iff_getElem.mp up j i lj li c)
   rw [el];exact hC
  rw [kr]
  refine KasFin.intro (s:= { s with heap:=g}) F1 N1 (.head λz hz=>Nat.ne_of_lt (below z hz)) λg2 c F2 N2=>?_
  have e:((List.range its.length).map λi=>its.getD i Value.none)=its:=by
   apply List.ext_getElem
   ·simp
   ·intro i a b
    simp [List.getD_eq_getElem?_getD,List.getElem?_eq_getElem b]
  rw [e] at N2
  exact fin D g2 c off (λb u n e=>(N2 (b,u) (List.mem_cons_of_mem _ (allBut_mem.mpr ⟨n,e⟩))).1) F2.ns (N2 _ List.mem_cons_self).1
 ·refine QH pl.isList (by omega) λD g c hD kp gD=>?_
  refine fin D g c (Heap.get?_none_of_le hD) (λb u _ e=>kp b u e) ?_ gD
  obtain⟨o,es,ep,e,r'⟩:=n0
  exact⟨o,es,ep,kp _ _ e,r'⟩
theorem RwT.sm {H':Hp} (p:RwT H Ts rs) (s:Ab H H'):RwT H' Ts rs:=⟨p.1,λj T c a b=>s _ _ (p.2 j T c a b)⟩
theorem RwT.own {L:Addr}{ys:List V}{o:HO} (p:RwT H Ts rs) (h:H L=some (.lst ys)):RwT (upd H L o) Ts rs:=⟨p.1,λj T c a b=>by
 have k:=p.2 j T c a b
 rw [AA (λz=>by rw [z,h] at k;cases k)];exact k⟩
theorem RwT.snoc {T:Addr}{r:List Int} (p:RwT H Ts rs) (h:H T=some (.tup (r.map V.int))):RwT H (Ts++[T]) (rs++[r]):=by
 refine⟨by rw [List.length_append,List.length_append,p.1];rfl,λj U c a b=>?_⟩
 by_cases z:j<Ts.length
 ·rw [List.getElem?_append_left z] at a
  rw [List.getElem?_append_left (by rw [<-p.1];exact z)] at b
  exact p.2 j U c a b
 ·rw [List.getElem?_append_right (by omega)] at a
  rw [List.getElem?_append_right (by rw [<-p.1];omega),<-p.1] at b
  cases e:j-Ts.length with
  | zero=>rw [e] at a b;cases a;cases b;exact h
  | succ n=>rw [e] at a;cases a
theorem RwT.app {Us:List Addr}{qs:List (List Int)} (p:RwT H Ts rs) (q:RwT H Us qs):RwT H (Ts++Us) (rs++qs):=by
 refine⟨by rw [List.length_append,List.length_append,p.1,q.1],λj U c a b=>?_⟩
 by_cases z:j<Ts.length
 ·rw [List.getElem?_append_left z] at a
  rw [List.getElem?_append_left (by rw [<-p.1];exact z)] at b
  exact p.2 j U c a b
 ·rw [List.getElem?_append_right (by omega)] at a
  rw [List.getElem?_append_right (by rw [<-p.1];omega),<-p.1] at b
  exact q.2 _ U c a b
theorem RwT.nil:RwT H [] []:=⟨rfl,λj T r a=>by cases a⟩
end L2
end
section
namespace L2
open PySem PySem.Spec PyProof.Rows
def LT (prog:Program) (w:World) (s:Shared) (v:Value) (Post:List Value->Shared->Prop):Prop:=
 ∀(A:Around) (Q:List Value->Shared->Prop) (E:Value->Shared->Prop),A.handled=none->(∀vs s',Post vs s'->Q vs s')->wpAny (model prog w) A (collect v) Q E s
section
variable {prog : Program} {w : World} {A : Around} {E : Value -> Shared -> Prop} {s : Shared}
theorem QL {v:Value}{Post:List Value->Shared->Prop}{Q:Value->Shared->Prop} (hh:A.handled=none) (c:LT prog w s v Post)
  (k:∀vs s1,Post vs s1->∃ns:List Int,IntsAre vs ns/\vs.length<64/\∀(out:Array Value) (ns':List Int),IntsAre out.toList ns'->ns'.Perm ns->ns'.Pairwise (· <= ·)->Q (.ref s1.heap.objs.size) { s1 with heap:=sortedHeap (s1.heap.push (seqObj "list" vs.toArray 0)) s1.heap.objs.size vs out}):
  wpAny (model prog w) A (call (.builtin "sorted") [v]) Q E s:=by
 refine Calls.call_function_entry kind_sorted plain_sorted entry_sorted (args_sorted1 _) ?_
 refine wpAny_bind (m:=checkCount "sorted" 1 1 _) (wpAny_pure (wpAny_bind (c A.in1 _ _ (by simpa using hh) λvs s1 po=>?_)))
 obtain⟨ns,hI,h64,q⟩:=k vs s1 po
 have at_:(s1.heap.push (seqObj "list" vs.toArray 0)).get? s1.heap.objs.size=some (seqObj "list" vs.toArray 0):=Heap.get?_push_size _ rfl
 refine wpAny_bind (wpAny_newList (wpAny_bind (wpAny_holding ?_)))
 exact wpAny_call_entry slot_list_sort ⟨_,at_,rfl⟩ entry_list_sort (list_sort_tree at_ hI h64 λout ns' a b c=>⟨_,rfl,wpAny_pure ⟨_,rfl,q out ns' a b c⟩⟩) (args_list_sort _)
end
section
variable {X : Cx}
theorem QM {pins:List (Addr×Obj)}{σ:St}{H:Hp}{s:Shared}{Q:VK}{vs:List Value}{out:Array Value}{ns ns':List Int} (I:Ae X pins σ H s) (hz:ns.length<64) (a1:IntsAre out.toList ns') (a2:ns'.Perm ns)
  (q:∀(l:Addr) (H':Hp),Ab H H'->H l=none->H' l=some (.lst (ns'.map V.int))->Q (.ref l) H'):
  EP X pins σ Q (.ref s.heap.objs.size) { s with heap:=sortedHeap (s.heap.push (seqObj "list" vs.toArray 0)) s.heap.objs.size vs out}:=by
 have at_:(s.heap.push (seqObj "list" vs.toArray 0)).get? s.heap.objs.size=some (seqObj "list" vs.toArray 0):=Heap.get?_push_size _ rfl
 obtain⟨e,he⟩:=sortedHeap_at (out:=out) at_
 have fr:H s.heap.objs.size=none:=I.hok.fresh (Nat.le_refl _)
 refine⟨.ref s.heap.objs.size,upd H s.heap.objs.size (.lst (ns'.map V.int)),I.laid (t':=s.toks) (λb o eb=>?_) (Nat.le_refl _) ⟨?_,out.toList,e,Iy a1,by simpa [seqObj] using he⟩,rfl,q _ _ (Ab.new fr) fr Ag⟩
 ·have lt:=Heap.lt_size eb
  rw [sortedHeap_old (Nat.ne_of_lt lt) (by rw [size_push'];exact Nat.lt_succ_of_lt lt)]
  exact Heap.get?_push_of_some _ eb
 ·rw [List.length_map,a2.length_eq]
  exact Nat.le_of_lt (Nat.lt_trans hz (by decide))
end
def Ah (c:Nat):List Nat:=(List.range 8).filter λi=>c.testBit i
def BN (n:Nat) (ks:List Nat) (led:Bool):SetTable:=⟨if n<5 then 7 else 31,ks.toArray,#[],0,led,if n<5 then 0 else 1,true⟩
def tab (ks:List Nat) (led:Bool):SetTable:=BN ks.length ks led
def Di (k:Nat) (ks:List Nat):Nat:=(ks.filter λi=>decide (i<k)).length
def AN (c k:Nat):Nat:=c ||| 2 ^ k
def ET (c k:Nat) (led:Bool):Bool:=(Ah c).contains k ||
  (decide ((tab (Ah c) led).freeSlot (k : Int) = some (k, false)) && decide ((tab (Ah c) led).put k = (BN (Ah c).length (Ah (AN c k)) led, Di k (Ah c))) && decide (Ah (AN c k) = (Ah c).take (Di k (Ah c)) ++ k :: (Ah c).drop (Di k (Ah c)))
   &&(BN (Ah c).length (Ah (AN c k)) led).fits (Ah (AN c k)).length &&(tab (Ah (AN c k)) led).fits (Ah (AN c k)).length
   && (if (BN (Ah c).length (Ah (AN c k)) led).tooFull then decide ((BN (Ah c).length (Ah (AN c k)) led).relaid ((Ah (AN c k)).map λi : Nat => (i : Int)).toArray (SetTable.grown (Ah (AN c k)).length) = some (tab (Ah (AN c k)) led, (List.range (Ah (AN c k)).length).toArray))
       else decide (BN (Ah c).length (Ah (AN c k)) led=tab (Ah (AN c k)) led)))
theorem QN:∀c,c<64->∀k,k<8->∀led,ET c k led=true:=by decide+kernel
theorem QO:∀c,c<64->∀k,k<8->∀led,ET (c+64) k led=true:=by decide+kernel
theorem QP:∀c,c<64->∀k,k<8->∀led,ET (c+128) k led=true:=by decide+kernel
theorem QQ:∀c,c<64->∀k,k<8->∀led,ET (c+192) k led=true:=by decide+kernel
theorem QR:∀c,c<256->∀k,k<8->∀led,ET c k led=true:=λc hc k hk led=>by
 by_cases h1:c<64
 ·exact QN c h1 k hk led
 by_cases h2:c<128
 ·have:=QO (c-64) (by omega) k hk led
  rwa [Nat.sub_add_cancel (by omega)] at this
 by_cases h3:c<192
 ·have:=QP (c-128) (by omega) k hk led
  rwa [Nat.sub_add_cancel (by omega)] at this
 ·have:=QQ (c-192) (by omega) k hk led
  rwa [Nat.sub_add_cancel (by omega)] at this
end L2
end
section
namespace L2
open PySem PySem.Spec PyProof.Rows
variable {k : Nat} {led : Bool}
def Bj (w:World):Bool:=w.params.followText "set-order"
def Els:List Nat->List (Int×Value)->Prop
 | [],[]=>True
 | k::ks,e::es=>(∃t,e=((k:Int),Value.int (k:Int) t))/\Els ks es
 | _,_=>False
theorem Els.len:∀ {ks:List Nat}{es:List (Int×Value)},Els ks es->es.length=ks.length
 | [],[],_=>rfl
 | _::ks,_::es,h=>by rw [List.length_cons,List.length_cons,Els.len h.2]
 | [],_::_,h=>h.elim
 | _::_,[],h=>h.elim
theorem Els.app:∀ {ks ls:List Nat}{es fs:List (Int×Value)},Els ks es->Els ls fs->Els (ks++ls) (es++fs)
 | [],_,[],_,_,h=>h
 | _::_,_,_::_,_,h,g=>⟨h.1,Els.app h.2 g⟩
 | [],_,_::_,_,h,_=>h.elim
 | _::_,_,[],_,h,_=>h.elim
theorem Els.cut:∀ {ks:List Nat}{es:List (Int×Value)} (n:Nat),Els ks es->Els (ks.take n) (es.take n)/\Els (ks.drop n) (es.drop n)
 | [],[],n,_=>by rw [List.take_nil,List.take_nil,List.drop_nil,List.drop_nil];exact⟨trivial,trivial⟩
 | _::_,_::_,0,h=>⟨trivial,h⟩
 | _::_,_::_,n+1,h=>⟨⟨h.1,(Els.cut n h.2).1⟩,(Els.cut n h.2).2⟩
 | [],_::_,_,h=>h.elim
 | _::_,[],_,h=>h.elim
theorem Els.get:∀ {ks:List Nat}{es:List (Int×Value)},Els ks es->∀ {i:Nat}{e:Int×Value},es[i]? =some e->∃k t,ks[i]? =some k/\e=((k:Int),Value.int (k:Int) t)
 | _::_,_::_,h,0,e,he=>by
  cases he
  obtain⟨t,rfl⟩:=h.1
  exact⟨_,t,rfl,rfl⟩
 | _::_,_::_,h,i+1,e,he=>Els.get h.2 (i:=i) he
 | [],[],_,i,e,he=>by cases he
 | [],_::_,h,_,_,_=>h.elim
 | _::_,[],h,_,_,_=>h.elim
theorem Els.hash:∀ {ks:List Nat}{es:List (Int×Value)},Els ks es->es.map (·.1)=ks.map λi:Nat=>(i:Int)
 | [],[],_=>rfl
 | _::_,_::_,h=>by obtain⟨t,e⟩:=h.1;rw [List.map_cons,List.map_cons,Els.hash h.2,e]
 | [],_::_,h=>h.elim
 | _::_,[],h=>h.elim
theorem QS {c:Nat} (h:k∈Ah c):k<8:=List.mem_range.mp (List.mem_filter.mp h).1
theorem Fx {c:Nat}:(Ah c).length<=8:=Nat.le_trans (List.length_filter_le _ _) (by simp)
theorem LU {c:Nat}:k∈Ah c↔k<8/\c.testBit k=true:=by unfold Ah;rw [List.mem_filter,List.mem_range]
theorem LV {c j:Nat} (hk:k<8):j∈Ah (AN c k) ↔j=k\/j∈Ah c:=by
 unfold AN
 rw [LU,LU,Nat.testBit_or,Nat.testBit_two_pow,Bool.or_eq_true,decide_eq_true_eq]
 constructor
 ·rintro⟨h1,h2 | h2⟩
  ·exact .inr ⟨h1,h2⟩
  ·exact .inl h2.symm
 ·rintro(rfl | ⟨h1,h2⟩)
  ·exact⟨hk,.inr rfl⟩
  ·exact⟨h1,.inl h2⟩
theorem Jn {c k:Nat} (hc:c<256) (hk:k<8):AN c k<256:=Nat.or_lt_two_pow (n:=8) hc (Nat.pow_lt_pow_right (by decide) hk)
def EU (es:Array (Int×Value)) (ep c:Nat) (led:Bool):Obj:= { cls:= .type "set",dict:=none,data:= .set es ep (tab (Ah c) led)}
structure SetIs (w:World) (h:Heap) (S:Addr) (c:Nat) (es:Array (Int×Value)) (ep:Nat):Prop where
 lt:c<256
 at_:h.get? S=some (EU es ep c (!Bj w))
 el:Els (Ah c) es.toList
theorem DV {c:Nat}{led:Bool} (hc:c<256) {n:Nat} (hn:n=(Ah c).length):(tab (Ah c) led).fits n=true:=by
 have:∀c,c<256->∀led,(tab (Ah c) led).fits (Ah c).length=true:=by decide+kernel
 rw [hn];exact this c hc led
theorem LW:∀k:Nat,k<8->hashInt (k:Int)=(k:Int):=by decide+kernel
theorem QT {α:Type}{xs:Array α}{p:Nat}{x:α}:(SetTable.insertAt xs p x).toList=xs.toList.take p++x::xs.toList.drop p:=by
 unfold SetTable.insertAt
 simp only [Array.toList_append,Array.toList_push,Array.toList_extract,List.extract_eq_take_drop,List.drop_zero,Nat.sub_zero,List.append_assoc,List.singleton_append]
 rw [List.take_of_length_le (l:=xs.toList.drop p) (by rw [List.length_drop,Array.length_toList];exact Nat.le_refl _)]
theorem GI {c k:Nat}{led:Bool} (hc:c<256) (hk:k<8) (hn:¬k∈Ah c):(tab (Ah c) led).freeSlot (k:Int)=some (k,false)/\(tab (Ah c) led).put k=(BN (Ah c).length (Ah (AN c k)) led,Di k (Ah c))/\Ah (AN c k)=(Ah c).take (Di k (Ah c))++k::(Ah c).drop (Di k (Ah c))
    /\(BN (Ah c).length (Ah (AN c k)) led).fits (Ah (AN c k)).length=true
    /\(if (BN (Ah c).length (Ah (AN c k)) led).tooFull then(BN (Ah c).length (Ah (AN c k)) led).relaid ((Ah (AN c k)).map λi:Nat=>(i:Int)).toArray (SetTable.grown (Ah (AN c k)).length)=some (tab (Ah (AN c k)) led,(List.range (Ah (AN c k)).length).toArray)
       else BN (Ah c).length (Ah (AN c k)) led=tab (Ah (AN c k)) led):=by
  have h:=QR c hc k hk led
  unfold ET at h
  rw [Bool.or_eq_true] at h
  rcases h with h | h
  . exact absurd (List.contains_iff_mem.mp h) hn
  . simp only [Bool.and_eq_true,decide_eq_true_eq] at h
    obtain⟨⟨⟨⟨⟨h1,h2⟩,h3⟩,h4⟩,_⟩,h5⟩:=h
    refine⟨h1,h2,h3,h4,?_⟩
    split
    . rename_i z;rw [if_pos z] at h5;exact of_decide_eq_true h5
    . rename_i z;rw [if_neg z] at h5;exact of_decide_eq_true h5
theorem LX {c k:Nat}{es:Array (Int×Value)}{tok:Tok} (hc:c<256) (hk:k<8) (hn:¬k∈Ah c) (h:Els (Ah c) es.toList):Els (Ah (AN c k)) (SetTable.insertAt es (Di k (Ah c)) ((k:Int),.int (k:Int) tok)).toList:=by
 rw [QT,(GI (led:=true) hc hk hn).2.2.1]
 exact(h.cut _).1.app ⟨⟨tok,rfl⟩,(h.cut _).2⟩
theorem QU {c:Nat}{es:Array (Int×Value)}{tok:Tok} (hc:c<256) (hk:k<8) (hn:¬k∈Ah c) (h:Els (Ah c) es.toList):
  layNew (tab (Ah c) led) es (k:Int) (.int (k:Int) tok)=(SetTable.insertAt es (Di k (Ah c)) ((k:Int),.int (k:Int) tok),BN (Ah c).length (Ah (AN c k)) led,false,false):=by
 obtain⟨h1,h2,h3,h4,_⟩:=GI (led:=led) hc hk hn
 have sz:(SetTable.insertAt es (Di k (Ah c)) ((k:Int),Value.int (k:Int) tok)).size=(Ah (AN c k)).length:=by rw [<-Array.length_toList];exact(LX hc hk hn h).len
 unfold layNew
 rw [h1]
 dsimp only
 rw [h2]
 dsimp only
 rw [sz]
 unfold SetTable.orStandIn
 rw [if_pos h4,h4];rfl
theorem QV {c:Nat}{es:Array (Int×Value)} (hc:c<256) (hk:k<8) (hn:¬k∈Ah c) (h:Els (Ah (AN c k)) es.toList) (tf:(BN (Ah c).length (Ah (AN c k)) led).tooFull=true):
  relayAll (BN (Ah c).length (Ah (AN c k)) led) es (SetTable.grown es.size)=(es,tab (Ah (AN c k)) led,false):=by
 obtain⟨_,_,_,_,h5⟩:=GI (led:=led) hc hk hn
 rw [if_pos tf] at h5
 have sz:es.size=(Ah (AN c k)).length:=by rw [<-Array.length_toList];exact h.len
 have e1:es.map (·.1)=((Ah (AN c k)).map λi:Nat=>(i:Int)).toArray:=by
  apply Array.toList_inj.mp
  rw [Array.toList_map]
  exact h.hash
 have e2:(List.range es.size).toArray.filterMap (es[·]?)=es:=by
  apply Array.toList_inj.mp
  rw [Array.toList_filterMap]
  have:∀(l:List (Int×Value)),(List.range l.length).filterMap (λi=>l[i]?)=l:=λl=>by
   induction l with
   | nil=>rfl
   | cons a l ih=>
    rw [List.length_cons,List.range_succ_eq_map,List.filterMap_cons,List.filterMap_map]
    show a::_=_
    congr 1
  have g:=this es.toList
  rw [Array.length_toList] at g
  simpa using g
 unfold relayAll
 rw [e1,sz,h5]
 dsimp only
 rw [<-sz,e2]
 have cv:coversAll (List.range es.size).toArray es.size=true:=List.isPerm_iff.mpr (.refl _)
 rw [cv,DV (Jn hc hk) sz];rfl
section
variable {prog : Program} {w : World} {A : Around} {E : Value -> Shared -> Prop} {s : Shared} {S : Addr} {c : Nat} {es : Array (Int × Value)} {ep : Nat}
theorem SetIs.size (h:SetIs w s.heap S c es ep):es.size=(Ah c).length:=by rw [<-Array.length_toList];exact h.el.len
theorem SetIs.elems (h:SetIs w s.heap S c es ep):ElemsOf (intKind prog w) es.toList:=by
 intro e he
 obtain⟨i,hi⟩:=List.getElem?_of_mem he
 obtain⟨k,t,hk,rfl⟩:=h.el.get hi
 have:=QS (List.mem_of_getElem? hk)
 exact⟨⟨(k:Int),intKind_is _ _ _ _,(LW k this).symm⟩,rfl⟩
theorem QW {tok:Tok}{Q:Bool->Shared->Prop} (hk:k<8) (h:SetIs w s.heap S c es ep)
  (q:∀b h' c' es' ep',Heap.SameBut S s.heap h'->SetIs w h' S c' es' ep'->(∀j,j∈Ah c'↔j=k\/j∈Ah c)->Q b { s with heap:=h'}):
  wpAny (model prog w) A (setAddHashed S (.int (k:Int) tok) ((intKind prog w).hash (k:Int))) Q E s:=by
 have hx:(intKind prog w).is (k:Int) (.int (k:Int) tok)=true:=intKind_is _ _ _ _
 have fit:=DV (led:= !Bj w) h.lt h.size
 have few:=Fx (c:=c)
 unfold setAddHashed setAddHashedIn
 refine wpAny_holding (wpAny_bind (wpAny_setState_of h.at_ rfl fit ?_))
 dsimp only
 rw [byScan_of (knd:=intKind prog w) rfl (by rw [h.size];exact Nat.lt_of_le_of_lt few (by decide)) h.elems]
 simp only [↓reduceIte]
 unfold setAddByScan
 refine wpAny_bind (wpAny_bind (wpAny_rule (wpAny_bind (wpAny_setScan_of hx h.at_ rfl fit h.elems ?_))))
 have eh:(intKind prog w).hash (k:Int)=(k:Int):=LW k hk
 have isk:∀e:Int×Value,e∈es.toList->((intKind prog w).is (k:Int) e.2=true↔e.1=(k:Int)):=λe he=>by
  obtain⟨i,hi⟩:=List.getElem?_of_mem he
  obtain⟨j,t,_,rfl⟩:=h.el.get hi
  show(Value.isInt (k:Int) (.int (j:Int) t)=true) ↔_
  simp [Value.isInt]
 by_cases hin:k∈Ah c
 ·cases z:es.toList.findIdx? λe=>(intKind prog w).is (k:Int) e.2 with
  | some j=>exact wpAny_pure (wpAny_pure (q false s.heap c es ep (Heap.SameBut.refl _ _) h λj=>⟨.inr,λe=>e.elim (λe=>e ▸ hin) id⟩))
  | none=>
   obtain⟨i,hi⟩:=List.getElem?_of_mem hin
   obtain⟨e,he⟩:∃e,es.toList[i]? =some e:=⟨_,List.getElem?_eq_getElem (by rw [h.el.len];exact(List.getElem?_eq_some_iff.mp hi).1)⟩
   obtain⟨j,t,hj,rfl⟩:=h.el.get he
   rw [hi] at hj
   cases hj
   have:=List.findIdx?_eq_none_iff.mp z _ (List.mem_of_getElem? he)
   rw [(isk _ (List.mem_of_getElem? he)).mpr rfl] at this;cases this
 ·cases z:es.toList.findIdx? λe=>(intKind prog w).is (k:Int) e.2 with
  | some j=>
   obtain⟨hj,hp,_⟩:=List.findIdx?_eq_some_iff_getElem.mp z
   obtain⟨m,t,hm,e⟩:=h.el.get (List.getElem?_eq_getElem hj)
   have:=(isk _ (List.getElem_mem hj)).mp hp
   rw [e] at this
   exact absurd (List.mem_of_getElem? hm) (by rw [show m=k from Int.ofNat.inj this];exact hin)
  | none=>
   dsimp only
   rw [eh,QU h.lt hk hin h.el]
   dsimp only
   have el':=LX (tok:=tok) h.lt hk hin h.el
   obtain⟨_,_,_,h4,h5⟩:=GI (led:= !Bj w) h.lt hk hin
   generalize SetTable.insertAt es (Di k (Ah c)) ((k:Int),Value.int (k:Int) tok)=es' at el' ⊢
   have sz:es'.size=(Ah (AN c k)).length:=by rw [<-Array.length_toList];exact el'.len
   have fw:=Fx (c:=AN c k)
   have up:∀ {s1:Shared}{es0:Array (Int×Value)}{ep0:Nat}{t0 t1:SetTable},s1.heap.get? S=some { cls:= .type "set",dict:=none,data:= .set es0 ep0 t0}->(s1.heap.update S (Obj.putSet es' t1)).get? S=some { cls:= .type "set",dict:=none,data:= .set es' (ep0+1) t1}:=λ{s1 es0 ep0 t0 t1} g=>by
    have:=Heap.get?_update_self (Obj.putSet es' t1) g (by rw [putSet_of es' t1 rfl];rfl)
    rw [putSet_of es' t1 rfl] at this;exact this
   have zl:es'.size<=sizeLine:=by rw [sz];exact Nat.le_trans fw (by decide)
   refine wpAny_bind (show wpAny _ _ (pure ()) _ _ _ from wpAny_pure ?_)
   rw [if_pos (show(BN (Ah c).length (Ah (AN c k)) !Bj w).plain=true from rfl)]
   refine wpAny_bind (show wpAny _ _ (pure true) _ _ _ from wpAny_pure ?_)
   simp only [↓reduceIte,Bool.not_false,Bool.true_and]
   refine wpAny_bind (wpAny_storeSet_of h.at_ rfl ?_ zl)
   have k1:=up (t1:=BN (Ah c).length (Ah (AN c k)) !Bj w) h.at_
   have sb1:=Heap.SameBut.update s.heap S (Obj.putSet es' (BN (Ah c).length (Ah (AN c k)) !Bj w))
   by_cases tf:(BN (Ah c).length (Ah (AN c k)) !Bj w).tooFull=true
   ·rw [if_pos tf,QV h.lt hk hin el' tf]
    refine wpAny_bind (show wpAny _ _ (pure ()) _ _ _ from wpAny_pure ?_)
    refine wpAny_bind (wpAny_storeSet_of k1 rfl ?_ zl)
    exact wpAny_pure (wpAny_pure (q true _ (AN c k) es' _ (sb1.trans (Heap.SameBut.update _ S _)) ⟨Jn h.lt hk,up (s1:= { s with heap:=s.heap.update S (Obj.putSet es' (BN (Ah c).length (Ah (AN c k)) !Bj w))}) k1,el'⟩ λj=>LV hk))
   ·rw [if_neg tf] at h5 ⊢
    rw [h5] at k1 sb1 ⊢
    exact wpAny_pure (wpAny_pure (q true _ (AN c k) es' _ sb1 ⟨Jn h.lt hk,k1,el'⟩ λj=>LV hk))
end
end L2
end
section
namespace L2
open PySem PySem.Spec PyProof.Rows
section
variable {prog : Program} {w : World} {A : Around} {E : Value -> Shared -> Prop} {s : Shared} {R : Result -> Shared -> Prop} {I : Addr} {fp wr : List Addr} {G : Array GenState -> Array GenState -> Prop} {n : Nat} {P : Nat -> Value -> Prop} {St : Nat -> Shared -> Prop}
theorem SetIs.moved {h h':Heap}{S:Addr}{c:Nat}{es:Array (Int×Value)}{ep:Nat} (x:SetIs w h S c es ep) (k:∀o,h.get? S=some o->h'.get? S=some o):SetIs w h' S c es ep:=⟨x.lt,k _ x.at_,x.el⟩
theorem QX (W:WalksS prog w A.in1 I fp wr G n P St) {S:Addr} (hS:S ∉ fp) (val:Nat->Nat) (hv:∀i v,i<n->P i v->∃t,v= .int (val i:Int) t) (h8:∀i,i<n->val i<8):
  ∀(k i:Nat) (s:Shared) (c:Nat) (es:Array (Int×Value)) (ep:Nat),i+k=n->St i s->SetIs w s.heap S c es ep->(∀j,j∈Ah c↔ ∃m,m<i/\j=val m)->
   (∀s' c' es' ep',Moved (S::wr) G s s'->SetIs w s'.heap S c' es' ep'->(∀j,j∈Ah c'↔ ∃m,m<n/\j=val m)->R (.ok (.ret .none)) s')->
   codeAny (model prog w) A (.builtin "set.update.loop" ⟨[.ref S,.ref I],[]⟩) R s:=by
 have nw:S ∉ wr:=λh=>hS (W.sub _ h)
 intro k
 induction k with
 | zero=>
  intro i s c es ep e st si mem q
  have e:i=n:=by omega
  subst e
  refine codeAny_builtin F.entry_set_update_loop ?_
  rw [Around.under_plainId F.plain_set_update_loop _]
  refine wpAny_bind (m:=pyNext (.ref I)) (W.done s _ _ st λs' mv=>?_)
  exact wpAny_pure (q s' c es ep ⟨λb o hb=>mv.heap b o λh=>hb (List.mem_cons_of_mem _ h),mv.gens,mv.drawn,mv.os,mv.toks⟩ (si.moved λo=>mv.heap S o nw) mem)
 | succ k ih=>
  intro i s c es ep e st si mem q
  have lt:i<n:=by omega
  refine codeAny_builtin F.entry_set_update_loop ?_
  rw [Around.under_plainId F.plain_set_update_loop _]
  refine wpAny_bind (m:=pyNext (.ref I)) (W.item i s _ _ lt st λv s' pv st' mv=>?_)
  obtain⟨t,rfl⟩:=hv i v lt pv
  have si':=si.moved (h':=s'.heap) λo=>mv.heap S o nw
  show wpAny _ A.in1 (holding [Value.int (val i:Int) t] (setAdd S (.int (val i:Int) t)) >>=_) _ _ s'
  refine wpAny_bind (wpAny_holding ?_)
  unfold setAdd
  refine wpAny_holding (wpAny_bind ((intKind prog w).pyHash (k:=(val i:Int)) (intKind_is _ _ _ _) ?_))
  refine QW (s:= { s' with toks:=s'.toks+1}) (h8 i lt) si' λb h' c' es' ep' sb si2 me=>?_
  refine wpAny_pure ⟨plainId_quiet F.plain_set_update_loop _,ih (i+1) _ c' es' ep' (by omega) (W.frame _ s' _ _ st' (Nat.le_succ _) λb hb o e=>?_) si2 (λj=>?_) λs3 c3 es3 ep3 mv3 si3 me3=>q s3 c3 es3 ep3 ?_ si3 me3⟩
  ·rw [sb.2 b (λh:b=S=>hS (h ▸ hb))];exact e
  ·rw [me j,mem j]
   constructor
   ·rintro(rfl | ⟨m,hm,rfl⟩)
    ·exact⟨i,Nat.lt_succ_self _,rfl⟩
    ·exact⟨m,by omega,rfl⟩
   ·rintro⟨m,hm,rfl⟩
    by_cases z:m=i
    ·subst z;exact .inl rfl
    ·exact .inr ⟨m,by omega,rfl⟩
  ·refine⟨λb o hb eo=>mv3.heap b o hb ?_,W.gtrans _ _ _ mv.gens mv3.gens,mv3.drawn.trans mv.drawn,mv3.os.trans mv.os,Nat.le_trans mv.toks (Nat.le_trans (Nat.le_succ _) mv3.toks)⟩
   show h'.get? b=some o
   rw [sb.2 b (λh:b=S=>hb (h ▸ List.mem_cons_self))]
   exact mv.heap b o (λh=>hb (List.mem_cons_of_mem _ h)) eo
theorem QY:isSubtype (.type "tuple") (.type "set")=pure false:=by rw [isSubtype_type];kernel_rfl
theorem QZ:isSubtype (.type "tuple") (.type "frozenset")=pure false:=by rw [isSubtype_type];kernel_rfl
theorem Q0 {h:Heap}:SetIs w (h.push (EU #[] 0 0 (!Bj w))) h.objs.size 0 #[] 0:=⟨by decide,Heap.get?_push_size _ rfl,by show Els [] [];trivial⟩
theorem Q1 {S tu:Addr}{items:Array Value} (hh:A.handled=none) (si:SetIs w s.heap S 0 #[] 0) (ht:IsTup s.heap tu items) (val:Nat->Nat) (hv:∀(i:Nat) (v:Value),items[i]? =some v->∃t,v=Value.int (val i:Int) t) (h8:∀i,i<items.size->val i<8)
  (q:∀s' c es ep,(∀b o,b≠S->s.heap.get? b=some o->s'.heap.get? b=some o)->s'.gens=s.gens->s'.drawn=s.drawn->s'.os=s.os->SetIs w s'.heap S c es ep->(∀j,j∈Ah c↔ ∃m,m<items.size/\j=val m)->R (.ok (.ret .none)) s'):
  wpAny (model prog w) A.in1 (Builtin.«set.__init__» ⟨[.ref S,.ref tu],[]⟩) (λfin s'=>match fin with | .done f=>R (.ok f) s' | .again c'=>c'.quiet=true/\codeAny (model prog w) A c' R s') (λe s'=>R (.error e) s') s:=by
 have hT:s.TypeIs (.ref S) "set" :=⟨_,si.at_,rfl⟩
 have hTt:=ht.typeIs
 have s1:=QY
 have s2:=QZ
 have nd:(Value.type "tuple"==Value.type "dict")=false:=by decide
 have fit:(tab (Ah 0) !Bj w).fits (#[]:Array (Int×Value)).size=true:=DV (by decide) rfl
 have st:=fun(Q':(Array (Int×Value)×Nat×SetTable)->Shared->Prop) E'=>wpAny_setState_of (prog:=prog) (w:=w) (A:=A.in1) (Q:=Q') (E:=E') si.at_ rfl fit
 unfold Builtin.«set.__init__» noKeywords Builtin.Frozenset.updateFrom setUsed
 generalize hPI:pyIter=PI
 wp_walk using st
 subst hPI
 have hlt:tu<s.heap.objs.size:=by obtain⟨o,ho,_⟩:=ht;exact Heap.lt_size ho
 have hlS:S<s.heap.objs.size:=Heap.lt_size si.at_
 refine iter_tuple ht (wpAny_bind (wpAny_runValue ?_))
 have W:=(Walks.tuple (prog:=prog) (w:=w) (A:=A.in1.in1) (by simpa using hh) s.heap.objs.size tu (Nat.ne_of_lt hlt) items).toS
 refine QX W (S:=S) (λh=>?_) val (λi v hi pv=>hv i v pv) h8 items.size 0 _ 0 #[] 0 (by omega) ⟨⟨_,Heap.get?_push_size _ rfl,rfl,rfl⟩,?_⟩ (si.moved λo e=>Heap.get?_push_of_some _ e) (λj=>⟨λh=>(by cases h),fun⟨m,h,_⟩=>absurd h (Nat.not_lt_zero _)⟩) λs' c es ep mv si' me=>?_
 ·simp only [List.mem_cons,List.not_mem_nil,or_false] at h
  rcases h with h | h
  ·exact absurd h (Nat.ne_of_lt hlS)
  ·rw [h] at si
   obtain⟨o,ho,hc,_⟩:=ht
   have:=ho.symm.trans si.at_
   cases this
   exact absurd (show Value.type "set"=Value.type "tuple" from hc) (by decide)
 ·obtain⟨o,ho,r⟩:=ht
  exact⟨o,Heap.get?_push_of_some _ ho,r⟩
 ·refine wpAny_pure (wpAny_pure (q s' c es ep (λb o hb e=>mv.heap b o (λh=>?_) (Heap.get?_push_of_some _ e)) mv.gens mv.drawn mv.os si' me))
  simp only [List.mem_cons,List.not_mem_nil,or_false] at h
  rcases h with h | h
  ·exact hb h
  ·rw [h] at e;exact absurd (Heap.lt_size e) (Nat.lt_irrefl _)
theorem Q2 {a:Value}{Q₁:Value->Shared->Prop} (q:Q₁ (.ref s.heap.objs.size) { s with heap:=s.heap.push (EU #[] 0 0 (!Bj w))}):
  codeAny (model prog w) A (.call (.builtin "set.__new__") ⟨[.type "set",a],[]⟩) (wants Q₁ E) s:=by
 refine codeAny_of_tree (wpAny_bind (m:=checkBuiltinCall "set.__new__" ⟨[.type "set",a],[]⟩) (wpAny_of_eq (F.newCall_set_1 a) (wpAny_pure ⟨plainId_quiet F.plain_set_new _,codeAny_builtin F.entry_set_new ?_⟩)))
 rw [Around.under_plainId F.plain_set_new _]
 have su:=sub_set_self
 cases s
 unfold Builtin.«set.__new__» Builtin.Frozenset.newClass
 wp_walk
 exact wpAny_askSetting (wpAny_pure (wpAny_newObj_type (wpAny_pure q) (Nat.zero_le _)))
theorem Q3 {tu:Addr}{items:Array Value}{Q:Value->Shared->Prop} (hh:A.handled=none) (ht:IsTup s.heap tu items) (val:Nat->Nat) (hv:∀(i:Nat) (v:Value),items[i]? =some v->∃t,v=Value.int (val i:Int) t) (h8:∀i,i<items.size->val i<8)
  (q:∀h' tk c es ep,(∀b o,s.heap.get? b=some o->h'.get? b=some o)->SetIs w h' s.heap.objs.size c es ep->(∀j,j∈Ah c↔ ∃m,m<items.size/\j=val m)->Q (.ref s.heap.objs.size) { s with heap:=h',toks:=tk}):
  wpAny (model prog w) A (call (.type "set") [.ref tu]) Q E s:=by
 have cs:=F.called_set
 obtain⟨_,_,mr⟩:=cs.mro
 have md:=cs.made
 have sb:=cs.sub
 have nt:=cs.notType
 have cc:=cs.canCreate
 have tc:=F.typeCall_set_1 (.ref tu)
 refine wpAny_call (codeAny_of_tree (show wpAny _ _ (callAny (.type "set") _) _ _ _ from wpAny_pure ⟨Code.quiet_builtin _ (by decide+kernel),codeAny_builtin F.entry_type_call ?_⟩))
 rw [Around.under_plain (weight_type_call_type "set" [.ref tu] []) rfl]
 repeat (any_goals (first | assumption | wp_step))
 refine codeAny_mono (Q2 (E:=E) (Q₁:=λobj s₁=>obj= .ref s.heap.objs.size/\s₁= { s with heap:=s.heap.push (EU #[] 0 0 (!Bj w))}) ⟨rfl,rfl⟩) λr s₁ hr=>?_
 match r,hr with
 | .error e,hr=>exact hr
 | .ok (.ret obj),⟨eo,es1⟩=>
  subst eo es1
  have si:=Q0 (w:=w) (h:=s.heap)
  have hT:Shared.TypeIs { s with heap:=s.heap.push (EU #[] 0 0 (!Bj w))} (.ref s.heap.objs.size) "set" :=⟨_,si.at_,rfl⟩
  have il:=cs.init.lookup
  have ib:=cs.init.bind (.ref s.heap.objs.size)
  repeat (any_goals (first | assumption | wp_step))
  have ht':IsTup (s.heap.push (EU #[] 0 0 (!Bj w))) tu items:=by obtain⟨o,ho,x⟩:=ht;exact⟨o,Heap.get?_push_of_some _ ho,x⟩
  refine codeAny_mono (codeAny_call_builtin (R:=λr s2=>r= .ok (.ret .none)/\Q (.ref s.heap.objs.size) s2) cs.init.plain F.entry_set_init (check_set_init_1 hT ?_)) λr2 s2 h2=>?_
  ·refine Q1 (R:=λr s2=>r= .ok (.ret .none)/\Q (.ref s.heap.objs.size) s2) (by simpa using hh) si ht' val hv h8 λs' c es ep kp g d o si' me=>⟨rfl,?_⟩
   have:s'= { s with heap:=s'.heap,toks:=s'.toks}:=by cases s';cases g;cases d;cases o;rfl
   rw [this]
   exact q s'.heap s'.toks c es ep (λb o e=>kp b o (Nat.ne_of_lt (Heap.lt_size e)) (Heap.get?_push_of_some _ e)) si' me
  ·obtain⟨rfl,hq⟩:=h2
   repeat (any_goals (first | assumption | wp_step))
end
theorem slot_si:Slot "set_iterator" "__next__" "set_iterator.__next__" :=
 .of (owner:="set_iterator") (n:="__next__") (by rw [typeLookup_type,builtinLookup_eq_fast];kernel_rfl) (by decide+kernel) (by decide+kernel) (by decide+kernel) (.inl (by decide+kernel)) (by rw [isSubtype_type];kernel_rfl)
theorem LY:entryFor table "set_iterator.__next__"=some Builtin.«set_iterator.__next__»:=entryFor_of_tree (by kernel_rfl)
theorem LZ:Slot "set_iterator" "__iter__" "set_iterator.__iter__" :=
 .of (owner:="set_iterator") (n:="__iter__") (by rw [typeLookup_type,builtinLookup_eq_fast];kernel_rfl) (by decide+kernel) (by decide+kernel) (by decide+kernel) (.inl (by decide+kernel)) (by rw [isSubtype_type];kernel_rfl)
theorem Q4:entryFor table "set_iterator.__iter__"=some Builtin.«dict_keyiterator.__iter__»:=entryFor_alias (id':="dict_keyiterator.__iter__") (by kernel_rfl) rfl (by decide+kernel) (by kernel_rfl)
theorem Q5 (a:Value):argsOk "set_iterator.__iter__" ⟨[a],[]⟩:=by unfold argsOk;kernel_rfl
theorem Q6:entryFor table "set.__iter__"=some Builtin.«frozenset.__iter__»:=entryFor_alias (id':="frozenset.__iter__") (by kernel_rfl) rfl (by decide+kernel) (by kernel_rfl)
theorem L0 (a:Value):argsOk "set_iterator.__next__" ⟨[a],[]⟩:=by unfold argsOk;kernel_rfl
def DW (S:Addr) (slot i n ep:Nat):Obj:= { cls:= .type "set_iterator",data:= .fields #[rawInt slot,rawInt i,.ref S,rawInt n,rawInt ep]}
def Cw (w:World) (S:Addr) (ep:Nat) (es:Array (Int×Value)):Array (Int×Value):=if Bj w then pickOrder (w.params.setOrder S ep) es else es
def GJ (ks:List Nat):Nat->Nat
 | 0=>0
 | i+1=>ks.getD i 0+1
def Br (w:World) (ks:List Nat) (i:Nat):Nat:=if Bj w then 0 else GJ ks i
theorem Q7:∀c,c<256->∀i,i<=(Ah c).length->SetTable.below (Ah c).toArray (GJ (Ah c) i)=i:=by
 have h:∀c,c<256->∀i,i<=8->i<=(Ah c).length->SetTable.below (Ah c).toArray (GJ (Ah c) i)=i:=by decide+kernel
 intro c hc i hi
 exact h c hc i (Nat.le_trans hi Fx) hi
section
variable {prog : Program} {w : World} {A : Around} {E : Value -> Shared -> Prop} {s : Shared} {I S : Addr} {c : Nat} {es : Array (Int × Value)} {ep i : Nat}
theorem L7 (si:SetIs w s.heap S c es ep) (hi:i<=(Ah c).length) {Q:Option (Value×Nat)->Shared->Prop} (q:Q (((Cw w S ep es)[i]?).map λe=>(e.2,Br w (Ah c) (i+1))) s):
  wpAny (model prog w) A (setNext S (Br w (Ah c) i) i ep) Q E s:=by
 have fit:=DV (led:= !Bj w) si.lt si.size
 unfold setNext
 refine wpAny_bind (wpAny_setState_of si.at_ rfl fit ?_)
 unfold setsByText
 refine wpAny_bind (wpAny_bind (wpAny_askSetting (wpAny_pure ?_)))
 by_cases b:Bj w=true
 ·have b':(model prog w).w.params.followText "set-order"=true:=b
  dsimp only
  rw [if_pos b',if_neg (by simp)]
  unfold setWalk setsByText
  refine wpAny_bind (wpAny_bind (wpAny_setState_of si.at_ rfl fit (wpAny_bind (wpAny_bind (wpAny_askSetting (wpAny_pure ?_))))))
  dsimp only
  rw [if_pos b']
  refine wpAny_bind (wpAny_askSetting (wpAny_pure (wpAny_pure ?_)))
  unfold Cw Br at q
  rw [if_pos b,if_pos b] at q
  unfold Br
  rw [if_pos b]
  exact q
 ·have b':¬(model prog w).w.params.followText "set-order"=true:=b
  dsimp only
  rw [if_neg b']
  have nb:Bj w=false:=by simpa using b
  refine(show wpAny _ _ (if (!(tab (Ah c) !Bj w).plain && decide (es.size>1))=true then _ else _) _ _ _ from ?_)
  rw [if_neg (by show ¬((!true && decide (es.size>1))=true);simp)]
  refine wpAny_bind (show wpAny _ _ (if (!(!Bj w) && !es.isEmpty)=true then unsupported "set:maker-not-led" else pure ()) _ _ _ from ?_)
  rw [if_neg (by rw [nb];simp)]
  refine wpAny_pure (wpAny_pure ?_)
  have bl:=Q7 c si.lt i hi
  have es_:Br w (Ah c) i=GJ (Ah c) i:=by unfold Br;rw [nb];rfl
  have pl:(tab (Ah c) !Bj w).place=(Ah c).toArray:=rfl
  rw [pl,es_,bl]
  unfold Cw at q
  rw [nb] at q
  unfold Br at q
  rw [nb] at q
  have q':Q ((es[i]?).map λe=>(e.2,(Ah c).getD i 0+1)) s:=q
  rcases Nat.lt_or_eq_of_le hi with lt | e
  ·have le:i<es.size:=by rw [si.size];exact lt
   have h1:es[i]? =some es[i]:=Array.getElem?_eq_getElem le
   have h2:(Ah c).toArray[i]? =some (Ah c)[i]:=by simp [lt]
   rw [h1] at q' ⊢
   rw [h2]
   have h3:(Ah c).getD i 0=(Ah c)[i]:=by simp [List.getD_eq_getElem?_getD,lt]
   rw [h3] at q'
   exact q'
  ·have h1:es[i]? =none:=Array.getElem?_eq_none (by rw [si.size];omega)
   rw [h1] at q' ⊢
   exact q'
def EV (h:Heap) (I S:Addr) (slot i n ep:Nat):Prop:=h.get? I=some (DW S slot i n ep)
theorem Q8 (it:EV s.heap I S (Br w (Ah c) i) i es.size ep) (si:SetIs w s.heap S c es ep) {e:Int×Value} (he:(Cw w S ep es)[i]? =some e) (hi:i<=(Ah c).length) {Q:Option Value->Shared->Prop}
  (q:∀h',EV h' I S (Br w (Ah c) (i+1)) (i+1) es.size ep->Heap.SameBut I s.heap h'->Q (some e.2) { s with heap:=h'}):wpAny (model prog w) A (pyNext (.ref I)) Q E s:=by
 have hT:s.TypeIs (.ref I) "set_iterator" :=⟨_,it,rfl⟩
 have fit:=DV (led:= !Bj w) si.lt si.size
 unfold pyNext
 refine wpAny_bind (wpAny_attempt (wpAny_callSpecial?_slot (name:=Str.ofString "__next__") hT slot_si (wpAny_call_entry slot_si hT LY ?_ (L0 _))))
 unfold Builtin.«set_iterator.__next__»
 refine wpAny_bind (m:=slotArgs "__next__" 0 _) (wpAny_pure (wpAny_bind (wpAny_fieldsOf it rfl ?_)))
 unfold setEntries
 refine wpAny_bind (wpAny_bind (wpAny_setState_of si.at_ rfl fit (wpAny_pure ?_)))
 rw [if_neg (by simp)]
 refine wpAny_bind (m:=setNext S (Br w (Ah c) i) i ep) (L7 si hi ?_)
 rw [he]
 refine wpAny_bind (wpAny_setField it rfl (Nat.lt_of_sub_eq_succ rfl) ?_)
 have k1:=Heap.get?_update_self (Obj.mapFields (·.setIfInBounds 0 (rawInt (Br w (Ah c) (i+1):Nat)))) it rfl
 refine wpAny_bind (wpAny_setField k1 rfl (Nat.lt_of_sub_eq_succ rfl) ?_)
 have k2:=Heap.get?_update_self (Obj.mapFields (·.setIfInBounds 1 (rawInt ((i:Int)+1)))) k1 rfl
 exact wpAny_pure ⟨_,rfl,wpAny_pure (q _ k2 ((Heap.SameBut.update ..).trans (Heap.SameBut.update ..)))⟩
theorem Q9 (hh:A.handled=none) (it:EV s.heap I S (Br w (Ah c) i) i es.size ep) (si:SetIs w s.heap S c es ep) (he:(Cw w S ep es)[i]? =none) (hi:i<=(Ah c).length) {Q:Option Value->Shared->Prop}
  (q:∀h',Heap.ExtBut I s.heap h'->Q none { s with heap:=h'}):wpAny (model prog w) A (pyNext (.ref I)) Q E s:=by
 have hT:s.TypeIs (.ref I) "set_iterator" :=⟨_,it,rfl⟩
 have fit:=DV (led:= !Bj w) si.lt si.size
 have hh1:A.in1.handled=none:=by simpa using hh
 have su:=isSubtype_stop
 unfold pyNext
 refine wpAny_bind (wpAny_attempt (wpAny_callSpecial?_slot (name:=Str.ofString "__next__") hT slot_si (wpAny_call_entry slot_si hT LY ?_ (L0 _))))
 unfold Builtin.«set_iterator.__next__»
 refine wpAny_bind (m:=slotArgs "__next__" 0 _) (wpAny_pure (wpAny_bind (wpAny_fieldsOf it rfl ?_)))
 unfold setEntries
 refine wpAny_bind (wpAny_bind (wpAny_setState_of si.at_ rfl fit (wpAny_pure ?_)))
 rw [if_neg (by simp)]
 refine wpAny_bind (m:=setNext S (Br w (Ah c) i) i ep) (L7 si hi ?_)
 rw [he]
 refine wpAny_bind (wpAny_setField it rfl (Nat.lt_of_sub_eq_succ rfl) ?_)
 have sb:=Heap.SameBut.update s.heap I (Obj.mapFields (·.setIfInBounds 2 Value.none))
 generalize s.heap.update I (Obj.mapFields (·.setIfInBounds 2 Value.none))=h1 at sb ⊢
 simp only [newExc,newTuple,raiseNew]
 refine wpAny_bind (wpAny_bind (wpAny_newObj_type (wpAny_bind (m:=firstArgMember _ _) (wpAny_of_eq (a:=Value.none) rfl (wpAny_newObj_type (wpAny_bind (wpAny_handled ?_)) (by size_fits)))) (by size_fits)))
 rw [hh1]
 refine wpAny_throw (wpAny_bind (wpAny_isInstance (T:="StopIteration") (b:=true) ⟨_,Heap.get?_push_size _ rfl,rfl⟩ su (wpAny_pure (q _ ?_))))
 exact(((Heap.ExtBut.refl I s.heap).trans (sb.extBut)).push _).push _
theorem Ra {α:Type}{f:Nat->Nat}{xs:Array α}:(pickOrder f xs).toList.Perm xs.toList:=by
 have go:∀(n k:Nat) (l:List α) (out:Array α),l.length=n->(pickOrder.go f n k l out).toList.Perm (out.toList++l):=by
  intro n
  induction n with
  | zero=>intro k l out h;rw [List.length_eq_zero_iff.mp h];unfold pickOrder.go;simp
  | succ n ih=>
   intro k l out h
   unfold pickOrder.go
   have lt:f k % l.length<l.length:=Nat.mod_lt _ (by omega)
   rw [List.getElem?_eq_getElem lt]
   dsimp only
   refine(ih (k+1) _ _ (by rw [List.length_eraseIdx_of_lt lt];omega)).trans ?_
   rw [Array.toList_push,List.append_assoc]
   refine List.Perm.append_left _ ?_
   rw [List.eraseIdx_eq_take_drop_succ]
   conv=>rhs;rw [<-List.take_append_drop (f k % l.length) l,List.drop_eq_getElem_cons lt]
   exact(List.perm_middle (a:=l[f k % l.length]) (l₁:=l.take (f k % l.length)) (l₂:=l.drop (f k % l.length+1))).symm
 exact go xs.size 0 xs.toList #[] (by simp)
theorem ord_perm {w:World}{S:Addr}{ep:Nat}{es:Array (Int×Value)}:(Cw w S ep es).toList.Perm es.toList:=by
 unfold Cw
 split
 ·exact Ra
 ·exact .refl _
theorem Rb (hh:A.handled=none) (hne:S≠I) (lt:c<256) (el:Els (Ah c) es.toList):WalksS prog w A I [I,S] [I] (λa b=>b=a) es.size (λi v=>∃e,(Cw w S ep es)[i]? =some e/\v=e.2) (λi s=>i<=es.size/\EV s.heap I S (Br w (Ah c) i) i es.size ep/\SetIs w s.heap S c es ep) where
 sub:=λb hb=>by rw [List.mem_singleton] at hb;rw [hb];simp
 grefl:=λ_=>rfl
 gtrans:=λ_ _ _ h1 h2=>h2.trans h1
 frame:=λi s h' tk st _ kp=>⟨st.1,kp I (by simp) _ st.2.1,st.2.2.moved λo=>kp S (by simp) o⟩
 item:=λi s Q E hi st q=>by
  obtain⟨h1,h2,h3⟩:=st
  have sz:(Cw w S ep es).size=es.size:=by rw [<-Array.length_toList,ord_perm.length_eq,Array.length_toList]
  obtain⟨e,he⟩:∃e,(Cw w S ep es)[i]? =some e:=⟨_,Array.getElem?_eq_getElem (by rw [sz];exact hi)⟩
  refine Q8 h2 h3 he (by rw [<-h3.size];exact h1) λh' a b=>q e.2 _ ⟨e,he,rfl⟩ ⟨hi,a,h3.moved λo e=>?_⟩ ⟨λb' o hb e=>?_,rfl,rfl,rfl,Nat.le_refl _⟩
  ·rw [b.2 S hne];exact e
  ·rw [b.2 b' (by simpa using hb)];exact e
 done:=λs Q E st q=>by
  obtain⟨h1,h2,h3⟩:=st
  have sz:(Cw w S ep es).size=es.size:=by rw [<-Array.length_toList,ord_perm.length_eq,Array.length_toList]
  refine Q9 hh h2 h3 (Array.getElem?_eq_none (by rw [sz];exact Nat.le_refl _)) (by rw [<-h3.size];exact Nat.le_refl _) λh' x=>q _ ⟨λb o hb e=>x b o (by simpa using hb) e,rfl,rfl,rfl,Nat.le_refl _⟩
 self:=λi s Q E st q=>by
  have hT:s.TypeIs (.ref I) "set_iterator" :=⟨_,st.2.1,rfl⟩
  exact wpAny_pyIter_slot hT LZ (wpAny_call_entry LZ hT Q4 (show wpAny _ _ (ret (.ref I)) _ _ s from wpAny_pure ⟨_,rfl,"set_iterator",_,hT,slot_si.lookup,q⟩) (Q5 _))
theorem Rc (si:SetIs w s.heap S c es ep) {Q:Value->Shared->Prop} (q:Q (.ref s.heap.objs.size) { s with heap:=s.heap.push (DW S (Br w (Ah c) 0) 0 es.size ep)}):wpAny (model prog w) A (pyIter (.ref S)) Q E s:=by
 have hT:s.TypeIs (.ref S) "set" :=⟨_,si.at_,rfl⟩
 have fit:=DV (led:= !Bj w) si.lt si.size
 refine wpAny_pyIter_slot hT F.slot_set_iter (wpAny_call_entry F.slot_set_iter hT Q6 ?_ (F.args_set_iter_1 _))
 have st:=fun(A':Around) (Q':(Array (Int×Value)×Nat×SetTable)->Shared->Prop) E'=>wpAny_setState_of (prog:=prog) (w:=w) (A:=A') (Q:=Q') (E:=E') si.at_ rfl fit
 unfold Builtin.«frozenset.__iter__» setDrawn setEpoch Builtin.Frozenset.sizeOf setEntries setsByText
 wp_walk using st
 refine wpAny_askSetting (wpAny_pure (wpAny_pure ?_))
 dsimp only
 rw [if_neg (by show ¬((!(model prog w).w.params.followText "set-order" &&(!true && decide (es.size>1)))=true);simp)]
 refine wpAny_bind (wpAny_pure (wpAny_bind (wpAny_bind (st _ _ _ (wpAny_pure ?_)))))
 have e0:Br w (Ah c) 0=0:=by unfold Br;split<;>rfl
 rw [e0] at q
 exact wpAny_bind (m:=newFields "set_iterator" _) (wpAny_newObj_type (wpAny_pure ⟨_,rfl,"set_iterator",_,⟨_,Heap.get?_push_size _ rfl,rfl⟩,slot_si.lookup,q⟩) (by size_fits))
theorem L8:∀ {l:List (Int×Value)},(∀e∈l,∃t,e.2= .int e.1 t)->IntsAre (l.map (·.2)) (l.map (·.1))
 | [],_=> .nil
 | e::l,h=>by
  obtain⟨t,ht⟩:=h e (by simp)
  rw [List.map_cons,List.map_cons,ht]
  exact .cons _ _ (L8 λx hx=>h x (by simp [hx]))
theorem Re (si:SetIs w s.heap S c es ep) {Q:Bool->Shared->Prop} (q:∀b tk,s.toks<=tk->Q b { s with toks:=tk}):wpAny (model prog w) A (Builtin.List.listLengthHint (.ref S)) Q E s:=by
 have hT:s.TypeIs (.ref S) "set" :=⟨_,si.at_,rfl⟩
 have ln:=F.slot_set_len.lookup
 have sp:splitId "set.__len__"=some ("set","__len__"):=by decide+kernel
 have su:=sub_set_self
 unfold Builtin.List.listLengthHint
 refine wpAny_bind (wpAny_specialOf hT ln ?_)
 dsimp only
 rw [sp]
 dsimp only
 refine wpAny_bind (wpAny_isInstance hT su ?_)
 rw [if_neg (by decide)]
 refine wpAny_ite_split (λ_=>?_) (λhab=>absurd (by decide+kernel) hab)
 exact wpAny_bind (wpAny_typeOf hT (wpAny_pure (q false s.toks (Nat.le_refl _))))
theorem Rf (si:SetIs w s.heap S c es ep):LT prog w s (.ref S) λvs s'=>(∃ns:List Int,IntsAre vs ns/\ns.Perm ((Ah c).map λi:Nat=>(i:Int)))/\∃h' tk,(∀b o,s.heap.get? b=some o->h'.get? b=some o)/\s'= { s with heap:=h',toks:=tk}:=by
 intro A Q E hh k
 have fit:=DV (led:= !Bj w) si.lt si.size
 unfold collect
 refine wpAny_bind (wpAny_runValue (codeAny_builtin F.entry_proto_collect ?_))
 rw [Around.under_plainId F.plain_proto_collect _]
 refine wpAny_bind (m:=newList []) (wpAny_newObj_type (wpAny_pure ⟨plainId_quiet F.plain_list_iadd _,codeAny_builtin F.entry_list_iadd ?_⟩))
 rw [Around.under_plainId F.plain_list_iadd _]
 have lS:S<s.heap.objs.size:=Heap.lt_size si.at_
 have kL:(s.heap.push { cls:= .type "list",data:= .seq ([]:List Value).toArray}).get? s.heap.objs.size=some { cls:= .type "list",data:= .seq #[] 0}:=Heap.get?_push_size _ rfl
 have si1:SetIs w (s.heap.push { cls:= .type "list",data:= .seq ([]:List Value).toArray}) S c es ep:=si.moved λo e=>Heap.get?_push_of_some _ e
 show wpAny _ _ (Builtin.List.listExtendWith (.ref s.heap.objs.size) (.ref S) (.ref s.heap.objs.size)) _ _ _
 unfold Builtin.List.listExtendWith
 have hT1:Shared.TypeIs { s with heap:=s.heap.push { cls:= .type "list",data:= .seq ([]:List Value).toArray}} (.ref S) "set" :=⟨_,si1.at_,rfl⟩
 refine wpAny_bind (wpAny_typeOf hT1 ?_)
 have ns:Builtin.List.listSameRef (.ref s.heap.objs.size) (.ref S)=false:=by
  show(s.heap.objs.size==S)=false
  exact beq_false_of_ne (Nat.ne_of_gt lS)
 rw [if_neg (by rw [ns];decide)]
 refine wpAny_bind (Rc (s:= { s with heap:=s.heap.push { cls:= .type "list",data:= .seq ([]:List Value).toArray}}) si1 ?_)
 have kL2:((s.heap.push { cls:= .type "list",data:= .seq ([]:List Value).toArray}).push (DW S (Br w (Ah c) 0) 0 es.size ep)).get? s.heap.objs.size=some { cls:= .type "list",data:= .seq #[] 0}:=Heap.get?_push_of_some _ kL
 have si2:SetIs w ((s.heap.push { cls:= .type "list",data:= .seq ([]:List Value).toArray}).push (DW S (Br w (Ah c) 0) 0 es.size ep)) S c es ep:=si1.moved λo e=>Heap.get?_push_of_some _ e
 have kI:((s.heap.push { cls:= .type "list",data:= .seq ([]:List Value).toArray}).push (DW S (Br w (Ah c) 0) 0 es.size ep)).get? (s.heap.objs.size+1)=some (DW S (Br w (Ah c) 0) 0 es.size ep):=by
  rw [<-Heap.size_push s.heap { cls:= .type "list",data:= .seq ([]:List Value).toArray}]
  exact Heap.get?_push_size _ rfl
 have kp:∀b o,s.heap.get? b=some o->((s.heap.push { cls:= .type "list",data:= .seq ([]:List Value).toArray}).push (DW S (Br w (Ah c) 0) 0 es.size ep)).get? b=some o:=λb o e=>Heap.get?_push_of_some _ (Heap.get?_push_of_some _ e)
 rw [show({ s with heap:=s.heap.push { cls:= .type "list",data:= .seq ([]:List Value).toArray}}:Shared).heap.objs.size=s.heap.objs.size+1 from Heap.size_push ..]
 generalize(s.heap.push { cls:= .type "list",data:= .seq ([]:List Value).toArray}).push (DW S (Br w (Ah c) 0) 0 es.size ep)=h2 at kL2 si2 kI kp ⊢
 refine wpAny_bind (wpAny_holding (Re (s:= { s with heap:=h2}) si2 λb tk _=>?_))
 refine wpAny_ite_split (λ_=>?_) (λhab=>absurd (by rw [Bool.or_eq_true];exact .inr (by decide+kernel)) hab)
 refine wpAny_bind (wpAny_rule ?_)
 refine wpAny_bind (m:=Builtin.List.listTouch _) (wpAny_bind (m:=updateSeq s.heap.objs.size (·.push .none)) (wpAny_updateSeq (s:= { s with heap:=h2,toks:=tk}) kL2 rfl ?_))
 have u1:=Heap.get?_update_self (Obj.mapSeq (·.push Value.none)) kL2 rfl
 refine wpAny_updateSeq (s:= { s with heap:=h2.update s.heap.objs.size (Obj.mapSeq (·.push Value.none)),toks:=tk}) u1 rfl ?_
 have u2:=Heap.get?_update_self (Obj.mapSeq (·.pop)) u1 rfl
 have sb:=(Heap.SameBut.update h2 s.heap.objs.size (Obj.mapSeq (·.push Value.none))).trans (Heap.SameBut.update (h2.update s.heap.objs.size (Obj.mapSeq (·.push Value.none))) s.heap.objs.size (Obj.mapSeq (·.pop)))
 dsimp only
 generalize(h2.update s.heap.objs.size (Obj.mapSeq (·.push Value.none))).update s.heap.objs.size (Obj.mapSeq (·.pop))=h3 at u2 sb ⊢
 have nS:S≠s.heap.objs.size:=Nat.ne_of_lt lS
 have si3:SetIs w h3 S c es ep:=si2.moved λo e=>by rw [sb.2 S nS];exact e
 have kI3:EV h3 (s.heap.objs.size+1) S (Br w (Ah c) 0) 0 es.size ep:=by unfold EV;rw [sb.2 _ (by show s.heap.objs.size+1≠s.heap.objs.size;omega)];exact kI
 have W:=Rb (prog:=prog) (w:=w) (A:=A.in1) (I:=s.heap.objs.size+1) (S:=S) (c:=c) (es:=es) (ep:=ep) (by simpa using hh) (Nat.ne_of_lt (Nat.lt_succ_of_lt lS)) si.lt si.el
 have few:=Fx (c:=c)
 refine wpAny_pure ⟨plainId_quiet F.plain_extend_loop _,codeAny_extend_loopS W (by rw [si.size];exact Nat.le_trans few (by decide)) s.heap.objs.size (λh=>?_) _ es.size 0 _ #[] _ (by omega) (Nat.zero_le _) ⟨Nat.zero_le _,kI3,si3⟩ u2 (ItemsOf.nil _) λs' acc c' mv at' it=>?_⟩
 ·simp only [List.mem_cons,List.not_mem_nil,or_false] at h
  rcases h with h | h
  ·exact absurd h (Nat.ne_of_lt (Nat.lt_succ_self _))
  ·exact nS h.symm
 refine wpAny_bind (wpAny_load at' (wpAny_pure (k _ _ ⟨⟨(Cw w S ep es).toList.map (·.1),?_,?_⟩,s'.heap,s'.toks,λb o e=>?_,?_⟩)))
 ·have sz:(Cw w S ep es).size=es.size:=by rw [<-Array.length_toList,ord_perm.length_eq,Array.length_toList]
  have ea:acc.toList=(Cw w S ep es).toList.map (·.2):=by
   refine List.ext_getElem? λj=>?_
   by_cases hj:j<es.size
   ·have h1:j<acc.size:=by rw [it.1];exact hj
    obtain⟨e,he,hv⟩:=it.2 j acc[j] (by simp [h1])
    rw [Array.getElem?_toList,Array.getElem?_eq_getElem h1,hv,List.getElem?_map,Array.getElem?_toList,he];rfl
   ·rw [List.getElem?_eq_none (by rw [Array.length_toList,it.1];omega),List.getElem?_eq_none (by rw [List.length_map,Array.length_toList,sz];omega)]
  rw [ea]
  refine L8 λe he=>?_
  obtain⟨i,hi⟩:=List.getElem?_of_mem (ord_perm.mem_iff.mp he)
  obtain⟨m,t,_,rfl⟩:=si.el.get hi
  exact⟨t,rfl⟩
 ·rw [<-si.el.hash]
  exact ord_perm.map _
 ·refine mv.heap b o (λh=>?_) ?_
  ·have:=Heap.lt_size e
   simp only [List.mem_cons,List.not_mem_nil,or_false] at h
   rcases h with h | h
   ·rw [h] at this;exact absurd this (Nat.lt_irrefl _)
   ·rw [h] at this;exact absurd this (Nat.not_lt.mpr (Nat.le_succ _))
  ·show h3.get? b=some o
   rw [sb.2 b (Nat.ne_of_lt (Heap.lt_size e))]
   exact kp b o e
 ·have g:=mv.gens
  have d:=mv.drawn
  have o:=mv.os
  cases s'
  cases g;cases d;cases o;rfl
end
def Rg (ta:TA):TE:=fun σ H Q=>ta σ H λvs H1=>∃(a:Addr) (ns:List Nat),vs=[.ref a]/\H1 a=some (.tup (ns.map λi:Nat=>V.int (i:Int)))/\(∀n∈ns,n<8)/\
 ∀(l:Addr) (H':Hp) (ms:List Int),Ab H1 H'->H1 l=none->H' l=some (.lst (ms.map V.int))->ms.Pairwise (· < ·)->(∀m,m∈ms↔ ∃n∈ns,m=(n:Int))->Q (.ref l) H'
theorem Rh {ns:List Nat}{its:List Value} (rv:Ar (ns.map λi:Nat=>V.int (i:Int)) its):∀(i:Nat) (v:Value),its.toArray[i]? =some v->∃t,v=Value.int ((ns.getD i 0:Nat):Int) t:=by
 intro i v hv
 have e:ns.map (λi:Nat=>V.int (i:Int))=(ns.map λi:Nat=>(i:Int)).map V.int:=by rw [List.map_map];rfl
 rw [e] at rv
 obtain⟨t,ht⟩:=IntsAre.int_at (Ki rv) i v (by simpa using hv)
 refine⟨t,ht.trans ?_⟩
 congr 1
 rw [List.getD_eq_getElem?_getD,List.getElem?_map,List.getD_eq_getElem?_getD]
 cases ns[i]? <;>rfl
theorem Ri {X:Cx}{e:Expr}{ta:TA}{p pos p2 pos2:Pos} (hc:X.calm=true) (hg0:Gl X "sorted") (hm0:X.mg "sorted"=none) (hg:Gl X "set") (hm:X.mg "set"=none) (ha:PA X [e] ta)
  (hs0:starEach [.Call (.Name "set" p2) [e] [] pos2] X.env=[(false,eval (.Call (.Name "set" p2) [e] [] pos2) X.env)]:=by rfl) (hs:starEach [e] X.env=[(false,eval e X.env)]:=by rfl):
  PE X (.Call (.Name "sorted" p) [.Call (.Name "set" p2) [e] [] pos2] [] pos) (Rg ta):=by
 intro pins s σ H Q I h
 refine Call_ (CO I hg0 hm0 PyProof.Rows.boot_sorted (PyProof.Rows.callWith_builtin1 (by
  rw [hs0]
  refine Calls.spliced_cons (Call_ (CO I hg hm PyProof.Rows.Boot.«set» (PyProof.Rows.callWith_type1 (Av (ha pos2 pins s σ H _ I h) λus s1 ⟨vs,H1,I1,r1,q1⟩=>?_) hs rfl)))
  obtain⟨a,ns,e1,k1,h8,q⟩:=q1
  subst e1
  cases r1 with
  | cons r rr=>
   cases rr
   cases r
   obtain⟨its,rv,pl,hz⟩:=I1.tuple (Ac.of k1)
   have hl:=rv.length
   rw [List.length_map] at hl
   refine Q3 (I.ok.hd hc) pl (λi=>ns.getD i 0) (Rh rv) (λi hi=>?_) λh' tk c es ep kp si me=>Calls.spliced_nil ?_
   ·have hi':i<ns.length:=by simpa [hl] using hi
    rw [List.getD_eq_getElem?_getD,List.getElem?_eq_getElem hi']
    exact h8 _ (List.getElem_mem hi')
   have I2:=I1.kept (t':=tk) kp
   have few:=Fx (c:=c)
   have bu:((Ah c).map λi:Nat=>(i:Int)).Pairwise (· < ·):=by
    rw [List.pairwise_map]
    exact((List.pairwise_lt_range (n:=8)).filter _).imp λh=>by omega
   refine QL (I.ok.hd hc) (Rf si) λvs s3 po=>?_
   obtain⟨⟨ns3,ia,pe⟩,h3,tk3,kp3,e3⟩:=po
   subst e3
   have lv:vs.length=(Ah c).length:=by have:=ia.length;rw [pe.length_eq,List.length_map] at this;omega
   refine⟨ns3,ia,by omega,λout ns' a1 a2 a3=>?_⟩
   have I3:=I2.kept (t':=tk3) kp3
   refine QM I3 (ns:=ns3) (by rw [pe.length_eq,List.length_map];omega) a1 a2 λl H' sm fr kl=>?_
   refine q l H' ns' sm fr kl ?_ λm=>?_
   ·have nd:ns'.Nodup:=(a2.trans pe).nodup_iff.mpr (bu.imp λh=>Int.ne_of_lt h)
    exact(List.pairwise_and_iff.mpr ⟨a3,nd⟩).imp λh=>by omega
   ·rw [(a2.trans pe).mem_iff,List.mem_map]
    constructor
    ·rintro⟨j,hj,rfl⟩
     obtain⟨i,hi,e⟩:=(me j).mp hj
     have hi':i<ns.length:=by simpa [hl] using hi
     refine⟨j,?_,rfl⟩
     rw [e,List.getD_eq_getElem?_getD,List.getElem?_eq_getElem hi']
     exact List.getElem_mem hi'
    ·rintro⟨j,hj,rfl⟩
     obtain⟨i,hi,e⟩:=List.getElem_of_mem hj
     refine⟨j,(me j).mpr ⟨i,by simpa [hl] using hi,?_⟩,rfl⟩
     rw [List.getD_eq_getElem?_getD,List.getElem?_eq_getElem hi];exact e.symm) hs0 rfl))
end L2
end
section
namespace L2
open PySem PySem.Spec PyProof.Rows
variable {X : Cx}
theorem L9 (hu:X.A.units<cLine):OpR X (compareOp .Eq) (λx y H Q=>∃(a b:Addr) (xs:List V),x= .ref a/\y= .ref b/\H a=some (.tup xs)/\H b=some (.tup [])/\Q (.bl xs.isEmpty) H):=by
 intro pins s σ H x y v u Q I rx ry h
 obtain⟨a,b,xs,rfl,rfl,ha,hb,q⟩:=h
 cases rx;cases ry
 obtain⟨its,r1,p1,_⟩:=I.tuple (Ac.of ha)
 obtain⟨its2,r2,p2,_⟩:=I.tuple (Ac.of hb)
 cases r2
 refine SeqAt.RcAt.tuples (e:=λ_=>true) p1 p2 hu (λj h1 h2=>absurd h2 (by simp)) _ _ _ _ (AW I q ?_)
 cases r1 with
 | nil=>rfl
 | cons r t=>simp
end L2
end
section
namespace L2
open PySem PySem.Spec PyProof.Rows
def Ma (a b:TE):TE:=fun σ H Q=>a σ H Q\/b σ H Q
theorem Rj {X:Cx}{e:Expr}{a b:TE} (ha:PE X e a) (hb:PE X e b):PE X e (Ma a b):=λpins s σ H Q I h=>h.elim (λq=>ha pins s σ H Q I q) λq=>hb pins s σ H Q I q
section
variable {X : Cx}
theorem Rk (hu:X.A.units<cLine):OpR X (compareOp .NotEq) (λx y H Q=>∃(a b:Addr) (ns ms:List Int),x= .ref a/\y= .ref b/\H a=some (.lst (ns.map V.int))/\H b=some (.lst (ms.map V.int))/\Q (.bl (!decide (ns=ms))) H):=by
 intro pins s σ H x y v u Q I rx ry h
 obtain⟨a,b,ns,ms,rfl,rfl,ha,hb,q⟩:=h
 by_cases z:ns.length=ms.length
 ·exact O6 hu pins s σ H _ _ v u Q I rx ry ⟨a,b,ns,ms,rfl,rfl,ha,hb,z,q⟩
 ·cases rx;cases ry
  obtain⟨its,r1,p1,_⟩:=I.list (Ai.of ha)
  obtain⟨its2,r2,p2,_⟩:=I.list (Ai.of hb)
  have l1:=r1.length;have l2:=r2.length
  rw [List.length_map] at l1 l2
  exact SeqAt.RcNeAt.lists_lengths p1.isList p2.isList (by simp;omega) hu _ _ _ _ (AW I q (by rw [decide_eq_false λe=>z (by rw [e])];rfl))
end
section
variable {X : Cx} {a b : Expr} {Bk : List Expr} {pos : Pos}
def Rl (ta tb:TE):TE:=fun σ H Q=>ta σ H λx H1=>(x= .non/\tb σ H1 Q)\/ ∃t xs,x= .ref t/\H1 t=some (.tup xs)/\xs≠ []/\Q x H1
theorem Rm {ta tb:TE} (ha:PE X a ta) (hb:PE X (.BoolOp .Or (b::Bk) pos) tb):PE X (.BoolOp .Or (a::b::Bk) pos) (Rl ta tb):=by
 intro pins s σ H Q I h
 refine BoolOp_or (Av (ha pins s σ H _ I h) λv s1 ⟨x,H1,I1,r1,q1⟩=>?_)
 rcases q1 with⟨rfl,q⟩ | ⟨t,xs,rfl,ht,ne,q⟩
 ·cases r1
  refine truthy_none ?_
  exact hb pins s1 σ H1 Q I1 q
 ·cases r1
  obtain⟨its,r,pl,hz⟩:=I1.tuple (Ac.of ht)
  have hlen:=r.length
  have big:sizeLine<2 ^ 63:=by decide
  refine LI pl (by simp only [List.size_toArray];omega) ?_
  have e:(!its.toArray.isEmpty)=true:=by
   rw [J9 r]
   cases xs with
   | nil=>exact absurd rfl ne
   | cons _ _=>rfl
  rw [e]
  exact⟨.ref t,H1,I1.tok _,rfl,q⟩
end
end L2
end
section
namespace L2
open PySem PySem.Spec PyProof.Rows
open AutoSeq1 (wpAny_loadPart')
section
variable {X : Cx}
end
end L2
end
section
namespace MF
open PySem PySem.Spec PyProof.Rows L2
def AC (i : Nat) : Stmt := PySem.Challenge.pw_mainfires_k56_papers_of_the_fewest_by_an.main.body.getD i (.Pass ⟨0, 0, 0, 0⟩)
abbrev s_is_whole:Stmt:=AC 6
abbrev s_is_whole_from:Stmt:=AC 7
abbrev s_is_tuple_of:Stmt:=AC 8
abbrev s_is_rising:Stmt:=AC 9
abbrev s_is_plant:Stmt:=AC 18
abbrev s_are_boilers:Stmt:=AC 19
abbrev s_is_make_and_coal:Stmt:=AC 20
abbrev s_are_engines:Stmt:=AC 21
abbrev s_is_engine:Stmt:=AC 22
abbrev s_is_main:Stmt:=AC 23
abbrev s_need_plant:Stmt:=AC 24
abbrev s_is_story:Stmt:=AC 25
abbrev s_is_fault:Stmt:=AC 26
abbrev s_need_story:Stmt:=AC 27
abbrev s_caps_of:Stmt:=AC 28
abbrev s_caps_in:Stmt:=AC 29
abbrev s_words_for:Stmt:=AC 30
abbrev s_cap_under:Stmt:=AC 31
abbrev s_draws_of:Stmt:=AC 32
abbrev s_drawn_by:Stmt:=AC 33
abbrev s_terms_of:Stmt:=AC 34
abbrev s_is_firing:Stmt:=AC 35
abbrev s_is_firing_within:Stmt:=AC 36
abbrev s_is_row:Stmt:=AC 37
abbrev s_need_firing:Stmt:=AC 38
abbrev s_run_day:Stmt:=AC 40
abbrev s_falls_at:Stmt:=AC 41
abbrev s_keeps_up:Stmt:=AC 42
abbrev s_is_stretch:Stmt:=AC 44
abbrev s_is_too_much:Stmt:=AC 45
abbrev s_is_shown:Stmt:=AC 46
abbrev s_is_short_paper:Stmt:=AC 47
abbrev s_is_set:Stmt:=AC 49
abbrev s_sets_of:Stmt:=AC 50
abbrev s_first_behind:Stmt:=AC 51
abbrev s_with_only:Stmt:=AC 52
abbrev s_smaller_sets:Stmt:=AC 53
abbrev s_fewest_holds:Stmt:=AC 54
abbrev s_is_lit_paper:Stmt:=AC 55
abbrev s_are_shown:Stmt:=AC 56
abbrev s__law_cell:Stmt:=AC 58
abbrev s__law_pen:Stmt:=AC 59
abbrev s__law_draw:Stmt:=AC 60
abbrev s__law_below:Stmt:=AC 61
abbrev s__law_plant:Stmt:=AC 62
abbrev s__law_story:Stmt:=AC 63
abbrev s__law_caps:Stmt:=AC 64
abbrev s__law_draws:Stmt:=AC 65
abbrev s__law_mains:Stmt:=AC 66
abbrev s__law_keeps:Stmt:=AC 67
abbrev s__law_pair:Stmt:=AC 68
abbrev s__law_is_short:Stmt:=AC 69
abbrev s__law_stretch:Stmt:=AC 70
abbrev s__law_shows:Stmt:=AC 71
abbrev s__law_firing:Stmt:=AC 72
abbrev s__law_is_firing:Stmt:=AC 73
abbrev s__law_odd:Stmt:=AC 74
abbrev s__law_alone:Stmt:=AC 75
abbrev s__law_rows_of:Stmt:=AC 76
abbrev s__law_stretches:Stmt:=AC 77
abbrev s__law_good_lit:Stmt:=AC 78
abbrev s__law_good_paper:Stmt:=AC 79
abbrev s__law_any_pair:Stmt:=AC 80
abbrev s__law_papers:Stmt:=AC 81
abbrev s__law_bent:Stmt:=AC 82
abbrev s_law:Stmt:=AC 83
structure Tx (mg:Str->Option Value):Prop where
 b_all:mg "all"=none
 b_bool:mg "bool"=none
 b_divmod:mg "divmod"=none
 b_enumerate:mg "enumerate"=none
 b_int:mg "int"=none
 b_isinstance:mg "isinstance"=none
 b_len:mg "len"=none
 b_list:mg "list"=none
 b_max:mg "max"=none
 b_min:mg "min"=none
 b_range:mg "range"=none
 b_repr:mg "repr"=none
 b_set:mg "set"=none
 b_sorted:mg "sorted"=none
 b_sum:mg "sum"=none
 b_tuple:mg "tuple"=none
 b_zip:mg "zip"=none
 g_MOST_BOILERS:∃t,mg "MOST_BOILERS"=some (.int 4 t)
 g_MOST_ENGINES:∃t,mg "MOST_ENGINES"=some (.int 4 t)
 g_MOST_FAULTS:∃t,mg "MOST_FAULTS"=some (.int 4 t)
 g_MOST_HOURS:∃t,mg "MOST_HOURS"=some (.int 8 t)
 g_MOST_UNITS:∃t,mg "MOST_UNITS"=some (.int 9 t)
 g_MOST_EXTRA:∃t,mg "MOST_EXTRA"=some (.int 20 t)
 g_MOST_IN_MAIN:∃t,mg "MOST_IN_MAIN"=some (.int 40 t)
def Rn:PyData->Bool | .int _=>true | _=>false
def AQ (d:PyData) (lo hi:Int):Bool:=match d with | .int i=>decide (lo<=i) && decide (i<=hi) | _=>false
def AS (d:PyData) (lo hi:Int):Bool:=match d with | .tuple ds=>decide (lo<=(ds.length:Int)) && decide ((ds.length:Int)<=hi) | _=>false
def GK:Sp:=λvs H Q _=>match vs with | [v]=>∃p d,Aa p H d v/\∀b,b=Rn d->Q (.bl b) H | _=>False
def Jo:Sp:=λvs H Q _=>match vs with | [v,.int lo,.int hi]=>∃p d,Aa p H d v/\∀b,b=AQ d lo hi->Q (.bl b) H | _=>False
def Jp:Sp:=λvs H Q _=>match vs with | [v,.int lo,.int hi]=>∃p d,Aa p H d v/\∀b,b=AS d lo hi->Q (.bl b) H | _=>False
section
variable {P : Program} {w : World} {K : PySem.W.Frag} {mg : Str -> Option Value} {base : Heap}
theorem Ro:AB ["thing"] ["thing"] (Ax s_is_whole):=AD
theorem Rp (F:Df K mg "is_whole" s_is_whole ["thing"]) (T:Tx mg)  :Fn P w K mg base 1 "is_whole" ["thing"] GK:=by
 refine F.fn Ro (λvs H Q E h=>?_) (λf cdv A outer s H vs Q E hr h=>?_)
 ·unfold GK at h;split at h;rfl;exact h.elim
 refine⟨_,(An (Aq (AY (Aw C0 rfl T.b_isinstance boot_isinstance (Am (cy 0) (CQ (v:= .ty "int") rfl T.b_int L2.boot_int rfl))) (Bl (KN (Aw C0 rfl T.b_isinstance boot_isinstance (Am (cy 0) (CQ (v:= .ty "bool") rfl T.b_bool L2.boot_bool rfl)))))))),?_⟩
 unfold GK at h
 split at h
 ·rename_i v
  obtain⟨p,d,r,q⟩:=h
  refine⟨_,r.ty,.inl rfl,⟨λc=>⟨_,r.ty,.inr (.inl rfl),?_⟩,λc=>?_⟩⟩
  ·exact q _ (by cases d<;>first | rfl | cases c)
  ·exact q _ (by cases d<;>first | rfl | cases c)
 ·exact h.elim
theorem Rq:AB ["thing","least","most"] ["thing","least","most"] (Ax s_is_whole_from):=AD
abbrev Dj (P:Program) (w:World) (K:PySem.W.Frag) (mg:Str->Option Value) (base:Heap):Prop:=Fn P w K mg base 2 "is_whole_from" ["thing","least","most"] Jo
theorem Rr (F:Df K mg "is_whole_from" s_is_whole_from ["thing","least","most"]) (T:Tx mg) (D_is_whole:Fn P w K mg base 1 "is_whole" ["thing"] GK):Dj P w K mg base:=by
 refine F.fn Rq (λvs H Q E h=>?_) (λf cdv A outer s H vs Q E hr h=>?_)
 ·unfold Jo at h;split at h;rfl;exact h.elim
 refine⟨_,(An (Aq (AY (Af D_is_whole (hr.mono (by decide)) rfl (Ao (cy 0))) (Bl (IQ Db Db (cy 1) (cy 0) (cy 2)))))),?_⟩
 unfold Jo at h
 split at h
 ·rename_i v lo hi
  obtain⟨p,d,r,q⟩:=h
  refine⟨p,d,r,λb hb=>⟨λc=>?_,λc=>?_⟩⟩
  ·subst c
   cases d<;>first | cases hb | skip
   rename_i i
   unfold Aa at r
   subst r
   refine⟨λc=>?_,λc=>?_⟩
   ·exact q _ (by unfold AQ;dsimp only;rw [c];rfl)
   ·exact q _ (by unfold AQ;dsimp only;rw [c];rfl)
  ·subst c
   exact q _ (by cases d<;>first | rfl | cases hb)
 ·exact h.elim
theorem Rs:AB ["thing","fewest","most"] ["thing","fewest","most"] (Ax s_is_tuple_of):=AD
abbrev BT (P:Program) (w:World) (K:PySem.W.Frag) (mg:Str->Option Value) (base:Heap):Prop:=Fn P w K mg base 1 "is_tuple_of" ["thing","fewest","most"] Jp
theorem Rt (F:Df K mg "is_tuple_of" s_is_tuple_of ["thing","fewest","most"]) (T:Tx mg)  :BT P w K mg base:=by
 refine F.fn Rs (λvs H Q E h=>?_) (λf cdv A outer s H vs Q E hr h=>?_)
 ·unfold Jp at h;split at h;rfl;exact h.elim
 refine⟨_,(An (Aq (AY (Aw C0 rfl T.b_isinstance boot_isinstance (Am (cy 0) (CQ (v:= .ty "tuple") rfl T.b_tuple Bi rfl))) (Bl (IQ Db Db (cy 1) (Aw (AR K) rfl T.b_len PySem.boot_len (Ao (cy 0))) (cy 2)))))),?_⟩
 unfold Jp at h
 split at h
 ·rename_i v lo hi
  obtain⟨p,d,r,q⟩:=h
  refine⟨_,r.ty,.inr (.inr (.inl rfl)),⟨λc=>?_,λc=>?_⟩⟩
  ·cases d<;>first | cases c | skip
   rename_i ds
   unfold Aa at r
   obtain⟨a,xs,rfl,ha,rs⟩:=r
   refine⟨a,xs,rfl,.inr (Ac.of ha),?_⟩
   rw [<-rs.len]
   refine⟨λc=>?_,λc=>?_⟩
   ·exact q _ (by unfold AS;dsimp only;rw [c];rfl)
   ·exact q _ (by unfold AS;dsimp only;rw [c];rfl)
  ·exact q _ (by cases d<;>first | rfl | cases c)
 ·exact h.elim
end
end MF
end
section
namespace MF
open PySem PySem.Spec PyProof.Rows L2
variable {p : Addr} {H : Hp} {a : PyData} {xs : List V}
theorem Mb {α β:Type}{ds:List α}{i:Nat}{d:α} (f:α->β) (h:ds[i]? =some d):(ds.take (i+1)).map f=(ds.take i).map f++[f d]:=by
 rw [List.take_add_one,h,List.map_append];rfl
def Er (d:PyData):Bool:=match d with | .tuple [a,b]=>AQ a 1 9 && AQ b 1 9 | _=>false
def DX (d:PyData):Bool:=match d with | .tuple [a,b,c]=>AQ a 1 9 && AQ b 0 7 && AQ c 1 8 | _=>false
def Es (d:PyData):Bool:=match d with
 | .tuple [a,b,c]=>AQ b 0 40 && match b with | .int hi=>AQ c 0 hi &&(match c with | .int st=>AQ a 0 st | _=>false) | _=>false
 | _=>false
def EW (d:PyData):Bool:=match d with | .tuple ds=>AS d 1 4 && ds.all Er | _=>false
def EX (d:PyData):Bool:=match d with | .tuple ds=>AS d 0 4 && ds.all DX | _=>false
def EY (d:PyData):Bool:=match d with | .tuple [a,b,c]=>EW a && EX b && Es c | _=>false
def Cy (f:PyData->Bool):Sp:=λvs H Q _=>match vs with | [v]=>∃p d,Aa p H d v/\∀b H',b=f d->Ab H H'->Q (.bl b) H' | _=>False
theorem EZ {f:PyData->Bool}{vs H Q E} (h:Cy f vs H Q E):vs.length=1:=by unfold Cy at h;split at h;rfl;exact h.elim
abbrev GL:Sp:=Cy Er
abbrev GM:Sp:=Cy DX
abbrev GN:Sp:=Cy Es
abbrev GO:Sp:=Cy EW
abbrev GP:Sp:=Cy EX
abbrev GQ:Sp:=Cy EY
theorem Ru {vs H Q E} (h:GL vs H Q E):vs.length=1:=EZ h
theorem Rv {vs H Q E} (h:GM vs H Q E):vs.length=1:=EZ h
theorem Rw {vs H Q E} (h:GN vs H Q E):vs.length=1:=EZ h
theorem Rx {vs H Q E} (h:GO vs H Q E):vs.length=1:=EZ h
theorem Ry {vs H Q E} (h:GP vs H Q E):vs.length=1:=EZ h
theorem Rz {vs H Q E} (h:GQ vs H Q E):vs.length=1:=EZ h
theorem two {ds:List PyData} (h:AS (.tuple ds) 2 2=true):∃a b,ds=[a,b]:=by
 unfold AS at h;simp only [Bool.and_eq_true,decide_eq_true_eq] at h
 match ds,h with
 | [a,b],_=>exact⟨a,b,rfl⟩
 | [],h=>simp at h
 | [_],h=>simp at h
 | _::_::_::_,h=>simp at h;omega
theorem three {ds:List PyData} (h:AS (.tuple ds) 3 3=true):∃a b c,ds=[a,b,c]:=by
 unfold AS at h;simp only [Bool.and_eq_true,decide_eq_true_eq] at h
 match ds,h with
 | [a,b,c],_=>exact⟨a,b,c,rfl⟩
 | [],h=>simp at h
 | [_],h=>simp at h
 | [_,_],h=>simp at h
 | _::_::_::_::_,h=>simp at h;omega
theorem Et {d:PyData}{lo hi:Int} (h:AS d lo hi=true):∃ds,d= .tuple ds:=by
 cases d<;>first | exact⟨_,rfl⟩ | cases h
theorem Aa.shape {ds:List PyData}{v:V} (r:Aa p H (.tuple ds) v):∃a xs,v= .ref a/\H a=some (.tup xs)/\Ad p H ds xs:=by unfold Aa at r;exact r
theorem Ad.two {b:PyData} (r:Ad p H [a,b] xs):∃x y,xs=[x,y]/\Aa p H a x/\Aa p H b y:=by
 unfold Ad at r;obtain⟨x,s,rfl,hx,r⟩:=r;unfold Ad at r;obtain⟨y,s,rfl,hy,r⟩:=r;unfold Ad at r;subst r;exact⟨x,y,rfl,hx,hy⟩
theorem Ad.three {b c:PyData} (r:Ad p H [a,b,c] xs):∃x y z,xs=[x,y,z]/\Aa p H a x/\Aa p H b y/\Aa p H c z:=by
 unfold Ad at r;obtain⟨x,s,rfl,hx,r⟩:=r;obtain⟨y,z,rfl,hy,hz⟩:=Ad.two r;exact⟨x,y,z,rfl,hx,hy,hz⟩
section
variable {P : Program} {w : World} {K : PySem.W.Frag} {mg : Str -> Option Value} {base : Heap}
theorem sc_is_make_and_coal:AB ["thing","make","coal"] ["thing"] (Ax s_is_make_and_coal):=AD
theorem RA (F:Df K mg "is_make_and_coal" s_is_make_and_coal ["thing"]) (T:Tx mg) (D_is_tuple_of:BT P w K mg base) (D_is_whole_from:Dj P w K mg base):Fn P w K mg base 3 "is_make_and_coal" ["thing"] GL:=by
 obtain⟨t_MOST_UNITS,g_MOST_UNITS⟩:=T.g_MOST_UNITS
 refine F.fn sc_is_make_and_coal (λvs H Q E h=>?_) (λf cdv A outer s H vs Q E hr h=>?_)
 ·exact Ru h
 refine⟨_,(Ak (A2 (Bn (Bh (Af D_is_tuple_of (hr.mono (by decide)) rfl (AG (cy 0) pe_int pe_int)))) (An (Aq pe_bl)) AZ) (Ak (Bv (cy 0) (AM K (n:=2) (Ap (Aj 1 sc_is_make_and_coal.nd) (Ap (Aj 2 sc_is_make_and_coal.nd) AL)))) (An (Aq (AY (Af D_is_whole_from (hr.mono (by decide)) rfl (AG (cy 1) pe_int (CP (v:= .int 9) rfl g_MOST_UNITS ⟨t_MOST_UNITS,rfl⟩))) (Bl (Af D_is_whole_from (hr.mono (by decide)) rfl (AG (cy 2) pe_int (CP (v:= .int 9) rfl g_MOST_UNITS ⟨t_MOST_UNITS,rfl⟩))))))))),?_⟩
 unfold GL Cy at h
 split at h
 ·rename_i v
  obtain⟨p,d,r,q⟩:=h
  refine⟨p,d,r,λb hb=>⟨λc=>?_,λc=>?_⟩⟩
  ·refine q false H ?_ (Ab.refl _)
   have e:AS d 2 2=false:=by rw [<-hb];simpa using c
   cases d<;>first | rfl | skip
   rename_i ds
   match ds,e with
   | [a,b],e=>cases e
   | [],_=>rfl
   | [_],_=>rfl
   | _::_::_::_,_=>rfl
  ·have e:AS d 2 2=true:=by rw [<-hb];simpa using c
   obtain⟨ds,rfl⟩:=Et e
   obtain⟨a,b,rfl⟩:=two e
   obtain⟨l,xs,rfl,hl,rs⟩:=Aa.shape r
   obtain⟨x,y,rfl,rx,ry⟩:=Ad.two rs
   refine⟨l,[x,y],rfl,Ac.of hl,rfl,x,[y],rfl,y,[],rfl,rfl,p,a,rx,λb1 e1=>⟨λc=>⟨p,b,ry,λb2 e2=>?_⟩,λc=>?_⟩⟩
   ·exact q _ _ (by unfold Er;dsimp only;rw [e2,<-e1,c];rfl) (Ab.refl _)
   ·exact q _ _ (by unfold Er;dsimp only;rw [<-e1,c];rfl) (Ab.refl _)
 ·exact h.elim
theorem sc_is_engine:AB ["thing","draw","first","every"] ["thing"] (Ax s_is_engine):=AD
theorem RB (F:Df K mg "is_engine" s_is_engine ["thing"]) (T:Tx mg) (D_is_tuple_of:BT P w K mg base) (D_is_whole_from:Dj P w K mg base):Fn P w K mg base 3 "is_engine" ["thing"] GM:=by
 obtain⟨t_MOST_HOURS,g_MOST_HOURS⟩:=T.g_MOST_HOURS
 obtain⟨t_MOST_UNITS,g_MOST_UNITS⟩:=T.g_MOST_UNITS
 refine F.fn sc_is_engine (λvs H Q E h=>?_) (λf cdv A outer s H vs Q E hr h=>?_)
 ·exact Rv h
 refine⟨_,(Ak (A2 (Bn (Bh (Af D_is_tuple_of (hr.mono (by decide)) rfl (AG (cy 0) pe_int pe_int)))) (An (Aq pe_bl)) AZ) (Ak (Bv (cy 0) (AM K (n:=3) (Ap (Aj 1 sc_is_engine.nd) (Ap (Aj 2 sc_is_engine.nd) (Ap (Aj 3 sc_is_engine.nd) AL))))) (An (Aq (AY (Af D_is_whole_from (hr.mono (by decide)) rfl (AG (cy 1) pe_int (CP (v:= .int 9) rfl g_MOST_UNITS ⟨t_MOST_UNITS,rfl⟩))) (AY (Af D_is_whole_from (hr.mono (by decide)) rfl (AG (cy 2) pe_int (Au BE (CP (v:= .int 8) rfl g_MOST_HOURS ⟨t_MOST_HOURS,rfl⟩) pe_int))) (Bl (Af D_is_whole_from (hr.mono (by decide)) rfl (AG (cy 3) pe_int (CP (v:= .int 8) rfl g_MOST_HOURS ⟨t_MOST_HOURS,rfl⟩)))))))))),?_⟩
 unfold GM Cy at h
 split at h
 ·rename_i v
  obtain⟨p,d,r,q⟩:=h
  refine⟨p,d,r,λb hb=>⟨λc=>?_,λc=>?_⟩⟩
  ·refine q false H ?_ (Ab.refl _)
   have e:AS d 3 3=false:=by rw [<-hb];simpa using c
   cases d<;>first | rfl | skip
   rename_i ds
   match ds,e with
   | [a,b,c],e=>cases e
   | [],_=>rfl
   | [_],_=>rfl
   | [_,_],_=>rfl
   | _::_::_::_::_,_=>rfl
  ·have e:AS d 3 3=true:=by rw [<-hb];simpa using c
   obtain⟨ds,rfl⟩:=Et e
   obtain⟨a,b,c',rfl⟩:=three e
   obtain⟨l,xs,rfl,hl,rs⟩:=Aa.shape r
   obtain⟨x,y,z,rfl,rx,ry,rz⟩:=Ad.three rs
   refine⟨l,[x,y,z],rfl,Ac.of hl,rfl,x,[y,z],rfl,y,[z],rfl,z,[],rfl,rfl,p,a,rx,λb1 e1=>⟨λc=>⟨p,b,ry,λb2 e2=>⟨λc2=>⟨p,c',rz,λb3 e3=>?_⟩,λc2=>?_⟩⟩,λc=>?_⟩⟩
   ·exact q _ _ (by unfold DX;dsimp only;rw [e3,<-e1,c];rw [show AQ b 0 7=true from by rw [<-c2,e2];rfl];rfl) (Ab.refl _)
   ·exact q _ _ (by unfold DX;dsimp only;rw [<-e1,c];rw [show AQ b 0 7=false from by rw [<-c2,e2];rfl];rfl) (Ab.refl _)
   ·exact q _ _ (by unfold DX;dsimp only;rw [<-e1,c];rfl) (Ab.refl _)
 ·exact h.elim
theorem sc_is_main:AB ["thing","low","high","start"] ["thing"] (Ax s_is_main):=AD
theorem RC (F:Df K mg "is_main" s_is_main ["thing"]) (T:Tx mg) (D_is_tuple_of:BT P w K mg base) (D_is_whole_from:Dj P w K mg base):Fn P w K mg base 3 "is_main" ["thing"] GN:=by
 obtain⟨t_MOST_IN_MAIN,g_MOST_IN_MAIN⟩:=T.g_MOST_IN_MAIN
 refine F.fn sc_is_main (λvs H Q E h=>?_) (λf cdv A outer s H vs Q E hr h=>?_)
 ·exact Rw h
 refine⟨_,(Ak (A2 (Bn (Bh (Af D_is_tuple_of (hr.mono (by decide)) rfl (AG (cy 0) pe_int pe_int)))) (An (Aq pe_bl)) AZ) (Ak (Bv (cy 0) (AM K (n:=3) (Ap (Aj 1 sc_is_main.nd) (Ap (Aj 2 sc_is_main.nd) (Ap (Aj 3 sc_is_main.nd) AL))))) (An (Aq (AY (Af D_is_whole_from (hr.mono (by decide)) rfl (AG (cy 2) pe_int (CP (v:= .int 40) rfl g_MOST_IN_MAIN ⟨t_MOST_IN_MAIN,rfl⟩))) (AY (Af D_is_whole_from (hr.mono (by decide)) rfl (AG (cy 3) pe_int (cy 2))) (Bl (Af D_is_whole_from (hr.mono (by decide)) rfl (AG (cy 1) pe_int (cy 3)))))))))),?_⟩
 unfold GN Cy at h
 split at h
 ·rename_i v
  obtain⟨p,d,r,q⟩:=h
  refine⟨p,d,r,λb hb=>⟨λc=>?_,λc=>?_⟩⟩
  ·refine q false H ?_ (Ab.refl _)
   have e:AS d 3 3=false:=by rw [<-hb];simpa using c
   cases d<;>first | rfl | skip
   rename_i ds
   match ds,e with
   | [a,b,c],e=>cases e
   | [],_=>rfl
   | [_],_=>rfl
   | [_,_],_=>rfl
   | _::_::_::_::_,_=>rfl
  ·have e:AS d 3 3=true:=by rw [<-hb];simpa using c
   obtain⟨ds,rfl⟩:=Et e
   obtain⟨a,b,c',rfl⟩:=three e
   obtain⟨l,xs,rfl,hl,rs⟩:=Aa.shape r
   obtain⟨x,y,z,rfl,rx,ry,rz⟩:=Ad.three rs
   refine⟨l,[x,y,z],rfl,Ac.of hl,rfl,x,[y,z],rfl,y,[z],rfl,z,[],rfl,rfl,p,b,ry,λb1 e1=>⟨λc1=>?_,λc1=>?_⟩⟩
   ·rw [c1] at e1
    cases b<;>first | cases e1 | skip
    rename_i hi
    unfold Aa at ry
    subst ry
    refine⟨p,c',rz,λb2 e2=>⟨λc2=>?_,λc2=>?_⟩⟩
    ·rw [c2] at e2
     cases c'<;>first | cases e2 | skip
     rename_i st
     unfold Aa at rz
     subst rz
     refine⟨p,a,rx,λb3 e3=>?_⟩
     exact q _ _ (by unfold Es;dsimp only;rw [e3];rw [<-e1,<-e2];rfl) (Ab.refl _)
    ·exact q _ _ (by unfold Es;dsimp only;rw [<-e1,<-e2,c2];rfl) (Ab.refl _)
   ·exact q _ _ (by unfold Es;dsimp only;rw [<-e1,c1];rfl) (Ab.refl _)
 ·exact h.elim
theorem RD:AB ["thing"] ["thing"] (Ax s_are_boilers):=AD
theorem RE (F:Df K mg "are_boilers" s_are_boilers ["thing"]) (T:Tx mg) (D_is_make_and_coal:Fn P w K mg base 3 "is_make_and_coal" ["thing"] GL) (D_is_tuple_of:BT P w K mg base):Fn P w K mg base 4 "are_boilers" ["thing"] GO:=by
 obtain⟨t_MOST_BOILERS,g_MOST_BOILERS⟩:=T.g_MOST_BOILERS
 refine F.fn RD (λvs H Q E h=>?_) (λf cdv A outer s H vs Q E hr h=>?_)
 ·exact Rx h
 refine⟨_,(An (Aq (AY (Af D_is_tuple_of (hr.mono (by decide)) rfl (AG (cy 0) pe_int (CP (v:= .int 4) rfl g_MOST_BOILERS ⟨t_MOST_BOILERS,rfl⟩))) (Bl (Aw (Ct rfl) rfl T.b_all boot_all (Ao (A6 ["part"] [none] rfl (BK K (cy 0)) (AO.of rfl) (λ_ _ _ _=>(Aj 0 (AJ (by rfl)))) (λ_ _ _ _=>A5) (λ_ _ _ _=>(Af D_is_make_and_coal (hr.mono (by decide)) rfl (Ao (cy 0))))))))))),?_⟩
 unfold GO Cy at h
 split at h
 ·rename_i v
  obtain⟨p,d,r,q⟩:=h
  refine⟨p,d,r,λb hb=>⟨λc=>?_,λc=>?_⟩⟩
  ·rw [c] at hb
   obtain⟨ds,rfl⟩:=Et hb.symm
   obtain⟨l,xs,rfl,hl,rs⟩:=Aa.shape r
   have hlen:=rs.len
   have hsm:ds.length<=4:=by
    have:=hb.symm;unfold AS at this;simp only [Bool.and_eq_true,decide_eq_true_eq] at this;omega
   refine⟨l,rfl,⟨xs,Ac.of hl⟩,BR (xs:=xs) (λi ys H'=>Ab H H'/\ys=(ds.take i).map λd=>V.bl (Er d)) (by omega) ⟨Ab.refl _,rfl⟩ (λi ys H' h=>by rw [h.2,List.length_map,List.length_take];omega) (λi ys H' _ h=>Ac.of (h.1 _ _ hl)) (λi x ys H' hx h=>?_) λys H' h=>?_⟩
   ·obtain⟨d,hd,rd⟩:=rs.got hx
    refine⟨trivial,λ_=>⟨p,d,Aa.ev (Ev.same h.1) d x rd,λb H2 e s2=>⟨h.1.trans s2,?_⟩⟩,λc=>by cases c⟩
    rw [h.2,e,Mb _ hd]
   ·intro m hm
    refine⟨m,ds.map Er,rfl,?_,?_⟩
    ·rw [Ag,h.2,<-hlen,List.take_length,List.map_map];rfl
    ·refine q _ _ ?_ (h.1.trans (Ab.new hm))
     unfold EW;dsimp only;rw [<-hb,List.all_map,Bool.true_and];rfl
  ·refine q _ _ ?_ (Ab.refl _)
   have e:AS d 1 4=false:=by rw [<-hb,c]
   unfold EW
   cases d<;>first | rfl | skip
   dsimp only;rw [e];rfl
 ·exact h.elim
theorem RF:AB ["thing"] ["thing"] (Ax s_are_engines):=AD
theorem RG (F:Df K mg "are_engines" s_are_engines ["thing"]) (T:Tx mg) (D_is_engine:Fn P w K mg base 3 "is_engine" ["thing"] GM) (D_is_tuple_of:BT P w K mg base):Fn P w K mg base 4 "are_engines" ["thing"] GP:=by
 obtain⟨t_MOST_ENGINES,g_MOST_ENGINES⟩:=T.g_MOST_ENGINES
 refine F.fn RF (λvs H Q E h=>?_) (λf cdv A outer s H vs Q E hr h=>?_)
 ·exact Ry h
 refine⟨_,(An (Aq (AY (Af D_is_tuple_of (hr.mono (by decide)) rfl (AG (cy 0) pe_int (CP (v:= .int 4) rfl g_MOST_ENGINES ⟨t_MOST_ENGINES,rfl⟩))) (Bl (Aw (Ct rfl) rfl T.b_all boot_all (Ao (A6 ["part"] [none] rfl (BK K (cy 0)) (AO.of rfl) (λ_ _ _ _=>(Aj 0 (AJ (by rfl)))) (λ_ _ _ _=>A5) (λ_ _ _ _=>(Af D_is_engine (hr.mono (by decide)) rfl (Ao (cy 0))))))))))),?_⟩
 unfold GP Cy at h
 split at h
 ·rename_i v
  obtain⟨p,d,r,q⟩:=h
  refine⟨p,d,r,λb hb=>⟨λc=>?_,λc=>?_⟩⟩
  ·rw [c] at hb
   obtain⟨ds,rfl⟩:=Et hb.symm
   obtain⟨l,xs,rfl,hl,rs⟩:=Aa.shape r
   have hlen:=rs.len
   have hsm:ds.length<=4:=by
    have:=hb.symm;unfold AS at this;simp only [Bool.and_eq_true,decide_eq_true_eq] at this;omega
   refine⟨l,rfl,⟨xs,Ac.of hl⟩,BR (xs:=xs) (λi ys H'=>Ab H H'/\ys=(ds.take i).map λd=>V.bl (DX d)) (by omega) ⟨Ab.refl _,rfl⟩ (λi ys H' h=>by rw [h.2,List.length_map,List.length_take];omega) (λi ys H' _ h=>Ac.of (h.1 _ _ hl)) (λi x ys H' hx h=>?_) λys H' h=>?_⟩
   ·obtain⟨d,hd,rd⟩:=rs.got hx
    refine⟨trivial,λ_=>⟨p,d,Aa.ev (Ev.same h.1) d x rd,λb H2 e s2=>⟨h.1.trans s2,?_⟩⟩,λc=>by cases c⟩
    rw [h.2,e,Mb _ hd]
   ·intro m hm
    refine⟨m,ds.map DX,rfl,?_,?_⟩
    ·rw [Ag,h.2,<-hlen,List.take_length,List.map_map];rfl
    ·refine q _ _ ?_ (h.1.trans (Ab.new hm))
     unfold EX;dsimp only;rw [<-hb,List.all_map,Bool.true_and];rfl
  ·refine q _ _ ?_ (Ab.refl _)
   have e:AS d 0 4=false:=by rw [<-hb,c]
   unfold EX
   cases d<;>first | rfl | skip
   dsimp only;rw [e];rfl
 ·exact h.elim
theorem sc_is_plant:AB ["thing","boilers","engines","main"] ["thing"] (Ax s_is_plant):=AD
theorem RH (F:Df K mg "is_plant" s_is_plant ["thing"]) (T:Tx mg) (D_are_boilers:Fn P w K mg base 4 "are_boilers" ["thing"] GO) (D_are_engines:Fn P w K mg base 4 "are_engines" ["thing"] GP) (D_is_main:Fn P w K mg base 3 "is_main" ["thing"] GN) (D_is_tuple_of:BT P w K mg base):Fn P w K mg base 5 "is_plant" ["thing"] GQ:=by
 refine F.fn sc_is_plant (λvs H Q E h=>?_) (λf cdv A outer s H vs Q E hr h=>?_)
 ·exact Rz h
 refine⟨_,(Ak (A2 (Bn (Bh (Af D_is_tuple_of (hr.mono (by decide)) rfl (AG (cy 0) pe_int pe_int)))) (An (Aq pe_bl)) AZ) (Ak (Bv (cy 0) (AM K (n:=3) (Ap (Aj 1 sc_is_plant.nd) (Ap (Aj 2 sc_is_plant.nd) (Ap (Aj 3 sc_is_plant.nd) AL))))) (An (Aq (AY (Af D_are_boilers (hr.mono (by decide)) rfl (Ao (cy 1))) (AY (Af D_are_engines (hr.mono (by decide)) rfl (Ao (cy 2))) (Bl (Af D_is_main (hr.mono (by decide)) rfl (Ao (cy 3)))))))))),?_⟩
 unfold GQ Cy at h
 split at h
 ·rename_i v
  obtain⟨p,d,r,q⟩:=h
  refine⟨p,d,r,λb hb=>⟨λc=>?_,λc=>?_⟩⟩
  ·refine q false H ?_ (Ab.refl _)
   have e:AS d 3 3=false:=by rw [<-hb];simpa using c
   cases d<;>first | rfl | skip
   rename_i ds
   match ds,e with
   | [a,b,c],e=>cases e
   | [],_=>rfl
   | [_],_=>rfl
   | [_,_],_=>rfl
   | _::_::_::_::_,_=>rfl
  ·have e:AS d 3 3=true:=by rw [<-hb];simpa using c
   obtain⟨ds,rfl⟩:=Et e
   obtain⟨a,b,c',rfl⟩:=three e
   obtain⟨l,xs,rfl,hl,rs⟩:=Aa.shape r
   obtain⟨x,y,z,rfl,rx,ry,rz⟩:=Ad.three rs
   refine⟨l,[x,y,z],rfl,Ac.of hl,rfl,x,[y,z],rfl,y,[z],rfl,z,[],rfl,rfl,p,a,rx,λb1 H1 e1 s1=>⟨λc=>⟨p,b,Aa.ev (Ev.same s1) _ _ ry,λb2 H2 e2 s2=>⟨λc2=>⟨p,c',Aa.ev (Ev.same (s1.trans s2)) _ _ rz,λb3 H3 e3 s3=>?_⟩,λc2=>?_⟩⟩,λc=>?_⟩⟩
   ·exact q _ _ (by unfold EY;dsimp only;rw [e3,<-e1,<-e2,c,c2];rfl) (s1.trans (s2.trans s3))
   ·exact q _ _ (by unfold EY;dsimp only;rw [<-e1,<-e2,c,c2];rfl) (s1.trans s2)
   ·exact q _ _ (by unfold EY;dsimp only;rw [<-e1,c];rfl) s1
 ·exact h.elim
end
end MF
end
section
namespace MF
open PySem PySem.Spec PyProof.Rows L2
variable {p a : Addr} {H : Hp}
def AV (p:Addr) (H:Hp):Prop:=∃l f:Int,H p=some (.lst [.int l,.int f])
theorem AV.new {o:HO} (h:AV p H) (n:H a=none):AV p (upd H a o):=by
 obtain⟨l,f,e⟩:=h;exact⟨l,f,by rw [AA (Bf e n)];exact e⟩
theorem AV.ne (h:AV p H) (n:H a=none):a≠p:=by obtain⟨l,f,e⟩:=h;exact Ne.symm (Bf e n)
theorem AV.same {H':Hp} (h:AV p H) (s:Ab H H'):AV p H':=by obtain⟨l,f,e⟩:=h;exact⟨l,f,s _ _ e⟩
def GR (K:PySem.W.Frag):Sp:=λvs H Q _=>match vs with | [.ref a,.int k]=>∃ns:List Int,Ai K H a (ns.map V.int)/\0<=k/\∀i,Q (.int i) H | _=>False
def GS:Sp:=λvs H Q _=>match vs with | [.int c]=>∀p l f,H p=none->Q (.ref p) (upd H p (.lst [.int l,.int f])) | _=>False
def Jq:Sp:=λvs H Q _=>match vs with | [.ref p,.int m]=>AV p H/\0<m/\m<1000/\∀g H',0<=g->g<m->Ev p H H'->AV p H'->Q (.int g) H' | _=>False
theorem DA {ns:List Int}{g:Int} (h0:0<=g) (h1:g<ns.length):∃v∈ns,BX (ns.map V.int) g=some (.int v):=by
 have hk:g.toNat<ns.length:=by omega
 have e:g=((g.toNat:Nat):Int):=by omega
 refine⟨ns[g.toNat],List.getElem_mem hk,?_⟩
 have q:BX (ns.map V.int) ((g.toNat:Nat):Int)=some (.int ns[g.toNat]):=C9 (by simp [hk])
 rw [<-e] at q
 exact q
section
variable {P : Program} {w : World} {K : PySem.W.Frag} {mg : Str -> Option Value} {base : Heap}
theorem RI:AB ["_law_script","_law_k"] ["_law_script","_law_k"] (Ax s__law_cell):=AD
theorem RJ (F:Df K mg "_law_cell" s__law_cell ["_law_script","_law_k"]) (T:Tx mg)  :Fn P w K mg base 1 "_law_cell" ["_law_script","_law_k"] (GR K):=by
 refine F.fn RI (λvs H Q E h=>?_) (λf cdv A outer s H vs Q E hr h=>?_)
 ·unfold GR at h;split at h;rfl;exact h.elim
 refine⟨_,(Ak (A2 (A1 DL (cy 1) (Aw (AR K) rfl T.b_len PySem.boot_len (Ao (cy 0))) (AX _)) (An (Aq (Az (BS K) (cy 0) (cy 1) (λ_ _=>rfl)))) AZ) (An (Aq pe_int))),?_⟩
 unfold GR at h
 split at h
 ·rename_i a k
  obtain⟨ns,hs,h0,q⟩:=h
  refine⟨a,_,rfl,.inl hs,⟨λc=>?_,λc=>q 0⟩⟩
  have c':k<(ns.length:Int):=by have:=of_decide_eq_true c;simpa using this
  obtain⟨v,_,e⟩:=DA h0 c'
  exact⟨a,_,k,.int v,rfl,rfl,hs,e,q v⟩
 ·exact h.elim
theorem sc__law_pen:AB ["_law_cell_here","_law_more"] ["_law_cell_here"] (Ax s__law_pen):=AD
theorem RK (F:Df K mg "_law_pen" s__law_pen ["_law_cell_here"]) (T:Tx mg)  :Fn P w K mg base 1 "_law_pen" ["_law_cell_here"] GS:=by
 refine F.fn sc__law_pen (λvs H Q E h=>?_) (λf cdv A outer s H vs Q E hr h=>?_)
 ·unfold GS at h;split at h;rfl;exact h.elim
 refine⟨_,(Ak (AI (i:=1) sc__law_pen.nd rfl (AE (by rfl)) (Aw (Ka rfl) rfl T.b_max boot_max (Am (cy 0) (Au BE pe_int (cy 0))))) (An (Aq (BF (Am (cy 1) (Bd Iq rfl T.b_int L2.boot_int (Ao (CG OI (cy 1) (Au KJ pe_int pe_int) (AX _))))))))),?_⟩
 unfold GS at h
 split at h
 ·rename_i c
  refine⟨c,0-c,rfl,?_⟩
  exact⟨⟨by decide,by decide,by decide⟩,.inr ⟨_,rfl,λp hp=>h p _ _ hp⟩⟩
 ·exact h.elim
theorem sc__law_draw:AB ["_law_pen_here","_law_many","_law_rest","_law_drawn","_law_stir"] ["_law_pen_here","_law_many"] (Ax s__law_draw):=AD
abbrev E1 (P:Program) (w:World) (K:PySem.W.Frag) (mg:Str->Option Value) (base:Heap):Prop:=Fn P w K mg base 1 "_law_draw" ["_law_pen_here","_law_many"] Jq
theorem RL (F:Df K mg "_law_draw" s__law_draw ["_law_pen_here","_law_many"]) (T:Tx mg)  :E1 P w K mg base:=by
 refine F.fn sc__law_draw (λvs H Q E h=>?_) (λf cdv A outer s H vs Q E hr h=>?_)
 ·unfold Jq at h;split at h;rfl;exact h.elim
 refine⟨_,(Ak (A2 (A1 Do (Az (BS K) (cy 0) pe_int (λ_ _=>rfl)) pe_int (AX _)) (Ak (Bv (Aw Nx rfl T.b_divmod boot_divmod (Am (Az (BS K) (cy 0) pe_int (λ_ _=>rfl)) (cy 1))) (AM K (n:=2) (Ap (Aj 2 sc__law_draw.nd) (Ap (Aj 3 sc__law_draw.nd) AL)))) (Ak (Bv (cy 2) (JS (cy 0) pe_int Km)) (An (Aq (cy 3))))) AZ) (Ak (AI (i:=4) sc__law_draw.nd rfl (AE (by rfl)) (Au EK (Au Gi (Au Bb (Au EK (Az (BS K) (cy 0) pe_int (λ_ _=>rfl)) pe_int) pe_int) pe_int) pe_int)) (Ak (AI (i:=4) sc__law_draw.nd rfl (AE (by rfl)) (Au EK (Au Bb (Au Gi (cy 4) (cy 4)) pe_int) pe_int)) (Ak (Bv (Au EK (Au Bb (Au Gi (cy 4) pe_int) pe_int) pe_int) (JS (cy 0) pe_int Km)) (An (Aq (Au EK (Au Gj (Az (BS K) (cy 0) pe_int (λ_ _=>rfl)) pe_int) (cy 1)))))))),?_⟩
 unfold Jq at h
 split at h
 ·rename_i p m
  obtain⟨⟨l,f,hp⟩,h0,h1,q⟩:=h
  refine⟨p,[.int l,.int f],1,.int f,rfl,rfl,Ai.of hp,rfl,rfl,⟨λc=>?_,λc=>?_⟩⟩
  ·refine⟨p,[.int l,.int f],0,.int l,rfl,rfl,Ai.of hp,rfl,l,m,rfl,⟨h0,by omega⟩,λt ht=>?_⟩
   have hpt:p≠t:=Bf hp ht
   have hp':upd H t (.tup [.int (l / m),.int (l % m)]) p=some (.lst [.int l,.int f]):=by rw [AA hpt];exact hp
   refine⟨t,[.int (l / m),.int (l % m)],rfl,Ac.of Ag,rfl,_,_,rfl,_,_,rfl,rfl,?_⟩
   refine⟨p,[.int l,.int f],0,0,rfl,rfl,hp',rfl,?_⟩
   exact q _ _ (Int.emod_nonneg _ (by omega)) (Int.emod_lt_of_pos _ h0) ((Ev.new ht).trans (Ev.pen hp')) ⟨l / m,f,Ag⟩
  ·have b1:∀x:Int,-(2 ^ 64)<x % 2147483629:=λx=>Int.lt_of_lt_of_le (by decide) (Int.emod_nonneg x (by decide))
   have b2:∀x:Int,x % 2147483629<2 ^ 64:=λx=>Int.lt_trans (Int.emod_lt_of_pos x (by decide)) (by decide)
   have g1:(0:Int)<2147483647:=by decide
   have g2:(0:Int)<2147483629:=by decide
   have g3:(0:Int)<2147483587:=by decide
   have c1: -(2 ^ 64)<(69621:Int)/\(69621:Int)<2 ^ 64:=by decide
   have c2: -(2 ^ 64)<(48271:Int)/\(48271:Int)<2 ^ 64:=by decide
   refine⟨p,[.int l,.int f],0,.int l,rfl,rfl,Ai.of hp,rfl,g1,.inr c1,g2,.inl ⟨b1 _,b2 _⟩,g3,.inr c2,g2,p,[.int l,.int f],0,0,rfl,rfl,hp,rfl,?_⟩
   refine⟨p,_,0,_,rfl,rfl,Ai.of Ag,rfl,⟨by decide,by decide⟩,h0,?_⟩
   exact q _ _ (Int.emod_nonneg _ (by omega)) (Int.emod_lt_of_pos _ h0) (Ev.pen hp) ⟨_,f,Ag⟩
 ·exact h.elim
end
end MF
end
section
namespace MF
open PySem PySem.Spec PyProof.Rows L2
variable {H H2 H' H3 : Hp} {ys zs : List V} {p p' t : Addr} {Good : PyData -> Prop} {i : Nat}
mutual
def BG:PyData->Bool
 | .list _=>false | .dict _=>false | .tuple ds=>Cz ds | _=>true
def Cz:List PyData->Bool
 | []=>true
 | d::ds=>BG d && Cz ds
end
def TEv (H H':Hp):Prop:=∀a xs,H a=some (.tup xs)->H' a=some (.tup xs)
theorem TEv.trans {H1:Hp} (a:TEv H H1) (b:TEv H1 H2):TEv H H2:=λc o h=>b c o (a c o h)
theorem _root_.L2.Ev.tev {p:Addr}{H H':Hp} (h:Ev p H H'):TEv H H':=λa xs q=>h.tup q
theorem TEv.upd {a:Addr} (h:H a=some (.lst ys)):TEv H (upd H a (.lst zs)):=λb xs q=>by
 rw [AA (MY q h (by intro z;cases z))];exact q
mutual
theorem Aa.tev (h:TEv H H'):∀(d:PyData) (v:V),BG d=true->Aa p H d v->Aa p' H' d v
 | .none,v,_,q=>q
 | .bool _,v,_,q=>q
 | .int _,v,_,q=>q
 | .str _,v,_,q=>q
 | .tuple ds,v,n,q=>by
  unfold Aa at q ⊢
  obtain⟨a,xs,e,r,z⟩:=q
  exact⟨a,xs,e,h _ _ r,Ad.tev h ds xs (by unfold BG at n;exact n) z⟩
 | .list ds,v,n,q=>by unfold BG at n;cases n
 | .dict kvs,v,n,q=>by unfold BG at n;cases n
theorem Ad.tev (h:TEv H H'):∀(ds:List PyData) (xs:List V),Cz ds=true->Ad p H ds xs->Ad p' H' ds xs
 | [],xs,_,q=>by unfold Ad at q ⊢;exact q
 | d::ds,xs,n,q=>by
  unfold Ad at q ⊢
  unfold Cz at n
  obtain⟨n1,n2⟩:=Bool.and_eq_true_iff.mp n
  obtain⟨x,r,e,z,zs⟩:=q
  exact⟨x,r,e,Aa.tev h d x n1 z,Ad.tev h ds r n2 zs⟩
end
theorem Cp {ds:List PyData} (h:∀d∈ds,BG d=true):Cz ds=true:=by
 induction ds with
 | nil=>rfl
 | cons d ds ih=>unfold Cz;rw [h d List.mem_cons_self,ih λx hx=>h x (List.mem_cons_of_mem _ hx)];rfl
theorem _root_.L2.Ev.own {p b:Addr}{H H':Hp}{o:HO} (h:Ev p H H') (n:H b=none):Ev p H (upd H' b o):=λx u q=>(h x u q).elim .inl λr=> .inr (by rw [AA (Bf q n)];exact r)
def GoodB (d:PyData):Prop:=∃m c:Int,d= .tuple [.int m,.int c]/\1<=m/\m<=9/\1<=c/\c<=9
def GoodE (d:PyData):Prop:=∃a f e:Int,d= .tuple [.int a,.int f,.int e]/\1<=a/\a<=9/\0<=f/\f<=7/\1<=e/\e<=8
theorem GoodB.nm {d:PyData} (h:GoodB d):BG d=true:=by obtain⟨m,c,rfl,_⟩:=h;rfl
theorem GoodE.nm {d:PyData} (h:GoodE d):BG d=true:=by obtain⟨m,c,e,rfl,_⟩:=h;rfl
structure GoodP (bs es:List PyData) (lo hi st:Int):Prop where
 b:∀d∈bs,GoodB d
 b1:1<=bs.length
 b4:bs.length<=4
 e:∀d∈es,GoodE d
 e4:es.length<=4
 lo0:0<=lo
 ls:lo<=st
 sh:st<=hi
 h4:hi<=40
def Mc (bs es:List PyData) (lo hi st:Int):PyData:= .tuple [.tuple bs,.tuple es,.tuple [.int lo,.int hi,.int st]]
def Fy:Sp:=λvs H Q _=>match vs with | [.ref p,.int m]=>AV p H/\1<=m/\m<=4/\∀v H' bs es lo hi st,GoodP bs es lo hi st->Aa p H' (Mc bs es lo hi st) v->Ev p H H'->AV p H'->Q v H' | _=>False
structure Filled (Good:PyData->Prop) (p b:Addr) (H H2:Hp) (i:Nat):Prop where
 ev:Ev p H H2
 pen:AV p H2
 ex:∃xs ds,H2 b=some (.lst xs)/\Ad p H2 ds xs/\(∀d∈ds,Good d)/\ds.length=i
theorem Filled.step {b:Addr}{d:PyData}{xs:List V}{ds:List PyData} (nm:∀d,Good d->BG d=true) (hx:H2 b=some (.lst xs)) (rs:Ad p H2 ds xs) (gd:∀d∈ds,Good d) (hl:ds.length=i) (e3:Ev p H2 H3) (nb:b≠p) (hb:H b=none) (ev:Ev p H H3) (pn:AV p H3)
  (ht:H3 t=none) (rd:Aa p (upd H3 t (.tup ys)) d (.ref t)) (g:Good d):Filled Good p b H (upd (upd H3 t (.tup ys)) b (.lst (xs++[.ref t]))) (i+1):=by
 have hb3:H3 b=some (.lst xs):=e3.lst hx nb
 have hbt:b≠t:=Bf hb3 ht
 have hbt':upd H3 t (.tup ys) b=some (.lst xs):=by rw [AA hbt];exact hb3
 have tv:TEv (upd H3 t (.tup ys)) (upd (upd H3 t (.tup ys)) b (.lst (xs++[.ref t]))):=TEv.upd hbt'
 have pn2:AV p (upd H3 t (.tup ys)):=pn.new ht
 refine⟨(ev.trans (Ev.new ht)).own hb,?_,xs++[.ref t],ds++[d],Ag,?_,?_,by simp [hl]⟩
 ·obtain⟨l,f,e⟩:=pn2
  exact⟨l,f,by rw [AA (Ne.symm nb)];exact e⟩
 ·exact(Ad.tev ((e3.trans (Ev.new ht)).tev.trans tv) ds xs (Cp λd h=>nm d (gd d h)) rs).append (.cons (Aa.tev tv d _ (nm d g) rd) .nil)
 ·intro x hx
  rcases List.mem_append.mp hx with h | h
  ·exact gd x h
  ·rw [List.mem_singleton.mp h];exact g
theorem Filled.done {b:Addr} (f:Filled Good p b H H2 i) (nb:b≠p) (e3:Ev p H2 H3):∃xs ds,H3 b=some (.lst xs)/\Ad p H3 ds xs/\(∀d∈ds,Good d)/\ds.length=i:=by
 obtain⟨xs,ds,h1,h2,h3,h4⟩:=f.ex
 exact⟨xs,ds,e3.lst h1 nb,Ad.ev e3 ds xs h2,h3,h4⟩
theorem Filled.other {b e:Addr}{H4 H7:Hp}{ws:List V} (nm:∀d,Good d->BG d=true) (f:Filled Good p b H H4 i) (e47:Ev p H4 H7) (ht:H7 t=none) (he:H7 e=some (.lst ys)) (hHe:H e=none) (nb:b≠p) (neb:b≠e) (ne:e≠p) (pn:AV p H7):
  Filled Good p b H (upd (upd H7 t (.tup zs)) e (.lst ws)) i:=by
 obtain⟨xs,ds,h1,h2,h3,h4⟩:=f.ex
 have h7:H7 b=some (.lst xs):=e47.lst h1 nb
 have het:upd H7 t (.tup zs) e=some (.lst ys):=by rw [AA (Bf he ht)];exact he
 refine⟨((f.ev.trans e47).trans (Ev.new ht)).own hHe,?_,xs,ds,?_,?_,h3,h4⟩
 ·obtain⟨l,g,z⟩:=pn.new (o:= .tup zs) ht
  exact⟨l,g,by rw [AA (Ne.symm ne)];exact z⟩
 ·rw [AA neb,AA (Bf h7 ht)];exact h7
 ·exact Ad.tev ((e47.trans (Ev.new ht)).tev.trans (TEv.upd het)) ds xs (Cp λd h=>nm d (h3 d h)) h2
theorem Dk {n:Nat} (h:n<=1000):n<sizeLine:=Nat.lt_of_le_of_lt h (by decide)
section
variable {P : Program} {w : World} {K : PySem.W.Frag} {mg : Str -> Option Value} {base : Heap}
theorem sc__law_plant:AB ["_law_pen_here","_law_most","_law_boilers","_law_turn","_law_engines","_law_low","_law_high","_law_start"] ["_law_pen_here","_law_most"] (Ax s__law_plant):=AD
theorem RM (F:Df K mg "_law_plant" s__law_plant ["_law_pen_here","_law_most"]) (T:Tx mg) (D__law_draw:E1 P w K mg base):Fn P w K mg base 2 "_law_plant" ["_law_pen_here","_law_most"] Fy:=by
 refine F.fn sc__law_plant (λvs H Q E h=>?_) (λf cdv A outer s H vs Q E hr h=>?_)
 ·unfold Fy at h;split at h;rfl;exact h.elim
 refine⟨_,(Ak (AI (i:=2) sc__law_plant.nd rfl (AE (by rfl)) (BF pa_nil)) (Ak (Bw PassesOwn.never rfl (CT rfl T.b_range (Ao (Au Bb pe_int (Af D__law_draw (hr.mono (by decide)) rfl (Am (cy 0) (cy 1)))))) (Aj 3 sc__law_plant.nd) (An (BW (CD PySem.F.plainAttrs_list PySem.F.slot_list_append PySem.F.type_list_append CI (cy 2) (Ao (BI (Am (Au Bb pe_int (Af D__law_draw (hr.mono (by decide)) rfl (Am (cy 0) (Az (BS K) (BF (Am pe_int pe_int)) (Af D__law_draw (hr.mono (by decide)) rfl (Am (cy 0) pe_int)) (λ_ _=>rfl))))) (Au Bb pe_int (Af D__law_draw (hr.mono (by decide)) rfl (Am (cy 0) pe_int)))))))))) (Ak (AI (i:=4) sc__law_plant.nd rfl (AE (by rfl)) (BF pa_nil)) (Ak (Bw PassesOwn.never rfl (CT rfl T.b_range (Ao (Af D__law_draw (hr.mono (by decide)) rfl (Am (cy 0) pe_int)))) (Aj 3 sc__law_plant.nd) (An (BW (CD PySem.F.plainAttrs_list PySem.F.slot_list_append PySem.F.type_list_append CI (cy 4) (Ao (BI (AG (Au Bb pe_int (Af D__law_draw (hr.mono (by decide)) rfl (Am (cy 0) (Az (BS K) (BF (Am pe_int pe_int)) (Af D__law_draw (hr.mono (by decide)) rfl (Am (cy 0) pe_int)) (λ_ _=>rfl))))) (Af D__law_draw (hr.mono (by decide)) rfl (Am (cy 0) pe_int)) (Au Bb pe_int (Af D__law_draw (hr.mono (by decide)) rfl (Am (cy 0) pe_int)))))))))) (Ak (AI (i:=5) sc__law_plant.nd rfl (AE (by rfl)) (Az (BS K) (BF (CK pe_int pe_int (Af D__law_draw (hr.mono (by decide)) rfl (Am (cy 0) pe_int)) (Af D__law_draw (hr.mono (by decide)) rfl (Am (cy 0) pe_int)))) (Af D__law_draw (hr.mono (by decide)) rfl (Am (cy 0) pe_int)) (λ_ _=>rfl))) (Ak (AI (i:=6) sc__law_plant.nd rfl (AE (by rfl)) (Aw (Ip rfl) rfl T.b_min boot_min (Am pe_int (Au Bb (cy 5) (Az (BS K) (BF (CK pe_int (Af D__law_draw (hr.mono (by decide)) rfl (Am (cy 0) pe_int)) (Af D__law_draw (hr.mono (by decide)) rfl (Am (cy 0) pe_int)) pe_int)) (Af D__law_draw (hr.mono (by decide)) rfl (Am (cy 0) pe_int)) (λ_ _=>rfl)))))) (Ak (AI (i:=7) sc__law_plant.nd rfl (AE (by rfl)) (Az (BS K) (BF (AG (cy 5) (cy 6) (Au Bb (cy 5) (Af D__law_draw (hr.mono (by decide)) rfl (Am (cy 0) (Au Bb (Au BE (cy 6) (cy 5)) pe_int)))))) (Af D__law_draw (hr.mono (by decide)) rfl (Am (cy 0) pe_int)) (λ_ _=>rfl))) (An (Aq (BI (AG (Bd (BJ K) rfl T.b_tuple Bi (Ao (cy 2))) (Bd (BJ K) rfl T.b_tuple Bi (Ao (cy 4))) (BI (AG (cy 5) (cy 6) (cy 7)))))))))))))),?_⟩
 unfold Fy at h
 split at h
 ·rename_i p m
  obtain⟨pn,m1,m4,q⟩:=h
  refine λb hb=>?_
  have nb:b≠p:=pn.ne hb
  refine⟨pn.new hb,by omega,by omega,λg1 H1 a1 b1 e1 pn1=>?_⟩
  have ev1:Ev p H H1:=(Ev.new hb).trans e1
  have hb1:H1 b=some (.lst []):=e1.lst Ag nb
  refine⟨1+g1,rfl,by omega,by omega,C7 (n:=(1+g1).toNat) (λi σ H2=>∃t,σ=[some (.ref p),some (.int m),some (.ref b),t,none,none,none,none]/\Filled GoodB p b H H2 i)
   ⟨none,rfl,ev1,pn1,[],[],hb1,.nil,(λ_ h=>nomatch h),rfl⟩ (λi σ H2 hi hP=>?_) fun σ H2 hP=>?_⟩
  ·obtain⟨t,rfl,ev,pn2,xs,ds,hx,rs,gd,hl⟩:=hP
   refine⟨.inl ⟨rfl,_,Ai.of hx⟩,λl1 hl1=>⟨pn2.new hl1,by decide,by decide,λg2 H3 a2 b2 e2 pn3=>?_⟩⟩
   obtain⟨v,hv,hat⟩:=DA (ns:=[9,4]) a2 (by simpa using b2)
   have hv':v=9\/v=4:=by simpa using hv
   refine⟨l1,_,g2,.int v,rfl,rfl,Ai.of (e2.lst Ag (pn2.ne hl1)),hat,pn3,by omega,by omega,λg3 H4 a3 b3 e3 pn4=>⟨pn4,by decide,by decide,λg4 H5 a4 b4 e4 pn5 t1 ht1=>?_⟩⟩
   have e25:Ev p H2 H5:=(Ev.new hl1).trans (e2.trans (e3.trans e4))
   refine⟨b,xs,.ref t1,rfl,rfl,by rw [AA (Bf (e25.lst hx nb) ht1)];exact e25.lst hx nb,Dk (by rw [<-rs.len,hl];omega),_,rfl,?_⟩
   exact Filled.step (λd h=>h.nm) hx rs gd hl e25 nb hb (ev.trans e25) pn5 ht1 (Aa.tup Ag (.cons Aa.int (.cons Aa.int .nil))) ⟨1+g3,1+g4,rfl,by omega,by omega,by omega,by omega⟩
  obtain⟨t,rfl,fb⟩:=hP
  refine λe he=>?_
  have ne:e≠p:=fb.pen.ne he
  have hne:H e=none:=by
   cases z:H e with
   | none=>rfl
   | some o=>exact((fb.ev e o z).elim (fun⟨x,_⟩=>absurd x ne) λx=>by rw [x] at he;cases he)
  have neb:e≠b:=by
   obtain⟨xs,ds,h1,_⟩:=fb.ex
   exact Ne.symm (Bf h1 he)
  refine⟨fb.pen.new he,by decide,by decide,λg6 H3 a6 b6 e6 pn3=>?_⟩
  have fb3:Filled GoodB p b H H3 (1+g1).toNat:=⟨fb.ev.trans ((Ev.new he).trans e6),pn3,fb.done nb ((Ev.new he).trans e6)⟩
  refine⟨g6,rfl,by omega,by omega,C7 (n:=g6.toNat) (λi σ H4=>∃t,σ=[some (.ref p),some (.int m),some (.ref b),t,some (.ref e),none,none,none]/\Filled GoodB p b H H4 (1+g1).toNat/\Filled GoodE p e H H4 i)
   ⟨_,rfl,fb3,fb3.ev,pn3,[],[],e6.lst Ag ne,.nil,(λ_ h=>nomatch h),rfl⟩ (λi σ H4 hi hP=>?_) fun σ H4 hP=>?_⟩
  ·obtain⟨t,rfl,fb4,ev,pn2,xs,ds,hx,rs,gd,hl⟩:=hP
   refine⟨.inl ⟨rfl,_,Ai.of hx⟩,λl1 hl1=>⟨pn2.new hl1,by decide,by decide,λg7 H5 a7 b7 e7 pn5=>?_⟩⟩
   obtain⟨v,hv,hat⟩:=DA (ns:=[3,9]) a7 (by simpa using b7)
   have hv':v=3\/v=9:=by simpa using hv
   refine⟨l1,_,g7,.int v,rfl,rfl,Ai.of (e7.lst Ag (pn2.ne hl1)),hat,pn5,by omega,by omega,λg8 H6 a8 b8 e8 pn6=>⟨pn6,by decide,by decide,λg9 H7 a9 b9 e9 pn7=>⟨pn7,by decide,by decide,λg10 H8 a10 b10 e10 pn8 t1 ht1=>?_⟩⟩⟩
   have e48:Ev p H4 H8:=(Ev.new hl1).trans (e7.trans (e8.trans (e9.trans e10)))
   have he8:=e48.lst hx ne
   refine⟨e,xs,.ref t1,rfl,rfl,by rw [AA (Bf he8 ht1)];exact he8,Dk (by rw [<-rs.len,hl];omega),_,rfl,?_,?_⟩
   ·exact Filled.other (λd h=>h.nm) fb4 e48 ht1 he8 hne nb (Ne.symm neb) ne pn8
   ·exact Filled.step (λd h=>h.nm) hx rs gd hl e48 ne hne (ev.trans e48) pn8 ht1 (Aa.tup Ag (.cons Aa.int (.cons Aa.int (.cons Aa.int .nil)))) ⟨1+g8,g9,1+g10,rfl,by omega,by omega,by omega,by omega,by omega,by omega⟩
  obtain⟨t,rfl,fb4,fe4⟩:=hP
  have pn4:=fb4.pen
  refine⟨pn4,by decide,by decide,λg7 H5 a7 b7 e7 pn5=>⟨pn5,by decide,by decide,λg8 H6 a8 b8 e8 pn6 l1 hl1=>⟨pn6.new hl1,by decide,by decide,λg9 H7 a9 b9 e9 pn7=>?_⟩⟩⟩
  obtain⟨low,hlow,hat⟩:=DA (ns:=[0,0,g7,g8]) a9 (by simpa using b9)
  have hlow':low=0\/low=0\/low=g7\/low=g8:=by simpa using hlow
  refine⟨l1,_,g9,.int low,rfl,rfl,Ai.of (e9.lst Ag (pn6.ne hl1)),hat,pn7,by decide,by decide,λg10 H8 a10 b10 e10 pn8=>⟨pn8,by decide,by decide,λg11 H9 a11 b11 e11 pn9 l2 hl2=>⟨pn9.new hl2,by decide,by decide,λg12 H10 a12 b12 e12 pn10=>?_⟩⟩⟩
  obtain⟨x,hx,hat2⟩:=DA (ns:=[0,g10,g11,40]) a12 (by simpa using b12)
  have hx':x=0\/x=g10\/x=g11\/x=40:=by simpa using hx
  refine⟨l2,_,g12,.int x,rfl,rfl,Ai.of (e12.lst Ag (pn9.ne hl2)),hat2,40,low+x,rfl,?_⟩
  have hhi:∃hi:Int,(if low+x<40 then low+x else 40)=hi/\low<=hi/\hi<=40:=by
   by_cases c:low+x<40
   ·exact⟨low+x,if_pos c,by omega,by omega⟩
   ·exact⟨40,if_neg c,by omega,by omega⟩
  obtain⟨hi,ehi,hi1,hi2⟩:=hhi
  rw [ehi]
  refine⟨pn10,by omega,by omega,λg13 H11 a13 b13 e13 pn11 l3 hl3=>⟨pn11.new hl3,by decide,by decide,λg14 H12 a14 b14 e14 pn12=>?_⟩⟩
  obtain⟨st,hst,hat3⟩:=DA (ns:=[low,hi,low+g13]) a14 (by simpa using b14)
  have hst':st=low\/st=hi\/st=low+g13:=by simpa using hst
  refine⟨l3,_,g14,.int st,rfl,rfl,Ai.of (e14.lst Ag (pn11.ne hl3)),hat3,?_⟩
  have e4C:Ev p H4 H12:=e7.trans (e8.trans ((Ev.new hl1).trans (e9.trans (e10.trans (e11.trans ((Ev.new hl2).trans (e12.trans (e13.trans ((Ev.new hl3).trans e14)))))))))
  obtain⟨xs,bs,hb8,rb8,gb,lb⟩:=fb4.done nb e4C
  obtain⟨ys,es,he8,re8,ge,le⟩:=fe4.done ne e4C
  refine⟨b,xs,rfl,.inl ⟨Ai.of hb8,λc1 hc1=>⟨e,ys,rfl,.inl ⟨Ai.of (by rw [AA (Bf he8 hc1)];exact he8),λc2 hc2 c3 hc3 c4 hc4=>?_⟩⟩⟩⟩
  have nA:=Ab.new (o:= .tup xs) hc1
  have nB:=Ab.new (o:= .tup ys) hc2
  have nC:=Ab.new (o:= .tup [.int low,.int hi,.int st]) hc3
  have nD:=Ab.new (o:= .tup [.ref c1,.ref c2,.ref c3]) hc4
  have sAll:=nA.trans (nB.trans (nC.trans nD))
  refine q _ _ bs es low hi st ⟨gb,by omega,by omega,ge,by omega,by omega,by omega,by omega,hi2⟩ ?_ (fb4.ev.trans (e4C.trans (Ev.same sAll))) (pn12.same sAll)
  exact Aa.tup Ag (.cons (Aa.tup ((nB.trans (nC.trans nD)) _ _ Ag) (Ad.ev (Ev.same sAll) _ _ rb8)) (.cons (Aa.tup ((nC.trans nD) _ _ Ag) (Ad.ev (Ev.same sAll) _ _ re8)) (.cons (Aa.tup (nD _ _ Ag) (.cons Aa.int (.cons Aa.int (.cons Aa.int .nil)))) .nil)))
 ·exact h.elim
end
end MF
end
section
namespace MF
open PySem PySem.Spec PyProof.Rows L2
variable {p : Addr} {H : Hp} {v : V}
theorem BU {i lo hi:Int} (h1:lo<=i) (h2:i<=hi):AQ (.int i) lo hi=true:=by unfold AQ;dsimp only;rw [decide_eq_true h1,decide_eq_true h2];rfl
theorem CL {ds:List PyData}{lo hi:Int} (h1:lo<=(ds.length:Int)) (h2:(ds.length:Int)<=hi):AS (.tuple ds) lo hi=true:=by unfold AS;dsimp only;rw [decide_eq_true h1,decide_eq_true h2];rfl
theorem RN {P:PL} (h:P.ok):EY P.d=true:=by
 have b1:=h.b1
 have b4:=h.b4
 have e4:=h.e4
 have hb:EW (.tuple (P.bs.map bD))=true:=by
  unfold EW
  dsimp only
  rw [CL (by rw [List.length_map];omega) (by rw [List.length_map];omega),Bool.true_and,List.all_eq_true]
  intro d hd
  obtain⟨q,hq,rfl⟩:=List.mem_map.mp hd
  obtain⟨q1,q2,q3,q4⟩:=h.b q hq
  unfold Er
  dsimp only
  rw [BU q1 q2,BU q3 q4];rfl
 have he:EX (.tuple (P.es.map eD))=true:=by
  unfold EX
  dsimp only
  rw [CL (by rw [List.length_map];omega) (by rw [List.length_map];omega),Bool.true_and,List.all_eq_true]
  intro d hd
  obtain⟨q,hq,rfl⟩:=List.mem_map.mp hd
  obtain⟨q1,q2,q3,q4,q5,q6⟩:=h.e q hq
  unfold DX
  dsimp only
  rw [BU q1 q2,BU q3 q4,BU q5 q6];rfl
 have h0:=h.lo0
 have h1:=h.ls
 have h2:=h.sh
 have h3:=h.h4
 have hm:Es (.tuple [.int P.lo,.int P.hi,.int P.st])=true:=by
  unfold Es
  dsimp only
  rw [BU (by omega) h3,BU (by omega) h2,BU h0 h1];rfl
 unfold EY PL.d
 dsimp only
 rw [hb,he,hm];rfl
def GU:Sp:=λvs H Q _=>match vs with | [v]=>∃p P,PL.ok P/\Aa p H P.d v/\∀H',Ab H H'->Q .non H' | _=>False
def GV:Sp:=λvs H Q _=>match vs with | [v,.int nb,.int hs]=>∃p x n h,FT.ok x n h/\nb=(n:Int)/\hs=(h:Int)/\Aa p H x.d v/\∀H',Ab H H'->Q (.bl true) H' | _=>False
def GW:Sp:=λvs H Q _=>match vs with | [v,u]=>∃p P S,PL.ok P/\SY.ok S P.bs.length/\Aa p H P.d v/\Aa p H S.d u/\∀H',Ab H H'->Q (.bl true) H' | _=>False
def Fz:Sp:=λvs H Q _=>match vs with | [v,u]=>∃p P S,PL.ok P/\SY.ok S P.bs.length/\Aa p H P.d v/\Aa p H S.d u/\∀H',Ab H H'->Q .non H' | _=>False
def GX:Sp:=λvs H Q _=>match vs with | [.ref a,.int m]=>∃ws:List Bool,H a=some (.lst (ws.map wV))/\∀H',Ab H H'->Q (.int (BY ws m)) H' | _=>False
def GY:Sp:=λvs H Q _=>match vs with | [v,.int b,.int h]=>∃p fs,Aa p H (.tuple (fs.map FT.d)) v/\fs.length<=1000/\∀a H',Ab H H'->H' a=some (.lst ((BA fs b h).map wV))->Q (.ref a) H' | _=>False
def GZ:Sp:=λvs H Q _=>match vs with | [v,u,.int h]=>∃p bs fs,Aa p H (.tuple (bs.map bD)) v/\Aa p H (.tuple (fs.map FT.d)) u/\bs.length<=1000/\fs.length<=1000/\ret H Q p (Ay (Cn bs fs h)) | _=>False
def FB:Sp:=λvs H Q _=>match vs with | [v,u]=>∃p P S,PL.ok P/\SY.ok S P.bs.length/\Aa p H P.d v/\Aa p H S.d u/\ret H Q p (Dd P S) | _=>False
def G0:Sp:=λvs H Q _=>match vs with | [v,.int h]=>∃p q,Aa p H (eD q) v/\1<=q.2.2/\Q (.int (drawn q h)) H | _=>False
def FC:Sp:=λvs H Q _=>match vs with | [v,u]=>∃p P S,PL.ok P/\SY.ok S P.bs.length/\Aa p H P.d v/\Aa p H S.d u/\ret H Q p (I9 P S) | _=>False
theorem Aa.plant {P:PL} (r:Aa p H P.d v):∃A B E M xb xe,v= .ref A/\H A=some (.tup [.ref B,.ref E,.ref M])/\H B=some (.tup xb)/\Ad p H (P.bs.map bD) xb/\H E=some (.tup xe)/\Ad p H (P.es.map eD) xe/\H M=some (.tup [.int P.lo,.int P.hi,.int P.st]):=by
 unfold PL.d at r
 obtain⟨A,xs,rfl,hA,rs⟩:=Aa.shape r
 obtain⟨x,y,z,rfl,rx,ry,rz⟩:=Ad.three rs
 obtain⟨B,xb,rfl,hB,rb⟩:=Aa.shape rx
 obtain⟨E,xe,rfl,hE,re⟩:=Aa.shape ry
 obtain⟨M,xm,rfl,hM,rm⟩:=Aa.shape rz
 obtain⟨m1,m2,m3,rfl,r1,r2,r3⟩:=Ad.three rm
 unfold Aa at r1 r2 r3
 subst r1 r2 r3
 exact⟨A,B,E,M,xb,xe,rfl,hA,hB,rb,hE,re,hM⟩
theorem Aa.story {S:SY} (r:Aa p H S.d v):∃A B E xf,v= .ref A/\H A=some (.tup [.ref B,.ref E])/\H B=some (.tup (S.ex.map V.int))/\H E=some (.tup xf)/\Ad p H (S.fs.map FT.d) xf:=by
 unfold SY.d at r
 obtain⟨A,xs,rfl,hA,rs⟩:=Aa.shape r
 obtain⟨x,y,rfl,rx,ry⟩:=Ad.two rs
 obtain⟨B,xb,rfl,hB,rb⟩:=Aa.shape rx
 obtain⟨E,xe,rfl,hE,re⟩:=Aa.shape ry
 rw [Ad.ints rb] at hB
 exact⟨A,B,E,xe,rfl,hA,hB,hE,re⟩
section
variable {P : Program} {w : World} {K : PySem.W.Frag} {mg : Str -> Option Value} {base : Heap}
theorem RO:AB ["plant"] ["plant"] (Ax s_need_plant):=AD
theorem RP (F:Df K mg "need_plant" s_need_plant ["plant"]) (T:Tx mg) (D_is_plant:Fn P w K mg base 5 "is_plant" ["thing"] GQ):Fn P w K mg base 6 "need_plant" ["plant"] GU:=by
 refine F.fn RO (λvs H Q E h=>?_) (λf cdv A outer s H vs Q E hr h=>?_)
 ·unfold GU at h;split at h;rfl;exact h.elim
 refine⟨_,(An (A2 (Bn (Bh (Af D_is_plant (hr.mono (by decide)) rfl (Ao (cy 0))))) (An Ia) AZ)),?_⟩
 unfold GU at h
 split at h
 ·rename_i v
  obtain⟨p,P,ok,r,q⟩:=h
  refine⟨p,_,r,λb H' hb s=>⟨λc=>?_,λc=>q H' s⟩⟩
  rw [hb,RN ok] at c
  cases c
 ·exact h.elim
theorem sc_is_fault:AB ["thing","boilers","hours","boiler","word","first","last"] ["thing","boilers","hours"] (Ax s_is_fault):=AD
theorem RQ (F:Df K mg "is_fault" s_is_fault ["thing","boilers","hours"]) (T:Tx mg) (D_is_tuple_of:BT P w K mg base) (D_is_whole_from:Dj P w K mg base):Fn P w K mg base 3 "is_fault" ["thing","boilers","hours"] GV:=by
 refine F.fn sc_is_fault (λvs H Q E h=>?_) (λf cdv A outer s H vs Q E hr h=>?_)
 ·unfold GV at h;split at h;rfl;exact h.elim
 refine⟨_,(Ak (A2 (Bn (Bh (Af D_is_tuple_of (hr.mono (by decide)) rfl (AG (cy 0) pe_int pe_int)))) (An (Aq pe_bl)) AZ) (Ak (Bv (cy 0) (AM K (n:=4) (Ap (Aj 3 sc_is_fault.nd) (Ap (Aj 4 sc_is_fault.nd) (Ap (Aj 5 sc_is_fault.nd) (Ap (Aj 6 sc_is_fault.nd) AL)))))) (An (Aq (AY (Af D_is_whole_from (hr.mono (by decide)) rfl (AG (cy 3) pe_int (Au BE (cy 1) pe_int))) (AY (CG (DM K) (cy 4) (BI (Am pe_str pe_str)) (by with_unfolding_all rfl)) (AY (Af D_is_whole_from (hr.mono (by decide)) rfl (AG (cy 6) pe_int (Au BE (cy 2) pe_int))) (Bl (Af D_is_whole_from (hr.mono (by decide)) rfl (AG (cy 5) pe_int (cy 6))))))))))),?_⟩
 unfold GV at h
 split at h
 ·rename_i v nb hs
  obtain⟨p,x,n,k,ok,rfl,rfl,r,q⟩:=h
  obtain⟨o1,o2,o3,o4,o5⟩:=ok
  refine⟨p,_,r,λb hb=>⟨λc=>?_,λc=>?_⟩⟩
  ·rw [hb] at c;cases c
  ·obtain⟨l,xs,rfl,hl,rs⟩:=Aa.shape r
   obtain⟨y1,y2,y3,y4,rfl,r1,r2,r3,r4⟩:=Ad.four rs
   unfold Aa at r1 r2 r3 r4
   subst r1 r2 r3 r4
   refine⟨l,_,rfl,Ac.of hl,rfl,_,_,rfl,_,_,rfl,_,_,rfl,_,_,rfl,rfl,p,.int x.b,Aa.int,λb1 e1=>⟨λ_=>?_,λc1=>?_⟩⟩
   ·refine λt ht=>⟨t,_,rfl,.inr (Ac.of Ag),rfl,rfl,⟨λ_=>?_,λc2=>?_⟩⟩
    ·refine⟨p,.int x.l,Aa.int,λb2 e2=>⟨λ_=>⟨p,.int x.f,Aa.int,λb3 e3=>?_⟩,λc2=>?_⟩⟩
     ·rw [BU o3 o4] at e3
      subst e3
      exact q _ (Ab.new ht)
     ·rw [BU (by omega) (by omega)] at e2
      rw [e2] at c2;cases c2
    ·rw [if_neg (by decide)] at c2
     have:=Po x.out
     unfold wV at this
     rw [this] at c2;cases c2
   ·rw [BU o1 (by omega)] at e1
    rw [e1] at c1;cases c1
 ·exact h.elim
theorem sc_is_story:AB ["plant","thing","extra","faults"] ["plant","thing"] (Ax s_is_story):=AD
theorem RR (F:Df K mg "is_story" s_is_story ["plant","thing"]) (T:Tx mg) (D_is_fault:Fn P w K mg base 3 "is_fault" ["thing","boilers","hours"] GV) (D_is_tuple_of:BT P w K mg base) (D_is_whole_from:Dj P w K mg base) (D_need_plant:Fn P w K mg base 6 "need_plant" ["plant"] GU):Fn P w K mg base 7 "is_story" ["plant","thing"] GW:=by
 obtain⟨t_MOST_EXTRA,g_MOST_EXTRA⟩:=T.g_MOST_EXTRA
 obtain⟨t_MOST_FAULTS,g_MOST_FAULTS⟩:=T.g_MOST_FAULTS
 obtain⟨t_MOST_HOURS,g_MOST_HOURS⟩:=T.g_MOST_HOURS
 refine F.fn sc_is_story (λvs H Q E h=>?_) (λf cdv A outer s H vs Q E hr h=>?_)
 ·unfold GW at h;split at h;rfl;exact h.elim
 refine⟨_,(Ak (BW (Af D_need_plant (hr.mono (by decide)) rfl (Ao (cy 0)))) (Ak (A2 (Bn (Bh (Af D_is_tuple_of (hr.mono (by decide)) rfl (AG (cy 1) pe_int pe_int)))) (An (Aq pe_bl)) AZ) (Ak (Bv (cy 1) (AM K (n:=2) (Ap (Aj 2 sc_is_story.nd) (Ap (Aj 3 sc_is_story.nd) AL)))) (An (Aq (AY (Af D_is_tuple_of (hr.mono (by decide)) rfl (AG (cy 2) pe_int (CP (v:= .int 8) rfl g_MOST_HOURS ⟨t_MOST_HOURS,rfl⟩))) (AY (Aw (Ct rfl) rfl T.b_all boot_all (Ao (A6 ["units"] [none] rfl (BK K (cy 2)) (AO.of rfl) (λ_ _ _ _=>(Aj 0 (AJ (by rfl)))) (λ_ _ _ _=>A5) (λ_ _ _ _=>(Af D_is_whole_from (hr.mono (by decide)) rfl (AG (cy 0) pe_int (CP (v:= .int 20) rfl g_MOST_EXTRA ⟨t_MOST_EXTRA,rfl⟩))))))) (AY (Af D_is_tuple_of (hr.mono (by decide)) rfl (AG (cy 3) pe_int (CP (v:= .int 4) rfl g_MOST_FAULTS ⟨t_MOST_FAULTS,rfl⟩))) (Bl (Aw (Ct rfl) rfl T.b_all boot_all (Ao (A6 ["part","extra","plant"] [none,some 2,some 0] rfl (BK K (cy 3)) (AO.of rfl) (λ_ _ _ _=>(Aj 0 (AJ (by rfl)))) (λ_ _ _ _=>A5) (λ_ _ _ _=>(Af D_is_fault (hr.mono (by decide)) rfl (AG (cy 0) (Aw (AR K) rfl T.b_len PySem.boot_len (Ao (Az (AF K) (cy 2) pe_int (λ_ _=>rfl)))) (Aw (AR K) rfl T.b_len PySem.boot_len (Ao (cy 1)))))))))))))))))),?_⟩
 unfold GW at h
 split at h
 ·rename_i v u
  obtain⟨p,P,S,ok,so,r,ru,q⟩:=h
  refine⟨p,P,ok,r,λH1 s1=>⟨p,S.d,Aa.ev (Ev.same s1) _ _ ru,λb hb=>⟨λc=>?_,λc=>?_⟩⟩⟩
  ·rw [hb] at c;cases c
  ·obtain⟨A,B,E,xf,rfl,hA,hB,hE,rf⟩:=Aa.story (Aa.ev (Ev.same s1) _ _ ru)
   obtain⟨PA,PB,PE,PM,xb,xe,rfl,pA,pB,rb,pE,re,pM⟩:=Aa.plant (Aa.ev (Ev.same s1) _ _ r)
   have x1:=so.x1
   have x8:=so.x8
   have f4:=so.f4
   have lf:=rf.len
   rw [List.length_map] at lf
   have lb:=rb.len
   rw [List.length_map] at lb
   refine⟨A,_,rfl,Ac.of hA,rfl,_,_,rfl,_,_,rfl,rfl,p,_,Aa.row hB,λb1 e1=>⟨λ_=>?_,λc1=>?_⟩⟩
   ·refine⟨B,rfl,⟨_,Ac.of hB⟩,BR (xs:=S.ex.map V.int) (λi ys H'=>Ab H1 H'/\ys=List.replicate i (V.bl true)) (by rw [List.length_map];omega) ⟨Ab.refl _,rfl⟩ (λi ys H' h=>by rw [h.2,List.length_replicate];omega) (λi ys H' _ h=>Ac.of (h.1 _ _ hB)) (λi x ys H' hx h=>?_) λys H' h=>?_⟩
    ·rw [List.getElem?_map] at hx
     cases z:S.ex[i]? with
     | none=>rw [z] at hx;cases hx
     | some n=>
      rw [z] at hx
      cases hx
      obtain⟨n0,n20⟩:=so.x n (List.mem_of_getElem? z)
      refine⟨trivial,λ_=>⟨p,.int n,Aa.int,λb e=>⟨h.1,?_⟩⟩,λc=>by cases c⟩
      rw [BU n0 n20] at e
      rw [h.2,e,List.replicate_succ']
    ·intro m hm
     refine⟨m,List.replicate S.ex.length true,rfl,by rw [Ag,h.2,List.length_map,List.map_replicate],⟨λ_=>?_,λc=>?_⟩⟩
     ·have s2:Ab H1 (upd H' m (.lst ys)):=h.1.trans (Ab.new hm)
      refine⟨p,_,Aa.tup (s2 _ _ hE) (Ad.ev (Ev.same s2) _ _ rf),λb2 e2=>⟨λ_=>?_,λc2=>?_⟩⟩
      ·refine⟨E,rfl,⟨_,Ac.of (s2 _ _ hE)⟩,BR (xs:=xf) (λi zs H2=>Ab H1 H2/\zs=List.replicate i (V.bl true)) (by omega) ⟨s2,rfl⟩ (λi ys H' h=>by rw [h.2,List.length_replicate];omega) (λi ys H' _ h=>Ac.of (h.1 _ _ hE)) (λi x zs H2 hx h2=>?_) λzs H2 h2=>?_⟩
       ·obtain⟨f,hf,rd⟩:=Ad.mapGot rf hx
        refine⟨⟨rfl,rfl,trivial⟩,λ_=>?_,λc=>by cases c⟩
        refine⟨PA,_,0,.ref PB,rfl,rfl,Ac.of (h2.1 _ _ pA),rfl,PB,xb,rfl,.inr (Ac.of (h2.1 _ _ pB)),B,_,rfl,.inr (Ac.of (h2.1 _ _ hB)),?_⟩
        refine⟨p,f,P.bs.length,S.ex.length,so.f f (List.mem_of_getElem? hf),by rw [lb],by rw [List.length_map],Aa.ev (Ev.same h2.1) _ _ rd,λH3 s3=>⟨h2.1.trans s3,?_⟩⟩
        rw [h2.2,List.replicate_succ']
       ·intro m2 hm2
        refine⟨m2,List.replicate xf.length true,rfl,by rw [Ag,h2.2,List.map_replicate],?_⟩
        have ea:(List.replicate xf.length true).all id=true:=by simp
        rw [ea]
        exact q _ (s1.trans (h2.1.trans (Ab.new hm2)))
      ·rw [CL (by rw [List.length_map];omega) (by rw [List.length_map];omega)] at e2
       rw [e2] at c2;cases c2
     ·have ea:(List.replicate S.ex.length true).all id=true:=by simp
      rw [ea] at c;cases c
   ·rw [CL (by rw [List.length_map];omega) (by rw [List.length_map];omega)] at e1
    rw [e1] at c1;cases c1
 ·exact h.elim
theorem RS:AB ["plant","story"] ["plant","story"] (Ax s_need_story):=AD
theorem RT (F:Df K mg "need_story" s_need_story ["plant","story"]) (T:Tx mg) (D_is_story:Fn P w K mg base 7 "is_story" ["plant","thing"] GW):Fn P w K mg base 8 "need_story" ["plant","story"] Fz:=by
 refine F.fn RS (λvs H Q E h=>?_) (λf cdv A outer s H vs Q E hr h=>?_)
 ·unfold Fz at h;split at h;rfl;exact h.elim
 refine⟨_,(An (A2 (Bn (Bh (Af D_is_story (hr.mono (by decide)) rfl (Am (cy 0) (cy 1))))) (An Ia) AZ)),?_⟩
 unfold Fz at h
 split at h
 ·rename_i v u
  obtain⟨p,P,S,ok,so,r,ru,q⟩:=h
  exact⟨p,P,S,ok,so,r,ru,λH' s=>⟨λc=>(by cases c),λc=>q H' s⟩⟩
 ·exact h.elim
theorem RU:AB ["words","make"] ["words","make"] (Ax s_cap_under):=AD
theorem RV (F:Df K mg "cap_under" s_cap_under ["words","make"]) (T:Tx mg)  :Fn P w K mg base 1 "cap_under" ["words","make"] GX:=by
 refine F.fn RU (λvs H Q E h=>?_) (λf cdv A outer s H vs Q E hr h=>?_)
 ·unfold GX at h;split at h;rfl;exact h.elim
 refine⟨_,(Ak (A2 (A1 (DM K) pe_str (cy 0) (by with_unfolding_all rfl)) (An (Aq pe_int)) AZ) (Ak (A2 (A1 (DM K) pe_str (cy 0) (by with_unfolding_all rfl)) (An (Aq (Au Gj (cy 1) pe_int))) AZ) (An (Aq (cy 1))))),?_⟩
 unfold GX at h
 split at h
 ·rename_i a m
  obtain⟨ws,ha,q⟩:=h
  refine⟨a,_,rfl,.inl (Ai.of ha),rfl,Go,⟨λc=>?_,λc=>?_⟩⟩
  ·rw [if_neg (by decide),Gn] at c
   have e:BY ws m=0:=by unfold BY;rw [if_pos c]
   rw [e] at q
   exact q _ (Ab.refl _)
  ·rw [if_neg (by decide),Gn] at c
   refine⟨a,_,rfl,.inl (Ai.of ha),rfl,Go,⟨λc2=>?_,λc2=>?_⟩⟩
   ·rw [if_neg (by decide),Jc] at c2
    have e:BY ws m=m / 2:=by unfold BY;rw [if_neg (by rw [c];decide),if_pos c2]
    rw [e] at q
    exact⟨⟨by decide,by decide⟩,q _ (Ab.refl _)⟩
   ·rw [if_neg (by decide),Jc] at c2
    have e:BY ws m=m:=by unfold BY;rw [if_neg (by rw [c];decide),if_neg (by rw [c2];decide)]
    rw [e] at q
    exact q _ (Ab.refl _)
 ·exact h.elim
theorem RW:AB ["faults","boiler","hour"] ["faults","boiler","hour"] (Ax s_words_for):=AD
theorem RX (F:Df K mg "words_for" s_words_for ["faults","boiler","hour"]) (T:Tx mg)  :Fn P w K mg base 1 "words_for" ["faults","boiler","hour"] GY:=by
 refine F.fn RW (λvs H Q E h=>?_) (λf cdv A outer s H vs Q E hr h=>?_)
 ·unfold GY at h;split at h;rfl;exact h.elim
 refine⟨_,(An (Aq (A6 ["at","word","first","last","boiler","hour"] [none,none,none,none,some 1,some 2] rfl (BK K (cy 0)) (AO.of rfl) (λ_ _ _ _=>(AM K (n:=4) (Ap (Aj 0 (AJ (by rfl))) (Ap (Aj 1 (AJ (by rfl))) (Ap (Aj 2 (AJ (by rfl))) (Ap (Aj 3 (AJ (by rfl))) AL)))))) (λ_ _ _ _=>(IG (PW.pt (IR (A1 Do (cy 0) (cy 4) (AX _)) (JN (OJ Db Db (cy 2) (cy 5) (cy 3))))))) (λ_ _ _ _=>(cy 1))))),?_⟩
 unfold GY at h
 split at h
 ·rename_i v b hr'
  obtain⟨p,fs,r,hl,q⟩:=h
  obtain⟨A,xs,rfl,hA,rs⟩:=Aa.shape r
  have ln:=rs.len
  rw [List.length_map] at ln
  refine⟨A,rfl,⟨xs,Ac.of hA⟩,BR (xs:=xs) (λi ys H'=>Ab H H'/\ys=(BA (fs.take i) b hr').map wV) (by omega) ⟨Ab.refl _,rfl⟩ (λi ys H' h=>?_) (λi ys H' _ h=>Ac.of (h.1 _ _ hA)) (λi x ys H' hx h=>?_) λys H' h=>?_⟩
  ·rw [h.2,List.length_map]
   unfold BA
   rw [List.length_map]
   exact Nat.le_trans (List.length_filter_le _ _) (by rw [List.length_take];omega)
  ·obtain⟨f,hf,rd⟩:=Ad.mapGot rs hx
   obtain⟨l,zs,rfl,hl',rz⟩:=Aa.shape (Aa.ev (Ev.same h.1) _ _ rd)
   obtain⟨y1,y2,y3,y4,rfl,r1,r2,r3,r4⟩:=Ad.four rz
   unfold Aa at r1 r2 r3 r4
   subst r1 r2 r3 r4
   have nx:=Lf (b:=b) (h:=hr') hf
   have no:Cm b hr' f=false->Ab H H'/\ys=(BA (fs.take (i+1)) b hr').map wV:=λe=>⟨h.1,by rw [nx,e,if_neg (by decide)];exact h.2⟩
   refine⟨l,_,rfl,Ac.of hl',rfl,_,_,rfl,_,_,rfl,_,_,rfl,_,_,rfl,rfl,⟨rfl,rfl,trivial⟩,rfl,⟨λc1=>⟨λc2=>⟨λc3=>?_,λc3=>no ?_⟩,λc2=>⟨λz=>(by cases z),λ_=>no ?_⟩⟩,λc1=>⟨λz=>(by cases z),λ_=>no ?_⟩⟩⟩
   ·have e:Cm b hr' f=true:=by
     rw [DI] at c1
     unfold Cm;rw [c1,c2,c3];rfl
    refine⟨h.1,?_⟩
    rw [nx,if_pos e,List.map_append,h.2];rfl
   ·unfold Cm;rw [c3,Bool.and_false]
   ·unfold Cm;rw [c2,Bool.and_false,Bool.false_and]
   ·rw [DI] at c1
    unfold Cm;rw [c1,Bool.false_and,Bool.false_and]
  ·intro m hm
   refine q m _ (h.1.trans (Ab.new hm)) ?_
   rw [Ag,h.2,List.take_of_length_le (by omega)]
 ·exact h.elim
theorem RY:AB ["boilers","faults","hour"] ["boilers","faults","hour"] (Ax s_caps_in):=AD
theorem RZ (F:Df K mg "caps_in" s_caps_in ["boilers","faults","hour"]) (T:Tx mg) (D_cap_under:Fn P w K mg base 1 "cap_under" ["words","make"] GX) (D_words_for:Fn P w K mg base 1 "words_for" ["faults","boiler","hour"] GY):Fn P w K mg base 2 "caps_in" ["boilers","faults","hour"] GZ:=by
 refine F.fn RY (λvs H Q E h=>?_) (λf cdv A outer s H vs Q E hr h=>?_)
 ·unfold GZ at h;split at h;rfl;exact h.elim
 refine⟨_,(An (Aq (Bd (BJ K) rfl T.b_tuple Bi (Ao (A6 ["at","make","coal","faults","hour"] [none,none,none,some 1,some 2] rfl (Eo P w K rfl T.b_enumerate (Ao (cy 0))) (AO.of rfl) (λ_ _ _ _=>(AM K (n:=2) (Ap (Aj 0 (AJ (by rfl))) (Ap (AM K (n:=2) (Ap (Aj 1 (AJ (by rfl))) (Ap (Aj 2 (AJ (by rfl))) AL))) AL)))) (λ_ _ _ _=>A5) (λ_ _ _ _=>(Af D_cap_under (hr.mono (by decide)) rfl (Am (Af D_words_for (hr.mono (by decide)) rfl (AG (cy 3) (cy 0) (cy 4))) (cy 1))))))))),?_⟩
 unfold GZ at h
 split at h
 ·rename_i v u hour
  obtain⟨p,bs,fs,r,ru,lb,lf,q⟩:=h
  obtain⟨A,xs,rfl,hA,rs⟩:=Aa.shape r
  have ln:=rs.len
  rw [List.length_map] at ln
  refine⟨A,rfl,⟨xs,Ac.of hA⟩,walk_enum (xs:=xs) (λi ys H'=>Ab H H'/\ys=((Cn bs fs hour).take i).map V.int) (by omega) ⟨Ab.refl _,rfl⟩ (λi ys H' h=>by rw [h.2,List.length_map,List.length_take];omega) (λi ys H' h=>Ac.of (h.1 _ _ hA)) (λi x ys H' T hx h hT=>?_) λys H' h=>?_⟩
  ·obtain⟨f,hf,rd⟩:=Ad.mapGot rs hx
   have s2:Ab H (upd H' T (.tup [.int i,x])):=h.1.trans (Ab.new hT)
   obtain⟨l,zs,rfl,hl',rz⟩:=Aa.shape (Aa.ev (Ev.same s2) _ _ rd)
   obtain⟨y1,y2,rfl,r1,r2⟩:=Ad.two rz
   unfold Aa at r1 r2
   subst r1 r2
   refine⟨T,_,rfl,Ac.of Ag,rfl,_,_,rfl,_,_,rfl,l,_,rfl,Ac.of hl',rfl,_,_,rfl,_,_,rfl,rfl,rfl,⟨rfl,rfl,trivial⟩,λ_=>?_,λz=>by cases z⟩
   refine⟨p,fs,Aa.ev (Ev.same s2) _ _ ru,lf,λa H3 s3 ha=>⟨_,ha,λH4 s4=>⟨s2.trans (s3.trans s4),?_⟩⟩⟩
   rw [A3 (Ja hf),List.map_append,h.2];rfl
  ·intro m hm
   refine⟨m,_,rfl,.inl ⟨Ai.of Ag,λt ht=>?_⟩⟩
   refine q _ _ (h.1.trans ((Ab.new hm).trans (Ab.new ht))) (Aa.row ?_)
   rw [Ag,h.2,List.take_of_length_le (by rw [DO];omega)]
 ·exact h.elim
theorem sc_caps_of:AB ["plant","story","extra","faults"] ["plant","story"] (Ax s_caps_of):=AD
theorem R0 (F:Df K mg "caps_of" s_caps_of ["plant","story"]) (T:Tx mg) (D_caps_in:Fn P w K mg base 2 "caps_in" ["boilers","faults","hour"] GZ) (D_need_story:Fn P w K mg base 8 "need_story" ["plant","story"] Fz):Fn P w K mg base 9 "caps_of" ["plant","story"] FB:=by
 refine F.fn sc_caps_of (λvs H Q E h=>?_) (λf cdv A outer s H vs Q E hr h=>?_)
 ·unfold FB at h;split at h;rfl;exact h.elim
 refine⟨_,(Ak (BW (Af D_need_story (hr.mono (by decide)) rfl (Am (cy 0) (cy 1)))) (Ak (Bv (cy 1) (AM K (n:=2) (Ap (Aj 2 sc_caps_of.nd) (Ap (Aj 3 sc_caps_of.nd) AL)))) (An (Aq (Bd (BJ K) rfl T.b_tuple Bi (Ao (A6 ["hour","faults","plant"] [none,some 3,some 0] rfl (CT rfl T.b_range (Ao (Aw (AR K) rfl T.b_len PySem.boot_len (Ao (cy 2))))) (AO.of rfl) (λ_ _ _ _=>(Aj 0 (AJ (by rfl)))) (λ_ _ _ _=>A5) (λ_ _ _ _=>(Af D_caps_in (hr.mono (by decide)) rfl (AG (Az (AF K) (cy 2) pe_int (λ_ _=>rfl)) (cy 1) (cy 0))))))))))),?_⟩
 unfold FB at h
 split at h
 ·rename_i v u
  obtain⟨p,P,S,ok,so,r,ru,q⟩:=h
  refine⟨p,P,S,ok,so,r,ru,λH1 s1=>?_⟩
  obtain⟨A,B,E,xf,rfl,hA,hB,hE,rf⟩:=Aa.story (Aa.ev (Ev.same s1) _ _ ru)
  obtain⟨PA,PB,PE,PM,xb,xe,rfl,pA,pB,rb,pE,re,pM⟩:=Aa.plant (Aa.ev (Ev.same s1) _ _ r)
  have x8:=so.x8
  have f4:=so.f4
  have b4:=ok.b4
  refine⟨A,_,rfl,Ac.of hA,rfl,_,_,rfl,_,_,rfl,rfl,B,_,rfl,.inr (Ac.of hB),_,rfl,by omega,by rw [List.length_map];omega,IM (n:=(S.ex.map V.int).length) (λi ys H'=>Ab H1 H'/\Ad p H' (((caps P S).take i).map Ay) ys) (by rw [List.length_map];omega) ⟨Ab.refl _,.nil⟩ (λi ys H' h=>by rw [<-h.2.len,List.length_map,List.length_take];omega) (λi ys H' hi h=>?_) λys H' h=>?_⟩
  ·rw [List.length_map] at hi
   refine⟨⟨rfl,rfl,trivial⟩,λ_=>?_,λz=>by cases z⟩
   refine⟨PA,_,0,.ref PB,rfl,rfl,Ac.of (h.1 _ _ pA),rfl,p,P.bs,S.fs,Aa.tup (h.1 _ _ pB) (Ad.ev (Ev.same h.1) _ _ rb),Aa.tup (h.1 _ _ hE) (Ad.ev (Ev.same h.1) _ _ rf),by omega,by omega,λv2 H2 s2 r2=>⟨h.1.trans s2,?_⟩⟩
   rw [Int.zero_add] at r2
   rw [A3 (De hi),List.map_append]
   exact Ad.snoc (Ad.ev (Ev.same s2) _ _ h.2) r2
  ·intro m hm
   refine⟨m,_,rfl,.inl ⟨Ai.of Ag,λt ht=>?_⟩⟩
   have s3:=(Ab.new (o:= .lst ys) hm).trans (Ab.new (o:= .tup ys) ht)
   refine q _ _ (s1.trans (h.1.trans s3)) (Aa.tup Ag ?_)
   have r3:=Ad.ev (Ev.same s3) _ _ h.2
   rw [List.take_of_length_le (by rw [A7,List.length_map];exact Nat.le_refl _)] at r3
   exact r3
 ·exact h.elim
theorem sc_drawn_by:AB ["engine","hour","draw","first","every"] ["engine","hour"] (Ax s_drawn_by):=AD
theorem R1 (F:Df K mg "drawn_by" s_drawn_by ["engine","hour"]) (T:Tx mg)  :Fn P w K mg base 1 "drawn_by" ["engine","hour"] G0:=by
 refine F.fn sc_drawn_by (λvs H Q E h=>?_) (λf cdv A outer s H vs Q E hr h=>?_)
 ·unfold G0 at h;split at h;rfl;exact h.elim
 refine⟨_,(Ak (Bv (cy 0) (AM K (n:=3) (Ap (Aj 2 sc_drawn_by.nd) (Ap (Aj 3 sc_drawn_by.nd) (Ap (Aj 4 sc_drawn_by.nd) AL))))) (Ak (A2 (PW.pt (Cs (A1 DL (cy 1) (cy 3) (AX _)) (CS (A1 DJ (Au EK (Au BE (cy 1) (cy 3)) (cy 4)) pe_int (AX _))))) (An (Aq pe_int)) AZ) (An (Aq (cy 2))))),?_⟩
 unfold G0 at h
 split at h
 ·rename_i v hour
  obtain⟨p,e,r,e1,q⟩:=h
  obtain⟨A,xs,rfl,hA,rs⟩:=Aa.shape r
  obtain⟨y1,y2,y3,rfl,r1,r2,r3⟩:=Ad.three rs
  unfold Aa at r1 r2 r3
  subst r1 r2 r3
  refine⟨A,_,rfl,Ac.of hA,rfl,_,_,rfl,_,_,rfl,_,_,rfl,rfl,⟨λc=>⟨λ_=>?_,λz=>by cases z⟩,λc=>⟨by omega,rfl,⟨λc2=>?_,λc2=>?_⟩⟩⟩⟩
  ·have z:drawn e hour=0:=by unfold drawn;rw [if_pos (.inl (of_decide_eq_true c))]
   rw [z] at q;exact q
  ·have z:drawn e hour=0:=by
    unfold drawn;exact if_pos (.inr λz=>Pp c2 (congrArg V.int z))
   rw [z] at q;exact q
  ·have z:drawn e hour=e.1:=by
    unfold drawn;rw [if_neg ?_]
    rintro(z | z)
    ·exact absurd (decide_eq_true z) (by rw [c];decide)
    ·apply z
     have:V.int ((hour-e.2.1) % e.2.2)=V.int 0:=by simpa using c2
     injection this
   rw [z] at q;exact q
 ·exact h.elim
theorem sc_draws_of:AB ["plant","story","engines"] ["plant","story"] (Ax s_draws_of):=AD
theorem R3 (F:Df K mg "draws_of" s_draws_of ["plant","story"]) (T:Tx mg) (D_drawn_by:Fn P w K mg base 1 "drawn_by" ["engine","hour"] G0) (D_need_story:Fn P w K mg base 8 "need_story" ["plant","story"] Fz):Fn P w K mg base 9 "draws_of" ["plant","story"] FC:=by
 refine F.fn sc_draws_of (λvs H Q E h=>?_) (λf cdv A outer s H vs Q E hr h=>?_)
 ·unfold FC at h;split at h;rfl;exact h.elim
 refine⟨_,(Ak (BW (Af D_need_story (hr.mono (by decide)) rfl (Am (cy 0) (cy 1)))) (Ak (AI (i:=2) sc_draws_of.nd rfl (AE (by rfl)) (Az (AF K) (cy 0) pe_int (λ_ _=>rfl))) (An (Aq (Bd (BJ K) rfl T.b_tuple Bi (Ao (A6 ["hour","units","engines"] [none,none,some 2] rfl (Eo P w K rfl T.b_enumerate (Ao (Az (AF K) (cy 1) pe_int (λ_ _=>rfl)))) (AO.of rfl) (λ_ _ _ _=>(AM K (n:=2) (Ap (Aj 0 (AJ (by rfl))) (Ap (Aj 1 (AJ (by rfl))) AL)))) (λ_ _ _ _=>A5) (λ_ _ _ _=>(Au Bb (cy 1) (Aw (I8 rfl) rfl T.b_sum boot_sum (Ao (A6 ["engine","hour"] [none,some 0] rfl (BK K (cy 2)) (AO.of rfl) (λ_ _ _ _=>(Aj 0 (AJ (by rfl)))) (λ_ _ _ _=>A5) (λ_ _ _ _=>(Af D_drawn_by (hr.mono (by decide)) rfl (Am (cy 0) (cy 1)))))))))))))))),?_⟩
 unfold FC at h
 split at h
 ·rename_i v u
  obtain⟨p,P,S,ok,so,r,ru,q⟩:=h
  refine⟨p,P,S,ok,so,r,ru,λH1 s1=>?_⟩
  obtain⟨A,B,E,xf,rfl,hA,hB,hE,rf⟩:=Aa.story (Aa.ev (Ev.same s1) _ _ ru)
  obtain⟨PA,PB,PE,PM,xb,xe,rfl,pA,pB,rb,pE,re,pM⟩:=Aa.plant (Aa.ev (Ev.same s1) _ _ r)
  have x8:=so.x8
  have e4:=ok.e4
  have le:=re.len
  rw [List.length_map] at le
  refine⟨PA,_,1,.ref PE,rfl,rfl,Ac.of pA,rfl,A,_,0,.ref B,rfl,rfl,Ac.of hA,rfl,B,rfl,⟨_,Ac.of hB⟩,walk_enum (xs:=S.ex.map V.int) (λi ys H'=>Ab H1 H'/\ys=((draws P S).take i).map V.int) (by rw [List.length_map];omega) ⟨Ab.refl _,rfl⟩ (λi ys H' h=>by rw [h.2,List.length_map,List.length_take];omega) (λi ys H' h=>Ac.of (h.1 _ _ hB)) (λi x ys H' T hx h hT=>?_) λys H' h=>?_⟩
  ·rw [List.getElem?_map] at hx
   cases z:S.ex[i]? with
   | none=>rw [z] at hx;cases hx
   | some n=>
    rw [z] at hx
    cases hx
    have s2:Ab H1 (upd H' T (.tup [.int i,.int n])):=h.1.trans (Ab.new hT)
    refine⟨T,_,rfl,Ac.of Ag,rfl,_,_,rfl,_,_,rfl,rfl,⟨rfl,trivial⟩,λ_=>?_,λz=>by cases z⟩
    refine⟨PE,rfl,⟨xe,Ac.of (s2 _ _ pE)⟩,BR (xs:=xe) (λj zs H2=>Ab H1 H2/\zs=((P.es.take j).map λe=>drawn e i).map V.int) (by omega) ⟨s2,rfl⟩ (λj zs H2 h=>by rw [h.2,List.length_map,List.length_map,List.length_take];omega) (λj zs H2 _ h=>Ac.of (h.1 _ _ pE)) (λj x zs H2 hx h2=>?_) λzs H2 h2=>?_⟩
    ·obtain⟨f,hf,rd⟩:=Ad.mapGot re hx
     refine⟨⟨rfl,trivial⟩,λ_=>⟨p,f,Aa.ev (Ev.same h2.1) _ _ rd,(ok.e f (List.mem_of_getElem? hf)).2.2.2.2.1,h2.1,?_⟩,λz=>by cases z⟩
     rw [A3 hf,List.map_append,List.map_append,h2.2];rfl
    ·intro m hm
     refine⟨m,P.es.map λe=>drawn e i,rfl,?_,h2.1.trans (Ab.new hm),?_⟩
     ·rw [Ag,h2.2,List.take_of_length_le (by omega)]
     ·rw [A3 (Jb z),List.map_append,h.2];rfl
  ·intro m hm
   refine⟨m,_,rfl,.inl ⟨Ai.of Ag,λt ht=>?_⟩⟩
   refine q _ _ (s1.trans (h.1.trans ((Ab.new hm).trans (Ab.new ht)))) (Aa.row ?_)
   rw [Ag,h.2,List.take_of_length_le (by rw [C2,List.length_map];omega)]
 ·exact h.elim
end
end MF
end
section
namespace MF
open PySem PySem.Spec PyProof.Rows L2
theorem Md:∀ {bs:List PyData},(∀d∈bs,GoodB d)->∃l:List (Int×Int),bs=l.map bD/\∀q∈l,1<=q.1/\q.1<=9/\1<=q.2/\q.2<=9
 | [],_=>⟨[],rfl,λ_ h=>nomatch h⟩
 | d::ds,h=>by
  obtain⟨l,e,g⟩:=Md λx hx=>h x (List.mem_cons_of_mem _ hx)
  obtain⟨m,c,rfl,a1,a2,a3,a4⟩:=h d List.mem_cons_self
  refine⟨(m,c)::l,by rw [e];rfl,λq hq=>?_⟩
  rcases List.mem_cons.mp hq with rfl | hq
  ·exact⟨a1,a2,a3,a4⟩
  ·exact g q hq
theorem Me:∀ {es:List PyData},(∀d∈es,GoodE d)->∃l:List (Int×Int×Int),es=l.map eD/\∀q∈l,1<=q.1/\q.1<=9/\0<=q.2.1/\q.2.1<=7/\1<=q.2.2/\q.2.2<=8
 | [],_=>⟨[],rfl,λ_ h=>nomatch h⟩
 | d::ds,h=>by
  obtain⟨l,e,g⟩:=Me λx hx=>h x (List.mem_cons_of_mem _ hx)
  obtain⟨m,c,k,rfl,a1,a2,a3,a4,a5,a6⟩:=h d List.mem_cons_self
  refine⟨(m,c,k)::l,by rw [e];rfl,λq hq=>?_⟩
  rcases List.mem_cons.mp hq with rfl | hq
  ·exact⟨a1,a2,a3,a4,a5,a6⟩
  ·exact g q hq
theorem GoodP.pl {bs es:List PyData}{lo hi st:Int} (g:GoodP bs es lo hi st):∃P:PL,P.ok/\Mc bs es lo hi st=P.d:=by
 obtain⟨lb,rfl,hb⟩:=Md g.b
 obtain⟨le,rfl,he⟩:=Me g.e
 have b1:=g.b1
 have b4:=g.b4
 have e4:=g.e4
 rw [List.length_map] at b1 b4 e4
 exact⟨⟨lb,le,lo,hi,st⟩,⟨hb,b1,b4,he,e4,g.lo0,g.ls,g.sh,g.h4⟩,rfl⟩
theorem DY (r:List Int):BG (Ay r)=true:=by
 unfold BG
 exact Cp λd hd=>by
  obtain⟨i,_,rfl⟩:=List.mem_map.mp hd
  rfl
theorem R4 (k:Bool):0<(1:Int)+(if k=true then 1 else 0)/\(1:Int)+(if k=true then 1 else 0)<1073741824:=by cases k<;>decide
def GoodF (n h:Nat) (d:PyData):Prop:=∃x:FT,d=x.d/\x.ok n h
theorem GoodF.nm {n h:Nat}{d:PyData} (g:GoodF n h d):BG d=true:=by obtain⟨x,rfl,_⟩:=g;rfl
theorem Mf {n h:Nat}:∀ {es:List PyData},(∀d∈es,GoodF n h d)->∃l:List FT,es=l.map FT.d/\∀q∈l,q.ok n h
 | [],_=>⟨[],rfl,λ_ h=>nomatch h⟩
 | d::ds,hh=>by
  obtain⟨l,e,g⟩:=Mf λx hx=>hh x (List.mem_cons_of_mem _ hx)
  obtain⟨x,rfl,a1⟩:=hh d List.mem_cons_self
  refine⟨x::l,by rw [e];rfl,λq hq=>?_⟩
  rcases List.mem_cons.mp hq with rfl | hq
  ·exact a1
  ·exact g q hq
def FE:Sp:=λvs H Q _=>match vs with | [.ref p,v,.int m]=>AV p H/\1<=m/\m<=8/\∃P,PL.ok P/\Aa p H P.d v/\∀u H' S,SY.ok S P.bs.length->Aa p H' S.d u->Ev p H H'->AV p H'->Q u H' | _=>False
def Jr:Sp:=λvs H Q _=>match vs with | [v,u]=>∃p P S,PL.ok P/\SY.ok S P.bs.length/\Aa p H P.d v/\Aa p H S.d u/\ret H Q p (Dd P S) | _=>False
def Js:Sp:=λvs H Q _=>match vs with | [v,u]=>∃p P S,PL.ok P/\SY.ok S P.bs.length/\Aa p H P.d v/\Aa p H S.d u/\ret H Q p (I9 P S) | _=>False
section
variable {P : Program} {w : World} {K : PySem.W.Frag} {mg : Str -> Option Value} {base : Heap}
theorem sc__law_story:AB ["_law_pen_here","_law_plant_here","_law_most","_law_hours","_law_total","_law_wide","_law_extra","_law_faults","_law_turn","_law_first","_law_last"] ["_law_pen_here","_law_plant_here","_law_most"] (Ax s__law_story):=AD
theorem R5 (F:Df K mg "_law_story" s__law_story ["_law_pen_here","_law_plant_here","_law_most"]) (T:Tx mg) (D__law_draw:E1 P w K mg base):Fn P w K mg base 2 "_law_story" ["_law_pen_here","_law_plant_here","_law_most"] FE:=by
 refine F.fn sc__law_story (λvs H Q E h=>?_) (λf cdv A outer s H vs Q E hr h=>?_)
 ·unfold FE at h;split at h;rfl;exact h.elim
 refine⟨_,(Ak (Ie (i:=3) (j:=4) rfl sc__law_story.nd rfl rfl (by decide) rfl rfl (Am (Au Bb pe_int (Af D__law_draw (hr.mono (by decide)) rfl (Am (cy 0) (cy 2)))) (Aw (I8 rfl) rfl T.b_sum boot_sum (Ao (A6 ["_law_make","_law_coal"] [none,none] rfl (BK K (Az (AF K) (cy 1) pe_int (λ_ _=>rfl))) (AO.of rfl) (λ_ _ _ _=>(AM K (n:=2) (Ap (Aj 0 (AJ (by rfl))) (Ap (Aj 1 (AJ (by rfl))) AL)))) (λ_ _ _ _=>A5) (λ_ _ _ _=>(cy 0)))))) (by rfl)) (Ak (AI (i:=5) sc__law_story.nd rfl (AE (by rfl)) (Az (BS K) (BF (CK pe_int (Au Bb pe_int (Au Gj (cy 4) pe_int)) (Au Bb pe_int (cy 4)) pe_int)) (Af D__law_draw (hr.mono (by decide)) rfl (Am (cy 0) pe_int)) (λ_ _=>rfl))) (Ak (AI (i:=6) sc__law_story.nd rfl (AE (by rfl)) (Bd (BJ K) rfl T.b_tuple Bi (Ao (A6 ["_law_hour","_law_pen_here","_law_wide"] [none,some 0,some 5] rfl (CT rfl T.b_range (Ao (cy 3))) (AO.of rfl) (λ_ _ _ _=>(Aj 0 (AJ (by rfl)))) (λ_ _ _ _=>A5) (λ_ _ _ _=>(Af D__law_draw (hr.mono (by decide)) rfl (Am (cy 1) (Aw (Ip rfl) rfl T.b_min boot_min (Am pe_int (cy 2)))))))))) (Ak (AI (i:=7) sc__law_story.nd rfl (AE (by rfl)) (BF pa_nil)) (Ak (Bw PassesOwn.never rfl (CT rfl T.b_range (Ao (Az (BS K) (BF (CK pe_int pe_int pe_int (Af D__law_draw (hr.mono (by decide)) rfl (Am (cy 0) pe_int)))) (Af D__law_draw (hr.mono (by decide)) rfl (Am (cy 0) pe_int)) (λ_ _=>rfl)))) (Aj 8 sc__law_story.nd) (Ak (AI (i:=9) sc__law_story.nd rfl (AE (by rfl)) (Af D__law_draw (hr.mono (by decide)) rfl (Am (cy 0) (cy 3)))) (Ak (AI (i:=10) sc__law_story.nd rfl (AE (by rfl)) (Au Bb (cy 9) (Af D__law_draw (hr.mono (by decide)) rfl (Am (cy 0) (Au BE (cy 3) (cy 9)))))) (An (BW (CD PySem.F.plainAttrs_list PySem.F.slot_list_append PySem.F.type_list_append CI (cy 7) (Ao (BI (CK (Af D__law_draw (hr.mono (by decide)) rfl (Am (cy 0) (Aw (AR K) rfl T.b_len PySem.boot_len (Ao (Az (AF K) (cy 1) pe_int (λ_ _=>rfl)))))) (Az (BS K) (BF (Am pe_str pe_str)) (Af D__law_draw (hr.mono (by decide)) rfl (Am (cy 0) pe_int)) (λ_ _=>rfl)) (cy 9) (cy 10)))))))))) (An (Aq (BI (Am (cy 6) (Bd (BJ K) rfl T.b_tuple Bi (Ao (cy 7)))))))))))),?_⟩
 unfold FE at h
 split at h
 ·rename_i p v m
  obtain⟨pn,m1,m8,P,ok,r,q⟩:=h
  have b1:=ok.b1
  have b4:=ok.b4
  refine⟨pn,by omega,by omega,λg1 H1 a1 c1 e1 pn1=>?_⟩
  obtain⟨PA,PB,PE,PM,xb,xe,rfl,pA,pB,rb,pE,re,pM⟩:=Aa.plant (Aa.ev e1 _ _ r)
  have lb:=rb.len
  rw [List.length_map] at lb
  refine⟨PA,_,0,.ref PB,rfl,rfl,Ac.of pA,rfl,PB,rfl,⟨xb,Ac.of pB⟩,BR (xs:=xb) (λi ys H'=>Ab H1 H'/\ys=((P.bs.map (·.1)).take i).map V.int) (by omega) ⟨Ab.refl _,rfl⟩ (λi ys H' h=>by rw [h.2,List.length_map,List.length_take];omega) (λi ys H' _ h=>Ac.of (h.1 _ _ pB)) (λi x ys H' hx h=>?_) λys H2 h=>?_⟩
  ·obtain⟨f,hf,rd⟩:=Ad.mapGot rb hx
   obtain⟨l,zs,rfl,hl',rz⟩:=Aa.shape (Aa.ev (Ev.same h.1) _ _ rd)
   obtain⟨y1,y2,rfl,r1,r2⟩:=Ad.two rz
   unfold Aa at r1 r2
   subst r1 r2
   refine⟨l,_,rfl,Ac.of hl',rfl,_,_,rfl,_,_,rfl,rfl,trivial,λ_=>⟨h.1,?_⟩,λz=>by cases z⟩
   have hf':(P.bs.map (·.1))[i]? =some f.1:=by rw [List.getElem?_map,hf];rfl
   rw [A3 hf',List.map_append,h.2];rfl
  intro lm hlm
  have eT:0<=(P.bs.map (·.1)).sum/\(P.bs.map (·.1)).sum<=9 *(P.bs.map (·.1)).length:=Lg λi hi=>by
   obtain⟨qq,hqq,rfl⟩:=List.mem_map.mp hi
   have:=ok.b qq hqq
   omega
  rw [List.length_map] at eT
  have n1:=Ab.new (o:= .lst ys) hlm
  refine⟨lm,P.bs.map (·.1),rfl,?_,_,_,rfl,⟨by decide,by decide⟩,λl1 hl1=>?_⟩
  ·rw [Ag,h.2,List.take_of_length_le (by rw [List.length_map];omega)]
  have e2:Ev p H (upd H2 lm (.lst ys)):=e1.trans (Ev.same (h.1.trans n1))
  have pn2:AV p (upd H2 lm (.lst ys)):=pn1.same (h.1.trans n1)
  generalize upd H2 lm (.lst ys)=H3 at hl1 e2 pn2 ⊢
  generalize(P.bs.map (·.1)).sum=T at eT
  refine⟨pn2.new hl1,by decide,by decide,λg2 H4 a4 c4 e4 pn4=>?_⟩
  obtain⟨wd,hwd,hat⟩:=DA (ns:=[1,1+T / 2,1+T,21]) a4 (by simpa using c4)
  have hwd':wd=1\/wd=1+T / 2\/wd=1+T\/wd=21:=by simpa using hwd
  have w1:1<=wd:=by omega
  refine⟨l1,_,g2,.int wd,rfl,rfl,Ai.of (e4.lst Ag (pn2.ne hl1)),hat,?_⟩
  have eA:Ev p H H4:=e2.trans ((Ev.new hl1).trans e4)
  refine⟨_,rfl,by omega,by omega,IM (n:=(1+g1).toNat) (λi ys H5=>Ev p H4 H5/\AV p H5/\∃ns:List Int,ys=ns.map V.int/\ns.length=i/\∀u∈ns,0<=u/\u<=20) (by omega) ⟨Ev.refl,pn4,[],rfl,rfl,(λ_ h=>nomatch h)⟩ (λi ys H5 h=>?_) (λi ys H5 hi h=>?_) λys H5 h=>?_⟩
  ·obtain⟨_,_,ns,rfl,hn,_⟩:=h
   rw [List.length_map];omega
  ·obtain⟨e5,pn5,ns,rfl,hn,hu⟩:=h
   refine⟨⟨rfl,rfl,trivial⟩,λ_=>⟨21,wd,rfl,pn5,by split<;>omega,by split<;>omega,λg6 H6 a6 c6 e6 pn6=>⟨e5.trans e6,pn6,ns++[g6],by rw [List.map_append];rfl,by rw [List.length_append,hn];rfl,λu hu'=>?_⟩⟩,λz=>by cases z⟩
   rcases List.mem_append.mp hu' with h | h
   ·exact hu u h
   ·rw [List.mem_singleton.mp h]
    have:(if wd<21 then wd else 21)<=21:=by split<;>omega
    omega
  obtain⟨e5,pn5,ns,rfl,hn,hu⟩:=h
  intro l2 hl2
  refine⟨l2,_,rfl,.inl ⟨Ai.of Ag,λt1 ht1 b hb=>?_⟩⟩
  have n2:=Ab.new (o:= .lst (ns.map V.int)) hl2
  have n3:=Ab.new (o:= .tup (ns.map V.int)) ht1
  have kt:=Ag (H:=upd H5 l2 (.lst (ns.map V.int))) (a:=t1) (o:= .tup (ns.map V.int))
  have e6:Ev p H (upd (upd H5 l2 (.lst (ns.map V.int))) t1 (.tup (ns.map V.int))):=(eA.trans e5).trans (Ev.same (n2.trans n3))
  have pn6:=pn5.same (n2.trans n3)
  generalize upd (upd H5 l2 (.lst (ns.map V.int))) t1 (.tup (ns.map V.int))=H6 at hb kt e6 pn6 n3 ⊢
  have nb:b≠p:=pn6.ne hb
  have hbH:H b=none:=by
   cases z:H b with
   | none=>rfl
   | some o=>exact((e6 b o z).elim (fun⟨x,_⟩=>absurd x nb) λx=>by rw [x] at hb;cases hb)
  refine⟨pn6.new hb,by decide,by decide,λg7 H7 a7 c7 e7 pn7 l3 hl3=>⟨pn7.new hl3,by decide,by decide,λg8 H8 a8 c8 e8 pn8=>?_⟩⟩
  obtain⟨tn,htn,hat3⟩:=DA (ns:=[0,0,1,g7]) a8 (by simpa using c8)
  have htn':tn=0\/tn=0\/tn=1\/tn=g7:=by simpa using htn
  have e68:Ev p (upd H6 b (.lst [])) H8:=e7.trans ((Ev.new hl3).trans e8)
  refine⟨l3,_,g8,.int tn,rfl,rfl,Ai.of (e8.lst Ag (pn7.ne hl3)),hat3,tn,rfl,by omega,by omega,C7 (n:=tn.toNat) (λi σ H9=>∃t f l,σ=[some (.ref p),some (.ref PA),some (.int m),some (.int (1+g1)),some (.int T),some (.int wd),some (.ref t1),some (.ref b),t,f,l]/\Ev p H6 (upd H9 b (.lst []))/\Filled (GoodF P.bs.length (1+g1).toNat) p b H H9 i)
   ⟨_,_,_,rfl,?_,(e6.trans (Ev.new hb)).trans e68,pn8,[],[],e68.lst Ag nb,.nil,(λ_ h=>nomatch h),rfl⟩ (λi σ H9 hi hP=>?_) fun σ H9 hP=>?_⟩
  ·exact((Ev.new hb).trans e68).own hb
  ·obtain⟨t,f,l,rfl,ev6,ev,pn4',xs,ds,hx,rs,gd,hl⟩:=hP
   refine⟨pn4',by omega,by omega,λf1 K5 a5 c5 e5' pn5'=>⟨pn5',by omega,by omega,λf2 K6 a6 c6 e6' pn6'=>?_⟩⟩
   have e46:Ev p H9 K6:=e5'.trans e6'
   obtain⟨PA',PB',PE',PM',xb',xe',ePA,pA',pB',rb',pE',re',pM'⟩:=Aa.plant (Aa.ev (ev.trans e46) _ _ r)
   cases ePA
   have lb':=rb'.len
   rw [List.length_map] at lb'
   refine⟨.inl ⟨rfl,_,Ai.of (e46.lst hx nb)⟩,PA,_,0,.ref PB',rfl,rfl,Ac.of pA',rfl,PB',xb',rfl,.inr (Ac.of pB'),pn6',by omega,by omega,λf3 K7 a7' c7' e7' pn7' l2' hl2'=>⟨pn7'.new hl2',by decide,by decide,λg4 K8 a8' c8' e8' pn8'=>?_⟩⟩
   have hw:∃bb:Bool,BX [V.str "out",.str "scaled"] g4=some (wV bb):=by
    have:g4=0\/g4=1:=by omega
    rcases this with rfl | rfl
    ·exact⟨true,rfl⟩
    ·exact⟨false,rfl⟩
   obtain⟨bb,hw⟩:=hw
   refine⟨l2',_,g4,wV bb,rfl,rfl,Ai.of (e8'.lst Ag (pn7'.ne hl2')),hw,λt1' ht1'=>?_⟩
   have e48:Ev p H9 K8:=e46.trans (e7'.trans ((Ev.new hl2').trans e8'))
   have hb8:=e48.lst hx nb
   refine⟨b,xs,.ref t1',rfl,rfl,by rw [AA (Bf hb8 ht1')];exact hb8,Dk (by rw [<-rs.len,hl];omega),_,_,_,rfl,?_,?_⟩
   ·intro c o hc
    by_cases z:c=b
    ·subst z;rw [hb] at hc;cases hc
    ·rcases ev6 c o hc with w' | w'
     ·exact .inl w'
     ·rw [AA z] at w'
      rcases(e48.trans (Ev.new (o:= .tup [.int f3,wV bb,.int f1,.int (f1+f2)]) ht1')) c o w' with w'' | w''
      ·exact .inl w''
      ·right
       rw [AA z,AA z]
       exact w''
   ·exact Filled.step (λd h=>h.nm) hx rs gd hl e48 nb hbH (ev.trans e48) pn8' ht1' (Aa.tup Ag (.cons Aa.int (.cons Aa.str (.cons Aa.int (.cons Aa.int .nil))))) ⟨⟨f3,bb,f1,f1+f2⟩,rfl,⟨a7',by show f3<_;omega,a5,by show f1<=f1+f2;omega,by show f1+f2<_;omega⟩⟩
  ·obtain⟨t,f,l,rfl,ev6,fb⟩:=hP
   have kt9:H9 t1=some (.tup (ns.map V.int)):=by
    have z:=ev6.tup kt
    rw [AA (Bf kt hb)] at z
    exact z
   obtain⟨xs,fs,hb5,rb5,gf,lf⟩:=fb.done nb Ev.refl
   refine⟨b,xs,rfl,.inl ⟨Ai.of hb5,λt2 ht2 t3 ht3=>?_⟩⟩
   obtain⟨lF,rfl,gl⟩:=Mf gf
   rw [List.length_map] at lf
   have s5:=(Ab.new (o:= .tup xs) ht2).trans (Ab.new (o:= .tup [.ref t1,.ref t2]) ht3)
   refine q _ _ ⟨ns,lF⟩ ⟨by show 1<=ns.length;omega,by show ns.length<=8;omega,hu,by show lF.length<=4;omega,λx hx=>?_⟩ ?_ (fb.ev.trans (Ev.same s5)) (fb.pen.same s5)
   ·show x.ok _ ns.length
    rw [hn];exact gl x hx
   ·exact Aa.tup Ag (.cons (Aa.row (s5 _ _ kt9)) (.cons (Aa.tup ((Ab.new ht3) _ _ Ag) (Ad.ev (Ev.same s5) _ _ rb5)) .nil))
 ·exact h.elim
theorem sc__law_caps:AB ["_law_plant_here","_law_story_here","_law_rows","_law_hour","_law_row","_law_boiler","_law_make","_law_coal","_law_words"] ["_law_plant_here","_law_story_here"] (Ax s__law_caps):=AD
abbrev Eu (P:Program) (w:World) (K:PySem.W.Frag) (mg:Str->Option Value) (base:Heap):Prop:=Fn P w K mg base 1 "_law_caps" ["_law_plant_here","_law_story_here"] Jr
theorem R6 (F:Df K mg "_law_caps" s__law_caps ["_law_plant_here","_law_story_here"]) (T:Tx mg)  :Eu P w K mg base:=by
 refine F.fn sc__law_caps (λvs H Q E h=>?_) (λf cdv A outer s H vs Q E hr h=>?_)
 ·unfold Jr at h;split at h;rfl;exact h.elim
 refine⟨_,(Ak (AI (i:=2) sc__law_caps.nd rfl (AE (by rfl)) (BF pa_nil)) (Ak (Bw PassesOwn.never rfl (CT rfl T.b_range (Ao (Aw (AR K) rfl T.b_len PySem.boot_len (Ao (Az (AF K) (cy 1) pe_int (λ_ _=>rfl)))))) (Aj 3 sc__law_caps.nd) (Ak (AI (i:=4) sc__law_caps.nd rfl (AE (by rfl)) (BF pa_nil)) (Ak (Bw PassesOwn.never rfl (Eo P w K rfl T.b_enumerate (Ao (Az (AF K) (cy 0) pe_int (λ_ _=>rfl)))) (AM K (n:=2) (Ap (Aj 5 sc__law_caps.nd) (Ap (AM K (n:=2) (Ap (Aj 6 sc__law_caps.nd) (Ap (Aj 7 sc__law_caps.nd) AL))) AL))) (Ak (Ot (i:=8) ["_law_one","_law_word","_law_first","_law_last","_law_boiler","_law_hour"] [none,none,none,none,some 5,some 3] sc__law_caps.nd rfl (AE (by rfl)) rfl (BK K (Az (AF K) (cy 1) pe_int (λ_ _=>rfl))) (AO.of rfl) (λ_ _ _ _=>(AM K (n:=4) (Ap (Aj 0 (AJ (by rfl))) (Ap (Aj 1 (AJ (by rfl))) (Ap (Aj 2 (AJ (by rfl))) (Ap (Aj 3 (AJ (by rfl))) AL)))))) (λ_ _ _ _=>(IG (PW.pt (IR (A1 Do (cy 0) (cy 4) (AX _)) (IR (A1 Db (cy 2) (cy 5) (AX _)) (JN (A1 Db (cy 5) (cy 3) (AX _)))))))) (λ_ _ _ _=>(cy 1))) (An (BW (CD PySem.F.plainAttrs_list PySem.F.slot_list_append PySem.F.type_list_append CI (cy 4) (Ao (Dt (A1 (DM K) pe_str (cy 8) (by with_unfolding_all rfl)) pe_int (Au Gj (cy 6) (Au Bb pe_int (Bd Iq rfl T.b_int L2.boot_int (Ao (CG (DM K) pe_str (cy 8) (by with_unfolding_all rfl))))))))))))) (An (BW (CD PySem.F.plainAttrs_list PySem.F.slot_list_append PySem.F.type_list_append CI (cy 2) (Ao (Bd (BJ K) rfl T.b_tuple Bi (Ao (cy 4)))))))))) (An (Aq (Bd (BJ K) rfl T.b_tuple Bi (Ao (cy 2))))))),?_⟩
 unfold Jr at h
 split at h
 ·rename_i v u
  obtain⟨p,P,S,ok,so,r,ru,q⟩:=h
  obtain⟨A,B,E,xf,rfl,hA,hB,hE,rf⟩:=Aa.story ru
  obtain⟨PA,PB,PE,PM,xb,xe,rfl,pA,pB,rb,pE,re,pM⟩:=Aa.plant r
  have x8:=so.x8
  have f4:=so.f4
  have b4:=ok.b4
  have lb:=rb.len
  rw [List.length_map] at lb
  have lf:=rf.len
  rw [List.length_map] at lf
  intro R hR
  have s0:Ab H (upd H R (.lst [])):=Ab.new hR
  refine⟨A,_,0,.ref B,rfl,rfl,Ac.of (s0 _ _ hA),rfl,B,_,rfl,.inr (Ac.of (s0 _ _ hB)),_,rfl,by omega,by rw [List.length_map];omega,C7 (n:=(S.ex.map V.int).length) (λi σ H1=>(∃x3 x4 x5 x6 x7 x8,σ=[some (.ref PA),some (.ref A),some (.ref R),x3,x4,x5,x6,x7,x8])/\Ab H H1/\∃xs,H1 R=some (.lst xs)/\Ad p H1 (((caps P S).take i).map Ay) xs)
   ⟨⟨_,_,_,_,_,_,rfl⟩,s0,[],Ag,.nil⟩ (λi σ H1 hi hP=>?_) fun σ H1 hP=>?_⟩
  ·obtain⟨⟨x3,x4,x5,x6,x7,x8',rfl⟩,s1,xs,hxs,rxs⟩:=hP
   rw [List.length_map] at hi
   have lx:=rxs.len
   rw [List.length_map,List.length_take] at lx
   intro b hb
   have sb:Ab H1 (upd H1 b (.lst [])):=Ab.new hb
   refine⟨PA,_,0,.ref PB,rfl,rfl,Ac.of (sb _ _ (s1 _ _ pA)),rfl,PB,rfl,⟨xb,Ac.of (sb _ _ (s1 _ _ pB))⟩,for_enum (xs:=xb) (λj σ H2=>(∃y5 y6 y7 y8,σ=[some (.ref PA),some (.ref A),some (.ref R),some (.int (0+i)),some (.ref b),y5,y6,y7,y8])/\Ab H1 H2/\H2 b=some (.lst (((Cn P.bs S.fs i).take j).map V.int)))
    ⟨⟨_,_,_,_,rfl⟩,sb,Ag⟩ (λj σ H2 h=>Ac.of (h.2.1 _ _ (s1 _ _ pB))) (λj x σ H2 T hx h hT=>?_) fun σ H2 h=>?_⟩
   ·obtain⟨⟨y5,y6,y7,y8,rfl⟩,s2,hb2⟩:=h
    obtain⟨f,hf,rd⟩:=Ad.mapGot rb hx
    have hj:j<xb.length:=(List.getElem?_eq_some_iff.mp hx).1
    have s3:Ab H1 (upd H2 T (.tup [.int j,x])):=s2.trans (Ab.new hT)
    have s03:Ab H (upd H2 T (.tup [.int j,x])):=s1.trans s3
    obtain⟨l,zs,rfl,hl',rz⟩:=Aa.shape (Aa.ev (Ev.same s03) _ _ rd)
    obtain⟨z1,z2,rfl,r1,r2⟩:=Ad.two rz
    unfold Aa at r1 r2
    subst r1 r2
    refine⟨T,_,rfl,Ac.of Ag,rfl,_,_,rfl,_,_,rfl,l,_,rfl,Ac.of hl',rfl,_,_,rfl,_,_,rfl,rfl,rfl,?_⟩
    refine⟨A,_,1,.ref E,rfl,rfl,Ac.of (s03 _ _ hA),rfl,E,rfl,⟨xf,Ac.of (s03 _ _ hE)⟩,BR (xs:=xf) (λk ys H3=>Ab (upd H2 T (.tup [.int j,.ref l])) H3/\ys=(BA (S.fs.take k) j i).map wV) (by omega) ⟨Ab.refl _,rfl⟩ (λk ys H' h=>?_) (λk ys H' _ h=>Ac.of (h.1 _ _ (s03 _ _ hE))) (λk x ys H' hx h=>?_) λys H3 h=>?_⟩
    ·rw [h.2,List.length_map]
     unfold BA
     rw [List.length_map]
     exact Nat.le_trans (List.length_filter_le _ _) (by rw [List.length_take];omega)
    ·obtain⟨g,hg,rg⟩:=Ad.mapGot rf hx
     obtain⟨l2,zs2,rfl,hl2,rz2⟩:=Aa.shape (Aa.ev (Ev.same (s03.trans h.1)) _ _ rg)
     obtain⟨w1,w2,w3,w4,rfl,r1,r2,r3,r4⟩:=Ad.four rz2
     unfold Aa at r1 r2 r3 r4
     subst r1 r2 r3 r4
     have nx:=Lf (b:=j) (h:=i) hg
     have no:Cm j i g=false->Ab (upd H2 T (.tup [.int j,.ref l])) H'/\ys=(BA (S.fs.take (k+1)) j i).map wV:=λe=>⟨h.1,by rw [nx,e,if_neg (by decide)];exact h.2⟩
     refine⟨l2,_,rfl,Ac.of hl2,rfl,_,_,rfl,_,_,rfl,_,_,rfl,_,_,rfl,rfl,⟨rfl,rfl,trivial⟩,rfl,⟨λc1=>⟨λc2=>⟨λc3=>?_,λc3=>no ?_⟩,λc2=>⟨λz=>(by cases z),λ_=>no ?_⟩⟩,λc1=>⟨λz=>(by cases z),λ_=>no ?_⟩⟩⟩
     ·have e:Cm j i g=true:=by
       rw [DI] at c1
       rw [Int.zero_add] at c2 c3
       unfold Cm;rw [c1,c2,c3];rfl
      refine⟨h.1,?_⟩
      rw [nx,if_pos e,List.map_append,h.2];rfl
     ·rw [Int.zero_add] at c3
      unfold Cm;rw [c3,Bool.and_false]
     ·rw [Int.zero_add] at c2
      unfold Cm;rw [c2,Bool.and_false,Bool.false_and]
     ·rw [DI] at c1
      unfold Cm;rw [c1,Bool.false_and,Bool.false_and]
    ·intro m hm
     have ew:ys=(BA S.fs j i).map wV:=by rw [h.2,List.take_of_length_le (by omega)]
     subst ew
     have s4:Ab H2 (upd H3 m (.lst ((BA S.fs j i).map wV))):=(Ab.new hT).trans (h.1.trans (Ab.new hm))
     have hb4:=s4 _ _ hb2
     have hlen:(((Cn P.bs S.fs i).take j).map V.int).length<sizeLine:=Dk (by rw [List.length_map,List.length_take];omega)
     refine⟨.inl ⟨rfl,_,Ai.of hb4⟩,m,_,rfl,.inl (Ai.of Ag),rfl,Go,⟨λc=>?_,λc=>?_⟩⟩
     ·rw [if_neg (by decide),Gn] at c
      refine⟨b,_,.int 0,rfl,rfl,hb4,hlen,⟨_,_,_,_,rfl⟩,Ab.own (s2.trans s4) hb,?_⟩
      have e:BY (BA S.fs j i) f.1=0:=by unfold BY;rw [if_pos c]
      rw [Ag,A3 (Ja hf),List.map_append,e];rfl
     ·rw [if_neg (by decide),Gn] at c
      refine⟨m,_,rfl,.inl (Ai.of Ag),rfl,Go,.inr ⟨_,rfl,?_⟩⟩
      have ek:(if (false=true) then !BQ (V.str "scaled") ((BA S.fs j i).map wV) else BQ (V.str "scaled") ((BA S.fs j i).map wV))=(BA S.fs j i).any (!·):=by rw [if_neg (by decide)];exact Jc
      have e:=Px (m:=f.1) c
      refine⟨R4 _,b,_,.int (BY (BA S.fs j i) f.1),rfl,congrArg (λz=>[V.int z]) ((congrArg (fun(k:Bool)=>f.1 /(1+if k=true then 1 else 0)) ek).trans e),hb4,hlen,⟨_,_,_,_,rfl⟩,Ab.own (s2.trans s4) hb,?_⟩
      rw [Ag,A3 (Ja hf),List.map_append];rfl
   ·obtain⟨⟨y5,y6,y7,y8,rfl⟩,s2,hb2⟩:=h
    rw [List.take_of_length_le (by rw [DO];omega)] at hb2
    refine⟨.inl ⟨rfl,_,Ai.of (s2 _ _ hxs)⟩,b,_,rfl,.inl ⟨Ai.of hb2,λt ht=>?_⟩⟩
    have s3:Ab H1 (upd H2 t (.tup ((Cn P.bs S.fs i).map V.int))):=s2.trans (Ab.new ht)
    have hR3:=s3 _ _ hxs
    refine⟨R,xs,.ref t,rfl,rfl,hR3,Dk (by omega),⟨_,_,_,_,_,_,rfl⟩,Ab.own (s1.trans s3) hR,_,Ag,?_⟩
    have tv:=TEv.upd (zs:=xs++[.ref t]) hR3
    rw [A3 (De hi),List.map_append]
    refine Ad.snoc (Ad.tev ((Ev.same (p:=p) s3).tev.trans tv) _ _ (Cp λd hd=>?_) rxs) (Aa.tev tv _ _ (DY _) (Aa.row (p:=p) Ag))
    obtain⟨rr,_,rfl⟩:=List.mem_map.mp hd
    exact DY rr
  ·obtain⟨⟨x3,x4,x5,x6,x7,x8',rfl⟩,s1,xs,hxs,rxs⟩:=hP
   refine⟨R,xs,rfl,.inl ⟨Ai.of hxs,λt ht=>q _ _ (s1.trans (Ab.new ht)) (Aa.tup Ag ?_)⟩⟩
   rw [List.take_of_length_le (by rw [A7,List.length_map];exact Nat.le_refl _)] at rxs
   exact Ad.ev (Ev.new ht) _ _ rxs
 ·exact h.elim
end
end MF
end
section
namespace MF
open PySem PySem.Spec PyProof.Rows L2
variable {p : Addr} {H : Hp} {v : V}
theorem Aa.terms {T:TM} (r:Aa p H T.d v):∃A C B D M xc,v= .ref A/\H A=some (.tup [.ref C,.ref B,.ref D,.ref M])/\H C=some (.tup xc)/\Ad p H (T.cs.map Ay) xc/\H B=some (.tup (T.co.map V.int))/\H D=some (.tup (T.ds.map V.int))/\H M=some (.tup [.int T.lo,.int T.hi,.int T.st]):=by
 unfold TM.d at r
 obtain⟨A,xs,rfl,hA,rs⟩:=Aa.shape r
 obtain⟨x,y,z,w,rfl,rx,ry,rz,rw⟩:=Ad.four rs
 obtain⟨C,xc,rfl,hC,rc⟩:=Aa.shape rx
 obtain⟨B,xb,rfl,hB,rb⟩:=Aa.shape ry
 obtain⟨D,xd,rfl,hD,rd⟩:=Aa.shape rz
 obtain⟨M,xm,rfl,hM,rm⟩:=Aa.shape rw
 obtain⟨m1,m2,m3,rfl,r1,r2,r3⟩:=Ad.three rm
 unfold Aa at r1 r2 r3
 subst r1 r2 r3
 rw [Ad.ints rb] at hB
 rw [Ad.ints rd] at hD
 exact⟨A,C,B,D,M,xc,rfl,hA,hC,rc,hB,hD,hM⟩
theorem Aa.ofRow' {r:List Int} (h:Aa p H (Ay r) v):∃A,v= .ref A/\H A=some (.tup (r.map V.int)):=by
 obtain⟨A,xs,rfl,hA,rs⟩:=Aa.shape h
 rw [Ad.ints rs] at hA
 exact⟨A,rfl,hA⟩
theorem C5 {d:PyData}{lo hi:Int} (h:AS d lo hi=true):∃ds,d= .tuple ds/\lo<=(ds.length:Int)/\(ds.length:Int)<=hi:=by
 cases d with
 | tuple ds=>
  unfold AS at h
  obtain⟨h1,h2⟩:=Bool.and_eq_true_iff.mp h
  exact⟨ds,rfl,of_decide_eq_true h1,of_decide_eq_true h2⟩
 | _=>cases h
def FF:Sp:=λvs H Q _=>match vs with | [v,u]=>∃p P S,PL.ok P/\SY.ok S P.bs.length/\Aa p H P.d v/\Aa p H S.d u/\ret H Q p (terms P S).d | _=>False
section
variable {P : Program} {w : World} {K : PySem.W.Frag} {mg : Str -> Option Value} {base : Heap}
theorem sc_terms_of:AB ["plant","story","caps","coals"] ["plant","story"] (Ax s_terms_of):=AD
theorem R7 (F:Df K mg "terms_of" s_terms_of ["plant","story"]) (T:Tx mg) (D_caps_of:Fn P w K mg base 9 "caps_of" ["plant","story"] FB) (D_draws_of:Fn P w K mg base 9 "draws_of" ["plant","story"] FC):Fn P w K mg base 10 "terms_of" ["plant","story"] FF:=by
 refine F.fn sc_terms_of (λvs H Q E h=>?_) (λf cdv A outer s H vs Q E hr h=>?_)
 ·unfold FF at h;split at h;rfl;exact h.elim
 refine⟨_,(Ak (AI (i:=2) sc_terms_of.nd rfl (AE (by rfl)) (Af D_caps_of (hr.mono (by decide)) rfl (Am (cy 0) (cy 1)))) (Ak (AI (i:=3) sc_terms_of.nd rfl (AE (by rfl)) (Bd (BJ K) rfl T.b_tuple Bi (Ao (A6 ["make","coal"] [none,none] rfl (BK K (Az (AF K) (cy 0) pe_int (λ_ _=>rfl))) (AO.of rfl) (λ_ _ _ _=>(AM K (n:=2) (Ap (Aj 0 (AJ (by rfl))) (Ap (Aj 1 (AJ (by rfl))) AL)))) (λ_ _ _ _=>A5) (λ_ _ _ _=>(cy 1)))))) (An (Aq (BI (CK (cy 2) (cy 3) (Af D_draws_of (hr.mono (by decide)) rfl (Am (cy 0) (cy 1))) (Az (AF K) (cy 0) pe_int (λ_ _=>rfl)))))))),?_⟩
 unfold FF at h
 split at h
 ·rename_i v u
  obtain⟨p,P,S,ok,so,r,ru,q⟩:=h
  refine⟨p,P,S,ok,so,r,ru,λcv H1 s1 rc=>?_⟩
  obtain⟨PA,PB,PE,PM,xb,xe,rfl,pA,pB,rb,pE,re,pM⟩:=Aa.plant (Aa.ev (Ev.same s1) _ _ r)
  have b4:=ok.b4
  have lb:=rb.len
  rw [List.length_map] at lb
  refine⟨PA,_,0,.ref PB,rfl,rfl,Ac.of pA,rfl,PB,rfl,⟨xb,Ac.of pB⟩,BR (xs:=xb) (λi ys H'=>Ab H1 H'/\ys=((P.bs.take i).map λq=>V.int q.2)) (by omega) ⟨Ab.refl _,rfl⟩ (λi ys H' h=>by rw [h.2,List.length_map,List.length_take];omega) (λi ys H' _ h=>Ac.of (h.1 _ _ pB)) (λi x ys H' hx h=>?_) λys H' h=>?_⟩
  ·obtain⟨f,hf,rd⟩:=Ad.mapGot rb hx
   obtain⟨l,zs,rfl,hl',rz⟩:=Aa.shape (Aa.ev (Ev.same h.1) _ _ rd)
   obtain⟨y1,y2,rfl,r1,r2⟩:=Ad.two rz
   unfold Aa at r1 r2
   subst r1 r2
   refine⟨l,_,rfl,Ac.of hl',rfl,_,_,rfl,_,_,rfl,rfl,trivial,λ_=>⟨h.1,?_⟩,λz=>by cases z⟩
   rw [A3 hf,List.map_append,h.2];rfl
  ·intro m hm
   refine⟨m,_,rfl,.inl ⟨Ai.of Ag,λt ht=>?_⟩⟩
   have nt:=Ab.new (o:= .tup ys) ht
   have s2:=h.1.trans ((Ab.new (o:= .lst ys) hm).trans nt)
   refine⟨p,P,S,ok,so,Aa.ev (Ev.same (s1.trans s2)) _ _ r,Aa.ev (Ev.same (s1.trans s2)) _ _ ru,λdv H3 s3 rd=>?_⟩
   have s13:=s2.trans s3
   refine⟨PA,_,2,.ref PM,rfl,rfl,Ac.of (s13 _ _ pA),rfl,λt2 ht2=>?_⟩
   have s4:=Ab.new (o:= .tup [cv,.ref t,dv,.ref PM]) ht2
   have ey:ys=(P.bs.map (·.2)).map V.int:=by rw [h.2,List.take_of_length_le (by omega),List.map_map];rfl
   have ht4:=(s3.trans s4) _ _ (Ag (H:=upd H' m (.lst ys)) (a:=t) (o:= .tup ys))
   rw [ey] at ht4
   refine q _ _ (s1.trans (s13.trans s4)) (Aa.tup Ag (.cons (Aa.ev (Ev.same (s13.trans s4)) _ _ rc) (.cons (Aa.row ht4) (.cons (Aa.ev (Ev.same s4) _ _ rd) (.cons (Aa.tup ((s13.trans s4) _ _ pM) (.cons Aa.int (.cons Aa.int (.cons Aa.int .nil)))) .nil)))))
 ·exact h.elim
end
end MF
end
section
namespace MF
open PySem PySem.Spec PyProof.Rows L2
variable {p : Addr} {H : Hp}
theorem Aa.intE {a b:Int} (h:b=a):Aa p H (.int a) (.int b):=by subst h;exact Aa.int
theorem Aa.pair {q:Nat×Nat}{v:V} (r:Aa p H (pD q) v):∃A,v= .ref A/\H A=some (.tup [.int q.1,.int q.2]):=by
 obtain⟨A,xs,rfl,hA,rs⟩:=Aa.shape r
 obtain⟨x,y,rfl,rx,ry⟩:=Ad.two rs
 unfold Aa at rx ry
 subst rx ry
 exact⟨A,rfl,hA⟩
def He:Sp:=λvs H Q _=>match vs with | [v,u]=>∃p T f l,TM.ok T/\Aa p H T.d v/\Aa p H (pD (f,l)) u/\f<=l/\l<T.ds.length/\∀H',Ab H H'->Q (.bl (BL T f l)) H' | _=>False
section
variable {P : Program} {w : World} {K : PySem.W.Frag} {mg : Str -> Option Value} {base : Heap}
theorem sc_is_too_much:AB ["terms","stretch","caps","coals","draws","low","high","start","first","last","ahead","most"] ["terms","stretch"] (Ax s_is_too_much):=AD
theorem R8 (F:Df K mg "is_too_much" s_is_too_much ["terms","stretch"]) (T:Tx mg)  :Fn P w K mg base 1 "is_too_much" ["terms","stretch"] He:=by
 refine F.fn sc_is_too_much (λvs H Q E h=>?_) (λf cdv A outer s H vs Q E hr h=>?_)
 ·unfold He at h;split at h;rfl;exact h.elim
 refine⟨_,(Ak (Bv (cy 0) (AM K (n:=4) (Ap (Aj 2 sc_is_too_much.nd) (Ap (Aj 3 sc_is_too_much.nd) (Ap (Aj 4 sc_is_too_much.nd) (Ap (AM K (n:=3) (Ap (Aj 5 sc_is_too_much.nd) (Ap (Aj 6 sc_is_too_much.nd) (Ap (Aj 7 sc_is_too_much.nd) AL)))) AL)))))) (Ak (Bv (cy 1) (AM K (n:=2) (Ap (Aj 8 sc_is_too_much.nd) (Ap (Aj 9 sc_is_too_much.nd) AL)))) (Ak (AI (i:=10) sc_is_too_much.nd rfl (AE (by rfl)) (Dt (A1 Do (cy 8) pe_int (AX _)) (cy 7) (cy 6))) (Ak (AI (i:=11) sc_is_too_much.nd rfl (AE (by rfl)) (Aw (EM rfl) rfl T.b_sum boot_sum (Ao (A6 ["row"] [none] rfl (BK K (Cj s_tup (cy 2) (BP (cy 8)) (BP (Au Bb (cy 9) pe_int)))) (AO.of rfl) (λ_ _ _ _=>(Aj 0 (AJ (by rfl)))) (λ_ _ _ _=>A5) (λ_ _ _ _=>(Aw (EM rfl) rfl T.b_sum boot_sum (Ao (cy 0)))))))) (An (Aq (CG DL (Au Bb (cy 10) (cy 11)) (Au Bb (Aw (EM rfl) rfl T.b_sum boot_sum (Ao (Cj s_tup (cy 4) (BP (cy 8)) (BP (Au Bb (cy 9) pe_int))))) (cy 5)) (AX _)))))))),?_⟩
 unfold He at h
 split at h
 ·rename_i v u
  obtain⟨p,T,f,l,ok,r,ru,hfl,hl,q⟩:=h
  obtain⟨A,C,B,D,M,xc,rfl,hA,hC,rc,hB,hD,hM⟩:=Aa.terms r
  obtain⟨U,rfl,hU⟩:=Aa.pair ru
  have l8:=ok.l8
  have lc:=ok.lc
  have lx:=rc.len
  rw [List.length_map] at lx
  refine⟨A,_,rfl,Ac.of hA,rfl,_,_,rfl,_,_,rfl,_,_,rfl,_,_,rfl,M,_,rfl,Ac.of hM,rfl,_,_,rfl,_,_,rfl,_,_,rfl,rfl,rfl,?_⟩
  refine⟨U,_,rfl,Ac.of hU,rfl,_,_,rfl,_,_,rfl,rfl,rfl,⟨λc=>?_,λc=>?_⟩⟩
  ·have ea:(if f=0 then T.st else T.hi)=T.st:=by
    rw [DI] at c
    have:(f:Int)=0:=by simpa using c
    rw [if_pos (by omega)]
   refine⟨(f:Int),rfl,(l:Int)+1,rfl,C,xc,rfl,hC,λR H1 s1 k1=>?_⟩
   rw [Gz hfl (by omega)] at k1
   have rp:=Ad.part (Ad.ev (Ev.same s1) _ _ rc) f l
   rw [GB] at rp
   have lp:=Lo (xs:=T.cs) hfl (by omega)
   have lq:=rp.len
   rw [List.length_map] at lq
   refine⟨R,rfl,⟨_,Ac.of k1⟩,BR (xs:=part xc f l) (λi ys H'=>Ab H1 H'/\ys=(((part T.cs f l).take i).map List.sum).map V.int) (by omega) ⟨Ab.refl _,rfl⟩ (λi ys H' h=>by rw [h.2,List.length_map,List.length_map,List.length_take];omega) (λi ys H' _ h=>Ac.of (h.1 _ _ k1)) (λi x ys H' hx h=>?_) λys H2 h=>?_⟩
   ·obtain⟨r',hr',rr⟩:=Ad.mapGot rp hx
    obtain⟨ra,rfl,hra⟩:=Aa.ofRow' rr
    refine⟨trivial,λ_=>⟨ra,r',rfl,.inr (h.1 _ _ hra),h.1,?_⟩,λz=>by cases z⟩
    rw [A3 hr',List.map_append,List.map_append,h.2];rfl
   ·intro m hm
    have s2:=s1.trans (h.1.trans (Ab.new (o:= .lst ys) hm))
    refine⟨m,(part T.cs f l).map List.sum,rfl,.inl ?_,?_⟩
    ·rw [Ag,h.2,List.take_of_length_le (by omega)]
    refine⟨(f:Int),rfl,(l:Int)+1,rfl,D,T.ds.map V.int,rfl,s2 _ _ hD,λR2 H3 s3 k3=>?_⟩
    rw [Gz hfl (by rw [List.length_map];exact hl),GB] at k3
    refine⟨R2,part T.ds f l,rfl,.inr k3,?_⟩
    have:=q H3 (s2.trans s3)
    unfold BL at this
    rw [ea] at this
    exact this
  ·have ea:(if f=0 then T.st else T.hi)=T.hi:=by
    rw [DI] at c
    have:(f:Int)≠0:=by simpa using c
    rw [if_neg (by omega)]
   refine⟨(f:Int),rfl,(l:Int)+1,rfl,C,xc,rfl,hC,λR H1 s1 k1=>?_⟩
   rw [Gz hfl (by omega)] at k1
   have rp:=Ad.part (Ad.ev (Ev.same s1) _ _ rc) f l
   rw [GB] at rp
   have lp:=Lo (xs:=T.cs) hfl (by omega)
   have lq:=rp.len
   rw [List.length_map] at lq
   refine⟨R,rfl,⟨_,Ac.of k1⟩,BR (xs:=part xc f l) (λi ys H'=>Ab H1 H'/\ys=(((part T.cs f l).take i).map List.sum).map V.int) (by omega) ⟨Ab.refl _,rfl⟩ (λi ys H' h=>by rw [h.2,List.length_map,List.length_map,List.length_take];omega) (λi ys H' _ h=>Ac.of (h.1 _ _ k1)) (λi x ys H' hx h=>?_) λys H2 h=>?_⟩
   ·obtain⟨r',hr',rr⟩:=Ad.mapGot rp hx
    obtain⟨ra,rfl,hra⟩:=Aa.ofRow' rr
    refine⟨trivial,λ_=>⟨ra,r',rfl,.inr (h.1 _ _ hra),h.1,?_⟩,λz=>by cases z⟩
    rw [A3 hr',List.map_append,List.map_append,h.2];rfl
   ·intro m hm
    have s2:=s1.trans (h.1.trans (Ab.new (o:= .lst ys) hm))
    refine⟨m,(part T.cs f l).map List.sum,rfl,.inl ?_,?_⟩
    ·rw [Ag,h.2,List.take_of_length_le (by omega)]
    refine⟨(f:Int),rfl,(l:Int)+1,rfl,D,T.ds.map V.int,rfl,s2 _ _ hD,λR2 H3 s3 k3=>?_⟩
    rw [Gz hfl (by rw [List.length_map];exact hl),GB] at k3
    refine⟨R2,part T.ds f l,rfl,.inr k3,?_⟩
    have:=q H3 (s2.trans s3)
    unfold BL at this
    rw [ea] at this
    exact this
 ·exact h.elim
end
end MF
end
section
namespace MF
open PySem PySem.Spec PyProof.Rows L2
variable {F : List (List Int)} {p : Addr} {H : Hp}
def Hf:Sp:=λvs H Q _=>match vs with | [v,u]=>∃p r cs,Aa p H (Ay r) v/\Aa p H (Ay cs) u/\r.length=cs.length/\r.length<=1000/\(∀(j:Nat) (x c:Int),r[j]? =some x->cs[j]? =some c->0<=x/\x<=c)/\∀H',Ab H H'->Q (.bl true) H' | _=>False
def Hg:Sp:=λvs H Q _=>match vs with | [v,u,w]=>∃p P S F,Tri p H P S F v u w/\∀H',Ab H H'->Q (.bl true) H' | _=>False
structure Mg (F cs:List (List Int)):Prop where
 len:F.length=cs.length
 few:F.length<=1000
 row:∀(i:Nat) (r c:List Int),F[i]? =some r->cs[i]? =some c->r.length=c.length/\r.length<=1000/\∀(j:Nat) (x y:Int),r[j]? =some x->c[j]? =some y->0<=x/\x<=y
theorem R9 {P:PL}{S:SY} (ok:P.ok) (so:S.ok P.bs.length) (fo:FOk P S F):Mg F (caps P S):=by
 have fl:=fo.len
 have x8:=so.x8
 have b4:=ok.b4
 refine⟨by rw [A7];exact fl,by omega,λi r c hr hc=>?_⟩
 rw [De (by have:=(List.getElem?_eq_some_iff.mp hr).1;omega)] at hc
 cases hc
 have:=fo.row i r hr
 exact⟨by rw [DO];exact this,by omega,λj x y hx hy=>fo.bd i r j x y hr hx hy⟩
def Hh:Sp:=λvs H Q _=>match vs with | [c,w]=>∃p cs F,Mg F cs/\Aa p H (FD cs) c/\Aa p H (FD F) w/\∀H',Ab H H'->Q (.bl true) H' | _=>False
def Hi:Sp:=λvs H Q _=>match vs with | [v,u,w]=>∃p P S F,Tri p H P S F v u w/\∀H',Ab H H'->Q .non H' | _=>False
def Hj:Sp:=λvs H Q _=>match vs with | [v,u,w]=>∃p P S F,Tri p H P S F v u w/\∀t R sv H' k s xs,Fp P S F k s->Ab H H'->H R=none->H' t=some (.tup [.ref R,sv])->H' R=some (.lst xs)->Ad p H' (DQ P S F k) xs->Aa p H' (Fo s) sv->Q (.ref t) H' | _=>False
def Hl:Sp:=λvs H Q _=>match vs with | [v,u,w]=>∃p P S F,Tri p H P S F v u w/\∀sv H' k s,Fp P S F k s->Ab H H'->Aa p H' (Fo s) sv->Q sv H' | _=>False
def Hm:Sp:=λvs H Q _=>match vs with | [v,u,w]=>∃p P S F,Tri p H P S F v u w/\∀H' k s,Fp P S F k s->Ab H H'->Q (.bl s.isNone) H' | _=>False
theorem Aa.firing {v:V} (r:Aa p H (FD F) v):∃A xs,v= .ref A/\H A=some (.tup xs)/\Ad p H (F.map Ay) xs:=Aa.shape r
theorem Aa.ofRow {p:Addr}{H:Hp}{r:List Int}{v:V} (h:Aa p H (Ay r) v):∃A,v= .ref A/\H A=some (.tup (r.map V.int)):=by
 obtain⟨A,xs,rfl,hA,rs⟩:=Aa.shape h
 rw [Ad.ints rs] at hA
 exact⟨A,rfl,hA⟩
theorem Sa {s:Option (Int×Int)}{sv:V} (r:Aa p H (Fo s) sv):decide (sv= .non)=s.isNone:=by
 cases s with
 | none=>unfold Fo Aa at r;subst r;rfl
 | some q=>
  unfold Fo at r
  obtain⟨A,xs,rfl,_⟩:=Aa.shape r
  rfl
section
variable {P : Program} {w : World} {K : PySem.W.Frag} {mg : Str -> Option Value} {base : Heap}
theorem Mh:AB ["thing","caps"] ["thing","caps"] (Ax s_is_row):=AD
theorem Sb (F:Df K mg "is_row" s_is_row ["thing","caps"]) (T:Tx mg) (D_is_tuple_of:BT P w K mg base) (D_is_whole_from:Dj P w K mg base):Fn P w K mg base 3 "is_row" ["thing","caps"] Hf:=by
 refine F.fn Mh (λvs H Q E h=>?_) (λf cdv A outer s H vs Q E hr h=>?_)
 ·unfold Hf at h;split at h;rfl;exact h.elim
 refine⟨_,(An (Aq (AY (Af D_is_tuple_of (hr.mono (by decide)) rfl (AG (cy 0) (Aw (AR K) rfl T.b_len PySem.boot_len (Ao (cy 1))) (Aw (AR K) rfl T.b_len PySem.boot_len (Ao (cy 1))))) (Bl (Aw (Ct rfl) rfl T.b_all boot_all (Ao (A6 ["part","cap"] [none,none] rfl (DN P w K rfl T.b_zip (Am (cy 0) (cy 1))) (AO.of rfl) (λ_ _ _ _=>(AM K (n:=2) (Ap (Aj 0 (AJ (by rfl))) (Ap (Aj 1 (AJ (by rfl))) AL)))) (λ_ _ _ _=>A5) (λ_ _ _ _=>(Af D_is_whole_from (hr.mono (by decide)) rfl (AG (cy 0) pe_int (cy 1))))))))))),?_⟩
 unfold Hf at h
 split at h
 ·rename_i v u
  obtain⟨p,r,cs,rv,ru,hl,h1000,bd,q⟩:=h
  obtain⟨A,rfl,hA⟩:=Aa.ofRow rv
  obtain⟨B,rfl,hB⟩:=Aa.ofRow ru
  refine⟨B,_,rfl,.inr (Ac.of hB),B,_,rfl,.inr (Ac.of hB),p,_,rv,λb hb=>⟨λ_=>?_,λc=>?_⟩⟩
  ·refine⟨A,B,rfl,⟨_,Ac.of hA⟩,⟨_,Ac.of hB⟩,walk_zip (xs:=r.map V.int) (ys:=cs.map V.int) (λi zs H'=>Ab H H'/\zs=List.replicate i (V.bl true)) (by rw [List.length_map];omega) (by rw [List.length_map,List.length_map];exact hl) ⟨Ab.refl _,rfl⟩
    (λi zs H' h=>by rw [h.2,List.length_replicate];omega) (λi zs H' h=>⟨Ac.of (h.1 _ _ hA),Ac.of (h.1 _ _ hB)⟩) (λi x y zs H' T hx hy h hT=>?_) λzs H' h=>?_⟩
   ·rw [List.getElem?_map] at hx hy
    cases z1:r[i]? with
    | none=>rw [z1] at hx;cases hx
    | some n=>
     cases z2:cs[i]? with
     | none=>rw [z2] at hy;cases hy
     | some m=>
      rw [z1] at hx
      rw [z2] at hy
      cases hx
      cases hy
      obtain⟨n0,nm⟩:=bd i n m z1 z2
      refine⟨T,_,rfl,Ac.of Ag,rfl,_,_,rfl,_,_,rfl,rfl,trivial,λ_=>⟨p,.int n,Aa.int,λb1 e1=>⟨h.1.trans (Ab.new hT),?_⟩⟩,λc=>by cases c⟩
      rw [BU n0 nm] at e1
      rw [h.2,e1,List.replicate_succ']
   ·intro m hm
    refine⟨m,List.replicate (r.map V.int).length true,rfl,by rw [Ag,h.2,List.map_replicate],?_⟩
    have ea:(List.replicate (r.map V.int).length true).all id=true:=by simp
    rw [ea]
    exact q _ (h.1.trans (Ab.new hm))
  ·rw [CL (by rw [List.length_map,List.length_map];omega) (by rw [List.length_map,List.length_map];omega)] at hb
   rw [hb] at c;cases c
 ·exact h.elim
theorem Mi:AB ["caps","thing"] ["caps","thing"] (Ax s_is_firing_within):=AD
theorem Sc (F:Df K mg "is_firing_within" s_is_firing_within ["caps","thing"]) (T:Tx mg) (D_is_row:Fn P w K mg base 3 "is_row" ["thing","caps"] Hf) (D_is_tuple_of:BT P w K mg base):Fn P w K mg base 4 "is_firing_within" ["caps","thing"] Hh:=by
 refine F.fn Mi (λvs H Q E h=>?_) (λf cdv A outer s H vs Q E hr h=>?_)
 ·unfold Hh at h;split at h;rfl;exact h.elim
 refine⟨_,(An (Aq (AY (Af D_is_tuple_of (hr.mono (by decide)) rfl (AG (cy 1) (Aw (AR K) rfl T.b_len PySem.boot_len (Ao (cy 0))) (Aw (AR K) rfl T.b_len PySem.boot_len (Ao (cy 0))))) (Bl (Aw (Ct rfl) rfl T.b_all boot_all (Ao (A6 ["part","row"] [none,none] rfl (DN P w K rfl T.b_zip (Am (cy 1) (cy 0))) (AO.of rfl) (λ_ _ _ _=>(AM K (n:=2) (Ap (Aj 0 (AJ (by rfl))) (Ap (Aj 1 (AJ (by rfl))) AL)))) (λ_ _ _ _=>A5) (λ_ _ _ _=>(Af D_is_row (hr.mono (by decide)) rfl (Am (cy 0) (cy 1))))))))))),?_⟩
 unfold Hh at h
 split at h
 ·rename_i c w
  obtain⟨p,cs,F,bn,r1,rw',q⟩:=h
  have fl:=bn.len
  have f1:=bn.few
  obtain⟨A,xs,rfl,hA,rx⟩:=Aa.firing rw'
  obtain⟨B,ys,rfl,hB,ry⟩:=Aa.firing r1
  have lx:=rx.len
  rw [List.length_map] at lx
  have ly:=ry.len
  rw [List.length_map] at ly
  refine⟨B,_,rfl,.inr (Ac.of hB),B,_,rfl,.inr (Ac.of hB),p,_,rw',λb hb=>⟨λ_=>?_,λc=>?_⟩⟩
  ·refine⟨A,B,rfl,⟨_,Ac.of hA⟩,⟨_,Ac.of hB⟩,walk_zip (xs:=xs) (ys:=ys) (λi zs H'=>Ab H H'/\zs=List.replicate i (V.bl true)) (by omega) (by omega) ⟨Ab.refl _,rfl⟩
    (λi zs H' h=>by rw [h.2,List.length_replicate];omega) (λi zs H' h=>⟨Ac.of (h.1 _ _ hA),Ac.of (h.1 _ _ hB)⟩) (λi x y zs H' T hx hy h hT=>?_) λzs H' h=>?_⟩
   ·obtain⟨r,hr,rr⟩:=Ad.mapGot rx hx
    obtain⟨c0,hc,rc⟩:=Ad.mapGot ry hy
    obtain⟨b1,b2,b3⟩:=bn.row i r c0 hr hc
    have s2:=h.1.trans (Ab.new (o:= .tup [x,y]) hT)
    refine⟨T,_,rfl,Ac.of Ag,rfl,_,_,rfl,_,_,rfl,rfl,trivial,λ_=>⟨p,r,_,Aa.ev (Ev.same s2) _ _ rr,Aa.ev (Ev.same s2) _ _ rc,b1,b2,b3,λH3 s3=>⟨s2.trans s3,?_⟩⟩,λc=>by cases c⟩
    rw [h.2,List.replicate_succ']
   ·intro m hm
    refine⟨m,List.replicate xs.length true,rfl,by rw [Ag,h.2,List.map_replicate],?_⟩
    have ea:(List.replicate xs.length true).all id=true:=by simp
    rw [ea]
    exact q _ (h.1.trans (Ab.new hm))
  ·unfold FD at hb
   rw [CL (by rw [List.length_map];omega) (by rw [List.length_map];omega)] at hb
   rw [hb] at c;cases c
 ·exact h.elim
theorem Sd:AB ["plant","story","thing"] ["plant","story","thing"] (Ax s_is_firing):=AD
theorem Se (F:Df K mg "is_firing" s_is_firing ["plant","story","thing"]) (T:Tx mg) (D_caps_of:Fn P w K mg base 9 "caps_of" ["plant","story"] FB) (D_is_firing_within:Fn P w K mg base 4 "is_firing_within" ["caps","thing"] Hh):Fn P w K mg base 10 "is_firing" ["plant","story","thing"] Hg:=by
 refine F.fn Sd (λvs H Q E h=>?_) (λf cdv A outer s H vs Q E hr h=>?_)
 ·unfold Hg at h;split at h;rfl;exact h.elim
 refine⟨_,(An (Aq (Af D_is_firing_within (hr.mono (by decide)) rfl (Am (Af D_caps_of (hr.mono (by decide)) rfl (Am (cy 0) (cy 1))) (cy 2))))),?_⟩
 unfold Hg at h
 split at h
 ·rename_i v u w
  obtain⟨p,P,S,F,tr,q⟩:=h
  exact⟨p,P,S,tr.ok,tr.so,tr.r,tr.ru,λv1 H1 s1 r1=>⟨p,_,F,R9 tr.ok tr.so tr.fo,r1,(tr.sm s1).rw,λH2 s2=>q H2 (s1.trans s2)⟩⟩
 ·exact h.elim
theorem Sf:AB ["plant","story","firing"] ["plant","story","firing"] (Ax s_need_firing):=AD
theorem Sg (F:Df K mg "need_firing" s_need_firing ["plant","story","firing"]) (T:Tx mg) (D_is_firing:Fn P w K mg base 10 "is_firing" ["plant","story","thing"] Hg):Fn P w K mg base 11 "need_firing" ["plant","story","firing"] Hi:=by
 refine F.fn Sf (λvs H Q E h=>?_) (λf cdv A outer s H vs Q E hr h=>?_)
 ·unfold Hi at h;split at h;rfl;exact h.elim
 refine⟨_,(An (A2 (Bn (Bh (Af D_is_firing (hr.mono (by decide)) rfl (AG (cy 0) (cy 1) (cy 2))))) (An Ia) AZ)),?_⟩
 unfold Hi at h
 split at h
 ·rename_i v u w
  obtain⟨p,P,S,F,tr,q⟩:=h
  exact⟨p,P,S,F,tr,λH' s=>⟨λc=>(by cases c),λc=>q H' s⟩⟩
 ·exact h.elim
theorem sc_run_day:AB ["plant","story","firing","low","high","main","rows","hour","drawn","made","blown"] ["plant","story","firing"] (Ax s_run_day):=AD
theorem Sh (F:Df K mg "run_day" s_run_day ["plant","story","firing"]) (T:Tx mg) (D_draws_of:Fn P w K mg base 9 "draws_of" ["plant","story"] FC) (D_need_firing:Fn P w K mg base 11 "need_firing" ["plant","story","firing"] Hi):Fn P w K mg base 12 "run_day" ["plant","story","firing"] Hj:=by
 refine F.fn sc_run_day (λvs H Q E h=>?_) (λf cdv A outer s H vs Q E hr h=>?_)
 ·unfold Hj at h;split at h;rfl;exact h.elim
 refine⟨_,(Ak (BW (Af D_need_firing (hr.mono (by decide)) rfl (AG (cy 0) (cy 1) (cy 2)))) (Ak (Bv (Az (AF K) (cy 0) pe_int (λ_ _=>rfl)) (AM K (n:=3) (Ap (Aj 3 sc_run_day.nd) (Ap (Aj 4 sc_run_day.nd) (Ap (Aj 5 sc_run_day.nd) AL))))) (Ak (AI (i:=6) sc_run_day.nd rfl (AE (by rfl)) (BF pa_nil)) (Ak (Bw PassesOwn.never rfl (Eo P w K rfl T.b_enumerate (Ao (Af D_draws_of (hr.mono (by decide)) rfl (Am (cy 0) (cy 1))))) (AM K (n:=2) (Ap (Aj 7 sc_run_day.nd) (Ap (Aj 8 sc_run_day.nd) AL))) (Ak (AI (i:=9) sc_run_day.nd rfl (AE (by rfl)) (Aw (EM rfl) rfl T.b_sum boot_sum (Ao (Az (AF K) (cy 2) (cy 7) (λ_ _=>rfl))))) (Ak (JT (i:=5) sc_run_day.nd rfl (AE (by rfl)) (Au BE (cy 9) (cy 8)) Nj) (Ak (A2 (A1 DL (cy 5) (cy 3) (AX _)) (An (Aq (BI (Am (cy 6) (BI (Am (cy 7) (Au BE (cy 3) (cy 5)))))))) AZ) (Ak (AI (i:=10) sc_run_day.nd rfl (AE (by rfl)) (Aw (Ka rfl) rfl T.b_max boot_max (Am (Au BE (cy 5) (cy 4)) pe_int))) (Ak (JT (i:=5) sc_run_day.nd rfl (AE (by rfl)) (cy 10) Nk) (An (BW (CD PySem.F.plainAttrs_list PySem.F.slot_list_append PySem.F.type_list_append CI (cy 6) (Ao (BI (CK (cy 9) (cy 8) (cy 10) (cy 5))))))))))))) (An (Aq (BI (Am (cy 6) pe_non)))))))),?_⟩
 unfold Hj at h
 split at h
 ·rename_i v u w
  obtain⟨p,P,S,F,tr,q⟩:=h
  refine⟨p,P,S,F,tr,λH1 s1=>?_⟩
  have t1:=tr.sm s1
  have x8:=tr.so.x8
  have fl:=tr.fo.len
  obtain⟨PA,PB,PE,PM,xb,xe,rfl,pA,pB,rb,pE,re,pM⟩:=Aa.plant t1.r
  refine⟨PA,_,2,.ref PM,rfl,rfl,Ac.of pA,rfl,PM,_,rfl,Ac.of pM,rfl,_,_,rfl,_,_,rfl,_,_,rfl,rfl,λR hR=>?_⟩
  have sR:Ab H1 (upd H1 R (.lst [])):=Ab.new hR
  have hHR:H R=none:=s1.free hR
  have tR:=t1.sm sR
  refine⟨p,P,S,tr.ok,tr.so,tR.r,tR.ru,λv1 H2 s2 r2=>?_⟩
  obtain⟨D,rfl,hD⟩:=Aa.ofRow (r:=draws P S) r2
  have t2:=tR.sm s2
  have sH2:Ab H H2:=s1.trans (sR.trans s2)
  obtain⟨FA,fx,rfl,hF,rx⟩:=Aa.firing t2.rw
  refine⟨D,rfl,⟨_,Ac.of hD⟩,for_enum (xs:=(draws P S).map V.int) (λi σ H'=>(∃x7 x8 x9 x10,σ=[some (.ref PA),some u,some (.ref FA),some (.int P.lo),some (.int P.hi),some (.int (AT P S F i)),some (.ref R),x7,x8,x9,x10])/\Ev R H2 H'/\(∀j,j<i->P.lo<=BB P S F j)/\∃xs,H' R=some (.lst xs)/\Ad p H' (DQ P S F i) xs)
   ⟨⟨_,_,_,_,rfl⟩,Ev.refl,(λj hj=>absurd hj (Nat.not_lt_zero _)),[],s2 _ _ Ag,.nil⟩ (λi σ H' h=>Ac.of (h.2.1.tup hD)) (λi x σ H' T hx h hT=>?_) fun σ H' h=>?_⟩
  ·obtain⟨⟨x7,x8',x9,x10,rfl⟩,ev,up,xs,hRx,rxs⟩:=h
   rw [List.getElem?_map] at hx
   cases z:(draws P S)[i]? with
   | none=>rw [z] at hx;cases hx
   | some d=>
    rw [z] at hx
    cases hx
    have hi:i<S.ex.length:=by
     have:=(List.getElem?_eq_some_iff.mp z).1
     rw [C2] at this;exact this
    have ed:=EO z
    obtain⟨r,hr⟩:∃r,F[i]? =some r:=⟨F[i],by simp⟩
    have em:=EN hr
    obtain⟨y,hy,ry⟩:=rx.get (i:=i) (d:=Ay r) (by rw [List.getElem?_map,hr];rfl)
    have nw:Ab H' (upd H' T (.tup [.int i,.int d])):=Ab.new hT
    have ev2:Ev R H2 (upd H' T (.tup [.int i,.int d])):=ev.trans (Ev.same nw)
    obtain⟨ra,rfl,hra⟩:=Aa.ofRow ry
    refine⟨T,_,rfl,Ac.of Ag,rfl,_,_,rfl,_,_,rfl,rfl,?_⟩
    refine⟨FA,_,(i:Int),.ref ra,rfl,rfl,Ac.of (ev2.tup hF),C9 hy,ra,r,rfl,.inr (ev2.tup hra),_,rfl,_,_,rfl,rfl,?_⟩
    have epm:AT P S F i+(r.sum-d)=BB P S F i:=by unfold BB;rw [em,ed]
    refine⟨λc=>?_,λc=>?_⟩
    ·intro t1 ht1 t2 ht2
     have c':=of_decide_eq_true c
     have n12:=(Ab.new (o:= .tup [.int i,.int (P.lo-(AT P S F i+(r.sum-d)))]) ht1).trans (Ab.new (o:= .tup [.ref R,.ref t1]) ht2)
     refine q t2 R (.ref t1) _ i (some ((i:Int),P.lo-BB P S F i)) xs ⟨Nat.le_of_lt hi,up,.inr ⟨hi,by rw [<-epm];exact c',rfl⟩⟩ (Ab.evOwn sH2 hHR (ev2.trans (Ev.same n12))) hHR Ag ((nw.trans n12) _ _ hRx) (Ad.ev (Ev.same (nw.trans n12)) _ _ rxs) ?_
     refine Aa.tup ((Ab.new ht2) _ _ Ag) ?_
     rw [<-epm]
     exact .cons Aa.int (.cons Aa.int .nil)
    ·refine⟨_,_,rfl,_,rfl,_,_,rfl,rfl,.inl ⟨rfl,_,Ai.of (nw _ _ hRx)⟩,λt ht=>?_⟩
     have c':P.lo<=BB P S F i:=by
      have:=of_decide_eq_false c
      have h2:¬AT P S F i+(r.sum-d)<P.lo:=this
      rw [epm] at h2;omega
     have lx:=rxs.len
     rw [Pz] at lx
     have hR3:upd (upd H' T (.tup [.int i,.int d])) t (.tup [.int r.sum,.int d,.int (if 0>AT P S F i+(r.sum-d)-P.hi then 0 else AT P S F i+(r.sum-d)-P.hi),.int (AT P S F i+(r.sum-d)-if 0>AT P S F i+(r.sum-d)-P.hi then 0 else AT P S F i+(r.sum-d)-P.hi)]) R=some (.lst xs):=(nw.trans (Ab.new ht)) _ _ hRx
     have em2:AT P S F i+(r.sum-d)-(if 0>AT P S F i+(r.sum-d)-P.hi then 0 else AT P S F i+(r.sum-d)-P.hi)=AT P S F (i+1):=by rw [Fm,<-epm];rfl
     refine⟨R,xs,.ref t,rfl,rfl,hR3,Dk (by omega),⟨some (.int i),some (.int d),some (.int r.sum),some (.int (if 0>AT P S F i+(r.sum-d)-P.hi then 0 else AT P S F i+(r.sum-d)-P.hi)),congrArg (λz=>[some (V.ref PA),some u,some (V.ref FA),some (V.int P.lo),some (V.int P.hi),some (V.int z),some (V.ref R),some (V.int i),some (V.int d),some (V.int r.sum),some (V.int (if 0>AT P S F i+(r.sum-d)-P.hi then 0 else AT P S F i+(r.sum-d)-P.hi))]) em2⟩,(ev2.trans (Ev.new ht)).trans (Ev.pen hR3),λj hj=>?_,_,Ag,?_⟩
     ·by_cases cj:j=i
      ·subst cj;exact c'
      ·exact up j (by omega)
     ·have tv:=TEv.upd (zs:=xs++[.ref t]) hR3
      rw [Py]
      refine Ad.snoc (Ad.tev ((Ev.same (p:=p) (nw.trans (Ab.new ht))).tev.trans tv) _ _ (Cp λd hd=>?_) rxs) (Aa.tev (p:=p) tv _ _ rfl (Aa.tup Ag ?_))
      ·unfold DQ at hd
       obtain⟨k,_,rfl⟩:=List.mem_map.mp hd
       rfl
      ·rw [em,ed,Fm,<-epm]
       exact .cons Aa.int (.cons Aa.int (.cons Aa.int (.cons Aa.int .nil)))
  ·obtain⟨⟨x7,x8',x9,x10,rfl⟩,ev,up,xs,hRx,rxs⟩:=h
   rw [List.length_map,C2] at up rxs
   intro t ht
   have nw:=Ab.new (o:= .tup [.ref R,.non]) ht
   exact q t R .non _ S.ex.length none xs ⟨Nat.le_refl _,up,.inl ⟨rfl,rfl⟩⟩ (Ab.evOwn sH2 hHR (ev.trans (Ev.same nw))) hHR Ag (nw _ _ hRx) (Ad.ev (Ev.same nw) _ _ rxs) Aa.non
 ·exact h.elim
theorem sc_falls_at:AB ["plant","story","firing","rows","short"] ["plant","story","firing"] (Ax s_falls_at):=AD
theorem Si (F:Df K mg "falls_at" s_falls_at ["plant","story","firing"]) (T:Tx mg) (D_run_day:Fn P w K mg base 12 "run_day" ["plant","story","firing"] Hj):Fn P w K mg base 13 "falls_at" ["plant","story","firing"] Hl:=by
 refine F.fn sc_falls_at (λvs H Q E h=>?_) (λf cdv A outer s H vs Q E hr h=>?_)
 ·unfold Hl at h;split at h;rfl;exact h.elim
 refine⟨_,(Ak (Bv (Af D_run_day (hr.mono (by decide)) rfl (AG (cy 0) (cy 1) (cy 2))) (AM K (n:=2) (Ap (Aj 3 sc_falls_at.nd) (Ap (Aj 4 sc_falls_at.nd) AL)))) (An (Aq (cy 4)))),?_⟩
 unfold Hl at h
 split at h
 ·rename_i v u w
  obtain⟨p,P,S,F,tr,q⟩:=h
  exact⟨p,P,S,F,tr,λt R sv H' k s xs run sm hR ht hRx rx rs=>⟨t,_,rfl,Ac.of ht,rfl,_,_,rfl,_,_,rfl,rfl,q sv H' k s run sm rs⟩⟩
 ·exact h.elim
theorem Sj:AB ["plant","story","firing"] ["plant","story","firing"] (Ax s_keeps_up):=AD
theorem Sk (F:Df K mg "keeps_up" s_keeps_up ["plant","story","firing"]) (T:Tx mg) (D_falls_at:Fn P w K mg base 13 "falls_at" ["plant","story","firing"] Hl):Fn P w K mg base 14 "keeps_up" ["plant","story","firing"] Hm:=by
 refine F.fn Sj (λvs H Q E h=>?_) (λf cdv A outer s H vs Q E hr h=>?_)
 ·unfold Hm at h;split at h;rfl;exact h.elim
 refine⟨_,(An (Aq (CG Nw (Af D_falls_at (hr.mono (by decide)) rfl (AG (cy 0) (cy 1) (cy 2))) pe_non (AX _)))),?_⟩
 unfold Hm at h
 split at h
 ·rename_i v u w
  obtain⟨p,P,S,F,tr,q⟩:=h
  refine⟨p,P,S,F,tr,λsv H' k s run sm rs=>⟨rfl,?_⟩⟩
  rw [Sa rs]
  exact q H' k s run sm
 ·exact h.elim
end
end MF
end
section
namespace MF
open PySem PySem.Spec PyProof.Rows L2
variable {H : Hp} {G F : List (List Int)} {S : SY} {k i : Nat}
theorem Sl {α:Type} (n:Nat) (x:α):(List.replicate n [x]).flatten=List.replicate n x:=by
 induction n with
 | zero=>rfl
 | succ n ih=>rw [List.replicate_succ,List.flatten_cons,ih,List.replicate_succ];rfl
def Feed (H:Hp) (G:List (List Int)) (f:V):Prop:=∃A xs,f= .ref A/\xs.length=G.length/\
 ((H A=some (.tup xs)/\∀(i:Nat) r x,G[i]? =some r->xs[i]? =some x->∃a,x= .ref a/\H a=some (.tup (r.map V.int)))\/(H A=some (.lst xs)/\∀(i:Nat) r x,G[i]? =some r->xs[i]? =some x->∃a,x= .ref a/\H a=some (.lst (r.map V.int))))
theorem Feed.same {H':Hp}{f:V} (x:Feed H G f) (s:Ab H H'):Feed H' G f:=by
 obtain⟨A,xs,e,hl,h⟩:=x
 refine⟨A,xs,e,hl,h.elim (λh=> .inl ⟨s _ _ h.1,λi r x hr hx=>?_⟩) λh=> .inr ⟨s _ _ h.1,λi r x hr hx=>?_⟩⟩
 ·obtain⟨a,e,k⟩:=h.2 i r x hr hx;exact⟨a,e,s _ _ k⟩
 ·obtain⟨a,e,k⟩:=h.2 i r x hr hx;exact⟨a,e,s _ _ k⟩
theorem Feed.of {p:Addr}{f:V} (r:Aa p H (FD G) f):Feed H G f:=by
 obtain⟨A,xs,rfl,hA,rs⟩:=Aa.firing r
 have l:=rs.len
 rw [List.length_map] at l
 refine⟨A,xs,rfl,l.symm,.inl ⟨hA,λi r x hr hx=>?_⟩⟩
 obtain⟨r',hr',rr⟩:=Ad.mapGot rs hx
 rw [hr] at hr'
 cases hr'
 exact Aa.ofRow rr
def Dl (P:PL) (S:SY) (F:List (List Int)) (k:Nat):List Int:=(List.range k).map λj=>AT P S F (j+1)
theorem Mj {P:PL}:Dl P S F (k+1)=Dl P S F k++[AT P S F (k+1)]:=by unfold Dl;rw [List.range_succ,List.map_append];rfl
theorem Jt {P:PL}:(Dl P S F k).length=k:=by unfold Dl;simp
theorem Hn {P:PL}{r d:Int} (hr:made F i=r) (hd:DP P S i=d):(if AT P S F i+r-d<P.hi then AT P S F i+r-d else P.hi)=AT P S F (i+1):=by
 rw [Fm]
 unfold BB Ep
 rw [hr,hd]
 split<;>split<;>omega
theorem Ho {P:PL} (h:P.lo<=P.hi):AT P S F (i+1)<P.lo↔BB P S F i<P.lo:=by
 rw [Fm]
 unfold Ep
 split<;>omega
def Ew (P:PL) (S:SY) (F:List (List Int)):Prop:=∀i,i<S.ex.length->P.lo<=BB P S F i
def Hr:Sp:=λvs H Q _=>match vs with | [.ref m,d,f]=>∃p P S F,P.lo<=P.hi/\S.ex.length<=8/\F.length=S.ex.length/\H m=some (.tup [.int P.lo,.int P.hi,.int P.st])/\Aa p H (I9 P S) d/\Feed H F f/\∀R H' k s,Fp P S F k s->Ab H H'->H R=none->H' R=some (.lst ((Dl P S F k).map V.int))->Q (.ref R) H' | _=>False
def FG:Sp:=λvs H Q _=>match vs with | [v,u,f]=>∃p P S F,PL.ok P/\SY.ok S P.bs.length/\F.length=S.ex.length/\Aa p H P.d v/\Aa p H S.d u/\Feed H F f/\∀b H',(b=true↔Ew P S F)->Ab H H'->Q (.bl b) H' | _=>False
def Hs:Sp:=λvs H Q _=>match vs with | [.ref p,.int m,.int h]=>AV p H/\1<=m/\m<=4/\1<=h/\h<=8/\∀t H' P S v u,PL.ok P->SY.ok S P.bs.length->Ew P S (caps P S)->H' t=some (.tup [v,u])->Aa p H' P.d v->Aa p H' S.d u->Ev p H H'->AV p H'->Q (.ref t) H' | _=>False
theorem CMul.of_bounds {i j:Int} (h0:0<=j) (h1:j<100):CMul i j:= .inr ⟨by omega,by omega⟩
theorem Sm {P:PL} (ok:P.ok) (so:S.ok P.bs.length) (he:P.es=[]) (hx:∀a∈S.ex,a=0) (hF:F=caps P S:=by rfl):Ew P S F:=by
 subst hF
 have hd:∀i,i<S.ex.length->DP P S i=0:=λi hi=>by
  have z:S.ex[i]? =some S.ex[i]:=List.getElem?_eq_getElem hi
  rw [EO (Jb z),he,hx _ (List.getElem_mem hi)];rfl
 have hm:∀i,i<S.ex.length->0<=made (caps P S) i:=λi hi=>by
  have hg:=De (P:=P) hi
  rw [EN hg]
  have hb:=(Dx (S:=S) ok _ (List.mem_of_getElem? hg)).1
  have:∀l:List Int,(∀a∈l,0<=a/\a<=9)->0<=l.sum:=λl=>by
   induction l with
   | nil=>intro _;exact Int.le_refl _
   | cons a l ih=>
    intro h
    have h1:=h a List.mem_cons_self
    have h2:=ih λx hx=>h x (List.mem_cons_of_mem _ hx)
    rw [List.sum_cons];omega
  exact this _ hb
 have hl:∀i,i<=S.ex.length->P.lo<=AT P S (caps P S) i:=λi=>by
  induction i with
  | zero=>intro _;exact ok.ls
  | succ i ih=>
   intro hi
   have h0:=ih (by omega)
   have h1:=hd i (by omega)
   have h2:=hm i (by omega)
   have h3:=ok.ls
   have h4:=ok.sh
   rw [Fm]
   unfold BB Ep
   split<;>omega
 intro i hi
 have h0:=hl i (by omega)
 have h1:=hd i hi
 have h2:=hm i hi
 unfold BB
 omega
theorem Sn {l:List Int}{k:Nat}{x:Int} (h:l[k]? =some x):(l.take (k+1)).sum=(l.take k).sum+x:=by rw [A3 h,List.sum_append,List.sum_cons,List.sum_nil];omega
section
variable {P : Program} {w : World} {K : PySem.W.Frag} {mg : Str -> Option Value} {base : Heap}
theorem sc__law_draws:AB ["_law_plant_here","_law_story_here","_law_found","_law_hour","_law_extra","_law_draw_here","_law_first","_law_every"] ["_law_plant_here","_law_story_here"] (Ax s__law_draws):=AD
abbrev E2 (P:Program) (w:World) (K:PySem.W.Frag) (mg:Str->Option Value) (base:Heap):Prop:=Fn P w K mg base 1 "_law_draws" ["_law_plant_here","_law_story_here"] Js
theorem So (F:Df K mg "_law_draws" s__law_draws ["_law_plant_here","_law_story_here"]) (T:Tx mg)  :E2 P w K mg base:=by
 refine F.fn sc__law_draws (λvs H Q E h=>?_) (λf cdv A outer s H vs Q E hr h=>?_)
 ·unfold Js at h;split at h;rfl;exact h.elim
 refine⟨_,(Ak (AI (i:=2) sc__law_draws.nd rfl (AE (by rfl)) (BF pa_nil)) (Ak (Bw PassesOwn.never rfl (Eo P w K rfl T.b_enumerate (Ao (Az (AF K) (cy 1) pe_int (λ_ _=>rfl)))) (AM K (n:=2) (Ap (Aj 3 sc__law_draws.nd) (Ap (Aj 4 sc__law_draws.nd) AL))) (Ak (Bw PassesOwn.never rfl (BK K (Az (AF K) (cy 0) pe_int (λ_ _=>rfl))) (AM K (n:=3) (Ap (Aj 5 sc__law_draws.nd) (Ap (Aj 6 sc__law_draws.nd) (Ap (Aj 7 sc__law_draws.nd) AL)))) (An (AI (i:=4) sc__law_draws.nd rfl (AE (by rfl)) (Au Bb (cy 4) (Au Gi (cy 5) (Bd Iq rfl T.b_int L2.boot_int (Ao (CG (DM K) (cy 3) (Qc rfl rfl T.b_list rfl T.b_range (AG (cy 6) pe_int (cy 7))) (by with_unfolding_all rfl))))))))) (An (BW (CD PySem.F.plainAttrs_list PySem.F.slot_list_append PySem.F.type_list_append CI (cy 2) (Ao (cy 4))))))) (An (Aq (Bd (BJ K) rfl T.b_tuple Bi (Ao (cy 2))))))),?_⟩
 unfold Js at h
 split at h
 ·rename_i v u
  obtain⟨p,P,S,ok,so,r,ru,q⟩:=h
  obtain⟨A,B,E,xf,rfl,hA,hB,hE,rf⟩:=Aa.story ru
  obtain⟨PA,PB,PE,PM,xb,xe,rfl,pA,pB,rb,pE,re,pM⟩:=Aa.plant r
  have x8:=so.x8
  have e4:=ok.e4
  have le:=re.len
  rw [List.length_map] at le
  intro R hR
  have s0:Ab H (upd H R (.lst [])):=Ab.new hR
  refine⟨A,_,0,.ref B,rfl,rfl,Ac.of (s0 _ _ hA),rfl,B,rfl,⟨_,Ac.of (s0 _ _ hB)⟩,for_enum (xs:=S.ex.map V.int) (λi σ H1=>(∃y3 y4 y5 y6 y7,σ=[some (.ref PA),some (.ref A),some (.ref R),y3,y4,y5,y6,y7])/\Ab H H1/\H1 R=some (.lst (((draws P S).take i).map V.int)))
   ⟨⟨_,_,_,_,_,rfl⟩,s0,Ag⟩ (λi σ H1 h=>Ac.of (h.2.1 _ _ hB)) (λi x σ H1 T hx h hT=>?_) fun σ H1 h=>?_⟩
  ·obtain⟨⟨y3,y4,y5,y6,y7,rfl⟩,s1,hR1⟩:=h
   rw [List.getElem?_map] at hx
   cases z:S.ex[i]? with
   | none=>rw [z] at hx;cases hx
   | some n=>
    rw [z] at hx
    cases hx
    have hi:i<S.ex.length:=(List.getElem?_eq_some_iff.mp z).1
    have nT:=Ab.new (o:= .tup [.int i,.int n]) hT
    have s2:=s1.trans nT
    refine⟨T,_,rfl,Ac.of Ag,rfl,_,_,rfl,_,_,rfl,rfl,?_⟩
    refine⟨PA,_,1,.ref PE,rfl,rfl,Ac.of (s2 _ _ pA),rfl,PE,rfl,⟨xe,Ac.of (s2 _ _ pE)⟩,J2 (xs:=xe) (λk σ H2=>(∃y5 y6 y7,σ=[some (.ref PA),some (.ref A),some (.ref R),some (.int i),some (.int (n+((P.es.map λe=>drawn e i).take k).sum)),y5,y6,y7])/\Ab (upd H1 T (.tup [.int i,.int n])) H2)
     ⟨⟨_,_,_,congrArg (λz=>[some (V.ref PA),some (.ref A),some (.ref R),some (.int i),some (.int z),y5,y6,y7]) (Int.add_zero n).symm⟩,Ab.refl _⟩ (λk σ H2 _ h=>Ac.of (h.2 _ _ (s2 _ _ pE))) (λk x σ H2 hx h=>?_) fun σ H2 h=>?_⟩
    ·obtain⟨⟨y5,y6,y7,rfl⟩,s3⟩:=h
     obtain⟨e,he,rd⟩:=Ad.mapGot re hx
     obtain⟨o1,o2,o3,o4,o5,o6⟩:=ok.e e (List.mem_of_getElem? he)
     obtain⟨a,zs,rfl,ha,rz⟩:=Aa.shape (Aa.ev (Ev.same (s2.trans s3)) _ _ rd)
     obtain⟨w1,w2,w3,rfl,r1,r2,r3⟩:=Ad.three rz
     unfold Aa at r1 r2 r3
     subst r1 r2 r3
     refine⟨a,_,rfl,Ac.of ha,rfl,_,_,rfl,_,_,rfl,_,_,rfl,rfl,?_⟩
     refine⟨_,_,_,rfl,⟨by omega,by omega,by omega,by omega,by omega,by omega⟩,λl hl=>⟨l,_,rfl,.inl (Ai.of Ag),rfl,Qd,.inr ⟨_,rfl,CMul.of_bounds (by split<;>omega) (by split<;>omega),⟨some (.int e.1),some (.int e.2.1),some (.int e.2.2),?_⟩,s3.trans (Ab.new hl)⟩⟩⟩
     have e1:e.1 *(if (if false=true then !BQ (V.int (i:Int)) ((Dy e.2.1 8 e.2.2).map V.int) else BQ (V.int (i:Int)) ((Dy e.2.1 8 e.2.2).map V.int))=true then 1 else 0)=drawn e i:=by
      have ei:(if false=true then !BQ (V.int (i:Int)) ((Dy e.2.1 8 e.2.2).map V.int) else BQ (V.int (i:Int)) ((Dy e.2.1 8 e.2.2).map V.int))=BQ (V.int (i:Int)) ((Dy e.2.1 8 e.2.2).map V.int):=rfl
      rw [ei,Qe o5 (by omega)]
      unfold drawn
      by_cases c:(i:Int)<e.2.1\/((i:Int)-e.2.1) % e.2.2≠0
      ·rw [if_pos c,decide_eq_false (λz=>z c),if_neg (by decide),Int.mul_zero]
      ·rw [if_neg c,decide_eq_true c,if_pos rfl,Int.mul_one]
     have e2:n+((P.es.map λe=>drawn e i).take k).sum+drawn e i=n+((P.es.map λe=>drawn e i).take (k+1)).sum:=by
      rw [Sn (x:=drawn e i) (by rw [List.getElem?_map,he];rfl)];omega
     exact congrArg (λz=>[some (V.ref PA),some (.ref A),some (.ref R),some (.int i),some (.int z),some (.int e.1),some (.int e.2.1),some (.int e.2.2)]) ((congrArg (λz=>n+((P.es.map λe=>drawn e i).take k).sum+z) e1).trans e2)
    ·obtain⟨⟨y5,y6,y7,rfl⟩,s3⟩:=h
     rw [List.take_of_length_le (l:=P.es.map λe=>drawn e i) (by rw [List.length_map];omega)]
     have kR:=(nT.trans s3) _ _ hR1
     refine⟨.inl ⟨rfl,_,Ai.of kR⟩,R,_,_,rfl,rfl,kR,Dk (by rw [List.length_map,List.length_take];omega),⟨_,_,_,_,_,rfl⟩,Ab.own (s2.trans s3) hR,?_⟩
     rw [Ag,A3 (Jb z),List.map_append];rfl
  ·obtain⟨⟨y3,y4,y5,y6,y7,rfl⟩,s1,hR1⟩:=h
   refine⟨R,_,rfl,.inl ⟨Ai.of hR1,λt ht=>q _ _ (s1.trans (Ab.new ht)) (Aa.row ?_)⟩⟩
   rw [Ag,List.take_of_length_le (by rw [C2,List.length_map];exact Nat.le_refl _)]
 ·exact h.elim
theorem sc__law_mains:AB ["_law_main","_law_draws_here","_law_firing_here","_law_low","_law_high","_law_here","_law_found","_law_draw_here","_law_row"] ["_law_main","_law_draws_here","_law_firing_here"] (Ax s__law_mains):=AD
theorem Sr (F:Df K mg "_law_mains" s__law_mains ["_law_main","_law_draws_here","_law_firing_here"]) (T:Tx mg)  :Fn P w K mg base 1 "_law_mains" ["_law_main","_law_draws_here","_law_firing_here"] Hr:=by
 refine F.fn sc__law_mains (λvs H Q E h=>?_) (λf cdv A outer s H vs Q E hr h=>?_)
 ·unfold Hr at h;split at h;rfl;exact h.elim
 refine⟨_,(Ak (Bv (cy 0) (AM K (n:=3) (Ap (Aj 3 sc__law_mains.nd) (Ap (Aj 4 sc__law_mains.nd) (Ap (Aj 5 sc__law_mains.nd) AL))))) (Ak (AI (i:=6) sc__law_mains.nd rfl (AE (by rfl)) (BF pa_nil)) (Ak (Bw PassesOwn.never rfl (GD (DN P w K rfl T.b_zip (Am (cy 1) (cy 2))) (IU P w K rfl T.b_zip (Am (cy 1) (cy 2)))) (AM K (n:=2) (Ap (Aj 7 sc__law_mains.nd) (Ap (Aj 8 sc__law_mains.nd) AL))) (Ak (AI (i:=5) sc__law_mains.nd rfl (AE (by rfl)) (Aw (Ip rfl) rfl T.b_min boot_min (Am (cy 4) (Au BE (Au Bb (cy 5) (Aw (EM rfl) rfl T.b_sum boot_sum (Ao (cy 8)))) (cy 7))))) (Ak (A2 (A1 DL (cy 5) (cy 3) (AX _)) (An (Aq (cy 6))) AZ) (An (BW (CD PySem.F.plainAttrs_list PySem.F.slot_list_append PySem.F.type_list_append CI (cy 6) (Ao (cy 5)))))))) (An (Aq (cy 6)))))),?_⟩
 unfold Hr at h
 split at h
 ·rename_i m d f
  obtain⟨p,P,S,F,hlh,x8,fl,hm,rd,fd,q⟩:=h
  refine⟨m,_,rfl,Ac.of hm,rfl,_,_,rfl,_,_,rfl,_,_,rfl,rfl,λR hR=>?_⟩
  have sR:=Ab.new (o:= .lst []) hR
  have hHR:H R=none:=hR
  obtain⟨D,rfl,hD⟩:=Aa.ofRow (r:=draws P S) (Aa.ev (Ev.same sR) _ _ rd)
  have fd2:=fd.same sR
  have kR0:upd H R (.lst []) R=some (.lst []):=Ag
  have sH2:=sR
  generalize upd H R (.lst [])=H2 at *
  have ld:((draws P S).map V.int).length=S.ex.length:=by rw [List.length_map,C2]
  obtain⟨GA,gx,rfl,lg,⟨hG,rows⟩ | ⟨hG,rows⟩⟩:=fd2
  ·refine Or.inl ⟨D,GA,rfl,⟨_,Ac.of hD⟩,⟨_,Ac.of hG⟩,EQ (xs:=(draws P S).map V.int) (ys:=gx) (λi σ H'=>(∃y7 y8,σ=[some (.ref m),some (.ref D),some (.ref GA),some (.int P.lo),some (.int P.hi),some (.int (AT P S F i)),some (.ref R),y7,y8])/\Ev R H2 H'/\(∀j,j<i->P.lo<=BB P S F j)/\H' R=some (.lst ((Dl P S F i).map V.int))) (by omega)
     ⟨⟨_,_,rfl⟩,Ev.refl,(λj hj=>absurd hj (Nat.not_lt_zero _)),kR0⟩ (λi σ H' h=>⟨Ac.of (h.2.1.tup hD),Ac.of (h.2.1.tup hG)⟩) (λi x y σ H' T hx hy h hT=>?_) fun σ H' h=>?_⟩
   ·obtain⟨⟨y7,y8,rfl⟩,ev,up,hRx⟩:=h
    rw [List.getElem?_map] at hx
    cases z:(draws P S)[i]? with
    | none=>rw [z] at hx;cases hx
    | some d0=>
     rw [z] at hx
     cases hx
     have hi:i<S.ex.length:=by have:=(List.getElem?_eq_some_iff.mp z).1;rw [C2] at this;exact this
     obtain⟨r,hr⟩:∃r,F[i]? =some r:=⟨F[i],by simp⟩
     obtain⟨ra,rfl,hra⟩:=rows i r y hr hy
     have nT:=Ab.new (o:= .tup [.int d0,.ref ra]) hT
     have ev1:Ev R H2 (upd H' T (.tup [.int d0,.ref ra])):=ev.trans (Ev.same nT)
     refine⟨T,_,rfl,Ac.of Ag,rfl,_,_,rfl,_,_,rfl,rfl,ra,r,rfl,.inr (ev1.tup hra),_,_,rfl,⟨λc=>?_,λc=>?_⟩⟩
     ·have c':=of_decide_eq_true c
      have c':(if AT P S F i+r.sum-d0<P.hi then AT P S F i+r.sum-d0 else P.hi)<P.lo:=c'
      rw [Hn (EN hr) (EO z)] at c'
      exact q R _ i (some ((i:Int),P.lo-BB P S F i)) ⟨Nat.le_of_lt hi,up,.inr ⟨hi,(Ho hlh).mp c',rfl⟩⟩ (Ab.evOwn sH2 hHR ev1) hHR (nT _ _ hRx)
     ·have c':=of_decide_eq_false c
      have c':¬(if AT P S F i+r.sum-d0<P.hi then AT P S F i+r.sum-d0 else P.hi)<P.lo:=c'
      have em:=Hn (EN hr) (EO z)
      rw [em] at c'
      have kR:=nT _ _ hRx
      refine⟨.inl ⟨rfl,_,Ai.of kR⟩,R,_,_,rfl,rfl,kR,Dk (by rw [List.length_map,Jt];omega),⟨some (.int d0),some (.ref ra),congrArg (λz=>[some (V.ref m),some (.ref D),some (.ref GA),some (.int P.lo),some (.int P.hi),some (.int z),some (.ref R),some (.int d0),some (.ref ra)]) em⟩,ev1.trans (Ev.pen kR),λj hj=>?_,?_⟩
      ·by_cases cj:j=i
       ·subst cj
        exact Int.not_lt.mp λw=>c' ((Ho hlh).mpr w)
       ·exact up j (by omega)
      ·rw [Ag,Mj,List.map_append]
       exact congrArg (λz=>some (HO.lst ((Dl P S F i).map V.int++[V.int z]))) em
   ·obtain⟨⟨y7,y8,rfl⟩,ev,up,hRx⟩:=h
    rw [List.length_map,C2] at up hRx
    exact q R H' S.ex.length none ⟨Nat.le_refl _,up,.inl ⟨rfl,rfl⟩⟩ (Ab.evOwn sH2 hHR ev) hHR hRx
  ·have nG:GA≠R:=λe=>by
    subst e
    obtain⟨A',gx',eA,_,z⟩:=fd
    cases eA
    rcases z with z | z<;>(rw [hHR] at z;cases z.1)
   have nRow:∀(i:Nat) g a,F[i]? =some g->gx[i]? =some (.ref a)->a≠R:=λi g a hg hy e=>by
    subst e
    obtain⟨A',gx',eA,lg2,z⟩:=fd
    cases eA
    rcases z with⟨z1,z2⟩ | ⟨z1,z2⟩
    ·have:=sH2 _ _ z1
     rw [hG] at this;cases this
    ·have:=sH2 _ _ z1
     rw [hG] at this
     cases this
     obtain⟨a',e',k⟩:=z2 i g _ hg hy
     cases e'
     rw [hHR] at k;cases k
   refine Or.inr ⟨D,GA,rfl,⟨_,Ac.of hD⟩,⟨_,Ai.of hG⟩,EQ (xs:=(draws P S).map V.int) (ys:=gx) (λi σ H'=>(∃y7 y8,σ=[some (.ref m),some (.ref D),some (.ref GA),some (.int P.lo),some (.int P.hi),some (.int (AT P S F i)),some (.ref R),y7,y8])/\Ev R H2 H'/\(∀j,j<i->P.lo<=BB P S F j)/\H' R=some (.lst ((Dl P S F i).map V.int))) (by omega)
     ⟨⟨_,_,rfl⟩,Ev.refl,(λj hj=>absurd hj (Nat.not_lt_zero _)),kR0⟩ (λi σ H' h=>⟨Ac.of (h.2.1.tup hD),Ai.of (h.2.1.lst hG nG)⟩) (λi x y σ H' T hx hy h hT=>?_) fun σ H' h=>?_⟩
   ·obtain⟨⟨y7,y8,rfl⟩,ev,up,hRx⟩:=h
    rw [List.getElem?_map] at hx
    cases z:(draws P S)[i]? with
    | none=>rw [z] at hx;cases hx
    | some d0=>
     rw [z] at hx
     cases hx
     have hi:i<S.ex.length:=by have:=(List.getElem?_eq_some_iff.mp z).1;rw [C2] at this;exact this
     obtain⟨r,hr⟩:∃r,F[i]? =some r:=⟨F[i],by simp⟩
     obtain⟨ra,rfl,hra⟩:=rows i r y hr hy
     have nT:=Ab.new (o:= .tup [.int d0,.ref ra]) hT
     have ev1:Ev R H2 (upd H' T (.tup [.int d0,.ref ra])):=ev.trans (Ev.same nT)
     refine⟨T,_,rfl,Ac.of Ag,rfl,_,_,rfl,_,_,rfl,rfl,ra,r,rfl,.inl (ev1.lst hra (nRow i r ra hr hy)),_,_,rfl,⟨λc=>?_,λc=>?_⟩⟩
     ·have c':=of_decide_eq_true c
      have c':(if AT P S F i+r.sum-d0<P.hi then AT P S F i+r.sum-d0 else P.hi)<P.lo:=c'
      rw [Hn (EN hr) (EO z)] at c'
      exact q R _ i (some ((i:Int),P.lo-BB P S F i)) ⟨Nat.le_of_lt hi,up,.inr ⟨hi,(Ho hlh).mp c',rfl⟩⟩ (Ab.evOwn sH2 hHR ev1) hHR (nT _ _ hRx)
     ·have c':=of_decide_eq_false c
      have c':¬(if AT P S F i+r.sum-d0<P.hi then AT P S F i+r.sum-d0 else P.hi)<P.lo:=c'
      have em:=Hn (EN hr) (EO z)
      rw [em] at c'
      have kR:=nT _ _ hRx
      refine⟨.inl ⟨rfl,_,Ai.of kR⟩,R,_,_,rfl,rfl,kR,Dk (by rw [List.length_map,Jt];omega),⟨some (.int d0),some (.ref ra),congrArg (λz=>[some (V.ref m),some (.ref D),some (.ref GA),some (.int P.lo),some (.int P.hi),some (.int z),some (.ref R),some (.int d0),some (.ref ra)]) em⟩,ev1.trans (Ev.pen kR),λj hj=>?_,?_⟩
      ·by_cases cj:j=i
       ·subst cj
        exact Int.not_lt.mp λw=>c' ((Ho hlh).mpr w)
       ·exact up j (by omega)
      ·rw [Ag,Mj,List.map_append]
       exact congrArg (λz=>some (HO.lst ((Dl P S F i).map V.int++[V.int z]))) em
   ·obtain⟨⟨y7,y8,rfl⟩,ev,up,hRx⟩:=h
    rw [List.length_map,C2] at up hRx
    exact q R H' S.ex.length none ⟨Nat.le_refl _,up,.inl ⟨rfl,rfl⟩⟩ (Ab.evOwn sH2 hHR ev) hHR hRx
 ·exact h.elim
theorem Ss:AB ["_law_plant_here","_law_story_here","_law_firing_here"] ["_law_plant_here","_law_story_here","_law_firing_here"] (Ax s__law_keeps):=AD
theorem Su (F:Df K mg "_law_keeps" s__law_keeps ["_law_plant_here","_law_story_here","_law_firing_here"]) (T:Tx mg) (D__law_draws:E2 P w K mg base) (D__law_mains:Fn P w K mg base 1 "_law_mains" ["_law_main","_law_draws_here","_law_firing_here"] Hr):Fn P w K mg base 2 "_law_keeps" ["_law_plant_here","_law_story_here","_law_firing_here"] FG:=by
 refine F.fn Ss (λvs H Q E h=>?_) (λf cdv A outer s H vs Q E hr h=>?_)
 ·unfold FG at h;split at h;rfl;exact h.elim
 refine⟨_,(An (Aq (CG Do (Aw (AR K) rfl T.b_len PySem.boot_len (Ao (Af D__law_mains (hr.mono (by decide)) rfl (AG (Az (AF K) (cy 0) pe_int (λ_ _=>rfl)) (Af D__law_draws (hr.mono (by decide)) rfl (Am (cy 0) (cy 1))) (cy 2))))) (Aw (AR K) rfl T.b_len PySem.boot_len (Ao (cy 2))) (AX _)))),?_⟩
 unfold FG at h
 split at h
 ·rename_i v u f
  obtain⟨p,P,S,F,ok,so,fl,r,ru,fd,q⟩:=h
  have x8:=so.x8
  have hl:P.lo<=P.hi:=Int.le_trans ok.ls ok.sh
  obtain⟨PA,PB,PE,PM,xb,xe,rfl,pA,pB,rb,pE,re,pM⟩:=Aa.plant r
  refine⟨PA,_,2,.ref PM,rfl,rfl,Ac.of pA,rfl,p,P,S,ok,so,r,ru,λd H1 s1 rd=>⟨p,P,S,F,hl,x8,fl,s1 _ _ pM,rd,fd.same s1,λR H2 k s run s2 hR hRx=>?_⟩⟩
  have fd2:=(fd.same (s1.trans s2))
  obtain⟨GA,gx,rfl,lg,fdc⟩:=fd2
  have kg:Ai K H2 GA gx\/Ac K H2 GA gx:=fdc.elim (λz=> .inr (Ac.of z.1)) λz=> .inl (Ai.of z.1)
  refine⟨R,_,rfl,.inl (Ai.of hRx),GA,gx,rfl,kg,rfl,?_⟩
  refine q _ _ ?_ (s1.trans s2)
  rw [List.length_map,Jt,lg,fl]
  constructor
  ·intro c i hi
   have e:(k:Int)=(S.ex.length:Int):=by
    have:=of_decide_eq_true c
    injection this
   exact run.up i (by omega)
  ·intro kp
   refine decide_eq_true ?_
   rcases run.fin with⟨_,e⟩ | ⟨e1,e2,_⟩
   ·rw [e]
   ·have:=kp k e1
    omega
 ·exact h.elim
theorem sc__law_pair:AB ["_law_pen_here","_law_most","_law_hours","_law_turn","_law_plant_here","_law_story_here"] ["_law_pen_here","_law_most","_law_hours"] (Ax s__law_pair):=AD
theorem Sv (F:Df K mg "_law_pair" s__law_pair ["_law_pen_here","_law_most","_law_hours"]) (T:Tx mg) (D__law_caps:Eu P w K mg base) (D__law_keeps:Fn P w K mg base 2 "_law_keeps" ["_law_plant_here","_law_story_here","_law_firing_here"] FG) (D__law_plant:Fn P w K mg base 2 "_law_plant" ["_law_pen_here","_law_most"] Fy) (D__law_story:Fn P w K mg base 2 "_law_story" ["_law_pen_here","_law_plant_here","_law_most"] FE):Fn P w K mg base 3 "_law_pair" ["_law_pen_here","_law_most","_law_hours"] Hs:=by
 refine F.fn sc__law_pair (λvs H Q E h=>?_) (λf cdv A outer s H vs Q E hr h=>?_)
 ·unfold Hs at h;split at h;rfl;exact h.elim
 refine⟨_,(Ak (Bw PassesOwn.never rfl (CT rfl T.b_range (Ao pe_int)) (Aj 3 sc__law_pair.nd) (Ak (AI (i:=4) sc__law_pair.nd rfl (AE (by rfl)) (Af D__law_plant (hr.mono (by decide)) rfl (Am (cy 0) (cy 1)))) (Ak (AI (i:=5) sc__law_pair.nd rfl (AE (by rfl)) (Af D__law_story (hr.mono (by decide)) rfl (AG (cy 0) (cy 4) (cy 2)))) (An (A2 (Bh (Af D__law_keeps (hr.mono (by decide)) rfl (AG (cy 4) (cy 5) (Af D__law_caps (hr.mono (by decide)) rfl (Am (cy 4) (cy 5)))))) (An (Aq (BI (Am (cy 4) (cy 5))))) AZ))))) (An (Aq (BI (Am (Au C1 (Cj s_tup (cy 4) CH (BP pe_int)) (BI (Am (BI pa_nil) (Az (AF K) (cy 4) pe_int (λ_ _=>rfl))))) (BI (Am (Au PF (BI (Ao pe_int)) (Aw (AR K) rfl T.b_len PySem.boot_len (Ao (Az (AF K) (cy 5) pe_int (λ_ _=>rfl))))) (Az (AF K) (cy 5) pe_int (λ_ _=>rfl))))))))),?_⟩
 unfold Hs at h
 split at h
 ·rename_i p m h
  obtain⟨pn,m1,m4,h1,h8,q⟩:=h
  refine⟨5,rfl,by decide,by decide,C7 (n:=5) (λi σ H'=>(∃x3 x4 x5,σ=[some (.ref p),some (.int m),some (.int h),x3,x4,x5]/\(0<i->∃v u P S,x4=some v/\x5=some u/\PL.ok P/\SY.ok S P.bs.length/\Aa p H' P.d v/\Aa p H' S.d u))/\Ev p H H'/\AV p H') ⟨⟨_,_,_,rfl,λz=>absurd z (Nat.lt_irrefl _)⟩,Ev.refl,pn⟩ (λi σ H1 hi hP=>?_) fun σ H1 hP=>?_⟩
  ·obtain⟨⟨x3,x4,x5,rfl,_⟩,e1,pn1⟩:=hP
   refine⟨pn1,m1,m4,λv H2 bs es lo hi st gp rv e2 pn2=>?_⟩
   obtain⟨P,ok,eP⟩:=gp.pl
   rw [eP] at rv
   refine⟨pn2,h1,h8,P,ok,rv,λu H3 S so ru e3 pn3=>?_⟩
   have rv3:=Aa.ev e3 _ _ rv
   refine⟨p,P,S,ok,so,rv3,ru,λc H4 s4 rc=>⟨p,P,S,caps P S,ok,so,A7,Aa.ev (Ev.same s4) _ _ rv3,Aa.ev (Ev.same s4) _ _ ru,Feed.of rc,λb H5 hb s5=>⟨λcc=>?_,λcc=>?_⟩⟩⟩
   ·intro t ht
    have n1:=Ab.new (o:= .tup [v,u]) ht
    have s45:=s4.trans (s5.trans n1)
    exact q t _ P S v u ok so (hb.mp cc) Ag (Aa.ev (Ev.same s45) _ _ rv3) (Aa.ev (Ev.same s45) _ _ ru) (e1.trans (e2.trans (e3.trans (Ev.same s45)))) (pn3.same s45)
   ·have s45:=s4.trans s5
    exact⟨⟨_,_,_,rfl,λ_=>⟨v,u,P,S,rfl,rfl,ok,so,Aa.ev (Ev.same s45) _ _ rv3,Aa.ev (Ev.same s45) _ _ ru⟩⟩,e1.trans (e2.trans (e3.trans (Ev.same s45))),pn3.same s45⟩
  ·obtain⟨⟨x3,x4,x5,rfl,hh⟩,e1,pn1⟩:=hP
   obtain⟨v,u,P,S,rfl,rfl,ok,so,rv,ru⟩:=hh (by decide)
   obtain⟨A,B,E,xf,rfl,hA,hB,hE,rf⟩:=Aa.story ru
   obtain⟨PA,PB,PE,PM,xb,xe,rfl,pA,pB,rb,pE,re,pM⟩:=Aa.plant rv
   have x8:=so.x8
   have x1:=so.x1
   refine⟨1,rfl,PA,_,rfl,pA,λu1 H2 s2 k2 z1 hz1=>?_⟩
   have n1:=Ab.new (o:= .tup []) hz1
   refine⟨PA,_,2,.ref PM,rfl,rfl,Ac.of ((s2.trans n1) _ _ pA),rfl,λz2 hz2=>?_⟩
   have n2:=Ab.new (o:= .tup [.ref z1,.ref PM]) hz2
   have s12:=s2.trans (n1.trans n2)
   refine⟨u1,z2,_,_,rfl,rfl,(n1.trans n2) _ _ k2,Ag,(show(1:Nat)+2<=1000 by decide),λu3 H3 s3 k3 z3 hz3=>?_⟩
   have n3:=Ab.new (o:= .tup [.int 0]) hz3
   have s13:=s12.trans (s3.trans n3)
   refine⟨A,_,0,.ref B,rfl,rfl,Ac.of (s13 _ _ hA),rfl,B,_,rfl,.inr (Ac.of (s13 _ _ hB)),z3,_,[.int 0],rfl,rfl,Ag,by simp,(by rw [List.length_map];omega),(by rw [List.length_map];omega),by simp,λu4 H4 s4 k4=>?_⟩
   rw [List.length_map,Int.toNat_natCast,Sl] at k4
   have s14:=s13.trans s4
   refine⟨A,_,1,.ref E,rfl,rfl,Ac.of (s14 _ _ hA),rfl,λz5 hz5 t ht=>?_⟩
   have n5:=Ab.new (o:= .tup [.ref u4,.ref E]) hz5
   have n6:=Ab.new (o:= .tup [.ref u3,.ref z5]) ht
   have s16:=s14.trans (n5.trans n6)
   let P':PL:=⟨P.bs,[],P.lo,P.hi,P.st⟩
   let S':SY:=⟨List.replicate S.ex.length 0,S.fs⟩
   have ok':PL.ok P':=⟨ok.b,ok.b1,ok.b4,λ_ z=>(by cases z),Nat.zero_le _,ok.lo0,ok.ls,ok.sh,ok.h4⟩
   have le':S'.ex.length=S.ex.length:=List.length_replicate
   have so':SY.ok S' P'.bs.length:=⟨by rw [le'];exact so.x1,by rw [le'];exact so.x8,λa ha=>by rw [List.eq_of_mem_replicate ha];omega,so.f4,λx hx=>by rw [le'];exact so.f x hx⟩
   have z1k:=((n2.trans (s3.trans (n3.trans (s4.trans (n5.trans n6))))) _ _ (Ag (H:=H2) (a:=z1) (o:= .tup [])))
   refine q t _ P' S' (.ref u3) (.ref z5) ok' so' (Sm ok' so' rfl λa ha=>List.eq_of_mem_replicate ha) Ag ?_ ?_ (e1.trans (Ev.same s16)) (pn1.same s16)
   ·have k3':=(n3.trans (s4.trans (n5.trans n6))) _ _ k3
    refine Aa.tup (xs:=[.ref PB,.ref z1,.ref PM]) k3' (.cons (Aa.tup (s16 _ _ pB) (Ad.ev (Ev.same s16) _ _ rb)) (.cons (Aa.tup z1k .nil) (.cons (Aa.tup (s16 _ _ pM) (.cons Aa.int (.cons Aa.int (.cons Aa.int .nil)))) .nil)))
   ·have k5:=n6 _ _ (Ag (H:=H4) (a:=z5) (o:= .tup [.ref u4,.ref E]))
    refine Aa.tup k5 (.cons (Aa.row ?_) (.cons (Aa.tup (s16 _ _ hE) (Ad.ev (Ev.same s16) _ _ rf)) .nil))
    have:=(n5.trans n6) _ _ k4
    rw [this,List.map_replicate]
 ·exact h.elim
end
end MF
end
section
namespace MF
open PySem PySem.Spec PyProof.Rows L2
variable {T : TM} {a : PyData} {i : Nat} {S : SY}
def CM (n:Int) (d:PyData):Bool:=match d with
 | .tuple [a,b]=>AQ b 0 (n-1) &&(match b with | .int l=>AQ a 0 l | _=>false)
 | _=>false
def Bs (T:TM) (d:PyData):Bool:=CM T.ds.length d &&(match d with | .tuple [.int f,.int l]=>BL T f.toNat l.toNat | _=>false)
theorem Ju {n:Int}{d:PyData} (h:CM n d=true):∃f l:Nat,d=pD (f,l)/\f<=l/\(l:Int)<n:=by
 cases d<;>first | cases h | skip
 rename_i ds
 match ds,h with
 | [a,b],h=>
  unfold CM at h
  dsimp only at h
  cases b<;>first | cases h | skip
  rename_i l
  obtain⟨h1,h2⟩:=Bool.and_eq_true_iff.mp h
  dsimp only at h2
  cases a<;>first | cases h2 | skip
  rename_i f
  unfold AQ at h1 h2
  dsimp only at h1 h2
  obtain⟨a1,a2⟩:=Bool.and_eq_true_iff.mp h1
  obtain⟨b1,b2⟩:=Bool.and_eq_true_iff.mp h2
  have a1:=of_decide_eq_true a1
  have a2:=of_decide_eq_true a2
  have b1:=of_decide_eq_true b1
  have b2:=of_decide_eq_true b2
  obtain⟨F,rfl⟩:∃n:Nat,f=(n:Int):=⟨f.toNat,by omega⟩
  obtain⟨L,rfl⟩:∃n:Nat,l=(n:Int):=⟨l.toNat,by omega⟩
  exact⟨F,L,rfl,by omega,by omega⟩
 | [],h=>cases h
 | [_],h=>cases h
 | _::_::_::_,h=>cases h
theorem Sw {n f l:Nat} (h:f<=l) (hl:l<n):CM (n:Int) (pD (f,l))=true:=by
 unfold CM
 dsimp only
 rw [BU (by omega) (by omega),BU (by omega) (by omega)];rfl
theorem Ht {f l:Nat} (hl:l<T.ds.length):Bs T (pD (f,l))=(decide (f<=l) && BL T f l):=by
 unfold Bs
 by_cases c:f<=l
 ·rw [Sw c hl,decide_eq_true c];rfl
 ·have e:CM (T.ds.length:Int) (pD (f,l))=false:=by
   cases z:CM (T.ds.length:Int) (pD (f,l)) with
   | false=>rfl
   | true=>
    obtain⟨F,L,e,h1,h2⟩:=Ju z
    injection e with e
    injection e with e1 e2
    injection e2 with e2 _
    injection e1 with e1
    injection e2 with e2
    omega
  rw [e,decide_eq_false c];rfl
def Hu:Sp:=λvs H Q _=>match vs with | [.int n,v]=>∃p d,Aa p H d v/\∀b H',b=CM n d->Ab H H'->Q (.bl b) H' | _=>False
def FH:Sp:=λvs H Q _=>match vs with | [v,u]=>∃p T d,TM.ok T/\Aa p H T.d v/\Aa p H d u/\∀b H',b=Bs T d->Ab H H'->Q (.bl b) H' | _=>False
theorem Ml {q:Nat×Nat} (h:Co T=some q):q.1<=q.2/\q.2<T.ds.length/\BL T q.1 q.2=true:=by
 unfold Co at h
 have m:q∈Fs T:=List.mem_of_head? h
 unfold Fs at m
 obtain⟨m1,m2⟩:=List.mem_filter.mp m
 obtain⟨h1,h2⟩:=P4 (Nat.le_refl _) q m1
 exact⟨h1,h2,m2⟩
theorem Sx {a b c:V}:Bq [a,b,c] (some 1) none=[b,c]:=Fv
theorem Jv {X:Cx}{j:Nat}{p q:Pos}:PE X (.UnaryOp .USub (.Constant (.int 1) j p) q) (tC (.int (-1))):=(Ik Im pe_int).weak fun σ H Q z=>⟨1,rfl,z⟩
def By (n:Nat) (c:List Int):List (List Int):=if c=[] then [] else Ba n (c.length-1)
def DZ (c:List Int):Bool:=(List.range (c.length-1)).all λj=>decide (c.getD j 0<c.getD (j+1) 0)
theorem Sy {a b:Int}{r:List Int}:DZ (a::b::r)=(decide (a<b) && DZ (b::r)):=by
 unfold DZ
 rw [show(a::b::r).length-1=r.length+1 from rfl,List.range_succ_eq_map,List.all_cons,List.all_map]
 rfl
theorem Jw:∀c:List Int,DZ c=true↔c.Pairwise (· < ·)
 | []=>by simp [DZ]
 | [a]=>by simp [DZ]
 | a::b::r=>by
  rw [Sy,Bool.and_eq_true,decide_eq_true_eq,Jw (b::r),List.pairwise_cons (a:=a)]
  constructor
  ·rintro⟨h1,h2⟩
   refine⟨λx hx=>?_,h2⟩
   rcases List.mem_cons.mp hx with rfl | hx
   ·exact h1
   ·exact Int.lt_trans h1 ((List.pairwise_cons.mp h2).1 x hx)
  ·rintro⟨h1,h2⟩
   exact⟨h1 b (by simp),h2⟩
def Jx:PyData->Int
 | .int i=>i
 | _=>0
def D0 (n:Nat) (d:PyData):Bool:=AS d 0 n &&(match d with | .tuple es=>(es.all λe=>AQ e 0 ((n:Int)-1)) && DZ (es.map Jx) | _=>false)
theorem Mm {e:PyData}{lo hi:Int} (h:AQ e lo hi=true):∃i,e= .int i/\lo<=i/\i<=hi:=by
 cases e with
 | int i=>
  unfold AQ at h
  obtain⟨a1,a2⟩:=Bool.and_eq_true_iff.mp h
  exact⟨i,rfl,of_decide_eq_true a1,of_decide_eq_true a2⟩
 | _=>cases h
theorem Hv {lo hi:Int}:∀ {es:List PyData},(es.all λe=>AQ e lo hi)=true->∃r:List Int,es=r.map .int/\∀i∈r,lo<=i/\i<=hi
 | [],_=>⟨[],rfl,λi hi=>nomatch hi⟩
 | e::es,h=>by
  rw [List.all_cons,Bool.and_eq_true_iff] at h
  obtain⟨r,rfl,b⟩:=Hv h.2
  obtain⟨i,rfl,h1,h2⟩:=Mm h.1
  refine⟨i::r,rfl,λj hj=>?_⟩
  rcases List.mem_cons.mp hj with rfl | hj
  ·exact⟨h1,h2⟩
  ·exact b j hj
theorem FI {r:List Int}:(r.map PyData.int).map Jx=r:=by rw [List.map_map];exact List.map_id' r
theorem Sz {n:Nat}{d:PyData} (h:D0 n d=true):∃c,d=Ay c/\IsSet n c:=by
 unfold D0 at h
 obtain⟨h1,h2⟩:=Bool.and_eq_true_iff.mp h
 obtain⟨es,rfl,_,_⟩:=C5 h1
 obtain⟨h3,h4⟩:=Bool.and_eq_true_iff.mp h2
 obtain⟨r,rfl,b⟩:=Hv h3
 rw [FI] at h4
 exact⟨r,rfl,(Jw r).mp h4,λx hx=>by have:=b x hx;omega⟩
theorem SC {n:Nat}{c:List Int} (st:IsSet n c):D0 n (Ay c)=true:=by
 have l:=st.len
 unfold D0 Ay
 dsimp only
 rw [CL (by rw [List.length_map];omega) (by rw [List.length_map];omega),FI,(Jw c).mpr st.up,Bool.true_and,Bool.and_true,List.all_map,List.all_eq_true]
 intro x hx
 have:=st.bd x hx
 exact BU this.1 (by omega)
def Hw:Sp:=λvs H Q _=>match vs with | [x]=>∃p c,c.length<=1000/\Aa p H (Ay c) x/\∀H',Ab H H'->Q (.bl (DZ c)) H' | _=>False
def Hx:Sp:=λvs H Q _=>match vs with | [.int m,x]=>∃p n d,m=((n:Nat):Int)/\n<=4/\Aa p H d x/\∀b H',b=D0 n d->Ab H H'->Q (.bl b) H' | _=>False
def Hy:Sp:=λvs H Q _=>match vs with | [x]=>∃p c,Aa p H (Ay c) x/\∀H',Ab H H'->Q (.int (BM c)) H' | _=>False
def Hz:Sp:=λvs H Q _=>match vs with | [.int m,.int j]=>∃p n k,m=((n:Nat):Int)/\j=((k:Nat):Int)/\n<=4/\k<=4/\∀R H' xs,Ab H H'->H R=none->H' R=some (.lst xs)->Ad p H' ((Ba n k).map Ay) xs->Q (.ref R) H' | _=>False
def FJ:Sp:=λvs H Q _=>match vs with | [t,x]=>∃p T c,Fu T/\Aa p H T.d t/\Aa p H (Ay c) x/\ret H Q p (only T c).d | _=>False
def HA:Sp:=λvs H Q _=>match vs with | [.int m,x]=>∃p n c,m=((n:Nat):Int)/\n<=4/\IsSet n c/\Aa p H (Ay c) x/\∀R H' xs,Ab H H'->H R=none->H' R=some (.lst xs)->Ad p H' ((By n c).map Ay) xs->Q (.ref R) H' | _=>False
theorem SD {p:Int->Bool}:(Dz (i+1)).filter p=if p (i:Int)=true then(Dz i).filter p++[(i:Int)] else(Dz i).filter p:=by
 have e:Dz (i+1)=Dz i++[(i:Int)]:=by unfold Dz;rw [List.range_succ,List.map_append];rfl
 rw [e,List.filter_append]
 by_cases h:p (i:Int)=true
 ·rw [if_pos h,List.filter_cons_of_pos h];rfl
 ·rw [if_neg h,List.filter_cons_of_neg h];simp
theorem E3 {l:List Int}{x:V} (h:(l.map V.int)[i]? =some x):∃m,l[i]? =some m/\x= .int m:=by
 rw [List.getElem?_map] at h
 cases z:l[i]? with
 | none=>rw [z] at h;cases h
 | some m=>rw [z] at h;cases h;exact⟨m,rfl,rfl⟩
theorem Mo {α β:Type}{f:α->List β}{l:List α}{a:Nat}:((l.take a).flatMap f).length<=(l.flatMap f).length:=by
 conv=>rhs;rw [<-List.take_append_drop a l,List.flatMap_append,List.length_append]
 exact Nat.le_add_right _ _
theorem Mp {c r:List Int}{j:Nat}{m:Int} (h:r[j]? =some m):(Bm c r)[j]? =some (if (j:Int)∈c then m else 0):=by
 unfold Bm
 rw [List.getElem?_map,List.getElem?_zipIdx,h];simp
def Bz (c:List Int) (d:PyData):Bool:=AS d c.length c.length &&(match d with | .tuple es=>(es.zip c).all λq=>AQ q.1 0 q.2 | _=>false)
def BO (cs:List (List Int)) (d:PyData):Bool:=AS d cs.length cs.length &&(match d with | .tuple rs=>(rs.zip cs).all λq=>Bz q.2 q.1 | _=>false)
def HB:Sp:=λvs H Q _=>match vs with | [v,u]=>∃p d c,Aa p H d v/\Aa p H (Ay c) u/\c.length<=1000/\∀b H',b=Bz c d->Ab H H'->Q (.bl b) H' | _=>False
def HC:Sp:=λvs H Q _=>match vs with | [u,v]=>∃p d cs,Aa p H d v/\Aa p H (FD cs) u/\cs.length<=1000/\(∀c∈cs,c.length<=1000)/\∀b H',b=BO cs d->Ab H H'->Q (.bl b) H' | _=>False
theorem DB {a b:List Int} (h:Ay a=Ay b):a=b:=by
 injection h with h
 have:=congrArg (List.map Jx) h
 rwa [FI,FI] at this
theorem eqv_str {d:PyData}{s:Str}:PyData.eqv d (.str s)=true↔d= .str s:=by
 cases d<;>simp [PyData.eqv]
def FK (d:PyData):Prop:=∀x ds,d= .tuple (x::ds)->x.canLay0=true/\x.hasDict=false
def E4 (T:TM) (d:PyData):Prop:=∃q:Nat×Nat,d= .tuple [.str "short",.int q.1,.int q.2]/\q.1<=q.2/\q.2<T.ds.length/\BL T q.1 q.2=true
theorem isShown_iff {b:PyData}:Bs T (.tuple [a,b])=true↔ ∃q:Nat×Nat,a= .int q.1/\b= .int q.2/\q.1<=q.2/\q.2<T.ds.length/\BL T q.1 q.2=true:=by
 constructor
 ·intro h
  have h1:CM (T.ds.length:Int) (.tuple [a,b])=true:=by
   unfold Bs at h
   exact(Bool.and_eq_true_iff.mp h).1
  obtain⟨f,l,e,hfl,hl⟩:=Ju h1
  injection e with e
  injection e with e1 e2
  injection e2 with e2 _
  subst e1 e2
  have h2:Bs T (pD (f,l))=true:=h
  rw [Ht (by omega),decide_eq_true hfl,Bool.true_and] at h2
  exact⟨(f,l),rfl,rfl,hfl,by show l<_;omega,h2⟩
 ·rintro⟨q,rfl,rfl,h1,h2,h3⟩
  show Bs T (pD (q.1,q.2))=true
  rw [Ht h2,decide_eq_true h1,h3];rfl
theorem Mq:∀ {c:List Int}{es:List PyData},es.length=c.length->((es.zip c).all λq=>AQ q.1 0 q.2)=true->∃r:List Int,es=r.map .int/\∀(j:Nat) (x m:Int),r[j]? =some x->c[j]? =some m->0<=x/\x<=m
 | [],[],_,_=>⟨[],rfl,λj x m h=>by simp at h⟩
 | [],_::_,h,_=>by simp at h
 | _::_,[],h,_=>by simp at h
 | a::c,e::es,hl,h=>by
  rw [List.zip_cons_cons,List.all_cons,Bool.and_eq_true_iff] at h
  obtain⟨i,rfl,i0,i1⟩:=Mm h.1
  obtain⟨r,rfl,hr⟩:=Mq (by simpa using hl) h.2
  refine⟨i::r,rfl,λj x m hx hm=>?_⟩
  cases j with
  | zero=>simp at hx hm;omega
  | succ j=>exact hr j x m (by simpa using hx) (by simpa using hm)
theorem SF {c:List Int}{d:PyData} (h:Bz c d=true):∃r:List Int,d=Ay r/\r.length=c.length/\∀(j:Nat) (x m:Int),r[j]? =some x->c[j]? =some m->0<=x/\x<=m:=by
 unfold Bz at h
 obtain⟨h1,h2⟩:=Bool.and_eq_true_iff.mp h
 obtain⟨es,rfl,a,b⟩:=C5 h1
 have hl:es.length=c.length:=by omega
 obtain⟨r,rfl,hr⟩:=Mq hl h2
 exact⟨r,rfl,by rw [List.length_map] at hl;exact hl,hr⟩
theorem Mr:∀ {cs:List (List Int)}{rs:List PyData},rs.length=cs.length->((rs.zip cs).all λq=>Bz q.2 q.1)=true->∃F:List (List Int),rs=F.map Ay/\F.length=cs.length/\∀(i:Nat) (r c:List Int),F[i]? =some r->cs[i]? =some c->r.length=c.length/\∀(j:Nat) (x m:Int),r[j]? =some x->c[j]? =some m->0<=x/\x<=m
 | [],[],_,_=>⟨[],rfl,rfl,λi r c h=>by simp at h⟩
 | [],_::_,h,_=>by simp at h
 | _::_,[],h,_=>by simp at h
 | c::cs,d::rs,hl,h=>by
  rw [List.zip_cons_cons,List.all_cons,Bool.and_eq_true_iff] at h
  obtain⟨r,rfl,lr,hr⟩:=SF h.1
  obtain⟨F,rfl,lF,hF⟩:=Mr (by simpa using hl) h.2
  refine⟨r::F,rfl,by simp [lF],λi r' c' hx hm=>?_⟩
  cases i with
  | zero=>simp at hx hm;subst hx hm;exact⟨lr,hr⟩
  | succ i=>exact hF i r' c' (by simpa using hx) (by simpa using hm)
theorem Jy:∀ {F G:List (List Int)},FD F=FD G->F=G
 | [],[],_=>rfl
 | a::F,b::G,h=>by
  injection h with h
  injection h with h1 h2
  rw [DB h1,Jy (F:=F) (G:=G) (congrArg PyData.tuple h2)]
 | [],_::_,h=>by injection h with h;cases h
 | _::_,[],h=>by injection h with h;cases h
def HD:Sp:=λvs H Q _=>match vs with | [v,x]=>∃p T d,TM.ok T/\Aa p H T.d v/\Aa p H d x/\FK d/\∀b H',(b=true↔E4 T d)->Ab H H'->Q (.bl b) H' | _=>False
theorem SG {ds:List PyData} (h:AS (.tuple ds) 3 3=true):∃a b c,ds=[a,b,c]:=by
 obtain⟨es,e,h1,h2⟩:=C5 h
 injection e with e
 subst e
 match ds,h1,h2 with
 | [a,b,c],_,_=>exact⟨a,b,c,rfl⟩
 | [],h1,_=>simp at h1
 | [_],h1,_=>simp at h1
 | [_,_],h1,_=>simp at h1
 | _::_::_::_::_,_,h2=>simp at h2;omega
theorem SH {ds:List PyData} (h:AS (.tuple ds) 4 4=true):∃a b c d,ds=[a,b,c,d]:=by
 obtain⟨es,e,h1,h2⟩:=C5 h
 injection e with e
 subst e
 match ds,h1,h2 with
 | [a,b,c,d],_,_=>exact⟨a,b,c,d,rfl⟩
 | [],h1,_=>simp at h1
 | [_],h1,_=>simp at h1
 | [_,_],h1,_=>simp at h1
 | [_,_,_],h1,_=>simp at h1
 | _::_::_::_::_::_,_,h2=>simp at h2;omega
def Jz (n:Nat) (T:TM) (c:List Int) (sh:List PyData):Prop:=sh.length=(By n c).length/\∀(i:Nat) (d:PyData) (e:List Int),sh[i]? =some d->(By n c)[i]? =some e->Bs (only T e) d=true
def Ex (P:PL) (S:SY) (d:PyData):Prop:=∃c F sh,d= .tuple [.str "lit",Ay c,FD F,.tuple sh]/\IsSet P.bs.length c/\BO (only (terms P S) c).cs (FD F)=true/\Ew P S F/\Jz P.bs.length (terms P S) c sh
theorem Ms {P:PL}{F:List (List Int)}{k:Nat}{s:Option (Int×Int)} (r:Fp P S F k s):s.isNone=true↔Ew P S F:=by
 rcases r.fin with⟨rfl,e⟩ | ⟨h1,h2,rfl⟩
 ·refine⟨λ_ i hi=>r.up i (by omega),λ_=>rfl⟩
 ·refine⟨λz=>(by cases z),λkp=>?_⟩
  have:=kp k h1
  omega
theorem SI {cs:List (List Int)}{d:PyData} (h:BO cs d=true):∃F:List (List Int),d=FD F/\F.length=cs.length/\∀(i:Nat) (r c:List Int),F[i]? =some r->cs[i]? =some c->r.length=c.length/\∀(j:Nat) (x m:Int),r[j]? =some x->c[j]? =some m->0<=x/\x<=m:=by
 unfold BO at h
 obtain⟨h1,h2⟩:=Bool.and_eq_true_iff.mp h
 obtain⟨rs,rfl,a,b⟩:=C5 h1
 obtain⟨F,rfl,lF,hF⟩:=Mr (by omega) h2
 exact⟨F,rfl,lF,hF⟩
theorem JA {P:PL} (ok:P.ok) (so:S.ok P.bs.length) {c:List Int}{d:PyData} (h:BO (only (terms P S) c).cs d=true):∃F,d=FD F/\FOk P S F:=by
 obtain⟨F,rfl,lF,hF⟩:=SI h
 have fo:=Jk ok so (c:=c)
 have gc:∀ {i:Nat}{r:List Int},F[i]? =some r->∃e,(only (terms P S) c).cs[i]? =some e:=λ{i r} hr=>⟨_,List.getElem?_eq_getElem (by rw [<-lF];exact(List.getElem?_eq_some_iff.mp hr).1)⟩
 refine⟨F,rfl,by rw [lF];exact fo.len,λi r hr=>?_,λi r j x m hr hx hm=>?_⟩
 ·obtain⟨e,he⟩:=gc hr
  rw [(hF i r e hr he).1];exact fo.row i e he
 ·obtain⟨e,he⟩:=gc hr
  have h1:=hF i r e hr he
  obtain⟨y,hy⟩:∃y,e[j]? =some y:=⟨_,List.getElem?_eq_getElem (by rw [<-h1.1];exact(List.getElem?_eq_some_iff.mp hx).1)⟩
  have h2:=h1.2 j x y hx hy
  have h3:=fo.bd i e j y m he hy hm
  omega
def HE:Sp:=λvs H Q _=>match vs with | [t,.ref R,x]=>∃p T n c xs d,Fu T/\(By n c).length<=100/\Aa p H T.d t/\H R=some (.lst xs)/\Ad p H ((By n c).map Ay) xs/\Aa p H d x/\∀b H',(b=true↔ ∃sh,d= .tuple sh/\Jz n T c sh)->Ab H H'->Q (.bl b) H' | _=>False
def HF:Sp:=λvs H Q _=>match vs with | [v,u,x]=>∃p P S d,PL.ok P/\SY.ok S P.bs.length/\Aa p H P.d v/\Aa p H S.d u/\Aa p H d x/\FK d/\∀b H',(b=true↔Ex P S d)->Ab H H'->Q (.bl b) H' | _=>False
def HG:Sp:=λvs H Q _=>match vs with | [v,u,x]=>∃p P S d,PL.ok P/\SY.ok S P.bs.length/\Aa p H P.d v/\Aa p H S.d u/\Aa p H d x/\FK d/\∀b H',(b=true↔E4 (terms P S) d\/Ex P S d)->Ab H H'->Q (.bl b) H' | _=>False
theorem E5 {b c d a' b' c' d':PyData} (h:PyData.tuple [a,b,c,d]= .tuple [a',b',c',d']):a=a'/\b=b'/\c=c'/\d=d':=by
 injection h with h
 injection h with h1 h
 injection h with h2 h
 injection h with h3 h
 injection h with h4 _
 exact⟨h1,h2,h3,h4⟩
section
variable {P : Program} {w : World} {K : PySem.W.Frag} {mg : Str -> Option Value} {base : Heap}
theorem sc_is_stretch:AB ["hours","thing","first","last"] ["hours","thing"] (Ax s_is_stretch):=AD
theorem SJ (F:Df K mg "is_stretch" s_is_stretch ["hours","thing"]) (T:Tx mg) (D_is_tuple_of:BT P w K mg base) (D_is_whole_from:Dj P w K mg base):Fn P w K mg base 3 "is_stretch" ["hours","thing"] Hu:=by
 refine F.fn sc_is_stretch (λvs H Q E h=>?_) (λf cdv A outer s H vs Q E hr h=>?_)
 ·unfold Hu at h;split at h;rfl;exact h.elim
 refine⟨_,(Ak (A2 (Bn (Bh (Af D_is_tuple_of (hr.mono (by decide)) rfl (AG (cy 1) pe_int pe_int)))) (An (Aq pe_bl)) AZ) (Ak (Bv (cy 1) (AM K (n:=2) (Ap (Aj 2 sc_is_stretch.nd) (Ap (Aj 3 sc_is_stretch.nd) AL)))) (An (Aq (AY (Af D_is_whole_from (hr.mono (by decide)) rfl (AG (cy 3) pe_int (Au BE (cy 0) pe_int))) (Bl (Af D_is_whole_from (hr.mono (by decide)) rfl (AG (cy 2) pe_int (cy 3))))))))),?_⟩
 unfold Hu at h
 split at h
 ·rename_i n v
  obtain⟨p,d,r,q⟩:=h
  refine⟨p,d,r,λb hb=>⟨λc=>?_,λc=>?_⟩⟩
  ·refine q false H ?_ (Ab.refl _)
   have e:AS d 2 2=false:=by rw [<-hb];simpa using c
   cases d<;>first | rfl | skip
   rename_i ds
   match ds,e with
   | [a,b],e=>cases e
   | [],_=>rfl
   | [_],_=>rfl
   | _::_::_::_,_=>rfl
  ·have e:AS d 2 2=true:=by rw [<-hb];simpa using c
   obtain⟨ds,rfl⟩:=Et e
   obtain⟨a,b,rfl⟩:=two e
   obtain⟨l,xs,rfl,hl,rs⟩:=Aa.shape r
   obtain⟨x,y,rfl,rx,ry⟩:=Ad.two rs
   refine⟨l,[x,y],rfl,Ac.of hl,rfl,x,[y],rfl,y,[],rfl,rfl,p,b,ry,λb1 e1=>⟨λc1=>?_,λc1=>?_⟩⟩
   ·rw [c1] at e1
    cases b<;>first | cases e1 | skip
    rename_i li
    unfold Aa at ry
    subst ry
    refine⟨p,a,rx,λb2 e2=>?_⟩
    exact q _ _ (by unfold CM;dsimp only;rw [e2,<-e1];rfl) (Ab.refl _)
   ·exact q _ _ (by unfold CM;dsimp only;rw [<-e1,c1];rfl) (Ab.refl _)
 ·exact h.elim
theorem sc_is_shown:AB ["terms","thing","caps","coals","draws","main"] ["terms","thing"] (Ax s_is_shown):=AD
theorem SK (F:Df K mg "is_shown" s_is_shown ["terms","thing"]) (T:Tx mg) (D_is_stretch:Fn P w K mg base 3 "is_stretch" ["hours","thing"] Hu) (D_is_too_much:Fn P w K mg base 1 "is_too_much" ["terms","stretch"] He):Fn P w K mg base 4 "is_shown" ["terms","thing"] FH:=by
 refine F.fn sc_is_shown (λvs H Q E h=>?_) (λf cdv A outer s H vs Q E hr h=>?_)
 ·unfold FH at h;split at h;rfl;exact h.elim
 refine⟨_,(Ak (Bv (cy 0) (AM K (n:=4) (Ap (Aj 2 sc_is_shown.nd) (Ap (Aj 3 sc_is_shown.nd) (Ap (Aj 4 sc_is_shown.nd) (Ap (Aj 5 sc_is_shown.nd) AL)))))) (An (Aq (AY (Af D_is_stretch (hr.mono (by decide)) rfl (Am (Aw (AR K) rfl T.b_len PySem.boot_len (Ao (cy 4))) (cy 1))) (Bl (Af D_is_too_much (hr.mono (by decide)) rfl (Am (cy 0) (cy 1)))))))),?_⟩
 unfold FH at h
 split at h
 ·rename_i v u
  obtain⟨p,T,d,ok,r,ru,q⟩:=h
  obtain⟨A,C,B,D,M,xc,rfl,hA,hC,rc,hB,hD,hM⟩:=Aa.terms r
  refine⟨A,_,rfl,Ac.of hA,rfl,_,_,rfl,_,_,rfl,_,_,rfl,_,_,rfl,rfl,?_⟩
  refine⟨D,_,rfl,.inr (Ac.of hD),p,d,ru,λb H1 e1 s1=>⟨λc=>?_,λc=>?_⟩⟩
  ·rw [c,List.length_map] at e1
   obtain⟨f,l,rfl,hfl,hl⟩:=Ju e1.symm
   refine⟨p,T,f,l,ok,Aa.ev (Ev.same s1) _ _ r,Aa.ev (Ev.same s1) _ _ ru,hfl,by omega,λH2 s2=>q _ _ ?_ (s1.trans s2)⟩
   rw [Ht (by omega),decide_eq_true hfl];rfl
  ·rw [c,List.length_map] at e1
   refine q _ _ ?_ s1
   unfold Bs
   rw [<-e1];rfl
 ·exact h.elim
theorem SL (F:Df K mg "is_row" s_is_row ["thing","caps"]) (T:Tx mg) (D_is_tuple_of:BT P w K mg base) (D_is_whole_from:Dj P w K mg base):Fn P w K mg base 3 "is_row" ["thing","caps"] HB:=by
 refine F.fn Mh (λvs H Q E h=>?_) (λf cdv A outer s H vs Q E hr h=>?_)
 ·unfold HB at h;split at h;rfl;exact h.elim
 unfold HB at h
 split at h
 ·rename_i v u
  obtain⟨p,d,c0,r,ru,h1000,q⟩:=h
  obtain⟨B,rfl,hB⟩:=Aa.ofRow ru
  refine⟨_,(An (Aq (AY (Af D_is_tuple_of (hr.mono (by decide)) rfl (AG (cy 0) (Aw (AR K) rfl T.b_len PySem.boot_len (Ao (cy 1))) (Aw (AR K) rfl T.b_len PySem.boot_len (Ao (cy 1))))) (Bl (Aw (Ct rfl) rfl T.b_all boot_all (Ao (A6 ["part","cap"] [none,none] rfl (DN P w K rfl T.b_zip (Am (cy 0) (cy 1))) (AO.of rfl) (λ_ _ _ _=>(AM K (n:=2) (Ap (Aj 0 (AJ (by rfl))) (Ap (Aj 1 (AJ (by rfl))) AL)))) (λ_ _ _ _=>A5) (λ_ _ _ _=>(Af D_is_whole_from (hr.mono (by decide)) rfl (AG (cy 0) pe_int (cy 1))))))))))),?_⟩
  refine⟨B,_,rfl,.inr (Ac.of hB),B,_,rfl,.inr (Ac.of hB),p,d,r,λb hb=>⟨λc=>?_,λc=>?_⟩⟩
  ·have hf:AS d c0.length c0.length=true:=by rw [<-c,hb,List.length_map]
   obtain⟨es,rfl,g1,g2⟩:=C5 hf
   obtain⟨A,xs,rfl,hA,rs⟩:=Aa.shape r
   have lx:=rs.len
   refine⟨A,B,rfl,⟨_,Ac.of hA⟩,⟨_,Ac.of hB⟩,walk_zip (xs:=xs) (ys:=c0.map V.int) (λi zs H'=>Ab H H'/\zs=(((es.zip c0).take i).map λq=>V.bl (AQ q.1 0 q.2))) (by omega) (by rw [List.length_map];omega) ⟨Ab.refl _,rfl⟩
    (λi zs H' h=>by rw [h.2,List.length_map];exact List.length_take_le _ _) (λi zs H' h=>⟨Ac.of (h.1 _ _ hA),Ac.of (h.1 _ _ hB)⟩) (λi x y zs H' T hx hy h hT=>?_) λzs H' h=>?_⟩
   ·obtain⟨e,he,re⟩:=rs.got hx
    rw [List.getElem?_map] at hy
    obtain⟨m,hm,rfl⟩:=Option.map_eq_some_iff.mp hy
    have s2:=h.1.trans (Ab.new (o:= .tup [x,.int m]) hT)
    refine⟨T,_,rfl,Ac.of Ag,rfl,_,_,rfl,_,_,rfl,rfl,trivial,λ_=>⟨p,e,Aa.ev (Ev.same s2) _ _ re,λb1 e1=>⟨s2,?_⟩⟩,λc=>by cases c⟩
    have hz:(es.zip c0)[i]? =some (e,m):=by rw [List.getElem?_zip_eq_some];exact⟨he,hm⟩
    rw [A3 hz,List.map_append,h.2,e1];rfl
   ·intro m hm
    refine⟨m,(es.zip c0).map λq=>AQ q.1 0 q.2,rfl,by rw [Ag,h.2,List.take_of_length_le (by rw [List.length_zip];omega),List.map_map];rfl,?_⟩
    refine q _ _ ?_ (h.1.trans (Ab.new hm))
    unfold Bz
    rw [hf]
    dsimp only
    rw [List.all_map];rfl
  ·have hf:AS d c0.length c0.length=false:=by rw [<-c,hb,List.length_map]
   exact q _ _ (by unfold Bz;rw [hf];rfl) (Ab.refl _)
 ·exact h.elim
theorem SM (F:Df K mg "is_firing_within" s_is_firing_within ["caps","thing"]) (T:Tx mg) (D_is_row:Fn P w K mg base 3 "is_row" ["thing","caps"] HB) (D_is_tuple_of:BT P w K mg base):Fn P w K mg base 4 "is_firing_within" ["caps","thing"] HC:=by
 refine F.fn Mi (λvs H Q E h=>?_) (λf cdv A outer s H vs Q E hr h=>?_)
 ·unfold HC at h;split at h;rfl;exact h.elim
 unfold HC at h
 split at h
 ·rename_i u v
  obtain⟨p,d,cs,r,ru,h1000,hc,q⟩:=h
  obtain⟨B,ys,rfl,hB,ry⟩:=Aa.firing ru
  have ly:=ry.len
  rw [List.length_map] at ly
  refine⟨_,(An (Aq (AY (Af D_is_tuple_of (hr.mono (by decide)) rfl (AG (cy 1) (Aw (AR K) rfl T.b_len PySem.boot_len (Ao (cy 0))) (Aw (AR K) rfl T.b_len PySem.boot_len (Ao (cy 0))))) (Bl (Aw (Ct rfl) rfl T.b_all boot_all (Ao (A6 ["part","row"] [none,none] rfl (DN P w K rfl T.b_zip (Am (cy 1) (cy 0))) (AO.of rfl) (λ_ _ _ _=>(AM K (n:=2) (Ap (Aj 0 (AJ (by rfl))) (Ap (Aj 1 (AJ (by rfl))) AL)))) (λ_ _ _ _=>A5) (λ_ _ _ _=>(Af D_is_row (hr.mono (by decide)) rfl (Am (cy 0) (cy 1))))))))))),?_⟩
  refine⟨B,_,rfl,.inr (Ac.of hB),B,_,rfl,.inr (Ac.of hB),p,d,r,λb hb=>⟨λc=>?_,λc=>?_⟩⟩
  ·have hf:AS d cs.length cs.length=true:=by rw [<-c,hb,ly]
   obtain⟨es,rfl,g1,g2⟩:=C5 hf
   obtain⟨A,xs,rfl,hA,rs⟩:=Aa.shape r
   have lx:=rs.len
   refine⟨A,B,rfl,⟨_,Ac.of hA⟩,⟨_,Ac.of hB⟩,walk_zip (xs:=xs) (ys:=ys) (λi zs H'=>Ab H H'/\zs=(((es.zip cs).take i).map λq=>V.bl (Bz q.2 q.1))) (by omega) (by omega) ⟨Ab.refl _,rfl⟩
    (λi zs H' h=>by rw [h.2,List.length_map];exact List.length_take_le _ _) (λi zs H' h=>⟨Ac.of (h.1 _ _ hA),Ac.of (h.1 _ _ hB)⟩) (λi x y zs H' T hx hy h hT=>?_) λzs H' h=>?_⟩
   ·obtain⟨e,he,re⟩:=rs.got hx
    obtain⟨m,hm,rm⟩:=Ad.mapGot ry hy
    have s2:=h.1.trans (Ab.new (o:= .tup [x,y]) hT)
    refine⟨T,_,rfl,Ac.of Ag,rfl,_,_,rfl,_,_,rfl,rfl,trivial,λ_=>⟨p,e,m,Aa.ev (Ev.same s2) _ _ re,Aa.ev (Ev.same s2) _ _ rm,hc m (List.mem_of_getElem? hm),λb1 H3 e1 s3=>⟨s2.trans s3,?_⟩⟩,λc=>by cases c⟩
    have hz:(es.zip cs)[i]? =some (e,m):=by rw [List.getElem?_zip_eq_some];exact⟨he,hm⟩
    rw [A3 hz,List.map_append,h.2,e1];rfl
   ·intro m hm
    refine⟨m,(es.zip cs).map λq=>Bz q.2 q.1,rfl,by rw [Ag,h.2,List.take_of_length_le (by rw [List.length_zip];omega),List.map_map];rfl,?_⟩
    refine q _ _ ?_ (h.1.trans (Ab.new hm))
    unfold BO
    rw [hf]
    dsimp only
    rw [List.all_map];rfl
  ·have hf:AS d cs.length cs.length=false:=by rw [<-c,hb,ly]
   exact q _ _ (by unfold BO;rw [hf];rfl) (Ab.refl _)
 ·exact h.elim
theorem SN:AB ["terms","thing"] ["terms","thing"] (Ax s_is_short_paper):=AD
theorem SO (F:Df K mg "is_short_paper" s_is_short_paper ["terms","thing"]) (T:Tx mg) (D_is_shown:Fn P w K mg base 4 "is_shown" ["terms","thing"] FH) (D_is_tuple_of:BT P w K mg base):Fn P w K mg base 5 "is_short_paper" ["terms","thing"] HD:=by
 refine F.fn SN (λvs H Q E h=>?_) (λf cdv A outer s H vs Q E hr h=>?_)
 ·unfold HD at h;split at h;rfl;exact h.elim
 refine⟨_,(An (Aq (AY (Af D_is_tuple_of (hr.mono (by decide)) rfl (AG (cy 1) pe_int pe_int)) (AY (CG (Ln hr) (Az (AF K) (cy 1) pe_int (λ_ _=>rfl)) pe_str (AX _)) (Bl (Af D_is_shown (hr.mono (by decide)) rfl (Am (cy 0) (Cj s_tup (cy 1) (BP pe_int) CH)))))))),?_⟩
 unfold HD at h
 split at h
 ·rename_i v x
  obtain⟨p,T,d,ok,r,rd,hd,q⟩:=h
  have no:(∀a b c,d≠ .tuple [a,b,c])->¬E4 T d:=λn ⟨s0,e,_⟩=>n _ _ _ e
  refine⟨p,d,rd,λb hb=>⟨λc=>?_,λc=>?_⟩⟩
  ·have hf:AS d 3 3=true:=by rw [<-hb];exact c
   obtain⟨ds,rfl,g1,g2⟩:=C5 hf
   obtain⟨a0,b0,c0,rfl⟩:=SG hf
   have ha:=hd a0 _ rfl
   obtain⟨A,xs,rfl,hA,rs⟩:=Aa.shape rd
   obtain⟨y1,y2,y3,rfl,r1,r2,r3⟩:=Ad.three rs
   refine⟨A,_,0,y1,rfl,rfl,Ac.of hA,rfl,p,a0,.str "short",r1,Aa.str,by decide+kernel,by decide+kernel,by decide+kernel,.inl ⟨ha.1,ha.2,⟨λc1=>?_,λc1=>?_⟩⟩⟩
   ·have e0:=eqv_str.mp c1
    refine⟨1,rfl,A,_,rfl,hA,λt H1 s1 k1=>?_⟩
    rw [Sx] at k1
    refine⟨p,T,.tuple [b0,c0],ok,Aa.ev (Ev.same s1) _ _ r,Aa.tup k1 (.cons (Aa.ev (Ev.same s1) _ _ r2) (.cons (Aa.ev (Ev.same s1) _ _ r3) .nil)),λb H2 e s2=>?_⟩
    refine q b H2 ?_ (s1.trans s2)
    rw [e,isShown_iff]
    constructor
    ·rintro⟨s0,rfl,rfl,h1,h2,h3⟩
     exact⟨s0,by rw [e0],h1,h2,h3⟩
    ·rintro⟨s0,e,h1,h2,h3⟩
     injection e with e
     injection e with _ e
     injection e with e1 e
     injection e with e2 _
     exact⟨s0,e1,e2,h1,h2,h3⟩
   ·refine q false H ⟨λz=>(by cases z),?_⟩ (Ab.refl _)
    rintro⟨s0,e,_⟩
    injection e with e
    injection e with e1 _
    rw [eqv_str.mpr e1] at c1;cases c1
  ·refine q false H ⟨λz=>(by cases z),λz=>absurd z (no λa0 b0 c0 e=>?_)⟩ (Ab.refl _)
   rw [e] at hb
   have:b=true:=hb
   rw [this] at c;cases c
 ·exact h.elim
theorem SQ:AB ["parts"] ["parts"] (Ax s_is_rising):=AD
theorem SR (F:Df K mg "is_rising" s_is_rising ["parts"]) (T:Tx mg)  :Fn P w K mg base 1 "is_rising" ["parts"] Hw:=by
 refine F.fn SQ (λvs H Q E h=>?_) (λf cdv A outer s H vs Q E hr h=>?_)
 ·unfold Hw at h;split at h;rfl;exact h.elim
 refine⟨_,(An (Aq (Aw (Ct rfl) rfl T.b_all boot_all (Ao (A6 ["ahead","part"] [none,none] rfl (GD (Qi P w K rfl T.b_zip (Am (cy 0) (Cj s_tup (cy 0) (BP pe_int) CH))) (DN P w K rfl T.b_zip (Am (cy 0) (Cj s_tup (cy 0) (BP pe_int) CH)))) (AO.of rfl) (λ_ _ _ _=>(AM K (n:=2) (Ap (Aj 0 (AJ (by rfl))) (Ap (Aj 1 (AJ (by rfl))) AL)))) (λ_ _ _ _=>A5) (λ_ _ _ _=>(CG DL (cy 0) (cy 1) (AX _)))))))),?_⟩
 unfold Hw at h
 split at h
 ·rename_i x
  obtain⟨p,ns,lk,rx,q⟩:=h
  obtain⟨A,rfl,hA⟩:=Aa.ofRow rx
  refine(?_:(_\/_)->_) ?_
  ·exact id
  by_cases e0:ns=[]
  ·subst e0
   refine .inr ⟨1,rfl,A,_,rfl,hA,λB H1 s1 kB=>?_⟩
   rw [Fv] at kB
   refine⟨A,B,rfl,⟨_,Ac.of (s1 _ _ hA)⟩,⟨_,Ac.of kB⟩,walk_zip (xs:=[]) (ys:=[]) (λi zs H'=>H'=H1/\zs=[]) (by decide) rfl ⟨rfl,rfl⟩ (λi zs H' h=>by rw [h.2];exact Nat.zero_le _) (λi zs H' h=>by rw [h.1];exact⟨Ac.of (s1 _ _ hA),Ac.of kB⟩) (λi x y zs H' T hx hy h hT=>by cases hx) λzs H' h m hm=>?_⟩
   refine⟨m,[],rfl,by rw [Ag,h.2];rfl,?_⟩
   rw [h.1] at hm ⊢
   exact q _ (s1.trans (Ab.new hm))
  ·refine .inl ⟨1,rfl,A,_,rfl,hA,λB H1 s1 kB=>?_⟩
   rw [Fv,<-List.map_drop] at kB
   have l0:0<ns.length:=List.length_pos_iff.mpr e0
   refine⟨A,B,rfl,⟨_,Ac.of (s1 _ _ hA)⟩,⟨_,Ac.of kB⟩,Qj (xs:=ns.map V.int) (ys:=(ns.drop 1).map V.int) (λi zs H'=>Ab H1 H'/\zs=(List.range i).map λj=>V.bl (decide (ns.getD j 0<ns.getD (j+1) 0))) (by rw [List.length_map,List.length_drop];omega) (by rw [List.length_map,List.length_map,List.length_drop];omega) ⟨Ab.refl _,rfl⟩
    (λi zs H' h=>by rw [h.2,List.length_map,List.length_range];omega) (λi zs H' h=>⟨Ac.of (h.1 _ _ (s1 _ _ hA)),Ac.of (h.1 _ _ kB)⟩) (λi x y zs H' T hx hy h hT=>?_) λzs H' h m hm=>?_⟩
   ·obtain⟨a,ha,rfl⟩:=E3 hx
    obtain⟨b,hb,rfl⟩:=E3 hy
    rw [List.getElem?_drop,Nat.add_comm] at hb
    refine⟨T,_,rfl,Ac.of Ag,rfl,_,_,rfl,_,_,rfl,rfl,trivial,λ_=>⟨h.1.trans (Ab.new hT),?_⟩,λc=>by cases c⟩
    show zs++[V.bl (decide (a<b))]=_
    rw [h.2,List.range_succ,List.map_append,List.map_cons,List.map_nil,List.getD_eq_getElem?_getD,List.getD_eq_getElem?_getD,ha,hb]
    rfl
   ·refine⟨m,(List.range (ns.length-1)).map λj=>decide (ns.getD j 0<ns.getD (j+1) 0),rfl,by rw [Ag,h.2,List.length_map,List.length_drop,List.map_map];rfl,?_⟩
    rw [List.all_map]
    exact q _ (s1.trans (h.1.trans (Ab.new hm)))
 ·exact h.elim
theorem SS:AB ["boilers","thing"] ["boilers","thing"] (Ax s_is_set):=AD
theorem ST (F:Df K mg "is_set" s_is_set ["boilers","thing"]) (T:Tx mg) (D_is_rising:Fn P w K mg base 1 "is_rising" ["parts"] Hw) (D_is_tuple_of:BT P w K mg base) (D_is_whole_from:Dj P w K mg base):Fn P w K mg base 3 "is_set" ["boilers","thing"] Hx:=by
 refine F.fn SS (λvs H Q E h=>?_) (λf cdv A outer s H vs Q E hr h=>?_)
 ·unfold Hx at h;split at h;rfl;exact h.elim
 refine⟨_,(An (Aq (AY (Af D_is_tuple_of (hr.mono (by decide)) rfl (AG (cy 1) pe_int (cy 0))) (AY (Aw (Ct rfl) rfl T.b_all boot_all (Ao (A6 ["part","boilers"] [none,some 0] rfl (BK K (cy 1)) (AO.of rfl) (λ_ _ _ _=>(Aj 0 (AJ (by rfl)))) (λ_ _ _ _=>A5) (λ_ _ _ _=>(Af D_is_whole_from (hr.mono (by decide)) rfl (AG (cy 0) pe_int (Au BE (cy 1) pe_int))))))) (Bl (Af D_is_rising (hr.mono (by decide)) rfl (Ao (cy 1)))))))),?_⟩
 unfold Hx at h
 split at h
 ·rename_i m x
  obtain⟨p,n,d,rfl,n4,rx,q⟩:=h
  refine⟨p,_,rx,λb hb=>⟨λz=>?_,λz=>?_⟩⟩
  ·rw [z] at hb
   obtain⟨es,rfl,e1,e2⟩:=C5 hb.symm
   obtain⟨A,xs,rfl,hA,rs⟩:=Aa.shape rx
   have ln:=rs.len
   refine⟨A,rfl,⟨_,Ac.of hA⟩,BR (xs:=xs) (λi ys H'=>Ab H H'/\ys=((es.take i).map λe=>V.bl (AQ e 0 ((n:Int)-1)))) (by omega) ⟨Ab.refl _,rfl⟩ (λi ys H' h=>by rw [h.2,List.length_map,List.length_take];omega) (λi ys H' _ h=>Ac.of (h.1 _ _ hA)) (λi x ys H' hx h=>?_) λys H' h m hm=>?_⟩
   ·obtain⟨e,he,re⟩:=rs.got hx
    refine⟨⟨rfl,trivial⟩,λ_=>⟨p,e,Aa.ev (Ev.same h.1) _ _ re,λb1 e1=>⟨h.1,?_⟩⟩,λz=>by cases z⟩
    rw [A3 he,List.map_append,h.2,e1];rfl
   ·refine⟨m,es.map λe=>AQ e 0 ((n:Int)-1),rfl,by rw [Ag,h.2,List.take_of_length_le (by omega),List.map_map];rfl,?_⟩
    rw [List.all_map]
    have s1:=h.1.trans (Ab.new (o:= .lst ys) hm)
    refine⟨λz=>?_,λz=>?_⟩
    ·obtain⟨r,rfl,bd⟩:=Hv (es:=es) z
     rw [List.length_map] at ln e2
     refine⟨p,r,by omega,Aa.ev (Ev.same s1) _ _ rx,λH2 s2=>q _ _ ?_ (s1.trans s2)⟩
     unfold D0
     dsimp only
     rw [<-hb,FI,show((r.map PyData.int).all λe=>AQ e 0 ((n:Int)-1))=true from z]
     rfl
    ·refine q _ _ ?_ s1
     unfold D0
     dsimp only
     rw [show(es.all λe=>AQ e 0 ((n:Int)-1))=false from z,Bool.false_and,Bool.and_false]
  ·refine q _ _ ?_ (Ab.refl _)
   rw [z] at hb
   unfold D0
   rw [<-hb];rfl
 ·exact h.elim
theorem SU:AB ["chosen"] ["chosen"] (Ax s_first_behind):=AD
theorem SV (F:Df K mg "first_behind" s_first_behind ["chosen"]) (T:Tx mg)  :Fn P w K mg base 1 "first_behind" ["chosen"] Hy:=by
 refine F.fn SU (λvs H Q E h=>?_) (λf cdv A outer s H vs Q E hr h=>?_)
 ·unfold Hy at h;split at h;rfl;exact h.elim
 refine⟨_,(An (Aq (Dt (LJ (cy 0)) (Au Bb (Az (AF K) (cy 0) Jv (λ_ _=>rfl)) pe_int) pe_int))),?_⟩
 unfold Hy at h
 split at h
 ·rename_i x
  obtain⟨p,c,rx,q⟩:=h
  obtain⟨A,rfl,hA⟩:=Aa.ofRow rx
  refine⟨A,_,rfl,hA,λz=>?_,λz=>?_⟩
  ·rcases List.eq_nil_or_concat c with e | ⟨d,y,e⟩
   ·subst e;cases z
   ·rw [List.concat_eq_append] at e
    subst e
    have q':=q H (Ab.refl _)
    rw [GH] at q'
    exact⟨A,_,-1,.int y,rfl,rfl,Ac.of hA,by rw [List.map_append];exact Kl _ _,q'⟩
  ·have e:c=[]:=by cases c with | nil=>rfl | cons a c=>cases z
   subst e
   exact q H (Ab.refl _)
 ·exact h.elim
theorem sc_sets_of:AB ["boilers","many","found","step"] ["boilers","many"] (Ax s_sets_of):=AD
theorem SW (F:Df K mg "sets_of" s_sets_of ["boilers","many"]) (T:Tx mg) (D_first_behind:Fn P w K mg base 1 "first_behind" ["chosen"] Hy):Fn P w K mg base 2 "sets_of" ["boilers","many"] Hz:=by
 refine F.fn sc_sets_of (λvs H Q E h=>?_) (λf cdv A outer s H vs Q E hr h=>?_)
 ·unfold Hz at h;split at h;rfl;exact h.elim
 refine⟨_,(Ak (AI (i:=2) sc_sets_of.nd rfl (AE (by rfl)) (B0 (Ao (AK pa_nil)))) (Ak (Bw PassesOwn.never rfl (CT rfl T.b_range (Ao (cy 1))) (Aj 3 sc_sets_of.nd) (An (PX (i:=2) ["chosen","boiler","boilers"] [none,none,some 0] sc_sets_of.nd rfl (AE (by rfl)) rfl (Dv K (cy 2)) (AO.of rfl) (λ_ _ _ _=>(Aj 0 (AJ (by rfl)))) (λ_ _ _ _=>A5) (λ_ _ _ _=>(Ih rfl T.b_range (Am (Af D_first_behind (hr.mono (by decide)) rfl (Ao (cy 0))) (cy 2)))) (λ_ _ _ _=>(Aj 1 (AJ (by rfl)))) (λ_ _ _ _=>A5) (λ_ _ _ _=>(Au C1 (cy 0) (AK (Ao (cy 1)))))))) (An (Aq (cy 2))))),?_⟩
 unfold Hz at h
 split at h
 ·rename_i m j
  obtain⟨p,n,k,rfl,rfl,n4,k4,q⟩:=h
  refine λe H1 s1 ke L H2 s2 hL kL=>?_
  have s12:=s1.trans s2
  refine⟨_,rfl,by omega,by omega,C7 (n:=(k:Int).toNat) (λi σ H'=>∃L xs x3,σ=[some (.int (n:Int)),some (.int (k:Int)),some (.ref L),x3]/\Ab H H'/\H L=none/\H' L=some (.lst xs)/\Ad p H' ((Ba n i).map Ay) xs) ⟨L,_,_,rfl,s12,s1.free hL,kL,.cons (Aa.row (r:=[]) (s2 _ _ ke)) .nil⟩ (λi σ H' hi h=>?_) fun σ H' h=>?_⟩
  ·obtain⟨L,xs,x3,rfl,sm,hL,kL,rs⟩:=h
   have lx:=rs.len
   rw [List.length_map] at lx
   have few:=DU n n4 i (by omega)
   have few':=DU n n4 (i+1) (by omega)
   refine⟨L,rfl,⟨_,Ai.of kL⟩,QA (xs:=xs) (λa zs H2=>Ab H' H2/\Ad p H2 ((((Ba n i).take a).flatMap (grow n)).map Ay) zs) ⟨Ab.refl _,.nil⟩ (λa zs H2 h=>Ai.of (h.1 _ _ kL)) (λa x zs H2 hx h2=>?_) λzs H2 h2=>?_⟩
   ·obtain⟨c,hc,rc⟩:=Ad.mapGot rs hx
    have st:=(mem_sets.mp (List.mem_of_getElem? hc)).1
    obtain⟨f0,f1,f2⟩:=st.first
    refine⟨⟨rfl,trivial⟩,λ_=>?_,λz=>by cases z⟩
    refine⟨p,c,Aa.ev (Ev.same h2.1) _ _ rc,λH3 s3=>⟨_,_,rfl,⟨by omega,by omega,by omega,by omega⟩,?_⟩⟩
    have rc3:=Aa.ev (Ev.same (h2.1.trans s3)) _ _ rc
    obtain⟨ca,rfl,hca⟩:=Aa.ofRow rc3
    have el:=Mo (f:=grow n) (l:=Ba n i) (a:=a)
    have gl:(grow n c).length=((n:Int)-BM c).toNat:=by unfold grow;simp
    refine PU (n:=((n:Int)-BM c).toNat) (λj ys H4=>Ab H' H4/\Ad p H4 ((((Ba n i).take a).flatMap (grow n)++(grow n c).take j).map Ay) ys) ⟨h2.1.trans s3,?_⟩ (λj ys H4 h=>?_) (λj ys H4 hj h4=>?_) λys H4 h4=>?_
    ·rw [List.take_zero,List.append_nil]
     exact Ad.ev (Ev.same s3) _ _ h2.2
    ·have:=h.2.len
     rw [List.length_map,List.length_append,List.length_take] at this
     have e1:((Ba n i).flatMap (grow n)).length<=6:=few'
     omega
    ·refine⟨⟨rfl,rfl,trivial⟩,λ_=>λt H5 s5 kt=>?_,λz=>by cases z⟩
     have kc:H5 ca=some (.tup (c.map V.int)):=by
      obtain⟨ca',e,k⟩:=Aa.ofRow (Aa.ev (Ev.same (h4.1.trans s5)) _ _ rc)
      cases e;exact k
     refine⟨ca,t,_,_,rfl,rfl,kc,kt,by rw [List.length_map];have:=st.len;show c.length+1<=1000;omega,λu H6 s6 ku=>⟨h4.1.trans (s5.trans s6),?_⟩⟩
     have g:(grow n c)[j]? =some (c++[BM c+(j:Int)]):=by unfold grow;rw [List.getElem?_map,List.getElem?_range hj];rfl
     rw [A3 g,<-List.append_assoc,List.map_append]
     refine Ad.snoc (Ad.ev (Ev.same (s5.trans s6)) _ _ h4.2) (Aa.row ?_)
     rw [ku,List.map_append];rfl
    ·refine⟨h4.1,?_⟩
     rw [A3 hc,List.flatMap_append]
     have e2:[c].flatMap (grow n)=grow n c:=by simp
     rw [e2]
     have h5:=h4.2
     rw [List.take_of_length_le (l:=grow n c) (by rw [gl];exact Nat.le_refl _)] at h5
     exact h5
   ·intro l hl
    have nl:=Ab.new (o:= .lst zs) hl
    rw [List.take_of_length_le (by omega)] at h2
    exact⟨l,zs,_,rfl,sm.trans (h2.1.trans nl),sm.free (h2.1.free hl),Ag,Ad.ev (Ev.same nl) _ _ h2.2⟩
  ·obtain⟨L,xs,x3,rfl,sm,hL,kL,rs⟩:=h
   exact q _ _ _ sm hL kL rs
 ·exact h.elim
theorem sc_with_only:AB ["terms","chosen","caps","coals","draws","main","kept"] ["terms","chosen"] (Ax s_with_only):=AD
theorem SX (F:Df K mg "with_only" s_with_only ["terms","chosen"]) (T:Tx mg)  :Fn P w K mg base 1 "with_only" ["terms","chosen"] FJ:=by
 refine F.fn sc_with_only (λvs H Q E h=>?_) (λf cdv A outer s H vs Q E hr h=>?_)
 ·unfold FJ at h;split at h;rfl;exact h.elim
 refine⟨_,(Ak (Bv (cy 0) (AM K (n:=4) (Ap (Aj 2 sc_with_only.nd) (Ap (Aj 3 sc_with_only.nd) (Ap (Aj 4 sc_with_only.nd) (Ap (Aj 5 sc_with_only.nd) AL)))))) (Ak (AI (i:=6) sc_with_only.nd rfl (AE (by rfl)) (Bd (BJ K) rfl T.b_tuple Bi (Ao (A6 ["row","chosen"] [none,some 1] rfl (BK K (cy 2)) (AO.of rfl) (λ_ _ _ _=>(Aj 0 (AJ (by rfl)))) (λ_ _ _ _=>A5) (λ_ _ _ _=>(Bd (BJ K) rfl T.b_tuple Bi (Ao (A6 ["boiler","cap","chosen"] [none,none,some 1] rfl (Eo P w K rfl T.b_enumerate (Ao (cy 0))) (AO.of rfl) (λ_ _ _ _=>(AM K (n:=2) (Ap (Aj 0 (AJ (by rfl))) (Ap (Aj 1 (AJ (by rfl))) AL)))) (λ_ _ _ _=>A5) (λ_ _ _ _=>(Dt (A1 (DM K) (cy 0) (cy 2) (by with_unfolding_all rfl)) (cy 1) pe_int)))))))))) (An (Aq (AK (CK (cy 6) (cy 3) (cy 4) (cy 5))))))),?_⟩
 unfold FJ at h
 split at h
 ·rename_i t x
  obtain⟨p,T,c,fl,r,rx,q⟩:=h
  obtain⟨A,C,B,D,M,xc,rfl,hA,hC,rc,hB,hD,hM⟩:=Aa.terms r
  obtain⟨Z,rfl,hZ⟩:=Aa.ofRow rx
  have l8:=fl.ok.l8
  have lc:=fl.ok.lc
  have o4:=fl.o
  have lx:=rc.len
  rw [List.length_map] at lx
  refine⟨A,_,rfl,Ac.of hA,rfl,_,_,rfl,_,_,rfl,_,_,rfl,_,_,rfl,rfl,?_⟩
  refine⟨C,rfl,⟨_,Ac.of hC⟩,BR (xs:=xc) (λi ys H'=>Ab H H'/\Ad p H' (((T.cs.take i).map (Bm c)).map Ay) ys) (by omega) ⟨Ab.refl _,.nil⟩ (λi ys H' h=>by have:=h.2.len;rw [List.length_map,List.length_map,List.length_take] at this;omega) (λi ys H' _ h=>Ac.of (h.1 _ _ hC)) (λi x ys H' hx h=>?_) λys H' h m hm=>?_⟩
  ·obtain⟨r0,hr,rr⟩:=Ad.mapGot rc hx
   obtain⟨ra,rfl,hra⟩:=Aa.ofRow (Aa.ev (Ev.same h.1) _ _ rr)
   have rl:=(fl.c r0 (List.mem_of_getElem? hr)).1
   refine⟨⟨rfl,trivial⟩,λ_=>?_,λz=>by cases z⟩
   refine⟨ra,rfl,⟨_,Ac.of hra⟩,walk_enum (xs:=r0.map V.int) (λj zs H2=>Ab H' H2/\zs=((Bm c r0).take j).map V.int) (by rw [List.length_map];omega) ⟨Ab.refl _,rfl⟩ (λj zs H2 h=>by rw [h.2,List.length_map,List.length_take];omega) (λj zs H2 h=>Ac.of (h.1 _ _ hra)) (λj x zs H2 U hx h2 hU=>?_) λzs H2 h2 m hm=>?_⟩
   ·obtain⟨m,hm,rfl⟩:=E3 hx
    have nU:=Ab.new (o:= .tup [.int (j:Int),.int m]) hU
    have s3:=h.1.trans (h2.1.trans nU)
    have g:=Mp (c:=c) hm
    refine⟨U,_,rfl,Ac.of Ag,rfl,_,_,rfl,_,_,rfl,rfl,⟨rfl,trivial⟩,λ_=>⟨Z,_,rfl,.inr (Ac.of (s3 _ _ hZ)),rfl,LD,?_⟩,λz=>by cases z⟩
    rw [if_neg (by decide),Jj]
    refine⟨λz=>⟨h2.1.trans nU,?_⟩,λz=>⟨h2.1.trans nU,?_⟩⟩
    ·rw [if_pos (of_decide_eq_true z)] at g
     rw [A3 g,List.map_append,h2.2];rfl
    ·rw [if_neg (of_decide_eq_false z)] at g
     rw [A3 g,List.map_append,h2.2];rfl
   ·refine⟨m,_,rfl,.inl ⟨Ai.of Ag,λl hl=>?_⟩⟩
    have s3:=(h2.1.trans (Ab.new (o:= .lst zs) hm)).trans (Ab.new (o:= .tup zs) hl)
    refine⟨h.1.trans s3,?_⟩
    rw [A3 hr,List.map_append,List.map_append]
    refine Ad.snoc (Ad.ev (Ev.same s3) _ _ h.2) (Aa.row ?_)
    rw [Ag,h2.2,List.take_of_length_le (by rw [DT,List.length_map];exact Nat.le_refl _)]
  ·refine⟨m,_,rfl,.inl ⟨Ai.of Ag,λl hl=>?_⟩⟩
   have s3:=(h.1.trans (Ab.new (o:= .lst ys) hm)).trans (Ab.new (o:= .tup ys) hl)
   have s2:=(Ab.new (o:= .lst ys) hm).trans (Ab.new (o:= .tup ys) hl)
   have kl:upd (upd H' m (.lst ys)) l (.tup ys) l=some (.tup ys):=Ag
   generalize upd (upd H' m (.lst ys)) l (.tup ys)=H3 at s3 s2 kl ⊢
   refine λt H4 s4 kt=>?_
   have s5:=s3.trans s4
   refine q _ _ s5 ?_
   rw [List.take_of_length_le (by omega)] at h
   refine Aa.tup kt (.cons (Aa.tup (s4 _ _ kl) (Ad.ev (Ev.same (s2.trans s4)) _ _ h.2)) (.cons (Aa.row (s5 _ _ hB)) (.cons (Aa.row (s5 _ _ hD)) (.cons (Aa.tup (s5 _ _ hM) (.cons Aa.int (.cons Aa.int (.cons Aa.int .nil)))) .nil))))
 ·exact h.elim
theorem SZ:AB ["boilers","chosen"] ["boilers","chosen"] (Ax s_smaller_sets):=AD
theorem S0 (F:Df K mg "smaller_sets" s_smaller_sets ["boilers","chosen"]) (T:Tx mg) (D_sets_of:Fn P w K mg base 2 "sets_of" ["boilers","many"] Hz):Fn P w K mg base 3 "smaller_sets" ["boilers","chosen"] HA:=by
 refine F.fn SZ (λvs H Q E h=>?_) (λf cdv A outer s H vs Q E hr h=>?_)
 ·unfold HA at h;split at h;rfl;exact h.elim
 refine⟨_,(An (Aq (Dt (LJ (cy 1)) (Af D_sets_of (hr.mono (by decide)) rfl (Am (cy 0) (Au BE (Aw (AR K) rfl T.b_len PySem.boot_len (Ao (cy 1))) pe_int))) (B0 pa_nil)))),?_⟩
 unfold HA at h
 split at h
 ·rename_i m x
  obtain⟨p,n,c,rfl,n4,st,rx,q⟩:=h
  obtain⟨A,rfl,hA⟩:=Aa.ofRow rx
  have cl:=st.len
  refine⟨A,_,rfl,hA,λz=>?_,λz=>?_⟩
  ·have e0:c≠ []:=λe=>by rw [e] at z;cases z
   have l0:0<c.length:=List.length_pos_iff.mpr e0
   unfold By at q
   rw [if_neg e0] at q
   exact⟨A,_,rfl,.inr (Ac.of hA),p,n,c.length-1,rfl,by rw [List.length_map];omega,n4,by omega,q⟩
  ·have e0:c=[]:=by cases c with | nil=>rfl | cons a c=>cases z
   unfold By at q
   rw [if_pos e0] at q
   exact λR H' s hR k=>q R H' [] s hR k .nil
 ·exact h.elim
theorem S4:AB ["terms","sets","thing"] ["terms","sets","thing"] (Ax s_are_shown):=AD
theorem S5 (F:Df K mg "are_shown" s_are_shown ["terms","sets","thing"]) (T:Tx mg) (D_is_shown:Fn P w K mg base 4 "is_shown" ["terms","thing"] FH) (D_is_tuple_of:BT P w K mg base) (D_with_only:Fn P w K mg base 1 "with_only" ["terms","chosen"] FJ):Fn P w K mg base 5 "are_shown" ["terms","sets","thing"] HE:=by
 refine F.fn S4 (λvs H Q E h=>?_) (λf cdv A outer s H vs Q E hr h=>?_)
 ·unfold HE at h;split at h;rfl;exact h.elim
 refine⟨_,(An (Aq (AY (Af D_is_tuple_of (hr.mono (by decide)) rfl (AG (cy 2) (Aw (AR K) rfl T.b_len PySem.boot_len (Ao (cy 1))) (Aw (AR K) rfl T.b_len PySem.boot_len (Ao (cy 1))))) (Bl (Aw (Ct rfl) rfl T.b_all boot_all (Ao (A6 ["chosen","part","terms"] [none,none,some 0] rfl (LK P w K rfl T.b_zip (Am (cy 1) (cy 2))) (AO.of rfl) (λ_ _ _ _=>(AM K (n:=2) (Ap (Aj 0 (AJ (by rfl))) (Ap (Aj 1 (AJ (by rfl))) AL)))) (λ_ _ _ _=>A5) (λ_ _ _ _=>(Af D_is_shown (hr.mono (by decide)) rfl (Am (Af D_with_only (hr.mono (by decide)) rfl (Am (cy 2) (cy 0))) (cy 1))))))))))),?_⟩
 unfold HE at h
 split at h
 ·rename_i t R x
  obtain⟨p,T,n,c,xs,d,fl,l100,rt,kR,rs,rx,q⟩:=h
  have lx:=rs.len
  rw [List.length_map] at lx
  refine⟨R,_,rfl,.inl (Ai.of kR),R,_,rfl,.inl (Ai.of kR),p,d,rx,λb hb=>⟨λz=>?_,λz=>?_⟩⟩
  ·rw [z] at hb
   obtain⟨sh,rfl,e1,e2⟩:=C5 hb.symm
   obtain⟨X,ys,rfl,hX,ry⟩:=Aa.shape rx
   have ly:=ry.len
   refine⟨R,X,rfl,⟨_,Ai.of kR⟩,⟨_,Ac.of hX⟩,walk_zip (xs:=xs) (ys:=ys) (λi zs H'=>Ab H H'/\zs=((sh.zip (By n c)).take i).map λq=>V.bl (Bs (only T q.2) q.1)) (by omega) (by omega) ⟨Ab.refl _,rfl⟩ (λi zs H' h=>by rw [h.2,List.length_map,List.length_take];omega) (λi zs H' h=>⟨Ai.of (h.1 _ _ kR),Ac.of (h.1 _ _ hX)⟩) (λi x y zs H' U hx hy h hU=>?_) λzs H' h m hm=>?_⟩
   ·obtain⟨e,he,re⟩:=Ad.mapGot rs hx
    obtain⟨d,hd,rd⟩:=ry.got hy
    have s2:=h.1.trans (Ab.new (o:= .tup [x,y]) hU)
    refine⟨U,_,rfl,Ac.of Ag,rfl,_,_,rfl,_,_,rfl,rfl,⟨rfl,trivial⟩,λ_=>?_,λz=>by cases z⟩
    refine⟨p,T,e,fl,Aa.ev (Ev.same s2) _ _ rt,Aa.ev (Ev.same s2) _ _ re,λw H3 s3 r3=>⟨p,only T e,d,ES fl.ok,r3,Aa.ev (Ev.same (s2.trans s3)) _ _ rd,λb H4 eb s4=>⟨s2.trans (s3.trans s4),?_⟩⟩⟩
    have hz:(sh.zip (By n c))[i]? =some (d,e):=by rw [List.getElem?_zip_eq_some];exact⟨hd,he⟩
    rw [h.2,eb,A3 hz,List.map_append];rfl
   ·refine⟨m,(sh.zip (By n c)).map λq=>Bs (only T q.2) q.1,rfl,by rw [Ag,h.2,List.take_of_length_le (by rw [List.length_zip];omega),List.map_map];rfl,?_⟩
    refine q _ _ ?_ (h.1.trans (Ab.new hm))
    rw [List.all_map,List.all_eq_true]
    constructor
    ·intro hall
     refine⟨sh,rfl,by omega,λi d e hd he=>?_⟩
     exact hall (d,e) (List.mem_of_getElem? (i:=i) (by rw [List.getElem?_zip_eq_some];exact⟨hd,he⟩))
    ·rintro⟨sh',es,_,hall⟩ q' hq'
     injection es with es
     subst es
     obtain⟨i,hi⟩:=List.getElem?_of_mem hq'
     rw [List.getElem?_zip_eq_some] at hi
     exact hall i _ _ hi.1 hi.2
  ·refine q false _ ⟨λz=>(by cases z),?_⟩ (Ab.refl _)
   rintro⟨sh,rfl,l,_⟩
   rw [z,CL (by omega) (by omega)] at hb;cases hb
 ·exact h.elim
theorem sc_is_lit_paper:AB ["plant","story","thing","terms","boilers","word","chosen","firing","shows"] ["plant","story","thing"] (Ax s_is_lit_paper):=AD
theorem S6 (F:Df K mg "is_lit_paper" s_is_lit_paper ["plant","story","thing"]) (T:Tx mg) (D_are_shown:Fn P w K mg base 5 "are_shown" ["terms","sets","thing"] HE) (D_is_firing_within:Fn P w K mg base 4 "is_firing_within" ["caps","thing"] HC) (D_is_set:Fn P w K mg base 3 "is_set" ["boilers","thing"] Hx) (D_is_tuple_of:BT P w K mg base) (D_keeps_up:Fn P w K mg base 14 "keeps_up" ["plant","story","firing"] Hm) (D_smaller_sets:Fn P w K mg base 3 "smaller_sets" ["boilers","chosen"] HA) (D_terms_of:Fn P w K mg base 10 "terms_of" ["plant","story"] FF) (D_with_only:Fn P w K mg base 1 "with_only" ["terms","chosen"] FJ):Fn P w K mg base 15 "is_lit_paper" ["plant","story","thing"] HF:=by
 refine F.fn sc_is_lit_paper (λvs H Q E h=>?_) (λf cdv A outer s H vs Q E hr h=>?_)
 ·unfold HF at h;split at h;rfl;exact h.elim
 refine⟨_,(Ak (A2 (Bn (Bh (Af D_is_tuple_of (hr.mono (by decide)) rfl (AG (cy 2) pe_int pe_int)))) (An (Aq pe_bl)) AZ) (Ak (AI (i:=3) sc_is_lit_paper.nd rfl (AE (by rfl)) (Af D_terms_of (hr.mono (by decide)) rfl (Am (cy 0) (cy 1)))) (Ak (AI (i:=4) sc_is_lit_paper.nd rfl (AE (by rfl)) (Aw (AR K) rfl T.b_len PySem.boot_len (Ao (Az (AF K) (cy 0) pe_int (λ_ _=>rfl))))) (Ak (Bv (cy 2) (AM K (n:=4) (Ap (Aj 5 sc_is_lit_paper.nd) (Ap (Aj 6 sc_is_lit_paper.nd) (Ap (Aj 7 sc_is_lit_paper.nd) (Ap (Aj 8 sc_is_lit_paper.nd) AL)))))) (An (Aq (AY (CG (Ln hr) (cy 5) pe_str (AX _)) (AY (Af D_is_set (hr.mono (by decide)) rfl (Am (cy 4) (cy 6))) (AY (Af D_is_firing_within (hr.mono (by decide)) rfl (Am (Az (AF K) (Af D_with_only (hr.mono (by decide)) rfl (Am (cy 3) (cy 6))) pe_int (λ_ _=>rfl)) (cy 7))) (AY (Af D_keeps_up (hr.mono (by decide)) rfl (AG (cy 0) (cy 1) (cy 7))) (Bl (Af D_are_shown (hr.mono (by decide)) rfl (AG (cy 3) (Af D_smaller_sets (hr.mono (by decide)) rfl (Am (cy 4) (cy 6))) (cy 8)))))))))))))),?_⟩
 unfold HF at h
 split at h
 ·rename_i v u x
  obtain⟨p,P,S,d,ok,so,r,ru,rx,hd,q⟩:=h
  have fl:=GF ok so
  have b4:=ok.b4
  have x8:=so.x8
  have f:=λ{H H':Hp} (s:Ab H H')=>Ev.same (p:=p) s
  refine⟨p,d,rx,λb hb=>⟨λz=>?_,λz=>?_⟩⟩
  ·refine q false _ ⟨λz=>(by cases z),?_⟩ (Ab.refl _)
   rintro⟨c,F,sh,rfl,_⟩
   have e:b=true:=hb
   rw [e] at z;cases z
  have hf:AS d 4 4=true:=by rw [<-hb];simpa using z
  obtain⟨ds,rfl,_,_⟩:=C5 hf
  obtain⟨a0,a1,a2,a3,rfl⟩:=SH hf
  have ha:=hd a0 _ rfl
  refine⟨p,P,S,ok,so,r,ru,λt H1 s1 rt=>?_⟩
  obtain⟨PA,PB,PE,PM,xb,xe,rfl,pA,pB,rb,pE,re,pM⟩:=Aa.plant (Aa.ev (f s1) _ _ r)
  have lb:=rb.len
  rw [List.length_map] at lb
  refine⟨PA,_,0,.ref PB,rfl,rfl,Ac.of pA,rfl,PB,_,rfl,.inr (Ac.of pB),?_⟩
  rw [<-lb]
  obtain⟨X,ys,rfl,hX,rs⟩:=Aa.shape (Aa.ev (f s1) _ _ rx)
  obtain⟨y1,y2,y3,y4,rfl,r1,r2,r3,r4⟩:=Ad.four rs
  refine⟨X,_,rfl,Ac.of hX,rfl,_,_,rfl,_,_,rfl,_,_,rfl,_,_,rfl,rfl,?_⟩
  refine⟨p,a0,.str "lit",r1,Aa.str,by decide+kernel,by decide+kernel,by decide+kernel,.inl ⟨ha.1,ha.2,⟨λc1=>?_,λc1=>?_⟩⟩⟩
  rotate_left
  ·refine q false _ ⟨λz=>(by cases z),?_⟩ s1
   rintro⟨c,F,sh,e,_⟩
   rw [eqv_str.mpr (E5 e).1] at c1;cases c1
  have e0:=eqv_str.mp c1
  subst e0
  refine⟨p,P.bs.length,a1,rfl,b4,r2,λb1 H2 hb1 s2=>⟨λc2=>?_,λc2=>?_⟩⟩
  rotate_left
  ·refine q false _ ⟨λz=>(by cases z),?_⟩ (s1.trans s2)
   rintro⟨c,F,sh,e,st,_⟩
   obtain⟨_,rfl,_⟩:=E5 e
   rw [hb1,SC st] at c2;cases c2
  obtain⟨c,rfl,st⟩:=Sz (hb1.symm.trans c2)
  refine⟨p,terms P S,c,fl,Aa.ev (f s2) _ _ rt,Aa.ev (f s2) _ _ r2,λw H3 s3 r5=>?_⟩
  obtain⟨A,C,B,D,M,xc,rfl,hA,hC,rc,hB,hD,hM⟩:=Aa.terms r5
  have s13:=s2.trans s3
  have fo:=Jk ok so (c:=c)
  have lfo:=fo.len
  refine⟨A,_,0,.ref C,rfl,rfl,Ac.of hA,rfl,p,a2,(only (terms P S) c).cs,Aa.ev (f s13) _ _ r3,Aa.tup hC rc,by omega,λe he=>?_,λb2 H4 hb2 s4=>⟨λc3=>?_,λc3=>?_⟩⟩
  ·obtain⟨i,hi⟩:=List.getElem?_of_mem he
   have:=fo.row i e hi
   omega
  rotate_left
  ·refine q false _ ⟨λz=>(by cases z),?_⟩ (s1.trans (s13.trans s4))
   rintro⟨c',F,sh,e,st',fi,_⟩
   obtain⟨_,e1,e2,_⟩:=E5 e
   cases DB e1
   rw [hb2,e2,fi] at c3;cases c3
  have fi:=hb2.symm.trans c3
  obtain⟨F,rfl,foF⟩:=JA ok so fi
  have s14:=s13.trans s4
  refine⟨p,P,S,F,⟨ok,so,foF,Aa.ev (f (s1.trans s14)) _ _ r,Aa.ev (f (s1.trans s14)) _ _ ru,Aa.ev (f s14) _ _ r3⟩,λH5 k s run s5=>⟨λc4=>?_,λc4=>?_⟩⟩
  rotate_left
  ·refine q false _ ⟨λz=>(by cases z),?_⟩ (s1.trans (s14.trans s5))
   rintro⟨c',F',sh,e,st',fi',kp,_⟩
   obtain⟨_,e1,e2,_⟩:=E5 e
   cases Jy e2
   rw [(Ms run).mpr kp] at c4;cases c4
  have kp:=(Ms run).mp c4
  have s15:=s14.trans s5
  refine⟨p,P.bs.length,c,rfl,b4,st,Aa.ev (f s15) _ _ r2,λR H6 zs s6 hR kR rs6=>?_⟩
  have s16:=s15.trans s6
  refine⟨p,terms P S,P.bs.length,c,zs,a3,fl,?_,Aa.ev (f s16) _ _ rt,kR,rs6,Aa.ev (f s16) _ _ r4,λb3 H7 hb3 s7=>q _ _ ?_ (s1.trans (s16.trans s7))⟩
  ·unfold By
   split
   ·exact Nat.zero_le _
   ·exact Nat.le_trans (DU _ b4 _ (by have:=st.len;omega)) (by decide)
  ·rw [hb3]
   constructor
   ·rintro⟨sh,rfl,so'⟩
    exact⟨c,F,sh,rfl,st,fi,kp,so'⟩
   ·rintro⟨c',F',sh,e,_,_,_,so'⟩
    obtain⟨_,e1,_,e3⟩:=E5 e
    cases DB e1
    exact⟨sh,e3,so'⟩
 ·exact h.elim
theorem sc_fewest_holds:AB ["plant","story","thing","terms"] ["plant","story","thing"] (Ax s_fewest_holds):=AD
theorem S7 (F:Df K mg "fewest_holds" s_fewest_holds ["plant","story","thing"]) (T:Tx mg) (D_is_lit_paper:Fn P w K mg base 15 "is_lit_paper" ["plant","story","thing"] HF) (D_is_short_paper:Fn P w K mg base 5 "is_short_paper" ["terms","thing"] HD) (D_terms_of:Fn P w K mg base 10 "terms_of" ["plant","story"] FF):Fn P w K mg base 16 "fewest_holds" ["plant","story","thing"] HG:=by
 refine F.fn sc_fewest_holds (λvs H Q E h=>?_) (λf cdv A outer s H vs Q E hr h=>?_)
 ·unfold HG at h;split at h;rfl;exact h.elim
 refine⟨_,(Ak (AI (i:=3) sc_fewest_holds.nd rfl (AE (by rfl)) (Af D_terms_of (hr.mono (by decide)) rfl (Am (cy 0) (cy 1)))) (An (Aq (OP (Af D_is_short_paper (hr.mono (by decide)) rfl (Am (cy 3) (cy 2))) (Bl (Af D_is_lit_paper (hr.mono (by decide)) rfl (AG (cy 0) (cy 1) (cy 2)))))))),?_⟩
 unfold HG at h
 split at h
 ·rename_i v u x
  obtain⟨p,P,S,d,ok,so,r,ru,rx,hd,q⟩:=h
  refine⟨p,P,S,ok,so,r,ru,λt H1 s1 rt=>?_⟩
  refine⟨p,terms P S,d,Fq so,rt,Aa.ev (Ev.same s1) _ _ rx,hd,λb H2 hb s2=>?_⟩
  have s12:=s1.trans s2
  refine⟨λc=>?_,λc=>?_⟩
  ·exact q _ _ ⟨λ_=> .inl (hb.mp c),λ_=>rfl⟩ s12
  ·refine⟨p,P,S,d,ok,so,Aa.ev (Ev.same s12) _ _ r,Aa.ev (Ev.same s12) _ _ ru,Aa.ev (Ev.same s12) _ _ rx,hd,λb2 H3 hb2 s3=>q _ _ ?_ (s12.trans s3)⟩
   rw [hb2]
   refine⟨.inr,λz=>z.elim (λz=>?_) id⟩
   rw [hb.mpr z] at c;cases c
 ·exact h.elim
end
end MF
end
section
namespace MF
open PySem PySem.Spec PyProof.Rows L2
variable {H H' : Hp} {p : Addr} {v : V} {j i : Nat} {T : TM} {xs : List V}
def BV (d:PyData) (m:Int):Bool:=match d with | .int i=>decide (0<=i) && decide (i<m) | _=>false
def JB:Sp:=λvs H Q _=>match vs with | [v,.int m]=>∃p d,Aa p H d v/\∀b,b=BV d m->Q (.bl b) H | _=>False
def CpL (H:Hp) (cs:List (List Int)) (A:Addr):Prop:=∃Ts:List Addr,H A=some (.lst (Ts.map V.ref))/\Ts.length=cs.length/\∀(j:Nat) (T:Addr) (r:List Int),Ts[j]? =some T->cs[j]? =some r->H T=some (.lst (r.map V.int))
theorem CpL.sm {cs:List (List Int)}{A:Addr} (c:CpL H cs A) (s:Ab H H'):CpL H' cs A:=by
 obtain⟨Ts,h1,h2,h3⟩:=c
 exact⟨Ts,s _ _ h1,h2,λj T r a b=>s _ _ (h3 j T r a b)⟩
def CpV (p:Addr) (H:Hp) (cs:List (List Int)) (v:V):Prop:=Aa p H (FD cs) v\/ ∃A,v= .ref A/\CpL H cs A
theorem CpV.sm {cs:List (List Int)} (c:CpV p H cs v) (s:Ab H H'):CpV p H' cs v:=by
 rcases c with c | ⟨A,e,c⟩
 ·exact .inl (Aa.ev (Ev.same s) _ _ c)
 ·exact .inr ⟨A,e,c.sm s⟩
def S8 (H:Hp) (c:List Int) (v:V):Prop:=∃A,v= .ref A/\(H A=some (.lst (c.map V.int))\/H A=some (.tup (c.map V.int)))
def Ea (K:Nat):Sp:=λvs H Q _=>match vs with | [.int a,.int b]=>∃n k:Nat,a=(n:Int)/\b=(k:Int)/\n<=4/\k<K/\k<=4/\∀(R:Addr) (H':Hp) (Ts:List Addr),Ab H H'->H R=none->H' R=some (.lst (Ts.map V.ref))->RwT H' Ts (Ba n k)->Q (.ref R) H' | _=>False
abbrev S9:Sp:=Ea 5
theorem Mt {vs:List V}{Q:VK}{E:XK} (h:Ea 0 vs H Q E):False:=by
 unfold Ea at h
 split at h
 ·obtain⟨_,_,_,_,_,h,_⟩:=h;exact Nat.not_lt_zero _ h
 ·exact h
theorem Ta:∀n,n<=4->∀k,k<=4->(Ba n k).Pairwise (λa b=>Cv a b=true):=by decide+kernel
def FL:Sp:=λvs H Q _=>match vs with | [.ref M,v,.ref D,.int f',.int l']=>∃p T,∃f l:Nat,f'=(f:Int)/\l'=(l:Int)/\f<=l/\l<T.ds.length/\TM.ok T/\H M=some (.tup [.int T.lo,.int T.hi,.int T.st])/\CpV p H T.cs v/\H D=some (.tup (T.ds.map V.int))/\Q (.bl (BL T f l)) H | _=>False
def FM:Sp:=λvs H Q _=>match vs with | [.ref M,v,.ref D]=>∃p T,TM.ok T/\H M=some (.tup [.int T.lo,.int T.hi,.int T.st])/\CpV p H T.cs v/\H D=some (.tup (T.ds.map V.int))/\ret H Q p (DS (Co T)) | _=>False
def JC:Sp:=λvs H Q _=>match vs with | [v,x]=>∃p cs c,cs.length<=8/\(∀r∈cs,r.length<=4)/\Aa p H (FD cs) v/\S8 H c x/\∀A H',Ab H H'->H A=none->CpL H' (cs.map (Bm c)) A->Q (.ref A) H' | _=>False
def HH:Sp:=λvs H Q _=>match vs with | [v,u,.int m]=>∃p P S,∃k:Nat,m=(k:Int)/\k<=4/\PL.ok P/\SY.ok S P.bs.length/\Aa p H P.d v/\Aa p H S.d u/\ret H Q p (.tuple ((Ba P.bs.length k).map λd=>DS (Co (only (terms P S) d)))) | _=>False
def HI:Sp:=λvs H Q _=>match vs with | [.ref p,.int m,.int h]=>AV p H/\1<=m/\m<=4/\1<=h/\h<=8/\∀t H' P S v u,PL.ok P->SY.ok S P.bs.length->H' t=some (.tup [v,u])->Aa p H' P.d v->Aa p H' S.d u->Ev p H H'->AV p H'->Q (.ref t) H' | _=>False
def DC (r:List Int) (j:Nat):List (List Int):=((Dz j).filter λx=>decide (BM r<=x)).map λx=>r++[x]
theorem JD {r:List Int}:DC r (j+1)=if BM r<=(j:Int) then DC r j++[r++[(j:Int)]] else DC r j:=by
 unfold DC
 rw [SD]
 by_cases h:BM r<=(j:Int)
 ·rw [if_pos (decide_eq_true h),if_pos h,List.map_append];rfl
 ·rw [if_neg (by simpa using h),if_neg h]
theorem Tb {n:Nat}{r:List Int} (n4:n<=4) (st:IsSet n r):DC r n=grow n r:=by
 obtain⟨f0,f1,_⟩:=st.first
 unfold DC grow
 have key:∀n,n<=4->∀f:Nat,f<=4->(Dz n).filter (λx=>decide ((f:Int)<=x))=(List.range ((n:Int)-(f:Int)).toNat).map λi:Nat=>(f:Int)+(i:Int):=by decide+kernel
 obtain⟨f,e⟩:=Int.eq_ofNat_of_zero_le f0
 have:=key n n4 f (by omega)
 rw [e,this,List.map_map];rfl
theorem Tc {r:List Int}:(DC r j).length<=j:=by
 unfold DC
 rw [List.length_map]
 exact Nat.le_trans (List.length_filter_le _ _) (by unfold Dz;simp)
theorem Td {r:List Int} (h:r≠ []):∃y,BX (r.map V.int) (-1)=some (.int y)/\BM r=y+1:=by
 rcases List.eq_nil_or_concat r with e | ⟨d,y,e⟩
 ·exact absurd e h
 ·rw [List.concat_eq_append] at e
  subst e
  exact⟨y,by rw [List.map_append];exact Kl _ _,GH⟩
theorem CpV.at {cs:List (List Int)} (c:CpV p H cs v) {j:Nat} (h:j<cs.length):(∃A xs ra,v= .ref A/\H A=some (.tup xs)/\xs[j]? =some (.ref ra)/\H ra=some (.tup ((cs.getD j []).map V.int)))\/(∃A xs ra,v= .ref A/\H A=some (.lst xs)/\xs[j]? =some (.ref ra)/\H ra=some (.lst ((cs.getD j []).map V.int))):=by
 have hc:cs[j]? =some (cs.getD j []):=by rw [List.getD_eq_getElem?_getD,List.getElem?_eq_getElem h];rfl
 rcases c with c | ⟨A,rfl,Ts,h1,h2,h3⟩
 ·obtain⟨A,xs,rfl,hA,rs⟩:=Aa.firing c
  obtain⟨y,hy,ry⟩:=rs.get (i:=j) (d:=Ay (cs.getD j [])) (by rw [List.getElem?_map,hc];rfl)
  obtain⟨ra,rfl,hra⟩:=Aa.ofRow ry
  exact .inl ⟨A,xs,ra,rfl,hA,hy,hra⟩
 ·have hT:Ts[j]? =some Ts[j]:=List.getElem?_eq_getElem (by omega)
  exact .inr ⟨A,_,Ts[j],rfl,h1,by rw [List.getElem?_map,hT];rfl,h3 j _ _ hT hc⟩
theorem Mu {n i:Nat}:∀k,i+k<=n->∃Bk,C4 n (i+k)=C4 n i++Bk
 | 0,_=>⟨[],by simp⟩
 | k+1,h=>by
  obtain⟨Bk,e⟩:=Mu (n:=n) (i:=i) k (by omega)
  exact⟨Bk++C3 (i+k) (n-(i+k)),by rw [show i+(k+1)=(i+k)+1 from rfl,Jg,e,List.append_assoc]⟩
theorem Te {f:Nat}:∀ {j m:Nat},j<m->∃Bk,C3 f m=C3 f j++(f,f+j)::Bk
 | j,m,h=>by
  refine⟨(List.range' (j+1) (m-j-1)).map λi=>(f,f+i),?_⟩
  unfold C3
  rw [show List.range m=List.range j++j::List.range' (j+1) (m-j-1) from by
   rw [List.range_eq_range',List.range_eq_range',<-List.range'_succ,show m=j+(m-j) from by omega,<-List.range'_append_1]
   congr 1
   rw [show j+(m-j)-j-1+1=m-j by omega,Nat.zero_add],List.map_append]
  rfl
theorem Tf (hj:i+j<T.ds.length) (h1:∀q∈C4 T.ds.length i,BL T q.1 q.2=false) (h2:∀q∈C3 i j,BL T q.1 q.2=false) (h:BL T i (i+j)=true):Co T=some (i,i+j):=by
 obtain⟨r1,e1⟩:=Mu (n:=T.ds.length) (i:=i+1) (T.ds.length-(i+1)) (by omega)
 rw [show i+1+(T.ds.length-(i+1))=T.ds.length by omega,Jg] at e1
 obtain⟨r2,e2⟩:=Te (f:=i) (j:=j) (m:=T.ds.length-i) (by omega)
 unfold Co Fs
 rw [e1,e2,List.filter_append,List.filter_append,List.filter_append,List.filter_eq_nil_iff.mpr (λq hq=>by rw [h1 q hq];decide),List.filter_eq_nil_iff.mpr (λq hq=>by rw [h2 q hq];decide),List.filter_cons_of_pos (p:=λq=>BL T q.1 q.2) (a:=(i,i+j)) h]
 rfl
theorem Tg (h:∀q∈C4 T.ds.length T.ds.length,BL T q.1 q.2=false):Co T=none:=by
 unfold Co Fs
 rw [List.filter_eq_nil_iff.mpr (λq hq=>by rw [h q hq];decide)];rfl
theorem Mv {i m:Int} (h0:0<=i) (h1:i<m):BV (.int i) m=true:=by unfold BV;dsimp only;rw [decide_eq_true h0,decide_eq_true h1];rfl
theorem Mw:∀ {as bs:List Int},as.Pairwise (· < ·)->bs.Pairwise (· < ·)->(∀x,x∈as↔x∈bs)->as=bs
 | [],[],_,_,_=>rfl
 | [],b::bs,_,_,h=>by have:=(h b).mpr (by simp);cases this
 | a::as,[],_,_,h=>by have:=(h a).mp (by simp);cases this
 | a::as,b::bs,ha,hb,h=>by
  have ha':=List.pairwise_cons.mp ha
  have hb':=List.pairwise_cons.mp hb
  have e:a=b:=by
   have h1:=(h a).mp (by simp)
   have h2:=(h b).mpr (by simp)
   rcases List.mem_cons.mp h1 with e | e
   ·exact e
   ·rcases List.mem_cons.mp h2 with e' | e'
    ·exact e'.symm
    ·have:=hb'.1 a e
     have:=ha'.1 b e'
     omega
  subst e
  rw [Mw ha'.2 hb'.2 λx=>?_]
  constructor
  ·intro hx
   have:=ha'.1 x hx
   rcases List.mem_cons.mp ((h x).mp (by simp [hx])) with e | e
   ·omega
   ·exact e
  ·intro hx
   have:=hb'.1 x hx
   rcases List.mem_cons.mp ((h x).mpr (by simp [hx])) with e | e
   ·omega
   ·exact e
theorem Eb {n:Nat} (h:n<=1000):n<=sizeLine:=Nat.le_trans h (by decide)
theorem Mx {α:Type}{l:List α}{a x:α}{k:Nat} (h:(l++[a])[k]? =some x):l[k]? =some x\/(k=l.length/\x=a):=by
 by_cases c:k<l.length
 ·rw [List.getElem?_append_left c] at h;exact .inl h
 ·rw [List.getElem?_append_right (by omega)] at h
  have:k-l.length=0:=by
   have:=(List.getElem?_eq_some_iff.mp h).1
   simp at this;omega
  rw [this] at h
  cases h
  exact .inr ⟨by omega,rfl⟩
structure FillR (R:List PyData->Prop) (p b:Addr) (H H2:Hp) (i:Nat):Prop where
 ev:Ev p H H2
 pen:AV p H2
 ex:∃xs ds,H2 b=some (.lst xs)/\Ad p H2 ds xs/\Cz ds=true/\ds.length=i/\R ds
theorem Th {ds:List PyData}{d:PyData} (h:Cz ds=true) (hd:BG d=true):Cz (ds++[d])=true:=by
 induction ds with
 | nil=>show Cz [d]=true;unfold Cz;rw [hd];rfl
 | cons a ds ih=>
  unfold Cz at h
  obtain⟨h1,h2⟩:=Bool.and_eq_true_iff.mp h
  rw [List.cons_append]
  unfold Cz
  rw [h1,ih h2];rfl
theorem FillR.step {R:List PyData->Prop}{b t:Addr}{H2 H3:Hp}{d:PyData}{ys:List V}{ds:List PyData} (hx:H2 b=some (.lst xs)) (rs:Ad p H2 ds xs) (nm:Cz ds=true) (hl:ds.length=i) (e3:Ev p H2 H3) (nb:b≠p) (hb:H b=none) (ev:Ev p H H3) (pn:AV p H3)
  (ht:H3 t=none) (rd:Aa p (upd H3 t (.tup ys)) d (.ref t)) (nd:BG d=true) (r:R (ds++[d])):FillR R p b H (upd (upd H3 t (.tup ys)) b (.lst (xs++[.ref t]))) (i+1):=by
 have hb3:H3 b=some (.lst xs):=e3.lst hx nb
 have hbt:b≠t:=Bf hb3 ht
 have hbt':upd H3 t (.tup ys) b=some (.lst xs):=by rw [AA hbt];exact hb3
 have tv:TEv (upd H3 t (.tup ys)) (upd (upd H3 t (.tup ys)) b (.lst (xs++[.ref t]))):=TEv.upd hbt'
 have pn2:AV p (upd H3 t (.tup ys)):=pn.new ht
 refine⟨(ev.trans (Ev.new ht)).own hb,?_,xs++[.ref t],ds++[d],Ag,?_,Th nm nd,by simp [hl],r⟩
 ·obtain⟨l,f,e⟩:=pn2
  exact⟨l,f,by rw [AA (Ne.symm nb)];exact e⟩
 ·exact(Ad.tev ((e3.trans (Ev.new ht)).tev.trans tv) ds xs nm rs).append (.cons (Aa.tev tv d _ nd rd) .nil)
def Ti (r c:List Int):Prop:=r.length=c.length/\∀(j:Nat) (x y:Int),r[j]? =some x->c[j]? =some y->0<=x/\x<=y
theorem My {g:Int} (h0:0<=g) (h1:g<xs.length):∃(j:Nat) (v:V),xs[j]? =some v/\BX xs g=some v:=by
 have hk:g.toNat<xs.length:=by omega
 have e:g=((g.toNat:Nat):Int):=by omega
 refine⟨g.toNat,xs[g.toNat],by simp [hk],?_⟩
 have q:BX xs ((g.toNat:Nat):Int)=some xs[g.toNat]:=C9 (by simp [hk])
 rw [<-e] at q
 exact q
theorem Tj {ds:List PyData}{g:Int} (r:Ad p H ds xs) (h0:0<=g) (h1:g<xs.length):∃v d,BX xs g=some v/\d∈ds/\Aa p H d v:=by
 obtain⟨j,v,hj,hv⟩:=My h0 h1
 obtain⟨d,hd,rd⟩:=r.got hj
 exact⟨v,d,hv,List.mem_of_getElem? hd,rd⟩
def FN:List PyData:=[.none,.bool true,.bool false,.int 0,.int 1,.int (-1),.int 2,.int 8,.int 40,.int (10 ^ 30),.str "",.str "0",.str "lit",.str "short",.tuple [],.tuple [.int 0],.list [.int 0],.list [],.dict [],.dict [(.int 0,.int 1)]]
def FO:List PyData:=[.tuple [.tuple []],.tuple [.int 0,.int 1],.tuple [.none],.tuple [.str "short",.int 0,.int 0],.tuple [.str "dry",.int 0],.tuple [.tuple [.int 0,.int 0]],.tuple [.bool true,.bool false],.tuple [.str "lit",.tuple [],.tuple [],.tuple []]]
def HJ:Sp:=λvs H Q _=>match vs with | [.ref p]=>AV p H/\∀v H' d,Aa p H' d v->d∈FN++FO->Ev p H H'->AV p H'->Q v H' | _=>False
def HK:Sp:=λvs H Q _=>match vs with | [.ref p,v]=>AV p H/\∃P S,PL.ok P/\SY.ok S P.bs.length/\Aa p H (Dd P S) v/\∀w H' F,FOk P S F->Aa p H' (FD F) w->Ev p H H'->AV p H'->Q w H' | _=>False
theorem Mz {ds:List PyData}{n:Nat} (h:¬ds.length=n):AS (.tuple ds) n n=false:=by
 unfold AS
 dsimp only
 rw [Bool.and_eq_false_iff]
 by_cases z:(n:Int)<=(ds.length:Int)
 ·right;exact decide_eq_false (by omega)
 ·left;exact decide_eq_false z
def HL:Sp:=λvs H Q _=>match vs with | [v,x]=>∃p cs d,cs.length<=8/\(∀c∈cs,c.length<=4)/\CpV p H cs v/\Aa p H d x/\∀b H',b=BO cs d->Ab H H'->Q (.bl b) H' | _=>False
def FP:Sp:=λvs H Q _=>match vs with | [.ref M,v,.ref D,x]=>∃p T d,TM.ok T/\H M=some (.tup [.int T.lo,.int T.hi,.int T.st])/\CpV p H T.cs v/\H D=some (.tup (T.ds.map V.int))/\Aa p H d x/\(∀es,d= .tuple es->es.length<=1000)/\∀b H',b=Bs T d->Ab H H'->Q (.bl b) H' | _=>False
theorem MA {d:PyData}{c:Int}:BV d (c+1)=AQ d 0 c:=by
 cases d<;>first | rfl | skip
 unfold BV AQ
 dsimp only
 rw [Bool.eq_iff_iff]
 simp
 omega
theorem MB {cs:List (List Int)}{es:List PyData} (h:¬es.length=cs.length):BO cs (.tuple es)=false:=by
 unfold BO
 rw [Mz h,Bool.false_and]
theorem Ch {cs:List (List Int)}{es:List PyData}{e:PyData}{c:List Int} (he:es[i]? =some e) (hc:cs[i]? =some c) (h:Bz c e=false):BO cs (.tuple es)=false:=by
 unfold BO
 have:((es.zip cs).all λq=>Bz q.2 q.1)=false:=by
  cases z:(es.zip cs).all λq=>Bz q.2 q.1 with
  | false=>rfl
  | true=>
   rw [List.all_eq_true] at z
   have:=z (e,c) (List.mem_of_getElem? (i:=i) (by rw [List.getElem?_zip_eq_some];exact⟨he,hc⟩))
   rw [h] at this;cases this
 dsimp only
 rw [this,Bool.and_false]
theorem MC {cs:List (List Int)}{es:List PyData} (hl:es.length=cs.length) (h:∀(i:Nat) (e:PyData) (c:List Int),es[i]? =some e->cs[i]? =some c->Bz c e=true):BO cs (.tuple es)=true:=by
 unfold BO
 rw [CL (by omega) (by omega),Bool.true_and]
 show((es.zip cs).all λq=>Bz q.2 q.1)=true
 rw [List.all_eq_true]
 intro q hq
 obtain⟨i,hi⟩:=List.getElem?_of_mem hq
 rw [List.getElem?_zip_eq_some] at hi
 exact h i _ _ hi.1 hi.2
theorem MD {c:List Int}{es:List PyData} (h:¬es.length=c.length):Bz c (.tuple es)=false:=by
 unfold Bz
 rw [Mz h,Bool.false_and]
theorem HM {c:List Int}{es:List PyData} (h:es.length=c.length):Bz c (.tuple es)=(es.zip c).all λq=>AQ q.1 0 q.2:=by
 unfold Bz
 rw [CL (by omega) (by omega),Bool.true_and]
theorem ME {es:List PyData} (h:¬es.length=2):Bs T (.tuple es)=false:=by
 unfold Bs CM
 match es,h with
 | [],_=>rfl
 | [_],_=>rfl
 | [_,_],h=>exact absurd rfl h
 | _::_::_::_,_=>rfl
theorem MG {e:PyData}{m:Int} (h:BV e m=true):∃i:Int,e= .int i/\0<=i/\i<m:=by
 cases e with
 | int i=>
  unfold BV at h
  obtain⟨a1,a2⟩:=Bool.and_eq_true_iff.mp h
  exact⟨i,rfl,of_decide_eq_true a1,of_decide_eq_true a2⟩
 | _=>cases h
section
variable {P : Program} {w : World} {K : PySem.W.Frag} {mg : Str -> Option Value} {base : Heap}
theorem sc__law_rows_of:AB ["_law_many","_law_size","_law_found","_law_row"] ["_law_many","_law_size"] (Ax s__law_rows_of):=AD
theorem Tk (F:Df K mg "_law_rows_of" s__law_rows_of ["_law_many","_law_size"]):Fn P w K mg base 1 "_law_rows_of" ["_law_many","_law_size"] (Ea 0):=F.fn sc__law_rows_of (λ_ _ _ _ h=>(Mt h).elim) (λ_ _ _ _ _ _ _ _ _ _ h=>(Mt h).elim)
theorem FQ (k:Nat) (F:Df K mg "_law_rows_of" s__law_rows_of ["_law_many","_law_size"]) (T:Tx mg) (D__law_rows_of:Fn P w K mg base (k+1) "_law_rows_of" ["_law_many","_law_size"] (Ea k)):Fn P w K mg base (k+1+1) "_law_rows_of" ["_law_many","_law_size"] (Ea (k+1)):=by
 refine F.fn sc__law_rows_of (λvs H Q E h=>?_) (λf cdv A outer s H vs Q E hr h=>?_)
 ·unfold Ea at h;split at h;rfl;exact h.elim
 refine⟨_,(Ak (A2 (A1 Do (cy 1) pe_int (AX _)) (An (Aq (B0 (Ao (AK pa_nil))))) AZ) (Ak (AI (i:=2) sc__law_rows_of.nd rfl (AE (by rfl)) (B0 pa_nil)) (Ak (Bw PassesOwn.never rfl (Dv K (Af D__law_rows_of (hr.mono (by omega)) rfl (Am (cy 0) (Au BE (cy 1) pe_int)))) (Aj 3 sc__law_rows_of.nd) (An (BW (CD PySem.F.plainAttrs_list PySem.F.slot_list_extend PySem.F.type_list_extend N7 (cy 2) (Ao (A6 ["_law_one","_law_row"] [none,some 3] rfl (CT rfl T.b_range (Ao (cy 0))) (AO.of rfl) (λ_ _ _ _=>(Aj 0 (AJ (by rfl)))) (λ_ _ _ _=>(IG (PW.pt (Cs (A1 (L9 hr.units0) (cy 1) (AK pa_nil) (AX _)) (CS (A1 KK (cy 0) (Az (AF K) (cy 1) Jv (λ_ _=>rfl)) (AX _))))))) (λ_ _ _ _=>(Au C1 (cy 1) (AK (Ao (cy 0))))))))))) (An (Aq (Aw QK rfl T.b_sorted boot_sorted (Ao (cy 2)))))))),?_⟩
 unfold Ea at h
 split at h
 ·rename_i a b
  obtain⟨n,k0,rfl,rfl,n4,hk,k4,q⟩:=h
  refine⟨rfl,λz=>?_,λz=>?_⟩
  ·have e:k0=0:=by
    have:=of_decide_eq_true z
    injection this with this
    omega
   subst e
   refine λe H1 s1 ke L H2 s2 hL kL=>q L H2 [e] (s1.trans s2) (s1.free hL) kL ⟨rfl,λj T r a b=>?_⟩
   cases j with
   | zero=>cases a;cases b;exact s2 _ _ ke
   | succ j=>cases a
  ·obtain⟨k,rfl⟩:∃k,k0=k+1:=by
    cases k0 with
    | zero=>simp at z
    | succ k=>exact⟨k,rfl⟩
   refine λL H1 s1 hL kL=>?_
   refine⟨n,k,rfl,by omega,n4,by omega,by omega,λR H2 Us s2 hR kR rw2=>⟨R,rfl,⟨_,Ai.of kR⟩,?_⟩⟩
   have nRL:R≠L:=λe=>by rw [e,kL] at hR;cases hR
   have few:=DU n n4 k (by omega)
   have few':=DU n n4 (k+1) (by omega)
   have lU:=rw2.1
   have kL2:=s2 _ _ kL
   refine Fa (xs:=Us.map V.ref) (λi σ H'=>(∃x3,σ=[some (.int (n:Int)),some (.int ((k+1:Nat):Int)),some (.ref L),x3])/\Ev L H2 H'/\∃Ts,H' L=some (.lst (Ts.map V.ref))/\RwT H' Ts (((Ba n k).take i).flatMap (grow n))) ⟨⟨_,rfl⟩,Ev.refl,[],kL2,RwT.nil⟩ (λi σ H' _ h=>Ai.of (h.2.1.lst kR nRL)) (λi x σ H' hx h=>?_) fun σ H' h=>?_
   ·obtain⟨⟨x3,rfl⟩,ev,Ts,kT,rT⟩:=h
    rw [List.getElem?_map] at hx
    cases hU:Us[i]? with
    | none=>rw [hU] at hx;cases hx
    | some U=>
     rw [hU] at hx
     cases hx
     have li:i<(Ba n k).length:=by rw [<-lU];exact(List.getElem?_eq_some_iff.mp hU).1
     obtain⟨r,hr⟩:∃r,(Ba n k)[i]? =some r:=⟨_,List.getElem?_eq_getElem li⟩
     have st:=(mem_sets.mp (List.mem_of_getElem? hr)).1
     have kU:=ev.tup (rw2.2 i U r hU hr)
     have nUL:U≠L:=λe=>by rw [e,kT] at kU;cases kU
     refine⟨.inl ⟨rfl,_,Ai.of kT⟩,_,rfl,by omega,by omega,IM (n:=(n:Int).toNat) (λj ys G=>Ab H' G/\∃Vs:List Addr,ys=Vs.map V.ref/\RwT G Vs (DC r j)) (by omega) ⟨Ab.refl _,[],rfl,RwT.nil⟩ (λj ys G h=>?_) (λj ys G hj h=>?_) λys G h l hl=>?_⟩
     ·obtain⟨_,Vs,rfl,rv⟩:=h
      rw [List.length_map,rv.1];exact Tc
     ·obtain⟨sm,Vs,rfl,rv⟩:=h
      refine⟨⟨rfl,trivial⟩,λe G1 s1' ke=>⟨U,e,_,rfl,rfl,(sm.trans s1') _ _ kU,ke,⟨λz=>⟨λ_=>?_,λz=>(by cases z)⟩,λz=>?_⟩⟩⟩
      ·have e0:r=[]:=by cases r with | nil=>rfl | cons a r=>cases z
       refine λt G2 s2' kt=>⟨U,t,_,_,rfl,rfl,((sm.trans s1').trans s2') _ _ kU,kt,by rw [List.length_map];have:=st.len;show r.length+1<=1000;omega,λw G3 s3' kw=>⟨(sm.trans s1').trans (s2'.trans s3'),Vs++[w],by rw [List.map_append];rfl,?_⟩⟩
       rw [JD,if_pos (by rw [e0];show(0:Int)<=j;omega)]
       exact(rv.sm (s1'.trans (s2'.trans s3'))).snoc (by rw [kw,List.map_append,Int.zero_add];rfl)
      ·have e0:r≠ []:=λe=>by rw [e] at z;cases z
       obtain⟨y,hy,fy⟩:=Td e0
       refine⟨U,_,-1,.int y,rfl,rfl,Ac.of ((sm.trans s1') _ _ kU),hy,⟨λgt=>?_,λgt=>⟨sm.trans s1',Vs,rfl,?_⟩⟩⟩
       ·have gt:=of_decide_eq_true gt
        refine λt G2 s2' kt=>⟨U,t,_,_,rfl,rfl,((sm.trans s1').trans s2') _ _ kU,kt,by rw [List.length_map];have:=st.len;show r.length+1<=1000;omega,λw G3 s3' kw=>⟨(sm.trans s1').trans (s2'.trans s3'),Vs++[w],by rw [List.map_append];rfl,?_⟩⟩
        rw [JD,if_pos (by omega)]
        exact(rv.sm (s1'.trans (s2'.trans s3'))).snoc (by rw [kw,List.map_append,Int.zero_add];rfl)
       ·have gt:=of_decide_eq_false gt
        rw [JD,if_neg (by omega)]
        exact rv.sm s1'
     ·obtain⟨sm,Vs,rfl,rv⟩:=h
      have nl:=Ab.new (o:= .lst (Vs.map V.ref)) hl
      have kl:upd G l (.lst (Vs.map V.ref)) l=some (.lst (Vs.map V.ref)):=Ag
      generalize upd G l (.lst (Vs.map V.ref))=G1 at nl kl ⊢
      have kT1:=(sm.trans nl) _ _ kT
      rw [show(n:Int).toNat=n from rfl,Tb n4 st] at rv
      have lT:=rT.1
      have lV:=rv.1
      have tl:=Mo (f:=grow n) (l:=Ba n k) (a:=i+1)
      have e1:((Ba n k).flatMap (grow n)).length<=6:=few'
      rw [A3 hr,List.flatMap_append,List.length_append] at tl
      have e2:[r].flatMap (grow n)=grow n r:=by simp
      rw [e2] at tl
      refine⟨L,l,_,_,rfl,rfl,kT1,kl,by rw [List.length_map,List.length_map];exact Nat.le_trans (show Ts.length+Vs.length<=6 by omega) (by decide),⟨_,rfl⟩,ev.trans ((Ev.same (sm.trans nl)).trans (Ev.pen kT1)),Ts++Vs,?_,?_⟩
      ·rw [Ag,List.map_append]
      ·rw [A3 hr,List.flatMap_append,e2]
       exact((rT.sm (sm.trans nl)).app (rv.sm nl)).own kT1
   ·obtain⟨⟨x3,rfl⟩,ev,Ts,kT,rT⟩:=h
    rw [List.length_map,lU,List.take_length] at rT
    have rT':RwT H' Ts (Ba n (k+1)):=rT
    have lT:=rT'.1
    refine⟨L,Ts,Ba n (k+1),k+1,rfl,kT,by omega,rT',by omega,λr hr=>(mem_sets.mp hr).2,Ta n n4 (k+1) (by omega),λl H3 s3 hl kl=>?_⟩
    have sm:=(Ab.evOwn (s1.trans s2) hL ev).trans s3
    exact q l H3 Ts sm ((Ab.evOwn (s1.trans s2) hL ev).free hl) kl (rT'.sm s3)
 ·exact h.elim
abbrev HN (P:Program) (w:World) (K:PySem.W.Frag) (mg:Str->Option Value) (base:Heap):Prop:=Fn P w K mg base 6 "_law_rows_of" ["_law_many","_law_size"] S9
theorem Tl (F:Df K mg "_law_rows_of" s__law_rows_of ["_law_many","_law_size"]) (T:Tx mg):HN P w K mg base:=FQ 4 F T (FQ 3 F T (FQ 2 F T (FQ 1 F T (FQ 0 F T (Tk F)))))
theorem Tm:AB ["_law_thing","_law_many"] ["_law_thing","_law_many"] (Ax s__law_below):=AD
abbrev HP (P:Program) (w:World) (K:PySem.W.Frag) (mg:Str->Option Value) (base:Heap):Prop:=Fn P w K mg base 1 "_law_below" ["_law_thing","_law_many"] JB
theorem Tn (F:Df K mg "_law_below" s__law_below ["_law_thing","_law_many"]) (T:Tx mg)  :HP P w K mg base:=by
 refine F.fn Tm (λvs H Q E h=>?_) (λf cdv A outer s H vs Q E hr h=>?_)
 ·unfold JB at h;split at h;rfl;exact h.elim
 refine⟨_,(An (Aq (AY (Aw C0 rfl T.b_isinstance boot_isinstance (Am (cy 0) (CQ (v:= .ty "int") rfl T.b_int L2.boot_int rfl))) (AY (KN (Aw C0 rfl T.b_isinstance boot_isinstance (Am (cy 0) (CQ (v:= .ty "bool") rfl T.b_bool L2.boot_bool rfl)))) (Bl (IQ Db DL pe_int (cy 0) (cy 1))))))),?_⟩
 unfold JB at h
 split at h
 ·rename_i v m
  obtain⟨p,d,r,q⟩:=h
  refine⟨_,r.ty,.inl rfl,⟨λc=>⟨_,r.ty,.inr (.inl rfl),⟨λc2=>?_,λc2=>?_⟩⟩,λc=>?_⟩⟩
  ·cases d with
   | int i=>
    unfold Aa at r
    subst r
    refine⟨λc=>?_,λc=>?_⟩
    ·exact q _ (by unfold BV;dsimp only;rw [c];rfl)
    ·exact q _ (by unfold BV;dsimp only;rw [c];rfl)
   | bool b=>cases c2
   | _=>cases c
  ·exact q _ (by cases d<;>first | rfl | cases c2)
  ·exact q _ (by cases d<;>first | rfl | cases c)
 ·exact h.elim
theorem sc__law_is_firing:AB ["_law_caps_here","_law_thing","_law_row","_law_most"] ["_law_caps_here","_law_thing"] (Ax s__law_is_firing):=AD
theorem To (F:Df K mg "_law_is_firing" s__law_is_firing ["_law_caps_here","_law_thing"]) (T:Tx mg) (D__law_below:HP P w K mg base):Fn P w K mg base 2 "_law_is_firing" ["_law_caps_here","_law_thing"] HL:=by
 refine F.fn sc__law_is_firing (λvs H Q E h=>?_) (λf cdv A outer s H vs Q E hr h=>?_)
 ·unfold HL at h;split at h;rfl;exact h.elim
 refine⟨_,(Ak (A2 (PW.pt (Cs (Bn (Bh (Aw C0 rfl T.b_isinstance boot_isinstance (Am (cy 1) (CQ (v:= .ty "tuple") rfl T.b_tuple Bi rfl))))) (CS (A1 DJ (Aw (AR K) rfl T.b_len PySem.boot_len (Ao (cy 1))) (Aw (AR K) rfl T.b_len PySem.boot_len (Ao (cy 0))) (AX _))))) (An (Aq pe_bl)) AZ) (Ak (Bw PassesOwn.never rfl (GD (DN P w K rfl T.b_zip (Am (cy 1) (cy 0))) (IU P w K rfl T.b_zip (Am (cy 1) (cy 0)))) (AM K (n:=2) (Ap (Aj 2 sc__law_is_firing.nd) (Ap (Aj 3 sc__law_is_firing.nd) AL))) (Ak (A2 (PW.pt (Cs (Bn (Bh (Aw C0 rfl T.b_isinstance boot_isinstance (Am (cy 2) (CQ (v:= .ty "tuple") rfl T.b_tuple Bi rfl))))) (CS (A1 DJ (Aw (AR K) rfl T.b_len PySem.boot_len (Ao (cy 2))) (Aw (AR K) rfl T.b_len PySem.boot_len (Ao (cy 3))) (AX _))))) (An (Aq pe_bl)) AZ) (An (A2 (Bn (Bh (Aw (Ct rfl) rfl T.b_all boot_all (Ao (A6 ["_law_one","_law_cap"] [none,none] rfl (GD (DN P w K rfl T.b_zip (Am (cy 2) (cy 3))) (IU P w K rfl T.b_zip (Am (cy 2) (cy 3)))) (AO.of rfl) (λ_ _ _ _=>(AM K (n:=2) (Ap (Aj 0 (AJ (by rfl))) (Ap (Aj 1 (AJ (by rfl))) AL)))) (λ_ _ _ _=>A5) (λ_ _ _ _=>(Af D__law_below (hr.mono (by decide)) rfl (Am (cy 0) (Au Bb (cy 1) pe_int))))))))) (An (Aq pe_bl)) AZ)))) (An (Aq pe_bl)))),?_⟩
 unfold HL at h
 split at h
 ·rename_i v x
  obtain⟨p,cs,d,l8,b4,cp,rx,q⟩:=h
  cases d with
  | none=>exact⟨_,rx.ty,.inr (.inr (.inl rfl)),⟨λ_=>⟨λ_=>q false _ rfl (Ab.refl _),λz=>(by cases z)⟩,λz=>(by cases z)⟩⟩
  | bool _=>exact⟨_,rx.ty,.inr (.inr (.inl rfl)),⟨λ_=>⟨λ_=>q false _ rfl (Ab.refl _),λz=>(by cases z)⟩,λz=>(by cases z)⟩⟩
  | int _=>exact⟨_,rx.ty,.inr (.inr (.inl rfl)),⟨λ_=>⟨λ_=>q false _ rfl (Ab.refl _),λz=>(by cases z)⟩,λz=>(by cases z)⟩⟩
  | str _=>exact⟨_,rx.ty,.inr (.inr (.inl rfl)),⟨λ_=>⟨λ_=>q false _ rfl (Ab.refl _),λz=>(by cases z)⟩,λz=>(by cases z)⟩⟩
  | list _=>exact⟨_,rx.ty,.inr (.inr (.inl rfl)),⟨λ_=>⟨λ_=>q false _ rfl (Ab.refl _),λz=>(by cases z)⟩,λz=>(by cases z)⟩⟩
  | dict _=>exact⟨_,rx.ty,.inr (.inr (.inl rfl)),⟨λ_=>⟨λ_=>q false _ rfl (Ab.refl _),λz=>(by cases z)⟩,λz=>(by cases z)⟩⟩
  | tuple es=>
   obtain⟨l,xs,rfl,hl,rs⟩:=Aa.shape rx
   have lx:=rs.len.symm
   refine⟨_,rx.ty,.inr (.inr (.inl rfl)),⟨λc=>(by cases c),λ_=>?_⟩⟩
   rcases cp with cp | ⟨A,rfl,Ts,hA,hl2,hT3⟩
   ·obtain⟨A,ys,rfl,hA,rc⟩:=Aa.firing cp
    have ly:=rc.len
    rw [List.length_map] at ly
    have ly:=ly.symm
    by_cases e1:es.length=cs.length
    rotate_left
    ·refine⟨l,_,rfl,.inr (Ac.of hl),A,_,rfl,.inr (Ac.of hA),rfl,⟨λ_=>q false _ (MB e1).symm (Ab.refl _),λz=>?_⟩⟩
     exfalso
     rw [lx,ly] at z
     simp at z
     omega
    refine⟨l,_,rfl,.inr (Ac.of hl),A,_,rfl,.inr (Ac.of hA),rfl,⟨λz=>?_,λ_=>?_⟩⟩
    ·rw [lx,ly,e1] at z;simp at z
    refine .inl<| ⟨l,A,rfl,⟨_,Ac.of hl⟩,⟨_,Ac.of hA⟩,EQ (xs:=xs) (ys:=ys) (λi σ H'=>(∃x2 x3,σ=[some (.ref A),some (.ref l),x2,x3])/\Ab H H'/\∀(k:Nat) (e:PyData) (c:List Int),k<i->es[k]? =some e->cs[k]? =some c->Bz c e=true) (by omega) ⟨⟨_,_,rfl⟩,Ab.refl _,λk e c hk=>absurd hk (Nat.not_lt_zero _)⟩ (λi σ H' h=>⟨Ac.of (h.2.1 _ _ hl),Ac.of (h.2.1 _ _ hA)⟩) (λi x y σ H' T hx hy h hT=>?_) fun σ H' h=>?_⟩
    ·obtain⟨⟨x2,x3,rfl⟩,sm,al⟩:=h
     obtain⟨r,hr,rr⟩:=rs.got hx
     obtain⟨c0,hc0,rc0⟩:=Ad.mapGot rc hy
     obtain⟨cb,rfl,hcb⟩:=Aa.ofRow rc0
     have c4:=b4 c0 (List.mem_of_getElem? hc0)
     have nT:=Ab.new (o:= .tup [x,.ref cb]) hT
     refine⟨T,_,rfl,Ac.of Ag,rfl,_,_,rfl,_,_,rfl,rfl,?_⟩
     have hcb1:=(sm.trans nT) _ _ hcb
     have rr1:=Aa.ev (Ev.same (p:=p) (sm.trans nT)) _ _ rr
     generalize upd H' T (.tup [x,.ref cb])=H1 at nT hcb1 rr1 ⊢
     cases r with
     | none=>exact⟨_,rr1.ty,.inr (.inr (.inl rfl)),⟨λ_=>⟨λ_=>q false _ (Ch hr hc0 rfl).symm (sm.trans nT),λz=>(by cases z)⟩,λz=>(by cases z)⟩⟩
     | bool _=>exact⟨_,rr1.ty,.inr (.inr (.inl rfl)),⟨λ_=>⟨λ_=>q false _ (Ch hr hc0 rfl).symm (sm.trans nT),λz=>(by cases z)⟩,λz=>(by cases z)⟩⟩
     | int _=>exact⟨_,rr1.ty,.inr (.inr (.inl rfl)),⟨λ_=>⟨λ_=>q false _ (Ch hr hc0 rfl).symm (sm.trans nT),λz=>(by cases z)⟩,λz=>(by cases z)⟩⟩
     | str _=>exact⟨_,rr1.ty,.inr (.inr (.inl rfl)),⟨λ_=>⟨λ_=>q false _ (Ch hr hc0 rfl).symm (sm.trans nT),λz=>(by cases z)⟩,λz=>(by cases z)⟩⟩
     | list _=>exact⟨_,rr1.ty,.inr (.inr (.inl rfl)),⟨λ_=>⟨λ_=>q false _ (Ch hr hc0 rfl).symm (sm.trans nT),λz=>(by cases z)⟩,λz=>(by cases z)⟩⟩
     | dict _=>exact⟨_,rr1.ty,.inr (.inr (.inl rfl)),⟨λ_=>⟨λ_=>q false _ (Ch hr hc0 rfl).symm (sm.trans nT),λz=>(by cases z)⟩,λz=>(by cases z)⟩⟩
     | tuple fs=>
      obtain⟨ra,rxs,rfl,hra1,rf⟩:=Aa.shape rr1
      have lr:=rf.len
      refine⟨_,rr1.ty,.inr (.inr (.inl rfl)),⟨λc=>(by cases c),λ_=>?_⟩⟩
      by_cases e2:fs.length=c0.length
      rotate_left
      ·refine⟨ra,_,rfl,.inr (Ac.of hra1),cb,_,rfl,.inr (Ac.of hcb1),rfl,⟨λ_=>q false _ (Ch hr hc0 (MD e2)).symm (sm.trans nT),λz=>?_⟩⟩
       exfalso
       rw [<-lr,List.length_map] at z
       simp at z
       omega
      refine⟨ra,_,rfl,.inr (Ac.of hra1),cb,_,rfl,.inr (Ac.of hcb1),rfl,⟨λz=>?_,λ_=>?_⟩⟩
      ·rw [<-lr,List.length_map,e2] at z;simp at z
      refine .inl<| ⟨ra,cb,rfl,⟨_,Ac.of hra1⟩,⟨_,Ac.of hcb1⟩,walk_zip (xs:=rxs) (ys:=c0.map V.int) (λi zs H'=>Ab H1 H'/\zs=((fs.zip c0).take i).map λq=>V.bl (AQ q.1 0 q.2)) (by omega) (by rw [List.length_map];omega) ⟨Ab.refl _,rfl⟩ (λi zs H' h=>by rw [h.2,List.length_map,List.length_take];omega) (λi zs H' h=>⟨Ac.of (h.1 _ _ hra1),Ac.of (h.1 _ _ hcb1)⟩) (λi x y zs H' U hx hy h hU=>?_) λzs H' h m hm=>?_⟩
      ·obtain⟨sm2,hz⟩:=h
       obtain⟨a,ha,ra'⟩:=rf.got hx
       obtain⟨b,hb,rfl⟩:=E3 hy
       have nU:=Ab.new (o:= .tup [x,.int b]) hU
       refine⟨U,_,rfl,Ac.of Ag,rfl,_,_,rfl,_,_,rfl,rfl,trivial,λ_=>⟨p,a,Aa.ev (Ev.same (sm2.trans nU)) _ _ ra',λb' e=>⟨sm2.trans nU,?_⟩⟩,λz=>by cases z⟩
       have hzz:(fs.zip c0)[i]? =some (a,b):=by rw [List.getElem?_zip_eq_some];exact⟨ha,hb⟩
       rw [hz,A3 hzz,List.map_append,e,MA];rfl
      ·obtain⟨sm2,hz⟩:=h
       refine⟨m,(fs.zip c0).map λq=>AQ q.1 0 q.2,rfl,by rw [Ag,hz,List.take_of_length_le (by rw [List.length_zip];omega),List.map_map];rfl,?_⟩
       rw [List.all_map]
       have s9:=sm.trans (nT.trans (sm2.trans (Ab.new (o:= .lst zs) hm)))
       refine⟨λz=>?_,λz=>?_⟩
       ·refine q false _ (Ch hr hc0 ?_).symm s9
        rw [HM e2];simpa using z
       ·refine⟨⟨_,_,rfl⟩,s9,λk e' c' hk he' hc'=>?_⟩
        by_cases ek:k=i
        ·subst ek
         rw [hr] at he'
         rw [hc0] at hc'
         cases he'
         cases hc'
         rw [HM e2];simpa using z
        ·exact al k e' c' (by omega) he' hc'
    ·obtain⟨⟨x2,x3,rfl⟩,sm,al⟩:=h
     refine q true _ (MC e1 λk e c he hc=>al k e c ?_ he hc).symm sm
     have:=(List.getElem?_eq_some_iff.mp he).1
     omega
   ·obtain⟨ys,ey⟩:∃ys,ys=Ts.map V.ref:=⟨_,rfl⟩
    rw [<-ey] at hA
    have ly:ys.length=cs.length:=by rw [ey,List.length_map,hl2]
    by_cases e1:es.length=cs.length
    rotate_left
    ·refine⟨l,_,rfl,.inr (Ac.of hl),A,_,rfl,.inl (Ai.of hA),rfl,⟨λ_=>q false _ (MB e1).symm (Ab.refl _),λz=>?_⟩⟩
     exfalso
     rw [lx,ly] at z
     simp at z
     omega
    refine⟨l,_,rfl,.inr (Ac.of hl),A,_,rfl,.inl (Ai.of hA),rfl,⟨λz=>?_,λ_=>?_⟩⟩
    ·rw [lx,ly,e1] at z;simp at z
    refine .inr<| ⟨l,A,rfl,⟨_,Ac.of hl⟩,⟨_,Ai.of hA⟩,EQ (xs:=xs) (ys:=ys) (λi σ H'=>(∃x2 x3,σ=[some (.ref A),some (.ref l),x2,x3])/\Ab H H'/\∀(k:Nat) (e:PyData) (c:List Int),k<i->es[k]? =some e->cs[k]? =some c->Bz c e=true) (by omega) ⟨⟨_,_,rfl⟩,Ab.refl _,λk e c hk=>absurd hk (Nat.not_lt_zero _)⟩ (λi σ H' h=>⟨Ac.of (h.2.1 _ _ hl),Ai.of (h.2.1 _ _ hA)⟩) (λi x y σ H' T hx hy h hT=>?_) fun σ H' h=>?_⟩
    ·obtain⟨⟨x2,x3,rfl⟩,sm,al⟩:=h
     obtain⟨r,hr,rr⟩:=rs.got hx
     rw [ey,List.getElem?_map] at hy
     obtain⟨cb,hcT,rfl⟩:∃cb,Ts[i]? =some cb/\y= .ref cb:=by
      cases z:Ts[i]? with
      | none=>rw [z] at hy;cases hy
      | some cb=>rw [z] at hy;cases hy;exact⟨cb,rfl,rfl⟩
     obtain⟨c0,hc0⟩:∃c0,cs[i]? =some c0:=⟨_,List.getElem?_eq_getElem (by rw [<-hl2];exact(List.getElem?_eq_some_iff.mp hcT).1)⟩
     have hcb:=hT3 i cb c0 hcT hc0
     have c4:=b4 c0 (List.mem_of_getElem? hc0)
     have nT:=Ab.new (o:= .tup [x,.ref cb]) hT
     refine⟨T,_,rfl,Ac.of Ag,rfl,_,_,rfl,_,_,rfl,rfl,?_⟩
     have hcb1:=(sm.trans nT) _ _ hcb
     have rr1:=Aa.ev (Ev.same (p:=p) (sm.trans nT)) _ _ rr
     generalize upd H' T (.tup [x,.ref cb])=H1 at nT hcb1 rr1 ⊢
     cases r with
     | none=>exact⟨_,rr1.ty,.inr (.inr (.inl rfl)),⟨λ_=>⟨λ_=>q false _ (Ch hr hc0 rfl).symm (sm.trans nT),λz=>(by cases z)⟩,λz=>(by cases z)⟩⟩
     | bool _=>exact⟨_,rr1.ty,.inr (.inr (.inl rfl)),⟨λ_=>⟨λ_=>q false _ (Ch hr hc0 rfl).symm (sm.trans nT),λz=>(by cases z)⟩,λz=>(by cases z)⟩⟩
     | int _=>exact⟨_,rr1.ty,.inr (.inr (.inl rfl)),⟨λ_=>⟨λ_=>q false _ (Ch hr hc0 rfl).symm (sm.trans nT),λz=>(by cases z)⟩,λz=>(by cases z)⟩⟩
     | str _=>exact⟨_,rr1.ty,.inr (.inr (.inl rfl)),⟨λ_=>⟨λ_=>q false _ (Ch hr hc0 rfl).symm (sm.trans nT),λz=>(by cases z)⟩,λz=>(by cases z)⟩⟩
     | list _=>exact⟨_,rr1.ty,.inr (.inr (.inl rfl)),⟨λ_=>⟨λ_=>q false _ (Ch hr hc0 rfl).symm (sm.trans nT),λz=>(by cases z)⟩,λz=>(by cases z)⟩⟩
     | dict _=>exact⟨_,rr1.ty,.inr (.inr (.inl rfl)),⟨λ_=>⟨λ_=>q false _ (Ch hr hc0 rfl).symm (sm.trans nT),λz=>(by cases z)⟩,λz=>(by cases z)⟩⟩
     | tuple fs=>
      obtain⟨ra,rxs,rfl,hra1,rf⟩:=Aa.shape rr1
      have lr:=rf.len
      refine⟨_,rr1.ty,.inr (.inr (.inl rfl)),⟨λc=>(by cases c),λ_=>?_⟩⟩
      by_cases e2:fs.length=c0.length
      rotate_left
      ·refine⟨ra,_,rfl,.inr (Ac.of hra1),cb,_,rfl,.inl (Ai.of hcb1),rfl,⟨λ_=>q false _ (Ch hr hc0 (MD e2)).symm (sm.trans nT),λz=>?_⟩⟩
       exfalso
       rw [<-lr,List.length_map] at z
       simp at z
       omega
      refine⟨ra,_,rfl,.inr (Ac.of hra1),cb,_,rfl,.inl (Ai.of hcb1),rfl,⟨λz=>?_,λ_=>?_⟩⟩
      ·rw [<-lr,List.length_map,e2] at z;simp at z
      refine .inr<| ⟨ra,cb,rfl,⟨_,Ac.of hra1⟩,⟨_,Ai.of hcb1⟩,walk_zip (xs:=rxs) (ys:=c0.map V.int) (λi zs H'=>Ab H1 H'/\zs=((fs.zip c0).take i).map λq=>V.bl (AQ q.1 0 q.2)) (by omega) (by rw [List.length_map];omega) ⟨Ab.refl _,rfl⟩ (λi zs H' h=>by rw [h.2,List.length_map,List.length_take];omega) (λi zs H' h=>⟨Ac.of (h.1 _ _ hra1),Ai.of (h.1 _ _ hcb1)⟩) (λi x y zs H' U hx hy h hU=>?_) λzs H' h m hm=>?_⟩
      ·obtain⟨sm2,hz⟩:=h
       obtain⟨a,ha,ra'⟩:=rf.got hx
       obtain⟨b,hb,rfl⟩:=E3 hy
       have nU:=Ab.new (o:= .tup [x,.int b]) hU
       refine⟨U,_,rfl,Ac.of Ag,rfl,_,_,rfl,_,_,rfl,rfl,trivial,λ_=>⟨p,a,Aa.ev (Ev.same (sm2.trans nU)) _ _ ra',λb' e=>⟨sm2.trans nU,?_⟩⟩,λz=>by cases z⟩
       have hzz:(fs.zip c0)[i]? =some (a,b):=by rw [List.getElem?_zip_eq_some];exact⟨ha,hb⟩
       rw [hz,A3 hzz,List.map_append,e,MA];rfl
      ·obtain⟨sm2,hz⟩:=h
       refine⟨m,(fs.zip c0).map λq=>AQ q.1 0 q.2,rfl,by rw [Ag,hz,List.take_of_length_le (by rw [List.length_zip];omega),List.map_map];rfl,?_⟩
       rw [List.all_map]
       have s9:=sm.trans (nT.trans (sm2.trans (Ab.new (o:= .lst zs) hm)))
       refine⟨λz=>?_,λz=>?_⟩
       ·refine q false _ (Ch hr hc0 ?_).symm s9
        rw [HM e2];simpa using z
       ·refine⟨⟨_,_,rfl⟩,s9,λk e' c' hk he' hc'=>?_⟩
        by_cases ek:k=i
        ·subst ek
         rw [hr] at he'
         rw [hc0] at hc'
         cases he'
         cases hc'
         rw [HM e2];simpa using z
        ·exact al k e' c' (by omega) he' hc'
    ·obtain⟨⟨x2,x3,rfl⟩,sm,al⟩:=h
     refine q true _ (MC e1 λk e c he hc=>al k e c ?_ he hc).symm sm
     have:=(List.getElem?_eq_some_iff.mp he).1
     omega
 ·exact h.elim
theorem sc__law_is_short:AB ["_law_main","_law_caps_here","_law_draws_here","_law_first","_law_last","_law_there","_law_hour"] ["_law_main","_law_caps_here","_law_draws_here","_law_first","_law_last"] (Ax s__law_is_short):=AD
theorem Tp (F:Df K mg "_law_is_short" s__law_is_short ["_law_main","_law_caps_here","_law_draws_here","_law_first","_law_last"]) (T:Tx mg)  :Fn P w K mg base 1 "_law_is_short" ["_law_main","_law_caps_here","_law_draws_here","_law_first","_law_last"] FL:=by
 refine F.fn sc__law_is_short (λvs H Q E h=>?_) (λf cdv A outer s H vs Q E hr h=>?_)
 ·unfold FL at h;split at h;rfl;exact h.elim
 refine⟨_,(Ak (AI (i:=5) sc__law_is_short.nd rfl (AE (by rfl)) (Dt (A1 Do (cy 3) pe_int (AX _)) (Az (AF K) (cy 0) pe_int (λ_ _=>rfl)) (Az (AF K) (cy 0) pe_int (λ_ _=>rfl)))) (Ak (Bw PassesOwn.never rfl (Ih rfl T.b_range (Am (cy 3) (Au Bb (cy 4) pe_int))) (Aj 6 sc__law_is_short.nd) (An (AI (i:=5) sc__law_is_short.nd rfl (AE (by rfl)) (Au BE (Au Bb (cy 5) (Aw (EM rfl) rfl T.b_sum boot_sum (Ao (Rj (Az (AF K) (cy 1) (cy 6) (λ_ _=>rfl)) (Az (BS K) (cy 1) (cy 6) (λ_ _=>rfl)))))) (Az (AF K) (cy 2) (cy 6) (λ_ _=>rfl)))))) (An (Aq (CG DL (cy 5) (Az (AF K) (cy 0) pe_int (λ_ _=>rfl)) (AX _)))))),?_⟩
 unfold FL at h
 split at h
 ·rename_i M v D f' l'
  obtain⟨p,T,f,l,rfl,rfl,fl,ll,ok,kM,cp,kD,q⟩:=h
  have lc:=ok.lc
  have l8:=ok.l8
  have fin:∀ {x6:Option V},(JO (J0 (JZ (Bp (Ce 3) (Bp (CF (mI0 λi j=>V.int (i+j)) (Ce 4) (tC (V.int 1))) CV))) (Ee 6) (Id (CF (mI0 λi j=>V.int (i-j)) (CF (mI0 λi j=>V.int (i+j)) (Ce 5) (Iu Li (Bp (Ma (CF (Fd K) (Ce 1) (Ce 6)) (CF (Iv K) (Ce 1) (Ce 6))) CV))) (CF (Fd K) (Ce 2) (Ce 6))) (Ee 5))) (JP (CF (mI0 λi j=>V.bl (decide (i<j))) (Ce 5) (CF (Fd K) (Ce 0) (tC (V.int 0)))))) { nx:=λx H'=>Q V.non H',rt:=Q} [some (.ref M),some v,some (.ref D),some (.int (f:Int)),some (.int (l:Int)),some (.int (Dg T f 0)),x6] H:=by
   intro x6
   refine⟨_,_,rfl,⟨by omega,by omega,by omega,by omega⟩,C7 (n:=((l:Int)+1-(f:Int)).toNat) (λi σ H'=>(∃x6,σ=[some (.ref M),some v,some (.ref D),some (.int (f:Int)),some (.int (l:Int)),some (.int (Dg T f i)),x6])/\H'=H) ⟨⟨_,rfl⟩,rfl⟩ (λi σ H' hi h=>?_) fun σ H' h=>?_⟩
   ·obtain⟨⟨x6,rfl⟩,rfl⟩:=h
    have hd:BX (T.ds.map V.int) ((f:Int)+(i:Int))=some (.int (T.ds.getD (f+i) 0)):=by
     rw [show(f:Int)+(i:Int)=((f+i:Nat):Int) by omega]
     exact C9 (by rw [List.getElem?_map,Lh (by omega)];rfl)
    rcases cp.at (j:=f+i) (by omega) with⟨A,xs,ra,rfl,hA,hx,hra⟩ | ⟨A,xs,ra,rfl,hA,hx,hra⟩
    ·exact .inl ⟨A,_,_,.ref ra,rfl,rfl,Ac.of hA,by rw [show(f:Int)+(i:Int)=((f+i:Nat):Int) by omega];exact C9 hx,ra,_,rfl,.inr hra,D,_,_,_,rfl,rfl,Ac.of kD,hd,⟨_,rfl⟩,rfl⟩
    ·exact .inr ⟨A,_,_,.ref ra,rfl,rfl,Ai.of hA,by rw [show(f:Int)+(i:Int)=((f+i:Nat):Int) by omega];exact C9 hx,ra,_,rfl,.inl hra,D,_,_,_,rfl,rfl,Ac.of kD,hd,⟨_,rfl⟩,rfl⟩
   ·obtain⟨⟨x6,rfl⟩,rfl⟩:=h
    refine⟨M,_,0,.int T.lo,rfl,rfl,Ac.of kM,rfl,?_⟩
    rw [<-P5 ok fl ll] at q
    unfold Jh at q
    rw [show l+1-f=((l:Int)+1-(f:Int)).toNat by omega] at q
    exact q
  refine⟨rfl,λz=>?_,λz=>?_⟩
  ·have e:f=0:=by
    have:=of_decide_eq_true z
    injection this with this
    omega
   have:=fin (x6:=none)
   rw [show Dg T f 0=T.st from by unfold Dg;rw [if_pos e]] at this
   exact⟨M,_,2,.int T.st,rfl,rfl,Ac.of kM,rfl,this⟩
  ·have e:f≠0:=λe=>by subst e;simp at z
   have:=fin (x6:=none)
   rw [show Dg T f 0=T.hi from by unfold Dg;rw [if_neg e]] at this
   exact⟨M,_,1,.int T.hi,rfl,rfl,Ac.of kM,rfl,this⟩
 ·exact h.elim
theorem sc__law_stretch:AB ["_law_main","_law_caps_here","_law_draws_here","_law_many","_law_first","_law_last"] ["_law_main","_law_caps_here","_law_draws_here"] (Ax s__law_stretch):=AD
theorem Tq (F:Df K mg "_law_stretch" s__law_stretch ["_law_main","_law_caps_here","_law_draws_here"]) (T:Tx mg) (D__law_is_short:Fn P w K mg base 1 "_law_is_short" ["_law_main","_law_caps_here","_law_draws_here","_law_first","_law_last"] FL):Fn P w K mg base 2 "_law_stretch" ["_law_main","_law_caps_here","_law_draws_here"] FM:=by
 refine F.fn sc__law_stretch (λvs H Q E h=>?_) (λf cdv A outer s H vs Q E hr h=>?_)
 ·unfold FM at h;split at h;rfl;exact h.elim
 refine⟨_,(Ak (AI (i:=3) sc__law_stretch.nd rfl (AE (by rfl)) (Aw (AR K) rfl T.b_len PySem.boot_len (Ao (cy 2)))) (Ak (Bw PassesOwn.never rfl (CT rfl T.b_range (Ao (cy 3))) (Aj 4 sc__law_stretch.nd) (An (Bw PassesOwn.never rfl (Ih rfl T.b_range (Am (cy 4) (cy 3))) (Aj 5 sc__law_stretch.nd) (An (A2 (Bh (Af D__law_is_short (hr.mono (by decide)) rfl (CW (cy 0) (CK (cy 1) (cy 2) (cy 4) (cy 5))))) (An (Aq (AK (Am (cy 4) (cy 5))))) AZ))))) (An (Aq pe_non)))),?_⟩
 unfold FM at h
 split at h
 ·rename_i M v D
  obtain⟨p,T,ok,kM,cp,kD,q⟩:=h
  have l8:=ok.l8
  refine⟨D,_,rfl,.inr (Ac.of kD),?_⟩
  rw [List.length_map]
  refine⟨_,rfl,by omega,by omega,C7 (n:=(T.ds.length:Int).toNat) (λi σ H'=>(∃x4 x5,σ=[some (.ref M),some v,some (.ref D),some (.int (T.ds.length:Int)),x4,x5])/\H'=H/\∀q∈C4 T.ds.length i,BL T q.1 q.2=false) ⟨⟨_,_,rfl⟩,rfl,λq hq=>by cases hq⟩ (λi σ H' hi h=>?_) fun σ H' h=>?_⟩
  ·obtain⟨⟨x4,x5,rfl⟩,rfl,no1⟩:=h
   have hi':i<T.ds.length:=by omega
   refine⟨_,_,rfl,⟨by omega,by omega,by omega,by omega⟩,C7 (n:=((T.ds.length:Int)-(0+(i:Int))).toNat) (λj σ G=>(∃x5,σ=[some (.ref M),some v,some (.ref D),some (.int (T.ds.length:Int)),some (.int (0+(i:Int))),x5])/\G=H'/\∀q∈C3 i j,BL T q.1 q.2=false) ⟨⟨_,rfl⟩,rfl,λq hq=>by cases hq⟩ (λj σ G hj h=>?_) fun σ G h=>?_⟩
   ·obtain⟨⟨x5,rfl⟩,rfl,no2⟩:=h
    refine⟨p,T,i,i+j,by omega,by omega,by omega,by omega,ok,kM,cp,kD,⟨λz=>?_,λz=>?_⟩⟩
    ·refine λt G2 s2 kt=>?_
     unfold ret at q
     rw [Tf (by omega) no1 no2 z] at q
     exact q _ _ s2 (Aa.tup kt (.cons (Aa.intE (by omega)) (.cons (Aa.intE (by omega)) .nil)))
    ·refine⟨⟨_,rfl⟩,rfl,λq hq=>?_⟩
     rw [P3] at hq
     rcases List.mem_append.mp hq with hq | hq
     ·exact no2 q hq
     ·rw [List.mem_singleton] at hq;rw [hq];exact z
   ·obtain⟨⟨x5,rfl⟩,rfl,no2⟩:=h
    refine⟨⟨_,_,rfl⟩,rfl,λq hq=>?_⟩
    rw [Jg] at hq
    rcases List.mem_append.mp hq with hq | hq
    ·exact no1 q hq
    ·rw [show((T.ds.length:Int)-(0+(i:Int))).toNat=T.ds.length-i by omega] at no2
     exact no2 q hq
  ·obtain⟨⟨x4,x5,rfl⟩,rfl,no1⟩:=h
   unfold ret at q
   rw [Tg no1] at q
   exact q _ _ (Ab.refl _) Aa.non
 ·exact h.elim
theorem sc__law_shows:AB ["_law_main","_law_caps_here","_law_draws_here","_law_thing","_law_many"] ["_law_main","_law_caps_here","_law_draws_here","_law_thing"] (Ax s__law_shows):=AD
theorem Tr (F:Df K mg "_law_shows" s__law_shows ["_law_main","_law_caps_here","_law_draws_here","_law_thing"]) (T:Tx mg) (D__law_below:HP P w K mg base) (D__law_is_short:Fn P w K mg base 1 "_law_is_short" ["_law_main","_law_caps_here","_law_draws_here","_law_first","_law_last"] FL):Fn P w K mg base 2 "_law_shows" ["_law_main","_law_caps_here","_law_draws_here","_law_thing"] FP:=by
 refine F.fn sc__law_shows (λvs H Q E h=>?_) (λf cdv A outer s H vs Q E hr h=>?_)
 ·unfold FP at h;split at h;rfl;exact h.elim
 refine⟨_,(Ak (AI (i:=4) sc__law_shows.nd rfl (AE (by rfl)) (Aw (AR K) rfl T.b_len PySem.boot_len (Ao (cy 2)))) (Ak (A2 (PW.pt (Cs (Bn (Bh (Aw C0 rfl T.b_isinstance boot_isinstance (Am (cy 3) (CQ (v:= .ty "tuple") rfl T.b_tuple Bi rfl))))) (Cs (A1 DJ (Aw (AR K) rfl T.b_len PySem.boot_len (Ao (cy 3))) pe_int (AX _)) (CS (Bn (Bh (Aw (Ct rfl) rfl T.b_all boot_all (Ao (A6 ["_law_one","_law_many"] [none,some 4] rfl (BK K (cy 3)) (AO.of rfl) (λ_ _ _ _=>(Aj 0 (AJ (by rfl)))) (λ_ _ _ _=>A5) (λ_ _ _ _=>(Af D__law_below (hr.mono (by decide)) rfl (Am (cy 0) (cy 1))))))))))))) (An (Aq pe_bl)) AZ) (An (Aq (AY (CG Db (Az (AF K) (cy 3) pe_int (λ_ _=>rfl)) (Az (AF K) (cy 3) pe_int (λ_ _=>rfl)) (AX _)) (Bl (Af D__law_is_short (hr.mono (by decide)) rfl (CW (cy 0) (CK (cy 1) (cy 2) (Az (AF K) (cy 3) pe_int (λ_ _=>rfl)) (Az (AF K) (cy 3) pe_int (λ_ _=>rfl))))))))))),?_⟩
 unfold FP at h
 split at h
 ·rename_i M v D x
  obtain⟨p,T,d,ok,kM,cp,kD,rx,few,q⟩:=h
  have l8:=ok.l8
  refine⟨D,_,rfl,.inr (Ac.of kD),?_⟩
  rw [List.length_map]
  cases d with
  | none=>exact⟨_,rx.ty,.inr (.inr (.inl rfl)),⟨λ_=>⟨λ_=>q false _ rfl (Ab.refl _),λz=>(by cases z)⟩,λz=>(by cases z)⟩⟩
  | bool _=>exact⟨_,rx.ty,.inr (.inr (.inl rfl)),⟨λ_=>⟨λ_=>q false _ rfl (Ab.refl _),λz=>(by cases z)⟩,λz=>(by cases z)⟩⟩
  | int _=>exact⟨_,rx.ty,.inr (.inr (.inl rfl)),⟨λ_=>⟨λ_=>q false _ rfl (Ab.refl _),λz=>(by cases z)⟩,λz=>(by cases z)⟩⟩
  | str _=>exact⟨_,rx.ty,.inr (.inr (.inl rfl)),⟨λ_=>⟨λ_=>q false _ rfl (Ab.refl _),λz=>(by cases z)⟩,λz=>(by cases z)⟩⟩
  | list _=>exact⟨_,rx.ty,.inr (.inr (.inl rfl)),⟨λ_=>⟨λ_=>q false _ rfl (Ab.refl _),λz=>(by cases z)⟩,λz=>(by cases z)⟩⟩
  | dict _=>exact⟨_,rx.ty,.inr (.inr (.inl rfl)),⟨λ_=>⟨λ_=>q false _ rfl (Ab.refl _),λz=>(by cases z)⟩,λz=>(by cases z)⟩⟩
  | tuple es=>
   obtain⟨X,xs,rfl,hX,rs⟩:=Aa.shape rx
   have lx:=rs.len
   have few:=few es rfl
   refine⟨_,rx.ty,.inr (.inr (.inl rfl)),⟨λc=>(by cases c),λ_=>?_⟩⟩
   by_cases e1:es.length=2
   rotate_left
   ·refine⟨X,_,rfl,.inr (Ac.of hX),rfl,⟨λ_=>⟨λ_=>q false _ (ME e1).symm (Ab.refl _),λz=>(by cases z)⟩,λz=>?_⟩⟩
    exfalso
    rw [<-lx] at z
    simp at z
    omega
   refine⟨X,_,rfl,.inr (Ac.of hX),rfl,⟨λz=>?_,λ_=>?_⟩⟩
   ·rw [<-lx,e1] at z;simp at z
   obtain⟨a,b,rfl⟩:∃a b,es=[a,b]:=by
    match es,e1 with
    | [a,b],_=>exact⟨a,b,rfl⟩
   obtain⟨y1,y2,rfl,r1,r2⟩:=Ad.two rs
   refine⟨X,rfl,⟨_,Ac.of hX⟩,BR (xs:=[y1,y2]) (λi ys H'=>H'=H/\ys=(([a,b]:List PyData).take i).map λe=>V.bl (BV e (T.ds.length:Int))) (show 2<=100000 by decide) ⟨rfl,rfl⟩ (λi ys H' h=>by rw [h.2,List.length_map,List.length_take];omega) (λi ys H' _ h=>by rw [h.1];exact Ac.of hX) (λi y ys H' hy h=>?_) λys H' h m hm=>?_⟩
   ·obtain⟨rfl,rfl⟩:=h
    obtain⟨e,he,re⟩:=rs.got hy
    refine⟨⟨rfl,trivial⟩,λ_=>⟨p,e,re,λb' eb=>⟨rfl,?_⟩⟩,λz=>by cases z⟩
    rw [eb,A3 he,List.map_append];rfl
   ·obtain⟨rfl,rfl⟩:=h
    have nm:=Ab.new (o:= .lst ((([a,b]:List PyData).take [y1,y2].length).map λe=>V.bl (BV e (T.ds.length:Int)))) hm
    refine⟨m,[BV a (T.ds.length:Int),BV b (T.ds.length:Int)],rfl,by rw [Ag];rfl,⟨λz=>?_,λz=>?_⟩⟩
    ·refine q false _ ?_ nm
     cases zz:Bs T (.tuple [a,b]) with
     | false=>rfl
     | true=>
      obtain⟨w0,rfl,rfl,h1,h2,_⟩:=isShown_iff.mp zz
      rw [Mv (by omega) (by omega),Mv (by omega) (by omega)] at z
      cases z
    ·have z':BV a (T.ds.length:Int)=true/\BV b (T.ds.length:Int)=true:=by simpa using z
     obtain⟨i,rfl,i0,i1⟩:=MG z'.1
     obtain⟨j,rfl,j0,j1⟩:=MG z'.2
     unfold Aa at r1 r2
     subst r1 r2
     generalize upd H' m (.lst ((([PyData.int i,.int j]:List PyData).take [V.int i,V.int j].length).map λe=>V.bl (BV e (T.ds.length:Int))))=H2 at nm ⊢
     refine⟨X,_,0,.int i,rfl,rfl,Ac.of (nm _ _ hX),rfl,X,_,1,.int j,rfl,rfl,Ac.of (nm _ _ hX),rfl,⟨λc=>?_,λc=>?_⟩⟩
     ·have ij:=of_decide_eq_true c
      refine⟨X,_,0,.int i,rfl,rfl,Ac.of (nm _ _ hX),rfl,X,_,1,.int j,rfl,rfl,Ac.of (nm _ _ hX),rfl,?_⟩
      obtain⟨f,rfl⟩:=Int.eq_ofNat_of_zero_le i0
      obtain⟨l,rfl⟩:=Int.eq_ofNat_of_zero_le j0
      refine⟨p,T,f,l,rfl,rfl,by omega,by omega,ok,nm _ _ kM,cp.sm nm,nm _ _ kD,q _ _ ?_ nm⟩
      show _=Bs T (pD (f,l))
      rw [Ht (by omega),decide_eq_true (by omega),Bool.true_and]
     ·have ij:=of_decide_eq_false c
      refine q _ _ ?_ nm
      cases zz:Bs T (.tuple [.int i,.int j]) with
      | false=>rfl
      | true=>
       obtain⟨w0,ea,eb,h1,h2,_⟩:=isShown_iff.mp zz
       injection ea with ea
       injection eb with eb
       omega
 ·exact h.elim
theorem Tt:AB ["_law_caps_here","_law_chosen"] ["_law_caps_here","_law_chosen"] (Ax s__law_alone):=AD
abbrev HQ (P:Program) (w:World) (K:PySem.W.Frag) (mg:Str->Option Value) (base:Heap):Prop:=Fn P w K mg base 1 "_law_alone" ["_law_caps_here","_law_chosen"] JC
theorem Tu (F:Df K mg "_law_alone" s__law_alone ["_law_caps_here","_law_chosen"]) (T:Tx mg)  :HQ P w K mg base:=by
 refine F.fn Tt (λvs H Q E h=>?_) (λf cdv A outer s H vs Q E hr h=>?_)
 ·unfold JC at h;split at h;rfl;exact h.elim
 refine⟨_,(An (Aq (A6 ["_law_row","_law_chosen"] [none,some 1] rfl (BK K (cy 0)) (AO.of rfl) (λ_ _ _ _=>(Aj 0 (AJ (by rfl)))) (λ_ _ _ _=>A5) (λ_ _ _ _=>(A6 ["_law_boiler","_law_cap","_law_chosen"] [none,none,some 1] rfl (Eo P w K rfl T.b_enumerate (Ao (cy 0))) (AO.of rfl) (λ_ _ _ _=>(AM K (n:=2) (Ap (Aj 0 (AJ (by rfl))) (Ap (Aj 1 (AJ (by rfl))) AL)))) (λ_ _ _ _=>A5) (λ_ _ _ _=>(Dt (A1 (DM K) (cy 0) (cy 2) (by with_unfolding_all rfl)) (cy 1) pe_int))))))),?_⟩
 unfold JC at h
 split at h
 ·rename_i v x
  obtain⟨p,cs,c,l8,l4,rv,ch,q⟩:=h
  obtain⟨A,xs,rfl,hA,rs⟩:=Aa.firing rv
  obtain⟨Z,rfl,hZ⟩:=ch
  have lx:=rs.len
  rw [List.length_map] at lx
  refine⟨A,rfl,⟨_,Ac.of hA⟩,BR (xs:=xs) (λi ys H'=>Ab H H'/\∃Ts:List Addr,ys=Ts.map V.ref/\Ts.length=i/\∀(j:Nat) (T:Addr) (r:List Int),Ts[j]? =some T->cs[j]? =some r->H' T=some (.lst ((Bm c r).map V.int))) (by omega) ⟨Ab.refl _,[],rfl,rfl,λj T r a=>by cases a⟩ (λi ys H' h=>?_) (λi ys H' _ h=>Ac.of (h.1 _ _ hA)) (λi x ys H' hx h=>?_) λys H' h L hL=>?_⟩
  ·obtain⟨_,Ts,rfl,e,_⟩:=h
   rw [List.length_map,e];exact Nat.le_refl _
  ·obtain⟨sm,Ts,rfl,eT,hT⟩:=h
   obtain⟨r0,hr,rr⟩:=Ad.mapGot rs hx
   obtain⟨ra,rfl,hra⟩:=Aa.ofRow (Aa.ev (Ev.same sm) _ _ rr)
   have rl:=l4 r0 (List.mem_of_getElem? hr)
   refine⟨⟨rfl,trivial⟩,λ_=>?_,λz=>by cases z⟩
   refine⟨ra,rfl,⟨_,Ac.of hra⟩,walk_enum (xs:=r0.map V.int) (λj zs H2=>Ab H' H2/\zs=((Bm c r0).take j).map V.int) (by rw [List.length_map];omega) ⟨Ab.refl _,rfl⟩ (λj zs H2 h=>by rw [h.2,List.length_map,List.length_take];omega) (λj zs H2 h=>Ac.of (h.1 _ _ hra)) (λj x zs H2 U hx h2 hU=>?_) λzs H2 h2 m hm=>?_⟩
   ·obtain⟨m,hm,rfl⟩:=E3 hx
    have nU:=Ab.new (o:= .tup [.int (j:Int),.int m]) hU
    have s3:=sm.trans (h2.1.trans nU)
    have g:=Mp (c:=c) hm
    refine⟨U,_,rfl,Ac.of Ag,rfl,_,_,rfl,_,_,rfl,rfl,⟨rfl,trivial⟩,λ_=>⟨Z,_,rfl,hZ.imp (λz=>Ai.of (s3 _ _ z)) (λz=>Ac.of (s3 _ _ z)),rfl,LD,?_⟩,λz=>by cases z⟩
    rw [if_neg (by decide),Jj]
    refine⟨λz=>⟨h2.1.trans nU,?_⟩,λz=>⟨h2.1.trans nU,?_⟩⟩
    ·rw [if_pos (of_decide_eq_true z)] at g
     rw [A3 g,List.map_append,h2.2];rfl
    ·rw [if_neg (of_decide_eq_false z)] at g
     rw [A3 g,List.map_append,h2.2];rfl
   ·have sn:=h2.1.trans (Ab.new (o:= .lst zs) hm)
    refine⟨sm.trans sn,Ts++[m],by rw [List.map_append];rfl,by rw [List.length_append,eT];rfl,λj T r a b=>?_⟩
    by_cases z:j<Ts.length
    ·rw [List.getElem?_append_left z] at a
     exact sn _ _ (hT j T r a b)
    ·rw [List.getElem?_append_right (by omega)] at a
     cases e:j-Ts.length with
     | zero=>
      rw [e] at a
      cases a
      rw [show j=i by omega,hr] at b
      cases b
      rw [Ag,h2.2,List.take_of_length_le (by rw [DT,List.length_map];exact Nat.le_refl _)]
     | succ n=>rw [e] at a;cases a
  ·obtain⟨sm,Ts,rfl,eT,hT⟩:=h
   have nl:=Ab.new (o:= .lst (Ts.map V.ref)) hL
   refine q L _ (sm.trans nl) (sm.free hL) ⟨Ts,Ag,by rw [List.length_map];omega,λj T r a b=>?_⟩
   rw [List.getElem?_map] at b
   cases z:cs[j]? with
   | none=>rw [z] at b;cases b
   | some r0=>rw [z] at b;cases b;exact nl _ _ (hT j T r0 a z)
 ·exact h.elim
theorem sc__law_stretches:AB ["_law_plant_here","_law_story_here","_law_size","_law_caps_here","_law_draws_here","_law_rows"] ["_law_plant_here","_law_story_here","_law_size"] (Ax s__law_stretches):=AD
theorem Tv (F:Df K mg "_law_stretches" s__law_stretches ["_law_plant_here","_law_story_here","_law_size"]) (T:Tx mg) (D__law_alone:HQ P w K mg base) (D__law_caps:Eu P w K mg base) (D__law_draws:E2 P w K mg base) (D__law_rows_of:HN P w K mg base) (D__law_stretch:Fn P w K mg base 2 "_law_stretch" ["_law_main","_law_caps_here","_law_draws_here"] FM):Fn P w K mg base 7 "_law_stretches" ["_law_plant_here","_law_story_here","_law_size"] HH:=by
 refine F.fn sc__law_stretches (λvs H Q E h=>?_) (λf cdv A outer s H vs Q E hr h=>?_)
 ·unfold HH at h;split at h;rfl;exact h.elim
 refine⟨_,(Ak (Bv (AK (Am (Af D__law_caps (hr.mono (by decide)) rfl (Am (cy 0) (cy 1))) (Af D__law_draws (hr.mono (by decide)) rfl (Am (cy 0) (cy 1))))) (AM K (n:=2) (Ap (Aj 3 sc__law_stretches.nd) (Ap (Aj 4 sc__law_stretches.nd) AL)))) (Ak (AI (i:=5) sc__law_stretches.nd rfl (AE (by rfl)) (Af D__law_rows_of (hr.mono (by decide)) rfl (Am (Aw (AR K) rfl T.b_len PySem.boot_len (Ao (Az (AF K) (cy 0) pe_int (λ_ _=>rfl)))) (cy 2)))) (An (Aq (Bd (BJ K) rfl T.b_tuple Bi (Ao (A6 ["_law_chosen","_law_draws_here","_law_plant_here","_law_caps_here"] [none,some 4,some 0,some 3] rfl (Dv K (cy 5)) (AO.of rfl) (λ_ _ _ _=>(Aj 0 (AJ (by rfl)))) (λ_ _ _ _=>A5) (λ_ _ _ _=>(Af D__law_stretch (hr.mono (by decide)) rfl (AG (Az (AF K) (cy 2) pe_int (λ_ _=>rfl)) (Af D__law_alone (hr.mono (by decide)) rfl (Am (cy 3) (cy 0))) (cy 1))))))))))),?_⟩
 unfold HH at h
 split at h
 ·rename_i v u m
  obtain⟨p,P,S,k,rfl,k4,ok,so,r,ru,q⟩:=h
  have b4:=ok.b4
  have x8:=so.x8
  have fl:=GF ok so
  have f:=λ{H H':Hp} (s:Ab H H')=>Ev.same (p:=p) s
  refine⟨p,P,S,ok,so,r,ru,λvc H1 s1 rc=>⟨p,P,S,ok,so,Aa.ev (f s1) _ _ r,Aa.ev (f s1) _ _ ru,λvd H2a s2a rd=>λt H2 s2b kt=>⟨t,_,rfl,Ac.of kt,rfl,_,_,rfl,_,_,rfl,rfl,?_⟩⟩⟩
  have s2:=s2a.trans s2b
  obtain⟨D,rfl,hD⟩:=Aa.ofRow (r:=draws P S) (Aa.ev (f s2b) _ _ rd)
  have s12:=s1.trans s2
  obtain⟨PA,PB,PE,PM,xb,xe,rfl,pA,pB,rb,pE,re,pM⟩:=Aa.plant (Aa.ev (f s12) _ _ r)
  have lb:=rb.len
  rw [List.length_map] at lb
  refine⟨PA,_,0,.ref PB,rfl,rfl,Ac.of pA,rfl,PB,_,rfl,.inr (Ac.of pB),?_⟩
  rw [<-lb]
  have few:=DU P.bs.length b4 k k4
  refine⟨P.bs.length,k,rfl,rfl,b4,by omega,k4,λR H3 Ts s3 hR kR rT=>?_⟩
  have lT:=rT.1
  have rc3:=Aa.ev (f (s2.trans s3)) _ _ rc
  refine⟨R,rfl,⟨_,Ai.of kR⟩,IL (xs:=Ts.map V.ref) (λi ys H'=>Ab H3 H'/\Ad p H' (((Ba P.bs.length k).take i).map λd=>DS (Co (only (terms P S) d))) ys) (by rw [List.length_map];omega) ⟨Ab.refl _,.nil⟩ (λi ys H' h=>by have:=h.2.len;rw [List.length_map,List.length_take] at this;omega) (λi ys H' _ h=>Ai.of (h.1 _ _ kR)) (λi x ys H' hx h=>?_) λys H' h l hl=>?_⟩
  ·rw [List.getElem?_map] at hx
   cases hT:Ts[i]? with
   | none=>rw [hT] at hx;cases hx
   | some T=>
    rw [hT] at hx
    cases hx
    have lj:i<(Ba P.bs.length k).length:=by rw [<-lT];exact(List.getElem?_eq_some_iff.mp hT).1
    obtain⟨c,hc⟩:∃c,(Ba P.bs.length k)[i]? =some c:=⟨_,List.getElem?_eq_getElem lj⟩
    have kc:=h.1 _ _ (rT.2 i T c hT hc)
    have s3H:=s3.trans h.1
    refine⟨⟨rfl,rfl,rfl,trivial⟩,λ_=>?_,λz=>by cases z⟩
    refine⟨PA,_,2,.ref PM,rfl,rfl,Ac.of (s3H _ _ pA),rfl,p,caps P S,c,by rw [A7];exact x8,λr0 hr=>?_,Aa.ev (f h.1) _ _ rc3,⟨T,rfl,.inr kc⟩,λA H4 s4 hA cl=>?_⟩
    ·have:=(fl.c r0 hr).1
     have:=fl.o
     omega
    refine⟨p,only (terms P S) c,ES fl.ok,(s3H.trans s4) _ _ pM,.inr ⟨A,rfl,cl⟩,(s3H.trans s4) _ _ hD,λw H5 s5 r5=>⟨h.1.trans (s4.trans s5),?_⟩⟩
    rw [A3 hc,List.map_append]
    exact Ad.snoc (Ad.ev (f (s4.trans s5)) _ _ h.2) r5
  ·have n1:=Ab.new (o:= .lst ys) hl
   refine⟨l,_,rfl,.inl ⟨Ai.of Ag,λl2 hl2=>?_⟩⟩
   have n2:=Ab.new (o:= .tup ys) hl2
   have r7:=h.2
   rw [List.length_map,lT,List.take_length] at r7
   exact q _ _ (s12.trans (s3.trans (h.1.trans (n1.trans n2)))) (Aa.tup Ag (Ad.ev (f (n1.trans n2)) _ _ r7))
 ·exact h.elim
theorem sc__law_any_pair:AB ["_law_pen_here","_law_most","_law_hours","_law_plant_here"] ["_law_pen_here","_law_most","_law_hours"] (Ax s__law_any_pair):=AD
theorem Tw (F:Df K mg "_law_any_pair" s__law_any_pair ["_law_pen_here","_law_most","_law_hours"]) (T:Tx mg) (D__law_plant:Fn P w K mg base 2 "_law_plant" ["_law_pen_here","_law_most"] Fy) (D__law_story:Fn P w K mg base 2 "_law_story" ["_law_pen_here","_law_plant_here","_law_most"] FE):Fn P w K mg base 3 "_law_any_pair" ["_law_pen_here","_law_most","_law_hours"] HI:=by
 refine F.fn sc__law_any_pair (λvs H Q E h=>?_) (λf cdv A outer s H vs Q E hr h=>?_)
 ·unfold HI at h;split at h;rfl;exact h.elim
 refine⟨_,(Ak (AI (i:=3) sc__law_any_pair.nd rfl (AE (by rfl)) (Af D__law_plant (hr.mono (by decide)) rfl (Am (cy 0) (cy 1)))) (An (Aq (AK (Am (cy 3) (Af D__law_story (hr.mono (by decide)) rfl (AG (cy 0) (cy 3) (cy 2)))))))),?_⟩
 unfold HI at h
 split at h
 ·rename_i p m h
  obtain⟨pn,m1,m4,h1,h8,q⟩:=h
  refine⟨pn,m1,m4,λv H2 bs es lo hi st gp rv e2 pn2=>?_⟩
  obtain⟨P,ok,eP⟩:=gp.pl
  rw [eP] at rv
  refine⟨pn2,h1,h8,P,ok,rv,λu H3 S so ru e3 pn3=>λt H4 s4 k4=>?_⟩
  exact q t H4 P S v u ok so k4 (Aa.ev (e3.trans (Ev.same s4)) _ _ rv) (Aa.ev (Ev.same s4) _ _ ru) (e2.trans (e3.trans (Ev.same s4))) (pn3.same s4)
 ·exact h.elim
theorem sc__law_odd:AB ["_law_pen_here","_law_some"] ["_law_pen_here"] (Ax s__law_odd):=AD
theorem Ty (F:Df K mg "_law_odd" s__law_odd ["_law_pen_here"]) (T:Tx mg) (D__law_draw:E1 P w K mg base):Fn P w K mg base 2 "_law_odd" ["_law_pen_here"] HJ:=by
 refine F.fn sc__law_odd (λvs H Q E h=>?_) (λf cdv A outer s H vs Q E hr h=>?_)
 ·unfold HJ at h;split at h;rfl;exact h.elim
 refine⟨_,(@Ak _ _ _ _ _ (@AI _ _ (1) _ _ _ _ sc__law_odd.nd rfl (AE (by rfl)) (@IW _ (.list [.none,.bool true,.bool false,.int 0,.int 1,.int (-1),.int 2,.int 8,.int 40,.int (10 ^ 30),.str "",.str "0",.str "lit",.str "short",.tuple [],.tuple [.int 0],.list [.int 0],.list [],.dict [],.dict [(.int 0,.int 1)]]) _ (by decide+kernel)) (by rfl) (Cf (by rfl))) (@Ak _ _ _ _ _ (@AI _ _ (1) _ _ _ _ sc__law_odd.nd rfl (AE (by rfl)) (@Au _ _ _ _ _ _ _ _ (@Kt _) (@cx _ 1 _ _ (by rfl)) (@IW _ (.list [.tuple [.tuple []],.tuple [.int 0,.int 1],.tuple [.none],.tuple [.str "short",.int 0,.int 0],.tuple [.str "dry",.int 0],.tuple [.tuple [.int 0,.int 0]],.tuple [.bool true,.bool false],.tuple [.str "lit",.tuple [],.tuple [],.tuple []]]) _ (by decide+kernel))) (by rfl) (Cf (by rfl))) (@An _ _ _ (@Aq _ _ _ _ (@Az _ _ _ _ _ _ _ (@BS _ K (by rfl)) (@cx _ 1 _ _ (by rfl)) (@Af _ _ _ _ _ _ _ _ _ _ D__law_draw (hr.mono (by decide)) rfl (@BC _ _ _ _ _ (@cx _ 0 _ _ (by rfl)) (@pe_int _ _ _ _) (by rfl)) (by decide) (by rfl) (by rfl)) (λ_ _=>rfl)))))),?_⟩
 unfold HJ at h
 split at h
 ·rename_i p
  obtain⟨pn,q⟩:=h
  intro v H1 s1 r1
  have rp:=r1 p (by obtain⟨l,f,e⟩:=pn;rw [e];intro z;cases z)
  unfold Aa at rp
  obtain⟨aL,xs,rfl,nL,kL,rL⟩:=rp
  have hlen:20=xs.length:=rL.len
  have pn1:=pn.same s1
  intro v2 H2 s2 r2
  have rp:=r2 p (by obtain⟨l,f,e⟩:=pn1;rw [e];intro z;cases z)
  unfold Aa at rp
  obtain⟨aM,ys,rfl,nM,kM,rM⟩:=rp
  have hlen2:8=ys.length:=rM.len
  have pn2:=pn1.same s2
  refine⟨aL,aM,xs,ys,rfl,rfl,s2 _ _ kL,kM,Eb (by omega),λL hL=>?_⟩
  refine⟨pn2.new hL,by decide,by decide,λg H3 h0 h1 e1 pn3=>?_⟩
  obtain⟨v,d,hat,hd,rd⟩:=Tj (Ad.ev ((Ev.new hL).trans e1) _ _ ((Ad.ev (Ev.same s2) _ _ rL).append rM)) h0 (by rw [List.length_append];omega)
  exact⟨L,_,g,v,rfl,rfl,Ai.of (e1.lst Ag (pn2.ne hL)),hat,q v H3 d rd hd ((Ev.same (s1.trans s2)).trans ((Ev.new hL).trans e1)) pn3⟩
 ·exact h.elim
theorem sc__law_firing:AB ["_law_pen_here","_law_caps_here","_law_rows","_law_row"] ["_law_pen_here","_law_caps_here"] (Ax s__law_firing):=AD
theorem Tz (F:Df K mg "_law_firing" s__law_firing ["_law_pen_here","_law_caps_here"]) (T:Tx mg) (D__law_draw:E1 P w K mg base):Fn P w K mg base 2 "_law_firing" ["_law_pen_here","_law_caps_here"] HK:=by
 refine F.fn sc__law_firing (λvs H Q E h=>?_) (λf cdv A outer s H vs Q E hr h=>?_)
 ·unfold HK at h;split at h;rfl;exact h.elim
 refine⟨_,(Ak (AI (i:=2) sc__law_firing.nd rfl (AE (by rfl)) (BF pa_nil)) (Ak (Bw PassesOwn.never rfl (BK K (cy 1)) (Aj 3 sc__law_firing.nd) (An (BW (CD PySem.F.plainAttrs_list PySem.F.slot_list_append PySem.F.type_list_append CI (cy 2) (Ao (Bd (BJ K) rfl T.b_tuple Bi (Ao (A6 ["_law_cap","_law_pen_here"] [none,some 0] rfl (BK K (cy 3)) (AO.of rfl) (λ_ _ _ _=>(Aj 0 (AJ (by rfl)))) (λ_ _ _ _=>A5) (λ_ _ _ _=>(Az (BS K) (BF (AG pe_int (cy 0) (Af D__law_draw (hr.mono (by decide)) rfl (Am (cy 1) (Au Bb (cy 0) pe_int))))) (Af D__law_draw (hr.mono (by decide)) rfl (Am (cy 1) pe_int)) (λ_ _=>rfl))))))))))) (An (Aq (Bd (BJ K) rfl T.b_tuple Bi (Ao (cy 2))))))),?_⟩
 unfold HK at h
 split at h
 ·rename_i p v
  obtain⟨pn,P,S,ok,so,r,q⟩:=h
  have x8:=so.x8
  have b4:=ok.b4
  intro b hb
  have nb:b≠p:=pn.ne hb
  unfold Dd at r
  obtain⟨A,xs,rfl,hA,rx⟩:=Aa.shape r
  have lx:=rx.len
  rw [List.length_map,A7] at lx
  refine⟨A,rfl,⟨xs,Ac.of ((Ab.new hb) _ _ hA)⟩,J2 (xs:=xs) (λi σ H2=>(∃x3,σ=[some (.ref p),some (.ref A),some (.ref b),x3])/\FillR (λds=>∃F:List (List Int),ds=F.map Ay/\∀(k:Nat) (r c:List Int),F[k]? =some r->(caps P S)[k]? =some c->Ti r c) p b H H2 i)
   ⟨⟨_,rfl⟩,Ev.new hb,pn.new hb,[],[],Ag,.nil,rfl,rfl,[],rfl,(λk r c h=>by simp at h)⟩ (λi σ H2 _ h=>Ac.of (h.2.ev.tup hA)) (λi x σ H2 hx h=>?_) fun σ H2 h=>?_⟩
  ·obtain⟨⟨x3,rfl⟩,fr⟩:=h
   obtain⟨ys0,ds,hy0,rs,nm,hl,F,rfl,hin⟩:=fr.ex
   obtain⟨cs,hcs,rcs⟩:=Ad.mapGot rx hx
   have hcb:=(Dx ok cs (List.mem_of_getElem? hcs)).1
   have hcl:=(Dx ok cs (List.mem_of_getElem? hcs)).2
   obtain⟨ca,rfl,hca⟩:=Aa.ofRow (Aa.ev fr.ev _ _ rcs)
   refine⟨.inl ⟨rfl,_,Ai.of hy0⟩,ca,rfl,⟨_,Ac.of hca⟩,BR (xs:=cs.map V.int) (λj zs H3=>Ev p H2 H3/\AV p H3/\∃r:List Int,zs=r.map V.int/\r.length=j/\∀(k:Nat) (x y:Int),r[k]? =some x->cs[k]? =some y->0<=x/\x<=y) (by rw [List.length_map];omega) ⟨Ev.refl,fr.pen,[],rfl,rfl,(λk x y h=>by simp at h)⟩ (λj zs H3 h=>by obtain⟨_,_,r,rfl,hr,_⟩:=h;rw [List.length_map];omega) (λj zs H3 _ h=>Ac.of (h.1.tup hca)) (λj x zs H3 hx3 h=>?_) λzs H3 h=>?_⟩
   ·obtain⟨e3,pn3,r',rfl,hr',hin'⟩:=h
    rw [List.getElem?_map] at hx3
    cases z:cs[j]? with
    | none=>rw [z] at hx3;cases hx3
    | some c=>
     rw [z] at hx3
     cases hx3
     have bc:=hcb c (List.mem_of_getElem? z)
     refine⟨⟨rfl,trivial⟩,λ_=>⟨pn3,by omega,by omega,λg1 H4 a4 c4 e4 pn4 l1 hl1=>⟨pn4.new hl1,by decide,by decide,λg2 H5 a5 c5 e5 pn5=>?_⟩⟩,λz=>by cases z⟩
     obtain⟨v,hv,hat⟩:=DA (ns:=[0,c,g1]) a5 (by simpa using c5)
     have hv':v=0\/v=c\/v=g1:=by simpa using hv
     refine⟨l1,_,g2,.int v,rfl,rfl,Ai.of (e5.lst Ag (pn4.ne hl1)),hat,e3.trans (e4.trans ((Ev.new hl1).trans e5)),pn5,r'++[v],by rw [List.map_append];rfl,by rw [List.length_append,hr'];rfl,λk x y hkx hky=>?_⟩
     rcases Mx hkx with hh | ⟨rfl,rfl⟩
     ·exact hin' k x y hh hky
     ·rw [hr',z] at hky
      cases hky
      omega
   ·obtain⟨e3,pn3,r',rfl,hr',hin'⟩:=h
    rw [List.length_map] at hr'
    intro m hm
    refine⟨m,_,rfl,.inl ⟨Ai.of Ag,λt ht=>?_⟩⟩
    have e23:Ev p H2 (upd H3 m (.lst (r'.map V.int))):=e3.trans (Ev.new hm)
    have hb3:=e23.lst hy0 nb
    refine⟨b,ys0,.ref t,rfl,rfl,by rw [AA (Bf hb3 ht)];exact hb3,Dk (by rw [<-rs.len,hl];have:=(List.getElem?_eq_some_iff.mp hx).1;omega),⟨_,rfl⟩,?_⟩
    refine FillR.step hy0 rs nm hl e23 nb hb (fr.ev.trans e23) (pn3.new hm) ht (Aa.row Ag) (DY r') ⟨F++[r'],by rw [List.map_append];rfl,λk r c hkr hkc=>?_⟩
    rw [List.length_map] at hl
    rcases Mx hkr with hh | ⟨rfl,rfl⟩
    ·exact hin k r c hh hkc
    ·rw [hl,hcs] at hkc
     cases hkc
     exact⟨hr',hin'⟩
  ·obtain⟨⟨x3,rfl⟩,fr⟩:=h
   obtain⟨ys0,ds,hy0,rs,nm,hl,F,rfl,hin⟩:=fr.ex
   rw [List.length_map] at hl
   refine⟨b,ys0,rfl,.inl ⟨Ai.of hy0,λt ht=>q _ _ F ?_ (Aa.tup Ag (Ad.ev (Ev.new ht) _ _ rs)) (fr.ev.trans (Ev.new ht)) (fr.pen.new ht)⟩⟩
   have fl:F.length=S.ex.length:=by omega
   refine⟨fl,λi r hr=>?_,λi r j x c hr hx hc=>?_⟩
   ·have hi:i<S.ex.length:=by have:=(List.getElem?_eq_some_iff.mp hr).1;omega
    rw [(hin i r _ hr (De hi)).1,DO]
   ·have hi:i<S.ex.length:=by have:=(List.getElem?_eq_some_iff.mp hr).1;omega
    exact(hin i r _ hr (De hi)).2 j x c hx hc
 ·exact h.elim
end
end MF
end
section
namespace MF
open PySem PySem.Spec PyProof.Rows L2
theorem TC {P:PL}{S:SY}{F:List (List Int)} (fo:FOk P S F):BO (caps P S) (FD F)=true:=by
 show(AS (.tuple (F.map Ay)) (caps P S).length (caps P S).length &&((F.map Ay).zip (caps P S)).all λq=>Bz q.2 q.1)=true
 rw [CL (by rw [List.length_map,fo.len,A7];omega) (by rw [List.length_map,fo.len,A7];omega),Bool.true_and]
 rw [List.all_eq_true]
 intro q hq
 obtain⟨i,hi⟩:=List.getElem?_of_mem hq
 rw [List.getElem?_zip_eq_some,List.getElem?_map] at hi
 obtain⟨h1,h2⟩:=hi
 obtain⟨r,hr,e⟩:=Option.map_eq_some_iff.mp h1
 have hi2:i<S.ex.length:=by have:=(List.getElem?_eq_some_iff.mp h2).1;rw [A7] at this;exact this
 rw [De hi2] at h2
 have e2:=Option.some.inj h2
 rw [<-e,<-e2]
 have lr:=fo.row i r hr
 unfold Bz
 rw [CL (by rw [List.length_map,lr,DO];omega) (by rw [List.length_map,lr,DO];omega),Bool.true_and]
 show((r.map PyData.int).zip (Cn P.bs S.fs i)).all _=true
 rw [List.all_eq_true]
 intro q' hq'
 obtain⟨j,hj⟩:=List.getElem?_of_mem hq'
 rw [List.getElem?_zip_eq_some,List.getElem?_map] at hj
 obtain⟨j1,j2⟩:=hj
 obtain⟨x,hx,ex⟩:=Option.map_eq_some_iff.mp j1
 have:=fo.bd i r j x q'.2 hr hx j2
 rw [<-ex]
 exact BU this.1 this.2
theorem TD {e:PyData}{n:Nat}:BV e (n:Int)=AQ e 0 ((n:Int)-1):=by
 cases e with
 | int i=>
  unfold BV AQ
  dsimp only
  rw [show decide (i<(n:Int))=decide (i<=(n:Int)-1) from by by_cases z:i<(n:Int);rw [decide_eq_true z,decide_eq_true (by omega)];rw [decide_eq_false z,decide_eq_false (by omega)]]
 | _=>rfl
theorem TF {n:Nat}{r:List Int} (b:∀i∈r,0<=i/\i<=(n:Int)-1):∃ks:List Nat,r=ks.map (λi:Nat=>(i:Int))/\∀k∈ks,k<n:=by
 refine⟨r.map Int.toNat,?_,λk hk=>?_⟩
 ·rw [List.map_map]
  conv=>lhs;rw [<-List.map_id r]
  refine List.map_congr_left λx hx=>?_
  have:=b x hx
  show x=((x.toNat:Nat):Int)
  omega
 ·obtain⟨x,hx,rfl⟩:=List.mem_map.mp hk
  have:=b x hx
  omega
def B9:Nat->PyData->Bool
 | 0,_=>true
 | n+1,.tuple es=>decide (es.length<=1000) && es.all (B9 n)
 | _+1,_=>true
theorem E6 {n:Nat}{es:List PyData} (h:B9 (n+1) (.tuple es)=true):es.length<=1000/\∀e∈es,B9 n e=true:=by
 unfold B9 at h
 obtain⟨h1,h2⟩:=Bool.and_eq_true_iff.mp h
 exact⟨of_decide_eq_true h1,List.all_eq_true.mp h2⟩
theorem MH {n:Nat}{d:PyData} (h:B9 (n+1) d=true):∀es,d= .tuple es->es.length<=1000:=λes e=>by subst e;exact(E6 h).1
def HR:Sp:=λvs H Q _=>match vs with | [v,u,x]=>∃p P S es,PL.ok P/\SY.ok S P.bs.length/\Aa p H P.d v/\Aa p H S.d u/\Aa p H (.tuple (.str "lit" ::es)) x/\B9 3 (.tuple (.str "lit" ::es))=true/\∀b H',(b=true↔Ex P S (.tuple (.str "lit" ::es)))->Ab H H'->Q (.bl b) H' | _=>False
def HS:Sp:=λvs H Q _=>match vs with | [v,u,x]=>∃p P S d,PL.ok P/\SY.ok S P.bs.length/\Aa p H P.d v/\Aa p H S.d u/\Aa p H d x/\B9 3 d=true/\(∀a es,d= .tuple (a::es)->∀kvs,a≠ .dict kvs)/\∀b H',(b=true↔E4 (terms P S) d\/Ex P S d)->Ab H H'->Q (.bl b) H' | _=>False
theorem Be {P:PL}{S:SY}{a b c:PyData} (h:∀e F sh,a=Ay e->b=FD F->c= .tuple sh->IsSet P.bs.length e->BO (only (terms P S) e).cs (FD F)=true->Ew P S F->Jz P.bs.length (terms P S) e sh->False):false=true↔Ex P S (.tuple [.str "lit",a,b,c]):=by
 refine⟨λz=>(by cases z),?_⟩
 rintro⟨e,F,sh,eq,st,fi,kp,so⟩
 obtain⟨_,e1,e2,e3⟩:=E5 eq
 exact(h e F sh e1 e2 e3 st fi kp so).elim
theorem MI:("lit" :Str)≠ "short" :=by decide+kernel
theorem TH {T:TM}{es:List PyData}:Bs T (.tuple es)=true↔E4 T (.tuple (.str "short" ::es)):=by
 by_cases e:es.length=2
 ·obtain⟨a,b,rfl⟩:∃a b,es=[a,b]:=by
   match es,e with
   | [a,b],_=>exact⟨a,b,rfl⟩
  rw [isShown_iff]
  constructor
  ·rintro⟨w,rfl,rfl,h1,h2,h3⟩
   exact⟨w,rfl,h1,h2,h3⟩
  ·rintro⟨w,ee,h1,h2,h3⟩
   injection ee with ee
   injection ee with _ ee
   injection ee with e1 ee
   injection ee with e2 _
   exact⟨w,e1,e2,h1,h2,h3⟩
 ·rw [ME e]
  refine⟨λz=>(by cases z),?_⟩
  rintro⟨w,ee,_⟩
  injection ee with ee
  injection ee with _ ee
  rw [ee] at e
  exact absurd rfl e
theorem Ec {P:PL}{S:SY}{d:PyData} (n:∀es,d≠ .tuple (.str "short" ::es)/\d≠ .tuple (.str "lit" ::es)):false=true↔E4 (terms P S) d\/Ex P S d:=by
 refine⟨λz=>(by cases z),?_⟩
 rintro(⟨w,e,_⟩ | ⟨c,F,sh,e,_⟩)
 ·exact absurd e (n _).1
 ·exact absurd e (n _).2
section
variable {P : Program} {w : World} {K : PySem.W.Frag} {mg : Str -> Option Value} {base : Heap}
theorem sc__law_good_lit:AB ["_law_plant_here","_law_story_here","_law_thing","_law_many","_law_caps_here","_law_draws_here","_law_rows","_law_chosen","_law_one"] ["_law_plant_here","_law_story_here","_law_thing"] (Ax s__law_good_lit):=AD
theorem TJ (F:Df K mg "_law_good_lit" s__law_good_lit ["_law_plant_here","_law_story_here","_law_thing"]) (T:Tx mg) (D__law_alone:HQ P w K mg base) (D__law_below:HP P w K mg base) (D__law_caps:Eu P w K mg base) (D__law_draws:E2 P w K mg base) (D__law_is_firing:Fn P w K mg base 2 "_law_is_firing" ["_law_caps_here","_law_thing"] HL) (D__law_keeps:Fn P w K mg base 2 "_law_keeps" ["_law_plant_here","_law_story_here","_law_firing_here"] FG) (D__law_rows_of:HN P w K mg base) (D__law_shows:Fn P w K mg base 2 "_law_shows" ["_law_main","_law_caps_here","_law_draws_here","_law_thing"] FP):Fn P w K mg base 7 "_law_good_lit" ["_law_plant_here","_law_story_here","_law_thing"] HR:=by
 refine F.fn sc__law_good_lit (λvs H Q E h=>?_) (λf cdv A outer s H vs Q E hr h=>?_)
 ·unfold HR at h;split at h;rfl;exact h.elim
 refine⟨_,(Ak (Bv (AK (AG (Aw (AR K) rfl T.b_len PySem.boot_len (Ao (Az (AF K) (cy 0) pe_int (λ_ _=>rfl)))) (Af D__law_caps (hr.mono (by decide)) rfl (Am (cy 0) (cy 1))) (Af D__law_draws (hr.mono (by decide)) rfl (Am (cy 0) (cy 1))))) (AM K (n:=3) (Ap (Aj 3 sc__law_good_lit.nd) (Ap (Aj 4 sc__law_good_lit.nd) (Ap (Aj 5 sc__law_good_lit.nd) AL))))) (Ak (A2 (PW.pt (Cs (A1 DJ (Aw (AR K) rfl T.b_len PySem.boot_len (Ao (cy 2))) pe_int (AX _)) (Cs (Bn (Bh (Aw C0 rfl T.b_isinstance boot_isinstance (Am (Az (AF K) (cy 2) pe_int (λ_ _=>rfl)) (CQ (v:= .ty "tuple") rfl T.b_tuple Bi rfl))))) (CS (Bn (Bh (Aw (Ct rfl) rfl T.b_all boot_all (Ao (A6 ["_law_one","_law_many"] [none,some 3] rfl (BK K (Az (AF K) (cy 2) pe_int (λ_ _=>rfl))) (AO.of rfl) (λ_ _ _ _=>(Aj 0 (AJ (by rfl)))) (λ_ _ _ _=>A5) (λ_ _ _ _=>(Af D__law_below (hr.mono (by decide)) rfl (Am (cy 0) (cy 1))))))))))))) (An (Aq pe_bl)) AZ) (Ak (A2 (PW.pt (Cs (A1 (Rk hr.units0) (Bd (ER K) rfl T.b_list Em (Ao (Az (AF K) (cy 2) pe_int (λ_ _=>rfl)))) (Ri rfl rfl T.b_sorted rfl T.b_set (Ao (Az (AF K) (cy 2) pe_int (λ_ _=>rfl)))) (AX _)) (CS (Bn (Bh (Af D__law_is_firing (hr.mono (by decide)) rfl (Am (cy 4) (Az (AF K) (cy 2) pe_int (λ_ _=>rfl))))))))) (An (Aq pe_bl)) AZ) (Ak (A2 (PW.pt (Cs (Bn (Bh (Af D__law_is_firing (hr.mono (by decide)) rfl (Am (Af D__law_alone (hr.mono (by decide)) rfl (Am (cy 4) (Az (AF K) (cy 2) pe_int (λ_ _=>rfl)))) (Az (AF K) (cy 2) pe_int (λ_ _=>rfl)))))) (CS (Bn (Bh (Af D__law_keeps (hr.mono (by decide)) rfl (AG (cy 0) (cy 1) (Az (AF K) (cy 2) pe_int (λ_ _=>rfl))))))))) (An (Aq pe_bl)) AZ) (Ak (AI (i:=6) sc__law_good_lit.nd rfl (AE (by rfl)) (Dt (A1 (O7 hr.units0) (Az (AF K) (cy 2) pe_int (λ_ _=>rfl)) (AK pa_nil) (AX _)) (Af D__law_rows_of (hr.mono (by decide)) rfl (Am (cy 3) (Au BE (Aw (AR K) rfl T.b_len PySem.boot_len (Ao (Az (AF K) (cy 2) pe_int (λ_ _=>rfl)))) pe_int))) (B0 pa_nil))) (Ak (A2 (PW.pt (Cs (Bn (Bh (Aw C0 rfl T.b_isinstance boot_isinstance (Am (Az (AF K) (cy 2) pe_int (λ_ _=>rfl)) (CQ (v:= .ty "tuple") rfl T.b_tuple Bi rfl))))) (CS (A1 DJ (Aw (AR K) rfl T.b_len PySem.boot_len (Ao (Az (AF K) (cy 2) pe_int (λ_ _=>rfl)))) (Aw (AR K) rfl T.b_len PySem.boot_len (Ao (cy 6))) (AX _))))) (An (Aq pe_bl)) AZ) (Ak (Bw PassesOwn.never rfl (LK P w K rfl T.b_zip (Am (cy 6) (Az (AF K) (cy 2) pe_int (λ_ _=>rfl)))) (AM K (n:=2) (Ap (Aj 7 sc__law_good_lit.nd) (Ap (Aj 8 sc__law_good_lit.nd) AL))) (An (A2 (Bn (Bh (Af D__law_shows (hr.mono (by decide)) rfl (CK (Az (AF K) (cy 0) pe_int (λ_ _=>rfl)) (Af D__law_alone (hr.mono (by decide)) rfl (Am (cy 4) (cy 7))) (cy 5) (cy 8))))) (An (Aq pe_bl)) AZ))) (An (Aq pe_bl))))))))),?_⟩
 unfold HR at h
 split at h
 ·rename_i v u x
  obtain⟨p,P,S,es,ok,so,r,ru,rx,few,q⟩:=h
  have b4:=ok.b4
  have x8:=so.x8
  have fl:=GF ok so
  have cap4:∀r0∈caps P S,r0.length<=4:=λr0 hr=>by
   have:=(fl.c r0 hr).1
   have:=fl.o
   omega
  have few:=(E6 few).2
  have f:=λ{H H':Hp} (s:Ab H H')=>Ev.same (p:=p) s
  obtain⟨PA,PB,PE,PM,xb,xe,rfl,pA,pB,rb,pE,re,pM⟩:=Aa.plant r
  have lb:=rb.len
  rw [List.length_map] at lb
  refine⟨PA,_,0,.ref PB,rfl,rfl,Ac.of pA,rfl,PB,_,rfl,.inr (Ac.of pB),?_⟩
  rw [<-lb]
  refine⟨p,P,S,ok,so,r,ru,λvc H1 s1 rc=>⟨p,P,S,ok,so,Aa.ev (f s1) _ _ r,Aa.ev (f s1) _ _ ru,λvd H2a s2a rd=>λt H2 s2b kt=>⟨t,_,rfl,Ac.of kt,rfl,_,_,rfl,_,_,rfl,_,_,rfl,rfl,?_⟩⟩⟩
  have s2:=s2a.trans s2b
  have s12:=s1.trans s2
  obtain⟨D,rfl,hD⟩:=Aa.ofRow (r:=draws P S) (Aa.ev (f s2b) _ _ rd)
  have rc2:=Aa.ev (f s2) _ _ rc
  have r2':=Aa.ev (f s12) _ _ r
  have ru2:=Aa.ev (f s12) _ _ ru
  have pA2:=s12 _ _ pA
  have pM2:=s12 _ _ pM
  obtain⟨X,ys,rfl,hX,rs⟩:=Aa.shape (Aa.ev (f s12) _ _ rx)
  have lX:=rs.len
  have q2:∀b H',(b=true↔Ex P S (.tuple (.str "lit" ::es)))->Ab H2 H'->Q (.bl b) H':=λb H' e s=>q b _ e (s12.trans s)
  by_cases e0:es.length=3
  rotate_left
  ·refine⟨X,_,rfl,.inr (Ac.of hX),rfl,⟨λ_=>⟨λ_=>q2 false _ ⟨λz=>(by cases z),?_⟩ (Ab.refl _),λz=>(by cases z)⟩,λz=>?_⟩⟩
   ·rintro⟨c,F,sh,e,_⟩
    injection e with e
    injection e with _ e
    rw [e] at e0;exact absurd rfl e0
   ·exfalso
    rw [<-lX,List.length_cons] at z
    simp at z
    omega
  refine⟨X,_,rfl,.inr (Ac.of hX),rfl,⟨λz=>?_,λ_=>?_⟩⟩
  ·rw [<-lX,List.length_cons,e0] at z;simp at z
  obtain⟨a1,a2,a3,rfl⟩:∃a b c,es=[a,b,c]:=by
   match es,e0 with
   | [a,b,c],_=>exact⟨a,b,c,rfl⟩
  obtain⟨y1,y2,y3,y4,rfl,r1,r2,r3,r4⟩:=Ad.four rs
  cases a1 with
  | none=>exact⟨X,_,1,y2,rfl,rfl,Ac.of hX,rfl,_,r2.ty,.inr (.inr (.inl rfl)),⟨λ_=>⟨λ_=>q2 false _ (Be λe F sh e1 _ _ _ _ _ _=>by cases e1) (Ab.refl _),λz=>(by cases z)⟩,λz=>(by cases z)⟩⟩
  | bool _=>exact⟨X,_,1,y2,rfl,rfl,Ac.of hX,rfl,_,r2.ty,.inr (.inr (.inl rfl)),⟨λ_=>⟨λ_=>q2 false _ (Be λe F sh e1 _ _ _ _ _ _=>by cases e1) (Ab.refl _),λz=>(by cases z)⟩,λz=>(by cases z)⟩⟩
  | int _=>exact⟨X,_,1,y2,rfl,rfl,Ac.of hX,rfl,_,r2.ty,.inr (.inr (.inl rfl)),⟨λ_=>⟨λ_=>q2 false _ (Be λe F sh e1 _ _ _ _ _ _=>by cases e1) (Ab.refl _),λz=>(by cases z)⟩,λz=>(by cases z)⟩⟩
  | str _=>exact⟨X,_,1,y2,rfl,rfl,Ac.of hX,rfl,_,r2.ty,.inr (.inr (.inl rfl)),⟨λ_=>⟨λ_=>q2 false _ (Be λe F sh e1 _ _ _ _ _ _=>by cases e1) (Ab.refl _),λz=>(by cases z)⟩,λz=>(by cases z)⟩⟩
  | list _=>exact⟨X,_,1,y2,rfl,rfl,Ac.of hX,rfl,_,r2.ty,.inr (.inr (.inl rfl)),⟨λ_=>⟨λ_=>q2 false _ (Be λe F sh e1 _ _ _ _ _ _=>by cases e1) (Ab.refl _),λz=>(by cases z)⟩,λz=>(by cases z)⟩⟩
  | dict _=>exact⟨X,_,1,y2,rfl,rfl,Ac.of hX,rfl,_,r2.ty,.inr (.inr (.inl rfl)),⟨λ_=>⟨λ_=>q2 false _ (Be λe F sh e1 _ _ _ _ _ _=>by cases e1) (Ab.refl _),λz=>(by cases z)⟩,λz=>(by cases z)⟩⟩
  | tuple cs=>
  have few2:=E6 (few _ (.tail _ (.head _)))
  obtain⟨C,xs,rfl,hC,rsC⟩:=Aa.shape r2
  have lc:=rsC.len
  refine⟨X,_,1,.ref C,rfl,rfl,Ac.of hX,rfl,_,r2.ty,.inr (.inr (.inl rfl)),⟨λz=>(by cases z),λ_=>?_⟩⟩
  refine⟨X,_,1,.ref C,rfl,rfl,Ac.of hX,rfl,C,rfl,⟨_,Ac.of hC⟩,BR (xs:=xs) (λi ys H'=>Ab H2 H'/\ys=((cs.take i).map λe=>V.bl (AQ e 0 ((P.bs.length:Int)-1)))) (by omega) ⟨Ab.refl _,rfl⟩ (λi ys H' h=>by rw [h.2,List.length_map,List.length_take];omega) (λi ys H' _ h=>Ac.of (h.1 _ _ hC)) (λi y ys H' hy h=>?_) λys H' h m hm=>?_⟩
  ·obtain⟨e,he,re'⟩:=rsC.got hy
   refine⟨⟨rfl,trivial⟩,λ_=>⟨p,e,Aa.ev (f h.1) _ _ re',λb1 e1=>⟨h.1,?_⟩⟩,λz=>by cases z⟩
   rw [A3 he,List.map_append,h.2,e1,TD];rfl
  refine⟨m,cs.map λe=>AQ e 0 ((P.bs.length:Int)-1),rfl,by rw [Ag,h.2,List.take_of_length_le (by omega),List.map_map];rfl,?_⟩
  rw [List.all_map]
  have s3:=h.1.trans (Ab.new (o:= .lst ys) hm)
  generalize upd H' m (.lst ys)=H3 at s3 ⊢
  refine⟨λz=>?_,λz=>?_⟩
  ·have zf:(cs.all λe=>AQ e 0 ((P.bs.length:Int)-1))=false:=by simpa using z
   refine q2 false _ (Be λe F sh ea _ _ st _ _ _=>?_) s3
   injection ea with ea
   subst ea
   rw [List.all_map] at zf
   have:(e.all ((λe=>AQ e 0 ((P.bs.length:Int)-1)) ∘PyData.int))=true:=by
    rw [List.all_eq_true]
    intro x hx
    have:=st.bd x hx
    exact BU this.1 (by omega)
   rw [this] at zf;cases zf
  have zt:(cs.all λe=>AQ e 0 ((P.bs.length:Int)-1))=true:=by simpa using z
  obtain⟨c,rfl,bd⟩:=Hv zt
  clear zt z h hm
  obtain⟨ks,ek,kb⟩:=TF bd
  rw [Ad.ints rsC] at hC
  refine⟨X,_,1,.ref C,rfl,rfl,Ac.of (s3 _ _ hX),rfl,C,_,rfl,.inr (Ac.of (s3 _ _ hC)),λL H4 s4 hL kL=>⟨X,_,1,.ref C,rfl,rfl,Ac.of ((s3.trans s4) _ _ hX),rfl,C,ks,rfl,?_,λk hk=>Nat.lt_of_lt_of_le (kb k hk) (by omega),λl H5 ms s5 hl kl up mem=>?_⟩⟩
  ·rw [(s3.trans s4) _ _ hC,ek,List.map_map];rfl
  have s35:=s3.trans (s4.trans s5)
  by_cases em:c=ms
  rotate_left
  ·refine⟨L,l,c,ms,rfl,rfl,s5 _ _ kL,kl,?_⟩
   rw [decide_eq_false em]
   refine⟨λ_=>⟨λ_=>q2 false _ (Be λe F sh ea _ _ st _ _ _=>?_) s35,λz=>(by cases z)⟩,λz=>(by cases z)⟩
   cases DB ea
   refine em (Mw st.up up λx=>?_)
   rw [mem,ek,List.mem_map]
   constructor
   ·rintro⟨k,hk,rfl⟩;exact⟨k,hk,rfl⟩
   ·rintro⟨k,hk,rfl⟩;exact⟨k,hk,rfl⟩
  refine⟨L,l,c,ms,rfl,rfl,s5 _ _ kL,kl,?_⟩
  rw [decide_eq_true em]
  refine⟨λz=>(by cases z),λ_=>?_⟩
  have st:IsSet P.bs.length c:=⟨by rw [em];exact up,λx hx=>by have:=bd x hx;omega⟩
  have sl:=st.len
  refine⟨X,_,2,y3,rfl,rfl,Ac.of (s35 _ _ hX),rfl,p,caps P S,a2,by rw [A7];exact x8,cap4,.inl (Aa.ev (f s35) _ _ rc2),Aa.ev (f s35) _ _ r3,λb6 H6 hb6 s6'=>⟨λz=>?_,λz=>?_⟩⟩
  ·have bf:BO (caps P S) a2=false:=by rw [<-hb6];simpa using z
   refine q2 false _ (Be λe F sh ea eb _ _ fi _ _=>?_) (s35.trans s6')
   obtain⟨F',eF,fo⟩:=JA ok so fi
   rw [eb,eF,TC fo] at bf;cases bf
  have s6:=s35.trans s6'
  refine⟨X,_,1,.ref C,rfl,rfl,Ac.of (s6 _ _ hX),rfl,p,caps P S,c,by rw [A7];exact x8,cap4,Aa.ev (f s6) _ _ rc2,⟨C,rfl,.inr (s6 _ _ hC)⟩,λA H7 s7' hA cl=>?_⟩
  have s7:=s6.trans s7'
  have lo8:(only (terms P S) c).cs.length<=8:=by show((caps P S).map _).length<=8;rw [List.length_map,A7];exact x8
  have on4:∀r0∈(only (terms P S) c).cs,r0.length<=4:=λr0 hr=>by
   have:=((LF (ch:=c) fl).c r0 hr).1
   have:=(LF (ch:=c) fl).o
   omega
  refine⟨X,_,2,y3,rfl,rfl,Ac.of (s7 _ _ hX),rfl,p,(only (terms P S) c).cs,a2,lo8,on4,.inr ⟨A,rfl,cl⟩,Aa.ev (f s7) _ _ r3,λb7 Ha hb7 sa=>⟨λz=>?_,λz=>?_⟩⟩
  ·have bf:BO (only (terms P S) c).cs a2=false:=by rw [<-hb7];simpa using z
   refine⟨λ_=>q2 false _ (Be λe F sh ea eb _ _ fi _ _=>?_) (s7.trans sa),λz=>(by cases z)⟩
   cases DB ea
   rw [eb,fi] at bf;cases bf
  have fi:BO (only (terms P S) c).cs a2=true:=by rw [<-hb7];simpa using z
  obtain⟨F,rfl,fo⟩:=JA ok so fi
  have s7a:=s7.trans sa
  refine⟨X,_,2,y3,rfl,rfl,Ac.of (s7a _ _ hX),rfl,p,P,S,F,ok,so,fo.len,Aa.ev (f s7a) _ _ r2',Aa.ev (f s7a) _ _ ru2,Feed.of (Aa.ev (f s7a) _ _ r3),λb8 Hb hb8 sb=>⟨λz=>?_,λz=>?_⟩⟩
  ·refine q2 false _ (Be λe F' sh ea eb _ _ _ kp _=>?_) (s7a.trans sb)
   cases Jy eb
   rw [hb8.mpr kp] at z;cases z
  have kp:Ew P S F:=hb8.mp (by simpa using z)
  have s7b:=s7a.trans sb
  refine⟨X,_,1,.ref C,rfl,rfl,Ac.of (s7b _ _ hX),rfl,λe Hc sc ke=>⟨C,e,_,rfl,rfl,(s7b.trans sc) _ _ hC,ke,⟨λz=>?_,λz=>?_⟩⟩⟩
  ·have e0:c≠ []:=λe=>by rw [e] at z;cases z
   have l0:0<c.length:=List.length_pos_iff.mpr e0
   have s7c:=s7b.trans sc
   refine⟨X,_,1,.ref C,rfl,rfl,Ac.of (s7c _ _ hX),rfl,C,_,rfl,.inr (Ac.of (s7c _ _ hC)),P.bs.length,c.length-1,rfl,by rw [List.length_map];omega,b4,by omega,by omega,λR H8 Ts s8' hR kR rT=>?_⟩
   have s8:=s7c.trans s8'
   rw [show Ba P.bs.length (c.length-1)=By P.bs.length c by unfold By;rw [if_neg e0]] at rT
   cases a3 with
   | none=>exact⟨X,_,3,y4,rfl,rfl,Ac.of (s8 _ _ hX),rfl,_,(Aa.ev (f s8) _ _ r4).ty,.inr (.inr (.inl rfl)),⟨λ_=>⟨λ_=>q2 false _ (Be λe F sh _ _ e3 _ _ _ _=>by cases e3) s8,λz=>(by cases z)⟩,λz=>(by cases z)⟩⟩
   | bool _=>exact⟨X,_,3,y4,rfl,rfl,Ac.of (s8 _ _ hX),rfl,_,(Aa.ev (f s8) _ _ r4).ty,.inr (.inr (.inl rfl)),⟨λ_=>⟨λ_=>q2 false _ (Be λe F sh _ _ e3 _ _ _ _=>by cases e3) s8,λz=>(by cases z)⟩,λz=>(by cases z)⟩⟩
   | int _=>exact⟨X,_,3,y4,rfl,rfl,Ac.of (s8 _ _ hX),rfl,_,(Aa.ev (f s8) _ _ r4).ty,.inr (.inr (.inl rfl)),⟨λ_=>⟨λ_=>q2 false _ (Be λe F sh _ _ e3 _ _ _ _=>by cases e3) s8,λz=>(by cases z)⟩,λz=>(by cases z)⟩⟩
   | str _=>exact⟨X,_,3,y4,rfl,rfl,Ac.of (s8 _ _ hX),rfl,_,(Aa.ev (f s8) _ _ r4).ty,.inr (.inr (.inl rfl)),⟨λ_=>⟨λ_=>q2 false _ (Be λe F sh _ _ e3 _ _ _ _=>by cases e3) s8,λz=>(by cases z)⟩,λz=>(by cases z)⟩⟩
   | list _=>exact⟨X,_,3,y4,rfl,rfl,Ac.of (s8 _ _ hX),rfl,_,(Aa.ev (f s8) _ _ r4).ty,.inr (.inr (.inl rfl)),⟨λ_=>⟨λ_=>q2 false _ (Be λe F sh _ _ e3 _ _ _ _=>by cases e3) s8,λz=>(by cases z)⟩,λz=>(by cases z)⟩⟩
   | dict _=>exact⟨X,_,3,y4,rfl,rfl,Ac.of (s8 _ _ hX),rfl,_,(Aa.ev (f s8) _ _ r4).ty,.inr (.inr (.inl rfl)),⟨λ_=>⟨λ_=>q2 false _ (Be λe F sh _ _ e3 _ _ _ _=>by cases e3) s8,λz=>(by cases z)⟩,λz=>(by cases z)⟩⟩
   | tuple sh=>
    have few4:=E6 (few _ (.tail _ (.tail _ (.tail _ (.head _)))))
    obtain⟨Y,ws,rfl,hY,rsY⟩:=Aa.shape r4
    have lY:=rsY.len
    refine⟨X,_,3,.ref Y,rfl,rfl,Ac.of (s8 _ _ hX),rfl,_,(Aa.ev (f s8) _ _ r4).ty,.inr (.inr (.inl rfl)),⟨λz=>(by cases z),λ_=>?_⟩⟩
    by_cases e3:sh.length=(By P.bs.length c).length
    rotate_left
    ·refine⟨X,_,3,.ref Y,rfl,rfl,Ac.of (s8 _ _ hX),rfl,Y,_,rfl,.inr (Ac.of (s8 _ _ hY)),R,_,rfl,.inl (Ai.of kR),rfl,⟨λ_=>q2 false _ (Be λe F sh' ea _ ec _ _ _ so=>?_) s8,λz=>?_⟩⟩
     ·cases DB ea
      injection ec with ec
      subst ec
      exact e3 so.1
     ·exfalso
      rw [List.length_map,rT.1,<-lY] at z
      simp at z
      omega
    refine⟨X,_,3,.ref Y,rfl,rfl,Ac.of (s8 _ _ hX),rfl,Y,_,rfl,.inr (Ac.of (s8 _ _ hY)),R,_,rfl,.inl (Ai.of kR),rfl,⟨λz=>?_,λ_=>?_⟩⟩
    ·rw [List.length_map,rT.1,<-lY,e3] at z;simp at z
    have hY8:=s8 _ _ hY
    have rsY8:=Ad.ev (f s8) _ _ rsY
    have rc8:=Aa.ev (f s8) _ _ rc2
    refine⟨X,_,3,.ref Y,rfl,rfl,Ac.of (s8 _ _ hX),rfl,R,Y,rfl,⟨_,Ai.of kR⟩,⟨_,Ac.of hY8⟩,EQ (xs:=Ts.map V.ref) (ys:=ws) (λi σ H'=>(∃x7 x8,σ=[some (.ref PA),some u,some (.ref X),some (.int (P.bs.length:Int)),some vc,some (.ref D),some (.ref R),x7,x8])/\Ab H8 H'/\∀(k:Nat) (d:PyData) (e:List Int),k<i->sh[k]? =some d->(By P.bs.length c)[k]? =some e->Bs (only (terms P S) e) d=true) (by rw [List.length_map,rT.1,<-lY,e3]) ⟨⟨_,_,rfl⟩,Ab.refl _,λk d e hk=>absurd hk (Nat.not_lt_zero _)⟩ (λi σ H' h=>⟨Ai.of (h.2.1 _ _ kR),Ac.of (h.2.1 _ _ hY8)⟩) (λi x y σ H' U hx hy h hU=>?_) fun σ H' h=>?_⟩
    ·obtain⟨⟨x7,x8',rfl⟩,sm,al⟩:=h
     rw [List.getElem?_map] at hx
     cases hT:Ts[i]? with
     | none=>rw [hT] at hx;cases hx
     | some T=>
      rw [hT] at hx
      cases hx
      obtain⟨d,hd,rd'⟩:=rsY8.got hy
      obtain⟨e,he⟩:∃e,(By P.bs.length c)[i]? =some e:=⟨_,List.getElem?_eq_getElem (by rw [<-rT.1];exact(List.getElem?_eq_some_iff.mp hT).1)⟩
      have kd:=rT.2 i T e hT he
      have nU:=Ab.new (o:= .tup [.ref T,y]) hU
      have s9:=sm.trans nU
      refine⟨U,_,rfl,Ac.of Ag,rfl,_,_,rfl,_,_,rfl,rfl,?_⟩
      generalize upd H' U (.tup [.ref T,y])=H9 at nU s9 ⊢
      have s89:=s8.trans s9
      refine⟨PA,_,2,.ref PM,rfl,rfl,Ac.of (s89 _ _ pA2),rfl,p,caps P S,e,by rw [A7];exact x8,cap4,Aa.ev (f s9) _ _ rc8,⟨T,rfl,.inr (s9 _ _ kd)⟩,λA H10 s10 hA cl=>?_⟩
      refine⟨p,only (terms P S) e,d,ES fl.ok,(s89.trans s10) _ _ pM2,.inr ⟨A,rfl,cl⟩,(s89.trans s10) _ _ hD,Aa.ev (f (s9.trans s10)) _ _ rd',MH (few4.2 d (List.mem_of_getElem? hd)),λb H11 hb s11=>⟨λz=>?_,λz=>?_⟩⟩
      ·have bf:Bs (only (terms P S) e) d=false:=by rw [<-hb];simpa using z
       refine q2 false _ (Be λe' F sh' ea _ ec _ _ _ so=>?_) (s89.trans (s10.trans s11))
       cases DB ea
       injection ec with ec
       subst ec
       rw [so.2 i d e hd he] at bf;cases bf
      ·have bt:Bs (only (terms P S) e) d=true:=by rw [<-hb];simpa using z
       refine⟨⟨_,_,rfl⟩,s9.trans (s10.trans s11),λk d' e' hk hd' he'=>?_⟩
       by_cases ek:k=i
       ·subst ek
        rw [hd] at hd'
        rw [he] at he'
        cases hd'
        cases he'
        exact bt
       ·exact al k d' e' (by omega) hd' he'
    ·obtain⟨⟨x7,x8',rfl⟩,sm,al⟩:=h
     refine q2 true _ ⟨λ_=>⟨c,F,sh,rfl,st,fi,kp,e3,λi d e hd he=>al i d e ?_ hd he⟩,λ_=>rfl⟩ (s8.trans sm)
     rw [List.length_map,rT.1,<-e3]
     exact(List.getElem?_eq_some_iff.mp hd).1
  ·have e0:c=[]:=by cases c with | nil=>rfl | cons a r=>cases z
   refine λR H8 s8' hR kR=>?_
   have s8:=s7b.trans (sc.trans s8')
   have rT:RwT H8 [] (By P.bs.length c):=by
    rw [show By P.bs.length c=[] by unfold By;rw [if_pos e0]]
    exact⟨rfl,λj T r h=>by cases h⟩
   obtain⟨Ts,eTs⟩:∃Ts:List Addr,Ts=[]:=⟨_,rfl⟩
   rw [<-eTs] at rT
   have kR:H8 R=some (.lst (Ts.map V.ref)):=by rw [eTs];exact kR
   cases a3 with
   | none=>exact⟨X,_,3,y4,rfl,rfl,Ac.of (s8 _ _ hX),rfl,_,(Aa.ev (f s8) _ _ r4).ty,.inr (.inr (.inl rfl)),⟨λ_=>⟨λ_=>q2 false _ (Be λe F sh _ _ e3 _ _ _ _=>by cases e3) s8,λz=>(by cases z)⟩,λz=>(by cases z)⟩⟩
   | bool _=>exact⟨X,_,3,y4,rfl,rfl,Ac.of (s8 _ _ hX),rfl,_,(Aa.ev (f s8) _ _ r4).ty,.inr (.inr (.inl rfl)),⟨λ_=>⟨λ_=>q2 false _ (Be λe F sh _ _ e3 _ _ _ _=>by cases e3) s8,λz=>(by cases z)⟩,λz=>(by cases z)⟩⟩
   | int _=>exact⟨X,_,3,y4,rfl,rfl,Ac.of (s8 _ _ hX),rfl,_,(Aa.ev (f s8) _ _ r4).ty,.inr (.inr (.inl rfl)),⟨λ_=>⟨λ_=>q2 false _ (Be λe F sh _ _ e3 _ _ _ _=>by cases e3) s8,λz=>(by cases z)⟩,λz=>(by cases z)⟩⟩
   | str _=>exact⟨X,_,3,y4,rfl,rfl,Ac.of (s8 _ _ hX),rfl,_,(Aa.ev (f s8) _ _ r4).ty,.inr (.inr (.inl rfl)),⟨λ_=>⟨λ_=>q2 false _ (Be λe F sh _ _ e3 _ _ _ _=>by cases e3) s8,λz=>(by cases z)⟩,λz=>(by cases z)⟩⟩
   | list _=>exact⟨X,_,3,y4,rfl,rfl,Ac.of (s8 _ _ hX),rfl,_,(Aa.ev (f s8) _ _ r4).ty,.inr (.inr (.inl rfl)),⟨λ_=>⟨λ_=>q2 false _ (Be λe F sh _ _ e3 _ _ _ _=>by cases e3) s8,λz=>(by cases z)⟩,λz=>(by cases z)⟩⟩
   | dict _=>exact⟨X,_,3,y4,rfl,rfl,Ac.of (s8 _ _ hX),rfl,_,(Aa.ev (f s8) _ _ r4).ty,.inr (.inr (.inl rfl)),⟨λ_=>⟨λ_=>q2 false _ (Be λe F sh _ _ e3 _ _ _ _=>by cases e3) s8,λz=>(by cases z)⟩,λz=>(by cases z)⟩⟩
   | tuple sh=>
    have few4:=E6 (few _ (.tail _ (.tail _ (.tail _ (.head _)))))
    obtain⟨Y,ws,rfl,hY,rsY⟩:=Aa.shape r4
    have lY:=rsY.len
    refine⟨X,_,3,.ref Y,rfl,rfl,Ac.of (s8 _ _ hX),rfl,_,(Aa.ev (f s8) _ _ r4).ty,.inr (.inr (.inl rfl)),⟨λz=>(by cases z),λ_=>?_⟩⟩
    by_cases e3:sh.length=(By P.bs.length c).length
    rotate_left
    ·refine⟨X,_,3,.ref Y,rfl,rfl,Ac.of (s8 _ _ hX),rfl,Y,_,rfl,.inr (Ac.of (s8 _ _ hY)),R,_,rfl,.inl (Ai.of kR),rfl,⟨λ_=>q2 false _ (Be λe F sh' ea _ ec _ _ _ so=>?_) s8,λz=>?_⟩⟩
     ·cases DB ea
      injection ec with ec
      subst ec
      exact e3 so.1
     ·exfalso
      rw [List.length_map,rT.1,<-lY] at z
      simp at z
      omega
    refine⟨X,_,3,.ref Y,rfl,rfl,Ac.of (s8 _ _ hX),rfl,Y,_,rfl,.inr (Ac.of (s8 _ _ hY)),R,_,rfl,.inl (Ai.of kR),rfl,⟨λz=>?_,λ_=>?_⟩⟩
    ·rw [List.length_map,rT.1,<-lY,e3] at z;simp at z
    have hY8:=s8 _ _ hY
    have rsY8:=Ad.ev (f s8) _ _ rsY
    have rc8:=Aa.ev (f s8) _ _ rc2
    refine⟨X,_,3,.ref Y,rfl,rfl,Ac.of (s8 _ _ hX),rfl,R,Y,rfl,⟨_,Ai.of kR⟩,⟨_,Ac.of hY8⟩,EQ (xs:=Ts.map V.ref) (ys:=ws) (λi σ H'=>(∃x7 x8,σ=[some (.ref PA),some u,some (.ref X),some (.int (P.bs.length:Int)),some vc,some (.ref D),some (.ref R),x7,x8])/\Ab H8 H'/\∀(k:Nat) (d:PyData) (e:List Int),k<i->sh[k]? =some d->(By P.bs.length c)[k]? =some e->Bs (only (terms P S) e) d=true) (by rw [List.length_map,rT.1,<-lY,e3]) ⟨⟨_,_,rfl⟩,Ab.refl _,λk d e hk=>absurd hk (Nat.not_lt_zero _)⟩ (λi σ H' h=>⟨Ai.of (h.2.1 _ _ kR),Ac.of (h.2.1 _ _ hY8)⟩) (λi x y σ H' U hx hy h hU=>?_) fun σ H' h=>?_⟩
    ·obtain⟨⟨x7,x8',rfl⟩,sm,al⟩:=h
     rw [List.getElem?_map] at hx
     cases hT:Ts[i]? with
     | none=>rw [hT] at hx;cases hx
     | some T=>
      rw [hT] at hx
      cases hx
      obtain⟨d,hd,rd'⟩:=rsY8.got hy
      obtain⟨e,he⟩:∃e,(By P.bs.length c)[i]? =some e:=⟨_,List.getElem?_eq_getElem (by rw [<-rT.1];exact(List.getElem?_eq_some_iff.mp hT).1)⟩
      have kd:=rT.2 i T e hT he
      have nU:=Ab.new (o:= .tup [.ref T,y]) hU
      have s9:=sm.trans nU
      refine⟨U,_,rfl,Ac.of Ag,rfl,_,_,rfl,_,_,rfl,rfl,?_⟩
      generalize upd H' U (.tup [.ref T,y])=H9 at nU s9 ⊢
      have s89:=s8.trans s9
      refine⟨PA,_,2,.ref PM,rfl,rfl,Ac.of (s89 _ _ pA2),rfl,p,caps P S,e,by rw [A7];exact x8,cap4,Aa.ev (f s9) _ _ rc8,⟨T,rfl,.inr (s9 _ _ kd)⟩,λA H10 s10 hA cl=>?_⟩
      refine⟨p,only (terms P S) e,d,ES fl.ok,(s89.trans s10) _ _ pM2,.inr ⟨A,rfl,cl⟩,(s89.trans s10) _ _ hD,Aa.ev (f (s9.trans s10)) _ _ rd',MH (few4.2 d (List.mem_of_getElem? hd)),λb H11 hb s11=>⟨λz=>?_,λz=>?_⟩⟩
      ·have bf:Bs (only (terms P S) e) d=false:=by rw [<-hb];simpa using z
       refine q2 false _ (Be λe' F sh' ea _ ec _ _ _ so=>?_) (s89.trans (s10.trans s11))
       cases DB ea
       injection ec with ec
       subst ec
       rw [so.2 i d e hd he] at bf;cases bf
      ·have bt:Bs (only (terms P S) e) d=true:=by rw [<-hb];simpa using z
       refine⟨⟨_,_,rfl⟩,s9.trans (s10.trans s11),λk d' e' hk hd' he'=>?_⟩
       by_cases ek:k=i
       ·subst ek
        rw [hd] at hd'
        rw [he] at he'
        cases hd'
        cases he'
        exact bt
       ·exact al k d' e' (by omega) hd' he'
    ·obtain⟨⟨x7,x8',rfl⟩,sm,al⟩:=h
     refine q2 true _ ⟨λ_=>⟨c,F,sh,rfl,st,fi,kp,e3,λi d e hd he=>al i d e ?_ hd he⟩,λ_=>rfl⟩ (s8.trans sm)
     rw [List.length_map,rT.1,<-e3]
     exact(List.getElem?_eq_some_iff.mp hd).1
 ·exact h.elim
theorem TK:AB ["_law_plant_here","_law_story_here","_law_thing"] ["_law_plant_here","_law_story_here","_law_thing"] (Ax s__law_good_paper):=AD
theorem TL (F:Df K mg "_law_good_paper" s__law_good_paper ["_law_plant_here","_law_story_here","_law_thing"]) (T:Tx mg) (D__law_caps:Eu P w K mg base) (D__law_draws:E2 P w K mg base) (D__law_good_lit:Fn P w K mg base 7 "_law_good_lit" ["_law_plant_here","_law_story_here","_law_thing"] HR) (D__law_shows:Fn P w K mg base 2 "_law_shows" ["_law_main","_law_caps_here","_law_draws_here","_law_thing"] FP):Fn P w K mg base 8 "_law_good_paper" ["_law_plant_here","_law_story_here","_law_thing"] HS:=by
 refine F.fn TK (λvs H Q E h=>?_) (λf cdv A outer s H vs Q E hr h=>?_)
 ·unfold HS at h;split at h;rfl;exact h.elim
 refine⟨_,(Ak (A2 (PW.pt (Cs (Bn (Bh (Aw C0 rfl T.b_isinstance boot_isinstance (Am (cy 2) (CQ (v:= .ty "tuple") rfl T.b_tuple Bi rfl))))) (Cs (A1 (L9 hr.units0) (cy 2) (AK pa_nil) (AX _)) (CS (A1 (P7 K hr) (Az (AF K) (cy 2) pe_int (λ_ _=>rfl)) (AK (Am pe_str pe_str)) (by with_unfolding_all rfl)))))) (An (Aq pe_bl)) AZ) (Ak (A2 (A1 Do (Az (AF K) (cy 2) pe_int (λ_ _=>rfl)) pe_str (AX _)) (An (Aq (Af D__law_shows (hr.mono (by decide)) rfl (CK (Az (AF K) (cy 0) pe_int (λ_ _=>rfl)) (Af D__law_caps (hr.mono (by decide)) rfl (Am (cy 0) (cy 1))) (Af D__law_draws (hr.mono (by decide)) rfl (Am (cy 0) (cy 1))) (Cj s_tup (cy 2) (BP pe_int) CH))))) AZ) (An (Aq (Af D__law_good_lit (hr.mono (by decide)) rfl (AG (cy 0) (cy 1) (cy 2))))))),?_⟩
 unfold HS at h
 split at h
 ·rename_i v u x
  obtain⟨p,P,S,d,ok,so,r,ru,rx,few,hd,q⟩:=h
  have f:=λ{H H':Hp} (s:Ab H H')=>Ev.same (p:=p) s
  cases d with
  | none=>exact⟨_,rx.ty,.inr (.inr (.inl rfl)),⟨λ_=>⟨λ_=>q false _ (Ec λes=>⟨λe=>(by cases e),λe=>(by cases e)⟩) (Ab.refl _),λz=>(by cases z)⟩,λz=>(by cases z)⟩⟩
  | bool _=>exact⟨_,rx.ty,.inr (.inr (.inl rfl)),⟨λ_=>⟨λ_=>q false _ (Ec λes=>⟨λe=>(by cases e),λe=>(by cases e)⟩) (Ab.refl _),λz=>(by cases z)⟩,λz=>(by cases z)⟩⟩
  | int _=>exact⟨_,rx.ty,.inr (.inr (.inl rfl)),⟨λ_=>⟨λ_=>q false _ (Ec λes=>⟨λe=>(by cases e),λe=>(by cases e)⟩) (Ab.refl _),λz=>(by cases z)⟩,λz=>(by cases z)⟩⟩
  | str _=>exact⟨_,rx.ty,.inr (.inr (.inl rfl)),⟨λ_=>⟨λ_=>q false _ (Ec λes=>⟨λe=>(by cases e),λe=>(by cases e)⟩) (Ab.refl _),λz=>(by cases z)⟩,λz=>(by cases z)⟩⟩
  | list _=>exact⟨_,rx.ty,.inr (.inr (.inl rfl)),⟨λ_=>⟨λ_=>q false _ (Ec λes=>⟨λe=>(by cases e),λe=>(by cases e)⟩) (Ab.refl _),λz=>(by cases z)⟩,λz=>(by cases z)⟩⟩
  | dict _=>exact⟨_,rx.ty,.inr (.inr (.inl rfl)),⟨λ_=>⟨λ_=>q false _ (Ec λes=>⟨λe=>(by cases e),λe=>(by cases e)⟩) (Ab.refl _),λz=>(by cases z)⟩,λz=>(by cases z)⟩⟩
  | tuple es=>
   obtain⟨X,xs,rfl,hX,rs⟩:=Aa.shape rx
   refine⟨_,rx.ty,.inr (.inr (.inl rfl)),⟨λz=>(by cases z),λ_=>?_⟩⟩
   refine λT1 H1 s1 kT1=>⟨X,T1,xs,rfl,rfl,s1 _ _ hX,kT1,?_⟩
   cases es with
   | nil=>
    have:=rs.len
    cases xs with
    | cons _ _=>cases this
    | nil=>exact⟨λ_=>⟨λ_=>q false _ (Ec λes=>⟨λe=>(by cases e),λe=>(by cases e)⟩) s1,λz=>(by cases z)⟩,λz=>(by cases z)⟩
   | cons a es=>
    have rs0:=rs
    unfold Ad at rs0
    obtain⟨y1,ys,rfl,ra,rs1⟩:=rs0
    refine⟨λz=>(by cases z),λ_=>?_⟩
    refine⟨X,_,0,y1,rfl,rfl,Ac.of (s1 _ _ hX),C9 (j:=0) rfl,λt2 H2 s2 k2=>⟨p,t2,["lit","short"],a,rfl,Ac.of k2,Aa.ev (f (s1.trans s2)) _ _ ra,hd a _ rfl,⟨λc3=>?_,λc3=>?_⟩⟩⟩
    ·refine q false _ (Ec λes'=>⟨λe=>?_,λe=>?_⟩) (s1.trans s2)
     ·injection e with e
      injection e with e1 _
      subst e1
      exact absurd c3 (by decide+kernel)
     ·injection e with e
      injection e with e1 _
      subst e1
      exact absurd c3 (by decide+kernel)
    obtain⟨z,rfl,hz⟩:∃z,a= .str z/\(z="lit" \/z="short"):=by
     cases a with
     | str z=>
      refine⟨z,rfl,?_⟩
      simp [GC] at c3
      by_cases y:Str.ofString "lit"=z
      ·exact .inl y.symm
      ·exact .inr (c3 y).symm
     | _=>cases c3
    have ea:y1= .str z:=by unfold Aa at ra;exact ra
    subst ea
    have s12:=s1.trans s2
    have hX2:=s12 _ _ hX
    have r2:=Aa.ev (f s12) _ _ r
    have ru2:=Aa.ev (f s12) _ _ ru
    rcases hz with rfl | rfl
    ·refine⟨X,_,0,.str "lit",rfl,rfl,Ac.of hX2,C9 (j:=0) rfl,rfl,⟨λc4=>absurd c4 (by decide+kernel),λ_=>?_⟩⟩
     refine⟨p,P,S,es,ok,so,r2,ru2,Aa.ev (f s12) _ _ rx,few,λb H3 hb s3=>q b _ ?_ (s12.trans s3)⟩
     rw [hb]
     refine⟨.inr,λz=>z.elim (λz=>?_) id⟩
     obtain⟨w,e,_⟩:=z
     injection e with e
     injection e with e1 _
     injection e1 with e1
     exact absurd e1 MI
    ·refine⟨X,_,0,.str "short",rfl,rfl,Ac.of hX2,C9 (j:=0) rfl,rfl,⟨λ_=>?_,λc4=>absurd c4 (by decide+kernel)⟩⟩
     obtain⟨PA,PB,PE,PM,xb,xe,rfl,pA,pB,rb,pE,re,pM⟩:=Aa.plant r2
     refine⟨PA,_,2,.ref PM,rfl,rfl,Ac.of pA,rfl,p,P,S,ok,so,r2,ru2,λvc H3 s3 rc=>⟨p,P,S,ok,so,Aa.ev (f s3) _ _ r2,Aa.ev (f s3) _ _ ru2,λvd H4 s4 rd=>⟨1,rfl,X,_,rfl,(s3.trans s4) _ _ hX2,λB H5 s5 kB=>?_⟩⟩⟩
     obtain⟨D,rfl,hD⟩:=Aa.ofRow (r:=draws P S) rd
     have s25:=s3.trans (s4.trans s5)
     rw [Fv,show(V.str "short" ::ys).drop 1=ys from rfl] at kB
     have le:=(E6 few).1
     rw [List.length_cons] at le
     refine⟨p,terms P S,.tuple es,Fq so,s25 _ _ pM,.inl (Aa.ev (f (s4.trans s5)) _ _ rc),s5 _ _ hD,Aa.tup kB (Ad.ev (f (s12.trans s25)) _ _ rs1),λes' e=>by injection e with e;subst e;omega,λb H6 hb s6=>q b _ ?_ (s12.trans (s25.trans s6))⟩
     rw [hb,TH]
     refine⟨.inl,λz=>z.elim id λz=>?_⟩
     obtain⟨c,F,sh,e,_⟩:=z
     injection e with e
     injection e with e1 _
     injection e1 with e1
     exact absurd e1.symm MI
 ·exact h.elim
end
end MF
end
section
namespace MF
open PySem PySem.Spec PyProof.Rows L2
variable {h : Nat} {p : Addr} {H H' : Hp} {v : V} {xs : List V} {a : PyData}
theorem TN {x:Str} (h:(reprText x).length<=40):Small 40 0 (.str x):=⟨by unfold Ck;exact h,Nat.le_refl 0,rfl⟩
structure Pt (d:PyData):Prop where
 sm:Small 30000 2 d
 few:B9 2 d=true
 nm:d.hasDict=false
structure GT (d:PyData):Prop where
 nice:Fk d
 few:B9 3 d=true
 hd:FK d
 nd:∀a es,d= .tuple (a::es)->∀kvs,a≠ .dict kvs
theorem JE {x:Str} (h:(reprText x).length<=40):Pt (.str x):=⟨(TN h).mono (by decide) (by decide),rfl,rfl⟩
theorem E7 {i:Int} (h:i.natAbs<10 ^ 6):Pt (.int i):=⟨(Gq h).mono (by decide) (by decide),rfl,rfl⟩
theorem JF {n:Nat}{c:List Int} (l:c.length<=1000):B9 (n+1) (Ay c)=true:=by
 unfold B9
 rw [List.length_map,decide_eq_true l,Bool.true_and,List.all_eq_true]
 intro d hd
 obtain⟨i,_,rfl⟩:=List.mem_map.mp hd
 cases n<;>rfl
theorem FR {c:List Int} (h:∀i∈c,i.natAbs<10 ^ 6) (l:c.length<=20):Pt (Ay c):=⟨(Gs h l).mono (by decide) (by decide),JF (by omega),((Gs h l)).nd⟩
theorem TQ {c:List Int} (h:∀i∈c,i.natAbs<10 ^ 6) (l:c.length<=20):Pt (.list (c.map .int)):=by
 have:Small 1000 1 (.list (c.map .int)):=Gp (n:=40) (k:=0) (λd hd=>by
  obtain⟨i,hi,rfl⟩:=List.mem_map.mp hd
  exact Gq (h i hi)) (by rw [List.length_map];omega)
 exact⟨this.mono (by decide) (by decide),rfl,this.nd⟩
theorem HU {F:List (List Int)} (h:∀r∈F,(∀i∈r,i.natAbs<10 ^ 6)/\r.length<=20) (l:F.length<=20):Pt (FD F):=by
 refine⟨Je h l,?_,(Je h l).nd⟩
 show(decide ((F.map Ay).length<=1000) &&(F.map Ay).all (B9 1))=true
 rw [List.length_map,decide_eq_true (by omega),Bool.true_and,List.all_eq_true]
 intro d hd
 obtain⟨r,hr,rfl⟩:=List.mem_map.mp hd
 exact JF (by have:=(h r hr).2;omega)
theorem TR {F:List (List Int)} (h:∀r∈F,(∀i∈r,i.natAbs<10 ^ 6)/\r.length<=20) (l:F.length<=20):Pt (.list (F.map Ay)):=by
 have:Small 30000 2 (.list (F.map Ay)):=Gp (n:=1000) (k:=1) (λd hd=>by
  obtain⟨r,hr,rfl⟩:=List.mem_map.mp hd
  exact Gs (h r hr).1 (h r hr).2) (by rw [List.length_map];omega)
 exact⟨this,rfl,this.nd⟩
def DD (d:PyData):Prop:=d= .none\/ ∃f l:Nat,f<100/\l<100/\d=pD (f,l)
theorem MJ {d:PyData} (h:DD d):Small 200 1 d:=by
 rcases h with rfl | ⟨f,l,h1,h2,rfl⟩
 ·exact⟨by decide+kernel,by decide,rfl⟩
 ·exact Fl (n:=40) (k:=0) (λd hd=>by
   simp only [List.mem_cons,List.not_mem_nil,or_false] at hd
   rcases hd with rfl | rfl<;>exact Gq (by omega)) (show(40+2) * 2+4<=200 by decide)
theorem TU {d:PyData} (h:DD d):B9 1 d=true:=by
 rcases h with rfl | ⟨f,l,_,_,rfl⟩<;>rfl
theorem JG {d:PyData} (h:DD d):BG d=true:=by
 rcases h with rfl | ⟨f,l,_,_,rfl⟩<;>rfl
theorem FS {sh:List PyData} (h:∀d∈sh,DD d) (l:sh.length<=20):Pt (.tuple sh):=by
 have:=Fl (n:=200) (k:=1) (m:=30000) (λd hd=>MJ (h d hd)) (by omega)
 refine⟨this,?_,this.nd⟩
 unfold B9
 rw [decide_eq_true (by omega),Bool.true_and,List.all_eq_true]
 exact λd hd=>TU (h d hd)
theorem TV {sh:List PyData} (h:∀d∈sh,DD d) (l:sh.length<=20):Pt (.list sh):=by
 have:=Gp (n:=200) (k:=1) (m:=30000) (λd hd=>MJ (h d hd)) (by omega)
 exact⟨this,rfl,this.nd⟩
theorem CB {s:Str}{es:List PyData} (hs:(reprText s).length<=40/\(PyData.str s).canLay0=true) (h:∀e∈es,Pt e) (l:es.length<=10):GT (.tuple (.str s::es)):=by
 have all:∀e∈(PyData.str s::es),Pt e:=λe he=>by
  rcases List.mem_cons.mp he with rfl | he
  ·exact JE hs.1
  ·exact h e he
 refine⟨(Fl (n:=30000) (k:=2) (m:=400000) (λd hd=>(all d hd).sm) (by rw [List.length_cons];omega)).nice (by decide) (by decide),?_,λx ds e=>?_,λa ds e kvs z=>?_⟩
 ·unfold B9
  rw [List.length_cons,decide_eq_true (by omega),Bool.true_and,List.all_eq_true]
  exact λd hd=>(all d hd).few
 ·injection e with e
  injection e with e _
  subst e
  exact⟨hs.2,rfl⟩
 ·injection e with e
  injection e with e _
  rw [<-e] at z;cases z
theorem MK {es:List PyData} (h:∀e∈es,Pt e) (l:es.length<=10):GT (.list es):=
 ⟨(Gp (n:=30000) (k:=2) (m:=400000) (λd hd=>(h d hd).sm) (by omega)).nice (by decide) (by decide),rfl,λx ds e=>(by cases e),λa ds e=>by cases e⟩
inductive PapD (n h:Nat):PyData->Prop where
 | short {a b:Int}:0<=a->a<=100->0<=b->b<=100->PapD n h (.tuple [.str "short",.int a,.int b])
 | lit {c:List Int}{F:List (List Int)}{sh:List PyData}:c.length<=4->(∀i∈c,0<=i/\i<=4)->F.length=h->(∀r∈F,r.length=n/\∀x∈r,0<=x/\x<=9)->sh.length<=16->(∀d∈sh,DD d)->PapD n h (.tuple [.str "lit",Ay c,FD F,.tuple sh])
theorem PapD.nm {n:Nat}{d:PyData} (p:PapD n h d):BG d=true:=by
 cases p with
 | short=>rfl
 | @lit c F sh _ _ _ _ _ hs=>
  refine Cp (ds:=[.str "lit",Ay c,FD F,.tuple sh]) λd hd=>?_
  simp only [List.mem_cons,List.not_mem_nil,or_false] at hd
  rcases hd with rfl | rfl | rfl | rfl
  ·rfl
  ·exact DY _
  ·exact Cp (ds:=F.map Ay) λd hd=>by
    obtain⟨r,_,rfl⟩:=List.mem_map.mp hd
    exact DY r
  ·exact Cp λd hd=>JG (hs d hd)
abbrev HV (s:Str):Prop:=(reprText s).length<=40/\(PyData.str s).canLay0=true
theorem w_lit:HV "lit" :=by decide+kernel
theorem w_short:HV "short" :=by decide+kernel
theorem TW:HV "Short" :=by decide+kernel
theorem TX:HV "fired" :=by decide+kernel
theorem PapD.gt {n:Nat}{d:PyData} (n4:n<=4) (h8:h<=8) (p:PapD n h d):GT d:=by
 cases p with
 | @short a b a0 a1 b0 b1=>
  refine CB (es:=[.int a,.int b]) w_short (λe he=>?_) (show 2<=10 by decide)
  simp only [List.mem_cons,List.not_mem_nil,or_false] at he
  rcases he with rfl | rfl<;>exact E7 (by omega)
 | @lit c F sh c4 cb lF hF ls hs=>
  refine CB (es:=[Ay c,FD F,.tuple sh]) w_lit (λe he=>?_) (show 3<=10 by decide)
  simp only [List.mem_cons,List.not_mem_nil,or_false] at he
  rcases he with rfl | rfl | rfl
  ·exact FR (λi hi=>by have:=cb i hi;omega) (by omega)
  ·exact HU (λr hr=>⟨λi hi=>by have:=(hF r hr).2 i hi;omega,by have:=(hF r hr).1;omega⟩) (by omega)
  ·exact FS hs (by omega)
def HW:Sp:=λvs H Q _=>match vs with | [.ref p,v,u]=>AV p H/\∃P S,PL.ok P/\SY.ok S P.bs.length/\Aa p H P.d v/\Aa p H S.d u/\∀L H' xs ds,Ab H H'->H L=none->H' L=some (.lst xs)->Ad p H' ds xs->(∀d∈ds,PapD P.bs.length S.ex.length d)->3<=ds.length->ds.length<=800->Q (.ref L) H' | _=>False
def HX:Sp:=λvs H Q _=>match vs with | [.ref p,c,x]=>AV p H/\∃P S d,PL.ok P/\SY.ok S P.bs.length/\Aa p H (Dd P S) c/\Aa p H d x/\PapD P.bs.length S.ex.length d/\∀y H' e,Aa p H' e y->GT e->Ev p H H'->AV p H'->Q y H' | _=>False
theorem HY (F:List (List Int)):BG (FD F)=true:=Cp (ds:=F.map Ay) λd hd=>by
 obtain⟨r,_,rfl⟩:=List.mem_map.mp hd
 exact DY r
theorem TY {T:TM} (ok:T.ok):DD (DS (Co T)):=by
 cases z:Co T with
 | none=>exact .inl rfl
 | some w=>
  obtain⟨h1,h2,_⟩:=Ml z
  have:=ok.l8
  exact .inr ⟨w.1,w.2,by omega,by omega,rfl⟩
theorem TZ {P:PL}{S:SY} (ok:P.ok) (so:S.ok P.bs.length) {c:List Int}:∀r∈(caps P S).map (Bm c),r.length=P.bs.length/\∀x∈r,0<=x/\x<=9:=λr hr=>by
 have fo:=Jk ok so (c:=c)
 have:=FOk.bd9 ok fo r hr
 exact⟨this.2,this.1⟩
def Al (p:Addr) (H:Hp) (v:V):Prop:=∃e,Aa p H e v/\GT e
theorem Al.ev (h:Al p H v) (e:Ev p H H'):Al p H' v:=by
 obtain⟨d,r,g⟩:=h
 exact⟨d,Aa.ev e _ _ r,g⟩
def Alls (p:Addr) (H:Hp) (xs:List V):Prop:=∀v∈xs,Al p H v
theorem Alls.ev (h:Alls p H xs) (e:Ev p H H'):Alls p H' xs:=λv hv=>(h v hv).ev e
theorem Alls.nil:Alls p H []:=λv hv=>nomatch hv
theorem Alls.cons (h:Al p H v) (t:Alls p H xs):Alls p H (v::xs):=λw hw=>by
 rcases List.mem_cons.mp hw with rfl | hw
 ·exact h
 ·exact t w hw
theorem Alls.app {ys:List V} (h:Alls p H xs) (t:Alls p H ys):Alls p H (xs++ys):=λw hw=>by
 rcases List.mem_append.mp hw with hw | hw
 ·exact h w hw
 ·exact t w hw
theorem ML {b d:PyData} (ha:Pt a) (hb:Pt b) (hd:Pt d):GT (.tuple [.str "lit",a,b,d]):=by
 refine CB (es:=[a,b,d]) w_lit (λe he=>?_) (show 3<=10 by decide)
 simp only [List.mem_cons,List.not_mem_nil,or_false] at he
 rcases he with rfl | rfl | rfl
 ·exact ha
 ·exact hb
 ·exact hd
theorem al4 {p:Addr}{H:Hp}{t:Addr}{x y z:V}{a b d:PyData} (k:H t=some (.tup [.str "lit",x,y,z])) (ra:Aa p H a x) (rb:Aa p H b y) (rd:Aa p H d z) (ha:Pt a) (hb:Pt b) (hd:Pt d):Al p H (.ref t):=⟨_,Aa.tup k (.cons Aa.str (.cons ra (.cons rb (.cons rd .nil)))),ML ha hb hd⟩
theorem Ey {es:List PyData}{b c:PyData} (e:es=[a,b,c]) (ha:Pt a) (hb:Pt b) (hc:Pt c):∀x∈es,Pt x:=λx hx=>by
 subst e
 simp only [List.mem_cons,List.not_mem_nil,or_false] at hx
 rcases hx with rfl | rfl | rfl
 ·exact ha
 ·exact hb
 ·exact hc
theorem MM {g:Int} (h:Alls p H xs) (h0:0<=g) (h1:g<xs.length):∃v,BX xs g=some v/\Al p H v:=by
 obtain⟨j,v,hj,hv⟩:=My h0 h1
 exact⟨v,hv,h v (List.mem_of_getElem? hj)⟩
theorem MN:∀r:List Int,Ad p H (r.map .int) (r.map V.int)
 | []=> .nil
 | a::r=> .cons Aa.int (MN r)
theorem MO:∀ {ds:List PyData}{xs:List V} (i:Nat),Ad p H ds xs->Ad p H (ds.drop i) (xs.drop i)
 | [],xs,i,r=>by unfold Ad at r;subst r;rw [List.drop_nil,List.drop_nil];exact .nil
 | d::ds,xs,0,r=>r
 | d::ds,xs,i+1,r=>by
  unfold Ad at r
  obtain⟨x,t,rfl,rx,rt⟩:=r
  exact MO i rt
theorem T0 {xs:List V}{i:Nat} (h:i<=xs.length):Bq xs none (some (i:Int))=xs.take i:=by
 unfold Bq HT.sIx
 dsimp only
 rw [if_neg (by omega),List.drop_zero,Nat.sub_zero,Int.toNat_natCast,Nat.min_eq_left h]
section
variable {P : Program} {w : World} {K : PySem.W.Frag} {mg : Str -> Option Value} {base : Heap}
theorem sc__law_papers:AB ["_law_pen_here","_law_plant_here","_law_story_here","_law_caps_here","_law_papers_here","_law_size","_law_chosen","_law_firing_here","_law_shows_here","_law_stretch_here"] ["_law_pen_here","_law_plant_here","_law_story_here"] (Ax s__law_papers):=AD
theorem T2 (F:Df K mg "_law_papers" s__law_papers ["_law_pen_here","_law_plant_here","_law_story_here"]) (T:Tx mg) (D__law_alone:HQ P w K mg base) (D__law_caps:Eu P w K mg base) (D__law_draws:E2 P w K mg base) (D__law_rows_of:HN P w K mg base) (D__law_stretch:Fn P w K mg base 2 "_law_stretch" ["_law_main","_law_caps_here","_law_draws_here"] FM) (D__law_stretches:Fn P w K mg base 7 "_law_stretches" ["_law_plant_here","_law_story_here","_law_size"] HH):Fn P w K mg base 8 "_law_papers" ["_law_pen_here","_law_plant_here","_law_story_here"] HW:=by
 refine F.fn sc__law_papers (λvs H Q E h=>?_) (λf cdv A outer s H vs Q E hr h=>?_)
 ·unfold HW at h;split at h;rfl;exact h.elim
 refine⟨_,(@Ak _ _ _ _ _ (@Ie _ _ (3) (4) _ _ _ _ _ _ _ _ _ _ _ rfl sc__law_papers.nd rfl rfl (by decide) rfl rfl (@BC _ _ _ _ _ (@Af _ _ _ _ _ _ _ _ _ _ D__law_caps (hr.mono (by decide)) rfl (@BC _ _ _ _ _ (@cx _ 1 _ _ (by rfl)) (@cx _ 2 _ _ (by rfl)) (by rfl)) (by decide) (by rfl) (by rfl)) (@B0 _ _ _ _ (@AU _ _ _ (@Au _ _ _ _ _ _ _ _ (@C1 _) (@AK _ _ _ _ _ (@AU _ _ _ (@pe_str _ _ _ _) (by rfl))) (@AK _ _ _ _ _ (@BC _ _ _ _ _ (@pe_int _ _ _ _) (@Au _ _ _ _ _ _ _ _ (@BE _) (@Aw _ _ _ _ _ _ _ _ _ (@AR _ K (by rfl)) rfl T.b_len PySem.boot_len (@AU _ _ _ (@Az _ _ _ _ _ _ _ (@AF _ K (by rfl)) (@cx _ 2 _ _ (by rfl)) (@pe_int _ _ _ _) (λ_ _=>rfl)) (by rfl)) (by decide) (by decide) (by rfl) (by rfl)) (@pe_int _ _ _ _)) (by rfl)))) (by rfl))) (by rfl)) (by rfl) (by rfl)) (@Ak _ _ _ _ _ (@Bw _ _ _ _ _ _ _ _ PassesOwn.never rfl (@CT _ _ _ _ _ _ rfl T.b_range (@AU _ _ _ (@Au _ _ _ _ _ _ _ _ (@Bb _) (@Aw _ _ _ _ _ _ _ _ _ (@AR _ K (by rfl)) rfl T.b_len PySem.boot_len (@AU _ _ _ (@Az _ _ _ _ _ _ _ (@AF _ K (by rfl)) (@cx _ 1 _ _ (by rfl)) (@pe_int _ _ _ _) (λ_ _=>rfl)) (by rfl)) (by decide) (by decide) (by rfl) (by rfl)) (@pe_int _ _ _ _)) (by rfl)) (by rfl)) (@Cu _ _ _ 5 sc__law_papers.nd (by rfl)) (@An _ _ _ (@Bw _ _ _ _ _ _ _ _ PassesOwn.never rfl (@Dv _ K _ _ _ (@Af _ _ _ _ _ _ _ _ _ _ D__law_rows_of (hr.mono (by decide)) rfl (@BC _ _ _ _ _ (@Aw _ _ _ _ _ _ _ _ _ (@AR _ K (by rfl)) rfl T.b_len PySem.boot_len (@AU _ _ _ (@Az _ _ _ _ _ _ _ (@AF _ K (by rfl)) (@cx _ 1 _ _ (by rfl)) (@pe_int _ _ _ _) (λ_ _=>rfl)) (by rfl)) (by decide) (by decide) (by rfl) (by rfl)) (@cx _ 5 _ _ (by rfl)) (by rfl)) (by decide) (by rfl) (by rfl)) (by rfl)) (@Cu _ _ _ 6 sc__law_papers.nd (by rfl)) (@Ak _ _ _ _ _ (@AI _ _ (7) _ _ _ _ sc__law_papers.nd rfl (AE (by rfl)) (@Bd _ _ _ _ _ _ _ _ _ (@BJ _ K (by rfl)) rfl T.b_tuple Bi (@AU _ _ _ (@A6 _ _ _ _ _ _ _ _ _ _ _ ["_law_row"] [none] rfl (@Dv _ K _ _ _ (@Af _ _ _ _ _ _ _ _ _ _ D__law_alone (hr.mono (by decide)) rfl (@BC _ _ _ _ _ (@cx _ 3 _ _ (by rfl)) (@cx _ 6 _ _ (by rfl)) (by rfl)) (by decide) (by rfl) (by rfl)) (by rfl)) (AO.of rfl) (λ_ _ _ _=>(@Cu _ _ _ 0 (AJ (by rfl)) (by rfl))) (λ_ _ _ _=>(@A5 _)) (λ_ _ _ _=>(@Bd _ _ _ _ _ _ _ _ _ (@BJ _ K (by rfl)) rfl T.b_tuple Bi (@AU _ _ _ (@cx _ 0 _ _ (by rfl)) (by rfl)) (by decide) (by decide) (by rfl) (by rfl))) (by intro _;rfl)) (by rfl)) (by decide) (by decide) (by rfl) (by rfl)) (by rfl) (Cf (by rfl))) (@Ak _ _ _ _ _ (@AI _ _ (8) _ _ _ _ sc__law_papers.nd rfl (AE (by rfl)) (@Dt _ _ _ _ _ _ _ _ (@A1 _ _ _ _ _ _ _ _ (@KK _) (@cx _ 5 _ _ (by rfl)) (@pe_int _ _ _ _) (AX _)) (@Af _ _ _ _ _ _ _ _ _ _ D__law_stretches (hr.mono (by decide)) rfl (@Cg _ _ _ _ _ _ _ (@cx _ 1 _ _ (by rfl)) (@cx _ 2 _ _ (by rfl)) (@Au _ _ _ _ _ _ _ _ (@BE _) (@cx _ 5 _ _ (by rfl)) (@pe_int _ _ _ _)) (by rfl)) (by decide) (by rfl) (by rfl)) (@AK _ _ _ _ _ (@pa_nil _))) (by rfl) (Cf (by rfl))) (@An _ _ _ (@BW _ _ _ _ (@CD _ _ _ _ _ _ _ _ _ _ _ _ PySem.F.plainAttrs_list PySem.F.slot_list_append PySem.F.type_list_append CI (@cx _ 4 _ _ (by rfl)) (@AU _ _ _ (@AK _ _ _ _ _ (@BZ _ _ _ _ _ _ _ _ _ (@pe_str _ _ _ _) (@cx _ 6 _ _ (by rfl)) (@cx _ 7 _ _ (by rfl)) (@cx _ 8 _ _ (by rfl)) (by rfl))) (by rfl)) (by rfl) (by rfl) (by rfl) (by rfl) (by rfl)) (by rfl))))) (by intro _;rfl))) (by intro _;rfl)) (@Ak _ _ _ _ _ (@AI _ _ (9) _ _ _ _ sc__law_papers.nd rfl (AE (by rfl)) (@Af _ _ _ _ _ _ _ _ _ _ D__law_stretch (hr.mono (by decide)) rfl (@Cg _ _ _ _ _ _ _ (@Az _ _ _ _ _ _ _ (@AF _ K (by rfl)) (@cx _ 1 _ _ (by rfl)) (@pe_int _ _ _ _) (λ_ _=>rfl)) (@cx _ 3 _ _ (by rfl)) (@Af _ _ _ _ _ _ _ _ _ _ D__law_draws (hr.mono (by decide)) rfl (@BC _ _ _ _ _ (@cx _ 1 _ _ (by rfl)) (@cx _ 2 _ _ (by rfl)) (by rfl)) (by decide) (by rfl) (by rfl)) (by rfl)) (by decide) (by rfl) (by rfl)) (by rfl) (Cf (by rfl))) (@An _ _ _ (@Aq _ _ _ _ (@Au _ _ _ _ _ _ _ _ (@Dh _) (@cx _ 4 _ _ (by rfl)) (@B0 _ _ _ _ (@BC _ _ _ _ _ (@Au _ _ _ _ _ _ _ _ (@C1 _) (@AK _ _ _ _ _ (@AU _ _ _ (@pe_str _ _ _ _) (by rfl))) (Rm (@cx _ 9 _ _ (by rfl)) (@Bl _ _ _ _ _ (@AK _ _ _ _ _ (@BC _ _ _ _ _ (@pe_int _ _ _ _) (@pe_int _ _ _ _) (by rfl)))))) (@AK _ _ _ _ _ (@BZ _ _ _ _ _ _ _ _ _ (@pe_str _ _ _ _) (@AK _ _ _ _ _ (@pa_nil _)) (@cx _ 3 _ _ (by rfl)) (@AK _ _ _ _ _ (@pa_nil _)) (by rfl))) (by rfl))))))))),?_⟩
 unfold HW at h
 split at h
 ·rename_i p v u
  obtain⟨pn,P,S,ok,so,r,ru,q⟩:=h
  have b4:=ok.b4
  have x8:=so.x8
  have x1:=so.x1
  have fl:=GF ok so
  have f:=λ{H H':Hp} (s:Ab H H')=>Ev.same (p:=p) s
  have cap4:∀r0∈caps P S,r0.length<=4:=λr0 hr=>by
   have:=(fl.c r0 hr).1
   have:=fl.o
   omega
  refine⟨p,P,S,ok,so,r,ru,λvc H1 s1 rc=>?_⟩
  obtain⟨SA,SB,SE,xf,rfl,sA,sB,sE,_⟩:=Aa.story (Aa.ev (f s1) _ _ ru)
  refine λt1 G1 g1 kt1=>⟨SA,_,0,.ref SB,rfl,rfl,Ac.of (g1 _ _ sA),rfl,SB,_,rfl,.inr (Ac.of (g1 _ _ sB)),?_⟩
  rw [List.length_map]
  refine λt2 G2 g2 kt2=>⟨t1,t2,_,_,rfl,rfl,g2 _ _ kt1,kt2,(show 1+2<=1000 by decide),λt3 G3 g3 kt3=>λL G4 g4 hL kL=>⟨_,_,rfl,?_⟩⟩
  have s03:=s1.trans (g1.trans (g2.trans g3))
  have s04:=s03.trans g4
  have hL0:=s03.free hL
  obtain⟨PA,PB,PE,PM,xb,xe,rfl,pA,pB,rb,pE,re,pM⟩:=Aa.plant r
  have lb:=rb.len
  rw [List.length_map] at lb
  have rc4:=Aa.ev (f (g1.trans (g2.trans (g3.trans g4)))) _ _ rc
  have nLp:L≠p:=(pn.same s03).ne hL
  refine⟨PA,_,0,.ref PB,rfl,rfl,Ac.of (s04 _ _ pA),rfl,PB,_,rfl,.inr (Ac.of (s04 _ _ pB)),?_⟩
  rw [<-lb]
  refine⟨_,rfl,by omega,by omega,C7 (n:=((P.bs.length:Int)+1).toNat) (λi σ H'=>(∃x5 x6 x7 x8 x9,σ=[some (.ref p),some (.ref PA),some (.ref SA),some vc,some (.ref L),x5,x6,x7,x8,x9])/\Ev L G4 H'/\∃xs ds,H' L=some (.lst xs)/\Ad p H' ds xs/\(∀d∈ds,PapD P.bs.length S.ex.length d)/\1<=ds.length/\ds.length<=1+i * 100) ⟨⟨_,_,_,_,_,rfl⟩,Ev.refl,_,[.tuple [.str "short",.int 0,.int ((S.ex.length:Int)-1)]],kL,.cons (Aa.tup (g4 _ _ kt3) (.cons Aa.str (.cons Aa.int (.cons Aa.int .nil)))) .nil,λd hd=>by rw [List.mem_singleton] at hd;subst hd;exact .short (by decide) (by decide) (by omega) (by omega),Nat.le_refl _,Nat.le_refl _⟩ (λi σ H5 hi h=>?_) fun σ H5 h=>?_⟩
  ·obtain⟨⟨x5,x6,x7,x8',x9,rfl⟩,evo,xo,dso,kxo,rxo,alo,l1o,l2o⟩:=h
   have s05:=Ab.evOwn s04 hL0 evo
   refine⟨PA,_,0,.ref PB,rfl,rfl,Ac.of (s05 _ _ pA),rfl,PB,_,rfl,.inr (Ac.of (s05 _ _ pB)),P.bs.length,i,by rw [<-lb],by omega,b4,by omega,by omega,λR H6 Ts s6 hR kR rT=>⟨R,rfl,⟨_,Ai.of kR⟩,?_⟩⟩
   have few:=DU P.bs.length b4 i (by omega)
   have nLR:R≠L:=λe=>by rw [e,kxo] at hR;cases hR
   refine Fa (xs:=Ts.map V.ref) (λj σ H'=>(∃x6 x7 x8 x9,σ=[some (.ref p),some (.ref PA),some (.ref SA),some vc,some (.ref L),some (.int (0+(i:Int))),x6,x7,x8,x9])/\Ev L H6 H'/\∃xs ds,H' L=some (.lst xs)/\Ad p H' ds xs/\(∀d∈ds,PapD P.bs.length S.ex.length d)/\1<=ds.length/\ds.length<=1+i * 100+j) ⟨⟨_,_,_,_,rfl⟩,Ev.refl,xo,dso,s6 _ _ kxo,Ad.ev (f s6) _ _ rxo,alo,l1o,by omega⟩ (λj σ H' _ h=>Ai.of (h.2.1.lst kR nLR)) (λj x σ H7 hx h=>?_) fun σ H7 h=>?_
   ·obtain⟨⟨z6,z7,z8,z9,rfl⟩,ev,xs,ds,kx,rxs,al,l1,l2⟩:=h
    rw [List.getElem?_map] at hx
    cases hT:Ts[j]? with
    | none=>rw [hT] at hx;cases hx
    | some T=>
     rw [hT] at hx
     cases hx
     have lj:j<(Ba P.bs.length i).length:=by rw [<-rT.1];exact(List.getElem?_eq_some_iff.mp hT).1
     obtain⟨c,hc⟩:∃c,(Ba P.bs.length i)[j]? =some c:=⟨_,List.getElem?_eq_getElem lj⟩
     have kc:=ev.tup (rT.2 j T c hT hc)
     have st:=(mem_sets.mp (List.mem_of_getElem? hc)).1
     have sl:=st.len
     have onb:=TZ ok so (c:=c)
     have s07:=Ab.evOwn (s05.trans s6) hL0 ev
     have rc7:Aa p H7 (Dd P S) vc:=Aa.tev ((evo.trans ((Ev.same s6).trans ev)).tev) _ _ (HY _) rc4
     refine⟨p,caps P S,c,by rw [A7];exact x8,cap4,rc7,⟨T,rfl,.inr kc⟩,λA H8 s8 hA cl=>?_⟩
     obtain⟨As,kA,lA,gA⟩:=cl
     rw [List.length_map,A7] at lA
     refine⟨A,rfl,⟨_,Ai.of kA⟩,IL (xs:=As.map V.ref) (λk zs G=>Ab H8 G/\Ad p G ((((caps P S).map (Bm c)).take k).map Ay) zs) (by rw [List.length_map];omega) ⟨Ab.refl _,.nil⟩ (λk zs G h=>by have:=h.2.len;rw [List.length_map,List.length_take] at this;omega) (λk zs G _ h=>Ai.of (h.1 _ _ kA)) (λk y zs G hy h=>?_) λzs G h m hm=>?_⟩
     ·rw [List.getElem?_map] at hy
      cases hAk:As[k]? with
      | none=>rw [hAk] at hy;cases hy
      | some a=>
       rw [hAk] at hy
       cases hy
       obtain⟨r0,hr0⟩:∃r0,((caps P S).map (Bm c))[k]? =some r0:=⟨_,List.getElem?_eq_getElem (by rw [List.length_map,A7,<-lA];exact(List.getElem?_eq_some_iff.mp hAk).1)⟩
       refine⟨trivial,λ_=>⟨a,_,rfl,.inl ⟨Ai.of (h.1 _ _ (gA k a r0 hAk hr0)),λt ht=>⟨h.1.trans (Ab.new ht),?_⟩⟩⟩,λz=>by cases z⟩
       rw [A3 hr0,List.map_append]
       exact Ad.snoc (Ad.ev (f (Ab.new ht)) _ _ h.2) (Aa.row Ag)
     refine⟨m,_,rfl,.inl ⟨Ai.of Ag,λtf htf=>?_⟩⟩
     have n1:=Ab.new (o:= .lst zs) hm
     have n2:=Ab.new (o:= .tup zs) htf
     have sF:=h.1.trans (n1.trans n2)
     have rF:Aa p (upd (upd G m (.lst zs)) tf (.tup zs)) (FD ((caps P S).map (Bm c))) (.ref tf):=by
      refine Aa.tup Ag ?_
      have:=Ad.ev (f (n1.trans n2)) _ _ h.2
      rwa [List.take_of_length_le (by rw [List.length_map,List.length_map,A7];omega)] at this
     generalize upd (upd G m (.lst zs)) tf (.tup zs)=G8 at sF rF ⊢
     clear h hm htf n1 n2
     refine⟨λc0=>?_,λc0=>?_⟩
     ·have c0:=of_decide_eq_true c0
      refine⟨p,P,S,i-1,by omega,by omega,ok,so,Aa.ev (f (s07.trans (s8.trans sF))) _ _ r,Aa.ev (f (s07.trans (s8.trans sF))) _ _ ru,λvs9 H9 s9 rsh=>?_⟩
      have s89:=s8.trans (sF.trans s9)
      have sf9:=s9
      have kx9:=s89 _ _ kx
      have few1:=DU P.bs.length b4 (i-1) (by omega)
      have lsh:((Ba P.bs.length (i-1)).map λd=>DS (Co (only (terms P S) d))).length<=16:=by rw [List.length_map];omega
      have hsh:∀d∈((Ba P.bs.length (i-1)).map λd=>DS (Co (only (terms P S) d))),DD d:=λd hd=>by
       obtain⟨e,_,rfl⟩:=List.mem_map.mp hd
       exact TY (ES fl.ok)
      generalize((Ba P.bs.length (i-1)).map λd=>DS (Co (only (terms P S) d)))=sh at rsh lsh hsh
      have lxs:=rxs.len
      refine⟨.inl ⟨rfl,_,Ai.of kx9⟩,λtq Hq sq kq=>?_⟩
      have kxq:=sq _ _ kx9
      refine⟨L,xs,.ref tq,rfl,rfl,kxq,F9 (by omega),⟨_,_,_,_,rfl⟩,(ev.trans (Ev.same (s89.trans sq))).trans (Ev.pen kxq),xs++[.ref tq],ds++[.tuple [.str "lit",Ay c,FD ((caps P S).map (Bm c)),.tuple sh]],Ag,?_,λd hd=>?_,by rw [List.length_append];omega,by rw [List.length_append,List.length_singleton];omega⟩
      ·have tv:=TEv.upd (zs:=xs++[.ref tq]) kxq
       have pd:PapD P.bs.length S.ex.length (.tuple [.str "lit",Ay c,FD ((caps P S).map (Bm c)),.tuple sh]):= .lit (by omega) (λi hi=>by have:=st.bd i hi;omega) (by rw [List.length_map,A7]) onb lsh hsh
       refine Ad.snoc (Ad.tev ((Ev.same (p:=p) (s89.trans sq)).tev.trans tv) _ _ (Cp λd hd=>(al d hd).nm) rxs) (Aa.tev (p:=p) tv _ _ pd.nm (Aa.tup kq ?_))
       exact .cons Aa.str (.cons (Aa.row ((s89.trans sq) _ _ kc)) (.cons (Aa.ev (f (sf9.trans sq)) _ _ rF) (.cons (Aa.ev (f sq) _ _ rsh) .nil)))
      ·rcases List.mem_append.mp hd with hd | hd
       ·exact al d hd
       ·rw [List.mem_singleton] at hd
        subst hd
        exact .lit (by omega) (λi hi=>by have:=st.bd i hi;omega) (by rw [List.length_map,A7]) onb lsh hsh
     ·refine λte H9 s9 ke=>?_
      have rsh:Aa p H9 (.tuple []) (.ref te):=Aa.tup ke .nil
      have s89:=s8.trans (sF.trans s9)
      have sf9:=s9
      have kx9:=s89 _ _ kx
      obtain⟨sh,esh⟩:∃sh:List PyData,sh=[]:=⟨_,rfl⟩
      rw [<-esh] at rsh
      have lsh:sh.length<=16:=by rw [esh];decide
      have hsh:∀d∈sh,DD d:=λd hd=>by rw [esh] at hd;cases hd
      have lxs:=rxs.len
      refine⟨.inl ⟨rfl,_,Ai.of kx9⟩,λtq Hq sq kq=>?_⟩
      have kxq:=sq _ _ kx9
      refine⟨L,xs,.ref tq,rfl,rfl,kxq,F9 (by omega),⟨_,_,_,_,rfl⟩,(ev.trans (Ev.same (s89.trans sq))).trans (Ev.pen kxq),xs++[.ref tq],ds++[.tuple [.str "lit",Ay c,FD ((caps P S).map (Bm c)),.tuple sh]],Ag,?_,λd hd=>?_,by rw [List.length_append];omega,by rw [List.length_append,List.length_singleton];omega⟩
      ·have tv:=TEv.upd (zs:=xs++[.ref tq]) kxq
       have pd:PapD P.bs.length S.ex.length (.tuple [.str "lit",Ay c,FD ((caps P S).map (Bm c)),.tuple sh]):= .lit (by omega) (λi hi=>by have:=st.bd i hi;omega) (by rw [List.length_map,A7]) onb lsh hsh
       refine Ad.snoc (Ad.tev ((Ev.same (p:=p) (s89.trans sq)).tev.trans tv) _ _ (Cp λd hd=>(al d hd).nm) rxs) (Aa.tev (p:=p) tv _ _ pd.nm (Aa.tup kq ?_))
       exact .cons Aa.str (.cons (Aa.row ((s89.trans sq) _ _ kc)) (.cons (Aa.ev (f (sf9.trans sq)) _ _ rF) (.cons (Aa.ev (f sq) _ _ rsh) .nil)))
      ·rcases List.mem_append.mp hd with hd | hd
       ·exact al d hd
       ·rw [List.mem_singleton] at hd
        subst hd
        exact .lit (by omega) (λi hi=>by have:=st.bd i hi;omega) (by rw [List.length_map,A7]) onb lsh hsh
   ·obtain⟨⟨z6,z7,z8,z9,rfl⟩,ev,xs,ds,kx,rxs,al,l1,l2⟩:=h
    refine⟨⟨_,_,_,_,_,rfl⟩,?_,xs,ds,kx,rxs,al,l1,?_⟩
    ·exact evo.trans ((Ev.same s6).trans ev)
    ·rw [List.length_map,rT.1] at l2
     omega
  ·obtain⟨⟨x5,x6,x7,x8',x9,rfl⟩,ev,xs,ds,kx,rxs,al,l1,l2⟩:=h
   have s05:=Ab.evOwn s04 hL0 ev
   have r5:=Aa.ev (f s05) _ _ r
   have ru5:=Aa.ev (f s05) _ _ ru
   have rc5:Aa p H5 (Dd P S) vc:=Aa.tev ev.tev _ _ (HY _) rc4
   refine⟨PA,_,2,.ref PM,rfl,rfl,Ac.of (s05 _ _ pA),rfl,p,P,S,ok,so,r5,ru5,λvd H6 s6 rd=>?_⟩
   obtain⟨D,rfl,hD⟩:=Aa.ofRow (r:=draws P S) rd
   refine⟨p,terms P S,Fq so,(s05.trans s6) _ _ pM,.inl (Aa.ev (f s6) _ _ rc5),hD,λvs7 H7 s7 rst=>?_⟩
   refine λt5 G5 g5 kt5=>?_
   cases zz:Co (terms P S) with
   | none=>
    rw [zz] at rst
    have e7:vs7= .non:=by unfold DS Aa at rst;exact rst
    refine .inl ⟨by first | exact e7 | (rw [<-e7];rfl),λt6 G6 g6 kt6=>⟨t5,t6,_,_,rfl,rfl,g6 _ _ kt5,kt6,(show 1+2<=1000 by decide),λt7 G7 g7 kt7=>?_⟩⟩
    have s77:=g5.trans (g6.trans g7)
    obtain⟨a,ea⟩:∃a:Int,a=0:=⟨_,rfl⟩
    obtain⟨b,eb⟩:∃a:Int,a=0:=⟨_,rfl⟩
    have kt7:G7 t7=some (.tup [.str "short",.int a,.int b]):=by rw [ea,eb];exact kt7
    refine λe1 G8 g8 ke1=>λe2 G9 g9 ke2=>λt8 G10 g10 kt8=>λL2 G11 g11 hL2 kL2=>?_
    have s511:=s6.trans (s7.trans (s77.trans (g8.trans (g9.trans (g10.trans g11)))))
    have lxs:=rxs.len
    have l2':ds.length<=501:=by omega
    refine⟨L,L2,xs,_,rfl,rfl,s511 _ _ kx,kL2,Eb (by show xs.length+2<=1000;omega),λL3 G12 g12 hL3 kL3=>?_⟩
    have s512:=s511.trans g12
    have fb:=λr hr=>FOk.bd9 ok (FOk.caps ok (S:=S)) r hr
    refine q L3 G12 (xs++[.ref t7,.ref t8]) (ds++[.tuple [.str "short",.int a,.int b],.tuple [.str "lit",Ay [],FD (caps P S),.tuple []]]) (s05.trans s512) (s05.free (s511.free hL3)) kL3 ?_ (λd hd=>?_) (by rw [List.length_append];show 3<=ds.length+2;omega) (by rw [List.length_append];show ds.length+2<=800;omega)
    ·have g812:=g9.trans (g10.trans (g11.trans g12))
     refine(Ad.ev (f s512) _ _ rxs).append (.cons (Aa.tup ((g8.trans g812) _ _ kt7) (.cons Aa.str (.cons Aa.int (.cons Aa.int .nil)))) (.cons (Aa.tup ((g11.trans g12) _ _ kt8) ?_) .nil))
     exact .cons Aa.str (.cons (Aa.tup (g812 _ _ ke1) .nil) (.cons (Aa.ev (f s512) _ _ rc5) (.cons (Aa.tup ((g10.trans (g11.trans g12)) _ _ ke2) .nil) .nil)))
    ·rcases List.mem_append.mp hd with hd | hd
     ·exact al d hd
     ·simp only [List.mem_cons,List.not_mem_nil,or_false] at hd
      rcases hd with rfl | rfl
      ·exact .short (by omega) (by omega) (by omega) (by omega)
      ·exact .lit (c:=[]) (sh:=[]) (by decide) (λi hi=>by cases hi) (by rw [A7]) (λr hr=>⟨(fb r hr).2,(fb r hr).1⟩) (by decide) (λd hd=>by cases hd)
   | some w0=>
    rw [zz] at rst
    obtain⟨h1,h2,_⟩:=Ml zz
    have l8:=(Fq (P:=P) so).l8
    obtain⟨X,e7,hX⟩:=Aa.pair (q:=w0) rst
    refine .inr ⟨X,_,by first | exact e7 | (rw [<-e7]),g5 _ _ hX,by simp,?_⟩
    rw [e7]
    refine⟨t5,X,_,_,rfl,rfl,kt5,g5 _ _ hX,(show 1+2<=1000 by decide),λt7 G7 g7 kt7=>?_⟩
    have s77:=g5.trans g7
    obtain⟨a,ea⟩:∃a:Int,a=(w0.1:Int):=⟨_,rfl⟩
    obtain⟨b,eb⟩:∃a:Int,a=(w0.2:Int):=⟨_,rfl⟩
    have kt7:G7 t7=some (.tup [.str "short",.int a,.int b]):=by rw [ea,eb];exact kt7
    refine λe1 G8 g8 ke1=>λe2 G9 g9 ke2=>λt8 G10 g10 kt8=>λL2 G11 g11 hL2 kL2=>?_
    have s511:=s6.trans (s7.trans (s77.trans (g8.trans (g9.trans (g10.trans g11)))))
    have lxs:=rxs.len
    have l2':ds.length<=501:=by omega
    refine⟨L,L2,xs,_,rfl,rfl,s511 _ _ kx,kL2,Eb (by show xs.length+2<=1000;omega),λL3 G12 g12 hL3 kL3=>?_⟩
    have s512:=s511.trans g12
    have fb:=λr hr=>FOk.bd9 ok (FOk.caps ok (S:=S)) r hr
    refine q L3 G12 (xs++[.ref t7,.ref t8]) (ds++[.tuple [.str "short",.int a,.int b],.tuple [.str "lit",Ay [],FD (caps P S),.tuple []]]) (s05.trans s512) (s05.free (s511.free hL3)) kL3 ?_ (λd hd=>?_) (by rw [List.length_append];show 3<=ds.length+2;omega) (by rw [List.length_append];show ds.length+2<=800;omega)
    ·have g812:=g9.trans (g10.trans (g11.trans g12))
     refine(Ad.ev (f s512) _ _ rxs).append (.cons (Aa.tup ((g8.trans g812) _ _ kt7) (.cons Aa.str (.cons Aa.int (.cons Aa.int .nil)))) (.cons (Aa.tup ((g11.trans g12) _ _ kt8) ?_) .nil))
     exact .cons Aa.str (.cons (Aa.tup (g812 _ _ ke1) .nil) (.cons (Aa.ev (f s512) _ _ rc5) (.cons (Aa.tup ((g10.trans (g11.trans g12)) _ _ ke2) .nil) .nil)))
    ·rcases List.mem_append.mp hd with hd | hd
     ·exact al d hd
     ·simp only [List.mem_cons,List.not_mem_nil,or_false] at hd
      rcases hd with rfl | rfl
      ·exact .short (by omega) (by omega) (by omega) (by omega)
      ·exact .lit (c:=[]) (sh:=[]) (by decide) (λi hi=>by cases hi) (by rw [A7]) (λr hr=>⟨(fb r hr).2,(fb r hr).1⟩) (by decide) (λd hd=>by cases hd)
 ·exact h.elim
theorem sc__law_bent:AB ["_law_pen_here","_law_caps_here","_law_paper","_law_rows","_law_word","_law_chosen","_law_firing_here","_law_shows_here","_law_few"] ["_law_pen_here","_law_caps_here","_law_paper"] (Ax s__law_bent):=AD
theorem T3 (F:Df K mg "_law_bent" s__law_bent ["_law_pen_here","_law_caps_here","_law_paper"]) (T:Tx mg) (D__law_draw:E1 P w K mg base) (D__law_firing:Fn P w K mg base 2 "_law_firing" ["_law_pen_here","_law_caps_here"] HK):Fn P w K mg base 3 "_law_bent" ["_law_pen_here","_law_caps_here","_law_paper"] HX:=by
 refine F.fn sc__law_bent (λvs H Q E h=>?_) (λf cdv A outer s H vs Q E hr h=>?_)
 ·unfold HX at h;split at h;rfl;exact h.elim
 refine⟨_,(@Ak _ _ _ _ _ (@A2 _ _ _ _ _ _ _ _ (@A1 _ _ _ _ _ _ _ _ (@Do _) (@Az _ _ _ _ _ _ _ (@AF _ K (by rfl)) (@cx _ 2 _ _ (by rfl)) (@pe_int _ _ _ _) (λ_ _=>rfl)) (@pe_str _ _ _ _) (AX _)) (@Ak _ _ _ _ _ (@AI _ _ (3) _ _ _ _ sc__law_bent.nd rfl (AE (by rfl)) (@B0 _ _ _ _ (@CW _ _ _ _ _ (@Cj _ _ _ _ _ _ _ _ _ _ (@s_tup _) (@cx _ 2 _ _ (by rfl)) (@CH _) (@BP _ _ _ (@pe_int _ _ _ _))) (@CW _ _ _ _ _ (@Au _ _ _ _ _ _ _ _ (@C1 _) (@cx _ 2 _ _ (by rfl)) (@AK _ _ _ _ _ (@AU _ _ _ (@pe_int _ _ _ _) (by rfl)))) (@BZ _ _ _ _ _ _ _ _ _ (@Bd _ _ _ _ _ _ _ _ _ (@ER _ K (by rfl)) rfl T.b_list Em (@AU _ _ _ (@cx _ 2 _ _ (by rfl)) (by rfl)) (by decide) (by decide) (by rfl) (by rfl)) (@Au _ _ _ _ _ _ _ _ (@C1 _) (@AK _ _ _ _ _ (@AU _ _ _ (@pe_str _ _ _ _) (by rfl))) (@Cj _ _ _ _ _ _ _ _ _ _ (@s_tup _) (@cx _ 2 _ _ (by rfl)) (@BP _ _ _ (@pe_int _ _ _ _)) (@CH _))) (@AK _ _ _ _ _ (@Cg _ _ _ _ _ _ _ (@pe_str _ _ _ _) (@pe_bl _ _ _ _) (@Az _ _ _ _ _ _ _ (@AF _ K (by rfl)) (@cx _ 2 _ _ (by rfl)) (@pe_int _ _ _ _) (λ_ _=>rfl)) (by rfl))) (@AK _ _ _ _ _ (@AU _ _ _ (@pe_str _ _ _ _) (by rfl))) (by rfl)) (by rfl)) (by rfl))) (by rfl) (Cf (by rfl))) (@An _ _ _ (@Aq _ _ _ _ (@Az _ _ _ _ _ _ _ (@BS _ K (by rfl)) (@Au _ _ _ _ _ _ _ _ (@Dh _) (@cx _ 3 _ _ (by rfl)) (@B0 _ _ _ _ (@BC _ _ _ _ _ (@AK _ _ _ _ _ (@Cg _ _ _ _ _ _ _ (@pe_str _ _ _ _) (@Az _ _ _ _ _ _ _ (@AF _ K (by rfl)) (@cx _ 2 _ _ (by rfl)) (@pe_int _ _ _ _) (λ_ _=>rfl)) (@Az _ _ _ _ _ _ _ (@AF _ K (by rfl)) (@cx _ 2 _ _ (by rfl)) (@pe_int _ _ _ _) (λ_ _=>rfl)) (by rfl))) (@AK _ _ _ _ _ (@Cg _ _ _ _ _ _ _ (@pe_str _ _ _ _) (@pe_int _ _ _ _) (@Aw _ _ _ _ _ _ _ _ _ (@AR _ K (by rfl)) rfl T.b_len PySem.boot_len (@AU _ _ _ (@cx _ 1 _ _ (by rfl)) (by rfl)) (by decide) (by decide) (by rfl) (by rfl)) (by rfl))) (by rfl)))) (@Af _ _ _ _ _ _ _ _ _ _ D__law_draw (hr.mono (by decide)) rfl (@BC _ _ _ _ _ (@cx _ 0 _ _ (by rfl)) (@pe_int _ _ _ _) (by rfl)) (by decide) (by rfl) (by rfl)) (λ_ _=>rfl))))) (@AZ _)) (@Ak _ _ _ _ _ (@Bv _ _ _ _ _ _ (@cx _ 2 _ _ (by rfl)) (@AM _ K _ _ _ (4) _ (@Ap _ _ _ _ _ (@Cu _ _ _ 4 sc__law_bent.nd (by rfl)) (@Ap _ _ _ _ _ (@Cu _ _ _ 5 sc__law_bent.nd (by rfl)) (@Ap _ _ _ _ _ (@Cu _ _ _ 6 sc__law_bent.nd (by rfl)) (@Ap _ _ _ _ _ (@Cu _ _ _ 7 sc__law_bent.nd (by rfl)) (@AL _) (by rfl)) (by rfl)) (by rfl)) (by rfl)) (by rfl) (by rfl) (by rfl) (by rfl)) (by rfl) (by rfl) (by rfl)) (@Ak _ _ _ _ _ (@AI _ _ (3) _ _ _ _ sc__law_bent.nd rfl (AE (by rfl)) (@B0 _ _ _ _ (@BZ _ _ _ _ _ _ _ _ _ (@AK _ _ _ _ _ (@BZ _ _ _ _ _ _ _ _ _ (@cx _ 4 _ _ (by rfl)) (@O5 _ _ _ _ _ _ (@cx _ 5 _ _ (by rfl)) (Jv)) (@cx _ 6 _ _ (by rfl)) (@cx _ 7 _ _ (by rfl)) (by rfl))) (@AK _ _ _ _ _ (@BZ _ _ _ _ _ _ _ _ _ (@cx _ 4 _ _ (by rfl)) (@Au _ _ _ _ _ _ _ _ (@C1 _) (@cx _ 5 _ _ (by rfl)) (@Cj _ _ _ _ _ _ _ _ _ _ (@s_tup _) (@cx _ 5 _ _ (by rfl)) (@CH _) (@BP _ _ _ (@pe_int _ _ _ _)))) (@cx _ 6 _ _ (by rfl)) (@cx _ 7 _ _ (by rfl)) (by rfl))) (@Cj _ _ _ _ _ _ _ _ _ _ (@s_tup _) (@cx _ 2 _ _ (by rfl)) (@CH _) (@BP _ _ _ (@pe_int _ _ _ _))) (@Bd _ _ _ _ _ _ _ _ _ (@ER _ K (by rfl)) rfl T.b_list Em (@AU _ _ _ (@cx _ 2 _ _ (by rfl)) (by rfl)) (by decide) (by decide) (by rfl) (by rfl)) (by rfl))) (by rfl) (Cf (by rfl))) (@Ak _ _ _ _ _ (@AI _ _ (3) _ _ _ _ sc__law_bent.nd rfl (AE (by rfl)) (@Au _ _ _ _ _ _ _ _ (@Dh _) (@cx _ 3 _ _ (by rfl)) (@B0 _ _ _ _ (@Cg _ _ _ _ _ _ _ (@AK _ _ _ _ _ (@BZ _ _ _ _ _ _ _ _ _ (@cx _ 4 _ _ (by rfl)) (@Bd _ _ _ _ _ _ _ _ _ (@ER _ K (by rfl)) rfl T.b_list Em (@AU _ _ _ (@cx _ 5 _ _ (by rfl)) (by rfl)) (by decide) (by decide) (by rfl) (by rfl)) (@cx _ 6 _ _ (by rfl)) (@cx _ 7 _ _ (by rfl)) (by rfl))) (@AK _ _ _ _ _ (@BZ _ _ _ _ _ _ _ _ _ (@cx _ 4 _ _ (by rfl)) (@cx _ 5 _ _ (by rfl)) (@cx _ 1 _ _ (by rfl)) (@cx _ 7 _ _ (by rfl)) (by rfl))) (@AK _ _ _ _ _ (@BZ _ _ _ _ _ _ _ _ _ (@cx _ 4 _ _ (by rfl)) (@cx _ 5 _ _ (by rfl)) (@cx _ 6 _ _ (by rfl)) (@Cj _ _ _ _ _ _ _ _ _ _ (@s_tup _) (@cx _ 7 _ _ (by rfl)) (@BP _ _ _ (@pe_int _ _ _ _)) (@CH _)) (by rfl))) (by rfl)))) (by rfl) (Cf (by rfl))) (@Ak _ _ _ _ _ (@AI _ _ (3) _ _ _ _ sc__law_bent.nd rfl (AE (by rfl)) (@Au _ _ _ _ _ _ _ _ (@Dh _) (@cx _ 3 _ _ (by rfl)) (@B0 _ _ _ _ (@Cg _ _ _ _ _ _ _ (@AK _ _ _ _ _ (@BZ _ _ _ _ _ _ _ _ _ (@cx _ 4 _ _ (by rfl)) (@cx _ 5 _ _ (by rfl)) (@cx _ 6 _ _ (by rfl)) (@Au _ _ _ _ _ _ _ _ (@C1 _) (@cx _ 7 _ _ (by rfl)) (@AK _ _ _ _ _ (@AU _ _ _ (@AK _ _ _ _ _ (@BC _ _ _ _ _ (@pe_int _ _ _ _) (@pe_int _ _ _ _) (by rfl))) (by rfl)))) (by rfl))) (@AK _ _ _ _ _ (@BZ _ _ _ _ _ _ _ _ _ (@cx _ 4 _ _ (by rfl)) (@cx _ 5 _ _ (by rfl)) (@Bd _ _ _ _ _ _ _ _ _ (@ER _ K (by rfl)) rfl T.b_list Em (@AU _ _ _ (@cx _ 6 _ _ (by rfl)) (by rfl)) (by decide) (by decide) (by rfl) (by rfl)) (@cx _ 7 _ _ (by rfl)) (by rfl))) (@AK _ _ _ _ _ (@AU _ _ _ (@cx _ 4 _ _ (by rfl)) (by rfl))) (by rfl)))) (by rfl) (Cf (by rfl))) (@Ak _ _ _ _ _ (@BW _ _ _ _ (@CD _ _ _ _ _ _ _ _ _ _ _ _ PySem.F.plainAttrs_list PySem.F.slot_list_append PySem.F.type_list_append CI (@cx _ 3 _ _ (by rfl)) (@AU _ _ _ (@Au _ _ _ _ _ _ _ _ (@C1 _) (@cx _ 2 _ _ (by rfl)) (@AK _ _ _ _ _ (@AU _ _ _ (@pe_int _ _ _ _) (by rfl)))) (by rfl)) (by rfl) (by rfl) (by rfl) (by rfl) (by rfl)) (by rfl)) (@Ak _ _ _ _ _ (@BW _ _ _ _ (@CD _ _ _ _ _ _ _ _ _ _ _ _ PySem.F.plainAttrs_list PySem.F.slot_list_append PySem.F.type_list_append CI (@cx _ 3 _ _ (by rfl)) (@AU _ _ _ (@AK _ _ _ _ _ (@BZ _ _ _ _ _ _ _ _ _ (@cx _ 4 _ _ (by rfl)) (@cx _ 5 _ _ (by rfl)) (@Af _ _ _ _ _ _ _ _ _ _ D__law_firing (hr.mono (by decide)) rfl (@BC _ _ _ _ _ (@cx _ 0 _ _ (by rfl)) (@cx _ 1 _ _ (by rfl)) (by rfl)) (by decide) (by rfl) (by rfl)) (@cx _ 7 _ _ (by rfl)) (by rfl))) (by rfl)) (by rfl) (by rfl) (by rfl) (by rfl) (by rfl)) (by rfl)) (@Ak _ _ _ _ _ (@AI _ _ (8) _ _ _ _ sc__law_bent.nd rfl (AE (by rfl)) (@Bd _ _ _ _ _ _ _ _ _ (@BJ _ K (by rfl)) rfl T.b_tuple Bi (@AU _ _ _ (@A6 _ _ _ _ _ _ _ _ _ _ _ ["_law_one","_law_caps_here"] [none,some 1] rfl (@BK _ K _ _ _ (@cx _ 7 _ _ (by rfl)) (by rfl)) (AO.of rfl) (λ_ _ _ _=>(@Cu _ _ _ 0 (AJ (by rfl)) (by rfl))) (λ_ _ _ _=>(@A5 _)) (λ_ _ _ _=>(@AK _ _ _ _ _ (@BC _ _ _ _ _ (@pe_int _ _ _ _) (@Au _ _ _ _ _ _ _ _ (@BE _) (@Aw _ _ _ _ _ _ _ _ _ (@AR _ K (by rfl)) rfl T.b_len PySem.boot_len (@AU _ _ _ (@cx _ 1 _ _ (by rfl)) (by rfl)) (by decide) (by decide) (by rfl) (by rfl)) (@pe_int _ _ _ _)) (by rfl)))) (by intro _;rfl)) (by rfl)) (by decide) (by decide) (by rfl) (by rfl)) (by rfl) (Cf (by rfl))) (@Ak _ _ _ _ _ (@AI _ _ (3) _ _ _ _ sc__law_bent.nd rfl (AE (by rfl)) (@Au _ _ _ _ _ _ _ _ (@Dh _) (@cx _ 3 _ _ (by rfl)) (@B0 _ _ _ _ (@Cg _ _ _ _ _ _ _ (@AK _ _ _ _ _ (@BZ _ _ _ _ _ _ _ _ _ (@cx _ 4 _ _ (by rfl)) (@cx _ 5 _ _ (by rfl)) (@cx _ 6 _ _ (by rfl)) (@cx _ 8 _ _ (by rfl)) (by rfl))) (@AK _ _ _ _ _ (@BZ _ _ _ _ _ _ _ _ _ (@cx _ 4 _ _ (by rfl)) (@cx _ 5 _ _ (by rfl)) (@cx _ 6 _ _ (by rfl)) (@Bd _ _ _ _ _ _ _ _ _ (@ER _ K (by rfl)) rfl T.b_list Em (@AU _ _ _ (@cx _ 7 _ _ (by rfl)) (by rfl)) (by decide) (by decide) (by rfl) (by rfl)) (by rfl))) (@Au _ _ _ _ _ _ _ _ (@C1 _) (@AK _ _ _ _ _ (@AU _ _ _ (@pe_str _ _ _ _) (by rfl))) (@Cj _ _ _ _ _ _ _ _ _ _ (@s_tup _) (@cx _ 2 _ _ (by rfl)) (@BP _ _ _ (@pe_int _ _ _ _)) (@CH _))) (by rfl)))) (by rfl) (Cf (by rfl))) (@An _ _ _ (@Aq _ _ _ _ (@Az _ _ _ _ _ _ _ (@BS _ K (by rfl)) (@Au _ _ _ _ _ _ _ _ (@Dh _) (@cx _ 3 _ _ (by rfl)) (@B0 _ _ _ _ (@AU _ _ _ (@AK _ _ _ _ _ (@BZ _ _ _ _ _ _ _ _ _ (@cx _ 4 _ _ (by rfl)) (@AK _ _ _ _ _ (@AU _ _ _ (@Aw _ _ _ _ _ _ _ _ _ (@AR _ K (by rfl)) rfl T.b_len PySem.boot_len (@AU _ _ _ (@Az _ _ _ _ _ _ _ (@AF _ K (by rfl)) (@cx _ 1 _ _ (by rfl)) (@pe_int _ _ _ _) (λ_ _=>rfl)) (by rfl)) (by decide) (by decide) (by rfl) (by rfl)) (by rfl))) (@cx _ 6 _ _ (by rfl)) (@cx _ 7 _ _ (by rfl)) (by rfl))) (by rfl)))) (@Af _ _ _ _ _ _ _ _ _ _ D__law_draw (hr.mono (by decide)) rfl (@BC _ _ _ _ _ (@cx _ 0 _ _ (by rfl)) (@pe_int _ _ _ _) (by rfl)) (by decide) (by rfl) (by rfl)) (λ_ _=>rfl))))))))))))),?_⟩
 unfold HX at h
 split at h
 ·rename_i p cv x
  obtain⟨pn,P,S,d,ok,so,rc,rd,pd,q⟩:=h
  have b4:=ok.b4
  have x8:=so.x8
  have x1:=so.x1
  have f:=λ{H H':Hp} (s:Ab H H')=>Ev.same (p:=p) s
  cases pd with
  | @short a b a0 a1 b0 b1=>
   obtain⟨X,ys,rfl,hX,rs⟩:=Aa.shape rd
   obtain⟨y1,y2,y3,rfl,r1,r2,r3⟩:=Ad.three rs
   unfold Aa at r1 r2 r3
   subst r1 r2 r3
   have pa:Pt (.int a):=E7 (by omega)
   have pb:Pt (.int b):=E7 (by omega)
   have p0:Pt (.int 0):=E7 (by decide)
   have pt2:∀ {x:PyData},Pt x->∀e∈ [x],Pt e:=λ{x} h e he=>by rw [List.mem_singleton] at he;subst he;exact h
   refine⟨X,_,0,.str "short",rfl,rfl,Ac.of hX,rfl,rfl,⟨λ_=>?_,λz=>absurd z (by decide+kernel)⟩⟩
   refine⟨2,rfl,X,_,rfl,hX,λB1 G1 g1 k1=>λz1 G2 g2 kz1=>?_⟩
   have k1:G1 B1=some (.tup [.str "short",.int a]):=k1
   have s2:=g1.trans g2
   refine⟨X,z1,_,_,rfl,rfl,s2 _ _ hX,kz1,(show 3+1<=1000 by decide),λB2 G3 g3 k2=>?_⟩
   have s3:=s2.trans g3
   refine⟨X,_,rfl,.inr (Ac.of (s3 _ _ hX)),λB3 G4 g4 hB3 k3=>λz2 G5 g5 kz2=>?_⟩
   have s5:=s3.trans (g4.trans g5)
   refine⟨1,rfl,X,_,rfl,s5 _ _ hX,λz3 G6 g6 kz3=>⟨z2,z3,_,_,rfl,rfl,g6 _ _ kz2,kz3,(show 1+2<=1000 by decide),λB4 G7 g7 k4=>?_⟩⟩
   have s7:=s5.trans (g6.trans g7)
   refine⟨X,_,2,.int b,rfl,rfl,Ac.of (s7 _ _ hX),rfl,λB5 G8 g8 k5=>λB6 G9 g9 k6=>λL1 G10 g10 hL1 kL1=>?_⟩
   have s10:=s7.trans (g8.trans (g9.trans g10))
   refine⟨X,_,2,.int b,rfl,rfl,Ac.of (s10 _ _ hX),rfl,X,_,1,.int a,rfl,rfl,Ac.of (s10 _ _ hX),rfl,λB7 G11 g11 k7=>?_⟩
   obtain⟨CA,cx,rfl,hCA,rCx⟩:=Aa.firing (F:=caps P S) rc
   have lcx:=rCx.len
   rw [List.length_map,A7] at lcx
   refine⟨CA,_,rfl,.inr (Ac.of ((s10.trans g11) _ _ hCA)),λB8 G12 g12 k8=>λL2 G13 g13 hL2 kL2=>?_⟩
   refine⟨L1,L2,_,_,rfl,rfl,(g11.trans (g12.trans g13)) _ _ kL1,kL2,Eb (show 6+2<=1000 by decide),λL3 G14 g14 hL3 kL3=>?_⟩
   have t12:=g13.trans g14
   have t11:=g12.trans t12
   have t10:=g11.trans t11
   have t9:=g10.trans t10
   have t8:=g9.trans t9
   have t7:=g8.trans t8
   have t4:=g5.trans (g6.trans (g7.trans t7))
   have t3:=g4.trans t4
   have t1:=g2.trans (g3.trans t3)
   have s14:=g1.trans t1
   have n3:B3≠p:=(pn.same s3).ne hB3
   have nL3:L3≠p:=(pn.same (s10.trans (g11.trans (g12.trans g13)))).ne hL3
   have al:Alls p G14 [.ref B1,.ref B2,.ref B3,.ref B4,.ref B5,.ref B6,.ref B7,.ref B8]:=by
    refine .cons ⟨_,Aa.tup (t1 _ _ k1) (.cons Aa.str (.cons Aa.int .nil)),CB (es:=[.int a]) w_short (pt2 pa) (show 1<=10 by decide)⟩ ?_
    refine .cons ⟨_,Aa.tup (t3 _ _ k2) (.cons Aa.str (.cons Aa.int (.cons Aa.int (.cons Aa.int .nil)))),CB (es:=[.int a,.int b,.int 0]) w_short (Ey rfl pa pb p0) (show 3<=10 by decide)⟩ ?_
    refine .cons ⟨_,Aa.lst n3 (t4 _ _ k3) (.cons Aa.str (.cons Aa.int (.cons Aa.int .nil))),MK (es:=[.str "short",.int a,.int b]) (Ey rfl (JE w_short.1) pa pb) (show 3<=10 by decide)⟩ ?_
    refine .cons ⟨_,Aa.tup (t7 _ _ k4) (.cons Aa.str (.cons Aa.int (.cons Aa.int .nil))),CB (es:=[.int a,.int b]) TW (λe he=>Ey rfl pa pb p0 e (by simp only [List.mem_cons,List.not_mem_nil,or_false] at he ⊢;rcases he with rfl | rfl<;>simp)) (show 2<=10 by decide)⟩ ?_
    refine .cons ⟨_,Aa.tup (t8 _ _ k5) (.cons Aa.str (.cons Aa.bl (.cons Aa.int .nil))),CB (es:=[.bool true,.int b]) w_short (λe he=>?_) (show 2<=10 by decide)⟩ ?_
    ·simp only [List.mem_cons,List.not_mem_nil,or_false] at he
     rcases he with rfl | rfl
     ·exact⟨⟨by decide+kernel,by decide,rfl⟩,rfl,rfl⟩
     ·exact pb
    refine .cons ⟨_,Aa.tup (t9 _ _ k6) (.cons Aa.str .nil),CB (es:=[]) w_short (λe he=>nomatch he) (show 0<=10 by decide)⟩ ?_
    refine .cons ⟨_,Aa.tup (t11 _ _ k7) (.cons Aa.str (.cons Aa.int (.cons Aa.int .nil))),CB (es:=[.int b,.int a]) w_short (λe he=>Ey rfl pa pb p0 e (by simp only [List.mem_cons,List.not_mem_nil,or_false] at he ⊢;rcases he with rfl | rfl<;>simp)) (show 2<=10 by decide)⟩ ?_
    refine .cons ⟨_,Aa.tup (t12 _ _ k8) (.cons Aa.str (.cons Aa.int (.cons Aa.int .nil))),CB (es:=[.int 0,.int ((cx.length:Nat):Int)]) w_short (λe he=>?_) (show 2<=10 by decide)⟩ .nil
    simp only [List.mem_cons,List.not_mem_nil,or_false] at he
    rcases he with rfl | rfl
    ·exact p0
    ·exact E7 (by omega)
   refine⟨pn.same s14,by decide,by decide,λg G15 h0 h8 e15 pn15=>?_⟩
   obtain⟨y,hat,e,re,ge⟩:=MM (al.ev e15) h0 (show g<8 from h8)
   exact⟨L3,_,g,y,rfl,rfl,Ai.of (e15.lst kL3 nL3),hat,q y G15 e re ge ((f s14).trans e15) pn15⟩
  | @lit c F sh c4 cb lF hF ls hs=>
   obtain⟨X,ys,rfl,hX,rs⟩:=Aa.shape rd
   obtain⟨y1,y2,y3,y4,rfl,r1,r2,r3,r4⟩:=Ad.four rs
   unfold Aa at r1
   subst r1
   obtain⟨C,rfl,hC⟩:=Aa.ofRow r2
   obtain⟨FA,fx,rfl,hFA,rFx⟩:=Aa.firing r3
   obtain⟨Y,ws,rfl,hY,rsY⟩:=Aa.shape r4
   have lws:=rsY.len
   have lfx:=rFx.len
   rw [List.length_map] at lfx
   have pw:Pt (.str "lit"):=JE w_lit.1
   have pc:Pt (Ay c):=FR (λi hi=>by have:=cb i hi;omega) (by omega)
   have hF2:∀r∈F,(∀i∈r,i.natAbs<10 ^ 6)/\r.length<=20:=λr hr=>⟨λi hi=>by have:=(hF r hr).2 i hi;omega,by have:=(hF r hr).1;omega⟩
   have pF:Pt (FD F):=HU hF2 (by omega)
   have psh:Pt (.tuple sh):=FS hs (by omega)
   have fbc:=λr hr=>FOk.bd9 ok (FOk.caps ok (S:=S)) r hr
   have pK:Pt (Dd P S):=HU (F:=caps P S) (λr hr=>⟨λi hi=>by have:=(fbc r hr).1 i hi;omega,by have:=(fbc r hr).2;omega⟩) (by rw [A7];omega)
   have p0:Pt (.int 0):=E7 (by decide)
   refine⟨X,_,0,.str "lit",rfl,rfl,Ac.of hX,rfl,rfl,⟨λz=>absurd z (by decide+kernel),λ_=>?_⟩⟩
   refine⟨X,_,rfl,Ac.of hX,rfl,_,_,rfl,_,_,rfl,_,_,rfl,_,_,rfl,rfl,?_⟩
   refine⟨C,_,rfl,hC,λb1 G1 g1 kb1=>λt1 G2 g2 kt1=>⟨1,rfl,C,_,rfl,(g1.trans g2) _ _ hC,λb2 G3 g3 kb2=>?_⟩⟩
   have s3:=g1.trans (g2.trans g3)
   have kb2:G3 b2=some (.tup ((c.take 1).map V.int)):=by rw [kb2,show Bq (c.map V.int) none (some 1)=(c.map V.int).take 1 from ?_,List.map_take];cases c with | nil=>rfl | cons a t=>exact T0 (i:=1) (by simp)
   refine⟨C,b2,_,_,rfl,rfl,s3 _ _ hC,kb2,by rw [List.length_map,List.length_map,List.length_take];omega,λb3 G4 g4 kb3=>λt2 G5 g5 kt2=>?_⟩
   rw [<-List.map_append] at kb3
   have s5:=s3.trans (g4.trans g5)
   refine⟨3,rfl,X,_,rfl,s5 _ _ hX,λt3 G6 g6 kt3=>⟨X,_,rfl,.inr (Ac.of ((s5.trans g6) _ _ hX)),λt4 G7 g7 ht4 kt4=>λL1 G8 g8 hL1 kL1=>?_⟩⟩
   have kt3:G6 t3=some (.tup [.str "lit",.ref C,.ref FA]):=kt3
   have s6:=s5.trans g6
   have s7:=s6.trans g7
   have s8:=s7.trans g8
   have n4:t4≠p:=(pn.same s6).ne ht4
   have al1:Alls p G8 [.ref t1,.ref t2,.ref t3,.ref t4]:=by
    have u7:=g8
    have u6:=g7.trans u7
    have u5:=g6.trans u6
    have u4:=g5.trans u5
    have u2:=g3.trans (g4.trans u4)
    have u1:=g2.trans u2
    refine .cons (al4 (a:=Ay c.reverse) (u2 _ _ kt1) (Aa.row (by rw [u1 _ _ kb1,List.map_reverse])) (Aa.ev (f s8) _ _ r3) (Aa.ev (f s8) _ _ r4) (FR (λi hi=>by have:=cb i (List.mem_reverse.mp hi);omega) (by rw [List.length_reverse];omega)) pF psh) ?_
    refine .cons (al4 (a:=Ay (c++c.take 1)) (u5 _ _ kt2) (Aa.row (u4 _ _ kb3)) (Aa.ev (f s8) _ _ r3) (Aa.ev (f s8) _ _ r4) (FR (λi hi=>?_) (by rw [List.length_append,List.length_take];omega)) pF psh) ?_
    ·rcases List.mem_append.mp hi with hi | hi
     ·have:=cb i hi;omega
     ·have:=cb i (List.mem_of_mem_take hi);omega
    refine .cons ⟨_,Aa.tup (u6 _ _ kt3) (.cons Aa.str (.cons (Aa.ev (f s8) _ _ r2) (.cons (Aa.ev (f s8) _ _ r3) .nil))),CB (es:=[Ay c,FD F]) w_lit (λe he=>Ey rfl pc pF psh e (by simp only [List.mem_cons,List.not_mem_nil,or_false] at he ⊢;rcases he with rfl | rfl<;>simp)) (show 2<=10 by decide)⟩ ?_
    refine .cons ⟨_,Aa.lst n4 (u7 _ _ kt4) (.cons Aa.str (.cons (Aa.ev (f s8) _ _ r2) (.cons (Aa.ev (f s8) _ _ r3) (.cons (Aa.ev (f s8) _ _ r4) .nil)))),MK (es:=[.str "lit",Ay c,FD F,.tuple sh]) (λe he=>?_) (show 4<=10 by decide)⟩ .nil
    rcases List.mem_cons.mp he with rfl | he
    ·exact pw
    ·exact Ey rfl pc pF psh e he
   refine⟨C,_,rfl,.inr (Ac.of (s8 _ _ hC)),λb5 G9 g9 hb5 kb5=>λt5 G10 g10 kt5=>λt6 G11 g11 kt6=>?_⟩
   have s11:=s8.trans (g9.trans (g10.trans g11))
   refine⟨1,rfl,Y,_,rfl,s11 _ _ hY,λb7 G12 g12 kb7=>λt7 G13 g13 kt7=>λLa G14 g14 hLa kLa=>?_⟩
   rw [Fv] at kb7
   have s14:=s11.trans (g12.trans (g13.trans g14))
   have s814:=g9.trans (g10.trans (g11.trans (g12.trans (g13.trans g14))))
   have n5:b5≠p:=(pn.same s8).ne hb5
   have al2:Alls p G14 [.ref t5,.ref t6,.ref t7]:=by
    have u13:=g14
    have u12:=g13.trans u13
    have u11:=g12.trans u12
    have u10:=g11.trans u11
    have u9:=g10.trans u10
    refine .cons (al4 (u10 _ _ kt5) (Aa.lst n5 (u9 _ _ kb5) (MN c)) (Aa.ev (f s14) _ _ r3) (Aa.ev (f s14) _ _ r4) (TQ (λi hi=>by have:=cb i hi;omega) (by omega)) pF psh) ?_
    refine .cons (al4 (u11 _ _ kt6) (Aa.ev (f s14) _ _ r2) (Aa.ev (f s14) _ _ rc) (Aa.ev (f s14) _ _ r4) pc pK psh) ?_
    exact .cons (al4 (d:= .tuple (sh.drop 1)) (u13 _ _ kt7) (Aa.ev (f s14) _ _ r2) (Aa.ev (f s14) _ _ r3) (Aa.tup (u12 _ _ kb7) (MO 1 (Ad.ev (f s14) _ _ rsY))) pc pF (FS (λd hd=>hs d (List.mem_of_mem_drop hd)) (by rw [List.length_drop];omega))) .nil
   refine⟨L1,La,_,_,rfl,rfl,s814 _ _ kL1,kLa,Eb (show 4+3<=1000 by decide),λL2 G15 g15 hL2 kL2=>?_⟩
   have s15:=s14.trans g15
   have al12:Alls p G15 ([.ref t1,.ref t2,.ref t3,.ref t4]++[.ref t5,.ref t6,.ref t7]):=(al1.ev (f (s814.trans g15))).app (al2.ev (f g15))
   refine λz1 G16 g16 kz1=>λz2 G17 g17 kz2=>?_
   have s17:=s15.trans (g16.trans g17)
   refine⟨Y,z2,_,_,rfl,rfl,s17 _ _ hY,kz2,by show ws.length+1<=1000;omega,λb8 G18 g18 kb8=>λt8 G19 g19 kt8=>?_⟩
   have s19:=s17.trans (g18.trans g19)
   refine⟨FA,_,rfl,.inr (Ac.of (s19 _ _ hFA)),λb9 G20 g20 hb9 kb9=>λt9 G21 g21 kt9=>λt10 G22 g22 kt10=>λLb G23 g23 hLb kLb=>?_⟩
   have s23:=s19.trans (g20.trans (g21.trans (g22.trans g23)))
   have n9:b9≠p:=(pn.same s19).ne hb9
   have al3:Alls p G23 [.ref t8,.ref t9,.ref t10]:=by
    have u22:=g23
    have u21:=g22.trans u22
    have u20:=g21.trans u21
    have u19:=g20.trans u20
    have u18:=g19.trans u19
    have u17:=g18.trans u18
    have u16:=g17.trans u17
    refine .cons (al4 (d:= .tuple (sh++[pD (0,0)])) (u19 _ _ kt8) (Aa.ev (f s23) _ _ r2) (Aa.ev (f s23) _ _ r3) (Aa.tup (u18 _ _ kb8) ((Ad.ev (f s23) _ _ rsY).append (.cons (Aa.tup (u16 _ _ kz1) (.cons Aa.int (.cons Aa.int .nil))) .nil))) pc pF (FS (λd hd=>?_) (by rw [List.length_append,List.length_singleton];omega))) ?_
    ·rcases List.mem_append.mp hd with hd | hd
     ·exact hs d hd
     ·rw [List.mem_singleton] at hd
      exact .inr ⟨0,0,by decide,by decide,hd⟩
    refine .cons (al4 (u21 _ _ kt9) (Aa.ev (f s23) _ _ r2) (Aa.lst n9 (u20 _ _ kb9) (Ad.ev (f s23) _ _ rFx)) (Aa.ev (f s23) _ _ r4) pc (TR hF2 (by omega)) psh) ?_
    exact .cons ⟨_,Aa.tup (u22 _ _ kt10) (.cons Aa.str .nil),CB (es:=[]) w_lit (λe he=>nomatch he) (show 0<=10 by decide)⟩ .nil
   refine⟨L2,Lb,_,_,rfl,rfl,(g16.trans (g17.trans (g18.trans (g19.trans (g20.trans (g21.trans (g22.trans g23))))))) _ _ kL2,kLb,Eb (show 7+3<=1000 by decide),λL3 G24 g24 hL3 kL3=>?_⟩
   have al10:Alls p G23 (([.ref t1,.ref t2,.ref t3,.ref t4]++[.ref t5,.ref t6,.ref t7])++[.ref t8,.ref t9,.ref t10]):=(al12.ev (f (g16.trans (g17.trans (g18.trans (g19.trans (g20.trans (g21.trans (g22.trans g23))))))))).app al3
   generalize hx10:(([V.ref t1,.ref t2,.ref t3,.ref t4]++[.ref t5,.ref t6,.ref t7])++[.ref t8,.ref t9,.ref t10])=x10 at al10 kL3
   have lx10:x10.length=10:=by rw [<-hx10];rfl
   have nL3:L3≠p:=(pn.same s23).ne hL3
   have s24:=s23.trans g24
   refine⟨.inl ⟨rfl,_,Ai.of kL3⟩,λz3 G25 g25 kz3=>⟨X,z3,_,_,rfl,rfl,(s24.trans g25) _ _ hX,kz3,(show 4+1<=1000 by decide),λt11 G26 g26 kt11=>?_⟩⟩
   have s26:=s24.trans (g25.trans g26)
   have kL26:=(g25.trans g26) _ _ kL3
   refine⟨L3,x10,.ref t11,rfl,rfl,kL26,F9 (by omega),?_⟩
   have tv1:=TEv.upd (zs:=x10++[.ref t11]) kL26
   have d11nm:BG (.tuple [.str "lit",Ay c,FD F,.tuple sh,.int 0])=true:=Cp (ds:=[.str "lit",Ay c,FD F,.tuple sh,.int 0]) λd hd=>by
    simp only [List.mem_cons,List.not_mem_nil,or_false] at hd
    rcases hd with rfl | rfl | rfl | rfl | rfl
    ·rfl
    ·exact DY _
    ·exact HY _
    ·exact Cp λd hd=>JG (hs d hd)
    ·rfl
   have g11':GT (.tuple [.str "lit",Ay c,FD F,.tuple sh,.int 0]):=CB (es:=[Ay c,FD F,.tuple sh,.int 0]) w_lit (λe he=>by
    simp only [List.mem_cons,List.not_mem_nil,or_false] at he
    rcases he with rfl | rfl | rfl | rfl
    ·exact pc
    ·exact pF
    ·exact psh
    ·exact p0) (show 4<=10 by decide)
   have r11:Aa p (upd G26 L3 (.lst (x10++[.ref t11]))) (.tuple [.str "lit",Ay c,FD F,.tuple sh,.int 0]) (.ref t11):=Aa.tev (p:=p) tv1 _ _ d11nm (Aa.tup kt11 (.cons Aa.str (.cons (Aa.ev (f s26) _ _ r2) (.cons (Aa.ev (f s26) _ _ r3) (.cons (Aa.ev (f s26) _ _ r4) (.cons Aa.int .nil))))))
   have e23:Ev p G23 (upd G26 L3 (.lst (x10++[.ref t11]))):=(f (g24.trans (g25.trans g26))).own hL3
   have hL0:=s23.free hL3
   have eH:Ev p H (upd G26 L3 (.lst (x10++[.ref t11]))):=(f s26).own hL0
   have pnD:AV p (upd G26 L3 (.lst (x10++[.ref t11]))):=by
    obtain⟨l,f',e⟩:=pn.same s26
    exact⟨l,f',by rw [AA (Ne.symm nL3)];exact e⟩
   have kD:upd G26 L3 (.lst (x10++[.ref t11])) L3=some (.lst (x10++[.ref t11])):=Ag
   generalize upd G26 L3 (.lst (x10++[.ref t11]))=D1 at r11 e23 eH pnD kD ⊢
   refine⟨.inl ⟨rfl,_,Ai.of kD⟩,pnD,P,S,ok,so,Aa.ev eH _ _ rc,λw2 D2 F' fo' rF' eD2 pn2=>λt12 D3 d3 kt12=>?_⟩
   have eH3:=eH.trans (eD2.trans (f d3))
   have kD3:=d3 _ _ (eD2.lst kD nL3)
   refine⟨L3,_,.ref t12,rfl,rfl,kD3,F9 (by rw [List.length_append,List.length_singleton];omega),?_⟩
   have fb':=λr hr=>FOk.bd9 ok fo' r hr
   have lfo':=fo'.len
   have pF':Pt (FD F'):=HU (λr hr=>⟨λi hi=>by have:=(fb' r hr).1 i hi;omega,by have:=(fb' r hr).2;omega⟩) (by omega)
   have tv2:=TEv.upd (zs:=x10++[.ref t11]++[.ref t12]) kD3
   have d12nm:BG (.tuple [.str "lit",Ay c,FD F',.tuple sh])=true:=Cp (ds:=[.str "lit",Ay c,FD F',.tuple sh]) λd hd=>by
    simp only [List.mem_cons,List.not_mem_nil,or_false] at hd
    rcases hd with rfl | rfl | rfl | rfl
    ·rfl
    ·exact DY _
    ·exact HY _
    ·exact Cp λd hd=>JG (hs d hd)
   have al12':Alls p (upd D3 L3 (.lst (x10++[.ref t11]++[.ref t12]))) (x10++[.ref t11]++[.ref t12]):=by
    refine((al10.ev ((e23.trans (eD2.trans (f d3))).own hL3)).app (.cons ⟨_,Aa.tev (p:=p) tv2 _ _ d11nm (Aa.ev (eD2.trans (f d3)) _ _ r11),g11'⟩ .nil)).app (.cons ⟨_,Aa.tev (p:=p) tv2 _ _ d12nm (Aa.tup kt12 (.cons Aa.str (.cons (Aa.ev eH3 _ _ r2) (.cons (Aa.ev (f d3) _ _ rF') (.cons (Aa.ev eH3 _ _ r4) .nil))))),ML pc pF' psh⟩ .nil)
   have eH4:Ev p H (upd D3 L3 (.lst (x10++[.ref t11]++[.ref t12]))):=eH3.own hL0
   have pn4:AV p (upd D3 L3 (.lst (x10++[.ref t11]++[.ref t12]))):=by
    obtain⟨l,f',e⟩:=pn2.same d3
    exact⟨l,f',by rw [AA (Ne.symm nL3)];exact e⟩
   have kD4:upd D3 L3 (.lst (x10++[.ref t11]++[.ref t12])) L3=some (.lst (x10++[.ref t11]++[.ref t12])):=Ag
   generalize hx12:x10++[.ref t11]++[.ref t12]=x12 at al12' kD4 eH4 pn4 ⊢
   have lx12:x12.length=12:=by rw [<-hx12,List.length_append,List.length_append,lx10];rfl
   generalize upd D3 L3 (.lst x12)=D4 at al12' kD4 eH4 pn4 ⊢
   obtain⟨CA,cx,rfl,hCA,rCx⟩:=Aa.firing (F:=caps P S) rc
   have lcx:=rCx.len
   rw [List.length_map,A7] at lcx
   refine⟨Y,rfl,⟨_,Ac.of (eH4.tup hY)⟩,BR (xs:=ws) (λk zs G=>Ab D4 G/\Ad p G (List.replicate k (pD (0,S.ex.length-1))) zs) (by omega) ⟨Ab.refl _,.nil⟩ (λk zs G h=>by have:=h.2.len;rw [List.length_replicate] at this;omega) (λk zs G _ h=>Ac.of (h.1 _ _ (eH4.tup hY))) (λk y zs G hy h=>?_) λzs G h m hm=>?_⟩
   ·refine⟨⟨rfl,trivial⟩,λ_=>⟨CA,_,rfl,.inr (Ac.of (h.1 _ _ (eH4.tup hCA))),λt G' g' kt=>⟨h.1.trans g',?_⟩⟩,λz=>by cases z⟩
    rw [List.replicate_succ']
    refine Ad.snoc (Ad.ev (f g') _ _ h.2) (Aa.tup (xs:=[.int 0,.int ((S.ex.length-1:Nat):Int)]) ?_ (.cons Aa.int (.cons Aa.int .nil)))
    rw [kt,<-lcx,show((S.ex.length-1:Nat):Int)=(S.ex.length:Int)-1 by omega]
   refine⟨m,_,rfl,.inl ⟨Ai.of Ag,λtf htf=>?_⟩⟩
   have n1:=Ab.new (o:= .lst zs) hm
   have n2:=Ab.new (o:= .tup zs) htf
   have d5:=h.1.trans (n1.trans n2)
   have rfew:Aa p (upd (upd G m (.lst zs)) tf (.tup zs)) (.tuple (List.replicate ws.length (pD (0,S.ex.length-1)))) (.ref tf):=Aa.tup Ag (Ad.ev (f (n1.trans n2)) _ _ h.2)
   have pfew:Pt (.tuple (List.replicate ws.length (pD (0,S.ex.length-1)))):=FS (λd hd=> .inr ⟨0,S.ex.length-1,by decide,by omega,(List.mem_replicate.mp hd).2⟩) (by rw [List.length_replicate];omega)
   generalize upd (upd G m (.lst zs)) tf (.tup zs)=D5 at d5 rfew ⊢
   clear h hm htf n1 n2
   have eH5:=eH4.trans (f d5)
   have pn5:=pn4.same d5
   refine λt13 D6 d6 kt13=>⟨Y,_,rfl,.inr (Ac.of ((eH5.trans (f d6)).tup hY)),λb14 D7 d7 hb14 kb14=>λt14 D8 d8 kt14=>λz4 D9 d9 kz4=>?_⟩
   have d59:=d6.trans (d7.trans (d8.trans d9))
   refine⟨1,rfl,X,_,rfl,(eH5.trans (f d59)).tup hX,λz5 D10 d10 kz5=>⟨z4,z5,_,_,rfl,rfl,d10 _ _ kz4,kz5,(show 1+3<=1000 by decide),λt15 D11 d11 kt15=>λLc D12 d12 hLc kLc=>?_⟩⟩
   have d512:=d59.trans (d10.trans (d11.trans d12))
   have eH12:=eH5.trans (f d512)
   have n14:b14≠p:=(pn5.same d6).ne hb14
   have al15:Alls p D12 [.ref t13,.ref t14,.ref t15]:=by
    have u11:=d12
    have u8:=d9.trans (d10.trans (d11.trans u11))
    have u7:=d8.trans u8
    have u6:=d7.trans u7
    refine .cons (al4 (u6 _ _ kt13) (Aa.ev eH12 _ _ r2) (Aa.ev eH12 _ _ r3) (Aa.ev (f d512) _ _ rfew) pc pF pfew) ?_
    refine .cons (al4 (u8 _ _ kt14) (Aa.ev eH12 _ _ r2) (Aa.ev eH12 _ _ r3) (Aa.lst n14 (u7 _ _ kb14) (Ad.ev eH12 _ _ rsY)) pc pF (TV hs (by omega))) ?_
    exact .cons ⟨_,Aa.tup (u11 _ _ kt15) (.cons Aa.str (.cons (Aa.ev eH12 _ _ r2) (.cons (Aa.ev eH12 _ _ r3) (.cons (Aa.ev eH12 _ _ r4) .nil)))),CB (es:=[Ay c,FD F,.tuple sh]) TX (Ey rfl pc pF psh) (show 3<=10 by decide)⟩ .nil
   refine⟨L3,Lc,_,_,rfl,rfl,(d5.trans d512) _ _ kD4,kLc,Eb (by show x12.length+3<=1000;omega),λL4 D13 d13 hL4 kL4=>?_⟩
   have al135:Alls p D13 (x12++[.ref t13,.ref t14,.ref t15]):=(al12'.ev (f (d5.trans (d512.trans d13)))).app (al15.ev (f d13))
   have eH13:=eH12.trans (f d13)
   have l0:0<S.ex.length:=by omega
   obtain⟨c0,rows,ec0⟩:∃c0 rows,caps P S=c0::rows:=by
    cases z:caps P S with
    | nil=>have:=A7 (P:=P) (S:=S);rw [z] at this;simp at this;omega
    | cons a t=>exact⟨a,t,rfl⟩
   have rC13:=Aa.ev eH13 _ _ rc
   obtain⟨CA',cx',eCA,hCA',rCx'⟩:=Aa.firing (F:=caps P S) rC13
   cases eCA
   rw [ec0,List.map_cons] at rCx'
   unfold Ad at rCx'
   obtain⟨v0,cx2,rfl,rv0,_⟩:=rCx'
   obtain⟨A0,rfl,hA0⟩:=Aa.ofRow rv0
   have l00:c0.length<=4:=by have:=(fbc c0 (by rw [ec0];exact .head _)).2;omega
   refine⟨CA,_,0,.ref A0,rfl,rfl,Ac.of hCA',C9 (j:=0) rfl,A0,_,rfl,.inr (Ac.of hA0),λz6 D14 d14 kz6=>λt16 D15 d15 kt16=>λLd D16 d16 hLd kLd=>?_⟩
   have d1316:=d14.trans (d15.trans d16)
   have eH16:=eH13.trans (f d1316)
   refine⟨L4,Ld,_,_,rfl,rfl,d1316 _ _ kL4,kLd,Eb (by rw [List.length_append];show x12.length+3+1<=1000;omega),λL5 D17 d17 hL5 kL5=>?_⟩
   have al16:Alls p D17 (x12++[.ref t13,.ref t14,.ref t15]++[.ref t16]):=by
    refine(al135.ev (f (d1316.trans d17))).app (.cons (al4 (a:=Ay [((c0.length:Nat):Int)]) ((d16.trans d17) _ _ kt16) (Aa.row ?_) (Aa.ev (eH16.trans (f d17)) _ _ r3) (Aa.ev (eH16.trans (f d17)) _ _ r4) (FR (λi hi=>?_) (show 1<=20 by decide)) pF psh) .nil)
    ·rw [(d15.trans (d16.trans d17)) _ _ kz6,List.length_map];rfl
    ·rw [List.mem_singleton] at hi
     subst hi
     omega
   have pn17:=pn5.same (d512.trans (d13.trans (d1316.trans d17)))
   have nL5:L5≠p:=(pn5.same (d512.trans (d13.trans d1316))).ne hL5
   refine⟨pn17,by decide,by decide,λg D18 h0 h16 e18 pn18=>?_⟩
   obtain⟨y,hat,e,re,ge⟩:=MM (al16.ev e18) h0 (by rw [List.length_append,List.length_append,lx12];exact h16)
   exact⟨L5,_,g,y,rfl,rfl,Ai.of (e18.lst kL5 nL5),hat,q y D18 e re ge ((eH16.trans (f d17)).trans e18) pn18⟩
 ·exact h.elim
end
end MF
end
section
namespace MF
open PySem PySem.Spec PyProof.Rows L2
theorem T4 {n:Nat} (h:n<=1000):n<=sizeLine:=Nat.le_trans h (by decide)
theorem MP {xs:List V}{lo hi:Option Int}{v:V} (h:v∈Bq xs lo hi):v∈xs:=by unfold Bq at h;exact List.mem_of_mem_drop (List.mem_of_mem_take h)
def PairAt (p:Addr) (H:Hp) (x:V):Prop:=∃t P S v u,x= .ref t/\PL.ok P/\SY.ok S P.bs.length/\H t=some (.tup [v,u])/\Aa p H P.d v/\Aa p H S.d u
theorem PairAt.ev {p:Addr}{H H':Hp}{x:V} (h:PairAt p H x) (e:Ev p H H'):PairAt p H' x:=by
 obtain⟨t,P,S,v,u,rfl,ok,so,k,r,ru⟩:=h
 exact⟨t,P,S,v,u,rfl,ok,so,e.tup k,Aa.ev e _ _ r,Aa.ev e _ _ ru⟩
def MQ:PyData->Bool
 | .tuple (.dict _::_)=>false
 | .tuple (x::_)=>x.canLay0 && !x.hasDict
 | _=>true
theorem Ed {d:PyData} (h:MQ d=true):FK d/\∀a es,d= .tuple (a::es)->∀kvs,a≠ .dict kvs:=by
 refine⟨λx ds e=>?_,λa es e kvs z=>?_⟩
 ·subst e
  have h':(x.canLay0 && !x.hasDict)=true:=by
   cases x with
   | dict _=>cases h
   | none=>exact h
   | bool _=>exact h
   | int _=>exact h
   | str _=>exact h
   | tuple _=>exact h
   | list _=>exact h
  have h':=Bool.and_eq_true_iff.mp h'
  exact⟨h'.1,by simpa using h'.2⟩
 ·subst e
  subst z
  cases h
theorem MR:∀d∈FN++FO,GT d:=by
 have hd:(FN++FO).all (λd=>MQ d && B9 3 d)=true:=by decide+kernel
 have hn:∀d∈FN++FO,Fk d:=by
  intro d hd
  simp only [FN,FO,List.mem_append,List.mem_cons,List.not_mem_nil,or_false] at hd
  rcases hd with(rfl | rfl | rfl | rfl | rfl | rfl | rfl | rfl | rfl | rfl | rfl | rfl | rfl | rfl | rfl | rfl | rfl | rfl | rfl | rfl) | (rfl | rfl | rfl | rfl | rfl | rfl | rfl | rfl)<;>exact⟨by decide+kernel,by decide,by first | exact .inl rfl | exact .inr rfl⟩
 intro d hdm
 have:=Bool.and_eq_true_iff.mp (List.all_eq_true.mp hd d hdm)
 exact⟨hn d hdm,this.2,(Ed this.1).1,(Ed this.1).2⟩
theorem T5:GT .none:=⟨(⟨by decide+kernel,by decide,rfl⟩:Small 40 0 .none).nice (by decide) (by decide),rfl,(Ed rfl).1,(Ed rfl).2⟩
theorem T6:GT (.tuple []):=⟨⟨by decide+kernel,by decide,.inl rfl⟩,rfl,(Ed rfl).1,(Ed rfl).2⟩
theorem T7:GT (.tuple [.tuple []]):=⟨⟨by decide+kernel,by decide,.inl rfl⟩,by decide+kernel,(Ed (by decide+kernel)).1,(Ed (by decide+kernel)).2⟩
theorem JH:∀l:List Int,PyData.canLayAll0 (l.map .int)=true/\PyData.hasDictAll (l.map .int)=false
 | []=>⟨by unfold PyData.canLayAll0;rfl,by unfold PyData.hasDictAll;rfl⟩
 | a::l=>by
  have ih:=JH l
  refine⟨?_,?_⟩
  ·rw [List.map_cons]
   unfold PyData.canLayAll0
   rw [ih.1];unfold PyData.canLay0;rfl
  ·rw [List.map_cons]
   unfold PyData.hasDictAll
   rw [ih.2];rfl
theorem T8 {P:PL}{S:SY} (ok:P.ok) (so:S.ok P.bs.length):GT (Dd P S):=by
 have x8:=so.x8
 have b4:=ok.b4
 have fbc:=λr hr=>FOk.bd9 ok (FOk.caps ok (S:=S)) r hr
 refine⟨(Pr ok so).nice (by decide) (by decide),?_,λx ds e=>?_,λa es e kvs z=>?_⟩
 ·show(decide (((caps P S).map Ay).length<=1000) &&((caps P S).map Ay).all (B9 2))=true
  rw [List.length_map,A7,decide_eq_true (by omega),Bool.true_and,List.all_eq_true]
  intro d hd
  obtain⟨r,hr,rfl⟩:=List.mem_map.mp hd
  exact JF (by have:=(fbc r hr).2;omega)
 ·have e':(caps P S).map Ay=x::ds:=by injection e
  cases zc:caps P S with
  | nil=>rw [zc] at e';cases e'
  | cons r t=>
   rw [zc,List.map_cons] at e'
   injection e' with e1 _
   subst e1
   refine⟨?_,?_⟩
   ·unfold PyData.canLay0;exact(JH r).1
   ·unfold PyData.hasDict;exact(JH r).2
 ·have e':(caps P S).map Ay=a::es:=by injection e
  cases zc:caps P S with
  | nil=>rw [zc] at e';cases e'
  | cons r t=>
   rw [zc,List.map_cons] at e'
   injection e' with e1 _
   rw [<-e1] at z
   cases z
theorem MS (b:Bool):Fk (.bool b):=by cases b<;>exact⟨by decide+kernel,by decide,.inl rfl⟩
def sp_lawP (K:PySem.W.Frag):Sp:=λvs H Q _=>match vs with | [.ref a]=>∃ns:List Int,Ai K H a (ns.map V.int)/\ns.length<=63/\∀H',Q (.bl true) H' | _=>False
theorem T9 {K vs H Q E} (h:sp_lawP K vs H Q E):vs.length=1:=by unfold sp_lawP at h;split at h;rfl;exact h.elim
section
variable {P : Program} {w : World} {K : PySem.W.Frag} {mg : Str -> Option Value} {base : Heap}
theorem sc_law:AB ["_law_script","_law_cell_here","_law_pen_here","_law_plant_here","_law_story_here","_law_caps_here","_law_papers_here","_law_things","_law_thing","_law_kept","_law_due"] ["_law_script"] (Ax s_law):=AD
theorem Ua {lf:Addr}{lfd:FuncData} (F:Ei K "law" "law" s_law lf lfd) (T:Tx mg) (D__law_any_pair:Fn P w K mg base 3 "_law_any_pair" ["_law_pen_here","_law_most","_law_hours"] HI) (D__law_bent:Fn P w K mg base 3 "_law_bent" ["_law_pen_here","_law_caps_here","_law_paper"] HX) (D__law_caps:Eu P w K mg base) (D__law_cell:Fn P w K mg base 1 "_law_cell" ["_law_script","_law_k"] (GR K)) (D__law_good_paper:Fn P w K mg base 8 "_law_good_paper" ["_law_plant_here","_law_story_here","_law_thing"] HS) (D__law_odd:Fn P w K mg base 2 "_law_odd" ["_law_pen_here"] HJ) (D__law_pair:Fn P w K mg base 3 "_law_pair" ["_law_pen_here","_law_most","_law_hours"] Hs) (D__law_papers:Fn P w K mg base 8 "_law_papers" ["_law_pen_here","_law_plant_here","_law_story_here"] HW) (D__law_pen:Fn P w K mg base 1 "_law_pen" ["_law_cell_here"] GS) (D_fewest_holds:Fn P w K mg base 16 "fewest_holds" ["plant","story","thing"] HG):CY P w K mg base CX0 17 lf lfd ["_law_script"] (sp_lawP K):=by
 refine F.ok sc_law (λvs H Q E h=>?_) (λcdv A outer s H vs Q E hr h=>?_)
 ·exact T9 h
 refine⟨_,(@Ak _ _ _ _ _ (@Bw _ _ _ _ _ _ _ _ PassesOwn.never rfl (@Dv _ K _ _ _ (@Au _ _ _ _ _ _ _ _ (@Dh _) (@B0 _ _ _ _ (@AU _ _ _ (@Af _ _ _ _ _ _ _ _ _ _ D__law_cell (hr.mono (by decide)) rfl (@BC _ _ _ _ _ (@cx _ 0 _ _ (by rfl)) (@pe_int _ _ _ _) (by rfl)) (by decide) (by rfl) (by rfl)) (by rfl))) (@Cj _ _ _ _ _ _ _ _ _ _ (@K0 _ K (by rfl)) (@cx _ 0 _ _ (by rfl)) (@BP _ _ _ (@pe_int _ _ _ _)) (@BP _ _ _ (@pe_int _ _ _ _)))) (by rfl)) (@Cu _ _ _ 1 sc_law.nd (by rfl)) (@Ak _ _ _ _ _ (@AI _ _ (2) _ _ _ _ sc_law.nd rfl (AE (by rfl)) (@Af _ _ _ _ _ _ _ _ _ _ D__law_pen (hr.mono (by decide)) rfl (@AU _ _ _ (@cx _ 1 _ _ (by rfl)) (by rfl)) (by decide) (by rfl) (by rfl)) (by rfl) (Cf (by rfl))) (@An _ _ _ (@Bw _ _ _ _ _ _ _ _ PassesOwn.never rfl (@Dv _ K _ _ _ (@B0 _ _ _ _ (@BC _ _ _ _ _ (@Af _ _ _ _ _ _ _ _ _ _ D__law_pair (hr.mono (by decide)) rfl (@Cg _ _ _ _ _ _ _ (@cx _ 2 _ _ (by rfl)) (@pe_int _ _ _ _) (@pe_int _ _ _ _) (by rfl)) (by decide) (by rfl) (by rfl)) (@Af _ _ _ _ _ _ _ _ _ _ D__law_any_pair (hr.mono (by decide)) rfl (@Cg _ _ _ _ _ _ _ (@cx _ 2 _ _ (by rfl)) (@pe_int _ _ _ _) (@pe_int _ _ _ _) (by rfl)) (by decide) (by rfl) (by rfl)) (by rfl))) (by rfl)) (@AM _ K _ _ _ (2) _ (@Ap _ _ _ _ _ (@Cu _ _ _ 3 sc_law.nd (by rfl)) (@Ap _ _ _ _ _ (@Cu _ _ _ 4 sc_law.nd (by rfl)) (@AL _) (by rfl)) (by rfl)) (by rfl) (by rfl) (by rfl) (by rfl)) (@Ak _ _ _ _ _ (@AI _ _ (5) _ _ _ _ sc_law.nd rfl (AE (by rfl)) (@Af _ _ _ _ _ _ _ _ _ _ D__law_caps (hr.mono (by decide)) rfl (@BC _ _ _ _ _ (@cx _ 3 _ _ (by rfl)) (@cx _ 4 _ _ (by rfl)) (by rfl)) (by decide) (by rfl) (by rfl)) (by rfl) (Cf (by rfl))) (@Ak _ _ _ _ _ (@AI _ _ (6) _ _ _ _ sc_law.nd rfl (AE (by rfl)) (@Af _ _ _ _ _ _ _ _ _ _ D__law_papers (hr.mono (by decide)) rfl (@Cg _ _ _ _ _ _ _ (@cx _ 2 _ _ (by rfl)) (@cx _ 3 _ _ (by rfl)) (@cx _ 4 _ _ (by rfl)) (by rfl)) (by decide) (by rfl) (by rfl)) (by rfl) (Cf (by rfl))) (@Ak _ _ _ _ _ (@AI _ _ (7) _ _ _ _ sc_law.nd rfl (AE (by rfl)) (@Au _ _ _ _ _ _ _ _ (@Dh _) (@cx _ 6 _ _ (by rfl)) (@A6 _ _ _ _ _ _ _ _ _ _ _ ["_law_paper","_law_pen_here","_law_caps_here"] [none,some 2,some 5] rfl (@Dv _ K _ _ _ (@Au _ _ _ _ _ _ _ _ (@Dh _) (@cx _ 6 _ _ (by rfl)) (@Cj _ _ _ _ _ _ _ _ _ _ (@K0 _ K (by rfl)) (@cx _ 6 _ _ (by rfl)) (@BP _ _ _ (@Ik _ _ _ _ _ _ (@Im _) (@pe_int _ _ _ _))) (@CH _))) (by rfl)) (AO.of rfl) (λ_ _ _ _=>(@Cu _ _ _ 0 (AJ (by rfl)) (by rfl))) (λ_ _ _ _=>(@A5 _)) (λ_ _ _ _=>(@Af _ _ _ _ _ _ _ _ _ _ D__law_bent (hr.mono (by decide)) rfl (@Cg _ _ _ _ _ _ _ (@cx _ 1 _ _ (by rfl)) (@cx _ 2 _ _ (by rfl)) (@cx _ 0 _ _ (by rfl)) (by rfl)) (by decide) (by rfl) (by rfl))) (by intro _;rfl))) (by rfl) (Cf (by rfl))) (@An _ _ _ (@Bw _ _ _ _ _ _ _ _ PassesOwn.never rfl (@Dv _ K _ _ _ (@Au _ _ _ _ _ _ _ _ (@Dh _) (@cx _ 7 _ _ (by rfl)) (@B0 _ _ _ _ (@CW _ _ _ _ _ (@Af _ _ _ _ _ _ _ _ _ _ D__law_odd (hr.mono (by decide)) rfl (@AU _ _ _ (@cx _ 2 _ _ (by rfl)) (by rfl)) (by decide) (by rfl) (by rfl)) (@CW _ _ _ _ _ (@Af _ _ _ _ _ _ _ _ _ _ D__law_odd (hr.mono (by decide)) rfl (@AU _ _ _ (@cx _ 2 _ _ (by rfl)) (by rfl)) (by decide) (by rfl) (by rfl)) (@BZ _ _ _ _ _ _ _ _ _ (@pe_non _ _ _) (@AK _ _ _ _ _ (@pa_nil _)) (@AK _ _ _ _ _ (@AU _ _ _ (@AK _ _ _ _ _ (@pa_nil _)) (by rfl))) (@cx _ 5 _ _ (by rfl)) (by rfl)) (by rfl)) (by rfl)))) (by rfl)) (@Cu _ _ _ 8 sc_law.nd (by rfl)) (@Ak _ _ _ _ _ (@Ie _ _ (9) (10) _ _ _ _ _ _ _ _ _ _ _ rfl sc_law.nd rfl rfl (by decide) rfl rfl (@BC _ _ _ _ _ (@Aw _ _ _ _ _ _ _ _ _ (@Gm _ _ hr) rfl T.b_repr boot_repr (@AU _ _ _ (@cx _ 8 _ _ (by rfl)) (by rfl)) (by decide) (by decide) (by rfl) (by rfl)) (@Af _ _ _ _ _ _ _ _ _ _ D__law_good_paper (hr.mono (by decide)) rfl (@Cg _ _ _ _ _ _ _ (@cx _ 3 _ _ (by rfl)) (@cx _ 4 _ _ (by rfl)) (@cx _ 8 _ _ (by rfl)) (by rfl)) (by decide) (by rfl) (by rfl)) (by rfl)) (by rfl) (by rfl)) (@An _ _ _ (@A2 _ _ _ _ _ _ _ _ (@PW.pt _ _ _ (@Cs _ _ _ _ _ _ _ (@A1 _ _ _ _ _ _ _ _ (@DJ _) (@Aw _ _ _ _ _ _ _ _ _ (@Gm _ _ hr) rfl T.b_repr boot_repr (@AU _ _ _ (@Af _ _ _ _ _ _ _ _ _ _ D_fewest_holds (hr.mono (by decide)) rfl (@Cg _ _ _ _ _ _ _ (@cx _ 3 _ _ (by rfl)) (@cx _ 4 _ _ (by rfl)) (@cx _ 8 _ _ (by rfl)) (by rfl)) (by decide) (by rfl) (by rfl)) (by rfl)) (by decide) (by decide) (by rfl) (by rfl)) (@Aw _ _ _ _ _ _ _ _ _ (@Gm _ _ hr) rfl T.b_repr boot_repr (@AU _ _ _ (@cx _ 10 _ _ (by rfl)) (by rfl)) (by decide) (by decide) (by rfl) (by rfl)) (AX _)) (@CS _ _ _ _ (@A1 _ _ _ _ _ _ _ _ (@DJ _) (@Aw _ _ _ _ _ _ _ _ _ (@Gm _ _ hr) rfl T.b_repr boot_repr (@AU _ _ _ (@cx _ 8 _ _ (by rfl)) (by rfl)) (by decide) (by decide) (by rfl) (by rfl)) (@cx _ 9 _ _ (by rfl)) (AX _))))) (@An _ _ _ (@Aq _ _ _ _ (@pe_bl _ _ _ _))) (@AZ _)))) (by intro _;rfl)))))) (by intro _;rfl)))) (by intro _;rfl)) (@An _ _ _ (@Aq _ _ _ _ (@pe_bl _ _ _ _)))),?_⟩
 unfold sp_lawP at h
 split at h
 ·rename_i a
  obtain⟨ns,hS,hn63,q⟩:=h
  refine⟨ns,hS,by decide,λc0 l1 H01 s01 hl1 k01=>?_⟩
  have hS1:Ai K H01 a (ns.map V.int):=s01.seq hS
  refine⟨1,rfl,2,rfl,a,_,rfl,hS1,λl2 hl2=>?_⟩
  have lc:(Bq (ns.map V.int) (some 1) (some 2)).length<=63:=Nat.le_trans (F7 _ _ _) (by rw [List.length_map];exact hn63)
  refine⟨l1,l2,[.int c0],_,rfl,rfl,(Ab.new hl2) _ _ k01,Ag,T4 (by rw [List.length_singleton];omega),λL H02 s02 hL kL=>?_⟩
  have allI:∀v∈ [V.int c0]++Bq (ns.map V.int) (some 1) (some 2),∃i,v= .int i:=λv hv=>by
   rcases List.mem_append.mp hv with hv | hv
   ·exact⟨c0,List.mem_singleton.mp hv⟩
   ·obtain⟨i,_,e⟩:=List.mem_map.mp (MP hv);exact⟨i,e.symm⟩
  generalize [V.int c0]++Bq (ns.map V.int) (some 1) (some 2)=xs at allI kL
  refine⟨L,rfl,⟨xs,Ai.of kL⟩,Fa (xs:=xs) (λi σ H'=>(∃x1 x2 x3 x4 x5 x6 x7 x8 x9 x10,σ=[some (.ref a),x1,x2,x3,x4,x5,x6,x7,x8,x9,x10])/\H' L=some (.lst xs)) ⟨⟨_,_,_,_,_,_,_,_,_,_,rfl⟩,kL⟩ (λi σ H' _ h=>Ai.of h.2) (λi x σ H1 hx h=>?_) fun σ H1 h=>q H1⟩
  obtain⟨⟨x1,x2,x3,x4,x5,x6,x7,x8,x9,x10,rfl⟩,hL1⟩:=h
  obtain⟨c,rfl⟩:=allI x (List.mem_of_getElem? hx)
  refine λp l f hp=>?_
  have nLp:L≠p:=Bf hL1 hp
  have np:=Ab.new (o:= .lst [.int l,.int f]) hp
  have pn2:AV p (upd H1 p (.lst [.int l,.int f])):=⟨l,f,Ag⟩
  have hL2:=np _ _ hL1
  generalize upd H1 p (.lst [.int l,.int f])=H2 at np pn2 hL2 ⊢
  refine⟨pn2,by decide,by decide,by decide,by decide,λt1 H3 P1 S1 v1 u1 ok1 so1 _ k1 rv1 ru1 e3 pn3=>?_⟩
  refine⟨pn3,by decide,by decide,by decide,by decide,λt2 H4 P2 S2 v2 u2 ok2 so2 k2 rv2 ru2 e4 pn4=>?_⟩
  refine λLq H6 s6 hLq kLq=>?_
  have hL6:=s6 _ _ (e4.lst (e3.lst hL2 nLp) nLp)
  have a1:PairAt p H6 (.ref t1):=PairAt.ev ⟨t1,P1,S1,v1,u1,rfl,ok1,so1,k1,rv1,ru1⟩ (e4.trans (Ev.same s6))
  have a2:PairAt p H6 (.ref t2):=PairAt.ev ⟨t2,P2,S2,v2,u2,rfl,ok2,so2,k2,rv2,ru2⟩ (Ev.same s6)
  have al:∀x∈ [V.ref t1,V.ref t2],PairAt p H6 x:=λx hx=>by
   simp only [List.mem_cons,List.not_mem_nil,or_false] at hx
   rcases hx with rfl | rfl
   ·exact a1
   ·exact a2
  have pn6:=pn4.same s6
  have nLq:Lq≠p:=pn4.ne hLq
  refine⟨Lq,rfl,⟨_,Ai.of kLq⟩,Fa (xs:=[V.ref t1,V.ref t2]) (λi σ H'=>(∃x3 x4 x5 x6 x7 x8 x9 x10,σ=[some (.ref a),some (.int c),some (.ref p),x3,x4,x5,x6,x7,x8,x9,x10])/\Ev p H6 H'/\AV p H') ⟨⟨_,_,_,_,_,_,_,_,rfl⟩,Ev.refl,pn6⟩ (λi σ H' _ h=>Ai.of (h.2.1.lst kLq nLq)) (λi x σ Hd hx h=>?_) fun σ Hd h=>?_⟩
  rotate_left
  ·obtain⟨⟨x3,x4,x5,x6,x7,x8,x9,x10,rfl⟩,ed,_⟩:=h
   exact⟨⟨_,_,_,_,_,_,_,_,_,_,rfl⟩,ed.lst hL6 nLp⟩
  obtain⟨⟨x3,x4,x5,x6,x7,x8,x9,x10,rfl⟩,ed,pnd⟩:=h
  obtain⟨t,P,S,v,u,rfl,ok,so,k,r,ru⟩:=(al x (List.mem_of_getElem? hx)).ev ed
  have f:=λ{H H':Hp} (s:Ab H H')=>Ev.same (p:=p) s
  have b4:=ok.b4
  have x8':=so.x8
  refine⟨t,_,rfl,Ac.of k,rfl,_,_,rfl,_,_,rfl,rfl,?_⟩
  refine⟨p,P,S,ok,so,r,ru,λvc K1 s1 rc=>?_⟩
  refine⟨pnd.same s1,P,S,ok,so,Aa.ev (f s1) _ _ r,Aa.ev (f s1) _ _ ru,λL1 K2 xs1 ds1 s2 hL1 kL1 rx1 al1 m1 m2=>?_⟩
  have lx1:=rx1.len
  have s12:=s1.trans s2
  have pnK:=pnd.same s12
  have n1:L1≠p:=(pnd.same s1).ne hL1
  refine⟨3,rfl,-3,rfl,L1,_,rfl,Ai.of kL1,λl2 hl2=>?_⟩
  have lc2:=F7 xs1 (some (-3)) none
  have n2:=Ab.new (o:= .lst (Bq xs1 (some (-3)) none)) hl2
  refine⟨L1,l2,xs1,_,rfl,rfl,n2 _ _ kL1,Ag,Nat.le_trans (show xs1.length+(Bq xs1 (some (-3)) none).length<=2400 by omega) (by decide),λL3 K3 s3 hL3 kL3=>?_⟩
  have s23:=n2.trans s3
  have pn3':=pnK.same s23
  have n3:L3≠p:=(pnK.same n2).ne hL3
  have pap:∀v∈xs1++Bq xs1 (some (-3)) none,∃d,Aa p K3 d v/\PapD P.bs.length S.ex.length d:=λv hv=>by
   have hv:v∈xs1:=by
    rcases List.mem_append.mp hv with hv | hv
    ·exact hv
    ·exact MP hv
   obtain⟨j,hj⟩:=List.getElem?_of_mem hv
   obtain⟨d,hd,rd⟩:=rx1.got hj
   exact⟨d,Aa.ev (f s23) _ _ rd,al1 d (List.mem_of_getElem? hd)⟩
  have lq:(xs1++Bq xs1 (some (-3)) none).length<=1600:=by rw [List.length_append];omega
  generalize xs1++Bq xs1 (some (-3)) none=xq at kL3 pap lq
  have s13:=s12.trans s23
  refine⟨L3,rfl,⟨_,Ai.of kL3⟩,IL (xs:=xq) (λk zs G=>Ev p K3 G/\AV p G/\Alls p G zs/\zs.length=k) (by omega) ⟨Ev.refl,pn3',Alls.nil,rfl⟩ (λk zs G h=>by rw [h.2.2.2];exact Nat.le_refl _) (λk zs G _ h=>Ai.of (h.1.lst kL3 n3)) (λk y zs G hy h=>?_) λzs G h m hm=>?_⟩
  ·obtain⟨eg,png,alg,lg⟩:=h
   obtain⟨d,rd,pd⟩:=pap y (List.mem_of_getElem? hy)
   refine⟨⟨rfl,rfl,trivial⟩,λ_=>⟨png,P,S,d,ok,so,Aa.ev ((f (s2.trans s23)).trans eg) _ _ rc,Aa.ev eg _ _ rd,pd,λy' G' e re ge eg' png'=>⟨eg.trans eg',png',(alg.ev eg').app (.cons ⟨e,re,ge⟩ .nil),by rw [List.length_append,lg];rfl⟩⟩,λz=>by cases z⟩
  obtain⟨eg,png,alg,lg⟩:=h
  have nm:=Ab.new (o:= .lst zs) hm
  have kL1g:=nm _ _ (eg.lst (s23 _ _ kL1) n1)
  have lzs:zs.length<=1600:=by omega
  refine⟨L1,m,xs1,zs,rfl,rfl,kL1g,Ag,?_,λL4 K4 s4 hL4 kL4=>?_⟩
  ·refine Nat.le_trans (show xs1.length+zs.length<=2400 by omega) (by decide)
  have eK4:Ev p Hd K4:=(f s13).trans (eg.trans (f (nm.trans s4)))
  have al4:Alls p K4 (xs1++zs):=by
   refine Alls.app (λv hv=>?_) (alg.ev (f (nm.trans s4)))
   obtain⟨j,hj⟩:=List.getElem?_of_mem hv
   obtain⟨d,hd,rd⟩:=rx1.got hj
   exact⟨d,Aa.ev ((f s23).trans (eg.trans (f (nm.trans s4)))) _ _ rd,(al1 d (List.mem_of_getElem? hd)).gt b4 x8'⟩
  have l4:(xs1++zs).length<=2400:=by rw [List.length_append];omega
  have pn4':=(png.same nm).same s4
  have nL4:L4≠p:=(png.same nm).ne hL4
  generalize xs1++zs=xz at kL4 al4 l4
  refine⟨pn4',λw1 K5 d5 r5 m5 e5 pn5=>⟨pn5,λw2 K6 d6 r6 m6 e6 pn6'=>λq1 K7 s7 kq1=>λq2 K8 s8 kq2=>λq3 K9 s9 kq3=>λL5 K10 s10 hL5 kL5=>?_⟩⟩
  have e410:=e5.trans (e6.trans (f (s7.trans (s8.trans (s9.trans s10)))))
  have pn10:=pn6'.same (s7.trans (s8.trans (s9.trans s10)))
  have al5:Alls p K10 [w1,w2,.non,.ref q1,.ref q3,vc]:=by
   refine .cons ⟨d5,Aa.ev (e6.trans (f (s7.trans (s8.trans (s9.trans s10))))) _ _ r5,MR d5 m5⟩ ?_
   refine .cons ⟨d6,Aa.ev (f (s7.trans (s8.trans (s9.trans s10)))) _ _ r6,MR d6 m6⟩ ?_
   refine .cons ⟨.none,Aa.non,T5⟩ ?_
   refine .cons ⟨.tuple [],Aa.tup ((s8.trans (s9.trans s10)) _ _ kq1) .nil,T6⟩ ?_
   refine .cons ⟨.tuple [.tuple []],Aa.tup (s10 _ _ kq3) (.cons (Aa.tup ((s9.trans s10) _ _ kq2) .nil) .nil),T7⟩ ?_
   exact .cons ⟨_,Aa.ev ((f (s2.trans s23)).trans (eg.trans ((f (nm.trans s4)).trans e410))) _ _ rc,T8 ok so⟩ .nil
  refine⟨L4,L5,xz,_,rfl,rfl,e410.lst kL4 nL4,kL5,Nat.le_trans (show xz.length+6<=2500 by omega) (by decide),λL6 K11 s11 hL6 kL6=>?_⟩
  have al6:Alls p K11 (xz++[w1,w2,.non,.ref q1,.ref q3,vc]):=(al4.ev (e410.trans (f s11))).app (al5.ev (f s11))
  generalize xz++[w1,w2,.non,.ref q1,.ref q3,vc]=xl at kL6 al6
  have eK11:=eK4.trans (e410.trans (f s11))
  have pn11:=pn10.same s11
  have nL6:L6≠p:=pn10.ne hL6
  have r11:=Aa.ev eK11 _ _ r
  have ru11:=Aa.ev eK11 _ _ ru
  refine⟨L6,rfl,⟨_,Ai.of kL6⟩,Fa (xs:=xl) (λj σ H'=>(∃x8 x9 x10,σ=[some (.ref a),some (.int c),some (.ref p),some v,some u,some vc,some (.ref L1),some (.ref L4),x8,x9,x10])/\Ab K11 H') ⟨⟨_,_,_,rfl⟩,Ab.refl _⟩ (λj σ H' _ h=>Ai.of (h.2 _ _ kL6)) (λj y σ Hk hy h=>?_) fun σ Hk h=>?_⟩
  rotate_left
  ·obtain⟨⟨x8,x9,x10,rfl⟩,sk⟩:=h
   exact⟨⟨_,_,_,_,_,_,_,_,rfl⟩,ed.trans (eK11.trans (f sk)),pn11.same sk⟩
  obtain⟨⟨x8,x9,x10,rfl⟩,sk⟩:=h
  obtain⟨d,rd0,gd⟩:=al6 y (List.mem_of_getElem? hy)
  have rdk:=Aa.ev (f sk) _ _ rd0
  refine⟨p,d,rdk,gd.nice,p,P,S,d,ok,so,Aa.ev (f sk) _ _ r11,Aa.ev (f sk) _ _ ru11,rdk,gd.few,gd.nd,λb M1 hb sm1=>⟨_,_,rfl,?_⟩⟩
  have sk1:=sk.trans sm1
  refine⟨p,P,S,d,ok,so,Aa.ev (f sk1) _ _ r11,Aa.ev (f sk1) _ _ ru11,Aa.ev (f sk1) _ _ rd0,gd.hd,λb2 M2 hb2 sm2=>⟨p,.bool b2,Aa.bl,MS b2,p,.bool b,Aa.bl,MS b,rfl,?_⟩⟩
  have eb:b2=b:=by rw [Bool.eq_iff_iff,hb2,hb]
  subst eb
  rw [decide_eq_true rfl]
  refine⟨λz=>(by cases z),λ_=>⟨p,d,Aa.ev (f (sk1.trans sm2)) _ _ rd0,gd.nice,rfl,?_⟩⟩
  rw [decide_eq_true rfl]
  exact⟨λz=>(by cases z),λ_=>⟨⟨_,_,_,rfl⟩,sk1.trans sm2⟩⟩
 ·exact h.elim
end
end MF
end
section
namespace MF
open PySem PySem.Spec PyProof.Rows L2
variable {h : Heap} {p0 p1 p2 p3 : Str}
abbrev D4 (K:PySem.W.Frag) (x:Str) (st:Stmt):Prop:=∃(f:Addr) (oc:Value) (od an:Option Addr) (sl:Array (Option Value)) (kV dc pm cd ct:Value),PySem.W.nsIn K mainGlobals x=some (some (.ref f))/\K.lookup f=some ⟨oc,od,.func (PySem.W.fnOf x x (Cq st) (Cb st) (Ax st) .none kV dc pm an cd ct),sl⟩/\PySem.W.codeIn K cd x=true/\PySem.W.keepIn K (.ref f)=true
theorem d4_mk {K:PySem.W.Frag}{x:Str}{st:Stmt}{f:Addr}{oc:Value}{od an:Option Addr}{sl:Array (Option Value)}{kV dc pm cd ct:Value} (a:PySem.W.nsIn K mainGlobals x=some (some (.ref f))) (l:K.lookup f=some ⟨oc,od,.func (PySem.W.fnOf x x (Cq st) (Cb st) (Ax st) .none kV dc pm an cd ct),sl⟩) (c:PySem.W.codeIn K cd x=true) (k:PySem.W.keepIn K (.ref f)=true):D4 K x st:=⟨_,_,_,_,_,_,_,_,_,_,a,l,c,k⟩
theorem FU {K:PySem.W.Frag}{mg:Str->Option Value}{x:Str}{st:Stmt}{ps:List Str} (X:K.In h) (G:h.Ns mainGlobals mg) (d:D4 K x st)
  (hb:∀(kV doc pm:Value) (an:Option Addr) (cdv ct:Value) (us:List Value),us.length=ps.length->bindArgs (PySem.W.fnOf x x (Cq st) (Cb st) (Ax st) .none kV doc pm an cdv ct) ⟨us,[]⟩=pure (ps.zip us)):Df K mg x st ps:=by
 obtain⟨f,_,_,_,_,_,_,_,_,_,a,l,c,k⟩:=d
 exact⟨f,_,Iz l c k,PySem.W.mg_of X G a,(Iz l c k).binds hb⟩
theorem CN {K:PySem.W.Frag}{mg:Str->Option Value}{x:Str}{st:Stmt} (X:K.In h) (G:h.Ns mainGlobals mg) (d:D4 K x st) (hb:∀(kV doc pm:Value) (an:Option Addr) (cdv ct a0:Value),bindArgs (PySem.W.fnOf x x (Cq st) (Cb st) (Ax st) .none kV doc pm an cdv ct) ⟨[a0],[]⟩=pure ([p0].zip [a0]):=by intros;rfl):Df K mg x st [p0]:=
 FU X G d λ_ _ _ _ _ _ us hl=>match us,hl with | [_],_=>hb _ _ _ _ _ _ _
theorem Bc {K:PySem.W.Frag}{mg:Str->Option Value}{x:Str}{st:Stmt} (X:K.In h) (G:h.Ns mainGlobals mg) (d:D4 K x st) (hb:∀(kV doc pm:Value) (an:Option Addr) (cdv ct a0 a1:Value),bindArgs (PySem.W.fnOf x x (Cq st) (Cb st) (Ax st) .none kV doc pm an cdv ct) ⟨[a0,a1],[]⟩=pure ([p0,p1].zip [a0,a1]):=by intros;rfl):Df K mg x st [p0,p1]:=
 FU X G d λ_ _ _ _ _ _ us hl=>match us,hl with | [_,_],_=>hb _ _ _ _ _ _ _ _
theorem Bu {K:PySem.W.Frag}{mg:Str->Option Value}{x:Str}{st:Stmt} (X:K.In h) (G:h.Ns mainGlobals mg) (d:D4 K x st) (hb:∀(kV doc pm:Value) (an:Option Addr) (cdv ct a0 a1 a2:Value),bindArgs (PySem.W.fnOf x x (Cq st) (Cb st) (Ax st) .none kV doc pm an cdv ct) ⟨[a0,a1,a2],[]⟩=pure ([p0,p1,p2].zip [a0,a1,a2]):=by intros;rfl):Df K mg x st [p0,p1,p2]:=
 FU X G d λ_ _ _ _ _ _ us hl=>match us,hl with | [_,_,_],_=>hb _ _ _ _ _ _ _ _ _
theorem Ub {K:PySem.W.Frag}{mg:Str->Option Value}{x:Str}{st:Stmt} (X:K.In h) (G:h.Ns mainGlobals mg) (d:D4 K x st) (hb:∀(kV doc pm:Value) (an:Option Addr) (cdv ct a0 a1 a2 a3:Value),bindArgs (PySem.W.fnOf x x (Cq st) (Cb st) (Ax st) .none kV doc pm an cdv ct) ⟨[a0,a1,a2,a3],[]⟩=pure ([p0,p1,p2,p3].zip [a0,a1,a2,a3]):=by intros;rfl):Df K mg x st [p0,p1,p2,p3]:=
 FU X G d λ_ _ _ _ _ _ us hl=>match us,hl with | [_,_,_,_],_=>hb _ _ _ _ _ _ _ _ _ _
theorem Uc {K:PySem.W.Frag}{mg:Str->Option Value}{x:Str}{st:Stmt}{p4:Str} (X:K.In h) (G:h.Ns mainGlobals mg) (d:D4 K x st) (hb:∀(kV doc pm:Value) (an:Option Addr) (cdv ct a0 a1 a2 a3 a4:Value),bindArgs (PySem.W.fnOf x x (Cq st) (Cb st) (Ax st) .none kV doc pm an cdv ct) ⟨[a0,a1,a2,a3,a4],[]⟩=pure ([p0,p1,p2,p3,p4].zip [a0,a1,a2,a3,a4]):=by intros;rfl):Df K mg x st [p0,p1,p2,p3,p4]:=
 FU X G d λ_ _ _ _ _ _ us hl=>match us,hl with | [_,_,_,_,_],_=>hb _ _ _ _ _ _ _ _ _ _ _
abbrev Ud (x:Str) (st:Stmt) (kV dc pm:Value) (an:Option Addr) (cd ct:Value):FuncData:=PySem.W.fnOf x x (Cq st) (Cb st) (Ax st) .none kV dc pm an cd ct
open PySem.W in
theorem all_mk {l:OpenLaw}{w:World}{K:Frag}{mg:Str->Option Value}{fa:Addr} (X:K.In h) (G:h.Ns mainGlobals mg) (hfa:mg "law"=some (.ref fa))
  {f:Addr}{od an:Option Addr}{sl:Array (Option Value)}{oc kV dc pm cd ct:Value}
  (a0:D4 K "_law_draw" s__law_draw)
  (a1:D4 K "_law_plant" s__law_plant)
  (a2:D4 K "_law_story" s__law_story)
  (a3:D4 K "_law_any_pair" s__law_any_pair)
  (a4:D4 K "_law_firing" s__law_firing)
  (a5:D4 K "_law_bent" s__law_bent)
  (a6:D4 K "_law_caps" s__law_caps)
  (a7:D4 K "_law_cell" s__law_cell)
  (a8:D4 K "_law_draws" s__law_draws)
  (a9:D4 K "_law_alone" s__law_alone)
  (a10:D4 K "_law_below" s__law_below)
  (a11:D4 K "_law_is_firing" s__law_is_firing)
  (a12:D4 K "_law_mains" s__law_mains)
  (a13:D4 K "_law_keeps" s__law_keeps)
  (a14:D4 K "_law_rows_of" s__law_rows_of)
  (a15:D4 K "_law_is_short" s__law_is_short)
  (a16:D4 K "_law_shows" s__law_shows)
  (a17:D4 K "_law_good_lit" s__law_good_lit)
  (a18:D4 K "_law_good_paper" s__law_good_paper)
  (a19:D4 K "_law_odd" s__law_odd)
  (a20:D4 K "_law_pair" s__law_pair)
  (a21:D4 K "_law_stretch" s__law_stretch)
  (a22:D4 K "_law_stretches" s__law_stretches)
  (a23:D4 K "_law_papers" s__law_papers)
  (a24:D4 K "_law_pen" s__law_pen)
  (a25:D4 K "is_tuple_of" s_is_tuple_of)
  (a26:D4 K "is_whole" s_is_whole)
  (a27:D4 K "is_whole_from" s_is_whole_from)
  (a28:D4 K "is_stretch" s_is_stretch)
  (a29:D4 K "is_too_much" s_is_too_much)
  (a30:D4 K "is_shown" s_is_shown)
  (a31:D4 K "with_only" s_with_only)
  (a32:D4 K "are_shown" s_are_shown)
  (a33:D4 K "is_row" s_is_row)
  (a34:D4 K "is_firing_within" s_is_firing_within)
  (a35:D4 K "is_rising" s_is_rising)
  (a36:D4 K "is_set" s_is_set)
  (a37:D4 K "drawn_by" s_drawn_by)
  (a38:D4 K "is_fault" s_is_fault)
  (a39:D4 K "is_make_and_coal" s_is_make_and_coal)
  (a40:D4 K "are_boilers" s_are_boilers)
  (a41:D4 K "is_engine" s_is_engine)
  (a42:D4 K "are_engines" s_are_engines)
  (a43:D4 K "is_main" s_is_main)
  (a44:D4 K "is_plant" s_is_plant)
  (a45:D4 K "need_plant" s_need_plant)
  (a46:D4 K "is_story" s_is_story)
  (a47:D4 K "need_story" s_need_story)
  (a48:D4 K "draws_of" s_draws_of)
  (a49:D4 K "cap_under" s_cap_under)
  (a50:D4 K "words_for" s_words_for)
  (a51:D4 K "caps_in" s_caps_in)
  (a52:D4 K "caps_of" s_caps_of)
  (a53:D4 K "is_firing" s_is_firing)
  (a54:D4 K "need_firing" s_need_firing)
  (a55:D4 K "run_day" s_run_day)
  (a56:D4 K "falls_at" s_falls_at)
  (a57:D4 K "keeps_up" s_keeps_up)
  (a58:D4 K "first_behind" s_first_behind)
  (a59:D4 K "sets_of" s_sets_of)
  (a60:D4 K "smaller_sets" s_smaller_sets)
  (a61:D4 K "terms_of" s_terms_of)
  (a62:D4 K "is_lit_paper" s_is_lit_paper)
  (a63:D4 K "is_short_paper" s_is_short_paper)
  (a64:D4 K "fewest_holds" s_fewest_holds)
  (a:nsIn K mainGlobals "law"=some (some (.ref f))) (l0:K.lookup f=some ⟨oc,od,.func (Ud "law" s_law kV dc pm an cd ct),sl⟩) (c:codeIn K cd "law"=true) (k:keepIn K (.ref f)=true)
  (z0:nsIn K mainGlobals "all"=some none)
  (z1:nsIn K mainGlobals "bool"=some none)
  (z2:nsIn K mainGlobals "divmod"=some none)
  (z3:nsIn K mainGlobals "enumerate"=some none)
  (z4:nsIn K mainGlobals "int"=some none)
  (z5:nsIn K mainGlobals "isinstance"=some none)
  (z6:nsIn K mainGlobals "len"=some none)
  (z7:nsIn K mainGlobals "list"=some none)
  (z8:nsIn K mainGlobals "max"=some none)
  (z9:nsIn K mainGlobals "min"=some none)
  (z10:nsIn K mainGlobals "range"=some none)
  (z11:nsIn K mainGlobals "repr"=some none)
  (z12:nsIn K mainGlobals "set"=some none)
  (z13:nsIn K mainGlobals "sorted"=some none)
  (z14:nsIn K mainGlobals "sum"=some none)
  (z15:nsIn K mainGlobals "tuple"=some none)
  (z16:nsIn K mainGlobals "zip"=some none)
  {t0:Tok} (q0:nsIn K mainGlobals "MOST_BOILERS"=some (some (.int 4 t0)))
  {t1:Tok} (q1:nsIn K mainGlobals "MOST_ENGINES"=some (some (.int 4 t1)))
  {t2:Tok} (q2:nsIn K mainGlobals "MOST_FAULTS"=some (some (.int 4 t2)))
  {t3:Tok} (q3:nsIn K mainGlobals "MOST_HOURS"=some (some (.int 8 t3)))
  {t4:Tok} (q4:nsIn K mainGlobals "MOST_UNITS"=some (some (.int 9 t4)))
  {t5:Tok} (q5:nsIn K mainGlobals "MOST_EXTRA"=some (some (.int 20 t5)))
  {t6:Tok} (q6:nsIn K mainGlobals "MOST_IN_MAIN"=some (some (.int 40 t6)))
  :∃fd:FuncData,(∀(s:Shared) (v:Value),BindsTo s fd ⟨[v],[]⟩ [("_law_script",v)])/\∀base:Heap,K.In base->base.Ns mainGlobals mg->CY l.prog w K mg base CX0 17 fa fd ["_law_script"] (sp_lawP K):=by
 have e:=hfa.symm.trans (PySem.W.mg_of X G a)
 cases e
 have T:Tx mg:=⟨mg_none_of X G z0,mg_none_of X G z1,mg_none_of X G z2,mg_none_of X G z3,mg_none_of X G z4,mg_none_of X G z5,mg_none_of X G z6,mg_none_of X G z7,mg_none_of X G z8,mg_none_of X G z9,mg_none_of X G z10,mg_none_of X G z11,mg_none_of X G z12,mg_none_of X G z13,mg_none_of X G z14,mg_none_of X G z15,mg_none_of X G z16,⟨_,mg_of X G q0⟩,⟨_,mg_of X G q1⟩,⟨_,mg_of X G q2⟩,⟨_,mg_of X G q3⟩,⟨_,mg_of X G q4⟩,⟨_,mg_of X G q5⟩,⟨_,mg_of X G q6⟩⟩
 have F:=Iz (st:=s_law) l0 c k
 refine⟨PySem.W.fnOf "law" "law" (Cq s_law) (Cb s_law) (Ax s_law) .none kV dc pm an cd ct,λs v=> .of_eq rfl,λbase _ _=>?_⟩
 have B__law_draw:=RL (P:=l.prog) (w:=w) (base:=base) (Bc X G a0) T
 have B__law_plant:=RM (Bc X G a1) T B__law_draw
 have B__law_story:=R5 (Bu X G a2) T B__law_draw
 have B__law_any_pair:=Tw (Bu X G a3) T B__law_plant B__law_story
 have B__law_firing:=Tz (Bc X G a4) T B__law_draw
 have B__law_bent:=T3 (Bu X G a5) T B__law_draw B__law_firing
 have B__law_caps:=R6 (P:=l.prog) (w:=w) (base:=base) (Bc X G a6) T
 have B__law_cell:=RJ (P:=l.prog) (w:=w) (base:=base) (Bc X G a7) T
 have B__law_draws:=So (P:=l.prog) (w:=w) (base:=base) (Bc X G a8) T
 have B__law_alone:=Tu (P:=l.prog) (w:=w) (base:=base) (Bc X G a9) T
 have B__law_below:=Tn (P:=l.prog) (w:=w) (base:=base) (Bc X G a10) T
 have B__law_is_firing:=To (Bc X G a11) T B__law_below
 have B__law_mains:=Sr (P:=l.prog) (w:=w) (base:=base) (Bu X G a12) T
 have B__law_keeps:=Su (Bu X G a13) T B__law_draws B__law_mains
 have B__law_rows_of:=Tl (P:=l.prog) (w:=w) (base:=base) (Bc X G a14) T
 have B__law_is_short:=Tp (P:=l.prog) (w:=w) (base:=base) (Uc X G a15) T
 have B__law_shows:=Tr (Ub X G a16) T B__law_below B__law_is_short
 have B__law_good_lit:=TJ (Bu X G a17) T B__law_alone B__law_below B__law_caps B__law_draws B__law_is_firing B__law_keeps B__law_rows_of B__law_shows
 have B__law_good_paper:=TL (Bu X G a18) T B__law_caps B__law_draws B__law_good_lit B__law_shows
 have B__law_odd:=Ty (CN X G a19) T B__law_draw
 have B__law_pair:=Sv (Bu X G a20) T B__law_caps B__law_keeps B__law_plant B__law_story
 have B__law_stretch:=Tq (Bu X G a21) T B__law_is_short
 have B__law_stretches:=Tv (Bu X G a22) T B__law_alone B__law_caps B__law_draws B__law_rows_of B__law_stretch
 have B__law_papers:=T2 (Bu X G a23) T B__law_alone B__law_caps B__law_draws B__law_rows_of B__law_stretch B__law_stretches
 have B__law_pen:=RK (P:=l.prog) (w:=w) (base:=base) (CN X G a24) T
 have B_is_tuple_of:=Rt (P:=l.prog) (w:=w) (base:=base) (Bu X G a25) T
 have B_is_whole:=Rp (P:=l.prog) (w:=w) (base:=base) (CN X G a26) T
 have B_is_whole_from:=Rr (Bu X G a27) T B_is_whole
 have B_is_stretch:=SJ (Bc X G a28) T B_is_tuple_of B_is_whole_from
 have B_is_too_much:=R8 (P:=l.prog) (w:=w) (base:=base) (Bc X G a29) T
 have B_is_shown:=SK (Bc X G a30) T B_is_stretch B_is_too_much
 have B_with_only:=SX (P:=l.prog) (w:=w) (base:=base) (Bc X G a31) T
 have B_are_shown:=S5 (Bu X G a32) T B_is_shown B_is_tuple_of B_with_only
 have B_is_row:=Sb (Bc X G a33) T B_is_tuple_of B_is_whole_from
 have BA_is_row:=SL (Bc X G a33) T B_is_tuple_of B_is_whole_from
 have B_is_firing_within:=Sc (Bc X G a34) T B_is_row B_is_tuple_of
 have BA_is_firing_within:=SM (Bc X G a34) T BA_is_row B_is_tuple_of
 have B_is_rising:=SR (P:=l.prog) (w:=w) (base:=base) (CN X G a35) T
 have B_is_set:=ST (Bc X G a36) T B_is_rising B_is_tuple_of B_is_whole_from
 have B_drawn_by:=R1 (P:=l.prog) (w:=w) (base:=base) (Bc X G a37) T
 have B_is_fault:=RQ (Bu X G a38) T B_is_tuple_of B_is_whole_from
 have B_is_make_and_coal:=RA (CN X G a39) T B_is_tuple_of B_is_whole_from
 have B_are_boilers:=RE (CN X G a40) T B_is_make_and_coal B_is_tuple_of
 have B_is_engine:=RB (CN X G a41) T B_is_tuple_of B_is_whole_from
 have B_are_engines:=RG (CN X G a42) T B_is_engine B_is_tuple_of
 have B_is_main:=RC (CN X G a43) T B_is_tuple_of B_is_whole_from
 have B_is_plant:=RH (CN X G a44) T B_are_boilers B_are_engines B_is_main B_is_tuple_of
 have B_need_plant:=RP (CN X G a45) T B_is_plant
 have B_is_story:=RR (Bc X G a46) T B_is_fault B_is_tuple_of B_is_whole_from B_need_plant
 have B_need_story:=RT (Bc X G a47) T B_is_story
 have B_draws_of:=R3 (Bc X G a48) T B_drawn_by B_need_story
 have B_cap_under:=RV (P:=l.prog) (w:=w) (base:=base) (Bc X G a49) T
 have B_words_for:=RX (P:=l.prog) (w:=w) (base:=base) (Bu X G a50) T
 have B_caps_in:=RZ (Bu X G a51) T B_cap_under B_words_for
 have B_caps_of:=R0 (Bc X G a52) T B_caps_in B_need_story
 have B_is_firing:=Se (Bu X G a53) T B_caps_of B_is_firing_within
 have B_need_firing:=Sg (Bu X G a54) T B_is_firing
 have B_run_day:=Sh (Bu X G a55) T B_draws_of B_need_firing
 have B_falls_at:=Si (Bu X G a56) T B_run_day
 have B_keeps_up:=Sk (Bu X G a57) T B_falls_at
 have B_first_behind:=SV (P:=l.prog) (w:=w) (base:=base) (CN X G a58) T
 have B_sets_of:=SW (Bc X G a59) T B_first_behind
 have B_smaller_sets:=S0 (Bc X G a60) T B_sets_of
 have B_terms_of:=R7 (Bc X G a61) T B_caps_of B_draws_of
 have B_is_lit_paper:=S6 (Bu X G a62) T B_are_shown BA_is_firing_within B_is_set B_is_tuple_of B_keeps_up B_smaller_sets B_terms_of B_with_only
 have B_is_short_paper:=SO (Bc X G a63) T B_is_shown B_is_tuple_of
 have B_fewest_holds:=S7 (Bu X G a64) T B_is_lit_paper B_is_short_paper B_terms_of
 exact Ua F T B__law_any_pair B__law_bent B__law_caps B__law_cell B__law_good_paper B__law_odd B__law_pair B__law_papers B__law_pen B_fewest_holds
end MF
namespace PySem.W.Fast
def tw535067803918187710:=0
def tw5079999623958239826:=0
def tw12790304431461759008:=0
def tw4502712762411714916:=0
def tw2178297496312218363:=0
def tw7759380461218474826:=0
def tw5398517982959781422:=0
def tw9215799195616213689:=0
def tw10987005126742809628:=0
def tw15323461345335651687:=0
def tw11951941030490573350:=0
def tw14328154483187696620:=0
def tw13721692567671028069:=0
def tw1162767603295562260:=0
def tw13249619916479473486:=0
def tw7502600724665984843:=0
def tw10148348783771242754:=0
def tw1906495035846582028:=0
def tw17733722762281702076:=0
def tw5613583849992007124:=0
def tw7694450413173457323:=0
def tw9413459584576175716:=0
def tw10418207543742836650:=0
def tw10858864718747244331:=0
def tw5924114545827154702:=0
def tw5671976643076250555:=0
def tw16189599983282747398:=0
def tw7473331258827081923:=0
def tw2259314726814151623:=0
def tw6792261329039658756:=0
def tw15912844638266553387:=0
def tw14567863303735400987:=0
def tw10826096308682142394:=0
def tw687487017955212678:=0
def tw17901084973741098898:=0
def tw6955673162961186931:=0
def tw12629729798998234029:=0
def tw12068083486879422739:=0
def tw6538265501221954587:=0
def tw893848302295126664:=0
def tw17117387995134121046:=0
def tw13684657464786605246:=0
def tw12213296943845284880:=0
def tw4945368556441736282:=0
def tw16079009805992489581:=0
def tw11541122513857891724:=0
def tw3486089761179371021:=0
def tw2773084535962874943:=0
def tw4561027025690221894:=0
def tw16590358526965973609:=0
def tw12867714242844326856:=0
def tw13163018655986884519:=0
def tw9521412143556890062:=0
def tw12768843547358675451:=0
def tw6874344991219858323:=0
def tw3610854912110420704:=0
def tw11957935657992282524:=0
def tw9650112087109390477:=0
def tw3163229108519158193:=0
def tw17395277316384028949:=0
def tw3894477667346129766:=0
def tw5235917330742392959:=0
def tw764462711530007599:=0
def tw445763043612928557:=0
def tw18230803858293399451:=0
def tw14408112862004708278:=0
def tw4120713268745342547:=0
def tw2102842831979113658:=0
def tw2904944367694136728:=0
def tw6343027792525997480:=0
def tw2963079750152536266:=0
def tw13964571874424327324:=0
def tw9854149605904900809:=0
def tw5526943054675872166:=0
def tw16719945734252596187:=0
def tw14101903297494470835:=0
def tw5640244149790145048:=0
def tw5782258644139332997:=0
def tw6595397365537103166:=0
def tw15597036336734290413:=0
def tw8976654372173168186:=0
def tw10943593710449856130:=0
def tw4260266742486545773:=0
def tw12355919251707688931:=0
def tw4551262277719410619:=0
def tw549828769954513978:=0
def tw6951566387862926669:=0
def tw15526017377341773831:=0
def tw5375762891888008726:=0
def tw9071504178694440232:=0
def tw3352601858024665089:=0
def tw17381863491384850848:=0
def tw12340520310453094974:=0
def tw256569102372677161:=0
def tw8908413847406871195:=0
def tw5278856368895095087:=0
def tw2364609047417093916:=0
def tw8299691541945417691:=0
def tw13700403169837227318:=0
def tw17062973670224268470:=0
def tw6269123738203284595:=0
def tw3221980274490505105:=0
def tw14057701486306392508:=0
def tw14714605586175551995:=0
def tw6714716537499037082:=0
def tw6218368520953863074:=0
def tw17807520925225284083:=0
def tw15931545148327691415:=0
def tw4068595212502976389:=0
def tw8846051975796200968:=0
def tw3252672108123714130:=0
def tw11710988407075396869:=0
def tw12103956792007716738:=0
def tw14760495678175830325:=0
def tw6739744172826902725:=0
def tw1200534257950431646:=0
def tw17240165666437602440:=0
def tw11257332091719871572:=0
def tw9496645934997335901:=0
def tw17681212921231440042:=0
def tw17521308930199996611:=0
def tw9699911555889250747:=0
def tw4706853226341162440:=0
def tw3415053179014647128:=0
def tw15998236297743904367:=0
def tw5493603713657962979:=0
def tw2505623592752872771:=0
def tw15922736424671952949:=0
def tw2154199437338628403:=0
def tw2365535406273008601:=0
def tw3934109159237248082:=0
def tw5486150965593167424:=0
def tw8877325103959677442:=0
def tw13700110298851454506:=0
def tw13736551639653179962:=0
def tw11320145512380410443:=0
def tw2077303315109435949:=0
def tw3447227542620507091:=0
def tw11611612864767113472:=0
def tw16395529622667961382:=0
def tw12090202829373881063:=0
def tw7291669088214284872:=0
def tw9380086296001174189:=0
def tw7042931139634583233:=0
def tw11425872012688563713:=0
def tw8406688238613520993:=0
def tw7735398421999114700:=0
def tw15917080462496478986:=0
def tw10256118836396323913:=0
end PySem.W.Fast
open PySem PySem.W PyProof.Rows
set_option maxRecDepth 100000 in
set_option maxHeartbeats 0 in
theorem PySem.Challenge.cw_mainfires_k56_papers_of_the_fewest_by_an_holds : PySem.Challenge.rw_mainfires_k56_papers_of_the_fewest_by_an.Holds := by
 w_on;o_law;k_head;(case hw=>w_witness2)
 k_fill
 refine L2.walk_ofK (l := PySem.Challenge.rw_mainfires_k56_papers_of_the_fewest_by_an) (n := 63) (k := 17) (x := "_law_script") (CX := L2.CX0) (sp := MF.sp_lawP) rfl (by decide) rfl ⟨rfl, by decide, by decide, rfl⟩ (λw h Y => PySem.W.kIn_of Y) ?F (λ_ _ a ns hl _ hS => ⟨ns, hS, hl, λ_ => rfl⟩) (λ_ _ _ _ z => z)
 case F=>
  intro w mg fa h KX G hmg
  refine' MF.all_mk KX G hmg ?_ ?_ ?_ ?_ ?_ ?_ ?_ ?_ ?_ ?_ ?_ ?_ ?_ ?_ ?_ ?_ ?_ ?_ ?_ ?_ ?_ ?_ ?_ ?_ ?_ ?_ ?_ ?_ ?_ ?_ ?_ ?_ ?_ ?_ ?_ ?_ ?_ ?_ ?_ ?_ ?_ ?_ ?_ ?_ ?_ ?_ ?_ ?_ ?_ ?_ ?_ ?_ ?_ ?_ ?_ ?_ ?_ ?_ ?_ ?_ ?_ ?_ ?_ ?_ ?_ ?_ ?_ ?_ ?_ ?_ ?_ ?_ ?_ ?_ ?_ ?_ ?_ ?_ ?_ ?_ ?_ ?_ ?_ ?_ ?_ ?_ ?_ ?_ ?_ ?_ ?_ ?_ ?_
  all_goals first | refine' MF.d4_mk ?_ ?_ ?_ ?_ | skip
  any_goals k_is
end
