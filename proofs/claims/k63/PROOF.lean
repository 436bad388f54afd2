import PyProof.Rows.All
import Wide.All
import OpenK.AllK
import Wide.FinOn
import Lean
import PyProof.EqAt
import PyProof.EqKinds
import PyProof.TupleCall
import PyProof.Draws
import PyProof.ZipIter
import PyProof.EnumMake
import PyProof.IsiPairs
import PyProof.IsiHeapPairs
import PyProof.IsiNone
import PyProof.ReprRoads
import PyProof.ConsumeWalk
import PyProof.NeKinds
import PyProof.Rows.SeqMore
import PyProof.Rows.SortWalk
import PyProof.Rows.StrJoinMade
import PyProof.P3Eq
import PyProof.ListRange
import PyProof.CollectIter
import KE.KTryDeep
import PyProof.ExcBaseAll.ValueError
import PyProof.ExcArgsOwn
import PyProof.ExcAttrAll.ValueError
import KE.KLam
import PyProof.DictItemsLoops
import PyProof.DictCompW
import KE.KRevIter
import PyProof.MinMaxWalk
import PyProof.Rows.RowHeap
import KE.KEqDict
import KE.KDictList
import PySem.Challenge.RW_mainfires_k63_whole_outs_that_are_let
set_option Elab.async false
set_option linter.all false
set_option maxRecDepth 100000
set_option maxHeartbeats 4000000
section
namespace L2
open PySem PySem.Spec PyProof.Rows
abbrev Ax:=Sum Int Str
def DB:Ax->Value->Bool
 | .inl k,v=>Value.isInt k v
 | .inr x,v=>Value.isStrOf x v
def MZ (w:World):Ax->Int
 | .inl k=>hashInt k
 | .inr x=>hashStr w x
theorem CT:∀ {k:Ax}{v:Value},DB k v=true->(∃i t,k=Sum.inl i/\v=Value.int i t)\/(∃x t,k=Sum.inr x/\v=Value.str x t)
 | .inl i,v,h=>by
  obtain⟨t,e⟩:=Value.isInt_shape (k:=i) (v:=v) h
  exact .inl ⟨i,t,rfl,e⟩
 | .inr x,v,h=>by
  obtain⟨t,e⟩:=Value.isStrOf_shape (x:=x) (v:=v) h
  exact .inr ⟨x,t,rfl,e⟩
theorem M0 (i:Int) (t:Tok):DB (.inl i) (.int i t)=true:=by simp [DB,Value.isInt]
theorem M3 (x:Str) (t:Tok):DB (.inr x) (.str x t)=true:=by simp [DB,Value.isStrOf]
theorem M4 (a b:Int):decide ((Sum.inl a:Ax)=Sum.inl b)=(a==b):=by
 by_cases e:a=b
 ·subst e;simp
 ·have h:¬(Sum.inl a:Ax)=Sum.inl b:=λq=>e (Sum.inl.inj q)
  rw [decide_eq_false h]
  exact(beq_eq_false_iff_ne.mpr e).symm
theorem M5 (a b:Str):decide ((Sum.inr a:Ax)=Sum.inr b)=decide (a=b):=by
 by_cases e:a=b
 ·subst e;simp
 ·have h:¬(Sum.inr a:Ax)=Sum.inr b:=λq=>e (Sum.inr.inj q)
  rw [decide_eq_false h,decide_eq_false e]
theorem M6 (a:Int) (b:Str):decide ((Sum.inl a:Ax)=Sum.inr b)=false:=decide_eq_false (λq=>nomatch q)
theorem M7 (a:Str) (b:Int):decide ((Sum.inr a:Ax)=Sum.inl b)=false:=decide_eq_false (λq=>nomatch q)
def Bk (prog:Program) (w:World):PySem.KeyKind prog w Ax where
 is:=DB
 hash:=MZ w
 inj:=λv a b ha hb=>by
  rcases CT ha with⟨i,t,rfl,rfl⟩ | ⟨x,t,rfl,rfl⟩
  ·rcases CT hb with⟨j,u,rfl,e⟩ | ⟨y,u,rfl,e⟩
   ·injection e with e1 _;rw [e1]
   ·exact nomatch e
  ·rcases CT hb with⟨j,u,rfl,e⟩ | ⟨y,u,rfl,e⟩
   ·exact nomatch e
   ·injection e with e1 _;rw [e1]
 byValue:=λk v h=>by
  rcases CT h with⟨i,t,rfl,rfl⟩ | ⟨x,t,rfl,rfl⟩<;>rfl
 pyHash:=λhv h=>by
  rcases CT hv with⟨i,t,rfl,rfl⟩ | ⟨x,t,rfl,rfl⟩
  ·exact wpAny_pyHash_int h
  ·exact wpAny_pyHash_str h
 eqBool:=λhu hv h=>by
  rcases CT hu with⟨i,t,rfl,rfl⟩ | ⟨x,t,rfl,rfl⟩
  ·rcases CT hv with⟨j,u,rfl,rfl⟩ | ⟨y,u,rfl,rfl⟩
   ·rw [M4] at h;exact wpAny_eqBool_int h
   ·rw [M6] at h;exact SeqAt.EqAt.int_str i t y u _ _ _ _ h
  ·rcases CT hv with⟨j,u,rfl,rfl⟩ | ⟨y,u,rfl,rfl⟩
   ·rw [M7] at h;exact SeqAt.EqAt.str_int x t j u _ _ _ _ h
   ·rw [M5] at h;exact wpAny_eqBool_str h
 «strs»:=λk x t v h=>by
  rcases CT h with⟨i,u,rfl,e⟩ | ⟨y,u,rfl,e⟩
  ·exact nomatch e
  ·injection e with e1 _
   subst e1
   cases v<;>rfl
theorem M8 (prog:Program) (w:World) (k:Ax) (v:Value):(Bk prog w).is k v=DB k v:=rfl
theorem M9 (prog:Program) (w:World) (i:Int) (t:Tok):(Bk prog w).is (.inl i) (.int i t)=true:=M0 i t
theorem Na (prog:Program) (w:World) (x:Str) (t:Tok):(Bk prog w).is (.inr x) (.str x t)=true:=M3 x t
end L2
namespace L2
open PySem PySem.Spec PyProof.Rows
inductive V where
 | non | bl (b:Bool) | int (i:Int) | str (x:Str) | byt (b:Array UInt8) | flt (b:UInt64) | ref (a:Addr) | ty (n:String)
 deriving DecidableEq
def Ay:V->Value->Prop
 | .non,u=>u=Value.none
 | .bl b,u=>u=Value.bool b
 | .int i,u=>∃t,u=Value.int i t
 | .str x,u=>∃t,u=Value.str x t
 | .byt b,u=>∃t,u=Value.bytes b t
 | .flt b,u=>∃t,u=Value.float b t
 | .ref a,u=>u=Value.ref a
 | .ty n,u=>u=Value.type n
abbrev Ar:List V->List Value->Prop:=Paired Ay
theorem Ar.length {xs:List V}{us:List Value} (r:Ar xs us):xs.length=us.length:=Paired.length r
theorem Ar.get:∀ {xs:List V}{us:List Value}{i:Nat}{x:V},Ar xs us->xs[i]? =some x->∃u,us[i]? =some u/\Ay x u
 | _,_,_,_,.nil,e=>by simp at e
 | _,_,0,_,.cons r _,e=>by simp at e;subst e;exact⟨_,rfl,r⟩
 | _,_,i+1,x,.cons _ t,e=>by
  obtain⟨u,h1,h2⟩:=Ar.get (i:=i) (x:=x) t (by simpa using e)
  exact⟨u,by simpa using h1,h2⟩
theorem Ar.set {x:V}{u:Value} (r:Ay x u):∀ {xs:List V}{us:List Value} (i:Nat),Ar xs us->Ar (xs.set i x) (us.set i u)
 | _,_,_,.nil=> .nil
 | _,_,0,.cons _ t=> .cons r t
 | _,_,i+1,.cons q t=> .cons q (Ar.set r i t)
theorem Ar.append:∀ {xs ys:List V}{us ws:List Value},Ar xs us->Ar ys ws->Ar (xs++ys) (us++ws)
 | _,_,_,_,.nil,s=>s
 | _,_,_,_,.cons r t,s=> .cons r (Ar.append t s)
theorem Ar.take:∀ {xs:List V}{us:List Value} (n:Nat),Ar xs us->Ar (xs.take n) (us.take n)
 | _,_,0,_=> .nil
 | _,_,_+1,.nil=> .nil
 | _,_,n+1,.cons r t=> .cons r (Ar.take n t)
theorem Ar.drop:∀ {xs:List V}{us:List Value} (n:Nat),Ar xs us->Ar (xs.drop n) (us.drop n)
 | _,_,0,r=>r
 | _,_,_+1,.nil=> .nil
 | _,_,n+1,.cons _ t=>Ar.drop n t
def RelO:Option V->Option Value->Prop
 | some v,some u=>Ay v u
 | none,none=>True
 | _,_=>False
def KV {κ:Type}:List (κ×V)->List (κ×Value)->Prop:=Paired fun(p:κ×V) (q:κ×Value)=>p.1=q.1/\Ay p.2 q.2
def kV:Ax->V
 | .inl i=> .int i
 | .inr x=> .str x
inductive HO where
  | lst (xs:List V)
  | tup (xs:List V)
  | dK (kvs:List (Ax×V)) | dT (kvs:List (List Ax×V))
  | set (S:Int->Bool) (n:Nat)
  | ins (C dx:Addr) (fs:List (Str×V))
  | own (x:Addr)
  | xd (fs:List (Str×V))
  | met (f x:Addr)
  | rng (lo hi:Int)
  | frz (o:Obj) (u:HO)
  | tbl (ps:Array Value)
  | ext (φ:Heap->Prop)
abbrev Hp:=Addr->Option HO
def upd (H:Hp) (a:Addr) (o:HO):Hp:=λb=>if b=a then some o else H b
theorem Ah {H:Hp}{a:Addr}{o:HO}:upd H a o a=some o:=by unfold upd;rw [if_pos rfl]
theorem As {H:Hp}{a b:Addr}{o:HO} (h:b≠a):upd H a o b=H b:=by unfold upd;rw [if_neg h]
theorem JM {H:Hp}{a b:Addr}{o u:HO} (h:H a=some o) (h':H b=some u) (d:o≠u):a≠b:=by
 intro e;subst e;rw [h] at h';exact d (Option.some.inj h')
theorem Bh {H:Hp}{a b:Addr}{o:HO} (h:H a=some o) (h':H b=none):a≠b:=by
 intro e;subst e;rw [h] at h';cases h'
section
variable (P : Program) (w : World)
def ObjOk (H:Hp) (h:Heap) (a:Addr):HO->Prop
 | .lst xs=>xs.length<=sizeLine/\∃(its:List Value) (n:Nat),Ar xs its/\h.get? a=some { cls:= .type "list",data:= .seq its.toArray n}
 | .tup xs=>xs.length<=sizeLine/\∃its:List Value,Ar xs its/\IsTup h a its.toArray
 | .dK kvs=>kvs.length<=sizeLine/\(a==sysModules)=false/\∃vs,KV kvs vs/\h.DictOf (Bk P w) a vs
 | .dT kvs => kvs.length <= sizeLine /\ (a == sysModules) = false /\ ∃ xs : List (List Ax × Addr × Value),
   Paired (fun(p:List Ax×V) (q:List Ax×Addr×Value)=>p.1=q.1/\H q.2.1=some (.tup (p.1.map kV))/\Ay p.2 q.2.2) kvs xs/\
   ∃o es ep,h.get? a=some o/\o.ExactDict/\o.data= .dict es ep/\es.toList=xs.map (entryOfKey (tupleKind (Bk P w)))/\(xs.map (·.1)).Nodup
 | .set S n=>h.SetOf (intKind P w) a S n
 | .ins C dx fs => H dx = some (.own a) /\ fs.length <= 1000 /\ dx ≠ a /\ h.get? a = some (PySem.W.instObj C dx) /\
   ∃mA,h.Ns1 dx mA/\(∀f,RelO (fs.lookup f) (mA f))/\PySem.Within mA (fs.map (·.1))
 | .own _=>∃o,h.get? a=some o
 | .xd fs=>∃mA,h.Ns1 a mA/\∀f,RelO (fs.lookup f) (mA f)
 | .rng lo hi=>∃t u v,h.get? a=some { cls:= .type "range",data:= .fields #[.int lo t,.int hi u,.int 1 v]}
 | .frz o u=>h.get? a=some o/\ObjOk H h a u
 | .tbl ps=>h.get? a=some { cls:= .none,data:= .fields ps}
 | .met f x=>h.get? a=some (PySem.W.methodObj (.ref f) (.ref x))
 | .ext φ=>φ h/\(∃o,h.get? a=some o)/\∀h1 h2:Heap,φ h1->(∀o,h1.get? a=some o->h2.get? a=some o)->φ h2
def HOk (H:Hp) (h:Heap):Prop:=∀a o,H a=some o->ObjOk P w H h a o
end
section
variable {P : Program} {w : World} {H H' : Hp} {h h' : Heap} {a : Addr} {o : HO}
theorem ObjOk.lt (x:ObjOk P w H h a o):a<h.objs.size:=by
 cases o with
 | lst xs=>obtain⟨_,_,_,_,e⟩:=x;exact Heap.lt_size e
 | tup xs=>obtain⟨_,_,_,p⟩:=x;exact p.lt
 | dK kvs=>obtain⟨_,_,_,_,o,_,_,e,_⟩:=x;exact Heap.lt_size e
 | dT kvs=>obtain⟨_,_,_,_,o,_,_,e,_⟩:=x;exact Heap.lt_size e
 | set S n=>obtain⟨o,_,_,_,e,_⟩:=x;exact Heap.lt_size e
 | ins C dx fs=>obtain⟨_,_,_,e,_⟩:=x;exact Heap.lt_size e
 | own y=>obtain⟨_,e⟩:=x;exact Heap.lt_size e
 | xd fs=>obtain⟨_,⟨_,_,_,e,_⟩,_⟩:=x;exact Heap.lt_size e
 | rng lo hi=>obtain⟨_,_,_,e⟩:=x;exact Heap.lt_size e
 | frz ob u=>obtain⟨e,_⟩:=x;exact Heap.lt_size e
 | tbl ps=>exact Heap.lt_size (show h.get? a=some _ from x)
 | met f y=>exact Heap.lt_size (show h.get? a=some _ from x)
 | ext φ=>obtain⟨_,⟨_,e⟩,_⟩:=x;exact Heap.lt_size e
theorem Paired.mapP {α β:Type}{F G:α->β->Prop}:∀ {l₁:List α}{l₂:List β},Paired F l₁ l₂->(∀a b,F a b->G a b)->Paired G l₁ l₂
 | _,_,.nil,_=> .nil
 | _,_,.cons r t,f=> .cons (f _ _ r) (Paired.mapP t f)
theorem ObjOk.stay (x:ObjOk P w H h a o) (k:∀b u,(b=a\/H b=some (.own a))->h.get? b=some u->h'.get? b=some u)
  (ho:∀b,H b=some (.own a)->H' b=some (.own a)) (ht:∀b xs,H b=some (.tup xs)->H' b=some (.tup xs)):ObjOk P w H' h' a o:=by
 induction o with
 | lst xs=>obtain⟨z,its,n,r,e⟩:=x;exact⟨z,its,n,r,k _ _ (.inl rfl) e⟩
 | tup xs=>obtain⟨z,its,r,ob,e,c⟩:=x;exact⟨z,its,r,ob,k _ _ (.inl rfl) e,c⟩
 | dK kvs=>obtain⟨z,y,vs,r,ob,es,ep,e,c⟩:=x;exact⟨z,y,vs,r,ob,es,ep,k _ _ (.inl rfl) e,c⟩
 | dT kvs=>
  obtain⟨z,y,xs,r,ob,es,ep,e,c⟩:=x
  exact⟨z,y,xs,Paired.mapP r λp q z=>⟨z.1,ht _ _ z.2.1,z.2.2⟩,ob,es,ep,k _ _ (.inl rfl) e,c⟩
 | set S n=>obtain⟨ob,es,ep,t,e,c⟩:=x;exact⟨ob,es,ep,t,k _ _ (.inl rfl) e,c⟩
 | ins C dx fs=>
  obtain⟨d,z,ne,e,mA,⟨od,es,ep,e2,c⟩,r⟩:=x
  exact⟨ho _ d,z,ne,k _ _ (.inl rfl) e,mA,⟨od,es,ep,k _ _ (.inr d) e2,c⟩,r⟩
 | own y=>obtain⟨ob,e⟩:=x;exact⟨ob,k _ _ (.inl rfl) e⟩
 | xd fs=>obtain⟨mA,⟨od,es,ep,e,c⟩,r⟩:=x;exact⟨mA,⟨od,es,ep,k _ _ (.inl rfl) e,c⟩,r⟩
 | rng lo hi=>obtain⟨t,u,v,e⟩:=x;exact⟨t,u,v,k _ _ (.inl rfl) e⟩
 | frz ob u ih=>obtain⟨e,q⟩:=x;exact⟨k _ _ (.inl rfl) e,ih q⟩
 | tbl ps=>
  have e:h.get? a=some { cls:= .none,data:= .fields ps}:=x
  show h'.get? a=some { cls:= .none,data:= .fields ps}
  exact k a _ (.inl rfl) e
 | met f y=>
  have e:h.get? a=some (PySem.W.methodObj (.ref f) (.ref y)):=x
  show h'.get? a=some (PySem.W.methodObj (.ref f) (.ref y))
  exact k a _ (.inl rfl) e
 | ext φ=>obtain⟨p,⟨o,e⟩,st⟩:=x;exact⟨st _ _ p λo q=>k _ _ (.inl rfl) q,⟨o,k _ _ (.inl rfl) e⟩,st⟩
theorem HOk.lt (x:HOk P w H h) (e:H a=some o):a<h.objs.size:=(x a o e).lt
theorem HOk.fresh (x:HOk P w H h) (e:h.objs.size<=a):H a=none:=by
 cases q:H a with
 | none=>rfl
 | some u=>exact absurd (Nat.lt_of_lt_of_le (x.lt q) e) (Nat.lt_irrefl _)
theorem HOk.kept (x:HOk P w H h) (k:∀b u,h.get? b=some u->h'.get? b=some u):HOk P w H h':=λa o e=>
 (x a o e).stay (λb u _ q=>k b u q) (λ_ q=>q) λ_ _ q=>q
theorem HOk.laid (x:HOk P w H h) (k:∀b u,h.get? b=some u->h'.get? b=some u) (hp:h.objs.size<=a) (new:ObjOk P w (upd H a o) h' a o):HOk P w (upd H a o) h':=λb u e=>by
 have hn:=x.fresh hp
 by_cases hb:b=a
 ·subst hb;rw [Ah] at e;cases e;exact new
 ·rw [As hb] at e
  exact(x b u e).stay (λc v _ q=>k c v q) (λc q=>by rw [As (Bh q hn)];exact q) λc xs q=>by rw [As (Bh q hn)];exact q
end
def Rd (H:Hp) (a:Addr) (u:HO):Prop:=H a=some u\/ ∃o,H a=some (.frz o u)
theorem Rd.ok {P:Program}{w:World}{H:Hp}{h:Heap}{a:Addr}{u:HO} (r:Rd H a u) (x:HOk P w H h):ObjOk P w H h a u:=by
 rcases r with r | ⟨o,r⟩
 ·exact x a u r
 ·obtain⟨_,q⟩:=x a _ r
  exact q
def EX:Option HO->Prop
 | some (.lst _)=>True
 | some (.dK _)=>True
 | some (.dT _)=>True
 | some (.set _ _)=>True
 | some (.ins _ _ _)=>True
 | some (.ext _)=>True
 | _=>False
section
variable {P : Program} {w : World} {H : Hp} {h h' : Heap} {x e : Addr} {o' : HO}
theorem HOk.write (ok:HOk P w H h) (mu:EX (H x)) (he:e=x\/H e=some (.own x)) (k:∀b u,b≠e->h.get? b=some u->h'.get? b=some u) (heo:∃u,h'.get? e=some u)
  (new:ObjOk P w (upd H x o') h' x o'):HOk P w (upd H x o') h':=λb u q=>by
 have nown:∀c y,H c=some (.own y)->c≠x:=λc y r z=>by subst z;rw [r] at mu;exact mu
 have ntup:∀c xs,H c=some (.tup xs)->c≠x:=λc xs r z=>by subst z;rw [r] at mu;exact mu
 by_cases hb:b=x
 ·subst hb;rw [Ah] at q;cases q;exact new
 ·rw [As hb] at q
  by_cases hbe:b=e
  ·have q':H b=some (.own x):=by
    rcases he with z | z
    ·exact absurd (hbe.trans z) hb
    ·rw [hbe];exact z
   rw [q] at q';cases q'
   obtain⟨v,hv⟩:=heo
   exact⟨v,by rw [hbe];exact hv⟩
  ·refine(ok b u q).stay (λc v hc r=>k c v ?_ r) (λc r=>by rw [As (nown c b r)];exact r) λc xs r=>by rw [As (ntup c xs r)];exact r
   rcases hc with rfl | hc
   ·exact hbe
   ·rintro rfl
    rcases he with z | z
    ·exact nown c b hc z
    ·rw [hc] at z;cases z;exact hb rfl
end
structure Un (fs ex:List Addr) (H H':Hp) (h h':Heap):Prop where
 keep:∀b o,h.get? b=some o->H b=none->b ∉ fs->b ∉ ex->h'.get? b=some o
 slot:∀b o,h.get? b=some o->H b=none->b∈fs->b ∉ ex->∃sl,h'.get? b=some { o with slots:=sl}
 free:∀b o,h.get? b=some o->H b=none->b ∉ ex->H' b=none
 there:∀b o,h.get? b=some o->b ∉ ex->∃o',h'.get? b=some o'
 tups:∀b xs,H b=some (.tup xs)->H' b=some (.tup xs)
 frzs:∀b o u,H b=some (.frz o u)->H' b=some (.frz o u)
 tbls:∀b ps,H b=some (.tbl ps)->∃more,H' b=some (.tbl (ps++more))
section
variable {fs fs' ex ex' : List Addr} {H H1 H2 : Hp} {h h1 h2 h' : Heap} {a x e : Addr} {o : HO}
theorem Un.any (u:Un fs ex H H1 h h1) {b:Addr}{ob:Obj} (q:h.get? b=some ob) (n:H b=none) (hx:b ∉ ex):∃sl,h1.get? b=some { ob with slots:=sl}:=by
 by_cases hb:b∈fs
 ·exact u.slot b ob q n hb hx
 ·exact⟨ob.slots,u.keep b ob q n hb hx⟩
theorem Un.kept (k:∀b u,h.get? b=some u->h'.get? b=some u):Un fs ex H H h h':=
 ⟨λb ob q _ _ _=>k b ob q,λb ob q _ _ _=>⟨ob.slots,k b ob q⟩,λ_ _ _ n _=>n,λb ob q _=>⟨ob,k b ob q⟩,λ_ _ q=>q,λ_ _ _ q=>q,λ_ ps q=>⟨#[],by rw [q];simp⟩⟩
theorem Un.refl:Un fs ex H H h h:=Un.kept λ_ _ q=>q
theorem Un.laid (k:∀b u,h.get? b=some u->h'.get? b=some u) (hp:h.objs.size<=a) (hn:H a=none):Un fs ex H (upd H a o) h h' where
 keep:=λb u q _ _ _=>k b u q
 slot:=λb u q _ _ _=>⟨u.slots,k b u q⟩
 free:=λb u q n _=>by rw [As (Nat.ne_of_lt (Nat.lt_of_lt_of_le (Heap.lt_size q) hp))];exact n
 there:=λb u q _=>⟨u,k b u q⟩
 tups:=λb xs q=>by rw [As (Bh q hn)];exact q
 frzs:=λb u xs q=>by rw [As (Bh q hn)];exact q
 tbls:=λb ps q=>⟨#[],by rw [As (Bh q hn),q];simp⟩
theorem Un.write (mu:EX (H x)) (he:e=x\/H e=some (.own x)) (k:∀b u,b≠e->h.get? b=some u->h'.get? b=some u) (heo:∃u,h'.get? e=some u):Un fs ex H (upd H x o) h h':=by
 have hx:∀b,H b=none->b≠x:=λb n z=>by subst z;rw [n] at mu;exact mu
 have hb:∀b,H b=none->b≠e:=λb n z=>by
  subst z
  rcases he with r | r
  ·exact hx b n r
  ·rw [n] at r;cases r
 have hm:∀b u,H b=some u->¬EX (some u)->b≠x:=λb u q nm z=>by subst z;rw [q] at mu;exact nm mu
 refine⟨λb u q n _ _=>k b u (hb b n) q,λb u q n _ _=>⟨u.slots,k b u (hb b n) q⟩,λb u q n _=>by rw [As (hx b n)];exact n,λb u q _=>?_,
  λb xs q=>by rw [As (hm b _ q λz=>z)];exact q,λb u xs q=>by rw [As (hm b _ q λz=>z)];exact q,λb ps q=>⟨#[],by rw [As (hm b _ q λz=>z),q];simp⟩⟩
 by_cases hbe:b=e
 ·subst hbe;exact heo
 ·exact⟨u,k b u hbe q⟩
end
def trk (h:Heap) (H:Hp):List Addr:=(List.range h.objs.size).filter λa=>(H a).isSome
def Dn (h:Heap) (H:Hp):Heap:=PySem.W.hideAll h (trk h H)
theorem Nb (h:Heap) (H:Hp):(Dn h H).objs.size=h.objs.size:=PySem.W.hideAll_size _ _
theorem Nc {h:Heap}{H:Hp}{b:Addr}{o:Obj} (e:h.get? b=some o) (n:H b=none):(Dn h H).get? b=some o:=
 PySem.W.hideAll_get _ e λhm=>by
  have q:(H b).isSome=true:=(List.mem_filter.mp hm).2
  rw [n] at q;simp at q
theorem Nd {h:Heap}{H:Hp}{b:Addr}{o:Obj} (e:(Dn h H).get? b=some o):h.get? b=some o/\H b=none:=by
 have e':h.get? b=some o:=PySem.W.of_hideAll (trk h H) e
 refine⟨e',?_⟩
 cases q:H b with
 | none=>rfl
 | some x=>
  have hm:b∈trk h H:=List.mem_filter.mpr ⟨List.mem_range.mpr (Heap.lt_size e'),by simp [q]⟩
  have z:(Dn h H).get? b=none:=PySem.W.hideAll_none (trk h H) hm
  rw [z] at e;cases e
def Nf (g h:Heap) (L:Addr):List (Addr×Obj):=(List.range h.objs.size).filterMap λa=>if a=L\/(g.get? a).isSome=true then none else(h.get? a).map λo=>(a,o)
def Cq (g h:Heap) (L d:Addr):List (Addr×Obj):=(Nf g h L).filter λp=>decide (p.1≠d)
end L2
namespace L2
open PySem PySem.Spec PyProof.Rows
variable {g' : Array GenState} {t' i : Nat} {d' : Drawn} {ch : List Addr} {M : Model} {E : Value -> Shared -> Prop} {v : V} {u : Value} {Q : Unit -> Shared -> Prop}
structure Mod (K:PySem.W.Frag) (mg:Str->Option Value) (base:Heap):Prop where
 kin:K.In base
 glob:base.Ns mainGlobals mg
 blt:∃mb,base.Ns builtinsNs mb/\∀x:Str,x≠ "__name__" ->mb x=bootBuiltins x
 nolimit:base.NoLimit
structure Cx where
 prog:Program
 w:World
 K:PySem.W.Frag
 mg:Str->Option Value
 base:Heap
 A:Around
 N:List Str
 s₀:Shared
 H₀:Hp
 env:Env
 outer:List Env
 stack:List Env
 ex:List Addr
 fn:Str->Bool
 calm:Bool
 pn:List (Addr×Obj)
 xe:Value->Shared->Prop
def B0 (l:List Env):List Addr:=l.filterMap (·.frame)
abbrev Cx.fs (X:Cx):List Addr:=B0 X.outer
def EY (sc:Scope) (x:Str):Prop:=sc.names.lookup x=some .local \/sc.names.lookup x=some .cell\/sc.names.lookup x=some .free
def DC (sc:Scope) (x:Str):Prop:=sc.names.lookup x=some .local \/sc.names.lookup x=some .cell
def Ng (env:Env) (h:Heap) (m:Str->Option Value) (x:Str) (u:Value):Prop:=
 (env.kindOf x=some .local /\m x=some u)\/((env.kindOf x=some .cell\/env.kindOf x=some .free)/\∃c,env.cells.lookup x=some c/\h.IsCell c (some u))
structure Cx.Ok (X:Cx):Prop where
 mod:Mod X.K X.mg X.base
 kind:X.env.scope.kind= .function
 glob:X.env.globals=mainGlobals
 blt:X.env.builtins=builtinsNs
 above:X.s₀.heap.objs.size<=X.env.locals
 inj:∀x y c,X.env.cells.lookup x=some c->X.env.cells.lookup y=some c->x=y
 has:∀x,(X.env.kindOf x=some .cell\/X.env.kindOf x=some .free)->∃c,X.env.cells.lookup x=some c
 cab:∀x c,X.fn x=true->X.env.cells.lookup x=some c->X.s₀.heap.objs.size<=c
 hd:X.calm=true->X.A.handled=none
 frames:X.A.frames=some X.stack
 stk:X.stack=X.outer\/(X.stack=X.env::X.outer/\X.env.frame=some X.env.locals)
 exf:∀b∈X.ex,b≠X.env.locals/\∀x c,X.env.cells.lookup x=some c->c≠b
 bs:∀b o,X.base.get? b=some o->X.s₀.heap.get? b=some o/\X.H₀ b=none
 bsz:X.base.objs.size<=X.s₀.heap.objs.size
 noex:∀b o,X.base.get? b=some o->b ∉ X.ex
 exfs:∀b∈X.ex,b ∉ X.fs
 funs:X.s₀.heap.FunFrames X.base X.outer
 frf:∀b∈X.fs,X.H₀ b=none
structure Ad (X:Cx) (pins:List (Addr×Obj)) (σ:List (Option V)) (H:Hp) (s:Shared):Prop where
 ok:X.Ok
 os:s.os=X.s₀.os
 bare:AllBare s.gens
 base:Un X.fs X.ex X.H₀ H X.s₀.heap s.heap
 loc:∃m,s.heap.Ns X.env.locals m/\∀(i:Nat) (x:Str) (v:V),X.N[i]? =some x->σ[i]? =some (some v)->EY X.env.scope x->∃u,Ay v u/\Ng X.env s.heap m x u
 cell:∀x c,X.env.cells.lookup x=some c->∃v,s.heap.IsCell c v
 free:H X.env.locals=none
 freeC:∀x c,X.env.cells.lookup x=some c->H c=none
 pin:∀p∈X.pn++pins,s.heap.get? p.1=some p.2/\H p.1=none/\p.1≠X.env.locals/\p.1 ∉ X.fs/\∀v,p.2.data≠ .cell v
 hok:HOk X.prog X.w H s.heap
 len:σ.length=X.N.length
section
variable {X : Cx} {pins : List (Addr × Obj)} {σ : List (Option V)} {H H' : Hp} {s : Shared} {h' : Heap}
theorem Cx.Ok.nofr (ok:X.Ok) {b:Addr}{o:Obj} (e:X.base.get? b=some o):b ∉ X.fs:=λhb=>by
 have:=(ok.funs.mem hb).1
 rw [e] at this;cases this
theorem Ad.bs (I:Ad X pins σ H s):∀b o,X.base.get? b=some o->s.heap.get? b=some o/\H b=none:=λb o e=>
 ⟨I.base.keep b o (I.ok.bs b o e).1 (I.ok.bs b o e).2 (I.ok.nofr e) (I.ok.noex b o e),I.base.free b o (I.ok.bs b o e).1 (I.ok.bs b o e).2 (I.ok.noex b o e)⟩
theorem Ad.bk (I:Ad X pins σ H s):∀b o,X.base.get? b=some o->s.heap.get? b=some o:=λb o e=>(I.bs b o e).1
theorem Ad.mod (I:Ad X pins σ H s):Mod X.K X.mg X.base:=I.ok.mod
theorem Ad.kIn (I:Ad X pins σ H s):X.K.In s.heap:=I.ok.mod.kin.keeps I.bk
theorem Ad.lt (I:Ad X pins σ H s):X.env.locals<s.heap.objs.size:=let ⟨_,hn,_⟩:=I.loc;hn.lt
theorem Ad.sz (I:Ad X pins σ H s):X.s₀.heap.objs.size<=s.heap.objs.size:=Nat.le_trans I.ok.above (Nat.le_of_lt I.lt)
theorem Ad.nofs (I:Ad X pins σ H s) {a:Addr} (h:s.heap.objs.size<=a):a ∉ X.fs:=λhb=>by
 obtain⟨_,o,ho,_⟩:=I.ok.funs.mem hb
 exact absurd (Nat.lt_of_lt_of_le (Heap.lt_size ho) (Nat.le_trans I.sz h)) (Nat.lt_irrefl _)
theorem Ad.cne (I:Ad X pins σ H s):∀x c,X.env.cells.lookup x=some c->c≠X.env.locals:=λx c e z=>by
 obtain⟨v,o,ho,hd⟩:=I.cell x c e
 obtain⟨m,⟨o',es,ep,ho',hd',_⟩,_⟩:=I.loc
 rw [z,ho'] at ho;cases ho;rw [hd'] at hd;cases hd
theorem Ad.funs (I:Ad X pins σ H s):s.heap.FunFrames X.base X.outer:=by
 have all:∀(l:List Env),(∀b∈B0 l,b∈X.fs)->X.s₀.heap.FunFrames X.base l->s.heap.FunFrames X.base l:=by
  intro l
  induction l with
  | nil=>intro _ _;trivial
  | cons env r ih=>
   intro hs hl
   obtain⟨hk,⟨L,o,hf,hn,ho,hd⟩,hr⟩:=hl
   have hL:L∈X.fs:=hs L (by unfold B0;rw [List.filterMap_cons,hf];exact List.mem_cons_self)
   obtain⟨sl,e⟩:=I.base.slot L o ho (I.ok.frf L hL) hL λz=>I.ok.exfs L z hL
   exact⟨hk,⟨L,_,hf,hn,e,hd⟩,ih (λb hb=>hs b (by unfold B0;rw [List.filterMap_cons,hf];exact List.mem_cons_of_mem _ hb)) hr⟩
 exact all X.outer (λ_ hb=>hb) I.ok.funs
theorem Ad.stack (I:Ad X pins σ H s):s.heap.FunFrames X.base X.stack:=by
 rcases I.ok.stk with e | ⟨e,hf⟩
 ·rw [e];exact I.funs
 ·rw [e]
  obtain⟨m,hn,_⟩:=I.loc
  refine .cons (by rw [I.ok.kind];decide) hf hn ?_ I.funs
  exact Heap.get?_none_of_le (Nat.le_trans I.ok.bsz I.ok.above)
theorem Ad.stkSub (I:Ad X pins σ H s):∀b∈B0 X.stack,b∈X.env.locals::X.fs:=λb hb=>by
 rcases I.ok.stk with e | ⟨e,hf⟩
 ·rw [e] at hb;exact List.mem_cons_of_mem _ hb
 ·rw [e] at hb
  unfold B0 at hb
  rw [List.filterMap_cons,hf] at hb
  exact hb
theorem Ad.stkFree (I:Ad X pins σ H s):∀b∈B0 X.stack,H b=none:=λb hb=>by
 rcases List.mem_cons.mp (I.stkSub b hb) with e | hb
 ·rw [e];exact I.free
 ·obtain⟨_,o,ho,_⟩:=I.ok.funs.mem hb
  exact I.base.free b o ho (I.ok.frf b hb) λz=>I.ok.exfs b z hb
theorem Ad.step (I:Ad X pins σ H s)
  (hch:∀b∈ch,(b∈X.ex\/X.s₀.heap.objs.size<=b)/\b≠X.env.locals/\(∀x c,X.env.cells.lookup x=some c->c≠b)/\∀p∈X.pn++pins,p.1≠b)
  (keep:∀b o,b≠X.env.locals->b ∉ X.fs->b ∉ ch->s.heap.get? b=some o->H b=none->h'.get? b=some o)
  (slot:∀b o,b≠X.env.locals->b∈X.fs->b ∉ ch->s.heap.get? b=some o->H b=none->∃sl,h'.get? b=some { o with slots:=sl}) (free:∀b o,b ∉ ch->s.heap.get? b=some o->H b=none->H' b=none)
  (there:∀b o,b ∉ ch->s.heap.get? b=some o->∃o',h'.get? b=some o')
  (tups:∀b xs,H b=some (.tup xs)->H' b=some (.tup xs)) (frzs:∀b o u,H b=some (.frz o u)->H' b=some (.frz o u)) (tbls:∀b ps,H b=some (.tbl ps)->∃more,H' b=some (.tbl (ps++more)))
  (ns:∀m,s.heap.Ns X.env.locals m->h'.Ns X.env.locals m) (hok:HOk X.prog X.w H' h') (hg:AllBare g'):
  Ad X pins σ H' { s with heap:=h',gens:=g',drawn:=d',toks:=t'}:=by
 have neL:∀b o,X.s₀.heap.get? b=some o->b≠X.env.locals:=λb o e=>Nat.ne_of_lt (Nat.lt_of_lt_of_le (Heap.lt_size e) I.ok.above)
 have neC:∀b o,X.s₀.heap.get? b=some o->b ∉ X.ex->b ∉ ch:=λb o e hx hb=>by
  rcases(hch b hb).1 with z | z
  ·exact hx z
  ·exact absurd (Nat.lt_of_lt_of_le (Heap.lt_size e) z) (Nat.lt_irrefl _)
 have cellK:∀x c,X.env.cells.lookup x=some c->∀v,s.heap.IsCell c v->h'.IsCell c v:=λx c e v ⟨o,ho,hd⟩=>by
  have nch:c ∉ ch:=λz=>(hch c z).2.2.1 x c e rfl
  by_cases hc:c∈X.fs
  ·obtain⟨sl,q⟩:=slot c o (I.cne x c e) hc nch ho (I.freeC x c e)
   exact⟨_,q,hd⟩
  ·exact⟨o,keep c o (I.cne x c e) hc nch ho (I.freeC x c e),hd⟩
 refine⟨I.ok,I.os,hg,⟨λb o e n hb hx=>?_,λb o e n hb hx=>?_,λb o e n hx=>?_,λb o e hx=>?_,λb xs e=>tups b xs (I.base.tups b xs e),λb o xs e=>frzs b o xs (I.base.frzs b o xs e),λb ps e=>?_⟩,?_,λx c e=>?_,?_,λx c e=>?_,λp hp=>?_,hok,I.len⟩
 ·exact keep b o (neL b o e) hb (neC b o e hx) (I.base.keep b o e n hb hx) (I.base.free b o e n hx)
 ·obtain⟨sl,e1⟩:=I.base.slot b o e n hb hx
  obtain⟨sl',e2⟩:=slot b _ (neL b o e) hb (neC b o e hx) e1 (I.base.free b o e n hx)
  exact⟨sl',e2⟩
 ·obtain⟨o',e1⟩:=I.base.there b o e hx
  exact free b o' (neC b o e hx) e1 (I.base.free b o e n hx)
 ·obtain⟨o',e1⟩:=I.base.there b o e hx
  exact there b o' (neC b o e hx) e1
 ·obtain⟨m1,e1⟩:=I.base.tbls b ps e
  obtain⟨m2,e2⟩:=tbls b _ e1
  exact⟨m1++m2,by rw [e2,Array.append_assoc]⟩
 ·obtain⟨m,hn,hl⟩:=I.loc
  refine⟨m,ns m hn,λi x v e1 e2 e3=>?_⟩
  obtain⟨u,r,l⟩:=hl i x v e1 e2 e3
  refine⟨u,r,?_⟩
  rcases l with l | ⟨k,c,e,z⟩
  ·exact .inl l
  ·exact .inr ⟨k,c,e,cellK x c e _ z⟩
 ·obtain⟨v,z⟩:=I.cell x c e
  exact⟨v,cellK x c e v z⟩
 ·obtain⟨m,⟨o,_,_,ho,_⟩,_⟩:=I.loc
  exact free _ o (λz=>(hch _ z).2.1 rfl) ho I.free
 ·obtain⟨v,o,ho,hd⟩:=I.cell x c e
  exact free c o (λz=>(hch c z).2.2.1 x c e rfl) ho (I.freeC x c e)
 ·obtain⟨e,n,ne,nf,d⟩:=I.pin p hp
  have nch:p.1 ∉ ch:=λz=>(hch p.1 z).2.2.2 p hp rfl
  exact⟨keep p.1 p.2 ne nf nch e n,free p.1 p.2 nch e n,ne,nf,d⟩
theorem Ad.un (I:Ad X pins σ H s) (u:Un X.fs [] H H' s.heap h') (hok:HOk X.prog X.w H' h'):Ad X pins σ H' { s with heap:=h',toks:=t'}:=by
 obtain⟨m,⟨o,es,ep,ho,r⟩,_⟩:=id I.loc
 obtain⟨sl,hL⟩:=u.any ho I.free (by simp)
 exact I.step (g':=s.gens) (d':=s.drawn) (ch:=[]) (λ_ z=>nomatch z) (λb o _ hb _ e n=>u.keep b o e n hb (by simp)) (λb o _ hb _ e n=>u.slot b o e n hb (by simp)) (λb o _ e n=>u.free b o e n (by simp)) (λb o _ e=>u.there b o e (by simp)) u.tups u.frzs u.tbls (λm' hm=>by
  obtain⟨o',es',ep',ho',r'⟩:=hm
  rw [ho] at ho';cases ho'
  exact⟨_,es',ep',hL,r'⟩) hok I.bare
theorem Ad.call (I:Ad X pins σ H s) (u:Un (B0 X.stack) ch H H' s.heap h') (hok:HOk X.prog X.w H' h') (hg:AllBare g')
  (hch:∀b∈ch,(b∈X.ex\/X.s₀.heap.objs.size<=b)/\b≠X.env.locals/\(∀x c,X.env.cells.lookup x=some c->c≠b)/\∀p∈X.pn++pins,p.1≠b):
  Ad X pins σ H' { s with heap:=h',gens:=g',drawn:=d',toks:=t'}:=by
 obtain⟨m,⟨o,es,ep,ho,r⟩,_⟩:=id I.loc
 obtain⟨sl,hL⟩:=u.any ho I.free λz=>(hch _ z).2.1 rfl
 exact I.step (ch:=ch) hch (λb o hL hb hc e n=>u.keep b o e n (λz=>(List.mem_cons.mp (I.stkSub b z)).elim hL hb) hc) (λb o _ _ hc e n=>u.any e n hc) (λb o hc e n=>u.free b o e n hc) (λb o hc e=>u.there b o e hc) u.tups u.frzs u.tbls (λm' hm=>by
  obtain⟨o',es',ep',ho',r'⟩:=hm
  rw [ho] at ho';cases ho'
  exact⟨_,es',ep',hL,r'⟩) hok hg
theorem Ad.turned {it:Addr} (I:Ad X pins σ H s) (k:∀b o,b≠it->s.heap.get? b=some o->h'.get? b=some o) (hn:H it=none) (hL:it≠X.env.locals)
  (h1:it∈X.ex\/X.s₀.heap.objs.size<=it) (h2:∀x c,X.env.cells.lookup x=some c->c≠it) (h3:∀p∈X.pn++pins,p.1≠it):Ad X pins σ H { s with heap:=h',toks:=t'}:=by
 have nit:∀b u,H b=some u->b≠it:=λb u e z=>by rw [z,hn] at e;cases e
 refine I.step (g':=s.gens) (d':=s.drawn) (ch:=[it]) (λb hb=>?_) (λb o _ _ hc e _=>k b o (λz=>hc (by simp [z])) e) (λb o _ _ hc e _=>⟨o.slots,k b o (λz=>hc (by simp [z])) e⟩) (λ_ _ _ _ n=>n)
  (λb o hc e=>⟨o,k b o (λz=>hc (by simp [z])) e⟩) (λ_ _ e=>e) (λ_ _ _ e=>e) (λb ps e=>⟨#[],by rw [e];simp⟩) (λm hm=>?_) (λb u e=>?_) I.bare
 ·have e:b=it:=by simpa using hb
  subst e
  exact⟨h1,hL,h2,h3⟩
 ·obtain⟨o,es,ep,ho,r⟩:=hm
  exact⟨o,es,ep,k _ o (Ne.symm hL) ho,r⟩
 ·refine(I.hok b u e).stay (λc v hc q=>k c v ?_ q) (λ_ q=>q) λ_ _ q=>q
  rcases hc with z | z
  ·rw [z];exact nit b u e
  ·exact nit c _ z
theorem Ad.tok (I:Ad X pins σ H s) (t:Nat):Ad X pins σ H { s with toks:=t}:=I.un (h':=s.heap) (t':=t) Un.refl I.hok
theorem Ad.kept (I:Ad X pins σ H s) (k:∀b u,s.heap.get? b=some u->h'.get? b=some u):Ad X pins σ H { s with heap:=h',toks:=t'}:=I.un (Un.kept k) (I.hok.kept k)
theorem Ad.laid {a:Addr}{o:HO} (I:Ad X pins σ H s) (k:∀b u,s.heap.get? b=some u->h'.get? b=some u) (hp:s.heap.objs.size<=a) (new:ObjOk X.prog X.w (upd H a o) h' a o):
  Ad X pins σ (upd H a o) { s with heap:=h',toks:=t'}:=I.un (Un.laid k hp (I.hok.fresh hp)) (I.hok.laid k hp new)
theorem Ad.write {x e:Addr}{o:HO} (I:Ad X pins σ H s) (mu:EX (H x)) (he:e=x\/H e=some (.own x)) (k:∀b u,b≠e->s.heap.get? b=some u->h'.get? b=some u) (heo:∃u,h'.get? e=some u)
  (new:ObjOk X.prog X.w (upd H x o) h' x o):Ad X pins σ (upd H x o) { s with heap:=h',toks:=t'}:=I.un (Un.write mu he k heo) (I.hok.write mu he k heo new)
theorem Ad.weak {σ':List (Option V)} (I:Ad X pins σ H s) (hl:σ'.length=σ.length) (w:∀(i:Nat) v,σ'[i]? =some (some v)->σ[i]? =some (some v)):Ad X pins σ' H s:=
 ⟨I.ok,I.os,I.bare,I.base,let ⟨m,hn,hl'⟩:=I.loc;⟨m,hn,λi x v e1 e2 e3=>hl' i x v e1 (w i v e2) e3⟩,I.cell,I.free,I.freeC,I.pin,I.hok,hl.trans I.len⟩
theorem Ad.pins_of {pins':List (Addr×Obj)} (I:Ad X pins σ H s) (h:∀p∈pins',s.heap.get? p.1=some p.2/\H p.1=none/\p.1≠X.env.locals/\p.1 ∉ X.fs/\∀v,p.2.data≠ .cell v):Ad X pins' σ H s:=
 ⟨I.ok,I.os,I.bare,I.base,I.loc,I.cell,I.free,I.freeC,λp hp=>(List.mem_append.mp hp).elim (λz=>I.pin p (List.mem_append_left _ z)) (h p),I.hok,I.len⟩
theorem JN {N:List Str} (hN:N.Nodup) {i j:Nat}{x:Str} (a:N[i]? =some x) (b:N[j]? =some x):i=j:=by
 obtain⟨h1,e1⟩:=List.getElem?_eq_some_iff.mp a
 obtain⟨h2,e2⟩:=List.getElem?_eq_some_iff.mp b
 exact(List.getElem_inj hN).mp (e1.trans e2.symm)
theorem Ib {A:Around}{x:Str} (I:Ad X pins σ H s) (hN:X.N.Nodup) (hi:X.N[i]? =some x) (hx:DC X.env.scope x) (r:Ay v u)
  (h:∀s',Ad X pins (σ.set i (some v)) H s'->(∃a,Heap.SameBut a s.heap s'.heap/\(a=X.env.locals\/X.env.cells.lookup x=some a))->Q () s') (hf:X.fn x=true\/X.env.scope.names.lookup x=some .local :=by first | exact .inl rfl | exact .inr rfl | assumption):wpAny M A (storeName X.env x u) Q E s:=by
 obtain⟨m,hn,hl⟩:=id I.loc
 have hcls:(X.env.scope.kind== .class || (X.env.scope.kind== .module && X.env.locals !=X.env.globals))=false:=by rw [I.ok.kind];rfl
 have hiσ:i<σ.length:=by rw [I.len];exact(List.getElem?_eq_some_iff.mp hi).1
 have cne:=I.cne
 have tracked:∀ {a:Addr}{h':Heap},(∃o,s.heap.get? a=some o/\H a=none)->Heap.SameBut a s.heap h'->HOk X.prog X.w H h':=λ{a h'} ha hs b ob e=>by
  obtain⟨_,_,hfree⟩:=ha
  refine(I.hok b ob e).stay (λc w' hc q=>(hs.2 c ?_).trans q) (λ_ q=>q) λ_ _ q=>q
  rintro rfl
  rcases hc with rfl | hc
  ·rw [hfree] at e;cases e
  ·rw [hfree] at hc;cases hc
 rcases hx with hk | hk
 ·refine wpAny_storeName_local hk hn (λh' hn' hs=>?_) hcls
  obtain⟨oL,_,_,hoL,_⟩:=id hn
  refine h _ ⟨I.ok,I.os,I.bare,⟨λb o e n hb hx=>?_,λb o e n hb hx=>?_,I.base.free,λb o e hx=>?_,I.base.tups,I.base.frzs,I.base.tbls⟩,⟨_,hn',λj y v' e1 e2 e3=>?_⟩,λy c e=>?_,I.free,I.freeC,λp hp=>?_,tracked ⟨oL,hoL,I.free⟩ hs,by simpa using I.len⟩ ⟨_,hs,.inl rfl⟩
  ·exact(hs.2 b (Nat.ne_of_lt (Nat.lt_of_lt_of_le (Heap.lt_size e) I.ok.above))).trans (I.base.keep b o e n hb hx)
  ·obtain⟨sl,e1⟩:=I.base.slot b o e n hb hx
   exact⟨sl,(hs.2 b (Nat.ne_of_lt (Nat.lt_of_lt_of_le (Heap.lt_size e) I.ok.above))).trans e1⟩
  ·obtain⟨o',e1⟩:=I.base.there b o e hx
   exact⟨o',(hs.2 b (Nat.ne_of_lt (Nat.lt_of_lt_of_le (Heap.lt_size e) I.ok.above))).trans e1⟩
  ·by_cases hj:j=i
   ·subst hj
    rw [hi] at e1;cases e1
    rw [List.getElem?_set_self hiσ] at e2
    cases e2
    exact⟨u,r,.inl ⟨hk,by simp⟩⟩
   ·rw [List.getElem?_set_ne (Ne.symm hj)] at e2
    obtain⟨u',r',q⟩:=hl j y v' e1 e2 e3
    refine⟨u',r',?_⟩
    rcases q with⟨k,e⟩ | ⟨k,c,e,z⟩
    ·refine .inl ⟨k,?_⟩
     have:y≠x:=λe=>hj (JN hN e1 (e ▸ hi))
     simp [this,e]
    ·exact .inr ⟨k,c,e,z.sameBut hs (cne y c e)⟩
  ·obtain⟨w',z⟩:=I.cell y c e
   exact⟨w',z.sameBut hs (cne y c e)⟩
  ·obtain⟨e,n,ne,nf,d⟩:=I.pin p hp
   exact⟨(hs.2 p.1 ne).trans e,n,ne,nf,d⟩
 ·have hfn:X.fn x=true:=by
   rcases hf with z | z
   ·exact z
   ·rw [z] at hk;cases hk
  obtain⟨c,hc⟩:=I.ok.has x (.inl hk)
  obtain⟨w',z⟩:=I.cell x c hc
  refine wpAny_storeName_cell I.ok.kind hk hc z (λh' hc' hs=>?_)
  obtain⟨oc,hoc,hocd⟩:=id z
  refine h { s with heap:=h'} ⟨I.ok,I.os,I.bare,⟨λb o e n hb hx=>?_,λb o e n hb hx=>?_,I.base.free,λb o e hx=>?_,I.base.tups,I.base.frzs,I.base.tbls⟩,⟨m,hn.sameBut hs (Ne.symm (cne x c hc)),λj y v' e1 e2 e3=>?_⟩,λy c' e=>?_,I.free,I.freeC,λp hp=>?_,tracked ⟨oc,hoc,I.freeC x c hc⟩ hs,by simpa using I.len⟩ ⟨c,hs,.inr hc⟩
  ·exact(hs.2 b (Nat.ne_of_lt (Nat.lt_of_lt_of_le (Heap.lt_size e) (I.ok.cab x c hfn hc)))).trans (I.base.keep b o e n hb hx)
  ·obtain⟨sl,e1⟩:=I.base.slot b o e n hb hx
   exact⟨sl,(hs.2 b (Nat.ne_of_lt (Nat.lt_of_lt_of_le (Heap.lt_size e) (I.ok.cab x c hfn hc)))).trans e1⟩
  ·obtain⟨o',e1⟩:=I.base.there b o e hx
   exact⟨o',(hs.2 b (Nat.ne_of_lt (Nat.lt_of_lt_of_le (Heap.lt_size e) (I.ok.cab x c hfn hc)))).trans e1⟩
  ·by_cases hj:j=i
   ·subst hj
    rw [hi] at e1;cases e1
    rw [List.getElem?_set_self hiσ] at e2
    cases e2
    exact⟨u,r,.inr ⟨.inl hk,c,hc,hc'⟩⟩
   ·rw [List.getElem?_set_ne (Ne.symm hj)] at e2
    obtain⟨u',r',q⟩:=hl j y v' e1 e2 e3
    refine⟨u',r',?_⟩
    rcases q with q | ⟨k,c',e,z'⟩
    ·exact .inl q
    ·refine .inr ⟨k,c',e,z'.sameBut hs ?_⟩
     rintro rfl
     exact hj (JN hN e1 (I.ok.inj _ _ _ e hc ▸ hi))
  ·by_cases hcc:c'=c
   ·subst hcc;exact⟨_,hc'⟩
   ·obtain⟨w2,z2⟩:=I.cell y c' e
    exact⟨w2,z2.sameBut hs hcc⟩
  ·obtain⟨e,n,ne,nf,d⟩:=I.pin p hp
   refine⟨(hs.2 p.1 ?_).trans e,n,ne,nf,d⟩
   intro q
   rw [q,hoc] at e
   have q':oc=p.2:=Option.some.inj e
   exact d w' (by rw [<-q'];exact hocd)
theorem EZ {A:Around}{x:Str} (I:Ad X pins σ H s) (hN:X.N.Nodup) (hi:X.N[i]? =some x) (hx:DC X.env.scope x) (r:Ay v u)
  (h:∀s',Ad X pins (σ.set i (some v)) H s'->Q () s') (hf:X.fn x=true\/X.env.scope.names.lookup x=some .local :=by first | exact .inl rfl | exact .inr rfl | assumption):wpAny M A (storeName X.env x u) Q E s:=
 Ib I hN hi hx r (λs' I' _=>h s' I') hf
theorem Ad.call' {s':Shared} (I:Ad X pins σ H s) (ho:s'.os=s.os) (u:Un (B0 X.stack) ch H H' s.heap s'.heap) (hok:HOk X.prog X.w H' s'.heap) (hg:AllBare s'.gens)
  (hch:∀b∈ch,(b∈X.ex\/X.s₀.heap.objs.size<=b)/\b≠X.env.locals/\(∀x c,X.env.cells.lookup x=some c->c≠b)/\∀p∈X.pn++pins,p.1≠b):Ad X pins σ H' s':=by
 obtain⟨h',g',d',t',o'⟩:=s'
 have e:o'=s.os:=ho
 subst e
 exact I.call (g':=g') (t':=t') (d':=d') u hok hg hch
end
abbrev XK:=Value->Option Addr->Hp->Prop
abbrev St:=List (Option V)
abbrev VK:=V->Hp->Prop
abbrev TE:=St->Hp->VK->Prop
abbrev TT:=St->Hp->(Bool->Hp->Prop)->Prop
abbrev TA:=St->Hp->(List V->Hp->Prop)->Prop
structure CU where
 nx:St->Hp->Prop
 rt:VK
 bk:St->Hp->Prop:=λ_ _=>False
 ct:St->Hp->Prop:=λ_ _=>False
abbrev TS:=CU->St->Hp->Prop
def EP (X:Cx) (pins:List (Addr×Obj)) (σ:St) (Q:VK) (u:Value) (s':Shared):Prop:=∃v H',Ad X pins σ H' s'/\Ay v u/\Q v H'
def TP (X:Cx) (pins:List (Addr×Obj)) (σ:St) (Q:Bool->Hp->Prop) (b:Bool) (s':Shared):Prop:=∃H',Ad X pins σ H' s'/\Q b H'
def AP (X:Cx) (pins:List (Addr×Obj)) (σ:St) (Q:List V->Hp->Prop) (us:List Value) (s':Shared):Prop:=∃vs H',Ad X pins σ H' s'/\Ar vs us/\Q vs H'
def SP (X:Cx) (pins:List (Addr×Obj)) (D:CU) (f:Flow) (s':Shared):Prop:=
 match f with
 | .next=>∃σ' H',Ad X pins σ' H' s'/\D.nx σ' H'
 | .brk=>∃σ' H',Ad X pins σ' H' s'/\D.bk σ' H'
 | .cont=>∃σ' H',Ad X pins σ' H' s'/\D.ct σ' H'
 | .ret u=>∃v σ' H',Ad X pins σ' H' s'/\Ay v u/\D.rt v H'
def PE (X:Cx) (e:Expr) (t:TE):Prop:=
 ∀(pins:List (Addr×Obj)) (s:Shared) (σ:St) (H:Hp) (Q:VK),Ad X pins σ H s->t σ H Q->wpAny (model X.prog X.w) X.A (eval e X.env) (EP X pins σ Q) X.xe s
def PT (X:Cx) (e:Expr) (t:TT):Prop:=
 ∀(pins:List (Addr×Obj)) (s:Shared) (σ:St) (H:Hp) (Q:Bool->Hp->Prop),Ad X pins σ H s->t σ H Q->wpAny (model X.prog X.w) X.A (isTrue e X.env (eval e X.env)) (TP X pins σ Q) X.xe s
def PW (X:Cx) (e:Expr) (t:TT):Prop:=
 ∀(whole:Sem Value) (pins:List (Addr×Obj)) (s:Shared) (σ:St) (H:Hp) (Q:Bool->Hp->Prop),Ad X pins σ H s->t σ H Q->wpAny (model X.prog X.w) X.A (isTrue e X.env whole) (TP X pins σ Q) X.xe s
theorem PW.pt {X:Cx}{e:Expr}{t:TT} (h:PW X e t):PT X e t:=h _
def PA (X:Cx) (es:List Expr) (t:TA):Prop:=
 ∀(pos:Pos) (pins:List (Addr×Obj)) (s:Shared) (σ:St) (H:Hp) (Q:List V->Hp->Prop),Ad X pins σ H s->t σ H Q->wpAny (model X.prog X.w) X.A (spliced (backTo pos (starEach es X.env))) (AP X pins σ Q) X.xe s
def PS (X:Cx) (st:Stmt) (t:TS):Prop:=
 ∀(pins:List (Addr×Obj)) (s:Shared) (σ:St) (H:Hp) (D:CU),Ad X pins σ H s->t D σ H->wpAny (model X.prog X.w) X.A (exec st X.env) (SP X pins D) X.xe s
def PSs (X:Cx) (st:List Stmt) (t:TS):Prop:=
 ∀(pins:List (Addr×Obj)) (s:Shared) (σ:St) (H:Hp) (D:CU),Ad X pins σ H s->t D σ H->wpAny (model X.prog X.w) X.A (execs st X.env) (SP X pins D) X.xe s
theorem Aq {α:Type}{t:Sem α}{Q Q':α->Shared->Prop}{A:Around}{s:Shared} (h:wpAny M A t Q E s) (hQ:∀a s,Q a s->Q' a s):wpAny M A t Q' E s:=wpAny_mono h hQ λ_ _ x=>x
end L2
namespace L2
open PySem PySem.Spec PyProof.Rows
variable {E Q : Value -> Shared -> Prop} {pins : List (Addr × Obj)} {s : Shared} {σ : St} {H : Hp} {u : Value} {v : V}
section
variable {X : Cx}
def Nh (i:Nat):TE:=fun σ H Q=>∃v,σ[i]? =some (some v)/\Q v H
def tC (v:V):TE:=λ_ H Q=>Q v H
theorem Ni {i:Nat}{x:Str}{pos:Pos} (hN:X.N[i]? =some x) (hv:EY X.env.scope x) (hd:(x==("__debug__" :Str))=false:=by decide) (hcd:(x==("__classdict__" :Str))=false:=by decide):PE X (.Name x pos) (Nh i):=by
 intro pins s σ H Q I h
 obtain⟨v,e,h⟩:=h
 obtain⟨m,hn,hl⟩:=I.loc
 obtain⟨u,r,l⟩:=hl i x v hN e hv
 have fin:EP X pins σ Q u s:=⟨v,H,I,r,h⟩
 rcases l with⟨hk,hm⟩ | ⟨hk,c,hc,hcell⟩
 ·exact wpAny_Name (wpAny_loadName_local I.ok.kind hk hn hm fin) hd
 ·rcases hk with hk | hk
  ·exact wpAny_Name (wpAny_loadName_cell I.ok.kind hk hc hcell fin) hd
  ·exact wpAny_Name (wpAny_loadName_free I.ok.kind hk hc hcell fin hcd) hd
theorem Af {i j pos}:PE X (.Constant (.int i) j pos) (tC (.int i)):=λ_ _ _ H _ I h=>wpAny_Constant_int ⟨.int i,H,I.tok _,⟨_,rfl⟩,h⟩
theorem Ch {b j pos}:PE X (.Constant (.bool b) j pos) (tC (.bl b)):=λ_ _ _ H _ I h=>Constant_bool ⟨.bl b,H,I,rfl,h⟩
theorem BM {j pos}:PE X (.Constant .none j pos) (tC .non):=λ_ _ _ H _ I h=>Constant_none ⟨.non,H,I,rfl,h⟩
theorem DD {x j pos}:PE X (.Constant (.str x) j pos) (tC (.str x)):=λ_ _ _ H _ I h=>Calls.Constant_str ⟨.str x,H,I.tok _,⟨_,rfl⟩,h⟩
def Gl (X:Cx) (x:Str):Prop:=X.env.kindOf x=some .globalImplicit
theorem JO {x:Str}{pos:Pos} (I:Ad X pins σ H s) (hg:Gl X x) (hm:X.mg x=some u) (h:Q u s)
  (hd:(x==("__debug__" :Str))=false:=by decide):wpAny (model X.prog X.w) X.A (eval (.Name x pos) X.env) Q E s:=
 Calls.Name_function_global I.ok.kind hg (Calls.loadGlobal_global (by rw [I.ok.glob];exact I.mod.glob.keeps I.bk) hm h) hd
theorem CB {x:Str}{pos:Pos} (I:Ad X pins σ H s) (hg:Gl X x) (hm:X.mg x=none) (hv:bootBuiltins x=some u) (h:Q u s)
  (hn:x≠ "__name__" :=by decide) (hd:(x==("__debug__" :Str))=false:=by decide):wpAny (model X.prog X.w) X.A (eval (.Name x pos) X.env) Q E s:=by
 obtain⟨mb,h1,h2⟩:=I.mod.blt
 exact Calls.Name_function_global I.ok.kind hg (Calls.loadGlobal_builtin (by rw [I.ok.glob];exact I.mod.glob.keeps I.bk) hm (by rw [I.ok.blt];exact h1.keeps I.bk) ((h2 x hn).trans hv) h) hd
theorem CV {x:Str}{pos:Pos} (hg:Gl X x) (hm:X.mg x=some u) (r:Ay v u) (hd:(x==("__debug__" :Str))=false:=by decide):PE X (.Name x pos) (tC v):=
 λ_ _ _ H _ I h=>JO I hg hm ⟨v,H,I,r,h⟩ hd
theorem Ic {x:Str}{pos:Pos} (hg:Gl X x) (hm:X.mg x=none) (hv:bootBuiltins x=some u) (r:Ay v u) (hn:x≠ "__name__" :=by decide) (hd:(x==("__debug__" :Str))=false:=by decide):PE X (.Name x pos) (tC v):=
 λ_ _ _ H _ I h=>CB I hg hm hv ⟨v,H,I,r,h⟩ hn hd
variable {a b : Expr} {ta tb : TE} {pos : Pos}
def tB (t:TE):TT:=fun σ H Q=>t σ H λx H1=>∃c,x= .bl c/\Q c H1
variable {tA tB' : TT} {Cq : List Expr}
def Nj (t:TT):TT:=fun σ H Q=>t σ H λc H1=>Q (!c) H1
theorem FV (ha:PT X a tA):PW X (.BoolOp .And [a] pos) tA:=by
 intro wh pins s σ H Q I h
 refine isTrue_and (Aq (ha pins s σ H Q I h) λc s1 e=>?_)
 cases c with
 | true=>exact isTrue_and_nil e
 | false=>exact e
theorem E1 (ha:PT X a tA):PW X (.BoolOp .Or [a] pos) tA:=by
 intro wh pins s σ H Q I h
 refine isTrue_or (Aq (ha pins s σ H Q I h) λc s1 e=>?_)
 cases c with
 | false=>exact isTrue_or_nil e
 | true=>exact e
theorem Ca (ha:PT X a tA):PT X (.UnaryOp .Not a pos) (Nj tA):=by
 intro pins s σ H Q I h
 exact isTrue_not (ha pins s σ H (λc H1=>Q (!c) H1) I h)
theorem CC {op}{t:TE} (h:PE X a t):PE X (.BoolOp op [a] pos) t:=λpins s σ H Q I hw=>BoolOp_one (h pins s σ H Q I hw)
end
end L2
namespace L2
open PySem PySem.Spec PyProof.Rows
variable {P : Program} {tg : Expr}
def Al (K:PySem.W.Frag) (H:Hp) (a:Addr) (xs:List V):Prop:=
 Rd H a (.lst xs)\/
  ∃(o:Obj) (its:Array Value) (n:Nat),K.lookup a=some o/\o.cls= .type "list" /\o.dict=none/\o.data= .seq its n/\its.size<=sizeLine/\Ar xs its.toList
def Ae (K:PySem.W.Frag) (H:Hp) (a:Addr) (xs:List V):Prop:=
 Rd H a (.tup xs)\/
  ∃(o:Obj) (its:Array Value) (n:Nat),K.lookup a=some o/\o.cls= .type "tuple" /\o.data= .seq its n/\its.size<=sizeLine/\Ar xs its.toList
def Nk:Value->Option V
 | .none=>some .non
 | .bool b=>some (.bl b)
 | .int i _=>some (.int i)
 | .str x _=>some (.str x)
 | .bytes b _=>some (.byt b)
 | .float b _=>some (.flt b)
 | .ref a=>some (.ref a)
 | .type n=>some (.ty n)
 | _=>none
theorem Ay.abs {x:V}{u:Value} (r:Ay x u):Nk u=some x:=by
 cases x with
 | non=>cases r;rfl
 | bl _=>cases r;rfl
 | int _=>obtain⟨t,rfl⟩:=r;rfl
 | str _=>obtain⟨t,rfl⟩:=r;rfl
 | byt _=>obtain⟨t,rfl⟩:=r;rfl
 | flt _=>obtain⟨t,rfl⟩:=r;rfl
 | ref _=>cases r;rfl
 | ty _=>cases r;rfl
theorem Ay.inj {x y:V}{u:Value} (r:Ay x u) (q:Ay y u):x=y:=Option.some.inj (r.abs.symm.trans q.abs)
theorem Ar.inj:∀ {xs ys:List V}{us:List Value},Ar xs us->Ar ys us->xs=ys
 | _,_,_,.nil,.nil=>rfl
 | _,_,_,.cons r t,.cons r' t'=>by rw [r.inj r',Ar.inj t t']
section
variable {X : Cx} {pins : List (Addr × Obj)} {σ : St} {H : Hp} {s : Shared} {a : Addr} {xs ys : List V}
theorem Al.of {K:PySem.W.Frag} (h:H a=some (.lst xs)):Al K H a xs:= .inl (.inl h)
theorem Ae.of {K:PySem.W.Frag} (h:H a=some (.tup xs)):Ae K H a xs:= .inl (.inl h)
theorem Ad.list (I:Ad X pins σ H s) (h:Al X.K H a xs):∃its:List Value,Ar xs its/\PlainL s.heap a its.toArray/\xs.length<=sizeLine:=by
 rcases h with h | ⟨o,its,n,hk,hc,hd,hs,hz,r⟩
 ·obtain⟨z,its,n,r,e⟩:=h.ok I.hok
  exact⟨its,r,⟨_,n,e,rfl,rfl,rfl⟩,z⟩
 ·refine⟨its.toList,r,⟨o,n,I.kIn a o hk,hc,hd,by simpa using hs⟩,?_⟩
  have e:=r.length
  simp only [Array.length_toList] at e
  omega
theorem Ad.tuple (I:Ad X pins σ H s) (h:Ae X.K H a xs):∃its:List Value,Ar xs its/\IsTup s.heap a its.toArray/\xs.length<=sizeLine:=by
 rcases h with h | ⟨o,its,n,hk,hc,hs,hz,r⟩
 ·obtain⟨z,its,r,p⟩:=h.ok I.hok
  exact⟨its,r,p,z⟩
 ·refine⟨its.toList,r,⟨o,I.kIn a o hk,hc,n,by simpa using hs⟩,?_⟩
  have e:=r.length
  simp only [Array.length_toList] at e
  omega
theorem Ad.list_inj (I:Ad X pins σ H s) (h:Al X.K H a xs) (h':Al X.K H a ys):xs=ys:=by
 obtain⟨its,r,⟨o,n,e,_,_,d⟩,_⟩:=I.list h
 obtain⟨its',r',⟨o',n',e',_,_,d'⟩,_⟩:=I.list h'
 rw [e] at e';cases e'
 rw [d] at d'
 injection d' with d1 _
 have:its=its':=by simpa using congrArg Array.toList d1
 subst this
 exact r.inj r'
theorem Ad.tuple_inj (I:Ad X pins σ H s) (h:Ae X.K H a xs) (h':Ae X.K H a ys):xs=ys:=by
 obtain⟨its,r,⟨o,e,_,n,d⟩,_⟩:=I.tuple h
 obtain⟨its',r',⟨o',e',_,n',d'⟩,_⟩:=I.tuple h'
 rw [e] at e';cases e'
 rw [d] at d'
 injection d' with d1 _
 have:its=its':=by simpa using congrArg Array.toList d1
 subst this
 exact r.inj r'
end
abbrev Cx.wish (X:Cx) (E:Value->Shared->Prop):Cx:= { X with xe:=E}
abbrev Cx.nox (X:Cx):Cx:=X.wish λ_ _=>False
theorem Cx.Ok.wish {X:Cx} (ok:X.Ok) (E:Value->Shared->Prop):(X.wish E).Ok:=
 ⟨ok.mod,ok.kind,ok.glob,ok.blt,ok.above,ok.inj,ok.has,ok.cab,ok.hd,ok.frames,ok.stk,ok.exf,ok.bs,ok.bsz,ok.noex,ok.exfs,ok.funs,ok.frf⟩
theorem Cx.Ok.unwish {X:Cx}{E:Value->Shared->Prop} (ok:(X.wish E).Ok):X.Ok:=
 ⟨ok.mod,ok.kind,ok.glob,ok.blt,ok.above,ok.inj,ok.has,ok.cab,ok.hd,ok.frames,ok.stk,ok.exf,ok.bs,ok.bsz,ok.noex,ok.exfs,ok.funs,ok.frf⟩
section
variable {X : Cx} {pins : List (Addr × Obj)} {σ : St} {H : Hp} {s : Shared} {E : Value -> Shared -> Prop}
theorem Ad.wish (I:Ad X pins σ H s) (E:Value->Shared->Prop):Ad (X.wish E) pins σ H s:=⟨I.ok.wish E,I.os,I.bare,I.base,I.loc,I.cell,I.free,I.freeC,I.pin,I.hok,I.len⟩
theorem Ad.unwish (I:Ad (X.wish E) pins σ H s):Ad X pins σ H s:=⟨I.ok.unwish,I.os,I.bare,I.base,I.loc,I.cell,I.free,I.freeC,I.pin,I.hok,I.len⟩
theorem SP.unwish {D:CU}{f:Flow}{s':Shared} (h:SP (X.wish E) pins D f s'):SP X pins D f s':=by
 cases f with
 | next=>obtain⟨σ',H',I,q⟩:=h;exact⟨σ',H',I.unwish,q⟩
 | brk=>obtain⟨σ',H',I,q⟩:=h;exact⟨σ',H',I.unwish,q⟩
 | cont=>obtain⟨σ',H',I,q⟩:=h;exact⟨σ',H',I.unwish,q⟩
 | ret u=>obtain⟨v,σ',H',I,r,q⟩:=h;exact⟨v,σ',H',I.unwish,r,q⟩
theorem PSs.nox {st:List Stmt}{t:TS} (h:PSs X.nox st t):PSs X st t:=λpins s σ H D I hw=>
 wpAny_mono (h pins s σ H D (I.wish _) hw) (λ_ _ q=>q.unwish) λ_ _ z=>False.elim z
end
section
variable {X : Cx} {st : Stmt} {Cq : List Stmt} {t u : TS} {e : Expr} {te : TE} {pos : Pos}
def Nl:TS:=λD σ H=>D.nx σ H
def Nm (t u:TS):TS:=λD σ H=>t { D with nx:=u D} σ H
theorem A8:PSs X [] Nl:=λ_ _ σ H _ I h=>wpAny_execs_nil ⟨σ,H,I,h⟩
theorem Ai (h1:PS X st t) (h2:PSs X Cq u):PSs X (st::Cq) (Nm t u):=by
 intro pins s σ H D I h
 refine wpAny_execs_cons (Aq (h1 pins s σ H { D with nx:=u D} I h) λf s1 q=>?_)
 cases f with
 | next=>
  obtain⟨σ',H',I',q⟩:=q
  exact h2 pins s1 σ' H' D I' q
 | ret v=>exact q
 | brk=>exact q
 | cont=>exact q
theorem An (h1:PS X st t):PSs X [st] t:=by
 intro pins s σ H D I h
 refine wpAny_execs_cons (Aq (h1 pins s σ H D I h) λf s1 q=>?_)
 cases f with
 | next=>exact wpAny_execs_nil q
 | ret v=>exact q
 | brk=>exact q
 | cont=>exact q
theorem Ad.quiet {pins:List (Addr×Obj)}{σ:St}{H:Hp}{s:Shared} (I:Ad X pins σ H s):interactive X.env=false:=by simp [interactive,I.ok.kind]
def Nn (te:TE):TS:=λD σ H=>te σ H λ_ H1=>D.nx σ H1
theorem Bq (he:PE X e te) (hs:swapsWith e none pos.line X.env=pure false:=by rfl):PS X (.Expr e pos) (Nn te):=by
 intro pins s σ H D I h
 exact wpAny_Expr_any (Aq (he pins s σ H _ I h) λv s1 ⟨x,H1,I1,r1,q1⟩=>⟨σ,H1,I1,q1⟩) I.quiet hs
def No (te:TE):TS:=λD σ H=>te σ H D.rt
theorem Aw (he:PE X e te):PS X (.Return (some e) pos) (No te):=by
 intro pins s σ H D I h
 exact wpAny_Return_some (Aq (he pins s σ H _ I h) λv s1 ⟨x,H1,I1,r1,q1⟩=>⟨x,σ,H1,I1,r1,q1⟩)
def Np:TS:=λ_ _ _=>False
theorem El:PS X st Np:=λ_ _ _ _ _ _ h=>h.elim
end
abbrev TG:=V->St->Hp->(St->Hp->Prop)->Prop
abbrev DE:=List V->St->Hp->(St->Hp->Prop)->Prop
def PG (X:Cx) (target:Expr) (t:TG):Prop:=
 ∀(pins:List (Addr×Obj)) (s:Shared) (σ:St) (H:Hp) (v:V) (u:Value) (Q:St->Hp->Prop),Ad X pins σ H s->Ay v u->t v σ H Q->
  wpAny (model X.prog X.w) X.A (assign target X.env u) (λ_ s'=>∃σ' H',Ad X pins σ' H' s'/\Q σ' H') X.xe s
def E2 (X:Cx) (ts:List Expr) (t:DE):Prop:=
 ∀(pins:List (Addr×Obj)) (s:Shared) (σ:St) (H:Hp) (vs:List V) (us:List Value) (Q:St->Hp->Prop),Ad X pins σ H s->Ar vs us->t vs σ H Q->
  wpAny (model X.prog X.w) X.A (assignInOrder ((assignEach ts X.env).map (·.2)) us) (λ_ s'=>∃σ' H',Ad X pins σ' H' s'/\Q σ' H') X.xe s
abbrev Id:=V->V->V->Hp->(Hp->Prop)->Prop
def JP (X:Cx) (t:Id):Prop:=
 ∀(pins:List (Addr×Obj)) (s:Shared) (σ:St) (H:Hp) (o i v:V) (ov iv u:Value) (Q:Hp->Prop),Ad X pins σ H s->Ay o ov->Ay i iv->Ay v u->t o i v H Q->
  wpAny (model X.prog X.w) X.A (setItem ov iv u) (λ_ s'=>∃H',Ad X pins σ H' s'/\Q H') X.xe s
abbrev FW:=V->V->Hp->VK->Prop
def Ie (X:Cx) (op:Operator) (t:FW):Prop:=
 ∀(pins:List (Addr×Obj)) (s:Shared) (σ:St) (H:Hp) (x y:V) (v u:Value) (Q:VK),Ad X pins σ H s->Ay x v->Ay y u->t x y H Q->
  wpAny (model X.prog X.w) X.A (inplaceOp op v u) (EP X pins σ Q) X.xe s
section
variable {X : Cx} {pos : Pos}
def DF (i:Nat):TG:=λv σ H Q=>Q (σ.set i (some v)) H
theorem Nq {i:Nat}{x:Str} (hN:X.N.Nodup) (hi:X.N[i]? =some x) (hx:DC X.env.scope x) (hf:X.fn x=true\/X.env.scope.names.lookup x=some .local :=by first | exact .inl rfl | exact .inr rfl | assumption):PG X (.Name x pos) (DF i):=by
 intro pins s σ H v u Q I r h
 exact wpAny_assign_Name (EZ I hN hi hx r (λs' I'=>⟨_,H,I',h⟩) hf)
def Ig:DE:=λvs σ H Q=>vs=[]/\Q σ H
def E3 (t:TG) (u:DE):DE:=λvs σ H Q=>∃v r,vs=v::r/\t v σ H fun σ' H'=>u r σ' H' Q
theorem AK:E2 X [] Ig:=by
 intro pins s σ H vs us Q I r h
 obtain⟨e,h⟩:=h
 subst e
 cases r
 exact assignInOrder_nil ⟨σ,H,I,h⟩
theorem Ak {e:Expr}{es:List Expr}{t:TG}{u:DE} (h1:PG X e t) (h2:E2 X es u)
  (hs:(assignEach (e::es) X.env).map (·.2)=assign e X.env::(assignEach es X.env).map (·.2):=by rfl):E2 X (e::es) (E3 t u):=by
 intro pins s σ H vs us Q I r h
 obtain⟨v,vr,e1,h⟩:=h
 subst e1
 cases r with
 | cons r rr=>
  rw [hs]
  refine assignInOrder_cons (Aq (h1 pins s σ H _ _ _ I r h) λ_ s1 ⟨σ1,H1,I1,q1⟩=>?_)
  exact h2 pins s1 σ1 H1 _ _ Q I1 rr q1
def FX (K:PySem.W.Frag) (n:Nat) (t:DE):TG:=λv σ H Q=>∃a xs,v= .ref a/\Ae K H a xs/\xs.length=n/\t xs σ H Q
theorem Nr {es:List Expr}{k:Nat}{t:DE}{n:Nat} (hc:X.calm=true) (h:E2 X es t)
  (hn:(assignEach es X.env).length=n:=by rfl) (hst:(assignEach es X.env).findIdx? (·.1)=none:=by rfl):PG X (.Tuple es k pos) (FX X.K n t):=by
 intro pins s σ H v u Q I r hw
 obtain⟨a,xs,e1,hq,hl,hw⟩:=hw
 subst e1
 cases r
 obtain⟨its,rv,ht,hz⟩:=I.tuple hq
 refine assign_Tuple_tuple (I.ok.hd hc) ht (by simp [hn,<-hl,rv.length]) hst λh' hx=>?_
 have I1:Ad X pins σ H { s with heap:=h'}:=I.kept (t':=s.toks) λb o e=>hx b o (Nat.ne_of_lt (Heap.lt_size e)) e
 exact h pins _ σ H xs _ Q I1 (by simpa using rv) hw
def Nt (to ti:TE) (t:Id):TG:=λv σ H Q=>to σ H λo H1=>ti σ H1 λi H2=>t o i v H2 λH3=>Q σ H3
theorem FY {o i:Expr}{to ti:TE}{t:Id} (ho:PE X o to) (hi:PE X i ti) (hs:JP X t)
  (ha : ∀ v, assign (.Subscript o i pos) X.env v = (do
   let ov<-holding [v] (eval o X.env)
   let iv<-holding [v,ov] (eval i X.env)
   standAt pos
   holding [v,ov,iv] (setItem ov iv v)
   release [v,ov,iv] []):=by intro _;rfl):PG X (.Subscript o i pos) (Nt to ti t):=by
 intro pins s σ H v u Q I r h
 rw [ha]
 refine wpAny_bind (wpAny_holding (Aq (ho pins s σ H _ I h) λov s1 ⟨x,H1,I1,r1,q1⟩=>?_))
 refine wpAny_bind (wpAny_holding (Aq (hi pins s1 σ H1 _ I1 q1) λiv s2 ⟨y,H2,I2,r2,q2⟩=>?_))
 refine wpAny_bind (wpAny_standAt (wpAny_bind (wpAny_holding (Aq (hs pins s2 σ H2 x y v ov iv u _ I2 r1 r2 r q2) λ_ s3 ⟨H3,I3,q3⟩=>?_))))
 exact wpAny_release ⟨σ,H3,I3,q3⟩
def JQ (te:TE) (g:TG):TS:=λD σ H=>te σ H λx H1=>g x σ H1 D.nx
theorem Bl {tg e:Expr}{te:TE}{g:TG} (he:PE X e te) (hg:PG X tg g) (hs:swapsWithSole [tg] e pos.line X.env=pure false:=by rfl) (hw:swappedStores [tg] e X.env=pure none:=by rfl)
  (h1:(assignEach [tg] X.env).map (·.2)=[assign tg X.env]:=by rfl):PS X (.Assign [tg] e pos) (JQ te g):=by
 intro pins s σ H D I h
 refine wpAny_Assign_stores (Aq (he pins s σ H _ I h) λv s1 ⟨x,H1,I1,r1,q1⟩=>?_) hs hw
 rw [h1]
 exact Aq (hg pins s1 σ H1 x v _ I1 r1 q1) λ_ s2 q=>q
theorem AI {i:Nat}{x:Str}{e:Expr}{te:TE}{pos':Pos} (hN:X.N.Nodup) (hi:X.N[i]? =some x) (hx:DC X.env.scope x) (he:PE X e te) (hs:swapsWith e (some (.Name x pos')) pos.line X.env=pure false:=by rfl) (hf:X.fn x=true\/X.env.scope.names.lookup x=some .local :=by first | exact .inl rfl | exact .inr rfl | assumption):
  PS X (.Assign [.Name x pos'] e pos) (JQ te (DF i)):=by
 intro pins s σ H D I h
 refine wpAny_Assign_Name (Aq (he pins s σ H _ I h) λv s1 ⟨y,H1,I1,r1,q1⟩=>?_) hs
 exact EZ I1 hN hi hx r1 (λs2 I2=>⟨_,H1,I2,q1⟩) hf
def Nu (i j:Nat) (ta:TA):TS:=λD σ H=>ta σ H λvs H1=>∃v w,vs=[v,w]/\D.nx ((σ.set i (some v)).set j (some w)) H1
theorem FZ {i j:Nat}{x y:Str}{a b:Expr}{ta:TA}{px py pt:Pos}{kt k2 pt2} (hc:X.calm=true) (hN:X.N.Nodup) (hi:X.N[i]? =some x) (hj:X.N[j]? =some y) (hij:i≠j)
  (hx:X.env.scope.names.lookup x=some .local) (hy:X.env.scope.names.lookup y=some .local) (ha:PA X [a,b] ta)
  (hw:swappedStores [.Tuple [.Name x px,.Name y py] kt pt] (.Tuple [a,b] k2 pt2) X.env=pure (some [x,y]))
  (hs:swapsWithSole [.Tuple [.Name x px,.Name y py] kt pt] (.Tuple [a,b] k2 pt2) pos.line X.env=pure false:=by rfl):
  PS X (.Assign [.Tuple [.Name x px,.Name y py] kt pt] (.Tuple [a,b] k2 pt2) pos) (Nu i j ta):=by
 intro pins s σ H D I h
 rw [exec_Assign_arm]
 refine wpAny_bind (wpAny_standAt ?_)
 rw [hs]
 refine wpAny_bind (wpAny_pure ?_)
 rw [if_neg (by decide)]
 refine wpAny_bind (Tuple_ (Aq (ha _ pins s σ H _ I h) λus s1 ⟨vs,H1,I1,r1,q1⟩=>?_))
 obtain⟨v,w,e1,q1⟩:=q1
 subst e1
 obtain⟨u1,u2,rfl,rv,rw'⟩:∃u1 u2,us=[u1,u2]/\Ay v u1/\Ay w u2:=by
  cases r1 with
  | cons p q=>
   cases q with
   | cons p' q'=>
    cases q'
    exact⟨_,_,rfl,p,p'⟩
 refine wpAny_newObj_type ?_ (by show 2<=sizeLine;decide)
 have I2:Ad X pins σ H1 { s1 with heap:=s1.heap.push { cls:= .type "tuple",data:= .seq [u1,u2].toArray}}:=I1.kept (t':=s1.toks) λb o e=>Heap.get?_push_of_some _ e
 rw [hw]
 refine wpAny_bind (wpAny_pure ?_)
 show wpAny (model X.prog X.w) X.A (do rule "assign.swapped-stores";let items<-unpackItems (.ref s1.heap.objs.size) 2 none;assignInOrder [λv=>bindName X.env y v,λv=>bindName X.env x v] items.reverse;pure Flow.next) _ _ _
 refine wpAny_bind (wpAny_rule (wpAny_bind (unpackItems_tuple (items:= #[u1,u2]) (I.ok.hd hc) (IsTup.new s1.heap _) λh' hx'=>?_)))
 have I3:=I2.kept (h':=h') (t':=s1.toks) λb o e=>hx' b o (Nat.ne_of_lt (Heap.lt_size e)) e
 show wpAny _ _ (assignInOrder [λv=>bindName X.env y v,λv=>bindName X.env x v] [u2,u1] >>=λ_=>pure Flow.next) _ _ _
 refine wpAny_bind (assignInOrder_cons (wpAny_bindName (EZ I3 hN hj (.inl hy) rw' (λs2 I4=>?_) (.inr hy))))
 refine assignInOrder_cons (wpAny_bindName (EZ I4 hN hi (.inl hx) rv (λs3 I5=>assignInOrder_nil (wpAny_pure ?_)) (.inr hx)))
 rw [List.set_comm _ _ (Ne.symm hij)] at I5
 exact⟨_,H1,I5,q1⟩
def Nv (i:Nat) (te:TE) (ti:FW):TS:=λD σ H=>∃x,σ[i]? =some (some x)/\te σ H λy H1=>ti x y H1 λz H2=>D.nx (σ.set i (some z)) H2
theorem F1 {i:Nat}{x:Str}{e:Expr}{te:TE}{op:Operator}{ti:FW}{pos':Pos} (hN:X.N.Nodup) (hi:X.N[i]? =some x) (hx:DC X.env.scope x) (he:PE X e te) (ho:Ie X op ti) (hf:X.fn x=true\/X.env.scope.names.lookup x=some .local :=by first | exact .inl rfl | exact .inr rfl | assumption):
  PS X (.AugAssign (.Name x pos') op e pos) (Nv i te ti):=by
 intro pins s σ H D I h
 obtain⟨v,e1,h⟩:=h
 obtain⟨m,hn,hl⟩:=I.loc
 have vis:EY X.env.scope x:=by rcases hx with k | k;exact .inl k;exact .inr (.inl k)
 obtain⟨u,r,l⟩:=hl i x v hi e1 vis
 refine wpAny_AugAssign_Name ?_
 have go:wpAny (model X.prog X.w) X.A (eval e X.env) (λw s₂=>wpAny (model X.prog X.w) X.A (inplaceOp op u w) (λr s₃=>wpAny (model X.prog X.w) X.A (storeName X.env x r) (λ_=>SP X pins D .next) X.xe s₃) X.xe s₂) X.xe s:=by
  refine Aq (he pins s σ H _ I h) λw s1 ⟨y,H1,I1,r1,q1⟩=>?_
  refine Aq (ho pins s1 σ H1 v y u w _ I1 r r1 q1) λz s2 ⟨zv,H2,I2,r2,q2⟩=>?_
  exact EZ I2 hN hi hx r2 (λs3 I3=>⟨_,H2,I3,q2⟩) hf
 rcases l with⟨hk,hm⟩ | ⟨hk,c,hc,hcell⟩
 ·exact wpAny_loadName_local I.ok.kind hk hn hm go
 ·rcases hk with hk | hk
  ·exact wpAny_loadName_cell I.ok.kind hk hc hcell go
  ·rcases hx with k | k
   ·have:X.env.scope.names.lookup x=some .free:=hk
    rw [k] at this;cases this
   ·have:X.env.scope.names.lookup x=some .free:=hk
    rw [k] at this;cases this
def JR (f:Int->Int->Int):FW:=λx y H Q=>∃i j,x= .int i/\y= .int j/\Q (.int (f i j)) H
theorem JS:Ie X .Add (JR λi j=>i+j):=by
 intro pins s σ H x y v u Q I r1 r2 h
 obtain⟨i,j,e1,e2,q⟩:=h
 subst e1;subst e2
 obtain⟨t,rfl⟩:=r1
 obtain⟨t',rfl⟩:=r2
 exact iadd_int ⟨.int _,H,I.tok _,⟨_,rfl⟩,q⟩
theorem JT:Ie X .Sub (JR λi j=>i-j):=by
 intro pins s σ H x y v u Q I r1 r2 h
 obtain⟨i,j,e1,e2,q⟩:=h
 subst e1;subst e2
 obtain⟨t,rfl⟩:=r1
 obtain⟨t',rfl⟩:=r2
 exact isub_int ⟨.int _,H,I.tok _,⟨_,rfl⟩,q⟩
end
section
variable {X : Cx} {pos : Pos}
end
structure It where
 go:Nat->Hp->Prop
 yld:Nat->Hp->V->Hp->Prop
 stop:Nat->Hp->Prop
def BD (X:Cx) (pins:List (Addr×Obj)) (H:Hp) (b:Addr):Prop:=
 H b=none/\b≠X.env.locals/\b ∉ X.fs/\(b∈X.ex\/X.s₀.heap.objs.size<=b)/\(∀x c,X.env.cells.lookup x=some c->c≠b)/\∀p∈X.pn++pins,p.1≠b
theorem Ad.fpOk {X:Cx}{pins:List (Addr×Obj)}{σ:St}{H H':Hp}{s:Shared}{b:Addr} (I:Ad X pins σ H s) (hb:s.heap.objs.size<=b) (hn:H' b=none):BD X pins H' b:=by
 refine⟨hn,Nat.ne_of_gt (Nat.lt_of_lt_of_le I.lt hb),I.nofs hb,.inr (Nat.le_trans I.sz hb),λx c e z=>?_,λp hp z=>?_⟩
 ·obtain⟨v,q⟩:=I.cell x c e
  exact absurd (Nat.lt_of_lt_of_le q.lt (by rw [z];exact hb)) (Nat.lt_irrefl _)
 ·exact absurd (Nat.lt_of_lt_of_le (Heap.lt_size (I.pin p hp).1) (by rw [z];exact hb)) (Nat.lt_irrefl _)
structure CW (P:Program) (w:World) (K:PySem.W.Frag) (tg:Expr) (J:It) (fp:List Addr) (it:Addr) (tn:Nat->Heap->Prop):Prop where
 mem:it∈fp
 obj:∀i h,tn i h->∀b∈fp,∃o,h.get? b=some o/\∀v,o.data≠ .cell v
 keep:∀i h h',tn i h->(∀b∈fp,∀o,h.get? b=some o->h'.get? b=some o)->tn i h'
 item:∀(X:Cx),X.prog=P->X.w=w->X.K=K->X.calm=true->∀(i:Nat) (pins:List (Addr×Obj)) (s:Shared) (σ:St) (H:Hp) (E:Value->Shared->Prop),Ad X pins σ H s->(∀b∈fp,BD X pins H b)->tn i s.heap->J.go i H->
  wpAny (model P w) X.A (pyNext (.ref it)) (λr s1=>∃u,r=some u/\
   wpAny (model P w) X.A (letOwnedTupleGo tg (.ref it) u) (λ_ s2=>∃x H',Ad X pins σ H' s2/\Ay x u/\J.yld i H x H'/\tn (i+1) s2.heap/\∀b∈fp,H' b=none) E s1) E s
 done:∀(X:Cx),X.prog=P->X.w=w->X.K=K->X.calm=true->∀(i:Nat) (pins:List (Addr×Obj)) (s:Shared) (σ:St) (H:Hp) (E:Value->Shared->Prop),Ad X pins σ H s->(∀b∈fp,BD X pins H b)->tn i s.heap->J.stop i H->
  wpAny (model P w) X.A (pyNext (.ref it)) (λr s1=>r=none/\Ad X pins σ H s1) E s
 self:∀(A:Around) (i:Nat) (s:Shared) (Q:Value->Shared->Prop) (E:Value->Shared->Prop),tn i s.heap->Q (.ref it) s->wpAny (model P w) A (pyIter (.ref it)) Q E s
abbrev TI:=St->Hp->(It->Hp->Prop)->Prop
def JU (X:Cx) (pins:List (Addr×Obj)) (σ:St) (tg:Expr) (R:It->Hp->Prop) (itv:Value) (s2:Shared):Prop:=
 ∃(it:Addr) (fp:List Addr) (tn:Nat->Heap->Prop) (J:It) (H':Hp),itv= .ref it/\Ad X pins σ H' s2/\CW X.prog X.w X.K tg J fp it tn/\tn 0 s2.heap/\(∀b∈fp,BD X pins H' b)/\R J H'
def PI (X:Cx) (tg iter:Expr) (wi:TI):Prop:=
 ∀(pins:List (Addr×Obj)) (s:Shared) (σ:St) (H:Hp) (R:It->Hp->Prop),Ad X pins σ H s->wi σ H R->
  wpAny (model X.prog X.w) X.A (eval iter X.env) (λv s1=>wpAny (model X.prog X.w) X.A (pyIter v) (JU X pins σ tg R) X.xe s1) X.xe s
theorem F2 {M:Model}{A:Around}{E:Value->Shared->Prop}{s:Shared}{tg:Expr}{it:Addr}{u:Value}{o:Obj}{n:String}{vs:Array Value}{Q:Unit->Shared->Prop} (ho:s.heap.get? it=some o) (hc:o.cls= .type n) (hd:o.data= .fields vs)
    (hn:["enumerate","zip","dict_itemiterator","dict_reverseitemiterator","odict_iterator","itertools.zip_longest","itertools.pairwise"].contains n=false) (hQ:Q () s):wpAny M A (letOwnedTupleGo tg (.ref it) u) Q E s:=by
  unfold letOwnedTupleGo
  cases tg<;>first
    | exact wpAny_pure hQ
    | (cases u<;>first
        | exact wpAny_pure hQ
        | (refine wpAny_bind (wpAny_load ho ?_)
           rw [hc,hd]
           show wpAny M A (if (["enumerate","zip","dict_itemiterator","dict_reverseitemiterator","odict_iterator","itertools.zip_longest","itertools.pairwise"].contains n && vs[0]? ==some (rawInt _))=true then _ else _) Q E s
           rw [if_neg (by intro h;rw [hn,Bool.false_and] at h;cases h)]
           exact wpAny_pure hQ))
def Em (K:PySem.W.Frag) (a:Addr):It:=
 ⟨λi H=>∃xs x,Al K H a xs/\xs[i]? =some x,λi H x H'=>H'=H/\∀xs,Al K H a xs->xs[i]? =some x,λi H=>∃xs,Al K H a xs/\xs.length<=i⟩
def En (K:PySem.W.Frag) (a:Addr):It:=
 ⟨λi H=>∃xs x,Ae K H a xs/\xs[i]? =some x,λi H x H'=>H'=H/\∀xs,Ae K H a xs->xs[i]? =some x,λi H=>∃xs,Ae K H a xs/\xs.length<=i⟩
def Dg (lo:Int) (n:Nat):It:=⟨λi _=>i<n,λi H x H'=>H'=H/\x= .int (lo+i),λi _=>n<=i⟩
theorem Nw {w:World}{K:PySem.W.Frag} (a it:Addr):CW P w K tg (Em K a) [it] it (λi h=>h.IsListIter it a i) where
 mem:=by simp
 obj:=λi h st b hb=>by
  have e:b=it:=by simpa using hb
  subst e
  obtain⟨o,e,c,d⟩:=st
  exact⟨o,e,λv z=>by rw [d] at z;cases z⟩
 keep:=λi h h' st k=>st.at λo e=>k it (by simp) o e
 item:=by
  intro X hP hw hK hc i pins s σ H E I hf st hg
  subst hP hw hK
  obtain⟨xs,x,hq,hx⟩:=hg
  obtain⟨its,rv,p,hz⟩:=I.list hq
  obtain⟨u,hu,ru⟩:=rv.get hx
  obtain⟨f0,f1,f2,f3,f4,f5⟩:=hf it (by simp)
  refine wpAny_pyNext_list_item st p.isList (x:=u) (by simpa using hu) λh' st' sb=>?_
  have I1:Ad X pins σ H { s with heap:=h'}:=I.turned (t':=s.toks) (λb o hb e=>(sb.2 b hb).trans e) f0 f1 f3 f4 f5
  obtain⟨o,e,c,d⟩:=id st'
  exact⟨u,rfl,F2 (s:= { s with heap:=h'}) e c d (by decide) ⟨x,H,I1,ru,⟨rfl,λys hy=>by rw [I.list_inj hy hq];exact hx⟩,st',λb hb=>(hf b hb).1⟩⟩
 done:=by
  intro X hP hw hK hc i pins s σ H E I hf st hg
  subst hP hw hK
  obtain⟨xs,hq,hx⟩:=hg
  obtain⟨its,rv,p,hz⟩:=I.list hq
  obtain⟨f0,f1,f2,f3,f4,f5⟩:=hf it (by simp)
  have hl:=rv.length
  exact wpAny_pyNext_list_end (I.ok.hd hc) st p.isList (by simp;omega) λh' eb=>⟨rfl,I.turned (t':=s.toks) (λb o hb e=>eb b o hb e) f0 f1 f3 f4 f5⟩
 self:=λ_ _ _ _ _ st h=>wpAny_pyIter_listiter st h
theorem Nx {w:World}{K:PySem.W.Frag} (a it:Addr):CW P w K tg (En K a) [it] it (λi h=>h.IsTupleIter it a i) where
 mem:=by simp
 obj:=λi h st b hb=>by
  have e:b=it:=by simpa using hb
  subst e
  obtain⟨o,e,c,d⟩:=st
  exact⟨o,e,λv z=>by rw [d] at z;cases z⟩
 keep:=λi h h' st k=>st.at λo e=>k it (by simp) o e
 item:=by
  intro X hP hw hK hc i pins s σ H E I hf st hg
  subst hP hw hK
  obtain⟨xs,x,hq,hx⟩:=hg
  obtain⟨its,rv,p,hz⟩:=I.tuple hq
  obtain⟨u,hu,ru⟩:=rv.get hx
  obtain⟨f0,f1,f2,f3,f4,f5⟩:=hf it (by simp)
  refine wpAny_pyNext_tuple_item st (show s.heap.IsTuple a its.toArray from p) (x:=u) (by simpa using hu) λh' st' sb=>?_
  have I1:Ad X pins σ H { s with heap:=h'}:=I.turned (t':=s.toks) (λb o hb e=>(sb.2 b hb).trans e) f0 f1 f3 f4 f5
  obtain⟨o,e,c,d⟩:=id st'
  exact⟨u,rfl,F2 (s:= { s with heap:=h'}) e c d (by decide) ⟨x,H,I1,ru,⟨rfl,λys hy=>by rw [I.tuple_inj hy hq];exact hx⟩,st',λb hb=>(hf b hb).1⟩⟩
 done:=by
  intro X hP hw hK hc i pins s σ H E I hf st hg
  subst hP hw hK
  obtain⟨xs,hq,hx⟩:=hg
  obtain⟨its,rv,p,hz⟩:=I.tuple hq
  obtain⟨f0,f1,f2,f3,f4,f5⟩:=hf it (by simp)
  have hl:=rv.length
  exact wpAny_pyNext_tuple_end (I.ok.hd hc) st (show s.heap.IsTuple a its.toArray from p) (by simp;omega) λh' eb=>⟨rfl,I.turned (t':=s.toks) (λb o hb e=>eb b o hb e) f0 f1 f3 f4 f5⟩
 self:=λ_ _ _ _ _ st h=>wpAny_pyIter_tupleiter st h
theorem Ny {w:World}{K:PySem.W.Frag} (it:Addr) (lo:Int) (n:Nat):CW P w K tg (Dg lo n) [it] it (λi h=>IsRangeIter h it (lo+(i:Nat) * 1) ((n:Int)-(i:Nat)) 1) where
 mem:=by simp
 obj:=λi h st b hb=>by
  have e:b=it:=by simpa using hb
  subst e
  exact⟨_,st,λv z=>by
   have z':Data.fields _=Data.cell v:=z
   cases z'⟩
 keep:=λi h h' st k=>k it (by simp) _ st
 item:=by
  intro X hP hw hK hc i pins s σ H E I hf st hg
  subst hP hw hK
  obtain⟨f0,f1,f2,f3,f4,f5⟩:=hf it (by simp)
  have W:=Walks.range (prog:=X.prog) (w:=X.w) (I.ok.hd hc) it lo 1 n
  refine W.item i s _ _ hg st λv h' tk hv st' kk=>?_
  obtain⟨t,rfl⟩:=hv
  have I1:Ad X pins σ H { s with heap:=h',toks:=tk}:=I.turned (λb o hb e=>kk b o (by simpa using hb) e) f0 f1 f3 f4 f5
  refine⟨_,rfl,F2 (s:= { s with heap:=h',toks:=tk}) (n:="range_iterator") st' rfl rfl (by decide) ⟨.int (lo+i),H,I1,⟨t,?_⟩,⟨rfl,rfl⟩,st',λb hb=>(hf b hb).1⟩⟩
  rw [Int.mul_one]
 done:=by
  intro X hP hw hK hc i pins s σ H E I hf st hg
  subst hP hw hK
  obtain⟨f0,f1,f2,f3,f4,f5⟩:=hf it (by simp)
  exact wpAny_pyNext_range_end (I.ok.hd hc) st (by have:n<=i:=hg;omega) λh' eb=>⟨rfl,I.turned (t':=s.toks) (λb o hb e=>eb b o hb e) f0 f1 f3 f4 f5⟩
 self:=λ_ _ _ _ _ st h=>wpAny_pyIter_rangeiter st h
end L2
namespace L2
open PySem PySem.Spec PyProof.Rows
variable {tl : TE} {pins : List (Addr × Obj)} {σ : St} {H : Hp} {s : Shared} {h : Heap} {a : Addr} {xs : List V} {tb : TS} {D : CU}
section
variable {X : Cx} {tg : Expr}
def JV (K:PySem.W.Frag) (tl:TE):TI:=fun σ H R=>tl σ H λx H1=>∃a,x= .ref a/\(∃xs,Al K H1 a xs)/\R (Em K a) H1
def JW (K:PySem.W.Frag) (tl:TE):TI:=fun σ H R=>tl σ H λx H1=>∃a,x= .ref a/\(∃xs,Ae K H1 a xs)/\R (En K a) H1
theorem Nz {l:Expr} (hl:PE X l tl):PI X tg l (JV X.K tl):=by
 intro pins s σ H R I h
 refine Aq (hl pins s σ H _ I h) λv s1 ⟨x,H1,I1,r1,q1⟩=>?_
 obtain⟨a,e,⟨xs,hq⟩,q⟩:=q1
 subst e
 cases r1
 obtain⟨its,rv,p,hz⟩:=I1.list hq
 refine wpAny_pyIter_list p.isList ?_
 refine⟨s1.heap.objs.size,[s1.heap.objs.size],_,_,H1,rfl,I1.kept (t':=s1.toks) λb o e=>Heap.get?_push_of_some _ e,Nw a _,⟨_,Heap.get?_push_size _ rfl,rfl,rfl⟩,λb hb=>?_,q⟩
 have e:b=s1.heap.objs.size:=by simpa using hb
 subst e
 exact I1.fpOk (Nat.le_refl _) (I1.hok.fresh (Nat.le_refl _))
theorem NA {l:Expr} (hl:PE X l tl):PI X tg l (JW X.K tl):=by
 intro pins s σ H R I h
 refine Aq (hl pins s σ H _ I h) λv s1 ⟨x,H1,I1,r1,q1⟩=>?_
 obtain⟨a,e,⟨xs,hq⟩,q⟩:=q1
 subst e
 cases r1
 obtain⟨its,rv,p,hz⟩:=I1.tuple hq
 refine wpAny_pyIter_tuple (show s1.heap.IsTuple a its.toArray from p) ?_
 refine⟨s1.heap.objs.size,[s1.heap.objs.size],_,_,H1,rfl,I1.kept (t':=s1.toks) λb o e=>Heap.get?_push_of_some _ e,Nx a _,⟨_,Heap.get?_push_size _ rfl,rfl,rfl⟩,λb hb=>?_,q⟩
 have e:b=s1.heap.objs.size:=by simpa using hb
 subst e
 exact I1.fpOk (Nat.le_refl _) (I1.hok.fresh (Nat.le_refl _))
theorem JX {R:It->Hp->Prop}{E:Value->Shared->Prop}{lo hi:Int}{t u v:Tok}{tk:Nat} (I:Ad X pins σ H s) (h1: -(2 ^ 62)<=lo) (h2:lo<2 ^ 62) (h3: -(2 ^ 62)<=hi) (h4:hi<2 ^ 62)
  (q:R (Dg lo (hi-lo).toNat) H):wpAny (model X.prog X.w) X.A (pyIter (.ref s.heap.objs.size)) (JU X pins σ tg R) E { s with heap:=s.heap.push { cls:= .type "range",data:= .fields #[.int lo t,.int hi u,.int 1 v]},toks:=tk}:=by
 refine wpAny_pyIter_range (IsRange.new ..) (small_one h1 h2 h3 h4) ?_
 have I1:Ad X pins σ H { s with heap:=s.heap.push { cls:= .type "range",data:= .fields #[.int lo t,.int hi u,.int 1 v]},toks:=tk}:=I.kept λb o e=>Heap.get?_push_of_some _ e
 refine⟨(s.heap.push { cls:= .type "range",data:= .fields #[.int lo t,.int hi u,.int 1 v]}).objs.size,[(s.heap.push { cls:= .type "range",data:= .fields #[.int lo t,.int hi u,.int 1 v]}).objs.size],_,_,H,rfl,
  I1.kept (t':=tk) λb o e=>Heap.get?_push_of_some _ e,Ny _ lo (hi-lo).toNat,?_,λb hb=>?_,q⟩
 ·have e1:lo+((0:Nat):Int) * 1=lo:=by simp
  have e2:(((hi-lo).toNat:Nat):Int)-((0:Nat):Int)=Builtin.Range.rangeSize lo hi 1:=by rw [rangeSize_one];split<;>omega
  show IsRangeIter _ _ (lo+((0:Nat):Int) * 1) ((((hi-lo).toNat:Nat):Int)-((0:Nat):Int)) 1
  rw [e1,e2]
  exact Heap.get?_push_size _ rfl
 ·have e:b=(s.heap.push { cls:= .type "range",data:= .fields #[.int lo t,.int hi u,.int 1 v]}).objs.size:=by simpa using hb
  subst e
  exact I1.fpOk (Nat.le_refl _) (I1.hok.fresh (Nat.le_refl _))
def NB (ta:TA):TI:=fun σ H R=>ta σ H λvs H1=>∃j:Int,vs=[.int j]/\ -(2 ^ 62)<=j/\j<2 ^ 62/\R (Dg 0 j.toNat) H1
def NC (ta:TA):TI:=fun σ H R=>ta σ H λvs H1=>∃i j:Int,vs=[.int i,.int j]/\(-(2 ^ 62)<=i/\i<2 ^ 62/\ -(2 ^ 62)<=j/\j<2 ^ 62)/\R (Dg i (j-i).toNat) H1
theorem Cb {a:Expr}{ta:TA}{p pos:Pos} (hg:Gl X "range") (hm:X.mg "range"=none) (ha:PA X [a] ta) (hs:starEach [a] X.env=[(false,eval a X.env)]:=by rfl):PI X tg (.Call (.Name "range" p) [a] [] pos) (NB ta):=by
 intro pins s σ H R I h
 refine Call_ (CB I hg hm boot_range (PyProof.Rows.callWith_type1 (Aq (ha pos pins s σ H _ I h) λus s1 ⟨vs,H1,I1,r1,q1⟩=>?_) hs rfl))
 obtain⟨j,e,q1,q2,q⟩:=q1
 subst e
 cases r1 with
 | cons r rr=>
  cases rr
  obtain⟨t,rfl⟩:=r
  exact call_range_1 (JX I1 (by omega) (by omega) q1 q2 (by simpa using q))
theorem JY {a b:Expr}{ta:TA}{p pos:Pos} (hg:Gl X "range") (hm:X.mg "range"=none) (ha:PA X [a,b] ta) (hs:starEach [a,b] X.env=[(false,eval a X.env),(false,eval b X.env)]:=by rfl) (hs2:starEach [b] X.env=[(false,eval b X.env)]:=by rfl):
  PI X tg (.Call (.Name "range" p) [a,b] [] pos) (NC ta):=by
 intro pins s σ H R I h
 refine Call_ (CB I hg hm boot_range (PyProof.Rows.callWith_type1 (Aq (ha pos pins s σ H _ I h) λus s1 ⟨vs,H1,I1,r1,q1⟩=>?_) (by rw [hs,hs2]) (by rw [hs2];rfl)))
 obtain⟨i,j,e,⟨q1,q2,q3,q4⟩,q⟩:=q1
 subst e
 cases r1 with
 | cons r rr=>
  cases rr with
  | cons r' rr=>
   cases rr
   obtain⟨t,rfl⟩:=r
   obtain⟨t',rfl⟩:=r'
   exact call_range_2 (JX I1 q1 q2 q3 q4 q)
def ND (wi:TI) (g:TG) (tb:TS):TS:=λD σ H=>wi σ H λJ H1=>∃W:Nat->Nat->St->Hp->Prop,(∃m,W 0 m σ H1)/\∀i m σ H,W i m σ H->
 (J.stop i H/\D.nx σ H)\/(J.go i H/\∃N:St->Hp->Prop,(∀σ' H',N σ' H'->∃m',m'<m/\W (i+1) m' σ' H')/\∀x H',J.yld i H x H'->g x σ H' fun σ2 H2=>tb { D with nx:=N,ct:=N,bk:=D.nx} σ2 H2)
def DY (fp:List Addr) (h:Heap):List (Addr×Obj):=fp.filterMap λb=>(h.get? b).map λo=>(b,o)
theorem F3 {fp:List Addr}{b:Addr}{o:Obj} (hb:b∈fp) (e:h.get? b=some o):(b,o)∈DY fp h:=List.mem_filterMap.mpr ⟨b,hb,by rw [e];rfl⟩
theorem JZ {fp:List Addr}{p:Addr×Obj} (hp:p∈DY fp h):p.1∈fp/\h.get? p.1=some p.2:=by
 obtain⟨b,hb,e⟩:=List.mem_filterMap.mp hp
 cases q:h.get? b with
 | none=>rw [q] at e;cases e
 | some o=>
  rw [q] at e
  have e':(b,o)=p:=Option.some.inj e
  subst e'
  exact⟨hb,q⟩
theorem Ad.pinned {fp:List Addr} (I:Ad X pins σ H s) (hf:∀b∈fp,BD X pins H b) (ho:∀b∈fp,∃o,s.heap.get? b=some o/\∀v,o.data≠ .cell v):Ad X (pins++DY fp s.heap) σ H s:=
 I.pins_of λp hp=>(List.mem_append.mp hp).elim (λz=>I.pin p (List.mem_append_right _ z)) λz=>by
  obtain⟨hb,e⟩:=JZ z
  obtain⟨f0,f1,f2,_⟩:=hf p.1 hb
  obtain⟨o,e',d⟩:=ho p.1 hb
  rw [e] at e';cases e'
  exact⟨e,f0,f1,f2,d⟩
theorem Ad.unpinned {pl:List (Addr×Obj)} (I:Ad X (pins++pl) σ H s):Ad X pins σ H s:=I.pins_of λp hp=>I.pin p (List.mem_append_right _ (List.mem_append_left _ hp))
theorem Bu {iter:Expr}{body:List Stmt}{wi:TI}{g:TG}{tb:TS}{pos:Pos} (hp:PassesOwn (model X.prog X.w) X.A X.env X.xe) (hc:X.calm=true) (hi:PI X tg iter wi) (hg:PG X tg g) (hb:PSs X body tb)
  (hs:∀x,foldedSetIterable iter X.env x=pure x:=by intro _;rfl):PS X (.For tg iter body [] pos) (ND wi g tb):=by
 intro pins s σ H D I h
 refine wpAny_For (Aq (hi pins s σ H _ I h) λv s1 h1=>Aq h1 λitv s2 h2=>?_) hs
 obtain⟨it,fp,tn,J,H2,e,I2,T,st2,f2,W,⟨m0,w0⟩,turn⟩:=h2
 subst e
 --what stays true of the iterator's objects through the loop
 have stat:∀ {H':Hp},(∀b∈fp,H' b=none)->∀b∈fp,BD X pins H' b:=λhn b hb=>⟨hn b hb,(f2 b hb).2⟩
 refine codeAny_forLoop_any (λn s'=>∃i σ' H',Ad X pins σ' H' s'/\tn i s'.heap/\(∀b∈fp,H' b=none)/\W i n σ' H') ?_ m0 ⟨0,σ,H2,I2,st2,λb hb=>(f2 b hb).1,w0⟩
 rintro n s3 ⟨i,σ3,H3,I3,st3,fr3,w3⟩
 rcases turn i n σ3 H3 w3 with⟨stop,qn⟩ | ⟨go,N,hN,step⟩
 ·refine wpAny_passesOwn hp (Aq (T.done X rfl rfl rfl hc i pins s3 σ3 H3 X.xe I3 (stat fr3) st3 stop) λr s4 ⟨hr,I4⟩=>?_)
  subst hr
  exact wpAny_execs_nil ⟨σ3,H3,I4,qn⟩
 ·refine wpAny_passesOwn hp (Aq (T.item X rfl rfl rfl hc i pins s3 σ3 H3 X.xe I3 (stat fr3) st3 go) λr s4 ⟨u,hr,h4⟩=>?_)
  subst hr
  refine wpAny_passesOwn hp (Aq h4 λ_ s5 ⟨x,H5,I5,r5,y5,st5,fr5⟩=>?_)
  have I5':=I5.pinned (stat fr5) (T.obj _ _ st5)
  refine wpAny_passesOwn hp (Aq (hg _ s5 σ3 H5 x u _ I5' r5 (step x H5 y5)) λ_ s6 ⟨σ6,H6,I6,q6⟩=>?_)
  refine wpAny_passesOwn hp (Aq (hb _ s6 σ6 H6 _ I6 q6) λf s7 q7=>?_)
  have again:∀ {σ7:St}{H7:Hp},Ad X (pins++DY fp s5.heap) σ7 H7 s7->N σ7 H7->∃m,m<n/\∃i σ' H',Ad X pins σ' H' s7/\tn i s7.heap/\(∀b∈fp,H' b=none)/\W i m σ' H':=λ{σ7 H7} I7 n7=>by
   obtain⟨m',hm,w7⟩:=hN σ7 H7 n7
   refine⟨m',hm,i+1,σ7,H7,I7.unpinned,T.keep _ _ _ st5 λb hb o e=>(I7.pin (b,o) (List.mem_append_right _ (List.mem_append_right _ (F3 hb e)))).1,λb hb=>?_,w7⟩
   obtain⟨o,e,d⟩:=T.obj _ _ st5 b hb
   exact(I7.pin (b,o) (List.mem_append_right _ (List.mem_append_right _ (F3 hb e)))).2.1
  cases f with
  | next=>obtain⟨σ7,H7,I7,n7⟩:=q7;exact again I7 n7
  | cont=>obtain⟨σ7,H7,I7,n7⟩:=q7;exact again I7 n7
  | brk=>obtain⟨σ7,H7,I7,q7⟩:=q7;exact⟨σ7,H7,I7.unpinned,q7⟩
  | ret v=>obtain⟨x7,σ7,H7,I7,r7,q7⟩:=q7;exact⟨x7,σ7,H7,I7.unpinned,r7,q7⟩
end
theorem NE {K:PySem.W.Frag}{g:TG} (Pv:Nat->St->Hp->Prop) (h0:Pv 0 σ H) (hl:∀i σ H,i<=xs.length->Pv i σ H->Al K H a xs)
  (hs:∀i x σ H,xs[i]? =some x->Pv i σ H->g x σ H fun σ2 H2=>tb { D with nx:=Pv (i+1),ct:=Pv (i+1),bk:=D.nx} σ2 H2) (hd:∀σ H,Pv xs.length σ H->D.nx σ H):
  ∃W:Nat->Nat->St->Hp->Prop,(∃m,W 0 m σ H)/\∀i m σ H,W i m σ H->
   ((Em K a).stop i H/\D.nx σ H)\/((Em K a).go i H/\∃N:St->Hp->Prop,(∀σ' H',N σ' H'->∃m',m'<m/\W (i+1) m' σ' H')/\∀x H',(Em K a).yld i H x H'->g x σ H' fun σ2 H2=>tb { D with nx:=N,ct:=N,bk:=D.nx} σ2 H2):=by
 refine⟨λi m σ H=>m=xs.length-i/\i<=xs.length/\Pv i σ H,⟨xs.length,by simp,Nat.zero_le _,h0⟩,?_⟩
 rintro i m σ H ⟨rfl,hi,p⟩
 have q:=hl i σ H hi p
 by_cases hlt:i<xs.length
 ·refine .inr ⟨⟨xs,xs[i],q,by simp [hlt]⟩,Pv (i+1),fun σ' H' p'=>⟨xs.length-(i+1),by omega,rfl,hlt,p'⟩,λx H' y=>?_⟩
  obtain⟨e,y⟩:=y
  subst e
  exact hs i x σ _ (y xs q) p
 ·have e:i=xs.length:=by omega
  subst e
  exact .inl ⟨⟨xs,q,Nat.le_refl _⟩,hd σ H p⟩
theorem Ih {K:PySem.W.Frag}{g:TG} (Pv:Nat->St->Hp->Prop) (h0:Pv 0 σ H) (hl:∀i σ H,i<=xs.length->Pv i σ H->Ae K H a xs)
  (hs:∀i x σ H,xs[i]? =some x->Pv i σ H->g x σ H fun σ2 H2=>tb { D with nx:=Pv (i+1),ct:=Pv (i+1),bk:=D.nx} σ2 H2) (hd:∀σ H,Pv xs.length σ H->D.nx σ H):
  ∃W:Nat->Nat->St->Hp->Prop,(∃m,W 0 m σ H)/\∀i m σ H,W i m σ H->
   ((En K a).stop i H/\D.nx σ H)\/((En K a).go i H/\∃N:St->Hp->Prop,(∀σ' H',N σ' H'->∃m',m'<m/\W (i+1) m' σ' H')/\∀x H',(En K a).yld i H x H'->g x σ H' fun σ2 H2=>tb { D with nx:=N,ct:=N,bk:=D.nx} σ2 H2):=by
 refine⟨λi m σ H=>m=xs.length-i/\i<=xs.length/\Pv i σ H,⟨xs.length,by simp,Nat.zero_le _,h0⟩,?_⟩
 rintro i m σ H ⟨rfl,hi,p⟩
 have q:=hl i σ H hi p
 by_cases hlt:i<xs.length
 ·refine .inr ⟨⟨xs,xs[i],q,by simp [hlt]⟩,Pv (i+1),fun σ' H' p'=>⟨xs.length-(i+1),by omega,rfl,hlt,p'⟩,λx H' y=>?_⟩
  obtain⟨e,y⟩:=y
  subst e
  exact hs i x σ _ (y xs q) p
 ·have e:i=xs.length:=by omega
  subst e
  exact .inl ⟨⟨xs,q,Nat.le_refl _⟩,hd σ H p⟩
theorem CN {lo:Int}{n:Nat}{g:TG} (Pv:Nat->St->Hp->Prop) (h0:Pv 0 σ H)
  (hs:∀i σ H,i<n->Pv i σ H->g (.int (lo+i)) σ H fun σ2 H2=>tb { D with nx:=Pv (i+1),ct:=Pv (i+1),bk:=D.nx} σ2 H2) (hd:∀σ H,Pv n σ H->D.nx σ H):
  ∃W:Nat->Nat->St->Hp->Prop,(∃m,W 0 m σ H)/\∀i m σ H,W i m σ H->
   ((Dg lo n).stop i H/\D.nx σ H)\/((Dg lo n).go i H/\∃N:St->Hp->Prop,(∀σ' H',N σ' H'->∃m',m'<m/\W (i+1) m' σ' H')/\∀x H',(Dg lo n).yld i H x H'->g x σ H' fun σ2 H2=>tb { D with nx:=N,ct:=N,bk:=D.nx} σ2 H2):=by
 refine⟨λi m σ H=>m=n-i/\i<=n/\Pv i σ H,⟨n,by simp,Nat.zero_le _,h0⟩,?_⟩
 rintro i m σ H ⟨rfl,hi,p⟩
 by_cases hlt:i<n
 ·refine .inr ⟨hlt,Pv (i+1),fun σ' H' p'=>⟨n-(i+1),by omega,rfl,hlt,p'⟩,λx H' y=>?_⟩
  obtain⟨e,y⟩:=y
  subst e y
  exact hs i σ _ hlt p
 ·have e:i=n:=by omega
  subst e
  exact .inl ⟨Nat.le_refl _,hd σ H p⟩
end L2
namespace L2
open PySem PySem.Spec PyProof.Rows
variable {i j : Int} {us : List Value}
abbrev R2:=V->V->Hp->VK->Prop
def OpR (X:Cx) (f:Value->Value->Sem Value) (r:R2):Prop:=
 ∀(pins:List (Addr×Obj)) (s:Shared) (σ:St) (H:Hp) (x y:V) (v u:Value) (Q:VK),Ad X pins σ H s->Ay x v->Ay y u->r x y H Q->
  wpAny (model X.prog X.w) X.A (f v u) (EP X pins σ Q) X.xe s
def Ii (X:Cx) (f:Value->Sem Value) (r:V->Hp->VK->Prop):Prop:=
 ∀(pins:List (Addr×Obj)) (s:Shared) (σ:St) (H:Hp) (x:V) (v:Value) (Q:VK),Ad X pins σ H s->Ay x v->r x H Q->
  wpAny (model X.prog X.w) X.A (f v) (EP X pins σ Q) X.xe s
def Bz (X:Cx) (f:Value) (r:List V->Hp->VK->Prop):Prop:=
 ∀(pins:List (Addr×Obj)) (s:Shared) (σ:St) (H:Hp) (xs:List V) (us:List Value) (Q:VK),Ad X pins σ H s->Ar xs us->r xs H Q->
  wpAny (model X.prog X.w) X.A (call f us) (EP X pins σ Q) X.xe s
def Eo (r:R2) (ta tb:TE):TE:=fun σ H Q=>ta σ H λx H1=>tb σ H1 λy H2=>r x y H2 Q
def NF (r:V->Hp->VK->Prop) (ta:TE):TE:=fun σ H Q=>ta σ H λx H1=>r x H1 Q
def rI (C:Int->Int->Prop) (g:Int->Int->V):R2:=λx y H Q=>∃i j,x= .int i/\y= .int j/\C i j/\Q (g i j) H
def Dh (g:Int->Int->V):R2:=λx y H Q=>∃i j,x= .int i/\y= .int j/\Q (g i j) H
def rU (g:Int->V):V->Hp->VK->Prop:=λx H Q=>∃i,x= .int i/\Q (g i) H
section
variable {X : Cx} {a b c : Expr} {ta tb tc : TE} {pos : Pos}
theorem Ij (ha:PE X a ta) (hb:PE X b tb) {pins:List (Addr×Obj)}{s:Shared}{σ:St}{H:Hp}{R:V->V->Hp->Prop} (I:Ad X pins σ H s)
  (h:ta σ H λx H1=>tb σ H1 λy H2=>R x y H2) {Q:Value->Shared->Prop}{f:Value->Value->Sem Value}
  (hf:∀v u s2 x y H2,Ad X pins σ H2 s2->Ay x v->Ay y u->R x y H2->wpAny (model X.prog X.w) X.A (f v u) Q X.xe s2):
  wpAny (model X.prog X.w) X.A (eval a X.env) (λv s₁=>wpAny (model X.prog X.w) X.A (eval b X.env) (λu s₂=>wpAny (model X.prog X.w) X.A (f v u) Q X.xe s₂) X.xe s₁) X.xe s:=by
 refine Aq (ha pins s σ H _ I h) λv s1 ⟨x,H1,I1,r1,q1⟩=>?_
 refine Aq (hb pins s1 σ H1 _ I1 q1) λu s2 ⟨y,H2,I2,r2,q2⟩=>?_
 exact hf v u s2 x y H2 I2 r1 r2 q2
theorem At {op:Operator}{r:R2} (ho:OpR X (binaryOp op) r) (ha:PE X a ta) (hb:PE X b tb):PE X (.BinOp a op b pos) (Eo r ta tb):=by
 intro pins s σ H Q I h
 exact wpAny_BinOp (Ij ha hb I h λv u s2 x y H2 I2 rx ry q=>ho pins s2 σ H2 x y v u Q I2 rx ry q)
theorem NG {op:UnaryOp}{r:V->Hp->VK->Prop} (ho:Ii X (unaryOp op) r) (ha:PE X a ta):PE X (.UnaryOp op a pos) (NF r ta):=by
 intro pins s σ H Q I h
 exact UnaryOp_ (Aq (ha pins s σ H _ I h) λv s1 ⟨x,H1,I1,r1,q1⟩=>ho pins s1 σ H1 x v Q I1 r1 q1)
theorem F4 {f:Value->Value->Sem Value}{C:Int->Int->Prop}{g:Int->Int->Int}
  (rule:∀(i j:Int) (t u:Tok) (s:Shared) (Q:Value->Shared->Prop) (E:Value->Shared->Prop),C i j->Q (.int (g i j) s.toks) { s with toks:=s.toks+1}->wpAny (model X.prog X.w) X.A (f (.int i t) (.int j u)) Q E s):
  OpR X f (rI C λi j=> .int (g i j)):=by
 intro pins s σ H x y v u Q I rx ry h
 obtain⟨i,j,rfl,rfl,hc,q⟩:=h
 obtain⟨t,rfl⟩:=rx
 obtain⟨t',rfl⟩:=ry
 exact rule i j t t' s _ _ hc ⟨.int (g i j),H,I.tok _,⟨_,rfl⟩,q⟩
theorem J0 {f:Value->Value->Sem Value}{g:Int->Int->Int}
  (rule:∀(i j:Int) (t u:Tok) (s:Shared) (Q:Value->Shared->Prop) (E:Value->Shared->Prop),Q (.int (g i j) s.toks) { s with toks:=s.toks+1}->wpAny (model X.prog X.w) X.A (f (.int i t) (.int j u)) Q E s):
  OpR X f (Dh λi j=> .int (g i j)):=by
 intro pins s σ H x y v u Q I rx ry h
 obtain⟨i,j,rfl,rfl,q⟩:=h
 obtain⟨t,rfl⟩:=rx
 obtain⟨t',rfl⟩:=ry
 exact rule i j t t' s _ _ ⟨.int (g i j),H,I.tok _,⟨_,rfl⟩,q⟩
theorem F5 {f:Value->Value->Sem Value}{g:Int->Int->Bool}
  (rule:∀(i j:Int) (t u:Tok) (s:Shared) (Q:Value->Shared->Prop) (E:Value->Shared->Prop),Q (.bool (g i j)) s->wpAny (model X.prog X.w) X.A (f (.int i t) (.int j u)) Q E s):
  OpR X f (Dh λi j=> .bl (g i j)):=by
 intro pins s σ H x y v u Q I rx ry h
 obtain⟨i,j,rfl,rfl,q⟩:=h
 obtain⟨t,rfl⟩:=rx
 obtain⟨t',rfl⟩:=ry
 exact rule i j t t' s _ _ ⟨.bl (g i j),H,I,rfl,q⟩
def Ik (i j:Int):Prop:=0<j/\j<1073741824
def J1 (i j:Int):Prop:=0<=j/\j<=1000000/\i.natAbs<2 ^ 64
def CMul (i j:Int):Prop:=(-(2 ^ 64)<i/\i<2 ^ 64)\/(-(2 ^ 64)<j/\j<2 ^ 64)
theorem CMul.ok (h:CMul i j):IntMulOk i j:=by
 rcases h with⟨h1,h2⟩ | ⟨h1,h2⟩
 ·exact .of_left (intBits_le_64 h1 h2)
 ·exact .of_right (intBits_le_64 h1 h2)
theorem op_add:OpR X (binaryOp .Add) (Dh λi j=> .int (i+j)):=J0 λ_ _ _ _ _ _ _ q=>add_int q
theorem op_sub:OpR X (binaryOp .Sub) (Dh λi j=> .int (i-j)):=J0 λ_ _ _ _ _ _ _ q=>sub_int q
theorem op_mul:OpR X (binaryOp .Mult) (rI CMul λi j=> .int (i * j)):=F4 λ_ _ _ _ _ _ _ hc q=>mul_int q hc.ok
theorem op_fdiv:OpR X (binaryOp .FloorDiv) (rI Ik λi j=> .int (i / j)):=F4 λi j _ _ _ _ _ hc q=>by
 have h1:(0:Int)<j:=hc.1
 have h2:j<1073741824:=hc.2
 exact floordiv_int (by omega) (by rw [Int.fdiv_eq_ediv_of_nonneg i (by omega)];exact q) (.inl (PyProof.noPylong_small (by omega)))
theorem op_mod:OpR X (binaryOp .Mod) (rI (λ_ j=>0<j) λi j=> .int (i % j)):=F4 λi j _ _ _ _ _ hc q=>by
 have h1:(0:Int)<j:=hc
 exact mod_int' (by omega) (by rw [Int.fmod_eq_emod_of_nonneg i (by omega)];exact q)
theorem op_pow:OpR X (binaryOp .Pow) (rI J1 λi j=> .int (i ^ j.toNat)):=F4 λ_ _ _ _ _ _ _ hc q=>pow_int_small hc.1 hc.2.1 hc.2.2 q
theorem NH {f:Value->Sem Value}{g:Int->Int}
  (rule:∀(i:Int) (t:Tok) (s:Shared) (Q:Value->Shared->Prop) (E:Value->Shared->Prop),Q (.int (g i) s.toks) { s with toks:=s.toks+1}->wpAny (model X.prog X.w) X.A (f (.int i t)) Q E s):
  Ii X f (rU λi=> .int (g i)):=by
 intro pins s σ H x v Q I rx h
 obtain⟨i,rfl,q⟩:=h
 obtain⟨t,rfl⟩:=rx
 exact rule i t s _ _ ⟨.int (g i),H,I.tok _,⟨_,rfl⟩,q⟩
theorem NI:Ii X (unaryOp .USub) (rU λi=> .int (-i)):=NH λ_ _ _ _ _ q=>neg_int q
end
def J2:V->V->Bool
 | .non,.non=>true | .non,.int _=>true | .int _,.non=>true | .non,.bl _=>true | .bl _,.non=>true | .non,.str _=>true | .str _,.non=>true
 | .int _,.int _=>true | .bl _,.bl _=>true | .str _,.str _=>true | .byt _,.byt _=>true
 | .int _,.str _=>true | .str _,.int _=>true | .bl _,.str _=>true | .str _,.bl _=>true
 | _,_=>false
def J3:R2:=λx y H Q=>J2 x y=true/\Q (.bl (decide (x=y))) H
def J4:R2:=λx y H Q=>J2 x y=true/\Q (.bl (!decide (x=y))) H
theorem DG:decide (V.int i=V.int j)=(i==j):=by
 rw [Bool.eq_iff_iff]
 simp
theorem J5 {i j:Bool}:decide (V.bl i=V.bl j)=(i==j):=by
 rw [Bool.eq_iff_iff]
 simp
theorem J6 {i j:Str}:decide (V.str i=V.str j)=(i==j):=by
 rw [Bool.eq_iff_iff]
 simp
theorem J7 {i j:Array UInt8}:decide (V.byt i=V.byt j)=(i.toList==j.toList):=by
 rw [Bool.eq_iff_iff]
 cases i
 cases j
 simp
section
variable {X : Cx} {a b c : Expr} {ta tb tc : TE} {pos : Pos}
theorem AX {pins:List (Addr×Obj)}{σ:St}{H:Hp}{s:Shared}{Q:VK}{k k':Bool} (I:Ad X pins σ H s) (q:Q (.bl k) H) (e:k=k'):EP X pins σ Q (.bool k') s:=by
 subst e
 exact⟨.bl k,H,I,rfl,q⟩
theorem Ep:OpR X (compareOp .Eq) J3:=by
 intro pins s σ H x y v u Q I rx ry h
 obtain⟨hs,q⟩:=h
 cases x with
 | non=>
  cases rx
  cases y with
  | non=>cases ry;exact PySem.EqNone.eq_none_none (AX I q (by simp))
  | bl j=>cases ry;exact PySem.EqNone.eq_none_bool (AX I q (by simp))
  | int j=>obtain⟨t',rfl⟩:=ry;exact PySem.EqNone.eq_none_int (AX I q (by simp))
  | str j=>obtain⟨t',rfl⟩:=ry;exact PySem.EqNone.eq_none_str (AX I q (by simp))
  | _=>exact absurd (show false=true from hs) Bool.false_ne_true
 | bl i=>
  cases rx
  cases y with
  | non=>cases ry;exact PySem.EqNone.eq_bool_none (AX I q (by simp))
  | bl j=>cases ry;exact eq_bool (AX I q J5)
  | str j=>obtain⟨t',rfl⟩:=ry;exact PySem.EqMixed.eq_bool_str (AX I q (by simp))
  | _=>exact absurd (show false=true from hs) Bool.false_ne_true
 | int i=>
  obtain⟨t,rfl⟩:=rx
  cases y with
  | non=>cases ry;exact PySem.EqNone.eq_int_none (AX I q (by simp))
  | int j=>obtain⟨t',rfl⟩:=ry;exact eq_int (AX I q DG)
  | str j=>obtain⟨t',rfl⟩:=ry;exact PySem.EqMixed.eq_int_str (AX I q (by simp))
  | _=>exact absurd (show false=true from hs) Bool.false_ne_true
 | str i=>
  obtain⟨t,rfl⟩:=rx
  cases y with
  | non=>cases ry;exact PySem.EqNone.eq_str_none (AX I q (by simp))
  | bl j=>cases ry;exact PySem.EqMixed.eq_str_bool (AX I q (by simp))
  | int j=>obtain⟨t',rfl⟩:=ry;exact PySem.EqMixed.eq_str_int (AX I q (by simp))
  | str j=>obtain⟨t',rfl⟩:=ry;exact eq_str (AX I q J6)
  | _=>exact absurd (show false=true from hs) Bool.false_ne_true
 | byt i=>
  obtain⟨t,rfl⟩:=rx
  cases y with
  | byt j=>obtain⟨t',rfl⟩:=ry;exact PySem.W.eq_bytes (AX I q J7)
  | _=>exact absurd (show false=true from hs) Bool.false_ne_true
 | _=>cases y<;>exact absurd (show false=true from hs) Bool.false_ne_true
theorem Di:OpR X (compareOp .NotEq) J4:=by
 intro pins s σ H x y v u Q I rx ry h
 obtain⟨hs,q⟩:=h
 cases x with
 | non=>
  cases rx
  cases y with
  | non=>cases ry;exact PySem.EqNone.ne_none_none (AX I q (by simp))
  | bl j=>cases ry;exact PySem.EqNone.ne_none_bool (AX I q (by simp))
  | int j=>obtain⟨t',rfl⟩:=ry;exact PySem.EqNone.ne_none_int (AX I q (by simp))
  | str j=>obtain⟨t',rfl⟩:=ry;exact PySem.EqNone.ne_none_str (AX I q (by simp))
  | _=>exact absurd (show false=true from hs) Bool.false_ne_true
 | bl i=>
  cases rx
  cases y with
  | non=>cases ry;exact PySem.EqNone.ne_bool_none (AX I q (by simp))
  | bl j=>cases ry;exact ne_bool (AX I q (congrArg not J5))
  | str j=>obtain⟨t',rfl⟩:=ry;exact PySem.EqMixed.ne_bool_str (AX I q (by simp))
  | _=>exact absurd (show false=true from hs) Bool.false_ne_true
 | int i=>
  obtain⟨t,rfl⟩:=rx
  cases y with
  | non=>cases ry;exact PySem.EqNone.ne_int_none (AX I q (by simp))
  | int j=>obtain⟨t',rfl⟩:=ry;exact ne_int (AX I q (congrArg not DG))
  | str j=>obtain⟨t',rfl⟩:=ry;exact PySem.EqMixed.ne_int_str (AX I q (by simp))
  | _=>exact absurd (show false=true from hs) Bool.false_ne_true
 | str i=>
  obtain⟨t,rfl⟩:=rx
  cases y with
  | non=>cases ry;exact PySem.EqNone.ne_str_none (AX I q (by simp))
  | bl j=>cases ry;exact PySem.EqMixed.ne_str_bool (AX I q (by simp))
  | int j=>obtain⟨t',rfl⟩:=ry;exact PySem.EqMixed.ne_str_int (AX I q (by simp))
  | str j=>obtain⟨t',rfl⟩:=ry;exact ne_str (AX I q (congrArg not J6))
  | _=>exact absurd (show false=true from hs) Bool.false_ne_true
 | byt i=>
  obtain⟨t,rfl⟩:=rx
  cases y with
  | byt j=>obtain⟨t',rfl⟩:=ry;exact PySem.W.ne_bytes (AX I q (congrArg not J7))
  | _=>exact absurd (show false=true from hs) Bool.false_ne_true
 | _=>cases y<;>exact absurd (show false=true from hs) Bool.false_ne_true
theorem op_lt:OpR X (compareOp .Lt) (Dh λi j=> .bl (decide (i<j))):=F5 λ_ _ _ _ _ _ _ q=>lt_int q
theorem op_le:OpR X (compareOp .LtE) (Dh λi j=> .bl (decide (i<=j))):=F5 λ_ _ _ _ _ _ _ q=>le_int q
theorem op_gt:OpR X (compareOp .Gt) (Dh λi j=> .bl (decide (j<i))):=F5 λ_ _ _ _ _ _ _ q=>gt_int q
theorem op_ge:OpR X (compareOp .GtE) (Dh λi j=> .bl (decide (j<=i))):=F5 λ_ _ _ _ _ _ _ q=>ge_int q
theorem DZ:OpR X (compareOp .Is) (λx y H Q=>y= .non/\Q (.bl (decide (x= .non))) H):=by
  intro pins s σ H x y v u Q I rx ry h
  obtain⟨rfl,q⟩:=h
  cases ry
  refine is_none_gen (AX I q ?_)
  cases x<;>first
    | (cases rx;rfl)
    | (obtain⟨t,rfl⟩:=rx;rfl)
theorem E4:OpR X (compareOp .IsNot) (λx y H Q=>y= .non/\Q (.bl (!decide (x= .non))) H):=by
  intro pins s σ H x y v u Q I rx ry h
  obtain⟨rfl,q⟩:=h
  cases ry
  refine isnot_none_gen (AX I q ?_)
  cases x<;>first
    | (cases rx;rfl)
    | (obtain⟨t,rfl⟩:=rx;rfl)
theorem AO (b:Expr) {op:CmpOp} (h:op≠ .In:=by decide) (h2:op≠ .NotIn:=by decide):behindInMarks op b=false:=by
 have e1:(op==CmpOp.In)=false:=by cases op<;>first | rfl | exact absurd rfl h
 have e2:(op==CmpOp.NotIn)=false:=by cases op<;>first | rfl | exact absurd rfl h2
 cases b<;>simp [behindInMarks,e1,e2]
theorem Cr {op:CmpOp}{r:R2} (ho:OpR X (compareOp op) r) (ha:PE X a ta) (hb:PE X b tb) (hm:behindInMarks op b=false):PE X (.Compare a [op] [b] pos) (Eo r ta tb):=by
 intro pins s σ H Q I h
 exact wpAny_Compare1 (Ij ha hb I h λv u s2 x y H2 I2 rx ry q=>ho pins s2 σ H2 x y v u Q I2 rx ry q) hm
theorem NJ {xs:List V}{its:List Value} (r:Ar xs its):(!its.toArray.isEmpty)= !xs.isEmpty:=by
 cases r<;>simp
theorem F6:(sizeLine:Nat)<2 ^ 63:=by rw [sizeLine_eq];decide
theorem Er {x:V} (r:Ar [x] us):∃u,us=[u]/\Ay x u:=by
 cases r with
 | cons r1 r2=>cases r2;exact⟨_,rfl,r1⟩
theorem Il {x y:V} (r:Ar [x,y] us):∃u w',us=[u,w']/\Ay x u/\Ay y w':=by
 cases r with
 | cons r1 r2=>
  cases r2 with
  | cons r3 r4=>cases r4;exact⟨_,_,rfl,r1,r3⟩
theorem NK:Bz X (.builtin "abs") (λxs H Q=>∃i,xs=[.int i]/\Q (.int (if i<0 then -i else i)) H):=by
 intro pins s σ H xs us Q I r h
 obtain⟨i,rfl,q⟩:=h
 obtain⟨u,rfl,t,rfl⟩:=Er r
 exact call_abs_int λu tk=>⟨.int (if i<0 then -i else i),H,I.tok _,⟨_,rfl⟩,q⟩
theorem F7 (hc:X.calm=true):Bz X (.builtin "max") (λxs H Q=>∃i j,xs=[.int i,.int j]/\Q (.int (if j>i then j else i)) H):=by
 intro pins s σ H xs us Q I r h
 obtain⟨i,j,rfl,q⟩:=h
 obtain⟨u,w',rfl,⟨t,rfl⟩,⟨t',rfl⟩⟩:=Il r
 refine max_two_ints (I.ok.hd hc) λh' tk k=>⟨_,H,I.kept k,?_,q⟩
 by_cases hj:j>i
 ·rw [if_pos hj,if_pos hj];exact⟨_,rfl⟩
 ·rw [if_neg hj,if_neg hj];exact⟨_,rfl⟩
theorem D0 (hc:X.calm=true):Bz X (.builtin "min") (λxs H Q=>∃i j,xs=[.int i,.int j]/\Q (.int (if j<i then j else i)) H):=by
 intro pins s σ H xs us Q I r h
 obtain⟨i,j,rfl,q⟩:=h
 obtain⟨u,w',rfl,⟨t,rfl⟩,⟨t',rfl⟩⟩:=Il r
 refine min_two_ints (I.ok.hd hc) λh' tk k=>⟨_,H,I.kept k,?_,q⟩
 by_cases hj:j<i
 ·rw [if_pos hj,if_pos hj];exact⟨_,rfl⟩
 ·rw [if_neg hj,if_neg hj];exact⟨_,rfl⟩
theorem Im:Bz X (.type "int") (λxs H Q=>(∃i,xs=[.int i]/\Q (.int i) H)\/ ∃k,xs=[.bl k]/\Q (.int (if k then 1 else 0)) H):=by
 intro pins s σ H xs us Q I r h
 rcases h with⟨i,rfl,q⟩ | ⟨k,rfl,q⟩
 ·obtain⟨u,rfl,t,rfl⟩:=Er r
  exact call_int_int ⟨.int i,H,I,⟨_,rfl⟩,q⟩
 ·obtain⟨u,rfl,r1⟩:=Er r
  cases r1
  exact call_int_bool ⟨.int (if k then 1 else 0),H,I.tok _,⟨_,rfl⟩,q⟩
theorem NL:Bz X (.builtin "divmod") (λxs H Q=>∃i j,xs=[.int i,.int j]/\Ik i j/\∀p,H p=none->Q (.ref p) (upd H p (.tup [.int (i / j),.int (i % j)]))):=by
 intro pins s σ H xs us Q I r h
 obtain⟨i,j,rfl,⟨h1,h2⟩,q⟩:=h
 obtain⟨u,w',rfl,⟨t,rfl⟩,⟨t',rfl⟩⟩:=Il r
 refine divmod_int (by omega) ?_ (.inl (PyProof.noPylong_small (by omega)))
 rw [Int.fdiv_eq_ediv_of_nonneg i (by omega),Int.fmod_eq_emod_of_nonneg i (by omega)]
 have hn:H s.heap.objs.size=none:=I.hok.fresh (Nat.le_refl _)
 refine⟨.ref s.heap.objs.size,_,?_,rfl,q _ hn⟩
 refine I.laid (λb o e=>Heap.get?_push_of_some _ e) (Nat.le_refl _) ⟨by simp only [List.length_cons,List.length_nil];rw [sizeLine_eq];decide,[.int (i / j) s.toks,.int (i % j) (s.toks+1)],.cons ⟨_,rfl⟩ (.cons ⟨_,rfl⟩ .nil),?_⟩
 exact⟨_,Heap.get?_push_size s.heap rfl,rfl,0,rfl⟩
end
end L2
namespace L2
open PySem PySem.Spec PyProof.Rows
structure ObjM (h:Heap) (x dx C:Addr) (mA:Str->Option Value):Prop where
 obj:h.get? x=some (PySem.W.instObj C dx)
 ns:h.Ns1 dx mA
 ne:dx≠x
section
variable {prog : Program} {w : World} {A : Around} {E : Value -> Shared -> Prop} {s : Shared} {K : PySem.W.Frag} {x dx C f : Addr} {mA : Str -> Option Value} {name : Str} {v : Value}
end
section
variable {P : Program} {w : World} {H H' : Hp} {h h' : Heap} {a C dx : Addr} {fs fs' : List (Str × V)}
end
structure NM (K:PySem.W.Frag) (C:Addr):Prop where
 pg:PySem.W.plainGet K C Str.empty=true
 hd:PySem.W.hasDictIn K C=true
 po:PySem.W.plainOver K C=true
 sa:PySem.W.findIn K (.ref C) "__setattr__"=some (some (.builtin "object.__setattr__"))
structure Con (K:PySem.W.Frag) (C:Addr) (f:Str) (v:V) (u:Value):Prop where
 at_:PySem.W.findIn K (.ref C) f=some (some u)
 rel:Ay v u
 get:PySem.W.specialIn K u "__get__"=some none
 cp:PySem.W.copiedNames.contains f=false
structure Meth (K:PySem.W.Frag) (C:Addr) (m:Str) (f:Addr):Prop where
 at_:PySem.W.findIn K (.ref C) m=some (some (.ref f))
 fn:PySem.W.isFn K (.ref f)=true
 kp:PySem.W.keepIn K (.ref f)=true
section
variable {X : Cx} {pins : List (Addr × Obj)} {σ : St} {H : Hp} {s : Shared} {a C dx : Addr} {fs : List (Str × V)} {f : Str} {v : V} {A : Around} {E : Value -> Shared -> Prop}
end
section
variable {X : Cx} {o e value : Expr} {f : Str} {pos pos' tpos : Pos} {ta tv : TE}
end
section
variable {X : Cx} {pins : List (Addr × Obj)} {σ : St} {H : Hp} {s : Shared} {A : Around} {E : Value -> Shared -> Prop} {Q : Value -> Shared -> Prop} {c : Value} {b : Bool}
inductive CY (K:PySem.W.Frag) (H:Hp):V->Value->Prop where
 | non:CY K H .non (.type "NoneType")
 | bl (x:Bool):CY K H (.bl x) (.type "bool")
 | int (i:Int):CY K H (.int i) (.type "int")
 | str (x:Str):CY K H (.str x) (.type "str")
 | flt (x:UInt64):CY K H (.flt x) (.type "float")
 | lst {a:Addr}{xs:List V} (e:H a=some (.lst xs)):CY K H (.ref a) (.type "list")
 | frz {a:Addr}{o:Obj}{xs:List V} (e:H a=some (.frz o (.lst xs))):CY K H (.ref a) (.type "list")
 | tup {a:Addr}{xs:List V} (e:H a=some (.tup xs)):CY K H (.ref a) (.type "tuple")
 | dK {a:Addr}{kvs:List (Ax×V)} (e:H a=some (.dK kvs)):CY K H (.ref a) (.type "dict")
 | dT {a:Addr}{kvs:List (List Ax×V)} (e:H a=some (.dT kvs)):CY K H (.ref a) (.type "dict")
 | ins {a C dx : Addr} {fs : List (Str × V)} (e : H a = some (.ins C dx fs)) (cl : NM K C) (ha : PySem.W.findIn K (.ref C) "__class__" = some (some (.builtin "object.__class__")))
   (hn:PySem.W.specialIn K (.builtin "object.__class__") "__get__"=some (some (.builtin "getset_descriptor.__get__"))) (htk:PySem.W.takesIn K (.builtin "object.__class__")=some true)
   (hm:PySem.W.mroIn K C (.type "object")=some true):CY K H (.ref a) (.ref C)
end
end L2
namespace L2
open PySem PySem.Spec PyProof.Rows
variable {Q : VK} {us : List Value} {vs : List V} {P : Program} {kindOf : Str -> Option NameKind} {qual : Str} {scope : Scope}
structure Bm (k:Nat) (A:Around):Prop where
 hd:A.handled=none
 dp:A.depth+3 * k+5<recursionLimit
 un:A.units+16 * k+200<cLine
 gd:A.guards=some []
theorem Bm.mono {j k:Nat}{A:Around} (r:Bm k A) (h:j<=k):Bm j A:=⟨r.hd,by have:=r.dp;omega,by have:=r.un;omega,r.gd⟩
theorem Bm.deeper {k:Nat}{A:Around} (r:Bm (k+1) A) (env:Env):Bm k (A.deeper env):=
 ⟨r.hd,by have:=r.dp;show A.depth+1+3 * k+5<_;omega,by have:=r.un;show A.units+3+16 * k+200<_;omega,r.gd⟩
theorem Bm.depth {k:Nat}{A:Around} (r:Bm k A):A.depth<recursionLimit:=by have:=r.dp;omega
theorem Bm.units0 {k:Nat}{A:Around} (r:Bm k A):A.units<cLine:=by have:=r.un;omega
def E5:TA:=λ_ H Q=>Q [] H
def CZ (ta:TE) (tr:TA):TA:=fun σ H Q=>ta σ H λx H1=>tr σ H1 λxs H2=>Q (x::xs) H2
section
variable {X : Cx} {e : Expr} {es : List Expr} {te : TE} {t : TA} {pos : Pos}
theorem Cc:PA X [] E5:=λ_ _ _ _ H Q I h=>Calls.spliced_nil ⟨[],H,I,.nil,h⟩
theorem Ci (ha:PE X e te) (hr:PA X es t) (hs:starEach (e::es) X.env=(false,eval e X.env)::starEach es X.env:=by rfl):PA X (e::es) (CZ te t):=by
 intro pos pins s σ H Q I h
 rw [hs]
 show wpAny _ _ (spliced ((false,eval e X.env)::backTo pos (starEach es X.env))) _ _ s
 refine Calls.spliced_cons (Aq (ha pins s σ H _ I h) λu s1 ⟨x,H1,I1,r1,q1⟩=>?_)
 exact Aq (hr pos pins s1 σ H1 _ I1 q1) λus s2 ⟨xs,H2,I2,r2,q2⟩=>⟨x::xs,H2,I2,.cons r1 r2,q2⟩
end
abbrev Sp:=List V->Hp->VK->XK->Prop
abbrev CD:=List Env->Hp->Shared->XK->Value->Shared->Prop
structure Es (P:Program) (w:World) (K:PySem.W.Frag) (mg:Str->Option Value) (base:Heap) (A:Around) (outer:List Env) (s:Shared) (H:Hp):Prop where
 frames:A.frames=some outer
 mod:Mod K mg base
 bs:∀b o,base.get? b=some o->s.heap.get? b=some o/\H b=none
 bsz:base.objs.size<=s.heap.objs.size
 funs:s.heap.FunFrames base outer
 frf:∀b∈B0 outer,H b=none
 hok:HOk P w H s.heap
 bare:AllBare s.gens
def CE (outer:List Env) (P:Program) (w:World) (H:Hp) (s:Shared) (Q:VK) (u:Value) (s':Shared):Prop:=
 ∃v H',s'.os=s.os/\AllBare s'.gens/\Un (B0 outer) [] H H' s.heap s'.heap/\HOk P w H' s'.heap/\Ay v u/\Q v H'
def CR (CX:CD) (outer:List Env) (P:Program) (w:World) (H:Hp) (s:Shared) (Q:VK) (E:XK) (r:Result) (s':Shared):Prop:=
 match r with
 | .ok (.ret u)=>CE outer P w H s Q u s'
 | .ok _=>False
 | .error e=>CX outer H s E e s'
structure C0 (P:Program) (w:World) (K:PySem.W.Frag) (mg:Str->Option Value) (base:Heap) (CX:CD) (k:Nat) (f:Addr) (fd:FuncData) (ps:List Str) (sp:Sp):Prop where
 len:∀vs H Q E,sp vs H Q E->vs.length=ps.length
 run:∀(A:Around) (outer:List Env) (s:Shared) (H:Hp) (args:Args) (us:List Value) (vs:List V) (Q:VK) (E:XK),Bm k A->Es P w K mg base A outer s H->BindsTo s fd args (ps.zip us)->Ar vs us->sp vs H Q E->
  codeAny (model P w) A (.call (.ref f) args) (CR CX outer P w H s Q E) s
section
variable {X : Cx} {pins : List (Addr × Obj)} {σ : St} {H : Hp} {s s' : Shared}
theorem Ad.env0 (I:Ad X pins σ H s):Es X.prog X.w X.K X.mg X.base X.A X.stack s H:=
 ⟨I.ok.frames,I.ok.mod,I.bs,Nat.le_trans I.ok.bsz I.sz,I.stack,I.stkFree,I.hok,I.bare⟩
theorem Ad.after {u:Value} (I:Ad X pins σ H s) (h:CE X.stack X.prog X.w H s Q u s'):EP X pins σ Q u s':=by
 obtain⟨v,H',os,bare,un,hok,r,q⟩:=h
 obtain⟨hh,g,d,t,os'⟩:=s'
 obtain rfl:os'=s.os:=os
 exact⟨v,H',I.call (h':=hh) (g':=g) (d':=d) (t':=t) (ch:=[]) un hok bare (λb z=>absurd z (by simp)),r,q⟩
end
def NN (sp:Sp) (dvs:List V) (E:XK) (t:TA):TE:=fun σ H Q=>t σ H λvs H1=>sp (vs++dvs) H1 Q E
def Binds (K:PySem.W.Frag) (fd:FuncData) (ps:List Str) (ds:List Value):Prop:=
 ∀(s:Shared) (us:List Value),K.In s.heap->(us++ds).length=ps.length->BindsTo s fd ⟨us,[]⟩ (ps.zip (us++ds))
theorem Binds.all {K:PySem.W.Frag}{fd:FuncData}{ps:List Str} (h:∀us:List Value,us.length=ps.length->bindArgs fd ⟨us,[]⟩=pure (ps.zip us)):Binds K fd ps []:=λs us _ hl=>by
 rw [List.append_nil] at hl ⊢
 exact .of_eq (h us hl)
def Io (CX:CD) (X:Cx) (E:XK):Prop:=∀(pins:List (Addr×Obj)) (σ:St) (H:Hp) (s:Shared) (e:Value) (s':Shared),Ad X pins σ H s->CX X.stack H s E e s'->X.xe e s'
section
variable {X : Cx} {CX : CD} {k : Nat} {f C : Addr} {fd : FuncData} {ps : List Str} {sp : Sp} {dvs : List V} {ds : List Value} {E : XK} {x m : Str} {p pos apos : Pos} {e o : Expr} {es : List Expr} {ta : TE} {t : TA}
theorem NO {pins:List (Addr×Obj)}{σ:St}{H:Hp}{s:Shared} (F:C0 X.prog X.w X.K X.mg X.base CX k f fd ps sp) (hr:Bm k X.A) (hb:Binds X.K fd ps ds) (hd:Ar dvs ds) (hx:Io CX X E)
  (I:Ad X pins σ H s) (r:Ar vs us) (h:sp (vs++dvs) H Q E):wpAny (model X.prog X.w) X.A (call (.ref f) us) (EP X pins σ Q) X.xe s:=by
 have r2:Ar (vs++dvs) (us++ds):=r.append hd
 have hl:(us++ds).length=ps.length:=by rw [<-r2.length];exact F.len _ _ _ _ h
 refine wpAny_call (codeAny_mono (F.run X.A X.stack s H ⟨us,[]⟩ (us++ds) (vs++dvs) Q E hr I.env0 (hb s us I.kIn hl) r2 h) λr s' hq=>?_)
 cases r with
 | error e=>exact hx pins σ H s e s' I hq
 | ok fl=>
  cases fl with
  | ret u=>exact I.after hq
  | next=>exact False.elim hq
  | brk=>exact False.elim hq
  | cont=>exact False.elim hq
theorem NP (F:C0 X.prog X.w X.K X.mg X.base CX k f fd ps sp) (hr:Bm k X.A) (hg:Gl X x) (hm:X.mg x=some (.ref f)) (hk:PySem.W.keepIn X.K (.ref f)=true) (hb:Binds X.K fd ps ds) (hd:Ar dvs ds) (hx:Io CX X E)
  (ha:PA X (e::es) t) (hdb:(x==("__debug__" :Str))=false:=by decide) (he:starEach (e::es) X.env=(false,eval e X.env)::starEach es X.env:=by rfl) (hpl:(backTo pos (starEach es X.env)).any (·.1)=false:=by rfl):
  PE X (.Call (.Name x p) (e::es) [] pos) (NN sp dvs E t):=by
 intro pins s σ H Q I h
 refine wpAny_Call_Name_kw (JO I hg hm ?_ hdb)
 refine PySem.W.callWith_K (h₀:=X.base) I.ok.mod.kin hk (Aq (ha pos pins s σ H _ I h) λus s1 ⟨vs,H1,I1,r,q⟩=>⟨I1.kIn,?_⟩) he hpl
 exact NO F hr hb hd hx I1 r q
structure Mk (K:PySem.W.Frag) (C f:Addr):Prop where
 makes:PySem.W.makesIn K C=true
 init:PySem.W.findIn K (.ref C) "__init__"=some (some (.ref f))
 fn:PySem.W.isFn K (.ref f)=true
 kp:PySem.W.keepIn K (.ref C)=true
end
section
variable {X : Cx} {CX : CD} {k : Nat} {f C : Addr} {fd : FuncData} {ps ks : List Str} {sp : Sp} {E : XK} {x m : Str} {p pos apos kpos : Pos} {e o : Expr} {es : List Expr} {kws : List Keyword} {te ta : TE} {t tk : TA} {nm : Option Str}
structure KBinds (K:PySem.W.Frag) (fd:FuncData) (ps ks:List Str) (g:List Value->List Value->List Value) (gV:List V->List V->List V):Prop where
 to:∀(s:Shared) (us ws:List Value),K.In s.heap->(g us ws).length=ps.length->BindsTo s fd ⟨us,ks.zip ws⟩ (ps.zip (g us ws))
 rel:∀ {vs:List V}{us:List Value}{zs:List V}{ws:List Value},Ar vs us->Ar zs ws->Ar (gV vs zs) (g us ws)
variable {g : List Value -> List Value -> List Value} {gV : List V -> List V -> List V}
end
structure AB (N P:List Str) (sc:Scope):Prop where
 kind:sc.kind= .function
 co:sc.isCoroutine=false
 gen:sc.isGenerator=false
 nd:N.Nodup
 pre:N.take P.length=P
 par:∀x∈P,sc.names.lookup x=some .local \/sc.names.lookup x=some .cell
 nofree:∀y∈sc.names,y.2≠ .free
theorem AG {N P:List Str}{sc:Scope} (a:sc.kind= .function:=by rfl) (b:sc.isCoroutine=false:=by rfl) (c:sc.isGenerator=false:=by rfl) (d:N.Nodup:=by decide+kernel) (e:N.take P.length=P:=by rfl) (f:∀x∈P,sc.names.lookup x=some .local \/sc.names.lookup x=some .cell:=by decide+kernel) (g:∀y∈sc.names,y.2≠ .free:=by decide+kernel):AB N P sc:=⟨a,b,c,d,e,f,g⟩
theorem J8 {x:Str}:∀ {binds:List (Str×Value)}{m:Str->Option Value},(∀v,(x,v) ∉ binds)->bindL kindOf binds m x=m x
  | [],_,_=>rfl
  | (n, v) :: r, m, h => by
    unfold bindL
    rw [J8 λw hw=>h w (List.mem_cons_of_mem _ hw)]
    split
    . have:x≠n:=by rintro rfl;exact h v List.mem_cons_self
      simp [this]
    . rfl
theorem J9 {x:Str}:∀ {binds:List (Str×Value)}{m:Str->Option Value},(∀v,(x,v) ∉ binds)->bindC kindOf binds m x=m x
  | [],_,_=>rfl
  | (n, v) :: r, m, h => by
    unfold bindC
    rw [J9 λw hw=>h w (List.mem_cons_of_mem _ hw)]
    split
    . rfl
    . have:x≠n:=by rintro rfl;exact h v List.mem_cons_self
      simp [this]
theorem Ka {kindOf:Str->Option NameKind}{x:Str}{v:Value}:∀ {P:List Str}{vs:List Value}{i:Nat}{m:Str->Option Value},P.Nodup->P[i]? =some x->vs[i]? =some v->kindOf x=some .local ->
  bindL kindOf (P.zip vs) m x=some v
 | [],_,_,_,_,h,_,_=>by simp at h
 | _::_,[],_,_,_,_,h,_=>by simp at h
 | p::P,w::vs,0,m,nd,h1,h2,hk=>by
  simp at h1 h2;subst h1;subst h2
  show bindL kindOf ((p,w)::P.zip vs) m p=_
  unfold bindL
  rw [J8 λv hv=>(List.nodup_cons.mp nd).1 (List.of_mem_zip hv).1,if_pos hk]
  simp
 | p::P,w::vs,i+1,m,nd,h1,h2,hk=>by
  show bindL kindOf ((p,w)::P.zip vs) m x=_
  unfold bindL
  exact Ka (i:=i) (List.nodup_cons.mp nd).2 (by simpa using h1) (by simpa using h2) hk
theorem Kb {kindOf:Str->Option NameKind}{x:Str}{v:Value}:∀ {P:List Str}{vs:List Value}{i:Nat}{m:Str->Option Value},P.Nodup->P[i]? =some x->vs[i]? =some v->kindOf x≠some .local ->
  bindC kindOf (P.zip vs) m x=some v
 | [],_,_,_,_,h,_,_=>by simp at h
 | _::_,[],_,_,_,_,h,_=>by simp at h
 | p::P,w::vs,0,m,nd,h1,h2,hk=>by
  simp at h1 h2;subst h1;subst h2
  show bindC kindOf ((p,w)::P.zip vs) m p=_
  unfold bindC
  rw [J9 λv hv=>(List.nodup_cons.mp nd).1 (List.of_mem_zip hv).1,if_neg hk]
  simp
 | p::P,w::vs,i+1,m,nd,h1,h2,hk=>by
  show bindC kindOf ((p,w)::P.zip vs) m x=_
  unfold bindC
  exact Kb (i:=i) (List.nodup_cons.mp nd).2 (by simpa using h1) (by simpa using h2) hk
def start (N:List Str) (vs:List V):St:=vs.map some++List.replicate (N.length-vs.length) none
def D9 (CX:CD) (P:Program) (w:World) (K:PySem.W.Frag) (mg:Str->Option Value) (base:Heap) (N:List Str) (qual:Str) (scope:Scope) (f:Addr) (cd:Value) (A:Around) (outer:List Env) (s:Shared) (H:Hp) (E:XK):Cx where
 prog:=P
 w:=w
 K:=K
 mg:=mg
 base:=base
 A:=A.deeper (envOfC qual scope s.heap.objs.size f cd)
 N:=N
 s₀:=s
 H₀:=H
 env:=envOfC qual scope s.heap.objs.size f cd
 outer:=outer
 stack:=envOfC qual scope s.heap.objs.size f cd::outer
 ex:=[]
 calm:=true
 fn:=λ_=>true
 pn:=[]
 xe:=λe s'=>wpAny (model P w) (A.deeper (envOfC qual scope s.heap.objs.size f cd)) (leaving (envOfC qual scope s.heap.objs.size f cd) e) (λ_ s''=>CX outer H s E e s'') (λe' s''=>CX outer H s E e' s'') s'
theorem Kc {sc:Scope}{n:Nat}{x:Str} (h:sc.names.lookup x=some .cell):∃c,(cellsFrom n sc.names []).lookup x=some c:=by
 have q:=PySem.W.cellsFrom_some sc.names n [] (.inl h)
 exact Option.isSome_iff_exists.mp q
theorem NQ {CX:CD}{w:World}{K:PySem.W.Frag}{mg:Str->Option Value}{base:Heap}{N ps:List Str}{f:Addr}{cd:Value}{A:Around}{outer:List Env}{s s1:Shared}{H:Hp}{E:XK}
  (S:AB N ps scope) (hd:A.handled=none) (e0:Es P w K mg base A outer s H) (hl:vs.length=ps.length) (r:Ar vs us)
  (x:InCallC s s.heap.objs.size (bindL (envOfC qual scope s.heap.objs.size f cd).kindOf (ps.zip us) λ_=>none) (cellsFrom (s.heap.objs.size+1) scope.names []) (bindC (envOfC qual scope s.heap.objs.size f cd).kindOf (ps.zip us) λ_=>none) s1):
  Ad (D9 CX P w K mg base N qual scope f cd A outer s H E) [] (start N vs) H s1:=by
 have hpl:ps.length<=N.length:=by have:=congrArg List.length S.pre;rw [List.length_take] at this;omega
 obtain⟨h1,tk,rfl,hk⟩:=x.done
 have noA:∀b:Addr,b ∉(D9 CX P w K mg base N qual scope f cd A outer s H E).ex:=λb z=>absurd (show b∈([]:List Addr) from z) (by simp)
 refine⟨⟨e0.mod,S.kind,rfl,rfl,Nat.le_refl _,λy z c h1 h2=>?_,λy hy=>?_,λy c _ h=>?_,λ_=>hd,Around.frames_deeper e0.frames,.inr ⟨rfl,rfl⟩,λb z=>absurd z (noA b),e0.bs,e0.bsz,λb _ _=>noA b,λb z=>absurd z (noA b),e0.funs,e0.frf⟩,
  rfl,e0.bare,Un.kept hk,⟨_,x.toInCall.ns,λi y v h1 h2 h3=>?_⟩,λy c h=>⟨_,x.cell y c h⟩,e0.hok.fresh (Nat.le_refl _),λy c h=>?_,λp hp=>absurd (show p∈([]:List (Addr×Obj)) from hp) (by simp),e0.hok.kept hk,?_⟩
 ·exact name_of_addr x.apart (PySem.mem_of_lookup h1) (PySem.mem_of_lookup h2)
 ·have hy:scope.names.lookup y=some .cell\/scope.names.lookup y=some .free:=hy
  rcases hy with hy | hy
  ·exact Kc hy
  ·exact absurd rfl (S.nofree _ (PySem.mem_of_lookup hy))
 ·exact Nat.le_of_lt (x.above y c (PySem.mem_of_lookup h))
 ·have hi:i<vs.length:=by
   unfold start at h2
   by_cases hi:i<vs.length
   ·exact hi
   ·rw [List.getElem?_append_right (by simpa using hi)] at h2
    rw [List.getElem?_replicate] at h2
    split at h2<;>cases h2
  have ha:vs[i]? =some v:=by
   unfold start at h2
   rw [List.getElem?_append_left (by simpa using hi),List.getElem?_map] at h2
   cases e:vs[i]? with
   | none=>rw [e] at h2;cases h2
   | some a=>rw [e] at h2;cases h2;rfl
  obtain⟨u,hu,rv⟩:=r.get ha
  have hp:ps[i]? =some y:=by
   rw [<-S.pre,List.getElem?_take_of_lt (by omega)];exact h1
  have ndP:ps.Nodup:=by rw [<-S.pre];exact S.nd.sublist (List.take_sublist _ _)
  refine⟨u,rv,?_⟩
  rcases S.par y (List.mem_of_getElem? hp) with k | k
  ·exact .inl ⟨k,Ka ndP hp hu k⟩
  ·obtain⟨c,e⟩:=Kc (n:=s.heap.objs.size+1) k
   refine .inr ⟨.inl k,c,e,?_⟩
   have q:=x.cell y c e
   rw [Kb ndP hp hu (by show scope.names.lookup y≠_;rw [k];decide)] at q
   exact q
 ·exact e0.hok.fresh (Nat.le_of_lt (x.above y c (PySem.mem_of_lookup h)))
 ·unfold start
  show _=N.length
  rw [List.length_append,List.length_map,List.length_replicate]
  omega
theorem NR {CX:CD}{w:World}{K:PySem.W.Frag}{mg:Str->Option Value}{base:Heap}{k:Nat}{f:Addr}{name:Str}{params:Arguments}{body:List Stmt}{dV kV doc pm cdv ct oc:Value}{an od:Option Addr}
  {osl:Array (Option Value)}{N ps:List Str}{sp:Sp} (lk:K.lookup f=some ⟨oc,od,.func (PySem.W.fnOf name qual params body scope dV kV doc pm an cdv ct),osl⟩) (hcd:PySem.W.codeIn K cdv qual=true) (S:AB N ps scope)
  (len:∀vs H Q E,sp vs H Q E->vs.length=ps.length)
  (hbody : ∀ (A : Around) (outer : List Env) (s : Shared) (H : Hp) (vs : List V) (Q : VK) (E : XK), Bm k (A.deeper (envOfC qual scope s.heap.objs.size f cdv)) -> sp vs H Q E ->
   ∃t,PSs (D9 CX P w K mg base N qual scope f cdv A outer s H E) body t/\t { nx:=λ_ H'=>Q .non H',rt:=Q} (start N vs) H):
  C0 P w K mg base CX (k+1) f (PySem.W.fnOf name qual params body scope dV kV doc pm an cdv ct) ps sp:=by
 refine⟨len,λA outer s H args us vs Q E hr e0 hb r hsp=>?_⟩
 have hl:=len _ _ _ _ hsp
 have KX:K.In s.heap:=e0.mod.kin.keeps λb o e=>(e0.bs b o e).1
 have lim:s.heap.NoLimit:=e0.mod.nolimit.keeps λb o e=>(e0.bs b o e).1
 have hkind:∀y∈ps.zip us,scope.names.lookup y.1=some .local \/(scope.names.lookup y.1=some .cell/\((cellsFrom (s.heap.objs.size+1) scope.names []).lookup y.1).isSome=true):=fun⟨n,v⟩ hy=>by
  rcases S.par n (List.of_mem_zip hy).1 with q | q
  ·exact .inl q
  ·exact .inr ⟨q,PySem.W.cellsFrom_some _ _ _ (.inl q)⟩
 refine codeAny_call_function hr.depth (KX _ _ lk) rfl S.co S.gen rfl (PySem.W.codeRec_of KX hcd) (hb _ _ _ _ ?_)
 refine wpAny_newFunctionEnv_cells S.kind hkind λenv he s1 x=>?_
 subst he
 refine⟨lim.keeps x.toInCall.keep,codeAny_func ?_⟩
 obtain⟨t,ht,hq⟩:=hbody A outer s H vs Q E (hr.deeper _) hsp
 have I:Ad (D9 CX P w K mg base N qual scope f cdv A outer s H E) [] (start N vs) H s1:=NQ S hr.hd e0 hl r x
 refine wpAny_mono (ht [] s1 (start N vs) H _ I hq) (λfl s' hs=>?_) λe s' hs=>hs
 have fin:∀ {σ':St}{H':Hp}{v:V}{u:Value},Ad (D9 CX P w K mg base N qual scope f cdv A outer s H E) [] σ' H' s'->Ay v u->Q v H'->CE outer P w H s Q u s':=
  λ{σ' H' v u} J rv q=>⟨v,H',J.os,J.bare,J.base,J.hok,rv,q⟩
 cases fl with
 | ret u=>
  obtain⟨v,σ',H',J,rv,q⟩:=hs
  exact fin J rv q
 | next=>
  obtain⟨σ',H',J,q⟩:=hs
  exact fin (v:=V.non) (u:=Value.none) J rfl q
 | brk=>
  obtain⟨_,_,_,q⟩:=hs
  exact False.elim q
 | cont=>
  obtain⟨_,_,_,q⟩:=hs
  exact False.elim q
end L2
namespace L2
open PySem PySem.Spec PyProof.Rows
section
variable {X : Cx} {x : Str} {p pos : Pos} {e : Expr} {es : List Expr} {t : TA} {id T : String} {r : List V -> Hp -> VK -> Prop}
def Kd (r:List V->Hp->VK->Prop) (t:TA):TE:=fun σ H Q=>t σ H λvs H1=>r vs H1 Q
theorem AE (hc:Bz X (.builtin id) r) (hg:Gl X x) (hm:X.mg x=none) (hv:bootBuiltins x=some (.builtin id)) (ha:PA X (e::es) t) (hn:x≠ "__name__" :=by decide) (hdb:(x==("__debug__" :Str))=false:=by decide)
  (he:starEach (e::es) X.env=(false,eval e X.env)::starEach es X.env:=by rfl) (hpl:(backTo pos (starEach es X.env)).any (·.1)=false:=by rfl):PE X (.Call (.Name x p) (e::es) [] pos) (Kd r t):=by
 intro pins s σ H Q I h
 refine wpAny_Call_Name_kw (CB I hg hm hv ?_ hn hdb)
 exact PyProof.Rows.callWith_builtin1 (Aq (ha pos pins s σ H _ I h) λus s1 ⟨vs,H1,I1,r1,q1⟩=>hc pins s1 σ H1 vs us Q I1 r1 q1) he hpl
theorem Bv (hc:Bz X (.type T) r) (hg:Gl X x) (hm:X.mg x=none) (hv:bootBuiltins x=some (.type T)) (ha:PA X (e::es) t) (hn:x≠ "__name__" :=by decide) (hdb:(x==("__debug__" :Str))=false:=by decide)
  (he:starEach (e::es) X.env=(false,eval e X.env)::starEach es X.env:=by rfl) (hpl:(backTo pos (starEach es X.env)).any (·.1)=false:=by rfl):PE X (.Call (.Name x p) (e::es) [] pos) (Kd r t):=by
 intro pins s σ H Q I h
 refine wpAny_Call_Name_kw (CB I hg hm hv ?_ hn hdb)
 exact PyProof.Rows.callWith_type1 (Aq (ha pos pins s σ H _ I h) λus s1 ⟨vs,H1,I1,r1,q1⟩=>hc pins s1 σ H1 vs us Q I1 r1 q1) he hpl
end
end L2
namespace HT
open PySem PyProof.Rows
variable {sl : Addr} {vl vu : Value}
section
open PySem.SeqAt
open PySem.AutoSeq1 (wpAny_loadPart')
open PySem.MeetsSeq PySem.MeetsSeq2 PySem.MeetsSeq3
end
section
variable {prog : Program} {w : World} {A : Around} {E : Value -> Shared -> Prop} {s : Shared}
def sIx (n d:Nat):Option Int->Nat
 | none=>d
 | some v=>if v<0 then(v+(n:Int)).toNat else min v.toNat n
theorem sIx_none (n d:Nat):sIx n d none=d:=rfl
theorem sIx_nat (n d k:Nat):sIx n d (some (k:Int))=min k n:=by
 show(if (k:Int)<0 then((k:Int)+(n:Int)).toNat else min (k:Int).toNat n)=min k n
 rw [if_neg (by omega),Int.toNat_natCast]
theorem NS (n d:Nat) (hd:d<=n) (o:Option Int):sIx n d o<=n:=by
 cases o with
 | none=>exact hd
 | some v=>
  show(if v<0 then(v+(n:Int)).toNat else min v.toNat n)<=n
  by_cases hv:v<0
  ·rw [if_pos hv];omega
  ·rw [if_neg hv];exact Nat.min_le_right _ _
theorem Ke (v:Int) (n d:Nat):(if v<0 then max (v+(n:Int)) 0 else min v (n:Int))=((sIx n d (some v):Nat):Int):=by
 show(if v<0 then max (v+(n:Int)) 0 else min v (n:Int))=(((if v<0 then(v+(n:Int)).toNat else min v.toNat n):Nat):Int)
 by_cases hv:v<0
 ·simp only [if_pos hv];omega
 ·simp only [if_neg hv];omega
theorem NT (lo hi:Option Int) (n:Nat):Builtin.Slice.sliceAdjust lo hi 1 (n:Int)=(((sIx n 0 lo:Nat):Int),((sIx n n hi:Nat):Int)):=by
 have h1:¬((1:Int)<0):=by omega
 unfold Builtin.Slice.sliceAdjust
 simp only [h1,if_false]
 refine Prod.ext ?_ ?_
 ·cases lo with
  | none=>rfl
  | some v=>exact Ke v n 0
 ·cases hi with
  | none=>rfl
  | some v=>exact Ke v n n
theorem NU (i j:Nat):Builtin.Slice.slicePlaces (i:Int) (j:Int) 1=j-i:=by
 unfold Builtin.Slice.slicePlaces
 have h1:(1:Int) >0:=by omega
 simp only [h1,if_true,Int.ediv_one]
 split<;>omega
theorem Kf {v:Value}{o:Option Int}{Q:Option Int->Shared->Prop} (p:IsPart v o) (h:Q o s):wpAny (model prog w) A (Builtin.Slice.slicePartIndex v) Q E s:=by
 cases p with
 | none=>exact slicePart_none h
 | int i t=>exact slicePart_int h
theorem sliceApplied_gen {lo hi:Option Int}{n:Nat}{Q:Int×Int×Nat->Shared->Prop} (hs:s.heap.IsSliceOf sl vl vu .none) (pl:IsPart vl lo) (pu:IsPart vu hi)
  (h:Q (((sIx n 0 lo:Nat):Int),1,sIx n n hi-sIx n 0 lo) s):wpAny (model prog w) A (Builtin.Slice.sliceApplied (.ref sl) (pure (n:Int))) Q E s:=by
 obtain⟨os,hos,hcs,hds⟩:=id hs
 unfold Builtin.Slice.sliceApplied Builtin.Slice.sliceFields
 refine wpAny_bind (wpAny_bind (wpAny_field hos hds (x:=vl) rfl (wpAny_bind (wpAny_field hos hds (x:=vu) rfl (wpAny_bind (wpAny_field hos hds (x:= .none) rfl (wpAny_pure ?_)))))))
 refine wpAny_bind (slicePart_none ?_)
 show wpAny _ _ (if ((1:Int)==0)=true then _ else _) _ _ s
 rw [if_neg (by decide)]
 refine wpAny_bind (Kf pl (wpAny_bind (Kf pu (wpAny_bind (wpAny_pure ?_)))))
 show wpAny _ _ (match Builtin.Slice.sliceAdjust lo hi 1 (n:Int) with | (lo,hi)=>pure (lo,(1:Int),Builtin.Slice.slicePlaces lo hi 1)) _ _ s
 rw [NT lo hi n]
 show wpAny _ _ (pure (((sIx n 0 lo:Nat):Int),(1:Int),Builtin.Slice.slicePlaces ((sIx n 0 lo:Nat):Int) ((sIx n n hi:Nat):Int) 1)) _ _ s
 rw [NU]
 exact wpAny_pure h
theorem NV (xs:Array Value) (i k:Nat):((List.range k).filterMap fun(m:Nat)=>xs[((i:Int)+(m:Int) * 1).toNat]?).toArray=((xs.toList.drop i).take k).toArray:=by
 have e:(fun(m:Nat)=>xs[((i:Int)+(m:Int) * 1).toNat]?)=λm=>xs[i+m]? :=by
  funext m
  have:((i:Int)+(m:Int) * 1).toNat=i+m:=by omega
  rw [this]
 rw [e]
 have:=pick_run xs i k
 rw [List.filterMap_map] at this
 have e2:((λx=>xs[x]?) ∘λx=>i+x)=λm=>xs[i+m]? :=rfl
 rw [e2] at this
 rw [this]
theorem getItem_tuple_cut {t:Addr}{items:Array Value}{lo hi:Option Int}{Q:Value->Shared->Prop} (ht:IsTup s.heap t items) (hs:s.heap.IsSliceOf sl vl vu .none) (pl:IsPart vl lo) (pu:IsPart vu hi)
  (hw:¬(sIx items.size 0 lo=0/\sIx items.size items.size hi=items.size))
  (h:Q (.ref s.heap.objs.size) { s with heap:=s.heap.push { cls:= .type "tuple",data:= .seq ((items.toList.drop (sIx items.size 0 lo)).take (sIx items.size items.size hi-sIx items.size 0 lo)).toArray}})
  (hsz:items.size<=sizeLine):wpAny (model prog w) A (getItem (.ref t) (.ref sl)) Q E s:=by
 have htake:sizeOk (.seq ((items.toList.drop (sIx items.size 0 lo)).take (sIx items.size items.size hi-sIx items.size 0 lo)).toArray):=by
  show((items.toList.drop (sIx items.size 0 lo)).take (sIx items.size items.size hi-sIx items.size 0 lo)).toArray.size<=sizeLine
  rw [List.size_toArray,List.length_take,List.length_drop,Array.length_toList]
  omega
 have hj:sIx items.size items.size hi<=items.size:=NS _ _ (Nat.le_refl _) hi
 obtain⟨os,hos,hcs,hds⟩:=id hs
 have hTs:s.TypeIs (.ref sl) "slice" :=⟨os,hos,hcs⟩
 unfold getItem
 try with_reducible refine wpAny_holding ?_
 first | refine wpAny_bind (wpAny_pure ?_) | skip
 refine wpAny_bind (wpAny_sequenceKey ht.typeIs (by decide) ?_)
 refine wpAny_bind (wpAny_callSpecial?_slot (name:=Str.ofString "__getitem__") ht.typeIs PyProof.Rows.slot_tuple_getitem
  (wpAny_call_entry PyProof.Rows.slot_tuple_getitem ht.typeIs entry_tuple_getitem ?_ (args_tuple_getitem _ _)))
 show wpAny _ _ (Builtin.Tuple.tupleItemsOf (.ref t) >>=_) _ _ s
 refine wpAny_bind (tupleItemsOf_ ht ?_)
 refine wpAny_bind (wpAny_typeOf hTs ?_)
 rw [if_pos (by decide)]
 refine wpAny_bind (sliceApplied_gen hs pl pu ?_)
 have hno:¬((((sIx items.size 0 lo:Nat):Int)==0 &&(1:Int)==1 &&(sIx items.size items.size hi-sIx items.size 0 lo)==items.size)=true):=by
  intro q
  rw [Bool.and_eq_true,Bool.and_eq_true] at q
  have q1:((sIx items.size 0 lo:Nat):Int)=0:=eq_of_beq q.1.1
  have q2:sIx items.size items.size hi-sIx items.size 0 lo=items.size:=eq_of_beq q.2
  exact hw ⟨by omega,by omega⟩
 show wpAny _ _ (if (((sIx items.size 0 lo:Nat):Int)==0 &&(1:Int)==1 &&(sIx items.size items.size hi-sIx items.size 0 lo)==items.size)=true then _ else _) _ _ s
 rw [if_neg hno,NV]
 first
  | exact wpAny_bind (m:=Builtin.Tuple.tupleExact _) (wpAny_newObj_type (wpAny_pure ⟨_,rfl,wpAny_pure h⟩) htake)
  | exact wpAny_bind (m:=Builtin.Tuple.tupleExact _) (wpAny_newObj_type (wpAny_bind (wpAny_pure (wpAny_pure ⟨_,rfl,wpAny_pure h⟩))) htake)
  | exact wpAny_bind (wpAny_bind (m:=Builtin.Tuple.tupleExact _) (wpAny_newObj_type (wpAny_pure (wpAny_pure ⟨_,rfl,wpAny_pure h⟩)) htake))
  | exact wpAny_bind (wpAny_bind (m:=Builtin.Tuple.tupleExact _) (wpAny_newObj_type (wpAny_pure ⟨_,rfl,wpAny_pure h⟩) htake))
end
end HT
namespace L2
open PySem PySem.Spec PyProof.Rows
abbrev TO:=St->Hp->(Option Int->Hp->Prop)->Prop
def PO (X:Cx) (e:Option Expr) (t:TO):Prop:=
 ∀(pins:List (Addr×Obj)) (s:Shared) (σ:St) (H:Hp) (Q:Option Int->Hp->Prop),Ad X pins σ H s->t σ H Q->
  wpAny (model X.prog X.w) X.A (evalPart e X.env) (λu s'=>∃o H',Ad X pins σ H' s'/\IsPart u o/\Q o H') X.xe s
def NW:TO:=λ_ H Q=>Q none H
def NX (t:TE):TO:=fun σ H Q=>t σ H λx H1=>∃i,x= .int i/\Q (some i) H1
theorem NY {ns:List Int}:∀ {us:List Value},Ar (ns.map V.int) us->IntsAre us ns:=by
 induction ns with
 | nil=>intro us r;rw [List.map_nil] at r;cases r;exact .nil
 | cons n ns ih=>
  intro us r
  rw [List.map_cons] at r
  cases r with
  | cons r1 r2=>
   obtain⟨t,e⟩:=r1
   subst e
   exact .cons n t (ih r2)
section
variable {X : Cx} {e : Expr} {te : TE} {lo hi : Option Expr} {tl th : TO} {pos p2 : Pos}
theorem Ce:PO X none NW:=by
 intro pins s σ H Q I h
 rw [evalPart_none]
 exact wpAny_pure ⟨none,H,I,.none,h⟩
theorem BA (h:PE X e te):PO X (some e) (NX te):=by
 intro pins s σ H Q I hw
 rw [evalPart_some]
 refine Aq (h pins s σ H _ I hw) λu s1 ⟨x,H1,I1,r1,q1⟩=>?_
 obtain⟨i,rfl,q⟩:=q1
 obtain⟨t,rfl⟩:=r1
 exact⟨some i,H1,I1,.int i t,q⟩
def F8 (X:Cx) (r:V->Option Int->Option Int->Hp->VK->Prop):Prop:=
 ∀(pins:List (Addr×Obj)) (s:Shared) (σ:St) (H:Hp) (x:V) (v vl vu:Value) (lo hi:Option Int) (sl:Addr) (Q:VK),Ad X pins σ H s->Ay x v->s.heap.IsSliceOf sl vl vu .none->IsPart vl lo->IsPart vu hi->r x lo hi H Q->
  ∃T id,typeLookup (.type T) "__getitem__"=pure (some (.builtin id))/\s.TypeIs v T/\wpAny (model X.prog X.w) X.A (getItem v (.ref sl)) (EP X pins σ Q) X.xe s
def NZ (r:V->Option Int->Option Int->Hp->VK->Prop) (te:TE) (tl th:TO):TE:=fun σ H Q=>te σ H λx H1=>tl σ H1 λl H2=>th σ H2 λu H3=>r x l u H3 Q
theorem BN {r:V->Option Int->Option Int->Hp->VK->Prop} (hr:F8 X r) (he:PE X e te) (hl:PO X lo tl) (hu:PO X hi th):PE X (.Subscript e (.Slice lo hi none p2) pos) (NZ r te tl th):=by
 intro pins s σ H Q I h
 refine Subscript_ (Aq (he pins s σ H _ I h) λv s1 ⟨x,H1,I1,r1,q1⟩=>?_)
 refine wpAny_Slice (Aq (hl pins s1 σ H1 _ I1 q1) λvl s2 ⟨l,H2,I2,pl,q2⟩=>Aq (hu pins s2 σ H2 _ I2 q2) λvu s3 ⟨u,H3,I3,pu,q3⟩=>?_)
 rw [evalPart_none]
 refine wpAny_pure ?_
 have I4:Ad X pins σ H3 { s3 with heap:=s3.heap.push { cls:= .type "slice",data:= .fields #[vl,vu,.none]}}:=I3.kept (t':=s3.toks) λb ob q=>Heap.get?_push_of_some _ q
 obtain⟨T,id,hT,ht,hg⟩:=hr pins { s3 with heap:=s3.heap.push { cls:= .type "slice",data:= .fields #[vl,vu,.none]}} σ H3 x v vl vu l u s3.heap.objs.size Q I4 r1 (Heap.IsSliceOf.new ..) pl pu q3
 show wpAny (model X.prog X.w) X.A (subscriptTail e (.Slice lo hi none p2) v (.ref s3.heap.objs.size)) (EP X pins σ Q) X.xe { s3 with heap:=s3.heap.push { cls:= .type "slice",data:= .fields #[vl,vu,.none]}}
 exact tail_any (ops:=[.ref s3.heap.objs.size,v]) ht hT hg (by with_unfolding_all rfl)
def Bn (xs:List V) (lo hi:Option Int):List V:=(xs.drop (HT.sIx xs.length 0 lo)).take (HT.sIx xs.length xs.length hi-HT.sIx xs.length 0 lo)
theorem F9 (xs:List V) (lo hi:Option Int):(Bn xs lo hi).length<=xs.length:=by
 unfold Bn
 rw [List.length_take,List.length_drop]
 omega
end
end L2
namespace L2
open PySem PySem.Spec PyProof.Rows
variable {i : Int} {j : Nat} {α : Type} {xs : List α} {v u : Value} {pins : List (Addr × Obj)} {σ : St} {H : Hp} {s : Shared} {p : Addr} {y : V}
def C1 (n:Nat) (i:Int):Option Nat:=if 0<=i then(if i<n then some i.toNat else none) else if -(n:Int)<=i then some (i+n).toNat else none
def CF {α:Type} (xs:List α) (i:Int):Option α:=(C1 xs.length i).bind λj=>xs[j]?
theorem Kg {n:Nat} (h:C1 n i=some j):seqIndex? i n=some j/\j<n/\ -(n:Int)<=i/\i<n:=by
 unfold C1 at h
 by_cases h0:0<=i
 ·rw [if_pos h0] at h
  by_cases h1:i<n
  ·rw [if_pos h1] at h
   have e:i.toNat=j:=Option.some.inj h
   exact⟨by rw [seqIndex_of h0 h1,e],by omega,by omega,h1⟩
  ·rw [if_neg h1] at h;cases h
 ·rw [if_neg h0] at h
  by_cases h1: -(n:Int)<=i
  ·rw [if_pos h1] at h
   have e:(i+n).toNat=j:=Option.some.inj h
   exact⟨by rw [seqIndex_neg (by omega) h1,e],by omega,h1,by omega⟩
  ·rw [if_neg h1] at h;cases h
theorem Kh {v:α} (h:CF xs i=some v):∃j,seqIndex? i xs.length=some j/\xs[j]? =some v/\j<xs.length/\ -(xs.length:Int)<=i/\i<xs.length:=by
 unfold CF at h
 cases e:C1 xs.length i with
 | none=>rw [e] at h;cases h
 | some j=>
  rw [e] at h
  obtain⟨h1,h2,h3,h4⟩:=Kg e
  exact⟨j,h1,h,h2,h3,h4⟩
theorem C2 {v:α} (h:xs[j]? =some v):CF xs (j:Int)=some v:=by
 have hj:j<xs.length:=(List.getElem?_eq_some_iff.mp h).1
 have e:C1 xs.length (j:Int)=some j:=by
  unfold C1
  rw [if_pos (by omega),if_pos (by omega)];simp
 unfold CF;rw [e];exact h
theorem N0 (xs:List α) (v:α):CF (xs++[v]) (-1)=some v:=by
 have hl:(xs++[v]).length=xs.length+1:=by simp
 have e:C1 (xs++[v]).length (-1)=some xs.length:=by
  unfold C1
  rw [hl,if_neg (by decide),if_pos (by omega)]
  congr 1
  omega
 unfold CF
 rw [e]
 show(xs++[v])[xs.length]? =some v
 simp
def N1 (b:Expr):Prop:=∀o i,subscripted b false o i=operate [o,i] (getItem o i)
def E6 (X:Cx) (r:R2):Prop:=
 ∀(value slice:Expr) (pins:List (Addr×Obj)) (s:Shared) (σ:St) (H:Hp) (x y:V) (v u:Value) (Q:VK),Ad X pins σ H s->Ay x v->Ay y u->r x y H Q->
  subscripted slice false v u=operate [v,u] (getItem v u)->wpAny (model X.prog X.w) X.A (subscriptTail value slice v u) (EP X pins σ Q) X.xe s
def N3 (X:Cx) (id:String) (r:V->List V->Hp->VK->Prop):Prop:=
 ∀(pins:List (Addr×Obj)) (s:Shared) (σ:St) (H:Hp) (x:V) (xs:List V) (v:Value) (us:List Value) (Q:VK),Ad X pins σ H s->Ay x v->Ar xs us->r x xs H Q->
  wpAny (model X.prog X.w) X.A (call (.builtin id) (v::us)) (EP X pins σ Q) X.xe s
section
variable {X : Cx} {a b : Expr} {ta tb : TE} {pos : Pos}
theorem AF {r:R2} (hr:E6 X r) (ha:PE X a ta) (hb:PE X b tb) (hs:N1 b):PE X (.Subscript a b pos) (Eo r ta tb):=by
 intro pins s σ H Q I h
 exact Subscript_ (Ij ha hb I h λv u s2 x y H2 I2 rx ry q=>hr a b pins s2 σ H2 x y v u Q I2 rx ry q (hs _ _))
def Ki (K:PySem.W.Frag):R2:=λx y H Q=>∃p xs i v,x= .ref p/\y= .int i/\Al K H p xs/\CF xs i=some v/\Q v H
def Kj (K:PySem.W.Frag):R2:=λx y H Q=>∃p xs i v,x= .ref p/\y= .int i/\Ae K H p xs/\CF xs i=some v/\Q v H
theorem N4:E6 X (Ki X.K):=by
 intro value slice pins s σ H x y v u Q I rx ry h hs
 obtain⟨p,xs,i,z,rfl,rfl,hq,he,q⟩:=h
 cases rx
 obtain⟨t,rfl⟩:=ry
 obtain⟨its,r,pl,hz⟩:=I.list hq
 obtain⟨j,h1,h2,h3,h4,h5⟩:=Kh he
 obtain⟨w,ew,rw'⟩:=r.get h2
 have hl:=r.length
 have hn:=F6
 have fin:EP X pins σ Q w s:=⟨z,H,I,rw',q⟩
 by_cases h0:0<=i
 ·have hj:i.toNat=j:=by
   rw [seqIndex_of h0 h5] at h1
   exact Option.some.inj h1
  exact item_listR pl.isList h0 (by omega) (by rw [hj];simpa using ew) fin hs
 ·have hj:(i+(its.toArray.size:Int)).toNat=j:=by
   rw [seqIndex_neg (by omega) h4] at h1
   rw [List.size_toArray,<-hl]
   exact Option.some.inj h1
  exact subscriptTail_builtinR (x:=w) pl.isList.typeIs slot_list_getitem.lookup
   (wpAny_getItem_list_neg (Q:=λr s'=>r=w/\EP X pins σ Q r s') pl.isList (by omega) (by rw [List.size_toArray]<;>omega) (by omega) (by rw [hj];simpa using ew) ⟨rfl,fin⟩) hs
theorem N5:E6 X (Kj X.K):=by
 intro value slice pins s σ H x y v u Q I rx ry h hs
 obtain⟨p,xs,i,z,rfl,rfl,hq,he,q⟩:=h
 cases rx
 obtain⟨t,rfl⟩:=ry
 obtain⟨its,r,pl,hz⟩:=I.tuple hq
 obtain⟨j,h1,h2,h3,h4,h5⟩:=Kh he
 obtain⟨w,ew,rw'⟩:=r.get h2
 have hl:=r.length
 have hn:=F6
 have fin:EP X pins σ Q w s:=⟨z,H,I,rw',q⟩
 exact subscriptTail_builtinR (x:=w) pl.typeIs slot_tuple_getitem.lookup
  (getItem_tuple (j:=j) (Q:=λr s'=>r=w/\EP X pins σ Q r s') pl (by omega) (by omega) (by rw [List.size_toArray,<-hl];exact h1) (by simpa using ew) ⟨rfl,fin⟩) hs
theorem N6 (its:List Value) (n j:Nat) (u:Value):Obj.mapSeq (·.setIfInBounds j u) { cls:= .type "list",data:= .seq its.toArray n}= { cls:= .type "list",data:= .seq (its.set j u).toArray n}:=by
 simp [Obj.mapSeq]
theorem Ad.lst {xs:List V} (I:Ad X pins σ H s) (h:H p=some (.lst xs)):
  ∃(its:List Value) (n:Nat),Ar xs its/\s.heap.get? p=some { cls:= .type "list",data:= .seq its.toArray n}/\xs.length<=sizeLine:=by
 obtain⟨z,its,n,r,e⟩:=I.hok p _ h
 exact⟨its,n,r,e,z⟩
theorem Ad.lstUpd {xs ys:List V}{its its':List Value}{n n':Nat}{f:Obj->Obj} (I:Ad X pins σ H s) (h:H p=some (.lst xs))
  (ho:s.heap.get? p=some { cls:= .type "list",data:= .seq its.toArray n}) (hf:f { cls:= .type "list",data:= .seq its.toArray n}= { cls:= .type "list",data:= .seq its'.toArray n'}) (r:Ar ys its') (hz:ys.length<=sizeLine) (t:Nat):
  Ad X pins σ (upd H p (.lst ys)) { s with heap:=s.heap.update p f,toks:=t}:=by
 have e:(s.heap.update p f).get? p=some { cls:= .type "list",data:= .seq its'.toArray n'}:=by
  rw [Heap.get?_update_self f ho (by rw [hf]<;>rfl),hf]
 refine I.write (x:=p) (e:=p) (by rw [h];trivial) (.inl rfl) (λb u hb q=>(Heap.get?_update_other _ _ (Ne.symm hb)).trans q) ⟨_,e⟩ ?_
 exact⟨hz,its',n',r,e⟩
def N7:V->V->V->Hp->(Hp->Prop)->Prop:=λo i v H Q=>∃p xs k j,o= .ref p/\i= .int k/\H p=some (.lst xs)/\C1 xs.length k=some j/\Q (upd H p (.lst (xs.set j v)))
theorem Ga:JP X N7:=by
 intro pins s σ H o i v ov iv u Q I ro ri rv h
 obtain⟨p,xs,k,j,rfl,rfl,hp,hj,q⟩:=h
 cases ro
 obtain⟨t,rfl⟩:=ri
 obtain⟨its,n,r,ho,hz⟩:=I.lst hp
 obtain⟨h1,h2,h3,h4⟩:=Kg hj
 have hl:=r.length
 have hn:=F6
 have I':Ad X pins σ (upd H p (.lst (xs.set j v))) { s with heap:=s.heap.update p (Obj.mapSeq (·.setIfInBounds j u))}:=
  I.lstUpd hp ho (N6 its n j u) (r.set rv j) (by rw [List.length_set];exact hz) s.toks
 by_cases h0:0<=k
 ·have hk:k.toNat=j:=by
   rw [seqIndex_of h0 h4] at h1
   exact Option.some.inj h1
  exact PySem.W.ki_setAt ho h0 (by omega) (by rw [List.size_toArray,<-hl];exact h4) (by rw [hk];exact⟨_,I',q⟩)
 ·have hk:(k+(its.toArray.size:Int)).toNat=j:=by
   rw [seqIndex_neg (by omega) h3] at h1
   rw [List.size_toArray,<-hl]
   exact Option.some.inj h1
  exact PySem.W.ki_setBack ho (by omega) (by rw [List.size_toArray,<-hl];exact h3) (by omega) (by rw [hk];exact⟨_,I',q⟩)
theorem N8 (lo hi:Option Int) (n:Nat):(sliceBounds lo hi none n).1=((HT.sIx n 0 lo:Nat):Int)/\(sliceBounds lo hi none n).2.1=((HT.sIx n n hi:Nat):Int)/\(sliceBounds lo hi none n).2.2=1:=by
 refine⟨?_,?_,rfl⟩
 ·cases lo with
  | none=>simp [sliceBounds,HT.sIx]
  | some i=>
   simp only [sliceBounds,HT.sIx,Option.getD_none,show(1:Int) >0 by decide,if_true]
   by_cases h:i<0
   ·simp only [h,if_true]<;>omega
   ·simp only [h,if_false]<;>omega
 ·cases hi with
  | none=>simp [sliceBounds,HT.sIx]
  | some i=>
   simp only [sliceBounds,HT.sIx,Option.getD_none,show(1:Int) >0 by decide,if_true]
   by_cases h:i<0
   ·simp only [h,if_true]<;>omega
   ·simp only [h,if_false]<;>omega
theorem N9 (its:List Value) (lo hi:Option Int):slicePick its.toArray lo hi none=((its.drop (HT.sIx its.length 0 lo)).take (HT.sIx its.length its.length hi-HT.sIx its.length 0 lo)).toArray:=by
 obtain⟨h1,h2,h3⟩:=N8 lo hi its.toArray.size
 unfold slicePick
 rw [h1,h2,h3]
 simp only [sliceRange_one,pick_run,List.size_toArray]<;>rfl
def Kk (K:PySem.W.Frag):V->Option Int->Option Int->Hp->VK->Prop:=λx lo hi H Q=>∃a xs,x= .ref a/\Al K H a xs/\∀p,H p=none->Q (.ref p) (upd H p (.lst (Bn xs lo hi)))
theorem Oa:F8 X (Kk X.K):=by
 intro pins s σ H x v vl vu lo hi sl Q I rx hs pl pu h
 obtain⟨a,xs,rfl,hx,q⟩:=h
 cases rx
 obtain⟨its,r,ht,hz⟩:=I.list hx
 have hlen:=r.length
 refine⟨"list",_,slot_list_getitem.lookup,ht.isList.typeIs,?_⟩
 refine wpAny_getItem_list_slice ht.isList hs pl pu .none (by simp) ?_ (by rw [List.size_toArray]<;>omega)
 rw [N9,<-hlen]
 refine⟨.ref s.heap.objs.size,_,I.laid (t':=s.toks) (o:= .lst (Bn xs lo hi)) (λb ob q=>Heap.get?_push_of_some _ q) (Nat.le_refl _) ?_,rfl,q _ (I.hok.fresh (Nat.le_refl _))⟩
 exact⟨Nat.le_trans (F9 xs lo hi) hz,_,0,(r.drop (HT.sIx xs.length 0 lo)).take (HT.sIx xs.length xs.length hi-HT.sIx xs.length 0 lo),Heap.get?_push_size _ rfl⟩
def C3:V->Bool
 | .non=>true
 | .bl _=>true
 | .int _=>true
 | .str _=>true
 | _=>false
def CO:V->V->Bool
 | .non,.non=>true
 | .bl a,.bl b=>a==b
 | .bl a,.int b=>(if a then 1 else 0)==b
 | .int a,.bl b=>a==(if b then 1 else 0)
 | .int a,.int b=>a==b
 | .str a,.str b=>a==b
 | _,_=>false
theorem Ob {A:Around}{x:V} (ry:Ay y u) (rx:Ay x v) (fy:C3 y=true) (fx:C3 x=true):SeqAt.EqAt A s u v (CO y x):=by
 cases y with
 | non=>
  cases ry
  cases x with
  | non=>cases rx;exact SeqAt.EqAt.same _
  | bl b=>cases rx;exact SeqAt.EqAt.none_bool b
  | int b=>obtain⟨t,rfl⟩:=rx;exact SeqAt.EqAt.none_int b t
  | str b=>obtain⟨t,rfl⟩:=rx;exact SeqAt.EqAt.none_str b t
  | _=>exact absurd (show false=true from fx) Bool.false_ne_true
 | bl a=>
  cases ry
  cases x with
  | non=>cases rx;exact SeqAt.EqAt.bool_none a
  | bl b=>cases rx;exact SeqAt.EqAt.bool_bool a b
  | int b=>obtain⟨t,rfl⟩:=rx;exact SeqAt.EqAt.bool_int a b t
  | str b=>obtain⟨t,rfl⟩:=rx;exact SeqAt.EqAt.bool_str a b t
  | _=>exact absurd (show false=true from fx) Bool.false_ne_true
 | int a=>
  obtain⟨t',rfl⟩:=ry
  cases x with
  | non=>cases rx;exact SeqAt.EqAt.int_none a t'
  | bl b=>cases rx;exact SeqAt.EqAt.int_bool a t' b
  | int b=>obtain⟨t,rfl⟩:=rx;exact SeqAt.EqAt.int_int a t' b t
  | str b=>obtain⟨t,rfl⟩:=rx;exact SeqAt.EqAt.int_str a t' b t
  | _=>exact absurd (show false=true from fx) Bool.false_ne_true
 | str a=>
  obtain⟨t',rfl⟩:=ry
  cases x with
  | non=>cases rx;exact SeqAt.EqAt.str_none a t'
  | bl b=>cases rx;exact SeqAt.EqAt.str_bool a t' b
  | int b=>obtain⟨t,rfl⟩:=rx;exact SeqAt.EqAt.str_int a t' b t
  | str b=>obtain⟨t,rfl⟩:=rx;exact SeqAt.EqAt.str_str a t' b t
  | _=>exact absurd (show false=true from fx) Bool.false_ne_true
 | _=>exact absurd (show false=true from fy) Bool.false_ne_true
def Cj (x:V) (u:Value):Bool:=match u with
 | .none=>CO .non x
 | .bool b=>CO (.bl b) x
 | .int i _=>CO (.int i) x
 | .str z _=>CO (.str z) x
 | _=>false
theorem Kl {x:V} (r:Ay y u) (f:C3 y=true):Cj x u=CO y x:=by
 cases y with
 | non=>cases r;rfl
 | bl b=>cases r;rfl
 | int i=>obtain⟨t,rfl⟩:=r;rfl
 | str z=>obtain⟨t,rfl⟩:=r;rfl
 | _=>exact absurd (show false=true from f) Bool.false_ne_true
theorem E7 {x:V}:∀ {xs:List V}{us:List Value},Ar xs us->xs.all C3=true->us.any (Cj x)=xs.any λy=>CO y x
 | _,_,.nil,_=>rfl
 | y::xs,u::us,.cons r t,f=>by
  rw [List.all_cons,Bool.and_eq_true] at f
  rw [List.any_cons,List.any_cons,Kl r f.1,E7 t f.2]
theorem E8 {A:Around}{x:V} (rx:Ay x v) (fx:C3 x=true):∀ {xs:List V}{us:List Value},Ar xs us->xs.all C3=true->∀u∈us,SeqAt.EqAt A s u v (Cj x u)
 | _,_,.nil,_=>λu hu=>by cases hu
 | y::xs,u::us,.cons r t,f=>λu' hu=>by
  rw [List.all_cons,Bool.and_eq_true] at f
  rcases List.mem_cons.mp hu with rfl | hu
  ·rw [Kl r f.1];exact Ob r rx f.1 fx
  ·exact E8 rx fx t f.2 u' hu
def BO (x:V) (xs:List V):Bool:=xs.any λy=>CO y x
def Gb (K:PySem.W.Frag) (neg:Bool):R2:=λx y H Q=>∃p xs,y= .ref p/\(Al K H p xs\/Ae K H p xs)/\C3 x=true/\xs.all C3=true/\Q (.bl (if neg then !BO x xs else BO x xs)) H
theorem Oc:OpR X (compareOp .In) (Gb X.K false):=by
 intro pins s σ H x y v u Q I rx ry h
 obtain⟨p,xs,rfl,hq,fx,fs,q⟩:=h
 cases ry
 rcases hq with hq | hq
 ·obtain⟨its,r,pl,hz⟩:=I.list hq
  refine SeqAt.in_listAt (Cj x) pl.isList (λw hw=>E8 rx fx r fs w (by simpa using hw)) ⟨.bl _,H,I,rfl,?_⟩
  rw [show its.toArray.any (Cj x)=its.any (Cj x) by simp,E7 r fs]
  exact q
 ·obtain⟨its,r,pl,hz⟩:=I.tuple hq
  refine SeqAt.in_tupleAt (Cj x) pl (λw hw=>E8 rx fx r fs w (by simpa using hw)) ⟨.bl _,H,I,rfl,?_⟩
  rw [show its.toArray.any (Cj x)=its.any (Cj x) by simp,E7 r fs]
  exact q
theorem Od:OpR X (compareOp .NotIn) (Gb X.K true):=by
 intro pins s σ H x y v u Q I rx ry h
 obtain⟨p,xs,rfl,hq,fx,fs,q⟩:=h
 cases ry
 rcases hq with hq | hq
 ·obtain⟨its,r,pl,hz⟩:=I.list hq
  refine SeqAt.notIn_listAt (Cj x) pl.isList (λw hw=>E8 rx fx r fs w (by simpa using hw)) ⟨.bl _,H,I,rfl,?_⟩
  rw [show its.toArray.any (Cj x)=its.any (Cj x) by simp,E7 r fs]
  exact q
 ·obtain⟨its,r,pl,hz⟩:=I.tuple hq
  refine SeqAt.notIn_tupleAt (Cj x) pl (λw hw=>E8 rx fx r fs w (by simpa using hw)) ⟨.bl _,H,I,rfl,?_⟩
  rw [show its.toArray.any (Cj x)=its.any (Cj x) by simp,E7 r fs]
  exact q
theorem Oe:Bz X (.builtin "len") (λxs H Q=>∃p ys,xs=[.ref p]/\(Al X.K H p ys\/Ae X.K H p ys)/\Q (.int ys.length) H):=by
 intro pins s σ H xs us Q I r h
 obtain⟨p,ys,rfl,hq,q⟩:=h
 obtain⟨u,rfl,rx⟩:=Er r
 cases rx
 have hn:=F6
 rcases hq with hq | hq
 ·obtain⟨its,r',pl,hz⟩:=I.list hq
  have hlen:=r'.length
  exact Calls.call_len_list pl.isList (by simp only [List.size_toArray]<;>omega) ⟨.int ys.length,H,I.tok _,⟨s.toks+1,by rw [List.size_toArray,hlen]⟩,q⟩
 ·obtain⟨its,r',pl,hz⟩:=I.tuple hq
  have hlen:=r'.length
  exact len_tuple pl (by simp only [List.size_toArray]<;>omega) ⟨.int ys.length,H,I.tok _,⟨s.toks+1,by rw [List.size_toArray,hlen]⟩,q⟩
theorem Of:Bz X (.type "list") (λxs H Q=>∃p ys,xs=[.ref p]/\(Al X.K H p ys\/Ae X.K H p ys)/\∀l,H l=none->Q (.ref l) (upd H l (.lst ys))):=by
 intro pins s σ H xs us Q I r h
 obtain⟨p,ys,rfl,hq,q⟩:=h
 obtain⟨u,rfl,rx⟩:=Er r
 cases rx
 have fin:∀(its:List Value),Ar ys its->ys.length<=sizeLine->∀(h':Heap) (c':Nat),(∀b o',s.heap.get? b=some o'->h'.get? b=some o')->
   h'.get? s.heap.objs.size=some { cls:= .type "list",dict:=none,data:= .seq its.toArray c',slots:= #[]}->EP X pins σ Q (.ref s.heap.objs.size) { s with heap:=h'}:=λits r' hz h' c' kp e=>
  ⟨.ref s.heap.objs.size,_,I.laid (t':=s.toks) kp (Nat.le_refl _) (show ObjOk X.prog X.w _ h' _ (.lst ys) from⟨hz,its,c',r',e⟩),rfl,q _ (I.hok.fresh (Nat.le_refl _))⟩
 rcases hq with hq | hq
 ·obtain⟨its,r',pl,hz⟩:=I.list hq
  have hlen:=r'.length
  obtain⟨o,ho,hc,n,hd⟩:=pl.isList
  exact call_list_seq p (.inl rfl) ho hc hd (λh' c' kp e=>fin its r' hz h' c' kp e) (by simp only [List.size_toArray]<;>omega)
 ·obtain⟨its,r',pl,hz⟩:=I.tuple hq
  have hlen:=r'.length
  obtain⟨o,ho,hc,n,hd⟩:=pl
  exact call_list_seq p (.inr rfl) ho hc hd (λh' c' kp e=>fin its r' hz h' c' kp e) (by simp only [List.size_toArray]<;>omega)
theorem Og:Bz X (.type "tuple") (λxs H Q=>∃p ys,xs=[.ref p]/\((Al X.K H p ys/\∀l,H l=none->Q (.ref l) (upd H l (.tup ys)))\/(Ae X.K H p ys/\Q (.ref p) H))):=by
 intro pins s σ H xs us Q I r h
 obtain⟨p,ys,rfl,h⟩:=h
 obtain⟨u,rfl,rx⟩:=Er r
 cases rx
 rcases h with⟨hq,q⟩ | ⟨hq,q⟩
 ·obtain⟨its,r',pl,hz⟩:=I.list hq
  have hlen:=r'.length
  refine call_tuple_list pl.isList (λh' kp=>?_) (by simp only [List.size_toArray]<;>omega)
  have I1:Ad X pins σ H { s with heap:=h'}:=I.kept (t':=s.toks) kp
  have I2:Ad X pins σ (upd H h'.objs.size (.tup ys)) { s with heap:=h'.push { cls:= .type "tuple",data:= .seq its.toArray}}:=
   I1.laid (t':=s.toks) (λb o e=>Heap.get?_push_of_some _ e) (Nat.le_refl _) (show ObjOk X.prog X.w _ _ _ (.tup ys) from⟨hz,its,r',IsTup.new _ _⟩)
  exact⟨.ref h'.objs.size,_,I2,rfl,q _ (I1.hok.fresh (Nat.le_refl _))⟩
 ·obtain⟨its,r',pl,hz⟩:=I.tuple hq
  exact call_tuple_same pl ⟨.ref p,H,I,rfl,q⟩
def Km (K:PySem.W.Frag) (T:String) (x:V) (H:Hp):Prop:=match x with
 | .str _=>T="str"
 | .int _=>T="int"
 | .ref p => (T = "list" /\ ∃ xs, Al K H p xs) \/ (T = "tuple" /\ ∃ o, K.lookup p = some o /\ o.cls = .type "tuple" /\ o.dict = none) \/
   (T="dict" /\((∃kvs,H p=some (.dK kvs))\/ ∃kvs,H p=some (.dT kvs)))\/(T="set" /\∃S n,H p=some (.set S n))
 | _=>False
theorem Oh {T:String}{x:V} (I:Ad X pins σ H s) (r:Ay x v) (ty:Km X.K T x H):
  s.TypeIs v T/\∀a,v= .ref a->∃ob,s.heap.get? a=some ob/\ob.dict=none:=by
 cases x with
 | str z=>
  obtain⟨t,rfl⟩:=r
  cases(show T="str" from ty)
  exact⟨typeIs_str s z t,λ_ e=>nomatch e⟩
 | int i=>
  obtain⟨t,rfl⟩:=r
  cases(show T="int" from ty)
  exact⟨typeIs_int s i t,λ_ e=>nomatch e⟩
 | ref p=>
  cases r
  rcases ty with⟨rfl,xs,hq⟩ | ⟨rfl,o,hk,hc,hd⟩ | ⟨rfl,hk⟩ | ⟨rfl,S,n,hk⟩
  ·obtain⟨its,_,pl,_⟩:=I.list hq
   refine⟨pl.isList.typeIs,λa e=>?_⟩
   cases e
   obtain⟨o,n,e,c,hd,_⟩:=pl
   exact⟨o,e,hd⟩
  ·refine⟨⟨o,I.kIn p o hk,hc⟩,λa e=>?_⟩
   cases e
   exact⟨o,I.kIn _ o hk,hd⟩
  ·have z:∃o,s.heap.get? p=some o/\o.ExactDict:=by
    rcases hk with⟨kvs,hk⟩ | ⟨kvs,hk⟩
    ·obtain⟨_,_,_,_,o,_,_,e,ex,_⟩:=I.hok p _ hk
     exact⟨o,e,ex⟩
    ·obtain⟨_,_,_,_,o,_,_,e,ex,_⟩:=I.hok p _ hk
     exact⟨o,e,ex⟩
   obtain⟨o,e,ex⟩:=z
   refine⟨⟨o,e,ex.1⟩,λa e2=>?_⟩
   cases e2
   exact⟨o,e,ex.2.1⟩
  ·obtain⟨o,_,_,_,e,ex,_⟩:=I.hok p _ hk
   refine⟨⟨o,e,ex.1⟩,λa e2=>?_⟩
   cases e2
   exact⟨o,e,ex.2.1⟩
 | _=>exact False.elim ty
def Oi (K:PySem.W.Frag) (T:String) (r:V->List V->Hp->VK->Prop) (to:TE) (t:TA):TE:=fun σ H Q=>to σ H λx H1=>Km K T x H1/\t σ H1 λxs H2=>r x xs H2 Q
variable {o e : Expr} {es : List Expr} {to : TE} {t : TA} {name : Str} {apos cpos : Pos} {T id : String} {r : V -> List V -> Hp -> VK -> Prop}
theorem CG (pa:PlainAttrs T) (slot:Slot T name id) (hty:typeOf (.builtin id)=pure (.type "method_descriptor")) (hm:N3 X id r) (ho:PE X o to) (ha:PA X (e::es) t)
  (hbase:attributeBase o name X.env (eval o X.env)=eval o X.env:=by rfl)
  (hfew : ((backTo cpos (starEach (e :: es) X.env)).all (λx => !x.1) && (backToKw cpos (keywordEach [] X.env)).all (λx => x.1.isSome)
   && decide ((e::es).length+([]:List Keyword).length+(if ([]:List Keyword).isEmpty then 0 else 1)<30))=true:=by rfl)
  (hline:(apos.endLine==cpos.line)=true:=by rfl) (hs:starEach (e::es) X.env=(false,eval e X.env)::starEach es X.env:=by rfl) (hplain:(backTo cpos (starEach es X.env)).any (·.1)=false:=by rfl):
  PE X (.Call (.Attribute o name apos) (e::es) [] cpos) (Oi X.K T r to t):=by
 intro pins s σ H Q I h
 refine wpAny_Call_method_late hbase hfew hline rfl (Aq (ho pins s σ H _ I h) λv s1 ⟨x,H1,I1,r1,ty,q1⟩=>?_)
 obtain⟨h1,h2⟩:=Oh I1 r1 ty
 refine⟨T,id,pa,slot,hty,h1,h2,?_⟩
 have hA:=ha cpos pins s1 σ H1 _ I1 q1
 rw [hs] at hA ⊢
 refine Calls.callWith_builtin (by show(false || (backTo cpos (starEach es X.env)).any (·.1))=false;rw [hplain]<;>rfl) (Calls.evalArgs_plain ?_)
 exact Aq hA λus s2 ⟨vs,H2,I2,r2,q2⟩=>hm pins s2 σ H2 x vs v us Q I2 r1 r2 q2
end
end L2
namespace L2
open PySem PySem.Spec PyProof.Rows
variable {us its : List Value} {t' : Nat}
def Oj (X:Cx) (id:String) (r:V->List V->Hp->VK->Prop):Prop:=
 ∀(pins:List (Addr×Obj)) (s:Shared) (σ:St) (H:Hp) (x:V) (xs:List V) (v:Value) (us:List Value) (Q:VK),Ad X pins σ H s->Ay x v->Ar xs us->r x xs H Q->
  wpAny (model X.prog X.w) X.A (call (.builtin id) (v::us)) (EP X pins σ Q) X.xe s
theorem Ar.one:∀ {x:V}{us:List Value},Ar [x] us->∃u,us=[u]/\Ay x u
 | _,_,.cons r .nil=>⟨_,rfl,r⟩
theorem Ar.two:∀ {x y:V}{us:List Value},Ar [x,y] us->∃u v,us=[u,v]/\Ay x u/\Ay y v
 | _,_,_,.cons r (.cons q .nil)=>⟨_,_,rfl,r,q⟩
theorem Ar.reverse {xs:List V} (h:Ar xs us):Ar xs.reverse us.reverse:=by
 induction h with
 | nil=>exact .nil
 | cons r t ih=>rw [List.reverse_cons,List.reverse_cons];exact Ar.append ih (.cons r .nil)
theorem Ar.rep {xs:List V} (h:Ar xs us):∀k:Nat,Ar (List.replicate k xs).flatten (List.replicate k us).flatten
 | 0=> .nil
 | k+1=>by
  rw [List.replicate_succ,List.replicate_succ,List.flatten_cons,List.flatten_cons]
  exact Ar.append h (Ar.rep h k)
theorem Kn (its:List Value):∀(k:Nat) (acc:List Value),
  List.foldl (λx1 x2=>x1++x2) acc.toArray (List.replicate k its.toArray)=(acc++(List.replicate k its).flatten).toArray
 | 0,acc=>by simp
 | k+1,acc=>by
  have e:acc.toArray++its.toArray=(acc++its).toArray:=by simp
  have e2:(acc++its)++(List.replicate k its).flatten=acc++(List.replicate (k+1) its).flatten:=by
   rw [List.replicate_succ,List.flatten_cons,List.append_assoc]
  rw [<-e2,<-Kn its k (acc++its),<-e,List.replicate_succ,List.foldl_cons]
section
variable {X : Cx} {pins : List (Addr × Obj)} {σ : St} {H : Hp} {s : Shared} {l b : Addr} {xs ys zs : List V}
theorem Ad.lset {its':List Value}{n:Nat}{f:Array Value->Array Value} (I:Ad X pins σ H s) (hH:H l=some (.lst xs))
  (e:s.heap.get? l=some { cls:= .type "list",data:= .seq its.toArray n}) (hf:f its.toArray=its'.toArray) (hv:Ar ys its') (hz:ys.length<=sizeLine):
  Ad X pins σ (upd H l (.lst ys)) { s with heap:=s.heap.update l (Obj.mapSeq f),toks:=t'}:=by
 have q:=PySem.IsL.update e f
 rw [hf] at q
 refine I.write (x:=l) (e:=l) (by rw [hH];exact trivial) (.inl rfl) (λb' u hb hu=>(Heap.get?_update_other s.heap (Obj.mapSeq f) (Ne.symm hb)).trans hu) ⟨_,q⟩ ?_
 exact⟨hz,its',_,hv,q⟩
theorem Ad.lnew (I:Ad X pins σ H s) (hv:Ar ys its) (hz:ys.length<=sizeLine):
  Ad X pins σ (upd H s.heap.objs.size (.lst ys)) { s with heap:=s.heap.push { cls:= .type "list",data:= .seq its.toArray},toks:=t'}:=
 I.laid (λ_ _ q=>Heap.get?_push_of_some _ q) (Nat.le_refl _) ⟨hz,its,0,hv,Heap.get?_push_size _ rfl⟩
theorem Ad.fresh (I:Ad X pins σ H s):H s.heap.objs.size=none:=I.hok.fresh (Nat.le_refl _)
theorem Ad.lstM (I:Ad X pins σ H s) (hH:H l=some (.lst xs)):xs.length<=sizeLine/\∃(its:List Value) (n:Nat),Ar xs its/\xs.length=its.length/\s.heap.get? l=some { cls:= .type "list",data:= .seq its.toArray n}:=by
 obtain⟨z,its,n,r,e⟩:=I.hok l _ hH
 exact⟨z,its,n,r,r.length,e⟩
theorem notLongL {n:Nat} (h:n<=sizeLine):Builtin.List.listTooLong n=false:=by
 unfold Builtin.List.listTooLong
 exact decide_eq_false (by omega)
end
section
variable {X : Cx}
def Ol:V->List V->Hp->VK->Prop:=λx vs H Q=>∃l xs y,x= .ref l/\vs=[y]/\H l=some (.lst xs)/\xs.length<sizeLine/\Q .non (upd H l (.lst (xs++[y])))
theorem CH:Oj X "list.append" Ol:=by
 intro pins s σ H x vs v us Q I rx rv h
 obtain⟨l,xs,y,rfl,rfl,hH,hz,q⟩:=h
 cases rx
 obtain⟨u,rfl,ru⟩:=rv.one
 obtain⟨z,its,n,r,hl,e⟩:=I.lstM hH
 refine call_meets F.slot_list_append ⟨_,e,rfl⟩ F.entry_list_append (F.args_list_append_2 _ _) (PySem.list_append l its.toArray n u (by rw [List.size_toArray];omega)) ⟨e,?_⟩
 refine⟨.non,_,I.lset (its':=its++[u]) hH e (by simp) (r.append (.cons ru .nil)) ?_,rfl,q⟩
 rw [List.length_append,List.length_singleton]
 omega
def Om:R2:=λx y H Q=>∃l b xs zs,x= .ref l/\y= .ref b/\H l=some (.lst xs)/\H b=some (.lst zs)/\xs.length+zs.length<=sizeLine/\∀p,H p=none->Q (.ref p) (upd H p (.lst (xs++zs)))
theorem On:OpR X (binaryOp .Add) Om:=by
 intro pins s σ H x y v u Q I rx ry h
 obtain⟨l,b,xs,zs,rfl,rfl,hH,hB,hz,q⟩:=h
 cases rx
 cases ry
 obtain⟨z,its,n,r,hl,e⟩:=I.lstM hH
 obtain⟨z2,its2,n2,r2,hl2,e2⟩:=I.lstM hB
 refine PySem.P.add_list e e2 ?_ (by rw [List.size_toArray,List.size_toArray];omega)
 have ea:its.toArray++its2.toArray=(its++its2).toArray:=by simp
 rw [ea]
 exact⟨.ref _,_,I.lnew (t':=s.toks) (r.append r2) (by rw [List.length_append];omega),rfl,q _ I.fresh⟩
theorem Ko {α:Type} (xs:List α) (k:Nat):(List.replicate k xs).flatten.length=k * xs.length:=by
 induction k with
 | zero=>simp
 | succ k ih=>rw [List.replicate_succ,List.flatten_cons,List.length_append,ih,Nat.succ_mul,Nat.add_comm]
end
section
variable {prog : Program} {w : World} {A : Around} {E : Value -> Shared -> Prop} {s : Shared}
end
section
variable {X : Cx}
end
end L2
namespace Att
open PySem PySem.W PySem.Calls PyProof.Rows
theorem Oo {P:Params}{h:Heap}:∀(ns:List Int) (vs:List Value),WellAll P h vs (ns.map WData.int)->IntsAre vs ns:=by
 intro ns
 induction ns with
 | nil=>
  intro vs w
  rw [List.map_nil] at w
  cases w
  exact .nil
 | cons n ns ih=>
  intro vs w
  rw [List.map_cons] at w
  cases w with
  | cons a b=>
   cases a
   exact .cons _ _ (ih _ b)
theorem Op {l:OpenLaw}{n:Nat} (hn:l.most=some n) {P:Params}{h:Heap}{args:List WData}{vals:List Value}
    (hpre:l.row.toRowW.claim.pre args=true) (hwl:WellAll P h vals args):
    ∃a vs ns,vals=[Value.ref a]/\args=[WData.list (ns.map WData.int)]/\h.get? a=some { cls:= .type "list",data:= .seq vs.toArray}/\IntsAre vs ns/\ns.length<=n:=by
  have hsh:WShape.hasAll [] args [.list .int]=true:=(pre_splitW hpre).1
  have hc:l.pre.holds [] { args:=args}=true:=(pre_splitW hpre).2
  obtain⟨d,r,rfl,h1,h2⟩:=hasAllW_cons hsh
  obtain rfl:=hasAllW_nil h2
  obtain⟨xs,rfl,h3⟩:=hasW_list h1
  obtain⟨ns,rfl⟩:=items_int h3
  have hlen:ns.length<=n:=by
    unfold OpenLaw.pre at hc
    have h4:(WTm.not (.lt (.lit (.int (n:Int))) (.len (.arg 0)))).holds [] { args:=[.list (ns.map .int)]}=true:=by
      have h4:=(holds_andW hc).1
      rw [hn] at h4
      exact h4
    have h5:=condW_of h4 (w_not (w_lt w_lit (w_len_list (w_arg rfl))))
    rw [List.length_map] at h5
    refine Nat.le_of_not_lt λq=>?_
    have q':(n:Int)<((ns.length:Nat):Int):=by omega
    first
      | (rw [decide_eq_true q'] at h5;exact absurd h5 (by decide))
      | (simp at h5;omega)
  cases hwl with
  | cons w1 w2 =>
    cases w2
    cases w1 with
    | list ho hall=>exact⟨_,_,ns,rfl,rfl,ho,Oo ns _ hall,hlen⟩
theorem Oq (l:OpenLaw) (args:List WData):l.row.toRowW.claim.post args (.bool true) args=true:=
 postW_of (r:=l.row.toRowW) (X:=(true==true))
  (show WShape.has [] (.bool true) .bool=true by first | rfl | decide | simp [WShape.has,WShape.arms,WShape.armsAll])
  (show(WTm.eq .res (.lit (.bool true))).value [] { args:=args,res:=some (.bool true),after:=args}=some (.bool (true==true)) from w_eq_bool (w_res rfl) w_lit) rfl
theorem attach_call {l:OpenLaw}{n:Nat}{q:Program}{loose:List Str}{XP:(Str->Option Value)->Heap->Prop}{YP:World->Heap->Prop}{d:DefRec}
  (hn:l.most=some n) (hdf:d.params.defaults=[])
  (call : ∀ (w : World) (s₀ s₁ : Shared) (mg mb : Str -> Option Value) (fa : Addr) (o : Obj) (pm cd doc : Value) (a : Addr) (vs : List Value) (ns : List Int),
   Ground q loose [] XP w s₀ mg mb s₁.heap->YP w s₁.heap->
   s₁.heap.get? fa=some o->o.data= .func (docDef d.name d.params d.body d.scope pm cd doc)->s₁.heap.CodeRec cd d.name->mg d.name=some (.ref fa)->
   s₁.heap.get? a=some { cls:= .type "list",data:= .seq vs.toArray}->IntsAre vs ns->ns.length<=n->s₁.gens= #[]->
   codeAny (model l.prog w) callerA (.call (.ref fa) ⟨[.ref a],[]⟩) (λr s'=>r= .ok (.ret (.bool true))/\OldK s₁.heap s'.heap/\s'.os=s₁.os/\AllBare s'.gens) s₁):
  WalkO q loose XP YP l.row.toRowW d [] (λf vs=>PySem.call f vs):=by
 intro w s₀ s₁ mg mb G Y fa o pm cd doc dV kV ho hd hcd hD hmg hg args vals as hpre hlay hrd hwl hlo
 obtain rfl:dV= .none:=Dflts.none hD hdf
 obtain rfl:kV= .none:=Dflts.noKw hD
 obtain⟨a,vs,ns,rfl,rfl,hobj,hints,hlen⟩:=Op hn hpre hwl
 refine enter_call (codeAny_mono (call w s₀ s₁ mg mb fa o pm cd doc a vs ns G Y ho (fd_plain hd) hcd hmg hobj hints hlen hg) λr s' hq=>?_)
 obtain⟨rfl,h2,h3,h4⟩:=hq
 exact⟨.inl ⟨.bool true,.bool true,[],rfl,λ_=>rfl,.bool true,Oq l _,λ_=>⟨List.Pairwise.nil,λ_ hm=>(nomatch hm)⟩⟩,h2,h3,h4⟩
section
variable {prog : Program} {w : World} {A : Around} {E : Value -> Shared -> Prop} {s : Shared} {K : Frag}
end
end Att
namespace L2
open PySem PySem.Spec PyProof.Rows
theorem Kp:∀ {vs:List Value}{ns:List Int},IntsAre vs ns->Ar (ns.map V.int) vs
 | _,_,.nil=> .nil
 | _,_,.cons n t h=> .cons ⟨t,rfl⟩ (Kp h)
def Gc (H:Hp):Prop:=∀b,H b=none\/ ∃o xs,H b=some (.frz o (.lst xs))
theorem Os {P:Program}{w:World}{K:PySem.W.Frag}{mg mb:Str->Option Value}{CX:CD}{k:Nat}{fa a:Addr}{fd:FuncData}{x:Str}{sp:Sp}{s₁:Shared}{vs:List Value}{ns:List Int}
  (KX:K.In s₁.heap) (hns:s₁.heap.Ns mainGlobals mg) (hb:s₁.heap.Ns builtinsNs mb) (hbb:∀x:Str,x≠ "__name__" ->mb x=bootBuiltins x) (hlim:s₁.heap.NoLimit) (hg:s₁.gens= #[])
  (ha:s₁.heap.get? a=some { cls:= .type "list",data:= .seq vs.toArray}) (hi:IntsAre vs ns) (hl:ns.length<=sizeLine) (hr:Bm k callerA)
  (F:∀base:Heap,K.In base->base.Ns mainGlobals mg->C0 P w K mg base CX k fa fd [x] sp) (hbind:∀(s:Shared) (u:Value),BindsTo s fd ⟨[u],[]⟩ [(x,u)])
  (hsp:∀H:Hp,Gc H->Al K H a (ns.map V.int)->sp [.ref a] H (λv _=>v= .bl true) λ_ _ _=>False)
  (hCX:∀H e s',CX [] H s₁ (λ_ _ _=>False) e s'->False):
  codeAny (model P w) callerA (.call (.ref fa) ⟨[.ref a],[]⟩) (λr s'=>r= .ok (.ret (.bool true))/\OldK s₁.heap s'.heap/\s'.os=s₁.os/\AllBare s'.gens) s₁:=by
 have rv:=Kp hi
 have lenV:=hi.length
 --from an abstract heap in which nothing but the script may be tracked
 have core:∀H:Hp,Gc H->Al K H a (ns.map V.int)->HOk P w H s₁.heap->(∀b,H b≠none->b=a)->(H a≠none->K.lookup a=none)->
   codeAny (model P w) callerA (.call (.ref fa) ⟨[.ref a],[]⟩) (λr s'=>r= .ok (.ret (.bool true))/\OldK s₁.heap s'.heap/\s'.os=s₁.os/\AllBare s'.gens) s₁:=by
  intro H hO hS hok hA hK
  have base_of:∀ {b:Addr}{o:Obj},s₁.heap.get? b=some o->H b=none->(Dn s₁.heap H).get? b=some o:=λe n=>Nc e n
  have noA:∀ {b:Addr}{o:Obj}{es:Array DictEntry}{ep:Nat},s₁.heap.get? b=some o->o.data= .dict es ep->H b=none:=λ{b o es ep} e d=>by
   cases q:H b with
   | none=>rfl
   | some u=>
    have e':b=a:=hA b (by rw [q];simp)
    subst e'
    rw [ha] at e;cases e
    have d':Data.seq vs.toArray _=Data.dict es ep:=d
    cases d'
  have nsK:∀ {b:Addr}{m:Str->Option Value},s₁.heap.Ns b m->(Dn s₁.heap H).Ns b m:=λ{b m} ⟨o,es,ep,e,d,r⟩=>⟨o,es,ep,base_of e (noA e d),d,r⟩
  have hKb:K.In (Dn s₁.heap H):=λb o e=>base_of (KX b o e) (by
   cases q:H b with
   | none=>rfl
   | some u=>
    have e':b=a:=hA b (by rw [q];simp)
    subst e'
    rw [hK (by rw [q];simp)] at e;cases e)
  have hM:Mod K mg (Dn s₁.heap H):=⟨hKb,nsK hns,⟨mb,nsK hb,hbb⟩,let ⟨mc,h1,h2⟩:=hlim;⟨mc,nsK h1,h2⟩⟩
  have e0:Es P w K mg (Dn s₁.heap H) callerA [] s₁ H:=⟨rfl,hM,λb o e=>Nd e,Nat.le_of_eq (Nb _ _),trivial,λb hb=>absurd (show b∈([]:List Addr) from hb) (by simp),hok,.of_eq hg⟩
  refine codeAny_mono ((F _ hKb (nsK hns)).run callerA [] s₁ H ⟨[.ref a],[]⟩ [.ref a] [.ref a] _ _ hr e0 (hbind s₁ (.ref a)) (.cons rfl .nil) (hsp H hO hS)) λr s' h=>?_
  cases r with
  | error e=>exact(hCX H e s' h).elim
  | ok fl=>
   cases fl with
   | next=>exact False.elim h
   | brk=>exact False.elim h
   | cont=>exact False.elim h
   | ret u=>
    obtain⟨v,H',os,bare,un,hok',r',q⟩:=h
    have q':v= .bl true:=q
    subst q'
    obtain rfl:u=Value.bool true:=r'
    refine⟨rfl,OldK.of_keep λb o e=>?_,os,bare⟩
    cases q:H b with
    | none=>exact un.keep b o e q (by intro z;exact absurd (show b∈([]:List Addr) from z) (by simp)) (by simp)
    | some u=>
     rcases hO b with z | ⟨ob,xs,z⟩
     ·rw [q] at z;cases z
     ·have z2:=un.frzs b ob _ z
      obtain⟨e1,_⟩:=hok b _ z
      obtain⟨e2,_⟩:=hok' b _ z2
      rw [e] at e1;cases e1
      exact e2
 cases hk:K.lookup a with
 | some o=>
  --the script is one of the module's own objects
  have e:=KX a o hk
  rw [ha] at e
  cases e
  refine core (λ_=>none) (λ_=> .inl rfl) (.inr ⟨_,vs.toArray,_,hk,rfl,rfl,rfl,by rw [List.size_toArray,lenV];exact hl,by simpa using rv⟩) (λb u z=>by have z':(none:Option HO)=some u:=z;cases z') (λb z=>absurd rfl z) λz=>absurd rfl z
 | none=>
  refine core (λb=>if b=a then some (.frz { cls:= .type "list",data:= .seq vs.toArray} (.lst (ns.map V.int))) else none) (λb=>?_) (.inl (.inr ⟨{ cls:= .type "list",data:= .seq vs.toArray},if_pos rfl⟩)) (λb u z=>?_) (λb z=>?_) λ_=>hk
  ·by_cases hb:b=a
   ·exact .inr ⟨_,_,if_pos hb⟩
   ·exact .inl (if_neg hb)
  ·by_cases hb:b=a
   ·have z':=(if_pos hb).symm.trans z
    cases z'
    subst hb
    exact⟨ha,by rw [List.length_map];exact hl,vs,_,rv,ha⟩
   ·have z':=(if_neg hb).symm.trans z
    cases z'
  ·by_cases hb:b=a
   ·exact hb
   ·exact absurd (if_neg hb) z
end L2
namespace L2
open PySem PySem.Spec PyProof.Rows
theorem Ot {l:PySem.W.OpenLaw}{n k:Nat}{q:Program}{loose:List Str}{XP:(Str->Option Value)->Heap->Prop}{YP:World->Heap->Prop}{d:DefRec}{K:Params->PySem.W.Frag}{CX:World->CD}{sp:World->Sp}{x:Str}
  (hn:l.most=some n) (hn2:n<=sizeLine) (hdf:d.params.defaults=[]) (hr:Bm k callerA)
  (hY:∀(w:World) (h:Heap),YP w h->(K w.params).In h)
  (F : ∀ (w : World) (mg : Str -> Option Value) (fa : Addr) (h : Heap), (K w.params).In h -> h.Ns mainGlobals mg -> mg d.name = some (.ref fa) ->
   ∃fd:FuncData,(∀(s:Shared) (u:Value),BindsTo s fd ⟨[u],[]⟩ [(x,u)])/\
    ∀base:Heap,(K w.params).In base->base.Ns mainGlobals mg->C0 l.prog w (K w.params) mg base (CX w) k fa fd [x] (sp w))
  (hsp:∀(w:World) (H:Hp) (a:Addr) (ns:List Int),ns.length<=n->Gc H->Al (K w.params) H a (ns.map V.int)->sp w [.ref a] H (λv _=>v= .bl true) λ_ _ _=>False)
  (hCX:∀(w:World) (H:Hp) (s:Shared) (e:Value) (s':Shared),CX w [] H s (λ_ _ _=>False) e s'->False):
  PySem.W.WalkO q loose XP YP l.row.toRowW d [] (λf vs=>PySem.call f vs):=by
 refine Att.attach_call hn hdf λw s₀ s₁ mg mb fa o pm cd doc a vs ns G Y ho hd hcd hmg hobj hints hlen hg=>?_
 have KX:=hY w _ Y
 obtain⟨fd,hb,hF⟩:=F w mg fa _ KX G.T.g hmg
 exact Os KX G.T.g G.T.b G.T.builtins G.T.nolimit hg hobj hints (Nat.le_trans hlen hn2) hr hF hb (λH hO hS=>hsp w H a ns hlen hO hS) λH e s'=>hCX w H s₁ e s'
theorem walk_ofK {l:PySem.W.OpenLaw}{n k:Nat}{q:Program}{loose:List Str}{XP:(Str->Option Value)->Heap->Prop}{YP:World->Heap->Prop}{d:DefRec}{K:Params->PySem.W.Frag}{CX:CD}{sp:PySem.W.Frag->Sp}{x:Str}
  (hn:l.most=some n) (hn2:n<=sizeLine) (hdf:d.params.defaults=[]) (hr:Bm k callerA)
  (hY:∀(w:World) (h:Heap),YP w h->(K w.params).In h)
  (F : ∀ (w : World) (mg : Str -> Option Value) (fa : Addr) (h : Heap), (K w.params).In h -> h.Ns mainGlobals mg -> mg d.name = some (.ref fa) ->
   ∃fd:FuncData,(∀(s:Shared) (u:Value),BindsTo s fd ⟨[u],[]⟩ [(x,u)])/\
    ∀base:Heap,(K w.params).In base->base.Ns mainGlobals mg->C0 l.prog w (K w.params) mg base CX k fa fd [x] (sp (K w.params)))
  (hsp:∀(K:PySem.W.Frag) (H:Hp) (a:Addr) (ns:List Int),ns.length<=n->Gc H->Al K H a (ns.map V.int)->sp K [.ref a] H (λv _=>v= .bl true) λ_ _ _=>False)
  (hCX:∀(H:Hp) (s:Shared) (e:Value) (s':Shared),CX [] H s (λ_ _ _=>False) e s'->False):
  PySem.W.WalkO q loose XP YP l.row.toRowW d [] (λf vs=>PySem.call f vs):=
 Ot (K:=K) (CX:=λ_=>CX) (sp:=λw=>sp (K w.params)) hn hn2 hdf hr hY F (λw H a ns h1 h2 h3=>hsp (K w.params) H a ns h1 h2 h3) λ_ H s e s'=>hCX H s e s'
end L2
namespace L2
open PySem PySem.Spec PyProof.Rows
variable {qual : Str} {fd : FuncData} {ps : List Str} {H H' : Hp}
def Ck (s:Stmt):Arguments:=match s with
 | .FunctionDef _ a _ _ _ _ _ _ _ _=>a
 | _=> { posonlyargs:=[],args:=[],vararg:=none,kwonlyargs:=[],kw_defaults:=[],kwarg:=none,defaults:=[]}
def BW (s:Stmt):List Stmt:=match s with
 | .FunctionDef _ _ b _ _ _ _ _ _ _=>b
 | _=>[]
def Au (s:Stmt):Scope:=match s with
 | .FunctionDef _ _ _ _ _ _ sc _ _ _=>sc
 | _=> { kind:= .function,names:=[],isGenerator:=false,isCoroutine:=false}
abbrev CX0:CD:=λ_ _ _ _ _ _=>False
abbrev E0:XK:=λ_ _ _=>False
theorem Ou {X:Cx}:Io CX0 X E0:=λ_ _ _ _ _ _ _ h=>h.elim
structure Ea (K:PySem.W.Frag) (x qual:Str) (st:Stmt) (f:Addr) (fd:FuncData):Prop where
 ex:∃(oc:Value) (od:Option Addr) (kV doc pm:Value) (an:Option Addr) (cdv ct:Value) (osl:Array (Option Value)),
  fd=PySem.W.fnOf x qual (Ck st) (BW st) (Au st) .none kV doc pm an cdv ct/\K.lookup f=some ⟨oc,od,.func fd,osl⟩/\PySem.W.codeIn K cdv qual=true
 kp:PySem.W.keepIn K (.ref f)=true
section
variable {P : Program} {w : World} {K : PySem.W.Frag} {mg : Str -> Option Value} {base : Heap}
theorem Ea.ok {x:Str}{st:Stmt}{f:Addr}{N:List Str}{k:Nat}{sp:Sp} (F:Ea K x qual st f fd) (S:AB N ps (Au st)) (len:∀vs H Q E,sp vs H Q E->vs.length=ps.length)
  (hbody : ∀ (cdv : Value) (A : Around) (outer : List Env) (s : Shared) (H : Hp) (vs : List V) (Q : VK) (E : XK), Bm k (A.deeper (envOfC qual (Au st) s.heap.objs.size f cdv)) -> sp vs H Q E ->
   ∃t,PSs (D9 CX0 P w K mg base N qual (Au st) f cdv A outer s H E).nox (BW st) t/\t { nx:=λ_ H'=>Q .non H',rt:=Q} (start N vs) H):C0 P w K mg base CX0 (k+1) f fd ps sp:=by
 obtain⟨oc,od,kV,doc,pm,an,cdv,ct,osl,rfl,lk,hcd⟩:=F.ex
 refine NR lk hcd S len λA outer s H vs Q E hr hsp=>?_
 obtain⟨t,h,q⟩:=hbody cdv A outer s H vs Q E hr hsp
 exact⟨t,h.nox,q⟩
theorem Ea.binds {x:Str}{st:Stmt}{f:Addr} (F:Ea K x qual st f fd)
  (h:∀(kV doc pm:Value) (an:Option Addr) (cdv ct:Value) (us:List Value),us.length=ps.length->bindArgs (PySem.W.fnOf x qual (Ck st) (BW st) (Au st) .none kV doc pm an cdv ct) ⟨us,[]⟩=pure (ps.zip us)):Binds K fd ps []:=by
 obtain⟨oc,od,kV,doc,pm,an,cdv,ct,osl,rfl,lk,hcd⟩:=F.ex
 exact .all (h kV doc pm an cdv ct)
theorem Ip {x:Str}{st:Stmt}{f:Addr}{oc:Value}{od an:Option Addr}{osl:Array (Option Value)}{kV doc pm cdv ct:Value} (l:K.lookup f=some ⟨oc,od,.func (PySem.W.fnOf x qual (Ck st) (BW st) (Au st) .none kV doc pm an cdv ct),osl⟩)
  (c:PySem.W.codeIn K cdv qual=true) (k:PySem.W.keepIn K (.ref f)=true):Ea K x qual st f (PySem.W.fnOf x qual (Ck st) (BW st) (Au st) .none kV doc pm an cdv ct):=⟨⟨oc,od,kV,doc,pm,an,cdv,ct,osl,rfl,l,c⟩,k⟩
end
section
variable {X : Cx}
end
def Ab (H H':Hp):Prop:=∀b o,H b=some o->H' b=some o
theorem Ab.refl (H:Hp):Ab H H:=λ_ _ h=>h
theorem Ab.trans {H1 H2:Hp} (a:Ab H H1) (b:Ab H1 H2):Ab H H2:=λc o h=>b c o (a c o h)
theorem Ab.free (e:Ab H H') {l:Addr} (h:H' l=Option.none):H l=Option.none:=by
 cases q:H l with
 | none=>rfl
 | some o=>
  rw [e l o q] at h
  cases h
theorem Ab.seq {K:PySem.W.Frag}{a:Addr}{xs:List V} (e:Ab H H') (h:Al K H a xs):Al K H' a xs:=by
 rcases h with(h | ⟨o,h⟩) | h
 ·exact .inl (.inl (e _ _ h))
 ·exact .inl (.inr ⟨o,e _ _ h⟩)
 ·exact .inr h
end L2
end
section
namespace L2
open PySem PySem.Spec PyProof.Rows
def BI (cs:List (Str×Addr)):List (Str×NameKind)->List (Str×Addr)->List (Str×Addr)
  | [],acc=>acc
  | (n,k)::r,acc=>if k== .free then(match cs.lookup n with | some a=>BI cs r ((n,a)::acc) | none=>BI cs r acc) else BI cs r acc
theorem Iq {env:Env}:∀(names:List (Str×NameKind)) (acc:List (Str×Addr)),(∀y∈names,y.2= .free->∃c,env.cells.lookup y.1=some c)->
    (forIn names acc (fun(p:Str×NameKind) (cs:List (Str×Addr))=>do
      if (p.2==NameKind.free)=true then do
        let a<-cellOf env p.1
        pure (ForInStep.yield ((p.1,a)::cs))
      else pure (ForInStep.yield cs)):Sem (List (Str×Addr)))=pure (BI env.cells names acc)
  | [],acc,_=>rfl
  | (n, k) :: r, acc, h => by
    rw [List.forIn_cons]
    by_cases hk:(k==NameKind.free)=true
    . obtain⟨c,hc⟩:=h (n,k) List.mem_cons_self (by simpa using hk)
      have hc':env.cells.lookup n=some c:=hc
      simp only [hk,if_true,cellOf,hc',BI]
      exact Iq r _ λy hy=>h y (List.mem_cons_of_mem _ hy)
    . have hk':(k==NameKind.free)=false:=by simpa using hk
      simp only [hk',Bool.false_eq_true,if_false,BI]
      exact Iq r _ λy hy=>h y (List.mem_cons_of_mem _ hy)
theorem Ov {env:Env}{scope:Scope} (h:∀y∈scope.names,y.2= .free->∃c,env.cells.lookup y.1=some c):closureFor scope env=pure (BI env.cells scope.names []):=by
 have q:=Iq (env:=env) scope.names [] h
 unfold closureFor
 simp only []
 have e:(forIn scope.names ([]:List (Str×Addr)) (fun(p:Str×NameKind) (cs:List (Str×Addr))=>do
   if (p.2==NameKind.free)=true then do
    let a<-cellOf env p.1
    pure (ForInStep.yield ((p.1,a)::cs))
   else pure (ForInStep.yield cs)):Sem (List (Str×Addr))) >>=(λcs=>pure cs)=pure (BI env.cells scope.names []):=by rw [q];rfl
 exact e
theorem Et {cs:List (Str×Addr)}{x:Str}{c:Addr}:∀(names:List (Str×NameKind)) (acc:List (Str×Addr)),(BI cs names acc).lookup x=some c->cs.lookup x=some c\/acc.lookup x=some c
  | [],_,h=> .inr h
  | (n, k) :: r, acc, h => by
    unfold BI at h
    split at h
    . cases hc:cs.lookup n with
      | none=>rw [hc] at h;exact Et r acc h
      | some a =>
        rw [hc] at h
        rcases Et r _ h with q | q
        . exact .inl q
        . rw [List.lookup_cons] at q
          cases hx:x==n with
          | true=>rw [hx] at q;rw [beq_iff_eq.mp hx,hc];exact .inl q
          | false=>rw [hx] at q;exact .inr q
    . exact Et r acc h
theorem Gd {cs:List (Str×Addr)}{x:Str}{c:Addr} (hc:cs.lookup x=some c):∀(names:List (Str×NameKind)) (acc:List (Str×Addr)),acc.lookup x=some c->(BI cs names acc).lookup x=some c
  | [],_,h=>h
  | (n, k) :: r, acc, h => by
    unfold BI
    split
    . cases hn:cs.lookup n with
      | none=>exact Gd hc r acc h
      | some a =>
        refine Gd hc r _ ?_
        rw [List.lookup_cons]
        cases hx:x==n with
        | true=>rw [beq_iff_eq.mp hx,hn] at hc;exact hc
        | false=>exact h
    . exact Gd hc r acc h
theorem E9 {cs:List (Str×Addr)}{x:Str}{c:Addr} (hc:cs.lookup x=some c):∀(names:List (Str×NameKind)) (acc:List (Str×Addr)),(x,NameKind.free)∈names->(BI cs names acc).lookup x=some c
  | [],_,h=>nomatch h
  | (n, k) :: r, acc, h => by
    unfold BI
    rcases List.mem_cons.mp h with e | h
    . cases e
      simp only [beq_self_eq_true,if_true,hc]
      exact Gd hc r _ (by simp [List.lookup_cons])
    . split
      . cases hn:cs.lookup n with
        | none=>exact E9 hc r acc h
        | some a=>exact E9 hc r _ h
      . exact E9 hc r acc h
theorem Fa {x:Str}{c:Addr}:∀(names:List (Str×NameKind)) (n:Nat) (acc:List (Str×Addr)),(cellsFrom n names acc).lookup x=some c->n<=c\/acc.lookup x=some c
  | [],_,_,h=> .inr h
  | (y, k) :: r, n, acc, h => by
    unfold cellsFrom at h
    split at h
    . rcases Fa r (n+1) _ h with q | q
      . exact .inl (by omega)
      . rw [List.lookup_cons] at q
        cases hx:x==y with
        | true=>rw [hx] at q;cases q;exact .inl (Nat.le_refl _)
        | false=>rw [hx] at q;exact .inr q
    . exact Fa r n acc h
theorem Ir {x:Str}{c:Addr}{lo:Nat}:∀(names:List (Str×NameKind)) (n:Nat) (acc:List (Str×Addr)),lo<=n->((x,NameKind.cell)∈names\/ ∀c,acc.lookup x=some c->lo<=c)->(cellsFrom n names acc).lookup x=some c->lo<=c
  | [],_,_,_,hm,h=>hm.elim (λz=>nomatch z) λz=>z c h
  | (y, k) :: r, n, acc, hl, hm, h => by
    unfold cellsFrom at h
    split at h
    . rename_i hk
      refine Ir r (n+1) _ (by omega) ?_ h
      by_cases hx:x=y
      . refine .inr λc' q=>?_
        rw [List.lookup_cons,hx,beq_self_eq_true] at q
        cases q;exact hl
      . rcases hm with hm | hm
        . rcases List.mem_cons.mp hm with e | hm
          . cases e;exact absurd rfl hx
          . exact .inl hm
        . refine .inr λc' q=>hm c' ?_
          rw [List.lookup_cons,beq_eq_false_iff_ne.mpr hx] at q
          exact q
    . rename_i hk
      refine Ir r n acc hl ?_ h
      rcases hm with hm | hm
      . rcases List.mem_cons.mp hm with e | hm
        . cases e;exact absurd rfl hk
        . exact .inl hm
      . exact .inr hm
theorem Iu {x:Str}{c:Addr}:∀(names:List (Str×NameKind)) (n:Nat) (acc:List (Str×Addr)),(x,NameKind.cell) ∉ names->acc.lookup x=some c->(cellsFrom n names acc).lookup x=some c
  | [],_,_,_,h=>h
  | (y, k) :: r, n, acc, hm, h => by
    have hm':(x,NameKind.cell) ∉ r:=λz=>hm (List.mem_cons_of_mem _ z)
    unfold cellsFrom
    split
    . rename_i hk
      refine Iu r (n+1) _ hm' ?_
      rw [List.lookup_cons]
      cases hx:x==y with
      | true =>
        have e1:k=NameKind.cell:=by simpa using hk
        exact absurd (by rw [beq_iff_eq.mp hx,e1];exact List.mem_cons_self) hm
      | false=>exact h
    . exact Iu r n acc hm' h
theorem Iv {x:Str}:∀(names:List (Str×NameKind)) (n:Nat) (acc:List (Str×Addr)),((x,NameKind.cell)∈names\/ ∃c,acc.lookup x=some c)->∃c,(cellsFrom n names acc).lookup x=some c
  | [],_,_,hm=>hm.elim (λz=>nomatch z) λz=>z
  | (y, k) :: r, n, acc, hm => by
    unfold cellsFrom
    split
    . rename_i hk
      refine Iv r (n+1) _ ?_
      by_cases hx:x=y
      . exact .inr ⟨n,by rw [hx,List.lookup_cons,beq_self_eq_true]⟩
      . rcases hm with hm | ⟨c,hm⟩
        . rcases List.mem_cons.mp hm with e | hm
          . cases e;exact absurd rfl hx
          . exact .inl hm
        . exact .inr ⟨c,by rw [List.lookup_cons,beq_eq_false_iff_ne.mpr hx];exact hm⟩
    . rename_i hk
      refine Iv r n acc ?_
      rcases hm with hm | hm
      . rcases List.mem_cons.mp hm with e | hm
        . cases e;exact absurd rfl hk
        . exact .inl hm
      . exact .inr hm
theorem Iw:∀(names:List (Str×NameKind)) (n:Nat) (acc:List (Str×Addr)),(∀x c,acc.lookup x=some c->c<n)->(∀x y c,acc.lookup x=some c->acc.lookup y=some c->x=y)->
    ∀x y c,(cellsFrom n names acc).lookup x=some c->(cellsFrom n names acc).lookup y=some c->x=y
  | [],_,_,_,hi=>hi
  | (z, k) :: r, n, acc, hb, hi => by
    unfold cellsFrom
    split
    . refine Iw r (n+1) _ (λx c q=>?_) λx y c q q'=>?_
      . rw [List.lookup_cons] at q
        cases hx:x==z with
        | true=>rw [hx] at q;cases q;exact Nat.lt_succ_self _
        | false=>rw [hx] at q;exact Nat.lt_succ_of_lt (hb x c q)
      . rw [List.lookup_cons] at q q'
        cases hx:x==z with
        | true =>
          rw [hx] at q;cases q
          cases hy:y==z with
          | true=>rw [beq_iff_eq.mp hx,beq_iff_eq.mp hy]
          | false=>rw [hy] at q';exact absurd (hb y _ q') (Nat.lt_irrefl _)
        | false =>
          rw [hx] at q
          cases hy:y==z with
          | true=>rw [hy] at q';cases q';exact absurd (hb x _ q) (Nat.lt_irrefl _)
          | false=>rw [hy] at q';exact hi x y c q q'
    . exact Iw r n acc hb hi
theorem Ix:∀(names:List (Str×NameKind)) (h:Heap) (acc:List (Str×Addr)) {x:Str}{c:Addr},(cellsFrom h.objs.size names acc).lookup x=some c->(pushCells h names).IsCell c none\/acc.lookup x=some c
  | [],_,_,_,_,q=> .inr q
  | (z, k) :: r, h, acc, x, c, q => by
    unfold cellsFrom at q
    unfold pushCells
    split at q
    . rename_i hk
      rw [if_pos hk]
      have e:(h.push { cls:= .type "cell",data:= .cell none}).objs.size=h.objs.size+1:=Heap.size_push ..
      rw [<-e] at q
      rcases Ix r _ _ q with q | q
      . exact .inl q
      . rw [List.lookup_cons] at q
        cases hx:x==z with
        | true =>
          rw [hx] at q;cases q
          refine .inl ?_
          have w:(h.push { cls:= .type "cell",data:= .cell none}).IsCell h.objs.size none:=⟨_,Heap.get?_push_size _ rfl,rfl⟩
          exact w.keeps (pushCells_keeps r _)
        | false=>rw [hx] at q;exact .inr q
    . rename_i hk
      rw [if_neg hk]
      exact Ix r h acc q
def Kq (scope:Scope) (env:Env) (C:Addr):Env:=
  { scope:=relabel scope env,locals:=C,globals:=env.globals,cells:=cellsFrom (C+1) scope.names (BI env.cells scope.names []),qual:=env.qual,func:=none,code:=env.code,frame:=env.frame,builtins:=env.builtins}
theorem Ow {M:Model}{A:Around}{E:Value->Shared->Prop}{s:Shared}{scope:Scope}{env:Env}{cl:List (Str×Addr)}{Q:Env->Shared->Prop}
    (h:Q { scope:=scope,locals:=s.heap.objs.size,globals:=env.globals,cells:=cellsFrom (s.heap.objs.size+1) scope.names cl,qual:=env.qual,func:=none,code:=env.code,frame:=env.frame,builtins:=env.builtins}
      { s with heap:=pushCells (s.heap.push { cls:= .type "dict",data:= .dict #[]}) scope.names}):
    wpAny M A (newFunctionEnv scope env.globals cl [] env.qual none .none (some env)) Q E s:=by
  have AD:({ s with heap:=s.heap.push { cls:= .type "dict",data:= .dict #[]}}:Shared).heap.objs.size=s.heap.objs.size+1:=Heap.size_push ..
  rw [<-AD] at h
  unfold newFunctionEnv
  simp only [Option.isSome_some,if_true]
  exact wpAny_bind (wpAny_alloc (wpAny_bind (wpAny_layCells _ (λn k cs=>by by_cases c:(k==NameKind.cell)=true<;>simp [c]) _ _ _ _ (wpAny_bind (wpAny_pure (wpAny_pure h))))))
structure AQ (sc:Scope) (N:List Str) (scope:Scope) (N':List Str) (cap:List (Option Nat)):Prop where
 kind:scope.kind= .function
 free:∀y∈scope.names,y.2= .free->sc.names.lookup y.1=some .cell\/sc.names.lookup y.1=some .free
 len:cap.length=N'.length
 capt:∀(i j:Nat),cap[i]? =some (some j)->∃x:Str,N'[i]? =some x/\N[j]? =some x/\(x,NameKind.free)∈scope.names/\(x,NameKind.cell) ∉ scope.names
 names:∀y∈scope.names,y.2= .local ->scope.names.lookup y.1=some .local
 own:∀y∈scope.names,scope.names.lookup y.1=some y.2
def Kr (sc:Scope) (N:List Str) (scope:Scope) (N':List Str) (cap:List (Option Nat)):Bool:=
  scope.kind== .function &&(scope.names.all λy=>y.2 != .free || sc.names.lookup y.1==some .cell || sc.names.lookup y.1==some .free) && cap.length==N'.length &&
    ((List.range cap.length).all λi => match cap[i]? with
      | some (some j) => (match N'[i]?, N[j]? with
        | some x,some y=>x==y && scope.names.any (λz=>z.1==x && z.2== .free) && scope.names.all (λz=> !(z.1==x && z.2== .cell))
        | _,_=>false)
      | _=>true) && scope.names.all λy=>scope.names.lookup y.1==some y.2
theorem AQ.of {sc:Scope}{N:List Str}{scope:Scope}{N':List Str}{cap:List (Option Nat)} (h:Kr sc N scope N' cap=true):AQ sc N scope N' cap:=by
 unfold Kr at h
 simp only [Bool.and_eq_true] at h
 obtain⟨⟨⟨⟨h1,h2⟩,h3⟩,h4⟩,h5⟩:=h
 have own:∀y∈scope.names,scope.names.lookup y.1=some y.2:=λy hy=>by
  have:=List.all_eq_true.mp h5 y hy
  simpa using this
 refine⟨by simpa using h1,λy hy hf=>?_,by simpa using h3,λi j e=>?_,λy hy hl=>by rw [own y hy,hl],own⟩
 ·have:=List.all_eq_true.mp h2 y hy
  rw [hf] at this
  simpa using this
 ·have hi:i<cap.length:=(List.getElem?_eq_some_iff.mp e).1
  have:=List.all_eq_true.mp h4 i (List.mem_range.mpr hi)
  rw [e] at this
  dsimp only at this
  cases hx:N'[i]? with
  | none=>rw [hx] at this;simp at this
  | some x=>
   cases hy:N[j]? with
   | none=>rw [hx,hy] at this;simp at this
   | some y=>
    rw [hx,hy] at this
    simp only [Bool.and_eq_true] at this
    obtain⟨⟨t1,t2⟩,t3⟩:=this
    have e1:x=y:=by simpa using t1
    subst e1
    obtain⟨z,hz,t⟩:=List.any_eq_true.mp t2
    simp only [Bool.and_eq_true] at t
    have z1:z.1=x:=by simpa using t.1
    have z2:z.2= .free:=by simpa using t.2
    have ez:z=(x,NameKind.free):=by rw [<-z1,<-z2]
    refine⟨x,rfl,rfl,ez ▸ hz,λhm=>?_⟩
    have:=List.all_eq_true.mp t3 _ hm
    simp at this
def AV (cap:List (Option Nat)) (σ:St):St:=cap.map λo=>match o with | some j=>(match σ[j]? with | some v=>v | none=>none) | none=>none
def Cs (X:Cx) (cs:List Expr) (t:TT):Prop:=
 ∀(pins:List (Addr×Obj)) (s:Shared) (σ:St) (H:Hp) (Q:Bool->Hp->Prop),Ad X pins σ H s->t σ H Q->
  wpAny (model X.prog X.w) X.A (forIn cs true λc r=>if r=true then do let ok<-isTrue c X.env (eval c X.env);pure (ForInStep.yield ok) else pure (ForInStep.yield r)) (TP X pins σ Q) X.xe s
def Ks:TT:=λ_ H Q=>Q true H
theorem Br {X:Cx}:Cs X [] Ks:=λ_ _ σ H Q I h=>wpAny_tests_nil ⟨H,I,h⟩
theorem DH {X:Cx}{c:Expr}{t:TT} (h:PT X c t):Cs X [c] t:=λpins s σ H Q I q=>wpAny_tests_one (h pins s σ H Q I q)
def AR (X:Cx) (N':List Str) (scope:Scope) (s:Shared) (H:Hp) (ex:List Addr) (C:Addr):Cx:=
  { X with N:=N',s₀:=s,H₀:=H,env:=Kq scope X.env C,outer:=X.stack,ex:=ex,fn:=λx=>scope.names.any λz=>z.1==x && z.2== .cell,pn:=[],xe:=λ_ _=>False}
theorem Ge {env:Env}{x:Str}:∀(names:List (Str×NameKind)),(names.map fun(n,k)=>if (k==NameKind.free && env.scope.kind== .function && env.kindOf n==some .cell) then(n,NameKind.cell) else(n,k)).lookup x=
    (names.lookup x).map λk=>if (k==NameKind.free && env.scope.kind== .function && env.kindOf x==some .cell) then NameKind.cell else k
  | []=>rfl
  | (n, k) :: r => by
    have ih:=Ge (env:=env) (x:=x) r
    show List.lookup x ((if (k==NameKind.free && env.scope.kind== .function && env.kindOf n==some .cell)=true then(n,NameKind.cell) else(n,k))::_)=_
    cases hx:x==n with
    | true =>
      have e:x=n:=beq_iff_eq.mp hx
      subst e
      split<;>simp_all [List.lookup_cons]
    | false =>
      have e:(List.lookup x ((n,k)::r))=r.lookup x:=by rw [List.lookup_cons,hx]
      rw [e,<-ih]
      split<;>simp [List.lookup_cons,hx]
section
variable {X : Cx} {pins : List (Addr × Obj)} {σ : St} {H : Hp} {s : Shared} {scope : Scope} {N' : List Str} {cap : List (Option Nat)} {fp : List Addr}
theorem Ox (I:Ad X pins σ H s) (B:AQ X.env.scope X.N scope N' cap) (hf:∀b∈fp,BD X pins H b) (hlt:∀b∈fp,b<s.heap.objs.size) {C:Addr} (hC:s.heap.objs.size<=C):
  (AR X N' scope s H fp C).Ok:=by
 have clt:∀x c,X.env.cells.lookup x=some c->c<s.heap.objs.size:=λx c e=>let ⟨_,q⟩:=I.cell x c e;q.lt
 have acc:∀x c,(BI X.env.cells scope.names []).lookup x=some c->X.env.cells.lookup x=some c:=λx c e=>(Et _ _ e).elim id λz=>nomatch z
 refine⟨I.ok.mod,B.kind,I.ok.glob,I.ok.blt,hC,λx y c h1 h2=>?_,λx hx=>?_,λx c hx h=>?_,I.ok.hd,I.ok.frames,.inl rfl,λb hb=>⟨?_,λx c h e=>?_⟩,I.bs,Nat.le_trans I.ok.bsz I.sz,λb o e hb=>?_,λb hb z=>?_,I.stack,I.stkFree⟩
 ·exact Iw scope.names (C+1) _ (λx c e=>Nat.lt_succ_of_lt (Nat.lt_of_lt_of_le (clt x c (acc x c e)) hC)) (λx y c e e'=>I.ok.inj x y c (acc x c e) (acc y c e')) x y c h1 h2
 ·have hx':(relabel scope X.env).names.lookup x=some .cell\/(relabel scope X.env).names.lookup x=some .free:=hx
  have hl:(scope.names.lookup x).isSome=true:=by
   unfold relabel at hx'
   rw [Ge] at hx'
   cases q:scope.names.lookup x with
   | none=>rw [q] at hx';rcases hx' with z | z<;>cases z
   | some k=>rfl
  obtain⟨k,hk⟩:=Option.isSome_iff_exists.mp hl
  have hm:=PySem.mem_of_lookup hk
  refine Iv scope.names (C+1) _ ?_
  cases k with
  | cell=>exact .inl hm
  | free=>
   refine .inr ?_
   obtain⟨c,hc⟩:=I.ok.has x (B.free _ hm rfl)
   exact⟨c,E9 hc _ _ hm⟩
  | _=>
   unfold relabel at hx'
   rw [Ge,hk] at hx'
   rcases hx' with z | z<;>simp at z
 ·have hx':(scope.names.any λz=>z.1==x && z.2== .cell)=true:=hx
  obtain⟨z,hz,t⟩:=List.any_eq_true.mp hx'
  simp only [Bool.and_eq_true] at t
  have z1:z.1=x:=by simpa using t.1
  have z2:z.2= .cell:=by simpa using t.2
  have ez:z=(x,NameKind.cell):=by rw [<-z1,<-z2]
  have:=Ir (lo:=C+1) scope.names (C+1) _ (Nat.le_refl _) (.inl (ez ▸ hz)) h
  exact Nat.le_trans hC (Nat.le_of_succ_le this)
 ·exact Nat.ne_of_lt (Nat.lt_of_lt_of_le (hlt b hb) hC)
 ·rcases Fa scope.names (C+1) _ h with q | q
  ·have:=hlt b hb
   rw [<-e] at this
   exact absurd (Nat.lt_of_lt_of_le this (Nat.le_trans hC (Nat.le_of_succ_le q))) (Nat.lt_irrefl _)
  ·exact(hf b hb).2.2.2.2.1 x c (acc x c q) e
 ·obtain⟨_,_,_,f3,_⟩:=hf b hb
  rcases f3 with f3 | f3
  ·exact I.ok.noex b o e f3
  ·exact absurd (Nat.lt_of_lt_of_le (Heap.lt_size e) (Nat.le_trans I.ok.bsz f3)) (Nat.lt_irrefl _)
 ·obtain⟨_,f1,f2,_⟩:=hf b hb
  rcases List.mem_cons.mp (I.stkSub b z) with q | q
  ·exact f1 q
  ·exact f2 q
theorem Oy (I:Ad X pins σ H s) (B:AQ X.env.scope X.N scope N' cap) (hf:∀b∈fp,BD X pins H b) (hlt:∀b∈fp,b<s.heap.objs.size) {h3:Heap} (hk:∀b o,s.heap.get? b=some o->h3.get? b=some o) (hsz:s.heap.objs.size<=h3.objs.size):
  Ad (AR X N' scope s H fp h3.objs.size) [] (AV cap σ) H { s with heap:=pushCells (h3.push { cls:= .type "dict",data:= .dict #[]}) scope.names}:=by
 have acc:∀x c,(BI X.env.cells scope.names []).lookup x=some c->X.env.cells.lookup x=some c:=λx c e=>(Et _ _ e).elim id λz=>nomatch z
 have hk3:∀b o,h3.get? b=some o->(pushCells (h3.push { cls:= .type "dict",data:= .dict #[]}) scope.names).get? b=some o:=λb o e=>pushCells_keeps _ _ b o (Heap.get?_push_of_some _ e)
 have hk4:∀b o,s.heap.get? b=some o->(pushCells (h3.push { cls:= .type "dict",data:= .dict #[]}) scope.names).get? b=some o:=λb o e=>hk3 b o (hk b o e)
 refine⟨Ox I B hf hlt hsz,rfl,I.bare,Un.kept hk4,⟨λ_=>none,(Heap.Ns.new h3 (.type "dict")).keeps (pushCells_keeps _ _),λi x v h1 h2 h4=>?_⟩,λx c h=>?_,?_,λx c h=>?_,λp hp=>absurd (show p∈([]:List (Addr×Obj)) from hp) (by simp),I.hok.kept hk4,?_⟩
 ·have h2':(AV cap σ)[i]? =some (some v):=h2
  unfold AV at h2'
  rw [List.getElem?_map] at h2'
  cases q:cap[i]? with
  | none=>rw [q] at h2';cases h2'
  | some o=>
   rw [q] at h2'
   cases o with
   | none=>exact nomatch Option.some.inj h2'
   | some j=>
    have h2'':(match σ[j]? with | some v=>v | none=>none)=some v:=Option.some.inj h2'
    cases qs:σ[j]? with
    | none=>rw [qs] at h2'';cases h2''
    | some v'=>
     rw [qs] at h2''
     have hs:σ[j]? =some (some v):=by rw [qs];exact congrArg some h2''
     obtain⟨x',e1,e2,e3,e4⟩:=B.capt i j q
     have h1':N'[i]? =some x:=h1
     rw [h1'] at e1;cases e1
     have hcf:=B.free _ e3 rfl
     obtain⟨m,hn,hl⟩:=I.loc
     obtain⟨u,ru,lk⟩:=hl j x v e2 hs (hcf.elim (λz=> .inr (.inl z)) λz=> .inr (.inr z))
     refine⟨u,ru,?_⟩
     rcases lk with⟨lk,_⟩ | ⟨_,c,hc,ic⟩
     ·have lk':X.env.scope.names.lookup x=some .local :=lk
      have hcf':X.env.scope.names.lookup x=some .cell\/X.env.scope.names.lookup x=some .free:=hcf
      rw [lk'] at hcf';rcases hcf' with z | z<;>cases z
     ·refine .inr ⟨?_,c,Iu _ _ _ e4 (E9 hc _ _ e3),ic.keeps hk4⟩
      have:(relabel scope X.env).names.lookup x=some .cell\/(relabel scope X.env).names.lookup x=some .free:=by
       unfold relabel
       rw [Ge,B.own _ e3]
       dsimp only [Option.map]
       split
       ·exact .inl rfl
       ·exact .inr rfl
      exact this
 ·have h':(cellsFrom (h3.objs.size+1) scope.names (BI X.env.cells scope.names [])).lookup x=some c:=h
  have e:(h3.push { cls:= .type "dict",data:= .dict #[]}).objs.size=h3.objs.size+1:=Heap.size_push ..
  rw [<-e] at h'
  rcases Ix _ _ _ h' with q | q
  ·exact⟨_,q⟩
  ·obtain⟨v,z⟩:=I.cell x c (acc x c q)
   exact⟨v,z.keeps hk4⟩
 ·exact I.hok.fresh hsz
 ·rcases Fa scope.names (h3.objs.size+1) _ h with q | q
  ·exact I.hok.fresh (Nat.le_trans hsz (Nat.le_of_succ_le q))
  ·exact I.freeC x c (acc x c q)
 ·show(AV cap σ).length=N'.length
  unfold AV
  rw [List.length_map]
  exact B.len
end
end L2
end
section
namespace L2
open PySem PySem.Spec PyProof.Rows
variable {E : Expr} {Y : Cx} {a : Addr} {PB : List (Addr × Obj)} {σ : St} {zs xs : List V} {H : Hp} {its : List Value} {te : TE} {tt : TT} {cap : List (Option Nat)} {Q : List V -> Hp -> Prop}
def Keep:St->St->Prop
 | [],[]=>True
 | none::r,_::r'=>Keep r r'
 | some v::r,o::r'=>o=some v/\Keep r r'
 | _,_=>False
theorem Keep.len:∀ {a b:St},Keep a b->a.length=b.length
 | [],[],_=>rfl
 | none::r,_::r',h=>by have h':Keep r r':=h;simp [Keep.len h']
 | some v::r,o::r',h=>by have h':o=some v/\Keep r r':=h;simp [Keep.len h'.2]
theorem Keep.get:∀ {a b:St}{i:Nat}{v:V},Keep a b->a[i]? =some (some v)->b[i]? =some (some v)
 | [],[],_,_,_,e=>by simp at e
 | none::r,_::r',0,v,h,e=>by simp at e
 | none::r,_::r',i+1,v,h,e=>by
  have h':Keep r r':=h
  simpa using Keep.get (i:=i) h' (by simpa using e)
 | some v::r,o::r',0,w,h,e=>by
  have h':o=some v/\Keep r r':=h
  simp at e
  simp [h'.1,e]
 | some v::r,o::r',i+1,w,h,e=>by
  have h':o=some v/\Keep r r':=h
  simpa using Keep.get (i:=i) h'.2 (by simpa using e)
def br (c:Bool) (A B:Prop):Prop:=(c=true->A)/\(c=false->B)
def Iy (wi:TI) (cap:List (Option Nat)) (g:TG) (tt:TT) (te:TE):St->Hp->(List V->Hp->Prop)->Prop:=fun σ H Q=>wi σ H λJ H1=>
 ∃W:Nat->Nat->List V->Hp->Prop,(∃m,W 0 m [] H1)/\∀i m ys H,W i m ys H->
  (J.stop i H/\Q ys H)\/
  (J.go i H /\ ys.length < sizeLine /\ ∃ N : List V -> Hp -> Prop, (∀ ys' H', N ys' H' -> ∃ m', m' < m /\ W (i + 1) m' ys' H') /\ ∀ x H', J.yld i H x H' -> g x (AV cap σ) H' fun σ2 H2 => Keep (AV cap σ) σ2 /\ tt σ2 H2 λb H3 =>
   br b (te σ2 H3 λy H4=>N (ys++[y]) H4) (N ys H3))
structure Iz (X:Cx) (pins:List (Addr×Obj)) (C:Addr) (H:Hp) (s:Shared):Prop where
 ns:∃m,s.heap.Ns C m
 free:H C=none
 loc:C≠X.env.locals
 sz:X.s₀.heap.objs.size<=C
 cell:∀x c,X.env.cells.lookup x=some c->c≠C
 pin:∀p∈X.pn++pins,p.1≠C
abbrev TB:=St->List V->Hp->(List V->Hp->Prop)->Prop
def Fb (E:Expr) (d:Nat) (tg it:Expr) (ifs:List Expr) (body:Sem PySem.Fin) (itv acc:Value) (env:Env):Sem PySem.Fin:=do
  standAt it.pos
  let r<-pyNext itv
  match r with
   | none=>pure (Fin.done Flow.next)
   | some v=>do
    letOwnedTupleGo tg itv v
    assign tg env v
    let ok<-forIn ifs true λc r=>if r=true then do let ok<-PySem.isTrue c env (eval c env);pure (ForInStep.yield ok) else pure (ForInStep.yield r)
    if ok=true then body else again (Code.compLoop E d itv acc env)
def Gf (E:Expr) (d:Nat) (elt:Expr) (itv acc:Value) (env:Env):Sem PySem.Fin:=do
  let _<-(do
   let x<-eval elt env
   let _<-call (Value.builtin "list.append") [acc,x]
   pure ())
  again (Code.compLoop E d itv acc env)
def IA (E:Expr) (d:Nat) (it2:Expr) (itv acc:Value) (env:Env):Sem PySem.Fin:=do
  let x<-eval it2 env
  standAt it2.pos
  let x<-foldedSetIterable it2 env x
  let j<-holding [x] (pyIter x)
  let _<-runOwn (Code.compStart E (d+1) j acc env) env
  again (Code.compLoop E d itv acc env)
abbrev Gg (M:Model) (A:Around) (E:Expr) (d:Nat) (itv acc:Value) (env:Env) (body:Sem PySem.Fin) (P:Shared->Prop) (s:Shared):Prop:=wpAny M A body (λfin s'=>fin= .again (.compLoop E d itv acc env)/\P s') (λ_ _=>False) s
section
variable {prog : Program} {w : World} {A : Around} {R : Result -> Shared -> Prop} {s : Shared} {e0 tg it elt it2 : Expr} {gs : List Comprehension} {ifs : List Expr} {sc : Scope} {ps : Pos} {itv acc : Value} {env : Env} {d : Nat} {body : Sem PySem.Fin} {P : Shared -> Prop}
theorem Oz (h:wpAny (model prog w) A (eval elt env) (λx s₄=>wpAny (model prog w) A (call (.builtin "list.append") [acc,x]) (λ_ s₅=>P s₅) (λ_ _=>False) s₄) (λ_ _=>False) s):Gg (model prog w) A E d itv acc env (Gf E d elt itv acc env) P s:=
 wpAny_bind (wpAny_bind (wpAny_mono h (λx s₄ h₄=>wpAny_bind (wpAny_mono h₄ (λ_ s₅ h₅=>wpAny_pure (wpAny_pure ⟨rfl,h₅⟩)) λ_ _ h'=>h'.elim)) λ_ _ h'=>h'.elim))
theorem OA (hs:∀x,foldedSetIterable it2 env x=pure x) (h:wpAny (model prog w) A (eval it2 env) (λx s₄=>wpAny (model prog w) A (pyIter x) (λj s₅=>codeAny (model prog w) (A.mark none) (.compStart E (d+1) j acc env) (λr s₆=>r= .ok .next/\P s₆) s₅) (λ_ _=>False) s₄) (λ_ _=>False) s):Gg (model prog w) A E d itv acc env (IA E d it2 itv acc env) P s:=by
 refine wpAny_bind (wpAny_mono h (λx s₄ h₄=>wpAny_bind (wpAny_standAt ?_)) λ_ _ h'=>h'.elim)
 rw [hs]
 refine wpAny_bind (wpAny_pure (wpAny_bind (wpAny_holding (wpAny_mono h₄ (λj s₅ h₅=>?_) λ_ _ h'=>h'.elim))))
 refine wpAny_bind (wpAny_runOwn (codeAny_mono h₅ λr s₆ h₆=>?_))
 obtain⟨rfl,h₆⟩:=h₆
 exact wpAny_pure ⟨rfl,h₆⟩
theorem OB (ht:compTurn (.ListComp e0 gs sc ps) d itv acc env=Fb (.ListComp e0 gs sc ps) d tg it ifs body itv acc env) (I:Nat->Shared->Prop)
  (turn : ∀ n s, I n s -> wpAny (model prog w) A (pyNext itv) (λr s₁ => match r with
   | none=>R (.ok .next) s₁
   | some v => wpAny (model prog w) A (letOwnedTupleGo tg itv v) (λ_ s₁' => wpAny (model prog w) A (assign tg env v) (λ_ s₂ =>
     wpAny (model prog w) A (forIn ifs true λc r=>if r=true then do let ok<-isTrue c env (eval c env);pure (ForInStep.yield ok) else pure (ForInStep.yield r)) (λok s₃=>
      if ok=true then Gg (model prog w) A (.ListComp e0 gs sc ps) d itv acc env body (λs₅=>∃m,m<n/\I m s₅) s₃
      else ∃m,m<n/\I m s₃) (λ_ _=>False) s₂) (λ_ _=>False) s₁') (λ_ _=>False) s₁) (λ_ _=>False) s)
  (n:Nat) (h:I n s):codeAny (model prog w) A (.compLoop (.ListComp e0 gs sc ps) d itv acc env) R s:=by
 refine codeAny_loop rfl I (λn s hI=>?_) n h
 show wpAny _ A ((compTurn (.ListComp e0 gs sc ps) d itv acc env).onRaise (λx=>do noteFrame x env;theTreesLotGoes x)) _ _ s
 refine wpAny_noted ?_
 rw [ht]
 unfold Fb
 refine wpAny_bind (wpAny_standAt (wpAny_bind (wpAny_mono (turn n s hI) (λr s₁ h₁=>?_) λ_ _ h'=>h'.elim)))
 cases r with
 | none=>exact wpAny_pure h₁
 | some v=>
  refine wpAny_bind (wpAny_mono h₁ (λ_ s₁' h₁'=>?_) λ_ _ h'=>h'.elim)
  refine wpAny_bind (wpAny_mono h₁' (λ_ s₂ h₂=>wpAny_bind (wpAny_mono h₂ (λok s₃ h₃=>?_) λ_ _ h'=>h'.elim)) λ_ _ h'=>h'.elim)
  cases ok with
  | false=>exact wpAny_pure ⟨rfl,h₃⟩
  | true=>exact wpAny_mono h₃ (λfin s₅ ⟨e,q⟩=>by subst e;exact⟨rfl,q⟩) λ_ _ h'=>h'.elim
end
structure Eu (Y:Cx) (a:Addr):Prop where
 loc:a≠Y.env.locals
 fs:a ∉ Y.fs
 sz:a∈Y.ex\/Y.s₀.heap.objs.size<=a
 cell:∀x c,Y.env.cells.lookup x=some c->c≠a
 pn:Y.pn=[]
 calm:Y.calm=true
abbrev Eb (its:List Value) (k:Nat):Obj:= { cls:= .type "list",data:= .seq its.toArray k}
structure Grown (Y:Cx) (a:Addr) (PB:List (Addr×Obj)) (σ:St) (zs:List V) (H:Hp) (s:Shared):Prop where
 inv:Ad Y PB σ H s
 no:H a=none
 len:zs.length<=sizeLine
 at':∃its k,s.heap.get? a=some (Eb its k)/\Ar zs its
theorem Grown.pin {s:Shared}{k:Nat} (A:Eu Y a) (g:Grown Y a PB σ zs H s) (e:s.heap.get? a=some (Eb its k)):Ad Y ((a,Eb its k)::PB) σ H s:=
 g.inv.pins_of λp hp=>by
  rcases List.mem_cons.mp hp with rfl | hp
  ·exact⟨e,g.no,A.loc,A.fs,λv z=>by
    have z':Data.seq its.toArray k=Data.cell v:=z
    cases z'⟩
  ·exact g.inv.pin p (List.mem_append_right _ hp)
theorem Ad.grown {s:Shared}{k:Nat} (I:Ad Y ((a,Eb its k)::PB) σ H s) (hz:zs.length<=sizeLine) (v:Ar zs its):Grown Y a PB σ zs H s:=by
 have q:=I.pin (a,Eb its k) (List.mem_append_right _ List.mem_cons_self)
 exact⟨I.pins_of λp hp=>I.pin p (List.mem_append_right _ (List.mem_cons_of_mem _ hp)),q.2.1,hz,its,k,q.1,v⟩
def Kt:List V->Prop->Prop:=λzs p=>zs.length<sizeLine/\p
def OC:List V->Prop->Prop:=λ_ p=>p
def Fc (Y:Cx) (a:Addr) (E:Expr) (d:Nat) (body:Value->Sem PySem.Fin) (C:List V->Prop) (B:TB):Prop:=
 ∀(jt:Value) (PB:List (Addr×Obj)) (σ:St) (zs:List V) (H:Hp) (s:Shared) (N:List V->Hp->Prop) (P:Shared->Prop),(∀p∈PB,p.1≠a)->Grown Y a PB σ zs H s->C zs->B σ zs H N->(∀zs' H' s',Grown Y a PB σ zs' H' s'->N zs' H'->P s')->Gg (model Y.prog Y.w) Y.A E d jt (.ref a) Y.env (body jt) P s
theorem Ku {e0 tg it:Expr}{gs:List Comprehension}{ifs:List Expr}{sc:Scope}{ps:Pos}{d m0:Nat}{Y:Cx}{a jt:Addr}{PB:List (Addr×Obj)}{g:TG}{tt:TT}{B:TB}{C:List V->Prop}{Z:List V->Prop->Prop}{body:Value->Sem PySem.Fin}{fp:List Addr}{tn:Nat->Heap->Prop}{J:It}{W:Nat->Nat->List V->Hp->Prop}{σ:St}{ys:List V}{H:Hp}{s:Shared}{N:List V->Hp->Prop}{R:Result->Shared->Prop}
  (A:Eu Y a) (hPB:∀p∈PB,p.1≠a) (ht:∀itv,compTurn (.ListComp e0 gs sc ps) d itv (.ref a) Y.env=Fb (.ListComp e0 gs sc ps) d tg it ifs (body itv) itv (.ref a) Y.env) (hx:Y.xe=λ_ _=>False) (hg:PG Y tg g) (htt:Cs Y ifs tt) (hb:Fc Y a (.ListComp e0 gs sc ps) d body C B) (hZ:∀zs p,Z zs p->C zs/\p)
  (T:CW Y.prog Y.w Y.K tg J fp jt tn) (na:∀b∈fp,b≠a) (fpY:∀ {o:Obj}{H':Hp},(∀b∈fp,H' b=none)->∀b∈fp,BD Y ((a,o)::PB) H' b) (st:tn 0 s.heap) (gr:Grown Y a PB σ ys H s) (hn:∀b∈fp,H b=none) (w0:W 0 m0 ys H)
  (turn:∀j m zs H,W j m zs H->(J.stop j H/\N zs H)\/(J.go j H/\Z zs (∃N2:List V->Hp->Prop,(∀zs' H',N2 zs' H'->∃m',m'<m/\W (j+1) m' zs' H')/\∀x H',J.yld j H x H'->g x σ H' fun σ3 H2=>Keep σ σ3/\tt σ3 H2 λb H3=>br b (B σ3 zs H3 N2) (N2 zs H3))))
  (back:∀zs H' s',Grown Y a PB σ zs H' s'->N zs H'->R (.ok .next) s'):codeAny (model Y.prog Y.w) Y.A (.compLoop (.ListComp e0 gs sc ps) d (.ref jt) (.ref a) Y.env) R s:=by
 refine OB (ht _) (λn' s'=>∃(j:Nat) (zs:List V) (H':Hp),Grown Y a PB σ zs H' s'/\tn j s'.heap/\(∀b∈fp,H' b=none)/\W j n' zs H') ?_ m0 ⟨0,ys,H,gr,st,hn,w0⟩
 rintro n' s12 ⟨j,zs,H12,g12,st12,fr12,w12⟩
 obtain⟨its',k',e12,v12⟩:=g12.at'
 have I12:=g12.pin A e12
 rcases turn j n' zs H12 w12 with⟨stop,q⟩ | ⟨go2,hz0⟩
 ·refine Aq (T.done Y rfl rfl rfl A.calm j _ s12 _ H12 _ I12 (fpY fr12) st12 stop) λr s13 ⟨hr,I13⟩=>?_
  subst hr
  exact back zs H12 s13 (Ad.grown I13 g12.len v12) q
 ·obtain⟨hC,N2,hN2,step2⟩:=hZ _ _ hz0
  refine Aq (T.item Y rfl rfl rfl A.calm j _ s12 _ H12 _ I12 (fpY fr12) st12 go2) λr s13 ⟨u2,hr,h13⟩=>?_
  subst hr
  refine Aq h13 λ_ s14 ⟨x2,H14,I14,r14,y14,st14,fr14⟩=>?_
  have I14':=I14.pinned (fpY fr14) (T.obj _ _ st14)
  have hgY:=hg _ s14 _ H14 x2 u2 _ I14' r14 (step2 x2 H14 y14)
  rw [hx] at hgY
  refine Aq hgY λ_ s15 ⟨σ15,H15,I15,kp2,q15⟩=>?_
  have htY:=htt _ s15 σ15 H15 _ I15 q15
  rw [hx] at htY
  refine Aq htY λb2 s16 ⟨H16,I16,q16⟩=>?_
  have pn:∀p∈PB++DY fp s14.heap,p.1≠a:=λp hp=>by
   rcases List.mem_append.mp hp with hp | hp
   ·exact hPB p hp
   ·exact na p.1 (JZ hp).1
  have back2:∀ {σ':St}{zs':List V}{H':Hp}{s':Shared},Keep σ σ'->Grown Y a (PB++DY fp s14.heap) σ' zs' H' s'->N2 zs' H'->∃m,m<n'/\∃(j:Nat) (zs:List V) (H':Hp),Grown Y a PB σ zs H' s'/\tn j s'.heap/\(∀b∈fp,H' b=none)/\W j m zs H':=λ{σ' zs' H' s'} kp G n2=>by
   obtain⟨m',hm,w16⟩:=hN2 _ _ n2
   refine⟨m',hm,j+1,zs',H',⟨(G.inv.pins_of λp hp=>G.inv.pin p (List.mem_append_right _ (List.mem_append_left _ hp))).weak (by rw [kp.len]) λi v e=>kp.get e,G.no,G.len,G.at'⟩,T.keep _ _ _ st14 λb hb o e=>(G.inv.pin (b,o) (List.mem_append_right _ (List.mem_append_right _ (F3 hb e)))).1,λb hb=>?_,w16⟩
   obtain⟨o,e,d⟩:=T.obj _ _ st14 b hb
   exact(G.inv.pin (b,o) (List.mem_append_right _ (List.mem_append_right _ (F3 hb e)))).2.1
  have g16:Grown Y a (PB++DY fp s14.heap) σ15 zs H16 s16:=Ad.grown I16 g12.len v12
  cases b2 with
  | false=>
   rw [if_neg Bool.false_ne_true]
   exact back2 kp2 g16 (q16.2 rfl)
  | true=>
   rw [if_pos rfl]
   exact hb _ _ _ _ _ _ _ _ pn g16 hC (q16.1 rfl) λzs' H' s' G n2=>back2 kp2 G n2
def IB (te:TE):TB:=fun σ zs H N=>te σ H λy H4=>N (zs++[y]) H4
theorem Kv {elt:Expr}{d:Nat} (A:Eu Y a) (hx:Y.xe=λ_ _=>False) (he:PE Y elt te):Fc Y a E d (λjt=>Gf E d elt jt (.ref a) Y.env) (λzs=>zs.length<sizeLine) (IB te):=by
 intro jt PB σ zs H s N P hPB gr zlt h back
 obtain⟨its',k',e12,v12⟩:=gr.at'
 have I16:=gr.pin A e12
 have heY:=he _ s σ H _ I16 h
 rw [hx] at heY
 refine Oz (Aq heY λyv s17 ⟨y,H17,I17,r17,n17⟩=>?_)
 have gI:=Ad.grown I17 gr.len v12
 have b4:=(I17.pin (a,Eb its' k') (List.mem_append_right _ List.mem_cons_self)).1
 have hl:=v12.length
 refine call_meets F.slot_list_append ⟨_,b4,rfl⟩ F.entry_list_append (F.args_list_append_2 _ _) (PySem.list_append a its'.toArray k' yv (by rw [List.size_toArray];omega)) ⟨b4,?_⟩
 have q:=PySem.IsL.update b4 (λa=>a.push yv)
 have eqp:its'.toArray.push yv=(its'++[yv]).toArray:=by simp
 rw [eqp] at q
 have I18:Ad Y PB σ H17 { s17 with heap:=s17.heap.update a (Obj.mapSeq λa=>a.push yv),toks:=s17.toks}:=
  gI.inv.turned (it:=a) (λb o hb e=>(Heap.get?_update_other s17.heap _ (Ne.symm hb)).trans e) gI.no A.loc A.sz A.cell λp hp z=>by
   rw [A.pn,List.nil_append] at hp
   exact hPB p hp z
 exact back (zs++[y]) H17 _ ⟨I18,gI.no,by rw [List.length_append,List.length_singleton];omega,its'++[yv],_,q,v12.append (.cons r17 .nil)⟩ n17
def Kw (Z:List V->Prop->Prop) (wi:TI) (g:TG) (tt:TT) (B:TB):TB:=fun σ ys H N=>wi σ H λJ H1=>∃W:Nat->Nat->List V->Hp->Prop,(∃m,W 0 m ys H1)/\∀j m zs H,W j m zs H->
  (J.stop j H/\N zs H)\/(J.go j H/\Z zs (∃N2:List V->Hp->Prop,(∀zs' H',N2 zs' H'->∃m',m'<m/\W (j+1) m' zs' H')/\∀x H',J.yld j H x H'->g x σ H' fun σ3 H2=>Keep σ σ3/\tt σ3 H2 λb H3=>br b (B σ3 zs H3 N2) (N2 zs H3)))
theorem OD {e0 tg it:Expr}{gs:List Comprehension}{ifs:List Expr}{sc:Scope}{ps:Pos}{d:Nat}{wi:TI}{g:TG}{B:TB}{C:List V->Prop}{Z:List V->Prop->Prop}{body:Value->Sem PySem.Fin} (A:Eu Y a) (hx:Y.xe=λ_ _=>False) (hs:∀x,foldedSetIterable it Y.env x=pure x)
  (ht:∀itv,compTurn (.ListComp e0 gs sc ps) (d+1) itv (.ref a) Y.env=Fb (.ListComp e0 gs sc ps) (d+1) tg it ifs (body itv) itv (.ref a) Y.env)
  (hst:∀ {R:Result->Shared->Prop}{s:Shared}{j:Value},codeAny (model Y.prog Y.w) Y.A (.compLoop (.ListComp e0 gs sc ps) (d+1) j (.ref a) Y.env) R s->wpAny (model Y.prog Y.w) Y.A (pyIter j) (λj' s'=>codeAny (model Y.prog Y.w) Y.A (.compLoop (.ListComp e0 gs sc ps) (d+1) j' (.ref a) Y.env) R s') (notedBy (model Y.prog Y.w) Y.A Y.env λx s'=>R (.error x) s') s->codeAny (model Y.prog Y.w) Y.A (.compStart (.ListComp e0 gs sc ps) (d+1) j (.ref a) Y.env) R s)
  (hi:PI Y tg it wi) (hg:PG Y tg g) (htt:Cs Y ifs tt) (hb:Fc Y a (.ListComp e0 gs sc ps) (d+1) body C B) (hZ:∀zs p,Z zs p->C zs/\p):Fc Y a (.ListComp e0 gs sc ps) d (λjt=>IA (.ListComp e0 gs sc ps) d it jt (.ref a) Y.env) (λ_=>True) (Kw Z wi g tt B):=by
 intro jt0 PB σ ys H s N P hPB gr _ h back
 obtain⟨its,k,ee,v0⟩:=gr.at'
 have I0:=gr.pin A ee
 have base:=hi _ s σ H _ I0 h
 rw [hx] at base
 refine OA hs (Aq base λv9 s9 h9=>Aq h9 λitv2 s10 h10=>?_)
 obtain⟨jt,fp,tn,J,H10,e10,I10,T,st10,f10,W,⟨m2,w2⟩,turn⟩:=h10
 subst e10
 have g10:=Ad.grown I10 gr.len v0
 have ne2:∀b∈fp,b≠a/\∀p∈PB,p.1≠b:=λb hb=>by
  obtain⟨_,_,_,_,_,f5⟩:=f10 b hb
  exact⟨λz=>f5 (a,Eb its k) (List.mem_append_right _ List.mem_cons_self) z.symm,λp hp=>f5 p (List.mem_append_right _ (List.mem_cons_of_mem _ hp))⟩
 have fpY:∀ {o:Obj}{H':Hp},(∀b∈fp,H' b=none)->∀b∈fp,BD Y ((a,o)::PB) H' b:=λ{o H'} hn b hb=>by
  obtain⟨_,f1,f2',f3,f4,_⟩:=f10 b hb
  refine⟨hn b hb,f1,f2',f3,f4,λp hp e=>?_⟩
  rw [A.pn,List.nil_append] at hp
  rcases List.mem_cons.mp hp with rfl | hp
  ·exact(ne2 b hb).1 e.symm
  ·exact(ne2 b hb).2 p hp e
 have loop:codeAny (model Y.prog Y.w) Y.A (.compLoop (.ListComp e0 gs sc ps) (d+1) (.ref jt) (.ref a) Y.env) (λr s₆=>r= .ok .next/\P s₆) s10:=
  Ku A hPB ht hx hg htt hb hZ T (λb hb=>(ne2 b hb).1) fpY st10 g10 (λb hb=>(f10 b hb).1) w2 turn λzs H' s' G n=>⟨rfl,back zs H' s' G n⟩
 exact hst loop (T.self _ 0 _ _ _ st10 loop)
theorem Kx {X:Cx}{tg iter e0:Expr}{gs:List Comprehension}{ifs:List Expr}{scope:Scope}{pos pos':Pos}{wi:TI}{g:TG}{tt:TT}{Bt:TB}{Cd:List V->Prop} (Z:List V->Prop->Prop) {N':List Str}{cap:List (Option Nat)}{use:Option (Value->Sem Unit)}{Q':Value->Shared->Prop}{body:Value->Value->Env->Sem PySem.Fin}
  {pins:List (Addr×Obj)}{s:Shared}{σ:St}{H:Hp}{Q:List V->Hp->Prop}
  (hc:X.calm=true) (hi:PI X tg iter wi) (B:AQ X.env.scope X.N scope N' cap) (hg:∀s H ex C,PG (AR X N' scope s H ex C) tg g) (ht:∀s H ex C,Cs (AR X N' scope s H ex C) ifs tt)
  (htn:∀itv acc env,compTurn (.ListComp e0 (⟨tg,iter,ifs,0⟩::gs) scope pos) 0 itv acc env=Fb (.ListComp e0 (⟨tg,iter,ifs,0⟩::gs) scope pos) 0 tg iter ifs (body itv acc env) itv acc env)
  (hbd:∀s H ex C a,Eu (AR X N' scope s H ex C) a->Fc (AR X N' scope s H ex C) a (.ListComp e0 (⟨tg,iter,ifs,0⟩::gs) scope pos) 0 (λitv=>body itv (.ref a) (AR X N' scope s H ex C).env) Cd Bt) (hZ:∀zs p,Z zs p->Cd zs/\p)
  (hs:∀x,foldedSetIterable iter X.env x=pure x) (I:Ad X pins σ H s)
  (h:wi σ H λJ H1=>∃W:Nat->Nat->List V->Hp->Prop,(∃m,W 0 m [] H1)/\∀i m ys H,W i m ys H->(J.stop i H/\Q ys H)\/(J.go i H/\Z ys (∃N:List V->Hp->Prop,(∀ys' H',N ys' H'->∃m',m'<m/\W (i+1) m' ys' H')/\∀x H',J.yld i H x H'->g x (AV cap σ) H' fun σ2 H2=>Keep (AV cap σ) σ2/\tt σ2 H2 λb H3=>br b (Bt σ2 ys H3 N) (N ys H3))))
  (fin:∀(acc C:Addr) (H:Hp) (ys:List V) (s':Shared),H acc=none->Ad X pins σ (upd H acc (.lst ys)) s'->Iz X pins C (upd H acc (.lst ys)) s'->Q ys H->compPost (model X.prog X.w) X.A X.xe use Q' (.ref acc) C (.ok .next) s'):
  wpAny (model X.prog X.w) X.A (comprehension (.ListComp e0 (⟨tg,iter,ifs,0⟩::gs) scope pos) scope X.env pos' (newList []) false (eval iter X.env) use) Q' X.xe s:=by
 have hclos:closureFor scope X.env=pure (BI X.env.cells scope.names []):=Ov λy hy hf=>I.ok.has y.1 (B.free y hy hf)
 refine wpAny_comprehension_free (cl:=BI X.env.cells scope.names []) rfl hs hclos B.kind B.names (Aq (hi pins s σ H _ I h) λv s1 h1=>Aq h1 λitv s2 h2=>?_)
 obtain⟨it,fp,tn,J,H2,e,I2,T,st2,f2,W,⟨m0,w0⟩,turn⟩:=h2
 subst e
 refine wpAny_newObj_type (Ow ?_)
 dsimp only
 generalize hH3:s2.heap.push { cls:= .type "list",dict:=none,data:= .seq ([]:List Value).toArray}=h3
 have hsz3:h3.objs.size=s2.heap.objs.size+1:=by rw [<-hH3];exact Heap.size_push ..
 have hk3:∀b o,s2.heap.get? b=some o->h3.get? b=some o:=λb o e=>by rw [<-hH3];exact Heap.get?_push_of_some _ e
 have hacc3:h3.get? s2.heap.objs.size=some { cls:= .type "list",data:= .seq ([]:List Value).toArray}:=by rw [<-hH3];exact Heap.get?_push_size _ rfl
 have hlt:∀b∈fp,b<s2.heap.objs.size:=λb hb=>let ⟨o,e,_⟩:=T.obj _ _ st2 b hb;Heap.lt_size e
 have I4:=Oy I2 B f2 hlt hk3 (by rw [hsz3];exact Nat.le_succ _)
 have acc4:(pushCells (h3.push { cls:= .type "dict",data:= .dict #[]}) scope.names).get? s2.heap.objs.size=some { cls:= .type "list",data:= .seq ([]:List Value).toArray}:=pushCells_keeps _ _ _ _ (Heap.get?_push_of_some _ hacc3)
 have st4:tn 0 (pushCells (h3.push { cls:= .type "dict",data:= .dict #[]}) scope.names):=T.keep _ _ _ st2 λb _ o e=>pushCells_keeps _ _ _ _ (Heap.get?_push_of_some _ (hk3 b o e))
 have haC:s2.heap.objs.size≠h3.objs.size:=by rw [hsz3];exact Nat.ne_of_lt (Nat.lt_succ_self _)
 have haN:s2.heap.objs.size ∉ B0 X.stack:=λz=>by
  rcases List.mem_cons.mp (I2.stkSub _ z) with q | q
  ·exact absurd I2.lt (by rw [<-q];exact Nat.lt_irrefl _)
  ·exact I2.nofs (Nat.le_refl _) q
 have okY:=I4.ok
 have fpY:∀ {pins':List (Addr×Obj)}{H':Hp},(∀b∈fp,H' b=none)->(∀p∈pins',p.1=s2.heap.objs.size)->∀b∈fp,BD (AR X N' scope s2 H2 fp h3.objs.size) pins' H' b:=λ{pins' H'} hn hp b hb=>
  ⟨hn b hb, (okY.exf b hb).1, okY.exfs b hb, .inl hb, (okY.exf b hb).2, λp z e => by
   have z':p∈pins':=z
   have:=hlt b hb
   rw [<-e,hp p z'] at this
   exact Nat.lt_irrefl _ this⟩
 have cellNe:∀x c,(AR X N' scope s2 H2 fp h3.objs.size).env.cells.lookup x=some c->c≠s2.heap.objs.size:=λx c ec z=>by
  rcases Fa scope.names (h3.objs.size+1) _ ec with q' | q'
  ·rw [z,hsz3] at q'
   exact absurd q' (by omega)
  ·have ec':X.env.cells.lookup x=some c:=(Et _ _ q').elim id λz=>nomatch z
   obtain⟨_,q''⟩:=I2.cell x c ec'
   have:=q''.lt
   rw [z] at this
   exact Nat.lt_irrefl _ this
 have loop:∀s4:Shared,s4= { s2 with heap:=pushCells (h3.push { cls:= .type "dict",data:= .dict #[]}) scope.names}->
   codeAny (model X.prog X.w) X.A (.compLoop (.ListComp e0 (⟨tg,iter,ifs,0⟩::gs) scope pos) 0 (.ref it) (.ref s2.heap.objs.size) (Kq scope X.env h3.objs.size)) (compPost (model X.prog X.w) X.A X.xe use Q' (.ref s2.heap.objs.size) h3.objs.size) s4:=by
  rintro s4 rfl
  have A0:Eu (AR X N' scope s2 H2 fp h3.objs.size) s2.heap.objs.size:=⟨haC,haN,.inr (Nat.le_refl _),cellNe,rfl,hc⟩
  refine Ku (Y:=AR X N' scope s2 H2 fp h3.objs.size) (PB:=[]) (W:=W) A0 (λp hp=>absurd hp (by simp)) (λ_=>htn _ _ _) rfl (hg _ _ _ _) (ht _ _ _ _) (hbd _ _ _ _ _ A0) hZ T (λb hb z=>absurd (hlt b hb) (by rw [z];exact Nat.lt_irrefl _))
   (λ{o H'} hn b hb=>fpY hn (λp hp=>by rw [List.mem_singleton.mp hp]) b hb) st4 ⟨I4,I2.hok.fresh (Nat.le_refl _),Nat.zero_le _,[],0,acc4,.nil⟩ (λb hb=>(f2 b hb).1) w0 turn λys H5 s6 G q=>?_
  obtain⟨its,k,e6,v5⟩:=G.at'
  have fa5:=G.no
  have z5:=G.len
  have I6:=G.inv
  have nacc:∀b u,H5 b=some u->b≠s2.heap.objs.size:=λb u q z=>by rw [z,fa5] at q;cases q
  have un:Un (B0 X.stack) fp H2 (upd H5 s2.heap.objs.size (.lst ys)) s2.heap s6.heap:=by
   have u:=I6.base
   refine⟨u.keep,u.slot,λb o q n hx=>?_,u.there,λb xs q=>?_,λb o xs q=>?_,λb ps q=>?_⟩
   ·rw [As (Nat.ne_of_lt (Heap.lt_size q))]
    exact u.free b o q n hx
   ·have z:=u.tups b xs q
    rw [As (nacc b _ z)];exact z
   ·have z:=u.frzs b o xs q
    rw [As (nacc b _ z)];exact z
   ·obtain⟨more,z⟩:=u.tbls b ps q
    exact⟨more,by rw [As (nacc b _ z)];exact z⟩
  have hok:HOk X.prog X.w (upd H5 s2.heap.objs.size (.lst ys)) s6.heap:=λb u q=>by
   by_cases hb:b=s2.heap.objs.size
   ·subst hb
    rw [Ah] at q;cases q
    exact⟨z5,its,k,v5,e6⟩
   ·rw [As hb] at q
    have o6:ObjOk X.prog X.w H5 s6.heap b u:=I6.hok b u q
    exact o6.stay (λ_ _ _ e=>e) (λc z=>by rw [As (nacc c _ z)];exact z) λc xs z=>by rw [As (nacc c _ z)];exact z
  have IX:Ad X pins σ (upd H5 s2.heap.objs.size (.lst ys)) s6:=I2.call' (show s6.os=s2.os from I6.os) un hok I6.bare λb hb=>let f:=f2 b hb;⟨f.2.2.2.1,f.2.1,f.2.2.2.2.1,f.2.2.2.2.2⟩
  have hCs:s2.heap.objs.size<=h3.objs.size:=by rw [hsz3];exact Nat.le_succ _
  refine fin _ _ H5 ys s6 fa5 IX ⟨let ⟨m,hn,_⟩:=I6.loc;⟨m,hn⟩,?_,?_,Nat.le_trans I2.sz hCs,λx c ec z=>?_,λp hp z=>?_⟩ q
  ·rw [As (Ne.symm haC)];exact I6.free
  ·exact Nat.ne_of_gt (Nat.lt_of_lt_of_le I2.lt hCs)
  ·obtain⟨_,q⟩:=I2.cell x c ec
   have:=q.lt
   rw [z] at this
   exact absurd (Nat.lt_of_lt_of_le this hCs) (Nat.lt_irrefl _)
  ·have:=Heap.lt_size (I2.pin p hp).1
   rw [z] at this
   exact absurd (Nat.lt_of_lt_of_le this hCs) (Nat.lt_irrefl _)
 exact codeAny_compStart_list (loop _ rfl) (T.self _ 0 _ _ _ st4 (loop _ rfl))
theorem Ky {X:Cx}{tg iter elt:Expr}{ifs:List Expr}{scope:Scope}{pos pos':Pos}{wi:TI}{g:TG}{tt:TT}{te:TE}{N':List Str}{cap:List (Option Nat)}{use:Option (Value->Sem Unit)}{Q':Value->Shared->Prop}
  {pins:List (Addr×Obj)}{s:Shared}{σ:St}{H:Hp}{Q:List V->Hp->Prop}
  (hc:X.calm=true) (hi:PI X tg iter wi) (B:AQ X.env.scope X.N scope N' cap) (hg:∀s H ex C,PG (AR X N' scope s H ex C) tg g) (ht:∀s H ex C,Cs (AR X N' scope s H ex C) ifs tt) (he:∀s H ex C,PE (AR X N' scope s H ex C) elt te)
  (hs:∀x,foldedSetIterable iter X.env x=pure x) (I:Ad X pins σ H s) (h:Iy wi cap g tt te σ H Q)
  (fin:∀(acc C:Addr) (H:Hp) (ys:List V) (s':Shared),H acc=none->Ad X pins σ (upd H acc (.lst ys)) s'->Iz X pins C (upd H acc (.lst ys)) s'->Q ys H->compPost (model X.prog X.w) X.A X.xe use Q' (.ref acc) C (.ok .next) s'):
  wpAny (model X.prog X.w) X.A (comprehension (.ListComp elt [⟨tg,iter,ifs,0⟩] scope pos) scope X.env pos' (newList []) false (eval iter X.env) use) Q' X.xe s:=
 Kx Kt (body:=λitv acc env=>Gf (.ListComp elt [⟨tg,iter,ifs,0⟩] scope pos) 0 elt itv acc env) (Bt:=IB te) hc hi B hg ht (λ_ _ _=>rfl) (λs H ex C a A=>Kv A rfl (he s H ex C)) (λ_ _ z=>z) hs I h fin
def OE (wi:TI) (cap:List (Option Nat)) (g:TG) (tt:TT) (te:TE):TE:=fun σ H Q=>Iy wi cap g tt te σ H λys H'=>∀p,H' p=none->Q (.ref p) (upd H' p (.lst ys))
theorem Bw {X:Cx}{tg iter elt:Expr}{ifs:List Expr}{scope:Scope}{pos:Pos}{wi:TI}{g:TG}{tt:TT}{te:TE} (N':List Str) (cap:List (Option Nat))
  (hc:X.calm=true) (hi:PI X tg iter wi) (B:AQ X.env.scope X.N scope N' cap) (hg:∀s H ex C,PG (AR X N' scope s H ex C) tg g) (ht:∀s H ex C,Cs (AR X N' scope s H ex C) ifs tt) (he:∀s H ex C,PE (AR X N' scope s H ex C) elt te)
  (hs:∀x,foldedSetIterable iter X.env x=pure x:=by intro _;rfl):PE X (.ListComp elt [⟨tg,iter,ifs,0⟩] scope pos) (OE wi cap g tt te):=by
 intro pins s σ H Q I h
 rw [eval_ListComp]
 refine Ky (use:=none) hc hi B hg ht he hs I h λacc C H ys s' hn I' L q=>?_
 obtain⟨m,hm⟩:=L.ns
 refine⟨m,hm,λh' hsb=>⟨.ref acc,_,I'.turned (t':=s'.toks) (it:=C) (λb o hb e=>hsb.extBut b o hb e) L.free L.loc (.inr L.sz) L.cell L.pin,rfl,q acc hn⟩⟩
def OF (i:Nat) (wi:TI) (cap:List (Option Nat)) (g:TG) (tt:TT) (te:TE):TS:=λD σ H=>Iy wi cap g tt te σ H λys H'=>∀p,H' p=none->D.nx (σ.set i (some (.ref p))) (upd H' p (.lst ys))
theorem Fd {X:Cx}{i:Nat}{y:Str}{tg iter elt:Expr}{ifs:List Expr}{scope:Scope}{pos pos' pos'':Pos}{wi:TI}{g:TG}{tt:TT}{te:TE} (N':List Str) (cap:List (Option Nat)) (hN:X.N.Nodup) (hin:X.N[i]? =some y) (hy:DC X.env.scope y)
  (hc:X.calm=true) (hi:PI X tg iter wi) (B:AQ X.env.scope X.N scope N' cap) (hg:∀s H ex C,PG (AR X N' scope s H ex C) tg g) (ht:∀s H ex C,Cs (AR X N' scope s H ex C) ifs tt) (he:∀s H ex C,PE (AR X N' scope s H ex C) elt te)
  (hsw:swapsWith (.ListComp elt [⟨tg,iter,ifs,0⟩] scope pos) (some (.Name y pos')) pos''.line X.env=pure true:=by rfl)
  (hf:X.fn y=true\/X.env.scope.names.lookup y=some .local :=by first | exact .inl rfl | exact .inr rfl | assumption)
  (hs:∀x,foldedSetIterable iter X.env x=pure x:=by intro _;rfl):PS X (.Assign [.Name y pos'] (.ListComp elt [⟨tg,iter,ifs,0⟩] scope pos) pos'') (OF i wi cap g tt te):=by
 intro pins s σ H D I h
 rw [exec_Assign_Name_used _ _ _ _ hsw]
 refine wpAny_bind (wpAny_standAt (wpAny_bind ?_))
 show wpAny _ X.A (do let _<-comprehension (.ListComp elt [⟨tg,iter,ifs,0⟩] scope pos) scope X.env _ (newList []) false (eval iter X.env) (some (assign (.Name y pos') X.env))) _ _ s
 refine wpAny_bind (wpAny_mono (Ky (use:=some (assign (.Name y pos') X.env)) (Q':=λ_ s'=>SP X pins D .next s') hc hi B hg ht he hs I h λacc C H ys s' hn I' L q=>?_) (λ_ s' hq=>wpAny_pure (wpAny_pure hq)) λ_ _ e=>e)
 obtain⟨m,hm⟩:=L.ns
 refine wpAny_assign_Name (Ib I' hN hin hy (show Ay (.ref acc) (.ref acc) from rfl) (λs'' I'' ⟨a,sb,ha⟩=>?_) hf)
 have hCa:C≠a:=by
  rcases ha with e | e
  ·rw [e];exact L.loc
  ·exact λz=>L.cell _ _ e z.symm
 refine⟨m,hm.sameBut sb hCa,λh' hsb=>?_⟩
 exact⟨_,_,I''.turned (t':=s''.toks) (it:=C) (λb o hb e=>hsb.extBut b o hb e) L.free L.loc (.inr L.sz) L.cell L.pin,q acc hn⟩
def DI (J:It) (cap:List (Option Nat)) (g:TG) (tt:TT) (te:TE) (σ:St) (Q:List V->Hp->Prop) (H1:Hp):Prop:=
 ∃W:Nat->Nat->List V->Hp->Prop,(∃m,W 0 m [] H1)/\∀i m ys H,W i m ys H->
  (J.stop i H/\Q ys H)\/
  (J.go i H /\ ys.length < sizeLine /\ ∃ N : List V -> Hp -> Prop, (∀ ys' H', N ys' H' -> ∃ m', m' < m /\ W (i + 1) m' ys' H') /\ ∀ x H', J.yld i H x H' -> g x (AV cap σ) H' fun σ2 H2 => Keep (AV cap σ) σ2 /\ tt σ2 H2 λb H3 =>
   br b (te σ2 H3 λy H4=>N (ys++[y]) H4) (N ys H3))
theorem Fe {J:It}{g:TG} (n:Nat) (Pv:Nat->List V->Hp->Prop) (hn:n<=100000) (h0:Pv 0 [] H) (hz:∀i ys H,Pv i ys H->ys.length<=i)
  (hs:∀i ys H,i<n->Pv i ys H->J.go i H/\∀x H',J.yld i H x H'->g x (AV cap σ) H' fun σ2 H2=>Keep (AV cap σ) σ2/\tt σ2 H2 λb H3=>br b (te σ2 H3 λy H4=>Pv (i+1) (ys++[y]) H4) (Pv (i+1) ys H3))
  (hd:∀ys H,Pv n ys H->J.stop n H/\Q ys H):DI J cap g tt te σ Q H:=by
 refine⟨λi m ys H=>m=n-i/\i<=n/\Pv i ys H,⟨n,by simp,Nat.zero_le _,h0⟩,?_⟩
 rintro i m ys H ⟨rfl,hi,p⟩
 by_cases hlt:i<n
 ·obtain⟨a,b⟩:=hs i ys H hlt p
  refine .inr ⟨a,?_,Pv (i+1),λys' H' p'=>⟨n-(i+1),by omega,rfl,hlt,p'⟩,b⟩
  have:=hz i ys H p
  have:(100000:Nat)<sizeLine:=by decide
  omega
 ·have e:i=n:=by omega
  subst e
  exact .inl (hd ys H p)
theorem Cm {K:PySem.W.Frag}{g:TG} (Pv:Nat->List V->Hp->Prop) (hn:xs.length<=100000) (h0:Pv 0 [] H) (hz:∀i ys H,Pv i ys H->ys.length<=i)
  (hl:∀i ys H,i<=xs.length->Pv i ys H->Ae K H a xs)
  (hs:∀i x ys H,xs[i]? =some x->Pv i ys H->g x (AV cap σ) H fun σ2 H2=>Keep (AV cap σ) σ2/\tt σ2 H2 λb H3=>br b (te σ2 H3 λy H4=>Pv (i+1) (ys++[y]) H4) (Pv (i+1) ys H3))
  (hd:∀ys H,Pv xs.length ys H->Q ys H):DI (En K a) cap g tt te σ Q H:=
 Fe xs.length Pv hn h0 hz (λi ys H hi p=>⟨⟨xs,xs[i],hl i ys H (Nat.le_of_lt hi) p,by simp [hi]⟩,λx H' ⟨e,y⟩=>by subst e;exact hs i x ys _ (y xs (hl i ys _ (Nat.le_of_lt hi) p)) p⟩)
  λys H p=>⟨⟨xs,hl _ ys H (Nat.le_refl _) p,Nat.le_refl _⟩,hd ys H p⟩
theorem IC {K:PySem.W.Frag}{g:TG} (Pv:Nat->List V->Hp->Prop) (hn:xs.length<=100000) (h0:Pv 0 [] H) (hz:∀i ys H,Pv i ys H->ys.length<=i)
  (hl:∀i ys H,i<=xs.length->Pv i ys H->Al K H a xs)
  (hs:∀i x ys H,xs[i]? =some x->Pv i ys H->g x (AV cap σ) H fun σ2 H2=>Keep (AV cap σ) σ2/\tt σ2 H2 λb H3=>br b (te σ2 H3 λy H4=>Pv (i+1) (ys++[y]) H4) (Pv (i+1) ys H3))
  (hd:∀ys H,Pv xs.length ys H->Q ys H):DI (Em K a) cap g tt te σ Q H:=
 Fe xs.length Pv hn h0 hz (λi ys H hi p=>⟨⟨xs,xs[i],hl i ys H (Nat.le_of_lt hi) p,by simp [hi]⟩,λx H' ⟨e,y⟩=>by subst e;exact hs i x ys _ (y xs (hl i ys _ (Nat.le_of_lt hi) p)) p⟩)
  λys H p=>⟨⟨xs,hl _ ys H (Nat.le_refl _) p,Nat.le_refl _⟩,hd ys H p⟩
theorem Gh {lo:Int}{n:Nat}{g:TG} (Pv:Nat->List V->Hp->Prop) (hn:n<=100000) (h0:Pv 0 [] H) (hz:∀i ys H,Pv i ys H->ys.length<=i)
  (hs:∀i ys H,i<n->Pv i ys H->g (.int (lo+i)) (AV cap σ) H fun σ2 H2=>Keep (AV cap σ) σ2/\tt σ2 H2 λb H3=>br b (te σ2 H3 λy H4=>Pv (i+1) (ys++[y]) H4) (Pv (i+1) ys H3))
  (hd:∀ys H,Pv n ys H->Q ys H):DI (Dg lo n) cap g tt te σ Q H:=
 Fe n Pv hn h0 hz (λi ys H hi p=>⟨hi,λx H' ⟨e,y⟩=>by subst e y;exact hs i ys _ hi p⟩) λys H p=>⟨Nat.le_refl _,hd ys H p⟩
end L2
end
section
namespace L2
open PySem PySem.Spec PyProof.Rows
open AutoSeq1 (wpAny_loadPart')
section
variable {prog : Program} {w : World} {A : Around} {E : Value -> Shared -> Prop} {s : Shared}
theorem OG {it t:Addr}{i:Nat}{items:Array Value}{x:Value}{Q:Value->Shared->Prop} (hit:s.heap.IsTupleIter it t i) (ht:s.heap.IsTuple t items) (hx:items[i]? =some x)
  (hQ:∀h',h'.IsTupleIter it t (i+1)->Heap.SameBut it s.heap h'->Q x { s with heap:=h'}):wpAny (model prog w) A (Builtin.SmallTypes.nextOf (.ref it)) Q E s:=by
 obtain⟨o,ho,hc,hd⟩:=id hit;obtain⟨ol,hol,_,nl,hdl⟩:=ht;unfold Builtin.SmallTypes.nextOf
 refine wpAny_bind (wpAny_callSpecial?_slot (name:=Str.ofString "__next__") hit.typeIs F.slot_tuple_iterator_next (wpAny_call_entry F.slot_tuple_iterator_next hit.typeIs F.entry_tuple_iterator_next ?_ (F.args_tuple_iterator_next_1 _)))
 show wpAny _ _ (field (.ref it) 0>>=_) _ _ s;refine wpAny_bind (wpAny_field ho hd (x:= .ref t) rfl ?_)
 show wpAny _ _ (if (Value.ref t==Value.none)=true then _ else _) _ _ s;rw [if_neg (show ¬((Value.ref t==Value.none)=true) from Bool.false_ne_true)]
 show wpAny _ _ (field (.ref it) 1>>=_) _ _ s;refine wpAny_bind (wpAny_field ho hd (x:= .int i 0) rfl ?_)
 show wpAny _ _ (seqItems? (.ref t) >>=_) _ _ s;refine wpAny_bind (wpAny_seqItems hol hdl ?_);simp only [Int.toNat_natCast,hx]
 refine wpAny_bind (wpAny_setField ho hd (by simp) (wpAny_pure ⟨x,rfl,wpAny_pure (hQ _ ?_ (Heap.SameBut.update ..))⟩));exact⟨_,Heap.get?_update_self _ ho (Obj.isFreed_of_fields (Obj.data_mapFields hd _)),(Obj.cls_mapFields ..).trans hc,by rw [Obj.data_mapFields hd];simp [rawInt]⟩
theorem OH {it t:Addr}{i:Nat}{items:Array Value}{Q:Value->Shared->Prop} (hh:A.handled=none) (hit:s.heap.IsTupleIter it t i) (ht:s.heap.IsTuple t items) (hx:items[i]? =none)
  (hE:∀h' e,Heap.ExtBut it s.heap h'->(∃o,h'.get? e=some o/\o.cls= .type "StopIteration")->E (.ref e) { s with heap:=h'}):wpAny (model prog w) A (Builtin.SmallTypes.nextOf (.ref it)) Q E s:=by
 obtain⟨o,ho,hc,hd⟩:=id hit;obtain⟨ol,hol,_,nl,hdl⟩:=ht;unfold Builtin.SmallTypes.nextOf
 refine wpAny_bind (wpAny_callSpecial?_slot (name:=Str.ofString "__next__") hit.typeIs F.slot_tuple_iterator_next (wpAny_call_entry F.slot_tuple_iterator_next hit.typeIs F.entry_tuple_iterator_next ?_ (F.args_tuple_iterator_next_1 _)))
 show wpAny _ _ (field (.ref it) 0>>=_) _ _ s;refine wpAny_bind (wpAny_field ho hd (x:= .ref t) rfl ?_)
 show wpAny _ _ (if (Value.ref t==Value.none)=true then _ else _) _ _ s;rw [if_neg (show ¬((Value.ref t==Value.none)=true) from Bool.false_ne_true)]
 show wpAny _ _ (field (.ref it) 1>>=_) _ _ s;refine wpAny_bind (wpAny_field ho hd (x:= .int i 0) rfl ?_)
 show wpAny _ _ (seqItems? (.ref t) >>=_) _ _ s;refine wpAny_bind (wpAny_seqItems hol hdl ?_);simp only [Int.toNat_natCast,hx]
 refine wpAny_bind (wpAny_rule (wpAny_bind (wpAny_setField ho hd (by simp) ?_)));show wpAny _ _ (newExc (.type "StopIteration") [] >>=_) _ _ _
 refine wpAny_bind ?_;simp only [newExc,newTuple];refine wpAny_bind (wpAny_newObj_type ?_ (by size_fits))
 refine wpAny_bind (m:=firstArgMember _ _) (wpAny_of_eq (a:=Value.none) (by first | rfl | (simp only [firstArgMember];rfl)) ?_);refine wpAny_newObj_type ?_ (by size_fits);simp only [raiseNew]
 refine wpAny_bind (wpAny_handled ?_);first | rw [show A.in1.handled=none from hh] | rw [hh]
 refine wpAny_bind (wpAny_pure (wpAny_throw ?_));exact hE _ _ (((Heap.SameBut.update ..).extBut.push _).push _) ⟨_,Heap.get?_push_size _ rfl,rfl⟩
end
structure AM (P:Program) (w:World) (K:PySem.W.Frag) where
 Sq:Hp->Addr->List V->Prop
 It:Heap->Addr->Addr->Nat->Prop
 Is:Heap->Addr->Array Value->Prop
 obj:Addr->Obj
 get:∀ {X:Cx}{pins:List (Addr×Obj)}{σ:St}{H:Hp}{s:Shared}{a:Addr}{xs:List V},X.K=K->Ad X pins σ H s->Sq H a xs->∃its:List Value,Ar xs its/\Is s.heap a its.toArray/\xs.length<=sizeLine
 inj:∀ {X:Cx}{pins:List (Addr×Obj)}{σ:St}{H:Hp}{s:Shared}{a:Addr}{xs ys:List V},X.K=K->Ad X pins σ H s->Sq H a xs->Sq H a ys->xs=ys
 draws:∀(A:Around),A.handled=none->∀(it l:Addr),l≠it->∀items:Array Value,Draws P w A it [it,l] items.size (λi v=>items[i]? =some v) (λi h=>It h it l i/\Is h l items)
 ito:∀ {h:Heap}{it l:Addr}{i:Nat},It h it l i->∃o,h.get? it=some o/\∀v,o.data≠ .cell v
 itk:∀ {h h':Heap}{it l:Addr}{i:Nat},It h it l i->(∀o,h.get? it=some o->h'.get? it=some o)->It h' it l i
 isk:∀ {h h':Heap}{l:Addr}{items:Array Value},Is h l items->(∀o,h.get? l=some o->h'.get? l=some o)->Is h' l items
 iso:∀ {h:Heap}{l:Addr}{items:Array Value},Is h l items->∃o,h.get? l=some o
 ok:Prop
 itn:ok->∀(h:Heap) (l:Addr),It (h.push (obj l)) h.objs.size l 0
def Ec (P:Program) (w:World) (K:PySem.W.Frag):AM P w K where
 Sq:=λH a xs=>Al K H a xs
 It:=λh it l i=>h.IsListIter it l i
 Is:=λh l items=>h.IsList l items
 obj:=λl=> { cls:= .type "list_iterator",data:= .fields #[.ref l,.int 0 0]}
 get:=λ{X pins σ H s a xs} hK I q=>by subst hK;obtain⟨its,r,p,z⟩:=I.list q;exact⟨its,r,p.isList,z⟩
 inj:=λ{X pins σ H s a xs ys} hK I q q'=>by subst hK;exact I.list_inj q q'
 draws:=λA hh it l hne items=>Draws.list hh it l hne items
 ito:=λ{h it l i} ⟨o,e,c,d⟩=>⟨o,e,λv z=>by rw [d] at z;cases z⟩
 itk:=λ{h h' it l i} x k=>x.at k
 isk:=λ{h h' l items} x k=>x.at k
 iso:=λ{h l items} ⟨o,e,_⟩=>⟨o,e⟩
 ok:=True
 itn:=λ_ h l=>⟨_,Heap.get?_push_size _ rfl,rfl,rfl⟩
def Bd (P:Program) (w:World) (K:PySem.W.Frag):AM P w K where
  Sq:=λH a xs=>Ae K H a xs
  It:=λh it l i=>h.IsTupleIter it l i
  Is:=λh l items=>h.IsTuple l items
  obj:=λl=> { cls:= .type "tuple_iterator",data:= .fields #[.ref l,.int 0 0]}
  get:=λ{X pins σ H s a xs} hK I q=>by subst hK;obtain⟨its,r,p,z⟩:=I.tuple q;exact⟨its,r,p,z⟩
  inj:=λ{X pins σ H s a xs ys} hK I q q'=>by subst hK;exact I.tuple_inj q q'
  draws:=λA hh it l hne items=>
    { live:=λ_ _ st=>let ⟨o,ho,_⟩:=st.1;⟨o,ho⟩
      frame:=λ_ _ _ st hk=>⟨let ⟨o,e,r⟩:=st.1;⟨o,hk it (by simp) o e,r⟩,let ⟨o,e,r⟩:=st.2;⟨o,hk l (by simp) o e,r⟩⟩
      item:=λi s Q E hi st hQ=>OG st.1 st.2 (x:=items[i]) (by simp [hi]) λh' hit' hs'=>hQ _ h' s.toks (by simp [hi]) ⟨hit',st.2.extBut hs'.extBut hne⟩ hs'
      done:=λs Q E st hE=>OH hh st.1 st.2 (by simp) hE}
  ito:=λ{h it l i} ⟨o,e,c,d⟩=>⟨o,e,λv z=>by rw [d] at z;cases z⟩
  itk:=λ{h h' it l i} ⟨o,e,r⟩ k=>⟨o,k o e,r⟩
  isk:=λ{h h' l items} ⟨o,e,r⟩ k=>⟨o,k o e,r⟩
  iso:=λ{h l items} ⟨o,e,_⟩=>⟨o,e⟩
  ok:=True
  itn:=λ_ h l=>⟨_,Heap.get?_push_size _ rfl,rfl,rfl⟩
end L2
end
section
namespace L2
open PySem PySem.Spec PyProof.Rows
variable {X : Cx} {pins : List (Addr × Obj)} {σ : St} {H : Hp} {s : Shared} {wr : List Addr} {h' : Heap}
open AutoSeq1 (wpAny_loadPart')
theorem Ad.yielded {tk:Nat}{T:Addr}{vs:List V}{us:List Value} (I:Ad X pins σ H s) (hf:∀b∈wr,BD X pins H b)
  (k:∀b o,b ∉ wr->s.heap.get? b=some o->h'.get? b=some o) (hT:s.heap.objs.size<=T) (ht:IsTup h' T us.toArray) (rv:Ar vs us) (hz:vs.length<=sizeLine):
  Ad X pins σ (upd H T (.tup vs)) { s with heap:=h',toks:=tk}:=by
 have hfr:H T=none:=I.hok.fresh hT
 have nT:∀b u,H b=some u->b≠T:=λb u e=>Bh e hfr
 have nW:∀b u,H b=some u->b ∉ wr:=λb u e z=>by have:=(hf b z).1;rw [e] at this;cases this
 refine I.step (g':=s.gens) (d':=s.drawn) (ch:=wr) (λb hb=>let f:=hf b hb;⟨f.2.2.2.1,f.2.1,f.2.2.2.2.1,f.2.2.2.2.2⟩) (λb o _ _ hc e _=>k b o hc e) (λb o _ _ hc e _=>⟨o.slots,k b o hc e⟩)
  (λb o hc e n=>?_) (λb o hc e=>⟨o,k b o hc e⟩) (λb xs e=>by rw [As (nT b _ e)];exact e) (λb o xs e=>by rw [As (nT b _ e)];exact e) (λb ps e=>⟨#[],by rw [As (nT b _ e),e];simp⟩) (λm hm=>?_) (λb u e=>?_) I.bare
 ·rw [As (Nat.ne_of_lt (Nat.lt_of_lt_of_le (Heap.lt_size e) hT))];exact n
 ·obtain⟨o,es,ep,ho,r⟩:=hm
  exact⟨o,es,ep,k _ o (λz=>(hf _ z).2.1 rfl) ho,r⟩
 ·by_cases hb:b=T
  ·subst hb
   rw [Ah] at e;cases e
   exact⟨hz,us,rv,ht⟩
  ·rw [As hb] at e
   refine(I.hok b u e).stay (λc v hc q=>k c v ?_ q) (λc q=>by rw [As (nT c _ q)];exact q) λc xs q=>by rw [As (nT c _ q)];exact q
   rcases hc with z | z
   ·rw [z];exact nW b u e
   ·exact nW c _ z
theorem Ad.ended {tk:Nat} (I:Ad X pins σ H s) (hf:∀b∈wr,BD X pins H b)
  (k:∀b o,b ∉ wr->s.heap.get? b=some o->h'.get? b=some o):Ad X pins σ H { s with heap:=h',toks:=tk}:=by
 have nW:∀b u,H b=some u->b ∉ wr:=λb u e z=>by have:=(hf b z).1;rw [e] at this;cases this
 refine I.step (g':=s.gens) (d':=s.drawn) (ch:=wr) (λb hb=>let f:=hf b hb;⟨f.2.2.2.1,f.2.1,f.2.2.2.2.1,f.2.2.2.2.2⟩) (λb o _ _ hc e _=>k b o hc e) (λb o _ _ hc e _=>⟨o.slots,k b o hc e⟩)
  (λb o hc e n=>n) (λb o hc e=>⟨o,k b o hc e⟩) (λb xs e=>e) (λb o xs e=>e) (λb ps e=>⟨#[],by rw [e];simp⟩) (λm hm=>?_) (λb u e=>?_) I.bare
 ·obtain⟨o,es,ep,ho,r⟩:=hm
  exact⟨o,es,ep,k _ o (λz=>(hf _ z).2.1 rfl) ho,r⟩
 ·refine(I.hok b u e).stay (λc v hc q=>k c v ?_ q) (λc q=>q) λc xs q=>q
  rcases hc with z | z
  ·rw [z];exact nW b u e
  ·exact nW c _ z
def DJ {P:Program}{w:World}{K:PySem.W.Frag} (S:AM P w K) (a:Addr):It:=
 ⟨λi H=>∃xs x,S.Sq H a xs/\xs[i]? =some x,λi H v H'=>∃T,v= .ref T/\H T=none/\∀xs x,S.Sq H a xs->xs[i]? =some x->H'=upd H T (.tup [.int i,x]),λi H=>∃xs,S.Sq H a xs/\xs.length=i⟩
theorem OI {P:Program}{w:World}{K:PySem.W.Frag} (S:AM P w K) {es:List Expr}{k:Nat}{pos:Pos} (a e it:Addr) (hei:e≠it) (hai:a≠it) (hae:a≠e):
  CW P w K (.Tuple es k pos) (DJ S a) [e,it] e (λi h=>(∃old,IsEnum h e it (i:Nat) old)/\S.It h it a i) where
 mem:=by simp
 obj:=λi h st b hb=>by
  obtain⟨⟨old,he⟩,hi⟩:=st
  rcases List.mem_cons.mp hb with z | hb
  ·rw [z];exact⟨_,he,λv z=>by
    have z':Data.fields _=Data.cell v:=z
    cases z'⟩
  ·rw [List.mem_singleton.mp hb];exact S.ito hi
 keep:=λi h h' st kk=>by
  obtain⟨⟨old,he⟩,hi⟩:=st
  exact⟨⟨old,kk e (by simp) _ he⟩,S.itk hi λo q=>kk it (by simp) o q⟩
 item:=by
  intro X hP hw hK hc i pins s σ H E I hf st hg
  subst hP hw
  obtain⟨xs,x,hq,hx⟩:=hg
  obtain⟨its,rv,is,hz⟩:=S.get hK I hq
  obtain⟨u,hu,ru⟩:=rv.get hx
  have W:=WalksT.enumerateD (S.draws X.A.in1 (I.ok.hd hc) it a hai its.toArray) e hei (by simp [hei,Ne.symm hae]) (by simp)
  have hi:i<its.toArray.size:=by have:=(List.getElem?_eq_some_iff.mp hu).1;simpa using this
  refine W.item i s _ _ hi ⟨st.1,st.2,is⟩ λT vals h1 tk hp hT htup hmid hk=>⟨_,rfl,?_⟩
  obtain⟨t,y,hy,hv⟩:=hp
  have ey:y=u:=by
   have q:its.toArray[i]? =some u:=by simpa using hu
   rw [q] at hy;exact(Option.some.inj hy).symm
  subst ey hv
  refine W.go es k pos i T { s with heap:=h1,toks:=tk} _ _ hmid λh2 st2 hk2=>?_
  have kk:∀b o,b ∉ [e,it]->s.heap.get? b=some o->h2.get? b=some o:=λb o hb q=>hk2 b o hb (hk b o hb q)
  have htup2:IsTup h2 T [Value.int i t,y].toArray:=by
   obtain⟨o,q,r⟩:=htup
   exact⟨o,hk2 T o (W.apart i T h1 hmid) q,r⟩
  exact⟨.ref T,upd H T (.tup [.int i,x]),I.yielded (tk:=tk) (λb hb=>hf b hb) kk hT htup2 (.cons ⟨t,rfl⟩ (.cons ru .nil)) (by show 2<=sizeLine;decide),rfl,
   ⟨T, rfl, I.hok.fresh hT, λys z hy hz => by
    rw [S.inj hK I hy hq,hx] at hz;cases hz;rfl⟩,⟨st2.1,st2.2.1⟩,λb hb=>by
    have hbt:b<s.heap.objs.size:=by
     rcases List.mem_cons.mp hb with z | hb
     ·rw [z];obtain⟨old,q⟩:=st.1;exact Heap.lt_size q
     ·rw [List.mem_singleton.mp hb];obtain⟨o,q,_⟩:=S.ito st.2;exact Heap.lt_size q
    rw [As (Nat.ne_of_lt (Nat.lt_of_lt_of_le hbt hT))];exact(hf b hb).1⟩
 done:=by
  intro X hP hw hK hc i pins s σ H E I hf st hg
  subst hP hw
  obtain⟨xs,hq,hx⟩:=hg
  obtain⟨its,rv,is,hz⟩:=S.get hK I hq
  have W:=WalksT.enumerateD (S.draws X.A.in1 (I.ok.hd hc) it a hai its.toArray) e hei (by simp [hei,Ne.symm hae]) (by simp)
  have hn:its.toArray.size=i:=by have:=rv.length;simp;omega
  rw [hn] at W
  exact W.done s _ _ ⟨st.1,st.2,is⟩ λh' tk hk=>⟨rfl,I.ended (tk:=tk) (λb hb=>hf b hb) hk⟩
 self:=λ_ _ _ _ _ st h=>by
  obtain⟨⟨old,he⟩,_⟩:=st
  exact wpAny_pyIter_enum he h
theorem OJ (l:Addr) (items:Array Value):
    Meets (Builtin.«enumerate.__new__» ⟨[.type "enumerate",.ref l],[]⟩) (λ_ R s=>s.heap.IsTuple l items/\R (.ok (.ret (.ref (s.heap.push { cls:= .type "tuple_iterator",data:= .fields #[.ref l,.int 0 0]}).objs.size)))
        { s with heap:=(s.heap.push { cls:= .type "tuple_iterator",data:= .fields #[.ref l,.int 0 0]}).push { cls:= .type "enumerate",data:= .fields #[.none,.bool false,.ref s.heap.objs.size,rawInt 0,.none,.none]}}):=
  .of_wp λprog w A R s h=>by
    obtain⟨hp,g,d,tk,os⟩:=s;obtain⟨hl0,h⟩:=h
    obtain⟨⟨c0,dct,dt,sl⟩,hl,hc0,n,hd0⟩:=id hl0;replace hc0:c0= .type "tuple" :=hc0;replace hd0:dt= .seq items n:=hd0;subst hc0 hd0
    have hsub:=sub_enumerate;have hL:Heap.IsTuple (Shared.heap ⟨hp,g,d,tk,os⟩) l items:=⟨_,hl,rfl,n,rfl⟩
    wp_walk using wpAny_loadPart' hl
    refine wpAny_stack_any λst=>wpAny_pure ?_;split
    . rename_i c _ _ _ _ _;cases(c==Value.type "enumerate")
      . wp_walk using wpAny_loadPart' hl,wpAny_pyIter_tuple hL;exact⟨_,rfl,h⟩
      . wp_walk using wpAny_loadPart' hl,wpAny_pyIter_tuple hL;exact⟨_,rfl,h⟩
    . wp_walk using wpAny_loadPart' hl,wpAny_pyIter_tuple hL;exact⟨_,rfl,h⟩
theorem OK {prog:Program}{w:World}{A:Around}{E:Value->Shared->Prop}{s:Shared}{l:Addr}{items:Array Value}{Q:Value->Shared->Prop} (hL:s.heap.IsTuple l items)
  (h:∀h',IsEnum h' (s.heap.objs.size+1) s.heap.objs.size 0 .none->h'.IsTupleIter s.heap.objs.size l 0->h'.objs.size=s.heap.objs.size+2->(∀b o,s.heap.get? b=some o->h'.get? b=some o)->Q (.ref (s.heap.objs.size+1)) { s with heap:=h'}):
  wpAny (model prog w) A (call (.type "enumerate") [.ref l]) Q E s:=by
 refine callType_new F.called_enumerate (by decide) (F.typeCall_enumerate_1 _) (F.newCall_enumerate_1 _) (λobj=>F.args_object_init_2 obj _) F.entry_enumerate_new (OJ l items) ⟨hL,?_⟩
 have hz:(s.heap.push { cls:= .type "tuple_iterator",data:= .fields #[.ref l,.int 0 0]}).objs.size=s.heap.objs.size+1:=Heap.size_push ..
 show _/\_;rw [hz]
 have he:IsEnum ((s.heap.push { cls:= .type "tuple_iterator",data:= .fields #[.ref l,.int 0 0]}).push { cls:= .type "enumerate",data:= .fields #[.none,.bool false,.ref s.heap.objs.size,rawInt 0,.none,.none]}) (s.heap.objs.size+1) s.heap.objs.size 0 .none:=by
  have:=Heap.get?_push_size (s.heap.push { cls:= .type "tuple_iterator",data:= .fields #[.ref l,.int 0 0]}) (o:= { cls:= .type "enumerate",data:= .fields #[.none,.bool false,.ref s.heap.objs.size,rawInt 0,.none,.none]}) rfl
  rw [hz] at this;exact this
 exact⟨⟨_,he,rfl⟩,h _ he ⟨_,Heap.get?_push_of_some _ (Heap.get?_push_size _ rfl),rfl,rfl⟩ (by rw [Heap.size_push,hz]) λb o x=>Heap.get?_push_of_some _ (Heap.get?_push_of_some _ x)⟩
def Kz {P:Program}{w:World}{K:PySem.W.Frag} (S:AM P w K) (ta:TA):TI:=fun σ H R=>ta σ H λvs H1=>∃a,vs=[.ref a]/\(∃xs,S.Sq H1 a xs)/\R (DJ S a) H1
theorem OL {es:List Expr}{k:Nat}{p pos pos':Pos}{a:Expr}{ta:TA} (hg:Gl X "enumerate") (hm:X.mg "enumerate"=none) (ha:PA X [a] ta) (hs:starEach [a] X.env=[(false,eval a X.env)]:=by rfl):
  PI X (.Tuple es k pos') (.Call (.Name "enumerate" p) [a] [] pos) (Kz (Bd X.prog X.w X.K) ta):=by
 intro pins s σ H R I h
 refine Call_ (CB I hg hm boot_enumerate (PyProof.Rows.callWith_type1 (Aq (ha pos pins s σ H _ I h) λus s1 ⟨vs,H1,I1,r1,q1⟩=>?_) hs rfl))
 obtain⟨l,e,⟨xs,hq⟩,q⟩:=q1
 subst e
 obtain⟨u,rfl,ru⟩:=r1.one
 cases ru
 obtain⟨its,rv,is,hz⟩:=I1.tuple hq
 obtain⟨ol,hol,hol2⟩:=id is
 have hlt:=Heap.lt_size hol
 refine OK (items:=its.toArray) ⟨ol,hol,hol2⟩ λh' hE hI hsz hk=>?_
 have I2:Ad X pins σ H1 { s1 with heap:=h'}:=I1.kept (t':=s1.toks) hk
 refine wpAny_pyIter_enum hE ⟨s1.heap.objs.size+1,[s1.heap.objs.size+1,s1.heap.objs.size],_,_,H1,rfl,I2,OI (Bd X.prog X.w X.K) l (s1.heap.objs.size+1) s1.heap.objs.size (Nat.succ_ne_self _) (Nat.ne_of_lt hlt) (Nat.ne_of_lt (Nat.lt_succ_of_lt hlt)),⟨⟨_,hE⟩,hI⟩,λb hb=>?_,q⟩
 rcases List.mem_cons.mp hb with z | hb
 ·rw [z];exact I1.fpOk (Nat.le_succ _) (I1.hok.fresh (Nat.le_succ _))
 ·rw [List.mem_singleton.mp hb];exact I1.fpOk (Nat.le_refl _) (I1.hok.fresh (Nat.le_refl _))
end L2
end
section
namespace L2
open PySem PySem.Spec PyProof.Rows
variable {a1 a2 : Value} {X : Cx} {p pos' : Pos} {e1 e2 : Expr} {ta : TA}
open AutoSeq1 (wpAny_loadPart')
def Dr {P:Program}{w:World}{K:PySem.W.Frag} (S:AM P w K) (it l:Addr) (xs:Array Value) (k:Nat) (h:Heap):Prop:=S.It h it l k/\S.Is h l xs
theorem Dr.ext {P:Program}{w:World}{K:PySem.W.Frag}{S:AM P w K}{it l b:Addr}{xs:Array Value}{k:Nat}{h h':Heap} (d:Dr S it l xs k h) (e:Heap.ExtBut b h h') (h1:it≠b) (h2:l≠b):Dr S it l xs k h':=
 ⟨S.itk d.1 λo q=>e it o h1 q,S.isk d.2 λo q=>e l o h2 q⟩
abbrev BJ (h:Heap) (z TI TO:Addr) (f0 f1:Value):Prop:=h.get? z=some { cls:= .type "zip",dict:=none,data:= .fields #[f0,f1,.bool false,.ref TI,.ref TO],slots:= #[]}
def Do (h:Heap) (z TI TO:Addr):Prop:=∃f0 f1,BJ h z TI TO f0 f1/\(f0= .none\/ ∃T:Addr,f0=rawInt T)/\(f1= .bool false\/f1= .bool true)
theorem OM {M:Model}{A:Around}{E:Value->Shared->Prop}{s:Shared}{a:Addr}{Q:Option Obj->Shared->Prop} (h:Q (s.heap.get? a) s):wpAny M A (loadIfAlive a) Q E s:=λ_ _ _=>h
theorem Gi {P:Program}{w:World}{A:Around}{E:Value->Shared->Prop}{s:Shared}{z TI TO:Addr}{Q:Bool->Shared->Prop} (hz:Do s.heap z TI TO) (h1:∀f0 f1,BJ s.heap z TI TO f0 f1->Q true s)
  (h2:∀g0,∀T:Addr,∀f1 f2,BJ s.heap z TI TO (rawInt T) f1->BJ g0 z TI TO (rawInt T) f2->(f2= .bool false\/f2= .bool true)->Heap.SameBut z s.heap g0->Q false { s with heap:=g0}):
  wpAny (model P w) A (Builtin.SmallTypes.ownedTupleIsFree (.ref z)) Q E s:=by
 obtain⟨f0,f1,hz,hf0,hf1⟩:=hz
 unfold Builtin.SmallTypes.ownedTupleIsFree
 refine wpAny_bind (wpAny_field hz rfl (x:=f0) rfl ?_)
 rcases hf0 with rfl | ⟨T,rfl⟩
 ·exact wpAny_pure (h1 _ _ hz)
 ·show wpAny _ _ (loadIfAlive T>>=_) _ _ _
  refine wpAny_bind (OM ?_)
  cases hTa:s.heap.get? T with
  | none=>
   simp only [Option.isNone_none,if_true]
   exact wpAny_pure (h1 _ _ hz)
  | some oT=>
   simp only [Option.isNone_some,Bool.false_eq_true,if_false]
   show wpAny _ _ (field (.ref z) 1>>=_) _ _ _
   refine wpAny_bind (wpAny_field hz rfl (x:=f1) rfl ?_)
   rcases hf1 with rfl | rfl
   ·exact wpAny_bind (wpAny_setField_rec hz (by simp) λg0 hz0 hs0=>wpAny_pure (h2 g0 T _ _ hz hz0 (.inr rfl) hs0))
   ·exact wpAny_bind (wpAny_pure (wpAny_pure (h2 s.heap T _ _ hz hz (.inr rfl) ⟨rfl,λ_ _=>rfl⟩)))
structure Ew (z TI TO i1 i2 l1 l2:Addr):Prop where
 TI_z:TI≠z
 TO_z:TO≠z
 TO_TI:TO≠TI
 i1_z:i1≠z
 i1_TI:i1≠TI
 i1_TO:i1≠TO
 i2_z:i2≠z
 i2_TI:i2≠TI
 i2_TO:i2≠TO
 i2_i1:i2≠i1
 l1_z:l1≠z
 l1_TO:l1≠TO
 l1_i1:l1≠i1
 l1_i2:l1≠i2
 l2_z:l2≠z
 l2_TO:l2≠TO
 l2_i1:l2≠i1
 l2_i2:l2≠i2
abbrev Bo (h:Heap) (T:Addr) (a1 a2:Value):Prop:=h.get? T=some { cls:= .type "tuple",data:= .seq #[a1,a2]}
theorem KA {prog:Program}{w:World}{A:Around}{E:Value->Shared->Prop}{s:Shared}{T:Addr}{x:Value}{k:Nat}{Q:Unit->Shared->Prop} (hT:Bo s.heap T a1 a2)
  (h:∀h',h'.get? T=some { cls:= .type "tuple",data:= .seq ((#[a1,a2]:Array Value).setIfInBounds k x)}->Heap.SameBut T s.heap h'->Q () { s with heap:=h'}):
  wpAny (model prog w) A (updateSeq T (·.setIfInBounds k x)) Q E s:=by
 have got:=Heap.get?_update_self (Obj.mapSeq λy=>y.setIfInBounds k x) hT rfl
 exact wpAny_updateSeq hT rfl (h _ (got.trans (by simp [Obj.mapSeq])) (Heap.SameBut.update ..))
section
variable {P : Program} {w : World} {K : PySem.W.Frag} {A : Around} {E : Value -> Shared -> Prop} {s : Shared} (S1 S2 : AM P w K)
theorem ID {z TI TO i1 i2 l1 l2:Addr}{k:Nat}{xs1 xs2:Array Value}{x1 x2 a1 a2:Value}{Q:Value->Shared->Prop} (hh:A.handled=none) (D:Ew z TI TO i1 i2 l1 l2) (hz:Do s.heap z TI TO) (hTI:Bo s.heap TI (.ref i1) (.ref i2)) (hTO:Bo s.heap TO a1 a2) (h1:Dr S1 i1 l1 xs1 k s.heap) (h2:Dr S2 i2 l2 xs2 k s.heap) (hx1:xs1[k]? =some x1) (hx2:xs2[k]? =some x2)
  (hQ : ∀ h' tk, Do h' z TI TO -> (IsZip h' z TI TO (rawInt s.heap.objs.size) \/ IsZip s.heap z TI TO .none -> IsZip h' z TI TO (rawInt s.heap.objs.size)) -> (∃ a1 a2, Bo h' TO a1 a2) -> Dr S1 i1 l1 xs1 (k + 1) h' -> Dr S2 i2 l2 xs2 (k + 1) h' -> Bo h' s.heap.objs.size x1 x2 -> h'.objs.size = s.heap.objs.size + 1 ->
   (∀c o,c≠z->c≠TO->c≠i1->c≠i2->s.heap.get? c=some o->h'.get? c=some o)->Q (.ref s.heap.objs.size) { s with heap:=h',toks:=tk}):
  wpAny (model P w) A (Builtin.«zip.__next__» ⟨[.ref z],[]⟩) (λfin s'=>∃v,fin= .done (.ret v)/\Q v s') E s:=by
 have hl1:k<xs1.size:=(Array.getElem?_eq_some_iff.mp hx1).1
 have hl2:k<xs2.size:=(Array.getElem?_eq_some_iff.mp hx2).1
 have D1:=fun(A:Around) (hh:A.handled=none)=>S1.draws A hh i1 l1 D.l1_i1 xs1
 have D2:=fun(A:Around) (hh:A.handled=none)=>S2.draws A hh i2 l2 D.l2_i2 xs2
 obtain⟨f0',f1',hz',hf0',hf1'⟩:=id hz
 show wpAny _ _ (field (.ref z) 2>>=_) _ _ _;refine wpAny_bind (wpAny_field hz' rfl (x:= .bool false) rfl ?_)
 show wpAny _ _ (field (.ref z) 3>>=_) _ _ _;refine wpAny_bind (wpAny_field hz' rfl (x:= .ref TI) rfl ?_)
 refine wpAny_bind (wpAny_seqItems hTI rfl ?_);show wpAny _ _ (Builtin.SmallTypes.ownedTupleIsFree (.ref z) >>=_) _ _ _
 refine wpAny_bind (Gi hz (λf0 f1 hz=>?_) λg0 T f1 f2 hzs hz0 hf2 hs0=>?_)
 ·simp only [if_true]
  refine wpAny_bind (wpAny_rule ?_);refine wpAny_bind (wpAny_field hz rfl (x:= .ref TO) rfl ?_)
  refine wpAny_bind (wpAny_setField_rec hz (by simp) λg0 hz0 hs0=>?_);replace hz0:BJ g0 z TI TO .ellipsis f1:=hz0
  refine wpAny_bind ?_;simp only [List.zipIdx_cons,List.zipIdx_nil,List.forIn_cons,List.forIn_nil]
  refine wpAny_bind (wpAny_bind (wpAny_onRaise ?_));show wpAny _ _ (Builtin.SmallTypes.nextOf (.ref i1) >>=_) _ _ _
  refine wpAny_bind ((D1 _ hh).item k _ _ _ hl1 (Dr.ext h1 hs0.extBut D.i1_z D.l1_z) λy1 g1 tk1 hy1 hd1 hs1=>wpAny_pure ?_)
  have ex1:y1=x1:=by rw [hx1] at hy1;exact(Option.some.inj hy1).symm
  subst ex1
  have hd1':Dr S1 i1 l1 xs1 (k+1) g1:=hd1
  have hT1:Bo g1 TO a1 a2:=(hs1.extBut _ _ D.i1_TO.symm (hs0.extBut _ _ D.TO_z hTO))
  refine wpAny_bind (wpAny_seqItems hT1 rfl ?_);refine wpAny_bind (KA hT1 λg2 hU1 hs2=>?_)
  replace hU1:Bo g2 TO y1 a2:=hU1
  refine wpAny_bind (wpAny_letGo (wpAny_pure ?_))
  refine wpAny_bind (wpAny_bind (wpAny_onRaise ?_));show wpAny _ _ (Builtin.SmallTypes.nextOf (.ref i2) >>=_) _ _ _
  refine wpAny_bind ((D2 _ hh).item k _ _ _ hl2 (Dr.ext (Dr.ext (Dr.ext h2 hs0.extBut D.i2_z D.l2_z) hs1.extBut D.i2_i1 D.l2_i1) hs2.extBut D.i2_TO D.l2_TO) λy2 g3 tk2 hy2 hd2 hs3=>wpAny_pure ?_)
  have ex2:y2=x2:=by rw [hx2] at hy2;exact(Option.some.inj hy2).symm
  subst ex2
  have hd2':Dr S2 i2 l2 xs2 (k+1) g3:=hd2
  have hT2:Bo g3 TO y1 a2:=(hs3.extBut _ _ D.i2_TO.symm hU1)
  refine wpAny_bind (wpAny_seqItems hT2 rfl ?_);refine wpAny_bind (KA hT2 λg4 hU2 hs4=>?_)
  replace hU2:Bo g4 TO y1 y2:=hU2
  refine wpAny_bind (wpAny_letGo (wpAny_pure (wpAny_pure ?_)))
  refine wpAny_bind (wpAny_seqItems hU2 rfl ?_);refine wpAny_bind (wpAny_newTuple ?_)
  have hsz:g4.objs.size=s.heap.objs.size:=by rw [hs4.1,hs3.1,hs2.1,hs1.1,hs0.1]
  have hz5:BJ g4 z TI TO .ellipsis f1:=(hs4.extBut _ _ D.TO_z.symm (hs3.extBut _ _ D.i2_z.symm (hs2.extBut _ _ D.TO_z.symm (hs1.extBut _ _ D.i1_z.symm hz0))))
  have hk5:∀c o,c≠z->c≠TO->c≠i1->c≠i2->s.heap.get? c=some o->g4.get? c=some o:=λc o cz cTO ci1 ci2 e=>(hs4.extBut _ _ cTO (hs3.extBut _ _ ci2 (hs2.extBut _ _ cTO (hs1.extBut _ _ ci1 (hs0.extBut _ _ cz e)))))
  have he1:Dr S1 i1 l1 xs1 (k+1) g4:=(Dr.ext (Dr.ext (Dr.ext hd1' hs2.extBut D.i1_TO D.l1_TO) hs3.extBut D.i2_i1.symm D.l1_i2) hs4.extBut D.i1_TO D.l1_TO)
  have he2:Dr S2 i2 l2 xs2 (k+1) g4:=(Dr.ext hd2' hs4.extBut D.i2_TO D.l2_TO)
  have hzlt:z<g4.objs.size:=Heap.lt_size hz5
  show wpAny _ _ (Builtin.SmallTypes.ownedTupleHandOut (.ref z) (.ref g4.objs.size) >>=_) _ _ _;refine wpAny_bind ?_;unfold Builtin.SmallTypes.ownedTupleHandOut
  have hz6:BJ (g4.push { cls:= .type "tuple",data:= .seq #[y1,y2]}) z TI TO .ellipsis f1:=Heap.get?_push_of_some _ hz5
  refine wpAny_bind (wpAny_setField_rec hz6 (by simp) λga hza hsa=>?_);replace hza:BJ ga z TI TO (rawInt g4.objs.size) f1:=hza
  refine wpAny_setField_rec hza (by simp) λgb hzb hsb=>?_;replace hzb:BJ gb z TI TO (rawInt g4.objs.size) (.bool false):=hzb
  have up:∀c o,c≠z->g4.get? c=some o->gb.get? c=some o:=λc o c1 e=>hsb.extBut _ _ c1 (hsa.extBut _ _ c1 (Heap.get?_push_of_some _ e))
  have hTb:Bo gb g4.objs.size y1 y2:=hsb.extBut _ _ (Nat.ne_of_gt hzlt) (hsa.extBut _ _ (Nat.ne_of_gt hzlt) (Heap.get?_push_size _ rfl))
  have hsb8:gb.objs.size=g4.objs.size+1:=by rw [hsb.1,hsa.1,Heap.size_push]
  have upE:Heap.ExtBut z g4 gb:=λc o c1 e=>up c o c1 e
  rw [hsz] at hzb hTb hsb8
  refine wpAny_pure ⟨_,rfl,?_⟩;show Q (.ref g4.objs.size) _;rw [hsz]
  exact hQ gb _ ⟨_,_,hzb,.inr ⟨_,rfl⟩,.inl rfl⟩ (λ_=>hzb) ⟨_,_,up _ _ D.TO_z hU2⟩ (he1.ext upE D.i1_z D.l1_z) (he2.ext upE D.i2_z D.l2_z) hTb hsb8 λc o cz cTO ci1 ci2 e=>up c o cz (hk5 c o cz cTO ci1 ci2 e)
 ·simp only [Bool.false_eq_true,if_false]
  refine wpAny_bind ?_;simp only [<-Array.forIn_toList,List.forIn_cons,List.forIn_nil]
  refine wpAny_bind (wpAny_bind (wpAny_holding ?_));show wpAny _ _ (Builtin.SmallTypes.nextOf (.ref i1) >>=_) _ _ _
  refine wpAny_bind ((D1 _ hh).item k _ _ _ hl1 (Dr.ext h1 hs0.extBut D.i1_z D.l1_z) λy1 g1 tk1 hy1 hd1 hs1=>wpAny_pure ?_)
  have ex1:y1=x1:=by rw [hx1] at hy1;exact(Option.some.inj hy1).symm
  subst ex1
  have hd1':Dr S1 i1 l1 xs1 (k+1) g1:=hd1
  refine wpAny_pure ?_
  refine wpAny_bind (wpAny_bind (wpAny_holding ?_));show wpAny _ _ (Builtin.SmallTypes.nextOf (.ref i2) >>=_) _ _ _
  refine wpAny_bind ((D2 _ hh).item k _ _ _ hl2 (Dr.ext (Dr.ext h2 hs0.extBut D.i2_z D.l2_z) hs1.extBut D.i2_i1 D.l2_i1) λy2 g2 tk2 hy2 hd2 hs2=>wpAny_pure ?_)
  have ex2:y2=x2:=by rw [hx2] at hy2;exact(Option.some.inj hy2).symm
  subst ex2
  have hd2':Dr S2 i2 l2 xs2 (k+1) g2:=hd2
  refine wpAny_pure (wpAny_pure ?_)
  show wpAny _ _ (newTuple [y1,y2] >>=_) _ _ _;refine wpAny_bind (wpAny_newTuple ?_)
  have hsz:g2.objs.size=s.heap.objs.size:=by rw [hs2.1,hs1.1,hs0.1]
  have hz5:BJ g2 z TI TO (rawInt T) f2:=(hs2.extBut _ _ D.i2_z.symm (hs1.extBut _ _ D.i1_z.symm hz0))
  have hT5:Bo g2 TO a1 a2:=(hs2.extBut _ _ D.i2_TO.symm (hs1.extBut _ _ D.i1_TO.symm (hs0.extBut _ _ D.TO_z hTO)))
  have he1:Dr S1 i1 l1 xs1 (k+1) g2:=(Dr.ext hd1' hs2.extBut D.i2_i1.symm D.l1_i2)
  have he2:Dr S2 i2 l2 xs2 (k+1) g2:=hd2'
  have hTb:Bo (g2.push { cls:= .type "tuple",data:= .seq #[y1,y2]}) g2.objs.size y1 y2:=Heap.get?_push_size _ rfl
  have hb8:(g2.push { cls:= .type "tuple",data:= .seq #[y1,y2]}).objs.size=g2.objs.size+1:=Heap.size_push ..
  refine wpAny_pure ⟨_,rfl,?_⟩;show Q (.ref g2.objs.size) _
  have res:=hQ (g2.push { cls:= .type "tuple",data:= .seq #[y1,y2]}) tk2 ⟨_,_,Heap.get?_push_of_some _ hz5,.inr ⟨_,rfl⟩,hf2⟩ (λc=>c.elim id λc=>absurd (congrArg (λo:Obj=>o.data) (Option.some.inj (hzs.symm.trans c))) (by simp [rawInt])) ⟨_,_,Heap.get?_push_of_some _ hT5⟩ ⟨S1.itk he1.1 λo q=>Heap.get?_push_of_some _ q,S1.isk he1.2 λo q=>Heap.get?_push_of_some _ q⟩ ⟨S2.itk he2.1 λo q=>Heap.get?_push_of_some _ q,S2.isk he2.2 λo q=>Heap.get?_push_of_some _ q⟩ (by rw [<-hsz];exact hTb) (by rw [hb8,hsz]) λc o cz cTO ci1 ci2 e=>Heap.get?_push_of_some _ (hs2.extBut _ _ ci2 (hs1.extBut _ _ ci1 (hs0.extBut _ _ cz e)))
  rw [hsz];exact res
theorem IE {z TI TO i1 i2 l1 l2:Addr}{k:Nat}{xs1 xs2:Array Value}{Q:Fin->Shared->Prop} (hh:A.handled=none) (D:Ew z TI TO i1 i2 l1 l2) (hz:Do s.heap z TI TO) (hTI:Bo s.heap TI (.ref i1) (.ref i2)) (hTO:Bo s.heap TO a1 a2) (h1:Dr S1 i1 l1 xs1 k s.heap) (h2:Dr S2 i2 l2 xs2 k s.heap) (hend:k=xs1.size)
  (hE:∀h' tk e,(∀c o,c≠z->c≠TO->c≠i1->c≠i2->s.heap.get? c=some o->h'.get? c=some o)->(∃o,h'.get? e=some o/\o.cls= .type "StopIteration")->E (.ref e) { s with heap:=h',toks:=tk}):
  wpAny (model P w) A (Builtin.«zip.__next__» ⟨[.ref z],[]⟩) Q E s:=by
 have D1:=fun(A:Around) (hh:A.handled=none)=>S1.draws A hh i1 l1 D.l1_i1 xs1
 have D2:=fun(A:Around) (hh:A.handled=none)=>S2.draws A hh i2 l2 D.l2_i2 xs2
 obtain⟨f0',f1',hz',hf0',hf1'⟩:=id hz
 show wpAny _ _ (field (.ref z) 2>>=_) _ _ _;refine wpAny_bind (wpAny_field hz' rfl (x:= .bool false) rfl ?_)
 show wpAny _ _ (field (.ref z) 3>>=_) _ _ _;refine wpAny_bind (wpAny_field hz' rfl (x:= .ref TI) rfl ?_)
 refine wpAny_bind (wpAny_seqItems hTI rfl ?_);show wpAny _ _ (Builtin.SmallTypes.ownedTupleIsFree (.ref z) >>=_) _ _ _
 refine wpAny_bind (Gi hz (λf0 f1 hz=>?_) λg0 T f1 f2 hzs hz0 hf2 hs0=>?_)
 ·simp only [if_true]
  refine wpAny_bind (wpAny_rule ?_);refine wpAny_bind (wpAny_field hz rfl (x:= .ref TO) rfl ?_)
  refine wpAny_bind (wpAny_setField_rec hz (by simp) λg0 hz0 hs0=>?_);replace hz0:BJ g0 z TI TO .ellipsis f1:=hz0
  refine wpAny_bind ?_;simp only [List.zipIdx_cons,List.zipIdx_nil,List.forIn_cons,List.forIn_nil]
  refine wpAny_bind (wpAny_bind (wpAny_onRaise ?_));show wpAny _ _ (Builtin.SmallTypes.nextOf (.ref i1) >>=_) _ _ _
  have hcur:=(Dr.ext h1 hs0.extBut D.i1_z D.l1_z)
  subst hend
  refine wpAny_bind ((D1 _ hh).done _ _ _ hcur λge e hse he=>?_)
  obtain⟨oe,hoe,hce⟩:=he
  have hze:BJ ge z TI TO .ellipsis f1:=hse _ _ D.i1_z.symm hz0
  have hez:e≠z:=λx=>by subst x;rw [hze] at hoe;cases hoe;simp at hce
  exact wpAny_setField_rec hze (by simp) λgf _ hsf=>hE gf _ e (λc o cz cTO ci1 ci2 x=>hsf.extBut _ _ cz (hse _ _ ci1 (hs0.extBut _ _ cz x))) ⟨oe,hsf.extBut _ _ hez hoe,hce⟩
 ·simp only [Bool.false_eq_true,if_false]
  refine wpAny_bind ?_;simp only [<-Array.forIn_toList,List.forIn_cons,List.forIn_nil]
  refine wpAny_bind (wpAny_bind (wpAny_holding ?_));show wpAny _ _ (Builtin.SmallTypes.nextOf (.ref i1) >>=_) _ _ _
  have hcur:=(Dr.ext h1 hs0.extBut D.i1_z D.l1_z)
  subst hend
  refine wpAny_bind ((D1 _ hh).done _ _ _ hcur λge e hse he=>?_)
  obtain⟨oe,hoe,hce⟩:=he
  exact hE ge _ e (λc o cz cTO ci1 ci2 x=>hse _ _ ci1 (hs0.extBut _ _ cz x)) ⟨oe,hoe,hce⟩
end
abbrev Gj {P:Program}{w:World}{K:PySem.W.Frag} (S1 S2:AM P w K) (h:Heap) (l1 l2:Addr):Heap:=(h).push (S1.obj l1)
abbrev Gk {P:Program}{w:World}{K:PySem.W.Frag} (S1 S2:AM P w K) (h:Heap) (l1 l2:Addr):Heap:=(Gj S1 S2 h l1 l2).push (S2.obj l2)
abbrev Gm {P:Program}{w:World}{K:PySem.W.Frag} (S1 S2:AM P w K) (h:Heap) (l1 l2:Addr):Heap:=(Gk S1 S2 h l1 l2).push { cls:= .type "tuple",data:= .seq #[.ref h.objs.size,.ref (Gj S1 S2 h l1 l2).objs.size]}
abbrev Gn {P:Program}{w:World}{K:PySem.W.Frag} (S1 S2:AM P w K) (h:Heap) (l1 l2:Addr):Heap:=(Gm S1 S2 h l1 l2).push { cls:= .type "tuple",data:= .seq #[.none,.none]}
abbrev Dp {P:Program}{w:World}{K:PySem.W.Frag} (S1 S2:AM P w K) (h:Heap) (l1 l2:Addr):Heap:=(Gn S1 S2 h l1 l2).push { cls:= .type "zip",data:= .fields #[.none,.bool false,.bool false,.ref (Gk S1 S2 h l1 l2).objs.size,.ref (Gm S1 S2 h l1 l2).objs.size]}
def Ff {P:Program}{w:World}{K:PySem.W.Frag} (S1 S2:AM P w K):Prop:=S1.ok/\S2.ok/\∀(l1 l2:Addr) (xs1 xs2:Array Value),
  Meets (Builtin.«zip.__new__» ⟨[.type "zip",.ref l1,.ref l2],[]⟩) (λ_ R s=>S1.Is s.heap l1 xs1/\S2.Is s.heap l2 xs2/\R (.ok (.ret (.ref (Gn S1 S2 s.heap l1 l2).objs.size))) { s with heap:=Dp S1 S2 s.heap l1 l2})
theorem IF {X:Cx}{p pos:Pos}{e1 e2:Expr}{ta:TA} (S1 S2:AM X.prog X.w X.K) (zn:Ff S1 S2) (hg:Gl X "zip") (hm:X.mg "zip"=none) (ha:PA X [e1,e2] ta) (hs1:starEach [e1,e2] X.env=[(false,eval e1 X.env),(false,eval e2 X.env)]) (hs2:starEach [e2] X.env=[(false,eval e2 X.env)])
  {pins:List (Addr×Obj)}{s:Shared}{σ:St}{H:Hp}{R:Addr->Addr->Hp->Prop} (I:Ad X pins σ H s) (h:ta σ H λvs H1=>∃l1 l2,vs=[.ref l1,.ref l2]/\(∃xs,S1.Sq H1 l1 xs)/\(∃xs,S2.Sq H1 l2 xs)/\R l1 l2 H1):
  wpAny (model X.prog X.w) X.A (eval (.Call (.Name "zip" p) [e1,e2] [] pos) X.env) (λv s1=>∃l1 l2 H1,∃m:Nat,v= .ref (m+4)/\R l1 l2 H1/\Ad X pins σ H1 s1/\IsZip s1.heap (m+4) (m+2) (m+3) .none/\Bo s1.heap (m+2) (.ref m) (.ref (m+1))/\Bo s1.heap (m+3) .none .none/\S1.It s1.heap m l1 0/\S2.It s1.heap (m+1) l2 0/\l1<m/\l2<m/\(∀b,m<=b->BD X pins H1 b)/\s1.heap.objs.size=m+5) X.xe s:=by
 refine Call_ (CB I hg hm boot_zip (PyProof.Rows.callWith_type1 (Aq (ha pos pins s σ H _ I h) λus s1 ⟨vs,H1,I1,r1,q1⟩=>?_) (by rw [hs1,hs2]) (by rw [hs2];rfl)))
 obtain⟨l1,l2,e,⟨xs1,hq1⟩,⟨xs2,hq2⟩,q⟩:=q1
 subst e
 rcases r1 with _ | ⟨ru1,r1⟩
 rcases r1 with _ | ⟨ru2,r1⟩
 cases r1
 cases ru1;cases ru2
 obtain⟨its1,rv1,is1,_⟩:=S1.get rfl I1 hq1
 obtain⟨its2,rv2,is2,_⟩:=S2.get rfl I1 hq2
 obtain⟨o1,ho1⟩:=S1.iso is1
 have hl1:=Heap.lt_size ho1
 obtain⟨o2,ho2⟩:=S2.iso is2
 have hl2:=Heap.lt_size ho2
 refine callType_new F.called_zip (by decide) (F.typeCall_zip_2 _ _) (F.newCall_zip_2 _ _) (λobj=>F.args_object_init_3 obj _ _) F.entry_zip_new (zn.2.2 l1 l2 its1.toArray its2.toArray) ⟨is1,is2,?_⟩
 have z1:(Gj S1 S2 s1.heap l1 l2).objs.size=s1.heap.objs.size+1:=by rw [Heap.size_push]
 have z2:(Gk S1 S2 s1.heap l1 l2).objs.size=s1.heap.objs.size+2:=by rw [Heap.size_push,z1]
 have z3:(Gm S1 S2 s1.heap l1 l2).objs.size=s1.heap.objs.size+3:=by rw [Heap.size_push,z2]
 have z4:(Gn S1 S2 s1.heap l1 l2).objs.size=s1.heap.objs.size+4:=by rw [Heap.size_push,z3]
 have zz:(Dp S1 S2 s1.heap l1 l2).objs.size=s1.heap.objs.size+5:=by rw [Heap.size_push,z4]
 have gz:(Dp S1 S2 s1.heap l1 l2).get? (Gn S1 S2 s1.heap l1 l2).objs.size=some _:=Heap.get?_push_size _ rfl
 have gO:(Dp S1 S2 s1.heap l1 l2).get? (Gm S1 S2 s1.heap l1 l2).objs.size=some _:=Heap.get?_push_of_some _ (Heap.get?_push_size _ rfl)
 have gI:(Dp S1 S2 s1.heap l1 l2).get? (Gk S1 S2 s1.heap l1 l2).objs.size=some _:=Heap.get?_push_of_some _ (Heap.get?_push_of_some _ (Heap.get?_push_size _ rfl))
 have g1:S1.It (Dp S1 S2 s1.heap l1 l2) s1.heap.objs.size l1 0:=S1.itk (S1.itn zn.1 _ _) λo q=>Heap.get?_push_of_some _ (Heap.get?_push_of_some _ (Heap.get?_push_of_some _ (Heap.get?_push_of_some _ (q))))
 have g2:S2.It (Dp S1 S2 s1.heap l1 l2) (Gj S1 S2 s1.heap l1 l2).objs.size l2 0:=S2.itk (S2.itn zn.2.1 _ _) λo q=>Heap.get?_push_of_some _ (Heap.get?_push_of_some _ (Heap.get?_push_of_some _ (q)))
 have kk:∀b o,s1.heap.get? b=some o->(Dp S1 S2 s1.heap l1 l2).get? b=some o:=λb o x=>Heap.get?_push_of_some _ (Heap.get?_push_of_some _ (Heap.get?_push_of_some _ (Heap.get?_push_of_some _ (Heap.get?_push_of_some _ (x)))))
 show _/\_
 rw [z2,z3,z4] at gz;rw [z3] at gO;rw [z1,z2] at gI;rw [z4]
 rw [z1] at g2
 generalize Dp S1 S2 s1.heap l1 l2=hE at g1 g2 gI gO gz kk zz ⊢
 have I2:Ad X pins σ H1 { s1 with heap:=hE}:=I1.kept (t':=s1.toks) kk
 exact⟨⟨_,gz,rfl⟩,l1,l2,H1,s1.heap.objs.size,rfl,q,I2,gz,gI,gO,g1,g2,hl1,hl2,λb hb=>I1.fpOk hb (I1.hok.fresh hb),zz⟩
set_option maxHeartbeats 8000000 in
theorem ON (P:Program) (w:World) (K:PySem.W.Frag):Ff (Bd P w K) (Ec P w K):=⟨trivial,trivial,λl1 l2 xs1 xs2=>
 .of_wp λprog w A R s h=>by
  obtain⟨hp,g,d,tk,os⟩:=s;obtain⟨hl1,hl2,h⟩:=h;have hsub:=sub_zip
  have hL1:Heap.IsTuple (Shared.heap ⟨hp,g,d,tk,os⟩) l1 xs1:=hl1
  have hL2:Heap.IsList (Shared.heap ⟨(hp).push { cls:= .type "tuple_iterator",data:= .fields #[.ref l1,.int 0 0]},g,d,tk,os⟩) l2 xs2:=Heap.IsList.push (hl2) _
  wp_walk using wpAny_pyIter_tuple hL1,wpAny_pyIter_list hL2
  exact⟨_,rfl,h⟩⟩
set_option maxHeartbeats 8000000 in
theorem IG (P:Program) (w:World) (K:PySem.W.Frag):Ff (Bd P w K) (Bd P w K):=⟨trivial,trivial,λl1 l2 xs1 xs2=>
 .of_wp λprog w A R s h=>by
  obtain⟨hp,g,d,tk,os⟩:=s;obtain⟨hl1,hl2,h⟩:=h;have hsub:=sub_zip
  have hL1:Heap.IsTuple (Shared.heap ⟨hp,g,d,tk,os⟩) l1 xs1:=hl1
  have hL2:Heap.IsTuple (Shared.heap ⟨(hp).push { cls:= .type "tuple_iterator",data:= .fields #[.ref l1,.int 0 0]},g,d,tk,os⟩) l2 xs2:=Heap.IsTuple.push (hl2) _
  wp_walk using wpAny_pyIter_tuple hL1,wpAny_pyIter_tuple hL2
  exact⟨_,rfl,h⟩⟩
theorem IH {n l1 l2:Nat} (h1:l1<n) (h2:l2<n):Ew (n+4) (n+2) (n+3) n (n+1) l1 l2:=by constructor<;>intro z<;>(have z':=z;revert z';intro z';try (change (_:Nat)=_ at z');omega)
def DL {P:Program}{w:World}{K:PySem.W.Frag} (S1 S2:AM P w K) (a b:Addr):It:=
 ⟨λi H=>∃xs ys x y,S1.Sq H a xs/\S2.Sq H b ys/\xs[i]? =some x/\ys[i]? =some y,λi H v H'=>∃T,v= .ref T/\H T=none/\∀xs ys x y,S1.Sq H a xs->S2.Sq H b ys->xs[i]? =some x->ys[i]? =some y->H'=upd H T (.tup [x,y]),
  λi H=>∃xs ys,S1.Sq H a xs/\S2.Sq H b ys/\xs.length=i⟩
theorem OO {P:Program}{w:World}{K:PySem.W.Frag} (S1 S2:AM P w K) {es:List Expr}{k:Nat}{pos:Pos} (z TI TO i1 i2 l1 l2:Addr) (D:Ew z TI TO i1 i2 l1 l2):
  CW P w K (.Tuple es k pos) (DL S1 S2 l1 l2) [z,TI,TO,i1,i2] z (λi h=>IsZip h z TI TO .none/\Bo h TI (.ref i1) (.ref i2)/\(∃a b,Bo h TO a b)/\S1.It h i1 l1 i/\S2.It h i2 l2 i) where
 mem:=by simp
 obj:=λi h st b hb=>by
  obtain⟨hz,hTI,⟨a,b',hTO⟩,h1,h2⟩:=st
  simp only [List.mem_cons,List.not_mem_nil,or_false] at hb
  rcases hb with e | e | e | e | e<;>rw [e]
  ·exact⟨_,hz,λv q=>by have q':Data.fields _=Data.cell v:=q;cases q'⟩
  ·exact⟨_,hTI,λv q=>by have q':Data.seq _ _=Data.cell v:=q;cases q'⟩
  ·exact⟨_,hTO,λv q=>by have q':Data.seq _ _=Data.cell v:=q;cases q'⟩
  ·exact S1.ito h1
  ·exact S2.ito h2
 keep:=λi h h' st kk=>by
  obtain⟨hz,hTI,⟨a,b',hTO⟩,h1,h2⟩:=st
  exact⟨kk z (by simp) _ hz,kk TI (by simp) _ hTI,⟨a,b',kk TO (by simp) _ hTO⟩,S1.itk h1 λo q=>kk i1 (by simp) o q,S2.itk h2 λo q=>kk i2 (by simp) o q⟩
 item:=by
  intro X hP hw hK hc i pins s σ H E I hf st hg
  subst hP hw
  obtain⟨xs,ys,x,y,hq1,hq2,hx,hy⟩:=hg
  obtain⟨its1,rv1,is1,hz1⟩:=S1.get hK I hq1
  obtain⟨its2,rv2,is2,hz2⟩:=S2.get hK I hq2
  obtain⟨u1,hu1,ru1⟩:=rv1.get hx
  obtain⟨u2,hu2,ru2⟩:=rv2.get hy
  obtain⟨hz,hTI,⟨a,b',hTO⟩,h1,h2⟩:=st
  have hh:=I.ok.hd hc
  have hT:s.TypeIs (.ref z) "zip" :=⟨_,hz,rfl⟩
  unfold pyNext
  refine wpAny_bind (wpAny_attempt (wpAny_callSpecial?_slot (name:=Str.ofString "__next__") hT F.slot_zip_next (wpAny_call_entry F.slot_zip_next hT F.entry_zip_next
   (ID S1 S2 (x1:=u1) (x2:=u2) hh D ⟨_,_,hz,.inl rfl,.inl rfl⟩ hTI hTO ⟨h1,is1⟩ ⟨h2,is2⟩ (by simpa using hu1) (by simpa using hu2) λh' tk _ az a2 a3 a4 a5 a6 hk=>wpAny_pure ⟨_,rfl,?_⟩) (F.args_zip_next_1 _))))
  obtain⟨b1,b2,a2⟩:=a2
  refine wpAny_letOwnedTupleGo_zip (az (.inr hz)) λh'' z1 sb=>?_
  have kk:∀b o,b ∉ [z,TI,TO,i1,i2]->s.heap.get? b=some o->h''.get? b=some o:=λb o hb q=>sb.extBut b o (λe=>hb (by simp [e])) (hk b o (λe=>hb (by simp [e])) (λe=>hb (by simp [e])) (λe=>hb (by simp [e])) (λe=>hb (by simp [e])) q)
  have zl:z<s.heap.objs.size:=Heap.lt_size hz
  have ht:IsTup h'' s.heap.objs.size [u1,u2].toArray:=⟨_,sb.extBut _ _ (Nat.ne_of_gt zl) a5,rfl,_,rfl⟩
  exact⟨.ref s.heap.objs.size,upd H s.heap.objs.size (.tup [x,y]),I.yielded (tk:=tk) (λb hb=>hf b hb) kk (Nat.le_refl _) ht (.cons ru1 (.cons ru2 .nil)) (by show 2<=sizeLine;decide),rfl,
   ⟨_, rfl, I.hok.fresh (Nat.le_refl _), λxs' ys' x' y' e1 e2 e3 e4 => by
    rw [S1.inj hK I e1 hq1,hx] at e3;rw [S2.inj hK I e2 hq2,hy] at e4;cases e3;cases e4;rfl⟩,
   ⟨z1, sb.extBut _ _ D.TI_z (hk _ _ D.TI_z D.TO_TI.symm D.i1_TI.symm D.i2_TI.symm hTI), ⟨_, _, sb.extBut _ _ D.TO_z a2⟩, S1.itk a3.1 λo q => sb.extBut _ o D.i1_z q, S2.itk a4.1 λo q => sb.extBut _ o D.i2_z q⟩, λb hb => by
    have hbt:b<s.heap.objs.size:=by
     simp only [List.mem_cons,List.not_mem_nil,or_false] at hb
     rcases hb with e | e | e | e | e<;>rw [e]
     ·exact zl
     ·exact Heap.lt_size hTI
     ·exact Heap.lt_size hTO
     ·obtain⟨o,q,_⟩:=S1.ito h1;exact Heap.lt_size q
     ·obtain⟨o,q,_⟩:=S2.ito h2;exact Heap.lt_size q
    rw [As (Nat.ne_of_lt hbt)];exact(hf b hb).1⟩
 done:=by
  intro X hP hw hK hc i pins s σ H E I hf st hg
  subst hP hw
  obtain⟨xs,ys,hq1,hq2,hend⟩:=hg
  obtain⟨its1,rv1,is1,hz1⟩:=S1.get hK I hq1
  obtain⟨its2,rv2,is2,hz2⟩:=S2.get hK I hq2
  obtain⟨hz,hTI,⟨a,b',hTO⟩,h1,h2⟩:=st
  have hh:=I.ok.hd hc
  have hT:s.TypeIs (.ref z) "zip" :=⟨_,hz,rfl⟩
  have e1:=rv1.length
  have e2:=rv2.length
  unfold pyNext
  refine wpAny_bind (wpAny_attempt (wpAny_callSpecial?_slot (name:=Str.ofString "__next__") hT F.slot_zip_next (wpAny_call_entry F.slot_zip_next hT F.entry_zip_next
   (IE S1 S2 hh D ⟨_,_,hz,.inl rfl,.inl rfl⟩ hTI hTO ⟨h1,is1⟩ ⟨h2,is2⟩ (by simp;omega) λh' tk e hk he=>?_) (F.args_zip_next_1 _))))
  obtain⟨o,ho,hco⟩:=he
  refine wpAny_bind (wpAny_isInstance (T:="StopIteration") (b:=true) ⟨o,ho,hco⟩ isSubtype_stop ?_)
  exact wpAny_pure ⟨rfl,I.ended (wr:=[z,TI,TO,i1,i2]) (tk:=tk) (λb hb=>hf b hb) λb o hb q=>hk b o (λe=>hb (by simp [e])) (λe=>hb (by simp [e])) (λe=>hb (by simp [e])) (λe=>hb (by simp [e])) q⟩
 self:=λ_ _ _ _ _ st h=>wpAny_pyIter_zip st.1 h
def Fg {P:Program}{w:World}{K:PySem.W.Frag} (S1 S2:AM P w K) (ta:TA):TI:=fun σ H R=>ta σ H λvs H1=>∃a b,vs=[.ref a,.ref b]/\(∃xs,S1.Sq H1 a xs)/\(∃ys,S2.Sq H1 b ys)/\R (DL S1 S2 a b) H1
theorem KB {es:List Expr}{k:Nat}{pos:Pos} (S1 S2:AM X.prog X.w X.K) (zn:Ff S1 S2) (hg:Gl X "zip") (hm:X.mg "zip"=none) (ha:PA X [e1,e2] ta)
  (hs:starEach [e1,e2] X.env=[(false,eval e1 X.env),(false,eval e2 X.env)]) (hs2:starEach [e2] X.env=[(false,eval e2 X.env)]):PI X (.Tuple es k pos') (.Call (.Name "zip" p) [e1,e2] [] pos) (Fg S1 S2 ta):=by
 intro pins s σ H R I h
 refine Aq (IF S1 S2 zn (R:=λl1 l2 H1=>R (DL S1 S2 l1 l2) H1) hg hm ha hs hs2 I h) λv s1 ⟨l1,l2,H1,m,e,q,I1,gz,gI,gO,g1,g2,h1,h2,fr,_⟩=>?_
 subst e
 exact wpAny_pyIter_zip gz ⟨_,[m+4,m+2,m+3,m,m+1],_,_,H1,rfl,I1,OO S1 S2 _ _ _ _ _ l1 l2 (IH h1 h2),⟨gz,gI,⟨_,_,gO⟩,g1,g2⟩,λb hb=>fr b (by
  simp only [List.mem_cons,List.not_mem_nil,or_false] at hb
  rcases hb with e | e | e | e | e<;>rw [e]<;>first | exact Nat.le_refl _ | exact Nat.le_add_right _ _),q⟩
theorem OP {es:List Expr}{k:Nat}{pos:Pos} (hg:Gl X "zip") (hm:X.mg "zip"=none) (ha:PA X [e1,e2] ta)
  (hs:starEach [e1,e2] X.env=[(false,eval e1 X.env),(false,eval e2 X.env)]:=by rfl) (hs2:starEach [e2] X.env=[(false,eval e2 X.env)]:=by rfl):PI X (.Tuple es k pos') (.Call (.Name "zip" p) [e1,e2] [] pos) (Fg (Bd X.prog X.w X.K) (Ec X.prog X.w X.K) ta):=KB _ _ (ON _ _ _) hg hm ha hs hs2
theorem OQ {es:List Expr}{k:Nat}{pos:Pos} (hg:Gl X "zip") (hm:X.mg "zip"=none) (ha:PA X [e1,e2] ta)
  (hs:starEach [e1,e2] X.env=[(false,eval e1 X.env),(false,eval e2 X.env)]:=by rfl) (hs2:starEach [e2] X.env=[(false,eval e2 X.env)]:=by rfl):PI X (.Tuple es k pos') (.Call (.Name "zip" p) [e1,e2] [] pos) (Fg (Bd X.prog X.w X.K) (Bd X.prog X.w X.K) ta):=KB _ _ (IG _ _ _) hg hm ha hs hs2
end L2
end
section
namespace L2
open PySem PySem.Spec PyProof.Rows
variable {C : Int -> Int -> Prop} {y : V} {H : Hp} {Q : VK} {op op' : CmpOp} {r' : R2}
section
variable {X : Cx} {e a b c : Expr} {es Cq : List Expr} {ta tb tc te : TE} {pos p : Pos} {tA tB' : TT} {t u : TS}
theorem PE.weak {t t':TE} (h:PE X e t) (w:∀σ H Q,t' σ H Q->t σ H Q):PE X e t':=λpins s σ H Q I q=>h pins s σ H Q I (w σ H Q q)
def Dj (i:Nat):TE:=fun σ H Q=>match σ[i]? with | some (some v)=>Q v H | _=>False
theorem cv (i:Nat) {x:Str}{pos:Pos} (hN:X.N[i]? =some x:=by rfl) (hv:EY X.env.scope x:=by first | exact Or.inl rfl | exact Or.inr (Or.inl rfl) | exact Or.inr (Or.inr rfl)) (hd:(x==("__debug__" :Str))=false:=by decide)
  (hcd:(x==("__classdict__" :Str))=false:=by decide):PE X (.Name x pos) (Dj i):=(Ni hN hv hd hcd).weak fun σ H Q q=>by
 unfold Dj at q
 split at q
 ·exact⟨_,by assumption,q⟩
 ·exact q.elim
end
section
variable {X : Cx} {e a b c : Expr} {es Cq : List Expr} {ta tb tc te : TE} {pos p : Pos}
theorem OR {g:Int->Int->V}{x:V} (h:match x,y with | .int i,.int j=>C i j/\Q (g i j) H | _,_=>False):rI C g x y H Q:=by
 split at h
 ·exact⟨_,_,rfl,rfl,h⟩
 ·exact h.elim
theorem OS {g:Int->Int->V}{x:V} (h:match x,y with | .int i,.int j=>Q (g i j) H | _,_=>False):Dh g x y H Q:=by
 split at h
 ·exact⟨_,_,rfl,rfl,h⟩
 ·exact h.elim
def mI (C:Int->Int->Prop) (g:Int->Int->V):R2:=λx y H Q=>match x,y with | .int i,.int j=>C i j/\Q (g i j) H | _,_=>False
def mI0 (g:Int->Int->V):R2:=λx y H Q=>match x,y with | .int i,.int j=>Q (g i j) H | _,_=>False
theorem OpR.mI {f:Value->Value->Sem Value}{g:Int->Int->V} (h:OpR X f (rI C g)):OpR X f (L2.mI C g):=λpins s σ H x y v u Q I rx ry q=>h pins s σ H x y v u Q I rx ry (OR q)
theorem OpR.mI0 {f:Value->Value->Sem Value}{g:Int->Int->V} (h:OpR X f (Dh g)):OpR X f (L2.mI0 g):=λpins s σ H x y v u Q I rx ry q=>h pins s σ H x y v u Q I rx ry (OS q)
theorem AY:OpR X (binaryOp .Add) (mI0 λi j=> .int (i+j)):=op_add.mI0
theorem BE:OpR X (binaryOp .Sub) (mI0 λi j=> .int (i-j)):=op_sub.mI0
theorem Go:OpR X (binaryOp .Mult) (mI CMul λi j=> .int (i * j)):=op_mul.mI
theorem Gp:OpR X (binaryOp .FloorDiv) (mI Ik λi j=> .int (i / j)):=op_fdiv.mI
theorem Ex:OpR X (binaryOp .Mod) (mI (λ_ j=>0<j) λi j=> .int (i % j)):=op_mod.mI
theorem II:OpR X (binaryOp .Pow) (mI J1 λi j=> .int (i ^ j.toNat)):=op_pow.mI
theorem Ed:OpR X (compareOp .Lt) (mI0 λi j=> .bl (decide (i<j))):=op_lt.mI0
theorem DM:OpR X (compareOp .LtE) (mI0 λi j=> .bl (decide (i<=j))):=op_le.mI0
theorem OT:OpR X (compareOp .Gt) (mI0 λi j=> .bl (decide (j<i))):=op_gt.mI0
theorem KC:OpR X (compareOp .GtE) (mI0 λi j=> .bl (decide (j<=i))):=op_ge.mI0
def mB (x:V) (Q:Bool->Prop):Prop:=match x with | .bl c=>Q c | _=>False
end
structure Mono (t:TE):Prop where
 m:∀ {σ H}{Q Q':VK},t σ H Q->(∀v H',Q v H'->Q' v H')->t σ H Q'
section
variable {X : Cx} {e a b c : Expr} {es Cq : List Expr} {te : TE} {pos p : Pos}
def cB (t:TE):TT:=fun σ H Q=>t σ H λx H1=>match x with | .bl c=>Q c H1 | _=>False
theorem BP {t:TE} (h:PE X e t) (he:∀whole,isTrue e X.env whole=(do let v<-whole;standAt e.pos;holding [v] (truthy v)):=by intro _;rfl):PT X e (cB t):=by
 intro pins s σ H Q I hw
 refine isTrue_plain (Aq (h pins s σ H _ I hw) λv s1 ⟨x,H1,I1,r1,q1⟩=>?_) (he _)
 dsimp only at q1
 split at q1
 ·cases r1;exact wpAny_truthy_bool ⟨H1,I1,q1⟩
 ·exact q1.elim
theorem AU {op:CmpOp}{r:R2}{ta tb:TE} (ho:OpR X (compareOp op) r) (ha:PE X a ta) (hb:PE X b tb) (hm:behindInMarks op b=false):PT X (.Compare a [op] [b] pos) (cB (Eo r ta tb)):=by
 intro pins s σ H Q I h
 refine wpAny_isTrue_Compare1 (Aq (ha pins s σ H _ I h) λv s1 ⟨x,H1,I1,r1,q1⟩=>Aq (hb pins s1 σ H1 _ I1 q1) λu s2 ⟨y,H2,I2,r2,q2⟩=>
  Aq (ho pins s2 σ H2 x y v u _ I2 r1 r2 q2) λc s3 ⟨z,H3,I3,r3,q3⟩=>?_) hm
 dsimp only at q3
 split at q3
 ·cases r3;exact wpAny_truthy_bool ⟨H3,I3,q3⟩
 ·exact q3.elim
def KD (r r':R2) (ta tb tc:TE):TE:=fun σ H Q=>ta σ H λx H1=>tb σ H1 λy H2=>r x y H2 λz H3=>match z with | .bl k=>br k (tc σ H3 λw' H4=>r' y w' H4 Q) (Q (.bl false) H3) | _=>False
theorem KF {r:R2}{ta tb tc:TE} (ho:OpR X (compareOp op) r) (ho':OpR X (compareOp op') r') (ha:PE X a ta) (hb:PE X b tb) (hc:PE X c tc)
  (hm:lastMarks [op,op'] [b,c]=false:=by with_unfolding_all rfl):PE X (.Compare a [op,op'] [b,c] pos) (KD r r' ta tb tc):=by
 intro pins s σ H Q I h
 refine Compare_chain (Aq (ha pins s σ H _ I h) λv s1 ⟨x,H1,I1,r1,q1⟩=>chain_link (Aq (hb pins s1 σ H1 _ I1 q1) λu s2 ⟨y,H2,I2,r2,q2⟩=>
  Aq (ho pins s2 σ H2 x y v u _ I2 r1 r2 q2) λd s3 ⟨z,H3,I3,r3,q3⟩=>?_)) hm
 dsimp only at q3
 split at q3
 ·rename_i k
  cases r3
  refine wpAny_truthy_bool ?_
  cases k with
  | false=>exact ite_ff ⟨.bl false,H3,I3,rfl,q3.2 rfl⟩
  | true=>exact ite_tt (chain_last (Aq (hc pins s3 σ H3 _ I3 (q3.1 rfl)) λw' s4 ⟨z',H4,I4,r4,q4⟩=>ho' pins s4 σ H4 y z' u w' Q I4 r2 r4 q4))
 ·exact q3.elim
theorem OU {r:R2}{ta tb tc:TE} (ho:OpR X (compareOp op) r) (ho':OpR X (compareOp op') r') (ha:PE X a ta) (hb:PE X b tb) (hc:PE X c tc)
  (hm:lastMarks [op,op'] [b,c]=false:=by with_unfolding_all rfl):PT X (.Compare a [op,op'] [b,c] pos) (cB (KD r r' ta tb tc)):=by
 intro pins s σ H Q I h
 refine isTrue_chain (Aq (ha pins s σ H _ I h) λv s1 ⟨x,H1,I1,r1,q1⟩=>test_link (Aq (hb pins s1 σ H1 _ I1 q1) λu s2 ⟨y,H2,I2,r2,q2⟩=>
  Aq (ho pins s2 σ H2 x y v u _ I2 r1 r2 q2) λd s3 ⟨z,H3,I3,r3,q3⟩=>?_)) hm
 dsimp only at q3
 split at q3
 ·rename_i k
  cases r3
  refine wpAny_truthy_bool ?_
  cases k with
  | false=>exact ite_ff ⟨H3,I3,q3.2 rfl⟩
  | true=>
   refine ite_tt (test_last (Aq (hc pins s3 σ H3 _ I3 (q3.1 rfl)) λw' s4 ⟨z',H4,I4,r4,q4⟩=>Aq (ho' pins s4 σ H4 y z' u w' _ I4 r2 r4 q4) λd' s5 ⟨z2,H5,I5,r5,q5⟩=>?_))
   dsimp only at q5
   split at q5
   ·cases r5;exact wpAny_truthy_bool ⟨H5,I5,q5⟩
   ·exact q5.elim
 ·exact q3.elim
def OV (t u:TT):TT:=fun σ H Q=>t σ H λc H1=>br c (u σ H1 Q) (Q false H1)
def OW (t u:TT):TT:=fun σ H Q=>t σ H λc H1=>br c (Q true H1) (u σ H1 Q)
theorem Fh {tA tB':TT} (ha:PT X a tA) (hb:PW X (.BoolOp .And (b::Cq) pos) tB'):PW X (.BoolOp .And (a::b::Cq) pos) (OV tA tB'):=by
 intro wh pins s σ H Q I h
 refine isTrue_and (Aq (ha pins s σ H _ I h) λc s1 ⟨H1,I1,q1⟩=>?_)
 cases c with
 | true=>exact hb wh pins s1 σ H1 Q I1 (q1.1 rfl)
 | false=>exact⟨H1,I1,q1.2 rfl⟩
theorem Fi {tA tB':TT} (ha:PT X a tA) (hb:PW X (.BoolOp .Or (b::Cq) pos) tB'):PW X (.BoolOp .Or (a::b::Cq) pos) (OW tA tB'):=by
 intro wh pins s σ H Q I h
 refine isTrue_or (Aq (ha pins s σ H _ I h) λc s1 ⟨H1,I1,q1⟩=>?_)
 cases c with
 | true=>exact⟨H1,I1,q1.1 rfl⟩
 | false=>exact hb wh pins s1 σ H1 Q I1 (q1.2 rfl)
def OX (ta tb:TE):TE:=fun σ H Q=>ta σ H λx H1=>match x with | .bl c=>br c (tb σ H1 Q) (Q (.bl false) H1) | _=>False
def OY (ta:TE):TE:=fun σ H Q=>ta σ H λx H1=>match x with | .bl c=>Q (.bl (!c)) H1 | _=>False
theorem BK {ta tb:TE} (ha:PE X a ta) (hb:PE X (.BoolOp .And (b::Cq) pos) tb):PE X (.BoolOp .And (a::b::Cq) pos) (OX ta tb):=by
 intro pins s σ H Q I h
 refine BoolOp_and (Aq (ha pins s σ H _ I h) λv s1 ⟨x,H1,I1,r1,q1⟩=>?_)
 dsimp only at q1
 split at q1
 ·rename_i c
  cases r1
  refine wpAny_truthy_bool ?_
  cases c with
  | true=>exact hb pins s1 σ H1 Q I1 (q1.1 rfl)
  | false=>exact⟨.bl false,H1,I1,rfl,q1.2 rfl⟩
 ·exact q1.elim
theorem OZ {ta:TE} (ha:PE X a ta):PE X (.UnaryOp .Not a pos) (OY ta):=by
 intro pins s σ H Q I h
 refine UnaryOp_ (Aq (ha pins s σ H _ I h) λv s1 ⟨x,H1,I1,r1,q1⟩=>?_)
 dsimp only at q1
 split at q1
 ·rename_i c
  cases r1
  exact not_of (wpAny_truthy_bool ⟨.bl (!c),H1,I1,rfl,q1⟩)
 ·exact q1.elim
def KG (t:TT) (ta tb:TE):TE:=fun σ H Q=>t σ H λc H1=>br c (ta σ H1 Q) (tb σ H1 Q)
theorem Ey {ta tb:TE}{tA:TT} (hc:PT X c tA) (ha:PE X a ta) (hb:PE X b tb):PE X (.IfExp c a b pos) (KG tA ta tb):=by
 intro pins s σ H Q I h
 refine wpAny_IfExp (Aq (hc pins s σ H _ I h) λd s1 ⟨H1,I1,q1⟩=>?_)
 cases d with
 | true=>exact ha pins s1 σ H1 Q I1 (q1.1 rfl)
 | false=>exact hb pins s1 σ H1 Q I1 (q1.2 rfl)
def O0 (c:TT) (t u:TS):TS:=λD σ H=>c σ H λb H1=>br b (t D σ H1) (u D σ H1)
theorem A9 {sa sb:List Stmt}{tc:TT}{t u:TS} (hc:PT X c tc) (ha:PSs X sa t) (hb:PSs X sb u):PS X (.If c sa sb pos) (O0 tc t u):=by
 intro pins s σ H D I h
 refine wpAny_If (Aq (hc pins s σ H _ I h) λd s1 ⟨H1,I1,q1⟩=>?_)
 cases d with
 | true=>exact ha pins s1 σ H1 D I1 (q1.1 rfl)
 | false=>exact hb pins s1 σ H1 D I1 (q1.2 rfl)
end
section
variable {X : Cx} {es : List Expr} {t : TA} {pos : Pos}
theorem few {n:Nat} (h:Nat.ble n 64=true):n<=sizeLine:=Nat.le_trans (Nat.le_of_ble_eq_true h) (by decide)
def O1 (t:TA):TE:=fun σ H Q=>t σ H λxs H1=>match Nat.ble xs.length 64 with | true=>∀p,H1 p=none->Q (.ref p) (upd H1 p (.tup xs)) | false=>False
def O2 (t:TA):TE:=fun σ H Q=>t σ H λxs H1=>match Nat.ble xs.length 64 with | true=>∀p,H1 p=none->Q (.ref p) (upd H1 p (.lst xs)) | false=>False
theorem BL {x1} (h:PA X es t):PE X (.Tuple es x1 pos) (O1 t):=by
 intro pins s σ H Q I hq
 refine wpAny_Tuple_spliced (Aq (h pos pins s σ H _ I hq) λus s1 ⟨xs,H1,I1,r,q⟩=>?_)
 dsimp only at q
 split at q
 ·rename_i z
  refine⟨by rw [<-r.length];exact few z,?_⟩
  have hf:H1 s1.heap.objs.size=none:=I1.hok.fresh (Nat.le_refl _)
  refine⟨.ref s1.heap.objs.size,upd H1 s1.heap.objs.size (.tup xs),I1.laid (t':=s1.toks) (λb u e=>Heap.get?_push_of_some _ e) (Nat.le_refl _) ?_,rfl,q _ hf⟩
  exact⟨few z,us,r,⟨_,Heap.get?_push_size _ rfl,rfl,_,rfl⟩⟩
 ·exact q.elim
theorem BX (h:PA X es t):PE X (.List es pos) (O2 t):=by
 intro pins s σ H Q I hq
 refine wpAny_List_spliced (Aq (h pos pins s σ H _ I hq) λus s1 ⟨xs,H1,I1,r,q⟩=>?_)
 dsimp only at q
 split at q
 ·rename_i z
  refine⟨by rw [<-r.length];exact few z,?_⟩
  have hf:H1 s1.heap.objs.size=none:=I1.hok.fresh (Nat.le_refl _)
  refine⟨.ref s1.heap.objs.size,upd H1 s1.heap.objs.size (.lst xs),I1.laid (t':=s1.toks) (λb u e=>Heap.get?_push_of_some _ e) (Nat.le_refl _) ?_,rfl,q _ hf⟩
  exact⟨few z,us,0,r,Heap.get?_push_size _ rfl⟩
 ·exact q.elim
end
section
variable {P : Program} {w : World} {K : PySem.W.Frag} {mg : Str -> Option Value} {base : Heap}
structure Fn (P:Program) (w:World) (K:PySem.W.Frag) (mg:Str->Option Value) (base:Heap) (n:Nat) (x:Str) (ps:List Str) (sp:Sp):Prop where
 ex:∃(f:Addr) (fd:FuncData),C0 P w K mg base CX0 n f fd ps sp/\mg x=some (.ref f)/\PySem.W.keepIn K (.ref f)=true/\Binds K fd ps []
structure Df (K:PySem.W.Frag) (mg:Str->Option Value) (x:Str) (st:Stmt) (ps:List Str):Prop where
 ex:∃(f:Addr) (fd:FuncData),Ea K x x st f fd/\mg x=some (.ref f)/\Binds K fd ps []
theorem Df.fn {x:Str}{st:Stmt}{N ps:List Str}{k:Nat}{sp:Sp} (F:Df K mg x st ps) (S:AB N ps (Au st)) (len:∀vs H Q E,sp vs H Q E->vs.length=ps.length)
  (hbody : ∀ (f : Addr) (cdv : Value) (A : Around) (outer : List Env) (s : Shared) (H : Hp) (vs : List V) (Q : VK) (E : XK), Bm k (A.deeper (envOfC x (Au st) s.heap.objs.size f cdv)) -> sp vs H Q E ->
   ∃t,PSs (D9 CX0 P w K mg base N x (Au st) f cdv A outer s H E).nox (BW st) t/\t { nx:=λ_ H'=>Q .non H',rt:=Q} (start N vs) H):Fn P w K mg base (k+1) x ps sp:=by
 obtain⟨f,fd,hF,hm,hb⟩:=F.ex
 exact⟨f,fd,hF.ok S len λcdv A outer s H vs Q E hr h=>hbody f cdv A outer s H vs Q E hr h,hm,hF.kp,hb⟩
def O3 (sp:Sp) (t:TA):TE:=fun σ H Q=>t σ H λvs H1=>sp vs H1 Q E0
theorem Aj {X:Cx}{n:Nat}{x:Str}{ps:List Str}{sp:Sp}{e:Expr}{es:List Expr}{t:TA}{p pos:Pos} (F:Fn X.prog X.w X.K X.mg X.base n x ps sp) (hr:Bm n X.A) (hg:Gl X x) (ha:PA X (e::es) t)
  (hdb:(x==("__debug__" :Str))=false:=by decide) (he:starEach (e::es) X.env=(false,eval e X.env)::starEach es X.env:=by rfl) (hpl:(backTo pos (starEach es X.env)).any (·.1)=false:=by rfl):
  PE X (.Call (.Name x p) (e::es) [] pos) (O3 sp t):=by
 obtain⟨f,fd,F,hm,hk,hb⟩:=F.ex
 refine(NP (dvs:=[]) (E:=E0) F hr hg hm hk hb .nil Ou ha hdb he hpl).weak fun σ H Q q=>?_
 have e:∀vs:List V,vs++[]=vs:=λvs=>List.append_nil vs
 show t σ H λvs H1=>sp (vs++[]) H1 Q E0
 simp only [e]
 exact q
end
end L2
end
section
namespace L2
open PySem PySem.Spec PyProof.Rows
variable {p a : Addr} {H H' : Hp} {xs : List V}
def DK (kvs:List (PyData×PyData)) (ks:List (Ax×V)):Prop:=(kvs=[]/\ks=[])\/(kvs=[(.int 0,.int 1)]/\ks=[(.inl 0,.int 1)])
mutual
def Aa (p:Addr) (H:Hp):PyData->V->Prop
 | .none,v=>v= .non
 | .bool b,v=>v= .bl b
 | .int i,v=>v= .int i
 | .str x,v=>v= .str x
 | .tuple ds,v=>∃a xs,v= .ref a/\H a=some (.tup xs)/\Ac p H ds xs
 | .list ds,v=>∃a xs,v= .ref a/\a≠p/\H a=some (.lst xs)/\Ac p H ds xs
 | .dict kvs,v=>∃a ks,v= .ref a/\a≠p/\DK kvs ks/\H a=some (.dK ks)
def Ac (p:Addr) (H:Hp):List PyData->List V->Prop
 | [],xs=>xs=[]
 | d::ds,xs=>∃x r,xs=x::r/\Aa p H d x/\Ac p H ds r
end
def Ev (p:Addr) (H H':Hp):Prop:=∀b o,H b=some o->(b=p/\∃xs,o= .lst xs)\/H' b=some o
theorem Ev.refl:Ev p H H:=λ_ _ h=> .inr h
theorem Ev.same (h:Ab H H'):Ev p H H':=λb o q=> .inr (h b o q)
theorem Ev.trans {H1 H2:Hp} (h:Ev p H H1) (h':Ev p H1 H2):Ev p H H2:=λb o q=>(h b o q).elim .inl λr=>h' b o r
theorem Ev.tup (h:Ev p H H') (q:H a=some (.tup xs)):H' a=some (.tup xs):=(h a _ q).elim (fun⟨_,ys,e⟩=>nomatch e) id
theorem Ev.lst (h:Ev p H H') (q:H a=some (.lst xs)) (n:a≠p):H' a=some (.lst xs):=(h a _ q).elim (fun⟨e,_⟩=>absurd e n) id
theorem Ev.dk {ks:List (Ax×V)} (h:Ev p H H') (q:H a=some (.dK ks)):H' a=some (.dK ks):=(h a _ q).elim (fun⟨_,ys,e⟩=>nomatch e) id
theorem Ev.new {o:HO} (h:H a=none):Ev p H (upd H a o):=λb u q=> .inr (by rw [As (Bh q h)];exact q)
theorem Ev.pen {o:HO} (h:H p=some (.lst xs)):Ev p H (upd H p o):=λb u q=>by
 by_cases e:b=p
 ·subst e;rw [h] at q;cases q;exact .inl ⟨rfl,xs,rfl⟩
 ·exact .inr (by rw [As e];exact q)
theorem Ab.new {o:HO} (h:H a=none):Ab H (upd H a o):=λb u q=>by rw [As (Bh q h)];exact q
mutual
theorem Aa.ev (h:Ev p H H'):∀(d:PyData) (v:V),Aa p H d v->Aa p H' d v
 | .none,v,q=>q
 | .bool _,v,q=>q
 | .int _,v,q=>q
 | .str _,v,q=>q
 | .tuple ds,v,q=>by
  unfold Aa at q ⊢
  obtain⟨a,xs,e,r,z⟩:=q
  exact⟨a,xs,e,h.tup r,Ac.ev h ds xs z⟩
 | .list ds,v,q=>by
  unfold Aa at q ⊢
  obtain⟨a,xs,e,n,r,z⟩:=q
  exact⟨a,xs,e,n,h.lst r n,Ac.ev h ds xs z⟩
 | .dict kvs,v,q=>by
  unfold Aa at q ⊢
  obtain⟨a,ks,e,n,k,r⟩:=q
  exact⟨a,ks,e,n,k,h.dk r⟩
theorem Ac.ev (h:Ev p H H'):∀(ds:List PyData) (xs:List V),Ac p H ds xs->Ac p H' ds xs
 | [],xs,q=>by unfold Ac at q ⊢;exact q
 | d::ds,xs,q=>by
  unfold Ac at q ⊢
  obtain⟨x,r,e,z,zs⟩:=q
  exact⟨x,r,e,Aa.ev h d x z,Ac.ev h ds r zs⟩
end
theorem Ac.len:∀ {ds:List PyData}{xs:List V},Ac p H ds xs->ds.length=xs.length
 | [],xs,q=>by unfold Ac at q;subst q;rfl
 | d::ds,xs,q=>by
  unfold Ac at q
  obtain⟨x,r,e,z,zs⟩:=q
  subst e
  simp [Ac.len zs]
theorem Ac.get {p:Addr}{H:Hp}:∀ {ds:List PyData}{xs:List V}{i:Nat}{d:PyData},Ac p H ds xs->ds[i]? =some d->∃x,xs[i]? =some x/\Aa p H d x
 | [],xs,i,d,q,e=>by simp at e
 | d::ds,xs,0,d',q,e=>by
  unfold Ac at q
  obtain⟨x,r,rfl,z,zs⟩:=q
  simp at e;subst e
  exact⟨x,rfl,z⟩
 | d::ds,xs,i+1,d',q,e=>by
  unfold Ac at q
  obtain⟨x,r,rfl,z,zs⟩:=q
  obtain⟨y,hy,ry⟩:=Ac.get (i:=i) zs (by simpa using e)
  exact⟨y,by simpa using hy,ry⟩
theorem Ac.got {p:Addr}{H:Hp}:∀ {ds:List PyData}{xs:List V}{i:Nat}{x:V},Ac p H ds xs->xs[i]? =some x->∃d,ds[i]? =some d/\Aa p H d x
 | [],xs,i,x,q,e=>by unfold Ac at q;subst q;simp at e
 | d::ds,xs,0,x',q,e=>by
  unfold Ac at q
  obtain⟨x,r,rfl,z,zs⟩:=q
  simp at e;subst e
  exact⟨d,rfl,z⟩
 | d::ds,xs,i+1,x',q,e=>by
  unfold Ac at q
  obtain⟨x,r,rfl,z,zs⟩:=q
  obtain⟨y,hy,ry⟩:=Ac.got (i:=i) zs (by simpa using e)
  exact⟨y,by simpa using hy,ry⟩
theorem Ac.nil:Ac p H [] []:=by unfold Ac;rfl
theorem Ac.cons {p:Addr}{H:Hp}{d:PyData}{ds:List PyData}{x:V}{xs:List V} (h:Aa p H d x) (r:Ac p H ds xs):Ac p H (d::ds) (x::xs):=by unfold Ac;exact⟨x,xs,rfl,h,r⟩
theorem Ac.append:∀ {ds es:List PyData}{xs ys:List V},Ac p H ds xs->Ac p H es ys->Ac p H (ds++es) (xs++ys)
 | [],_,xs,_,q,r=>by unfold Ac at q;subst q;exact r
 | d::ds,_,xs,_,q,r=>by
  unfold Ac at q
  obtain⟨x,t,rfl,z,zs⟩:=q
  exact .cons z (Ac.append zs r)
theorem Aa.tup {ds:List PyData} (h:H a=some (.tup xs)) (r:Ac p H ds xs):Aa p H (.tuple ds) (.ref a):=by unfold Aa;exact⟨a,xs,rfl,h,r⟩
theorem Aa.lst {ds:List PyData} (n:a≠p) (h:H a=some (.lst xs)) (r:Ac p H ds xs):Aa p H (.list ds) (.ref a):=by unfold Aa;exact⟨a,xs,rfl,n,h,r⟩
theorem Aa.int {i:Int}:Aa p H (.int i) (.int i):=by unfold Aa;rfl
theorem Aa.str {i:Str}:Aa p H (.str i) (.str i):=by unfold Aa;rfl
theorem Aa.non:Aa p H .none .non:=by unfold Aa;rfl
def KH (x:V) (H:Hp) (n:String):Prop:=match x with
 | .non=>n="NoneType" | .bl _=>n="bool" | .int _=>n="int" | .str _=>n="str"
 | .ref a=>(n="tuple" /\∃xs,H a=some (.tup xs))\/(n="list" /\∃xs,H a=some (.lst xs))\/(n="dict" /\∃kvs,H a=some (.dK kvs))
 | _=>False
def O4:PyData->String
 | .none=> "NoneType" | .bool _=> "bool" | .int _=> "int" | .str _=> "str" | .tuple _=> "tuple" | .list _=> "list" | .dict _=> "dict"
def IJ (n T:String):Bool:=n==T || (n=="bool" && T=="int")
theorem Aa.ty {v:V}:∀ {d:PyData},Aa p H d v->KH v H (O4 d)
 | .none,q=>by unfold Aa at q;subst q;rfl
 | .bool _,q=>by unfold Aa at q;subst q;rfl
 | .int _,q=>by unfold Aa at q;subst q;rfl
 | .str _,q=>by unfold Aa at q;subst q;rfl
 | .tuple ds,q=>by unfold Aa at q;obtain⟨a,xs,rfl,h,_⟩:=q;exact .inl ⟨rfl,xs,h⟩
 | .list ds,q=>by unfold Aa at q;obtain⟨a,xs,rfl,_,h,_⟩:=q;exact .inr (.inl ⟨rfl,xs,h⟩)
 | .dict kvs,q=>by unfold Aa at q;obtain⟨a,ks,rfl,_,_,h⟩:=q;exact .inr (.inr ⟨rfl,ks,h⟩)
def KI:List V->Hp->VK->Prop:=λxs H Q=>match xs with
 | [x,.ty T]=>∃n,KH x H n/\(T="int" \/T="bool" \/T="tuple" \/T="list" \/T="str")/\Q (.bl (IJ n T)) H
 | _=>False
section
variable {X : Cx}
theorem boot_int:bootBuiltins "int"=some (.type "int"):=by decide+kernel
theorem boot_bool:bootBuiltins "bool"=some (.type "bool"):=by decide+kernel
theorem BQ:bootBuiltins "tuple"=some (.type "tuple"):=by decide+kernel
theorem IK:bootBuiltins "list"=some (.type "list"):=by decide+kernel
theorem IL:Bz X (.builtin "isinstance") KI:=by
 intro pins s σ H xs us Q I r h
 unfold KI at h
 split at h
 ·rename_i x T
  obtain⟨n,ht,hT,q⟩:=h
  obtain⟨u,v,rfl,ru,rv⟩:=r.two
  cases rv
  have yes:∀s':Shared,Ad X pins σ H s'->IJ n T=true->EP X pins σ Q (.bool true) s':=λs' I' e=>⟨.bl true,H,I',rfl,by rw [e] at q;exact q⟩
  have no:IJ n T=false->EP X pins σ Q (.bool false) { s with toks:=s.toks+1}:=λe=>⟨.bl false,H,I.tok _,rfl,by rw [e] at q;exact q⟩
  cases x with
  | non=>
   have e:n="NoneType" :=ht
   subst e;cases ru
   rcases hT with rfl | rfl | rfl | rfl | rfl
   ·exact IsiPair.NoneType_int (no rfl)
   ·exact IsiPair.NoneType_bool (no rfl)
   ·exact IsiPair.NoneType_tuple (no rfl)
   ·exact IsiPair.NoneType_list (no rfl)
   ·exact IsiPair.NoneType_str (no rfl)
  | bl k=>
   have e:n="bool" :=ht
   subst e;cases ru
   rcases hT with rfl | rfl | rfl | rfl | rfl
   ·exact IsiPair.bool_int (yes _ I rfl)
   ·exact IsiPair.bool_bool (yes _ I rfl)
   ·exact IsiPair.bool_tuple (no rfl)
   ·exact IsiPair.bool_list (no rfl)
   ·exact IsiPair.bool_str (no rfl)
  | int k=>
   have e:n="int" :=ht
   subst e;obtain⟨t,rfl⟩:=ru
   rcases hT with rfl | rfl | rfl | rfl | rfl
   ·exact IsiPair.int_int (yes _ I rfl)
   ·exact IsiPair.int_bool (no rfl)
   ·exact IsiPair.int_tuple (no rfl)
   ·exact IsiPair.int_list (no rfl)
   ·exact IsiPair.int_str (no rfl)
  | str k=>
   have e:n="str" :=ht
   subst e;obtain⟨t,rfl⟩:=ru
   rcases hT with rfl | rfl | rfl | rfl | rfl
   ·exact IsiPair.str_int (no rfl)
   ·exact IsiPair.str_bool (no rfl)
   ·exact IsiPair.str_tuple (no rfl)
   ·exact IsiPair.str_list (no rfl)
   ·exact IsiPair.str_str (yes _ I rfl)
  | ref a=>
   cases ru
   have ht':(n="tuple" /\∃xs,H a=some (.tup xs))\/(n="list" /\∃xs,H a=some (.lst xs))\/(n="dict" /\∃kvs,H a=some (.dK kvs)):=ht
   rcases ht' with⟨e,xs,hx⟩ | ⟨e,xs,hx⟩ | ⟨e,xs,hx⟩
   ·subst e
    obtain⟨_,its,_,o,ho,hc,_⟩:=I.hok a _ hx
    rcases hT with rfl | rfl | rfl | rfl | rfl
    ·exact IsiPair.tuple_int ho hc (no rfl)
    ·exact IsiPair.tuple_bool ho hc (no rfl)
    ·exact IsiPair.tuple_tuple ho hc (yes _ I rfl)
    ·exact IsiPair.tuple_list ho hc (no rfl)
    ·exact IsiPair.tuple_str ho hc (no rfl)
   ·subst e
    obtain⟨_,its,k,_,ho⟩:=I.hok a _ hx
    rcases hT with rfl | rfl | rfl | rfl | rfl
    ·exact IsiPair.list_int ho rfl (no rfl)
    ·exact IsiPair.list_bool ho rfl (no rfl)
    ·exact IsiPair.list_tuple ho rfl (no rfl)
    ·exact IsiPair.list_list ho rfl (yes _ I rfl)
    ·exact IsiPair.list_str ho rfl (no rfl)
   ·subst e
    obtain⟨_,_,vs,_,o,es,ep,ho,hc,_⟩:=I.hok a _ hx
    have hc':o.cls= .type "dict" :=hc.1
    rcases hT with rfl | rfl | rfl | rfl | rfl
    ·exact IsiPair.dict_int ho hc' (no rfl)
    ·exact IsiPair.dict_bool ho hc' (no rfl)
    ·exact IsiPair.dict_tuple ho hc' (no rfl)
    ·exact IsiPair.dict_list ho hc' (no rfl)
    ·exact IsiPair.dict_str ho hc' (no rfl)
  | byt _=>exact(show False from ht).elim
  | flt _=>exact(show False from ht).elim
  | ty _=>exact(show False from ht).elim
 ·exact h.elim
theorem Ez (hc:X.calm=true):Bz X (.builtin "all") (λxs H Q=>∃(p:Addr) (bs:List Bool),xs=[.ref p]/\H p=some (.lst (bs.map V.bl))/\Q (.bl (bs.all id)) H):=by
 intro pins s σ H xs us Q I r h
 obtain⟨p,bs,rfl,hp,q⟩:=h
 obtain⟨u,rfl,ru⟩:=r.one
 cases ru
 obtain⟨its,rv,pl,hz⟩:=I.list (Al.of hp)
 refine call_all_walk (wpAny_pyIter_list pl.isList ?_)
 obtain⟨ol,_,hol,_⟩:=id pl
 have hlt:=Heap.lt_size hol
 refine⟨s.heap.objs.size,_,_,_,_,_,λi=>bs.getD i false,rfl,Walks.list (A:=X.A.in1) (I.ok.hd hc) s.heap.objs.size p (Nat.ne_of_lt hlt) its.toArray,⟨⟨_,Heap.get?_push_size _ rfl,rfl,rfl⟩,?_⟩,λi v s' Q' E' hi hq=>?_,λh' tk hk=>?_⟩
 ·exact pl.isList.at λo e=>Heap.get?_push_of_some _ e
 ·have hi':its[i]? =some v:=by simpa using hi
  have hl:=rv.length
  have hb:i<bs.length:=by have:=(List.getElem?_eq_some_iff.mp hi').1;simp at hl;omega
  obtain⟨u,hu,ru⟩:=rv.get (i:=i) (x:= .bl bs[i]) (by simp [hb])
  rw [hi'] at hu;cases hu;cases ru
  dsimp only at hq;rw [List.getD_eq_getElem?_getD,List.getElem?_eq_getElem hb] at hq
  exact wpAny_truthy_bool hq
 ·have hl:=rv.length
  simp at hl
  have e:(List.range its.toArray.size).all (λi=>bs.getD i false)=bs.all id:=by
   rw [List.size_toArray,<-hl,Bool.eq_iff_iff]
   simp only [List.all_eq_true,List.mem_range,id]
   constructor
   ·intro h x hx
    obtain⟨i,hi,e⟩:=List.mem_iff_getElem.mp hx
    have:=h i hi
    rw [List.getD_eq_getElem?_getD,List.getElem?_eq_getElem hi] at this
    rw [<-e];exact this
   ·intro h i hi
    rw [List.getD_eq_getElem?_getD,List.getElem?_eq_getElem hi]
    exact h _ (List.getElem_mem hi)
  rw [e]
  refine⟨.bl (bs.all id),H,I.kept λb o eb=>hk b o ?_ (Heap.get?_push_of_some _ eb),rfl,q⟩
  intro z
  have z':b=s.heap.objs.size:=by simpa using z
  exact absurd (Heap.lt_size eb) (by rw [z'];exact Nat.lt_irrefl _)
end
end L2
end
section
namespace L2
open PySem PySem.Spec PyProof.Rows
open AutoSeq1 (wpAny_loadPart')
section
variable {X : Cx}
def EA (H:Hp) (xs:List V) (Q:VK):Prop:=∀r H',Ab H H'->H' r=some (.tup xs)->Q (.ref r) H'
theorem Ad.gotNew {pins:List (Addr×Obj)}{σ:St}{H:Hp}{s:Shared}{Q:VK}{xs:List V}{us:List Value}{t':Nat} (I:Ad X pins σ H s) (q:EA H xs Q) (rv:Ar xs us) (hz:xs.length<=sizeLine):
  EP X pins σ Q (.ref s.heap.objs.size) { s with heap:=s.heap.push { cls:= .type "tuple",data:= .seq us.toArray},toks:=t'}:=
 ⟨.ref s.heap.objs.size,_,I.laid (o:= .tup xs) (λb ob e=>Heap.get?_push_of_some _ e) (Nat.le_refl _) ⟨hz,us,rv,IsTup.new _ _⟩,rfl,q _ _ (Ab.new (I.hok.fresh (Nat.le_refl _))) Ah⟩
def O5:R2:=λx y H Q=>∃a b xs ys,x= .ref a/\y= .ref b/\H a=some (.tup xs)/\H b=some (.tup ys)/\xs.length+ys.length<=1000/\EA H (xs++ys) Q
theorem Fj:OpR X (binaryOp .Add) O5:=by
 intro pins s σ H x y v u Q I rx ry h
 obtain⟨a,b,xs,ys,rfl,rfl,ha,hb,hz,q⟩:=h
 cases rx;cases ry
 obtain⟨its,r1,ht,_⟩:=I.tuple (Ae.of ha)
 obtain⟨its2,r2,ht2,_⟩:=I.tuple (Ae.of hb)
 obtain⟨⟨cls,dd,data,sl⟩,ho,hc,n,hd⟩:=id ht;obtain⟨⟨cls2,dd2,data2,sl2⟩,ho2,hc2,n2,hd2⟩:=id ht2;simp only at hc hd hc2 hd2;subst hc hd hc2 hd2
 have hl1:=r1.length;have hl2:=r2.length
 have hs:(1000:Nat)<=sizeLine:=by decide
 by_cases hv:its=[]
 ·have e:xs=[]:=by subst hv;cases r1;rfl
  refine concat_meets ⟨_,ho,rfl⟩ ⟨_,ho2,rfl⟩ noFill_tuple_add seq_tuple_add PySem.F.slot_tuple_add PySem.F.entry_tuple_add (PySem.F.args_tuple_add_2 _ _) (tuple_addW0 a b its.toArray its2.toArray n n2 dd dd2 sl sl2 (by simp [hv])) ⟨ho,ho2,?_⟩
  exact⟨.ref b,H,I,rfl,q b H (Ab.refl _) (by rw [e];exact hb)⟩
 ·by_cases hw:its2=[]
  ·have e:ys=[]:=by subst hw;cases r2;rfl
   refine concat_meets ⟨_,ho,rfl⟩ ⟨_,ho2,rfl⟩ noFill_tuple_add seq_tuple_add PySem.F.slot_tuple_add PySem.F.entry_tuple_add (PySem.F.args_tuple_add_2 _ _) (tuple_addW1 a b its.toArray its2.toArray n n2 dd dd2 sl sl2 (by simpa using hv) (by simp [hw])) ⟨ho,ho2,?_⟩
   exact⟨.ref a,H,I,rfl,q a H (Ab.refl _) (by rw [e,List.append_nil];exact ha)⟩
  ·refine concat_meets ⟨_,ho,rfl⟩ ⟨_,ho2,rfl⟩ noFill_tuple_add seq_tuple_add PySem.F.slot_tuple_add PySem.F.entry_tuple_add (PySem.F.args_tuple_add_2 _ _)
    (tuple_addW2 a b its.toArray its2.toArray n n2 dd dd2 sl sl2 (by simpa using hv) (by simpa using hw) (by rw [List.size_toArray,List.size_toArray];omega)) ⟨ho,ho2,?_⟩
   have e:its.toArray++its2.toArray=(its++its2).toArray:=by simp
   rw [e]
   exact I.gotNew (t':=s.toks) q (r1.append r2) (by rw [List.length_append];omega)
theorem O6 {t sl:Addr}{items:Array Value}{vl vu:Value}{lo hi:Option Int}{Q:Value->Shared->Prop}{prog:Program}{w:World}{A:Around}{E:Value->Shared->Prop}{s:Shared} (ht:IsTup s.heap t items) (hs:s.heap.IsSliceOf sl vl vu .none) (pl:IsPart vl lo) (pu:IsPart vu hi)
  (hw:HT.sIx items.size 0 lo=0/\HT.sIx items.size items.size hi=items.size) (h:Q (.ref t) s):wpAny (model prog w) A (getItem (.ref t) (.ref sl)) Q E s:=by
 obtain⟨os,hos,hcs,hds⟩:=id hs
 have hTs:s.TypeIs (.ref sl) "slice" :=⟨os,hos,hcs⟩
 unfold getItem
 try with_reducible refine wpAny_holding ?_
 first | refine wpAny_bind (wpAny_pure ?_) | skip
 refine wpAny_bind (wpAny_sequenceKey ht.typeIs (by decide) ?_)
 refine wpAny_bind (wpAny_callSpecial?_slot (name:=Str.ofString "__getitem__") ht.typeIs PyProof.Rows.slot_tuple_getitem (wpAny_call_entry PyProof.Rows.slot_tuple_getitem ht.typeIs entry_tuple_getitem ?_ (args_tuple_getitem _ _)))
 show wpAny _ _ (Builtin.Tuple.tupleItemsOf (.ref t) >>=_) _ _ s;refine wpAny_bind (tupleItemsOf_ ht ?_);refine wpAny_bind (wpAny_typeOf hTs ?_);rw [if_pos (by decide)]
 refine wpAny_bind (HT.sliceApplied_gen hs pl pu ?_)
 rw [hw.1,hw.2]
 show wpAny _ _ (if (((0:Nat):Int)==0 &&(1:Int)==1 &&(items.size-0)==items.size)=true then _ else _) _ _ s
 rw [if_pos (by simp)]
 refine wpAny_bind (m:=Builtin.Tuple.tupleIsExact _) ?_
 unfold Builtin.Tuple.tupleIsExact
 refine wpAny_bind (wpAny_typeOf ht.typeIs (wpAny_pure ?_))
 rw [if_pos (by decide)]
 exact wpAny_bind (wpAny_rule (wpAny_pure ⟨_,rfl,wpAny_pure h⟩))
def O7:V->Option Int->Option Int->Hp->VK->Prop:=λx lo hi H Q=>∃a xs,x= .ref a/\H a=some (.tup xs)/\EA H (Bn xs lo hi) Q
theorem s_tup:F8 X O7:=by
 intro pins s σ H x v vl vu lo hi sl Q I rx hs pl pu h
 obtain⟨a,xs,rfl,ha,q⟩:=h
 cases rx
 obtain⟨its,r,ht,hz⟩:=I.tuple (Ae.of ha)
 have hlen:its.toArray.size=xs.length:=by rw [List.size_toArray];exact r.length.symm
 refine⟨"tuple",_,PyProof.Rows.slot_tuple_getitem.lookup,ht.typeIs,?_⟩
 by_cases hw:HT.sIx xs.length 0 lo=0/\HT.sIx xs.length xs.length hi=xs.length
 ·refine O6 ht hs pl pu (by rw [hlen];exact hw) ⟨.ref a,H,I,rfl,q a H (Ab.refl _) ?_⟩
  unfold Bn
  rw [hw.1,hw.2,List.drop_zero,Nat.sub_zero,List.take_length]
  exact ha
 ·refine HT.getItem_tuple_cut ht hs pl pu (by rw [hlen];exact hw) ?_ (by rw [hlen];exact hz)
  rw [hlen]
  have e:its.toArray.toList=its:=rfl
  rw [e]
  exact I.gotNew (t':=s.toks) q ((r.drop _).take _) (Nat.le_trans (F9 xs lo hi) hz)
theorem KJ:fillsNumberSlot (.type "tuple") "mul"=pure false:=
 PySem.fillsNumberSlot_seq (id:="tuple.__mul__") (r:=some (.builtin "tuple.__rmul__")) F.slot_tuple_mul.lookup (by decide+kernel) F.slot_tuple_rmul.lookup (by decide+kernel)
theorem KK:seqRepeat? (.type "tuple")=pure (some (.builtin "tuple.__mul__")):=by
 unfold seqRepeat?;rw [PySem.seqSlot_of (T:="tuple") (name:="__mul__") (id:="tuple.__mul__") F.slot_tuple_mul.lookup (by decide+kernel),PySem.seqSlot_of (T:="tuple") (name:="__rmul__") (id:="tuple.__rmul__") F.slot_tuple_rmul.lookup (by decide+kernel)];rfl
theorem KM (a:Int) (t:Tok) (l:Addr) (items:Array Value) (n:Nat) (dd:Option Addr) (sl:Array (Option Value)):
  Meets (Builtin.«int.__rmul__» ⟨[.int a t,.ref l],[]⟩) (λ_ R s=>s.heap.get? l=some { cls:= .type "tuple",dict:=dd,data:= .seq items n,slots:=sl}/\R (.ok (.ret Value.notImplemented)) s):=
 .of_wp λprog w A R s h=>by obtain⟨hp,g,d,tk,os⟩:=s;obtain⟨hl,h⟩:=h;wp_walk using wpAny_loadPart' hl;exact⟨_,rfl,h⟩
theorem O8 (l:Addr) (items:Array Value) (n:Nat) (dd:Option Addr) (sl:Array (Option Value)) (x:Int) (u:Tok) (hc0:¬(decide (x< -(2 ^ 63)) || decide (x≥2 ^ 63))=true) (hc1:¬(items.isEmpty || x==1)=true) (hc2:¬(decide (x<=0) || items.isEmpty)=true)
  (hc3:¬(items.size:Int) * x>(2 ^ 63-1)/ 8) (hc4:¬Builtin.Tuple.tupleTooMany ((items.size:Int) * x)=true) (hsz:sizeOk (.seq ((List.replicate x.toNat items).foldl (λa b=>a++b) #[]))):
  Meets (Builtin.«tuple.__mul__» ⟨[.ref l,.int x u],[]⟩) (λ_ R s=>s.heap.get? l=some { cls:= .type "tuple",dict:=dd,data:= .seq items n,slots:=sl}/\R (.ok (.ret (Value.ref s.heap.objs.size))) { s with heap:=s.heap.push { cls:=Value.type "tuple",data:=Data.seq ((List.replicate x.toNat items).foldl (λa b=>a++b) #[])}}):=
 .of_wp λprog w A R s h=>by
  obtain⟨hp,g,d,tk,os⟩:=s;obtain⟨hl,h⟩:=h;have f1:=AutoSeq1.idx_int;have f2:=AutoSeq1.sub_tuple_tuple
  wp_walk using wpAny_loadPart' hl
  rw [if_neg hc0]
  refine wpAny_bind (tupleItemsOf_ (items:=items) ⟨_,hl,rfl,n,rfl⟩ ?_)
  dsimp only
  rw [if_neg hc1,if_neg hc2,if_neg hc3,if_neg hc4]
  exact wpAny_bind (m:=Builtin.Tuple.tupleExact _) (wpAny_newObj_type (wpAny_pure ⟨_,rfl,h⟩) hsz)
def O9:R2:=λx y H Q=>∃a k xs,x= .ref a/\y= .int k/\H a=some (.tup xs)/\xs≠ []/\2<=k/\k<=100/\xs.length<=100/\EA H (List.replicate k.toNat xs).flatten Q
theorem Pa:OpR X (binaryOp .Mult) O9:=by
  intro pins s σ H x y v u Q I rx ry h
  obtain⟨a,k,xs,rfl,rfl,ha,hx,h1,h2,h3,q⟩:=h
  cases rx
  obtain⟨t,rfl⟩:=ry
  obtain⟨its,r,ht,hz⟩:=I.tuple (Ae.of ha)
  obtain⟨⟨cls,dd,data,sl⟩,ho,hc,n,hd⟩:=id ht;simp only at hc hd;subst hc hd
  have hl:=r.length
  refine wpAny_binaryOp_repeat_ref (T:="tuple") (U:="int") (by decide) ⟨_,ho,rfl⟩ (λs'=>typeIs_int s' k t) KJ F.fills_int_mul F.slot_int_rmul KK F.slot_int_index.lookup
    (call_meets F.slot_int_rmul (typeIs_int s k t) F.entry_int_rmul (F.args_int_rmul_2 _ _) (KM k t a its.toArray n dd sl) ⟨ho,rfl,⟨_,ho,rfl⟩,?_⟩)
  have hx':¬its.toArray.isEmpty=true:=by
    intro z
    have z':its=[]:=by simpa using z
    subst z';cases r;exact hx rfl
  have fl:(List.replicate k.toNat its.toArray).foldl (λa b=>a++b) #[]=(List.replicate k.toNat its).flatten.toArray:=by
    have:=Kn its k.toNat []
    rw [List.nil_append] at this
    exact this
  have hp1:(its.length:Int) * k<=100 * 100:=Int.mul_le_mul (by omega) (by omega) (by omega) (by omega)
  have hlen:(List.replicate k.toNat its).flatten.length<=10000:=by
    rw [Ko]
    have:k.toNat * its.length<=100 * 100:=Nat.mul_le_mul (by omega) (by omega)
    omega
  have hbig:(10000:Nat)<=sizeLine:=by decide
  refine call_meets F.slot_tuple_mul ⟨_,ho,rfl⟩ F.entry_tuple_mul (F.args_tuple_mul_2 _ _) (O8 a its.toArray n dd sl k t (by simp;omega) (by simp only [hx',Bool.false_or];simp;omega) (by simp only [hx',Bool.or_false];simp;omega) (by rw [List.size_toArray];omega)
    (by unfold Builtin.Tuple.tupleTooMany; rw [List.size_toArray]; simp; have : (sizeLine : Int) = 16777216 := by decide
        omega) (by rw [fl];show(List.replicate k.toNat its).flatten.toArray.size<=sizeLine;rw [List.size_toArray];omega)) ⟨ho,?_⟩
  rw [fl]
  exact I.gotNew (t':=s.toks) q (r.rep k.toNat) (by rw [Ko] at hlen ⊢;rw [hl];omega)
end
end L2
end
section
namespace L2
open PySem PySem.Spec PyProof.Rows
open AutoSeq1 (wpAny_loadPart')
section
variable {X : Cx}
theorem KN {α β:Type}{f g:α->Option β}:∀(l:List α),(∀k∈l,f k=g k)->l.filterMap f=l.filterMap g
 | [],_=>rfl
 | a::l,h=>by
  rw [List.filterMap_cons,List.filterMap_cons,h a List.mem_cons_self,KN l λk hk=>h k (List.mem_cons_of_mem _ hk)]
theorem Pb (xs:List Value):((List.range xs.length).filterMap fun(k:Nat)=>xs.toArray[(((xs.length:Int)-1)+(k:Int) *(-1)).toNat]?).toArray=xs.reverse.toArray:=by
 have e:∀k∈List.range xs.length,(fun(k:Nat)=>xs.toArray[(((xs.length:Int)-1)+(k:Int) *(-1)).toNat]?) k=xs.reverse[k]? :=λk hk=>by
  have hk':=List.mem_range.mp hk
  have:(((xs.length:Int)-1)+(k:Int) *(-1)).toNat=xs.length-1-k:=by omega
  dsimp only
  rw [this,List.getElem?_reverse hk']
  simp
 rw [KN _ e]
 congr 1
 have gen:∀(l:List Value) (n:Nat),n<=l.length->(List.range n).filterMap (λk=>l[k]?)=l.take n:=λl n=>by
  induction n with
  | zero=>intro _;simp
  | succ n ih=>
   intro hn
   rw [List.range_succ,List.filterMap_append,ih (by omega),List.take_add_one]
   rw [List.getElem?_eq_getElem (by omega)]
   simp [List.getElem?_eq_getElem (show n<l.length by omega)]
 have this:∀(l:List Value),(List.range l.length).filterMap (λk=>l[k]?)=l:=λl=>by rw [gen l l.length (Nat.le_refl _),List.take_length]
 have:=this xs.reverse
 rw [List.length_reverse] at this
 exact this
theorem Pc (hu:X.A.units<cLine):OpR X (compareOp .NotEq) (λx y H Q=>∃(a b:Addr) (ns ms:List Int),x= .ref a/\y= .ref b/\H a=some (.lst (ns.map V.int))/\H b=some (.lst (ms.map V.int))/\ns.length=ms.length/\Q (.bl (!decide (ns=ms))) H):=by
 intro pins s σ H x y v u Q I rx ry h
 obtain⟨a,b,ns,ms,rfl,rfl,ha,hb,hn,q⟩:=h
 cases rx;cases ry
 obtain⟨its,r1,p1,_⟩:=I.list (Al.of ha)
 obtain⟨its2,r2,p2,_⟩:=I.list (Al.of hb)
 have l1:=r1.length;have l2:=r2.length
 rw [List.length_map] at l1 l2
 refine SeqAt.RcNeAt.lists (e:=λj=>ns.getD j 0==ms.getD j 0) p1.isList p2.isList (by simp;omega) hu (λj h1 h2=>?_) _ _ _ _ (AX I q ?_)
 ·have j1:j<ns.length:=by simp at h1;omega
  have j2:j<ms.length:=by omega
  obtain⟨u1,e1,q1⟩:=r1.get (i:=j) (x:= .int ns[j]) (by simp [j1])
  obtain⟨u2,e2,q2⟩:=r2.get (i:=j) (x:= .int ms[j]) (by simp [j2])
  obtain⟨t1,rfl⟩:=q1;obtain⟨t2,rfl⟩:=q2
  have g1:its.toArray[j]=Value.int ns[j] t1:=by have:=(List.getElem?_eq_some_iff.mp e1).2;simpa using this
  have g2:its2.toArray[j]=Value.int ms[j] t2:=by have:=(List.getElem?_eq_some_iff.mp e2).2;simpa using this
  rw [g1,g2,List.getD_eq_getElem?_getD,List.getD_eq_getElem?_getD,List.getElem?_eq_getElem j1,List.getElem?_eq_getElem j2]
  exact λprog w E Q hq=>wpAny_eqBool_int hq
 ·have e:(List.range its.toArray.size).all (λj=>ns.getD j 0==ms.getD j 0)=decide (ns=ms):=by
   rw [List.size_toArray,<-l1,Bool.eq_iff_iff]
   simp only [List.all_eq_true,List.mem_range,beq_iff_eq,decide_eq_true_eq]
   constructor
   ·intro h
    apply List.ext_getElem hn
    intro i h1 h2
    have:=h i h1
    rw [List.getD_eq_getElem?_getD,List.getD_eq_getElem?_getD,List.getElem?_eq_getElem h1,List.getElem?_eq_getElem h2] at this
    exact this
   ·intro h i _;rw [h]
  rw [e]
def KO:List (PyData×PyData)->Nat | []=>2 | [(.int i,.int j)]=>if i=0/\j=1 then 6 else 10 ^ 9 | _=>10 ^ 9
mutual
def Ct:PyData->Nat
 | .none=>4 | .bool _=>5 | .int i=>if i.natAbs<10 ^ 31 then 40 else 10 ^ 9 | .str x=>(reprText x).length
 | .tuple ds=>Dq ds+4 | .list ds=>Dq ds+4 | .dict kvs=>KO kvs
def Dq:List PyData->Nat
 | []=>0
 | d::ds=>Ct d+2+Dq ds
end
end
end L2
end
section
namespace L2
open PySem PySem.Spec PyProof.Rows
variable {i : Int} {p : Addr}
theorem KP:∀(ts:List Str) (k:Nat) (acc:Str),(textFrom k acc ts).length<=acc.length+piled ts
 | [],k,acc=>by show acc.length<=_;omega
 | t::ts,k,acc=>by
  have ih:=KP ts
  unfold textFrom
  rw [PySem.piled_cons]
  refine Nat.le_trans (ih _ _) ?_
  have e:(acc++(if k>0 then", " else"" :String)++t).length=acc.length+(if k>0 then 2 else 0)+t.length:=by
   rw [strLen_append,strLen_append]
   split<;>rfl
  rw [e]
  split<;>omega
theorem Pd (ts:List Str):(listText ts).length<=piled ts+2:=by
 unfold listText
 rw [strLen_append]
 have:=KP ts 0 "["
 have e1:(Str.ofString "[").length=1:=rfl
 have e2:(Str.ofString "]").length=1:=rfl
 omega
theorem Pe (ts:List Str):(tupleText ts).length<=piled ts+4:=by
 unfold tupleText
 rw [strLen_append,strLen_append]
 have e1:(Str.ofString "(").length=1:=rfl
 have e2:(Str.ofString (if (ts.length==1)=true then",)" else")")).length<=2:=by
  split
  ·exact Nat.le_refl 2
  ·exact Nat.le_succ 1
 have e3:(Str.join (Str.ofString ", ") ts).length<=piled ts:=by
  cases ts with
  | nil=>exact Nat.zero_le _
  | cons a r=>have:=join_length_add (a::r) (by simp);omega
 omega
theorem Pf (h:i.natAbs<10 ^ 31):(Str.ofString (toString i)).length<=40:=by
 have h1:=int_text_length_le10 (a:=i) (k:=31) (by decide) h
 have h2:(Str.ofString (toString i)).length=(toString i).length:=by rw [PySem.ofString_length]
 omega
theorem Pg (h:i.natAbs<10 ^ 31):i.natAbs.log2<1920:=by
 by_cases z:i.natAbs=0
 ·rw [z];decide
 ·exact Nat.lt_trans ((Nat.log2_lt z).mpr (Nat.lt_trans h (show 10 ^ 31<2 ^ 120 by decide))) (by decide)
mutual
theorem KQ:∀d:PyData,Ct d<10 ^ 9->d.showable=true/\d.shown.length<=Ct d
 | .none,_=>⟨rfl,by show 4<=4;decide⟩
 | .bool b,_=>⟨rfl,by cases b<;>(unfold PyData.shown Ct;decide)⟩
 | .int i,h=>by
  unfold Ct at h ⊢
  by_cases c:i.natAbs<10 ^ 31
  ·rw [if_pos c]
   refine⟨?_,?_⟩
   ·unfold PyData.showable;exact decide_eq_true (Pg c)
   ·unfold PyData.shown;exact Pf c
  ·rw [if_neg c] at h;exact absurd h (Nat.lt_irrefl _)
 | .str x,h=>⟨rfl,by unfold PyData.shown Ct;exact Nat.le_refl _⟩
 | .tuple ds,h=>by
  unfold Ct at h ⊢
  obtain⟨a,b⟩:=IM ds (by omega)
  refine⟨by unfold PyData.showable;exact a,?_⟩
  unfold PyData.shown
  exact Nat.le_trans (Pe _) (by omega)
 | .list ds,h=>by
  unfold Ct at h ⊢
  obtain⟨a,b⟩:=IM ds (by omega)
  refine⟨by unfold PyData.showable;exact a,?_⟩
  unfold PyData.shown
  exact Nat.le_trans (Pd _) (by omega)
 | .dict kvs,h=>by
  unfold Ct at h
  unfold KO at h
  split at h
  ·exact⟨rfl,by decide+kernel⟩
  ·split at h
   ·rename_i i j c
    obtain⟨rfl,rfl⟩:=c
    exact⟨by decide+kernel,by decide+kernel⟩
   ·exact absurd h (Nat.lt_irrefl _)
  ·exact absurd h (Nat.lt_irrefl _)
theorem IM:∀ds:List PyData,Dq ds<10 ^ 9->PyData.showableAll ds=true/\piled (PyData.shownAll ds)<=Dq ds
 | [],_=>⟨rfl,by decide⟩
 | d::ds,h=>by
  unfold Dq at h ⊢
  obtain⟨a,b⟩:=KQ d (by omega)
  obtain⟨a',b'⟩:=IM ds (by omega)
  refine⟨by unfold PyData.showableAll;rw [a,a'];rfl,?_⟩
  unfold PyData.shownAll
  rw [PySem.piled_cons]
  omega
end
section
variable {X : Cx} {pins : List (Addr × Obj)} {σ : St} {H : Hp} {s : Shared}
mutual
theorem Aa.reads (I:Ad X pins σ H s):∀(d:PyData) (v:V) (u:Value),d.hasDict=false->Aa p H d v->Ay v u->∃as,Reads s.heap u d as
 | .none,v,u,_,r,q=>by unfold Aa at r;subst r;cases q;exact⟨_,.none⟩
 | .bool b,v,u,_,r,q=>by unfold Aa at r;subst r;cases q;exact⟨_,.bool b⟩
 | .int i,v,u,_,r,q=>by unfold Aa at r;subst r;obtain⟨t,rfl⟩:=q;exact⟨_,.int i t⟩
 | .str x,v,u,_,r,q=>by unfold Aa at r;subst r;obtain⟨t,rfl⟩:=q;exact⟨_,.str x t⟩
 | .tuple ds,v,u,hd,r,q=>by
  unfold Aa at r
  obtain⟨a,xs,rfl,ha,rs⟩:=r
  cases q
  obtain⟨its,rv,⟨o,ho,hc,n,hdt⟩,_⟩:=I.tuple (Ae.of ha)
  obtain⟨as,ra⟩:=Ac.reads I ds xs its (by unfold PyData.hasDict at hd;exact hd) rs rv
  exact⟨as,.tuple ho hc hdt ra⟩
 | .list ds,v,u,hd,r,q=>by
  unfold Aa at r
  obtain⟨a,xs,rfl,_,ha,rs⟩:=r
  cases q
  obtain⟨its,rv,⟨o,n,ho,hc,_,hdt⟩,_⟩:=I.list (Al.of ha)
  obtain⟨as,ra⟩:=Ac.reads I ds xs its (by unfold PyData.hasDict at hd;exact hd) rs rv
  exact⟨a::as,.list ho hc hdt ra⟩
 | .dict kvs,v,u,hd,_,_=>by unfold PyData.hasDict at hd;cases hd
theorem Ac.reads (I:Ad X pins σ H s):∀(ds:List PyData) (xs:List V) (us:List Value),PyData.hasDictAll ds=false->Ac p H ds xs->Ar xs us->∃as,ReadsAll s.heap us ds as
 | [],xs,us,_,r,q=>by unfold Ac at r;subst r;cases q;exact⟨_,.nil⟩
 | d::ds,xs,us,hd,r,q=>by
  unfold Ac at r
  obtain⟨x,t,rfl,rx,rt⟩:=r
  unfold PyData.hasDictAll at hd
  obtain⟨h1,h2⟩:=Bool.or_eq_false_iff.mp hd
  cases q with
  | cons q1 q2=>
   obtain⟨as,ra⟩:=Aa.reads I d x _ h1 rx q1
   obtain⟨bs,rb⟩:=Ac.reads I ds t _ h2 rt q2
   exact⟨as++bs,.cons ra rb⟩
end
mutual
def Fk:PyData->Bool
 | .list _=>false | .tuple ds=>Gq ds | .none=>true | .bool _=>true | .int _=>true | .str _=>true | .dict _=>true
def Gq:List PyData->Bool
 | []=>true
 | d::ds=>Fk d && Gq ds
end
mutual
theorem Aa.readsD (I:Ad X pins σ H s):∀(d:PyData) (v:V) (u:Value),Fk d=true->Aa p H d v->Ay v u->∃as,Reads s.heap u d as/\¬sysModules∈as
 | .none,v,u,_,r,q=>by unfold Aa at r;subst r;cases q;exact⟨_,.none,List.not_mem_nil⟩
 | .bool b,v,u,_,r,q=>by unfold Aa at r;subst r;cases q;exact⟨_,.bool b,List.not_mem_nil⟩
 | .int i,v,u,_,r,q=>by unfold Aa at r;subst r;obtain⟨t,rfl⟩:=q;exact⟨_,.int i t,List.not_mem_nil⟩
 | .str x,v,u,_,r,q=>by unfold Aa at r;subst r;obtain⟨t,rfl⟩:=q;exact⟨_,.str x t,List.not_mem_nil⟩
 | .tuple ds,v,u,hd,r,q=>by
  unfold Aa at r
  obtain⟨a,xs,rfl,ha,rs⟩:=r
  cases q
  obtain⟨its,rv,⟨o,ho,hc,n,hdt⟩,_⟩:=I.tuple (Ae.of ha)
  obtain⟨as,ra,hn⟩:=Ac.readsD I ds xs its (by unfold Fk at hd;exact hd) rs rv
  exact⟨as,.tuple ho hc hdt ra,hn⟩
 | .list ds,v,u,hd,r,q=>by unfold Fk at hd;cases hd
 | .dict kvs,v,u,hd,r,q=>by
  unfold Aa at r
  obtain⟨a,ks,rfl,_,dk,hb⟩:=r
  cases q
  obtain⟨_,hne,vs,kv,o,es,ep,ho,hx,hdt,hl0,hl,hll⟩:=I.hok a _ hb
  have hsm:sysModules≠a:=λe=>by rw [<-e] at hne;simp at hne
  rcases dk with⟨rfl,rfl⟩ | ⟨rfl,rfl⟩
  ·cases kv
   have hes:es.toList=[]:=by
    generalize es.toList=l at hl
    cases hl;rfl
   exact⟨a::[]++[],.dict ho hx.1 hdt (by rw [hes];exact .nil) (by rw [hes];exact .nil),by simpa using hsm⟩
  ·cases kv with
   | cons h1 t1=>
    cases t1
    obtain⟨e1,e2⟩:=h1
    generalize hes:es.toList=l at hl
    cases hl with
    | cons k1 k2 k3=>
     cases k3
     rename_i kv' e
     have k1':DB (.inl 0) e.key=true:=by
      have e1':(Sum.inl 0:Ax)=kv'.1:=e1
      rw [e1'];exact k1
     obtain⟨t,ht⟩:∃t,e.key=Value.int 0 t:=by
      rcases CT k1' with⟨i,t,h,h'⟩ | ⟨x,t,h,_⟩
      ·cases h;exact⟨t,h'⟩
      ·cases h
     obtain⟨t1,ht1⟩:∃t,kv'.2=Value.int 1 t:=e2
     refine⟨a::([]++[])++([]++[]),.dict (kvs:=[(.int 0,.int 1)]) ho hx.1 hdt ?_ ?_,by simpa using hsm⟩
     ·rw [hes]
      show ReadsAll _ [e.key] [.int 0] _
      rw [ht]
      exact .cons (.int 0 t) .nil
     ·rw [hes]
      show ReadsAll _ [e.val] [.int 1] _
      rw [k2,ht1]
      exact .cons (.int 1 t1) .nil
theorem Ac.readsD (I:Ad X pins σ H s):∀(ds:List PyData) (xs:List V) (us:List Value),Gq ds=true->Ac p H ds xs->Ar xs us->∃as,ReadsAll s.heap us ds as/\¬sysModules∈as
 | [],xs,us,_,r,q=>by unfold Ac at r;subst r;cases q;exact⟨_,.nil,List.not_mem_nil⟩
 | d::ds,xs,us,hd,r,q=>by
  unfold Ac at r
  obtain⟨x,t,rfl,rx,rt⟩:=r
  unfold Gq at hd
  obtain⟨h1,h2⟩:=(Bool.and_eq_true _ _).mp hd
  cases q with
  | cons q1 q2=>
   obtain⟨as,ra,ha⟩:=Aa.readsD I d x _ h1 rx q1
   obtain⟨bs,rb,hb⟩:=Ac.readsD I ds t _ h2 rt q2
   exact⟨as++bs,.cons ra rb,λz=>(List.mem_append.mp z).elim ha hb⟩
end
structure IN (d:PyData):Prop where
 w:Ct d<=1000000
 dp:d.depth<=20
 nd:d.hasDict=false\/Fk d=true
def KR:List V->Hp->VK->Prop:=λxs H Q=>match xs with | [v]=>∃p d,Aa p H d v/\IN d/\Q (.str d.shown) H | _=>False
theorem KS {k:Nat} (hr:Bm k X.A):Bz X (.builtin "repr") KR:=by
 intro pins s σ H xs us Q I r h
 unfold KR at h
 split at h
 ·rename_i v
  obtain⟨p,d,rd,nd,q⟩:=h
  obtain⟨u,rfl,ru⟩:=r.one
  obtain⟨sh,sl⟩:=KQ d (Nat.lt_of_le_of_lt nd.w (by decide))
  have big:(1000000:Nat)<=sizeLine:=by decide
  have hsz:d.shown.length<=sizeLine:=Nat.le_trans sl (Nat.le_trans nd.w big)
  have un:=hr.un
  have fin:∀h' tk t,(∀b o,s.heap.get? b=some o->h'.get? b=some o)->EP X pins σ Q (.str d.shown t) { s with heap:=h',toks:=tk}:=λh' tk t hk=>⟨.str d.shown,H,I.kept hk,⟨t,rfl⟩,q⟩
  have isref:∀a,u= .ref a->wpAny (model X.prog X.w) X.A (call (.builtin "repr") [u]) (EP X pins σ Q) X.xe s:=λa e=>by
   subst e
   have dpt:X.A.units+(d.depth+1)<cLine:=by have:=nd.dp;omega
   rcases nd.nd with hd | hd
   ·obtain⟨as,ra⟩:=Aa.reads I d v _ hd rd ru
    exact repr_of_reads' ra sh (PyData.noDict_hsm hd) hr.gd dpt (λ_ _ e=>e) (λh' t tk hk=>fin h' tk t hk) hsz
   ·obtain⟨as,ra,hm⟩:=Aa.readsD I d v _ hd rd ru
    exact repr_of_reads' ra sh (λ_=>hm) hr.gd dpt (λ_ _ e=>e) (λh' t tk hk=>fin h' tk t hk) hsz
  cases d with
  | none=>unfold Aa at rd;subst rd;cases ru;exact PySem.P.repr_of_none (fin s.heap _ _ λ_ _ e=>e)
  | bool b=>unfold Aa at rd;subst rd;cases ru;exact PySem.P.repr_of_bool (by have:=fin s.heap (s.toks+1) s.toks λ_ _ e=>e;unfold PyData.shown at this;exact this)
  | int i=>
   unfold Aa at rd;subst rd;obtain⟨t,rfl⟩:=ru
   refine PySem.P.repr_of_int ?_ (by have:=fin s.heap (s.toks+1) s.toks λ_ _ e=>e;unfold PyData.shown at this;exact this)
   unfold PyData.showable at sh;exact of_decide_eq_true sh
  | str x=>
   unfold Aa at rd;subst rd;obtain⟨t,rfl⟩:=ru
   exact PySem.P.repr_of_str (by have:=fin s.heap (s.toks+1) s.toks λ_ _ e=>e;unfold PyData.shown at this;exact this) (by unfold PyData.shown at hsz;exact hsz)
  | tuple ds=>have rd':=rd;unfold Aa at rd';obtain⟨a,xs,rfl,_⟩:=rd';exact isref a ru
  | list ds=>have rd':=rd;unfold Aa at rd';obtain⟨a,xs,rfl,_⟩:=rd';exact isref a ru
  | dict kvs=>have rd':=rd;unfold Aa at rd';obtain⟨a,ks,rfl,_⟩:=rd';exact isref a ru
 ·exact h.elim
end
end L2
end
section
namespace L2
open PySem PySem.Spec PyProof.Rows
section
variable {X : Cx} {P : Program} {w : World}
theorem Bp (K:PySem.W.Frag) (h:X.K=K:=by rfl):E6 X (Ki K):=h ▸ N4
theorem AW (K:PySem.W.Frag) (h:X.K=K:=by rfl):E6 X (Kj K):=h ▸ N5
theorem Ph (K:PySem.W.Frag) (h:X.K=K:=by rfl):F8 X (Kk K):=h ▸ Oa
theorem EB (K:PySem.W.Frag) (h:X.K=K:=by rfl):OpR X (compareOp .In) (Gb K false):=h ▸ Oc
theorem Pi (K:PySem.W.Frag) (h:X.K=K:=by rfl):OpR X (compareOp .NotIn) (Gb K true):=h ▸ Od
def Pj (K:PySem.W.Frag):List V->Hp->VK->Prop:=λxs H Q=>∃p ys,xs=[.ref p]/\(Al K H p ys\/Ae K H p ys)/\Q (.int (ys:List V).length) H
theorem Bx (K:PySem.W.Frag) (h:X.K=K:=by rfl):Bz X (.builtin "len") (Pj K):=h ▸ Oe
def Pk (K:PySem.W.Frag):List V->Hp->VK->Prop:=λxs H Q=>∃p ys,xs=[.ref p]/\(Al K H p ys\/Ae K H p ys)/\∀l,H l=none->Q (.ref l) (upd H l (.lst ys))
theorem Pl (K:PySem.W.Frag) (h:X.K=K:=by rfl):Bz X (.type "list") (Pk K):=h ▸ Of
def Pm (K:PySem.W.Frag):List V->Hp->VK->Prop:=λxs H Q=>∃p ys,xs=[.ref p]/\((Al K H p ys/\∀l,H l=none->Q (.ref l) (upd H l (.tup ys)))\/(Ae K H p ys/\Q (.ref p) H))
theorem BT (K:PySem.W.Frag) (h:X.K=K:=by rfl):Bz X (.type "tuple") (Pm K):=h ▸ Og
theorem AL (K:PySem.W.Frag) {es:List Expr}{k:Nat}{t:DE}{n:Nat}{pos:Pos} (h:E2 X es t) (hK:X.K=K:=by rfl) (hc:X.calm=true:=by rfl) (hn:(assignEach es X.env).length=n:=by rfl) (hst:(assignEach es X.env).findIdx? (·.1)=none:=by rfl):
  PG X (.Tuple es k pos) (FX K n t):=hK ▸ Nr hc h hn hst
theorem Gs (K:PySem.W.Frag) {tg l:Expr}{tl:TE} (hl:PE X l tl) (h:X.K=K:=by rfl):PI X tg l (JV K tl):=h ▸ Nz hl
theorem Cf (K:PySem.W.Frag) {tg l:Expr}{tl:TE} (hl:PE X l tl) (h:X.K=K:=by rfl):PI X tg l (JW K tl):=h ▸ NA hl
theorem DN (P:Program) (w:World) (K:PySem.W.Frag) {es:List Expr}{k:Nat}{p pos pos':Pos}{a:Expr}{ta:TA} (hg:Gl X "enumerate") (hm:X.mg "enumerate"=none) (ha:PA X [a] ta) (hP:X.prog=P:=by rfl) (hw:X.w=w:=by rfl) (hK:X.K=K:=by rfl) (hs:starEach [a] X.env=[(false,eval a X.env)]:=by rfl):
  PI X (.Tuple es k pos') (.Call (.Name "enumerate" p) [a] [] pos) (Kz (Bd P w K) ta):=by subst hP hw hK;exact OL hg hm ha hs
theorem Pn (P:Program) (w:World) (K:PySem.W.Frag) {es:List Expr}{k:Nat}{p pos pos':Pos}{e1 e2:Expr}{ta:TA} (hg:Gl X "zip") (hm:X.mg "zip"=none) (ha:PA X [e1,e2] ta) (hP:X.prog=P:=by rfl) (hw:X.w=w:=by rfl) (hK:X.K=K:=by rfl)
  (hs:starEach [e1,e2] X.env=[(false,eval e1 X.env),(false,eval e2 X.env)]:=by rfl) (hs2:starEach [e2] X.env=[(false,eval e2 X.env)]:=by rfl):
  PI X (.Tuple es k pos') (.Call (.Name "zip" p) [e1,e2] [] pos) (Fg (Bd P w K) (Ec P w K) ta):=by subst hP hw hK;exact OP hg hm ha hs hs2
theorem Fl (P:Program) (w:World) (K:PySem.W.Frag) {es:List Expr}{k:Nat}{p pos pos':Pos}{e1 e2:Expr}{ta:TA} (hg:Gl X "zip") (hm:X.mg "zip"=none) (ha:PA X [e1,e2] ta) (hP:X.prog=P:=by rfl) (hw:X.w=w:=by rfl) (hK:X.K=K:=by rfl)
  (hs:starEach [e1,e2] X.env=[(false,eval e1 X.env),(false,eval e2 X.env)]:=by rfl) (hs2:starEach [e2] X.env=[(false,eval e2 X.env)]:=by rfl):
  PI X (.Tuple es k pos') (.Call (.Name "zip" p) [e1,e2] [] pos) (Fg (Bd P w K) (Bd P w K) ta):=by subst hP hw hK;exact OQ hg hm ha hs hs2
end
section
variable {X : Cx}
def Po:List V->Hp->VK->Prop:=λxs H Q=>∃(p:Addr) (ns:List Int),xs=[.ref p]/\H p=some (.lst (ns.map V.int))/\Q (.int ns.sum) H
theorem IO:∀ {ns:List Int}{us:List Value},Ar (ns.map V.int) us->IntsAre us ns
 | [],us,h=>by cases h;exact .nil
 | n::ns,us,h=>by
  cases h with
  | cons r t=>obtain⟨k,rfl⟩:=r;exact .cons n k (IO t)
theorem IP (hc:X.calm=true):Bz X (.builtin "sum") Po:=by
 intro pins s σ H xs us Q I r h
 obtain⟨p,ns,rfl,hp,q⟩:=h
 obtain⟨u,rfl,ru⟩:=r.one
 cases ru
 obtain⟨its,rv,pl,hz⟩:=I.list (Al.of hp)
 have hi:=IO rv
 obtain⟨xs,hx⟩:=AllInts.items hi.allInts
 have hl:s.heap.IsList p (intItems xs):=hx ▸ pl.isList
 refine sum_intListG (I.ok.hd hc) hl λh' tk t' hk=>?_
 have e1:ns=xs.toList.map (λx=>x.fst):=by rw [<-nums_intItems,<-hx,List.toList_toArray,hi.numsOf]
 have e2:preSum (numAt xs) xs.size=ns.sum:=by
  rw [preSum_eq,List.take_of_length_le (by simp),<-e1]
 rw [e2]
 exact⟨.int ns.sum,H,I.kept λb o eb=>hk b o eb,⟨t',rfl⟩,q⟩
end
def Ds (i j k:Int):Nat:=(Builtin.Range.rangeSize i j k).toNat
theorem KU {i j k:Int} (h:1<=k) (hi: -1000<=i) (hj:j<=1000):0<=Builtin.Range.rangeSize i j k/\Builtin.Range.rangeSize i j k<=2001:=by
 unfold Builtin.Range.rangeSize
 rw [if_pos (by omega)]
 split
 ·have h1:0<=(j-i-1)/ k:=Int.ediv_nonneg (by omega) (by omega)
  have h2:(j-i-1)/ k<=(j-i-1):=Int.ediv_le_self _ (by omega)
  omega
 ·omega
theorem Pp {i j k:Int} (h:1<=k) (hk:k<=1000) (hi: -1000<=i) (hi':i<=1000) (hj: -1000<=j) (hj':j<=1000):Builtin.Range.small i j k=true:=by
 obtain⟨a,b⟩:=KU h hi hj'
 have f:∀z:Int,-5000<=z->z<=5000->Builtin.Range.rangeFitsLong z=true:=λz z1 z2=>by
  unfold Builtin.Range.rangeFitsLong
  simp only [Bool.and_eq_true,decide_eq_true_eq]
  omega
 unfold Builtin.Range.small
 rw [f i (by omega) (by omega),f j (by omega) (by omega),f k (by omega) (by omega),f _ (by omega) (by omega),if_pos (by omega),f (j+(k-1)) (by omega) (by omega)]
 simp
section
variable {X : Cx} {tg : Expr}
end
end L2
end
section
namespace MF
open PySem PySem.Spec PyProof.Rows L2
variable {α : Type} {i : Nat} {h : Int} {ws : List Bool} {p : Addr} {H : Hp} {xs : List V}
theorem _root_.L2.walk_enum {P:Program}{w:World}{K:PySem.W.Frag}{S:AM P w K}{a:Addr}{xs:List V}{cap:List (Option Nat)}{g:TG}{tt:TT}{te:TE}{σ:L2.St}{Q:List V->Hp->Prop}{H:Hp} (Pv:Nat->List V->Hp->Prop) (hn:xs.length<=100000) (h0:Pv 0 [] H) (hz:∀i zs H,Pv i zs H->zs.length<=i)
  (hl:∀i zs H,Pv i zs H->S.Sq H a xs)
  (hs:∀i x zs H T,xs[i]? =some x->Pv i zs H->H T=none->g (.ref T) (AV cap σ) (upd H T (.tup [.int i,x])) fun σ2 H2=>Keep (AV cap σ) σ2/\tt σ2 H2 λb H3=>br b (te σ2 H3 λy H4=>Pv (i+1) (zs++[y]) H4) (Pv (i+1) zs H3))
  (hd:∀zs H,Pv xs.length zs H->Q zs H):DI (DJ S a) cap g tt te σ Q H:=
 Fe xs.length Pv hn h0 hz (λi zs H hi p=>by
  have q:=hl i zs H p
  refine⟨⟨xs,xs[i],q,by simp [hi]⟩,λv H' ⟨T,e,n,y⟩=>?_⟩
  subst e
  rw [y xs xs[i] q (by simp [hi])]
  exact hs i xs[i] zs H T (by simp [hi]) p n)
  λzs H p=>⟨⟨xs,hl _ zs H p,rfl⟩,hd zs H p⟩
theorem _root_.L2.for_enum {P:Program}{w:World}{K:PySem.W.Frag}{S:AM P w K}{a:Addr}{xs:List V}{g:TG}{tb:TS}{D:CU}{σ:L2.St}{H:Hp} (Pv:Nat->L2.St->Hp->Prop) (h0:Pv 0 σ H) (hl:∀i σ H,Pv i σ H->S.Sq H a xs)
  (hs:∀i x σ H T,xs[i]? =some x->Pv i σ H->H T=none->g (.ref T) σ (upd H T (.tup [.int i,x])) fun σ2 H2=>tb { D with nx:=Pv (i+1),ct:=Pv (i+1),bk:=D.nx} σ2 H2) (hd:∀σ H,Pv xs.length σ H->D.nx σ H):
  ∃W:Nat->Nat->L2.St->Hp->Prop,(∃m,W 0 m σ H)/\∀i m σ H,W i m σ H->
   ((DJ S a).stop i H/\D.nx σ H)\/((DJ S a).go i H/\∃N:L2.St->Hp->Prop,(∀σ' H',N σ' H'->∃m',m'<m/\W (i+1) m' σ' H')/\∀x H',(DJ S a).yld i H x H'->g x σ H' fun σ2 H2=>tb { D with nx:=N,ct:=N,bk:=D.nx} σ2 H2):=by
 refine⟨λi m σ H=>m=xs.length-i/\i<=xs.length/\Pv i σ H,⟨xs.length,by simp,Nat.zero_le _,h0⟩,?_⟩
 rintro i m σ H ⟨rfl,hi,p⟩
 have q:=hl i σ H p
 by_cases hlt:i<xs.length
 ·refine .inr ⟨⟨xs,xs[i],q,by simp [hlt]⟩,Pv (i+1),fun σ' H' p'=>⟨xs.length-(i+1),by omega,rfl,hlt,p'⟩,λx H' ⟨T,e,n,y⟩=>?_⟩
  subst e
  rw [y xs xs[i] q (by simp [hlt])]
  exact hs i xs[i] σ H T (by simp [hlt]) p n
 ·obtain rfl:i=xs.length:=by omega
  exact .inl ⟨⟨xs,q,rfl⟩,hd σ H p⟩
structure PL where
 bs:List (Int×Int)
 es:List (Int×Int×Int)
 lo:Int
 hi:Int
 st:Int
abbrev bD (q:Int×Int):PyData:= .tuple [.int q.1,.int q.2]
abbrev eD (q:Int×Int×Int):PyData:= .tuple [.int q.1,.int q.2.1,.int q.2.2]
def PL.d (P:PL):PyData:= .tuple [.tuple (P.bs.map bD),.tuple (P.es.map eD),.tuple [.int P.lo,.int P.hi,.int P.st]]
structure PL.ok (P:PL):Prop where
 b:∀q∈P.bs,1<=q.1/\q.1<=9/\1<=q.2/\q.2<=9
 b1:1<=P.bs.length
 b4:P.bs.length<=4
 e:∀q∈P.es,1<=q.1/\q.1<=9/\0<=q.2.1/\q.2.1<=7/\1<=q.2.2/\q.2.2<=8
 e4:P.es.length<=4
 lo0:0<=P.lo
 ls:P.lo<=P.st
 sh:P.st<=P.hi
 h4:P.hi<=40
structure FT where
 b:Int
 out:Bool
 f:Int
 l:Int
def wS (b:Bool):Str:=if b then"out" else"scaled"
abbrev wV (b:Bool):V:= .str (wS b)
abbrev FT.d (x:FT):PyData:= .tuple [.int x.b,.str (wS x.out),.int x.f,.int x.l]
structure SY where
 ex:List Int
 fs:List FT
def SY.d (S:SY):PyData:= .tuple [.tuple (S.ex.map .int),.tuple (S.fs.map FT.d)]
structure FT.ok (x:FT) (n h:Nat):Prop where
 b0:0<=x.b
 bn:x.b<n
 f0:0<=x.f
 fl:x.f<=x.l
 lh:x.l<h
structure SY.ok (S:SY) (n:Nat):Prop where
 x1:1<=S.ex.length
 x8:S.ex.length<=8
 x:∀u∈S.ex,0<=u/\u<=20
 f4:S.fs.length<=4
 f:∀x∈S.fs,x.ok n S.ex.length
def BY (ws:List Bool) (m:Int):Int:=if ws.any id then 0 else if ws.any (!·) then m / 2 else m
def Cn (b h:Int) (x:FT):Bool:=x.b==b && decide (x.f<=h) && decide (h<=x.l)
def BF (fs:List FT) (b h:Int):List Bool:=(fs.filter (Cn b h)).map FT.out
def AS (bs:List (Int×Int)) (fs:List FT) (h:Int):List Int:=bs.zipIdx.map λq=>BY (BF fs q.2 h) q.1.1
def caps (P:PL) (S:SY):List (List Int):=(List.range S.ex.length).map fun(h:Nat)=>AS P.bs S.fs (h:Int)
def drawn (q:Int×Int×Int) (h:Int):Int:=if h<q.2.1\/(h-q.2.1) % q.2.2≠0 then 0 else q.1
def draws (P:PL) (S:SY):List Int:=S.ex.zipIdx.map λq=>q.1+(P.es.map λe=>drawn e q.2).sum
abbrev AN (r:List Int):PyData:= .tuple (r.map .int)
def IQ (P:PL) (S:SY):PyData:= .tuple ((caps P S).map AN)
def IR (P:PL) (S:SY):PyData:=AN (draws P S)
def ret (H:Hp) (Q:VK) (p:Addr) (d:PyData):Prop:=∀v H',Ab H H'->Aa p H' d v->Q v H'
theorem Be {l:List α}{x:α} (h:l[i]? =some x):l.take (i+1)=l.take i++[x]:=by rw [List.take_add_one,h];rfl
theorem IS {bs:List (Int×Int)}{fs:List FT}{q:Int×Int} (hq:bs[i]? =some q):(AS bs fs h)[i]? =some (BY (BF fs i h) q.1):=by
 unfold AS;rw [List.getElem?_map,List.getElem?_zipIdx,hq];simp
theorem Cu {bs:List (Int×Int)}{fs:List FT}:(AS bs fs h).length=bs.length:=by unfold AS;simp
theorem CI {P:PL}{S:SY} (h:i<S.ex.length):(caps P S)[i]? =some (AS P.bs S.fs i):=by
 unfold caps;rw [List.getElem?_map,List.getElem?_range h];rfl
theorem BG {P:PL}{S:SY}:(caps P S).length=S.ex.length:=by unfold caps;simp
theorem IT {P:PL}{S:SY}{u:Int} (hu:S.ex[i]? =some u):(draws P S)[i]? =some (u+(P.es.map λe=>drawn e i).sum):=by
 unfold draws;rw [List.getElem?_map,List.getElem?_zipIdx,hu];simp
theorem C4 {P:PL}{S:SY}:(draws P S).length=S.ex.length:=by unfold draws;simp
theorem Gu:BO (.str "out") (ws.map wV)=ws.any id:=by
 induction ws with
 | nil=>rfl
 | cons b ws ih=>
  unfold BO at ih ⊢
  rw [List.map_cons,List.any_cons,ih,List.any_cons]
  cases b<;>rfl
theorem IU:BO (.str "scaled") (ws.map wV)=ws.any (!·):=by
 induction ws with
 | nil=>rfl
 | cons b ws ih=>
  unfold BO at ih ⊢
  rw [List.map_cons,List.any_cons,ih,List.any_cons]
  cases b<;>rfl
theorem Gv:(ws.map wV).all C3=true:=by
 rw [List.all_map,List.all_eq_true]
 intro b _
 rfl
theorem Pq (b:Bool):BO (wV b) [.str "out",.str "scaled"]=true:=by cases b<;>rfl
theorem KW {fs:List FT}{x:FT}{b:Int} (hx:fs[i]? =some x):BF (fs.take (i+1)) b h=if Cn b h x then BF (fs.take i) b h++[x.out] else BF (fs.take i) b h:=by
 unfold BF
 rw [Be hx,List.filter_append]
 by_cases c:Cn b h x=true
 ·rw [if_pos c,List.filter_cons_of_pos c,List.map_append];rfl
 ·rw [if_neg c,List.filter_cons_of_neg c,List.filter_nil,List.append_nil]
theorem Ac.mapGot {f:α->PyData}{l:List α}{x:V} (r:Ac p H (l.map f) xs) (h:xs[i]? =some x):∃a,l[i]? =some a/\Aa p H (f a) x:=by
 obtain⟨d,hd,rd⟩:=r.got h
 rw [List.getElem?_map] at hd
 cases z:l[i]? with
 | none=>rw [z] at hd;cases hd
 | some a=>rw [z] at hd;cases hd;exact⟨a,rfl,rd⟩
theorem Ac.ints:∀ {ns:List Int}{xs:List V},Ac p H (ns.map .int) xs->xs=ns.map V.int
 | [],xs,r=>by unfold Ac at r;exact r
 | n::ns,xs,r=>by
  rw [List.map_cons] at r
  unfold Ac at r
  obtain⟨x,t,rfl,rx,rt⟩:=r
  unfold Aa at rx
  rw [rx,Ac.ints rt];rfl
theorem Ac.ofInts:∀ {ns:List Int},Ac p H (ns.map .int) (ns.map V.int)
 | []=> .nil
 | n::ns=> .cons Aa.int Ac.ofInts
theorem Ac.snoc {ds:List PyData}{d:PyData}{x:V} (r:Ac p H ds xs) (h:Aa p H d x):Ac p H (ds++[d]) (xs++[x]):=r.append (.cons h .nil)
theorem Aa.row {a:Addr}{r:List Int} (h:H a=some (.tup (r.map V.int))):Aa p H (AN r) (.ref a):=Aa.tup h Ac.ofInts
theorem Ab.own {H':Hp}{b:Addr}{o:HO} (s:Ab H H') (n:H b=none):Ab H (upd H' b o):=λx u q=>by rw [As (Bh q n)];exact s x u q
theorem Ac.four {a b c d:PyData} (r:Ac p H [a,b,c,d] xs):∃x y z w,xs=[x,y,z,w]/\Aa p H a x/\Aa p H b y/\Aa p H c z/\Aa p H d w:=by
 unfold Ac at r;obtain⟨x,s,rfl,hx,r⟩:=r;unfold Ac at r;obtain⟨y,s,rfl,hy,r⟩:=r;unfold Ac at r;obtain⟨z,s,rfl,hz,r⟩:=r;unfold Ac at r;obtain⟨w,s,rfl,hw,r⟩:=r;unfold Ac at r;subst r;exact⟨x,y,z,w,rfl,hx,hy,hz,hw⟩
theorem KY {a b:V} (h:(!decide (a=b))=true):a≠b:=by simpa using h
structure Small (n k:Nat) (d:PyData):Prop where
 w:Ct d<=n
 dp:d.depth<=k
 nd:d.hasDict=false
theorem IV {n k:Nat}:∀ {ds:List PyData},(∀d∈ds,Small n k d)->Dq ds<=(n+2) * ds.length/\PyData.depthAll ds<=k/\PyData.hasDictAll ds=false
 | [],_=>⟨by unfold Dq;exact Nat.zero_le _,by unfold PyData.depthAll;exact Nat.zero_le _,rfl⟩
 | d::ds,h=>by
  obtain⟨a,b,c⟩:=IV λx hx=>h x (List.mem_cons_of_mem _ hx)
  have s:=h d List.mem_cons_self
  refine⟨?_,?_,?_⟩
  ·unfold Dq
   rw [List.length_cons,Nat.mul_add]
   have:=s.w;omega
  ·unfold PyData.depthAll;exact Nat.max_le.mpr ⟨s.dp,b⟩
  ·unfold PyData.hasDictAll;rw [s.nd,c];rfl
theorem small_tup {n k m:Nat}{ds:List PyData} (h:∀d∈ds,Small n k d) (hm:(n+2) * ds.length+4<=m):Small m (k+1) (.tuple ds):=by
 obtain⟨a,b,c⟩:=IV h
 exact⟨by unfold Ct;omega,by unfold PyData.depth;omega,by unfold PyData.hasDict;exact c⟩
theorem Pr {n k m:Nat}{ds:List PyData} (h:∀d∈ds,Small n k d) (hm:(n+2) * ds.length+4<=m):Small m (k+1) (.list ds):=by
 obtain⟨a,b,c⟩:=IV h
 exact⟨by unfold Ct;omega,by unfold PyData.depth;omega,by unfold PyData.hasDict;exact c⟩
theorem Small.nice {n k:Nat}{d:PyData} (h:Small n k d) (h1:n<=1000000) (h2:k<=20):IN d:=⟨Nat.le_trans h.w h1,Nat.le_trans h.dp h2,.inl h.nd⟩
theorem Ps {i:Int} (h:i.natAbs<10 ^ 6):Small 40 0 (.int i):=by
 refine⟨?_,Nat.le_refl 0,rfl⟩
 unfold Ct
 rw [if_pos (Nat.lt_trans h (by decide))]
 exact Nat.le_refl _
theorem Pt {ws:List Bool}{m:Int} (h0:0<=m) (h9:m<=9):0<=BY ws m/\BY ws m<=m:=by
 unfold BY
 split
 ·omega
 ·split
  ·omega
  ·omega
theorem DO {P:PL}{S:SY} (ok:P.ok):∀r∈caps P S,(∀i∈r,0<=i/\i<=9)/\r.length=P.bs.length:=λr hr=>by
 unfold caps at hr
 obtain⟨h,_,rfl⟩:=List.mem_map.mp hr
 refine⟨λi hi=>?_,Cu⟩
 unfold AS at hi
 obtain⟨q,hq,rfl⟩:=List.mem_map.mp hi
 obtain⟨b1,b2,_⟩:=ok.b q.1 (List.fst_mem_of_mem_zipIdx hq)
 have:=Pt (ws:=BF S.fs q.2 h) (m:=q.1.1) (by omega) b2
 omega
theorem Pu {l:List Int} (h:∀i∈l,0<=i/\i<=9):0<=l.sum/\l.sum<=9 * l.length:=by
 induction l with
 | nil=>exact⟨Int.le_refl _,Int.le_refl _⟩
 | cons a l ih=>
  have:=h a List.mem_cons_self
  have:=ih λi hi=>h i (List.mem_cons_of_mem _ hi)
  rw [List.sum_cons,List.length_cons]
  omega
theorem IW {l:List Int} (h:i<l.length):l[i]? =some (l.getD i 0):=by rw [List.getD_eq_getElem?_getD,List.getElem?_eq_getElem h];rfl
theorem Pw {f e:Int}{n t:Nat} (he:1<=e):t<Ds f n e↔f+t * e<n:=by
 unfold Ds Builtin.Range.rangeSize
 rw [if_pos (by omega)]
 by_cases c:f<n
 ·rw [if_pos c]
  have h1:0<=((n:Int)-f-1)/ e:=Int.ediv_nonneg (by omega) (by omega)
  have h2:(t:Int)<=((n:Int)-f-1)/ e↔(t:Int) * e<=(n:Int)-f-1:=Int.le_ediv_iff_mul_le (by omega)
  constructor
  ·intro h
   have:=h2.mp (by omega)
   omega
  ·intro h
   have:=h2.mpr (by omega)
   omega
 ·rw [if_neg c]
  have h3:0<=(t:Int) * e:=Int.mul_nonneg (by omega) (by omega)
  constructor
  ·intro h;exact absurd h (Nat.not_lt_zero _)
  ·intro h;omega
theorem KZ {n:Nat} (h:i<n):C1 n (i:Int)=some i:=by
 unfold C1
 rw [if_pos (by omega),if_pos (by omega)]
 rfl
theorem Px {m:Int} (c:ws.any id=false):m /(1+if ws.any (!·)=true then 1 else 0)=BY ws m:=by
 unfold BY
 rw [c,if_neg (by decide:¬(false=true))]
 cases ws.any (!·) with
 | true=>rfl
 | false=>exact Int.ediv_one _
end MF
end
section
namespace L2
open PySem PySem.Spec PyProof.Rows
section
variable {X : Cx}
def Py:List V->Hp->VK->Prop:=λxs H Q=>∃(p:Addr) (ns:List Int),xs=[.ref p]/\(H p=some (.lst (ns.map V.int))\/H p=some (.tup (ns.map V.int)))/\Q (.int ns.sum) H
theorem C5 (hc:X.calm=true):Bz X (.builtin "sum") Py:=by
 intro pins s σ H xs us Q I r h
 obtain⟨p,ns,rfl,hp,q⟩:=h
 rcases hp with hp | hp
 ·exact IP hc pins s σ H _ us Q I r ⟨p,ns,rfl,hp,q⟩
 obtain⟨u,rfl,ru⟩:=r.one
 cases ru
 obtain⟨its,rv,pl,hz⟩:=I.tuple (Ae.of hp)
 have hi:=IO rv
 obtain⟨xs,hx⟩:=AllInts.items hi.allInts
 have e1:ns=xs.toList.map (λx=>x.fst):=by rw [<-nums_intItems,<-hx,List.toList_toArray,hi.numsOf]
 have e2:preSum (numAt xs) xs.size=ns.sum:=by
  rw [preSum_eq,List.take_of_length_le (by simp),<-e1]
 have hl:s.heap.IsTuple p (intItems xs):=hx ▸(show s.heap.IsTuple p its.toArray from pl)
 refine call_sum_walkG (wpAny_pyIter_tuple hl ?_)
 have hlt:p<s.heap.objs.size:=by
  obtain⟨o,ho,_⟩:=id hl
  exact Heap.lt_size ho
 refine⟨s.heap.objs.size,_,_,_,_,_,numAt xs,rfl,Walks.tuple (A:=X.A.in1) (I.ok.hd hc) s.heap.objs.size p (Nat.ne_of_lt hlt) (intItems xs),⟨⟨_,Heap.get?_push_size _ rfl,rfl,rfl⟩,?_⟩,λb hb=>?_,λi v hv=>intItems_at hv,λh' tk t' hk=>?_⟩
 ·obtain⟨o,ho,ho2⟩:=id hl
  exact⟨o,Heap.get?_push_of_some _ ho,ho2⟩
 ·have:b=s.heap.objs.size\/b=p:=by simpa using hb
  rw [show(s.heap.push _).objs.size=s.heap.objs.size+1 from Array.size_push _]
  rcases this with rfl | rfl
  ·exact Nat.lt_succ_self _
  ·exact Nat.lt_succ_of_lt hlt
 ·have e3:(intItems xs).size=xs.size:=Array.size_map
  rw [e3,e2]
  refine⟨.int ns.sum,H,I.kept λb o eb=>hk b o ?_ (Heap.get?_push_of_some _ eb),⟨t',rfl⟩,q⟩
  intro z
  have z':b=s.heap.objs.size:=by simpa using z
  exact absurd (Heap.lt_size eb) (by rw [z'];exact Nat.lt_irrefl _)
end
end L2
end
section
namespace MF
open PySem PySem.Spec PyProof.Rows L2
variable {H H' : Hp} {P : PL} {S : SY} {p : Addr} {F : List (List Int)} {v u : V} {i : Nat}
theorem _root_.L2.walk_zip {P:Program}{w:World}{K:PySem.W.Frag}{S1 S2:AM P w K}{a b:Addr}{xs ys:List V}{cap:List (Option Nat)}{g:TG}{tt:TT}{te:TE}{σ:L2.St}{Q:List V->Hp->Prop}{H:Hp} (Pv:Nat->List V->Hp->Prop) (hn:xs.length<=100000) (he:xs.length=ys.length) (h0:Pv 0 [] H) (hz:∀i zs H,Pv i zs H->zs.length<=i)
  (hl:∀i zs H,Pv i zs H->S1.Sq H a xs/\S2.Sq H b ys)
  (hs:∀i x y zs H T,xs[i]? =some x->ys[i]? =some y->Pv i zs H->H T=none->g (.ref T) (AV cap σ) (upd H T (.tup [x,y])) fun σ2 H2=>Keep (AV cap σ) σ2/\tt σ2 H2 λb H3=>br b (te σ2 H3 λy H4=>Pv (i+1) (zs++[y]) H4) (Pv (i+1) zs H3))
  (hd:∀zs H,Pv xs.length zs H->Q zs H):DI (DL S1 S2 a b) cap g tt te σ Q H:=
 Fe xs.length Pv hn h0 hz (λi zs H hi p=>by
  obtain⟨q1,q2⟩:=hl i zs H p
  have hy:i<ys.length:=by omega
  refine⟨⟨xs,ys,xs[i],ys[i],q1,q2,by simp [hi],by simp [hy]⟩,λv H' ⟨T,e,n,y⟩=>?_⟩
  subst e
  rw [y xs ys xs[i] ys[i] q1 q2 (by simp [hi]) (by simp [hy])]
  exact hs i xs[i] ys[i] zs H T (by simp [hi]) (by simp [hy]) p n)
  λzs H p=>⟨⟨xs,ys,(hl _ zs H p).1,(hl _ zs H p).2,rfl⟩,hd zs H p⟩
theorem Ab.evOwn {H2:Hp}{R:Addr} (s:Ab H H2) (n:H R=none) (e:Ev R H2 H'):Ab H H':=λb o q=>(e b o (s b o q)).elim (fun⟨z,_⟩=>by rw [z,n] at q;cases q) id
def FD (F:List (List Int)):PyData:= .tuple (F.map AN)
structure FOk (P:PL) (S:SY) (F:List (List Int)):Prop where
 len:F.length=S.ex.length
 row:∀(i:Nat) (r:List Int),F[i]? =some r->r.length=P.bs.length
 bd:∀(i:Nat) (r:List Int) (j:Nat) (x c:Int),F[i]? =some r->r[j]? =some x->(AS P.bs S.fs i)[j]? =some c->0<=x/\x<=c
theorem FOk.caps (ok:P.ok):FOk P S (caps P S):=by
 refine⟨BG,λi r hr=>?_,λi r j x c hr hx hc=>?_⟩
 ·exact(DO ok r (List.mem_of_getElem? hr)).2
 ·have hi:i<S.ex.length:=by
   have:=(List.getElem?_eq_some_iff.mp hr).1
   rw [BG] at this;exact this
  rw [CI hi] at hr
  cases hr
  rw [hx] at hc
  cases hc
  have:=(DO (S:=S) ok _ (List.mem_of_getElem? (CI hi))).1 x (List.mem_of_getElem? hx)
  omega
structure Tri (p:Addr) (H:Hp) (P:PL) (S:SY) (F:List (List Int)) (v u w:V):Prop where
 ok:P.ok
 so:S.ok P.bs.length
 fo:FOk P S F
 r:Aa p H P.d v
 ru:Aa p H S.d u
 rw:Aa p H (FD F) w
theorem Tri.ev {w:V} (t:Tri p H P S F v u w) (e:Ev p H H'):Tri p H' P S F v u w:=⟨t.ok,t.so,t.fo,Aa.ev e _ _ t.r,Aa.ev e _ _ t.ru,Aa.ev e _ _ t.rw⟩
theorem Tri.sm {w:V} (t:Tri p H P S F v u w) (e:Ab H H'):Tri p H' P S F v u w:=t.ev (Ev.same e)
def made (F:List (List Int)) (i:Nat):Int:=(F.getD i []).sum
def C6 (P:PL) (S:SY) (i:Nat):Int:=(draws P S).getD i 0
def CJ (hi m:Int):Int:=if 0>m-hi then 0 else m-hi
def Av (P:PL) (S:SY) (F:List (List Int)):Nat->Int
 | 0=>P.st
 | i+1=>Av P S F i+(made F i-C6 P S i)-CJ P.hi (Av P S F i+(made F i-C6 P S i))
def Bf (P:PL) (S:SY) (F:List (List Int)) (i:Nat):Int:=Av P S F i+(made F i-C6 P S i)
theorem Dk:Av P S F (i+1)=Bf P S F i-CJ P.hi (Bf P S F i):=rfl
def IY (P:PL) (S:SY) (F:List (List Int)) (i:Nat):PyData:= .tuple [.int (made F i),.int (C6 P S i),.int (CJ P.hi (Bf P S F i)),.int (Av P S F (i+1))]
def Dt (P:PL) (S:SY) (F:List (List Int)) (k:Nat):List PyData:=(List.range k).map (IY P S F)
theorem Pz {k:Nat}:Dt P S F (k+1)=Dt P S F k++[IY P S F k]:=by unfold Dt;rw [List.range_succ,List.map_append];rfl
theorem K0 {k:Nat}:(Dt P S F k).length=k:=by unfold Dt;simp
def Fm:Option (Int×Int)->PyData
 | none=> .none
 | some q=> .tuple [.int q.1,.int q.2]
structure Fo (P:PL) (S:SY) (F:List (List Int)) (k:Nat) (s:Option (Int×Int)):Prop where
 le:k<=S.ex.length
 up:∀i,i<k->P.lo<=Bf P S F i
 fin:(s=none/\k=S.ex.length)\/(k<S.ex.length/\Bf P S F k<P.lo/\s=some ((k:Int),P.lo-Bf P S F k))
theorem EC {r:List Int} (h:F[i]? =some r):made F i=r.sum:=by unfold made;rw [List.getD_eq_getElem?_getD,h];rfl
theorem ED {d:Int} (h:(draws P S)[i]? =some d):C6 P S i=d:=by unfold C6;rw [List.getD_eq_getElem?_getD,h];rfl
end MF
end
section
namespace MF
open PySem PySem.Spec PyProof.Rows L2
variable {P : PL} {S : SY} {F : List (List Int)}
theorem FOk.bd9 (ok:P.ok) (fo:FOk P S F):∀r∈F,(∀x∈r,0<=x/\x<=9)/\r.length=P.bs.length:=λr hr=>by
 obtain⟨i,hi,e⟩:=List.mem_iff_getElem.mp hr
 have hF:F[i]? =some r:=by rw [List.getElem?_eq_getElem hi,e]
 have hl:=fo.row i r hF
 refine⟨λx hx=>?_,hl⟩
 obtain⟨j,hj,ej⟩:=List.mem_iff_getElem.mp hx
 have hR:r[j]? =some x:=by rw [List.getElem?_eq_getElem hj,ej]
 have hc:j<(AS P.bs S.fs i).length:=by rw [Cu];omega
 have hC:=List.getElem?_eq_getElem hc
 have:=fo.bd i r j x _ hF hR hC
 have hi':i<S.ex.length:=by have:=fo.len;omega
 have b:=(DO (S:=S) ok _ (List.mem_of_getElem? (CI hi'))).1 _ (List.getElem_mem hc)
 omega
theorem PC (ok:P.ok):∀ {k:Nat},(∀i,i<k->P.lo<=Bf P S F i)->P.lo<=Av P S F k/\Av P S F k<=P.hi
 | 0,_=>⟨ok.ls,ok.sh⟩
 | k+1,up=>by
  have h:=up k (by omega)
  have h1:=ok.ls
  have h2:=ok.sh
  rw [Dk]
  unfold CJ
  split<;>omega
end MF
end
section
namespace L2
open PySem PySem.Spec PyProof.Rows
theorem PD (l:Addr) (items:Array Value) (n:Nat) (dd:Option Addr) (sl:Array (Option Value)) (u:Tok):
  Meets (Builtin.«tuple.__mul__» ⟨[.ref l,.int 1 u],[]⟩) (λ_ R s=>s.heap.get? l=some { cls:= .type "tuple",dict:=dd,data:= .seq items n,slots:=sl}/\R (.ok (.ret (Value.ref l))) s):=
 .of_wp λprog w A R s h=>by
  obtain⟨hp,g,d,tk,os⟩:=s;obtain⟨hl,h⟩:=h;have f1:=AutoSeq1.idx_int;have f2:=AutoSeq1.sub_tuple_tuple
  have ht:IsTup hp l items:=⟨_,hl,rfl,n,rfl⟩
  wp_walk using wpAny_loadPart' hl
  exact⟨_,rfl,h⟩
section
variable {X : Cx}
def PF:R2:=λx y H Q=>∃a k xs,x= .ref a/\y= .int k/\H a=some (.tup xs)/\xs≠ []/\1<=k/\k<=100/\xs.length<=100/\EA H (List.replicate k.toNat xs).flatten Q
theorem PH:OpR X (binaryOp .Mult) PF:=by
 intro pins s σ H x y v u Q I rx ry h
 obtain⟨a,k,xs,rfl,rfl,ha,hx,h1,h2,h3,q⟩:=h
 by_cases hk:k=1
 ·subst hk
  cases rx
  obtain⟨t,rfl⟩:=ry
  obtain⟨its,r,ht,hz⟩:=I.tuple (Ae.of ha)
  obtain⟨⟨cls,dd,data,sl⟩,ho,hc,n,hd⟩:=id ht;simp only at hc hd;subst hc hd
  refine wpAny_binaryOp_repeat_ref (T:="tuple") (U:="int") (by decide) ⟨_,ho,rfl⟩ (λs'=>typeIs_int s' 1 t) KJ F.fills_int_mul F.slot_int_rmul KK F.slot_int_index.lookup
   (call_meets F.slot_int_rmul (typeIs_int s 1 t) F.entry_int_rmul (F.args_int_rmul_2 _ _) (KM 1 t a its.toArray n dd sl) ⟨ho,rfl,⟨_,ho,rfl⟩,?_⟩)
  refine call_meets F.slot_tuple_mul ⟨_,ho,rfl⟩ F.entry_tuple_mul (F.args_tuple_mul_2 _ _) (PD a its.toArray n dd sl t) ⟨ho,?_⟩
  refine⟨.ref a,H,I,rfl,q a H (Ab.refl _) ?_⟩
  rw [ha]
  simp
 ·exact Pa pins s σ H _ _ v u Q I rx ry ⟨a,k,xs,rfl,rfl,ha,hx,by omega,h2,h3,q⟩
end
end L2
end
section
namespace L2
open PySem PySem.Spec PyProof.Rows
variable {sc : Scope}
section
variable {X : Cx}
def Gw (sc:Scope) (x:Str):Bool:=match sc.names.lookup x with | some .local =>true | some .cell=>true | some .free=>true | _=>false
def Gx (sc:Scope) (x:Str):Bool:=match sc.names.lookup x with | some .local =>true | some .cell=>true | _=>false
def Gy (sc:Scope) (x:Str):Bool:=match sc.names.lookup x with | some .local =>true | _=>false
theorem PJ {x:Str} (h:Gw sc x=true):EY sc x:=by
 unfold Gw at h
 split at h
 ·exact .inl (by assumption)
 ·exact .inr (.inl (by assumption))
 ·exact .inr (.inr (by assumption))
 ·cases h
theorem Az {x:Str} (h:Gx sc x=true):DC sc x:=by
 unfold Gx at h
 split at h
 ·exact .inl (by assumption)
 ·exact .inr (by assumption)
 ·cases h
theorem AA {f:Bool}{x:Str} (h:(f || Gy sc x)=true):f=true\/sc.names.lookup x=some .local :=by
 rcases Bool.or_eq_true_iff.mp h with h | h
 ·exact .inl h
 ·unfold Gy at h
  split at h
  ·exact .inr (by assumption)
  ·cases h
theorem cw (i:Nat) {x:Str}{pos:Pos} (hN:X.N[i]? =some x) (hv:Gw X.env.scope x=true) (hd:(x==("__debug__" :Str) || x==("__classdict__" :Str))=false):PE X (.Name x pos) (Dj i):=
 cv i hN (PJ hv) (Bool.or_eq_false_iff.mp hd).1 (Bool.or_eq_false_iff.mp hd).2
theorem PK {x:Str}{pos:Pos} (i:Nat) (hN:X.N.Nodup) (hi:X.N[i]? =some x) (hx:Gx X.env.scope x=true) (hf:(X.fn x || Gy X.env.scope x)=true):PG X (.Name x pos) (DF i):=Nq hN hi (Az hx) (AA hf)
def PN (X:Cx) (i:Nat) (x:Str):Bool:=X.N[i]? ==some x &&(Gw X.env.scope x && !(x==("__debug__" :Str) || x==("__classdict__" :Str)))
theorem cx (i:Nat) {x:Str}{pos:Pos} (h:PN X i x=true):PE X (.Name x pos) (Dj i):=by
 obtain⟨h1,h2⟩:=Bool.and_eq_true_iff.mp h
 obtain⟨h2,h3⟩:=Bool.and_eq_true_iff.mp h2
 exact cw i (eq_of_beq h1) h2 (by simpa using h3)
def PP (X:Cx) (i:Nat) (x:Str):Bool:=X.N[i]? ==some x &&(Gx X.env.scope x &&(X.fn x || Gy X.env.scope x))
theorem Ag {x:Str}{pos:Pos} (i:Nat) (hN:X.N.Nodup) (h:PP X i x=true):PG X (.Name x pos) (DF i):=by
 obtain⟨h1,h2⟩:=Bool.and_eq_true_iff.mp h
 obtain⟨h2,h3⟩:=Bool.and_eq_true_iff.mp h2
 exact PK i hN (eq_of_beq h1) h2 h3
theorem AJ {l:List Str} (h:decide l.Nodup=true):l.Nodup:=of_decide_eq_true h
def nS:Expr->Bool | .Starred _ _=>false | _=>true
theorem Gz {e:Expr}{es:List Expr}{env:Env} (h:nS e=true):starEach (e::es) env=(false,eval e env)::starEach es env:=by
 cases e<;>first | rfl | exact absurd h Bool.false_ne_true
section
variable {e1 e2 e3 e4 : Expr} {t1 t2 t3 t4 : TE}
theorem Am (h1:PE X e1 t1) (hs:nS e1=true):PA X [e1] (CZ t1 E5):=Ci h1 Cc (Gz hs)
theorem Ao (h1:PE X e1 t1) (h2:PE X e2 t2) (hs:(nS e1 && nS e2)=true):PA X [e1,e2] (CZ t1 (CZ t2 E5)):=Ci h1 (Am h2 (Bool.and_eq_true_iff.mp hs).2) (Gz (Bool.and_eq_true_iff.mp hs).1)
theorem AC (h1:PE X e1 t1) (h2:PE X e2 t2) (h3:PE X e3 t3) (hs:(nS e1 &&(nS e2 && nS e3))=true):PA X [e1,e2,e3] (CZ t1 (CZ t2 (CZ t3 E5))):=Ci h1 (Ao h2 h3 (Bool.and_eq_true_iff.mp hs).2) (Gz (Bool.and_eq_true_iff.mp hs).1)
theorem Bi (h1:PE X e1 t1) (h2:PE X e2 t2) (h3:PE X e3 t3) (h4:PE X e4 t4) (hs:(nS e1 &&(nS e2 &&(nS e3 && nS e4)))=true):PA X [e1,e2,e3,e4] (CZ t1 (CZ t2 (CZ t3 (CZ t4 E5)))):=Ci h1 (AC h2 h3 h4 (Bool.and_eq_true_iff.mp hs).2) (Gz (Bool.and_eq_true_iff.mp hs).1)
end
end
end L2
end
section
namespace L2
open PySem PySem.Spec PyProof.Rows
section
variable {X : Cx}
end
end L2
namespace MF
open PySem PySem.Spec PyProof.Rows L2
end MF
end
section
namespace L2
open PySem PySem.Spec PyProof.Rows
abbrev DP (elt tg1 it1:Expr) (ifs1:List Expr) (tg2 it2:Expr) (ifs2:List Expr) (scope:Scope) (pos:Pos):Expr:= .ListComp elt [⟨tg1,it1,ifs1,0⟩,⟨tg2,it2,ifs2,0⟩] scope pos
section
variable {prog : Program} {w : World} {A : Around} {R : Result -> Shared -> Prop} {s : Shared} {elt tg1 it1 tg2 it2 : Expr} {ifs1 ifs2 : List Expr} {scope : Scope} {pos : Pos} {it acc : Value} {env : Env}
theorem PQ (h0:codeAny (model prog w) A (.compLoop (DP elt tg1 it1 ifs1 tg2 it2 ifs2 scope pos) 1 it acc env) R s)
  (h:wpAny (model prog w) A (pyIter it) (λit' s'=>codeAny (model prog w) A (.compLoop (DP elt tg1 it1 ifs1 tg2 it2 ifs2 scope pos) 1 it' acc env) R s') (notedBy (model prog w) A env λx s'=>R (.error x) s') s):
  codeAny (model prog w) A (.compStart (DP elt tg1 it1 ifs1 tg2 it2 ifs2 scope pos) 1 it acc env) R s:=by
 refine codeAny_of_tree (id (wpAny_notedAt (id (id (wpAny_bind (wpAny_askSetting (wpAny_ite ?_)))))))
 split
 ·exact wpAny_bind (wpAny_pure (wpAny_pure ⟨rfl,h0⟩))
 ·exact wpAny_bind (wpAny_rule (wpAny_bind (wpAny_standAt (wpAny_bind (wpAny_mono h (λit' s' h'=>wpAny_pure ⟨rfl,h'⟩) λ_ _ z=>z)))))
end
def Fp (wi2:TI) (g2:TG) (tt2:TT) (te:TE):St->List V->Hp->(List V->Hp->Prop)->Prop:=fun σ ys H N=>wi2 σ H λJ H1=>
 ∃W:Nat->Nat->List V->Hp->Prop,(∃m,W 0 m ys H1)/\∀j m zs H,W j m zs H->
  (J.stop j H/\N zs H)\/
  (J.go j H /\ zs.length < sizeLine /\ ∃ N2 : List V -> Hp -> Prop, (∀ zs' H', N2 zs' H' -> ∃ m', m' < m /\ W (j + 1) m' zs' H') /\ ∀ x H', J.yld j H x H' -> g2 x σ H' fun σ3 H2 => Keep σ σ3 /\ tt2 σ3 H2 λb H3 =>
   br b (te σ3 H3 λy H4=>N2 (zs++[y]) H4) (N2 zs H3))
def IZ (wi:TI) (cap:List (Option Nat)) (g:TG) (tt:TT) (wi2:TI) (g2:TG) (tt2:TT) (te:TE):St->Hp->(List V->Hp->Prop)->Prop:=fun σ H Q=>wi σ H λJ H1=>
 ∃W:Nat->Nat->List V->Hp->Prop,(∃m,W 0 m [] H1)/\∀i m ys H,W i m ys H->
  (J.stop i H/\Q ys H)\/
  (J.go i H /\ ∃ N : List V -> Hp -> Prop, (∀ ys' H', N ys' H' -> ∃ m', m' < m /\ W (i + 1) m' ys' H') /\ ∀ x H', J.yld i H x H' -> g x (AV cap σ) H' fun σ2 H2 => Keep (AV cap σ) σ2 /\ tt σ2 H2 λb H3 =>
   br b (Fp wi2 g2 tt2 te σ2 ys H3 N) (N ys H3))
theorem La {X:Cx}{tg iter tg2 iter2 elt:Expr}{ifs ifs2:List Expr}{scope:Scope}{pos pos':Pos}{wi wi2:TI}{g g2:TG}{tt tt2:TT}{te:TE}{N':List Str}{cap:List (Option Nat)}{use:Option (Value->Sem Unit)}{Q':Value->Shared->Prop}
  {pins:List (Addr×Obj)}{s:Shared}{σ:St}{H:Hp}{Q:List V->Hp->Prop}
  (hc:X.calm=true) (hi:PI X tg iter wi) (B:AQ X.env.scope X.N scope N' cap) (hg:∀s H ex C,PG (AR X N' scope s H ex C) tg g) (ht:∀s H ex C,Cs (AR X N' scope s H ex C) ifs tt)
  (hi2:∀s H ex C,PI (AR X N' scope s H ex C) tg2 iter2 wi2) (hg2:∀s H ex C,PG (AR X N' scope s H ex C) tg2 g2) (ht2:∀s H ex C,Cs (AR X N' scope s H ex C) ifs2 tt2) (he:∀s H ex C,PE (AR X N' scope s H ex C) elt te)
  (hs:∀x,foldedSetIterable iter X.env x=pure x) (hs2:∀env x,foldedSetIterable iter2 env x=pure x) (I:Ad X pins σ H s) (h:IZ wi cap g tt wi2 g2 tt2 te σ H Q)
  (fin:∀(acc C:Addr) (H:Hp) (ys:List V) (s':Shared),H acc=none->Ad X pins σ (upd H acc (.lst ys)) s'->Iz X pins C (upd H acc (.lst ys)) s'->Q ys H->compPost (model X.prog X.w) X.A X.xe use Q' (.ref acc) C (.ok .next) s'):
  wpAny (model X.prog X.w) X.A (comprehension (DP elt tg iter ifs tg2 iter2 ifs2 scope pos) scope X.env pos' (newList []) false (eval iter X.env) use) Q' X.xe s:=
 Kx OC (body:=λitv acc env=>IA (DP elt tg iter ifs tg2 iter2 ifs2 scope pos) 0 iter2 itv acc env) (Bt:=Kw Kt wi2 g2 tt2 (IB te)) (Cd:=λ_=>True) hc hi B hg ht (λ_ _ _=>rfl)
  (λs H ex C a A=>OD (body:=λitv=>Gf (DP elt tg iter ifs tg2 iter2 ifs2 scope pos) 1 elt itv (.ref a) _) A rfl (hs2 _) (λ_=>rfl) PQ (hi2 s H ex C) (hg2 s H ex C) (ht2 s H ex C) (Kv A rfl (he s H ex C)) λ_ _ z=>z) (λ_ _ z=>⟨trivial,z⟩) hs I h fin
def PR (wi:TI) (cap:List (Option Nat)) (g:TG) (tt:TT) (wi2:TI) (g2:TG) (tt2:TT) (te:TE):TE:=fun σ H Q=>IZ wi cap g tt wi2 g2 tt2 te σ H λys H'=>∀p,H' p=none->Q (.ref p) (upd H' p (.lst ys))
theorem PU {X:Cx}{tg iter tg2 iter2 elt:Expr}{ifs ifs2:List Expr}{scope:Scope}{pos:Pos}{wi wi2:TI}{g g2:TG}{tt tt2:TT}{te:TE} (N':List Str) (cap:List (Option Nat))
  (hc:X.calm=true) (hi:PI X tg iter wi) (B:AQ X.env.scope X.N scope N' cap) (hg:∀s H ex C,PG (AR X N' scope s H ex C) tg g) (ht:∀s H ex C,Cs (AR X N' scope s H ex C) ifs tt)
  (hi2:∀s H ex C,PI (AR X N' scope s H ex C) tg2 iter2 wi2) (hg2:∀s H ex C,PG (AR X N' scope s H ex C) tg2 g2) (ht2:∀s H ex C,Cs (AR X N' scope s H ex C) ifs2 tt2) (he:∀s H ex C,PE (AR X N' scope s H ex C) elt te)
  (hs:∀x,foldedSetIterable iter X.env x=pure x:=by intro _;rfl) (hs2:∀env x,foldedSetIterable iter2 env x=pure x:=by intro _ _;rfl):PE X (.ListComp elt [⟨tg,iter,ifs,0⟩,⟨tg2,iter2,ifs2,0⟩] scope pos) (PR wi cap g tt wi2 g2 tt2 te):=by
 intro pins s σ H Q I h
 rw [eval_ListComp]
 refine La (use:=none) hc hi B hg ht hi2 hg2 ht2 he hs hs2 I h λacc C H ys s' hn I' L q=>?_
 obtain⟨m,hm⟩:=L.ns
 refine⟨m,hm,λh' hsb=>⟨.ref acc,_,I'.turned (t':=s'.toks) (it:=C) (λb o hb e=>hsb.extBut b o hb e) L.free L.loc (.inr L.sz) L.cell L.pin,rfl,q acc hn⟩⟩
end L2
end
section
namespace L2
open PySem PySem.Spec PyProof.Rows
section
variable {X : Cx}
end
def Lb (J:It) (g2:TG) (tt2:TT) (te:TE) (σ:St) (ys:List V) (N:List V->Hp->Prop) (H1:Hp):Prop:=
 ∃W:Nat->Nat->List V->Hp->Prop,(∃m,W 0 m ys H1)/\∀j m zs H,W j m zs H->
  (J.stop j H/\N zs H)\/
  (J.go j H /\ zs.length < sizeLine /\ ∃ N2 : List V -> Hp -> Prop, (∀ zs' H', N2 zs' H' -> ∃ m', m' < m /\ W (j + 1) m' zs' H') /\ ∀ x H', J.yld j H x H' -> g2 x σ H' fun σ3 H2 => Keep σ σ3 /\ tt2 σ3 H2 λb H3 =>
   br b (te σ3 H3 λy H4=>N2 (zs++[y]) H4) (N2 zs H3))
def Ld (J:It) (cap:List (Option Nat)) (g:TG) (tt:TT) (wi2:TI) (g2:TG) (tt2:TT) (te:TE) (σ:St) (Q:List V->Hp->Prop) (H1:Hp):Prop:=
 ∃W:Nat->Nat->List V->Hp->Prop,(∃m,W 0 m [] H1)/\∀i m ys H,W i m ys H->
  (J.stop i H/\Q ys H)\/
  (J.go i H /\ ∃ N : List V -> Hp -> Prop, (∀ ys' H', N ys' H' -> ∃ m', m' < m /\ W (i + 1) m' ys' H') /\ ∀ x H', J.yld i H x H' -> g x (AV cap σ) H' fun σ2 H2 => Keep (AV cap σ) σ2 /\ tt σ2 H2 λb H3 =>
   br b (Fp wi2 g2 tt2 te σ2 ys H3 N) (N ys H3))
end L2
namespace MF
open PySem PySem.Spec PyProof.Rows L2
def PV (P:PL) (F:List (List Int)):List Int:=(List.range P.bs.length).map λb=>(F.map λr=>r.getD b 0).sum
def coal (P:PL) (F:List (List Int)):Int:=(((PV P F).zip P.bs).map λq=>q.1 * q.2.2).sum
end MF
end
section
namespace MF
open PySem PySem.Spec PyProof.Rows L2
abbrev Lt (d:PyData):List Nat:=d.shown.cps.toList
end MF
end
section
namespace L2
open PySem PySem.Spec PyProof.Rows
theorem I8 {P:Program}{w:World}{K:PySem.W.Frag}{S1 S2:AM P w K}{a b:Addr}{xs ys:List V}{g:TG}{tb:TS}{D:CU}{σ:St}{H:Hp} (Pv:Nat->St->Hp->Prop) (he:xs.length=ys.length) (h0:Pv 0 σ H) (hl:∀i σ H,Pv i σ H->S1.Sq H a xs/\S2.Sq H b ys)
  (hs:∀i x y σ H T,xs[i]? =some x->ys[i]? =some y->Pv i σ H->H T=none->g (.ref T) σ (upd H T (.tup [x,y])) fun σ2 H2=>tb { D with nx:=Pv (i+1),ct:=Pv (i+1),bk:=D.nx} σ2 H2) (hd:∀σ H,Pv xs.length σ H->D.nx σ H):
  ∃W:Nat->Nat->St->Hp->Prop,(∃m,W 0 m σ H)/\∀i m σ H,W i m σ H->
   ((DL S1 S2 a b).stop i H/\D.nx σ H)\/((DL S1 S2 a b).go i H/\∃N:St->Hp->Prop,(∀σ' H',N σ' H'->∃m',m'<m/\W (i+1) m' σ' H')/\∀x H',(DL S1 S2 a b).yld i H x H'->g x σ H' fun σ2 H2=>tb { D with nx:=N,ct:=N,bk:=D.nx} σ2 H2):=by
 refine⟨λi m σ H=>m=xs.length-i/\i<=xs.length/\Pv i σ H,⟨xs.length,by simp,Nat.zero_le _,h0⟩,?_⟩
 rintro i m σ H ⟨rfl,hi,p⟩
 obtain⟨q1,q2⟩:=hl i σ H p
 by_cases hlt:i<xs.length
 ·have hy:i<ys.length:=by omega
  refine .inr ⟨⟨xs,ys,xs[i],ys[i],q1,q2,by simp [hlt],by simp [hy]⟩,Pv (i+1),fun σ' H' p'=>⟨xs.length-(i+1),by omega,rfl,hlt,p'⟩,λv H' ⟨T,e,n,y⟩=>?_⟩
  subst e
  rw [y xs ys xs[i] ys[i] q1 q2 (by simp [hlt]) (by simp [hy])]
  exact hs i xs[i] ys[i] σ H T (by simp [hlt]) (by simp [hy]) p n
 ·obtain rfl:i=xs.length:=by omega
  exact .inl ⟨⟨xs,ys,q1,q2,rfl⟩,hd σ H p⟩
section
variable {X : Cx}
end
end L2
namespace MF
open PySem PySem.Spec PyProof.Rows L2
end MF
namespace L2
open PySem PySem.Spec PyProof.Rows
section
variable {X : Cx}
theorem PX (xs:List Value):slicePick xs.toArray none none (some (-1))=xs.reverse.toArray:=by
 rw [<-Pb]
 unfold slicePick
 have e:sliceRange (sliceBounds none none (some (-1)) xs.toArray.size).fst (sliceBounds none none (some (-1)) xs.toArray.size).snd.fst (sliceBounds none none (some (-1)) xs.toArray.size).snd.snd=(List.range xs.length).map fun(k:Nat)=>(((xs.length:Int)-1)+(k:Int) *(-1)).toNat:=by
  have b:sliceBounds none none (some (-1)) xs.toArray.size=((xs.length:Int)-1,-1,-1):=by
   rw [List.size_toArray]
   rfl
  rw [b]
  unfold sliceRange
  dsimp only
  rw [if_neg (by decide)]
  have c:(if (xs.length:Int)-1> -1 then((xs.length:Int)-1- -1- -1-1)/ - -1 else 0)=(xs.length:Int):=by
   split
   ·rw [show(- -1:Int)=1 from rfl,Int.ediv_one];omega
   ·omega
  rw [c]
  apply List.map_congr_left
  intro k _
  congr 1
  omega
 rw [e,List.filterMap_map]
 rfl
def PY (te:TE):TE:=fun σ H Q=>te σ H λx H1=>∃a xs,x= .ref a/\H1 a=some (.lst xs)/\∀l,H1 l=none->Q (.ref l) (upd H1 l (.lst xs.reverse))
theorem PZ {e st:Expr}{te:TE}{p2 pos:Pos} (he:PE X e te) (hst:PE X st (tC (.int (-1)))):PE X (.Subscript e (.Slice none none (some st) p2) pos) (PY te):=by
 intro pins s σ H Q I h
 refine Subscript_ (Aq (he pins s σ H _ I h) λv s1 ⟨x,H1,I1,r1,a,xs,ex,ha,q⟩=>?_)
 subst ex
 cases r1
 refine wpAny_Slice ?_
 rw [evalPart_none]
 refine wpAny_pure (wpAny_pure ?_)
 rw [evalPart_some]
 refine Aq (hst pins s1 σ H1 (λv H'=>v= .int (-1)/\H'=H1) I1 ⟨rfl,rfl⟩) λu s3 ⟨y,H3,I3,r3,ey,eH⟩=>?_
 subst ey eH
 obtain⟨t,rfl⟩:=r3
 have I4:Ad X pins σ H3 { s3 with heap:=s3.heap.push { cls:= .type "slice",data:= .fields #[.none,.none,.int (-1) t]}}:=I3.kept (t':=s3.toks) λb ob q=>Heap.get?_push_of_some _ q
 generalize hs4:({ s3 with heap:=s3.heap.push { cls:= .type "slice",data:= .fields #[.none,.none,.int (-1) t]}}:Shared)=s4 at I4
 have hsl:s4.heap.IsSliceOf s3.heap.objs.size .none .none (.int (-1) t):=by rw [<-hs4];exact Heap.IsSliceOf.new ..
 obtain⟨its,r,ht,hz⟩:=I4.list (Al.of ha)
 have hlen:=r.length
 show wpAny (model X.prog X.w) X.A (subscriptTail e (.Slice none none (some st) p2) (.ref a) (.ref s3.heap.objs.size)) (EP X pins σ Q) X.xe s4
 refine tail_any (ops:=[.ref a,.ref s3.heap.objs.size]) ht.isList.typeIs slot_list_getitem.lookup ?_ (by with_unfolding_all rfl)
 refine wpAny_getItem_list_slice ht.isList hsl .none .none (.int _ _) (by simp) ?_ (by rw [List.size_toArray]<;>omega)
 rw [PX]
 refine⟨.ref s4.heap.objs.size,_,I4.laid (t':=s4.toks) (o:= .lst xs.reverse) (λb ob q=>Heap.get?_push_of_some _ q) (Nat.le_refl _) ?_,rfl,q _ (I4.hok.fresh (Nat.le_refl _))⟩
 exact⟨by rw [List.length_reverse];exact hz,_,0,r.reverse,Heap.get?_push_size _ rfl⟩
end
end L2
end
section
namespace L2
open PySem PySem.Spec PyProof.Rows
variable {tt tt2 : TT} {te : TE} {σ : St} {Q : List V -> Hp -> Prop} {H : Hp} {wi2 : TI} {g2 : TG}
theorem P1 {lo:Int}{n:Nat}{g:TG}{ys:List V} (Pv:Nat->List V->Hp->Prop) (h0:Pv 0 ys H) (hz:∀i zs H,Pv i zs H->zs.length<100000)
  (hs:∀i zs H,i<n->Pv i zs H->g (.int (lo+i)) σ H fun σ2 H2=>Keep σ σ2/\tt σ2 H2 λb H3=>br b (te σ2 H3 λy H4=>Pv (i+1) (zs++[y]) H4) (Pv (i+1) zs H3))
  (hd:∀zs H,Pv n zs H->Q zs H):Lb (Dg lo n) g tt te σ ys Q H:=by
 refine⟨λi m zs H=>m=n-i/\i<=n/\Pv i zs H,⟨n,by simp,Nat.zero_le _,h0⟩,?_⟩
 rintro i m zs H ⟨rfl,hi,p⟩
 by_cases hlt:i<n
 ·refine .inr ⟨hlt,Nat.lt_trans (hz i zs H p) (by decide),Pv (i+1),λzs' H' p'=>⟨n-(i+1),by omega,rfl,hlt,p'⟩,λv H' ⟨e,y⟩=>?_⟩
  subst e y
  exact hs i zs _ hlt p
 ·obtain rfl:i=n:=by omega
  exact .inl ⟨Nat.le_refl _,hd zs H p⟩
theorem P2 {lo:Int}{n:Nat}{cap:List (Option Nat)}{g:TG} (Pv:Nat->List V->Hp->Prop) (h0:Pv 0 [] H)
  (hs:∀i zs H,i<n->Pv i zs H->g (.int (lo+i)) (AV cap σ) H fun σ2 H2=>Keep (AV cap σ) σ2/\tt σ2 H2 λb H3=>br b (Fp wi2 g2 tt2 te σ2 zs H3 (Pv (i+1))) (Pv (i+1) zs H3))
  (hd:∀zs H,Pv n zs H->Q zs H):Ld (Dg lo n) cap g tt wi2 g2 tt2 te σ Q H:=by
 refine⟨λi m zs H=>m=n-i/\i<=n/\Pv i zs H,⟨n,by simp,Nat.zero_le _,h0⟩,?_⟩
 rintro i m zs H ⟨rfl,hi,p⟩
 by_cases hlt:i<n
 ·refine .inr ⟨hlt,Pv (i+1),λzs' H' p'=>⟨n-(i+1),by omega,rfl,hlt,p'⟩,λv H' ⟨e,y⟩=>?_⟩
  subst e y
  exact hs i zs _ hlt p
 ·obtain rfl:i=n:=by omega
  exact .inl ⟨Nat.le_refl _,hd zs H p⟩
def P3 (i:Nat) (wi:TI) (cap:List (Option Nat)) (g:TG) (tt:TT) (wi2:TI) (g2:TG) (tt2:TT) (te:TE):TS:=λD σ H=>IZ wi cap g tt wi2 g2 tt2 te σ H λys H'=>∀p,H' p=none->D.nx (σ.set i (some (.ref p))) (upd H' p (.lst ys))
theorem P4 {X:Cx}{i:Nat}{y:Str}{tg iter tg2 iter2 elt:Expr}{ifs ifs2:List Expr}{scope:Scope}{pos pos' pos'':Pos}{wi:TI}{g:TG} (N':List Str) (cap:List (Option Nat)) (hN:X.N.Nodup) (hin:X.N[i]? =some y) (hy:DC X.env.scope y)
  (hc:X.calm=true) (hi:PI X tg iter wi) (B:AQ X.env.scope X.N scope N' cap) (hg:∀s H ex C,PG (AR X N' scope s H ex C) tg g) (ht:∀s H ex C,Cs (AR X N' scope s H ex C) ifs tt)
  (hi2:∀s H ex C,PI (AR X N' scope s H ex C) tg2 iter2 wi2) (hg2:∀s H ex C,PG (AR X N' scope s H ex C) tg2 g2) (ht2:∀s H ex C,Cs (AR X N' scope s H ex C) ifs2 tt2) (he:∀s H ex C,PE (AR X N' scope s H ex C) elt te)
  (hsw:swapsWith (DP elt tg iter ifs tg2 iter2 ifs2 scope pos) (some (.Name y pos')) pos''.line X.env=pure true:=by rfl)
  (hf:X.fn y=true\/X.env.scope.names.lookup y=some .local :=by first | exact .inl rfl | exact .inr rfl | assumption)
  (hs:∀x,foldedSetIterable iter X.env x=pure x:=by intro _;rfl) (hs2:∀env x,foldedSetIterable iter2 env x=pure x:=by intro _ _;rfl):PS X (.Assign [.Name y pos'] (.ListComp elt [⟨tg,iter,ifs,0⟩,⟨tg2,iter2,ifs2,0⟩] scope pos) pos'') (P3 i wi cap g tt wi2 g2 tt2 te):=by
 intro pins s σ H D I h
 rw [exec_Assign_Name_used _ _ _ _ hsw]
 refine wpAny_bind (wpAny_standAt (wpAny_bind ?_))
 show wpAny _ X.A (do let _<-comprehension (DP elt tg iter ifs tg2 iter2 ifs2 scope pos) scope X.env _ (newList []) false (eval iter X.env) (some (assign (.Name y pos') X.env))) _ _ s
 refine wpAny_bind (wpAny_mono (La (use:=some (assign (.Name y pos') X.env)) (Q':=λ_ s'=>SP X pins D .next s') hc hi B hg ht hi2 hg2 ht2 he hs hs2 I h λacc C H ys s' hn I' L q=>?_) (λ_ s' hq=>wpAny_pure (wpAny_pure hq)) λ_ _ e=>e)
 obtain⟨m,hm⟩:=L.ns
 refine wpAny_assign_Name (Ib I' hN hin hy (show Ay (.ref acc) (.ref acc) from rfl) (λs'' I'' ⟨a,sb,ha⟩=>?_) hf)
 have hCa:C≠a:=by
  rcases ha with e | e
  ·rw [e];exact L.loc
  ·exact λz=>L.cell _ _ e z.symm
 refine⟨m,hm.sameBut sb hCa,λh' hsb=>?_⟩
 exact⟨_,_,I''.turned (t':=s''.toks) (it:=C) (λb o hb e=>hsb.extBut b o hb e) L.free L.loc (.inr L.sz) L.cell L.pin,q acc hn⟩
def P5 (te:TE):TT:=fun σ H Q=>te σ H λx H'=>∃a xs,x= .ref a/\H' a=some (.lst xs)/\Q (!xs.isEmpty) H'
theorem P6 {X:Cx}{a:Expr}{ta:TE} (ha:PE X a ta) (he:∀whole,isTrue a X.env whole=(do let v<-whole;standAt a.pos;holding [v] (truthy v)):=by intro _;rfl):PT X a (P5 ta):=by
 intro pins s σ H Q I h
 refine isTrue_plain (Aq (ha pins s σ H _ I h) λv s1 ⟨x,H1,I1,r1,q1⟩=>?_) (he _)
 obtain⟨b,xs,rfl,hb,q⟩:=q1
 cases r1
 obtain⟨its,r,pl,hz⟩:=I1.list (Al.of hb)
 have hlen:=r.length
 have big:sizeLine<2 ^ 63:=by decide
 exact wpAny_truthy_list pl.isList (by simp only [List.size_toArray];omega) ⟨H1,I1.tok _,by rw [NJ r];exact q⟩
section
variable {X : Cx}
end
end L2
namespace MF
open PySem PySem.Spec PyProof.Rows L2
structure TM where
 cs:List (List Int)
 co:List Int
 ds:List Int
 lo:Int
 hi:Int
 st:Int
def TM.d (T:TM):PyData:= .tuple [FD T.cs,AN T.co,AN T.ds,.tuple [.int T.lo,.int T.hi,.int T.st]]
def terms (P:PL) (S:SY):TM:=⟨caps P S,P.bs.map (·.2),draws P S,P.lo,P.hi,P.st⟩
structure TM.ok (T:TM):Prop where
 l8:T.ds.length<=8
 lc:T.cs.length=T.ds.length
def part {α:Type} (xs:List α) (f l:Nat):List α:=(xs.drop f).take (l+1-f)
theorem Le {α:Type}{xs:List α}{f l:Nat} (h:f<=l) (hl:l<xs.length):(part xs f l).length=l+1-f:=by
 unfold part;rw [List.length_take,List.length_drop];omega
theorem GB {xs:List V}{f l:Nat} (h:f<=l) (hl:l<xs.length):Bn xs (some (f:Int)) (some ((l:Int)+1))=part xs f l:=by
 have e:((l:Int)+1)=((l+1:Nat):Int):=by omega
 unfold Bn part
 rw [e,HT.sIx_nat,HT.sIx_nat,Nat.min_eq_left (by omega),Nat.min_eq_left (by omega)]
theorem GC {α β:Type}{g:α->β}{xs:List α}{f l:Nat}:part (xs.map g) f l=(part xs f l).map g:=by
 unfold part;rw [<-List.map_drop,<-List.map_take]
theorem Ac.part {p:Addr}{H:Hp}:∀ {ds:List PyData}{xs:List V},Ac p H ds xs->∀f l,Ac p H (MF.part ds f l) (MF.part xs f l):=by
 have dr:∀ {ds:List PyData}{xs:List V},Ac p H ds xs->∀f,Ac p H (ds.drop f) (xs.drop f):=by
  intro ds
  induction ds with
  | nil=>intro xs r f;unfold Ac at r;subst r;rw [List.drop_nil,List.drop_nil];exact .nil
  | cons d ds ih=>
   intro xs r f
   have r':=r
   unfold Ac at r
   obtain⟨x,t,rfl,rx,rt⟩:=r
   cases f with
   | zero=>exact r'
   | succ f=>exact ih rt f
 have tk:∀ {ds:List PyData}{xs:List V},Ac p H ds xs->∀f,Ac p H (ds.take f) (xs.take f):=by
  intro ds
  induction ds with
  | nil=>intro xs r f;unfold Ac at r;subst r;rw [List.take_nil,List.take_nil];exact .nil
  | cons d ds ih=>
   intro xs r f
   unfold Ac at r
   obtain⟨x,t,rfl,rx,rt⟩:=r
   cases f with
   | zero=>exact .nil
   | succ f=>exact .cons rx (ih rt f)
 intro ds xs r f l
 exact tk (dr r f) _
def most (T:TM) (f l:Nat):Int:=((part T.cs f l).map List.sum).sum
def GD (T:TM) (f l:Nat):Int:=(part T.ds f l).sum
def C7 (T:TM) (f l:Nat):Bool:=decide ((if f=0 then T.st else T.hi)+most T f l<GD T f l+T.lo)
def C8 (f k:Nat):List (Nat×Nat):=(List.range k).map λi=>(f,f+i)
def Cv (n k:Nat):List (Nat×Nat):=((List.range k).map λf=>C8 f (n-f)).flatten
abbrev pD (q:Nat×Nat):PyData:= .tuple [.int q.1,.int q.2]
theorem P7 {f k:Nat}:C8 f (k+1)=C8 f k++[(f,f+k)]:=by unfold C8;rw [List.range_succ,List.map_append];rfl
theorem Lf {f k:Nat}:(C8 f k).length=k:=by unfold C8;simp
theorem Lg {n k:Nat}:Cv n (k+1)=Cv n k++C8 k (n-k):=by unfold Cv;rw [List.range_succ,List.map_append,List.flatten_append];simp
theorem Lh {n k:Nat}:(Cv n k).length<=n * k:=by
 induction k with
 | zero=>exact Nat.le_refl _
 | succ k ih=>rw [Lg,List.length_append,Lf,Nat.mul_succ];omega
theorem Li {n k:Nat} (h:k<=n):∀q∈Cv n k,q.1<=q.2/\q.2<n:=by
 intro q hq
 unfold Cv at hq
 obtain⟨l,hl,hq⟩:=List.mem_flatten.mp hq
 obtain⟨f,hf,rfl⟩:=List.mem_map.mp hl
 obtain⟨i,hi,rfl⟩:=List.mem_map.mp hq
 have:=List.mem_range.mp hf
 have:=List.mem_range.mp hi
 exact⟨by show f<=f+i;omega,by show f+i<n;omega⟩
def EE (T:TM):List (Nat×Nat):=(Cv T.ds.length T.ds.length).filter λq=>C7 T q.1 q.2
def AT (T:TM):Option (Nat×Nat):=(EE T).head?
def Lj:Option (Nat×Nat)->PyData
 | none=> .none
 | some q=>pD q
end MF
end
section
namespace L2
open PySem PySem.Spec PyProof.Rows
section
variable {X : Cx} {pos : Pos}
end
end L2
end
section
namespace L2
open PySem PySem.Spec PyProof.Rows
theorem Lk {its:List Value}{ns:List Int} (rv:Ar (ns.map V.int) its):∃ys:Array (Int×Tok),its.toArray=intItems ys/\∀a,a∈ns↔ ∃j,j<ys.size/\numAt ys j=a:=by
 have hi:IntsAre its ns:=NY rv
 obtain⟨ys,e⟩:=hi.allInts.items
 refine⟨ys,e,λa=>?_⟩
 have en:ys.toList.map (·.1)=ns:=by rw [<-nums_intItems,<-e];exact hi.numsOf
 rw [<-en,List.mem_map]
 constructor
 ·rintro⟨y,hy,z⟩
  obtain⟨j,hj,z2⟩:=List.mem_iff_getElem.mp hy
  have hj':j<ys.size:=by simpa using hj
  refine⟨j,hj',?_⟩
  have z3:ys[j]=y:=by simpa using z2
  unfold numAt
  simp [hj',z3,z]
 ·rintro⟨j,hj,z⟩
  refine⟨ys[j],by simp,?_⟩
  rw [<-z]
  unfold numAt
  simp [hj]
theorem Ll {ys:Array (Int×Tok)}{ns:List Int} (pl:∀a,a∈ns↔ ∃j,j<ys.size/\numAt ys j=a) (ne:ns≠ []):0<ys.size:=by
 obtain⟨a,ha⟩:=List.exists_mem_of_ne_nil ns ne
 obtain⟨j,hj,_⟩:=(pl a).mp ha
 exact Nat.lt_of_le_of_lt (Nat.zero_le j) hj
section
variable {X : Cx}
theorem call_maxL (hc:X.calm=true):Bz X (.builtin "max") (λxs H Q=>∃(p:Addr) (ns:List Int),xs=[.ref p]/\H p=some (.lst (ns.map V.int))/\ns≠ []/\∀M,M∈ns->(∀a∈ns,a<=M)->Q (.int M) H):=by
 intro pins s σ H xs us Q I r h
 obtain⟨p,ns,rfl,hp,hne,q⟩:=h
 obtain⟨u,rfl,ru⟩:=r.one
 cases ru
 obtain⟨its,rv,pl,hz⟩:=I.list (Al.of hp)
 obtain⟨ys,e,at_⟩:=Lk rv
 have pos:=Ll at_ hne
 have best:=argBest_gt (numAt ys) (ys.size-1)
 refine max_intList (I.ok.hd hc) (by rw [<-e];exact pl.isList) pos λv g tk hv kp=>?_
 obtain⟨t,z⟩:=intItems_at hv
 rw [z]
 refine⟨.int _,H,I.kept kp,⟨t,rfl⟩,q _ ((at_ _).mpr ⟨_,by omega,rfl⟩) λa ha=>?_⟩
 obtain⟨j,hj,y⟩:=(at_ a).mp ha
 rw [<-y]
 exact best.2 j (by omega)
theorem P8 (hc:X.calm=true):Bz X (.builtin "min") (λxs H Q=>∃(p:Addr) (ns:List Int),xs=[.ref p]/\H p=some (.lst (ns.map V.int))/\ns≠ []/\∀M,M∈ns->(∀a∈ns,M<=a)->Q (.int M) H):=by
 intro pins s σ H xs us Q I r h
 obtain⟨p,ns,rfl,hp,hne,q⟩:=h
 obtain⟨u,rfl,ru⟩:=r.one
 cases ru
 obtain⟨its,rv,pl,hz⟩:=I.list (Al.of hp)
 obtain⟨ys,e,at_⟩:=Lk rv
 have pos:=Ll at_ hne
 have best:=argBest_lt (numAt ys) (ys.size-1)
 refine min_intList (I.ok.hd hc) (by rw [<-e];exact pl.isList) pos λv g tk hv kp=>?_
 obtain⟨t,z⟩:=intItems_at hv
 rw [z]
 refine⟨.int _,H,I.kept kp,⟨t,rfl⟩,q _ ((at_ _).mpr ⟨_,by omega,rfl⟩) λa ha=>?_⟩
 obtain⟨j,hj,y⟩:=(at_ a).mp ha
 rw [<-y]
 exact best.2 j (by omega)
end
section
variable {X : Cx}
end
section
variable {X : Cx}
end
end L2
end
section
namespace L2
open PySem PySem.Spec PyProof.Rows
open AutoSeq1 (wpAny_loadPart')
structure ZA3 (z TI TO i1 i2 i3 l1 l2 l3:Addr):Prop where
 TI_z:TI≠z
 TO_z:TO≠z
 TO_TI:TO≠TI
 i1_z:i1≠z
 i1_TI:i1≠TI
 i1_TO:i1≠TO
 i2_z:i2≠z
 i2_TI:i2≠TI
 i2_TO:i2≠TO
 i2_i1:i2≠i1
 i3_z:i3≠z
 i3_TI:i3≠TI
 i3_TO:i3≠TO
 i3_i1:i3≠i1
 i3_i2:i3≠i2
 l1_z:l1≠z
 l1_TO:l1≠TO
 l1_i1:l1≠i1
 l1_i2:l1≠i2
 l1_i3:l1≠i3
 l2_z:l2≠z
 l2_TO:l2≠TO
 l2_i1:l2≠i1
 l2_i2:l2≠i2
 l2_i3:l2≠i3
 l3_z:l3≠z
 l3_TO:l3≠TO
 l3_i1:l3≠i1
 l3_i2:l3≠i2
 l3_i3:l3≠i3
section
variable {P : Program} {w : World} {K : PySem.W.Frag} {A : Around} {E : Value -> Shared -> Prop} {s : Shared} (S1 S2 S3 : AM P w K)
end
end L2
end
section
namespace L2
open PySem PySem.Spec PyProof.Rows
open AutoSeq1 (wpAny_loadPart')
def KpBut (a:Addr) (g g':Heap):Prop:=∀b o,b≠a->g.get? b=some o->g'.get? b=some o
theorem KpBut.trans {a:Addr}{g g' g2:Heap} (x:KpBut a g g') (y:KpBut a g' g2):KpBut a g g2:=λb o n e=>y b o n (x b o n e)
theorem KpBut.upd {a:Addr}{g:Heap} (f:Obj->Obj):KpBut a g (g.update a f):=λb o n e=>by rw [Heap.get?_update_ne _ _ _ _ n];exact e
theorem P9 (z TI TO:Addr):
    Meets (Builtin.«enumerate.__new__» ⟨[.type "enumerate",.ref z],[]⟩) (λ_ R s=>IsZip s.heap z TI TO .none/\R (.ok (.ret (.ref s.heap.objs.size)))
        { s with heap:=s.heap.push { cls:= .type "enumerate",data:= .fields #[.none,.bool false,.ref z,rawInt 0,.none,.none]}}):=
  .of_wp λprog w A R s h=>by
    obtain⟨hp,g,d,tk,os⟩:=s;obtain⟨hl,h⟩:=h
    have hsub:=sub_enumerate;have hL:IsZip (Shared.heap ⟨hp,g,d,tk,os⟩) z TI TO .none:=hl
    wp_walk using wpAny_loadPart' hl
    refine wpAny_stack_any λst=>wpAny_pure ?_;split
    . rename_i c _ _ _ _ _;cases(c==Value.type "enumerate")
      . wp_walk using wpAny_loadPart' hl,wpAny_pyIter_zip hL;exact⟨_,rfl,h⟩
      . wp_walk using wpAny_loadPart' hl,wpAny_pyIter_zip hL;exact⟨_,rfl,h⟩
    . wp_walk using wpAny_loadPart' hl,wpAny_pyIter_zip hL;exact⟨_,rfl,h⟩
def GE {P:Program}{w:World}{K:PySem.W.Frag} (S1 S2:AM P w K) (a b:Addr):It:=
 ⟨λi H=>∃xs ys x y,S1.Sq H a xs/\S2.Sq H b ys/\xs[i]? =some x/\ys[i]? =some y,λi H v H'=>∃T U,v= .ref U/\H T=none/\(∀o,upd H T o U=none)/\∀xs ys x y,S1.Sq H a xs->S2.Sq H b ys->xs[i]? =some x->ys[i]? =some y->H'=upd (upd H T (.tup [x,y])) U (.tup [.int i,.ref T]),
  λi H=>∃xs ys,S1.Sq H a xs/\S2.Sq H b ys/\xs.length=i⟩
theorem Qa {P:Program}{w:World}{K:PySem.W.Frag} (S1 S2:AM P w K) {es:List Expr}{k:Nat}{pos:Pos} (e z TI TO i1 i2 l1 l2:Addr) (D:Ew z TI TO i1 i2 l1 l2)
  (nz:e≠z) (nI:e≠TI) (nO:e≠TO) (n1:e≠i1) (n2:e≠i2) (m1:l1≠e) (m2:l2≠e):
  CW P w K (.Tuple es k pos) (GE S1 S2 l1 l2) [e,z,TI,TO,i1,i2] e (λi h=>(∃old,IsEnum h e z (i:Nat) old)/\Do h z TI TO/\Bo h TI (.ref i1) (.ref i2)/\(∃a b,Bo h TO a b)/\S1.It h i1 l1 i/\S2.It h i2 l2 i) where
 mem:=by simp
 obj:=λi h st b hb=>by
  obtain⟨⟨old,he⟩,⟨f0,f1,hz,_⟩,hTI,⟨a,b',hTO⟩,h1,h2⟩:=st
  simp only [List.mem_cons,List.not_mem_nil,or_false] at hb
  rcases hb with e | e | e | e | e | e<;>rw [e]
  ·exact⟨_,he,λv q=>by have q':Data.fields _=Data.cell v:=q;cases q'⟩
  ·exact⟨_,hz,λv q=>by have q':Data.fields _=Data.cell v:=q;cases q'⟩
  ·exact⟨_,hTI,λv q=>by have q':Data.seq _ _=Data.cell v:=q;cases q'⟩
  ·exact⟨_,hTO,λv q=>by have q':Data.seq _ _=Data.cell v:=q;cases q'⟩
  ·exact S1.ito h1
  ·exact S2.ito h2
 keep:=λi h h' st kk=>by
  obtain⟨⟨old,he⟩,⟨f0,f1,hz,hf⟩,hTI,⟨a,b',hTO⟩,h1,h2⟩:=st
  exact⟨⟨old,kk e (by simp) _ he⟩,⟨f0,f1,kk z (by simp) _ hz,hf⟩,kk TI (by simp) _ hTI,⟨a,b',kk TO (by simp) _ hTO⟩,S1.itk h1 λo q=>kk i1 (by simp) o q,S2.itk h2 λo q=>kk i2 (by simp) o q⟩
 item:=by
  intro X hP hw hK hc i pins s σ H E I hf st hg
  subst hP hw
  obtain⟨xs,ys,x,y,hq1,hq2,hx,hy⟩:=hg
  obtain⟨its1,rv1,is1,hz1⟩:=S1.get hK I hq1
  obtain⟨its2,rv2,is2,hz2⟩:=S2.get hK I hq2
  obtain⟨u1,hu1,ru1⟩:=rv1.get hx
  obtain⟨u2,hu2,ru2⟩:=rv2.get hy
  obtain⟨⟨old,he⟩,hzA,hTI,⟨a,b',hTO⟩,h1,h2⟩:=st
  have hh:=I.ok.hd hc
  have hT:s.TypeIs (.ref e) "enumerate" :=⟨_,he,rfl⟩
  have hTz:s.TypeIs (.ref z) "zip" :=by obtain⟨f0,f1,hz,_⟩:=hzA;exact⟨_,hz,rfl⟩
  have hel:e<s.heap.objs.size:=Heap.lt_size he
  have lo:∀b∈ [e,z,TI,TO,i1,i2],b<s.heap.objs.size:=λb hb=>by
   simp only [List.mem_cons,List.not_mem_nil,or_false] at hb
   rcases hb with e | e | e | e | e | e<;>rw [e]
   ·exact hel
   ·obtain⟨f0,f1,hz,_⟩:=hzA;exact Heap.lt_size hz
   ·exact Heap.lt_size hTI
   ·exact Heap.lt_size hTO
   ·obtain⟨o,q,_⟩:=S1.ito h1;exact Heap.lt_size q
   ·obtain⟨o,q,_⟩:=S2.ito h2;exact Heap.lt_size q
  unfold pyNext
  refine wpAny_bind (wpAny_attempt (wpAny_callSpecial?_slot (name:=Str.ofString "__next__") hT F.slot_enumerate_next (wpAny_call_entry F.slot_enumerate_next hT F.entry_enumerate_next ?_ (F.args_enumerate_next_1 _))))
  show wpAny _ _ (field (.ref e) 2>>=_) _ _ _
  refine wpAny_bind (wpAny_field he rfl (x:= .ref z) rfl ?_)
  refine wpAny_bind ?_
  unfold Builtin.SmallTypes.nextOf
  refine wpAny_bind (wpAny_callSpecial?_slot (name:=Str.ofString "__next__") hTz F.slot_zip_next (wpAny_call_entry F.slot_zip_next hTz F.entry_zip_next
   (ID S1 S2 (x1:=u1) (x2:=u2) hh D hzA hTI hTO ⟨h1,is1⟩ ⟨h2,is2⟩ (by simpa using hu1) (by simpa using hu2) λh₁ tk bz _ bTO b1 b2 b5 b6 hk=>wpAny_pure ?_) (F.args_zip_next_1 _)))
  have I1:Ad X pins σ (upd H s.heap.objs.size (.tup [x,y])) { s with heap:=h₁,toks:=tk}:=I.yielded (wr:=[e,z,TI,TO,i1,i2]) (tk:=tk) (λb hb=>hf b hb)
   (λb o hb q=>hk b o (λe=>hb (by simp [e])) (λe=>hb (by simp [e])) (λe=>hb (by simp [e])) (λe=>hb (by simp [e])) q) (Nat.le_refl _) (us:=[u1,u2]) ⟨_,b5,rfl,_,rfl⟩ (.cons ru1 (.cons ru2 .nil)) (by show 2<=sizeLine;decide)
  have fT:H s.heap.objs.size=none:=I.hok.fresh (Nat.le_refl _)
  have hf1:∀b∈ [e,z,TI,TO,i1,i2],BD X pins (upd H s.heap.objs.size (.tup [x,y])) b:=λb hb=>⟨by rw [As (Nat.ne_of_lt (lo b hb))];exact(hf b hb).1,(hf b hb).2⟩
  have he₁:IsEnum h₁ e z (i:Nat) old:=hk _ _ nz nO n1 n2 he
  have hTI₁:Bo h₁ TI (.ref i1) (.ref i2):=hk _ _ D.TI_z D.TO_TI.symm D.i1_TI.symm D.i2_TI.symm hTI
  obtain⟨c1,c2,bTO⟩:=bTO
  generalize hT0:s.heap.objs.size=T at *
  clear hTO
  have room:e<h₁.objs.size:=Heap.lt_size he₁
  --the record is written,a tuple made,the record written again
  refine wpAny_bind (wpAny_field (s:= { s with heap:=h₁,toks:=tk}) he₁ rfl (x:=rawInt i) rfl (wpAny_bind (wpAny_field (s:= { s with heap:=h₁,toks:=tk}) he₁ rfl (x:= .none) rfl ?_)))
  refine wpAny_bind (wpAny_mkInt (wpAny_bind (wpAny_setField_rec (s:= { s with heap:=h₁,toks:=tk+1}) he₁ (by simp) λg2 e2 k2=>wpAny_bind (wpAny_setField_rec (s:= { s with heap:=g2,toks:=tk+1}) e2 (by simp) λg3 e3 k3=>wpAny_bind (wpAny_newTuple ?_)))))
  have z3:g3.objs.size=h₁.objs.size:=k3.1.trans k2.1
  have e4:IsEnum (g3.push { cls:= .type "tuple",data:= .seq #[.int i tk,.ref T]}) e z ((i:Int)+1) old:=Heap.get?_push_of_some _ e3
  have got4:(g3.push { cls:= .type "tuple",data:= .seq #[.int i tk,.ref T]}).get? h₁.objs.size=some { cls:= .type "tuple",data:= .seq #[.int i tk,.ref T]}:=by rw [<-z3];exact Heap.get?_push_size _ rfl
  have kp4:KpBut e h₁ (g3.push { cls:= .type "tuple",data:= .seq #[.int i tk,.ref T]}):=λb o n q=>Heap.get?_push_of_some _ (k3.extBut b o n (k2.extBut b o n q))
  have e0:({ s with heap:=g3,toks:=tk+1}:Shared).heap.objs.size=h₁.objs.size:=z3
  rw [e0]
  generalize g3.push { cls:= .type "tuple",data:= .seq #[.int i tk,.ref T]}=g4 at e4 got4 kp4
  refine wpAny_bind (wpAny_bind (wpAny_field (s:= { s with heap:=g4,toks:=tk+1}) e4 rfl (x:= .none) rfl (wpAny_pure ?_)))
  refine wpAny_bind (wpAny_rule (wpAny_bind (wpAny_field (s:= { s with heap:=g4,toks:=tk+1}) e4 rfl (x:=old) rfl (wpAny_bind (wpAny_setField_rec (s:= { s with heap:=g4,toks:=tk+1}) e4 (by simp) λg5 e5 k5=>wpAny_bind (wpAny_bind (wpAny_setField_rec (s:= { s with heap:=g5,toks:=tk+1}) e5 (by simp) λg6 e6 k6=>wpAny_setField_rec (s:= { s with heap:=g6,toks:=tk+1}) e6 (by simp) λg7 e7 k7=>?_)))))))
  have out7:IsEnumOut g7 e z ((i:Int)+1) (.ref T) h₁.objs.size:=e7
  refine wpAny_bind (wpAny_letGo (wpAny_pure ⟨_,rfl,wpAny_pure ⟨_,rfl,?_⟩⟩))
  refine wpAny_letOwnedTupleGo_enum (s:= { s with heap:=g7,toks:=tk+1}) out7 λh₈ he₈ k8=>?_
  have all8:KpBut e g4 h₈:=λb o n q=>k8.extBut b o n (k7.extBut b o n (k6.extBut b o n (k5.extBut b o n q)))
  have hk₈:∀b o,b≠e->h₁.get? b=some o->h₈.get? b=some o:=kp4.trans all8
  have ht₇:=all8 _ _ (Nat.ne_of_gt room) got4
  have ht₈:IsTup h₈ h₁.objs.size [.int i tk,.ref T].toArray:=⟨_,ht₇,rfl,_,rfl⟩
  have I2:=I1.yielded (h':=h₈) (wr:=[e]) (tk:=tk+1) (λb hb=>hf1 b (by rw [List.mem_singleton.mp hb];simp)) (λb o hb q=>hk₈ b o (λz=>hb (by simp [z])) q) (Nat.le_refl _) (vs:=[.int i,.ref T]) ht₈ (.cons ⟨tk,rfl⟩ (.cons rfl .nil)) (by show 2<=sizeLine;decide)
  refine⟨.ref h₁.objs.size,_,I2,rfl,⟨T,h₁.objs.size,rfl,fT,λo=>?_,λxs' ys' x' y' e1 e2 e3 e4=>?_⟩,⟨⟨_,by simpa using he₈⟩,?_,hk₈ _ _ nI.symm hTI₁,⟨_,_,hk₈ _ _ nO.symm bTO⟩,S1.itk b1.1 λo q=>hk₈ _ o n1.symm q,S2.itk b2.1 λo q=>hk₈ _ o n2.symm q⟩,λb hb=>?_⟩
  ·have z6:h₁.objs.size=T+1:=b6
   rw [As (by rw [z6];exact Nat.succ_ne_self _)]
   exact I.hok.fresh (show s.heap.objs.size<=h₁.objs.size by rw [z6,<-hT0];exact Nat.le_succ _)
  ·rw [S1.inj hK I e1 hq1,hx] at e3;rw [S2.inj hK I e2 hq2,hy] at e4;cases e3;cases e4;rfl
  ·obtain⟨f0,f1,hz,hff⟩:=bz
   exact⟨f0,f1,hk₈ _ _ nz.symm hz,hff⟩
  ·have z6:h₁.objs.size=T+1:=b6
   have hl:=lo b hb
   rw [As (Nat.ne_of_lt (Nat.lt_of_lt_of_le hl (by rw [z6];exact Nat.le_succ _)))]
   exact(hf1 b hb).1
 done:=by
  intro X hP hw hK hc i pins s σ H E I hf st hg
  subst hP hw
  obtain⟨xs,ys,hq1,hq2,hend⟩:=hg
  obtain⟨its1,rv1,is1,hz1⟩:=S1.get hK I hq1
  obtain⟨its2,rv2,is2,hz2⟩:=S2.get hK I hq2
  obtain⟨⟨old,he⟩,hzA,hTI,⟨a,b',hTO⟩,h1,h2⟩:=st
  have hh:=I.ok.hd hc
  have hT:s.TypeIs (.ref e) "enumerate" :=⟨_,he,rfl⟩
  have hTz:s.TypeIs (.ref z) "zip" :=by obtain⟨f0,f1,hz,_⟩:=hzA;exact⟨_,hz,rfl⟩
  have e1:=rv1.length
  unfold pyNext
  refine wpAny_bind (wpAny_attempt (wpAny_callSpecial?_slot (name:=Str.ofString "__next__") hT F.slot_enumerate_next (wpAny_call_entry F.slot_enumerate_next hT F.entry_enumerate_next ?_ (F.args_enumerate_next_1 _))))
  show wpAny _ _ (field (.ref e) 2>>=_) _ _ _
  refine wpAny_bind (wpAny_field he rfl (x:= .ref z) rfl ?_)
  refine wpAny_bind ?_
  unfold Builtin.SmallTypes.nextOf
  refine wpAny_bind (wpAny_callSpecial?_slot (name:=Str.ofString "__next__") hTz F.slot_zip_next (wpAny_call_entry F.slot_zip_next hTz F.entry_zip_next
   (IE S1 S2 hh D hzA hTI hTO ⟨h1,is1⟩ ⟨h2,is2⟩ (by simp;omega) λh' tk e hk he=>?_) (F.args_zip_next_1 _)))
  obtain⟨o,ho,hco⟩:=he
  refine wpAny_bind (wpAny_isInstance (T:="StopIteration") (b:=true) ⟨o,ho,hco⟩ isSubtype_stop ?_)
  exact wpAny_pure ⟨rfl,I.ended (wr:=[_,z,TI,TO,i1,i2]) (tk:=tk) (λb hb=>hf b hb) λb o hb q=>hk b o (λe=>hb (by simp [e])) (λe=>hb (by simp [e])) (λe=>hb (by simp [e])) (λe=>hb (by simp [e])) q⟩
 self:=λ_ _ _ _ _ st h=>by
  obtain⟨⟨old,he⟩,_⟩:=st
  exact wpAny_pyIter_enum he h
def Lm {P:Program}{w:World}{K:PySem.W.Frag} (S1 S2:AM P w K) (ta:TA):TI:=fun σ H R=>ta σ H λvs H1=>∃a b,vs=[.ref a,.ref b]/\(∃xs,S1.Sq H1 a xs)/\(∃ys,S2.Sq H1 b ys)/\R (GE S1 S2 a b) H1
theorem Qb {X:Cx}{es:List Expr}{k:Nat}{p pos pos' p2 pos2:Pos}{e1 e2:Expr}{ta:TA} (hg0:Gl X "enumerate") (hm0:X.mg "enumerate"=none) (hg:Gl X "zip") (hm:X.mg "zip"=none) (ha:PA X [e1,e2] ta)
  (hs0:starEach [.Call (.Name "zip" p2) [e1,e2] [] pos2] X.env=[(false,eval (.Call (.Name "zip" p2) [e1,e2] [] pos2) X.env)]:=by rfl)
  (hs1:starEach [e1,e2] X.env=[(false,eval e1 X.env),(false,eval e2 X.env)]:=by rfl) (hs2:starEach [e2] X.env=[(false,eval e2 X.env)]:=by rfl):
  PI X (.Tuple es k pos') (.Call (.Name "enumerate" p) [.Call (.Name "zip" p2) [e1,e2] [] pos2] [] pos) (Lm (Bd X.prog X.w X.K) (Bd X.prog X.w X.K) ta):=by
 intro pins s σ H R I h
 refine Call_ (CB I hg0 hm0 boot_enumerate (PyProof.Rows.callWith_type1 (by
  rw [hs0]
  exact Calls.spliced_cons (Aq (IF _ _ (IG _ _ _) (R:=λl1 l2 H1=>R (GE (Bd X.prog X.w X.K) (Bd X.prog X.w X.K) l1 l2) H1) hg hm ha hs1 hs2 I h) λv s1 ⟨l1,l2,H1,m,e,q,I1,gz,gI,gO,g1,g2,h1,h2,fr,sz⟩=>Calls.spliced_nil (by
   subst e
   refine callType_new F.called_enumerate (by decide) (F.typeCall_enumerate_1 _) (F.newCall_enumerate_1 _) (λobj=>F.args_object_init_2 obj _) F.entry_enumerate_new (P9 (m+4) (m+2) (m+3)) ⟨gz,?_⟩
   have he:=Heap.get?_push_size s1.heap (o:= { cls:= .type "enumerate",data:= .fields #[.none,.bool false,.ref (m+4),rawInt 0,.none,.none]}) rfl
   have kk:∀b o,s1.heap.get? b=some o->(s1.heap.push { cls:= .type "enumerate",data:= .fields #[.none,.bool false,.ref (m+4),rawInt 0,.none,.none]}).get? b=some o:=λb o x=>Heap.get?_push_of_some _ x
   rw [sz] at he
   have q1:(m:Nat)+5≠m+4:=by omega
   have q2:(m:Nat)+5≠m+2:=by omega
   have q3:(m:Nat)+5≠m+3:=by omega
   have q4:(m:Nat)+5≠m:=by omega
   have q5:(m:Nat)+5≠m+1:=by omega
   have q6:l1≠m+5:=Nat.ne_of_lt (Nat.lt_of_lt_of_le h1 (Nat.le_add_right _ _))
   have q7:l2≠m+5:=Nat.ne_of_lt (Nat.lt_of_lt_of_le h2 (Nat.le_add_right _ _))
   show _/\_
   rw [sz]
   generalize s1.heap.push { cls:= .type "enumerate",data:= .fields #[.none,.bool false,.ref (m+4),rawInt 0,.none,.none]}=hE at he kk ⊢
   have I2:Ad X pins σ H1 { s1 with heap:=hE}:=I1.kept (t':=s1.toks) kk
   refine⟨⟨_,he,rfl⟩,wpAny_pyIter_enum (s:= { s1 with heap:=hE}) he ⟨m+5,[m+5,m+4,m+2,m+3,m,m+1],_,_,H1,rfl,I2,Qa (Bd X.prog X.w X.K) (Bd X.prog X.w X.K) (m+5) _ _ _ _ _ l1 l2 (IH h1 h2) q1 q2 q3 q4 q5 q6 q7,
    ⟨⟨_,he⟩,⟨_,_,kk _ _ gz,.inl rfl,.inl rfl⟩,kk _ _ gI,⟨_,_,kk _ _ gO⟩,(Bd X.prog X.w X.K).itk g1 λo q=>kk _ o q,(Bd X.prog X.w X.K).itk g2 λo q=>kk _ o q⟩,λb hb=>fr b ?_,q⟩⟩
   simp only [List.mem_cons,List.not_mem_nil,or_false] at hb
   rcases hb with e | e | e | e | e | e<;>rw [e]<;>first | exact Nat.le_refl _ | exact Nat.le_add_right _ _))) hs0 rfl))
end L2
end
section
namespace L2
open PySem PySem.Spec PyProof.Rows
section
variable {X : Cx}
theorem Qc (P:Program) (w:World) (K:PySem.W.Frag) {es:List Expr}{k:Nat}{p pos pos' p2 pos2:Pos}{e1 e2:Expr}{ta:TA} (hg0:Gl X "enumerate") (hm0:X.mg "enumerate"=none) (hg:Gl X "zip") (hm:X.mg "zip"=none) (ha:PA X [e1,e2] ta) (hP:X.prog=P:=by rfl) (hw:X.w=w:=by rfl) (hK:X.K=K:=by rfl)
  (hs0:starEach [.Call (.Name "zip" p2) [e1,e2] [] pos2] X.env=[(false,eval (.Call (.Name "zip" p2) [e1,e2] [] pos2) X.env)]:=by rfl)
  (hs1:starEach [e1,e2] X.env=[(false,eval e1 X.env),(false,eval e2 X.env)]:=by rfl) (hs2:starEach [e2] X.env=[(false,eval e2 X.env)]:=by rfl):
  PI X (.Tuple es k pos') (.Call (.Name "enumerate" p) [.Call (.Name "zip" p2) [e1,e2] [] pos2] [] pos) (Lm (Bd P w K) (Bd P w K) ta):=by subst hP hw hK;exact Qb hg0 hm0 hg hm ha hs0 hs1 hs2
def Qd (a b:TI):TI:=fun σ H R=>a σ H R\/b σ H R
theorem Qe {tg it:Expr}{a b:TI} (ha:PI X tg it a) (hb:PI X tg it b):PI X tg it (Qd a b):=λpins s σ H R I h=>h.elim (λq=>ha pins s σ H R I q) λq=>hb pins s σ H R I q
end
theorem Qf {P:Program}{w:World}{K:PySem.W.Frag}{S1 S2:AM P w K}{a b:Addr}{xs ys:List V}{g:TG}{tt:TT}{te:TE}{σ:St}{us:List V}{Q:List V->Hp->Prop}{H:Hp} (Pv:Nat->List V->Hp->Prop) (he:xs.length=ys.length) (h0:Pv 0 us H) (hz:∀i zs H,Pv i zs H->zs.length<100000)
  (hl:∀i zs H,Pv i zs H->S1.Sq H a xs/\S2.Sq H b ys)
  (hs:∀i x y zs H T U,xs[i]? =some x->ys[i]? =some y->Pv i zs H->H T=none->(∀o,upd H T o U=none)->g (.ref U) σ (upd (upd H T (.tup [x,y])) U (.tup [.int i,.ref T])) fun σ2 H2=>Keep σ σ2/\tt σ2 H2 λb H3=>br b (te σ2 H3 λy H4=>Pv (i+1) (zs++[y]) H4) (Pv (i+1) zs H3))
  (hd:∀zs H,Pv xs.length zs H->Q zs H):Lb (GE S1 S2 a b) g tt te σ us Q H:=by
 refine⟨λi m zs H=>m=xs.length-i/\i<=xs.length/\Pv i zs H,⟨xs.length,by simp,Nat.zero_le _,h0⟩,?_⟩
 rintro i m zs H ⟨rfl,hi,p⟩
 obtain⟨q1,q2⟩:=hl i zs H p
 by_cases hlt:i<xs.length
 ·have hy:i<ys.length:=by omega
  refine .inr ⟨⟨xs,ys,xs[i],ys[i],q1,q2,by simp [hlt],by simp [hy]⟩,Nat.lt_trans (hz i zs H p) (by decide),Pv (i+1),λzs' H' p'=>⟨xs.length-(i+1),by omega,rfl,hlt,p'⟩,λv H' ⟨T,U,e,n,n2,y⟩=>?_⟩
  subst e
  rw [y xs ys xs[i] ys[i] q1 q2 (by simp [hlt]) (by simp [hy])]
  exact hs i xs[i] ys[i] zs H T U (by simp [hlt]) (by simp [hy]) p n n2
 ·obtain rfl:i=xs.length:=by omega
  exact .inl ⟨⟨xs,ys,q1,q2,rfl⟩,hd zs H p⟩
section
variable {X : Cx}
end
section
variable {prog : Program} {w : World} {A : Around} {R : Result -> Shared -> Prop} {s : Shared} {elt tg1 it1 tg2 it2 tg3 it3 : Expr} {ifs1 ifs2 ifs3 : List Expr} {scope : Scope} {pos : Pos} {it acc : Value} {env : Env}
end
def Qg (wi2:TI) (g2:TG) (tt2:TT) (wi3:TI) (g3:TG) (tt3:TT) (te:TE):St->List V->Hp->(List V->Hp->Prop)->Prop:=fun σ ys H N=>wi2 σ H λJ H1=>
 ∃W:Nat->Nat->List V->Hp->Prop,(∃m,W 0 m ys H1)/\∀j m zs H,W j m zs H->
  (J.stop j H/\N zs H)\/
  (J.go j H /\ ∃ N2 : List V -> Hp -> Prop, (∀ zs' H', N2 zs' H' -> ∃ m', m' < m /\ W (j + 1) m' zs' H') /\ ∀ x H', J.yld j H x H' -> g2 x σ H' fun σ3 H2 => Keep σ σ3 /\ tt2 σ3 H2 λb H3 =>
   br b (Fp wi3 g3 tt3 te σ3 zs H3 N2) (N2 zs H3))
theorem Ad.gotList {X:Cx}{pins:List (Addr×Obj)}{σ:St}{H:Hp}{s:Shared}{h':Heap}{tk n:Nat}{T:Addr}{vs:List V}{us:List Value} (I:Ad X pins σ H s)
  (k:∀b o,s.heap.get? b=some o->h'.get? b=some o) (hT:s.heap.objs.size<=T) (ht:h'.get? T=some { cls:= .type "list",data:= .seq us.toArray n}) (rv:Ar vs us) (hz:vs.length<=sizeLine):
  Ad X pins σ (upd H T (.lst vs)) { s with heap:=h',toks:=tk}:=by
 have hfr:H T=none:=I.hok.fresh hT
 have nT:∀b u,H b=some u->b≠T:=λb u e=>Bh e hfr
 refine I.step (g':=s.gens) (d':=s.drawn) (ch:=[]) (λb hb=>absurd hb (by simp)) (λb o _ _ hc e _=>k b o e) (λb o _ _ hc e _=>⟨o.slots,k b o e⟩)
  (λb o hc e n=>?_) (λb o hc e=>⟨o,k b o e⟩) (λb xs e=>by rw [As (nT b _ e)];exact e) (λb o xs e=>by rw [As (nT b _ e)];exact e) (λb ps e=>⟨#[],by rw [As (nT b _ e),e];simp⟩) (λm hm=>?_) (λb u e=>?_) I.bare
 ·rw [As (Nat.ne_of_lt (Nat.lt_of_lt_of_le (Heap.lt_size e) hT))];exact n
 ·obtain⟨o,es,ep,ho,r⟩:=hm
  exact⟨o,es,ep,k _ o ho,r⟩
 ·by_cases hb:b=T
  ·subst hb
   rw [Ah] at e;cases e
   exact⟨hz,us,n,rv,ht⟩
  ·rw [As hb] at e
   exact(I.hok b u e).stay (λc v hc q=>k c v q) (λc q=>by rw [As (nT c _ q)];exact q) λc xs q=>by rw [As (nT c _ q)];exact q
section
variable {X : Cx}
end
def WalkO (J:It) (cap:List (Option Nat)) (g:TG) (tt:TT) (wi2:TI) (g2:TG) (tt2:TT) (wi3:TI) (g3:TG) (tt3:TT) (te:TE) (σ:St) (Q:List V->Hp->Prop) (H1:Hp):Prop:=
 ∃W:Nat->Nat->List V->Hp->Prop,(∃m,W 0 m [] H1)/\∀i m ys H,W i m ys H->
  (J.stop i H/\Q ys H)\/
  (J.go i H /\ ∃ N : List V -> Hp -> Prop, (∀ ys' H', N ys' H' -> ∃ m', m' < m /\ W (i + 1) m' ys' H') /\ ∀ x H', J.yld i H x H' -> g x (AV cap σ) H' fun σ2 H2 => Keep (AV cap σ) σ2 /\ tt σ2 H2 λb H3 =>
   br b (Qg wi2 g2 tt2 wi3 g3 tt3 te σ2 ys H3 N) (N ys H3))
end L2
end
section
namespace L2
open PySem PySem.Spec PyProof.Rows
def Du (i j k:Int):List Int:=(List.range (Ds i j k)).map λt:Nat=>i+(t:Int) * k
theorem Qh {n:Nat}{i k:Int}{acc:Array Value} (h:ItemsOf (λt v=>∃u,v=Value.int (i+(t:Int) * k) u) acc n):Ar (((List.range n).map λt:Nat=>i+(t:Int) * k).map V.int) acc.toList:=by
 have go:∀(m:Nat) (us:List Value),us.length=m->(∀(j:Nat) (v:Value),us[j]? =some v->∃t,v= .int (i+(j:Int) * k) t)->Ar (((List.range m).map λt:Nat=>i+(t:Int) * k).map V.int) us:=by
  intro m
  induction m with
  | zero=>intro us hl _;cases us with
   | nil=>exact .nil
   | cons _ _=>cases hl
  | succ m ih=>
   intro us hl hu
   have hne:us≠ []:=λe=>by rw [e] at hl;cases hl
   have e:us=us.dropLast++[us.getLast hne]:=(List.dropLast_concat_getLast hne).symm
   have hdl:us.dropLast.length=m:=by rw [List.length_dropLast,hl];rfl
   rw [List.range_succ,List.map_append,List.map_append,e]
   refine(ih us.dropLast hdl λj v hv=>?_).append (.cons ?_ .nil)
   ·refine hu j v ?_
    rw [e,List.getElem?_append_left (List.getElem?_eq_some_iff.mp hv).1];exact hv
   ·refine hu m _ ?_
    rw [List.getLast_eq_getElem,List.getElem?_eq_some_iff]
    exact⟨by omega,by congr 1;omega⟩
 refine go n acc.toList (by simpa using h.1) λj v hv=>?_
 exact h.2 j v (by simpa using hv)
section
variable {X : Cx}
def Qi (ta:TA):TE:=fun σ H Q=>ta σ H λvs H1=>∃i j k:Int,vs=[.int i,.int j,.int k]/\(-1000<=i/\i<=1000/\ -1000<=j/\j<=1000/\1<=k/\k<=1000)/\∀p,H1 p=none->Q (.ref p) (upd H1 p (.lst ((Du i j k).map V.int)))
theorem Qj {a b c:Expr}{ta:TA}{p pos p2 pos2:Pos} (hc:X.calm=true) (hg0:Gl X "list") (hm0:X.mg "list"=none) (hg:Gl X "range") (hm:X.mg "range"=none) (ha:PA X [a,b,c] ta)
  (hs0:starEach [.Call (.Name "range" p2) [a,b,c] [] pos2] X.env=[(false,eval (.Call (.Name "range" p2) [a,b,c] [] pos2) X.env)]:=by rfl) (hs:starEach [a,b,c] X.env=(false,eval a X.env)::starEach [b,c] X.env:=by rfl) (hs2:starEach [b,c] X.env=[(false,eval b X.env),(false,eval c X.env)]:=by rfl):
  PE X (.Call (.Name "list" p) [.Call (.Name "range" p2) [a,b,c] [] pos2] [] pos) (Qi ta):=by
 intro pins s σ H Q I h
 refine Call_ (CB I hg0 hm0 IK (PyProof.Rows.callWith_type1 (by
  rw [hs0]
  refine Calls.spliced_cons (Call_ (CB I hg hm boot_range (PyProof.Rows.callWith_type1 (Aq (ha pos2 pins s σ H _ I h) λus s1 ⟨vs,H1,I1,r1,q1⟩=>?_) hs (by rw [hs2];rfl))))
  obtain⟨i,j,k,e,⟨q1,q2,q3,q4,q5,q6⟩,q⟩:=q1
  subst e
  rcases r1 with _ | ⟨r,r1⟩
  rcases r1 with _ | ⟨r',r1⟩
  rcases r1 with _ | ⟨r'',r1⟩
  cases r1
  obtain⟨t,rfl⟩:=r
  obtain⟨t',rfl⟩:=r'
  obtain⟨t'',rfl⟩:=r''
  have hk:k.natAbs.log2<30:=by
   by_cases z:k.natAbs=0
   ·omega
   ·exact(Nat.log2_lt z).mpr (show k.natAbs<2 ^ 30 by omega)
  have ndv:Builtin.divisionGoesByPylong (j-i) k=false:=by
   unfold Builtin.divisionGoesByPylong
   dsimp only
   rw [show(decide ((if (k==0)=true then 0 else k.natAbs.log2 / 30+1) >300))=false from decide_eq_false (by
    split
    ·omega
    ·rw [Nat.div_eq_of_lt hk];omega),Bool.false_and]
  refine call_range_3 (by omega) (Calls.spliced_nil ?_) (.inl ndv)
  have hsz:(s1.heap.push { cls:= .type "range",data:= .fields #[.int i t,.int j t',.int k t'']}).objs.size=s1.heap.objs.size+1:=Heap.size_push ..
  obtain⟨b0,b1⟩:=KU q5 q1 q4
  refine call_list_range (n:=Ds i j k) (I.ok.hd hc) (IsRange.new ..) (Pp q5 q6 q1 q2 q3 q4) (by unfold Ds;omega) (by unfold Ds;omega) λh' tk acc' c' hk hS hacc=>?_
  have hv:=Qh hacc
  have I2:=I1.gotList (tk:=tk) (T:=s1.heap.objs.size+1) (us:=acc'.toList) (n:=c') (λb o e=>hk b o (Heap.get?_push_of_some _ e)) (Nat.le_succ _) (by rw [<-hsz];simpa using hS) hv (by
   rw [List.length_map,List.length_map,List.length_range]
   have:(3000:Nat)<=sizeLine:=by decide
   unfold Ds;omega)
  refine⟨.ref (s1.heap.objs.size+1),_,I2,?_,q _ (I1.hok.fresh (Nat.le_succ _))⟩
  show Ay (.ref (s1.heap.objs.size+1)) (.ref _)
  rw [<-hsz];rfl) hs0 rfl))
end
theorem Qk {i j k:Int}:((Du i j k).map V.int).all C3=true:=by
 rw [List.all_eq_true]
 intro x hx
 obtain⟨a,_,rfl⟩:=List.mem_map.mp hx
 rfl
end L2
namespace MF
open PySem PySem.Spec PyProof.Rows L2
theorem Ql {f e:Int}{h:Nat} (he:1<=e) (h8:h<8):BO (.int (h:Int)) ((Du f 8 e).map V.int)=decide (¬((h:Int)<f\/((h:Int)-f) % e≠0)):=by
 unfold BO Du
 rw [List.map_map,List.any_map]
 have key:((List.range (Ds f 8 e)).any ((λy=>CO y (V.int (h:Int))) ∘V.int∘λt:Nat=>f+(t:Int) * e))=true↔ ¬((h:Int)<f\/((h:Int)-f) % e≠0):=by
  rw [List.any_eq_true]
  constructor
  ·rintro⟨t,ht,q⟩
   have q':(f+(t:Int) * e==(h:Int))=true:=q
   have q':f+(t:Int) * e=(h:Int):=by simpa using q'
   have h3:0<=(t:Int) * e:=Int.mul_nonneg (by omega) (by omega)
   rintro(c | c)
   ·omega
   ·apply c
    rw [show(h:Int)-f=(t:Int) * e by omega]
    exact Int.mul_emod_left _ _
  ·intro c
   have c1:¬(h:Int)<f:=λz=>c (.inl z)
   have c2:((h:Int)-f) % e=0:=by
    by_cases z:((h:Int)-f) % e=0
    ·exact z
    ·exact absurd (.inr z) c
   have hd:((h:Int)-f)=((h:Int)-f)/ e * e:=by
    have:=Int.emod_add_mul_ediv ((h:Int)-f) e
    rw [c2] at this
    rw [Int.mul_comm];omega
   have h0:0<=((h:Int)-f)/ e:=Int.ediv_nonneg (by omega) (by omega)
   refine⟨(((h:Int)-f)/ e).toNat,List.mem_range.mpr ((Pw (n:=8) he).mpr ?_),?_⟩
   ·rw [Int.toNat_of_nonneg h0]
    show f+_<(8:Int)
    omega
   ·show(f+((((h:Int)-f)/ e).toNat:Int) * e==(h:Int))=true
    rw [Int.toNat_of_nonneg h0,beq_iff_eq]
    omega
 cases z:((List.range (Ds f 8 e)).any ((λy=>CO y (V.int (h:Int))) ∘V.int∘λt:Nat=>f+(t:Int) * e)) with
 | true=>exact(decide_eq_true (key.mp z)).symm
 | false=>exact(decide_eq_false λc=>by rw [key.mpr c] at z;cases z).symm
end MF
end
section
namespace L2
open PySem PySem.Spec PyProof.Rows
section
variable {X : Cx}
end
end L2
end
section
namespace L2
open PySem PySem.Spec PyProof.Rows
open AutoSeq1 (wpAny_loadPart')
section
variable {P : Program} {w : World} {K : PySem.W.Frag} {A : Around} {E : Value -> Shared -> Prop} {s : Shared} (S1 S2 : AM P w K)
end
end L2
end
section
namespace L2
open PySem PySem.Spec PyProof.Rows
section
variable {X : Cx}
theorem Qm (hc:X.calm=true):Bz X (.builtin "any") (λxs H Q=>∃(p:Addr) (bs:List Bool),xs=[.ref p]/\H p=some (.lst (bs.map V.bl))/\Q (.bl (bs.any id)) H):=by
 intro pins s σ H xs us Q I r h
 obtain⟨p,bs,rfl,hp,q⟩:=h
 obtain⟨u,rfl,ru⟩:=r.one
 cases ru
 obtain⟨its,rv,pl,hz⟩:=I.list (Al.of hp)
 refine call_any_walk (wpAny_pyIter_list pl.isList ?_)
 obtain⟨ol,_,hol,_⟩:=id pl
 have hlt:=Heap.lt_size hol
 refine⟨s.heap.objs.size,_,_,_,_,_,λi=>bs.getD i false,rfl,Walks.list (A:=X.A.in1) (I.ok.hd hc) s.heap.objs.size p (Nat.ne_of_lt hlt) its.toArray,⟨⟨_,Heap.get?_push_size _ rfl,rfl,rfl⟩,?_⟩,λi v s' Q' E' hi hq=>?_,λh' tk hk=>?_⟩
 ·exact pl.isList.at λo e=>Heap.get?_push_of_some _ e
 ·have hi':its[i]? =some v:=by simpa using hi
  have hl:=rv.length
  have hb:i<bs.length:=by have:=(List.getElem?_eq_some_iff.mp hi').1;simp at hl;omega
  obtain⟨u,hu,ru⟩:=rv.get (i:=i) (x:= .bl bs[i]) (by simp [hb])
  rw [hi'] at hu;cases hu;cases ru
  dsimp only at hq;rw [List.getD_eq_getElem?_getD,List.getElem?_eq_getElem hb] at hq
  exact wpAny_truthy_bool hq
 ·have hl:=rv.length
  simp at hl
  have e:(List.range its.toArray.size).any (λi=>bs.getD i false)=bs.any id:=by
   rw [List.size_toArray,<-hl,Bool.eq_iff_iff]
   simp only [List.any_eq_true,List.mem_range]
   constructor
   ·rintro⟨i,hi,e⟩
    rw [List.getD_eq_getElem?_getD,List.getElem?_eq_getElem hi] at e
    exact⟨bs[i],List.getElem_mem hi,e⟩
   ·rintro⟨x,hx,e⟩
    obtain⟨i,hi,rfl⟩:=List.mem_iff_getElem.mp hx
    exact⟨i,hi,by rw [List.getD_eq_getElem?_getD,List.getElem?_eq_getElem hi];exact e⟩
  rw [e]
  refine⟨.bl (bs.any id),H,I.kept λb o eb=>hk b o ?_ (Heap.get?_push_of_some _ eb),rfl,q⟩
  intro z
  have z':b=s.heap.objs.size:=by simpa using z
  exact absurd (Heap.lt_size eb) (by rw [z'];exact Nat.lt_irrefl _)
section
open HT
variable {prog : Program} {w : World} {A : Around} {E : Value -> Shared -> Prop} {s : Shared}
end
def Qn:R2:=λx y H Q=>∃p d e,Aa p H d x/\Aa p H e y/\e.canLay0=true/\e.hasDict=false/\e.depth<=20/\d.canLay0=true/\d.hasDict=false/\Q (.bl (!PyData.eqv d e)) H
theorem Qo {k:Nat} (hr:Bm k X.A):OpR X (compareOp .NotEq) Qn:=by
 intro pins s σ H x y v u Q I rx ry h
 obtain⟨p,d,e,rd,re,ce,he,dp,cd,hd,q⟩:=h
 have un:=hr.un
 obtain⟨bs,rb⟩:=Aa.reads I e y u he re ry
 obtain⟨as,ra⟩:=Aa.reads I d x v hd rd rx
 exact SeqAt.compareNe_reads ra rb cd ce (by omega) (AX I q rfl)
end
structure Qp (P:Program) (w:World) (outer:List Env) (H:Hp) (s:Shared) (H':Hp) (C e:Addr) (s':Shared):Prop where
 os:s'.os=s.os
 bare:AllBare s'.gens
 un:Un (B0 outer) [] H H' s.heap s'.heap
 fly:∃B t,Heap.FlyingW B outer e (.ref C) t s'.heap/\(∀b o,s.heap.get? b=some o->H b=none->b ∉ B0 outer->B.get? b=some o)/\
  (∀b o,s.heap.get? b=some o->b ∉ B0 outer->∃o',B.get? b=some o')/\HOk P w H' B
def Ln (P:Program) (w:World):CD:=λouter H s E v s'=>∃C e H',v= .ref e/\Qp P w outer H s H' C e s'/\E (.ref C) none H'
structure IsDef (X:Cx) (E:XK):Prop where
 stk:X.stack=X.env::X.outer
 fr:X.env.frame=some X.env.locals
 ex:X.ex=[]
 xe:∀e s',wpAny (model X.prog X.w) X.A (leaving X.env e) (λ_ s''=>Ln X.prog X.w X.outer X.H₀ X.s₀ E e s'') (λ_ _=>False) s'->X.xe e s'
section
variable {X : Cx} {pins : List (Addr × Obj)} {σ : St} {H H' : Hp} {s s' : Shared} {C e : Addr} {E : XK}
end
end L2
end
section
namespace L2
open PySem PySem.Spec PyProof.Rows PySem.W Builtin Builtin.ObjectAttr Builtin.Getset_descriptor
structure ExcCls (K:Frag) (D:Addr):Prop where
 ga:findIn K (.ref D) "__getattribute__"=some (some (.builtin "BaseException.__getattribute__"))
 gt:findIn K (.ref D) "__getattr__"=some none
 cl:(clsIn K D).isSome=true
 ca:findIn K (.ref D) "__class__"=some (some (.builtin "object.__class__"))
 cn:specialIn K (.builtin "object.__class__") "__get__"=some (some (.builtin "getset_descriptor.__get__"))
 tk:takesIn K (.builtin "object.__class__")=some true
 ob:mroIn K D (.type "object")=some true
 bx:mroIn K D (.type "BaseException")=some true
section
variable {prog : Program} {w : World} {A : Around} {E : Value -> Shared -> Prop} {s : Shared} {K : Frag} {x D : Addr}
end
section
variable {X : Cx} {pins : List (Addr × Obj)} {σ : St} {H : Hp} {s : Shared} {A : Around} {E : Value -> Shared -> Prop} {Q : Value -> Shared -> Prop} {c : Value} {b : Bool} {a D : Addr}
end
end L2
end
section
namespace L2
open PySem PySem.Spec PyProof.Rows
section
variable {X : Cx} {E : XK} {st : Stmt} {Cq : List Stmt} {t : TS}
end
section
variable {P : Program} {w : World} {K : PySem.W.Frag} {mg : Str -> Option Value} {base : Heap}
structure FnE (P:Program) (w:World) (K:PySem.W.Frag) (mg:Str->Option Value) (base:Heap) (n:Nat) (x:Str) (ps:List Str) (sp:Sp):Prop where
 ex:∃(f:Addr) (fd:FuncData),C0 P w K mg base (Ln P w) n f fd ps sp/\mg x=some (.ref f)/\PySem.W.keepIn K (.ref f)=true/\Binds K fd ps []
end
section
variable {X : Cx} {pins : List (Addr × Obj)} {σ : St} {H : Hp} {s s' : Shared} {scope : Scope} {N' : List Str} {cap : List (Option Nat)} {A : Around} {outer : List Env} {qual : Str} {f : Addr} {cd : Value} {E : XK}
end
section
variable {X : Cx} {pins : List (Addr × Obj)} {σ : St} {H H' : Hp} {s s' : Shared}
end
structure Qq (k:Nat) (A:Around):Prop where
 dp:A.depth+3 * k+5<recursionLimit
 un:A.units+16 * k+200<cLine
 gd:A.guards=some []
section
variable {P : Program} {w : World} {K : PySem.W.Frag} {mg : Str -> Option Value} {base : Heap}
structure FnQ (P:Program) (w:World) (K:PySem.W.Frag) (mg:Str->Option Value) (base:Heap) (n:Nat) (x:Str) (ps:List Str) (sp:Sp):Prop where
 ex:∃(f:Addr) (fd:FuncData),(∀(A:Around) (outer:List Env) (s:Shared) (H:Hp) (args:Args) (us:List Value) (vs:List V) (Q:VK),Qq n A->Es P w K mg base A outer s H->BindsTo s fd args (ps.zip us)->Ar vs us->sp vs H Q E0->
  codeAny (model P w) A (.call (.ref f) args) (CR CX0 outer P w H s Q E0) s)/\(∀vs H Q E,sp vs H Q E->vs.length=ps.length)/\mg x=some (.ref f)/\PySem.W.keepIn K (.ref f)=true/\Binds K fd ps []
structure FnS (P:Program) (w:World) (K:PySem.W.Frag) (mg:Str->Option Value) (base:Heap) (n:Nat) (x:Str) (ps:List Str) (sp:List Env->Shared->Sp):Prop where
 ex:∃(f:Addr) (fd:FuncData),(∀(A:Around) (outer:List Env) (s:Shared) (H:Hp) (args:Args) (us:List Value) (vs:List V) (Q:VK),Bm n A->Es P w K mg base A outer s H->BindsTo s fd args (ps.zip us)->Ar vs us->sp outer s vs H Q E0->
  codeAny (model P w) A (.call (.ref f) args) (CR CX0 outer P w H s Q E0) s)/\mg x=some (.ref f)/\PySem.W.keepIn K (.ref f)=true/\Binds K fd ps []
end
section
variable {X : Cx} {H : Hp} {f : Addr} {Q : VK} {W : Addr -> Str -> Prop}
end
section
variable {X : Cx} {H : Hp} {f M : Addr} {Q : VK} {W : Addr -> Str -> Prop} {s1 : Shared}
end
section
variable {X : Cx} {pins : List (Addr × Obj)} {σ : St} {H : Hp} {s : Shared} {scope : Scope} {N' : List Str} {cap : List (Option Nat)} {P c : Addr} {ql : Str} {params : Arguments} {body : Expr} {pos : Pos}
end
section
variable {X : Cx} {scope : Scope} {N' : List Str} {cap : List (Option Nat)} {P c : Addr} {ql : Str} {params : Arguments} {body : Expr} {lpos p pos : Pos} {W : Addr -> Str -> Prop} {k : Nat} {te : XK -> TE}
end
section
variable {X : Cx}
end
def Lo:List Str:=["plant","story","firing","hour","boiler","prices","way","set","tanks","pump","feeding","readings","start","shifts","book","amount","deed","line","text"]
def Lp (K:PySem.W.Frag) (M:Addr) (ds:List Addr) (i:Nat):Bool:=
 (PySem.W.findIn K (.ref (ds.getD i 0)) "__getattribute__"==some (some (.builtin "BaseException.__getattribute__"))) &&(PySem.W.findIn K (.ref (ds.getD i 0)) "__getattr__"==some none) &&(PySem.W.clsIn K (ds.getD i 0)).isSome &&
 (PySem.W.findIn K (.ref (ds.getD i 0)) "__class__"==some (some (.builtin "object.__class__"))) &&(PySem.W.specialIn K (.builtin "object.__class__") "__get__"==some (some (.builtin "getset_descriptor.__get__"))) &&(PySem.W.takesIn K (.builtin "object.__class__")==some true) &&
 (PySem.W.mroIn K (ds.getD i 0) (.type "object")==some true) &&(PySem.W.mroIn K (ds.getD i 0) (.type "BaseException")==some true) &&(PySem.W.mroIn K (ds.getD i 0) (.ref M)==some true) &&
 ((List.range 19).all λj=>PySem.W.kitOne K (.ref (ds.getD i 0)) (.ref (ds.getD j 0))==some (j==i)) &&(PySem.W.kitOne K (.ref (ds.getD i 0)) (.type "ValueError")==some true)
structure Wd (K:PySem.W.Frag) (M:Addr) (ds:List Addr) (C:Addr) (word:Str):Prop where
 ex:∃i,i<19/\C=ds.getD i 0/\Lo[i]? =some word/\Lp K M ds i=true
section
variable {K : PySem.W.Frag} {M : Addr} {ds : List Addr} {i : Nat}
end
structure WdK (K:PySem.W.Frag) (M:Addr) (ds:List Addr) (C:Addr) (word:Str):Prop where
 ex:∃i,i<16/\C=ds.getD i 0/\Lo[i]? =some word/\Lp K M ds i=true
section
variable {X : Cx}
end
def GotL (H:Hp) (xs:List V) (Q:VK):Prop:=∀r H',Ab H H'->H r=none->H' r=some (.lst xs)->Q (.ref r) H'
theorem GotL.at {H:Hp}{xs:List V}{Q:VK} (q:GotL H xs Q):∀p,H p=none->Q (.ref p) (upd H p (.lst xs)):=λp hp=>q p _ (Ab.new hp) hp Ah
section
variable {X : Cx} {es : List Expr} {t : TA} {pos : Pos}
def Qr (t:TA):TE:=fun σ H Q=>t σ H λxs H1=>match Nat.ble xs.length 64 with | true=>EA H1 xs Q | false=>False
def Qs (t:TA):TE:=fun σ H Q=>t σ H λxs H1=>match Nat.ble xs.length 64 with | true=>GotL H1 xs Q | false=>False
theorem By {x1} (h:PA X es t):PE X (.Tuple es x1 pos) (Qr t):=by
 intro pins s σ H Q I hq
 refine wpAny_Tuple_spliced (Aq (h pos pins s σ H _ I hq) λus s1 ⟨xs,H1,I1,r,q⟩=>?_)
 dsimp only at q
 split at q
 ·rename_i z
  refine⟨by rw [<-r.length];exact few z,?_⟩
  have hf:H1 s1.heap.objs.size=none:=I1.hok.fresh (Nat.le_refl _)
  refine⟨.ref s1.heap.objs.size,upd H1 s1.heap.objs.size (.tup xs),I1.laid (t':=s1.toks) (λb u e=>Heap.get?_push_of_some _ e) (Nat.le_refl _) ?_,rfl,q _ _ (Ab.new hf) Ah⟩
  exact⟨few z,us,r,⟨_,Heap.get?_push_size _ rfl,rfl,_,rfl⟩⟩
 ·exact q.elim
theorem Dv (h:PA X es t):PE X (.List es pos) (Qs t):=by
 intro pins s σ H Q I hq
 refine wpAny_List_spliced (Aq (h pos pins s σ H _ I hq) λus s1 ⟨xs,H1,I1,r,q⟩=>?_)
 dsimp only at q
 split at q
 ·rename_i z
  refine⟨by rw [<-r.length];exact few z,?_⟩
  have hf:H1 s1.heap.objs.size=none:=I1.hok.fresh (Nat.le_refl _)
  refine⟨.ref s1.heap.objs.size,upd H1 s1.heap.objs.size (.lst xs),I1.laid (t':=s1.toks) (λb u e=>Heap.get?_push_of_some _ e) (Nat.le_refl _) ?_,rfl,q.at _ hf⟩
  exact⟨few z,us,0,r,Heap.get?_push_size _ rfl⟩
 ·exact q.elim
def Qt:R2:=λx y H Q=>∃l b xs zs,x= .ref l/\y= .ref b/\H l=some (.lst xs)/\H b=some (.lst zs)/\xs.length+zs.length<=sizeLine/\GotL H (xs++zs) Q
theorem GF:OpR X (binaryOp .Add) Qt:=by
 intro pins s σ H x y v u Q I rx ry h
 obtain⟨l,b,xs,zs,e1,e2,h1,h2,hz,q⟩:=h
 exact On pins s σ H x y v u Q I rx ry ⟨l,b,xs,zs,e1,e2,h1,h2,hz,q.at⟩
end
end L2
end
section
namespace L2
open PySem PySem.Spec PyProof.Rows
section
variable {X : Cx}
end
end L2
namespace MF
open PySem PySem.Spec PyProof.Rows L2
def Qu (p:Int) (q:Int×Int):Int:=if q.2<p then q.1 *(q.2-p) else 0
def Qv (r co:List Int) (p:Int):Int:=((r.zip co).map (Qu p)).sum
def Qw (lo hi p b:Int):Int:=(p-b) *(if b<p then lo else hi)
def Lq (T:TM) (h:Nat) (p b:Int):Int:=p * T.ds.getD h 0+Qv (T.cs.getD h []) T.co p+Qw T.lo T.hi p b
def Qx (T:TM) (ns:List Int) (k:Nat):Int:=((List.range k).map λh=>Lq T h (ns.getD h 0) (ns.getD (h+1) 0)).sum
def Lr (T:TM) (ns:List Int):Int:=Qx T ns ns.length-ns.getD 0 0 * T.st
structure FlOk (T:TM):Prop where
 ok:T.ok
 c:∀r∈T.cs,r.length=T.co.length/\∀c∈r,0<=c/\c<=20
 o:T.co.length<=4
 o1:∀c∈T.co,1<=c/\c<=9
 d:∀x∈T.ds,0<=x/\x<=100
 l0:0<=T.lo
 h0:0<=T.hi
 s0:0<=T.st
 l4:T.lo<=100
 h4:T.hi<=100
 s4:T.st<=100
theorem Qy {xs:List V}:Bn xs (some 1) none=xs.drop 1:=by
 have e1:HT.sIx xs.length xs.length none=xs.length:=rfl
 have e2:HT.sIx xs.length 0 (some 1)=min 1 xs.length:=HT.sIx_nat _ _ 1
 unfold Bn
 rw [e1,e2]
 cases xs with
 | nil=>rfl
 | cons a l=>rw [Nat.min_eq_left (by simp)];simp
end MF
end
section
namespace L2
open PySem PySem.Spec PyProof.Rows
theorem Qz:entryFor table "dict_itemiterator.__iter__"=some Builtin.«dict_keyiterator.__iter__»:=entryFor_alias (id':="dict_keyiterator.__iter__") (by kernel_rfl) rfl (by decide+kernel) (by kernel_rfl)
theorem QA {P:Program}{w:World}{k:Ax}{v:Value} (h:(Bk P w).is k v=true):Ay (kV k) v:=by
 rw [M8] at h
 rcases CT h with⟨i,t,rfl,rfl⟩ | ⟨x,t,rfl,rfl⟩
 ·exact⟨t,rfl⟩
 ·exact⟨t,rfl⟩
theorem KV.get {κ:Type}:∀ {ks:List (κ×V)}{vs:List (κ×Value)}{i:Nat}{q:κ×V},KV ks vs->ks[i]? =some q->∃u,vs[i]? =some (q.1,u)/\Ay q.2 u
 | _,_,_,_,.nil,e=>by simp at e
 | _,_,0,_,.cons (b:=b) r _,e=>by
  simp at e;subst e
  exact⟨b.2,by rw [r.1];rfl,r.2⟩
 | _,_,i+1,q,.cons _ t,e=>by
  obtain⟨u,h1,h2⟩:=KV.get (i:=i) (q:=q) t (by simpa using e)
  exact⟨u,by simpa using h1,h2⟩
theorem Ad.dictAt {X:Cx}{pins:List (Addr×Obj)}{σ:St}{H:Hp}{s:Shared}{d:Addr}{o:Obj}{kvs:List (Ax×V)}{es:Array DictEntry}{ep:Nat} (I:Ad X pins σ H s) (h:H d=some (.frz o (.dK kvs))) (ho:o.data= .dict es ep):
  ∃vs,KV kvs vs/\s.heap.DictAt (Bk X.prog X.w) d vs ep:=by
 obtain⟨e,_,_,vs,kv,o',es',ep',e',c,dd,r⟩:=(show ObjOk X.prog X.w H s.heap d (.frz o (.dK kvs)) from I.hok d _ h)
 rw [e] at e';cases e'
 rw [ho] at dd;cases dd
 exact⟨vs,kv,o,es,e,c,ho,r⟩
def Fq (d:Addr) (o:Obj) (kvs:List (Ax×V)):It:=
 ⟨λi H=>H d=some (.frz o (.dK kvs))/\i<kvs.length,λi H v H'=>∃T q,v= .ref T/\H T=none/\kvs[i]? =some q/\H'=upd H T (.tup [kV q.1,q.2]),λi H=>H d=some (.frz o (.dK kvs))/\kvs.length=i⟩
theorem QB {P:Program}{w:World}{K:PySem.W.Frag}{es:List Expr}{k:Nat}{pos:Pos}{o:Obj}{kvs:List (Ax×V)}{es0:Array DictEntry}{ep:Nat} (d it:Addr) (ho:o.data= .dict es0 ep) (hdi:d≠it):
  CW P w K (.Tuple es k pos) (Fq d o kvs) [it] it (λi h=>∃ok ov,IsItemIter h it d i kvs.length ep ok ov) where
 mem:=by simp
 obj:=λi h st b hb=>by
  obtain⟨ok,ov,he⟩:=st
  rw [List.mem_singleton.mp hb]
  exact⟨_,he,λv z=>by
   have z':Data.fields _=Data.cell v:=z
   cases z'⟩
 keep:=λi h h' st kk=>by obtain⟨ok,ov,he⟩:=st;exact⟨ok,ov,kk it (by simp) _ he⟩
 item:=by
  intro X hP hw hK hc i pins s σ H E I hf st hg
  subst hP hw
  obtain⟨ok,ov,he⟩:=st
  obtain⟨hd,hlt⟩:=hg
  obtain⟨vs,kv,hm⟩:=I.dictAt hd ho
  have hl:kvs.length=vs.length:=Paired.length kv
  have hq:kvs[i]? =some kvs[i]:=by simp [hlt]
  obtain⟨u,hu,ru⟩:=kv.get hq
  rw [hl] at he
  refine wpAny_pyNext_items_item he hm hu λkey h1 hkey hout htup hsz hk=>⟨_,rfl,wpAny_letOwnedTupleGo_items hout λh2 he2 hs2=>?_⟩
  have hiH:it<s.heap.objs.size:=Heap.lt_size he
  have kk:∀b ob,b ∉ [it]->s.heap.get? b=some ob->h2.get? b=some ob:=λb ob hb q=>hs2.extBut b ob (λz=>hb (by rw [z];simp)) (hk b ob (λz=>hb (by rw [z];simp)) q)
  have ht2:IsTup h2 s.heap.objs.size [key,u].toArray:=⟨_,(hs2.2 _ (Nat.ne_of_gt hiH)).trans htup,rfl,_,rfl⟩
  exact⟨.ref s.heap.objs.size,upd H s.heap.objs.size (.tup [kV kvs[i].1,kvs[i].2]),I.yielded (tk:=s.toks) (λb hb=>hf b hb) kk (Nat.le_refl _) ht2 (.cons (QA hkey) (.cons ru .nil)) (by show 2<=sizeLine;decide),rfl,
   ⟨_, kvs[i], rfl, I.hok.fresh (Nat.le_refl _), hq, rfl⟩, ⟨key, u, by rw [hl]; exact he2⟩, λb hb => by
    rw [List.mem_singleton.mp hb,As (Nat.ne_of_lt hiH)];exact(hf it (by simp)).1⟩
 done:=by
  intro X hP hw hK hc i pins s σ H E I hf st hg
  subst hP hw
  obtain⟨ok,ov,he⟩:=st
  obtain⟨hd,hlt⟩:=hg
  obtain⟨vs,kv,hm⟩:=I.dictAt hd ho
  have hl:kvs.length=vs.length:=Paired.length kv
  rw [hl] at he
  refine wpAny_pyNext_items_end (I.ok.hd hc) he hm (by rw [List.getElem?_eq_none];omega) λh' he'=>⟨rfl,I.ended (tk:=s.toks) (λb hb=>hf b hb) λb ob hb q=>he' b ob (λz=>hb (by rw [z];simp)) q⟩
 self:=λA i s Q E st h=>by
  obtain⟨ok,ov,he⟩:=st
  have hT:s.TypeIs (.ref it) "dict_itemiterator" :=⟨_,he,rfl⟩
  refine wpAny_pyIter_slot hT F.slot_dict_itemiterator_iter (wpAny_call_entry F.slot_dict_itemiterator_iter hT Qz ?_ (F.args_dict_itemiterator_iter_1 _))
  show wpAny _ _ (ret (.ref it)) _ _ s
  exact wpAny_pure ⟨_,rfl,"dict_itemiterator",_,hT,F.slot_dict_itemiterator_next.lookup,h⟩
def QC (te:TE):TI:=fun σ H R=>te σ H λx H1=>∃d o kvs,x= .ref d/\H1 d=some (.frz o (.dK kvs))/\R (Fq d o kvs) H1
theorem QD {X:Cx}{es:List Expr}{k:Nat}{pos' apos cpos:Pos}{e:Expr}{te:TE} (he:PE X e te) (hbase:attributeBase e "items" X.env (eval e X.env)=eval e X.env:=by rfl) (hline:(apos.endLine==cpos.line)=true:=by rfl):
  PI X (.Tuple es k pos') (.Call (.Attribute e "items" apos) [] [] cpos) (QC te):=by
 intro pins s σ H R I h
 refine wpAny_Call_method0_late hbase hline (Aq (he pins s σ H _ I h) λv s1 ⟨x,H1,I1,r1,d,o,kvs,ex,hd,q⟩=>?_)
 subst ex
 cases r1
 obtain⟨eo,_,hsys,vs0,kv0,hm0⟩:=(show ObjOk X.prog X.w H1 s1.heap d (.frz o (.dK kvs)) from I1.hok d _ hd)
 obtain⟨o',es0,ep,e',c,dd,r⟩:=id hm0
 have eoo:o'=o:=by rw [eo] at e';exact(Option.some.inj e').symm
 subst eoo
 refine⟨"dict","dict.items",F.plainAttrs_dict,F.slot_dict_items,F.type_dict_items,hm0.typeIs,hm0.mapOf.noDict,?_⟩
 refine method_meetsIn F.slot_dict_items F.entry_dict_items rfl (PySem.evalArgs_none ⟨rfl,hm0.typeIs,F.args_dict_items_1 _,_,meets_dict_items (Bk X.prog X.w) d hsys,⟨_,hm0⟩,?_⟩)
 have hlt:=Heap.lt_size eo
 have hz:(s1.heap.push { cls:= .type "dict_items",data:= .fields #[.ref d]}).objs.size=s1.heap.objs.size+1:=Heap.size_push ..
 have hm1:s1.heap.DictAt (Bk X.prog X.w) d vs0 ep:=⟨o',es0,eo,c,dd,r⟩
 refine wpAny_pyIter_items (knd:=Bk X.prog X.w) (d:=d) (kvs:=vs0) (ep:=ep) ⟨_,Heap.get?_push_size _ rfl,rfl,rfl⟩ (hm1.push _) ?_
 have hl:kvs.length=vs0.length:=Paired.length kv0
 dsimp only
 have kk:∀b ob,s1.heap.get? b=some ob->((s1.heap.push { cls:= .type "dict_items",data:= .fields #[.ref d]}).push { cls:= .type "dict_itemiterator",data:= .fields #[.none,.bool false,.ref d,.int 0 0,.int vs0.length 0,.int ep 0,.none,.none]}).get? b=some ob:=λb ob q=>Heap.get?_push_of_some _ (Heap.get?_push_of_some _ q)
 have hit:((s1.heap.push { cls:= .type "dict_items",data:= .fields #[.ref d]}).push { cls:= .type "dict_itemiterator",data:= .fields #[.none,.bool false,.ref d,.int 0 0,.int vs0.length 0,.int ep 0,.none,.none]}).get? (s1.heap.objs.size+1)=some { cls:= .type "dict_itemiterator",data:= .fields #[.none,.bool false,.ref d,.int 0 0,.int vs0.length 0,.int ep 0,.none,.none]}:=by
  rw [<-hz];exact Heap.get?_push_size _ rfl
 rw [hz]
 generalize(s1.heap.push { cls:= .type "dict_items",data:= .fields #[.ref d]}).push { cls:= .type "dict_itemiterator",data:= .fields #[.none,.bool false,.ref d,.int 0 0,.int vs0.length 0,.int ep 0,.none,.none]}=h2 at kk hit
 refine⟨s1.heap.objs.size+1,[s1.heap.objs.size+1],_,_,H1,rfl,I1.kept (t':=s1.toks) kk,QB (o:=o') (kvs:=kvs) d (s1.heap.objs.size+1) dd (Nat.ne_of_lt (Nat.lt_succ_of_lt hlt)),⟨.none,.none,by rw [hl];exact hit⟩,λb hb=>?_,q⟩
 rw [List.mem_singleton.mp hb];exact I1.fpOk (Nat.le_succ _) (I1.hok.fresh (Nat.le_succ _))
end L2
end
section
namespace L2
open PySem PySem.Spec PyProof.Rows
abbrev KL:=List (Ax×V)
section
variable {prog : Program} {w : World} {A : Around} {R : Result -> Shared -> Prop} {s : Shared} {kx vx tg it : Expr} {ifs : List Expr} {sc : Scope} {ps : Pos} {itv : Value} {D : Addr} {env : Env}
end
structure GrownD (Y:Cx) (a:Addr) (PB:List (Addr×Obj)) (σ:St) (zs:KL) (H:Hp) (s:Shared):Prop where
 inv:Ad Y PB σ H s
 no:H a=none
 len:zs.length<=sizeLine
 at':∃o vs,s.heap.get? a=some o/\KV zs vs/\s.heap.DictOf (Bk Y.prog Y.w) a vs
section
variable {prog : Program} {w : World} {A : Around} {E : Value -> Shared -> Prop} {s : Shared}
end
section
variable {X : Cx} {tg : Expr}
theorem Ad.trackN {pins:List (Addr×Obj)}{σ:St}{H:Hp}{s:Shared}{a:Addr}{h':Heap}{tk:Nat}{u:HO} (I:Ad X pins σ H s) (hf:BD X pins H a)
  (k:∀b o,b≠a->s.heap.get? b=some o->h'.get? b=some o) (ha:∃o,h'.get? a=some o) (ok:ObjOk X.prog X.w (upd H a u) h' a u):Ad X pins σ (upd H a u) { s with heap:=h',toks:=tk}:=by
 have hfr:H a=none:=hf.1
 have nT:∀b u,H b=some u->b≠a:=λb u e=>Bh e hfr
 refine I.step (g':=s.gens) (d':=s.drawn) (ch:=[a]) (λb hb=>by rw [List.mem_singleton.mp hb];exact⟨hf.2.2.2.1,hf.2.1,hf.2.2.2.2.1,hf.2.2.2.2.2⟩) (λb o _ _ hc e _=>k b o (λz=>hc (by rw [z];simp)) e) (λb o _ _ hc e _=>⟨o.slots,k b o (λz=>hc (by rw [z];simp)) e⟩)
  (λb o hc e n=>by rw [As (λz=>hc (by rw [z];simp))];exact n) (λb o hc e=>⟨o,k b o (λz=>hc (by rw [z];simp)) e⟩) (λb xs e=>by rw [As (nT b _ e)];exact e) (λb o xs e=>by rw [As (nT b _ e)];exact e) (λb ps e=>⟨#[],by rw [As (nT b _ e),e];simp⟩) (λm hm=>?_) (λb v e=>?_) I.bare
 ·obtain⟨o,es,ep,ho,r⟩:=hm
  exact⟨o,es,ep,k _ o (λz=>hf.2.1 z.symm) ho,r⟩
 ·by_cases hb:b=a
  ·subst hb
   rw [Ah] at e;cases e
   exact ok
  ·rw [As hb] at e
   refine(I.hok b v e).stay (λc v hc q=>k c v ?_ q) (λc q=>by rw [As (nT c _ q)];exact q) λc xs q=>by rw [As (nT c _ q)];exact q
   rcases hc with z | z
   ·rw [z];exact hb
   ·exact nT c _ z
end
end L2
end
section
namespace L2
open PySem PySem.Spec PyProof.Rows SeqAt
def QE (op:CmpOp) (A:Around) (s:Shared) (y x:Value) (b:Bool):Prop:=
 ∀(P:Program) (w:World) (E Q:Value->Shared->Prop),Q (.bool b) s->wpAny (model P w) A (richCompare op y x) Q E s
inductive GG (op:CmpOp) (A:Around) (s:Shared) (last:Bool):List (Value×Value)->Bool->Prop
 | none:GG op A s last [] last
 | same {x y:Value}{ps:List (Value×Value)}{r:Bool}:EqAt A s x y true->GG op A s last ps r->GG op A s last ((x,y)::ps) r
 | unlike {x y:Value}{ps:List (Value×Value)}{r:Bool}:EqAt A s x y false->QE op A s x y r->GG op A s last ((x,y)::ps) r
inductive Ls:PyData->PyData->Prop
 | int (a b:Int):Ls (.int a) (.int b)
 | row (as bs:List Int):Ls (.tuple (as.map .int)) (.tuple (bs.map .int))
end L2
end
section
namespace MF
open PySem PySem.Spec PyProof.Rows L2
def I9 (T:TM):Nat->List Int->Int
 | _,[]=>0
 | h,p::r=>Lq T h p (r.headD 0)+I9 T (h+1) r
def Fr (T:TM) (ps:List Int):Prop:=∀x∈ps,x∈0::T.co
structure QF (T:TM) (h:Nat) (x f:Int) (ps:List Int):Prop where
 len:ps.length=T.ds.length-h
 val:f=I9 T h ps
 hd:ps.headD 0=x
 as:Fr T ps
 AD:∀qs:List Int,qs.length=T.ds.length-h->Fr T qs->qs.headD 0=x->I9 T h qs<=f
def QG (T:TM) (h:Nat) (x:Int):Prop:=if h=T.ds.length then x=0 else x∈0::T.co
structure HiFl (T:TM) (f:Int) (ps:List Int):Prop where
 val:f=Lr T ps
 len:ps.length=T.ds.length
 as:Fr T ps
 AD:∀qs:List Int,qs.length=T.ds.length->Fr T qs->Lr T qs<=f
abbrev QH (f:Int) (ps:List Int):PyData:= .tuple [.int f,AN ps]
structure TailsAt (p:Addr) (H:Hp) (T:TM) (h:Nat) (kvs:KL):Prop where
 one:∀q∈kvs,∃x f ps,q.1= .inl x/\Aa p H (QH f ps) q.2/\QF T h x f ps
 all:∀x,QG T h x->∃q∈kvs,q.1= .inl x
end MF
namespace MF
open PySem PySem.Spec PyProof.Rows L2
end MF
end
section
namespace MF
open PySem PySem.Spec PyProof.Rows L2
theorem QI {n f l:Nat} (h:f<=l) (hl:l<n):(f,l)∈Cv n n:=by
 unfold Cv
 refine List.mem_flatten.mpr ⟨C8 f (n-f),List.mem_map.mpr ⟨f,List.mem_range.mpr (by omega),rfl⟩,?_⟩
 unfold C8
 exact List.mem_map.mpr ⟨l-f,List.mem_range.mpr (by omega),by show(f,f+(l-f))=(f,l);rw [show f+(l-f)=l by omega]⟩
theorem QJ {T:TM}:AT T=none↔ ∀f l,f<=l->l<T.ds.length->C7 T f l=false:=by
 unfold AT
 rw [List.head?_eq_none_iff]
 unfold EE
 rw [List.filter_eq_nil_iff]
 constructor
 ·intro h f l hf hl
  have:=h (f,l) (QI hf hl)
  simpa using this
 ·intro h q hq
  obtain⟨h1,h2⟩:=Li (Nat.le_refl _) q hq
  rw [h q.1 q.2 h1 h2]
  exact Bool.false_ne_true
theorem Ja:∀ {xs ys:List Int},xs.length=ys.length->(∀i,xs.getD i 0<=ys.getD i 0)->xs.sum<=ys.sum
 | [],[],_,_=>Int.le_refl _
 | [],_::_,h,_=>by simp at h
 | _::_,[],h,_=>by simp at h
 | x::xs,y::ys,h,g=>by
  have h0:x<=y:=g 0
  have:=Ja (xs:=xs) (ys:=ys) (by simpa using h) λi=>g (i+1)
  rw [List.sum_cons,List.sum_cons]
  omega
end MF
end
section
namespace MF
open PySem PySem.Spec PyProof.Rows L2
variable {T : TM} {a : Int} {P : PL} {S : SY} {F : List (List Int)} {i : Nat}
def mx (a b:Int):Int:=if a<b then b else a
def EF (T:TM):Nat->Int
 | 0=>T.lo
 | j+1=>mx T.lo (EF T j+T.ds.getD (T.ds.length-1-j) 0-(T.cs.getD (T.ds.length-1-j) []).sum)
def lz (T:TM) (j:Nat):Int:=EF T (T.ds.length-j)
def Ee (T:TM):List Int:=(List.range T.ds.length).map λk=>lz T (k+1)
theorem Lu:lz T T.ds.length=T.lo:=by unfold lz;rw [Nat.sub_self];rfl
theorem EG {j:Nat} (h:j<T.ds.length):lz T j=mx T.lo (lz T (j+1)+T.ds.getD j 0-(T.cs.getD j []).sum):=by
 unfold lz
 rw [show T.ds.length-j=(T.ds.length-(j+1))+1 from by omega]
 show mx T.lo _=_
 rw [show T.ds.length-1-(T.ds.length-(j+1))=j from by omega]
theorem QK {b:Int}:a<=mx a b:=by unfold mx;split<;>omega
theorem GH {b:Int}:b<=mx a b:=by unfold mx;split<;>omega
theorem Lv {b c:Int} (h1:a<=c) (h2:b<=c):mx a b<=c:=by unfold mx;split<;>omega
theorem GI:∀ {j:Nat},T.lo<=lz T j:=by
 intro j
 unfold lz
 cases T.ds.length-j with
 | zero=>exact Int.le_refl _
 | succ k=>exact QK
theorem Lw:Av P S F (i+1)<=Bf P S F i/\Av P S F (i+1)<=P.hi:=by
 rw [Dk];unfold CJ;split<;>omega
theorem Lx {x:Int} (h1:x<=Bf P S F i) (h2:x<=P.hi):x<=Av P S F (i+1):=by
 rw [Dk];unfold CJ;split<;>omega
theorem GJ {r:List Int}{b:Nat} (h:b<r.length):r[b]? =some (r.getD b 0):=by rw [List.getD_eq_getElem?_getD,List.getElem?_eq_getElem h];rfl
theorem Ly {l:List Int}{k:Nat} (h:l.length<=k):l.getD k 0=0:=by rw [List.getD_eq_getElem?_getD,List.getElem?_eq_none h];rfl
end MF
end
section
namespace MF
open PySem PySem.Spec PyProof.Rows L2
structure Gr (T:TM) (f:List (List Int)) (ms:List Int):Prop where
 lf:f.length=T.ds.length
 row:∀i,i<f.length->(f.getD i []).length=T.co.length
 bd:∀i b,i<f.length->b<T.co.length->0<=(f.getD i []).getD b 0/\(f.getD i []).getD b 0<=(T.cs.getD i []).getD b 0
 lm:ms.length=T.ds.length
 ms:∀k,k<ms.length->ms.getD k 0=(if k=0 then T.st else ms.getD (k-1) 0)+(f.getD k []).sum-T.ds.getD k 0
def raised (ms:List Int) (a e:Nat) (m:Int):List Int:=(List.range ms.length).map λk=>if a<=k/\k<e then ms.getD k 0+m else ms.getD k 0
def Lz:List Int->List Int->Int
 | f::fs,o::os=>o * f+Lz fs os
 | _,_=>0
structure GoodAt (P:PL) (S:SY) (F:List (List Int)) (ns:List Int) (h:Nat):Prop where
 b:∀b,b<P.bs.length->((P.bs.getD b (0,0)).2<ns.getD h 0->(F.getD h []).getD b 0=((caps P S).getD h []).getD b 0)/\(ns.getD h 0<(P.bs.getD b (0,0)).2->(F.getD h []).getD b 0=0)
 up:ns.getD h 0<ns.getD (h+1) 0->Av P S F (h+1)=P.hi
 dn:ns.getD (h+1) 0<ns.getD h 0->Av P S F (h+1)=P.lo
 bl:0<ns.getD h 0->CJ P.hi (Bf P S F h)=0
structure Opt (T:TM) (f:List (List Int)) (ms:List Int) (h:Nat) (ps:List Int):Prop where
 len:ps.length=T.ds.length
 as:Fr T ps
 z:∀k,h<k->ps.getD k 0=0
 b:∀k b,k<T.ds.length->b<T.co.length->(T.co.getD b 0<ps.getD k 0->(f.getD k []).getD b 0=(T.cs.getD k []).getD b 0)/\(ps.getD k 0<T.co.getD b 0->(f.getD k []).getD b 0=0)
 up:∀k,k<h->ps.getD k 0<ps.getD (k+1) 0->ms.getD k 0=T.hi
 dn:∀k,k<h->ps.getD (k+1) 0<ps.getD k 0->ms.getD k 0=T.lo
 hi:∀k,k<T.ds.length->ms.getD k 0<=T.hi
 mon:∀k,h<=k->k+1<T.ds.length->ms.getD (k+1) 0<=ms.getD k 0
end MF
end
section
namespace MF
open PySem PySem.Spec PyProof.Rows L2
variable {t amt : List (Int × Int)} {j v : Int} {L : Int × Int -> Prop} {i : Nat} {a : Int × Int}
def Bj (t:List (Int×Int)) (k:Int):Option Int:=(t.find? λq=>decide (q.1=k)).map (·.2)
def CK (t:List (Int×Int)) (k v:Int):List (Int×Int):=if (t.any λq=>decide (q.1=k))=true then t.map (λq=>if q.1=k then(q.1,v) else q) else t++[(k,v)]
def GK (t:List (Int×Int)) (k v:Int):List (Int×Int):=CK t k (min v ((Bj t k).getD v))
theorem CP {p:Int×Int}{r:List (Int×Int)}{k:Int} (e:p.1=k):Bj (p::r) k=some p.2:=by simp [Bj,List.find?_cons,e]
theorem C9 {p:Int×Int}{r:List (Int×Int)}{k:Int} (e:¬p.1=k):Bj (p::r) k=Bj r k:=by simp [Bj,List.find?_cons,e]
theorem Jb {k w:Int}:Bj t k=some w->(k,w)∈t:=by
 induction t with
 | nil=>intro h;cases h
 | cons p r ih=>
  intro h
  by_cases e:p.1=k
  ·rw [CP e] at h;cases h;rw [<-e];exact List.mem_cons_self
  ·rw [C9 e] at h;exact List.mem_cons_of_mem _ (ih h)
theorem LA {k:Int}:(t.any λq=>decide (q.1=k))=(Bj t k).isSome:=by
 induction t with
 | nil=>rfl
 | cons p r ih=>
  rw [List.any_cons]
  by_cases e:p.1=k
  ·rw [CP e,decide_eq_true e];rfl
  ·rw [C9 e,decide_eq_false e,Bool.false_or];exact ih
theorem QL {k:Int}:Bj (t.map λq=>if q.1=k then(q.1,v) else q) j=(Bj t j).map λx=>if j=k then v else x:=by
 induction t with
 | nil=>rfl
 | cons p r ih=>
  rw [List.map_cons]
  by_cases h:p.1=k
  ·rw [if_pos h]
   by_cases e:p.1=j
   ·rw [CP (p:=(p.1,v)) e,CP e,Option.map_some,if_pos (e.symm.trans h)]
   ·rw [C9 (p:=(p.1,v)) e,C9 e,ih]
  ·rw [if_neg h]
   by_cases e:p.1=j
   ·rw [CP (p:=p) e,CP e,Option.map_some,if_neg (λz=>h (e.trans z))]
   ·rw [C9 (p:=p) e,C9 e,ih]
theorem QM {k:Int}:Bj t k=none->Bj (t++[(k,v)]) j=if j=k then some v else Bj t j:=by
 induction t with
 | nil=>
  intro _
  by_cases e:k=j
  ·rw [if_pos e.symm];exact CP (p:=(k,v)) e
  ·rw [if_neg (λz=>e z.symm)];exact C9 (p:=(k,v)) e
 | cons p r ih=>
  intro hn
  rw [List.cons_append]
  have hk:¬p.1=k:=λz=>by rw [CP z] at hn;cases hn
  rw [C9 hk] at hn
  by_cases e:p.1=j
  ·rw [CP e,CP e,if_neg (λz=>hk (e.trans z))]
  ·rw [C9 e,C9 e,ih hn]
theorem QN {k:Int}:Bj (CK t k v) j=if j=k then some v else Bj t j:=by
 unfold CK
 by_cases a:(t.any λq=>decide (q.1=k))=true
 ·rw [if_pos a,QL]
  rw [LA] at a
  by_cases e:j=k
  ·obtain⟨x,hx⟩:=Option.isSome_iff_exists.mp a
   rw [if_pos e,e,hx,Option.map_some,if_pos rfl]
  ·rw [if_neg e]
   cases Bj t j with
   | none=>rfl
   | some x=>rw [Option.map_some,if_neg e]
 ·rw [if_neg a]
  refine QM ?_
  rw [LA] at a
  cases q:Bj t k with
  | none=>rfl
  | some x=>rw [q] at a;exact(a rfl).elim
theorem QO {k:Int}:(CK t k v).map (·.1)=if (t.any λq=>decide (q.1=k))=true then t.map (·.1) else t.map (·.1)++[k]:=by
 unfold CK
 by_cases a:(t.any λq=>decide (q.1=k))=true
 ·rw [if_pos a,if_pos a,List.map_map]
  refine List.map_congr_left λq _=>?_
  show(if q.1=k then(q.1,v) else q).1=q.1
  split<;>rfl
 ·rw [if_neg a,if_neg a,List.map_append];rfl
theorem QP {k:Int}{q:Int×Int} (h:q∈CK t k v):q=(k,v)\/q∈t:=by
 unfold CK at h
 split at h
 ·obtain⟨p,hp,e⟩:=List.mem_map.mp h
  split at e
  ·rename_i z;rw [<-e,z];exact .inl rfl
  ·rw [<-e];exact .inr hp
 ·rcases List.mem_append.mp h with h | h
  ·exact .inr h
  ·exact .inl (List.mem_singleton.mp h)
structure Mn (L:Int×Int->Prop) (t:List (Int×Int)):Prop where
 snd:∀q∈t,L q
 cmp:∀q,L q->∃w,Bj t q.1=some w/\w<=q.2
 nd:(t.map (·.1)).Nodup
theorem Mn.nil (h:∀q,¬L q):Mn L []:=⟨λq z=>(by cases z),λq z=>(h q z).elim,List.nodup_nil⟩
theorem Mn.one {k:Int} (h:∀q,L q↔q=(k,v)):Mn L [(k,v)]:=⟨λq z=>(h q).mpr (List.mem_singleton.mp z),λq z=>by rw [(h q).mp z];exact⟨v,CP rfl,Int.le_refl _⟩,by simp⟩
theorem Mn.congr {L':Int×Int->Prop} (m:Mn L t) (h:∀q,L q↔L' q):Mn L' t:=⟨λq z=>(h q).mp (m.snd q z),λq z=>m.cmp q ((h q).mpr z),m.nd⟩
theorem Mn.put (m:Mn L t) (k v:Int):Mn (λq=>L q\/q=(k,v)) (GK t k v):=by
 unfold GK
 have hy:L (k,min v ((Bj t k).getD v))\/min v ((Bj t k).getD v)=v:=by
  cases e:Bj t k with
  | none=>exact .inr (by show min v v=v;omega)
  | some x=>
   show L (k,min v x)\/min v x=v
   by_cases c:v<=x
   ·exact .inr (by omega)
   ·rw [show min v x=x by omega];exact .inl (m.snd _ (Jb e))
 refine⟨λq hq=>?_,λq hq=>?_,?_⟩
 ·rcases QP hq with e | h
  ·rw [e]
   rcases hy with h | h
   ·exact .inl h
   ·rw [h];exact .inr rfl
  ·exact .inl (m.snd q h)
 ·rw [QN]
  by_cases e:q.1=k
  ·rw [if_pos e]
   refine⟨_,rfl,?_⟩
   rcases hq with h | h
   ·obtain⟨w,hw,le⟩:=m.cmp q h
    rw [<-e,hw];show min v w<=q.2;omega
   ·rw [h];show min v _<=v;omega
  ·rw [if_neg e]
   rcases hq with h | h
   ·exact m.cmp q h
   ·rw [h] at e;exact(e rfl).elim
 ·rw [QO]
  split
  ·exact m.nd
  ·rename_i a
   refine List.nodup_append.mpr ⟨m.nd,by simp,λx hx y hy e=>?_⟩
   rw [List.mem_singleton.mp hy] at e
   subst e
   obtain⟨q,hq,rfl⟩:=List.mem_map.mp hx
   exact a (List.any_eq_true.mpr ⟨q,hq,decide_eq_true rfl⟩)
theorem LB:∀(B:Nat) (l:List Int),l.Nodup->(∀x∈l,0<=x/\x<B)->l.length<=B
 | 0,l,_,h=>by
  cases l with
  | nil=>exact Nat.le_refl _
  | cons x _=>have:=h x List.mem_cons_self;omega
 | B+1,l,nd,h=>by
  have ih:=LB B (l.filter λx=>decide (x≠B)) (nd.filter _) λx hx=>by
   have a:=h x (List.mem_filter.mp hx).1
   have b:=of_decide_eq_true (List.mem_filter.mp hx).2
   omega
  have one:∀l:List Int,l.Nodup->l.length<=(l.filter λx=>decide (x≠(B:Int))).length+1:=by
   intro l
   induction l with
   | nil=>intro _;exact Nat.zero_le _
   | cons x r ihr=>
    intro nd
    obtain⟨n1,n2⟩:=List.nodup_cons.mp nd
    by_cases e:x=B
    ·have:r.filter (λx=>decide (x≠(B:Int)))=r:=List.filter_eq_self.mpr λy hy=>decide_eq_true λz=>n1 (by rw [e,<-z];exact hy)
     rw [List.filter_cons_of_neg (by simpa using e),this];exact Nat.le_refl _
    ·rw [List.filter_cons_of_pos (by simpa using e)]
     have:=ihr n2
     simp only [List.length_cons];omega
  have:=one l nd
  omega
theorem Mn.len (m:Mn L t) (b:∀q,L q->0<=q.1/\q.1<=100):t.length<=101:=by
 have:=LB 101 (t.map (·.1)) m.nd λx hx=>by
  obtain⟨q,hq,rfl⟩:=List.mem_map.mp hx
  have:=b q (m.snd q hq);show 0<=q.1/\q.1<101;omega
 rwa [List.length_map] at this
def Att (cs os:List Int) (k:Nat) (q:Int×Int):Prop:=∃r:List Int,r.length=k/\(∀b,b<k->0<=r.getD b 0/\r.getD b 0<=cs.getD b 0)/\q=(r.sum,Lz r (os.take k))
def LsL (lo hi d:Int) (got amt:List (Int×Int)) (i j:Nat) (q:Int×Int):Prop:=∃(i' j':Nat) (g a:Int×Int),got[i']? =some g/\amt[j']? =some a/\lo<=min hi (g.1+a.1-d)/\q=(min hi (g.1+a.1-d),g.2+a.2)/\(i'<i\/i'=i/\j'<j)
theorem LsL.zero {lo hi d:Int}{got:List (Int×Int)} (q:Int×Int):¬LsL lo hi d got amt 0 0 q:=fun⟨_,_,_,_,_,_,_,_,h⟩=>by omega
theorem LsL.step {lo hi d:Int}{got:List (Int×Int)}{j:Nat}{g:Int×Int} (hg:got[i]? =some g) (ha:amt[j]? =some a) (le:lo<=min hi (g.1+a.1-d)) (q:Int×Int):LsL lo hi d got amt i j q\/q=(min hi (g.1+a.1-d),g.2+a.2) ↔LsL lo hi d got amt i (j+1) q:=by
 constructor
 ·rintro(⟨i',j',g',a',h1,h2,h3,h4,h5⟩ | h)
  ·exact⟨i',j',g',a',h1,h2,h3,h4,by omega⟩
  ·exact⟨i,j,g,a,hg,ha,le,h,by omega⟩
 ·rintro⟨i',j',g',a',h1,h2,h3,h4,h5⟩
  by_cases c:i'=i/\j'=j
  ·obtain⟨rfl,rfl⟩:=c
   rw [hg] at h1;cases h1
   rw [ha] at h2;cases h2
   exact .inr h4
  ·exact .inl ⟨i',j',g',a',h1,h2,h3,h4,by omega⟩
theorem LsL.skip {lo hi d:Int}{got:List (Int×Int)}{j:Nat}{g:Int×Int} (hg:got[i]? =some g) (ha:amt[j]? =some a) (le:¬lo<=min hi (g.1+a.1-d)) (q:Int×Int):LsL lo hi d got amt i j q↔LsL lo hi d got amt i (j+1) q:=by
 constructor
 ·rintro⟨i',j',g',a',h1,h2,h3,h4,h5⟩
  exact⟨i',j',g',a',h1,h2,h3,h4,by omega⟩
 ·rintro⟨i',j',g',a',h1,h2,h3,h4,h5⟩
  by_cases c:i'=i/\j'=j
  ·obtain⟨rfl,rfl⟩:=c
   rw [hg] at h1;cases h1
   rw [ha] at h2;cases h2
   exact(le h3).elim
  ·exact⟨i',j',g',a',h1,h2,h3,h4,by omega⟩
theorem LsL.turn {lo hi d:Int}{got:List (Int×Int)} (q:Int×Int):LsL lo hi d got amt i amt.length q↔LsL lo hi d got amt (i+1) 0 q:=by
 constructor
 ·rintro⟨i',j',g,a,h1,h2,h3,h4,h5⟩
  exact⟨i',j',g,a,h1,h2,h3,h4,by omega⟩
 ·rintro⟨i',j',g,a,h1,h2,h3,h4,h5⟩
  have:=(List.getElem?_eq_some_iff.mp h2).1
  exact⟨i',j',g,a,h1,h2,h3,h4,by omega⟩
theorem LC {hi m:Int}:m-CJ hi m=min hi m:=by unfold CJ;split<;>omega
theorem LD {B:Int}:∀ {r:List Int},(∀x∈r,0<=x/\x<=B)->0<=r.sum/\r.sum<=B * r.length
 | [],_=>by show(0:Int)<=0/\(0:Int)<=B * 0;omega
 | x::r,h=>by
  have ih:=LD (r:=r) λy hy=>h y (List.mem_cons_of_mem _ hy)
  have hx:=h x List.mem_cons_self
  have e:B *((x::r).length:Int)=B *(r.length:Int)+B:=by
   rw [List.length_cons,Int.natCast_succ,Int.mul_add,Int.mul_one]
  show 0<=x+r.sum/\x+r.sum<=B *((x::r).length:Int)
  rw [e];omega
end MF
end
section
namespace MF
open PySem PySem.Spec PyProof.Rows L2
variable {α : Type} {xs : List α} {T : TM} {sp : Nat -> Int} {j : Nat}
theorem LE {f l:Nat} (h:f<=l) (hl:l<xs.length):part xs f l=xs[f]'(by omega)::part xs (f+1) l:=by
 unfold part
 rw [List.drop_eq_getElem_cons (show f<xs.length by omega),show l+1-f=(l+1-(f+1))+1 from by omega,List.take_succ_cons]
theorem LF {f:Nat}:part xs (f+1) f=[]:=by unfold part;simp
def sm (T:TM) (f l:Nat):Int:=GD T f l-most T f l
theorem GL {T:TM} (lc:T.cs.length=T.ds.length) {f l:Nat} (h:f<=l) (hl:l<T.ds.length):sm T f l=T.ds.getD f 0-(T.cs.getD f []).sum+sm T (f+1) l:=by
 unfold sm GD most
 rw [LE h hl,LE h (by omega:l<T.cs.length),List.map_cons,List.sum_cons,List.sum_cons]
 rw [List.getD_eq_getElem?_getD,List.getElem?_eq_getElem (by omega),List.getD_eq_getElem?_getD,List.getElem?_eq_getElem (by omega)]
 show _-_=T.ds[f]'(by omega)-(T.cs[f]'(by omega)).sum+_
 omega
theorem LG {f:Nat}:sm T (f+1) f=0:=by unfold sm GD most;rw [LF,LF];rfl
theorem QQ (lc:T.cs.length=T.ds.length):∀k f,f+k<T.ds.length->T.lo+sm T f (f+k)<=lz T f:=by
 intro k
 induction k with
 | zero=>
  intro f h
  show T.lo+sm T f f<=_
  rw [GL (f:=f) (l:=f) lc (Nat.le_refl _) h,LG,EG (by omega)]
  have:=GI (T:=T) (j:=f+1)
  refine Int.le_trans ?_ GH
  omega
 | succ k ih=>
  intro f h
  rw [GL lc (by omega) h,EG (by omega)]
  have:=ih (f+1) (by omega)
  rw [show f+1+k=f+(k+1) from by omega] at this
  refine Int.le_trans ?_ GH
  omega
theorem LH (lc:T.cs.length=T.ds.length):∀k f (X:Int),f+k=T.ds.length->T.lo<=X->(∀l,f<=l->l<T.ds.length->T.lo+sm T f l<=X)->lz T f<=X:=by
 intro k
 induction k with
 | zero=>intro f X e h _;rw [show f=T.ds.length from by omega,Lu];exact h
 | succ k ih=>
  intro f X e h hl
  rw [EG (by omega)]
  refine Lv h ?_
  have h0:=hl f (Nat.le_refl _) (by omega)
  rw [GL lc (Nat.le_refl _) (by omega),LG] at h0
  have:=ih (f+1) (X-T.ds.getD f 0+(T.cs.getD f []).sum) (by omega) (by omega) λl h1 h2=>by
   have:=hl l (by omega) h2
   rw [GL lc (by omega) h2] at this
   omega
  omega
theorem QR (lc:T.cs.length=T.ds.length) (h1:T.lo<=T.st) (h2:T.lo<=T.hi):AT T=none↔lz T 0<=T.st/\∀j,1<=j->j<=T.ds.length->lz T j<=T.hi:=by
 rw [QJ]
 have tm:∀f l,C7 T f l=false↔T.lo+sm T f l<=(if f=0 then T.st else T.hi):=λf l=>by
  unfold C7 sm
  rw [decide_eq_false_iff_not]
  omega
 constructor
 ·intro h
  refine⟨LH lc T.ds.length 0 _ (by omega) h1 λl _ hl=>?_,λj hj hn=>LH lc (T.ds.length-j) j _ (by omega) h2 λl hjl hl=>?_⟩
  ·have:=(tm 0 l).mp (h 0 l (by omega) hl)
   rw [if_pos rfl] at this;exact this
  ·have:=(tm j l).mp (h j l hjl hl)
   rw [if_neg (by omega)] at this;exact this
 ·intro⟨a,b⟩ f l hf hl
  refine(tm f l).mpr ?_
  have g:=QQ lc (l-f) f (by omega)
  rw [show f+(l-f)=l from by omega] at g
  by_cases e:f=0
  ·rw [if_pos e];subst e;omega
  ·rw [if_neg e]
   have:=b f (by omega) (by omega)
   omega
def xM (hi st:Int) (b d x:Nat->Int):Nat->Int
 | 0=>st
 | j+1=>min hi (xM hi st b d x j+(b j+x j)-d j)
def xC (x:Nat->Int):Nat->Int
 | 0=>0
 | j+1=>xC x j+x j
def Fs (lo hi st:Int) (b d sp x:Nat->Int) (j:Nat):Prop:=∀i,i<j->0<=x i/\x i<=sp i/\lo<=xM hi st b d x (i+1)
def Xp (lo hi st:Int) (b d sp:Nat->Int) (j:Nat) (q:Int×Int):Prop:=∃x,Fs lo hi st b d sp x j/\q=(xM hi st b d x j,xC x j)
theorem Jc {hi st:Int}{b d x y:Nat->Int}:∀j,(∀i,i<j->x i=y i)->xM hi st b d x j=xM hi st b d y j
 | 0,_=>rfl
 | j+1,h=>by
  show min hi _=min hi _
  rw [Jc j λi hi=>h i (by omega),h j (by omega)]
theorem LI {x y:Nat->Int}:∀j,(∀i,i<j->x i=y i)->xC x j=xC y j
 | 0,_=>rfl
 | j+1,h=>by
  show xC x j+x j=xC y j+y j
  rw [LI j λi hi=>h i (by omega),h j (by omega)]
theorem Xp.zero {lo hi st:Int}{b d:Nat->Int} (q:Int×Int):Xp lo hi st b d sp 0 q↔q=(st,0):=⟨fun⟨_,_,e⟩=>e,λe=>⟨λ_=>0,λi hi=>absurd hi (Nat.not_lt_zero _),e⟩⟩
def DQ (b:Int) (n:Nat):List (Int×Int):=(List.range n).map fun(k:Nat)=>(b+(k:Int),(k:Int))
theorem Jd {b:Int}{n:Nat} (h:j<n):(DQ b n)[j]? =some (b+(j:Int),(j:Int)):=by unfold DQ;rw [List.getElem?_map,List.getElem?_range h];rfl
theorem LJ {b:Int}{n:Nat}:(DQ b n).length=n:=by unfold DQ;simp
theorem Mn.hourX {lo hi st:Int}{b d:Nat->Int}{n:Nat} (hn:(n:Int)=sp j+1) {got more:List (Int×Int)} (m:Mn (Xp lo hi st b d sp j) got) (m2:Mn (LsL lo hi (d j) got (DQ (b j) n) got.length 0) more):Mn (Xp lo hi st b d sp (j+1)) more:=by
 refine⟨λq hq=>?_,λq hq=>?_,m2.nd⟩
 ·obtain⟨i',j',g,a,h1,h2,h3,h4,h5⟩:=m2.snd q hq
  obtain⟨x,f1,f2⟩:=m.snd g (List.mem_of_getElem? h1)
  have hj':j'<n:=by have:=(List.getElem?_eq_some_iff.mp h2).1;rw [LJ] at this;exact this
  rw [Jd hj'] at h2
  have ea:a=(b j+(j':Int),(j':Int)):=(Option.some.inj h2).symm
  have eb:∀i,i<j->(λk=>if k=j then(j':Int) else x k) i=x i:=λi hi'=>if_neg (by omega)
  have em:xM hi st b d (λk=>if k=j then(j':Int) else x k) j=xM hi st b d x j:=Jc j eb
  have ec:xC (λk=>if k=j then(j':Int) else x k) j=xC x j:=LI j eb
  have e1:xM hi st b d (λk=>if k=j then(j':Int) else x k) (j+1)=min hi (g.1+a.1-d j):=by
   show min hi (xM hi st b d _ j+(b j+if j=j then(j':Int) else x j)-d j)=_
   rw [em,if_pos rfl,f2,ea]
  have e2:xC (λk=>if k=j then(j':Int) else x k) (j+1)=g.2+a.2:=by
   show xC _ j+(if j=j then(j':Int) else x j)=_
   rw [ec,if_pos rfl,f2,ea]
  refine⟨_,λi hi'=>?_,by rw [h4,e1,e2]⟩
  by_cases e:i=j
  ·subst e
   rw [e1]
   exact⟨by rw [if_pos rfl];omega,by rw [if_pos rfl];omega,h3⟩
  ·have:=f1 i (by omega)
   rw [Jc (x:=λk=>if k=j then(j':Int) else x k) (y:=x) (i+1) λk hk=>if_neg (by omega)]
   rw [if_neg e]
   exact this
 ·obtain⟨x,f1,f2⟩:=hq
  obtain⟨w,hw,le⟩:=m.cmp (xM hi st b d x j,xC x j) ⟨x,λi hi'=>f1 i (by omega),rfl⟩
  obtain⟨i',hi',ei⟩:=List.mem_iff_getElem.mp (Jb hw)
  have fj:=f1 j (by omega)
  have hk:(x j).toNat<n:=by omega
  have ek:(((x j).toNat:Nat):Int)=x j:=by omega
  obtain⟨w3,hw3,le3⟩:=m2.cmp (xM hi st b d x (j+1),w+x j) ⟨i',(x j).toNat,_,_,by rw [List.getElem?_eq_getElem hi',ei],Jd hk,by
   show lo<=min hi (xM hi st b d x j+(b j+(((x j).toNat:Nat):Int))-d j)
   rw [ek];exact fj.2.2,by
   show _=(min hi (xM hi st b d x j+(b j+(((x j).toNat:Nat):Int))-d j),w+(((x j).toNat:Nat):Int))
   rw [ek];rfl,.inl hi'⟩
  refine⟨w3,by rw [f2];exact hw3,?_⟩
  rw [f2]
  show w3<=xC x j+x j
  have l1:w<=xC x j:=le
  have l3:w3<=w+x j:=le3
  omega
def EH (t:List (Int×Int)) (k v:Int):List (Int×Int):=if v<(Bj t k).getD 1000000000 then CK t k v else t
theorem Mn.less {L:Int×Int->Prop}{t:List (Int×Int)} (m:Mn L t) (k v:Int) (h9:v<1000000000):Mn (λq=>L q\/q=(k,v)) (EH t k v):=by
 unfold EH
 split
 ·rename_i c
  have e:GK t k v=CK t k v:=by
   unfold GK
   cases z:Bj t k with
   | none=>show CK t k (min v v)=_;rw [show min v v=v from by omega]
   | some x=>rw [z] at c;show CK t k (min v x)=_;rw [show min v x=v from by have:v<x:=c;omega]
  rw [<-e];exact m.put k v
 ·rename_i c
  refine⟨λq hq=> .inl (m.snd q hq),λq hq=>?_,m.nd⟩
  rcases hq with h | h
  ·exact m.cmp q h
  ·subst h
   cases z:Bj t k with
   | none=>rw [z] at c;exact absurd h9 c
   | some x=>rw [z] at c;exact⟨x,rfl,by have:¬v<x:=c;show x<=v;omega⟩
def Da (l p:Int):Int:=if 0>l-p then 0 else l-p
def gM (T:TM) (b:Nat->Int):Nat->Int
 | 0=>T.st
 | j+1=>min T.hi (gM T b j+(b j-T.ds.getD j 0)+Da (lz T (j+1)) (gM T b j+(b j-T.ds.getD j 0)))
def gL (T:TM) (b:Nat->Int) (j:Nat):Int:=Da (lz T (j+1)) (gM T b j+(b j-T.ds.getD j 0))
abbrev dT (T:TM) (j:Nat):Int:=T.ds.getD j 0
theorem LK {b:Nat->Int}:∀j,gM T b j=xM T.hi T.st b (dT T) (gL T b) j
 | 0=>rfl
 | j+1=>by
  show min T.hi (gM T b j+(b j-T.ds.getD j 0)+gL T b j)=min T.hi (xM T.hi T.st b (dT T) (gL T b) j+(b j+gL T b j)-T.ds.getD j 0)
  rw [<-LK j]
  congr 1
  omega
structure Ef (T:TM) (b sp:Nat->Int):Prop where
 sum:∀j,j<T.ds.length->b j+sp j=(T.cs.getD j []).sum
 pos:∀j,j<T.ds.length->0<=sp j
theorem LM {l p:Int}:0<=Da l p/\l<=p+Da l p/\(p+Da l p=p/\l<=p\/p+Da l p=l/\p<l):=by unfold Da;split<;>omega
theorem LN {b:Nat->Int} (s:Ef T b sp) (h0:lz T 0<=T.st) (hh:∀j,1<=j->j<=T.ds.length->lz T j<=T.hi):∀j,j<=T.ds.length->lz T j<=gM T b j/\(j<T.ds.length->0<=gL T b j/\gL T b j<=sp j/\lz T (j+1)<=gM T b (j+1)):=by
 have step:∀j,j<T.ds.length->lz T j<=gM T b j->0<=gL T b j/\gL T b j<=sp j/\lz T (j+1)<=gM T b (j+1):=λj hj h=>by
  have hs:=s.sum j hj
  have hp:=s.pos j hj
  rw [EG hj] at h
  have h':lz T (j+1)+T.ds.getD j 0-(T.cs.getD j []).sum<=gM T b j:=Int.le_trans GH h
  have hz:=hh (j+1) (by omega) (by omega)
  obtain⟨l1,l2,l3⟩:=LM (l:=lz T (j+1)) (p:=gM T b j+(b j-T.ds.getD j 0))
  refine⟨l1,?_,?_⟩
  ·show Da _ _<=sp j
   rcases l3 with⟨a,_⟩ | ⟨a,_⟩<;>omega
  ·show lz T (j+1)<=min T.hi (gM T b j+(b j-T.ds.getD j 0)+Da (lz T (j+1)) (gM T b j+(b j-T.ds.getD j 0)))
   omega
 have main:∀j,j<=T.ds.length->lz T j<=gM T b j:=by
  intro j
  induction j with
  | zero=>intro _;exact h0
  | succ j ih=>intro h;exact(step j (by omega) (ih (by omega))).2.2
 exact λj h=>⟨main j h,λhj=>step j hj (main j h)⟩
theorem QS {b:Nat->Int} (s:Ef T b sp) (h0:lz T 0<=T.st) (hh:∀j,1<=j->j<=T.ds.length->lz T j<=T.hi):Fs T.lo T.hi T.st b (dT T) sp (gL T b) T.ds.length:=λi hi=>by
 obtain⟨a,c⟩:=LN s h0 hh i (by omega)
 obtain⟨c1,c2,c3⟩:=c hi
 rw [<-LK (i+1)]
 exact⟨c1,c2,Int.le_trans GI c3⟩
theorem GM {b x:Nat->Int} (s:Ef T b sp) (h1:T.lo<=T.st) (ok:Fs T.lo T.hi T.st b (dT T) sp x T.ds.length):∀k j,j+k=T.ds.length->lz T j<=xM T.hi T.st b (dT T) x j:=by
 have lo:∀j,j<=T.ds.length->T.lo<=xM T.hi T.st b (dT T) x j:=λj hj=>by
  cases j with
  | zero=>exact h1
  | succ j=>exact(ok j (by omega)).2.2
 intro k
 induction k with
 | zero=>intro j e;rw [show j=T.ds.length from by omega,Lu];exact lo _ (Nat.le_refl _)
 | succ k ih=>
  intro j e
  have h:=ih (j+1) (by omega)
  rw [EG (by omega)]
  refine Lv (lo j (by omega)) ?_
  have hs:=s.sum j (by omega)
  have hx:=ok j (by omega)
  have e2:xM T.hi T.st b (dT T) x (j+1)=min T.hi (xM T.hi T.st b (dT T) x j+(b j+x j)-T.ds.getD j 0):=rfl
  rw [e2] at h
  omega
theorem LO {b x:Nat->Int} (s:Ef T b sp) (h1:T.lo<=T.st) (h0:lz T 0<=T.st) (hh:∀j,1<=j->j<=T.ds.length->lz T j<=T.hi) (ok:Fs T.lo T.hi T.st b (dT T) sp x T.ds.length):∀j,j<=T.ds.length->xM T.hi T.st b (dT T) x j-gM T b j<=xC x j-xC (gL T b) j/\xC (gL T b) j<=xC x j:=by
 intro j
 induction j with
 | zero=>intro _;exact⟨by show T.st-T.st<=0-0;omega,Int.le_refl _⟩
 | succ j ih=>
  intro h
  obtain⟨i1,i2⟩:=ih (by omega)
  have hb:=GM s h1 ok (T.ds.length-(j+1)) (j+1) (by omega)
  have hx:=ok j (by omega)
  have hz:=hh (j+1) (by omega) h
  have e2:xM T.hi T.st b (dT T) x (j+1)=min T.hi (xM T.hi T.st b (dT T) x j+(b j+x j)-T.ds.getD j 0):=rfl
  have e3:gM T b (j+1)=min T.hi (gM T b j+(b j-T.ds.getD j 0)+gL T b j):=rfl
  have e4:xC x (j+1)=xC x j+x j:=rfl
  have e5:xC (gL T b) (j+1)=xC (gL T b) j+gL T b j:=rfl
  obtain⟨l1,l2,l3⟩:=LM (l:=lz T (j+1)) (p:=gM T b j+(b j-T.ds.getD j 0))
  have e6:gL T b j=Da (lz T (j+1)) (gM T b j+(b j-T.ds.getD j 0)):=rfl
  rw [<-e6] at l1 l2 l3
  rw [e2] at hb ⊢
  rw [e3,e4,e5]
  rcases l3 with⟨a1,a2⟩ | ⟨a1,a2⟩<;>constructor<;>omega
theorem LP {b:Nat->Int} (s:Ef T b sp) (h1:T.lo<=T.st) (h0:lz T 0<=T.st) (hh:∀j,1<=j->j<=T.ds.length->lz T j<=T.hi) {t:List (Int×Int)} (m:Mn (Xp T.lo T.hi T.st b (dT T) sp T.ds.length) t):
  t≠ []/\∀w,w∈t.map (·.2)->(∀x∈t.map (·.2),w<=x)->w=xC (gL T b) T.ds.length:=by
 obtain⟨w,hw,le⟩:=m.cmp (xM T.hi T.st b (dT T) (gL T b) T.ds.length,xC (gL T b) T.ds.length) ⟨_,QS s h0 hh,rfl⟩
 have hm:=Jb hw
 refine⟨λe=>(by rw [e] at hm;cases hm),λv hv hall=>?_⟩
 obtain⟨q,hq,rfl⟩:=List.mem_map.mp hv
 obtain⟨x,ok,eq⟩:=m.snd q hq
 have g:=(LO s h1 h0 hh ok T.ds.length (Nat.le_refl _)).2
 have:=hall w (List.mem_map.mpr ⟨_,hm,rfl⟩)
 have le':w<=xC (gL T b) T.ds.length:=le
 have:q.2=xC x T.ds.length:=by rw [eq]
 omega
theorem QT {b:Nat->Int} (s:Ef T b sp) (h1:T.lo<=T.st) (no:¬(lz T 0<=T.st/\∀j,1<=j->j<=T.ds.length->lz T j<=T.hi)) {t:List (Int×Int)} (m:Mn (Xp T.lo T.hi T.st b (dT T) sp T.ds.length) t):t=[]:=by
 cases t with
 | nil=>rfl
 | cons q r=>
  obtain⟨x,ok,_⟩:=m.snd q List.mem_cons_self
  refine absurd ⟨GM s h1 ok T.ds.length 0 (by omega),λj h2 h3=>?_⟩ no
  have:=GM s h1 ok (T.ds.length-j) j (by omega)
  cases j with
  | zero=>omega
  | succ j=>
   have e2:xM T.hi T.st b (dT T) x (j+1)=min T.hi (xM T.hi T.st b (dT T) x j+(b j+x j)-T.ds.getD j 0):=rfl
   rw [e2] at this
   omega
end MF
end
section
namespace L2
open PySem PySem.Spec PyProof.Rows
variable {X : Cx} {p : Pos} {ta : TA} {H : Hp} {a : Addr} {xs : List V} {tg : Expr}
theorem QU:typeLookup (.type "zip") "__len__"=pure none:=by rw [typeLookup_type,builtinLookup_eq_fast];kernel_rfl
theorem QV:typeLookup (.type "zip") "__length_hint__"=pure none:=by rw [typeLookup_type,builtinLookup_eq_fast];kernel_rfl
def Zd (H:Hp) (Ts:List Addr) (xs ys:List V):Prop:=∀(j:Nat) (T:Addr) (x y:V),Ts[j]? =some T->xs[j]? =some x->ys[j]? =some y->H T=some (.tup [x,y])
structure QW {X:Cx} (S1 S2:AM X.prog X.w X.K) (pins:List (Addr×Obj)) (σ:St) (z TI TO i1 i2 l1 l2 S:Addr) (xs ys:List V) (i:Nat) (s:Shared) (H:Hp) (Ts:List Addr) (c:Nat):Prop where
 I:Ad X pins σ H s
 fp:∀b∈ [z,TI,TO,i1,i2,S],BD X pins H b
 z:Do s.heap z TI TO
 ti:Bo s.heap TI (.ref i1) (.ref i2)
 to:∃a b,Bo s.heap TO a b
 i1:S1.It s.heap i1 l1 i
 i2:S2.It s.heap i2 l2 i
 s1:S1.Sq H l1 xs
 s2:S2.Sq H l2 ys
 l:s.heap.get? S=some { cls:= .type "list",dict:=none,data:= .seq (Ts.map Value.ref).toArray c,slots:= #[]}
 n:Ts.length=i
 zd:Zd H Ts xs ys
theorem QX {X:Cx}{S1 S2:AM X.prog X.w X.K}{A:Around}{pins:List (Addr×Obj)}{σ:St}{R:Result->Shared->Prop}{z TI TO i1 i2 l1 l2 S:Addr}{xs ys:List V}{res:Value} (hh:A.handled=none) (D:Ew z TI TO i1 i2 l1 l2)
  (hS:S ∉ [z,TI,TO,i1,i2]) (k1:∀H H':Hp,Ab H H'->S1.Sq H l1 xs->S1.Sq H' l1 xs) (k2:∀H H':Hp,Ab H H'->S2.Sq H l2 ys->S2.Sq H' l2 ys) (hl:xs.length<=ys.length) (hn:xs.length<=1000):
  ∀(k i:Nat) (s:Shared) (H:Hp) (Ts:List Addr) (c:Nat),xs.length-i=k->i<=xs.length->QW S1 S2 pins σ z TI TO i1 i2 l1 l2 S xs ys i s H Ts c->
   (∀s' H' Ts' c',Ad X pins σ H' s'->Ab H H'->BD X pins H' S->s'.heap.get? S=some { cls:= .type "list",dict:=none,data:= .seq (Ts'.map Value.ref).toArray c',slots:= #[]}->Ts'.length=xs.length->Zd H' Ts' xs ys->R (.ok (.ret res)) s')->
   codeAny (model X.prog X.w) A (.builtin "list.extend.loop" ⟨[.ref S,.ref z,res],[]⟩) R s:=by
 intro k
 induction k with
 | zero=>
  intro i s H Ts c hk hi L fin
  obtain⟨a,b,hTO⟩:=L.to
  obtain⟨its1,rv1,is1,hz1⟩:=S1.get rfl L.I L.s1
  obtain⟨its2,rv2,is2,hz2⟩:=S2.get rfl L.I L.s2
  have e1:=rv1.length
  have hT:s.TypeIs (.ref z) "zip" :=by obtain⟨f0,f1,hz,_⟩:=L.z;exact⟨_,hz,rfl⟩
  refine codeAny_builtin F.entry_extend_loop ?_
  rw [Around.under_plainId F.plain_extend_loop _]
  show wpAny _ A.in1 (pyNext (.ref z) >>=_) _ _ s
  refine wpAny_bind ?_
  unfold pyNext
  refine wpAny_bind (wpAny_attempt (wpAny_callSpecial?_slot (name:=Str.ofString "__next__") hT F.slot_zip_next (wpAny_call_entry F.slot_zip_next hT F.entry_zip_next
   (IE S1 S2 hh D L.z L.ti hTO ⟨L.i1,is1⟩ ⟨L.i2,is2⟩ (by simp;omega) λh' tk e hk' he=>?_) (F.args_zip_next_1 _))))
  obtain⟨o,ho,hco⟩:=he
  refine wpAny_bind (wpAny_isInstance (T:="StopIteration") (b:=true) ⟨o,ho,hco⟩ isSubtype_stop ?_)
  refine wpAny_pure (wpAny_pure ?_)
  have hS':=hS
  simp only [List.mem_cons,List.not_mem_nil,or_false,not_or] at hS'
  refine fin _ H Ts c (L.I.ended (wr:=[z,TI,TO,i1,i2]) (tk:=tk) (λb hb=>L.fp b (by simp only [List.mem_cons,List.not_mem_nil,or_false] at hb ⊢;rcases hb with e | e | e | e | e<;>simp [e])) λb o hb q=>hk' b o (λe=>hb (by simp [e])) (λe=>hb (by simp [e])) (λe=>hb (by simp [e])) (λe=>hb (by simp [e])) q) (Ab.refl _) (L.fp S (by simp)) (hk' S _ hS'.1 hS'.2.2.1 hS'.2.2.2.1 hS'.2.2.2.2 L.l) (by have:=L.n;omega) L.zd
 | succ k ih=>
  intro i s H Ts c hk hi L fin
  have hlt:i<xs.length:=by omega
  obtain⟨a,b,hTO⟩:=L.to
  obtain⟨its1,rv1,is1,hz1⟩:=S1.get rfl L.I L.s1
  obtain⟨its2,rv2,is2,hz2⟩:=S2.get rfl L.I L.s2
  have hx:xs[i]? =some xs[i]:=by simp [hlt]
  have hy:ys[i]? =some (ys[i]'(by omega)):=by rw [List.getElem?_eq_getElem (by omega)]
  obtain⟨u1,hu1,ru1⟩:=rv1.get hx
  obtain⟨u2,hu2,ru2⟩:=rv2.get hy
  have hT:s.TypeIs (.ref z) "zip" :=by obtain⟨f0,f1,hz,_⟩:=L.z;exact⟨_,hz,rfl⟩
  refine codeAny_builtin F.entry_extend_loop ?_
  rw [Around.under_plainId F.plain_extend_loop _]
  show wpAny _ A.in1 (pyNext (.ref z) >>=_) _ _ s
  refine wpAny_bind ?_
  unfold pyNext
  refine wpAny_bind (wpAny_attempt (wpAny_callSpecial?_slot (name:=Str.ofString "__next__") hT F.slot_zip_next (wpAny_call_entry F.slot_zip_next hT F.entry_zip_next
   (ID S1 S2 (x1:=u1) (x2:=u2) hh D L.z L.ti hTO ⟨L.i1,is1⟩ ⟨L.i2,is2⟩ (by simpa using hu1) (by simpa using hu2) λh' tk hz' _ a2 a3 a4 a5 a6 hk'=>wpAny_pure ?_) (F.args_zip_next_1 _))))
  have hS':=hS
  simp only [List.mem_cons,List.not_mem_nil,or_false,not_or] at hS'
  have fp5:∀b∈ [z,TI,TO,i1,i2],BD X pins H b:=λb hb=>L.fp b (by simp only [List.mem_cons,List.not_mem_nil,or_false] at hb ⊢;rcases hb with e | e | e | e | e<;>simp [e])
  have hSl:=hk' S _ hS'.1 hS'.2.2.1 hS'.2.2.2.1 hS'.2.2.2.2 L.l
  have kk:∀b o,b ∉ [z,TI,TO,i1,i2]->s.heap.get? b=some o->h'.get? b=some o:=λb o hb q=>hk' b o (λe=>hb (by simp [e])) (λe=>hb (by simp [e])) (λe=>hb (by simp [e])) (λe=>hb (by simp [e])) q
  have ht:IsTup h' s.heap.objs.size [u1,u2].toArray:=⟨_,a5,rfl,_,rfl⟩
  have kk':Bo s.heap TI (.ref i1) (.ref i2)->Bo h' TI (.ref i1) (.ref i2):=λq=>hk' _ _ D.TI_z D.TO_TI.symm D.i1_TI.symm D.i2_TI.symm q
  have hTn:H s.heap.objs.size=none:=L.I.hok.fresh (Nat.le_refl _)
  have I1:Ad X pins σ (upd H s.heap.objs.size (.tup [xs[i],ys[i]'(by omega)])) { s with heap:=h',toks:=tk}:=L.I.yielded (tk:=tk) fp5 kk (Nat.le_refl _) ht (.cons ru1 (.cons ru2 .nil)) (by show 2<=sizeLine;decide)
  have sm:Ab H (upd H s.heap.objs.size (.tup [xs[i],ys[i]'(by omega)])):=Ab.new hTn
  have fpN:∀b∈ [z,TI,TO,i1,i2,S],BD X pins (upd H s.heap.objs.size (.tup [xs[i],ys[i]'(by omega)])) b:=λb hb=>by
   have f:=L.fp b hb
   refine⟨?_,f.2⟩
   have hbt:b<s.heap.objs.size:=by
    simp only [List.mem_cons,List.not_mem_nil,or_false] at hb
    rcases hb with e | e | e | e | e | e<;>rw [e]
    ·obtain⟨f0,f1,hz,_⟩:=L.z;exact Heap.lt_size hz
    ·exact Heap.lt_size L.ti
    ·exact Heap.lt_size hTO
    ·obtain⟨o,q,_⟩:=S1.ito L.i1;exact Heap.lt_size q
    ·obtain⟨o,q,_⟩:=S2.ito L.i2;exact Heap.lt_size q
    ·exact Heap.lt_size L.l
   rw [As (Nat.ne_of_lt hbt)];exact f.1
  have hTv:upd H s.heap.objs.size (.tup [xs[i],ys[i]'(by omega)]) s.heap.objs.size=some (.tup [xs[i],ys[i]'(by omega)]):=Ah
  generalize upd H s.heap.objs.size (.tup [xs[i],ys[i]'(by omega)])=H2 at I1 sm fpN hTv
  show wpAny _ A.in1 (updateSeq S (·.push (.ref s.heap.objs.size)) >>=_) _ _ _
  have hU:=Heap.get?_update_self (Obj.mapSeq (·.push (Value.ref s.heap.objs.size))) hSl rfl
  have oth:∀b o,b≠S->h'.get? b=some o->(h'.update S (Obj.mapSeq (·.push (Value.ref s.heap.objs.size)))).get? b=some o:=λb o hb e=>(Heap.get?_update_other _ _ (Ne.symm hb)).trans e
  have eU:(Obj.mapSeq (·.push (Value.ref s.heap.objs.size)) { cls:= .type "list",dict:=none,data:= .seq (Ts.map Value.ref).toArray c,slots:= #[]}:Obj)= { cls:= .type "list",dict:=none,data:= .seq ((Ts++[s.heap.objs.size]).map Value.ref).toArray (match(Obj.mapSeq (·.push (Value.ref s.heap.objs.size)) { cls:= .type "list",dict:=none,data:= .seq (Ts.map Value.ref).toArray c,slots:= #[]}:Obj).data with | .seq _ n=>n | _=>0),slots:= #[]}:=by
   simp [Obj.mapSeq]
  rw [eU] at hU
  obtain⟨b1,b2,a2⟩:=a2
  refine wpAny_bind (wpAny_updateSeq hSl rfl (wpAny_pure ⟨plainId_quiet F.plain_extend_loop _,ih (i+1) _ H2 (Ts++[s.heap.objs.size]) _ (by omega) hlt ⟨I1.ended (wr:=[S]) (tk:=tk) (λb hb=>fpN b (by rw [List.mem_singleton.mp hb];simp)) λb o hb q=>oth b o (λe=>hb (by simp [e])) q,fpN,?_,oth _ _ (λe=>hS'.2.1 e.symm) (kk' L.ti),⟨_,_,oth _ _ (λe=>hS'.2.2.1 e.symm) a2⟩,S1.itk a3.1 λo q=>oth _ o (λe=>hS'.2.2.2.1 e.symm) q,S2.itk a4.1 λo q=>oth _ o (λe=>hS'.2.2.2.2 e.symm) q,k1 _ _ sm L.s1,k2 _ _ sm L.s2,hU,by rw [List.length_append,L.n];rfl,?_⟩ λs'' H' Ts' c' I' sm' f' l' n' zd'=>fin s'' H' Ts' c' I' (sm.trans sm') f' l' n' zd'⟩) (by have:=L.n;have:(1000:Nat)<sizeLine:=(by decide);simp;omega) (by have:=L.n;have:(1000:Nat)<sizeLine:=(by decide);simp;omega))
  ·obtain⟨f0,f1,hz,r⟩:=hz'
   exact⟨f0,f1,oth _ _ (λe=>hS'.1 e.symm) hz,r⟩
  ·intro j T x y hj hx' hy'
   by_cases hlj:j<Ts.length
   ·rw [List.getElem?_append_left hlj] at hj
    exact sm _ _ (L.zd j T x y hj hx' hy')
   ·have ej:j=i:=by
     have:=(List.getElem?_eq_some_iff.mp hj).1
     rw [List.length_append,List.length_singleton] at this
     have:=L.n
     omega
    subst ej
    rw [List.getElem?_append_right (by omega)] at hj
    have hn':=L.n
    rw [show j-Ts.length=0 from by omega] at hj
    rw [hx] at hx'
    rw [hy] at hy'
    cases hj;cases hx';cases hy'
    exact hTv
section
variable {prog : Program} {w : World} {A : Around} {s : Shared} {R : Result -> Shared -> Prop} {E : Value -> Shared -> Prop}
structure Eg (S:Addr) (g g':Heap):Prop where
 it:∃c,g'.get? S=some { cls:= .type "list",dict:=none,data:= .seq #[] c,slots:= #[]}
 kp:KpBut S g g'
 sz:g'.objs.size=g.objs.size
theorem QY {S:Addr}{g g':Heap} (n:Eg S g g') {f:Array Value->Array Value} (hf:f #[]= #[]) {Q:Unit->Shared->Prop} (h:∀g2,Eg S g g2->Q () { s with heap:=g2}):wpAny (model prog w) A (updateSeq S f) Q E { s with heap:=g'}:=by
 obtain⟨c,e⟩:=n.it
 have e2:(g'.update S (Obj.mapSeq f)).get? S=some { cls:= .type "list",dict:=none,data:= .seq #[] c,slots:= #[]}:=by
  rw [Heap.get?_update_self _ e rfl]
  simp [Obj.mapSeq,hf]
 exact wpAny_updateSeq (s:= { s with heap:=g'}) e rfl (h _ ⟨⟨c,e2⟩,n.kp.trans (KpBut.upd _),(Heap.size_update ..).trans n.sz⟩) (Nat.zero_le _) (by rw [hf];exact Nat.zero_le _)
theorem QZ {S:Addr}{g g':Heap} (n:Eg S g g') {Q:Unit->Shared->Prop} (h:∀g2,Eg S g g2->Q () { s with heap:=g2}):wpAny (model prog w) A (Builtin.List.listTouch (.ref S)) Q E { s with heap:=g'}:=by
 obtain⟨c,e⟩:=n.it
 refine wpAny_bind (wpAny_updateSeq (s:= { s with heap:=g'}) e rfl ?_ (Nat.zero_le _) (by decide))
 have e2:=Heap.get?_update_self (Obj.mapSeq λx=>x.push Value.none) e rfl
 refine wpAny_updateSeq (s:= { s with heap:=g'.update S (Obj.mapSeq λx=>x.push Value.none)}) e2 rfl (h _ ⟨⟨_,Heap.get?_update_self _ e2 rfl⟩,n.kp.trans ((KpBut.upd _).trans (KpBut.upd _)),?_⟩) (by decide) (by decide)
 rw [Heap.size_update,Heap.size_update];exact n.sz
def Q0 (prog:Program) (w:World) (A:Around) (R:Result->Shared->Prop):PySem.Fin->Shared->Prop
 | .done f,s'=>R (.ok f) s'
 | .again c',s'=>c'.quiet=true/\codeAny (model prog w) A c' R s'
theorem Q1 {z S TI TO:Addr}{res:Value}{f0:Value}{g g':Heap} (n:Eg S g g') (hz:IsZip g' z TI TO f0) (hSz:S≠z)
  (hR:∀g2,Eg S g g2->codeAny (model prog w) A (.builtin "list.extend.loop" ⟨[.ref S,.ref z,res],[]⟩) R { s with heap:=g2}):
  wpAny (model prog w) A.in1 (Builtin.List.listExtendWith (.ref S) (.ref z) res) (Q0 prog w A R) E { s with heap:=g'}:=by
 have ty:Shared.TypeIs { s with heap:=g'} (.ref z) "zip" :=⟨_,hz,rfl⟩
 have plain:(Builtin.List.listSameRef (.ref S) (.ref z) || Value.type "zip"==Value.type "list" || Value.type "zip"==Value.type "tuple")=false:=by
  rw [show Builtin.List.listSameRef (.ref S) (.ref z)=false from by simp [Builtin.List.listSameRef,hSz]];decide
 refine wpAny_bind (wpAny_typeOf ty ?_)
 rw [plain]
 refine wpAny_bind (wpAny_pyIter_zip (s:= { s with heap:=g'}) hz (wpAny_bind (wpAny_holding (wpAny_bind (wpAny_specialOf ty QU (wpAny_bind (wpAny_specialOf ty QV (wpAny_pure ?_))))))))
 exact wpAny_bind (wpAny_rule (wpAny_bind (QZ n λg2 n2=>wpAny_pure ⟨plainId_quiet F.plain_extend_loop _,hR g2 n2⟩)))
theorem Q2 {z TI TO:Addr}{f0:Value}{Q:Value->Shared->Prop} (hz:IsZip s.heap z TI TO f0)
  (h:∀h' c',h'.get? s.heap.objs.size=some { cls:= .type "list",dict:=none,data:= .seq #[] c',slots:= #[]}->(∀b o,s.heap.get? b=some o->h'.get? b=some o)->h'.objs.size=s.heap.objs.size+1->codeAny (model prog w) A.in1 (.builtin "list.extend.loop" ⟨[.ref s.heap.objs.size,.ref z,.none],[]⟩) (wants (λr s₂=>r= .none/\Q (.ref s.heap.objs.size) s₂) E) { s with heap:=h'}):
  wpAny (model prog w) A (call (.type "list") [.ref z]) Q E s:=by
 have zl:z<s.heap.objs.size:=Heap.lt_size hz
 refine callType_codes (Q₁:=λv t=>v= .ref s.heap.objs.size/\t= { s with heap:=s.heap.push { cls:= .type "list",data:= .seq #[]}}) F.called_list (F.typeCall_list_1 _) F.entry_list_init (code_list_new _ ⟨rfl,rfl⟩) λv t vt=>?_
 obtain⟨rfl,rfl⟩:=vt
 have n0:Eg s.heap.objs.size (s.heap.push { cls:= .type "list",data:= .seq #[]}) (s.heap.push { cls:= .type "list",data:= .seq #[]}):=⟨⟨0,Heap.get?_push_size _ rfl⟩,λ_ _ _ e=>e,rfl⟩
 obtain⟨c,e⟩:=n0.it
 refine⟨⟨_,e,rfl⟩,F.args_list_init_2 _ _,wpAny_bind (wpAny_bind (wpAny_seqItems e rfl (wpAny_pure ?_)))⟩
 refine wpAny_bind (QY (s:=s) n0 rfl λg1 n1=>wpAny_bind (wpAny_letGo ?_))
 refine wpAny_mono (M:=model prog w) (t:=Builtin.List.listExtendWith (.ref s.heap.objs.size) (.ref z) .none) (Q1 (s:=s) (A:=A.in1) (R:=wants (λr s₂=>r= .none/\Q (.ref s.heap.objs.size) s₂) E) n1 (n1.kp z _ (Nat.ne_of_lt zl) (Heap.get?_push_of_some _ hz)) (Nat.ne_of_gt zl) λg2 n2=>?_) (λfin t q=>by cases fin<;>exact q) λ_ _ q=>q
 obtain⟨c2,e2⟩:=n2.it
 exact h g2 c2 e2 (λb o q=>n2.kp b o (Nat.ne_of_lt (Heap.lt_size q)) (Heap.get?_push_of_some _ q)) (n2.sz.trans (by simp [Heap.size_push]))
end
def LQ {P:Program}{w:World}{K:PySem.W.Frag} (S1 S2:AM P w K) (ta:TA):TE:=fun σ H Q=>ta σ H λvs H1=>∃a b,vs=[.ref a,.ref b]/\(∃xs,S1.Sq H1 a xs)/\(∃xs,S2.Sq H1 b xs)/\∃xs ys,S1.Sq H1 a xs/\S2.Sq H1 b ys/\xs.length<=ys.length/\xs.length<=1000/\∀(L:Addr) (H2:Hp) (Ts:List Addr),Ab H1 H2->H1 L=none->H2 L=some (.lst (Ts.map V.ref))->Ts.length=xs.length->Zd H2 Ts xs ys->Q (.ref L) H2
theorem LR:∀Ts:List Addr,Ar (Ts.map V.ref) (Ts.map Value.ref)
 | []=> .nil
 | _::r=> .cons rfl (LR r)
theorem Q3 {pos p2 pos2:Pos}{e1 e2:Expr} (S1 S2:AM X.prog X.w X.K) (zn:Ff S1 S2) (k1:∀(l:Addr) (xs:List V) (H H':Hp),Ab H H'->S1.Sq H l xs->S1.Sq H' l xs) (k2:∀(l:Addr) (xs:List V) (H H':Hp),Ab H H'->S2.Sq H l xs->S2.Sq H' l xs)
  (hg0:Gl X "list") (hm0:X.mg "list"=none) (hg:Gl X "zip") (hm:X.mg "zip"=none) (ha:PA X [e1,e2] ta) (hc:X.calm=true)
  (hs0:starEach [.Call (.Name "zip" p2) [e1,e2] [] pos2] X.env=[(false,eval (.Call (.Name "zip" p2) [e1,e2] [] pos2) X.env)]) (hs:starEach [e1,e2] X.env=[(false,eval e1 X.env),(false,eval e2 X.env)]) (hs2:starEach [e2] X.env=[(false,eval e2 X.env)]):
  PE X (.Call (.Name "list" p) [.Call (.Name "zip" p2) [e1,e2] [] pos2] [] pos) (LQ S1 S2 ta):=by
 intro pins s σ H Q I h
 refine Call_ (CB I hg0 hm0 boot_list (PyProof.Rows.callWith_type1 (by
  rw [hs0]
  refine Calls.spliced_cons (Aq (IF S1 S2 zn (R:=λl1 l2 H1=>∃xs ys,S1.Sq H1 l1 xs/\S2.Sq H1 l2 ys/\xs.length<=ys.length/\xs.length<=1000/\∀(L:Addr) (H2:Hp) (Ts:List Addr),Ab H1 H2->H1 L=none->H2 L=some (.lst (Ts.map V.ref))->Ts.length=xs.length->Zd H2 Ts xs ys->Q (.ref L) H2) hg hm ha hs hs2 I h) λv s1 ⟨l1,l2,H1,m,e,⟨xs,ys,q1,q2,hl,hn,q⟩,I1,gz,gI,gO,g1,g2,h1,h2,fr,hsz⟩=>?_)
  subst e
  refine Calls.spliced_nil (Q2 gz λh' c' hL kp hs'=>?_)
  rw [hsz] at hL ⊢
  have I2:Ad X pins σ H1 { s1 with heap:=h'}:=I1.kept (t':=s1.toks) kp
  have nS:(m+5:Nat) ∉ [m+4,m+2,m+3,m,m+1]:=by simp
  refine QX (A:=X.A.in1) (S:=m+5) (xs:=xs) (ys:=ys) (pins:=pins) (σ:=σ) (S1:=S1) (S2:=S2) (z:=m+4) (TI:=m+2) (TO:=m+3) (i1:=m) (i2:=m+1) (l1:=l1) (l2:=l2) (I1.ok.hd hc) (IH h1 h2) nS (k1 l1 xs) (k2 l2 ys) hl hn _ 0 { s1 with heap:=h'} H1 [] c' rfl (Nat.zero_le _)
   ⟨I2, λb hb => fr b (by
    simp only [List.mem_cons,List.not_mem_nil,or_false] at hb
    rcases hb with e | e | e | e | e | e<;>rw [e]<;>first | exact Nat.le_refl _ | exact Nat.le_add_right _ _),⟨_,_,kp _ _ gz,.inl rfl,.inl rfl⟩,kp _ _ gI,⟨_,_,kp _ _ gO⟩,S1.itk g1 λo q=>kp _ o q,S2.itk g2 λo q=>kp _ o q,q1,q2,hL,rfl,λj T x y hj _ _=>by simp at hj⟩ λs' H' Ts c2 I' sm' f' l' n' zd'=>?_
  have hLn:H1 (m+5)=none:=(fr (m+5) (Nat.le_add_right _ _)).1
  have ok:ObjOk X.prog X.w (upd H' (m+5) (.lst (Ts.map V.ref))) s'.heap (m+5) (.lst (Ts.map V.ref)):=⟨by rw [List.length_map,n'];have:(1000:Nat)<sizeLine:=(by decide);omega,_,c2,LR Ts,l'⟩
  have smN:Ab H' (upd H' (m+5) (.lst (Ts.map V.ref))):=Ab.new f'.1
  exact⟨rfl,.ref (m+5),_,I'.trackN (tk:=s'.toks) (h':=s'.heap) f' (λb o _ e=>e) ⟨_,l'⟩ ok,rfl,q (m+5) _ Ts (sm'.trans smN) hLn Ah n' λj T x y a b c=>smN _ _ (zd' j T x y a b c)⟩) hs0 rfl))
theorem Ab.sqT {K:PySem.W.Frag}{H':Hp} (e:Ab H H') (h:Ae K H a xs):Ae K H' a xs:=by
 rcases h with(h | ⟨o,h⟩) | h
 ·exact .inl (.inl (e _ _ h))
 ·exact .inl (.inr ⟨o,e _ _ h⟩)
 ·exact .inr h
theorem Q4 (P:Program) (w:World) (K:PySem.W.Frag) {X:Cx}{p pos p2 pos2:Pos}{e1 e2:Expr}{ta:TA} (hg0:Gl X "list") (hm0:X.mg "list"=none) (hg:Gl X "zip") (hm:X.mg "zip"=none) (ha:PA X [e1,e2] ta) (hP:X.prog=P:=by rfl) (hw:X.w=w:=by rfl) (hK:X.K=K:=by rfl) (hc:X.calm=true:=by rfl)
  (hs0:starEach [.Call (.Name "zip" p2) [e1,e2] [] pos2] X.env=[(false,eval (.Call (.Name "zip" p2) [e1,e2] [] pos2) X.env)]:=by rfl) (hs:starEach [e1,e2] X.env=[(false,eval e1 X.env),(false,eval e2 X.env)]:=by rfl) (hs2:starEach [e2] X.env=[(false,eval e2 X.env)]:=by rfl):
  PE X (.Call (.Name "list" p) [.Call (.Name "zip" p2) [e1,e2] [] pos2] [] pos) (LQ (Bd P w K) (Bd P w K) ta):=by
 subst hP hw hK
 exact Q3 _ _ (IG _ _ _) (λ_ _ _ _ e q=>e.sqT q) (λ_ _ _ _ e q=>e.sqT q) hg0 hm0 hg hm ha hc hs0 hs hs2
def Ft (K:PySem.W.Frag) (a:Addr) (xs:List V):It:=⟨λi H=>Al K H a xs/\i<xs.length,λi H v H'=>H'=H/\xs[xs.length-1-i]? =some v,λi H=>Al K H a xs/\i=xs.length⟩
theorem Q5 {P:Program}{w:World}{K:PySem.W.Frag} (a it:Addr) (xs:List V):CW P w K tg (Ft K a xs) [it] it (λi h=>h.IsRevIter it a ((xs.length:Int)-1-(i:Int))) where
 mem:=by simp
 obj:=λi h st b hb=>by
  have e:b=it:=by simpa using hb
  subst e
  obtain⟨o,e,c,d⟩:=st
  exact⟨o,e,λv z=>by rw [d] at z;cases z⟩
 keep:=λi h h' st k=>st.at λo e=>k it (by simp) o e
 item:=by
  intro X hP hw hK hc i pins s σ H E I hf st hg
  subst hP hw hK
  obtain⟨hq,hi⟩:=hg
  obtain⟨its,rv,p,hz⟩:=I.list hq
  have hx:xs[xs.length-1-i]? =some (xs[xs.length-1-i]'(by omega)):=List.getElem?_eq_getElem _
  obtain⟨u,hu,ru⟩:=rv.get hx
  obtain⟨f0,f1,f2,f3,f4,f5⟩:=hf it (by simp)
  have e0:(xs.length:Int)-1-(i:Int)=((xs.length-1-i:Nat):Int):=by omega
  rw [e0] at st
  refine wpAny_pyNext_rev_item st p.isList (x:=u) (by simpa using hu) λh' st' sb=>?_
  have e2:((xs.length-1-i:Nat):Int)-1=(xs.length:Int)-1-((i+1:Nat):Int):=by omega
  rw [e2] at st'
  have I1:Ad X pins σ H { s with heap:=h'}:=I.turned (t':=s.toks) (λb o hb e=>(sb.2 b hb).trans e) f0 f1 f3 f4 f5
  obtain⟨o,e,c,d⟩:=id st'
  exact⟨u,rfl,F2 (s:= { s with heap:=h'}) e c d (by decide) ⟨_,H,I1,ru,⟨rfl,hx⟩,st',λb hb=>(hf b hb).1⟩⟩
 done:=by
  intro X hP hw hK hc i pins s σ H E I hf st hg
  subst hP hw hK
  obtain⟨hq,rfl⟩:=hg
  obtain⟨f0,f1,f2,f3,f4,f5⟩:=hf it (by simp)
  have e0:(xs.length:Int)-1-(xs.length:Int)= -1:=by omega
  rw [e0] at st
  exact wpAny_pyNext_rev_end (I.ok.hd hc) st λh' eb=>⟨rfl,I.turned (t':=s.toks) (λb o hb e=>eb b o hb e) f0 f1 f3 f4 f5⟩
 self:=λ_ _ _ _ _ st h=>wpAny_pyIter_revIter st h
def LS (K:PySem.W.Frag) (ta:TA):TI:=fun σ H R=>ta σ H λvs H1=>∃a xs,vs=[.ref a]/\Al K H1 a xs/\R (Ft K a xs) H1
theorem Q6 {a:Expr}{pos:Pos} (hg0:Gl X "reversed") (hm0:X.mg "reversed"=none) (ha:PA X [a] ta) (hs:starEach [a] X.env=[(false,eval a X.env)]):
  PI X tg (.Call (.Name "reversed" p) [a] [] pos) (LS X.K ta):=by
 intro pins s σ H R I h
 refine Call_ (CB I hg0 hm0 boot_reversed (PyProof.Rows.callWith_type1 (Aq (ha pos pins s σ H _ I h) λus s1 ⟨vs,H1,I1,r1,q1⟩=>?_) hs rfl))
 obtain⟨l,xs,e,hq,q⟩:=q1
 subst e
 cases r1 with
 | cons r rr=>
  cases rr
  cases r
  obtain⟨its,rv,pl,hz⟩:=I1.list hq
  have hlen:=rv.length
  refine call_reversed_list pl.isList ?_
  have kk:∀b ob,s1.heap.get? b=some ob->(s1.heap.push (revObj l ((its.toArray.size:Int)-1))).get? b=some ob:=λb ob q=>Heap.get?_push_of_some _ q
  have hit:(s1.heap.push (revObj l ((its.toArray.size:Int)-1))).IsRevIter s1.heap.objs.size l ((xs.length:Int)-1-((0:Nat):Int)):=by
   refine⟨_,Heap.get?_push_size _ rfl,rfl,?_⟩
   have e:((its.toArray.size:Nat):Int)-1=(xs.length:Int)-1-((0:Nat):Int):=by simp;omega
   rw [e];rfl
  generalize s1.heap.push (revObj l ((its.toArray.size:Int)-1))=h2 at kk hit
  refine wpAny_pyIter_revIter hit ⟨s1.heap.objs.size,[s1.heap.objs.size],_,_,H1,rfl,I1.kept (t':=_) kk,Q5 l _ xs,hit,λb hb=>?_,q⟩
  rw [List.mem_singleton.mp hb];exact I1.fpOk (Nat.le_refl _) (I1.hok.fresh (Nat.le_refl _))
theorem Q7 (K:PySem.W.Frag) {X:Cx}{tg a:Expr}{ta:TA}{p pos:Pos} (hg0:Gl X "reversed") (hm0:X.mg "reversed"=none) (ha:PA X [a] ta) (hK:X.K=K:=by rfl) (hs:starEach [a] X.env=[(false,eval a X.env)]:=by rfl):
  PI X tg (.Call (.Name "reversed" p) [a] [] pos) (LS K ta):=by subst hK;exact Q6 hg0 hm0 ha hs
theorem Q8 {K:PySem.W.Frag}{g:TG}{tb:TS}{D:CU}{σ:St} (Pv:Nat->St->Hp->Prop) (h0:Pv 0 σ H) (hl:∀i σ H,i<=xs.length->Pv i σ H->Al K H a xs)
  (hs:∀i x σ H,i<xs.length->xs[xs.length-1-i]? =some x->Pv i σ H->g x σ H fun σ2 H2=>tb { D with nx:=Pv (i+1),ct:=Pv (i+1),bk:=D.nx} σ2 H2) (hd:∀σ H,Pv xs.length σ H->D.nx σ H):
  ∃W:Nat->Nat->St->Hp->Prop,(∃m,W 0 m σ H)/\∀i m σ H,W i m σ H->
   ((Ft K a xs).stop i H/\D.nx σ H)\/((Ft K a xs).go i H/\∃N:St->Hp->Prop,(∀σ' H',N σ' H'->∃m',m'<m/\W (i+1) m' σ' H')/\∀x H',(Ft K a xs).yld i H x H'->g x σ H' fun σ2 H2=>tb { D with nx:=N,ct:=N,bk:=D.nx} σ2 H2):=by
 refine⟨λi m σ H=>m=xs.length-i/\i<=xs.length/\Pv i σ H,⟨xs.length,by simp,Nat.zero_le _,h0⟩,?_⟩
 rintro i m σ H ⟨rfl,hi,p⟩
 have q:=hl i σ H hi p
 by_cases hlt:i<xs.length
 ·refine .inr ⟨⟨q,hlt⟩,Pv (i+1),fun σ' H' p'=>⟨xs.length-(i+1),by omega,rfl,hlt,p'⟩,λx H' y=>?_⟩
  obtain⟨e,y⟩:=y
  subst e
  exact hs i x σ _ hlt y p
 ·have e:i=xs.length:=by omega
  subst e
  exact .inl ⟨⟨q,rfl⟩,hd _ _ p⟩
end L2
end
section
set_option maxHeartbeats 8000000
namespace L2
open PySem PySem.Spec PyProof.Rows
open AutoSeq1 (wpAny_loadPart')
structure GN (z TI TO i1 i2 i3 i4 l1 l2 l3 l4:Addr):Prop where
 TI_z:TI≠z
 TO_z:TO≠z
 TO_TI:TO≠TI
 i1_z:i1≠z
 i1_TI:i1≠TI
 i1_TO:i1≠TO
 i2_z:i2≠z
 i2_TI:i2≠TI
 i2_TO:i2≠TO
 i2_i1:i2≠i1
 i3_z:i3≠z
 i3_TI:i3≠TI
 i3_TO:i3≠TO
 i3_i1:i3≠i1
 i3_i2:i3≠i2
 i4_z:i4≠z
 i4_TI:i4≠TI
 i4_TO:i4≠TO
 i4_i1:i4≠i1
 i4_i2:i4≠i2
 i4_i3:i4≠i3
 l1_z:l1≠z
 l1_TO:l1≠TO
 l1_i1:l1≠i1
 l1_i2:l1≠i2
 l1_i3:l1≠i3
 l1_i4:l1≠i4
 l2_z:l2≠z
 l2_TO:l2≠TO
 l2_i1:l2≠i1
 l2_i2:l2≠i2
 l2_i3:l2≠i3
 l2_i4:l2≠i4
 l3_z:l3≠z
 l3_TO:l3≠TO
 l3_i1:l3≠i1
 l3_i2:l3≠i2
 l3_i3:l3≠i3
 l3_i4:l3≠i4
 l4_z:l4≠z
 l4_TO:l4≠TO
 l4_i1:l4≠i1
 l4_i2:l4≠i2
 l4_i3:l4≠i3
 l4_i4:l4≠i4
abbrev BB (h:Heap) (T:Addr) (a1 a2 a3 a4:Value):Prop:=h.get? T=some { cls:= .type "tuple",data:= .seq #[a1,a2,a3,a4]}
theorem GO {prog:Program}{w:World}{A:Around}{E:Value->Shared->Prop}{s:Shared}{T:Addr}{a1 a2 a3 a4 x:Value}{k:Nat}{Q:Unit->Shared->Prop} (hT:BB s.heap T a1 a2 a3 a4)
  (h:∀h',h'.get? T=some { cls:= .type "tuple",data:= .seq ((#[a1,a2,a3,a4]:Array Value).setIfInBounds k x)}->Heap.SameBut T s.heap h'->Q () { s with heap:=h'}):
  wpAny (model prog w) A (updateSeq T (·.setIfInBounds k x)) Q E s:=by
 refine wpAny_updateSeq hT rfl (h _ ?_ (Heap.SameBut.update ..))
 rw [Heap.get?_update_self _ hT rfl]
 simp [Obj.mapSeq]
section
variable {P : Program} {w : World} {K : PySem.W.Frag} {A : Around} {E : Value -> Shared -> Prop} {s : Shared} (S1 S2 S3 S4 : AM P w K)
theorem Q9 {z TI TO i1 i2 i3 i4 l1 l2 l3 l4:Addr}{k:Nat}{xs1 xs2 xs3 xs4:Array Value}{x1 x2 x3 x4 a1 a2 a3 a4:Value}{Q:Value->Shared->Prop} (hh:A.handled=none) (D:GN z TI TO i1 i2 i3 i4 l1 l2 l3 l4) (hz:Do s.heap z TI TO) (hTI:BB s.heap TI (.ref i1) (.ref i2) (.ref i3) (.ref i4)) (hTO:BB s.heap TO a1 a2 a3 a4) (h1:Dr S1 i1 l1 xs1 k s.heap) (h2:Dr S2 i2 l2 xs2 k s.heap) (h3:Dr S3 i3 l3 xs3 k s.heap) (h4:Dr S4 i4 l4 xs4 k s.heap) (hx1:xs1[k]? =some x1) (hx2:xs2[k]? =some x2) (hx3:xs3[k]? =some x3) (hx4:xs4[k]? =some x4)
  (hQ : ∀ h' tk, Do h' z TI TO -> (IsZip h' z TI TO (rawInt s.heap.objs.size) \/ IsZip s.heap z TI TO .none -> IsZip h' z TI TO (rawInt s.heap.objs.size)) -> (∃ a1 a2 a3 a4, BB h' TO a1 a2 a3 a4) -> Dr S1 i1 l1 xs1 (k + 1) h' -> Dr S2 i2 l2 xs2 (k + 1) h' -> Dr S3 i3 l3 xs3 (k + 1) h' -> Dr S4 i4 l4 xs4 (k + 1) h' -> BB h' s.heap.objs.size x1 x2 x3 x4 -> h'.objs.size = s.heap.objs.size + 1 ->
   (∀c o,c≠z->c≠TO->c≠i1->c≠i2->c≠i3->c≠i4->s.heap.get? c=some o->h'.get? c=some o)->Q (.ref s.heap.objs.size) { s with heap:=h',toks:=tk}):
  wpAny (model P w) A (Builtin.«zip.__next__» ⟨[.ref z],[]⟩) (λfin s'=>∃v,fin= .done (.ret v)/\Q v s') E s:=by
 have hl1:k<xs1.size:=(Array.getElem?_eq_some_iff.mp hx1).1
 have hl2:k<xs2.size:=(Array.getElem?_eq_some_iff.mp hx2).1
 have hl3:k<xs3.size:=(Array.getElem?_eq_some_iff.mp hx3).1
 have hl4:k<xs4.size:=(Array.getElem?_eq_some_iff.mp hx4).1
 have D1:=fun(A:Around) (hh:A.handled=none)=>S1.draws A hh i1 l1 D.l1_i1 xs1
 have D2:=fun(A:Around) (hh:A.handled=none)=>S2.draws A hh i2 l2 D.l2_i2 xs2
 have D3:=fun(A:Around) (hh:A.handled=none)=>S3.draws A hh i3 l3 D.l3_i3 xs3
 have D4:=fun(A:Around) (hh:A.handled=none)=>S4.draws A hh i4 l4 D.l4_i4 xs4
 obtain⟨f0',f1',hz',hf0',hf1'⟩:=id hz
 show wpAny _ _ (field (.ref z) 2>>=_) _ _ _;refine wpAny_bind (wpAny_field hz' rfl (x:= .bool false) rfl ?_)
 show wpAny _ _ (field (.ref z) 3>>=_) _ _ _;refine wpAny_bind (wpAny_field hz' rfl (x:= .ref TI) rfl ?_)
 refine wpAny_bind (wpAny_seqItems hTI rfl ?_);show wpAny _ _ (Builtin.SmallTypes.ownedTupleIsFree (.ref z) >>=_) _ _ _
 refine wpAny_bind (Gi hz (λf0 f1 hz=>?_) λg0 T f1 f2 hzs hz0 hf2 hs0=>?_)
 ·simp only [if_true]
  refine wpAny_bind (wpAny_rule ?_);refine wpAny_bind (wpAny_field hz rfl (x:= .ref TO) rfl ?_)
  refine wpAny_bind (wpAny_setField_rec hz (by simp) λg0 hz0 hs0=>?_);replace hz0:BJ g0 z TI TO .ellipsis f1:=hz0
  refine wpAny_bind ?_;simp only [List.zipIdx_cons,List.zipIdx_nil,List.forIn_cons,List.forIn_nil]
  refine wpAny_bind (wpAny_bind (wpAny_onRaise ?_));show wpAny _ _ (Builtin.SmallTypes.nextOf (.ref i1) >>=_) _ _ _
  refine wpAny_bind ((D1 _ hh).item k _ _ _ hl1 (Dr.ext h1 hs0.extBut D.i1_z D.l1_z) λy1 g1 tk1 hy1 hd1 hs1=>wpAny_pure ?_)
  have ex1:y1=x1:=by rw [hx1] at hy1;exact(Option.some.inj hy1).symm
  subst ex1
  have hd1':Dr S1 i1 l1 xs1 (k+1) g1:=hd1
  have hT1:BB g1 TO a1 a2 a3 a4:=(hs1.extBut _ _ D.i1_TO.symm (hs0.extBut _ _ D.TO_z hTO))
  refine wpAny_bind (wpAny_seqItems hT1 rfl ?_);refine wpAny_bind (GO hT1 λg2 hU1 hs2=>?_)
  replace hU1:BB g2 TO y1 a2 a3 a4:=hU1
  refine wpAny_bind (wpAny_letGo (wpAny_pure ?_))
  refine wpAny_bind (wpAny_bind (wpAny_onRaise ?_));show wpAny _ _ (Builtin.SmallTypes.nextOf (.ref i2) >>=_) _ _ _
  refine wpAny_bind ((D2 _ hh).item k _ _ _ hl2 (Dr.ext (Dr.ext (Dr.ext h2 hs0.extBut D.i2_z D.l2_z) hs1.extBut D.i2_i1 D.l2_i1) hs2.extBut D.i2_TO D.l2_TO) λy2 g3 tk2 hy2 hd2 hs3=>wpAny_pure ?_)
  have ex2:y2=x2:=by rw [hx2] at hy2;exact(Option.some.inj hy2).symm
  subst ex2
  have hd2':Dr S2 i2 l2 xs2 (k+1) g3:=hd2
  have hT2:BB g3 TO y1 a2 a3 a4:=(hs3.extBut _ _ D.i2_TO.symm hU1)
  refine wpAny_bind (wpAny_seqItems hT2 rfl ?_);refine wpAny_bind (GO hT2 λg4 hU2 hs4=>?_)
  replace hU2:BB g4 TO y1 y2 a3 a4:=hU2
  refine wpAny_bind (wpAny_letGo (wpAny_pure ?_))
  refine wpAny_bind (wpAny_bind (wpAny_onRaise ?_));show wpAny _ _ (Builtin.SmallTypes.nextOf (.ref i3) >>=_) _ _ _
  refine wpAny_bind ((D3 _ hh).item k _ _ _ hl3 (Dr.ext (Dr.ext (Dr.ext (Dr.ext (Dr.ext h3 hs0.extBut D.i3_z D.l3_z) hs1.extBut D.i3_i1 D.l3_i1) hs2.extBut D.i3_TO D.l3_TO) hs3.extBut D.i3_i2 D.l3_i2) hs4.extBut D.i3_TO D.l3_TO) λy3 g5 tk3 hy3 hd3 hs5=>wpAny_pure ?_)
  have ex3:y3=x3:=by rw [hx3] at hy3;exact(Option.some.inj hy3).symm
  subst ex3
  have hd3':Dr S3 i3 l3 xs3 (k+1) g5:=hd3
  have hT3:BB g5 TO y1 y2 a3 a4:=(hs5.extBut _ _ D.i3_TO.symm hU2)
  refine wpAny_bind (wpAny_seqItems hT3 rfl ?_);refine wpAny_bind (GO hT3 λg6 hU3 hs6=>?_)
  replace hU3:BB g6 TO y1 y2 y3 a4:=hU3
  refine wpAny_bind (wpAny_letGo (wpAny_pure ?_))
  refine wpAny_bind (wpAny_bind (wpAny_onRaise ?_));show wpAny _ _ (Builtin.SmallTypes.nextOf (.ref i4) >>=_) _ _ _
  refine wpAny_bind ((D4 _ hh).item k _ _ _ hl4 (Dr.ext (Dr.ext (Dr.ext (Dr.ext (Dr.ext (Dr.ext (Dr.ext h4 hs0.extBut D.i4_z D.l4_z) hs1.extBut D.i4_i1 D.l4_i1) hs2.extBut D.i4_TO D.l4_TO) hs3.extBut D.i4_i2 D.l4_i2) hs4.extBut D.i4_TO D.l4_TO) hs5.extBut D.i4_i3 D.l4_i3) hs6.extBut D.i4_TO D.l4_TO) λy4 g7 tk4 hy4 hd4 hs7=>wpAny_pure ?_)
  have ex4:y4=x4:=by rw [hx4] at hy4;exact(Option.some.inj hy4).symm
  subst ex4
  have hd4':Dr S4 i4 l4 xs4 (k+1) g7:=hd4
  have hT4:BB g7 TO y1 y2 y3 a4:=(hs7.extBut _ _ D.i4_TO.symm hU3)
  refine wpAny_bind (wpAny_seqItems hT4 rfl ?_);refine wpAny_bind (GO hT4 λg8 hU4 hs8=>?_)
  replace hU4:BB g8 TO y1 y2 y3 y4:=hU4
  refine wpAny_bind (wpAny_letGo (wpAny_pure (wpAny_pure ?_)))
  refine wpAny_bind (wpAny_seqItems hU4 rfl ?_);refine wpAny_bind (wpAny_newTuple ?_)
  have hsz:g8.objs.size=s.heap.objs.size:=by rw [hs8.1,hs7.1,hs6.1,hs5.1,hs4.1,hs3.1,hs2.1,hs1.1,hs0.1]
  have hz5:BJ g8 z TI TO .ellipsis f1:=(hs8.extBut _ _ D.TO_z.symm (hs7.extBut _ _ D.i4_z.symm (hs6.extBut _ _ D.TO_z.symm (hs5.extBut _ _ D.i3_z.symm (hs4.extBut _ _ D.TO_z.symm (hs3.extBut _ _ D.i2_z.symm (hs2.extBut _ _ D.TO_z.symm (hs1.extBut _ _ D.i1_z.symm hz0))))))))
  have hk5:∀c o,c≠z->c≠TO->c≠i1->c≠i2->c≠i3->c≠i4->s.heap.get? c=some o->g8.get? c=some o:=λc o cz cTO ci1 ci2 ci3 ci4 e=>(hs8.extBut _ _ cTO (hs7.extBut _ _ ci4 (hs6.extBut _ _ cTO (hs5.extBut _ _ ci3 (hs4.extBut _ _ cTO (hs3.extBut _ _ ci2 (hs2.extBut _ _ cTO (hs1.extBut _ _ ci1 (hs0.extBut _ _ cz e)))))))))
  have he1:Dr S1 i1 l1 xs1 (k+1) g8:=(Dr.ext (Dr.ext (Dr.ext (Dr.ext (Dr.ext (Dr.ext (Dr.ext hd1' hs2.extBut D.i1_TO D.l1_TO) hs3.extBut D.i2_i1.symm D.l1_i2) hs4.extBut D.i1_TO D.l1_TO) hs5.extBut D.i3_i1.symm D.l1_i3) hs6.extBut D.i1_TO D.l1_TO) hs7.extBut D.i4_i1.symm D.l1_i4) hs8.extBut D.i1_TO D.l1_TO)
  have he2:Dr S2 i2 l2 xs2 (k+1) g8:=(Dr.ext (Dr.ext (Dr.ext (Dr.ext (Dr.ext hd2' hs4.extBut D.i2_TO D.l2_TO) hs5.extBut D.i3_i2.symm D.l2_i3) hs6.extBut D.i2_TO D.l2_TO) hs7.extBut D.i4_i2.symm D.l2_i4) hs8.extBut D.i2_TO D.l2_TO)
  have he3:Dr S3 i3 l3 xs3 (k+1) g8:=(Dr.ext (Dr.ext (Dr.ext hd3' hs6.extBut D.i3_TO D.l3_TO) hs7.extBut D.i4_i3.symm D.l3_i4) hs8.extBut D.i3_TO D.l3_TO)
  have he4:Dr S4 i4 l4 xs4 (k+1) g8:=(Dr.ext hd4' hs8.extBut D.i4_TO D.l4_TO)
  have hzlt:z<g8.objs.size:=Heap.lt_size hz5
  show wpAny _ _ (Builtin.SmallTypes.ownedTupleHandOut (.ref z) (.ref g8.objs.size) >>=_) _ _ _;refine wpAny_bind ?_;unfold Builtin.SmallTypes.ownedTupleHandOut
  have hz6:BJ (g8.push { cls:= .type "tuple",data:= .seq #[y1,y2,y3,y4]}) z TI TO .ellipsis f1:=Heap.get?_push_of_some _ hz5
  refine wpAny_bind (wpAny_setField_rec hz6 (by simp) λga hza hsa=>?_);replace hza:BJ ga z TI TO (rawInt g8.objs.size) f1:=hza
  refine wpAny_setField_rec hza (by simp) λgb hzb hsb=>?_;replace hzb:BJ gb z TI TO (rawInt g8.objs.size) (.bool false):=hzb
  have up:∀c o,c≠z->g8.get? c=some o->gb.get? c=some o:=λc o c1 e=>hsb.extBut _ _ c1 (hsa.extBut _ _ c1 (Heap.get?_push_of_some _ e))
  have hTb:BB gb g8.objs.size y1 y2 y3 y4:=hsb.extBut _ _ (Nat.ne_of_gt hzlt) (hsa.extBut _ _ (Nat.ne_of_gt hzlt) (Heap.get?_push_size _ rfl))
  have hsb8:gb.objs.size=g8.objs.size+1:=by rw [hsb.1,hsa.1,Heap.size_push]
  have upE:Heap.ExtBut z g8 gb:=λc o c1 e=>up c o c1 e
  rw [hsz] at hzb hTb hsb8
  refine wpAny_pure ⟨_,rfl,?_⟩;show Q (.ref g8.objs.size) _;rw [hsz]
  exact hQ gb _ ⟨_,_,hzb,.inr ⟨_,rfl⟩,.inl rfl⟩ (λ_=>hzb) ⟨_,_,_,_,up _ _ D.TO_z hU4⟩ (he1.ext upE D.i1_z D.l1_z) (he2.ext upE D.i2_z D.l2_z) (he3.ext upE D.i3_z D.l3_z) (he4.ext upE D.i4_z D.l4_z) hTb hsb8 λc o cz cTO ci1 ci2 ci3 ci4 e=>up c o cz (hk5 c o cz cTO ci1 ci2 ci3 ci4 e)
 ·simp only [Bool.false_eq_true,if_false]
  refine wpAny_bind ?_;simp only [<-Array.forIn_toList,List.forIn_cons,List.forIn_nil]
  refine wpAny_bind (wpAny_bind (wpAny_holding ?_));show wpAny _ _ (Builtin.SmallTypes.nextOf (.ref i1) >>=_) _ _ _
  refine wpAny_bind ((D1 _ hh).item k _ _ _ hl1 (Dr.ext h1 hs0.extBut D.i1_z D.l1_z) λy1 g1 tk1 hy1 hd1 hs1=>wpAny_pure ?_)
  have ex1:y1=x1:=by rw [hx1] at hy1;exact(Option.some.inj hy1).symm
  subst ex1
  have hd1':Dr S1 i1 l1 xs1 (k+1) g1:=hd1
  refine wpAny_pure ?_
  refine wpAny_bind (wpAny_bind (wpAny_holding ?_));show wpAny _ _ (Builtin.SmallTypes.nextOf (.ref i2) >>=_) _ _ _
  refine wpAny_bind ((D2 _ hh).item k _ _ _ hl2 (Dr.ext (Dr.ext h2 hs0.extBut D.i2_z D.l2_z) hs1.extBut D.i2_i1 D.l2_i1) λy2 g2 tk2 hy2 hd2 hs2=>wpAny_pure ?_)
  have ex2:y2=x2:=by rw [hx2] at hy2;exact(Option.some.inj hy2).symm
  subst ex2
  have hd2':Dr S2 i2 l2 xs2 (k+1) g2:=hd2
  refine wpAny_pure ?_
  refine wpAny_bind (wpAny_bind (wpAny_holding ?_));show wpAny _ _ (Builtin.SmallTypes.nextOf (.ref i3) >>=_) _ _ _
  refine wpAny_bind ((D3 _ hh).item k _ _ _ hl3 (Dr.ext (Dr.ext (Dr.ext h3 hs0.extBut D.i3_z D.l3_z) hs1.extBut D.i3_i1 D.l3_i1) hs2.extBut D.i3_i2 D.l3_i2) λy3 g3 tk3 hy3 hd3 hs3=>wpAny_pure ?_)
  have ex3:y3=x3:=by rw [hx3] at hy3;exact(Option.some.inj hy3).symm
  subst ex3
  have hd3':Dr S3 i3 l3 xs3 (k+1) g3:=hd3
  refine wpAny_pure ?_
  refine wpAny_bind (wpAny_bind (wpAny_holding ?_));show wpAny _ _ (Builtin.SmallTypes.nextOf (.ref i4) >>=_) _ _ _
  refine wpAny_bind ((D4 _ hh).item k _ _ _ hl4 (Dr.ext (Dr.ext (Dr.ext (Dr.ext h4 hs0.extBut D.i4_z D.l4_z) hs1.extBut D.i4_i1 D.l4_i1) hs2.extBut D.i4_i2 D.l4_i2) hs3.extBut D.i4_i3 D.l4_i3) λy4 g4 tk4 hy4 hd4 hs4=>wpAny_pure ?_)
  have ex4:y4=x4:=by rw [hx4] at hy4;exact(Option.some.inj hy4).symm
  subst ex4
  have hd4':Dr S4 i4 l4 xs4 (k+1) g4:=hd4
  refine wpAny_pure (wpAny_pure ?_)
  show wpAny _ _ (newTuple [y1,y2,y3,y4] >>=_) _ _ _;refine wpAny_bind (wpAny_newTuple ?_)
  have hsz:g4.objs.size=s.heap.objs.size:=by rw [hs4.1,hs3.1,hs2.1,hs1.1,hs0.1]
  have hz5:BJ g4 z TI TO (rawInt T) f2:=(hs4.extBut _ _ D.i4_z.symm (hs3.extBut _ _ D.i3_z.symm (hs2.extBut _ _ D.i2_z.symm (hs1.extBut _ _ D.i1_z.symm hz0))))
  have hT5:BB g4 TO a1 a2 a3 a4:=(hs4.extBut _ _ D.i4_TO.symm (hs3.extBut _ _ D.i3_TO.symm (hs2.extBut _ _ D.i2_TO.symm (hs1.extBut _ _ D.i1_TO.symm (hs0.extBut _ _ D.TO_z hTO)))))
  have he1:Dr S1 i1 l1 xs1 (k+1) g4:=(Dr.ext (Dr.ext (Dr.ext hd1' hs2.extBut D.i2_i1.symm D.l1_i2) hs3.extBut D.i3_i1.symm D.l1_i3) hs4.extBut D.i4_i1.symm D.l1_i4)
  have he2:Dr S2 i2 l2 xs2 (k+1) g4:=(Dr.ext (Dr.ext hd2' hs3.extBut D.i3_i2.symm D.l2_i3) hs4.extBut D.i4_i2.symm D.l2_i4)
  have he3:Dr S3 i3 l3 xs3 (k+1) g4:=(Dr.ext hd3' hs4.extBut D.i4_i3.symm D.l3_i4)
  have he4:Dr S4 i4 l4 xs4 (k+1) g4:=hd4'
  have hTb:BB (g4.push { cls:= .type "tuple",data:= .seq #[y1,y2,y3,y4]}) g4.objs.size y1 y2 y3 y4:=Heap.get?_push_size _ rfl
  have hb8:(g4.push { cls:= .type "tuple",data:= .seq #[y1,y2,y3,y4]}).objs.size=g4.objs.size+1:=Heap.size_push ..
  refine wpAny_pure ⟨_,rfl,?_⟩;show Q (.ref g4.objs.size) _
  have res:=hQ (g4.push { cls:= .type "tuple",data:= .seq #[y1,y2,y3,y4]}) tk4 ⟨_,_,Heap.get?_push_of_some _ hz5,.inr ⟨_,rfl⟩,hf2⟩ (λc=>c.elim id λc=>absurd (congrArg (λo:Obj=>o.data) (Option.some.inj (hzs.symm.trans c))) (by simp [rawInt])) ⟨_,_,_,_,Heap.get?_push_of_some _ hT5⟩ ⟨S1.itk he1.1 λo q=>Heap.get?_push_of_some _ q,S1.isk he1.2 λo q=>Heap.get?_push_of_some _ q⟩ ⟨S2.itk he2.1 λo q=>Heap.get?_push_of_some _ q,S2.isk he2.2 λo q=>Heap.get?_push_of_some _ q⟩ ⟨S3.itk he3.1 λo q=>Heap.get?_push_of_some _ q,S3.isk he3.2 λo q=>Heap.get?_push_of_some _ q⟩ ⟨S4.itk he4.1 λo q=>Heap.get?_push_of_some _ q,S4.isk he4.2 λo q=>Heap.get?_push_of_some _ q⟩ (by rw [<-hsz];exact hTb) (by rw [hb8,hsz]) λc o cz cTO ci1 ci2 ci3 ci4 e=>Heap.get?_push_of_some _ (hs4.extBut _ _ ci4 (hs3.extBut _ _ ci3 (hs2.extBut _ _ ci2 (hs1.extBut _ _ ci1 (hs0.extBut _ _ cz e)))))
  rw [hsz];exact res
theorem Ra {z TI TO i1 i2 i3 i4 l1 l2 l3 l4:Addr}{k:Nat}{xs1 xs2 xs3 xs4:Array Value}{a1 a2 a3 a4:Value}{Q:Fin->Shared->Prop} (hh:A.handled=none) (D:GN z TI TO i1 i2 i3 i4 l1 l2 l3 l4) (hz:Do s.heap z TI TO) (hTI:BB s.heap TI (.ref i1) (.ref i2) (.ref i3) (.ref i4)) (hTO:BB s.heap TO a1 a2 a3 a4) (h1:Dr S1 i1 l1 xs1 k s.heap) (h2:Dr S2 i2 l2 xs2 k s.heap) (h3:Dr S3 i3 l3 xs3 k s.heap) (h4:Dr S4 i4 l4 xs4 k s.heap) (hend:k=xs1.size)
  (hE:∀h' tk e,(∀c o,c≠z->c≠TO->c≠i1->c≠i2->c≠i3->c≠i4->s.heap.get? c=some o->h'.get? c=some o)->(∃o,h'.get? e=some o/\o.cls= .type "StopIteration")->E (.ref e) { s with heap:=h',toks:=tk}):
  wpAny (model P w) A (Builtin.«zip.__next__» ⟨[.ref z],[]⟩) Q E s:=by
 have D1:=fun(A:Around) (hh:A.handled=none)=>S1.draws A hh i1 l1 D.l1_i1 xs1
 have D2:=fun(A:Around) (hh:A.handled=none)=>S2.draws A hh i2 l2 D.l2_i2 xs2
 have D3:=fun(A:Around) (hh:A.handled=none)=>S3.draws A hh i3 l3 D.l3_i3 xs3
 have D4:=fun(A:Around) (hh:A.handled=none)=>S4.draws A hh i4 l4 D.l4_i4 xs4
 obtain⟨f0',f1',hz',hf0',hf1'⟩:=id hz
 show wpAny _ _ (field (.ref z) 2>>=_) _ _ _;refine wpAny_bind (wpAny_field hz' rfl (x:= .bool false) rfl ?_)
 show wpAny _ _ (field (.ref z) 3>>=_) _ _ _;refine wpAny_bind (wpAny_field hz' rfl (x:= .ref TI) rfl ?_)
 refine wpAny_bind (wpAny_seqItems hTI rfl ?_);show wpAny _ _ (Builtin.SmallTypes.ownedTupleIsFree (.ref z) >>=_) _ _ _
 refine wpAny_bind (Gi hz (λf0 f1 hz=>?_) λg0 T f1 f2 hzs hz0 hf2 hs0=>?_)
 ·simp only [if_true]
  refine wpAny_bind (wpAny_rule ?_);refine wpAny_bind (wpAny_field hz rfl (x:= .ref TO) rfl ?_)
  refine wpAny_bind (wpAny_setField_rec hz (by simp) λg0 hz0 hs0=>?_);replace hz0:BJ g0 z TI TO .ellipsis f1:=hz0
  refine wpAny_bind ?_;simp only [List.zipIdx_cons,List.zipIdx_nil,List.forIn_cons,List.forIn_nil]
  refine wpAny_bind (wpAny_bind (wpAny_onRaise ?_));show wpAny _ _ (Builtin.SmallTypes.nextOf (.ref i1) >>=_) _ _ _
  have hcur:=(Dr.ext h1 hs0.extBut D.i1_z D.l1_z)
  subst hend
  refine wpAny_bind ((D1 _ hh).done _ _ _ hcur λge e hse he=>?_)
  obtain⟨oe,hoe,hce⟩:=he
  have hze:BJ ge z TI TO .ellipsis f1:=hse _ _ D.i1_z.symm hz0
  have hez:e≠z:=λx=>by subst x;rw [hze] at hoe;cases hoe;simp at hce
  exact wpAny_setField_rec hze (by simp) λgf _ hsf=>hE gf _ e (λc o cz cTO ci1 ci2 ci3 ci4 x=>hsf.extBut _ _ cz (hse _ _ ci1 (hs0.extBut _ _ cz x))) ⟨oe,hsf.extBut _ _ hez hoe,hce⟩
 ·simp only [Bool.false_eq_true,if_false]
  refine wpAny_bind ?_;simp only [<-Array.forIn_toList,List.forIn_cons,List.forIn_nil]
  refine wpAny_bind (wpAny_bind (wpAny_holding ?_));show wpAny _ _ (Builtin.SmallTypes.nextOf (.ref i1) >>=_) _ _ _
  have hcur:=(Dr.ext h1 hs0.extBut D.i1_z D.l1_z)
  subst hend
  refine wpAny_bind ((D1 _ hh).done _ _ _ hcur λge e hse he=>?_)
  obtain⟨oe,hoe,hce⟩:=he
  exact hE ge _ e (λc o cz cTO ci1 ci2 ci3 ci4 x=>hse _ _ ci1 (hs0.extBut _ _ cz x)) ⟨oe,hoe,hce⟩
end
theorem Rb (a b c d:Value):checkTypeCall "zip" ⟨[a,b,c,d],[]⟩=pure ():=by kernel_rfl
theorem Rc (a b c d:Value):checkBuiltinCall "zip.__new__" ⟨[.type "zip",a,b,c,d],[]⟩=pure ():=by kernel_rfl
theorem Re (a b c d e:Value):argsOk "object.__init__" ⟨[a,b,c,d,e],[]⟩:=by
 unfold argsOk;rw [signature?_of (id:="object.__init__") (n:=['_','_','t','i','n','i','_','_']) (o:=['t','c','e','j','b','o']) (by kernel_rfl) F.owner_object];kernel_rfl
abbrev GP {P:Program}{w:World}{K:PySem.W.Frag} (S1 S2 S3 S4:AM P w K) (h:Heap) (l1 l2 l3 l4:Addr):Heap:=(h).push (S1.obj l1)
abbrev GQ {P:Program}{w:World}{K:PySem.W.Frag} (S1 S2 S3 S4:AM P w K) (h:Heap) (l1 l2 l3 l4:Addr):Heap:=(GP S1 S2 S3 S4 h l1 l2 l3 l4).push (S2.obj l2)
abbrev GR {P:Program}{w:World}{K:PySem.W.Frag} (S1 S2 S3 S4:AM P w K) (h:Heap) (l1 l2 l3 l4:Addr):Heap:=(GQ S1 S2 S3 S4 h l1 l2 l3 l4).push (S3.obj l3)
abbrev GS {P:Program}{w:World}{K:PySem.W.Frag} (S1 S2 S3 S4:AM P w K) (h:Heap) (l1 l2 l3 l4:Addr):Heap:=(GR S1 S2 S3 S4 h l1 l2 l3 l4).push (S4.obj l4)
abbrev GT {P:Program}{w:World}{K:PySem.W.Frag} (S1 S2 S3 S4:AM P w K) (h:Heap) (l1 l2 l3 l4:Addr):Heap:=(GS S1 S2 S3 S4 h l1 l2 l3 l4).push { cls:= .type "tuple",data:= .seq #[.ref h.objs.size,.ref (GP S1 S2 S3 S4 h l1 l2 l3 l4).objs.size,.ref (GQ S1 S2 S3 S4 h l1 l2 l3 l4).objs.size,.ref (GR S1 S2 S3 S4 h l1 l2 l3 l4).objs.size]}
abbrev GU {P:Program}{w:World}{K:PySem.W.Frag} (S1 S2 S3 S4:AM P w K) (h:Heap) (l1 l2 l3 l4:Addr):Heap:=(GT S1 S2 S3 S4 h l1 l2 l3 l4).push { cls:= .type "tuple",data:= .seq #[.none,.none,.none,.none]}
abbrev Db {P:Program}{w:World}{K:PySem.W.Frag} (S1 S2 S3 S4:AM P w K) (h:Heap) (l1 l2 l3 l4:Addr):Heap:=(GU S1 S2 S3 S4 h l1 l2 l3 l4).push { cls:= .type "zip",data:= .fields #[.none,.bool false,.bool false,.ref (GS S1 S2 S3 S4 h l1 l2 l3 l4).objs.size,.ref (GT S1 S2 S3 S4 h l1 l2 l3 l4).objs.size]}
def Je {P:Program}{w:World}{K:PySem.W.Frag} (S1 S2 S3 S4:AM P w K):Prop:=S1.ok/\S2.ok/\S3.ok/\S4.ok/\∀(l1 l2 l3 l4:Addr) (xs1 xs2 xs3 xs4:Array Value),
  Meets (Builtin.«zip.__new__» ⟨[.type "zip",.ref l1,.ref l2,.ref l3,.ref l4],[]⟩) (λ_ R s=>S1.Is s.heap l1 xs1/\S2.Is s.heap l2 xs2/\S3.Is s.heap l3 xs3/\S4.Is s.heap l4 xs4/\R (.ok (.ret (.ref (GU S1 S2 S3 S4 s.heap l1 l2 l3 l4).objs.size))) { s with heap:=Db S1 S2 S3 S4 s.heap l1 l2 l3 l4})
theorem Rf {X:Cx}{p pos:Pos}{e1 e2 e3 e4:Expr}{ta:TA} (S1 S2 S3 S4:AM X.prog X.w X.K) (zn:Je S1 S2 S3 S4) (hg:Gl X "zip") (hm:X.mg "zip"=none) (ha:PA X [e1,e2,e3,e4] ta) (hs1:starEach [e1,e2,e3,e4] X.env=[(false,eval e1 X.env),(false,eval e2 X.env),(false,eval e3 X.env),(false,eval e4 X.env)]) (hs2:starEach [e2,e3,e4] X.env=[(false,eval e2 X.env),(false,eval e3 X.env),(false,eval e4 X.env)]) (hs3:starEach [e3,e4] X.env=[(false,eval e3 X.env),(false,eval e4 X.env)]) (hs4:starEach [e4] X.env=[(false,eval e4 X.env)])
  {pins:List (Addr×Obj)}{s:Shared}{σ:St}{H:Hp}{R:Addr->Addr->Addr->Addr->Hp->Prop} (I:Ad X pins σ H s) (h:ta σ H λvs H1=>∃l1 l2 l3 l4,vs=[.ref l1,.ref l2,.ref l3,.ref l4]/\(∃xs,S1.Sq H1 l1 xs)/\(∃xs,S2.Sq H1 l2 xs)/\(∃xs,S3.Sq H1 l3 xs)/\(∃xs,S4.Sq H1 l4 xs)/\R l1 l2 l3 l4 H1):
  wpAny (model X.prog X.w) X.A (eval (.Call (.Name "zip" p) [e1,e2,e3,e4] [] pos) X.env) (λv s1=>∃l1 l2 l3 l4 H1,∃m:Nat,v= .ref (m+6)/\R l1 l2 l3 l4 H1/\Ad X pins σ H1 s1/\IsZip s1.heap (m+6) (m+4) (m+5) .none/\BB s1.heap (m+4) (.ref m) (.ref (m+1)) (.ref (m+2)) (.ref (m+3))/\BB s1.heap (m+5) .none .none .none .none/\S1.It s1.heap m l1 0/\S2.It s1.heap (m+1) l2 0/\S3.It s1.heap (m+2) l3 0/\S4.It s1.heap (m+3) l4 0/\l1<m/\l2<m/\l3<m/\l4<m/\(∀b,m<=b->BD X pins H1 b)/\s1.heap.objs.size=m+7) X.xe s:=by
 refine Call_ (CB I hg hm boot_zip (PyProof.Rows.callWith_type1 (Aq (ha pos pins s σ H _ I h) λus s1 ⟨vs,H1,I1,r1,q1⟩=>?_) (by rw [hs1,hs2]) (by rw [hs2];rfl)))
 obtain⟨l1,l2,l3,l4,e,⟨xs1,hq1⟩,⟨xs2,hq2⟩,⟨xs3,hq3⟩,⟨xs4,hq4⟩,q⟩:=q1
 subst e
 rcases r1 with _ | ⟨ru1,r1⟩
 rcases r1 with _ | ⟨ru2,r1⟩
 rcases r1 with _ | ⟨ru3,r1⟩
 rcases r1 with _ | ⟨ru4,r1⟩
 cases r1
 cases ru1;cases ru2;cases ru3;cases ru4
 obtain⟨its1,rv1,is1,_⟩:=S1.get rfl I1 hq1
 obtain⟨its2,rv2,is2,_⟩:=S2.get rfl I1 hq2
 obtain⟨its3,rv3,is3,_⟩:=S3.get rfl I1 hq3
 obtain⟨its4,rv4,is4,_⟩:=S4.get rfl I1 hq4
 obtain⟨o1,ho1⟩:=S1.iso is1
 have hl1:=Heap.lt_size ho1
 obtain⟨o2,ho2⟩:=S2.iso is2
 have hl2:=Heap.lt_size ho2
 obtain⟨o3,ho3⟩:=S3.iso is3
 have hl3:=Heap.lt_size ho3
 obtain⟨o4,ho4⟩:=S4.iso is4
 have hl4:=Heap.lt_size ho4
 refine callType_new F.called_zip (by decide) (Rb _ _ _ _) (Rc _ _ _ _) (λobj=>Re obj _ _ _ _) F.entry_zip_new (zn.2.2.2.2 l1 l2 l3 l4 its1.toArray its2.toArray its3.toArray its4.toArray) ⟨is1,is2,is3,is4,?_⟩
 have z1:(GP S1 S2 S3 S4 s1.heap l1 l2 l3 l4).objs.size=s1.heap.objs.size+1:=by rw [Heap.size_push]
 have z2:(GQ S1 S2 S3 S4 s1.heap l1 l2 l3 l4).objs.size=s1.heap.objs.size+2:=by rw [Heap.size_push,z1]
 have z3:(GR S1 S2 S3 S4 s1.heap l1 l2 l3 l4).objs.size=s1.heap.objs.size+3:=by rw [Heap.size_push,z2]
 have z4:(GS S1 S2 S3 S4 s1.heap l1 l2 l3 l4).objs.size=s1.heap.objs.size+4:=by rw [Heap.size_push,z3]
 have z5:(GT S1 S2 S3 S4 s1.heap l1 l2 l3 l4).objs.size=s1.heap.objs.size+5:=by rw [Heap.size_push,z4]
 have z6:(GU S1 S2 S3 S4 s1.heap l1 l2 l3 l4).objs.size=s1.heap.objs.size+6:=by rw [Heap.size_push,z5]
 have zz:(Db S1 S2 S3 S4 s1.heap l1 l2 l3 l4).objs.size=s1.heap.objs.size+7:=by rw [Heap.size_push,z6]
 have gz:(Db S1 S2 S3 S4 s1.heap l1 l2 l3 l4).get? (GU S1 S2 S3 S4 s1.heap l1 l2 l3 l4).objs.size=some _:=Heap.get?_push_size _ rfl
 have gO:(Db S1 S2 S3 S4 s1.heap l1 l2 l3 l4).get? (GT S1 S2 S3 S4 s1.heap l1 l2 l3 l4).objs.size=some _:=Heap.get?_push_of_some _ (Heap.get?_push_size _ rfl)
 have gI:(Db S1 S2 S3 S4 s1.heap l1 l2 l3 l4).get? (GS S1 S2 S3 S4 s1.heap l1 l2 l3 l4).objs.size=some _:=Heap.get?_push_of_some _ (Heap.get?_push_of_some _ (Heap.get?_push_size _ rfl))
 have g1:S1.It (Db S1 S2 S3 S4 s1.heap l1 l2 l3 l4) s1.heap.objs.size l1 0:=S1.itk (S1.itn zn.1 _ _) λo q=>Heap.get?_push_of_some _ (Heap.get?_push_of_some _ (Heap.get?_push_of_some _ (Heap.get?_push_of_some _ (Heap.get?_push_of_some _ (Heap.get?_push_of_some _ (q))))))
 have g2:S2.It (Db S1 S2 S3 S4 s1.heap l1 l2 l3 l4) (GP S1 S2 S3 S4 s1.heap l1 l2 l3 l4).objs.size l2 0:=S2.itk (S2.itn zn.2.1 _ _) λo q=>Heap.get?_push_of_some _ (Heap.get?_push_of_some _ (Heap.get?_push_of_some _ (Heap.get?_push_of_some _ (Heap.get?_push_of_some _ (q)))))
 have g3:S3.It (Db S1 S2 S3 S4 s1.heap l1 l2 l3 l4) (GQ S1 S2 S3 S4 s1.heap l1 l2 l3 l4).objs.size l3 0:=S3.itk (S3.itn zn.2.2.1 _ _) λo q=>Heap.get?_push_of_some _ (Heap.get?_push_of_some _ (Heap.get?_push_of_some _ (Heap.get?_push_of_some _ (q))))
 have g4:S4.It (Db S1 S2 S3 S4 s1.heap l1 l2 l3 l4) (GR S1 S2 S3 S4 s1.heap l1 l2 l3 l4).objs.size l4 0:=S4.itk (S4.itn zn.2.2.2.1 _ _) λo q=>Heap.get?_push_of_some _ (Heap.get?_push_of_some _ (Heap.get?_push_of_some _ (q)))
 have kk:∀b o,s1.heap.get? b=some o->(Db S1 S2 S3 S4 s1.heap l1 l2 l3 l4).get? b=some o:=λb o x=>Heap.get?_push_of_some _ (Heap.get?_push_of_some _ (Heap.get?_push_of_some _ (Heap.get?_push_of_some _ (Heap.get?_push_of_some _ (Heap.get?_push_of_some _ (Heap.get?_push_of_some _ (x)))))))
 show _/\_
 rw [z4,z5,z6] at gz;rw [z5] at gO;rw [z1,z2,z3,z4] at gI;rw [z6]
 rw [z1] at g2
 rw [z2] at g3
 rw [z3] at g4
 generalize Db S1 S2 S3 S4 s1.heap l1 l2 l3 l4=hE at g1 g2 g3 g4 gI gO gz kk zz ⊢
 have I2:Ad X pins σ H1 { s1 with heap:=hE}:=I1.kept (t':=s1.toks) kk
 exact⟨⟨_,gz,rfl⟩,l1,l2,l3,l4,H1,s1.heap.objs.size,rfl,q,I2,gz,gI,gO,g1,g2,g3,g4,hl1,hl2,hl3,hl4,λb hb=>I1.fpOk hb (I1.hok.fresh hb),zz⟩
set_option maxHeartbeats 8000000 in
theorem Rg (P:Program) (w:World) (K:PySem.W.Frag):Je (Ec P w K) (Bd P w K) (Bd P w K) (Ec P w K):=⟨trivial,trivial,trivial,trivial,λl1 l2 l3 l4 xs1 xs2 xs3 xs4=>
 .of_wp λprog w A R s h=>by
  obtain⟨hp,g,d,tk,os⟩:=s;obtain⟨hl1,hl2,hl3,hl4,h⟩:=h;have hsub:=sub_zip
  have hL1:Heap.IsList (Shared.heap ⟨hp,g,d,tk,os⟩) l1 xs1:=hl1
  have hL2:Heap.IsTuple (Shared.heap ⟨(hp).push { cls:= .type "list_iterator",data:= .fields #[.ref l1,.int 0 0]},g,d,tk,os⟩) l2 xs2:=Heap.IsTuple.push (hl2) _
  have hL3:Heap.IsTuple (Shared.heap ⟨((hp).push { cls:= .type "list_iterator",data:= .fields #[.ref l1,.int 0 0]}).push { cls:= .type "tuple_iterator",data:= .fields #[.ref l2,.int 0 0]},g,d,tk,os⟩) l3 xs3:=Heap.IsTuple.push (Heap.IsTuple.push (hl3) _) _
  have hL4:Heap.IsList (Shared.heap ⟨(((hp).push { cls:= .type "list_iterator",data:= .fields #[.ref l1,.int 0 0]}).push { cls:= .type "tuple_iterator",data:= .fields #[.ref l2,.int 0 0]}).push { cls:= .type "tuple_iterator",data:= .fields #[.ref l3,.int 0 0]},g,d,tk,os⟩) l4 xs4:=Heap.IsList.push (Heap.IsList.push (Heap.IsList.push (hl4) _) _) _
  wp_walk using wpAny_pyIter_list hL1,wpAny_pyIter_tuple hL2,wpAny_pyIter_tuple hL3,wpAny_pyIter_list hL4
  exact⟨_,rfl,h⟩⟩
theorem Rh {n l1 l2 l3 l4:Nat} (h1:l1<n) (h2:l2<n) (h3:l3<n) (h4:l4<n):GN (n+6) (n+4) (n+5) n (n+1) (n+2) (n+3) l1 l2 l3 l4:=by constructor<;>intro z<;>(have z':=z;revert z';intro z';try (change (_:Nat)=_ at z');omega)
def EI {P:Program}{w:World}{K:PySem.W.Frag} (S1 S2 S3 S4:AM P w K) (a b c f:Addr):It:=
 ⟨λi H=>∃xs ys zs ws x y z w,S1.Sq H a xs/\S2.Sq H b ys/\S3.Sq H c zs/\S4.Sq H f ws/\xs[i]? =some x/\ys[i]? =some y/\zs[i]? =some z/\ws[i]? =some w,λi H v H'=>∃T,v= .ref T/\H T=none/\∀xs ys zs ws x y z w,S1.Sq H a xs->S2.Sq H b ys->S3.Sq H c zs->S4.Sq H f ws->xs[i]? =some x->ys[i]? =some y->zs[i]? =some z->ws[i]? =some w->H'=upd H T (.tup [x,y,z,w]),
  λi H=>∃xs ys zs ws,S1.Sq H a xs/\S2.Sq H b ys/\S3.Sq H c zs/\S4.Sq H f ws/\xs.length=i⟩
theorem Ri {P:Program}{w:World}{K:PySem.W.Frag} (S1 S2 S3 S4:AM P w K) {es:List Expr}{k:Nat}{pos:Pos} (z TI TO i1 i2 i3 i4 l1 l2 l3 l4:Addr) (D:GN z TI TO i1 i2 i3 i4 l1 l2 l3 l4):
  CW P w K (.Tuple es k pos) (EI S1 S2 S3 S4 l1 l2 l3 l4) [z,TI,TO,i1,i2,i3,i4] z (λi h=>IsZip h z TI TO .none/\BB h TI (.ref i1) (.ref i2) (.ref i3) (.ref i4)/\(∃a b c f,BB h TO a b c f)/\S1.It h i1 l1 i/\S2.It h i2 l2 i/\S3.It h i3 l3 i/\S4.It h i4 l4 i) where
 mem:=by simp
 obj:=λi h st b hb=>by
  obtain⟨hz,hTI,⟨a,b',c,f',hTO⟩,h1,h2,h3,h4⟩:=st
  simp only [List.mem_cons,List.not_mem_nil,or_false] at hb
  rcases hb with e | e | e | e | e | e | e<;>rw [e]
  ·exact⟨_,hz,λv q=>by have q':Data.fields _=Data.cell v:=q;cases q'⟩
  ·exact⟨_,hTI,λv q=>by have q':Data.seq _ _=Data.cell v:=q;cases q'⟩
  ·exact⟨_,hTO,λv q=>by have q':Data.seq _ _=Data.cell v:=q;cases q'⟩
  ·exact S1.ito h1
  ·exact S2.ito h2
  ·exact S3.ito h3
  ·exact S4.ito h4
 keep:=λi h h' st kk=>by
  obtain⟨hz,hTI,⟨a,b',c,f',hTO⟩,h1,h2,h3,h4⟩:=st
  exact⟨kk z (by simp) _ hz,kk TI (by simp) _ hTI,⟨a,b',c,f',kk TO (by simp) _ hTO⟩,S1.itk h1 λo q=>kk i1 (by simp) o q,S2.itk h2 λo q=>kk i2 (by simp) o q,S3.itk h3 λo q=>kk i3 (by simp) o q,S4.itk h4 λo q=>kk i4 (by simp) o q⟩
 item:=by
  intro X hP hw hK hc i pins s σ H E I hf st hg
  subst hP hw
  obtain⟨xs,ys,zs,ws,x,y,v,r0,hq1,hq2,hq3,hq4,hx,hy,hv,hr0⟩:=hg
  obtain⟨its1,rv1,is1,hz1⟩:=S1.get hK I hq1
  obtain⟨its2,rv2,is2,hz2⟩:=S2.get hK I hq2
  obtain⟨its3,rv3,is3,hz3⟩:=S3.get hK I hq3
  obtain⟨its4,rv4,is4,hz4⟩:=S4.get hK I hq4
  obtain⟨u1,hu1,ru1⟩:=rv1.get hx
  obtain⟨u2,hu2,ru2⟩:=rv2.get hy
  obtain⟨u3,hu3,ru3⟩:=rv3.get hv
  obtain⟨u4,hu4,ru4⟩:=rv4.get hr0
  obtain⟨hz,hTI,⟨a,b',c,f',hTO⟩,h1,h2,h3,h4⟩:=st
  have hh:=I.ok.hd hc
  have hT:s.TypeIs (.ref z) "zip" :=⟨_,hz,rfl⟩
  unfold pyNext
  refine wpAny_bind (wpAny_attempt (wpAny_callSpecial?_slot (name:=Str.ofString "__next__") hT F.slot_zip_next (wpAny_call_entry F.slot_zip_next hT F.entry_zip_next
   (Q9 S1 S2 S3 S4 (x1:=u1) (x2:=u2) (x3:=u3) (x4:=u4) hh D ⟨_,_,hz,.inl rfl,.inl rfl⟩ hTI hTO ⟨h1,is1⟩ ⟨h2,is2⟩ ⟨h3,is3⟩ ⟨h4,is4⟩ (by simpa using hu1) (by simpa using hu2) (by simpa using hu3) (by simpa using hu4) λh' tk _ az aTO a1 a2 a3 a4 a5 a6 hk=>wpAny_pure ⟨_,rfl,?_⟩) (F.args_zip_next_1 _))))
  refine wpAny_letOwnedTupleGo_zip (az (.inr hz)) λh'' z1 sb=>?_
  have kk:∀b o,b ∉ [z,TI,TO,i1,i2,i3,i4]->s.heap.get? b=some o->h''.get? b=some o:=λb o hb q=>sb.extBut b o (λe=>hb (by simp [e])) (hk b o (λe=>hb (by simp [e])) (λe=>hb (by simp [e])) (λe=>hb (by simp [e])) (λe=>hb (by simp [e])) (λe=>hb (by simp [e])) (λe=>hb (by simp [e])) q)
  have zl:z<s.heap.objs.size:=Heap.lt_size hz
  have ht:IsTup h'' s.heap.objs.size [u1,u2,u3,u4].toArray:=⟨_,sb.extBut _ _ (Nat.ne_of_gt zl) a5,rfl,_,rfl⟩
  obtain⟨b1,b2,b3,b4,aTO⟩:=aTO
  exact⟨.ref s.heap.objs.size,upd H s.heap.objs.size (.tup [x,y,v,r0]),I.yielded (tk:=tk) (λb hb=>hf b hb) kk (Nat.le_refl _) ht (.cons ru1 (.cons ru2 (.cons ru3 (.cons ru4 .nil)))) (by show 4<=sizeLine;decide),rfl,
   ⟨_, rfl, I.hok.fresh (Nat.le_refl _), λxs' ys' zs' ws' x' y' v' w' e1 e2 e3 e7 e4 e5 e6 e8 => by
    rw [S1.inj hK I e1 hq1,hx] at e4;rw [S2.inj hK I e2 hq2,hy] at e5;rw [S3.inj hK I e3 hq3,hv] at e6;rw [S4.inj hK I e7 hq4,hr0] at e8;cases e4;cases e5;cases e6;cases e8;rfl⟩,
   ⟨z1, sb.extBut _ _ D.TI_z (hk _ _ D.TI_z D.TO_TI.symm D.i1_TI.symm D.i2_TI.symm D.i3_TI.symm D.i4_TI.symm hTI), ⟨_, _, _, _, sb.extBut _ _ D.TO_z aTO⟩, S1.itk a1.1 λo q => sb.extBut _ o D.i1_z q, S2.itk a2.1 λo q => sb.extBut _ o D.i2_z q, S3.itk a3.1 λo q => sb.extBut _ o D.i3_z q, S4.itk a4.1 λo q => sb.extBut _ o D.i4_z q⟩, λb hb => by
    have hbt:b<s.heap.objs.size:=by
     simp only [List.mem_cons,List.not_mem_nil,or_false] at hb
     rcases hb with e | e | e | e | e | e | e<;>rw [e]
     ·exact zl
     ·exact Heap.lt_size hTI
     ·exact Heap.lt_size hTO
     ·obtain⟨o,q,_⟩:=S1.ito h1;exact Heap.lt_size q
     ·obtain⟨o,q,_⟩:=S2.ito h2;exact Heap.lt_size q
     ·obtain⟨o,q,_⟩:=S3.ito h3;exact Heap.lt_size q
     ·obtain⟨o,q,_⟩:=S4.ito h4;exact Heap.lt_size q
    rw [As (Nat.ne_of_lt hbt)];exact(hf b hb).1⟩
 done:=by
  intro X hP hw hK hc i pins s σ H E I hf st hg
  subst hP hw
  obtain⟨xs,ys,zs,ws,hq1,hq2,hq3,hq4,hend⟩:=hg
  obtain⟨its1,rv1,is1,hz1⟩:=S1.get hK I hq1
  obtain⟨its2,rv2,is2,hz2⟩:=S2.get hK I hq2
  obtain⟨its3,rv3,is3,hz3⟩:=S3.get hK I hq3
  obtain⟨its4,rv4,is4,hz4⟩:=S4.get hK I hq4
  obtain⟨hz,hTI,⟨a,b',c,f',hTO⟩,h1,h2,h3,h4⟩:=st
  have hh:=I.ok.hd hc
  have hT:s.TypeIs (.ref z) "zip" :=⟨_,hz,rfl⟩
  have e1:=rv1.length
  unfold pyNext
  refine wpAny_bind (wpAny_attempt (wpAny_callSpecial?_slot (name:=Str.ofString "__next__") hT F.slot_zip_next (wpAny_call_entry F.slot_zip_next hT F.entry_zip_next
   (Ra S1 S2 S3 S4 hh D ⟨_,_,hz,.inl rfl,.inl rfl⟩ hTI hTO ⟨h1,is1⟩ ⟨h2,is2⟩ ⟨h3,is3⟩ ⟨h4,is4⟩ (by simp;omega) λh' tk e hk he=>?_) (F.args_zip_next_1 _))))
  obtain⟨o,ho,hco⟩:=he
  refine wpAny_bind (wpAny_isInstance (T:="StopIteration") (b:=true) ⟨o,ho,hco⟩ isSubtype_stop ?_)
  exact wpAny_pure ⟨rfl,I.ended (wr:=[z,TI,TO,i1,i2,i3,i4]) (tk:=tk) (λb hb=>hf b hb) λb o hb q=>hk b o (λe=>hb (by simp [e])) (λe=>hb (by simp [e])) (λe=>hb (by simp [e])) (λe=>hb (by simp [e])) (λe=>hb (by simp [e])) (λe=>hb (by simp [e])) q⟩
 self:=λ_ _ _ _ _ st h=>wpAny_pyIter_zip st.1 h
def LT {P:Program}{w:World}{K:PySem.W.Frag} (S1 S2 S3 S4:AM P w K) (ta:TA):TI:=fun σ H R=>ta σ H λvs H1=>∃a b c f,vs=[.ref a,.ref b,.ref c,.ref f]/\(∃xs,S1.Sq H1 a xs)/\(∃ys,S2.Sq H1 b ys)/\(∃zs,S3.Sq H1 c zs)/\(∃ws,S4.Sq H1 f ws)/\R (EI S1 S2 S3 S4 a b c f) H1
theorem Rj {X:Cx}{es:List Expr}{k:Nat}{p pos pos':Pos}{e1 e2 e3 e4:Expr}{ta:TA} (S1 S2 S3 S4:AM X.prog X.w X.K) (zn:Je S1 S2 S3 S4) (hg:Gl X "zip") (hm:X.mg "zip"=none) (ha:PA X [e1,e2,e3,e4] ta)
  (hs1:starEach [e1,e2,e3,e4] X.env=[(false,eval e1 X.env),(false,eval e2 X.env),(false,eval e3 X.env),(false,eval e4 X.env)]) (hs2:starEach [e2,e3,e4] X.env=[(false,eval e2 X.env),(false,eval e3 X.env),(false,eval e4 X.env)]) (hs3:starEach [e3,e4] X.env=[(false,eval e3 X.env),(false,eval e4 X.env)]) (hs4:starEach [e4] X.env=[(false,eval e4 X.env)]):
  PI X (.Tuple es k pos') (.Call (.Name "zip" p) [e1,e2,e3,e4] [] pos) (LT S1 S2 S3 S4 ta):=by
 intro pins s σ H R I h
 refine Aq (Rf S1 S2 S3 S4 zn (R:=λl1 l2 l3 l4 H1=>R (EI S1 S2 S3 S4 l1 l2 l3 l4) H1) hg hm ha hs1 hs2 hs3 hs4 I h) λv s1 ⟨l1,l2,l3,l4,H1,m,e,q,I1,gz,gI,gO,g1,g2,g3,g4,h1,h2,h3,h4,fr,_⟩=>?_
 subst e
 exact wpAny_pyIter_zip gz ⟨_,[m+6,m+4,m+5,m,m+1,m+2,m+3],_,_,H1,rfl,I1,Ri S1 S2 S3 S4 _ _ _ _ _ _ _ l1 l2 l3 l4 (Rh h1 h2 h3 h4),⟨gz,gI,⟨_,_,_,_,gO⟩,g1,g2,g3,g4⟩,λb hb=>fr b (by
  simp only [List.mem_cons,List.not_mem_nil,or_false] at hb
  rcases hb with e | e | e | e | e | e | e<;>rw [e]<;>first | exact Nat.le_refl _ | exact Nat.le_add_right _ _),q⟩
theorem Rk (P:Program) (w:World) (K:PySem.W.Frag) {X:Cx}{es:List Expr}{k:Nat}{p pos pos':Pos}{e1 e2 e3 e4:Expr}{ta:TA} (hg:Gl X "zip") (hm:X.mg "zip"=none) (ha:PA X [e1,e2,e3,e4] ta) (hP:X.prog=P:=by rfl) (hw:X.w=w:=by rfl) (hK:X.K=K:=by rfl)
  (hs1:starEach [e1,e2,e3,e4] X.env=[(false,eval e1 X.env),(false,eval e2 X.env),(false,eval e3 X.env),(false,eval e4 X.env)]:=by rfl) (hs2:starEach [e2,e3,e4] X.env=[(false,eval e2 X.env),(false,eval e3 X.env),(false,eval e4 X.env)]:=by rfl) (hs3:starEach [e3,e4] X.env=[(false,eval e3 X.env),(false,eval e4 X.env)]:=by rfl) (hs4:starEach [e4] X.env=[(false,eval e4 X.env)]:=by rfl):
  PI X (.Tuple es k pos') (.Call (.Name "zip" p) [e1,e2,e3,e4] [] pos) (LT (Ec P w K) (Bd P w K) (Bd P w K) (Ec P w K) ta):=by subst hP hw hK;exact Rj _ _ _ _ (Rg _ _ _) hg hm ha hs1 hs2 hs3 hs4
theorem Rl {P:Program}{w:World}{K:PySem.W.Frag}{S1 S2 S3 S4:AM P w K}{a b c f:Addr}{xs ys zs ws:List V}{g:TG}{tb:TS}{D:CU}{σ:St}{H:Hp} (Pv:Nat->St->Hp->Prop) (he:xs.length=ys.length) (he2:xs.length=zs.length) (he3:xs.length=ws.length) (h0:Pv 0 σ H) (hl:∀i σ H,Pv i σ H->S1.Sq H a xs/\S2.Sq H b ys/\S3.Sq H c zs/\S4.Sq H f ws)
  (hs:∀i x y z v σ H T,xs[i]? =some x->ys[i]? =some y->zs[i]? =some z->ws[i]? =some v->Pv i σ H->H T=none->g (.ref T) σ (upd H T (.tup [x,y,z,v])) fun σ2 H2=>tb { D with nx:=Pv (i+1),ct:=Pv (i+1),bk:=D.nx} σ2 H2) (hd:∀σ H,Pv xs.length σ H->D.nx σ H):
  ∃W:Nat->Nat->St->Hp->Prop,(∃m,W 0 m σ H)/\∀i m σ H,W i m σ H->
   ((EI S1 S2 S3 S4 a b c f).stop i H/\D.nx σ H)\/((EI S1 S2 S3 S4 a b c f).go i H/\∃N:St->Hp->Prop,(∀σ' H',N σ' H'->∃m',m'<m/\W (i+1) m' σ' H')/\∀x H',(EI S1 S2 S3 S4 a b c f).yld i H x H'->g x σ H' fun σ2 H2=>tb { D with nx:=N,ct:=N,bk:=D.nx} σ2 H2):=by
 refine⟨λi m σ H=>m=xs.length-i/\i<=xs.length/\Pv i σ H,⟨xs.length,by simp,Nat.zero_le _,h0⟩,?_⟩
 rintro i m σ H ⟨rfl,hi,p⟩
 obtain⟨q1,q2,q3,q4⟩:=hl i σ H p
 by_cases hlt:i<xs.length
 ·refine .inr ⟨⟨xs,ys,zs,ws,xs[i],ys[i]'(by omega),zs[i]'(by omega),ws[i]'(by omega),q1,q2,q3,q4,by simp [hlt],List.getElem?_eq_getElem _,List.getElem?_eq_getElem _,List.getElem?_eq_getElem _⟩,Pv (i+1),fun σ' H' p'=>⟨xs.length-(i+1),by omega,rfl,hlt,p'⟩,λv H' ⟨T,e,n,y⟩=>?_⟩
  subst e
  rw [y xs ys zs ws xs[i] (ys[i]'(by omega)) (zs[i]'(by omega)) (ws[i]'(by omega)) q1 q2 q3 q4 (by simp [hlt]) (List.getElem?_eq_getElem _) (List.getElem?_eq_getElem _) (List.getElem?_eq_getElem _)]
  exact hs i _ _ _ _ σ H T (by simp [hlt]) (List.getElem?_eq_getElem _) (List.getElem?_eq_getElem _) (List.getElem?_eq_getElem _) p n
 ·have e:i=xs.length:=by omega
  subst e
  exact .inl ⟨⟨xs,ys,zs,ws,q1,q2,q3,q4,rfl⟩,hd _ _ p⟩
end L2
end
section
namespace L2
open PySem PySem.Spec PyProof.Rows
variable {xs : List (List Ax × Addr × Value)} {H' : Hp} {h' : Heap} {trs : List (TE × TE)}
section
variable {κ : Type} [DecidableEq κ]
def Cg (kvs:List (κ×V)) (k:κ):Option V:=(kvs.find? λkv=>decide (kv.1=k)).map (·.2)
def BZ (kvs:List (κ×V)) (k:κ) (v:V):List (κ×V):=
 if (kvs.any λkv=>decide (kv.1=k))=true then kvs.map (λkv=>if kv.1=k then(kv.1,v) else kv) else kvs++[(k,v)]
theorem GV {p:κ×V}{r:List (κ×V)}{k:κ} (e:p.1=k):Cg (p::r) k=some p.2:=by simp [Cg,List.find?_cons,e]
theorem GW {p:κ×V}{r:List (κ×V)}{k:κ} (e:¬p.1=k):Cg (p::r) k=Cg r k:=by simp [Cg,List.find?_cons,e]
theorem LU (k:κ):∀kvs:List (κ×V),(kvs.any λkv=>decide (kv.1=k))=(Cg kvs k).isSome
 | []=>rfl
 | p::r=>by
  rw [List.any_cons]
  by_cases e:p.1=k
  ·simp only [GV e,decide_eq_true e,Bool.true_or,Option.isSome_some]
  ·rw [GW e,decide_eq_false e,Bool.false_or];exact LU k r
theorem Jf (kvs:List (κ×V)) (k:κ) (v:V):(BZ kvs k v).length<=kvs.length+1:=by
 unfold BZ
 split
 ·rw [List.length_map];omega
 ·rw [List.length_append,List.length_cons,List.length_nil];omega
theorem RelO.isSome_eq {o:Option V}{u:Option Value} (r:RelO o u):o.isSome=u.isSome:=by
 cases o with
 | none=>cases u with
  | none=>rfl
  | some _=>exact(show False from r).elim
 | some _=>cases u with
  | none=>exact(show False from r).elim
  | some _=>rfl
theorem RelO.getD {o:Option V}{u:Option Value}{d:V}{d':Value} (r:RelO o u) (rd:Ay d d'):Ay (o.getD d) (u.getD d'):=by
 cases o with
 | none=>cases u with
  | none=>exact rd
  | some _=>exact(show False from r).elim
 | some _=>cases u with
  | none=>exact(show False from r).elim
  | some _=>exact r
theorem KV.val {kvs:List (κ×V)}{vs:List (κ×Value)} (r:KV kvs vs) (k:κ):RelO (Cg kvs k) (valueAt vs k):=by
 unfold KV at r
 induction r with
 | nil=>exact True.intro
 | @cons p q ps qs h t ih=>
  obtain⟨h1,h2⟩:=h
  by_cases e:p.1=k
  ·have e':q.1=k:=h1.symm.trans e
   have b:valueAt (q::qs) k=some q.2:=by simp [valueAt,List.find?_cons,e']
   rw [GV e,b];exact h2
  ·have e':¬q.1=k:=λz=>e (h1.trans z)
   have b:valueAt (q::qs) k=valueAt qs k:=by simp [valueAt,List.find?_cons,e']
   rw [GW e,b];exact ih
theorem KV.any {kvs:List (κ×V)}{vs:List (κ×Value)} (r:KV kvs vs) (k:κ):(kvs.any λkv=>decide (kv.1=k))=vs.any λkv=>decide (kv.1=k):=by
 unfold KV at r
 induction r with
 | nil=>rfl
 | cons h t ih=>rw [List.any_cons,List.any_cons,ih,h.1]
theorem KV.repl {kvs:List (κ×V)}{vs:List (κ×Value)} (r:KV kvs vs) (k:κ) {y:V}{u:Value} (ry:Ay y u):
  KV (kvs.map λkv=>if kv.1=k then(kv.1,y) else kv) (vs.map λkv=>if kv.1=k then(kv.1,u) else kv):=by
 unfold KV at r ⊢
 induction r with
 | nil=>exact .nil
 | @cons p q ps qs h t ih=>
  rw [List.map_cons,List.map_cons]
  refine .cons ?_ ih
  obtain⟨h1,h2⟩:=h
  by_cases e:p.1=k
  ·rw [if_pos e,if_pos (h1.symm.trans e)];exact⟨h1,ry⟩
  ·rw [if_neg e,if_neg (λz=>e (h1.trans z))];exact⟨h1,h2⟩
theorem KV.putX {kvs:List (κ×V)}{vs:List (κ×Value)} (r:KV kvs vs) (k:κ) {y:V}{u:Value} (ry:Ay y u):KV (BZ kvs k y) (stored vs k u):=by
 unfold BZ stored
 rw [r.any k]
 by_cases e:(vs.any λkv=>decide (kv.1=k))=true
 ·rw [if_pos e,if_pos e];exact r.repl k ry
 ·rw [if_neg e,if_neg e];exact Paired.snoc r ⟨rfl,ry⟩
theorem KV.length {kvs:List (κ×V)}{vs:List (κ×Value)} (r:KV kvs vs):kvs.length=vs.length:=Paired.length r
end
theorem GX {P:Program}{w:World}{k:Ax}{u:Value} (r:Ay (kV k) u):(Bk P w).is k u=true:=by
 cases k with
 | inl i=>obtain⟨t,e⟩:=(show ∃t,u=Value.int i t from r);subst e;exact M9 P w i t
 | inr x=>obtain⟨t,e⟩:=(show ∃t,u=Value.str x t from r);subst e;exact Na P w x t
theorem LV {P:Program}{w:World}:∀ {ks:List Ax}{us:List Value},Ar (ks.map kV) us->ItemsAre (Bk P w) ks us
 | [],_,r=>by rw [List.map_nil] at r;cases r;exact .nil
 | k::ks,_,r=>by
  rw [List.map_cons] at r
  cases r with
  | cons h t=>exact .cons (GX h) (LV t)
abbrev KT (H:Hp):List (List Ax×V)->List (List Ax×Addr×Value)->Prop:=Paired λp q=>p.1=q.1/\H q.2.1=some (.tup (p.1.map kV))/\Ay p.2 q.2.2
theorem KT.val {H:Hp}{kvs:List (List Ax×V)} (r:KT H kvs xs) (k:List Ax):RelO (Cg kvs k) ((atKey xs k).map (·.2)):=by
 induction r with
 | nil=>exact True.intro
 | @cons p q ps qs h t ih=>
  obtain⟨h1,_,h2⟩:=h
  by_cases e:p.1=k
  ·have e':q.1=k:=h1.symm.trans e
   have b:atKey (q::qs) k=some q.2:=by simp [atKey,List.find?_cons,e']
   rw [GV e,b];exact h2
  ·have e':¬q.1=k:=λz=>e (h1.trans z)
   have b:atKey (q::qs) k=atKey qs k:=by simp [atKey,List.find?_cons,e']
   rw [GW e,b];exact ih
theorem KT.repl {H:Hp}{kvs:List (List Ax×V)} (r:KT H kvs xs) (k:List Ax) {y:V}{u:Value} (ry:Ay y u):
  KT H (kvs.map λkv=>if kv.1=k then(kv.1,y) else kv) (xs.map (putAt k u)):=by
 induction r with
 | nil=>exact .nil
 | @cons p q ps qs h t ih=>
  rw [List.map_cons,List.map_cons]
  refine .cons ?_ ih
  obtain⟨h1,h2,h3⟩:=h
  unfold putAt
  by_cases e:p.1=k
  ·rw [if_pos e,if_pos (h1.symm.trans e)];exact⟨h1,h2,ry⟩
  ·rw [if_neg e,if_neg (λz=>e (h1.trans z))];exact⟨h1,h2,h3⟩
theorem KT.put {H:Hp}{kvs:List (List Ax×V)} (r:KT H kvs xs) (k:List Ax) {b:Addr}{y:V}{u:Value} (hb:H b=some (.tup (k.map kV))) (ry:Ay y u):
  KT H (BZ kvs k y) (storedH xs k b u):=by
 have e:(kvs.any λkv=>decide (kv.1=k))=(atKey xs k).isSome:=by
  rw [LU,(r.val k).isSome_eq,Option.isSome_map]
 unfold BZ storedH
 rw [e]
 by_cases q:(atKey xs k).isSome=true
 ·rw [if_pos q,if_pos q];exact r.repl k ry
 ·rw [if_neg q,if_neg q];exact Paired.snoc r ⟨rfl,hb,ry⟩
theorem KT.keeps {H:Hp}{kvs:List (List Ax×V)} (r:KT H kvs xs) (ht:∀b ys,H b=some (.tup ys)->H' b=some (.tup ys)):KT H' kvs xs:=
 Paired.mapP r λ_ _ z=>⟨z.1,ht _ _ z.2.1,z.2.2⟩
section
variable {P : Program} {w : World} {H : Hp} {h : Heap} {a : Addr}
theorem LW {u:HO} (ok:HOk P w H h) (e:Rd H a u):ObjOk P w H h a u:=e.ok ok
theorem Jg {kvs:List (Ax×V)} (ok:HOk P w H h) (e:Rd H a (.dK kvs)):kvs.length<=sizeLine/\(a==sysModules)=false/\∃vs,KV kvs vs/\h.DictOf (Bk P w) a vs:=
 show ObjOk P w H h a (.dK kvs) from LW ok e
theorem LX {kvs:List (Ax×V)} (ok:HOk P w H h) (e:H a=some (.dK kvs)):kvs.length<=sizeLine/\(a==sysModules)=false/\∃vs,KV kvs vs/\h.DictOf (Bk P w) a vs:=Jg ok (.inl e)
theorem Jh {ks:List Ax} (ok:HOk P w H h) (e:H a=some (.tup (ks.map kV))):(tupleKind (Bk P w)).is h ks a:=by
 obtain⟨_,its,r,o,h1,h2,n,h3⟩:=(show ObjOk P w H h a (.tup (ks.map kV)) from ok a _ e)
 exact⟨o,its.toArray,n,h1,h2,h3,by simpa using LV r⟩
theorem Ji {kvs:List (List Ax×V)} (ok:HOk P w H h) (e:Rd H a (.dT kvs)):kvs.length<=sizeLine/\(a==sysModules)=false/\
  ∃xs,KT H kvs xs/\h.DictOfH (tupleKind (Bk P w)) a xs:=by
 obtain⟨z,y,xs,r,o,es,ep,h1,h2,h3,h4,h5⟩:=(show ObjOk P w H h a (.dT kvs) from LW ok e)
 refine⟨z,y,xs,r,o,es,ep,h1,h2,h3,h4,λx hx=>?_,h5⟩
 have all:∀ {l:List (List Ax×V)}{m:List (List Ax×Addr×Value)},KT H l m->∀x∈m,(tupleKind (Bk P w)).is h x.1 x.2.1:=by
  intro l m q
  induction q with
  | nil=>intro x hx;exact nomatch hx
  | @cons p q ps qs hq t ih=>
   intro x hx
   rcases List.mem_cons.mp hx with e | hx
   ·subst e
    exact Jh ok (by rw [<-hq.1];exact hq.2.1)
   ·exact ih x hx
 exact all r x hx
theorem Rm {kvs:List (List Ax×V)} (ok:HOk P w H h) (e:H a=some (.dT kvs)):kvs.length<=sizeLine/\(a==sysModules)=false/\
  ∃xs,KT H kvs xs/\h.DictOfH (tupleKind (Bk P w)) a xs:=Ji ok (.inl e)
end
def DGet (H:Hp) (a:Addr) (y:V) (r:Option V):Prop:=
 (∃kvs k,Rd H a (.dK kvs)/\y=kV k/\r=Cg kvs k)\/ ∃kvs k b,Rd H a (.dT kvs)/\y= .ref b/\H b=some (.tup (k.map kV))/\r=Cg kvs k
def DPut (H:Hp) (a:Addr) (y v:V) (H':Hp):Prop:=
 (∃kvs k,H a=some (.dK kvs)/\y=kV k/\kvs.length<sizeLine/\H'=upd H a (.dK (BZ kvs k v)))\/
 ∃kvs k b,H a=some (.dT kvs)/\y= .ref b/\H b=some (.tup (k.map kV))/\kvs.length<sizeLine/\H'=upd H a (.dT (BZ kvs k v))
theorem DGet.k {H:Hp}{a:Addr}{kvs:List (Ax×V)}{k:Ax} (e:H a=some (.dK kvs)):DGet H a (kV k) (Cg kvs k):= .inl ⟨kvs,k,.inl e,rfl,rfl⟩
theorem DPut.k {H:Hp}{a:Addr}{kvs:List (Ax×V)}{k:Ax}{v:V} (e:H a=some (.dK kvs)) (hl:kvs.length<sizeLine):DPut H a (kV k) v (upd H a (.dK (BZ kvs k v))):= .inl ⟨kvs,k,e,rfl,hl,rfl⟩
section
variable {X : Cx} {pins : List (Addr × Obj)} {σ : St} {H : Hp} {s : Shared} {a : Addr} {y v : V} {u r : Value} {o : Option V} {A : Around} {E : Value -> Shared -> Prop}
theorem Ad.bigX (I:Ad X pins σ H s):sysModules<s.heap.objs.size:=by
 have h:mainGlobals<s.heap.objs.size:=(I.mod.glob.keeps I.bk).lt
 exact Nat.lt_trans (by decide) h
theorem Jj {t':Nat}{ob:HO} (I:Ad X pins σ H s) (mu:EX (H a)) (hs:Heap.SameBut a s.heap h') (he:∃q,h'.get? a=some q) (new:ObjOk X.prog X.w (upd H a ob) h' a ob):
  Ad X pins σ (upd H a ob) { s with heap:=h',toks:=t'}:=
 I.write (x:=a) (e:=a) mu (.inl rfl) (λb q hb z=>(hs.2 b hb).trans z) he new
theorem LY {P:Program}{w:World}{kvs:List (Ax×V)}{vs:List (Ax×Value)} (z:kvs.length<=sizeLine) (hd:(a==sysModules)=false) (rel:KV kvs vs) (dd:h'.DictOf (Bk P w) a vs):
  ObjOk P w H' h' a (.dK kvs):=⟨z,hd,vs,rel,dd⟩
theorem Rn {Q:Unit->Shared->Prop} (hu:A.units+1<cLine) (I:Ad X pins σ H s) (g:DPut H a y v H') (ry:Ay y u) (rv:Ay v r) (h:∀s',Ad X pins σ H' s'->Q () s'):
  wpAny (model X.prog X.w) A (setItem (.ref a) u r) Q E s:=by
 rcases g with⟨kvs,k,e,ey,l,eH⟩ | ⟨kvs,k,b,e,ey,eb,l,eH⟩
 ·subst ey eH
  obtain⟨z,hd,vs,rel,dd⟩:=LX I.hok e
  have hz:vs.length<=sizeLine:=by rw [<-rel.length];exact z
  have hl:(BZ kvs k v).length<=sizeLine:=by have:=Jf kvs k v;omega
  refine wpAny_setItem_pairs (hsz:=hz) (GX ry) dd λh' dd' hs=>h _ ?_
  have he:∃q,h'.get? a=some q:=let ⟨q,_,_,hq,_⟩:=dd';⟨q,hq⟩
  exact Jj I (by rw [e];exact True.intro) hs he (LY hl hd (rel.putX k rv) dd')
 ·subst ey eH
  cases(show u=Value.ref b from ry)
  obtain⟨z,hd,xs,rel,dd⟩:=Rm I.hok e
  have hz:xs.length<=sizeLine:=by rw [<-Paired.length rel];exact z
  have hl:(BZ kvs k v).length<=sizeLine:=by have:=Jf kvs k v;omega
  refine wpAny_setItem_heap (hsz:=hz) (tupleKind_room_in1 hu) (Jh I.hok eb) dd λh' dd' hs=>h _ ?_
  obtain⟨q,es,ep,hq,h2,h3,h4,_,h5⟩:=dd'
  refine Jj I (by rw [e];exact True.intro) hs ⟨q,hq⟩ ⟨hl,hd,_,(rel.put k eb rv).keeps λc ys ec=>?_,q,es,ep,hq,h2,h3,h4,h5⟩
  rw [As (JM ec e (λz=>nomatch z))]
  exact ec
end
section
variable {X : Cx} {pins : List (Addr × Obj)} {σ : St} {H : Hp} {s : Shared} {a : Addr} {kvs : List (Ax × V)} {k : Ax} {u : Value} {A : Around} {E : Value -> Shared -> Prop}
end
def Ro (td ty tv:TE):TS:=λD σ H=>tv σ H λv H1=>td σ H1 λx H2=>ty σ H2 λy H3=>∃a H4,x= .ref a/\DPut H3 a y v H4/\D.nx σ H4
section
variable {X : Cx} {o i e value : Expr} {pos pos' tpos : Pos} {td ty tv : TE}
theorem Rp (hu:X.A.units+1<cLine) (ho:PE X o td) (hi:PE X i ty) (hv:PE X value tv) (hs:swapsWith value (some (.Subscript o i pos')) pos.line X.env=pure false):
  PS X (.Assign [.Subscript o i pos'] value pos) (Ro td ty tv):=by
 intro pins s σ H D I h
 refine wpAny_Assign_Subscript (Aq (hv pins s σ H _ I h) λr s1 ⟨v,H1,I1,rv,q1⟩=>Aq (ho pins s1 σ H1 _ I1 q1) λu s2 ⟨x,H2,I2,rx,q2⟩=>Aq (hi pins s2 σ H2 _ I2 q2) λiv s3 ⟨y,H3,I3,ry,a,H4,ex,g,q3⟩=>?_) hs
 subst ex
 obtain rfl:u=Value.ref a:=rx
 exact Rn hu I3 g ry rv λs4 I4=>⟨σ,H4,I4,q3⟩
end
theorem LZ {P:Program}{w:World}{H:Hp} (h:Heap) (hb:sysModules<h.objs.size):ObjOk P w H (h.push { cls:= .type "dict",data:= .dict #[]}) h.objs.size (.dK []):=
 ⟨Nat.zero_le _,beq_eq_false_iff_ne.mpr (Ne.symm (Nat.ne_of_lt hb)),[],.nil,Heap.DictOf.new h⟩
def Rq:TE:=λ_ H Q=>∀p,H p=none->Q (.ref p) (upd H p (.dK []))
section
variable {X : Cx} {pos : Pos}
theorem L1:PE X (.Dict [] [] pos) Rq:=λpins s σ H Q I h=>
 wpAny_Dict_empty ⟨.ref s.heap.objs.size,_,I.laid (a:=s.heap.objs.size) (o:= .dK []) (t':=s.toks) (λ_ _ q=>Heap.get?_push_of_some _ q) (Nat.le_refl _) (LZ s.heap I.bigX),rfl,h _ (I.hok.fresh (Nat.le_refl _))⟩
end
def Jk:List (TE×TE)->St->Hp->(List (V×V)->Hp->Prop)->Prop
  | [],_,H,Q=>Q [] H
  | (tk,tv)::r,σ,H,Q=>tk σ H λx H1=>tv σ H1 λy H2=>Jk r σ H2 λps H3=>Q ((x,y)::ps) H3
abbrev VV:List (V×V)->List (Value×Value)->Prop:=Paired λp q=>Ay p.1 q.1/\Ay p.2 q.2
def GY (X:Cx) (pos:Pos) (keys:List (Option Expr)) (values:List Expr) (trs:List (TE×TE)):Prop:=
 ∀(pins:List (Addr×Obj)) (s:Shared) (σ:St) (H:Hp) (Q:List (V×V)->Hp->Prop),Ad X pins σ H s->Jk trs σ H Q->
  wpAny (model X.prog X.w) X.A (evalPairs (pairTrees keys values X.env pos)) (λvs s'=>∃ps H',Ad X pins σ H' s'/\VV ps vs/\Q ps H') X.xe s
theorem Rr {X:Cx}{pos:Pos}:GY X pos [] [] []:=λpins s σ H Q I h=>pairTrees_nil_walk ⟨[],H,I,.nil,h⟩
theorem Rs {X:Cx}{pos:Pos}{k v:Expr}{ks:List (Option Expr)}{vs:List Expr}{tk tv:TE} (hk:PE X k tk) (hv:PE X v tv) (hr:GY X pos ks vs trs):
  GY X pos (some k::ks) (v::vs) ((tk,tv)::trs):=λpins s σ H Q I h=>
 pairTrees_cons_walk (Aq (hk pins s σ H _ I h) λu s1 ⟨x,H1,I1,rx,q1⟩=>Aq (hv pins s1 σ H1 _ I1 q1) λw2 s2 ⟨y,H2,I2,ry,q2⟩=>
  Aq (hr pins s2 σ H2 _ I2 q2) λws s3 ⟨ps,H3,I3,rel,q3⟩=>⟨(x,y)::ps,H3,I3,.cons ⟨rx,ry⟩ rel,q3⟩)
def Dw (kvs more:List (Ax×V)):List (Ax×V):=more.foldl (λacc kv=>BZ acc kv.1 kv.2) kvs
theorem KV.merge:∀ {more:List (Ax×V)}{rs:List (Ax×Value)}{kvs:List (Ax×V)}{vs:List (Ax×Value)},KV more rs->KV kvs vs->KV (Dw kvs more) (merged vs rs):=by
 intro more rs kvs vs r
 unfold KV at r
 induction r generalizing kvs vs with
 | nil=>intro q;exact q
 | @cons p q ps qs h t ih=>
  intro r0
  have e:KV (BZ kvs p.1 p.2) (stored vs q.1 q.2):=by
   have:=r0.putX p.1 h.2
   rw [<-h.1];exact this
  exact ih e
theorem L3:∀(more kvs:List (Ax×V)),(Dw kvs more).length<=kvs.length+more.length
 | [],kvs=>by show kvs.length<=kvs.length+0;omega
 | p::r,kvs=>by
  have h1:=L3 r (BZ kvs p.1 p.2)
  have h2:=Jf kvs p.1 p.2
  show(Dw (BZ kvs p.1 p.2) r).length<=_
  rw [List.length_cons];omega
theorem L6 {P:Program}{w:World}:∀ {kvs:List (Ax×V)}{ws:List (Value×Value)},VV (kvs.map λkv=>(kV kv.1,kv.2)) ws->∃rs,Carries (Bk P w) ws rs/\KV kvs rs
 | [],_,r=>by rw [List.map_nil] at r;cases r;exact⟨[],True.intro,.nil⟩
 | p::kvs,_,r=>by
  rw [List.map_cons] at r
  cases r with
  | @cons a b as bs h t=>
   obtain⟨rs,c,q⟩:=L6 (P:=P) (w:=w) t
   obtain⟨b1,b2⟩:=b
   exact⟨(p.1,b2)::rs,⟨GX h.1,rfl,c⟩,.cons ⟨rfl,h.2⟩ q⟩
def Rt (trs:List (TE×TE)):TE:=fun σ H Q=>∀p,H p=none->Jk trs σ (upd H p (.dK [])) λps H2=>H2 p=some (.dK [])/\∃kvs:List (Ax×V),ps=kvs.map (λkv=>(kV kv.1,kv.2))/\kvs.length<=15/\Q (.ref p) (upd H2 p (.dK (Dw [] kvs)))
theorem Ru {X:Cx}{pos:Pos}{keys:List (Option Expr)}{values:List Expr} (h:GY X pos keys values trs) (hall:keys.all (·.isSome)=true) (hl:keys.length=values.length) (h0:keys≠ [])
  (h15:keys.length<=15):PE X (.Dict keys values pos) (Rt trs):=by
 intro pins s σ H Q I q
 have hn:=I.hok.fresh (Nat.le_refl s.heap.objs.size)
 have I1:=I.laid (a:=s.heap.objs.size) (o:= .dK []) (h':=s.heap.push { cls:= .type "dict",data:= .dict #[]}) (t':=s.toks) (λ_ _ q=>Heap.get?_push_of_some _ q) (Nat.le_refl _) (LZ s.heap I.bigX)
 refine wpAny_Dict_walk (knd:=Bk X.prog X.w) hall hl h0 h15 (Aq (h pins _ σ _ _ I1 (q _ hn)) λws s2 ⟨ps,H2,I2,rel,e,kvs,ep,lk,q2⟩=>?_)
 subst ep
 obtain⟨rs,c,rk⟩:=L6 (P:=X.prog) (w:=X.w) rel
 obtain⟨z,hd,vs0,r0,dd⟩:=LX I2.hok e
 cases r0
 refine⟨rs,c,dd,λh' dd' hs=>⟨.ref s.heap.objs.size,_,?_,rfl,q2⟩⟩
 have hz:(Dw [] kvs).length<=sizeLine:=by
  have h1:=L3 kvs []
  rw [List.length_nil] at h1
  rw [sizeLine_eq];omega
 have he:∃q,h'.get? s.heap.objs.size=some q:=let ⟨q,_,_,hq,_⟩:=dd';⟨q,hq⟩
 exact Jj I2 (by rw [e];exact True.intro) hs he (LY hz hd (rk.merge .nil) dd')
structure M1 (X:Cx) (o:Expr) (m:Str) (apos:Pos) (e:Expr) (cpos:Pos):Prop where
 base:attributeBase o m X.env (eval o X.env)=eval o X.env
 few:((backTo cpos (starEach [e] X.env)).all (λx=> !x.1) &&(backToKw cpos (keywordEach [] X.env)).all (λx=>x.1.isSome)
  && decide (([e]:List Expr).length+([]:List Keyword).length+(if ([]:List Keyword).isEmpty then 0 else 1)<30))=true
 line:(apos.endLine==cpos.line)=true
 trees:backTo cpos (starEach [e] X.env)=[(false,eval e X.env)]
structure M2 (X:Cx) (o:Expr) (m:Str) (apos:Pos) (e f:Expr) (cpos:Pos):Prop where
 base:attributeBase o m X.env (eval o X.env)=eval o X.env
 few:((backTo cpos (starEach [e,f] X.env)).all (λx=> !x.1) &&(backToKw cpos (keywordEach [] X.env)).all (λx=>x.1.isSome)
  && decide (([e,f]:List Expr).length+([]:List Keyword).length+(if ([]:List Keyword).isEmpty then 0 else 1)<30))=true
 line:(apos.endLine==cpos.line)=true
 trees:backTo cpos (starEach [e,f] X.env)=[(false,eval e X.env),(false,eval f X.env)]
def Ma (H:Hp) (a:Addr):Prop:=(∃kvs,Rd H a (.dK kvs))\/ ∃kvs,Rd H a (.dT kvs)
theorem Rv {X:Cx}{pins:List (Addr×Obj)}{σ:St}{H:Hp}{s:Shared}{a:Addr} (I:Ad X pins σ H s) (d:Ma H a):
  s.TypeIs (.ref a) "dict" /\(∀b,Value.ref a= .ref b->∃ob,s.heap.get? b=some ob/\ob.dict=none)/\(a==sysModules)=false:=by
 rcases d with⟨kvs,e⟩ | ⟨kvs,e⟩
 ·obtain⟨_,hd,vs,_,dd⟩:=Jg I.hok e
  refine⟨dd.typeIs,λb q=>?_,hd⟩
  cases q
  obtain⟨ob,_,_,h1,h2,_⟩:=dd
  exact⟨ob,h1,h2.2.1⟩
 ·obtain⟨_,hd,xs,_,dd⟩:=Ji I.hok e
  refine⟨dd.typeIs,λb q=>?_,hd⟩
  cases q
  obtain⟨ob,_,_,h1,h2,_⟩:=dd
  exact⟨ob,h1,h2.2.1⟩
section
variable {X : Cx} {pins : List (Addr × Obj)} {σ : St} {H : Hp} {s : Shared} {a : Addr} {y d : V} {u r : Value} {o : Option V} {A : Around} {E : Value -> Shared -> Prop}
theorem Rw {Q:Value->Shared->Prop} (hu:A.units+1<cLine) (I:Ad X pins σ H s) (g:DGet H a y o) (ry:Ay y u) (rd:Ay d r) (h:∀w' s',Ad X pins σ H s'->Ay (o.getD d) w'->Q w' s'):
  wpAny (model X.prog X.w) A (call (.builtin "dict.get") [.ref a,u,r]) Q E s:=by
 rcases g with⟨kvs,k,e,ey,l⟩ | ⟨kvs,k,b,e,ey,eb,l⟩
 ·subst ey
  obtain⟨z,hd,vs,rel,dd⟩:=Jg I.hok e
  refine call_meetsIn PySem.F.slot_dict_get dd.typeIs PySem.F.entry_dict_get (PySem.F.args_dict_get_3 _ _ _) (meets_dict_get_default (Bk X.prog X.w) a (GX ry) hd r) ⟨_,dd.mapOf,h _ _ (I.tok _) ?_⟩
  rw [l]
  exact(rel.val k).getD rd
 ·subst ey
  cases(show u=Value.ref b from ry)
  obtain⟨z,hd,xs,rel,dd⟩:=Ji I.hok e
  refine call_meetsIn PySem.F.slot_dict_get dd.typeIs PySem.F.entry_dict_get (PySem.F.args_dict_get_3 _ _ _) (meetsH_dict_get_default (tupleKind (Bk X.prog X.w)) a b hd r) ⟨tupleKind_room_in1 hu,k,xs,Jh I.hok eb,dd,h _ _ (I.tok _) ?_⟩
  rw [l]
  exact(rel.val k).getD rd
end
def Rx (td ty tx:TE):TE:=fun σ H Q=>td σ H λx H1=>∃a,x= .ref a/\Ma H1 a/\ty σ H1 λy H2=>tx σ H2 λz H3=>∃o,DGet H3 a y o/\Q (o.getD z) H3
section
variable {X : Cx} {o e f : Expr} {apos cpos : Pos} {td ty tx : TE}
theorem Ry (hu:X.A.units+1<cLine) (ho:PE X o td) (he:PE X e ty) (hf:PE X f tx) (m:M2 X o "get" apos e f cpos):PE X (.Call (.Attribute o "get" apos) [e,f] [] cpos) (Rx td ty tx):=by
 intro pins s σ H Q I h
 refine wpAny_Call_method m.base m.few m.line PySem.F.plainAttrs_dict PySem.F.slot_dict_get PySem.F.type_dict_get (Aq (ho pins s σ H _ I h) λu s1 ⟨x,H1,I1,rx,a,ex,d,q1⟩=>?_)
 subst ex
 obtain rfl:u=Value.ref a:=rx
 obtain⟨t1,t2,_⟩:=Rv I1 d
 refine⟨t1,t2,?_⟩
 rw [m.trees]
 refine Calls.callWith_builtin rfl (Calls.evalArgs_plain (Calls.spliced_cons (Aq (he pins s1 σ H1 _ I1 q1) λiv s2 ⟨y,H2,I2,ry,q2⟩=>
  Calls.spliced_cons (Aq (hf pins s2 σ H2 _ I2 q2) λfv s3 ⟨z,H3,I3,rz,ov,g,q3⟩=>Calls.spliced_nil ?_))))
 exact Rw hu I3 g ry rz λw' s4 I4 rw'=>⟨_,H3,I4,rw',q3⟩
end
end L2
end
section
namespace L2
open PySem PySem.Spec PyProof.Rows
variable {X : Cx} {te : TE}
theorem Mb {k:Nat}{A:Around} (hr:Bm k A):A.units+1<cLine:=by have:=hr.un;omega
theorem Rz {k:Nat}{A:Around} (hr:Bm k A):A.units<cLine:=by have:=hr.un;omega
def RA (te:TE):TE:=fun σ H Q=>te σ H λx H1=>∃d kvs,x= .ref d/\H1 d=some (.dK kvs)/\∀o,Q x (upd H1 d (.frz o (.dK kvs)))
theorem RB {e:Expr} (he:PE X e te):PE X e (RA te):=by
 intro pins s σ H Q I h
 refine Aq (he pins s σ H _ I h) λv s1 ⟨x,H1,I1,r1,d,kvs,ex,hd,q⟩=>?_
 subst ex
 obtain⟨hz,hsys,vs,kv,dd⟩:=(show ObjOk X.prog X.w H1 s1.heap d (.dK kvs) from I1.hok d _ hd)
 obtain⟨o,es,ep,eo,r⟩:=id dd
 exact⟨.ref d,_,I1.write (x:=d) (e:=d) (o:= .frz o (.dK kvs)) (t':=s1.toks) (by rw [hd];trivial) (.inl rfl) (λb u _ q=>q) ⟨o,eo⟩ ⟨eo,hz,hsys,vs,kv,dd⟩,r1,q o⟩
theorem RC {d:Addr}{o:Obj}{kvs:List (Ax×V)}{g:TG}{tb:TS}{D:CU}{σ:St}{H:Hp} (Pv:Nat->St->Hp->Prop) (h0:Pv 0 σ H) (hl:∀i σ H,Pv i σ H->H d=some (.frz o (.dK kvs)))
  (hs:∀i q σ H T,kvs[i]? =some q->Pv i σ H->H T=none->g (.ref T) σ (upd H T (.tup [kV q.1,q.2])) fun σ2 H2=>tb { D with nx:=Pv (i+1),ct:=Pv (i+1),bk:=D.nx} σ2 H2) (hd:∀σ H,Pv kvs.length σ H->D.nx σ H):
  ∃W:Nat->Nat->St->Hp->Prop,(∃m,W 0 m σ H)/\∀i m σ H,W i m σ H->
   ((Fq d o kvs).stop i H/\D.nx σ H)\/((Fq d o kvs).go i H/\∃N:St->Hp->Prop,(∀σ' H',N σ' H'->∃m',m'<m/\W (i+1) m' σ' H')/\∀x H',(Fq d o kvs).yld i H x H'->g x σ H' fun σ2 H2=>tb { D with nx:=N,ct:=N,bk:=D.nx} σ2 H2):=by
 refine⟨λi m σ H=>m=kvs.length-i/\i<=kvs.length/\Pv i σ H,⟨kvs.length,by simp,Nat.zero_le _,h0⟩,?_⟩
 rintro i m σ H ⟨rfl,hi,p⟩
 have q:=hl i σ H p
 by_cases hlt:i<kvs.length
 ·refine .inr ⟨⟨q,hlt⟩,Pv (i+1),fun σ' H' p'=>⟨kvs.length-(i+1),by omega,rfl,hlt,p'⟩,λx H' y=>?_⟩
  obtain⟨T,q',e,n,hq,y⟩:=y
  subst e y
  exact hs i q' σ H T hq p n
 ·have e:i=kvs.length:=by omega
  subst e
  exact .inl ⟨⟨q,rfl⟩,hd σ H p⟩
theorem RD (hu:X.A.units<cLine):OpR X (compareOp .NotEq) (λx y H Q=>∃a b kvs,x= .ref a/\y= .ref b/\Rd H a (.dK kvs)/\Rd H b (.dK [])/\Q (.bl (!kvs.isEmpty)) H):=by
 intro pins s2 σ H2 x y v u Q I2 r1 r2 ⟨p,q,kvs,ex,ey,rp,rq,z⟩
 subst ex ey
 cases r1
 cases r2
 obtain⟨_,hs1,vs,kv,d1⟩:=(show ObjOk X.prog X.w H2 s2.heap p (.dK kvs) from rp.ok I2.hok)
 obtain⟨_,hs2,ws,kw,d2⟩:=(show ObjOk X.prog X.w H2 s2.heap q (.dK []) from rq.ok I2.hok)
 have lk:kvs.length=vs.length:=Paired.length kv
 have lw:0=ws.length:=Paired.length kw
 have ew:ws=[]:=List.eq_nil_of_length_eq_zero lw.symm
 subst ew
 refine PySem.W.keq_ne (r:=true) hs1 hs2 d1 d2 hu (λe=>?_) ⟨.bl (!kvs.isEmpty),H2,I2,?_,z⟩
 ·have:vs=[]:=List.eq_nil_of_length_eq_zero e
  subst this
  exact .nil
 ·have:kvs.isEmpty=(vs.length==([]:List (Ax×Value)).length && true):=by
   cases kvs with
   | nil=>rw [<-lk];rfl
   | cons _ _=>rw [<-lk];rfl
  rw [this];rfl
def Fu (v d:Addr):HO:= .ext λh=>h.IsValuesView v d
def RE (te:TE):TE:=fun σ H Q=>te σ H λx H1=>∃d kvs,x= .ref d/\Rd H1 d (.dK kvs)/\∀v,H1 v=none->Q (.ref v) (upd H1 v (Fu v d))
theorem RF {apos cpos:Pos}{e:Expr} (he:PE X e te) (hbase:attributeBase e "values" X.env (eval e X.env)=eval e X.env:=by rfl) (hline:(apos.endLine==cpos.line)=true:=by rfl):
  PE X (.Call (.Attribute e "values" apos) [] [] cpos) (RE te):=by
 intro pins s σ H Q I h
 refine wpAny_Call_method0_late hbase hline (Aq (he pins s σ H _ I h) λv s1 ⟨x,H1,I1,r1,d,kvs,ex,hd,q⟩=>?_)
 subst ex
 cases r1
 obtain⟨_,hsys,vs0,kv0,hm0⟩:=(show ObjOk X.prog X.w H1 s1.heap d (.dK kvs) from hd.ok I1.hok)
 refine⟨"dict","dict.values",F.plainAttrs_dict,F.slot_dict_values,F.type_dict_values,hm0.typeIs,hm0.mapOf.noDict,?_⟩
 refine method_meetsIn F.slot_dict_values F.entry_dict_values rfl (PySem.evalArgs_none ⟨rfl,hm0.typeIs,F.args_dict_values_1 _,_,meets_dict_values (Bk X.prog X.w) d hsys,⟨_,hm0⟩,?_⟩)
 refine⟨.ref s1.heap.objs.size,_,I1.laid (o:=Fu s1.heap.objs.size d) (t':=s1.toks) (λb ob q=>Heap.get?_push_of_some _ q) (Nat.le_refl _) ?_,rfl,q _ (I1.hok.fresh (Nat.le_refl _))⟩
 exact⟨⟨_,Heap.get?_push_size _ rfl,rfl,rfl⟩,⟨_,Heap.get?_push_size _ rfl⟩,λh1 h2 ⟨o,ho,r⟩ k=>⟨o,k o ho,r⟩⟩
end L2
end
section
namespace L2
open PySem PySem.Spec PyProof.Rows
theorem Mc:∀ {kvs:List (Ax×V)}{vs:List (Ax×Value)},KV kvs vs->Ar (kvs.map (·.2)) (vs.map (·.2))
 | _,_,.nil=> .nil
 | _,_,.cons h r=> .cons h.2 (Mc r)
theorem RG {X:Cx} (hc:X.calm=true):Bz X (.type "list") (λxs H Q=>∃(v d:Addr) (kvs:List (Ax×V)),xs=[.ref v]/\H v=some (Fu v d)/\Rd H d (.dK kvs)/\∀l,H l=none->Q (.ref l) (upd H l (.lst (kvs.map (·.2))))):=by
 intro pins s σ H xs us Q I r h
 obtain⟨v,d,kvs,rfl,hv,hd,q⟩:=h
 obtain⟨u,rfl,ru⟩:=r.one
 cases ru
 obtain⟨hsz,hsys,vs,kv,hm⟩:=(show ObjOk X.prog X.w H s.heap d (.dK kvs) from hd.ok I.hok)
 obtain⟨hview,_,_⟩:=(show ObjOk X.prog X.w H s.heap v (Fu v d) from I.hok v _ hv)
 obtain⟨ep,hat⟩:=hm.dictAt
 have lk:kvs.length=vs.length:=Paired.length kv
 refine PySem.W.kdl_call (PySem.W.kdl_values (knd:=Bk X.prog X.w) (r:=v) (d:=d) (kvs:=vs) (ep:=ep)) (I.ok.hd hc) ⟨hview,hat⟩ (by omega) λh' tk acc' c' hk hl hi=>?_
 have ea:acc'=(vs.map (·.2)).toArray:=by
  apply Array.ext
  ·rw [hi.1];simp
  ·intro i h1 h2
   obtain⟨k,e⟩:=hi.2 i acc'[i] (Array.getElem?_eq_getElem h1)
   simp only [List.getElem_toArray,List.getElem_map]
   have:=(List.getElem?_eq_some_iff.mp e).2
   rw [this]
 rw [ea] at hl
 exact⟨.ref s.heap.objs.size,_,I.laid (o:= .lst (kvs.map (·.2))) (t':=tk) hk (Nat.le_refl _) (show ObjOk X.prog X.w _ h' _ (.lst (kvs.map (·.2))) from⟨by rw [List.length_map];exact hsz,_,c',Mc kv,hl⟩),rfl,q _ (I.hok.fresh (Nat.le_refl _))⟩
end L2
end
section
namespace MF
open PySem PySem.Spec PyProof.Rows L2
def AD (i : Nat) : Stmt := PySem.Challenge.pw_mainfires_k63_whole_outs_that_are_let.main.body.getD i (.Pass ⟨0, 0, 0, 0⟩)
abbrev s_is_whole:Stmt:=AD 8
abbrev s_is_whole_from:Stmt:=AD 9
abbrev s_is_tuple_of:Stmt:=AD 10
abbrev s_replaced:Stmt:=AD 11
abbrev s_is_plant:Stmt:=AD 20
abbrev s_are_boilers:Stmt:=AD 21
abbrev s_is_make_and_coal:Stmt:=AD 22
abbrev s_are_engines:Stmt:=AD 23
abbrev s_is_engine:Stmt:=AD 24
abbrev s_is_main:Stmt:=AD 25
abbrev s_need_plant:Stmt:=AD 26
abbrev s_is_story:Stmt:=AD 27
abbrev s_is_fault:Stmt:=AD 28
abbrev s_need_story:Stmt:=AD 29
abbrev s_caps_of:Stmt:=AD 30
abbrev s_caps_in:Stmt:=AD 31
abbrev s_words_for:Stmt:=AD 32
abbrev s_cap_under:Stmt:=AD 33
abbrev s_draws_of:Stmt:=AD 34
abbrev s_drawn_by:Stmt:=AD 35
abbrev s_need_hour:Stmt:=AD 36
abbrev s_need_boiler:Stmt:=AD 37
abbrev s_terms_of:Stmt:=AD 38
abbrev s_is_firing:Stmt:=AD 39
abbrev s_is_firing_within:Stmt:=AD 40
abbrev s_is_row:Stmt:=AD 41
abbrev s_need_firing:Stmt:=AD 42
abbrev s_run_day:Stmt:=AD 44
abbrev s_course:Stmt:=AD 45
abbrev s_falls_at:Stmt:=AD 46
abbrev s_keeps_up:Stmt:=AD 47
abbrev s_need_keeping:Stmt:=AD 48
abbrev s_is_too_much:Stmt:=AD 50
abbrev s_least_stretch:Stmt:=AD 51
abbrev s_least_mains:Stmt:=AD 52
abbrev s_need_boiler_of_keeping:Stmt:=AD 54
abbrev s_least_moved:Stmt:=AD 55
abbrev s_moved:Stmt:=AD 56
abbrev s_terms_from:Stmt:=AD 57
abbrev s_filled_up:Stmt:=AD 58
abbrev s_raised:Stmt:=AD 59
abbrev s_moved_by:Stmt:=AD 60
abbrev s_units_moved:Stmt:=AD 61
abbrev s_outs_let:Stmt:=AD 62
abbrev s__law_cell:Stmt:=AD 64
abbrev s__law_pen:Stmt:=AD 65
abbrev s__law_draw:Stmt:=AD 66
abbrev s__law_plant:Stmt:=AD 67
abbrev s__law_story:Stmt:=AD 68
abbrev s__law_caps:Stmt:=AD 69
abbrev s__law_draws:Stmt:=AD 70
abbrev s__law_mains:Stmt:=AD 71
abbrev s__law_keeps:Stmt:=AD 72
abbrev s__law_pair:Stmt:=AD 73
abbrev s__law_kept_firing:Stmt:=AD 74
abbrev s__law_ahead:Stmt:=AD 75
abbrev s__law_out_least:Stmt:=AD 76
abbrev s__law_right:Stmt:=AD 77
abbrev s_law:Stmt:=AD 78
structure Tx (mg:Str->Option Value):Prop where
 b_abs:mg "abs"=none
 b_all:mg "all"=none
 b_any:mg "any"=none
 b_bool:mg "bool"=none
 b_divmod:mg "divmod"=none
 b_enumerate:mg "enumerate"=none
 b_int:mg "int"=none
 b_isinstance:mg "isinstance"=none
 b_len:mg "len"=none
 b_list:mg "list"=none
 b_max:mg "max"=none
 b_min:mg "min"=none
 b_range:mg "range"=none
 b_repr:mg "repr"=none
 b_reversed:mg "reversed"=none
 b_sum:mg "sum"=none
 b_tuple:mg "tuple"=none
 b_zip:mg "zip"=none
 g_MOST_BOILERS:∃t,mg "MOST_BOILERS"=some (.int 4 t)
 g_MOST_ENGINES:∃t,mg "MOST_ENGINES"=some (.int 4 t)
 g_MOST_FAULTS:∃t,mg "MOST_FAULTS"=some (.int 4 t)
 g_MOST_HOURS:∃t,mg "MOST_HOURS"=some (.int 8 t)
 g_MOST_UNITS:∃t,mg "MOST_UNITS"=some (.int 9 t)
 g_MOST_EXTRA:∃t,mg "MOST_EXTRA"=some (.int 20 t)
 g_MOST_IN_MAIN:∃t,mg "MOST_IN_MAIN"=some (.int 40 t)
def RH:PyData->Bool | .int _=>true | _=>false
def Bs (d:PyData) (lo hi:Int):Bool:=match d with | .int i=>decide (lo<=i) && decide (i<=hi) | _=>false
def Bg (d:PyData) (lo hi:Int):Bool:=match d with | .tuple ds=>decide (lo<=(ds.length:Int)) && decide ((ds.length:Int)<=hi) | _=>false
def GZ:Sp:=λvs H Q _=>match vs with | [v]=>∃p d,Aa p H d v/\∀b,b=RH d->Q (.bl b) H | _=>False
def Jl:Sp:=λvs H Q _=>match vs with | [v,.int lo,.int hi]=>∃p d,Aa p H d v/\∀b,b=Bs d lo hi->Q (.bl b) H | _=>False
def Jm:Sp:=λvs H Q _=>match vs with | [v,.int lo,.int hi]=>∃p d,Aa p H d v/\∀b,b=Bg d lo hi->Q (.bl b) H | _=>False
section
variable {P : Program} {w : World} {K : PySem.W.Frag} {mg : Str -> Option Value} {base : Heap}
theorem RI:AB ["thing"] ["thing"] (Au s_is_whole):=AG
theorem RJ (F:Df K mg "is_whole" s_is_whole ["thing"]) (T:Tx mg)  :Fn P w K mg base 1 "is_whole" ["thing"] GZ:=by
 refine F.fn RI (λvs H Q E h=>?_) (λf cdv A outer s H vs Q E hr h=>?_)
 ·unfold GZ at h;split at h;rfl;exact h.elim
 refine⟨_,(An (Aw (BK (AE IL rfl T.b_isinstance boot_isinstance (Ao (cx 0 (by rfl)) (Ic (v:= .ty "int") rfl T.b_int L2.boot_int rfl (by decide) (by decide)) (by rfl)) (by decide) (by decide) (by rfl) (by rfl)) (CC (OZ (AE IL rfl T.b_isinstance boot_isinstance (Ao (cx 0 (by rfl)) (Ic (v:= .ty "bool") rfl T.b_bool L2.boot_bool rfl (by decide) (by decide)) (by rfl)) (by decide) (by decide) (by rfl) (by rfl))))))),?_⟩
 unfold GZ at h
 split at h
 ·rename_i v
  obtain⟨p,d,r,q⟩:=h
  refine⟨_,r.ty,.inl rfl,⟨λc=>⟨_,r.ty,.inr (.inl rfl),?_⟩,λc=>?_⟩⟩
  ·exact q _ (by cases d<;>first | rfl | cases c)
  ·exact q _ (by cases d<;>first | rfl | cases c)
 ·exact h.elim
theorem RK:AB ["thing","least","most"] ["thing","least","most"] (Au s_is_whole_from):=AG
abbrev Dx (P:Program) (w:World) (K:PySem.W.Frag) (mg:Str->Option Value) (base:Heap):Prop:=Fn P w K mg base 2 "is_whole_from" ["thing","least","most"] Jl
theorem RL (F:Df K mg "is_whole_from" s_is_whole_from ["thing","least","most"]) (T:Tx mg) (D_is_whole:Fn P w K mg base 1 "is_whole" ["thing"] GZ):Dx P w K mg base:=by
 refine F.fn RK (λvs H Q E h=>?_) (λf cdv A outer s H vs Q E hr h=>?_)
 ·unfold Jl at h;split at h;rfl;exact h.elim
 refine⟨_,(An (Aw (BK (Aj D_is_whole (hr.mono (by decide)) rfl (Am (cx 0 (by rfl)) (by rfl)) (by decide) (by rfl) (by rfl)) (CC (KF DM DM (cx 1 (by rfl)) (cx 0 (by rfl)) (cx 2 (by rfl)) (by with_unfolding_all rfl)))))),?_⟩
 unfold Jl at h
 split at h
 ·rename_i v lo hi
  obtain⟨p,d,r,q⟩:=h
  refine⟨p,d,r,λb hb=>⟨λc=>?_,λc=>?_⟩⟩
  ·subst c
   cases d<;>first | cases hb | skip
   rename_i i
   unfold Aa at r
   subst r
   refine⟨λc=>?_,λc=>?_⟩
   ·exact q _ (by unfold Bs;dsimp only;rw [c];rfl)
   ·exact q _ (by unfold Bs;dsimp only;rw [c];rfl)
  ·subst c
   exact q _ (by cases d<;>first | rfl | cases hb)
 ·exact h.elim
theorem RM:AB ["thing","fewest","most"] ["thing","fewest","most"] (Au s_is_tuple_of):=AG
abbrev Dc (P:Program) (w:World) (K:PySem.W.Frag) (mg:Str->Option Value) (base:Heap):Prop:=Fn P w K mg base 1 "is_tuple_of" ["thing","fewest","most"] Jm
theorem RN (F:Df K mg "is_tuple_of" s_is_tuple_of ["thing","fewest","most"]) (T:Tx mg)  :Dc P w K mg base:=by
 refine F.fn RM (λvs H Q E h=>?_) (λf cdv A outer s H vs Q E hr h=>?_)
 ·unfold Jm at h;split at h;rfl;exact h.elim
 refine⟨_,(An (Aw (BK (AE IL rfl T.b_isinstance boot_isinstance (Ao (cx 0 (by rfl)) (Ic (v:= .ty "tuple") rfl T.b_tuple BQ rfl (by decide) (by decide)) (by rfl)) (by decide) (by decide) (by rfl) (by rfl)) (CC (KF DM DM (cx 1 (by rfl)) (AE (Bx K (by rfl)) rfl T.b_len PySem.boot_len (Am (cx 0 (by rfl)) (by rfl)) (by decide) (by decide) (by rfl) (by rfl)) (cx 2 (by rfl)) (by with_unfolding_all rfl)))))),?_⟩
 unfold Jm at h
 split at h
 ·rename_i v lo hi
  obtain⟨p,d,r,q⟩:=h
  refine⟨_,r.ty,.inr (.inr (.inl rfl)),⟨λc=>?_,λc=>?_⟩⟩
  ·cases d<;>first | cases c | skip
   rename_i ds
   unfold Aa at r
   obtain⟨a,xs,rfl,ha,rs⟩:=r
   refine⟨a,xs,rfl,.inr (Ae.of ha),?_⟩
   rw [<-rs.len]
   refine⟨λc=>?_,λc=>?_⟩
   ·exact q _ (by unfold Bg;dsimp only;rw [c];rfl)
   ·exact q _ (by unfold Bg;dsimp only;rw [c];rfl)
  ·exact q _ (by cases d<;>first | rfl | cases c)
 ·exact h.elim
end
end MF
end
section
namespace MF
open PySem PySem.Spec PyProof.Rows L2
variable {p : Addr} {H : Hp} {a : PyData} {xs : List V}
theorem Md {α β:Type}{ds:List α}{i:Nat}{d:α} (f:α->β) (h:ds[i]? =some d):(ds.take (i+1)).map f=(ds.take i).map f++[f d]:=by
 rw [List.take_add_one,h,List.map_append];rfl
def Eh (d:PyData):Bool:=match d with | .tuple [a,b]=>Bs a 1 9 && Bs b 1 9 | _=>false
def DR (d:PyData):Bool:=match d with | .tuple [a,b,c]=>Bs a 1 9 && Bs b 0 7 && Bs c 1 8 | _=>false
def Ei (d:PyData):Bool:=match d with
 | .tuple [a,b,c]=>Bs b 0 40 && match b with | .int hi=>Bs c 0 hi &&(match c with | .int st=>Bs a 0 st | _=>false) | _=>false
 | _=>false
def EJ (d:PyData):Bool:=match d with | .tuple ds=>Bg d 1 4 && ds.all Eh | _=>false
def EK (d:PyData):Bool:=match d with | .tuple ds=>Bg d 0 4 && ds.all DR | _=>false
def EL (d:PyData):Bool:=match d with | .tuple [a,b,c]=>EJ a && EK b && Ei c | _=>false
def Cw (f:PyData->Bool):Sp:=λvs H Q _=>match vs with | [v]=>∃p d,Aa p H d v/\∀b H',b=f d->Ab H H'->Q (.bl b) H' | _=>False
theorem EM {f:PyData->Bool}{vs H Q E} (h:Cw f vs H Q E):vs.length=1:=by unfold Cw at h;split at h;rfl;exact h.elim
abbrev G4:Sp:=Cw Eh
abbrev G5:Sp:=Cw DR
abbrev G6:Sp:=Cw Ei
abbrev G7:Sp:=Cw EJ
abbrev G8:Sp:=Cw EK
abbrev G9:Sp:=Cw EL
theorem RO {vs H Q E} (h:G4 vs H Q E):vs.length=1:=EM h
theorem RP {vs H Q E} (h:G5 vs H Q E):vs.length=1:=EM h
theorem RQ {vs H Q E} (h:G6 vs H Q E):vs.length=1:=EM h
theorem RR {vs H Q E} (h:G7 vs H Q E):vs.length=1:=EM h
theorem RS {vs H Q E} (h:G8 vs H Q E):vs.length=1:=EM h
theorem RT {vs H Q E} (h:G9 vs H Q E):vs.length=1:=EM h
theorem two {ds:List PyData} (h:Bg (.tuple ds) 2 2=true):∃a b,ds=[a,b]:=by
 unfold Bg at h;simp only [Bool.and_eq_true,decide_eq_true_eq] at h
 match ds,h with
 | [a,b],_=>exact⟨a,b,rfl⟩
 | [],h=>simp at h
 | [_],h=>simp at h
 | _::_::_::_,h=>simp at h;omega
theorem three {ds:List PyData} (h:Bg (.tuple ds) 3 3=true):∃a b c,ds=[a,b,c]:=by
 unfold Bg at h;simp only [Bool.and_eq_true,decide_eq_true_eq] at h
 match ds,h with
 | [a,b,c],_=>exact⟨a,b,c,rfl⟩
 | [],h=>simp at h
 | [_],h=>simp at h
 | [_,_],h=>simp at h
 | _::_::_::_::_,h=>simp at h;omega
theorem EN {d:PyData}{lo hi:Int} (h:Bg d lo hi=true):∃ds,d= .tuple ds:=by
 cases d<;>first | exact⟨_,rfl⟩ | cases h
theorem Aa.shape {ds:List PyData}{v:V} (r:Aa p H (.tuple ds) v):∃a xs,v= .ref a/\H a=some (.tup xs)/\Ac p H ds xs:=by unfold Aa at r;exact r
theorem Ac.two {b:PyData} (r:Ac p H [a,b] xs):∃x y,xs=[x,y]/\Aa p H a x/\Aa p H b y:=by
 unfold Ac at r;obtain⟨x,s,rfl,hx,r⟩:=r;unfold Ac at r;obtain⟨y,s,rfl,hy,r⟩:=r;unfold Ac at r;subst r;exact⟨x,y,rfl,hx,hy⟩
theorem Ac.three {b c:PyData} (r:Ac p H [a,b,c] xs):∃x y z,xs=[x,y,z]/\Aa p H a x/\Aa p H b y/\Aa p H c z:=by
 unfold Ac at r;obtain⟨x,s,rfl,hx,r⟩:=r;obtain⟨y,z,rfl,hy,hz⟩:=Ac.two r;exact⟨x,y,z,rfl,hx,hy,hz⟩
section
variable {P : Program} {w : World} {K : PySem.W.Frag} {mg : Str -> Option Value} {base : Heap}
theorem sc_is_make_and_coal:AB ["thing","make","coal"] ["thing"] (Au s_is_make_and_coal):=AG
theorem RU (F:Df K mg "is_make_and_coal" s_is_make_and_coal ["thing"]) (T:Tx mg) (D_is_tuple_of:Dc P w K mg base) (D_is_whole_from:Dx P w K mg base):Fn P w K mg base 3 "is_make_and_coal" ["thing"] G4:=by
 obtain⟨t_MOST_UNITS,g_MOST_UNITS⟩:=T.g_MOST_UNITS
 refine F.fn sc_is_make_and_coal (λvs H Q E h=>?_) (λf cdv A outer s H vs Q E hr h=>?_)
 ·exact RO h
 refine⟨_,(Ai (A9 (Ca (BP (Aj D_is_tuple_of (hr.mono (by decide)) rfl (AC (cx 0 (by rfl)) Af Af (by rfl)) (by decide) (by rfl) (by rfl)) (by intro _;rfl))) (An (Aw Ch)) A8) (Ai (Bl (cx 0 (by rfl)) (AL K (n:=2) (Ak (Ag 1 sc_is_make_and_coal.nd (by rfl)) (Ak (Ag 2 sc_is_make_and_coal.nd (by rfl)) AK (by rfl)) (by rfl)) (by rfl) (by rfl) (by rfl) (by rfl)) (by rfl) (by rfl) (by rfl)) (An (Aw (BK (Aj D_is_whole_from (hr.mono (by decide)) rfl (AC (cx 1 (by rfl)) Af (CV (v:= .int 9) rfl g_MOST_UNITS ⟨t_MOST_UNITS,rfl⟩ (by decide)) (by rfl)) (by decide) (by rfl) (by rfl)) (CC (Aj D_is_whole_from (hr.mono (by decide)) rfl (AC (cx 2 (by rfl)) Af (CV (v:= .int 9) rfl g_MOST_UNITS ⟨t_MOST_UNITS,rfl⟩ (by decide)) (by rfl)) (by decide) (by rfl) (by rfl)))))))),?_⟩
 unfold G4 Cw at h
 split at h
 ·rename_i v
  obtain⟨p,d,r,q⟩:=h
  refine⟨p,d,r,λb hb=>⟨λc=>?_,λc=>?_⟩⟩
  ·refine q false H ?_ (Ab.refl _)
   have e:Bg d 2 2=false:=by rw [<-hb];simpa using c
   cases d<;>first | rfl | skip
   rename_i ds
   match ds,e with
   | [a,b],e=>cases e
   | [],_=>rfl
   | [_],_=>rfl
   | _::_::_::_,_=>rfl
  ·have e:Bg d 2 2=true:=by rw [<-hb];simpa using c
   obtain⟨ds,rfl⟩:=EN e
   obtain⟨a,b,rfl⟩:=two e
   obtain⟨l,xs,rfl,hl,rs⟩:=Aa.shape r
   obtain⟨x,y,rfl,rx,ry⟩:=Ac.two rs
   refine⟨l,[x,y],rfl,Ae.of hl,rfl,x,[y],rfl,y,[],rfl,rfl,p,a,rx,λb1 e1=>⟨λc=>⟨p,b,ry,λb2 e2=>?_⟩,λc=>?_⟩⟩
   ·exact q _ _ (by unfold Eh;dsimp only;rw [e2,<-e1,c];rfl) (Ab.refl _)
   ·exact q _ _ (by unfold Eh;dsimp only;rw [<-e1,c];rfl) (Ab.refl _)
 ·exact h.elim
theorem sc_is_engine:AB ["thing","draw","first","every"] ["thing"] (Au s_is_engine):=AG
theorem RV (F:Df K mg "is_engine" s_is_engine ["thing"]) (T:Tx mg) (D_is_tuple_of:Dc P w K mg base) (D_is_whole_from:Dx P w K mg base):Fn P w K mg base 3 "is_engine" ["thing"] G5:=by
 obtain⟨t_MOST_HOURS,g_MOST_HOURS⟩:=T.g_MOST_HOURS
 obtain⟨t_MOST_UNITS,g_MOST_UNITS⟩:=T.g_MOST_UNITS
 refine F.fn sc_is_engine (λvs H Q E h=>?_) (λf cdv A outer s H vs Q E hr h=>?_)
 ·exact RP h
 refine⟨_,(Ai (A9 (Ca (BP (Aj D_is_tuple_of (hr.mono (by decide)) rfl (AC (cx 0 (by rfl)) Af Af (by rfl)) (by decide) (by rfl) (by rfl)) (by intro _;rfl))) (An (Aw Ch)) A8) (Ai (Bl (cx 0 (by rfl)) (AL K (n:=3) (Ak (Ag 1 sc_is_engine.nd (by rfl)) (Ak (Ag 2 sc_is_engine.nd (by rfl)) (Ak (Ag 3 sc_is_engine.nd (by rfl)) AK (by rfl)) (by rfl)) (by rfl)) (by rfl) (by rfl) (by rfl) (by rfl)) (by rfl) (by rfl) (by rfl)) (An (Aw (BK (Aj D_is_whole_from (hr.mono (by decide)) rfl (AC (cx 1 (by rfl)) Af (CV (v:= .int 9) rfl g_MOST_UNITS ⟨t_MOST_UNITS,rfl⟩ (by decide)) (by rfl)) (by decide) (by rfl) (by rfl)) (BK (Aj D_is_whole_from (hr.mono (by decide)) rfl (AC (cx 2 (by rfl)) Af (At BE (CV (v:= .int 8) rfl g_MOST_HOURS ⟨t_MOST_HOURS,rfl⟩ (by decide)) Af) (by rfl)) (by decide) (by rfl) (by rfl)) (CC (Aj D_is_whole_from (hr.mono (by decide)) rfl (AC (cx 3 (by rfl)) Af (CV (v:= .int 8) rfl g_MOST_HOURS ⟨t_MOST_HOURS,rfl⟩ (by decide)) (by rfl)) (by decide) (by rfl) (by rfl))))))))),?_⟩
 unfold G5 Cw at h
 split at h
 ·rename_i v
  obtain⟨p,d,r,q⟩:=h
  refine⟨p,d,r,λb hb=>⟨λc=>?_,λc=>?_⟩⟩
  ·refine q false H ?_ (Ab.refl _)
   have e:Bg d 3 3=false:=by rw [<-hb];simpa using c
   cases d<;>first | rfl | skip
   rename_i ds
   match ds,e with
   | [a,b,c],e=>cases e
   | [],_=>rfl
   | [_],_=>rfl
   | [_,_],_=>rfl
   | _::_::_::_::_,_=>rfl
  ·have e:Bg d 3 3=true:=by rw [<-hb];simpa using c
   obtain⟨ds,rfl⟩:=EN e
   obtain⟨a,b,c',rfl⟩:=three e
   obtain⟨l,xs,rfl,hl,rs⟩:=Aa.shape r
   obtain⟨x,y,z,rfl,rx,ry,rz⟩:=Ac.three rs
   refine⟨l,[x,y,z],rfl,Ae.of hl,rfl,x,[y,z],rfl,y,[z],rfl,z,[],rfl,rfl,p,a,rx,λb1 e1=>⟨λc=>⟨p,b,ry,λb2 e2=>⟨λc2=>⟨p,c',rz,λb3 e3=>?_⟩,λc2=>?_⟩⟩,λc=>?_⟩⟩
   ·exact q _ _ (by unfold DR;dsimp only;rw [e3,<-e1,c];rw [show Bs b 0 7=true from by rw [<-c2,e2];rfl];rfl) (Ab.refl _)
   ·exact q _ _ (by unfold DR;dsimp only;rw [<-e1,c];rw [show Bs b 0 7=false from by rw [<-c2,e2];rfl];rfl) (Ab.refl _)
   ·exact q _ _ (by unfold DR;dsimp only;rw [<-e1,c];rfl) (Ab.refl _)
 ·exact h.elim
theorem sc_is_main:AB ["thing","low","high","start"] ["thing"] (Au s_is_main):=AG
theorem RW (F:Df K mg "is_main" s_is_main ["thing"]) (T:Tx mg) (D_is_tuple_of:Dc P w K mg base) (D_is_whole_from:Dx P w K mg base):Fn P w K mg base 3 "is_main" ["thing"] G6:=by
 obtain⟨t_MOST_IN_MAIN,g_MOST_IN_MAIN⟩:=T.g_MOST_IN_MAIN
 refine F.fn sc_is_main (λvs H Q E h=>?_) (λf cdv A outer s H vs Q E hr h=>?_)
 ·exact RQ h
 refine⟨_,(Ai (A9 (Ca (BP (Aj D_is_tuple_of (hr.mono (by decide)) rfl (AC (cx 0 (by rfl)) Af Af (by rfl)) (by decide) (by rfl) (by rfl)) (by intro _;rfl))) (An (Aw Ch)) A8) (Ai (Bl (cx 0 (by rfl)) (AL K (n:=3) (Ak (Ag 1 sc_is_main.nd (by rfl)) (Ak (Ag 2 sc_is_main.nd (by rfl)) (Ak (Ag 3 sc_is_main.nd (by rfl)) AK (by rfl)) (by rfl)) (by rfl)) (by rfl) (by rfl) (by rfl) (by rfl)) (by rfl) (by rfl) (by rfl)) (An (Aw (BK (Aj D_is_whole_from (hr.mono (by decide)) rfl (AC (cx 2 (by rfl)) Af (CV (v:= .int 40) rfl g_MOST_IN_MAIN ⟨t_MOST_IN_MAIN,rfl⟩ (by decide)) (by rfl)) (by decide) (by rfl) (by rfl)) (BK (Aj D_is_whole_from (hr.mono (by decide)) rfl (AC (cx 3 (by rfl)) Af (cx 2 (by rfl)) (by rfl)) (by decide) (by rfl) (by rfl)) (CC (Aj D_is_whole_from (hr.mono (by decide)) rfl (AC (cx 1 (by rfl)) Af (cx 3 (by rfl)) (by rfl)) (by decide) (by rfl) (by rfl))))))))),?_⟩
 unfold G6 Cw at h
 split at h
 ·rename_i v
  obtain⟨p,d,r,q⟩:=h
  refine⟨p,d,r,λb hb=>⟨λc=>?_,λc=>?_⟩⟩
  ·refine q false H ?_ (Ab.refl _)
   have e:Bg d 3 3=false:=by rw [<-hb];simpa using c
   cases d<;>first | rfl | skip
   rename_i ds
   match ds,e with
   | [a,b,c],e=>cases e
   | [],_=>rfl
   | [_],_=>rfl
   | [_,_],_=>rfl
   | _::_::_::_::_,_=>rfl
  ·have e:Bg d 3 3=true:=by rw [<-hb];simpa using c
   obtain⟨ds,rfl⟩:=EN e
   obtain⟨a,b,c',rfl⟩:=three e
   obtain⟨l,xs,rfl,hl,rs⟩:=Aa.shape r
   obtain⟨x,y,z,rfl,rx,ry,rz⟩:=Ac.three rs
   refine⟨l,[x,y,z],rfl,Ae.of hl,rfl,x,[y,z],rfl,y,[z],rfl,z,[],rfl,rfl,p,b,ry,λb1 e1=>⟨λc1=>?_,λc1=>?_⟩⟩
   ·rw [c1] at e1
    cases b<;>first | cases e1 | skip
    rename_i hi
    unfold Aa at ry
    subst ry
    refine⟨p,c',rz,λb2 e2=>⟨λc2=>?_,λc2=>?_⟩⟩
    ·rw [c2] at e2
     cases c'<;>first | cases e2 | skip
     rename_i st
     unfold Aa at rz
     subst rz
     refine⟨p,a,rx,λb3 e3=>?_⟩
     exact q _ _ (by unfold Ei;dsimp only;rw [e3];rw [<-e1,<-e2];rfl) (Ab.refl _)
    ·exact q _ _ (by unfold Ei;dsimp only;rw [<-e1,<-e2,c2];rfl) (Ab.refl _)
   ·exact q _ _ (by unfold Ei;dsimp only;rw [<-e1,c1];rfl) (Ab.refl _)
 ·exact h.elim
theorem RX:AB ["thing"] ["thing"] (Au s_are_boilers):=AG
theorem RY (F:Df K mg "are_boilers" s_are_boilers ["thing"]) (T:Tx mg) (D_is_make_and_coal:Fn P w K mg base 3 "is_make_and_coal" ["thing"] G4) (D_is_tuple_of:Dc P w K mg base):Fn P w K mg base 4 "are_boilers" ["thing"] G7:=by
 obtain⟨t_MOST_BOILERS,g_MOST_BOILERS⟩:=T.g_MOST_BOILERS
 refine F.fn RX (λvs H Q E h=>?_) (λf cdv A outer s H vs Q E hr h=>?_)
 ·exact RR h
 refine⟨_,(An (Aw (BK (Aj D_is_tuple_of (hr.mono (by decide)) rfl (AC (cx 0 (by rfl)) Af (CV (v:= .int 4) rfl g_MOST_BOILERS ⟨t_MOST_BOILERS,rfl⟩ (by decide)) (by rfl)) (by decide) (by rfl) (by rfl)) (CC (AE (Ez rfl) rfl T.b_all boot_all (Am (Bw ["part"] [none] rfl (Cf K (cx 0 (by rfl)) (by rfl)) (AQ.of rfl) (λ_ _ _ _=>(Ag 0 (AJ (by rfl)) (by rfl))) (λ_ _ _ _=>Br) (λ_ _ _ _=>(Aj D_is_make_and_coal (hr.mono (by decide)) rfl (Am (cx 0 (by rfl)) (by rfl)) (by decide) (by rfl) (by rfl))) (by intro _;rfl)) (by rfl)) (by decide) (by decide) (by rfl) (by rfl)))))),?_⟩
 unfold G7 Cw at h
 split at h
 ·rename_i v
  obtain⟨p,d,r,q⟩:=h
  refine⟨p,d,r,λb hb=>⟨λc=>?_,λc=>?_⟩⟩
  ·rw [c] at hb
   obtain⟨ds,rfl⟩:=EN hb.symm
   obtain⟨l,xs,rfl,hl,rs⟩:=Aa.shape r
   have hlen:=rs.len
   have hsm:ds.length<=4:=by
    have:=hb.symm;unfold Bg at this;simp only [Bool.and_eq_true,decide_eq_true_eq] at this;omega
   refine⟨l,rfl,⟨xs,Ae.of hl⟩,Cm (xs:=xs) (λi ys H'=>Ab H H'/\ys=(ds.take i).map λd=>V.bl (Eh d)) (by omega) ⟨Ab.refl _,rfl⟩ (λi ys H' h=>by rw [h.2,List.length_map,List.length_take];omega) (λi ys H' _ h=>Ae.of (h.1 _ _ hl)) (λi x ys H' hx h=>?_) λys H' h=>?_⟩
   ·obtain⟨d,hd,rd⟩:=rs.got hx
    refine⟨trivial,λ_=>⟨p,d,Aa.ev (Ev.same h.1) d x rd,λb H2 e s2=>⟨h.1.trans s2,?_⟩⟩,λc=>by cases c⟩
    rw [h.2,e,Md _ hd]
   ·intro m hm
    refine⟨m,ds.map Eh,rfl,?_,?_⟩
    ·rw [Ah,h.2,<-hlen,List.take_length,List.map_map];rfl
    ·refine q _ _ ?_ (h.1.trans (Ab.new hm))
     unfold EJ;dsimp only;rw [<-hb,List.all_map,Bool.true_and];rfl
  ·refine q _ _ ?_ (Ab.refl _)
   have e:Bg d 1 4=false:=by rw [<-hb,c]
   unfold EJ
   cases d<;>first | rfl | skip
   dsimp only;rw [e];rfl
 ·exact h.elim
theorem RZ:AB ["thing"] ["thing"] (Au s_are_engines):=AG
theorem R0 (F:Df K mg "are_engines" s_are_engines ["thing"]) (T:Tx mg) (D_is_engine:Fn P w K mg base 3 "is_engine" ["thing"] G5) (D_is_tuple_of:Dc P w K mg base):Fn P w K mg base 4 "are_engines" ["thing"] G8:=by
 obtain⟨t_MOST_ENGINES,g_MOST_ENGINES⟩:=T.g_MOST_ENGINES
 refine F.fn RZ (λvs H Q E h=>?_) (λf cdv A outer s H vs Q E hr h=>?_)
 ·exact RS h
 refine⟨_,(An (Aw (BK (Aj D_is_tuple_of (hr.mono (by decide)) rfl (AC (cx 0 (by rfl)) Af (CV (v:= .int 4) rfl g_MOST_ENGINES ⟨t_MOST_ENGINES,rfl⟩ (by decide)) (by rfl)) (by decide) (by rfl) (by rfl)) (CC (AE (Ez rfl) rfl T.b_all boot_all (Am (Bw ["part"] [none] rfl (Cf K (cx 0 (by rfl)) (by rfl)) (AQ.of rfl) (λ_ _ _ _=>(Ag 0 (AJ (by rfl)) (by rfl))) (λ_ _ _ _=>Br) (λ_ _ _ _=>(Aj D_is_engine (hr.mono (by decide)) rfl (Am (cx 0 (by rfl)) (by rfl)) (by decide) (by rfl) (by rfl))) (by intro _;rfl)) (by rfl)) (by decide) (by decide) (by rfl) (by rfl)))))),?_⟩
 unfold G8 Cw at h
 split at h
 ·rename_i v
  obtain⟨p,d,r,q⟩:=h
  refine⟨p,d,r,λb hb=>⟨λc=>?_,λc=>?_⟩⟩
  ·rw [c] at hb
   obtain⟨ds,rfl⟩:=EN hb.symm
   obtain⟨l,xs,rfl,hl,rs⟩:=Aa.shape r
   have hlen:=rs.len
   have hsm:ds.length<=4:=by
    have:=hb.symm;unfold Bg at this;simp only [Bool.and_eq_true,decide_eq_true_eq] at this;omega
   refine⟨l,rfl,⟨xs,Ae.of hl⟩,Cm (xs:=xs) (λi ys H'=>Ab H H'/\ys=(ds.take i).map λd=>V.bl (DR d)) (by omega) ⟨Ab.refl _,rfl⟩ (λi ys H' h=>by rw [h.2,List.length_map,List.length_take];omega) (λi ys H' _ h=>Ae.of (h.1 _ _ hl)) (λi x ys H' hx h=>?_) λys H' h=>?_⟩
   ·obtain⟨d,hd,rd⟩:=rs.got hx
    refine⟨trivial,λ_=>⟨p,d,Aa.ev (Ev.same h.1) d x rd,λb H2 e s2=>⟨h.1.trans s2,?_⟩⟩,λc=>by cases c⟩
    rw [h.2,e,Md _ hd]
   ·intro m hm
    refine⟨m,ds.map DR,rfl,?_,?_⟩
    ·rw [Ah,h.2,<-hlen,List.take_length,List.map_map];rfl
    ·refine q _ _ ?_ (h.1.trans (Ab.new hm))
     unfold EK;dsimp only;rw [<-hb,List.all_map,Bool.true_and];rfl
  ·refine q _ _ ?_ (Ab.refl _)
   have e:Bg d 0 4=false:=by rw [<-hb,c]
   unfold EK
   cases d<;>first | rfl | skip
   dsimp only;rw [e];rfl
 ·exact h.elim
theorem sc_is_plant:AB ["thing","boilers","engines","main"] ["thing"] (Au s_is_plant):=AG
theorem R1 (F:Df K mg "is_plant" s_is_plant ["thing"]) (T:Tx mg) (D_are_boilers:Fn P w K mg base 4 "are_boilers" ["thing"] G7) (D_are_engines:Fn P w K mg base 4 "are_engines" ["thing"] G8) (D_is_main:Fn P w K mg base 3 "is_main" ["thing"] G6) (D_is_tuple_of:Dc P w K mg base):Fn P w K mg base 5 "is_plant" ["thing"] G9:=by
 refine F.fn sc_is_plant (λvs H Q E h=>?_) (λf cdv A outer s H vs Q E hr h=>?_)
 ·exact RT h
 refine⟨_,(Ai (A9 (Ca (BP (Aj D_is_tuple_of (hr.mono (by decide)) rfl (AC (cx 0 (by rfl)) Af Af (by rfl)) (by decide) (by rfl) (by rfl)) (by intro _;rfl))) (An (Aw Ch)) A8) (Ai (Bl (cx 0 (by rfl)) (AL K (n:=3) (Ak (Ag 1 sc_is_plant.nd (by rfl)) (Ak (Ag 2 sc_is_plant.nd (by rfl)) (Ak (Ag 3 sc_is_plant.nd (by rfl)) AK (by rfl)) (by rfl)) (by rfl)) (by rfl) (by rfl) (by rfl) (by rfl)) (by rfl) (by rfl) (by rfl)) (An (Aw (BK (Aj D_are_boilers (hr.mono (by decide)) rfl (Am (cx 1 (by rfl)) (by rfl)) (by decide) (by rfl) (by rfl)) (BK (Aj D_are_engines (hr.mono (by decide)) rfl (Am (cx 2 (by rfl)) (by rfl)) (by decide) (by rfl) (by rfl)) (CC (Aj D_is_main (hr.mono (by decide)) rfl (Am (cx 3 (by rfl)) (by rfl)) (by decide) (by rfl) (by rfl))))))))),?_⟩
 unfold G9 Cw at h
 split at h
 ·rename_i v
  obtain⟨p,d,r,q⟩:=h
  refine⟨p,d,r,λb hb=>⟨λc=>?_,λc=>?_⟩⟩
  ·refine q false H ?_ (Ab.refl _)
   have e:Bg d 3 3=false:=by rw [<-hb];simpa using c
   cases d<;>first | rfl | skip
   rename_i ds
   match ds,e with
   | [a,b,c],e=>cases e
   | [],_=>rfl
   | [_],_=>rfl
   | [_,_],_=>rfl
   | _::_::_::_::_,_=>rfl
  ·have e:Bg d 3 3=true:=by rw [<-hb];simpa using c
   obtain⟨ds,rfl⟩:=EN e
   obtain⟨a,b,c',rfl⟩:=three e
   obtain⟨l,xs,rfl,hl,rs⟩:=Aa.shape r
   obtain⟨x,y,z,rfl,rx,ry,rz⟩:=Ac.three rs
   refine⟨l,[x,y,z],rfl,Ae.of hl,rfl,x,[y,z],rfl,y,[z],rfl,z,[],rfl,rfl,p,a,rx,λb1 H1 e1 s1=>⟨λc=>⟨p,b,Aa.ev (Ev.same s1) _ _ ry,λb2 H2 e2 s2=>⟨λc2=>⟨p,c',Aa.ev (Ev.same (s1.trans s2)) _ _ rz,λb3 H3 e3 s3=>?_⟩,λc2=>?_⟩⟩,λc=>?_⟩⟩
   ·exact q _ _ (by unfold EL;dsimp only;rw [e3,<-e1,<-e2,c,c2];rfl) (s1.trans (s2.trans s3))
   ·exact q _ _ (by unfold EL;dsimp only;rw [<-e1,<-e2,c,c2];rfl) (s1.trans s2)
   ·exact q _ _ (by unfold EL;dsimp only;rw [<-e1,c];rfl) s1
 ·exact h.elim
end
end MF
end
section
namespace MF
open PySem PySem.Spec PyProof.Rows L2
variable {p a : Addr} {H : Hp}
def Bc (p:Addr) (H:Hp):Prop:=∃l f:Int,H p=some (.lst [.int l,.int f])
theorem Bc.new {o:HO} (h:Bc p H) (n:H a=none):Bc p (upd H a o):=by
 obtain⟨l,f,e⟩:=h;exact⟨l,f,by rw [As (Bh e n)];exact e⟩
theorem Bc.ne (h:Bc p H) (n:H a=none):a≠p:=by obtain⟨l,f,e⟩:=h;exact Ne.symm (Bh e n)
theorem Bc.same {H':Hp} (h:Bc p H) (s:Ab H H'):Bc p H':=by obtain⟨l,f,e⟩:=h;exact⟨l,f,s _ _ e⟩
def Hd (K:PySem.W.Frag):Sp:=λvs H Q _=>match vs with | [.ref a,.int k]=>∃ns:List Int,Al K H a (ns.map V.int)/\0<=k/\∀i,Q (.int i) H | _=>False
def He:Sp:=λvs H Q _=>match vs with | [.int c]=>∀p l f,H p=none->Q (.ref p) (upd H p (.lst [.int l,.int f])) | _=>False
def Jn:Sp:=λvs H Q _=>match vs with | [.ref p,.int m]=>Bc p H/\0<m/\m<1000/\∀g H',0<=g->g<m->Ev p H H'->Bc p H'->Q (.int g) H' | _=>False
theorem DS {ns:List Int}{g:Int} (h0:0<=g) (h1:g<ns.length):∃v∈ns,CF (ns.map V.int) g=some (.int v):=by
 have hk:g.toNat<ns.length:=by omega
 have e:g=((g.toNat:Nat):Int):=by omega
 refine⟨ns[g.toNat],List.getElem_mem hk,?_⟩
 have q:CF (ns.map V.int) ((g.toNat:Nat):Int)=some (.int ns[g.toNat]):=C2 (by simp [hk])
 rw [<-e] at q
 exact q
section
variable {P : Program} {w : World} {K : PySem.W.Frag} {mg : Str -> Option Value} {base : Heap}
theorem R3:AB ["_law_script","_law_k"] ["_law_script","_law_k"] (Au s__law_cell):=AG
theorem R4 (F:Df K mg "_law_cell" s__law_cell ["_law_script","_law_k"]) (T:Tx mg)  :Fn P w K mg base 1 "_law_cell" ["_law_script","_law_k"] (Hd K):=by
 refine F.fn R3 (λvs H Q E h=>?_) (λf cdv A outer s H vs Q E hr h=>?_)
 ·unfold Hd at h;split at h;rfl;exact h.elim
 refine⟨_,(Ai (A9 (AU Ed (cx 1 (by rfl)) (AE (Bx K (by rfl)) rfl T.b_len PySem.boot_len (Am (cx 0 (by rfl)) (by rfl)) (by decide) (by decide) (by rfl) (by rfl)) (AO _)) (An (Aw (AF (Bp K (by rfl)) (cx 0 (by rfl)) (cx 1 (by rfl)) (λ_ _=>rfl)))) A8) (An (Aw Af))),?_⟩
 unfold Hd at h
 split at h
 ·rename_i a k
  obtain⟨ns,hs,h0,q⟩:=h
  refine⟨a,_,rfl,.inl hs,⟨λc=>?_,λc=>q 0⟩⟩
  have c':k<(ns.length:Int):=by have:=of_decide_eq_true c;simpa using this
  obtain⟨v,_,e⟩:=DS h0 c'
  exact⟨a,_,k,.int v,rfl,rfl,hs,e,q v⟩
 ·exact h.elim
theorem sc__law_pen:AB ["_law_cell_here","_law_more"] ["_law_cell_here"] (Au s__law_pen):=AG
theorem R5 (F:Df K mg "_law_pen" s__law_pen ["_law_cell_here"]) (T:Tx mg)  :Fn P w K mg base 1 "_law_pen" ["_law_cell_here"] He:=by
 refine F.fn sc__law_pen (λvs H Q E h=>?_) (λf cdv A outer s H vs Q E hr h=>?_)
 ·unfold He at h;split at h;rfl;exact h.elim
 refine⟨_,(Ai (AI (i:=1) sc__law_pen.nd rfl (Az (by rfl)) (AE (F7 rfl) rfl T.b_max boot_max (Ao (cx 0 (by rfl)) (At BE Af (cx 0 (by rfl))) (by rfl)) (by decide) (by decide) (by rfl) (by rfl)) (by rfl) (AA (by rfl))) (An (Aw (BX (Ao (cx 1 (by rfl)) (Bv Im rfl T.b_int L2.boot_int (Am (Cr KC (cx 1 (by rfl)) (At II Af Af) (AO _)) (by rfl)) (by decide) (by decide) (by rfl) (by rfl)) (by rfl)))))),?_⟩
 unfold He at h
 split at h
 ·rename_i c
  refine⟨c,0-c,rfl,?_⟩
  exact⟨⟨by decide,by decide,by decide⟩,.inr ⟨_,rfl,λp hp=>h p _ _ hp⟩⟩
 ·exact h.elim
theorem sc__law_draw:AB ["_law_pen_here","_law_many","_law_rest","_law_drawn","_law_stir"] ["_law_pen_here","_law_many"] (Au s__law_draw):=AG
abbrev Hf (P:Program) (w:World) (K:PySem.W.Frag) (mg:Str->Option Value) (base:Heap):Prop:=Fn P w K mg base 1 "_law_draw" ["_law_pen_here","_law_many"] Jn
theorem R6 (F:Df K mg "_law_draw" s__law_draw ["_law_pen_here","_law_many"]) (T:Tx mg)  :Hf P w K mg base:=by
 refine F.fn sc__law_draw (λvs H Q E h=>?_) (λf cdv A outer s H vs Q E hr h=>?_)
 ·unfold Jn at h;split at h;rfl;exact h.elim
 refine⟨_,(Ai (A9 (AU Ep (AF (Bp K (by rfl)) (cx 0 (by rfl)) Af (λ_ _=>rfl)) Af (AO _)) (Ai (Bl (AE NL rfl T.b_divmod boot_divmod (Ao (AF (Bp K (by rfl)) (cx 0 (by rfl)) Af (λ_ _=>rfl)) (cx 1 (by rfl)) (by rfl)) (by decide) (by decide) (by rfl) (by rfl)) (AL K (n:=2) (Ak (Ag 2 sc__law_draw.nd (by rfl)) (Ak (Ag 3 sc__law_draw.nd (by rfl)) AK (by rfl)) (by rfl)) (by rfl) (by rfl) (by rfl) (by rfl)) (by rfl) (by rfl) (by rfl)) (Ai (Bl (cx 2 (by rfl)) (FY (cx 0 (by rfl)) Af Ga (by intro _;rfl)) (by rfl) (by rfl) (by rfl)) (An (Aw (cx 3 (by rfl)))))) A8) (Ai (AI (i:=4) sc__law_draw.nd rfl (Az (by rfl)) (At Ex (At Go (At AY (At Ex (AF (Bp K (by rfl)) (cx 0 (by rfl)) Af (λ_ _=>rfl)) Af) Af) Af) Af) (by rfl) (AA (by rfl))) (Ai (AI (i:=4) sc__law_draw.nd rfl (Az (by rfl)) (At Ex (At AY (At Go (cx 4 (by rfl)) (cx 4 (by rfl))) Af) Af) (by rfl) (AA (by rfl))) (Ai (Bl (At Ex (At AY (At Go (cx 4 (by rfl)) Af) Af) Af) (FY (cx 0 (by rfl)) Af Ga (by intro _;rfl)) (by rfl) (by rfl) (by rfl)) (An (Aw (At Ex (At Gp (AF (Bp K (by rfl)) (cx 0 (by rfl)) Af (λ_ _=>rfl)) Af) (cx 1 (by rfl))))))))),?_⟩
 unfold Jn at h
 split at h
 ·rename_i p m
  obtain⟨⟨l,f,hp⟩,h0,h1,q⟩:=h
  refine⟨p,[.int l,.int f],1,.int f,rfl,rfl,Al.of hp,rfl,rfl,⟨λc=>?_,λc=>?_⟩⟩
  ·refine⟨p,[.int l,.int f],0,.int l,rfl,rfl,Al.of hp,rfl,l,m,rfl,⟨h0,by omega⟩,λt ht=>?_⟩
   have hpt:p≠t:=Bh hp ht
   have hp':upd H t (.tup [.int (l / m),.int (l % m)]) p=some (.lst [.int l,.int f]):=by rw [As hpt];exact hp
   refine⟨t,[.int (l / m),.int (l % m)],rfl,Ae.of Ah,rfl,_,_,rfl,_,_,rfl,rfl,?_⟩
   refine⟨p,[.int l,.int f],0,0,rfl,rfl,hp',rfl,?_⟩
   exact q _ _ (Int.emod_nonneg _ (by omega)) (Int.emod_lt_of_pos _ h0) ((Ev.new ht).trans (Ev.pen hp')) ⟨l / m,f,Ah⟩
  ·have b1:∀x:Int,-(2 ^ 64)<x % 2147483629:=λx=>Int.lt_of_lt_of_le (by decide) (Int.emod_nonneg x (by decide))
   have b2:∀x:Int,x % 2147483629<2 ^ 64:=λx=>Int.lt_trans (Int.emod_lt_of_pos x (by decide)) (by decide)
   have g1:(0:Int)<2147483647:=by decide
   have g2:(0:Int)<2147483629:=by decide
   have g3:(0:Int)<2147483587:=by decide
   have c1: -(2 ^ 64)<(69621:Int)/\(69621:Int)<2 ^ 64:=by decide
   have c2: -(2 ^ 64)<(48271:Int)/\(48271:Int)<2 ^ 64:=by decide
   refine⟨p,[.int l,.int f],0,.int l,rfl,rfl,Al.of hp,rfl,g1,.inr c1,g2,.inl ⟨b1 _,b2 _⟩,g3,.inr c2,g2,p,[.int l,.int f],0,0,rfl,rfl,hp,rfl,?_⟩
   refine⟨p,_,0,_,rfl,rfl,Al.of Ah,rfl,⟨by decide,by decide⟩,h0,?_⟩
   exact q _ _ (Int.emod_nonneg _ (by omega)) (Int.emod_lt_of_pos _ h0) (Ev.pen hp) ⟨_,f,Ah⟩
 ·exact h.elim
end
end MF
end
section
namespace MF
open PySem PySem.Spec PyProof.Rows L2
variable {H H2 H' H3 : Hp} {ys zs : List V} {p p' t : Addr} {Good : PyData -> Prop} {i : Nat}
mutual
def CL:PyData->Bool
 | .list _=>false | .dict _=>false | .tuple ds=>EO ds | _=>true
def EO:List PyData->Bool
 | []=>true
 | d::ds=>CL d && EO ds
end
def TEv (H H':Hp):Prop:=∀a xs,H a=some (.tup xs)->H' a=some (.tup xs)
theorem TEv.trans {H1:Hp} (a:TEv H H1) (b:TEv H1 H2):TEv H H2:=λc o h=>b c o (a c o h)
theorem _root_.L2.Ev.tev {p:Addr}{H H':Hp} (h:Ev p H H'):TEv H H':=λa xs q=>h.tup q
theorem TEv.upd {a:Addr} (h:H a=some (.lst ys)):TEv H (upd H a (.lst zs)):=λb xs q=>by
 rw [As (JM q h (by intro z;cases z))];exact q
mutual
theorem Aa.tev (h:TEv H H'):∀(d:PyData) (v:V),CL d=true->Aa p H d v->Aa p' H' d v
 | .none,v,_,q=>q
 | .bool _,v,_,q=>q
 | .int _,v,_,q=>q
 | .str _,v,_,q=>q
 | .tuple ds,v,n,q=>by
  unfold Aa at q ⊢
  obtain⟨a,xs,e,r,z⟩:=q
  exact⟨a,xs,e,h _ _ r,Ac.tev h ds xs (by unfold CL at n;exact n) z⟩
 | .list ds,v,n,q=>by unfold CL at n;cases n
 | .dict kvs,v,n,q=>by unfold CL at n;cases n
theorem Ac.tev (h:TEv H H'):∀(ds:List PyData) (xs:List V),EO ds=true->Ac p H ds xs->Ac p' H' ds xs
 | [],xs,_,q=>by unfold Ac at q ⊢;exact q
 | d::ds,xs,n,q=>by
  unfold Ac at q ⊢
  unfold EO at n
  obtain⟨n1,n2⟩:=Bool.and_eq_true_iff.mp n
  obtain⟨x,r,e,z,zs⟩:=q
  exact⟨x,r,e,Aa.tev h d x n1 z,Ac.tev h ds r n2 zs⟩
end
theorem DT {ds:List PyData} (h:∀d∈ds,CL d=true):EO ds=true:=by
 induction ds with
 | nil=>rfl
 | cons d ds ih=>unfold EO;rw [h d List.mem_cons_self,ih λx hx=>h x (List.mem_cons_of_mem _ hx)];rfl
theorem _root_.L2.Ev.own {p b:Addr}{H H':Hp}{o:HO} (h:Ev p H H') (n:H b=none):Ev p H (upd H' b o):=λx u q=>(h x u q).elim .inl λr=> .inr (by rw [As (Bh q n)];exact r)
def GoodB (d:PyData):Prop:=∃m c:Int,d= .tuple [.int m,.int c]/\1<=m/\m<=9/\1<=c/\c<=9
def GoodE (d:PyData):Prop:=∃a f e:Int,d= .tuple [.int a,.int f,.int e]/\1<=a/\a<=9/\0<=f/\f<=7/\1<=e/\e<=8
theorem GoodB.nm {d:PyData} (h:GoodB d):CL d=true:=by obtain⟨m,c,rfl,_⟩:=h;rfl
theorem GoodE.nm {d:PyData} (h:GoodE d):CL d=true:=by obtain⟨m,c,e,rfl,_⟩:=h;rfl
structure GoodP (bs es:List PyData) (lo hi st:Int):Prop where
 b:∀d∈bs,GoodB d
 b1:1<=bs.length
 b4:bs.length<=4
 e:∀d∈es,GoodE d
 e4:es.length<=4
 lo0:0<=lo
 ls:lo<=st
 sh:st<=hi
 h4:hi<=40
def Me (bs es:List PyData) (lo hi st:Int):PyData:= .tuple [.tuple bs,.tuple es,.tuple [.int lo,.int hi,.int st]]
def Hg:Sp:=λvs H Q _=>match vs with | [.ref p,.int m]=>Bc p H/\1<=m/\m<=4/\∀v H' bs es lo hi st,GoodP bs es lo hi st->Aa p H' (Me bs es lo hi st) v->Ev p H H'->Bc p H'->Q v H' | _=>False
structure Filled (Good:PyData->Prop) (p b:Addr) (H H2:Hp) (i:Nat):Prop where
 ev:Ev p H H2
 pen:Bc p H2
 ex:∃xs ds,H2 b=some (.lst xs)/\Ac p H2 ds xs/\(∀d∈ds,Good d)/\ds.length=i
theorem Filled.step {b:Addr}{d:PyData}{xs:List V}{ds:List PyData} (nm:∀d,Good d->CL d=true) (hx:H2 b=some (.lst xs)) (rs:Ac p H2 ds xs) (gd:∀d∈ds,Good d) (hl:ds.length=i) (e3:Ev p H2 H3) (nb:b≠p) (hb:H b=none) (ev:Ev p H H3) (pn:Bc p H3)
  (ht:H3 t=none) (rd:Aa p (upd H3 t (.tup ys)) d (.ref t)) (g:Good d):Filled Good p b H (upd (upd H3 t (.tup ys)) b (.lst (xs++[.ref t]))) (i+1):=by
 have hb3:H3 b=some (.lst xs):=e3.lst hx nb
 have hbt:b≠t:=Bh hb3 ht
 have hbt':upd H3 t (.tup ys) b=some (.lst xs):=by rw [As hbt];exact hb3
 have tv:TEv (upd H3 t (.tup ys)) (upd (upd H3 t (.tup ys)) b (.lst (xs++[.ref t]))):=TEv.upd hbt'
 have pn2:Bc p (upd H3 t (.tup ys)):=pn.new ht
 refine⟨(ev.trans (Ev.new ht)).own hb,?_,xs++[.ref t],ds++[d],Ah,?_,?_,by simp [hl]⟩
 ·obtain⟨l,f,e⟩:=pn2
  exact⟨l,f,by rw [As (Ne.symm nb)];exact e⟩
 ·exact(Ac.tev ((e3.trans (Ev.new ht)).tev.trans tv) ds xs (DT λd h=>nm d (gd d h)) rs).append (.cons (Aa.tev tv d _ (nm d g) rd) .nil)
 ·intro x hx
  rcases List.mem_append.mp hx with h | h
  ·exact gd x h
  ·rw [List.mem_singleton.mp h];exact g
theorem Filled.done {b:Addr} (f:Filled Good p b H H2 i) (nb:b≠p) (e3:Ev p H2 H3):∃xs ds,H3 b=some (.lst xs)/\Ac p H3 ds xs/\(∀d∈ds,Good d)/\ds.length=i:=by
 obtain⟨xs,ds,h1,h2,h3,h4⟩:=f.ex
 exact⟨xs,ds,e3.lst h1 nb,Ac.ev e3 ds xs h2,h3,h4⟩
theorem Filled.other {b e:Addr}{H4 H7:Hp}{ws:List V} (nm:∀d,Good d->CL d=true) (f:Filled Good p b H H4 i) (e47:Ev p H4 H7) (ht:H7 t=none) (he:H7 e=some (.lst ys)) (hHe:H e=none) (nb:b≠p) (neb:b≠e) (ne:e≠p) (pn:Bc p H7):
  Filled Good p b H (upd (upd H7 t (.tup zs)) e (.lst ws)) i:=by
 obtain⟨xs,ds,h1,h2,h3,h4⟩:=f.ex
 have h7:H7 b=some (.lst xs):=e47.lst h1 nb
 have het:upd H7 t (.tup zs) e=some (.lst ys):=by rw [As (Bh he ht)];exact he
 refine⟨((f.ev.trans e47).trans (Ev.new ht)).own hHe,?_,xs,ds,?_,?_,h3,h4⟩
 ·obtain⟨l,g,z⟩:=pn.new (o:= .tup zs) ht
  exact⟨l,g,by rw [As (Ne.symm ne)];exact z⟩
 ·rw [As neb,As (Bh h7 ht)];exact h7
 ·exact Ac.tev ((e47.trans (Ev.new ht)).tev.trans (TEv.upd het)) ds xs (DT λd h=>nm d (h3 d h)) h2
theorem Co {n:Nat} (h:n<=1000):n<sizeLine:=Nat.lt_of_le_of_lt h (by decide)
section
variable {P : Program} {w : World} {K : PySem.W.Frag} {mg : Str -> Option Value} {base : Heap}
theorem sc__law_plant:AB ["_law_pen_here","_law_most","_law_boilers","_law_turn","_law_engines","_law_low","_law_high","_law_start"] ["_law_pen_here","_law_most"] (Au s__law_plant):=AG
theorem R7 (F:Df K mg "_law_plant" s__law_plant ["_law_pen_here","_law_most"]) (T:Tx mg) (D__law_draw:Hf P w K mg base):Fn P w K mg base 2 "_law_plant" ["_law_pen_here","_law_most"] Hg:=by
 refine F.fn sc__law_plant (λvs H Q E h=>?_) (λf cdv A outer s H vs Q E hr h=>?_)
 ·unfold Hg at h;split at h;rfl;exact h.elim
 refine⟨_,(Ai (AI (i:=2) sc__law_plant.nd rfl (Az (by rfl)) (BX Cc) (by rfl) (AA (by rfl))) (Ai (Bu PassesOwn.never rfl (Cb rfl T.b_range (Am (At AY Af (Aj D__law_draw (hr.mono (by decide)) rfl (Ao (cx 0 (by rfl)) (cx 1 (by rfl)) (by rfl)) (by decide) (by rfl) (by rfl))) (by rfl)) (by rfl)) (Ag 3 sc__law_plant.nd (by rfl)) (An (Bq (CG PySem.F.plainAttrs_list PySem.F.slot_list_append PySem.F.type_list_append CH (cx 2 (by rfl)) (Am (BL (Ao (At AY Af (Aj D__law_draw (hr.mono (by decide)) rfl (Ao (cx 0 (by rfl)) (AF (Bp K (by rfl)) (BX (Ao Af Af (by rfl))) (Aj D__law_draw (hr.mono (by decide)) rfl (Ao (cx 0 (by rfl)) Af (by rfl)) (by decide) (by rfl) (by rfl)) (λ_ _=>rfl)) (by rfl)) (by decide) (by rfl) (by rfl))) (At AY Af (Aj D__law_draw (hr.mono (by decide)) rfl (Ao (cx 0 (by rfl)) Af (by rfl)) (by decide) (by rfl) (by rfl))) (by rfl))) (by rfl)) (by rfl) (by rfl) (by rfl) (by rfl) (by rfl)) (by rfl))) (by intro _;rfl)) (Ai (AI (i:=4) sc__law_plant.nd rfl (Az (by rfl)) (BX Cc) (by rfl) (AA (by rfl))) (Ai (Bu PassesOwn.never rfl (Cb rfl T.b_range (Am (Aj D__law_draw (hr.mono (by decide)) rfl (Ao (cx 0 (by rfl)) Af (by rfl)) (by decide) (by rfl) (by rfl)) (by rfl)) (by rfl)) (Ag 3 sc__law_plant.nd (by rfl)) (An (Bq (CG PySem.F.plainAttrs_list PySem.F.slot_list_append PySem.F.type_list_append CH (cx 4 (by rfl)) (Am (BL (AC (At AY Af (Aj D__law_draw (hr.mono (by decide)) rfl (Ao (cx 0 (by rfl)) (AF (Bp K (by rfl)) (BX (Ao Af Af (by rfl))) (Aj D__law_draw (hr.mono (by decide)) rfl (Ao (cx 0 (by rfl)) Af (by rfl)) (by decide) (by rfl) (by rfl)) (λ_ _=>rfl)) (by rfl)) (by decide) (by rfl) (by rfl))) (Aj D__law_draw (hr.mono (by decide)) rfl (Ao (cx 0 (by rfl)) Af (by rfl)) (by decide) (by rfl) (by rfl)) (At AY Af (Aj D__law_draw (hr.mono (by decide)) rfl (Ao (cx 0 (by rfl)) Af (by rfl)) (by decide) (by rfl) (by rfl))) (by rfl))) (by rfl)) (by rfl) (by rfl) (by rfl) (by rfl) (by rfl)) (by rfl))) (by intro _;rfl)) (Ai (AI (i:=5) sc__law_plant.nd rfl (Az (by rfl)) (AF (Bp K (by rfl)) (BX (Bi Af Af (Aj D__law_draw (hr.mono (by decide)) rfl (Ao (cx 0 (by rfl)) Af (by rfl)) (by decide) (by rfl) (by rfl)) (Aj D__law_draw (hr.mono (by decide)) rfl (Ao (cx 0 (by rfl)) Af (by rfl)) (by decide) (by rfl) (by rfl)) (by rfl))) (Aj D__law_draw (hr.mono (by decide)) rfl (Ao (cx 0 (by rfl)) Af (by rfl)) (by decide) (by rfl) (by rfl)) (λ_ _=>rfl)) (by rfl) (AA (by rfl))) (Ai (AI (i:=6) sc__law_plant.nd rfl (Az (by rfl)) (AE (D0 rfl) rfl T.b_min boot_min (Ao Af (At AY (cx 5 (by rfl)) (AF (Bp K (by rfl)) (BX (Bi Af (Aj D__law_draw (hr.mono (by decide)) rfl (Ao (cx 0 (by rfl)) Af (by rfl)) (by decide) (by rfl) (by rfl)) (Aj D__law_draw (hr.mono (by decide)) rfl (Ao (cx 0 (by rfl)) Af (by rfl)) (by decide) (by rfl) (by rfl)) Af (by rfl))) (Aj D__law_draw (hr.mono (by decide)) rfl (Ao (cx 0 (by rfl)) Af (by rfl)) (by decide) (by rfl) (by rfl)) (λ_ _=>rfl))) (by rfl)) (by decide) (by decide) (by rfl) (by rfl)) (by rfl) (AA (by rfl))) (Ai (AI (i:=7) sc__law_plant.nd rfl (Az (by rfl)) (AF (Bp K (by rfl)) (BX (AC (cx 5 (by rfl)) (cx 6 (by rfl)) (At AY (cx 5 (by rfl)) (Aj D__law_draw (hr.mono (by decide)) rfl (Ao (cx 0 (by rfl)) (At AY (At BE (cx 6 (by rfl)) (cx 5 (by rfl))) Af) (by rfl)) (by decide) (by rfl) (by rfl))) (by rfl))) (Aj D__law_draw (hr.mono (by decide)) rfl (Ao (cx 0 (by rfl)) Af (by rfl)) (by decide) (by rfl) (by rfl)) (λ_ _=>rfl)) (by rfl) (AA (by rfl))) (An (Aw (BL (AC (Bv (BT K (by rfl)) rfl T.b_tuple BQ (Am (cx 2 (by rfl)) (by rfl)) (by decide) (by decide) (by rfl) (by rfl)) (Bv (BT K (by rfl)) rfl T.b_tuple BQ (Am (cx 4 (by rfl)) (by rfl)) (by decide) (by decide) (by rfl) (by rfl)) (BL (AC (cx 5 (by rfl)) (cx 6 (by rfl)) (cx 7 (by rfl)) (by rfl))) (by rfl)))))))))))),?_⟩
 unfold Hg at h
 split at h
 ·rename_i p m
  obtain⟨pn,m1,m4,q⟩:=h
  refine λb hb=>?_
  have nb:b≠p:=pn.ne hb
  refine⟨pn.new hb,by omega,by omega,λg1 H1 a1 b1 e1 pn1=>?_⟩
  have ev1:Ev p H H1:=(Ev.new hb).trans e1
  have hb1:H1 b=some (.lst []):=e1.lst Ah nb
  refine⟨1+g1,rfl,by omega,by omega,CN (n:=(1+g1).toNat) (λi σ H2=>∃t,σ=[some (.ref p),some (.int m),some (.ref b),t,none,none,none,none]/\Filled GoodB p b H H2 i)
   ⟨none,rfl,ev1,pn1,[],[],hb1,.nil,(λ_ h=>nomatch h),rfl⟩ (λi σ H2 hi hP=>?_) fun σ H2 hP=>?_⟩
  ·obtain⟨t,rfl,ev,pn2,xs,ds,hx,rs,gd,hl⟩:=hP
   refine⟨.inl ⟨rfl,_,Al.of hx⟩,λl1 hl1=>⟨pn2.new hl1,by decide,by decide,λg2 H3 a2 b2 e2 pn3=>?_⟩⟩
   obtain⟨v,hv,hat⟩:=DS (ns:=[9,4]) a2 (by simpa using b2)
   have hv':v=9\/v=4:=by simpa using hv
   refine⟨l1,_,g2,.int v,rfl,rfl,Al.of (e2.lst Ah (pn2.ne hl1)),hat,pn3,by omega,by omega,λg3 H4 a3 b3 e3 pn4=>⟨pn4,by decide,by decide,λg4 H5 a4 b4 e4 pn5 t1 ht1=>?_⟩⟩
   have e25:Ev p H2 H5:=(Ev.new hl1).trans (e2.trans (e3.trans e4))
   refine⟨b,xs,.ref t1,rfl,rfl,by rw [As (Bh (e25.lst hx nb) ht1)];exact e25.lst hx nb,Co (by rw [<-rs.len,hl];omega),_,rfl,?_⟩
   exact Filled.step (λd h=>h.nm) hx rs gd hl e25 nb hb (ev.trans e25) pn5 ht1 (Aa.tup Ah (.cons Aa.int (.cons Aa.int .nil))) ⟨1+g3,1+g4,rfl,by omega,by omega,by omega,by omega⟩
  obtain⟨t,rfl,fb⟩:=hP
  refine λe he=>?_
  have ne:e≠p:=fb.pen.ne he
  have hne:H e=none:=by
   cases z:H e with
   | none=>rfl
   | some o=>exact((fb.ev e o z).elim (fun⟨x,_⟩=>absurd x ne) λx=>by rw [x] at he;cases he)
  have neb:e≠b:=by
   obtain⟨xs,ds,h1,_⟩:=fb.ex
   exact Ne.symm (Bh h1 he)
  refine⟨fb.pen.new he,by decide,by decide,λg6 H3 a6 b6 e6 pn3=>?_⟩
  have fb3:Filled GoodB p b H H3 (1+g1).toNat:=⟨fb.ev.trans ((Ev.new he).trans e6),pn3,fb.done nb ((Ev.new he).trans e6)⟩
  refine⟨g6,rfl,by omega,by omega,CN (n:=g6.toNat) (λi σ H4=>∃t,σ=[some (.ref p),some (.int m),some (.ref b),t,some (.ref e),none,none,none]/\Filled GoodB p b H H4 (1+g1).toNat/\Filled GoodE p e H H4 i)
   ⟨_,rfl,fb3,fb3.ev,pn3,[],[],e6.lst Ah ne,.nil,(λ_ h=>nomatch h),rfl⟩ (λi σ H4 hi hP=>?_) fun σ H4 hP=>?_⟩
  ·obtain⟨t,rfl,fb4,ev,pn2,xs,ds,hx,rs,gd,hl⟩:=hP
   refine⟨.inl ⟨rfl,_,Al.of hx⟩,λl1 hl1=>⟨pn2.new hl1,by decide,by decide,λg7 H5 a7 b7 e7 pn5=>?_⟩⟩
   obtain⟨v,hv,hat⟩:=DS (ns:=[3,9]) a7 (by simpa using b7)
   have hv':v=3\/v=9:=by simpa using hv
   refine⟨l1,_,g7,.int v,rfl,rfl,Al.of (e7.lst Ah (pn2.ne hl1)),hat,pn5,by omega,by omega,λg8 H6 a8 b8 e8 pn6=>⟨pn6,by decide,by decide,λg9 H7 a9 b9 e9 pn7=>⟨pn7,by decide,by decide,λg10 H8 a10 b10 e10 pn8 t1 ht1=>?_⟩⟩⟩
   have e48:Ev p H4 H8:=(Ev.new hl1).trans (e7.trans (e8.trans (e9.trans e10)))
   have he8:=e48.lst hx ne
   refine⟨e,xs,.ref t1,rfl,rfl,by rw [As (Bh he8 ht1)];exact he8,Co (by rw [<-rs.len,hl];omega),_,rfl,?_,?_⟩
   ·exact Filled.other (λd h=>h.nm) fb4 e48 ht1 he8 hne nb (Ne.symm neb) ne pn8
   ·exact Filled.step (λd h=>h.nm) hx rs gd hl e48 ne hne (ev.trans e48) pn8 ht1 (Aa.tup Ah (.cons Aa.int (.cons Aa.int (.cons Aa.int .nil)))) ⟨1+g8,g9,1+g10,rfl,by omega,by omega,by omega,by omega,by omega,by omega⟩
  obtain⟨t,rfl,fb4,fe4⟩:=hP
  have pn4:=fb4.pen
  refine⟨pn4,by decide,by decide,λg7 H5 a7 b7 e7 pn5=>⟨pn5,by decide,by decide,λg8 H6 a8 b8 e8 pn6 l1 hl1=>⟨pn6.new hl1,by decide,by decide,λg9 H7 a9 b9 e9 pn7=>?_⟩⟩⟩
  obtain⟨low,hlow,hat⟩:=DS (ns:=[0,0,g7,g8]) a9 (by simpa using b9)
  have hlow':low=0\/low=0\/low=g7\/low=g8:=by simpa using hlow
  refine⟨l1,_,g9,.int low,rfl,rfl,Al.of (e9.lst Ah (pn6.ne hl1)),hat,pn7,by decide,by decide,λg10 H8 a10 b10 e10 pn8=>⟨pn8,by decide,by decide,λg11 H9 a11 b11 e11 pn9 l2 hl2=>⟨pn9.new hl2,by decide,by decide,λg12 H10 a12 b12 e12 pn10=>?_⟩⟩⟩
  obtain⟨x,hx,hat2⟩:=DS (ns:=[0,g10,g11,40]) a12 (by simpa using b12)
  have hx':x=0\/x=g10\/x=g11\/x=40:=by simpa using hx
  refine⟨l2,_,g12,.int x,rfl,rfl,Al.of (e12.lst Ah (pn9.ne hl2)),hat2,40,low+x,rfl,?_⟩
  have hhi:∃hi:Int,(if low+x<40 then low+x else 40)=hi/\low<=hi/\hi<=40:=by
   by_cases c:low+x<40
   ·exact⟨low+x,if_pos c,by omega,by omega⟩
   ·exact⟨40,if_neg c,by omega,by omega⟩
  obtain⟨hi,ehi,hi1,hi2⟩:=hhi
  rw [ehi]
  refine⟨pn10,by omega,by omega,λg13 H11 a13 b13 e13 pn11 l3 hl3=>⟨pn11.new hl3,by decide,by decide,λg14 H12 a14 b14 e14 pn12=>?_⟩⟩
  obtain⟨st,hst,hat3⟩:=DS (ns:=[low,hi,low+g13]) a14 (by simpa using b14)
  have hst':st=low\/st=hi\/st=low+g13:=by simpa using hst
  refine⟨l3,_,g14,.int st,rfl,rfl,Al.of (e14.lst Ah (pn11.ne hl3)),hat3,?_⟩
  have e4C:Ev p H4 H12:=e7.trans (e8.trans ((Ev.new hl1).trans (e9.trans (e10.trans (e11.trans ((Ev.new hl2).trans (e12.trans (e13.trans ((Ev.new hl3).trans e14)))))))))
  obtain⟨xs,bs,hb8,rb8,gb,lb⟩:=fb4.done nb e4C
  obtain⟨ys,es,he8,re8,ge,le⟩:=fe4.done ne e4C
  refine⟨b,xs,rfl,.inl ⟨Al.of hb8,λc1 hc1=>⟨e,ys,rfl,.inl ⟨Al.of (by rw [As (Bh he8 hc1)];exact he8),λc2 hc2 c3 hc3 c4 hc4=>?_⟩⟩⟩⟩
  have nA:=Ab.new (o:= .tup xs) hc1
  have nB:=Ab.new (o:= .tup ys) hc2
  have nC:=Ab.new (o:= .tup [.int low,.int hi,.int st]) hc3
  have nD:=Ab.new (o:= .tup [.ref c1,.ref c2,.ref c3]) hc4
  have sAll:=nA.trans (nB.trans (nC.trans nD))
  refine q _ _ bs es low hi st ⟨gb,by omega,by omega,ge,by omega,by omega,by omega,by omega,hi2⟩ ?_ (fb4.ev.trans (e4C.trans (Ev.same sAll))) (pn12.same sAll)
  exact Aa.tup Ah (.cons (Aa.tup ((nB.trans (nC.trans nD)) _ _ Ah) (Ac.ev (Ev.same sAll) _ _ rb8)) (.cons (Aa.tup ((nC.trans nD) _ _ Ah) (Ac.ev (Ev.same sAll) _ _ re8)) (.cons (Aa.tup (nD _ _ Ah) (.cons Aa.int (.cons Aa.int (.cons Aa.int .nil)))) .nil)))
 ·exact h.elim
end
end MF
end
section
namespace MF
open PySem PySem.Spec PyProof.Rows L2
variable {p : Addr} {H : Hp} {v : V}
theorem Cp {i lo hi:Int} (h1:lo<=i) (h2:i<=hi):Bs (.int i) lo hi=true:=by unfold Bs;dsimp only;rw [decide_eq_true h1,decide_eq_true h2];rfl
theorem EQ {ds:List PyData}{lo hi:Int} (h1:lo<=(ds.length:Int)) (h2:(ds.length:Int)<=hi):Bg (.tuple ds) lo hi=true:=by unfold Bg;dsimp only;rw [decide_eq_true h1,decide_eq_true h2];rfl
theorem R8 {P:PL} (h:P.ok):EL P.d=true:=by
 have b1:=h.b1
 have b4:=h.b4
 have e4:=h.e4
 have hb:EJ (.tuple (P.bs.map bD))=true:=by
  unfold EJ
  dsimp only
  rw [EQ (by rw [List.length_map];omega) (by rw [List.length_map];omega),Bool.true_and,List.all_eq_true]
  intro d hd
  obtain⟨q,hq,rfl⟩:=List.mem_map.mp hd
  obtain⟨q1,q2,q3,q4⟩:=h.b q hq
  unfold Eh
  dsimp only
  rw [Cp q1 q2,Cp q3 q4];rfl
 have he:EK (.tuple (P.es.map eD))=true:=by
  unfold EK
  dsimp only
  rw [EQ (by rw [List.length_map];omega) (by rw [List.length_map];omega),Bool.true_and,List.all_eq_true]
  intro d hd
  obtain⟨q,hq,rfl⟩:=List.mem_map.mp hd
  obtain⟨q1,q2,q3,q4,q5,q6⟩:=h.e q hq
  unfold DR
  dsimp only
  rw [Cp q1 q2,Cp q3 q4,Cp q5 q6];rfl
 have h0:=h.lo0
 have h1:=h.ls
 have h2:=h.sh
 have h3:=h.h4
 have hm:Ei (.tuple [.int P.lo,.int P.hi,.int P.st])=true:=by
  unfold Ei
  dsimp only
  rw [Cp (by omega) h3,Cp (by omega) h2,Cp h0 h1];rfl
 unfold EL PL.d
 dsimp only
 rw [hb,he,hm];rfl
def Hh:Sp:=λvs H Q _=>match vs with | [v]=>∃p P,PL.ok P/\Aa p H P.d v/\∀H',Ab H H'->Q .non H' | _=>False
def Hi:Sp:=λvs H Q _=>match vs with | [v,.int nb,.int hs]=>∃p x n h,FT.ok x n h/\nb=(n:Int)/\hs=(h:Int)/\Aa p H x.d v/\∀H',Ab H H'->Q (.bl true) H' | _=>False
def Hj:Sp:=λvs H Q _=>match vs with | [v,u]=>∃p P S,PL.ok P/\SY.ok S P.bs.length/\Aa p H P.d v/\Aa p H S.d u/\∀H',Ab H H'->Q (.bl true) H' | _=>False
def Fv:Sp:=λvs H Q _=>match vs with | [v,u]=>∃p P S,PL.ok P/\SY.ok S P.bs.length/\Aa p H P.d v/\Aa p H S.d u/\∀H',Ab H H'->Q .non H' | _=>False
def Hk:Sp:=λvs H Q _=>match vs with | [.ref a,.int m]=>∃ws:List Bool,H a=some (.lst (ws.map wV))/\∀H',Ab H H'->Q (.int (BY ws m)) H' | _=>False
def Hl:Sp:=λvs H Q _=>match vs with | [v,.int b,.int h]=>∃p fs,Aa p H (.tuple (fs.map FT.d)) v/\fs.length<=1000/\∀a H',Ab H H'->H' a=some (.lst ((BF fs b h).map wV))->Q (.ref a) H' | _=>False
def Hm:Sp:=λvs H Q _=>match vs with | [v,u,.int h]=>∃p bs fs,Aa p H (.tuple (bs.map bD)) v/\Aa p H (.tuple (fs.map FT.d)) u/\bs.length<=1000/\fs.length<=1000/\ret H Q p (AN (AS bs fs h)) | _=>False
def Fw:Sp:=λvs H Q _=>match vs with | [v,u]=>∃p P S,PL.ok P/\SY.ok S P.bs.length/\Aa p H P.d v/\Aa p H S.d u/\ret H Q p (IQ P S) | _=>False
def Hn:Sp:=λvs H Q _=>match vs with | [v,.int h]=>∃p q,Aa p H (eD q) v/\1<=q.2.2/\Q (.int (drawn q h)) H | _=>False
def Fx:Sp:=λvs H Q _=>match vs with | [v,u]=>∃p P S,PL.ok P/\SY.ok S P.bs.length/\Aa p H P.d v/\Aa p H S.d u/\ret H Q p (IR P S) | _=>False
theorem Aa.plant {P:PL} (r:Aa p H P.d v):∃A B E M xb xe,v= .ref A/\H A=some (.tup [.ref B,.ref E,.ref M])/\H B=some (.tup xb)/\Ac p H (P.bs.map bD) xb/\H E=some (.tup xe)/\Ac p H (P.es.map eD) xe/\H M=some (.tup [.int P.lo,.int P.hi,.int P.st]):=by
 unfold PL.d at r
 obtain⟨A,xs,rfl,hA,rs⟩:=Aa.shape r
 obtain⟨x,y,z,rfl,rx,ry,rz⟩:=Ac.three rs
 obtain⟨B,xb,rfl,hB,rb⟩:=Aa.shape rx
 obtain⟨E,xe,rfl,hE,re⟩:=Aa.shape ry
 obtain⟨M,xm,rfl,hM,rm⟩:=Aa.shape rz
 obtain⟨m1,m2,m3,rfl,r1,r2,r3⟩:=Ac.three rm
 unfold Aa at r1 r2 r3
 subst r1 r2 r3
 exact⟨A,B,E,M,xb,xe,rfl,hA,hB,rb,hE,re,hM⟩
theorem Aa.story {S:SY} (r:Aa p H S.d v):∃A B E xf,v= .ref A/\H A=some (.tup [.ref B,.ref E])/\H B=some (.tup (S.ex.map V.int))/\H E=some (.tup xf)/\Ac p H (S.fs.map FT.d) xf:=by
 unfold SY.d at r
 obtain⟨A,xs,rfl,hA,rs⟩:=Aa.shape r
 obtain⟨x,y,rfl,rx,ry⟩:=Ac.two rs
 obtain⟨B,xb,rfl,hB,rb⟩:=Aa.shape rx
 obtain⟨E,xe,rfl,hE,re⟩:=Aa.shape ry
 rw [Ac.ints rb] at hB
 exact⟨A,B,E,xe,rfl,hA,hB,hE,re⟩
section
variable {P : Program} {w : World} {K : PySem.W.Frag} {mg : Str -> Option Value} {base : Heap}
theorem R9:AB ["plant"] ["plant"] (Au s_need_plant):=AG
theorem Sa (F:Df K mg "need_plant" s_need_plant ["plant"]) (T:Tx mg) (D_is_plant:Fn P w K mg base 5 "is_plant" ["thing"] G9):Fn P w K mg base 6 "need_plant" ["plant"] Hh:=by
 refine F.fn R9 (λvs H Q E h=>?_) (λf cdv A outer s H vs Q E hr h=>?_)
 ·unfold Hh at h;split at h;rfl;exact h.elim
 refine⟨_,(An (A9 (Ca (BP (Aj D_is_plant (hr.mono (by decide)) rfl (Am (cx 0 (by rfl)) (by rfl)) (by decide) (by rfl) (by rfl)) (by intro _;rfl))) (An El) A8)),?_⟩
 unfold Hh at h
 split at h
 ·rename_i v
  obtain⟨p,P,ok,r,q⟩:=h
  refine⟨p,_,r,λb H' hb s=>⟨λc=>?_,λc=>q H' s⟩⟩
  rw [hb,R8 ok] at c
  cases c
 ·exact h.elim
theorem sc_is_fault:AB ["thing","boilers","hours","boiler","word","first","last"] ["thing","boilers","hours"] (Au s_is_fault):=AG
theorem Sb (F:Df K mg "is_fault" s_is_fault ["thing","boilers","hours"]) (T:Tx mg) (D_is_tuple_of:Dc P w K mg base) (D_is_whole_from:Dx P w K mg base):Fn P w K mg base 3 "is_fault" ["thing","boilers","hours"] Hi:=by
 refine F.fn sc_is_fault (λvs H Q E h=>?_) (λf cdv A outer s H vs Q E hr h=>?_)
 ·unfold Hi at h;split at h;rfl;exact h.elim
 refine⟨_,(Ai (A9 (Ca (BP (Aj D_is_tuple_of (hr.mono (by decide)) rfl (AC (cx 0 (by rfl)) Af Af (by rfl)) (by decide) (by rfl) (by rfl)) (by intro _;rfl))) (An (Aw Ch)) A8) (Ai (Bl (cx 0 (by rfl)) (AL K (n:=4) (Ak (Ag 3 sc_is_fault.nd (by rfl)) (Ak (Ag 4 sc_is_fault.nd (by rfl)) (Ak (Ag 5 sc_is_fault.nd (by rfl)) (Ak (Ag 6 sc_is_fault.nd (by rfl)) AK (by rfl)) (by rfl)) (by rfl)) (by rfl)) (by rfl) (by rfl) (by rfl) (by rfl)) (by rfl) (by rfl) (by rfl)) (An (Aw (BK (Aj D_is_whole_from (hr.mono (by decide)) rfl (AC (cx 3 (by rfl)) Af (At BE (cx 1 (by rfl)) Af) (by rfl)) (by decide) (by rfl) (by rfl)) (BK (Cr (EB K (by rfl)) (cx 4 (by rfl)) (BL (Ao DD DD (by rfl))) (by with_unfolding_all rfl)) (BK (Aj D_is_whole_from (hr.mono (by decide)) rfl (AC (cx 6 (by rfl)) Af (At BE (cx 2 (by rfl)) Af) (by rfl)) (by decide) (by rfl) (by rfl)) (CC (Aj D_is_whole_from (hr.mono (by decide)) rfl (AC (cx 5 (by rfl)) Af (cx 6 (by rfl)) (by rfl)) (by decide) (by rfl) (by rfl)))))))))),?_⟩
 unfold Hi at h
 split at h
 ·rename_i v nb hs
  obtain⟨p,x,n,k,ok,rfl,rfl,r,q⟩:=h
  obtain⟨o1,o2,o3,o4,o5⟩:=ok
  refine⟨p,_,r,λb hb=>⟨λc=>?_,λc=>?_⟩⟩
  ·rw [hb] at c;cases c
  ·obtain⟨l,xs,rfl,hl,rs⟩:=Aa.shape r
   obtain⟨y1,y2,y3,y4,rfl,r1,r2,r3,r4⟩:=Ac.four rs
   unfold Aa at r1 r2 r3 r4
   subst r1 r2 r3 r4
   refine⟨l,_,rfl,Ae.of hl,rfl,_,_,rfl,_,_,rfl,_,_,rfl,_,_,rfl,rfl,p,.int x.b,Aa.int,λb1 e1=>⟨λ_=>?_,λc1=>?_⟩⟩
   ·refine λt ht=>⟨t,_,rfl,.inr (Ae.of Ah),rfl,rfl,⟨λ_=>?_,λc2=>?_⟩⟩
    ·refine⟨p,.int x.l,Aa.int,λb2 e2=>⟨λ_=>⟨p,.int x.f,Aa.int,λb3 e3=>?_⟩,λc2=>?_⟩⟩
     ·rw [Cp o3 o4] at e3
      subst e3
      exact q _ (Ab.new ht)
     ·rw [Cp (by omega) (by omega)] at e2
      rw [e2] at c2;cases c2
    ·rw [if_neg (by decide)] at c2
     have:=Pq x.out
     unfold wV at this
     rw [this] at c2;cases c2
   ·rw [Cp o1 (by omega)] at e1
    rw [e1] at c1;cases c1
 ·exact h.elim
theorem sc_is_story:AB ["plant","thing","extra","faults"] ["plant","thing"] (Au s_is_story):=AG
theorem Sc (F:Df K mg "is_story" s_is_story ["plant","thing"]) (T:Tx mg) (D_is_fault:Fn P w K mg base 3 "is_fault" ["thing","boilers","hours"] Hi) (D_is_tuple_of:Dc P w K mg base) (D_is_whole_from:Dx P w K mg base) (D_need_plant:Fn P w K mg base 6 "need_plant" ["plant"] Hh):Fn P w K mg base 7 "is_story" ["plant","thing"] Hj:=by
 obtain⟨t_MOST_EXTRA,g_MOST_EXTRA⟩:=T.g_MOST_EXTRA
 obtain⟨t_MOST_FAULTS,g_MOST_FAULTS⟩:=T.g_MOST_FAULTS
 obtain⟨t_MOST_HOURS,g_MOST_HOURS⟩:=T.g_MOST_HOURS
 refine F.fn sc_is_story (λvs H Q E h=>?_) (λf cdv A outer s H vs Q E hr h=>?_)
 ·unfold Hj at h;split at h;rfl;exact h.elim
 refine⟨_,(Ai (Bq (Aj D_need_plant (hr.mono (by decide)) rfl (Am (cx 0 (by rfl)) (by rfl)) (by decide) (by rfl) (by rfl)) (by rfl)) (Ai (A9 (Ca (BP (Aj D_is_tuple_of (hr.mono (by decide)) rfl (AC (cx 1 (by rfl)) Af Af (by rfl)) (by decide) (by rfl) (by rfl)) (by intro _;rfl))) (An (Aw Ch)) A8) (Ai (Bl (cx 1 (by rfl)) (AL K (n:=2) (Ak (Ag 2 sc_is_story.nd (by rfl)) (Ak (Ag 3 sc_is_story.nd (by rfl)) AK (by rfl)) (by rfl)) (by rfl) (by rfl) (by rfl) (by rfl)) (by rfl) (by rfl) (by rfl)) (An (Aw (BK (Aj D_is_tuple_of (hr.mono (by decide)) rfl (AC (cx 2 (by rfl)) Af (CV (v:= .int 8) rfl g_MOST_HOURS ⟨t_MOST_HOURS,rfl⟩ (by decide)) (by rfl)) (by decide) (by rfl) (by rfl)) (BK (AE (Ez rfl) rfl T.b_all boot_all (Am (Bw ["units"] [none] rfl (Cf K (cx 2 (by rfl)) (by rfl)) (AQ.of rfl) (λ_ _ _ _=>(Ag 0 (AJ (by rfl)) (by rfl))) (λ_ _ _ _=>Br) (λ_ _ _ _=>(Aj D_is_whole_from (hr.mono (by decide)) rfl (AC (cx 0 (by rfl)) Af (CV (v:= .int 20) rfl g_MOST_EXTRA ⟨t_MOST_EXTRA,rfl⟩ (by decide)) (by rfl)) (by decide) (by rfl) (by rfl))) (by intro _;rfl)) (by rfl)) (by decide) (by decide) (by rfl) (by rfl)) (BK (Aj D_is_tuple_of (hr.mono (by decide)) rfl (AC (cx 3 (by rfl)) Af (CV (v:= .int 4) rfl g_MOST_FAULTS ⟨t_MOST_FAULTS,rfl⟩ (by decide)) (by rfl)) (by decide) (by rfl) (by rfl)) (CC (AE (Ez rfl) rfl T.b_all boot_all (Am (Bw ["part","extra","plant"] [none,some 2,some 0] rfl (Cf K (cx 3 (by rfl)) (by rfl)) (AQ.of rfl) (λ_ _ _ _=>(Ag 0 (AJ (by rfl)) (by rfl))) (λ_ _ _ _=>Br) (λ_ _ _ _=>(Aj D_is_fault (hr.mono (by decide)) rfl (AC (cx 0 (by rfl)) (AE (Bx K (by rfl)) rfl T.b_len PySem.boot_len (Am (AF (AW K (by rfl)) (cx 2 (by rfl)) Af (λ_ _=>rfl)) (by rfl)) (by decide) (by decide) (by rfl) (by rfl)) (AE (Bx K (by rfl)) rfl T.b_len PySem.boot_len (Am (cx 1 (by rfl)) (by rfl)) (by decide) (by decide) (by rfl) (by rfl)) (by rfl)) (by decide) (by rfl) (by rfl))) (by intro _;rfl)) (by rfl)) (by decide) (by decide) (by rfl) (by rfl))))))))))),?_⟩
 unfold Hj at h
 split at h
 ·rename_i v u
  obtain⟨p,P,S,ok,so,r,ru,q⟩:=h
  refine⟨p,P,ok,r,λH1 s1=>⟨p,S.d,Aa.ev (Ev.same s1) _ _ ru,λb hb=>⟨λc=>?_,λc=>?_⟩⟩⟩
  ·rw [hb] at c;cases c
  ·obtain⟨A,B,E,xf,rfl,hA,hB,hE,rf⟩:=Aa.story (Aa.ev (Ev.same s1) _ _ ru)
   obtain⟨PA,PB,PE,PM,xb,xe,rfl,pA,pB,rb,pE,re,pM⟩:=Aa.plant (Aa.ev (Ev.same s1) _ _ r)
   have x1:=so.x1
   have x8:=so.x8
   have f4:=so.f4
   have lf:=rf.len
   rw [List.length_map] at lf
   have lb:=rb.len
   rw [List.length_map] at lb
   refine⟨A,_,rfl,Ae.of hA,rfl,_,_,rfl,_,_,rfl,rfl,p,_,Aa.row hB,λb1 e1=>⟨λ_=>?_,λc1=>?_⟩⟩
   ·refine⟨B,rfl,⟨_,Ae.of hB⟩,Cm (xs:=S.ex.map V.int) (λi ys H'=>Ab H1 H'/\ys=List.replicate i (V.bl true)) (by rw [List.length_map];omega) ⟨Ab.refl _,rfl⟩ (λi ys H' h=>by rw [h.2,List.length_replicate];omega) (λi ys H' _ h=>Ae.of (h.1 _ _ hB)) (λi x ys H' hx h=>?_) λys H' h=>?_⟩
    ·rw [List.getElem?_map] at hx
     cases z:S.ex[i]? with
     | none=>rw [z] at hx;cases hx
     | some n=>
      rw [z] at hx
      cases hx
      obtain⟨n0,n20⟩:=so.x n (List.mem_of_getElem? z)
      refine⟨trivial,λ_=>⟨p,.int n,Aa.int,λb e=>⟨h.1,?_⟩⟩,λc=>by cases c⟩
      rw [Cp n0 n20] at e
      rw [h.2,e,List.replicate_succ']
    ·intro m hm
     refine⟨m,List.replicate S.ex.length true,rfl,by rw [Ah,h.2,List.length_map,List.map_replicate],⟨λ_=>?_,λc=>?_⟩⟩
     ·have s2:Ab H1 (upd H' m (.lst ys)):=h.1.trans (Ab.new hm)
      refine⟨p,_,Aa.tup (s2 _ _ hE) (Ac.ev (Ev.same s2) _ _ rf),λb2 e2=>⟨λ_=>?_,λc2=>?_⟩⟩
      ·refine⟨E,rfl,⟨_,Ae.of (s2 _ _ hE)⟩,Cm (xs:=xf) (λi zs H2=>Ab H1 H2/\zs=List.replicate i (V.bl true)) (by omega) ⟨s2,rfl⟩ (λi ys H' h=>by rw [h.2,List.length_replicate];omega) (λi ys H' _ h=>Ae.of (h.1 _ _ hE)) (λi x zs H2 hx h2=>?_) λzs H2 h2=>?_⟩
       ·obtain⟨f,hf,rd⟩:=Ac.mapGot rf hx
        refine⟨⟨rfl,rfl,trivial⟩,λ_=>?_,λc=>by cases c⟩
        refine⟨PA,_,0,.ref PB,rfl,rfl,Ae.of (h2.1 _ _ pA),rfl,PB,xb,rfl,.inr (Ae.of (h2.1 _ _ pB)),B,_,rfl,.inr (Ae.of (h2.1 _ _ hB)),?_⟩
        refine⟨p,f,P.bs.length,S.ex.length,so.f f (List.mem_of_getElem? hf),by rw [lb],by rw [List.length_map],Aa.ev (Ev.same h2.1) _ _ rd,λH3 s3=>⟨h2.1.trans s3,?_⟩⟩
        rw [h2.2,List.replicate_succ']
       ·intro m2 hm2
        refine⟨m2,List.replicate xf.length true,rfl,by rw [Ah,h2.2,List.map_replicate],?_⟩
        have ea:(List.replicate xf.length true).all id=true:=by simp
        rw [ea]
        exact q _ (s1.trans (h2.1.trans (Ab.new hm2)))
      ·rw [EQ (by rw [List.length_map];omega) (by rw [List.length_map];omega)] at e2
       rw [e2] at c2;cases c2
     ·have ea:(List.replicate S.ex.length true).all id=true:=by simp
      rw [ea] at c;cases c
   ·rw [EQ (by rw [List.length_map];omega) (by rw [List.length_map];omega)] at e1
    rw [e1] at c1;cases c1
 ·exact h.elim
theorem Sd:AB ["plant","story"] ["plant","story"] (Au s_need_story):=AG
theorem Se (F:Df K mg "need_story" s_need_story ["plant","story"]) (T:Tx mg) (D_is_story:Fn P w K mg base 7 "is_story" ["plant","thing"] Hj):Fn P w K mg base 8 "need_story" ["plant","story"] Fv:=by
 refine F.fn Sd (λvs H Q E h=>?_) (λf cdv A outer s H vs Q E hr h=>?_)
 ·unfold Fv at h;split at h;rfl;exact h.elim
 refine⟨_,(An (A9 (Ca (BP (Aj D_is_story (hr.mono (by decide)) rfl (Ao (cx 0 (by rfl)) (cx 1 (by rfl)) (by rfl)) (by decide) (by rfl) (by rfl)) (by intro _;rfl))) (An El) A8)),?_⟩
 unfold Fv at h
 split at h
 ·rename_i v u
  obtain⟨p,P,S,ok,so,r,ru,q⟩:=h
  exact⟨p,P,S,ok,so,r,ru,λH' s=>⟨λc=>(by cases c),λc=>q H' s⟩⟩
 ·exact h.elim
theorem Sf:AB ["words","make"] ["words","make"] (Au s_cap_under):=AG
theorem Sg (F:Df K mg "cap_under" s_cap_under ["words","make"]) (T:Tx mg)  :Fn P w K mg base 1 "cap_under" ["words","make"] Hk:=by
 refine F.fn Sf (λvs H Q E h=>?_) (λf cdv A outer s H vs Q E hr h=>?_)
 ·unfold Hk at h;split at h;rfl;exact h.elim
 refine⟨_,(Ai (A9 (AU (EB K (by rfl)) DD (cx 0 (by rfl)) (by with_unfolding_all rfl)) (An (Aw Af)) A8) (Ai (A9 (AU (EB K (by rfl)) DD (cx 0 (by rfl)) (by with_unfolding_all rfl)) (An (Aw (At Gp (cx 1 (by rfl)) Af))) A8) (An (Aw (cx 1 (by rfl)))))),?_⟩
 unfold Hk at h
 split at h
 ·rename_i a m
  obtain⟨ws,ha,q⟩:=h
  refine⟨a,_,rfl,.inl (Al.of ha),rfl,Gv,⟨λc=>?_,λc=>?_⟩⟩
  ·rw [if_neg (by decide),Gu] at c
   have e:BY ws m=0:=by unfold BY;rw [if_pos c]
   rw [e] at q
   exact q _ (Ab.refl _)
  ·rw [if_neg (by decide),Gu] at c
   refine⟨a,_,rfl,.inl (Al.of ha),rfl,Gv,⟨λc2=>?_,λc2=>?_⟩⟩
   ·rw [if_neg (by decide),IU] at c2
    have e:BY ws m=m / 2:=by unfold BY;rw [if_neg (by rw [c];decide),if_pos c2]
    rw [e] at q
    exact⟨⟨by decide,by decide⟩,q _ (Ab.refl _)⟩
   ·rw [if_neg (by decide),IU] at c2
    have e:BY ws m=m:=by unfold BY;rw [if_neg (by rw [c];decide),if_neg (by rw [c2];decide)]
    rw [e] at q
    exact q _ (Ab.refl _)
 ·exact h.elim
theorem Sh:AB ["faults","boiler","hour"] ["faults","boiler","hour"] (Au s_words_for):=AG
theorem Si (F:Df K mg "words_for" s_words_for ["faults","boiler","hour"]) (T:Tx mg)  :Fn P w K mg base 1 "words_for" ["faults","boiler","hour"] Hl:=by
 refine F.fn Sh (λvs H Q E h=>?_) (λf cdv A outer s H vs Q E hr h=>?_)
 ·unfold Hl at h;split at h;rfl;exact h.elim
 refine⟨_,(An (Aw (Bw ["at","word","first","last","boiler","hour"] [none,none,none,none,some 1,some 2] rfl (Cf K (cx 0 (by rfl)) (by rfl)) (AQ.of rfl) (λ_ _ _ _=>(AL K (n:=4) (Ak (Ag 0 (AJ (by rfl)) (by rfl)) (Ak (Ag 1 (AJ (by rfl)) (by rfl)) (Ak (Ag 2 (AJ (by rfl)) (by rfl)) (Ak (Ag 3 (AJ (by rfl)) (by rfl)) AK (by rfl)) (by rfl)) (by rfl)) (by rfl)) (by rfl) (by rfl) (by rfl) (by rfl))) (λ_ _ _ _=>(DH (PW.pt (Fh (AU Ep (cx 0 (by rfl)) (cx 4 (by rfl)) (AO _)) (FV (OU DM DM (cx 2 (by rfl)) (cx 5 (by rfl)) (cx 3 (by rfl)) (by with_unfolding_all rfl))))))) (λ_ _ _ _=>(cx 1 (by rfl))) (by intro _;rfl)))),?_⟩
 unfold Hl at h
 split at h
 ·rename_i v b hr'
  obtain⟨p,fs,r,hl,q⟩:=h
  obtain⟨A,xs,rfl,hA,rs⟩:=Aa.shape r
  have ln:=rs.len
  rw [List.length_map] at ln
  refine⟨A,rfl,⟨xs,Ae.of hA⟩,Cm (xs:=xs) (λi ys H'=>Ab H H'/\ys=(BF (fs.take i) b hr').map wV) (by omega) ⟨Ab.refl _,rfl⟩ (λi ys H' h=>?_) (λi ys H' _ h=>Ae.of (h.1 _ _ hA)) (λi x ys H' hx h=>?_) λys H' h=>?_⟩
  ·rw [h.2,List.length_map]
   unfold BF
   rw [List.length_map]
   exact Nat.le_trans (List.length_filter_le _ _) (by rw [List.length_take];omega)
  ·obtain⟨f,hf,rd⟩:=Ac.mapGot rs hx
   obtain⟨l,zs,rfl,hl',rz⟩:=Aa.shape (Aa.ev (Ev.same h.1) _ _ rd)
   obtain⟨y1,y2,y3,y4,rfl,r1,r2,r3,r4⟩:=Ac.four rz
   unfold Aa at r1 r2 r3 r4
   subst r1 r2 r3 r4
   have nx:=KW (b:=b) (h:=hr') hf
   have no:Cn b hr' f=false->Ab H H'/\ys=(BF (fs.take (i+1)) b hr').map wV:=λe=>⟨h.1,by rw [nx,e,if_neg (by decide)];exact h.2⟩
   refine⟨l,_,rfl,Ae.of hl',rfl,_,_,rfl,_,_,rfl,_,_,rfl,_,_,rfl,rfl,⟨rfl,rfl,trivial⟩,rfl,⟨λc1=>⟨λc2=>⟨λc3=>?_,λc3=>no ?_⟩,λc2=>⟨λz=>(by cases z),λ_=>no ?_⟩⟩,λc1=>⟨λz=>(by cases z),λ_=>no ?_⟩⟩⟩
   ·have e:Cn b hr' f=true:=by
     rw [DG] at c1
     unfold Cn;rw [c1,c2,c3];rfl
    refine⟨h.1,?_⟩
    rw [nx,if_pos e,List.map_append,h.2];rfl
   ·unfold Cn;rw [c3,Bool.and_false]
   ·unfold Cn;rw [c2,Bool.and_false,Bool.false_and]
   ·rw [DG] at c1
    unfold Cn;rw [c1,Bool.false_and,Bool.false_and]
  ·intro m hm
   refine q m _ (h.1.trans (Ab.new hm)) ?_
   rw [Ah,h.2,List.take_of_length_le (by omega)]
 ·exact h.elim
theorem Sj:AB ["boilers","faults","hour"] ["boilers","faults","hour"] (Au s_caps_in):=AG
theorem Sk (F:Df K mg "caps_in" s_caps_in ["boilers","faults","hour"]) (T:Tx mg) (D_cap_under:Fn P w K mg base 1 "cap_under" ["words","make"] Hk) (D_words_for:Fn P w K mg base 1 "words_for" ["faults","boiler","hour"] Hl):Fn P w K mg base 2 "caps_in" ["boilers","faults","hour"] Hm:=by
 refine F.fn Sj (λvs H Q E h=>?_) (λf cdv A outer s H vs Q E hr h=>?_)
 ·unfold Hm at h;split at h;rfl;exact h.elim
 refine⟨_,(An (Aw (Bv (BT K (by rfl)) rfl T.b_tuple BQ (Am (Bw ["at","make","coal","faults","hour"] [none,none,none,some 1,some 2] rfl (DN P w K rfl T.b_enumerate (Am (cx 0 (by rfl)) (by rfl)) (by rfl) (by rfl) (by rfl) (by rfl)) (AQ.of rfl) (λ_ _ _ _=>(AL K (n:=2) (Ak (Ag 0 (AJ (by rfl)) (by rfl)) (Ak (AL K (n:=2) (Ak (Ag 1 (AJ (by rfl)) (by rfl)) (Ak (Ag 2 (AJ (by rfl)) (by rfl)) AK (by rfl)) (by rfl)) (by rfl) (by rfl) (by rfl) (by rfl)) AK (by rfl)) (by rfl)) (by rfl) (by rfl) (by rfl) (by rfl))) (λ_ _ _ _=>Br) (λ_ _ _ _=>(Aj D_cap_under (hr.mono (by decide)) rfl (Ao (Aj D_words_for (hr.mono (by decide)) rfl (AC (cx 3 (by rfl)) (cx 0 (by rfl)) (cx 4 (by rfl)) (by rfl)) (by decide) (by rfl) (by rfl)) (cx 1 (by rfl)) (by rfl)) (by decide) (by rfl) (by rfl))) (by intro _;rfl)) (by rfl)) (by decide) (by decide) (by rfl) (by rfl)))),?_⟩
 unfold Hm at h
 split at h
 ·rename_i v u hour
  obtain⟨p,bs,fs,r,ru,lb,lf,q⟩:=h
  obtain⟨A,xs,rfl,hA,rs⟩:=Aa.shape r
  have ln:=rs.len
  rw [List.length_map] at ln
  refine⟨A,rfl,⟨xs,Ae.of hA⟩,walk_enum (xs:=xs) (λi ys H'=>Ab H H'/\ys=((AS bs fs hour).take i).map V.int) (by omega) ⟨Ab.refl _,rfl⟩ (λi ys H' h=>by rw [h.2,List.length_map,List.length_take];omega) (λi ys H' h=>Ae.of (h.1 _ _ hA)) (λi x ys H' T hx h hT=>?_) λys H' h=>?_⟩
  ·obtain⟨f,hf,rd⟩:=Ac.mapGot rs hx
   have s2:Ab H (upd H' T (.tup [.int i,x])):=h.1.trans (Ab.new hT)
   obtain⟨l,zs,rfl,hl',rz⟩:=Aa.shape (Aa.ev (Ev.same s2) _ _ rd)
   obtain⟨y1,y2,rfl,r1,r2⟩:=Ac.two rz
   unfold Aa at r1 r2
   subst r1 r2
   refine⟨T,_,rfl,Ae.of Ah,rfl,_,_,rfl,_,_,rfl,l,_,rfl,Ae.of hl',rfl,_,_,rfl,_,_,rfl,rfl,rfl,⟨rfl,rfl,trivial⟩,λ_=>?_,λz=>by cases z⟩
   refine⟨p,fs,Aa.ev (Ev.same s2) _ _ ru,lf,λa H3 s3 ha=>⟨_,ha,λH4 s4=>⟨s2.trans (s3.trans s4),?_⟩⟩⟩
   rw [Be (IS hf),List.map_append,h.2];rfl
  ·intro m hm
   refine⟨m,_,rfl,.inl ⟨Al.of Ah,λt ht=>?_⟩⟩
   refine q _ _ (h.1.trans ((Ab.new hm).trans (Ab.new ht))) (Aa.row ?_)
   rw [Ah,h.2,List.take_of_length_le (by rw [Cu];omega)]
 ·exact h.elim
theorem sc_caps_of:AB ["plant","story","extra","faults"] ["plant","story"] (Au s_caps_of):=AG
theorem Sl (F:Df K mg "caps_of" s_caps_of ["plant","story"]) (T:Tx mg) (D_caps_in:Fn P w K mg base 2 "caps_in" ["boilers","faults","hour"] Hm) (D_need_story:Fn P w K mg base 8 "need_story" ["plant","story"] Fv):Fn P w K mg base 9 "caps_of" ["plant","story"] Fw:=by
 refine F.fn sc_caps_of (λvs H Q E h=>?_) (λf cdv A outer s H vs Q E hr h=>?_)
 ·unfold Fw at h;split at h;rfl;exact h.elim
 refine⟨_,(Ai (Bq (Aj D_need_story (hr.mono (by decide)) rfl (Ao (cx 0 (by rfl)) (cx 1 (by rfl)) (by rfl)) (by decide) (by rfl) (by rfl)) (by rfl)) (Ai (Bl (cx 1 (by rfl)) (AL K (n:=2) (Ak (Ag 2 sc_caps_of.nd (by rfl)) (Ak (Ag 3 sc_caps_of.nd (by rfl)) AK (by rfl)) (by rfl)) (by rfl) (by rfl) (by rfl) (by rfl)) (by rfl) (by rfl) (by rfl)) (An (Aw (Bv (BT K (by rfl)) rfl T.b_tuple BQ (Am (Bw ["hour","faults","plant"] [none,some 3,some 0] rfl (Cb rfl T.b_range (Am (AE (Bx K (by rfl)) rfl T.b_len PySem.boot_len (Am (cx 2 (by rfl)) (by rfl)) (by decide) (by decide) (by rfl) (by rfl)) (by rfl)) (by rfl)) (AQ.of rfl) (λ_ _ _ _=>(Ag 0 (AJ (by rfl)) (by rfl))) (λ_ _ _ _=>Br) (λ_ _ _ _=>(Aj D_caps_in (hr.mono (by decide)) rfl (AC (AF (AW K (by rfl)) (cx 2 (by rfl)) Af (λ_ _=>rfl)) (cx 1 (by rfl)) (cx 0 (by rfl)) (by rfl)) (by decide) (by rfl) (by rfl))) (by intro _;rfl)) (by rfl)) (by decide) (by decide) (by rfl) (by rfl)))))),?_⟩
 unfold Fw at h
 split at h
 ·rename_i v u
  obtain⟨p,P,S,ok,so,r,ru,q⟩:=h
  refine⟨p,P,S,ok,so,r,ru,λH1 s1=>?_⟩
  obtain⟨A,B,E,xf,rfl,hA,hB,hE,rf⟩:=Aa.story (Aa.ev (Ev.same s1) _ _ ru)
  obtain⟨PA,PB,PE,PM,xb,xe,rfl,pA,pB,rb,pE,re,pM⟩:=Aa.plant (Aa.ev (Ev.same s1) _ _ r)
  have x8:=so.x8
  have f4:=so.f4
  have b4:=ok.b4
  refine⟨A,_,rfl,Ae.of hA,rfl,_,_,rfl,_,_,rfl,rfl,B,_,rfl,.inr (Ae.of hB),_,rfl,by omega,by rw [List.length_map];omega,Gh (n:=(S.ex.map V.int).length) (λi ys H'=>Ab H1 H'/\Ac p H' (((caps P S).take i).map AN) ys) (by rw [List.length_map];omega) ⟨Ab.refl _,.nil⟩ (λi ys H' h=>by rw [<-h.2.len,List.length_map,List.length_take];omega) (λi ys H' hi h=>?_) λys H' h=>?_⟩
  ·rw [List.length_map] at hi
   refine⟨⟨rfl,rfl,trivial⟩,λ_=>?_,λz=>by cases z⟩
   refine⟨PA,_,0,.ref PB,rfl,rfl,Ae.of (h.1 _ _ pA),rfl,p,P.bs,S.fs,Aa.tup (h.1 _ _ pB) (Ac.ev (Ev.same h.1) _ _ rb),Aa.tup (h.1 _ _ hE) (Ac.ev (Ev.same h.1) _ _ rf),by omega,by omega,λv2 H2 s2 r2=>⟨h.1.trans s2,?_⟩⟩
   rw [Int.zero_add] at r2
   rw [Be (CI hi),List.map_append]
   exact Ac.snoc (Ac.ev (Ev.same s2) _ _ h.2) r2
  ·intro m hm
   refine⟨m,_,rfl,.inl ⟨Al.of Ah,λt ht=>?_⟩⟩
   have s3:=(Ab.new (o:= .lst ys) hm).trans (Ab.new (o:= .tup ys) ht)
   refine q _ _ (s1.trans (h.1.trans s3)) (Aa.tup Ah ?_)
   have r3:=Ac.ev (Ev.same s3) _ _ h.2
   rw [List.take_of_length_le (by rw [BG,List.length_map];exact Nat.le_refl _)] at r3
   exact r3
 ·exact h.elim
theorem sc_drawn_by:AB ["engine","hour","draw","first","every"] ["engine","hour"] (Au s_drawn_by):=AG
theorem Sm (F:Df K mg "drawn_by" s_drawn_by ["engine","hour"]) (T:Tx mg)  :Fn P w K mg base 1 "drawn_by" ["engine","hour"] Hn:=by
 refine F.fn sc_drawn_by (λvs H Q E h=>?_) (λf cdv A outer s H vs Q E hr h=>?_)
 ·unfold Hn at h;split at h;rfl;exact h.elim
 refine⟨_,(Ai (Bl (cx 0 (by rfl)) (AL K (n:=3) (Ak (Ag 2 sc_drawn_by.nd (by rfl)) (Ak (Ag 3 sc_drawn_by.nd (by rfl)) (Ak (Ag 4 sc_drawn_by.nd (by rfl)) AK (by rfl)) (by rfl)) (by rfl)) (by rfl) (by rfl) (by rfl) (by rfl)) (by rfl) (by rfl) (by rfl)) (Ai (A9 (PW.pt (Fi (AU Ed (cx 1 (by rfl)) (cx 3 (by rfl)) (AO _)) (E1 (AU Di (At Ex (At BE (cx 1 (by rfl)) (cx 3 (by rfl))) (cx 4 (by rfl))) Af (AO _))))) (An (Aw Af)) A8) (An (Aw (cx 2 (by rfl)))))),?_⟩
 unfold Hn at h
 split at h
 ·rename_i v hour
  obtain⟨p,e,r,e1,q⟩:=h
  obtain⟨A,xs,rfl,hA,rs⟩:=Aa.shape r
  obtain⟨y1,y2,y3,rfl,r1,r2,r3⟩:=Ac.three rs
  unfold Aa at r1 r2 r3
  subst r1 r2 r3
  refine⟨A,_,rfl,Ae.of hA,rfl,_,_,rfl,_,_,rfl,_,_,rfl,rfl,⟨λc=>⟨λ_=>?_,λz=>by cases z⟩,λc=>⟨by omega,rfl,⟨λc2=>?_,λc2=>?_⟩⟩⟩⟩
  ·have z:drawn e hour=0:=by unfold drawn;rw [if_pos (.inl (of_decide_eq_true c))]
   rw [z] at q;exact q
  ·have z:drawn e hour=0:=by
    unfold drawn;exact if_pos (.inr λz=>KY c2 (congrArg V.int z))
   rw [z] at q;exact q
  ·have z:drawn e hour=e.1:=by
    unfold drawn;rw [if_neg ?_]
    rintro(z | z)
    ·exact absurd (decide_eq_true z) (by rw [c];decide)
    ·apply z
     have:V.int ((hour-e.2.1) % e.2.2)=V.int 0:=by simpa using c2
     injection this
   rw [z] at q;exact q
 ·exact h.elim
theorem sc_draws_of:AB ["plant","story","engines"] ["plant","story"] (Au s_draws_of):=AG
theorem Sn (F:Df K mg "draws_of" s_draws_of ["plant","story"]) (T:Tx mg) (D_drawn_by:Fn P w K mg base 1 "drawn_by" ["engine","hour"] Hn) (D_need_story:Fn P w K mg base 8 "need_story" ["plant","story"] Fv):Fn P w K mg base 9 "draws_of" ["plant","story"] Fx:=by
 refine F.fn sc_draws_of (λvs H Q E h=>?_) (λf cdv A outer s H vs Q E hr h=>?_)
 ·unfold Fx at h;split at h;rfl;exact h.elim
 refine⟨_,(Ai (Bq (Aj D_need_story (hr.mono (by decide)) rfl (Ao (cx 0 (by rfl)) (cx 1 (by rfl)) (by rfl)) (by decide) (by rfl) (by rfl)) (by rfl)) (Ai (AI (i:=2) sc_draws_of.nd rfl (Az (by rfl)) (AF (AW K (by rfl)) (cx 0 (by rfl)) Af (λ_ _=>rfl)) (by rfl) (AA (by rfl))) (An (Aw (Bv (BT K (by rfl)) rfl T.b_tuple BQ (Am (Bw ["hour","units","engines"] [none,none,some 2] rfl (DN P w K rfl T.b_enumerate (Am (AF (AW K (by rfl)) (cx 1 (by rfl)) Af (λ_ _=>rfl)) (by rfl)) (by rfl) (by rfl) (by rfl) (by rfl)) (AQ.of rfl) (λ_ _ _ _=>(AL K (n:=2) (Ak (Ag 0 (AJ (by rfl)) (by rfl)) (Ak (Ag 1 (AJ (by rfl)) (by rfl)) AK (by rfl)) (by rfl)) (by rfl) (by rfl) (by rfl) (by rfl))) (λ_ _ _ _=>Br) (λ_ _ _ _=>(At AY (cx 1 (by rfl)) (AE (IP rfl) rfl T.b_sum boot_sum (Am (Bw ["engine","hour"] [none,some 0] rfl (Cf K (cx 2 (by rfl)) (by rfl)) (AQ.of rfl) (λ_ _ _ _=>(Ag 0 (AJ (by rfl)) (by rfl))) (λ_ _ _ _=>Br) (λ_ _ _ _=>(Aj D_drawn_by (hr.mono (by decide)) rfl (Ao (cx 0 (by rfl)) (cx 1 (by rfl)) (by rfl)) (by decide) (by rfl) (by rfl))) (by intro _;rfl)) (by rfl)) (by decide) (by decide) (by rfl) (by rfl)))) (by intro _;rfl)) (by rfl)) (by decide) (by decide) (by rfl) (by rfl)))))),?_⟩
 unfold Fx at h
 split at h
 ·rename_i v u
  obtain⟨p,P,S,ok,so,r,ru,q⟩:=h
  refine⟨p,P,S,ok,so,r,ru,λH1 s1=>?_⟩
  obtain⟨A,B,E,xf,rfl,hA,hB,hE,rf⟩:=Aa.story (Aa.ev (Ev.same s1) _ _ ru)
  obtain⟨PA,PB,PE,PM,xb,xe,rfl,pA,pB,rb,pE,re,pM⟩:=Aa.plant (Aa.ev (Ev.same s1) _ _ r)
  have x8:=so.x8
  have e4:=ok.e4
  have le:=re.len
  rw [List.length_map] at le
  refine⟨PA,_,1,.ref PE,rfl,rfl,Ae.of pA,rfl,A,_,0,.ref B,rfl,rfl,Ae.of hA,rfl,B,rfl,⟨_,Ae.of hB⟩,walk_enum (xs:=S.ex.map V.int) (λi ys H'=>Ab H1 H'/\ys=((draws P S).take i).map V.int) (by rw [List.length_map];omega) ⟨Ab.refl _,rfl⟩ (λi ys H' h=>by rw [h.2,List.length_map,List.length_take];omega) (λi ys H' h=>Ae.of (h.1 _ _ hB)) (λi x ys H' T hx h hT=>?_) λys H' h=>?_⟩
  ·rw [List.getElem?_map] at hx
   cases z:S.ex[i]? with
   | none=>rw [z] at hx;cases hx
   | some n=>
    rw [z] at hx
    cases hx
    have s2:Ab H1 (upd H' T (.tup [.int i,.int n])):=h.1.trans (Ab.new hT)
    refine⟨T,_,rfl,Ae.of Ah,rfl,_,_,rfl,_,_,rfl,rfl,⟨rfl,trivial⟩,λ_=>?_,λz=>by cases z⟩
    refine⟨PE,rfl,⟨xe,Ae.of (s2 _ _ pE)⟩,Cm (xs:=xe) (λj zs H2=>Ab H1 H2/\zs=((P.es.take j).map λe=>drawn e i).map V.int) (by omega) ⟨s2,rfl⟩ (λj zs H2 h=>by rw [h.2,List.length_map,List.length_map,List.length_take];omega) (λj zs H2 _ h=>Ae.of (h.1 _ _ pE)) (λj x zs H2 hx h2=>?_) λzs H2 h2=>?_⟩
    ·obtain⟨f,hf,rd⟩:=Ac.mapGot re hx
     refine⟨⟨rfl,trivial⟩,λ_=>⟨p,f,Aa.ev (Ev.same h2.1) _ _ rd,(ok.e f (List.mem_of_getElem? hf)).2.2.2.2.1,h2.1,?_⟩,λz=>by cases z⟩
     rw [Be hf,List.map_append,List.map_append,h2.2];rfl
    ·intro m hm
     refine⟨m,P.es.map λe=>drawn e i,rfl,?_,h2.1.trans (Ab.new hm),?_⟩
     ·rw [Ah,h2.2,List.take_of_length_le (by omega)]
     ·rw [Be (IT z),List.map_append,h.2];rfl
  ·intro m hm
   refine⟨m,_,rfl,.inl ⟨Al.of Ah,λt ht=>?_⟩⟩
   refine q _ _ (s1.trans (h.1.trans ((Ab.new hm).trans (Ab.new ht)))) (Aa.row ?_)
   rw [Ah,h.2,List.take_of_length_le (by rw [C4,List.length_map];omega)]
 ·exact h.elim
end
end MF
end
section
namespace MF
open PySem PySem.Spec PyProof.Rows L2
theorem Mf:∀ {bs:List PyData},(∀d∈bs,GoodB d)->∃l:List (Int×Int),bs=l.map bD/\∀q∈l,1<=q.1/\q.1<=9/\1<=q.2/\q.2<=9
 | [],_=>⟨[],rfl,λ_ h=>nomatch h⟩
 | d::ds,h=>by
  obtain⟨l,e,g⟩:=Mf λx hx=>h x (List.mem_cons_of_mem _ hx)
  obtain⟨m,c,rfl,a1,a2,a3,a4⟩:=h d List.mem_cons_self
  refine⟨(m,c)::l,by rw [e];rfl,λq hq=>?_⟩
  rcases List.mem_cons.mp hq with rfl | hq
  ·exact⟨a1,a2,a3,a4⟩
  ·exact g q hq
theorem Mg:∀ {es:List PyData},(∀d∈es,GoodE d)->∃l:List (Int×Int×Int),es=l.map eD/\∀q∈l,1<=q.1/\q.1<=9/\0<=q.2.1/\q.2.1<=7/\1<=q.2.2/\q.2.2<=8
 | [],_=>⟨[],rfl,λ_ h=>nomatch h⟩
 | d::ds,h=>by
  obtain⟨l,e,g⟩:=Mg λx hx=>h x (List.mem_cons_of_mem _ hx)
  obtain⟨m,c,k,rfl,a1,a2,a3,a4,a5,a6⟩:=h d List.mem_cons_self
  refine⟨(m,c,k)::l,by rw [e];rfl,λq hq=>?_⟩
  rcases List.mem_cons.mp hq with rfl | hq
  ·exact⟨a1,a2,a3,a4,a5,a6⟩
  ·exact g q hq
theorem GoodP.pl {bs es:List PyData}{lo hi st:Int} (g:GoodP bs es lo hi st):∃P:PL,P.ok/\Me bs es lo hi st=P.d:=by
 obtain⟨lb,rfl,hb⟩:=Mf g.b
 obtain⟨le,rfl,he⟩:=Mg g.e
 have b1:=g.b1
 have b4:=g.b4
 have e4:=g.e4
 rw [List.length_map] at b1 b4 e4
 exact⟨⟨lb,le,lo,hi,st⟩,⟨hb,b1,b4,he,e4,g.lo0,g.ls,g.sh,g.h4⟩,rfl⟩
theorem DU (r:List Int):CL (AN r)=true:=by
 unfold CL
 exact DT λd hd=>by
  obtain⟨i,_,rfl⟩:=List.mem_map.mp hd
  rfl
theorem So (k:Bool):0<(1:Int)+(if k=true then 1 else 0)/\(1:Int)+(if k=true then 1 else 0)<1073741824:=by cases k<;>decide
def GoodF (n h:Nat) (d:PyData):Prop:=∃x:FT,d=x.d/\x.ok n h
theorem GoodF.nm {n h:Nat}{d:PyData} (g:GoodF n h d):CL d=true:=by obtain⟨x,rfl,_⟩:=g;rfl
theorem Mh {n h:Nat}:∀ {es:List PyData},(∀d∈es,GoodF n h d)->∃l:List FT,es=l.map FT.d/\∀q∈l,q.ok n h
 | [],_=>⟨[],rfl,λ_ h=>nomatch h⟩
 | d::ds,hh=>by
  obtain⟨l,e,g⟩:=Mh λx hx=>hh x (List.mem_cons_of_mem _ hx)
  obtain⟨x,rfl,a1⟩:=hh d List.mem_cons_self
  refine⟨x::l,by rw [e];rfl,λq hq=>?_⟩
  rcases List.mem_cons.mp hq with rfl | hq
  ·exact a1
  ·exact g q hq
def Ho:Sp:=λvs H Q _=>match vs with | [.ref p,v,.int m]=>Bc p H/\1<=m/\m<=8/\∃P,PL.ok P/\Aa p H P.d v/\∀u H' S,SY.ok S P.bs.length->Aa p H' S.d u->Ev p H H'->Bc p H'->Q u H' | _=>False
def Jo:Sp:=λvs H Q _=>match vs with | [v,u]=>∃p P S,PL.ok P/\SY.ok S P.bs.length/\Aa p H P.d v/\Aa p H S.d u/\ret H Q p (IQ P S) | _=>False
def Jp:Sp:=λvs H Q _=>match vs with | [v,u]=>∃p P S,PL.ok P/\SY.ok S P.bs.length/\Aa p H P.d v/\Aa p H S.d u/\ret H Q p (IR P S) | _=>False
section
variable {P : Program} {w : World} {K : PySem.W.Frag} {mg : Str -> Option Value} {base : Heap}
theorem sc__law_story:AB ["_law_pen_here","_law_plant_here","_law_most","_law_hours","_law_total","_law_wide","_law_extra","_law_faults","_law_turn","_law_first","_law_last"] ["_law_pen_here","_law_plant_here","_law_most"] (Au s__law_story):=AG
theorem Sr (F:Df K mg "_law_story" s__law_story ["_law_pen_here","_law_plant_here","_law_most"]) (T:Tx mg) (D__law_draw:Hf P w K mg base):Fn P w K mg base 2 "_law_story" ["_law_pen_here","_law_plant_here","_law_most"] Ho:=by
 refine F.fn sc__law_story (λvs H Q E h=>?_) (λf cdv A outer s H vs Q E hr h=>?_)
 ·unfold Ho at h;split at h;rfl;exact h.elim
 refine⟨_,(Ai (FZ (i:=3) (j:=4) rfl sc__law_story.nd rfl rfl (by decide) rfl rfl (Ao (At AY Af (Aj D__law_draw (hr.mono (by decide)) rfl (Ao (cx 0 (by rfl)) (cx 2 (by rfl)) (by rfl)) (by decide) (by rfl) (by rfl))) (AE (IP rfl) rfl T.b_sum boot_sum (Am (Bw ["_law_make","_law_coal"] [none,none] rfl (Cf K (AF (AW K (by rfl)) (cx 1 (by rfl)) Af (λ_ _=>rfl)) (by rfl)) (AQ.of rfl) (λ_ _ _ _=>(AL K (n:=2) (Ak (Ag 0 (AJ (by rfl)) (by rfl)) (Ak (Ag 1 (AJ (by rfl)) (by rfl)) AK (by rfl)) (by rfl)) (by rfl) (by rfl) (by rfl) (by rfl))) (λ_ _ _ _=>Br) (λ_ _ _ _=>(cx 0 (by rfl))) (by intro _;rfl)) (by rfl)) (by decide) (by decide) (by rfl) (by rfl)) (by rfl)) (by rfl) (by rfl)) (Ai (AI (i:=5) sc__law_story.nd rfl (Az (by rfl)) (AF (Bp K (by rfl)) (BX (Bi Af (At AY Af (At Gp (cx 4 (by rfl)) Af)) (At AY Af (cx 4 (by rfl))) Af (by rfl))) (Aj D__law_draw (hr.mono (by decide)) rfl (Ao (cx 0 (by rfl)) Af (by rfl)) (by decide) (by rfl) (by rfl)) (λ_ _=>rfl)) (by rfl) (AA (by rfl))) (Ai (AI (i:=6) sc__law_story.nd rfl (Az (by rfl)) (Bv (BT K (by rfl)) rfl T.b_tuple BQ (Am (Bw ["_law_hour","_law_pen_here","_law_wide"] [none,some 0,some 5] rfl (Cb rfl T.b_range (Am (cx 3 (by rfl)) (by rfl)) (by rfl)) (AQ.of rfl) (λ_ _ _ _=>(Ag 0 (AJ (by rfl)) (by rfl))) (λ_ _ _ _=>Br) (λ_ _ _ _=>(Aj D__law_draw (hr.mono (by decide)) rfl (Ao (cx 1 (by rfl)) (AE (D0 rfl) rfl T.b_min boot_min (Ao Af (cx 2 (by rfl)) (by rfl)) (by decide) (by decide) (by rfl) (by rfl)) (by rfl)) (by decide) (by rfl) (by rfl))) (by intro _;rfl)) (by rfl)) (by decide) (by decide) (by rfl) (by rfl)) (by rfl) (AA (by rfl))) (Ai (AI (i:=7) sc__law_story.nd rfl (Az (by rfl)) (BX Cc) (by rfl) (AA (by rfl))) (Ai (Bu PassesOwn.never rfl (Cb rfl T.b_range (Am (AF (Bp K (by rfl)) (BX (Bi Af Af Af (Aj D__law_draw (hr.mono (by decide)) rfl (Ao (cx 0 (by rfl)) Af (by rfl)) (by decide) (by rfl) (by rfl)) (by rfl))) (Aj D__law_draw (hr.mono (by decide)) rfl (Ao (cx 0 (by rfl)) Af (by rfl)) (by decide) (by rfl) (by rfl)) (λ_ _=>rfl)) (by rfl)) (by rfl)) (Ag 8 sc__law_story.nd (by rfl)) (Ai (AI (i:=9) sc__law_story.nd rfl (Az (by rfl)) (Aj D__law_draw (hr.mono (by decide)) rfl (Ao (cx 0 (by rfl)) (cx 3 (by rfl)) (by rfl)) (by decide) (by rfl) (by rfl)) (by rfl) (AA (by rfl))) (Ai (AI (i:=10) sc__law_story.nd rfl (Az (by rfl)) (At AY (cx 9 (by rfl)) (Aj D__law_draw (hr.mono (by decide)) rfl (Ao (cx 0 (by rfl)) (At BE (cx 3 (by rfl)) (cx 9 (by rfl))) (by rfl)) (by decide) (by rfl) (by rfl))) (by rfl) (AA (by rfl))) (An (Bq (CG PySem.F.plainAttrs_list PySem.F.slot_list_append PySem.F.type_list_append CH (cx 7 (by rfl)) (Am (BL (Bi (Aj D__law_draw (hr.mono (by decide)) rfl (Ao (cx 0 (by rfl)) (AE (Bx K (by rfl)) rfl T.b_len PySem.boot_len (Am (AF (AW K (by rfl)) (cx 1 (by rfl)) Af (λ_ _=>rfl)) (by rfl)) (by decide) (by decide) (by rfl) (by rfl)) (by rfl)) (by decide) (by rfl) (by rfl)) (AF (Bp K (by rfl)) (BX (Ao DD DD (by rfl))) (Aj D__law_draw (hr.mono (by decide)) rfl (Ao (cx 0 (by rfl)) Af (by rfl)) (by decide) (by rfl) (by rfl)) (λ_ _=>rfl)) (cx 9 (by rfl)) (cx 10 (by rfl)) (by rfl))) (by rfl)) (by rfl) (by rfl) (by rfl) (by rfl) (by rfl)) (by rfl))))) (by intro _;rfl)) (An (Aw (BL (Ao (cx 6 (by rfl)) (Bv (BT K (by rfl)) rfl T.b_tuple BQ (Am (cx 7 (by rfl)) (by rfl)) (by decide) (by decide) (by rfl) (by rfl)) (by rfl)))))))))),?_⟩
 unfold Ho at h
 split at h
 ·rename_i p v m
  obtain⟨pn,m1,m8,P,ok,r,q⟩:=h
  have b1:=ok.b1
  have b4:=ok.b4
  refine⟨pn,by omega,by omega,λg1 H1 a1 c1 e1 pn1=>?_⟩
  obtain⟨PA,PB,PE,PM,xb,xe,rfl,pA,pB,rb,pE,re,pM⟩:=Aa.plant (Aa.ev e1 _ _ r)
  have lb:=rb.len
  rw [List.length_map] at lb
  refine⟨PA,_,0,.ref PB,rfl,rfl,Ae.of pA,rfl,PB,rfl,⟨xb,Ae.of pB⟩,Cm (xs:=xb) (λi ys H'=>Ab H1 H'/\ys=((P.bs.map (·.1)).take i).map V.int) (by omega) ⟨Ab.refl _,rfl⟩ (λi ys H' h=>by rw [h.2,List.length_map,List.length_take];omega) (λi ys H' _ h=>Ae.of (h.1 _ _ pB)) (λi x ys H' hx h=>?_) λys H2 h=>?_⟩
  ·obtain⟨f,hf,rd⟩:=Ac.mapGot rb hx
   obtain⟨l,zs,rfl,hl',rz⟩:=Aa.shape (Aa.ev (Ev.same h.1) _ _ rd)
   obtain⟨y1,y2,rfl,r1,r2⟩:=Ac.two rz
   unfold Aa at r1 r2
   subst r1 r2
   refine⟨l,_,rfl,Ae.of hl',rfl,_,_,rfl,_,_,rfl,rfl,trivial,λ_=>⟨h.1,?_⟩,λz=>by cases z⟩
   have hf':(P.bs.map (·.1))[i]? =some f.1:=by rw [List.getElem?_map,hf];rfl
   rw [Be hf',List.map_append,h.2];rfl
  intro lm hlm
  have eT:0<=(P.bs.map (·.1)).sum/\(P.bs.map (·.1)).sum<=9 *(P.bs.map (·.1)).length:=Pu λi hi=>by
   obtain⟨qq,hqq,rfl⟩:=List.mem_map.mp hi
   have:=ok.b qq hqq
   omega
  rw [List.length_map] at eT
  have n1:=Ab.new (o:= .lst ys) hlm
  refine⟨lm,P.bs.map (·.1),rfl,?_,_,_,rfl,⟨by decide,by decide⟩,λl1 hl1=>?_⟩
  ·rw [Ah,h.2,List.take_of_length_le (by rw [List.length_map];omega)]
  have e2:Ev p H (upd H2 lm (.lst ys)):=e1.trans (Ev.same (h.1.trans n1))
  have pn2:Bc p (upd H2 lm (.lst ys)):=pn1.same (h.1.trans n1)
  generalize upd H2 lm (.lst ys)=H3 at hl1 e2 pn2 ⊢
  generalize(P.bs.map (·.1)).sum=T at eT
  refine⟨pn2.new hl1,by decide,by decide,λg2 H4 a4 c4 e4 pn4=>?_⟩
  obtain⟨wd,hwd,hat⟩:=DS (ns:=[1,1+T / 2,1+T,21]) a4 (by simpa using c4)
  have hwd':wd=1\/wd=1+T / 2\/wd=1+T\/wd=21:=by simpa using hwd
  have w1:1<=wd:=by omega
  refine⟨l1,_,g2,.int wd,rfl,rfl,Al.of (e4.lst Ah (pn2.ne hl1)),hat,?_⟩
  have eA:Ev p H H4:=e2.trans ((Ev.new hl1).trans e4)
  refine⟨_,rfl,by omega,by omega,Gh (n:=(1+g1).toNat) (λi ys H5=>Ev p H4 H5/\Bc p H5/\∃ns:List Int,ys=ns.map V.int/\ns.length=i/\∀u∈ns,0<=u/\u<=20) (by omega) ⟨Ev.refl,pn4,[],rfl,rfl,(λ_ h=>nomatch h)⟩ (λi ys H5 h=>?_) (λi ys H5 hi h=>?_) λys H5 h=>?_⟩
  ·obtain⟨_,_,ns,rfl,hn,_⟩:=h
   rw [List.length_map];omega
  ·obtain⟨e5,pn5,ns,rfl,hn,hu⟩:=h
   refine⟨⟨rfl,rfl,trivial⟩,λ_=>⟨21,wd,rfl,pn5,by split<;>omega,by split<;>omega,λg6 H6 a6 c6 e6 pn6=>⟨e5.trans e6,pn6,ns++[g6],by rw [List.map_append];rfl,by rw [List.length_append,hn];rfl,λu hu'=>?_⟩⟩,λz=>by cases z⟩
   rcases List.mem_append.mp hu' with h | h
   ·exact hu u h
   ·rw [List.mem_singleton.mp h]
    have:(if wd<21 then wd else 21)<=21:=by split<;>omega
    omega
  obtain⟨e5,pn5,ns,rfl,hn,hu⟩:=h
  intro l2 hl2
  refine⟨l2,_,rfl,.inl ⟨Al.of Ah,λt1 ht1 b hb=>?_⟩⟩
  have n2:=Ab.new (o:= .lst (ns.map V.int)) hl2
  have n3:=Ab.new (o:= .tup (ns.map V.int)) ht1
  have kt:=Ah (H:=upd H5 l2 (.lst (ns.map V.int))) (a:=t1) (o:= .tup (ns.map V.int))
  have e6:Ev p H (upd (upd H5 l2 (.lst (ns.map V.int))) t1 (.tup (ns.map V.int))):=(eA.trans e5).trans (Ev.same (n2.trans n3))
  have pn6:=pn5.same (n2.trans n3)
  generalize upd (upd H5 l2 (.lst (ns.map V.int))) t1 (.tup (ns.map V.int))=H6 at hb kt e6 pn6 n3 ⊢
  have nb:b≠p:=pn6.ne hb
  have hbH:H b=none:=by
   cases z:H b with
   | none=>rfl
   | some o=>exact((e6 b o z).elim (fun⟨x,_⟩=>absurd x nb) λx=>by rw [x] at hb;cases hb)
  refine⟨pn6.new hb,by decide,by decide,λg7 H7 a7 c7 e7 pn7 l3 hl3=>⟨pn7.new hl3,by decide,by decide,λg8 H8 a8 c8 e8 pn8=>?_⟩⟩
  obtain⟨tn,htn,hat3⟩:=DS (ns:=[0,0,1,g7]) a8 (by simpa using c8)
  have htn':tn=0\/tn=0\/tn=1\/tn=g7:=by simpa using htn
  have e68:Ev p (upd H6 b (.lst [])) H8:=e7.trans ((Ev.new hl3).trans e8)
  refine⟨l3,_,g8,.int tn,rfl,rfl,Al.of (e8.lst Ah (pn7.ne hl3)),hat3,tn,rfl,by omega,by omega,CN (n:=tn.toNat) (λi σ H9=>∃t f l,σ=[some (.ref p),some (.ref PA),some (.int m),some (.int (1+g1)),some (.int T),some (.int wd),some (.ref t1),some (.ref b),t,f,l]/\Ev p H6 (upd H9 b (.lst []))/\Filled (GoodF P.bs.length (1+g1).toNat) p b H H9 i)
   ⟨_,_,_,rfl,?_,(e6.trans (Ev.new hb)).trans e68,pn8,[],[],e68.lst Ah nb,.nil,(λ_ h=>nomatch h),rfl⟩ (λi σ H9 hi hP=>?_) fun σ H9 hP=>?_⟩
  ·exact((Ev.new hb).trans e68).own hb
  ·obtain⟨t,f,l,rfl,ev6,ev,pn4',xs,ds,hx,rs,gd,hl⟩:=hP
   refine⟨pn4',by omega,by omega,λf1 K5 a5 c5 e5' pn5'=>⟨pn5',by omega,by omega,λf2 K6 a6 c6 e6' pn6'=>?_⟩⟩
   have e46:Ev p H9 K6:=e5'.trans e6'
   obtain⟨PA',PB',PE',PM',xb',xe',ePA,pA',pB',rb',pE',re',pM'⟩:=Aa.plant (Aa.ev (ev.trans e46) _ _ r)
   cases ePA
   have lb':=rb'.len
   rw [List.length_map] at lb'
   refine⟨.inl ⟨rfl,_,Al.of (e46.lst hx nb)⟩,PA,_,0,.ref PB',rfl,rfl,Ae.of pA',rfl,PB',xb',rfl,.inr (Ae.of pB'),pn6',by omega,by omega,λf3 K7 a7' c7' e7' pn7' l2' hl2'=>⟨pn7'.new hl2',by decide,by decide,λg4 K8 a8' c8' e8' pn8'=>?_⟩⟩
   have hw:∃bb:Bool,CF [V.str "out",.str "scaled"] g4=some (wV bb):=by
    have:g4=0\/g4=1:=by omega
    rcases this with rfl | rfl
    ·exact⟨true,rfl⟩
    ·exact⟨false,rfl⟩
   obtain⟨bb,hw⟩:=hw
   refine⟨l2',_,g4,wV bb,rfl,rfl,Al.of (e8'.lst Ah (pn7'.ne hl2')),hw,λt1' ht1'=>?_⟩
   have e48:Ev p H9 K8:=e46.trans (e7'.trans ((Ev.new hl2').trans e8'))
   have hb8:=e48.lst hx nb
   refine⟨b,xs,.ref t1',rfl,rfl,by rw [As (Bh hb8 ht1')];exact hb8,Co (by rw [<-rs.len,hl];omega),_,_,_,rfl,?_,?_⟩
   ·intro c o hc
    by_cases z:c=b
    ·subst z;rw [hb] at hc;cases hc
    ·rcases ev6 c o hc with w' | w'
     ·exact .inl w'
     ·rw [As z] at w'
      rcases(e48.trans (Ev.new (o:= .tup [.int f3,wV bb,.int f1,.int (f1+f2)]) ht1')) c o w' with w'' | w''
      ·exact .inl w''
      ·right
       rw [As z,As z]
       exact w''
   ·exact Filled.step (λd h=>h.nm) hx rs gd hl e48 nb hbH (ev.trans e48) pn8' ht1' (Aa.tup Ah (.cons Aa.int (.cons Aa.str (.cons Aa.int (.cons Aa.int .nil))))) ⟨⟨f3,bb,f1,f1+f2⟩,rfl,⟨a7',by show f3<_;omega,a5,by show f1<=f1+f2;omega,by show f1+f2<_;omega⟩⟩
  ·obtain⟨t,f,l,rfl,ev6,fb⟩:=hP
   have kt9:H9 t1=some (.tup (ns.map V.int)):=by
    have z:=ev6.tup kt
    rw [As (Bh kt hb)] at z
    exact z
   obtain⟨xs,fs,hb5,rb5,gf,lf⟩:=fb.done nb Ev.refl
   refine⟨b,xs,rfl,.inl ⟨Al.of hb5,λt2 ht2 t3 ht3=>?_⟩⟩
   obtain⟨lF,rfl,gl⟩:=Mh gf
   rw [List.length_map] at lf
   have s5:=(Ab.new (o:= .tup xs) ht2).trans (Ab.new (o:= .tup [.ref t1,.ref t2]) ht3)
   refine q _ _ ⟨ns,lF⟩ ⟨by show 1<=ns.length;omega,by show ns.length<=8;omega,hu,by show lF.length<=4;omega,λx hx=>?_⟩ ?_ (fb.ev.trans (Ev.same s5)) (fb.pen.same s5)
   ·show x.ok _ ns.length
    rw [hn];exact gl x hx
   ·exact Aa.tup Ah (.cons (Aa.row (s5 _ _ kt9)) (.cons (Aa.tup ((Ab.new ht3) _ _ Ah) (Ac.ev (Ev.same s5) _ _ rb5)) .nil))
 ·exact h.elim
theorem sc__law_caps:AB ["_law_plant_here","_law_story_here","_law_rows","_law_hour","_law_row","_law_boiler","_law_make","_law_coal","_law_words"] ["_law_plant_here","_law_story_here"] (Au s__law_caps):=AG
abbrev Fy (P:Program) (w:World) (K:PySem.W.Frag) (mg:Str->Option Value) (base:Heap):Prop:=Fn P w K mg base 1 "_law_caps" ["_law_plant_here","_law_story_here"] Jo
theorem Ss (F:Df K mg "_law_caps" s__law_caps ["_law_plant_here","_law_story_here"]) (T:Tx mg)  :Fy P w K mg base:=by
 refine F.fn sc__law_caps (λvs H Q E h=>?_) (λf cdv A outer s H vs Q E hr h=>?_)
 ·unfold Jo at h;split at h;rfl;exact h.elim
 refine⟨_,(Ai (AI (i:=2) sc__law_caps.nd rfl (Az (by rfl)) (BX Cc) (by rfl) (AA (by rfl))) (Ai (Bu PassesOwn.never rfl (Cb rfl T.b_range (Am (AE (Bx K (by rfl)) rfl T.b_len PySem.boot_len (Am (AF (AW K (by rfl)) (cx 1 (by rfl)) Af (λ_ _=>rfl)) (by rfl)) (by decide) (by decide) (by rfl) (by rfl)) (by rfl)) (by rfl)) (Ag 3 sc__law_caps.nd (by rfl)) (Ai (AI (i:=4) sc__law_caps.nd rfl (Az (by rfl)) (BX Cc) (by rfl) (AA (by rfl))) (Ai (Bu PassesOwn.never rfl (DN P w K rfl T.b_enumerate (Am (AF (AW K (by rfl)) (cx 0 (by rfl)) Af (λ_ _=>rfl)) (by rfl)) (by rfl) (by rfl) (by rfl) (by rfl)) (AL K (n:=2) (Ak (Ag 5 sc__law_caps.nd (by rfl)) (Ak (AL K (n:=2) (Ak (Ag 6 sc__law_caps.nd (by rfl)) (Ak (Ag 7 sc__law_caps.nd (by rfl)) AK (by rfl)) (by rfl)) (by rfl) (by rfl) (by rfl) (by rfl)) AK (by rfl)) (by rfl)) (by rfl) (by rfl) (by rfl) (by rfl)) (Ai (Fd (i:=8) ["_law_one","_law_word","_law_first","_law_last","_law_boiler","_law_hour"] [none,none,none,none,some 5,some 3] sc__law_caps.nd rfl (Az (by rfl)) rfl (Cf K (AF (AW K (by rfl)) (cx 1 (by rfl)) Af (λ_ _=>rfl)) (by rfl)) (AQ.of rfl) (λ_ _ _ _=>(AL K (n:=4) (Ak (Ag 0 (AJ (by rfl)) (by rfl)) (Ak (Ag 1 (AJ (by rfl)) (by rfl)) (Ak (Ag 2 (AJ (by rfl)) (by rfl)) (Ak (Ag 3 (AJ (by rfl)) (by rfl)) AK (by rfl)) (by rfl)) (by rfl)) (by rfl)) (by rfl) (by rfl) (by rfl) (by rfl))) (λ_ _ _ _=>(DH (PW.pt (Fh (AU Ep (cx 0 (by rfl)) (cx 4 (by rfl)) (AO _)) (Fh (AU DM (cx 2 (by rfl)) (cx 5 (by rfl)) (AO _)) (FV (AU DM (cx 5 (by rfl)) (cx 3 (by rfl)) (AO _)))))))) (λ_ _ _ _=>(cx 1 (by rfl))) (by rfl) (AA (by rfl)) (by intro _;rfl)) (An (Bq (CG PySem.F.plainAttrs_list PySem.F.slot_list_append PySem.F.type_list_append CH (cx 4 (by rfl)) (Am (Ey (AU (EB K (by rfl)) DD (cx 8 (by rfl)) (by with_unfolding_all rfl)) Af (At Gp (cx 6 (by rfl)) (At AY Af (Bv Im rfl T.b_int L2.boot_int (Am (Cr (EB K (by rfl)) DD (cx 8 (by rfl)) (by with_unfolding_all rfl)) (by rfl)) (by decide) (by decide) (by rfl) (by rfl))))) (by rfl)) (by rfl) (by rfl) (by rfl) (by rfl) (by rfl)) (by rfl)))) (by intro _;rfl)) (An (Bq (CG PySem.F.plainAttrs_list PySem.F.slot_list_append PySem.F.type_list_append CH (cx 2 (by rfl)) (Am (Bv (BT K (by rfl)) rfl T.b_tuple BQ (Am (cx 4 (by rfl)) (by rfl)) (by decide) (by decide) (by rfl) (by rfl)) (by rfl)) (by rfl) (by rfl) (by rfl) (by rfl) (by rfl)) (by rfl))))) (by intro _;rfl)) (An (Aw (Bv (BT K (by rfl)) rfl T.b_tuple BQ (Am (cx 2 (by rfl)) (by rfl)) (by decide) (by decide) (by rfl) (by rfl)))))),?_⟩
 unfold Jo at h
 split at h
 ·rename_i v u
  obtain⟨p,P,S,ok,so,r,ru,q⟩:=h
  obtain⟨A,B,E,xf,rfl,hA,hB,hE,rf⟩:=Aa.story ru
  obtain⟨PA,PB,PE,PM,xb,xe,rfl,pA,pB,rb,pE,re,pM⟩:=Aa.plant r
  have x8:=so.x8
  have f4:=so.f4
  have b4:=ok.b4
  have lb:=rb.len
  rw [List.length_map] at lb
  have lf:=rf.len
  rw [List.length_map] at lf
  intro R hR
  have s0:Ab H (upd H R (.lst [])):=Ab.new hR
  refine⟨A,_,0,.ref B,rfl,rfl,Ae.of (s0 _ _ hA),rfl,B,_,rfl,.inr (Ae.of (s0 _ _ hB)),_,rfl,by omega,by rw [List.length_map];omega,CN (n:=(S.ex.map V.int).length) (λi σ H1=>(∃x3 x4 x5 x6 x7 x8,σ=[some (.ref PA),some (.ref A),some (.ref R),x3,x4,x5,x6,x7,x8])/\Ab H H1/\∃xs,H1 R=some (.lst xs)/\Ac p H1 (((caps P S).take i).map AN) xs)
   ⟨⟨_,_,_,_,_,_,rfl⟩,s0,[],Ah,.nil⟩ (λi σ H1 hi hP=>?_) fun σ H1 hP=>?_⟩
  ·obtain⟨⟨x3,x4,x5,x6,x7,x8',rfl⟩,s1,xs,hxs,rxs⟩:=hP
   rw [List.length_map] at hi
   have lx:=rxs.len
   rw [List.length_map,List.length_take] at lx
   intro b hb
   have sb:Ab H1 (upd H1 b (.lst [])):=Ab.new hb
   refine⟨PA,_,0,.ref PB,rfl,rfl,Ae.of (sb _ _ (s1 _ _ pA)),rfl,PB,rfl,⟨xb,Ae.of (sb _ _ (s1 _ _ pB))⟩,for_enum (xs:=xb) (λj σ H2=>(∃y5 y6 y7 y8,σ=[some (.ref PA),some (.ref A),some (.ref R),some (.int (0+i)),some (.ref b),y5,y6,y7,y8])/\Ab H1 H2/\H2 b=some (.lst (((AS P.bs S.fs i).take j).map V.int)))
    ⟨⟨_,_,_,_,rfl⟩,sb,Ah⟩ (λj σ H2 h=>Ae.of (h.2.1 _ _ (s1 _ _ pB))) (λj x σ H2 T hx h hT=>?_) fun σ H2 h=>?_⟩
   ·obtain⟨⟨y5,y6,y7,y8,rfl⟩,s2,hb2⟩:=h
    obtain⟨f,hf,rd⟩:=Ac.mapGot rb hx
    have hj:j<xb.length:=(List.getElem?_eq_some_iff.mp hx).1
    have s3:Ab H1 (upd H2 T (.tup [.int j,x])):=s2.trans (Ab.new hT)
    have s03:Ab H (upd H2 T (.tup [.int j,x])):=s1.trans s3
    obtain⟨l,zs,rfl,hl',rz⟩:=Aa.shape (Aa.ev (Ev.same s03) _ _ rd)
    obtain⟨z1,z2,rfl,r1,r2⟩:=Ac.two rz
    unfold Aa at r1 r2
    subst r1 r2
    refine⟨T,_,rfl,Ae.of Ah,rfl,_,_,rfl,_,_,rfl,l,_,rfl,Ae.of hl',rfl,_,_,rfl,_,_,rfl,rfl,rfl,?_⟩
    refine⟨A,_,1,.ref E,rfl,rfl,Ae.of (s03 _ _ hA),rfl,E,rfl,⟨xf,Ae.of (s03 _ _ hE)⟩,Cm (xs:=xf) (λk ys H3=>Ab (upd H2 T (.tup [.int j,.ref l])) H3/\ys=(BF (S.fs.take k) j i).map wV) (by omega) ⟨Ab.refl _,rfl⟩ (λk ys H' h=>?_) (λk ys H' _ h=>Ae.of (h.1 _ _ (s03 _ _ hE))) (λk x ys H' hx h=>?_) λys H3 h=>?_⟩
    ·rw [h.2,List.length_map]
     unfold BF
     rw [List.length_map]
     exact Nat.le_trans (List.length_filter_le _ _) (by rw [List.length_take];omega)
    ·obtain⟨g,hg,rg⟩:=Ac.mapGot rf hx
     obtain⟨l2,zs2,rfl,hl2,rz2⟩:=Aa.shape (Aa.ev (Ev.same (s03.trans h.1)) _ _ rg)
     obtain⟨w1,w2,w3,w4,rfl,r1,r2,r3,r4⟩:=Ac.four rz2
     unfold Aa at r1 r2 r3 r4
     subst r1 r2 r3 r4
     have nx:=KW (b:=j) (h:=i) hg
     have no:Cn j i g=false->Ab (upd H2 T (.tup [.int j,.ref l])) H'/\ys=(BF (S.fs.take (k+1)) j i).map wV:=λe=>⟨h.1,by rw [nx,e,if_neg (by decide)];exact h.2⟩
     refine⟨l2,_,rfl,Ae.of hl2,rfl,_,_,rfl,_,_,rfl,_,_,rfl,_,_,rfl,rfl,⟨rfl,rfl,trivial⟩,rfl,⟨λc1=>⟨λc2=>⟨λc3=>?_,λc3=>no ?_⟩,λc2=>⟨λz=>(by cases z),λ_=>no ?_⟩⟩,λc1=>⟨λz=>(by cases z),λ_=>no ?_⟩⟩⟩
     ·have e:Cn j i g=true:=by
       rw [DG] at c1
       rw [Int.zero_add] at c2 c3
       unfold Cn;rw [c1,c2,c3];rfl
      refine⟨h.1,?_⟩
      rw [nx,if_pos e,List.map_append,h.2];rfl
     ·rw [Int.zero_add] at c3
      unfold Cn;rw [c3,Bool.and_false]
     ·rw [Int.zero_add] at c2
      unfold Cn;rw [c2,Bool.and_false,Bool.false_and]
     ·rw [DG] at c1
      unfold Cn;rw [c1,Bool.false_and,Bool.false_and]
    ·intro m hm
     have ew:ys=(BF S.fs j i).map wV:=by rw [h.2,List.take_of_length_le (by omega)]
     subst ew
     have s4:Ab H2 (upd H3 m (.lst ((BF S.fs j i).map wV))):=(Ab.new hT).trans (h.1.trans (Ab.new hm))
     have hb4:=s4 _ _ hb2
     have hlen:(((AS P.bs S.fs i).take j).map V.int).length<sizeLine:=Co (by rw [List.length_map,List.length_take];omega)
     refine⟨.inl ⟨rfl,_,Al.of hb4⟩,m,_,rfl,.inl (Al.of Ah),rfl,Gv,⟨λc=>?_,λc=>?_⟩⟩
     ·rw [if_neg (by decide),Gu] at c
      refine⟨b,_,.int 0,rfl,rfl,hb4,hlen,⟨_,_,_,_,rfl⟩,Ab.own (s2.trans s4) hb,?_⟩
      have e:BY (BF S.fs j i) f.1=0:=by unfold BY;rw [if_pos c]
      rw [Ah,Be (IS hf),List.map_append,e];rfl
     ·rw [if_neg (by decide),Gu] at c
      refine⟨m,_,rfl,.inl (Al.of Ah),rfl,Gv,.inr ⟨_,rfl,?_⟩⟩
      have ek:(if (false=true) then !BO (V.str "scaled") ((BF S.fs j i).map wV) else BO (V.str "scaled") ((BF S.fs j i).map wV))=(BF S.fs j i).any (!·):=by rw [if_neg (by decide)];exact IU
      have e:=Px (m:=f.1) c
      refine⟨So _,b,_,.int (BY (BF S.fs j i) f.1),rfl,congrArg (λz=>[V.int z]) ((congrArg (fun(k:Bool)=>f.1 /(1+if k=true then 1 else 0)) ek).trans e),hb4,hlen,⟨_,_,_,_,rfl⟩,Ab.own (s2.trans s4) hb,?_⟩
      rw [Ah,Be (IS hf),List.map_append];rfl
   ·obtain⟨⟨y5,y6,y7,y8,rfl⟩,s2,hb2⟩:=h
    rw [List.take_of_length_le (by rw [Cu];omega)] at hb2
    refine⟨.inl ⟨rfl,_,Al.of (s2 _ _ hxs)⟩,b,_,rfl,.inl ⟨Al.of hb2,λt ht=>?_⟩⟩
    have s3:Ab H1 (upd H2 t (.tup ((AS P.bs S.fs i).map V.int))):=s2.trans (Ab.new ht)
    have hR3:=s3 _ _ hxs
    refine⟨R,xs,.ref t,rfl,rfl,hR3,Co (by omega),⟨_,_,_,_,_,_,rfl⟩,Ab.own (s1.trans s3) hR,_,Ah,?_⟩
    have tv:=TEv.upd (zs:=xs++[.ref t]) hR3
    rw [Be (CI hi),List.map_append]
    refine Ac.snoc (Ac.tev ((Ev.same (p:=p) s3).tev.trans tv) _ _ (DT λd hd=>?_) rxs) (Aa.tev tv _ _ (DU _) (Aa.row (p:=p) Ah))
    obtain⟨rr,_,rfl⟩:=List.mem_map.mp hd
    exact DU rr
  ·obtain⟨⟨x3,x4,x5,x6,x7,x8',rfl⟩,s1,xs,hxs,rxs⟩:=hP
   refine⟨R,xs,rfl,.inl ⟨Al.of hxs,λt ht=>q _ _ (s1.trans (Ab.new ht)) (Aa.tup Ah ?_)⟩⟩
   rw [List.take_of_length_le (by rw [BG,List.length_map];exact Nat.le_refl _)] at rxs
   exact Ac.ev (Ev.new ht) _ _ rxs
 ·exact h.elim
end
def Cy (d:PyData) (cs:List Int):Bool:=match d with | .tuple ds=>decide (ds.length=cs.length) &&(List.zipWith (λe c=>Bs e 0 c) ds cs).all id | _=>false
def DV (cs:List (List Int)) (d:PyData):Bool:=match d with | .tuple ds=>decide (ds.length=cs.length) &&(List.zipWith Cy ds cs).all id | _=>false
theorem Mi {d:PyData}{n:Nat} (h:Bg d (n:Int) (n:Int)=true):∃ds,d= .tuple ds/\ds.length=n:=by
 cases d with
 | tuple ds=>
  unfold Bg at h
  obtain⟨h1,h2⟩:=Bool.and_eq_true_iff.mp h
  have h1:=of_decide_eq_true h1
  have h2:=of_decide_eq_true h2
  exact⟨ds,rfl,by omega⟩
 | _=>cases h
theorem Su {d:PyData}{cs:List Int} (h:Bg d (cs.length:Int) (cs.length:Int)=false):Cy d cs=false:=by
 cases d with
 | tuple ds=>
  unfold Cy
  by_cases e:ds.length=cs.length
  ·rw [EQ (by omega) (by omega)] at h;cases h
  ·simp [e]
 | _=>rfl
theorem Sv {d:PyData}{cs:List (List Int)} (h:Bg d (cs.length:Int) (cs.length:Int)=false):DV cs d=false:=by
 cases d with
 | tuple ds=>
  unfold DV
  by_cases e:ds.length=cs.length
  ·rw [EQ (by omega) (by omega)] at h;cases h
  ·simp [e]
 | _=>rfl
theorem Mj {ds:List PyData}{cs:List Int} (h:ds.length=cs.length):Cy (.tuple ds) cs=(List.zipWith (λe c=>Bs e 0 c) ds cs).all id:=by
 unfold Cy;simp [h]
theorem Ml {ds:List PyData}{cs:List (List Int)} (h:ds.length=cs.length):DV cs (.tuple ds)=(List.zipWith Cy ds cs).all id:=by
 unfold DV;simp [h]
theorem ER {α β:Type}{f:α->β->Bool}{l:List α}{m:List β}{i:Nat}{a:α}{b:β} (h1:l[i]? =some a) (h2:m[i]? =some b):(List.zipWith f l m)[i]? =some (f a b):=by rw [List.getElem?_zipWith,h1,h2]
theorem rowB_is {d:PyData}{cs:List Int}:Cy d cs=true↔ ∃r:List Int,d=AN r/\r.length=cs.length/\∀(j:Nat) (x c:Int),r[j]? =some x->cs[j]? =some c->0<=x/\x<=c:=by
 constructor
 ·intro h
  cases d with
  | tuple ds=>
   unfold Cy at h
   obtain⟨h1,h2⟩:=Bool.and_eq_true_iff.mp h
   have h1:=of_decide_eq_true h1
   rw [List.all_eq_true] at h2
   have hi:∀j (hj:j<ds.length),∃x:Int,ds[j]= .int x/\∀c,cs[j]? =some c->0<=x/\x<=c:=λj hj=>by
    have hc:cs[j]? =some cs[j]:=List.getElem?_eq_getElem (by omega)
    have hz:=ER (f:=λe c=>Bs e 0 c) (List.getElem?_eq_getElem hj) hc
    have:=h2 _ (List.mem_of_getElem? hz)
    cases hd:ds[j] with
    | int x=>
     rw [hd] at this
     have this:Bs (.int x) 0 cs[j]=true:=this
     unfold Bs at this
     obtain⟨a1,a2⟩:=Bool.and_eq_true_iff.mp this
     refine⟨x,rfl,λc e=>?_⟩
     rw [hc] at e
     cases e
     exact⟨of_decide_eq_true a1,of_decide_eq_true a2⟩
    | _=>rw [hd] at this;cases this
   refine⟨ds.map λd=>match d with | .int x=>x | _=>0,?_,by rw [List.length_map];exact h1,λj x c hx hc=>?_⟩
   ·unfold AN
    congr 1
    refine List.ext_getElem (by simp) λj g1 g2=>?_
    obtain⟨x,e,_⟩:=hi j g1
    simp [e]
   ·rw [List.getElem?_map] at hx
    have hj:j<ds.length:=by have:=(List.getElem?_eq_some_iff.mp hc).1;omega
    obtain⟨y,e,b⟩:=hi j hj
    rw [List.getElem?_eq_getElem hj,e] at hx
    cases hx
    exact b c hc
  | _=>cases h
 ·rintro⟨r,rfl,hl,b⟩
  unfold AN
  rw [Mj (by rw [List.length_map];exact hl),List.all_eq_true]
  intro z hz
  obtain⟨j,hj,e⟩:=List.getElem_of_mem hz
  rw [List.length_zipWith,List.length_map] at hj
  have hx:r[j]? =some r[j]:=List.getElem?_eq_getElem (by omega)
  have hc:cs[j]? =some cs[j]:=List.getElem?_eq_getElem (by omega)
  have:=b j _ _ hx hc
  have e2:=ER (f:=λe c=>Bs e 0 c) (l:=r.map .int) (a:= .int r[j]) (by rw [List.getElem?_map,hx];rfl) hc
  rw [List.getElem?_eq_getElem (by rw [List.length_zipWith,List.length_map];omega)] at e2
  have e2:=Option.some.inj e2
  rw [e2] at e
  rw [<-e]
  exact Cp this.1 this.2
theorem fireB_is {P:PL}{S:SY}{d:PyData}:DV (caps P S) d=true↔ ∃F,d=FD F/\FOk P S F:=by
 constructor
 ·intro h
  cases d with
  | tuple ds=>
   unfold DV at h
   obtain⟨h1,h2⟩:=Bool.and_eq_true_iff.mp h
   have h1:=of_decide_eq_true h1
   rw [List.all_eq_true] at h2
   have hi:∀i (hi:i<ds.length),∃r:List Int,ds[i]=AN r/\r.length=P.bs.length/\∀(j:Nat) (x c:Int),r[j]? =some x->(AS P.bs S.fs i)[j]? =some c->0<=x/\x<=c:=λi hi=>by
    have hc:=CI (P:=P) (S:=S) (i:=i) (by rw [<-BG (P:=P) (S:=S)];omega)
    have hz:=ER (f:=Cy) (List.getElem?_eq_getElem hi) hc
    obtain⟨r,e,l,b⟩:=rowB_is.mp (h2 _ (List.mem_of_getElem? hz))
    exact⟨r,e,by rw [l,Cu],b⟩
   have hF:∃F:List (List Int),ds=F.map AN/\∀(i:Nat) r,F[i]? =some r->r.length=P.bs.length/\∀(j:Nat) (x c:Int),r[j]? =some x->(AS P.bs S.fs i)[j]? =some c->0<=x/\x<=c:=by
    clear h h2
    have key:∀(n:Nat),n<=ds.length->∃F:List (List Int),ds.take n=F.map AN/\∀(i:Nat) r,F[i]? =some r->r.length=P.bs.length/\∀(j:Nat) (x c:Int),r[j]? =some x->(AS P.bs S.fs i)[j]? =some c->0<=x/\x<=c:=λn=>by
     induction n with
     | zero=>exact λ_=>⟨[],by simp,λi r h=>by cases h⟩
     | succ n ih=>
      intro hn
      obtain⟨F,e,b⟩:=ih (by omega)
      obtain⟨r,e2,b2⟩:=hi n (by omega)
      have lF:F.length=n:=by have:=congrArg List.length e;rw [List.length_take,List.length_map] at this;omega
      refine⟨F++[r],by rw [Be (List.getElem?_eq_getElem (by omega)),e,e2,List.map_append];rfl,λi s hs=>?_⟩
      by_cases c:i<F.length
      ·rw [List.getElem?_append_left c] at hs
       exact b i s hs
      ·have hl:=(List.getElem?_eq_some_iff.mp hs).1
       rw [List.length_append,List.length_singleton] at hl
       obtain rfl:i=n:=by omega
       rw [<-lF,List.getElem?_concat_length] at hs
       cases hs
       exact b2
    obtain⟨F,e,b⟩:=key ds.length (Nat.le_refl _)
    exact⟨F,by rw [<-e,List.take_length],b⟩
   obtain⟨F,rfl,b⟩:=hF
   refine⟨F,rfl,?_,λi r hr=>(b i r hr).1,λi r j x c hr=>(b i r hr).2 j x c⟩
   rw [List.length_map,BG] at h1
   exact h1
  | _=>cases h
 ·rintro⟨F,rfl,fo⟩
  unfold FD
  have hl:(F.map AN).length=(caps P S).length:=by rw [List.length_map,BG,fo.len]
  rw [Ml hl,List.all_eq_true]
  intro z hz
  obtain⟨i,hi,e⟩:=List.getElem_of_mem hz
  rw [List.length_zipWith,List.length_map] at hi
  have hr:F[i]? =some F[i]:=List.getElem?_eq_getElem (by omega)
  have hc:=CI (P:=P) (S:=S) (i:=i) (by rw [<-fo.len];omega)
  have e2:=ER (f:=Cy) (l:=F.map AN) (a:=AN F[i]) (by rw [List.getElem?_map,hr];rfl) hc
  rw [List.getElem?_eq_getElem (by rw [List.length_zipWith,List.length_map];omega)] at e2
  have e2:=Option.some.inj e2
  rw [e2] at e
  rw [<-e]
  exact rowB_is.mpr ⟨_,rfl,by rw [fo.row i _ hr,Cu],λj x c h1 h2=>fo.bd i _ j x c hr h1 h2⟩
def Hq:Sp:=λvs H Q _=>match vs with | [v,u]=>∃p d cs,Aa p H d v/\Aa p H (AN cs) u/\cs.length<=1000/\∀b H',b=Cy d cs->Ab H H'->Q (.bl b) H' | _=>False
def Fz:Sp:=λvs H Q _=>match vs with | [v,u,w]=>∃p P S d,PL.ok P/\SY.ok S P.bs.length/\Aa p H P.d v/\Aa p H S.d u/\Aa p H d w/\∀b H',b=DV (caps P S) d->Ab H H'->Q (.bl b) H' | _=>False
def Hr:Sp:=λvs H Q _=>match vs with | [c,w]=>∃p P S d,PL.ok P/\SY.ok S P.bs.length/\Aa p H (IQ P S) c/\Aa p H d w/\∀b H',b=DV (caps P S) d->Ab H H'->Q (.bl b) H' | _=>False
def Hs:Sp:=λvs H Q _=>match vs with | [v,u,w]=>∃p P S F,Tri p H P S F v u w/\∀H',Ab H H'->Q .non H' | _=>False
def FB:Sp:=λvs H Q _=>match vs with | [v,u,w]=>∃p P S F,Tri p H P S F v u w/\∀t R sv H' k s xs,Fo P S F k s->Ab H H'->H R=none->H' t=some (.tup [.ref R,sv])->H' R=some (.lst xs)->Ac p H' (Dt P S F k) xs->Aa p H' (Fm s) sv->Q (.ref t) H' | _=>False
def Ht:Sp:=λvs H Q _=>match vs with | [v,u,w]=>∃p P S F,Tri p H P S F v u w/\∀R H' k s xs,Fo P S F k s->Ab H H'->H R=none->H' R=some (.lst xs)->Ac p H' (Dt P S F k) xs->Q (.ref R) H' | _=>False
def Hu:Sp:=λvs H Q _=>match vs with | [v,u,w]=>∃p P S F,Tri p H P S F v u w/\∀sv H' k s,Fo P S F k s->Ab H H'->Aa p H' (Fm s) sv->Q sv H' | _=>False
def FC:Sp:=λvs H Q _=>match vs with | [v,u,w]=>∃p P S F,Tri p H P S F v u w/\∀H' k s,Fo P S F k s->Ab H H'->Q (.bl s.isNone) H' | _=>False
theorem Aa.firing {p:Addr}{H:Hp}{F:List (List Int)}{v:V} (r:Aa p H (FD F) v):∃A xs,v= .ref A/\H A=some (.tup xs)/\Ac p H (F.map AN) xs:=Aa.shape r
theorem Aa.ofRow {p:Addr}{H:Hp}{r:List Int}{v:V} (h:Aa p H (AN r) v):∃A,v= .ref A/\H A=some (.tup (r.map V.int)):=by
 obtain⟨A,xs,rfl,hA,rs⟩:=Aa.shape h
 rw [Ac.ints rs] at hA
 exact⟨A,rfl,hA⟩
theorem Sw {p:Addr}{H:Hp}{s:Option (Int×Int)}{sv:V} (r:Aa p H (Fm s) sv):decide (sv= .non)=s.isNone:=by
 cases s with
 | none=>unfold Fm Aa at r;subst r;rfl
 | some q=>
  unfold Fm at r
  obtain⟨A,xs,rfl,_⟩:=Aa.shape r
  rfl
section
variable {P : Program} {w : World} {K : PySem.W.Frag} {mg : Str -> Option Value} {base : Heap}
theorem Sx:AB ["thing","caps"] ["thing","caps"] (Au s_is_row):=AG
theorem Sy (F:Df K mg "is_row" s_is_row ["thing","caps"]) (T:Tx mg) (D_is_tuple_of:Dc P w K mg base) (D_is_whole_from:Dx P w K mg base):Fn P w K mg base 3 "is_row" ["thing","caps"] Hq:=by
 refine F.fn Sx (λvs H Q E h=>?_) (λf cdv A outer s H vs Q E hr h=>?_)
 ·unfold Hq at h;split at h;rfl;exact h.elim
 refine⟨_,(An (Aw (BK (Aj D_is_tuple_of (hr.mono (by decide)) rfl (AC (cx 0 (by rfl)) (AE (Bx K (by rfl)) rfl T.b_len PySem.boot_len (Am (cx 1 (by rfl)) (by rfl)) (by decide) (by decide) (by rfl) (by rfl)) (AE (Bx K (by rfl)) rfl T.b_len PySem.boot_len (Am (cx 1 (by rfl)) (by rfl)) (by decide) (by decide) (by rfl) (by rfl)) (by rfl)) (by decide) (by rfl) (by rfl)) (CC (AE (Ez rfl) rfl T.b_all boot_all (Am (Bw ["part","cap"] [none,none] rfl (Fl P w K rfl T.b_zip (Ao (cx 0 (by rfl)) (cx 1 (by rfl)) (by rfl)) (by rfl) (by rfl) (by rfl) (by rfl) (by rfl)) (AQ.of rfl) (λ_ _ _ _=>(AL K (n:=2) (Ak (Ag 0 (AJ (by rfl)) (by rfl)) (Ak (Ag 1 (AJ (by rfl)) (by rfl)) AK (by rfl)) (by rfl)) (by rfl) (by rfl) (by rfl) (by rfl))) (λ_ _ _ _=>Br) (λ_ _ _ _=>(Aj D_is_whole_from (hr.mono (by decide)) rfl (AC (cx 0 (by rfl)) Af (cx 1 (by rfl)) (by rfl)) (by decide) (by rfl) (by rfl))) (by intro _;rfl)) (by rfl)) (by decide) (by decide) (by rfl) (by rfl)))))),?_⟩
 unfold Hq at h
 split at h
 ·rename_i v u
  obtain⟨p,d,cs,rv,ru,h1000,q⟩:=h
  obtain⟨B,rfl,hB⟩:=Aa.ofRow ru
  refine⟨B,_,rfl,.inr (Ae.of hB),B,_,rfl,.inr (Ae.of hB),p,d,rv,λb hb=>?_⟩
  rw [List.length_map] at hb
  refine⟨λc=>?_,λc=>q _ H ?_ (Ab.refl _)⟩
  ·rw [hb] at c
   obtain⟨ds,rfl,hl⟩:=Mi c
   obtain⟨A,xs,rfl,hA,rs⟩:=Aa.shape rv
   have lx:=rs.len
   refine⟨A,B,rfl,⟨_,Ae.of hA⟩,⟨_,Ae.of hB⟩,walk_zip (xs:=xs) (ys:=cs.map V.int) (λi zs H'=>Ab H H'/\zs=((List.zipWith (λe c=>Bs e 0 c) ds cs).take i).map V.bl) (by omega) (by rw [List.length_map];omega) ⟨Ab.refl _,rfl⟩
    (λi zs H' h=>by rw [h.2,List.length_map,List.length_take];omega) (λi zs H' h=>⟨Ae.of (h.1 _ _ hA),Ae.of (h.1 _ _ hB)⟩) (λi x y zs H' T hx hy h hT=>?_) λzs H' h=>?_⟩
   ·obtain⟨e,he,re⟩:=rs.got hx
    rw [List.getElem?_map] at hy
    cases z2:cs[i]? with
    | none=>rw [z2] at hy;cases hy
    | some m=>
     rw [z2] at hy
     cases hy
     have nT:=Ab.new (o:= .tup [x,.int m]) hT
     refine⟨T,_,rfl,Ae.of Ah,rfl,_,_,rfl,_,_,rfl,rfl,trivial,λ_=>⟨p,e,Aa.ev (Ev.same (h.1.trans nT)) _ _ re,λb1 e1=>⟨h.1.trans nT,?_⟩⟩,λc=>by cases c⟩
     rw [h.2,Be (ER (f:=λe c=>Bs e 0 c) he z2),List.map_append,e1];rfl
   ·intro m hm
    refine⟨m,List.zipWith (λe c=>Bs e 0 c) ds cs,rfl,by rw [Ah,h.2,List.take_of_length_le (by rw [List.length_zipWith];omega)],?_⟩
    exact q _ _ (Mj hl).symm (h.1.trans (Ab.new hm))
  ·rw [hb] at c
   exact(Su c).symm
 ·exact h.elim
theorem Sz:AB ["caps","thing"] ["caps","thing"] (Au s_is_firing_within):=AG
theorem SC (F:Df K mg "is_firing_within" s_is_firing_within ["caps","thing"]) (T:Tx mg) (D_is_row:Fn P w K mg base 3 "is_row" ["thing","caps"] Hq) (D_is_tuple_of:Dc P w K mg base):Fn P w K mg base 4 "is_firing_within" ["caps","thing"] Hr:=by
 refine F.fn Sz (λvs H Q E h=>?_) (λf cdv A outer s H vs Q E hr h=>?_)
 ·unfold Hr at h;split at h;rfl;exact h.elim
 refine⟨_,(An (Aw (BK (Aj D_is_tuple_of (hr.mono (by decide)) rfl (AC (cx 1 (by rfl)) (AE (Bx K (by rfl)) rfl T.b_len PySem.boot_len (Am (cx 0 (by rfl)) (by rfl)) (by decide) (by decide) (by rfl) (by rfl)) (AE (Bx K (by rfl)) rfl T.b_len PySem.boot_len (Am (cx 0 (by rfl)) (by rfl)) (by decide) (by decide) (by rfl) (by rfl)) (by rfl)) (by decide) (by rfl) (by rfl)) (CC (AE (Ez rfl) rfl T.b_all boot_all (Am (Bw ["part","row"] [none,none] rfl (Fl P w K rfl T.b_zip (Ao (cx 1 (by rfl)) (cx 0 (by rfl)) (by rfl)) (by rfl) (by rfl) (by rfl) (by rfl) (by rfl)) (AQ.of rfl) (λ_ _ _ _=>(AL K (n:=2) (Ak (Ag 0 (AJ (by rfl)) (by rfl)) (Ak (Ag 1 (AJ (by rfl)) (by rfl)) AK (by rfl)) (by rfl)) (by rfl) (by rfl) (by rfl) (by rfl))) (λ_ _ _ _=>Br) (λ_ _ _ _=>(Aj D_is_row (hr.mono (by decide)) rfl (Ao (cx 0 (by rfl)) (cx 1 (by rfl)) (by rfl)) (by decide) (by rfl) (by rfl))) (by intro _;rfl)) (by rfl)) (by decide) (by decide) (by rfl) (by rfl)))))),?_⟩
 unfold Hr at h
 split at h
 ·rename_i c w
  obtain⟨p,P,S,d,ok,so,rc,rw',q⟩:=h
  have x8:=so.x8
  have b4:=ok.b4
  obtain⟨B,cx,rfl,hB,rB⟩:=Aa.firing (F:=caps P S) rc
  have lB:=rB.len
  rw [List.length_map] at lB
  have lc:(caps P S).length=S.ex.length:=BG
  refine⟨B,_,rfl,.inr (Ae.of hB),B,_,rfl,.inr (Ae.of hB),p,d,rw',λb hb=>?_⟩
  rw [<-lB] at hb
  refine⟨λc=>?_,λc=>q _ H ?_ (Ab.refl _)⟩
  ·rw [hb] at c
   obtain⟨ds,rfl,hl⟩:=Mi c
   obtain⟨A,xs,rfl,hA,rs⟩:=Aa.shape rw'
   have lx:=rs.len
   refine⟨A,B,rfl,⟨_,Ae.of hA⟩,⟨_,Ae.of hB⟩,walk_zip (xs:=xs) (ys:=cx) (λi zs H'=>Ab H H'/\zs=((List.zipWith Cy ds (caps P S)).take i).map V.bl) (by omega) (by omega) ⟨Ab.refl _,rfl⟩
    (λi zs H' h=>by rw [h.2,List.length_map,List.length_take];omega) (λi zs H' h=>⟨Ae.of (h.1 _ _ hA),Ae.of (h.1 _ _ hB)⟩) (λi x y zs H' T hx hy h hT=>?_) λzs H' h=>?_⟩
   ·obtain⟨e,he,re⟩:=rs.got hx
    obtain⟨m,hm,rm⟩:=Ac.mapGot rB hy
    have nT:=Ab.new (o:= .tup [x,y]) hT
    have hi:i<S.ex.length:=by have:=(List.getElem?_eq_some_iff.mp hm).1;omega
    have lm:m.length<=1000:=by
     have:=CI (P:=P) hi
     rw [hm] at this
     rw [Option.some.inj this,Cu];omega
    refine⟨T,_,rfl,Ae.of Ah,rfl,_,_,rfl,_,_,rfl,rfl,trivial,λ_=>⟨p,e,m,Aa.ev (Ev.same (h.1.trans nT)) _ _ re,Aa.ev (Ev.same (h.1.trans nT)) _ _ rm,lm,λb1 H2 e1 s2=>⟨h.1.trans (nT.trans s2),?_⟩⟩,λc=>by cases c⟩
    rw [h.2,Be (ER (f:=Cy) he hm),List.map_append,e1];rfl
   ·intro m hm
    refine⟨m,List.zipWith Cy ds (caps P S),rfl,by rw [Ah,h.2,List.take_of_length_le (by rw [List.length_zipWith];omega)],?_⟩
    exact q _ _ (Ml hl).symm (h.1.trans (Ab.new hm))
  ·rw [hb] at c
   exact(Sv c).symm
 ·exact h.elim
theorem SD:AB ["plant","story","thing"] ["plant","story","thing"] (Au s_is_firing):=AG
theorem SF (F:Df K mg "is_firing" s_is_firing ["plant","story","thing"]) (T:Tx mg) (D_caps_of:Fn P w K mg base 9 "caps_of" ["plant","story"] Fw) (D_is_firing_within:Fn P w K mg base 4 "is_firing_within" ["caps","thing"] Hr):Fn P w K mg base 10 "is_firing" ["plant","story","thing"] Fz:=by
 refine F.fn SD (λvs H Q E h=>?_) (λf cdv A outer s H vs Q E hr h=>?_)
 ·unfold Fz at h;split at h;rfl;exact h.elim
 refine⟨_,(An (Aw (Aj D_is_firing_within (hr.mono (by decide)) rfl (Ao (Aj D_caps_of (hr.mono (by decide)) rfl (Ao (cx 0 (by rfl)) (cx 1 (by rfl)) (by rfl)) (by decide) (by rfl) (by rfl)) (cx 2 (by rfl)) (by rfl)) (by decide) (by rfl) (by rfl)))),?_⟩
 unfold Fz at h
 split at h
 ·rename_i v u w
  obtain⟨p,P,S,d,ok,so,rv,ru,rw',q⟩:=h
  exact⟨p,P,S,ok,so,rv,ru,λv1 H1 s1 r1=>⟨p,P,S,d,ok,so,r1,Aa.ev (Ev.same s1) _ _ rw',λb H2 e s2=>q b H2 e (s1.trans s2)⟩⟩
 ·exact h.elim
theorem SG:AB ["plant","story","firing"] ["plant","story","firing"] (Au s_need_firing):=AG
theorem SH (F:Df K mg "need_firing" s_need_firing ["plant","story","firing"]) (T:Tx mg) (D_is_firing:Fn P w K mg base 10 "is_firing" ["plant","story","thing"] Fz):Fn P w K mg base 11 "need_firing" ["plant","story","firing"] Hs:=by
 refine F.fn SG (λvs H Q E h=>?_) (λf cdv A outer s H vs Q E hr h=>?_)
 ·unfold Hs at h;split at h;rfl;exact h.elim
 refine⟨_,(An (A9 (Ca (BP (Aj D_is_firing (hr.mono (by decide)) rfl (AC (cx 0 (by rfl)) (cx 1 (by rfl)) (cx 2 (by rfl)) (by rfl)) (by decide) (by rfl) (by rfl)) (by intro _;rfl))) (An El) A8)),?_⟩
 unfold Hs at h
 split at h
 ·rename_i v u w
  obtain⟨p,P,S,F,tr,q⟩:=h
  refine⟨p,P,S,FD F,tr.ok,tr.so,tr.r,tr.ru,tr.rw,λb H' e s=>?_⟩
  rw [fireB_is.mpr ⟨F,rfl,tr.fo⟩] at e
  subst e
  exact⟨λc=>(by cases c),λc=>q H' s⟩
 ·exact h.elim
theorem sc_run_day:AB ["plant","story","firing","low","high","main","rows","hour","drawn","made","blown"] ["plant","story","firing"] (Au s_run_day):=AG
theorem SI (F:Df K mg "run_day" s_run_day ["plant","story","firing"]) (T:Tx mg) (D_draws_of:Fn P w K mg base 9 "draws_of" ["plant","story"] Fx) (D_need_firing:Fn P w K mg base 11 "need_firing" ["plant","story","firing"] Hs):Fn P w K mg base 12 "run_day" ["plant","story","firing"] FB:=by
 refine F.fn sc_run_day (λvs H Q E h=>?_) (λf cdv A outer s H vs Q E hr h=>?_)
 ·unfold FB at h;split at h;rfl;exact h.elim
 refine⟨_,(Ai (Bq (Aj D_need_firing (hr.mono (by decide)) rfl (AC (cx 0 (by rfl)) (cx 1 (by rfl)) (cx 2 (by rfl)) (by rfl)) (by decide) (by rfl) (by rfl)) (by rfl)) (Ai (Bl (AF (AW K (by rfl)) (cx 0 (by rfl)) Af (λ_ _=>rfl)) (AL K (n:=3) (Ak (Ag 3 sc_run_day.nd (by rfl)) (Ak (Ag 4 sc_run_day.nd (by rfl)) (Ak (Ag 5 sc_run_day.nd (by rfl)) AK (by rfl)) (by rfl)) (by rfl)) (by rfl) (by rfl) (by rfl) (by rfl)) (by rfl) (by rfl) (by rfl)) (Ai (AI (i:=6) sc_run_day.nd rfl (Az (by rfl)) (BX Cc) (by rfl) (AA (by rfl))) (Ai (Bu PassesOwn.never rfl (DN P w K rfl T.b_enumerate (Am (Aj D_draws_of (hr.mono (by decide)) rfl (Ao (cx 0 (by rfl)) (cx 1 (by rfl)) (by rfl)) (by decide) (by rfl) (by rfl)) (by rfl)) (by rfl) (by rfl) (by rfl) (by rfl)) (AL K (n:=2) (Ak (Ag 7 sc_run_day.nd (by rfl)) (Ak (Ag 8 sc_run_day.nd (by rfl)) AK (by rfl)) (by rfl)) (by rfl) (by rfl) (by rfl) (by rfl)) (Ai (AI (i:=9) sc_run_day.nd rfl (Az (by rfl)) (AE (C5 rfl) rfl T.b_sum boot_sum (Am (AF (AW K (by rfl)) (cx 2 (by rfl)) (cx 7 (by rfl)) (λ_ _=>rfl)) (by rfl)) (by decide) (by decide) (by rfl) (by rfl)) (by rfl) (AA (by rfl))) (Ai (F1 (i:=5) sc_run_day.nd rfl (Az (by rfl)) (At BE (cx 9 (by rfl)) (cx 8 (by rfl))) JS (AA (by rfl))) (Ai (A9 (AU Ed (cx 5 (by rfl)) (cx 3 (by rfl)) (AO _)) (An (Aw (BL (Ao (cx 6 (by rfl)) (BL (Ao (cx 7 (by rfl)) (At BE (cx 3 (by rfl)) (cx 5 (by rfl))) (by rfl))) (by rfl))))) A8) (Ai (AI (i:=10) sc_run_day.nd rfl (Az (by rfl)) (AE (F7 rfl) rfl T.b_max boot_max (Ao (At BE (cx 5 (by rfl)) (cx 4 (by rfl))) Af (by rfl)) (by decide) (by decide) (by rfl) (by rfl)) (by rfl) (AA (by rfl))) (Ai (F1 (i:=5) sc_run_day.nd rfl (Az (by rfl)) (cx 10 (by rfl)) JT (AA (by rfl))) (An (Bq (CG PySem.F.plainAttrs_list PySem.F.slot_list_append PySem.F.type_list_append CH (cx 6 (by rfl)) (Am (BL (Bi (cx 9 (by rfl)) (cx 8 (by rfl)) (cx 10 (by rfl)) (cx 5 (by rfl)) (by rfl))) (by rfl)) (by rfl) (by rfl) (by rfl) (by rfl) (by rfl)) (by rfl)))))))) (by intro _;rfl)) (An (Aw (BL (Ao (cx 6 (by rfl)) BM (by rfl))))))))),?_⟩
 unfold FB at h
 split at h
 ·rename_i v u w
  obtain⟨p,P,S,F,tr,q⟩:=h
  refine⟨p,P,S,F,tr,λH1 s1=>?_⟩
  have t1:=tr.sm s1
  have x8:=tr.so.x8
  have fl:=tr.fo.len
  obtain⟨PA,PB,PE,PM,xb,xe,rfl,pA,pB,rb,pE,re,pM⟩:=Aa.plant t1.r
  refine⟨PA,_,2,.ref PM,rfl,rfl,Ae.of pA,rfl,PM,_,rfl,Ae.of pM,rfl,_,_,rfl,_,_,rfl,_,_,rfl,rfl,λR hR=>?_⟩
  have sR:Ab H1 (upd H1 R (.lst [])):=Ab.new hR
  have hHR:H R=none:=s1.free hR
  have tR:=t1.sm sR
  refine⟨p,P,S,tr.ok,tr.so,tR.r,tR.ru,λv1 H2 s2 r2=>?_⟩
  obtain⟨D,rfl,hD⟩:=Aa.ofRow (r:=draws P S) r2
  have t2:=tR.sm s2
  have sH2:Ab H H2:=s1.trans (sR.trans s2)
  obtain⟨FA,fx,rfl,hF,rx⟩:=Aa.firing t2.rw
  refine⟨D,rfl,⟨_,Ae.of hD⟩,for_enum (xs:=(draws P S).map V.int) (λi σ H'=>(∃x7 x8 x9 x10,σ=[some (.ref PA),some u,some (.ref FA),some (.int P.lo),some (.int P.hi),some (.int (Av P S F i)),some (.ref R),x7,x8,x9,x10])/\Ev R H2 H'/\(∀j,j<i->P.lo<=Bf P S F j)/\∃xs,H' R=some (.lst xs)/\Ac p H' (Dt P S F i) xs)
   ⟨⟨_,_,_,_,rfl⟩,Ev.refl,(λj hj=>absurd hj (Nat.not_lt_zero _)),[],s2 _ _ Ah,.nil⟩ (λi σ H' h=>Ae.of (h.2.1.tup hD)) (λi x σ H' T hx h hT=>?_) fun σ H' h=>?_⟩
  ·obtain⟨⟨x7,x8',x9,x10,rfl⟩,ev,up,xs,hRx,rxs⟩:=h
   rw [List.getElem?_map] at hx
   cases z:(draws P S)[i]? with
   | none=>rw [z] at hx;cases hx
   | some d=>
    rw [z] at hx
    cases hx
    have hi:i<S.ex.length:=by
     have:=(List.getElem?_eq_some_iff.mp z).1
     rw [C4] at this;exact this
    have ed:=ED z
    obtain⟨r,hr⟩:∃r,F[i]? =some r:=⟨F[i],by simp⟩
    have em:=EC hr
    obtain⟨y,hy,ry⟩:=rx.get (i:=i) (d:=AN r) (by rw [List.getElem?_map,hr];rfl)
    have nw:Ab H' (upd H' T (.tup [.int i,.int d])):=Ab.new hT
    have ev2:Ev R H2 (upd H' T (.tup [.int i,.int d])):=ev.trans (Ev.same nw)
    obtain⟨ra,rfl,hra⟩:=Aa.ofRow ry
    refine⟨T,_,rfl,Ae.of Ah,rfl,_,_,rfl,_,_,rfl,rfl,?_⟩
    refine⟨FA,_,(i:Int),.ref ra,rfl,rfl,Ae.of (ev2.tup hF),C2 hy,ra,r,rfl,.inr (ev2.tup hra),_,rfl,_,_,rfl,rfl,?_⟩
    have epm:Av P S F i+(r.sum-d)=Bf P S F i:=by unfold Bf;rw [em,ed]
    refine⟨λc=>?_,λc=>?_⟩
    ·intro t1 ht1 t2 ht2
     have c':=of_decide_eq_true c
     have n12:=(Ab.new (o:= .tup [.int i,.int (P.lo-(Av P S F i+(r.sum-d)))]) ht1).trans (Ab.new (o:= .tup [.ref R,.ref t1]) ht2)
     refine q t2 R (.ref t1) _ i (some ((i:Int),P.lo-Bf P S F i)) xs ⟨Nat.le_of_lt hi,up,.inr ⟨hi,by rw [<-epm];exact c',rfl⟩⟩ (Ab.evOwn sH2 hHR (ev2.trans (Ev.same n12))) hHR Ah ((nw.trans n12) _ _ hRx) (Ac.ev (Ev.same (nw.trans n12)) _ _ rxs) ?_
     refine Aa.tup ((Ab.new ht2) _ _ Ah) ?_
     rw [<-epm]
     exact .cons Aa.int (.cons Aa.int .nil)
    ·refine⟨_,_,rfl,_,rfl,_,_,rfl,rfl,.inl ⟨rfl,_,Al.of (nw _ _ hRx)⟩,λt ht=>?_⟩
     have c':P.lo<=Bf P S F i:=by
      have:=of_decide_eq_false c
      have h2:¬Av P S F i+(r.sum-d)<P.lo:=this
      rw [epm] at h2;omega
     have lx:=rxs.len
     rw [K0] at lx
     have hR3:upd (upd H' T (.tup [.int i,.int d])) t (.tup [.int r.sum,.int d,.int (if 0>Av P S F i+(r.sum-d)-P.hi then 0 else Av P S F i+(r.sum-d)-P.hi),.int (Av P S F i+(r.sum-d)-if 0>Av P S F i+(r.sum-d)-P.hi then 0 else Av P S F i+(r.sum-d)-P.hi)]) R=some (.lst xs):=(nw.trans (Ab.new ht)) _ _ hRx
     have em2:Av P S F i+(r.sum-d)-(if 0>Av P S F i+(r.sum-d)-P.hi then 0 else Av P S F i+(r.sum-d)-P.hi)=Av P S F (i+1):=by rw [Dk,<-epm];rfl
     refine⟨R,xs,.ref t,rfl,rfl,hR3,Co (by omega),⟨some (.int i),some (.int d),some (.int r.sum),some (.int (if 0>Av P S F i+(r.sum-d)-P.hi then 0 else Av P S F i+(r.sum-d)-P.hi)),congrArg (λz=>[some (V.ref PA),some u,some (V.ref FA),some (V.int P.lo),some (V.int P.hi),some (V.int z),some (V.ref R),some (V.int i),some (V.int d),some (V.int r.sum),some (V.int (if 0>Av P S F i+(r.sum-d)-P.hi then 0 else Av P S F i+(r.sum-d)-P.hi))]) em2⟩,(ev2.trans (Ev.new ht)).trans (Ev.pen hR3),λj hj=>?_,_,Ah,?_⟩
     ·by_cases cj:j=i
      ·subst cj;exact c'
      ·exact up j (by omega)
     ·have tv:=TEv.upd (zs:=xs++[.ref t]) hR3
      rw [Pz]
      refine Ac.snoc (Ac.tev ((Ev.same (p:=p) (nw.trans (Ab.new ht))).tev.trans tv) _ _ (DT λd hd=>?_) rxs) (Aa.tev (p:=p) tv _ _ rfl (Aa.tup Ah ?_))
      ·unfold Dt at hd
       obtain⟨k,_,rfl⟩:=List.mem_map.mp hd
       rfl
      ·rw [em,ed,Dk,<-epm]
       exact .cons Aa.int (.cons Aa.int (.cons Aa.int (.cons Aa.int .nil)))
  ·obtain⟨⟨x7,x8',x9,x10,rfl⟩,ev,up,xs,hRx,rxs⟩:=h
   rw [List.length_map,C4] at up rxs
   intro t ht
   have nw:=Ab.new (o:= .tup [.ref R,.non]) ht
   exact q t R .non _ S.ex.length none xs ⟨Nat.le_refl _,up,.inl ⟨rfl,rfl⟩⟩ (Ab.evOwn sH2 hHR (ev.trans (Ev.same nw))) hHR Ah (nw _ _ hRx) (Ac.ev (Ev.same nw) _ _ rxs) Aa.non
 ·exact h.elim
theorem sc_course:AB ["plant","story","firing","rows","short"] ["plant","story","firing"] (Au s_course):=AG
theorem SJ (F:Df K mg "course" s_course ["plant","story","firing"]) (T:Tx mg) (D_run_day:Fn P w K mg base 12 "run_day" ["plant","story","firing"] FB):Fn P w K mg base 13 "course" ["plant","story","firing"] Ht:=by
 refine F.fn sc_course (λvs H Q E h=>?_) (λf cdv A outer s H vs Q E hr h=>?_)
 ·unfold Ht at h;split at h;rfl;exact h.elim
 refine⟨_,(Ai (Bl (Aj D_run_day (hr.mono (by decide)) rfl (AC (cx 0 (by rfl)) (cx 1 (by rfl)) (cx 2 (by rfl)) (by rfl)) (by decide) (by rfl) (by rfl)) (AL K (n:=2) (Ak (Ag 3 sc_course.nd (by rfl)) (Ak (Ag 4 sc_course.nd (by rfl)) AK (by rfl)) (by rfl)) (by rfl) (by rfl) (by rfl) (by rfl)) (by rfl) (by rfl) (by rfl)) (An (Aw (cx 3 (by rfl))))),?_⟩
 unfold Ht at h
 split at h
 ·rename_i v u w
  obtain⟨p,P,S,F,tr,q⟩:=h
  exact⟨p,P,S,F,tr,λt R sv H' k s xs run sm hR ht hRx rx rs=>⟨t,_,rfl,Ae.of ht,rfl,_,_,rfl,_,_,rfl,rfl,q R H' k s xs run sm hR hRx rx⟩⟩
 ·exact h.elim
theorem sc_falls_at:AB ["plant","story","firing","rows","short"] ["plant","story","firing"] (Au s_falls_at):=AG
theorem SK (F:Df K mg "falls_at" s_falls_at ["plant","story","firing"]) (T:Tx mg) (D_run_day:Fn P w K mg base 12 "run_day" ["plant","story","firing"] FB):Fn P w K mg base 13 "falls_at" ["plant","story","firing"] Hu:=by
 refine F.fn sc_falls_at (λvs H Q E h=>?_) (λf cdv A outer s H vs Q E hr h=>?_)
 ·unfold Hu at h;split at h;rfl;exact h.elim
 refine⟨_,(Ai (Bl (Aj D_run_day (hr.mono (by decide)) rfl (AC (cx 0 (by rfl)) (cx 1 (by rfl)) (cx 2 (by rfl)) (by rfl)) (by decide) (by rfl) (by rfl)) (AL K (n:=2) (Ak (Ag 3 sc_falls_at.nd (by rfl)) (Ak (Ag 4 sc_falls_at.nd (by rfl)) AK (by rfl)) (by rfl)) (by rfl) (by rfl) (by rfl) (by rfl)) (by rfl) (by rfl) (by rfl)) (An (Aw (cx 4 (by rfl))))),?_⟩
 unfold Hu at h
 split at h
 ·rename_i v u w
  obtain⟨p,P,S,F,tr,q⟩:=h
  exact⟨p,P,S,F,tr,λt R sv H' k s xs run sm hR ht hRx rx rs=>⟨t,_,rfl,Ae.of ht,rfl,_,_,rfl,_,_,rfl,rfl,q sv H' k s run sm rs⟩⟩
 ·exact h.elim
theorem SL:AB ["plant","story","firing"] ["plant","story","firing"] (Au s_keeps_up):=AG
theorem SM (F:Df K mg "keeps_up" s_keeps_up ["plant","story","firing"]) (T:Tx mg) (D_falls_at:Fn P w K mg base 13 "falls_at" ["plant","story","firing"] Hu):Fn P w K mg base 14 "keeps_up" ["plant","story","firing"] FC:=by
 refine F.fn SL (λvs H Q E h=>?_) (λf cdv A outer s H vs Q E hr h=>?_)
 ·unfold FC at h;split at h;rfl;exact h.elim
 refine⟨_,(An (Aw (Cr DZ (Aj D_falls_at (hr.mono (by decide)) rfl (AC (cx 0 (by rfl)) (cx 1 (by rfl)) (cx 2 (by rfl)) (by rfl)) (by decide) (by rfl) (by rfl)) BM (AO _)))),?_⟩
 unfold FC at h
 split at h
 ·rename_i v u w
  obtain⟨p,P,S,F,tr,q⟩:=h
  refine⟨p,P,S,F,tr,λsv H' k s run sm rs=>⟨rfl,?_⟩⟩
  rw [Sw rs]
  exact q H' k s run sm
 ·exact h.elim
end
end MF
end
section
namespace MF
open PySem PySem.Spec PyProof.Rows L2
variable {H : Hp} {G F : List (List Int)} {S : SY} {i : Nat}
theorem SN {α:Type} (n:Nat) (x:α):(List.replicate n [x]).flatten=List.replicate n x:=by
 induction n with
 | zero=>rfl
 | succ n ih=>rw [List.replicate_succ,List.flatten_cons,ih,List.replicate_succ];rfl
def Feed (H:Hp) (G:List (List Int)) (f:V):Prop:=∃A xs,f= .ref A/\xs.length=G.length/\
 ((H A=some (.tup xs)/\∀(i:Nat) r x,G[i]? =some r->xs[i]? =some x->∃a,x= .ref a/\H a=some (.tup (r.map V.int)))\/(H A=some (.lst xs)/\∀(i:Nat) r x,G[i]? =some r->xs[i]? =some x->∃a,x= .ref a/\H a=some (.lst (r.map V.int))))
theorem Feed.same {H':Hp}{f:V} (x:Feed H G f) (s:Ab H H'):Feed H' G f:=by
 obtain⟨A,xs,e,hl,h⟩:=x
 refine⟨A,xs,e,hl,h.elim (λh=> .inl ⟨s _ _ h.1,λi r x hr hx=>?_⟩) λh=> .inr ⟨s _ _ h.1,λi r x hr hx=>?_⟩⟩
 ·obtain⟨a,e,k⟩:=h.2 i r x hr hx;exact⟨a,e,s _ _ k⟩
 ·obtain⟨a,e,k⟩:=h.2 i r x hr hx;exact⟨a,e,s _ _ k⟩
theorem Feed.of {p:Addr}{f:V} (r:Aa p H (FD G) f):Feed H G f:=by
 obtain⟨A,xs,rfl,hA,rs⟩:=Aa.firing r
 have l:=rs.len
 rw [List.length_map] at l
 refine⟨A,xs,rfl,l.symm,.inl ⟨hA,λi r x hr hx=>?_⟩⟩
 obtain⟨r',hr',rr⟩:=Ac.mapGot rs hx
 rw [hr] at hr'
 cases hr'
 exact Aa.ofRow rr
def CQ (P:PL) (S:SY) (F:List (List Int)) (k:Nat):List Int:=(List.range k).map λj=>Av P S F (j+1)
theorem Mm {P:PL}{k:Nat}:CQ P S F (k+1)=CQ P S F k++[Av P S F (k+1)]:=by unfold CQ;rw [List.range_succ,List.map_append];rfl
theorem Hv {P:PL}{k:Nat}:(CQ P S F k).length=k:=by unfold CQ;simp
theorem Hw {P:PL}{r d:Int} (hr:made F i=r) (hd:C6 P S i=d):(if Av P S F i+r-d<P.hi then Av P S F i+r-d else P.hi)=Av P S F (i+1):=by
 rw [Dk]
 unfold Bf CJ
 rw [hr,hd]
 split<;>split<;>omega
theorem Hx {P:PL} (h:P.lo<=P.hi):Av P S F (i+1)<P.lo↔Bf P S F i<P.lo:=by
 rw [Dk]
 unfold CJ
 split<;>omega
def BC (P:PL) (S:SY) (F:List (List Int)):Prop:=∀i,i<S.ex.length->P.lo<=Bf P S F i
def FE:Sp:=λvs H Q _=>match vs with | [.ref m,d,f]=>∃p P S F,P.lo<=P.hi/\S.ex.length<=8/\F.length=S.ex.length/\H m=some (.tup [.int P.lo,.int P.hi,.int P.st])/\Aa p H (IR P S) d/\Feed H F f/\∀R H' k s,Fo P S F k s->Ab H H'->H R=none->H' R=some (.lst ((CQ P S F k).map V.int))->Q (.ref R) H' | _=>False
def FF:Sp:=λvs H Q _=>match vs with | [v,u,f]=>∃p P S F,PL.ok P/\SY.ok S P.bs.length/\F.length=S.ex.length/\Aa p H P.d v/\Aa p H S.d u/\Feed H F f/\∀b H',(b=true↔BC P S F)->Ab H H'->Q (.bl b) H' | _=>False
def Hy:Sp:=λvs H Q _=>match vs with | [.ref p,.int m,.int h]=>Bc p H/\1<=m/\m<=4/\1<=h/\h<=8/\∀t H' P S v u,PL.ok P->SY.ok S P.bs.length->BC P S (caps P S)->H' t=some (.tup [v,u])->Aa p H' P.d v->Aa p H' S.d u->Ev p H H'->Bc p H'->Q (.ref t) H' | _=>False
theorem CMul.of_bounds {i j:Int} (h0:0<=j) (h1:j<100):CMul i j:= .inr ⟨by omega,by omega⟩
theorem SO {P:PL} (ok:P.ok) (so:S.ok P.bs.length) (he:P.es=[]) (hx:∀a∈S.ex,a=0) (hF:F=caps P S:=by rfl):BC P S F:=by
 subst hF
 have hd:∀i,i<S.ex.length->C6 P S i=0:=λi hi=>by
  have z:S.ex[i]? =some S.ex[i]:=List.getElem?_eq_getElem hi
  rw [ED (IT z),he,hx _ (List.getElem_mem hi)];rfl
 have hm:∀i,i<S.ex.length->0<=made (caps P S) i:=λi hi=>by
  have hg:=CI (P:=P) hi
  rw [EC hg]
  have hb:=(DO (S:=S) ok _ (List.mem_of_getElem? hg)).1
  have:∀l:List Int,(∀a∈l,0<=a/\a<=9)->0<=l.sum:=λl=>by
   induction l with
   | nil=>intro _;exact Int.le_refl _
   | cons a l ih=>
    intro h
    have h1:=h a List.mem_cons_self
    have h2:=ih λx hx=>h x (List.mem_cons_of_mem _ hx)
    rw [List.sum_cons];omega
  exact this _ hb
 have hl:∀i,i<=S.ex.length->P.lo<=Av P S (caps P S) i:=λi=>by
  induction i with
  | zero=>intro _;exact ok.ls
  | succ i ih=>
   intro hi
   have h0:=ih (by omega)
   have h1:=hd i (by omega)
   have h2:=hm i (by omega)
   have h3:=ok.ls
   have h4:=ok.sh
   rw [Dk]
   unfold Bf CJ
   split<;>omega
 intro i hi
 have h0:=hl i (by omega)
 have h1:=hd i hi
 have h2:=hm i hi
 unfold Bf
 omega
theorem SQ {l:List Int}{k:Nat}{x:Int} (h:l[k]? =some x):(l.take (k+1)).sum=(l.take k).sum+x:=by rw [Be h,List.sum_append,List.sum_cons,List.sum_nil];omega
section
variable {P : Program} {w : World} {K : PySem.W.Frag} {mg : Str -> Option Value} {base : Heap}
theorem sc__law_draws:AB ["_law_plant_here","_law_story_here","_law_found","_law_hour","_law_extra","_law_draw_here","_law_first","_law_every"] ["_law_plant_here","_law_story_here"] (Au s__law_draws):=AG
abbrev Hz (P:Program) (w:World) (K:PySem.W.Frag) (mg:Str->Option Value) (base:Heap):Prop:=Fn P w K mg base 1 "_law_draws" ["_law_plant_here","_law_story_here"] Jp
theorem SR (F:Df K mg "_law_draws" s__law_draws ["_law_plant_here","_law_story_here"]) (T:Tx mg)  :Hz P w K mg base:=by
 refine F.fn sc__law_draws (λvs H Q E h=>?_) (λf cdv A outer s H vs Q E hr h=>?_)
 ·unfold Jp at h;split at h;rfl;exact h.elim
 refine⟨_,(Ai (AI (i:=2) sc__law_draws.nd rfl (Az (by rfl)) (BX Cc) (by rfl) (AA (by rfl))) (Ai (Bu PassesOwn.never rfl (DN P w K rfl T.b_enumerate (Am (AF (AW K (by rfl)) (cx 1 (by rfl)) Af (λ_ _=>rfl)) (by rfl)) (by rfl) (by rfl) (by rfl) (by rfl)) (AL K (n:=2) (Ak (Ag 3 sc__law_draws.nd (by rfl)) (Ak (Ag 4 sc__law_draws.nd (by rfl)) AK (by rfl)) (by rfl)) (by rfl) (by rfl) (by rfl) (by rfl)) (Ai (Bu PassesOwn.never rfl (Cf K (AF (AW K (by rfl)) (cx 0 (by rfl)) Af (λ_ _=>rfl)) (by rfl)) (AL K (n:=3) (Ak (Ag 5 sc__law_draws.nd (by rfl)) (Ak (Ag 6 sc__law_draws.nd (by rfl)) (Ak (Ag 7 sc__law_draws.nd (by rfl)) AK (by rfl)) (by rfl)) (by rfl)) (by rfl) (by rfl) (by rfl) (by rfl)) (An (AI (i:=4) sc__law_draws.nd rfl (Az (by rfl)) (At AY (cx 4 (by rfl)) (At Go (cx 5 (by rfl)) (Bv Im rfl T.b_int L2.boot_int (Am (Cr (EB K (by rfl)) (cx 3 (by rfl)) (Qj rfl rfl T.b_list rfl T.b_range (AC (cx 6 (by rfl)) Af (cx 7 (by rfl)) (by rfl)) (by rfl) (by rfl) (by rfl)) (by with_unfolding_all rfl)) (by rfl)) (by decide) (by decide) (by rfl) (by rfl)))) (by rfl) (AA (by rfl)))) (by intro _;rfl)) (An (Bq (CG PySem.F.plainAttrs_list PySem.F.slot_list_append PySem.F.type_list_append CH (cx 2 (by rfl)) (Am (cx 4 (by rfl)) (by rfl)) (by rfl) (by rfl) (by rfl) (by rfl) (by rfl)) (by rfl)))) (by intro _;rfl)) (An (Aw (Bv (BT K (by rfl)) rfl T.b_tuple BQ (Am (cx 2 (by rfl)) (by rfl)) (by decide) (by decide) (by rfl) (by rfl)))))),?_⟩
 unfold Jp at h
 split at h
 ·rename_i v u
  obtain⟨p,P,S,ok,so,r,ru,q⟩:=h
  obtain⟨A,B,E,xf,rfl,hA,hB,hE,rf⟩:=Aa.story ru
  obtain⟨PA,PB,PE,PM,xb,xe,rfl,pA,pB,rb,pE,re,pM⟩:=Aa.plant r
  have x8:=so.x8
  have e4:=ok.e4
  have le:=re.len
  rw [List.length_map] at le
  intro R hR
  have s0:Ab H (upd H R (.lst [])):=Ab.new hR
  refine⟨A,_,0,.ref B,rfl,rfl,Ae.of (s0 _ _ hA),rfl,B,rfl,⟨_,Ae.of (s0 _ _ hB)⟩,for_enum (xs:=S.ex.map V.int) (λi σ H1=>(∃y3 y4 y5 y6 y7,σ=[some (.ref PA),some (.ref A),some (.ref R),y3,y4,y5,y6,y7])/\Ab H H1/\H1 R=some (.lst (((draws P S).take i).map V.int)))
   ⟨⟨_,_,_,_,_,rfl⟩,s0,Ah⟩ (λi σ H1 h=>Ae.of (h.2.1 _ _ hB)) (λi x σ H1 T hx h hT=>?_) fun σ H1 h=>?_⟩
  ·obtain⟨⟨y3,y4,y5,y6,y7,rfl⟩,s1,hR1⟩:=h
   rw [List.getElem?_map] at hx
   cases z:S.ex[i]? with
   | none=>rw [z] at hx;cases hx
   | some n=>
    rw [z] at hx
    cases hx
    have hi:i<S.ex.length:=(List.getElem?_eq_some_iff.mp z).1
    have nT:=Ab.new (o:= .tup [.int i,.int n]) hT
    have s2:=s1.trans nT
    refine⟨T,_,rfl,Ae.of Ah,rfl,_,_,rfl,_,_,rfl,rfl,?_⟩
    refine⟨PA,_,1,.ref PE,rfl,rfl,Ae.of (s2 _ _ pA),rfl,PE,rfl,⟨xe,Ae.of (s2 _ _ pE)⟩,Ih (xs:=xe) (λk σ H2=>(∃y5 y6 y7,σ=[some (.ref PA),some (.ref A),some (.ref R),some (.int i),some (.int (n+((P.es.map λe=>drawn e i).take k).sum)),y5,y6,y7])/\Ab (upd H1 T (.tup [.int i,.int n])) H2)
     ⟨⟨_,_,_,congrArg (λz=>[some (V.ref PA),some (.ref A),some (.ref R),some (.int i),some (.int z),y5,y6,y7]) (Int.add_zero n).symm⟩,Ab.refl _⟩ (λk σ H2 _ h=>Ae.of (h.2 _ _ (s2 _ _ pE))) (λk x σ H2 hx h=>?_) fun σ H2 h=>?_⟩
    ·obtain⟨⟨y5,y6,y7,rfl⟩,s3⟩:=h
     obtain⟨e,he,rd⟩:=Ac.mapGot re hx
     obtain⟨o1,o2,o3,o4,o5,o6⟩:=ok.e e (List.mem_of_getElem? he)
     obtain⟨a,zs,rfl,ha,rz⟩:=Aa.shape (Aa.ev (Ev.same (s2.trans s3)) _ _ rd)
     obtain⟨w1,w2,w3,rfl,r1,r2,r3⟩:=Ac.three rz
     unfold Aa at r1 r2 r3
     subst r1 r2 r3
     refine⟨a,_,rfl,Ae.of ha,rfl,_,_,rfl,_,_,rfl,_,_,rfl,rfl,?_⟩
     refine⟨_,_,_,rfl,⟨by omega,by omega,by omega,by omega,by omega,by omega⟩,λl hl=>⟨l,_,rfl,.inl (Al.of Ah),rfl,Qk,.inr ⟨_,rfl,CMul.of_bounds (by split<;>omega) (by split<;>omega),⟨some (.int e.1),some (.int e.2.1),some (.int e.2.2),?_⟩,s3.trans (Ab.new hl)⟩⟩⟩
     have e1:e.1 *(if (if false=true then !BO (V.int (i:Int)) ((Du e.2.1 8 e.2.2).map V.int) else BO (V.int (i:Int)) ((Du e.2.1 8 e.2.2).map V.int))=true then 1 else 0)=drawn e i:=by
      have ei:(if false=true then !BO (V.int (i:Int)) ((Du e.2.1 8 e.2.2).map V.int) else BO (V.int (i:Int)) ((Du e.2.1 8 e.2.2).map V.int))=BO (V.int (i:Int)) ((Du e.2.1 8 e.2.2).map V.int):=rfl
      rw [ei,Ql o5 (by omega)]
      unfold drawn
      by_cases c:(i:Int)<e.2.1\/((i:Int)-e.2.1) % e.2.2≠0
      ·rw [if_pos c,decide_eq_false (λz=>z c),if_neg (by decide),Int.mul_zero]
      ·rw [if_neg c,decide_eq_true c,if_pos rfl,Int.mul_one]
     have e2:n+((P.es.map λe=>drawn e i).take k).sum+drawn e i=n+((P.es.map λe=>drawn e i).take (k+1)).sum:=by
      rw [SQ (x:=drawn e i) (by rw [List.getElem?_map,he];rfl)];omega
     exact congrArg (λz=>[some (V.ref PA),some (.ref A),some (.ref R),some (.int i),some (.int z),some (.int e.1),some (.int e.2.1),some (.int e.2.2)]) ((congrArg (λz=>n+((P.es.map λe=>drawn e i).take k).sum+z) e1).trans e2)
    ·obtain⟨⟨y5,y6,y7,rfl⟩,s3⟩:=h
     rw [List.take_of_length_le (l:=P.es.map λe=>drawn e i) (by rw [List.length_map];omega)]
     have kR:=(nT.trans s3) _ _ hR1
     refine⟨.inl ⟨rfl,_,Al.of kR⟩,R,_,_,rfl,rfl,kR,Co (by rw [List.length_map,List.length_take];omega),⟨_,_,_,_,_,rfl⟩,Ab.own (s2.trans s3) hR,?_⟩
     rw [Ah,Be (IT z),List.map_append];rfl
  ·obtain⟨⟨y3,y4,y5,y6,y7,rfl⟩,s1,hR1⟩:=h
   refine⟨R,_,rfl,.inl ⟨Al.of hR1,λt ht=>q _ _ (s1.trans (Ab.new ht)) (Aa.row ?_)⟩⟩
   rw [Ah,List.take_of_length_le (by rw [C4,List.length_map];exact Nat.le_refl _)]
 ·exact h.elim
theorem sc__law_mains:AB ["_law_main","_law_draws_here","_law_firing","_law_low","_law_high","_law_here","_law_found","_law_draw_here","_law_row"] ["_law_main","_law_draws_here","_law_firing"] (Au s__law_mains):=AG
theorem SS (F:Df K mg "_law_mains" s__law_mains ["_law_main","_law_draws_here","_law_firing"]) (T:Tx mg)  :Fn P w K mg base 1 "_law_mains" ["_law_main","_law_draws_here","_law_firing"] FE:=by
 refine F.fn sc__law_mains (λvs H Q E h=>?_) (λf cdv A outer s H vs Q E hr h=>?_)
 ·unfold FE at h;split at h;rfl;exact h.elim
 refine⟨_,(Ai (Bl (cx 0 (by rfl)) (AL K (n:=3) (Ak (Ag 3 sc__law_mains.nd (by rfl)) (Ak (Ag 4 sc__law_mains.nd (by rfl)) (Ak (Ag 5 sc__law_mains.nd (by rfl)) AK (by rfl)) (by rfl)) (by rfl)) (by rfl) (by rfl) (by rfl) (by rfl)) (by rfl) (by rfl) (by rfl)) (Ai (AI (i:=6) sc__law_mains.nd rfl (Az (by rfl)) (BX Cc) (by rfl) (AA (by rfl))) (Ai (Bu PassesOwn.never rfl (Qe (Fl P w K rfl T.b_zip (Ao (cx 1 (by rfl)) (cx 2 (by rfl)) (by rfl)) (by rfl) (by rfl) (by rfl) (by rfl) (by rfl)) (Pn P w K rfl T.b_zip (Ao (cx 1 (by rfl)) (cx 2 (by rfl)) (by rfl)) (by rfl) (by rfl) (by rfl) (by rfl) (by rfl))) (AL K (n:=2) (Ak (Ag 7 sc__law_mains.nd (by rfl)) (Ak (Ag 8 sc__law_mains.nd (by rfl)) AK (by rfl)) (by rfl)) (by rfl) (by rfl) (by rfl) (by rfl)) (Ai (AI (i:=5) sc__law_mains.nd rfl (Az (by rfl)) (AE (D0 rfl) rfl T.b_min boot_min (Ao (cx 4 (by rfl)) (At BE (At AY (cx 5 (by rfl)) (AE (C5 rfl) rfl T.b_sum boot_sum (Am (cx 8 (by rfl)) (by rfl)) (by decide) (by decide) (by rfl) (by rfl))) (cx 7 (by rfl))) (by rfl)) (by decide) (by decide) (by rfl) (by rfl)) (by rfl) (AA (by rfl))) (Ai (A9 (AU Ed (cx 5 (by rfl)) (cx 3 (by rfl)) (AO _)) (An (Aw (cx 6 (by rfl)))) A8) (An (Bq (CG PySem.F.plainAttrs_list PySem.F.slot_list_append PySem.F.type_list_append CH (cx 6 (by rfl)) (Am (cx 5 (by rfl)) (by rfl)) (by rfl) (by rfl) (by rfl) (by rfl) (by rfl)) (by rfl))))) (by intro _;rfl)) (An (Aw (cx 6 (by rfl))))))),?_⟩
 unfold FE at h
 split at h
 ·rename_i m d f
  obtain⟨p,P,S,F,hlh,x8,fl,hm,rd,fd,q⟩:=h
  refine⟨m,_,rfl,Ae.of hm,rfl,_,_,rfl,_,_,rfl,_,_,rfl,rfl,λR hR=>?_⟩
  have sR:=Ab.new (o:= .lst []) hR
  have hHR:H R=none:=hR
  obtain⟨D,rfl,hD⟩:=Aa.ofRow (r:=draws P S) (Aa.ev (Ev.same sR) _ _ rd)
  have fd2:=fd.same sR
  have kR0:upd H R (.lst []) R=some (.lst []):=Ah
  have sH2:=sR
  generalize upd H R (.lst [])=H2 at *
  have ld:((draws P S).map V.int).length=S.ex.length:=by rw [List.length_map,C4]
  obtain⟨GA,gx,rfl,lg,⟨hG,rows⟩ | ⟨hG,rows⟩⟩:=fd2
  ·refine Or.inl ⟨D,GA,rfl,⟨_,Ae.of hD⟩,⟨_,Ae.of hG⟩,I8 (xs:=(draws P S).map V.int) (ys:=gx) (λi σ H'=>(∃y7 y8,σ=[some (.ref m),some (.ref D),some (.ref GA),some (.int P.lo),some (.int P.hi),some (.int (Av P S F i)),some (.ref R),y7,y8])/\Ev R H2 H'/\(∀j,j<i->P.lo<=Bf P S F j)/\H' R=some (.lst ((CQ P S F i).map V.int))) (by omega)
     ⟨⟨_,_,rfl⟩,Ev.refl,(λj hj=>absurd hj (Nat.not_lt_zero _)),kR0⟩ (λi σ H' h=>⟨Ae.of (h.2.1.tup hD),Ae.of (h.2.1.tup hG)⟩) (λi x y σ H' T hx hy h hT=>?_) fun σ H' h=>?_⟩
   ·obtain⟨⟨y7,y8,rfl⟩,ev,up,hRx⟩:=h
    rw [List.getElem?_map] at hx
    cases z:(draws P S)[i]? with
    | none=>rw [z] at hx;cases hx
    | some d0=>
     rw [z] at hx
     cases hx
     have hi:i<S.ex.length:=by have:=(List.getElem?_eq_some_iff.mp z).1;rw [C4] at this;exact this
     obtain⟨r,hr⟩:∃r,F[i]? =some r:=⟨F[i],by simp⟩
     obtain⟨ra,rfl,hra⟩:=rows i r y hr hy
     have nT:=Ab.new (o:= .tup [.int d0,.ref ra]) hT
     have ev1:Ev R H2 (upd H' T (.tup [.int d0,.ref ra])):=ev.trans (Ev.same nT)
     refine⟨T,_,rfl,Ae.of Ah,rfl,_,_,rfl,_,_,rfl,rfl,ra,r,rfl,.inr (ev1.tup hra),_,_,rfl,⟨λc=>?_,λc=>?_⟩⟩
     ·have c':=of_decide_eq_true c
      have c':(if Av P S F i+r.sum-d0<P.hi then Av P S F i+r.sum-d0 else P.hi)<P.lo:=c'
      rw [Hw (EC hr) (ED z)] at c'
      exact q R _ i (some ((i:Int),P.lo-Bf P S F i)) ⟨Nat.le_of_lt hi,up,.inr ⟨hi,(Hx hlh).mp c',rfl⟩⟩ (Ab.evOwn sH2 hHR ev1) hHR (nT _ _ hRx)
     ·have c':=of_decide_eq_false c
      have c':¬(if Av P S F i+r.sum-d0<P.hi then Av P S F i+r.sum-d0 else P.hi)<P.lo:=c'
      have em:=Hw (EC hr) (ED z)
      rw [em] at c'
      have kR:=nT _ _ hRx
      refine⟨.inl ⟨rfl,_,Al.of kR⟩,R,_,_,rfl,rfl,kR,Co (by rw [List.length_map,Hv];omega),⟨some (.int d0),some (.ref ra),congrArg (λz=>[some (V.ref m),some (.ref D),some (.ref GA),some (.int P.lo),some (.int P.hi),some (.int z),some (.ref R),some (.int d0),some (.ref ra)]) em⟩,ev1.trans (Ev.pen kR),λj hj=>?_,?_⟩
      ·by_cases cj:j=i
       ·subst cj
        exact Int.not_lt.mp λw=>c' ((Hx hlh).mpr w)
       ·exact up j (by omega)
      ·rw [Ah,Mm,List.map_append]
       exact congrArg (λz=>some (HO.lst ((CQ P S F i).map V.int++[V.int z]))) em
   ·obtain⟨⟨y7,y8,rfl⟩,ev,up,hRx⟩:=h
    rw [List.length_map,C4] at up hRx
    exact q R H' S.ex.length none ⟨Nat.le_refl _,up,.inl ⟨rfl,rfl⟩⟩ (Ab.evOwn sH2 hHR ev) hHR hRx
  ·have nG:GA≠R:=λe=>by
    subst e
    obtain⟨A',gx',eA,_,z⟩:=fd
    cases eA
    rcases z with z | z<;>(rw [hHR] at z;cases z.1)
   have nRow:∀(i:Nat) g a,F[i]? =some g->gx[i]? =some (.ref a)->a≠R:=λi g a hg hy e=>by
    subst e
    obtain⟨A',gx',eA,lg2,z⟩:=fd
    cases eA
    rcases z with⟨z1,z2⟩ | ⟨z1,z2⟩
    ·have:=sH2 _ _ z1
     rw [hG] at this;cases this
    ·have:=sH2 _ _ z1
     rw [hG] at this
     cases this
     obtain⟨a',e',k⟩:=z2 i g _ hg hy
     cases e'
     rw [hHR] at k;cases k
   refine Or.inr ⟨D,GA,rfl,⟨_,Ae.of hD⟩,⟨_,Al.of hG⟩,I8 (xs:=(draws P S).map V.int) (ys:=gx) (λi σ H'=>(∃y7 y8,σ=[some (.ref m),some (.ref D),some (.ref GA),some (.int P.lo),some (.int P.hi),some (.int (Av P S F i)),some (.ref R),y7,y8])/\Ev R H2 H'/\(∀j,j<i->P.lo<=Bf P S F j)/\H' R=some (.lst ((CQ P S F i).map V.int))) (by omega)
     ⟨⟨_,_,rfl⟩,Ev.refl,(λj hj=>absurd hj (Nat.not_lt_zero _)),kR0⟩ (λi σ H' h=>⟨Ae.of (h.2.1.tup hD),Al.of (h.2.1.lst hG nG)⟩) (λi x y σ H' T hx hy h hT=>?_) fun σ H' h=>?_⟩
   ·obtain⟨⟨y7,y8,rfl⟩,ev,up,hRx⟩:=h
    rw [List.getElem?_map] at hx
    cases z:(draws P S)[i]? with
    | none=>rw [z] at hx;cases hx
    | some d0=>
     rw [z] at hx
     cases hx
     have hi:i<S.ex.length:=by have:=(List.getElem?_eq_some_iff.mp z).1;rw [C4] at this;exact this
     obtain⟨r,hr⟩:∃r,F[i]? =some r:=⟨F[i],by simp⟩
     obtain⟨ra,rfl,hra⟩:=rows i r y hr hy
     have nT:=Ab.new (o:= .tup [.int d0,.ref ra]) hT
     have ev1:Ev R H2 (upd H' T (.tup [.int d0,.ref ra])):=ev.trans (Ev.same nT)
     refine⟨T,_,rfl,Ae.of Ah,rfl,_,_,rfl,_,_,rfl,rfl,ra,r,rfl,.inl (ev1.lst hra (nRow i r ra hr hy)),_,_,rfl,⟨λc=>?_,λc=>?_⟩⟩
     ·have c':=of_decide_eq_true c
      have c':(if Av P S F i+r.sum-d0<P.hi then Av P S F i+r.sum-d0 else P.hi)<P.lo:=c'
      rw [Hw (EC hr) (ED z)] at c'
      exact q R _ i (some ((i:Int),P.lo-Bf P S F i)) ⟨Nat.le_of_lt hi,up,.inr ⟨hi,(Hx hlh).mp c',rfl⟩⟩ (Ab.evOwn sH2 hHR ev1) hHR (nT _ _ hRx)
     ·have c':=of_decide_eq_false c
      have c':¬(if Av P S F i+r.sum-d0<P.hi then Av P S F i+r.sum-d0 else P.hi)<P.lo:=c'
      have em:=Hw (EC hr) (ED z)
      rw [em] at c'
      have kR:=nT _ _ hRx
      refine⟨.inl ⟨rfl,_,Al.of kR⟩,R,_,_,rfl,rfl,kR,Co (by rw [List.length_map,Hv];omega),⟨some (.int d0),some (.ref ra),congrArg (λz=>[some (V.ref m),some (.ref D),some (.ref GA),some (.int P.lo),some (.int P.hi),some (.int z),some (.ref R),some (.int d0),some (.ref ra)]) em⟩,ev1.trans (Ev.pen kR),λj hj=>?_,?_⟩
      ·by_cases cj:j=i
       ·subst cj
        exact Int.not_lt.mp λw=>c' ((Hx hlh).mpr w)
       ·exact up j (by omega)
      ·rw [Ah,Mm,List.map_append]
       exact congrArg (λz=>some (HO.lst ((CQ P S F i).map V.int++[V.int z]))) em
   ·obtain⟨⟨y7,y8,rfl⟩,ev,up,hRx⟩:=h
    rw [List.length_map,C4] at up hRx
    exact q R H' S.ex.length none ⟨Nat.le_refl _,up,.inl ⟨rfl,rfl⟩⟩ (Ab.evOwn sH2 hHR ev) hHR hRx
 ·exact h.elim
theorem ST:AB ["_law_plant_here","_law_story_here","_law_firing"] ["_law_plant_here","_law_story_here","_law_firing"] (Au s__law_keeps):=AG
theorem SU (F:Df K mg "_law_keeps" s__law_keeps ["_law_plant_here","_law_story_here","_law_firing"]) (T:Tx mg) (D__law_draws:Hz P w K mg base) (D__law_mains:Fn P w K mg base 1 "_law_mains" ["_law_main","_law_draws_here","_law_firing"] FE):Fn P w K mg base 2 "_law_keeps" ["_law_plant_here","_law_story_here","_law_firing"] FF:=by
 refine F.fn ST (λvs H Q E h=>?_) (λf cdv A outer s H vs Q E hr h=>?_)
 ·unfold FF at h;split at h;rfl;exact h.elim
 refine⟨_,(An (Aw (Cr Ep (AE (Bx K (by rfl)) rfl T.b_len PySem.boot_len (Am (Aj D__law_mains (hr.mono (by decide)) rfl (AC (AF (AW K (by rfl)) (cx 0 (by rfl)) Af (λ_ _=>rfl)) (Aj D__law_draws (hr.mono (by decide)) rfl (Ao (cx 0 (by rfl)) (cx 1 (by rfl)) (by rfl)) (by decide) (by rfl) (by rfl)) (cx 2 (by rfl)) (by rfl)) (by decide) (by rfl) (by rfl)) (by rfl)) (by decide) (by decide) (by rfl) (by rfl)) (AE (Bx K (by rfl)) rfl T.b_len PySem.boot_len (Am (cx 2 (by rfl)) (by rfl)) (by decide) (by decide) (by rfl) (by rfl)) (AO _)))),?_⟩
 unfold FF at h
 split at h
 ·rename_i v u f
  obtain⟨p,P,S,F,ok,so,fl,r,ru,fd,q⟩:=h
  have x8:=so.x8
  have hl:P.lo<=P.hi:=Int.le_trans ok.ls ok.sh
  obtain⟨PA,PB,PE,PM,xb,xe,rfl,pA,pB,rb,pE,re,pM⟩:=Aa.plant r
  refine⟨PA,_,2,.ref PM,rfl,rfl,Ae.of pA,rfl,p,P,S,ok,so,r,ru,λd H1 s1 rd=>⟨p,P,S,F,hl,x8,fl,s1 _ _ pM,rd,fd.same s1,λR H2 k s run s2 hR hRx=>?_⟩⟩
  have fd2:=(fd.same (s1.trans s2))
  obtain⟨GA,gx,rfl,lg,fdc⟩:=fd2
  have kg:Al K H2 GA gx\/Ae K H2 GA gx:=fdc.elim (λz=> .inr (Ae.of z.1)) λz=> .inl (Al.of z.1)
  refine⟨R,_,rfl,.inl (Al.of hRx),GA,gx,rfl,kg,rfl,?_⟩
  refine q _ _ ?_ (s1.trans s2)
  rw [List.length_map,Hv,lg,fl]
  constructor
  ·intro c i hi
   have e:(k:Int)=(S.ex.length:Int):=by
    have:=of_decide_eq_true c
    injection this
   exact run.up i (by omega)
  ·intro kp
   refine decide_eq_true ?_
   rcases run.fin with⟨_,e⟩ | ⟨e1,e2,_⟩
   ·rw [e]
   ·have:=kp k e1
    omega
 ·exact h.elim
theorem sc__law_pair:AB ["_law_pen_here","_law_most","_law_hours","_law_turn","_law_plant_here","_law_story_here"] ["_law_pen_here","_law_most","_law_hours"] (Au s__law_pair):=AG
theorem SV (F:Df K mg "_law_pair" s__law_pair ["_law_pen_here","_law_most","_law_hours"]) (T:Tx mg) (D__law_caps:Fy P w K mg base) (D__law_keeps:Fn P w K mg base 2 "_law_keeps" ["_law_plant_here","_law_story_here","_law_firing"] FF) (D__law_plant:Fn P w K mg base 2 "_law_plant" ["_law_pen_here","_law_most"] Hg) (D__law_story:Fn P w K mg base 2 "_law_story" ["_law_pen_here","_law_plant_here","_law_most"] Ho):Fn P w K mg base 3 "_law_pair" ["_law_pen_here","_law_most","_law_hours"] Hy:=by
 refine F.fn sc__law_pair (λvs H Q E h=>?_) (λf cdv A outer s H vs Q E hr h=>?_)
 ·unfold Hy at h;split at h;rfl;exact h.elim
 refine⟨_,(Ai (Bu PassesOwn.never rfl (Cb rfl T.b_range (Am Af (by rfl)) (by rfl)) (Ag 3 sc__law_pair.nd (by rfl)) (Ai (AI (i:=4) sc__law_pair.nd rfl (Az (by rfl)) (Aj D__law_plant (hr.mono (by decide)) rfl (Ao (cx 0 (by rfl)) (cx 1 (by rfl)) (by rfl)) (by decide) (by rfl) (by rfl)) (by rfl) (AA (by rfl))) (Ai (AI (i:=5) sc__law_pair.nd rfl (Az (by rfl)) (Aj D__law_story (hr.mono (by decide)) rfl (AC (cx 0 (by rfl)) (cx 4 (by rfl)) (cx 2 (by rfl)) (by rfl)) (by decide) (by rfl) (by rfl)) (by rfl) (AA (by rfl))) (An (A9 (BP (Aj D__law_keeps (hr.mono (by decide)) rfl (AC (cx 4 (by rfl)) (cx 5 (by rfl)) (Aj D__law_caps (hr.mono (by decide)) rfl (Ao (cx 4 (by rfl)) (cx 5 (by rfl)) (by rfl)) (by decide) (by rfl) (by rfl)) (by rfl)) (by decide) (by rfl) (by rfl)) (by intro _;rfl)) (An (Aw (BL (Ao (cx 4 (by rfl)) (cx 5 (by rfl)) (by rfl))))) A8)))) (by intro _;rfl)) (An (Aw (BL (Ao (At Fj (BN s_tup (cx 4 (by rfl)) Ce (BA Af)) (BL (Ao (BL Cc) (AF (AW K (by rfl)) (cx 4 (by rfl)) Af (λ_ _=>rfl)) (by rfl)))) (BL (Ao (At PH (BL (Am Af (by rfl))) (AE (Bx K (by rfl)) rfl T.b_len PySem.boot_len (Am (AF (AW K (by rfl)) (cx 5 (by rfl)) Af (λ_ _=>rfl)) (by rfl)) (by decide) (by decide) (by rfl) (by rfl))) (AF (AW K (by rfl)) (cx 5 (by rfl)) Af (λ_ _=>rfl)) (by rfl))) (by rfl)))))),?_⟩
 unfold Hy at h
 split at h
 ·rename_i p m h
  obtain⟨pn,m1,m4,h1,h8,q⟩:=h
  refine⟨5,rfl,by decide,by decide,CN (n:=5) (λi σ H'=>(∃x3 x4 x5,σ=[some (.ref p),some (.int m),some (.int h),x3,x4,x5]/\(0<i->∃v u P S,x4=some v/\x5=some u/\PL.ok P/\SY.ok S P.bs.length/\Aa p H' P.d v/\Aa p H' S.d u))/\Ev p H H'/\Bc p H') ⟨⟨_,_,_,rfl,λz=>absurd z (Nat.lt_irrefl _)⟩,Ev.refl,pn⟩ (λi σ H1 hi hP=>?_) fun σ H1 hP=>?_⟩
  ·obtain⟨⟨x3,x4,x5,rfl,_⟩,e1,pn1⟩:=hP
   refine⟨pn1,m1,m4,λv H2 bs es lo hi st gp rv e2 pn2=>?_⟩
   obtain⟨P,ok,eP⟩:=gp.pl
   rw [eP] at rv
   refine⟨pn2,h1,h8,P,ok,rv,λu H3 S so ru e3 pn3=>?_⟩
   have rv3:=Aa.ev e3 _ _ rv
   refine⟨p,P,S,ok,so,rv3,ru,λc H4 s4 rc=>⟨p,P,S,caps P S,ok,so,BG,Aa.ev (Ev.same s4) _ _ rv3,Aa.ev (Ev.same s4) _ _ ru,Feed.of rc,λb H5 hb s5=>⟨λcc=>?_,λcc=>?_⟩⟩⟩
   ·intro t ht
    have n1:=Ab.new (o:= .tup [v,u]) ht
    have s45:=s4.trans (s5.trans n1)
    exact q t _ P S v u ok so (hb.mp cc) Ah (Aa.ev (Ev.same s45) _ _ rv3) (Aa.ev (Ev.same s45) _ _ ru) (e1.trans (e2.trans (e3.trans (Ev.same s45)))) (pn3.same s45)
   ·have s45:=s4.trans s5
    exact⟨⟨_,_,_,rfl,λ_=>⟨v,u,P,S,rfl,rfl,ok,so,Aa.ev (Ev.same s45) _ _ rv3,Aa.ev (Ev.same s45) _ _ ru⟩⟩,e1.trans (e2.trans (e3.trans (Ev.same s45))),pn3.same s45⟩
  ·obtain⟨⟨x3,x4,x5,rfl,hh⟩,e1,pn1⟩:=hP
   obtain⟨v,u,P,S,rfl,rfl,ok,so,rv,ru⟩:=hh (by decide)
   obtain⟨A,B,E,xf,rfl,hA,hB,hE,rf⟩:=Aa.story ru
   obtain⟨PA,PB,PE,PM,xb,xe,rfl,pA,pB,rb,pE,re,pM⟩:=Aa.plant rv
   have x8:=so.x8
   have x1:=so.x1
   refine⟨1,rfl,PA,_,rfl,pA,λu1 H2 s2 k2 z1 hz1=>?_⟩
   have n1:=Ab.new (o:= .tup []) hz1
   refine⟨PA,_,2,.ref PM,rfl,rfl,Ae.of ((s2.trans n1) _ _ pA),rfl,λz2 hz2=>?_⟩
   have n2:=Ab.new (o:= .tup [.ref z1,.ref PM]) hz2
   have s12:=s2.trans (n1.trans n2)
   refine⟨u1,z2,_,_,rfl,rfl,(n1.trans n2) _ _ k2,Ah,(show(1:Nat)+2<=1000 by decide),λu3 H3 s3 k3 z3 hz3=>?_⟩
   have n3:=Ab.new (o:= .tup [.int 0]) hz3
   have s13:=s12.trans (s3.trans n3)
   refine⟨A,_,0,.ref B,rfl,rfl,Ae.of (s13 _ _ hA),rfl,B,_,rfl,.inr (Ae.of (s13 _ _ hB)),z3,_,[.int 0],rfl,rfl,Ah,by simp,(by rw [List.length_map];omega),(by rw [List.length_map];omega),by simp,λu4 H4 s4 k4=>?_⟩
   rw [List.length_map,Int.toNat_natCast,SN] at k4
   have s14:=s13.trans s4
   refine⟨A,_,1,.ref E,rfl,rfl,Ae.of (s14 _ _ hA),rfl,λz5 hz5 t ht=>?_⟩
   have n5:=Ab.new (o:= .tup [.ref u4,.ref E]) hz5
   have n6:=Ab.new (o:= .tup [.ref u3,.ref z5]) ht
   have s16:=s14.trans (n5.trans n6)
   let P':PL:=⟨P.bs,[],P.lo,P.hi,P.st⟩
   let S':SY:=⟨List.replicate S.ex.length 0,S.fs⟩
   have ok':PL.ok P':=⟨ok.b,ok.b1,ok.b4,λ_ z=>(by cases z),Nat.zero_le _,ok.lo0,ok.ls,ok.sh,ok.h4⟩
   have le':S'.ex.length=S.ex.length:=List.length_replicate
   have so':SY.ok S' P'.bs.length:=⟨by rw [le'];exact so.x1,by rw [le'];exact so.x8,λa ha=>by rw [List.eq_of_mem_replicate ha];omega,so.f4,λx hx=>by rw [le'];exact so.f x hx⟩
   have z1k:=((n2.trans (s3.trans (n3.trans (s4.trans (n5.trans n6))))) _ _ (Ah (H:=H2) (a:=z1) (o:= .tup [])))
   refine q t _ P' S' (.ref u3) (.ref z5) ok' so' (SO ok' so' rfl λa ha=>List.eq_of_mem_replicate ha) Ah ?_ ?_ (e1.trans (Ev.same s16)) (pn1.same s16)
   ·have k3':=(n3.trans (s4.trans (n5.trans n6))) _ _ k3
    refine Aa.tup (xs:=[.ref PB,.ref z1,.ref PM]) k3' (.cons (Aa.tup (s16 _ _ pB) (Ac.ev (Ev.same s16) _ _ rb)) (.cons (Aa.tup z1k .nil) (.cons (Aa.tup (s16 _ _ pM) (.cons Aa.int (.cons Aa.int (.cons Aa.int .nil)))) .nil)))
   ·have k5:=n6 _ _ (Ah (H:=H4) (a:=z5) (o:= .tup [.ref u4,.ref E]))
    refine Aa.tup k5 (.cons (Aa.row ?_) (.cons (Aa.tup (s16 _ _ hE) (Ac.ev (Ev.same s16) _ _ rf)) .nil))
    have:=(n5.trans n6) _ _ k4
    rw [this,List.map_replicate]
 ·exact h.elim
end
end MF
end
section
namespace MF
open PySem PySem.Spec PyProof.Rows L2
variable {H H' : Hp} {R p a : Addr} {F : List (List Int)} {i : Nat}
structure Rows (H H':Hp) (R:Addr) (as:List Addr) (F:List (List Int)):Prop where
 k:H' R=some (.lst (as.map V.ref))
 l:as.length=F.length
 g:∀(i:Nat) a r,as[i]? =some a->F[i]? =some r->H' a=some (.lst (r.map V.int))
 nd:as.Nodup
 fr:∀a∈as,H a=none/\a≠R
 fR:H R=none
theorem Rows.ev {H2:Hp}{as:List Addr} (h:Rows H H' R as F) (pn:Bc p H) (e:Ev p H' H2):Rows H H2 R as F:=
 ⟨e.lst h.k (pn.ne h.fR),h.l,λi a r ha hr=>e.lst (h.g i a r ha hr) (pn.ne (h.fr a (List.mem_of_getElem? ha)).1),h.nd,h.fr,h.fR⟩
theorem Rows.feed {as:List Addr} (h:Rows H H' R as F):Feed H' F (.ref R):=by
 refine⟨R,as.map V.ref,rfl,by rw [List.length_map];exact h.l,.inr ⟨h.k,λi r x hr hx=>?_⟩⟩
 rw [List.getElem?_map] at hx
 cases z:as[i]? with
 | none=>rw [z] at hx;cases hx
 | some a=>
  rw [z] at hx
  cases hx
  exact⟨a,rfl,h.g i a r z hr⟩
theorem Rows.put {as:List Addr} (h:Rows H H' R as F) {i:Nat} (ha:as[i]? =some a) (r:List Int):Rows H (upd H' a (.lst (r.map V.int))) R as (F.set i r):=by
 have ma:=List.mem_of_getElem? ha
 have hi:i<as.length:=(List.getElem?_eq_some_iff.mp ha).1
 refine⟨by rw [As (Ne.symm (h.fr a ma).2)];exact h.k,by rw [List.length_set];exact h.l,λj b s hb hs=>?_,h.nd,h.fr,h.fR⟩
 by_cases e:j=i
 ·subst e
  rw [ha] at hb
  cases hb
  rw [List.getElem?_set_self (by rw [<-h.l];exact hi)] at hs
  cases hs
  exact Ah
 ·rw [List.getElem?_set_ne (Ne.symm e)] at hs
  have hb':=hb
  have ne:b≠a:=λz=>by
   subst z
   obtain⟨hj,e1⟩:=List.getElem?_eq_some_iff.mp hb
   obtain⟨hi2,e2⟩:=List.getElem?_eq_some_iff.mp ha
   rcases Nat.lt_or_gt_of_ne e with q | q
   ·exact List.pairwise_iff_getElem.mp h.nd j i hj hi2 q (e1.trans e2.symm)
   ·exact List.pairwise_iff_getElem.mp h.nd i j hi2 hj q (e2.trans e1.symm)
  rw [As ne]
  exact h.g j b s hb hs
theorem FOk.put {P:PL}{S:SY} (fo:FOk P S F) {i j:Nat}{r:List Int}{x y:Int} (hr:F[i]? =some r) (hx:r[j]? =some x) (h0:0<=y) (hy:y<=x):FOk P S (F.set i (r.set j y)):=by
 have hi:i<F.length:=(List.getElem?_eq_some_iff.mp hr).1
 have hj:j<r.length:=(List.getElem?_eq_some_iff.mp hx).1
 refine⟨by rw [List.length_set];exact fo.len,λk s hs=>?_,λk s m z c hs hz hc=>?_⟩
 ·by_cases e:k=i
  ·subst e
   rw [List.getElem?_set_self hi] at hs
   cases hs
   rw [List.length_set]
   exact fo.row k r hr
  ·rw [List.getElem?_set_ne (Ne.symm e)] at hs
   exact fo.row k s hs
 ·by_cases e:k=i
  ·subst e
   rw [List.getElem?_set_self hi] at hs
   cases hs
   by_cases e2:m=j
   ·subst e2
    rw [List.getElem?_set_self hj] at hz
    cases hz
    have:=fo.bd k r m x c hr hx hc
    exact⟨h0,by omega⟩
   ·rw [List.getElem?_set_ne (Ne.symm e2)] at hz
    exact fo.bd k r m z c hr hz hc
  ·rw [List.getElem?_set_ne (Ne.symm e)] at hs
   exact fo.bd k s m z c hs hz hc
theorem Bc.own {o:HO} (h:Bc p H) (n:a≠p):Bc p (upd H a o):=by
 obtain⟨l,f,e⟩:=h;exact⟨l,f,by rw [As (Ne.symm n)];exact e⟩
theorem FG {as:List Addr} (h:as[i]? =some a):CF (as.map V.ref) (i:Int)=some (.ref a):=C2 (by rw [List.getElem?_map,h];rfl)
theorem Jq {r:List Int}{x:Int} (h:r[i]? =some x):CF (r.map V.int) (i:Int)=some (.int x):=C2 (by rw [List.getElem?_map,h];rfl)
theorem Jr {α:Type}:∀ {l:List α}{i:Nat}{x:α},l[i]? =some x->l.set i x=l
 | [],_,_,_=>rfl
 | a::l,0,x,h=>by cases h;rfl
 | a::l,i+1,x,h=>by rw [List.set_cons_succ,Jr (l:=l) (by simpa using h)]
theorem map_set {r:List Int}{x:Int}:(r.map V.int).set i (.int x)=(r.set i x).map V.int:=by rw [List.map_set]
def HA:Sp:=λvs H Q _=>match vs with | [.ref p,v,u]=>Bc p H/\∃P S,PL.ok P/\SY.ok S P.bs.length/\BC P S (caps P S)/\Aa p H P.d v/\Aa p H S.d u/\∀w H' F,FOk P S F->BC P S F->Aa p H' (FD F) w->Ev p H H'->Bc p H'->Q w H' | _=>False
section
variable {P : Program} {w : World} {K : PySem.W.Frag} {mg : Str -> Option Value} {base : Heap}
theorem sc__law_kept_firing:AB ["_law_pen_here","_law_plant_here","_law_story_here","_law_rows","_law_turn","_law_hour","_law_boiler","_law_less"] ["_law_pen_here","_law_plant_here","_law_story_here"] (Au s__law_kept_firing):=AG
theorem SW (F:Df K mg "_law_kept_firing" s__law_kept_firing ["_law_pen_here","_law_plant_here","_law_story_here"]) (T:Tx mg) (D__law_caps:Fy P w K mg base) (D__law_draw:Hf P w K mg base) (D__law_keeps:Fn P w K mg base 2 "_law_keeps" ["_law_plant_here","_law_story_here","_law_firing"] FF):Fn P w K mg base 3 "_law_kept_firing" ["_law_pen_here","_law_plant_here","_law_story_here"] HA:=by
 refine F.fn sc__law_kept_firing (λvs H Q E h=>?_) (λf cdv A outer s H vs Q E hr h=>?_)
 ·unfold HA at h;split at h;rfl;exact h.elim
 refine⟨_,(Ai (Fd (i:=3) ["_law_row"] [none] sc__law_kept_firing.nd rfl (Az (by rfl)) rfl (Cf K (Aj D__law_caps (hr.mono (by decide)) rfl (Ao (cx 1 (by rfl)) (cx 2 (by rfl)) (by rfl)) (by decide) (by rfl) (by rfl)) (by rfl)) (AQ.of rfl) (λ_ _ _ _=>(Ag 0 (AJ (by rfl)) (by rfl))) (λ_ _ _ _=>Br) (λ_ _ _ _=>(Bv (Pl K (by rfl)) rfl T.b_list IK (Am (cx 0 (by rfl)) (by rfl)) (by decide) (by decide) (by rfl) (by rfl))) (by rfl) (AA (by rfl)) (by intro _;rfl)) (Ai (Bu PassesOwn.never rfl (Cb rfl T.b_range (Am (Aj D__law_draw (hr.mono (by decide)) rfl (Ao (cx 0 (by rfl)) Af (by rfl)) (by decide) (by rfl) (by rfl)) (by rfl)) (by rfl)) (Ag 4 sc__law_kept_firing.nd (by rfl)) (Ai (FZ (i:=5) (j:=6) rfl sc__law_kept_firing.nd rfl rfl (by decide) rfl rfl (Ao (Aj D__law_draw (hr.mono (by decide)) rfl (Ao (cx 0 (by rfl)) (AE (Bx K (by rfl)) rfl T.b_len PySem.boot_len (Am (cx 3 (by rfl)) (by rfl)) (by decide) (by decide) (by rfl) (by rfl)) (by rfl)) (by decide) (by rfl) (by rfl)) (Aj D__law_draw (hr.mono (by decide)) rfl (Ao (cx 0 (by rfl)) (AE (Bx K (by rfl)) rfl T.b_len PySem.boot_len (Am (AF (AW K (by rfl)) (cx 1 (by rfl)) Af (λ_ _=>rfl)) (by rfl)) (by decide) (by decide) (by rfl) (by rfl)) (by rfl)) (by decide) (by rfl) (by rfl)) (by rfl)) (by rfl) (by rfl)) (Ai (AI (i:=7) sc__law_kept_firing.nd rfl (Az (by rfl)) (AE (D0 rfl) rfl T.b_min boot_min (Ao (AF (Bp K (by rfl)) (AF (Bp K (by rfl)) (cx 3 (by rfl)) (cx 5 (by rfl)) (λ_ _=>rfl)) (cx 6 (by rfl)) (λ_ _=>rfl)) (At AY Af (Aj D__law_draw (hr.mono (by decide)) rfl (Ao (cx 0 (by rfl)) Af (by rfl)) (by decide) (by rfl) (by rfl))) (by rfl)) (by decide) (by decide) (by rfl) (by rfl)) (by rfl) (AA (by rfl))) (Ai (Bl (At BE (AF (Bp K (by rfl)) (AF (Bp K (by rfl)) (cx 3 (by rfl)) (cx 5 (by rfl)) (λ_ _=>rfl)) (cx 6 (by rfl)) (λ_ _=>rfl)) (cx 7 (by rfl))) (FY (AF (Bp K (by rfl)) (cx 3 (by rfl)) (cx 5 (by rfl)) (λ_ _=>rfl)) (cx 6 (by rfl)) Ga (by intro _;rfl)) (by rfl) (by rfl) (by rfl)) (An (A9 (Ca (BP (Aj D__law_keeps (hr.mono (by decide)) rfl (AC (cx 1 (by rfl)) (cx 2 (by rfl)) (cx 3 (by rfl)) (by rfl)) (by decide) (by rfl) (by rfl)) (by intro _;rfl))) (An (Bl (At AY (AF (Bp K (by rfl)) (AF (Bp K (by rfl)) (cx 3 (by rfl)) (cx 5 (by rfl)) (λ_ _=>rfl)) (cx 6 (by rfl)) (λ_ _=>rfl)) (cx 7 (by rfl))) (FY (AF (Bp K (by rfl)) (cx 3 (by rfl)) (cx 5 (by rfl)) (λ_ _=>rfl)) (cx 6 (by rfl)) Ga (by intro _;rfl)) (by rfl) (by rfl) (by rfl))) A8))))) (by intro _;rfl)) (An (Aw (Bv (BT K (by rfl)) rfl T.b_tuple BQ (Am (Bw ["_law_row"] [none] rfl (Gs K (cx 3 (by rfl)) (by rfl)) (AQ.of rfl) (λ_ _ _ _=>(Ag 0 (AJ (by rfl)) (by rfl))) (λ_ _ _ _=>Br) (λ_ _ _ _=>(Bv (BT K (by rfl)) rfl T.b_tuple BQ (Am (cx 0 (by rfl)) (by rfl)) (by decide) (by decide) (by rfl) (by rfl))) (by intro _;rfl)) (by rfl)) (by decide) (by decide) (by rfl) (by rfl)))))),?_⟩
 unfold HA at h
 split at h
 ·rename_i p v u
  obtain⟨pn,P,S,ok,so,kc,rv,ru,q⟩:=h
  have x8:=so.x8
  have x1:=so.x1
  have b4:=ok.b4
  have b1:=ok.b1
  refine⟨p,P,S,ok,so,rv,ru,λc H1 s1 rc=>?_⟩
  obtain⟨CA,cx,rfl,hC,rC⟩:=Aa.firing (F:=caps P S) rc
  have lC:=rC.len
  rw [List.length_map,BG] at lC
  refine⟨CA,rfl,⟨_,Ae.of hC⟩,Cm (xs:=cx) (λi zs H'=>Ab H1 H'/\∃as:List Addr,zs=as.map V.ref/\as.length=i/\(∀(j:Nat) a r,as[j]? =some a->(caps P S)[j]? =some r->H' a=some (.lst (r.map V.int)))/\as.Nodup/\∀a∈as,H a=none/\∃o,H' a=some o) (by omega) ⟨Ab.refl _,[],rfl,rfl,λj a r z=>(by cases z),List.nodup_nil,λa z=>by cases z⟩ (λi zs H' h=>by obtain⟨_,as,e,l,_⟩:=h;rw [e,List.length_map];omega) (λi zs H' _ h=>Ae.of (h.1 _ _ hC)) (λi x zs H2 hx h=>?_) λzs H2 h=>?_⟩
  ·obtain⟨r,hr,rr⟩:=Ac.mapGot rC hx
   obtain⟨s2,as,rfl,la,g,nd,fr⟩:=h
   obtain⟨ra,rfl,hra⟩:=Aa.ofRow rr
   refine⟨trivial,λ_=>⟨ra,_,rfl,.inr (Ae.of (s2 _ _ hra)),λl hl=>?_⟩,λz=>by cases z⟩
   have nl:=Ab.new (o:= .lst (r.map V.int)) hl
   refine⟨s2.trans nl,as++[l],by rw [List.map_append];rfl,by rw [List.length_append,la];rfl,λj a r' ha hr'=>?_,?_,λa ha=>?_⟩
   ·by_cases e:j<as.length
    ·rw [List.getElem?_append_left e] at ha
     exact nl _ _ (g j a r' ha hr')
    ·have hj:=(List.getElem?_eq_some_iff.mp ha).1
     rw [List.length_append,List.length_singleton] at hj
     obtain rfl:j=i:=by omega
     rw [<-la,List.getElem?_concat_length] at ha
     cases ha
     rw [hr] at hr'
     cases hr'
     exact Ah
   ·rw [List.nodup_append]
    refine⟨nd,by simp,λa ha b hb e=>?_⟩
    rw [List.mem_singleton] at hb
    subst hb e
    obtain⟨_,o,ho⟩:=fr _ ha
    rw [hl] at ho;cases ho
   ·rcases List.mem_append.mp ha with ha | ha
    ·obtain⟨f1,o,ho⟩:=fr a ha
     exact⟨f1,o,nl _ _ ho⟩
    ·rw [List.mem_singleton] at ha
     subst ha
     exact⟨s1.free (s2.free hl),_,Ah⟩
  ·obtain⟨s2,as,rfl,la,g,nd,fr⟩:=h
   intro R hR
   have nR:=Ab.new (o:= .lst (as.map V.ref)) hR
   have s3:=s1.trans (s2.trans nR)
   have rows0:Rows H (upd H2 R (.lst (as.map V.ref))) R as (caps P S):=⟨Ah,by rw [la,BG];exact lC.symm,λi a r ha hr=>nR _ _ (g i a r ha hr),nd,λa ha=>⟨(fr a ha).1,λe=>by obtain⟨_,o,ho⟩:=fr a ha;rw [e,hR] at ho;cases ho⟩,s1.free (s2.free hR)⟩
   generalize upd H2 R (.lst (as.map V.ref))=H3 at rows0 s3 ⊢
   refine⟨pn.same s3,by decide,by decide,λk H4 k0 k30 e4 pn4=>⟨k,rfl,by omega,by omega,CN (λi σ H'=>(∃x4 x5 x6 x7,σ=[some (.ref p),some v,some u,some (.ref R),x4,x5,x6,x7])/\Ev p H H'/\Bc p H'/\∃F,Rows H H' R as F/\FOk P S F/\BC P S F) ⟨⟨_,_,_,_,rfl⟩,(Ev.same s3).trans e4,pn4,_,rows0.ev pn e4,FOk.caps ok,kc⟩ (λi σ H5 hi hP=>?_) fun σ H5 hP=>?_⟩⟩
   ·obtain⟨⟨x4,x5,x6,x7,rfl⟩,e5,pn5,F,rows,fo,kp⟩:=hP
    have lF:=fo.len
    have la2:=rows.l
    refine⟨R,_,rfl,.inl (Al.of rows.k),pn5,by rw [List.length_map];omega,by rw [List.length_map];omega,λg1 H6 g10 g1l e6 pn6=>?_⟩
    rw [List.length_map] at g1l
    have e16:=e5.trans e6
    obtain⟨PA,PB,PE,PM,xb,xe,rfl,pA,pB,rb,pE,re,pM⟩:=Aa.plant (Aa.ev e16 _ _ rv)
    have lb:=rb.len
    rw [List.length_map] at lb
    refine⟨PA,_,0,.ref PB,rfl,rfl,Ae.of pA,rfl,PB,_,rfl,.inr (Ae.of pB),pn6,by omega,by omega,λg2 H7 g20 g2l e7 pn7=>⟨_,_,rfl,?_⟩⟩
    obtain⟨gi,rfl⟩:=Int.eq_ofNat_of_zero_le g10
    obtain⟨gb,rfl⟩:=Int.eq_ofNat_of_zero_le g20
    have hgi:gi<F.length:=by omega
    obtain⟨a,ha⟩:∃a,as[gi]? =some a:=⟨_,List.getElem?_eq_getElem (by omega)⟩
    obtain⟨r,hr⟩:∃r,F[gi]? =some r:=⟨_,List.getElem?_eq_getElem hgi⟩
    have lr:=fo.row gi r hr
    have hgb:gb<r.length:=by omega
    obtain⟨x,hx⟩:∃x,r[gb]? =some x:=⟨_,List.getElem?_eq_getElem hgb⟩
    have bx:=(FOk.bd9 ok fo r (List.mem_of_getElem? hr)).1 x (List.mem_of_getElem? hx)
    have rows7:=rows.ev pn (e6.trans e7)
    have e17:=e16.trans e7
    have ka:=rows7.g gi a r ha hr
    refine⟨R,_,gi,.ref a,rfl,rfl,Al.of rows7.k,FG ha,a,_,gb,.int x,rfl,rfl,Al.of ka,Jq hx,pn7,by decide,by decide,λg3 H8 g30 g3l e8 pn8=>⟨_,_,rfl,?_⟩⟩
    have rows8:=rows7.ev pn e8
    have e18:=e17.trans e8
    have ka8:=rows8.g gi a r ha hr
    have hless:∃less:Int,less=(if 1+g3<x then 1+g3 else x)/\0<=less/\less<=x:=⟨_,rfl,by split<;>omega,by split<;>omega⟩
    obtain⟨less,el,l0,lx⟩:=hless
    rw [<-el]
    have fra:=rows.fr a (List.mem_of_getElem? ha)
    refine⟨R,_,gi,.ref a,rfl,rfl,Al.of rows8.k,FG ha,a,_,gb,.int x,rfl,rfl,Al.of ka8,Jq hx,R,_,gi,.ref a,rfl,rfl,Al.of rows8.k,FG ha,a,_,gb,gb,rfl,rfl,ka8,by rw [List.length_map];exact KZ hgb,?_⟩
    have emap:((r.map V.int).set gb (.int (x-less)))=(r.set gb (x-less)).map V.int:=map_set
    rw [emap]
    have rows9:=rows8.put ha (r.set gb (x-less))
    have e19:=e18.own (o:= .lst ((r.set gb (x-less)).map V.int)) fra.1
    have pn9:=pn8.own (o:= .lst ((r.set gb (x-less)).map V.int)) (pn.ne fra.1)
    have ka9:upd H8 a (.lst ((r.set gb (x-less)).map V.int)) a=some (.lst ((r.set gb (x-less)).map V.int)):=Ah
    generalize upd H8 a (.lst ((r.set gb (x-less)).map V.int))=H9 at rows9 e19 pn9 ka9 ⊢
    have fo9:=fo.put hr hx (y:=x-less) (by omega) (by omega)
    refine⟨p,P,S,_,ok,so,fo9.len,Aa.ev e19 _ _ rv,Aa.ev e19 _ _ ru,rows9.feed,λb H10 hb s10=>⟨λcc=>?_,λcc=>?_⟩⟩
    ·have rows10:=rows9.ev pn (Ev.same s10)
     have e110:=e19.trans (Ev.same s10)
     have hr9:(F.set gi (r.set gb (x-less)))[gi]? =some (r.set gb (x-less)):=List.getElem?_set_self hgi
     have hx9:(r.set gb (x-less))[gb]? =some (x-less):=List.getElem?_set_self hgb
     have ka10:=rows10.g gi a _ ha hr9
     refine⟨R,_,gi,.ref a,rfl,rfl,Al.of rows10.k,FG ha,a,_,gb,.int (x-less),rfl,rfl,Al.of ka10,Jq hx9,R,_,gi,.ref a,rfl,rfl,Al.of rows10.k,FG ha,a,_,gb,gb,rfl,rfl,ka10,by rw [List.length_map,List.length_set];exact KZ hgb,?_⟩
     have em2:(((r.set gb (x-less)).map V.int).set gb (.int (x-less+less)))=r.map V.int:=by
      rw [map_set,List.set_set,Int.sub_add_cancel]
      congr 1
      exact Jr hx
     rw [em2]
     have rows11:=rows10.put ha r
     rw [List.set_set,Jr hr] at rows11
     exact⟨⟨_,_,_,_,rfl⟩,e110.own fra.1,(pn9.same s10).own (pn.ne fra.1),F,rows11,fo,kp⟩
    ·have hb1:b=true:=by cases b<;>first | rfl | cases cc
     exact⟨⟨_,_,_,_,rfl⟩,e19.trans (Ev.same s10),pn9.same s10,_,rows9.ev pn (Ev.same s10),fo9,hb.mp hb1⟩
   ·obtain⟨⟨x4,x5,x6,x7,rfl⟩,e5,pn5,F,rows,fo,kp⟩:=hP
    have lF:=fo.len
    have la2:=rows.l
    refine⟨R,rfl,⟨_,Al.of rows.k⟩,IC (xs:=as.map V.ref) (λi zs H'=>Ab H5 H'/\Ac p H' ((F.take i).map AN) zs) (by rw [List.length_map];omega) ⟨Ab.refl _,.nil⟩ (λi zs H' h=>by rw [<-h.2.len,List.length_map,List.length_take];omega) (λi zs H' _ h=>Al.of (h.1 _ _ rows.k)) (λi x zs H6 hx h=>?_) λzs H6 h=>?_⟩
    ·rw [List.getElem?_map] at hx
     cases z:as[i]? with
     | none=>rw [z] at hx;cases hx
     | some a=>
      rw [z] at hx
      cases hx
      have hi:i<as.length:=(List.getElem?_eq_some_iff.mp z).1
      obtain⟨r,hr⟩:∃r,F[i]? =some r:=⟨_,List.getElem?_eq_getElem (by omega)⟩
      have ka:=h.1 _ _ (rows.g i a r z hr)
      refine⟨trivial,λ_=>⟨a,_,rfl,.inl ⟨Al.of ka,λl hl=>?_⟩⟩,λc=>by cases c⟩
      have nl:=Ab.new (o:= .tup (r.map V.int)) hl
      refine⟨h.1.trans nl,?_⟩
      rw [Be hr,List.map_append]
      exact Ac.snoc (Ac.ev (Ev.same nl) _ _ h.2) (Aa.row Ah)
    ·intro m hm
     refine⟨m,_,rfl,.inl ⟨Al.of Ah,λt ht=>?_⟩⟩
     have n1:=Ab.new (o:= .lst zs) hm
     have n2:=Ab.new (o:= .tup zs) ht
     have s2:=h.1.trans (n1.trans n2)
     rw [List.take_of_length_le (by rw [List.length_map];omega)] at h
     exact q _ _ F fo kp (Aa.tup Ah (Ac.ev (Ev.same (n1.trans n2)) _ _ h.2)) (e5.trans (Ev.same s2)) (pn5.same s2)
 ·exact h.elim
end
end MF
end
section
namespace MF
open PySem PySem.Spec PyProof.Rows L2
variable {xs : List V} {i : Nat} {F B : List (List Int)}
theorem _root_.L2.walk1_zip {P:Program}{w:World}{K:PySem.W.Frag}{S1 S2:AM P w K}{a b:Addr}{xs ys:List V}{cap:List (Option Nat)}{g:TG}{tt:TT}{wi2:TI}{g2:TG}{tt2:TT}{te:TE}{σ:L2.St}{Q:List V->Hp->Prop}{H:Hp} (Pv:Nat->List V->Hp->Prop) (he:xs.length=ys.length) (h0:Pv 0 [] H)
  (hl:∀i zs H,Pv i zs H->S1.Sq H a xs/\S2.Sq H b ys)
  (hs:∀i x y zs H T,xs[i]? =some x->ys[i]? =some y->Pv i zs H->H T=none->g (.ref T) (AV cap σ) (upd H T (.tup [x,y])) fun σ2 H2=>Keep (AV cap σ) σ2/\tt σ2 H2 λb H3=>br b (Fp wi2 g2 tt2 te σ2 zs H3 (Pv (i+1))) (Pv (i+1) zs H3))
  (hd:∀zs H,Pv xs.length zs H->Q zs H):Ld (DL S1 S2 a b) cap g tt wi2 g2 tt2 te σ Q H:=by
 refine⟨λi m zs H=>m=xs.length-i/\i<=xs.length/\Pv i zs H,⟨xs.length,by simp,Nat.zero_le _,h0⟩,?_⟩
 rintro i m zs H ⟨rfl,hi,p⟩
 obtain⟨q1,q2⟩:=hl i zs H p
 by_cases hlt:i<xs.length
 ·have hy:i<ys.length:=by omega
  refine .inr ⟨⟨xs,ys,xs[i],ys[i],q1,q2,by simp [hlt],by simp [hy]⟩,Pv (i+1),λzs' H' p'=>⟨xs.length-(i+1),by omega,rfl,hlt,p'⟩,λv H' ⟨T,e,n,y⟩=>?_⟩
  subst e
  rw [y xs ys xs[i] ys[i] q1 q2 (by simp [hlt]) (by simp [hy])]
  exact hs i xs[i] ys[i] zs H T (by simp [hlt]) (by simp [hy]) p n
 ·obtain rfl:i=xs.length:=by omega
  exact .inl ⟨⟨xs,ys,q1,q2,rfl⟩,hd zs H p⟩
theorem SX (h:i<=xs.length):Bn xs none (some (i:Int))=xs.take i:=by
 unfold Bn HT.sIx
 dsimp only
 rw [if_neg (by omega),List.drop_zero,Nat.sub_zero,Int.toNat_natCast,Nat.min_eq_left h]
theorem Mo (h:i<=xs.length):Bn xs (some (i:Int)) none=xs.drop i:=by
 unfold Bn
 rw [HT.sIx_nat,HT.sIx_none,Nat.min_eq_left h,List.take_of_length_le (by rw [List.length_drop];exact Nat.le_refl _)]
theorem Ac.takeD {p:Addr}{H:Hp}:∀ {ds:List PyData}{xs:List V} (i:Nat),Ac p H ds xs->Ac p H (ds.take i) (xs.take i)/\Ac p H (ds.drop i) (xs.drop i)
 | [],xs,i,r=>by unfold Ac at r;subst r;rw [List.take_nil,List.take_nil,List.drop_nil,List.drop_nil];exact⟨.nil,.nil⟩
 | d::ds,xs,0,r=>by rw [List.take_zero,List.take_zero];exact⟨.nil,r⟩
 | d::ds,xs,i+1,r=>by
  unfold Ac at r
  obtain⟨x,t,rfl,rx,rt⟩:=r
  rw [List.take_succ_cons,List.take_succ_cons]
  exact⟨.cons rx (Ac.takeD i rt).1,(Ac.takeD i rt).2⟩
theorem Mp:∀ {r:List Int},PyData.canLayAll0 (r.map .int)=true/\PyData.depthAll (r.map .int)=0
 | []=>⟨rfl,rfl⟩
 | a::r=>by
  obtain⟨h1,h2⟩:=Mp (r:=r)
  rw [List.map_cons]
  unfold PyData.canLayAll0 PyData.depthAll
  rw [h1,h2]
  exact⟨rfl,rfl⟩
theorem Mq:∀ {F:List (List Int)},PyData.canLayAll0 (F.map AN)=true/\PyData.depthAll (F.map AN)<=1
 | []=>⟨rfl,Nat.zero_le _⟩
 | r::F=>by
  obtain⟨h1,h2⟩:=Mq (F:=F)
  obtain⟨h3,h4⟩:=Mp (r:=r)
  rw [List.map_cons]
  have e1:PyData.canLay0 (AN r)=true:=by unfold AN PyData.canLay0;exact h3
  have e2:PyData.depth (AN r)=1:=by unfold AN PyData.depth;rw [h4]
  unfold PyData.canLayAll0 PyData.depthAll
  rw [e1,h1,e2]
  exact⟨rfl,by omega⟩
theorem lay_FD:(FD F).canLay0=true/\(FD F).hasDict=false/\(FD F).depth<=20:=by
 obtain⟨h1,h2⟩:=Mq (F:=F)
 have e:(FD F).canLay0=true:=by unfold FD PyData.canLay0;exact h1
 refine⟨e,PyData.hasDict_of_canLay _ e,?_⟩
 unfold FD PyData.depth
 omega
theorem Mr:∀ {a b:List Int},PyData.eqvAll (a.map .int) (b.map .int)=decide (a=b)
 | [],[]=>rfl
 | [],_::_=>rfl
 | _::_,[]=>rfl
 | x::a,y::b=>by
  rw [List.map_cons,List.map_cons]
  unfold PyData.eqvAll
  rw [Mr (a:=a) (b:=b)]
  unfold PyData.eqv
  rw [Bool.eq_iff_iff]
  simp
theorem Ms:∀ {A B:List (List Int)},PyData.eqvAll (A.map AN) (B.map AN)=decide (A=B)
 | [],[]=>rfl
 | [],_::_=>rfl
 | _::_,[]=>rfl
 | x::a,y::b=>by
  rw [List.map_cons,List.map_cons]
  unfold PyData.eqvAll
  have e:PyData.eqv (AN x) (AN y)=decide (x=y):=by unfold AN PyData.eqv;exact Mr
  rw [Ms (A:=a) (B:=b),e,Bool.eq_iff_iff]
  simp
theorem Js {A:List (List Int)}:PyData.eqv (FD A) (FD B)=decide (A=B):=by unfold FD PyData.eqv;exact Ms
theorem ES {A:List (List Int)} (h:FD A=FD B):A=B:=by
 have:=congrArg (λd=>PyData.eqv d (FD B)) h
 simpa [Js] using this
def FH (i:Int):Int:=if i<0 then -i else i
def CS (r s:List Int) (b j:Nat):List Int:=((List.range j).filter λk=>k !=b).map λk=>FH (r.getD k 0-s.getD k 0)
def Dd (F G:List (List Int)) (b h i n:Nat):List Int:=((List.range i).map λk=>CS (F.getD (h+k) []) (G.getD (h+k) []) b n).flatten
theorem Jt {r s:List Int}{b j:Nat}:CS r s b (j+1)=if j !=b then CS r s b j++[FH (r.getD j 0-s.getD j 0)] else CS r s b j:=by
 unfold CS
 rw [List.range_succ,List.filter_append]
 by_cases c:(j !=b)=true
 ·rw [if_pos c,List.filter_cons_of_pos (p:=λk=>k !=b) (a:=j) c,List.map_append];rfl
 ·rw [if_neg c,List.filter_cons_of_neg (p:=λk=>k !=b) (a:=j) c,List.filter_nil,List.append_nil]
theorem Mt {r s:List Int}{b j:Nat}:(CS r s b j).length<=j:=by
 unfold CS
 rw [List.length_map]
 exact Nat.le_trans (List.length_filter_le _ _) (by rw [List.length_range];exact Nat.le_refl _)
theorem HB {G:List (List Int)}{b h n:Nat}:Dd F G b h (i+1) n=Dd F G b h i n++CS (F.getD (h+i) []) (G.getD (h+i) []) b n:=by
 unfold Dd
 rw [List.range_succ,List.map_append,List.flatten_append]
 simp
theorem SZ {F G:List (List Int)}{b h i n:Nat}:(Dd F G b h i n).length<=i * n:=by
 induction i with
 | zero=>exact Nat.zero_le _
 | succ i ih=>
  rw [HB,List.length_append,Nat.succ_mul]
  have:=Mt (r:=F.getD (h+i) []) (s:=G.getD (h+i) []) (b:=b) (j:=n)
  omega
def ET (F G:List (List Int)) (b h m n:Nat):Int:=(Dd F G b h (m-h) n).sum
def S5 (P:PL) (S:SY) (F:List (List Int)) (b h:Nat) (d:PyData) (v:V):Prop:=
 (∃G,d=FD G/\FOk P S G/\BC P S G/\G.take h=F.take h/\(∀r∈G.drop h,r.getD b 0=0)/\v= .int (ET F G b h S.ex.length P.bs.length))\/
 ((¬ ∃G,d=FD G/\FOk P S G/\BC P S G/\G.take h=F.take h/\∀r∈G.drop h,r.getD b 0=0)/\v= .non)
def FI:Sp:=λvs H Q _=>match vs with | [u,.int h]=>∃p S n,SY.ok S n/\Aa p H S.d u/\0<=h/\h<(S.ex.length:Int)/\∀H',Ab H H'->Q .non H' | _=>False
def HC:Sp:=λvs H Q _=>match vs with | [v,.int b]=>∃p P,PL.ok P/\Aa p H P.d v/\0<=b/\b<(P.bs.length:Int)/\∀H',Ab H H'->Q .non H' | _=>False
def HD:Sp:=λvs H Q _=>match vs with | [v,u,w]=>∃p P S F,Tri p H P S F v u w/\BC P S F/\∀H',Ab H H'->Q .non H' | _=>False
def Ju:Sp:=λvs H Q _=>match vs with | [v,u,w,.int b]=>∃p P S F,Tri p H P S F v u w/\BC P S F/\0<=b/\b<(P.bs.length:Int)/\∀H',Ab H H'->Q .non H' | _=>False
def FJ:Sp:=λvs H Q _=>match vs with | [w,x,.int b,.int h]=>∃p P S F G,PL.ok P/\SY.ok S P.bs.length/\FOk P S F/\FOk P S G/\Aa p H (FD F) w/\Aa p H (FD G) x/\0<=b/\b<(P.bs.length:Int)/\0<=h/\h<(S.ex.length:Int)/\∀H',Ab H H'->Q (.int (ET F G b.toNat h.toNat S.ex.length P.bs.length)) H' | _=>False
def HE:Sp:=λvs H Q _=>match vs with | [v,u,w,.int b,.int h,x]=>∃p P S F d,Tri p H P S F v u w/\BC P S F/\0<=b/\b<(P.bs.length:Int)/\0<=h/\h<(S.ex.length:Int)/\Aa p H d x/\∀r H',S5 P S F b.toNat h.toNat d r->Ab H H'->Q r H' | _=>False
section
variable {P : Program} {w : World} {K : PySem.W.Frag} {mg : Str -> Option Value} {base : Heap}
theorem S6:AB ["story","hour"] ["story","hour"] (Au s_need_hour):=AG
theorem S7 (F:Df K mg "need_hour" s_need_hour ["story","hour"]) (T:Tx mg) (D_is_whole_from:Dx P w K mg base):Fn P w K mg base 3 "need_hour" ["story","hour"] FI:=by
 refine F.fn S6 (λvs H Q E h=>?_) (λf cdv A outer s H vs Q E hr h=>?_)
 ·unfold FI at h;split at h;rfl;exact h.elim
 refine⟨_,(@An _ _ _ (@A9 _ _ _ _ _ _ _ _ (@Ca _ _ _ _ (@BP _ _ _ (@Aj _ _ _ _ _ _ _ _ _ _ D_is_whole_from (hr.mono (by decide)) rfl (@AC _ _ _ _ _ _ _ (@cx _ 1 _ _ (by rfl)) (@Af _ _ _ _) (@At _ _ _ _ _ _ _ _ (@BE _) (@AE _ _ _ _ _ _ _ _ _ (@Bx _ K (by rfl)) rfl T.b_len PySem.boot_len (@Am _ _ _ (@AF _ _ _ _ _ _ _ (@AW _ K (by rfl)) (@cx _ 0 _ _ (by rfl)) (@Af _ _ _ _) (λ_ _=>rfl)) (by rfl)) (by decide) (by decide) (by rfl) (by rfl)) (@Af _ _ _ _)) (by rfl)) (by decide) (by rfl) (by rfl)) (by intro _;rfl))) (@An _ _ _ (@El _ _)) (@A8 _))),?_⟩
 unfold FI at h
 split at h
 ·rename_i u hh
  obtain⟨p,S,n,so,ru,h0,hl,q⟩:=h
  obtain⟨A,B,E,xf,rfl,hA,hB,hE,rf⟩:=Aa.story ru
  refine⟨A,_,0,.ref B,rfl,rfl,Ae.of hA,rfl,B,_,rfl,.inr (Ae.of hB),p,.int hh,Aa.int,λb e=>?_⟩
  rw [List.length_map,Cp h0 (by omega)] at e
  subst e
  exact⟨λc=>(by cases c),λ_=>q H (Ab.refl _)⟩
 ·exact h.elim
theorem S8:AB ["plant","boiler"] ["plant","boiler"] (Au s_need_boiler):=AG
theorem S9 (F:Df K mg "need_boiler" s_need_boiler ["plant","boiler"]) (T:Tx mg) (D_is_whole_from:Dx P w K mg base):Fn P w K mg base 3 "need_boiler" ["plant","boiler"] HC:=by
 refine F.fn S8 (λvs H Q E h=>?_) (λf cdv A outer s H vs Q E hr h=>?_)
 ·unfold HC at h;split at h;rfl;exact h.elim
 refine⟨_,(@An _ _ _ (@A9 _ _ _ _ _ _ _ _ (@Ca _ _ _ _ (@BP _ _ _ (@Aj _ _ _ _ _ _ _ _ _ _ D_is_whole_from (hr.mono (by decide)) rfl (@AC _ _ _ _ _ _ _ (@cx _ 1 _ _ (by rfl)) (@Af _ _ _ _) (@At _ _ _ _ _ _ _ _ (@BE _) (@AE _ _ _ _ _ _ _ _ _ (@Bx _ K (by rfl)) rfl T.b_len PySem.boot_len (@Am _ _ _ (@AF _ _ _ _ _ _ _ (@AW _ K (by rfl)) (@cx _ 0 _ _ (by rfl)) (@Af _ _ _ _) (λ_ _=>rfl)) (by rfl)) (by decide) (by decide) (by rfl) (by rfl)) (@Af _ _ _ _)) (by rfl)) (by decide) (by rfl) (by rfl)) (by intro _;rfl))) (@An _ _ _ (@El _ _)) (@A8 _))),?_⟩
 unfold HC at h
 split at h
 ·rename_i v b
  obtain⟨p,P,ok,rv,h0,hl,q⟩:=h
  obtain⟨PA,PB,PE,PM,xb,xe,rfl,pA,pB,rb,pE,re,pM⟩:=Aa.plant rv
  have lb:=rb.len
  rw [List.length_map] at lb
  refine⟨PA,_,0,.ref PB,rfl,rfl,Ae.of pA,rfl,PB,_,rfl,.inr (Ae.of pB),p,.int b,Aa.int,λb e=>?_⟩
  rw [Cp h0 (by omega)] at e
  subst e
  exact⟨λc=>(by cases c),λ_=>q H (Ab.refl _)⟩
 ·exact h.elim
theorem Ta:AB ["plant","story","firing"] ["plant","story","firing"] (Au s_need_keeping):=AG
theorem Tb (F:Df K mg "need_keeping" s_need_keeping ["plant","story","firing"]) (T:Tx mg) (D_keeps_up:Fn P w K mg base 14 "keeps_up" ["plant","story","firing"] FC):Fn P w K mg base 15 "need_keeping" ["plant","story","firing"] HD:=by
 refine F.fn Ta (λvs H Q E h=>?_) (λf cdv A outer s H vs Q E hr h=>?_)
 ·unfold HD at h;split at h;rfl;exact h.elim
 refine⟨_,(@An _ _ _ (@A9 _ _ _ _ _ _ _ _ (@Ca _ _ _ _ (@BP _ _ _ (@Aj _ _ _ _ _ _ _ _ _ _ D_keeps_up (hr.mono (by decide)) rfl (@AC _ _ _ _ _ _ _ (@cx _ 0 _ _ (by rfl)) (@cx _ 1 _ _ (by rfl)) (@cx _ 2 _ _ (by rfl)) (by rfl)) (by decide) (by rfl) (by rfl)) (by intro _;rfl))) (@An _ _ _ (@El _ _)) (@A8 _))),?_⟩
 unfold HD at h
 split at h
 ·rename_i v u w
  obtain⟨p,P,S,F,tr,kp,q⟩:=h
  refine⟨p,P,S,F,tr,λH' k s run s'=>?_⟩
  have es:s=none:=by
   rcases run.fin with⟨e,_⟩ | ⟨hk,hlo,_⟩
   ·exact e
   ·have:=kp k hk;omega
  subst es
  exact⟨λc=>(by cases c),λ_=>q H' s'⟩
 ·exact h.elim
theorem Tc:AB ["plant","story","firing","boiler"] ["plant","story","firing","boiler"] (Au s_need_boiler_of_keeping):=AG
abbrev HF (P:Program) (w:World) (K:PySem.W.Frag) (mg:Str->Option Value) (base:Heap):Prop:=Fn P w K mg base 16 "need_boiler_of_keeping" ["plant","story","firing","boiler"] Ju
theorem Td (F:Df K mg "need_boiler_of_keeping" s_need_boiler_of_keeping ["plant","story","firing","boiler"]) (T:Tx mg) (D_need_boiler:Fn P w K mg base 3 "need_boiler" ["plant","boiler"] HC) (D_need_keeping:Fn P w K mg base 15 "need_keeping" ["plant","story","firing"] HD):HF P w K mg base:=by
 refine F.fn Tc (λvs H Q E h=>?_) (λf cdv A outer s H vs Q E hr h=>?_)
 ·unfold Ju at h;split at h;rfl;exact h.elim
 refine⟨_,(@Ai _ _ _ _ _ (@Bq _ _ _ _ (@Aj _ _ _ _ _ _ _ _ _ _ D_need_keeping (hr.mono (by decide)) rfl (@AC _ _ _ _ _ _ _ (@cx _ 0 _ _ (by rfl)) (@cx _ 1 _ _ (by rfl)) (@cx _ 2 _ _ (by rfl)) (by rfl)) (by decide) (by rfl) (by rfl)) (by rfl)) (@An _ _ _ (@Bq _ _ _ _ (@Aj _ _ _ _ _ _ _ _ _ _ D_need_boiler (hr.mono (by decide)) rfl (@Ao _ _ _ _ _ (@cx _ 0 _ _ (by rfl)) (@cx _ 3 _ _ (by rfl)) (by rfl)) (by decide) (by rfl) (by rfl)) (by rfl)))),?_⟩
 unfold Ju at h
 split at h
 ·rename_i v u w b
  obtain⟨p,P,S,F,tr,kp,b0,bl,q⟩:=h
  exact⟨p,P,S,F,tr,kp,λH1 s1=>⟨p,P,tr.ok,(tr.sm s1).r,b0,bl,λH2 s2=>q H2 (s1.trans s2)⟩⟩
 ·exact h.elim
theorem Te:AB ["firing","other","boiler","hour"] ["firing","other","boiler","hour"] (Au s_units_moved):=AG
theorem Tf (F:Df K mg "units_moved" s_units_moved ["firing","other","boiler","hour"]) (T:Tx mg)  :Fn P w K mg base 1 "units_moved" ["firing","other","boiler","hour"] FJ:=by
 refine F.fn Te (λvs H Q E h=>?_) (λf cdv A outer s H vs Q E hr h=>?_)
 ·unfold FJ at h;split at h;rfl;exact h.elim
 refine⟨_,(@An _ _ _ (@Aw _ _ _ _ (@AE _ _ _ _ _ _ _ _ _ (@C5 _ rfl) rfl T.b_sum boot_sum (@Am _ _ _ (@PU _ _ _ _ _ _ _ _ _ _ _ _ _ _ _ _ _ ["row","others","at","made","units","boiler"] [none,none,none,none,none,some 2] rfl (@Fl _ P w K _ _ _ _ _ _ _ _ rfl T.b_zip (@Ao _ _ _ _ _ (@BN _ _ _ _ _ _ _ _ _ _ (@s_tup _) (@cx _ 0 _ _ (by rfl)) (@BA _ _ _ (@cx _ 3 _ _ (by rfl))) (@Ce _)) (@BN _ _ _ _ _ _ _ _ _ _ (@s_tup _) (@cx _ 1 _ _ (by rfl)) (@BA _ _ _ (@cx _ 3 _ _ (by rfl))) (@Ce _)) (by rfl)) (by rfl) (by rfl) (by rfl) (by rfl) (by rfl)) (AQ.of rfl) (λ_ _ _ _=>(@AL _ K _ _ _ (2) _ (@Ak _ _ _ _ _ (@Ag _ _ _ 0 (AJ (by rfl)) (by rfl)) (@Ak _ _ _ _ _ (@Ag _ _ _ 1 (AJ (by rfl)) (by rfl)) (@AK _) (by rfl)) (by rfl)) (by rfl) (by rfl) (by rfl) (by rfl))) (λ_ _ _ _=>(@Br _)) (λ_ _ _ _=>(@Qc _ P w K _ _ _ _ _ _ _ _ _ _ rfl T.b_enumerate rfl T.b_zip (@Ao _ _ _ _ _ (@cx _ 0 _ _ (by rfl)) (@cx _ 1 _ _ (by rfl)) (by rfl)) (by rfl) (by rfl) (by rfl) (by rfl) (by rfl) (by rfl))) (λ_ _ _ _=>(@AL _ K _ _ _ (2) _ (@Ak _ _ _ _ _ (@Ag _ _ _ 2 (AJ (by rfl)) (by rfl)) (@Ak _ _ _ _ _ (@AL _ K _ _ _ (2) _ (@Ak _ _ _ _ _ (@Ag _ _ _ 3 (AJ (by rfl)) (by rfl)) (@Ak _ _ _ _ _ (@Ag _ _ _ 4 (AJ (by rfl)) (by rfl)) (@AK _) (by rfl)) (by rfl)) (by rfl) (by rfl) (by rfl) (by rfl)) (@AK _) (by rfl)) (by rfl)) (by rfl) (by rfl) (by rfl) (by rfl))) (λ_ _ _ _=>(@DH _ _ _ (@AU _ _ _ _ _ _ _ _ (@Di _) (@cx _ 2 _ _ (by rfl)) (@cx _ 5 _ _ (by rfl)) (AO _)))) (λ_ _ _ _=>(@AE _ _ _ _ _ _ _ _ _ (@NK _) rfl T.b_abs boot_abs (@Am _ _ _ (@At _ _ _ _ _ _ _ _ (@BE _) (@cx _ 3 _ _ (by rfl)) (@cx _ 4 _ _ (by rfl))) (by rfl)) (by decide) (by decide) (by rfl) (by rfl))) (by intro _;rfl) (by intro _ _;rfl)) (by rfl)) (by decide) (by decide) (by rfl) (by rfl)))),?_⟩
 unfold FJ at h
 split at h
 ·rename_i w x b hh
  obtain⟨p,P,S,F,G,ok,so,fo,go,rw',rx,b0,bl,h0,hl,q⟩:=h
  obtain⟨b,rfl⟩:=Int.eq_ofNat_of_zero_le b0
  obtain⟨hh,rfl⟩:=Int.eq_ofNat_of_zero_le h0
  obtain⟨A,fx,rfl,hA,rF⟩:=Aa.firing rw'
  obtain⟨B,gx,rfl,hB,rG⟩:=Aa.firing rx
  have lf:=rF.len
  have lg:=rG.len
  rw [List.length_map] at lf lg
  have fl:=fo.len
  have gl:=go.len
  have x8:=so.x8
  have b4:=ok.b4
  refine⟨(hh:Int),rfl,A,_,rfl,hA,λC H1 s1 kC=>⟨(hh:Int),rfl,B,_,rfl,s1 _ _ hB,λD H2 s2 kD=>?_⟩⟩
  rw [Mo (by omega)] at kC kD
  have kC2:=s2 _ _ kC
  have rF2:=Ac.ev (Ev.same (s1.trans s2)) _ _ rF
  have rG2:=Ac.ev (Ev.same (s1.trans s2)) _ _ rG
  have big:∀i j,i<=8->j<=4->(Dd F G b hh i P.bs.length).length+j<100000:=λi j hi hj=>by
   have:=SZ (F:=F) (G:=G) (b:=b) (h:=hh) (i:=i) (n:=P.bs.length)
   have:i * P.bs.length<=8 * 4:=Nat.mul_le_mul hi b4
   omega
  refine⟨C,D,rfl,⟨_,Ae.of kC2⟩,⟨_,Ae.of kD⟩,walk1_zip (xs:=fx.drop hh) (ys:=gx.drop hh) (λi zs H'=>i<=S.ex.length-hh/\Ab H2 H'/\zs=(Dd F G b hh i P.bs.length).map V.int) (by rw [List.length_drop,List.length_drop];omega) ⟨Nat.zero_le _,Ab.refl _,rfl⟩ (λi zs H' h=>⟨Ae.of (h.2.1 _ _ kC2),Ae.of (h.2.1 _ _ kD)⟩) (λi x y zs H3 T hx hy h hT=>?_) λzs H3 h=>?_⟩
  ·rw [List.getElem?_drop] at hx hy
   obtain⟨r,hr,rr⟩:=Ac.mapGot rF2 hx
   obtain⟨t,ht,rt⟩:=Ac.mapGot rG2 hy
   have hi:hh+i<S.ex.length:=by have:=(List.getElem?_eq_some_iff.mp hr).1;omega
   have lr:=fo.row _ r hr
   have lt:=go.row _ t ht
   have er:F.getD (hh+i) []=r:=by rw [List.getD_eq_getElem?_getD,hr];rfl
   have et:G.getD (hh+i) []=t:=by rw [List.getD_eq_getElem?_getD,ht];rfl
   obtain⟨ra,rfl,hra⟩:=Aa.ofRow rr
   obtain⟨ta,rfl,hta⟩:=Aa.ofRow rt
   have nT:=Ab.new (o:= .tup [.ref ra,.ref ta]) hT
   have s3:=h.2.1.trans nT
   refine⟨T,_,rfl,Ae.of Ah,rfl,_,_,rfl,_,_,rfl,rfl,⟨rfl,trivial⟩,λ_=>?_,λc=>by cases c⟩
   refine⟨ra,ta,rfl,⟨_,Ae.of (s3 _ _ hra)⟩,⟨_,Ae.of (s3 _ _ hta)⟩,Qf (xs:=r.map V.int) (ys:=t.map V.int) (λj us H'=>j<=P.bs.length/\Ab H2 H'/\us=(Dd F G b hh i P.bs.length++CS r t b j).map V.int) (by rw [List.length_map,List.length_map];omega) ⟨Nat.zero_le _,s3,?_⟩ (λj us H' h'=>?_) (λj us H' h'=>⟨Ae.of (h'.2.1 _ _ hra),Ae.of (h'.2.1 _ _ hta)⟩) (λj x y us H4 T4 U4 hx hy h4 hT4 hU4=>?_) λus H4 h4=>?_⟩
   ·have e0:CS r t b 0=[]:=rfl
    rw [e0,List.append_nil];exact h.2.2
   ·rw [h'.2.2,List.length_map,List.length_append]
    have:=Mt (r:=r) (s:=t) (b:=b) (j:=j)
    have:=big i j (by omega) (by omega)
    omega
   ·rw [List.getElem?_map] at hx hy
    have hj:j<P.bs.length:=by
     cases z:r[j]? with
     | none=>rw [z] at hx;cases hx
     | some v=>have:=(List.getElem?_eq_some_iff.mp z).1;omega
    rw [IW (by omega)] at hx hy
    cases hx
    cases hy
    have n1:=Ab.new (o:= .tup [.int (r.getD j 0),.int (t.getD j 0)]) hT4
    have n2:=Ab.new (o:= .tup [.int j,.ref T4]) (hU4 (.tup [.int (r.getD j 0),.int (t.getD j 0)]))
    have s4:=h4.2.1.trans (n1.trans n2)
    refine⟨U4,_,rfl,Ae.of Ah,rfl,_,_,rfl,_,_,rfl,T4,_,rfl,Ae.of (n2 _ _ Ah),rfl,_,_,rfl,_,_,rfl,rfl,rfl,⟨rfl,rfl,rfl,trivial⟩,rfl,⟨λc=>?_,λc=>?_⟩⟩
    ·have cb:(j !=b)=true:=by
      have:=KY c
      rw [bne_iff_ne]
      exact λe=>this (by rw [e])
     refine⟨_,rfl,by omega,s4,?_⟩
     rw [h4.2.2,Jt,if_pos cb]
     simp [FH]
    ·have cb:¬(j !=b)=true:=by
      have e:V.int (j:Int)=V.int (b:Int):=by simpa using c
      injection e with e
      have e:j=b:=by omega
      rw [e];simp
     refine⟨by omega,s4,?_⟩
     rw [h4.2.2,Jt,if_neg cb]
   ·refine⟨by omega,h4.2.1,?_⟩
    have h5:=h4.2.2
    rw [List.length_map,lr] at h5
    rw [h5,HB,er,et]
  ·intro m hm
   refine⟨m,Dd F G b hh (S.ex.length-hh) P.bs.length,rfl,.inl ?_,q _ (s1.trans (s2.trans (h.2.1.trans (Ab.new hm))))⟩
   have h5:=h.2.2
   rw [List.length_drop,<-lf,fl] at h5
   rw [Ah,h5]
 ·exact h.elim
theorem Tg:AB ["plant","story","firing","boiler","hour","thing"] ["plant","story","firing","boiler","hour","thing"] (Au s_moved_by):=AG
theorem Th (F:Df K mg "moved_by" s_moved_by ["plant","story","firing","boiler","hour","thing"]) (T:Tx mg) (D_is_firing:Fn P w K mg base 10 "is_firing" ["plant","story","thing"] Fz) (D_keeps_up:Fn P w K mg base 14 "keeps_up" ["plant","story","firing"] FC) (D_need_boiler_of_keeping:HF P w K mg base) (D_need_hour:Fn P w K mg base 3 "need_hour" ["story","hour"] FI) (D_units_moved:Fn P w K mg base 1 "units_moved" ["firing","other","boiler","hour"] FJ):Fn P w K mg base 17 "moved_by" ["plant","story","firing","boiler","hour","thing"] HE:=by
 refine F.fn Tg (λvs H Q E h=>?_) (λf cdv A outer s H vs Q E hr h=>?_)
 ·unfold HE at h;split at h;rfl;exact h.elim
 refine⟨_,(@Ai _ _ _ _ _ (@Bq _ _ _ _ (@Aj _ _ _ _ _ _ _ _ _ _ D_need_boiler_of_keeping (hr.mono (by decide)) rfl (@Bi _ _ _ _ _ _ _ _ _ (@cx _ 0 _ _ (by rfl)) (@cx _ 1 _ _ (by rfl)) (@cx _ 2 _ _ (by rfl)) (@cx _ 3 _ _ (by rfl)) (by rfl)) (by decide) (by rfl) (by rfl)) (by rfl)) (@Ai _ _ _ _ _ (@Bq _ _ _ _ (@Aj _ _ _ _ _ _ _ _ _ _ D_need_hour (hr.mono (by decide)) rfl (@Ao _ _ _ _ _ (@cx _ 1 _ _ (by rfl)) (@cx _ 4 _ _ (by rfl)) (by rfl)) (by decide) (by rfl) (by rfl)) (by rfl)) (@Ai _ _ _ _ _ (@A9 _ _ _ _ _ _ _ _ (@PW.pt _ _ _ (@Fi _ _ _ _ _ _ _ (@Ca _ _ _ _ (@BP _ _ _ (@Aj _ _ _ _ _ _ _ _ _ _ D_is_firing (hr.mono (by decide)) rfl (@AC _ _ _ _ _ _ _ (@cx _ 0 _ _ (by rfl)) (@cx _ 1 _ _ (by rfl)) (@cx _ 5 _ _ (by rfl)) (by rfl)) (by decide) (by rfl) (by rfl)) (by intro _;rfl))) (@E1 _ _ _ _ (@Ca _ _ _ _ (@BP _ _ _ (@Aj _ _ _ _ _ _ _ _ _ _ D_keeps_up (hr.mono (by decide)) rfl (@AC _ _ _ _ _ _ _ (@cx _ 0 _ _ (by rfl)) (@cx _ 1 _ _ (by rfl)) (@cx _ 5 _ _ (by rfl)) (by rfl)) (by decide) (by rfl) (by rfl)) (by intro _;rfl)))))) (@An _ _ _ (@Aw _ _ _ _ (@BM _ _ _))) (@A8 _)) (@Ai _ _ _ _ _ (@A9 _ _ _ _ _ _ _ _ (@PW.pt _ _ _ (@Fi _ _ _ _ _ _ _ (@AU _ _ _ _ _ _ _ _ (@Qo _ _ hr) (@BN _ _ _ _ _ _ _ _ _ _ (@s_tup _) (@cx _ 5 _ _ (by rfl)) (@Ce _) (@BA _ _ _ (@cx _ 4 _ _ (by rfl)))) (@BN _ _ _ _ _ _ _ _ _ _ (@s_tup _) (@cx _ 2 _ _ (by rfl)) (@Ce _) (@BA _ _ _ (@cx _ 4 _ _ (by rfl)))) (AO _)) (@E1 _ _ _ _ (@BP _ _ _ (@AE _ _ _ _ _ _ _ _ _ (@Qm _ rfl) rfl T.b_any boot_any (@Am _ _ _ (@Bw _ _ _ _ _ _ _ _ _ _ _ ["row","boiler"] [none,some 3] rfl (@Cf _ K _ _ _ (@BN _ _ _ _ _ _ _ _ _ _ (@s_tup _) (@cx _ 5 _ _ (by rfl)) (@BA _ _ _ (@cx _ 4 _ _ (by rfl))) (@Ce _)) (by rfl)) (AQ.of rfl) (λ_ _ _ _=>(@Ag _ _ _ 0 (AJ (by rfl)) (by rfl))) (λ_ _ _ _=>(@Br _)) (λ_ _ _ _=>(@Cr _ _ _ _ _ _ _ _ (@OT _) (@AF _ _ _ _ _ _ _ (@AW _ K (by rfl)) (@cx _ 0 _ _ (by rfl)) (@cx _ 1 _ _ (by rfl)) (λ_ _=>rfl)) (@Af _ _ _ _) (AO _))) (by intro _;rfl)) (by rfl)) (by decide) (by decide) (by rfl) (by rfl)) (by intro _;rfl))))) (@An _ _ _ (@Aw _ _ _ _ (@BM _ _ _))) (@A8 _)) (@An _ _ _ (@Aw _ _ _ _ (@Aj _ _ _ _ _ _ _ _ _ _ D_units_moved (hr.mono (by decide)) rfl (@Bi _ _ _ _ _ _ _ _ _ (@cx _ 2 _ _ (by rfl)) (@cx _ 5 _ _ (by rfl)) (@cx _ 3 _ _ (by rfl)) (@cx _ 4 _ _ (by rfl)) (by rfl)) (by decide) (by rfl) (by rfl)))))))),?_⟩
 unfold HE at h
 split at h
 ·rename_i v u w b hh x
  obtain⟨p,P,S,F,d,tr,kp,b0,bl,h0,hl,rx,q⟩:=h
  obtain⟨b,rfl⟩:=Int.eq_ofNat_of_zero_le b0
  obtain⟨hh,rfl⟩:=Int.eq_ofNat_of_zero_le h0
  rw [Int.toNat_natCast,Int.toNat_natCast] at q
  have fl:=tr.fo.len
  have x8:=tr.so.x8
  have b4:=tr.ok.b4
  refine⟨p,P,S,F,tr,kp,b0,bl,λH1 s1=>?_⟩
  refine⟨p,S,P.bs.length,tr.so,(tr.sm s1).ru,h0,hl,λH2 s2=>?_⟩
  have t2:=tr.sm (s1.trans s2)
  have rx2:=Aa.ev (Ev.same (s1.trans s2)) _ _ rx
  refine⟨p,P,S,d,tr.ok,tr.so,t2.r,t2.ru,rx2,λc1 H3 e1 s3=>⟨λc=>?_,λc=>?_⟩⟩
  ·have hn:¬ ∃G,d=FD G/\FOk P S G:=λz=>by
    rw [fireB_is.mpr z] at e1
    rw [e1] at c;cases c
   exact⟨λ_=>q _ H3 (.inr ⟨fun⟨G,e,g,_⟩=>hn ⟨G,e,g⟩,rfl⟩) (s1.trans (s2.trans s3)),λz=>by cases z⟩
  have ht:c1=true:=by cases c1<;>first | rfl | cases c
  rw [ht] at e1
  obtain⟨G,rfl,go⟩:=fireB_is.mp e1.symm
  have t3:=t2.sm s3
  have s13:=s1.trans (s2.trans s3)
  have trG:Tri p H3 P S G v u x:=⟨tr.ok,tr.so,go,t3.r,t3.ru,Aa.ev (Ev.same s3) _ _ rx2⟩
  refine⟨p,P,S,G,trG,λH4 k s run s4=>⟨λc=>?_,λc=>?_⟩⟩
  ·have hn:¬BC P S G:=λkg=>by
    have es:s=none:=by
     rcases run.fin with⟨e,_⟩ | ⟨hk,hlo,_⟩
     ·exact e
     ·have:=kg k hk;omega
    rw [es] at c;cases c
   exact q _ H4 (.inr ⟨fun⟨G',e,g,kg,_⟩=>hn (by rw [ES e];exact kg),rfl⟩) (s13.trans s4)
  have kg:BC P S G:=λi hi=>by
   rcases run.fin with⟨e,ek⟩ | ⟨hk,hlo,e⟩
   ·exact run.up i (by omega)
   ·rw [e] at c;cases c
  have gl:=go.len
  have t4:=t3.sm s4
  obtain⟨B,gx,rfl,hB,rG⟩:=Aa.firing (Aa.ev (Ev.same s4) _ _ trG.rw)
  obtain⟨A,fx,rfl,hA,rF⟩:=Aa.firing t4.rw
  have lf:=rF.len
  have lg:=rG.len
  rw [List.length_map] at lf lg
  have s14:=s13.trans s4
  refine⟨(hh:Int),rfl,B,_,rfl,hB,λC H5 s5 kC=>⟨(hh:Int),rfl,A,_,rfl,s5 _ _ hA,λD H6 s6 kD=>?_⟩⟩
  rw [SX (by omega)] at kC kD
  have rC:Aa p H6 (FD (G.take hh)) (.ref C):=by
   unfold FD
   rw [List.map_take]
   exact Aa.tup (s6 _ _ kC) (Ac.ev (Ev.same (s5.trans s6)) _ _ (Ac.takeD hh rG).1)
  have rD:Aa p H6 (FD (F.take hh)) (.ref D):=by
   unfold FD
   rw [List.map_take]
   exact Aa.tup kD (Ac.ev (Ev.same (s5.trans s6)) _ _ (Ac.takeD hh rF).1)
  have s16:=s14.trans (s5.trans s6)
  refine⟨p,_,_,rC,rD,lay_FD.1,lay_FD.2.1,lay_FD.2.2,lay_FD.1,lay_FD.2.1,⟨λc=>?_,λc=>?_⟩⟩
  ·rw [Js] at c
   have hn:¬G.take hh=F.take hh:=by simpa using c
   exact⟨λ_=>q _ H6 (.inr ⟨fun⟨G',e,g,kg',et,_⟩=>hn (by rw [ES e];exact et),rfl⟩) s16,λz=>by cases z⟩
  rw [Js] at c
  have et:G.take hh=F.take hh:=by simpa using c
  have hB6:=(s5.trans s6) _ _ hB
  refine⟨(hh:Int),rfl,B,_,rfl,hB6,λE H7 s7 kE=>?_⟩
  rw [Mo (by omega)] at kE
  have rG7:=(Ac.takeD hh (Ac.ev (Ev.same (s5.trans (s6.trans s7))) _ _ rG)).2
  rw [<-List.map_drop] at rG7
  refine⟨E,rfl,⟨_,Ae.of kE⟩,Cm (xs:=gx.drop hh) (λi zs H'=>Ab H7 H'/\zs=((G.drop hh).take i).map λr=>V.bl (decide (0<r.getD b 0))) (by rw [List.length_drop];omega) ⟨Ab.refl _,rfl⟩ (λi zs H' h=>by rw [h.2,List.length_map,List.length_take];omega) (λi zs H' _ h=>Ae.of (h.1 _ _ kE)) (λi x zs H8 hx h=>?_) λzs H8 h=>?_⟩
  ·obtain⟨r,hr,rr⟩:=Ac.mapGot rG7 hx
   obtain⟨ra,rfl,hra⟩:=Aa.ofRow rr
   have lr:r.length=P.bs.length:=(FOk.bd9 tr.ok go r (List.mem_of_mem_drop (List.mem_of_getElem? hr))).2
   refine⟨⟨rfl,trivial⟩,λ_=>⟨ra,_,(b:Int),.int (r.getD b 0),rfl,rfl,Ae.of (h.1 _ _ hra),C2 (by rw [List.getElem?_map,IW (by omega)];rfl),h.1,?_⟩,λc=>by cases c⟩
   rw [h.2,Be hr,List.map_append];rfl
  ·intro m hm
   have n9:=Ab.new (o:= .lst zs) hm
   have s19:=s16.trans (s7.trans (h.1.trans n9))
   refine⟨m,(G.drop hh).map λr=>decide (0<r.getD b 0),rfl,?_,⟨λc=>?_,λc=>?_⟩⟩
   ·have h5:=h.2
    rw [List.take_of_length_le (by rw [List.length_drop,List.length_drop];omega)] at h5
    rw [Ah,h5,List.map_map];rfl
   ·rw [List.any_eq_true] at c
    obtain⟨z,hz,ez⟩:=c
    obtain⟨r,hr,rfl⟩:=List.mem_map.mp hz
    have pos:0<r.getD b 0:=of_decide_eq_true ez
    exact q _ _ (.inr ⟨fun⟨G',e,g,kg',et',hz'⟩=>by
     rw [ES e] at hr
     have:=hz' r hr
     omega,rfl⟩) s19
   ·have hz:∀r∈G.drop hh,r.getD b 0=0:=λr hr=>by
     have h1:decide (0<r.getD b 0)=false:=by
      have:=List.any_eq_false.mp c _ (List.mem_map.mpr ⟨r,hr,rfl⟩)
      simpa using this
     have h1:=of_decide_eq_false h1
     have bd:=FOk.bd9 tr.ok go r (List.mem_of_mem_drop hr)
     have:=(bd.1 (r.getD b 0) (List.mem_of_getElem? (IW (by rw [bd.2];omega)))).1
     omega
    have s49:=s5.trans (s6.trans (s7.trans (h.1.trans n9)))
    refine⟨p,P,S,F,G,tr.ok,tr.so,tr.fo,go,Aa.ev (Ev.same s49) _ _ t4.rw,Aa.ev (Ev.same (s4.trans s49)) _ _ trG.rw,b0,bl,h0,hl,λH9 s9=>?_⟩
    rw [Int.toNat_natCast,Int.toNat_natCast]
    exact q _ H9 (.inl ⟨G,rfl,go,kg,et,hz,rfl⟩) (s19.trans s9)
 ·exact h.elim
end
end MF
end
section
namespace MF
open PySem PySem.Spec PyProof.Rows L2
variable {p : Addr} {H : Hp} {v : V}
theorem Aa.terms {T:TM} (r:Aa p H T.d v):∃A C B D M xc,v= .ref A/\H A=some (.tup [.ref C,.ref B,.ref D,.ref M])/\H C=some (.tup xc)/\Ac p H (T.cs.map AN) xc/\H B=some (.tup (T.co.map V.int))/\H D=some (.tup (T.ds.map V.int))/\H M=some (.tup [.int T.lo,.int T.hi,.int T.st]):=by
 unfold TM.d at r
 obtain⟨A,xs,rfl,hA,rs⟩:=Aa.shape r
 obtain⟨x,y,z,w,rfl,rx,ry,rz,rw⟩:=Ac.four rs
 obtain⟨C,xc,rfl,hC,rc⟩:=Aa.shape rx
 obtain⟨B,xb,rfl,hB,rb⟩:=Aa.shape ry
 obtain⟨D,xd,rfl,hD,rd⟩:=Aa.shape rz
 obtain⟨M,xm,rfl,hM,rm⟩:=Aa.shape rw
 obtain⟨m1,m2,m3,rfl,r1,r2,r3⟩:=Ac.three rm
 unfold Aa at r1 r2 r3
 subst r1 r2 r3
 rw [Ac.ints rb] at hB
 rw [Ac.ints rd] at hD
 exact⟨A,C,B,D,M,xc,rfl,hA,hC,rc,hB,hD,hM⟩
theorem Aa.ofRow' {r:List Int} (h:Aa p H (AN r) v):∃A,v= .ref A/\H A=some (.tup (r.map V.int)):=by
 obtain⟨A,xs,rfl,hA,rs⟩:=Aa.shape h
 rw [Ac.ints rs] at hA
 exact⟨A,rfl,hA⟩
def HG:Sp:=λvs H Q _=>match vs with | [v,u]=>∃p P S,PL.ok P/\SY.ok S P.bs.length/\Aa p H P.d v/\Aa p H S.d u/\ret H Q p (terms P S).d | _=>False
section
variable {P : Program} {w : World} {K : PySem.W.Frag} {mg : Str -> Option Value} {base : Heap}
theorem sc_terms_of:AB ["plant","story","caps","coals"] ["plant","story"] (Au s_terms_of):=AG
theorem Ti (F:Df K mg "terms_of" s_terms_of ["plant","story"]) (T:Tx mg) (D_caps_of:Fn P w K mg base 9 "caps_of" ["plant","story"] Fw) (D_draws_of:Fn P w K mg base 9 "draws_of" ["plant","story"] Fx):Fn P w K mg base 10 "terms_of" ["plant","story"] HG:=by
 refine F.fn sc_terms_of (λvs H Q E h=>?_) (λf cdv A outer s H vs Q E hr h=>?_)
 ·unfold HG at h;split at h;rfl;exact h.elim
 refine⟨_,(Ai (AI (i:=2) sc_terms_of.nd rfl (Az (by rfl)) (Aj D_caps_of (hr.mono (by decide)) rfl (Ao (cx 0 (by rfl)) (cx 1 (by rfl)) (by rfl)) (by decide) (by rfl) (by rfl)) (by rfl) (AA (by rfl))) (Ai (AI (i:=3) sc_terms_of.nd rfl (Az (by rfl)) (Bv (BT K (by rfl)) rfl T.b_tuple BQ (Am (Bw ["make","coal"] [none,none] rfl (Cf K (AF (AW K (by rfl)) (cx 0 (by rfl)) Af (λ_ _=>rfl)) (by rfl)) (AQ.of rfl) (λ_ _ _ _=>(AL K (n:=2) (Ak (Ag 0 (AJ (by rfl)) (by rfl)) (Ak (Ag 1 (AJ (by rfl)) (by rfl)) AK (by rfl)) (by rfl)) (by rfl) (by rfl) (by rfl) (by rfl))) (λ_ _ _ _=>Br) (λ_ _ _ _=>(cx 1 (by rfl))) (by intro _;rfl)) (by rfl)) (by decide) (by decide) (by rfl) (by rfl)) (by rfl) (AA (by rfl))) (An (Aw (BL (Bi (cx 2 (by rfl)) (cx 3 (by rfl)) (Aj D_draws_of (hr.mono (by decide)) rfl (Ao (cx 0 (by rfl)) (cx 1 (by rfl)) (by rfl)) (by decide) (by rfl) (by rfl)) (AF (AW K (by rfl)) (cx 0 (by rfl)) Af (λ_ _=>rfl)) (by rfl))))))),?_⟩
 unfold HG at h
 split at h
 ·rename_i v u
  obtain⟨p,P,S,ok,so,r,ru,q⟩:=h
  refine⟨p,P,S,ok,so,r,ru,λcv H1 s1 rc=>?_⟩
  obtain⟨PA,PB,PE,PM,xb,xe,rfl,pA,pB,rb,pE,re,pM⟩:=Aa.plant (Aa.ev (Ev.same s1) _ _ r)
  have b4:=ok.b4
  have lb:=rb.len
  rw [List.length_map] at lb
  refine⟨PA,_,0,.ref PB,rfl,rfl,Ae.of pA,rfl,PB,rfl,⟨xb,Ae.of pB⟩,Cm (xs:=xb) (λi ys H'=>Ab H1 H'/\ys=((P.bs.take i).map λq=>V.int q.2)) (by omega) ⟨Ab.refl _,rfl⟩ (λi ys H' h=>by rw [h.2,List.length_map,List.length_take];omega) (λi ys H' _ h=>Ae.of (h.1 _ _ pB)) (λi x ys H' hx h=>?_) λys H' h=>?_⟩
  ·obtain⟨f,hf,rd⟩:=Ac.mapGot rb hx
   obtain⟨l,zs,rfl,hl',rz⟩:=Aa.shape (Aa.ev (Ev.same h.1) _ _ rd)
   obtain⟨y1,y2,rfl,r1,r2⟩:=Ac.two rz
   unfold Aa at r1 r2
   subst r1 r2
   refine⟨l,_,rfl,Ae.of hl',rfl,_,_,rfl,_,_,rfl,rfl,trivial,λ_=>⟨h.1,?_⟩,λz=>by cases z⟩
   rw [Be hf,List.map_append,h.2];rfl
  ·intro m hm
   refine⟨m,_,rfl,.inl ⟨Al.of Ah,λt ht=>?_⟩⟩
   have nt:=Ab.new (o:= .tup ys) ht
   have s2:=h.1.trans ((Ab.new (o:= .lst ys) hm).trans nt)
   refine⟨p,P,S,ok,so,Aa.ev (Ev.same (s1.trans s2)) _ _ r,Aa.ev (Ev.same (s1.trans s2)) _ _ ru,λdv H3 s3 rd=>?_⟩
   have s13:=s2.trans s3
   refine⟨PA,_,2,.ref PM,rfl,rfl,Ae.of (s13 _ _ pA),rfl,λt2 ht2=>?_⟩
   have s4:=Ab.new (o:= .tup [cv,.ref t,dv,.ref PM]) ht2
   have ey:ys=(P.bs.map (·.2)).map V.int:=by rw [h.2,List.take_of_length_le (by omega),List.map_map];rfl
   have ht4:=(s3.trans s4) _ _ (Ah (H:=upd H' m (.lst ys)) (a:=t) (o:= .tup ys))
   rw [ey] at ht4
   refine q _ _ (s1.trans (s13.trans s4)) (Aa.tup Ah (.cons (Aa.ev (Ev.same (s13.trans s4)) _ _ rc) (.cons (Aa.row ht4) (.cons (Aa.ev (Ev.same s4) _ _ rd) (.cons (Aa.tup ((s13.trans s4) _ _ pM) (.cons Aa.int (.cons Aa.int (.cons Aa.int .nil)))) .nil)))))
 ·exact h.elim
end
end MF
end
section
namespace MF
open PySem PySem.Spec PyProof.Rows L2
variable {p : Addr} {H : Hp}
theorem Aa.intE {a b:Int} (h:b=a):Aa p H (.int a) (.int b):=by subst h;exact Aa.int
theorem Aa.pair {q:Nat×Nat}{v:V} (r:Aa p H (pD q) v):∃A,v= .ref A/\H A=some (.tup [.int q.1,.int q.2]):=by
 obtain⟨A,xs,rfl,hA,rs⟩:=Aa.shape r
 obtain⟨x,y,rfl,rx,ry⟩:=Ac.two rs
 unfold Aa at rx ry
 subst rx ry
 exact⟨A,rfl,hA⟩
theorem HH {xs:List V}{i:Nat} (h:i<=xs.length):Bn xs none (some (i:Int))=xs.take i:=by
 unfold Bn HT.sIx
 dsimp only
 rw [if_neg (by omega),List.drop_zero,Nat.sub_zero,Int.toNat_natCast,Nat.min_eq_left h]
def HI:Sp:=λvs H Q _=>match vs with | [v,u]=>∃p T f l,TM.ok T/\Aa p H T.d v/\Aa p H (pD (f,l)) u/\f<=l/\l<T.ds.length/\∀H',Ab H H'->Q (.bl (C7 T f l)) H' | _=>False
def HJ:Sp:=λvs H Q _=>match vs with | [v]=>∃p T,TM.ok T/\Aa p H T.d v/\ret H Q p (Lj (AT T)) | _=>False
def FK:Sp:=λvs H Q _=>match vs with | [.ref A,.int n,y]=>∃xs,∃k:Nat,n=(k:Int)/\k<xs.length/\xs.length<=100/\H A=some (.tup xs)/\∀B H',Ab H H'->H' B=some (.tup (xs.set k y))->Q (.ref B) H' | _=>False
section
variable {P : Program} {w : World} {K : PySem.W.Frag} {mg : Str -> Option Value} {base : Heap}
theorem sc_is_too_much:AB ["terms","stretch","caps","coals","draws","low","high","start","first","last","ahead","most"] ["terms","stretch"] (Au s_is_too_much):=AG
theorem Tj (F:Df K mg "is_too_much" s_is_too_much ["terms","stretch"]) (T:Tx mg)  :Fn P w K mg base 1 "is_too_much" ["terms","stretch"] HI:=by
 refine F.fn sc_is_too_much (λvs H Q E h=>?_) (λf cdv A outer s H vs Q E hr h=>?_)
 ·unfold HI at h;split at h;rfl;exact h.elim
 refine⟨_,(Ai (Bl (cx 0 (by rfl)) (AL K (n:=4) (Ak (Ag 2 sc_is_too_much.nd (by rfl)) (Ak (Ag 3 sc_is_too_much.nd (by rfl)) (Ak (Ag 4 sc_is_too_much.nd (by rfl)) (Ak (AL K (n:=3) (Ak (Ag 5 sc_is_too_much.nd (by rfl)) (Ak (Ag 6 sc_is_too_much.nd (by rfl)) (Ak (Ag 7 sc_is_too_much.nd (by rfl)) AK (by rfl)) (by rfl)) (by rfl)) (by rfl) (by rfl) (by rfl) (by rfl)) AK (by rfl)) (by rfl)) (by rfl)) (by rfl)) (by rfl) (by rfl) (by rfl) (by rfl)) (by rfl) (by rfl) (by rfl)) (Ai (Bl (cx 1 (by rfl)) (AL K (n:=2) (Ak (Ag 8 sc_is_too_much.nd (by rfl)) (Ak (Ag 9 sc_is_too_much.nd (by rfl)) AK (by rfl)) (by rfl)) (by rfl) (by rfl) (by rfl) (by rfl)) (by rfl) (by rfl) (by rfl)) (Ai (AI (i:=10) sc_is_too_much.nd rfl (Az (by rfl)) (Ey (AU Ep (cx 8 (by rfl)) Af (AO _)) (cx 7 (by rfl)) (cx 6 (by rfl))) (by rfl) (AA (by rfl))) (Ai (AI (i:=11) sc_is_too_much.nd rfl (Az (by rfl)) (AE (C5 rfl) rfl T.b_sum boot_sum (Am (Bw ["row"] [none] rfl (Cf K (BN s_tup (cx 2 (by rfl)) (BA (cx 8 (by rfl))) (BA (At AY (cx 9 (by rfl)) Af))) (by rfl)) (AQ.of rfl) (λ_ _ _ _=>(Ag 0 (AJ (by rfl)) (by rfl))) (λ_ _ _ _=>Br) (λ_ _ _ _=>(AE (C5 rfl) rfl T.b_sum boot_sum (Am (cx 0 (by rfl)) (by rfl)) (by decide) (by decide) (by rfl) (by rfl))) (by intro _;rfl)) (by rfl)) (by decide) (by decide) (by rfl) (by rfl)) (by rfl) (AA (by rfl))) (An (Aw (Cr Ed (At AY (cx 10 (by rfl)) (cx 11 (by rfl))) (At AY (AE (C5 rfl) rfl T.b_sum boot_sum (Am (BN s_tup (cx 4 (by rfl)) (BA (cx 8 (by rfl))) (BA (At AY (cx 9 (by rfl)) Af))) (by rfl)) (by decide) (by decide) (by rfl) (by rfl)) (cx 5 (by rfl))) (AO _)))))))),?_⟩
 unfold HI at h
 split at h
 ·rename_i v u
  obtain⟨p,T,f,l,ok,r,ru,hfl,hl,q⟩:=h
  obtain⟨A,C,B,D,M,xc,rfl,hA,hC,rc,hB,hD,hM⟩:=Aa.terms r
  obtain⟨U,rfl,hU⟩:=Aa.pair ru
  have l8:=ok.l8
  have lc:=ok.lc
  have lx:=rc.len
  rw [List.length_map] at lx
  refine⟨A,_,rfl,Ae.of hA,rfl,_,_,rfl,_,_,rfl,_,_,rfl,_,_,rfl,M,_,rfl,Ae.of hM,rfl,_,_,rfl,_,_,rfl,_,_,rfl,rfl,rfl,?_⟩
  refine⟨U,_,rfl,Ae.of hU,rfl,_,_,rfl,_,_,rfl,rfl,rfl,⟨λc=>?_,λc=>?_⟩⟩
  ·have ea:(if f=0 then T.st else T.hi)=T.st:=by
    rw [DG] at c
    have:(f:Int)=0:=by simpa using c
    rw [if_pos (by omega)]
   refine⟨(f:Int),rfl,(l:Int)+1,rfl,C,xc,rfl,hC,λR H1 s1 k1=>?_⟩
   rw [GB hfl (by omega)] at k1
   have rp:=Ac.part (Ac.ev (Ev.same s1) _ _ rc) f l
   rw [GC] at rp
   have lp:=Le (xs:=T.cs) hfl (by omega)
   have lq:=rp.len
   rw [List.length_map] at lq
   refine⟨R,rfl,⟨_,Ae.of k1⟩,Cm (xs:=part xc f l) (λi ys H'=>Ab H1 H'/\ys=(((part T.cs f l).take i).map List.sum).map V.int) (by omega) ⟨Ab.refl _,rfl⟩ (λi ys H' h=>by rw [h.2,List.length_map,List.length_map,List.length_take];omega) (λi ys H' _ h=>Ae.of (h.1 _ _ k1)) (λi x ys H' hx h=>?_) λys H2 h=>?_⟩
   ·obtain⟨r',hr',rr⟩:=Ac.mapGot rp hx
    obtain⟨ra,rfl,hra⟩:=Aa.ofRow' rr
    refine⟨trivial,λ_=>⟨ra,r',rfl,.inr (h.1 _ _ hra),h.1,?_⟩,λz=>by cases z⟩
    rw [Be hr',List.map_append,List.map_append,h.2];rfl
   ·intro m hm
    have s2:=s1.trans (h.1.trans (Ab.new (o:= .lst ys) hm))
    refine⟨m,(part T.cs f l).map List.sum,rfl,.inl ?_,?_⟩
    ·rw [Ah,h.2,List.take_of_length_le (by omega)]
    refine⟨(f:Int),rfl,(l:Int)+1,rfl,D,T.ds.map V.int,rfl,s2 _ _ hD,λR2 H3 s3 k3=>?_⟩
    rw [GB hfl (by rw [List.length_map];exact hl),GC] at k3
    refine⟨R2,part T.ds f l,rfl,.inr k3,?_⟩
    have:=q H3 (s2.trans s3)
    unfold C7 at this
    rw [ea] at this
    exact this
  ·have ea:(if f=0 then T.st else T.hi)=T.hi:=by
    rw [DG] at c
    have:(f:Int)≠0:=by simpa using c
    rw [if_neg (by omega)]
   refine⟨(f:Int),rfl,(l:Int)+1,rfl,C,xc,rfl,hC,λR H1 s1 k1=>?_⟩
   rw [GB hfl (by omega)] at k1
   have rp:=Ac.part (Ac.ev (Ev.same s1) _ _ rc) f l
   rw [GC] at rp
   have lp:=Le (xs:=T.cs) hfl (by omega)
   have lq:=rp.len
   rw [List.length_map] at lq
   refine⟨R,rfl,⟨_,Ae.of k1⟩,Cm (xs:=part xc f l) (λi ys H'=>Ab H1 H'/\ys=(((part T.cs f l).take i).map List.sum).map V.int) (by omega) ⟨Ab.refl _,rfl⟩ (λi ys H' h=>by rw [h.2,List.length_map,List.length_map,List.length_take];omega) (λi ys H' _ h=>Ae.of (h.1 _ _ k1)) (λi x ys H' hx h=>?_) λys H2 h=>?_⟩
   ·obtain⟨r',hr',rr⟩:=Ac.mapGot rp hx
    obtain⟨ra,rfl,hra⟩:=Aa.ofRow' rr
    refine⟨trivial,λ_=>⟨ra,r',rfl,.inr (h.1 _ _ hra),h.1,?_⟩,λz=>by cases z⟩
    rw [Be hr',List.map_append,List.map_append,h.2];rfl
   ·intro m hm
    have s2:=s1.trans (h.1.trans (Ab.new (o:= .lst ys) hm))
    refine⟨m,(part T.cs f l).map List.sum,rfl,.inl ?_,?_⟩
    ·rw [Ah,h.2,List.take_of_length_le (by omega)]
    refine⟨(f:Int),rfl,(l:Int)+1,rfl,D,T.ds.map V.int,rfl,s2 _ _ hD,λR2 H3 s3 k3=>?_⟩
    rw [GB hfl (by rw [List.length_map];exact hl),GC] at k3
    refine⟨R2,part T.ds f l,rfl,.inr k3,?_⟩
    have:=q H3 (s2.trans s3)
    unfold C7 at this
    rw [ea] at this
    exact this
 ·exact h.elim
theorem sc_least_stretch:AB ["terms","caps","coals","draws","main","hours","stretches","found"] ["terms"] (Au s_least_stretch):=AG
theorem Tk (F:Df K mg "least_stretch" s_least_stretch ["terms"]) (T:Tx mg) (D_is_too_much:Fn P w K mg base 1 "is_too_much" ["terms","stretch"] HI):Fn P w K mg base 2 "least_stretch" ["terms"] HJ:=by
 refine F.fn sc_least_stretch (λvs H Q E h=>?_) (λf cdv A outer s H vs Q E hr h=>?_)
 ·unfold HJ at h;split at h;rfl;exact h.elim
 refine⟨_,(Ai (Bl (cx 0 (by rfl)) (AL K (n:=4) (Ak (Ag 1 sc_least_stretch.nd (by rfl)) (Ak (Ag 2 sc_least_stretch.nd (by rfl)) (Ak (Ag 3 sc_least_stretch.nd (by rfl)) (Ak (Ag 4 sc_least_stretch.nd (by rfl)) AK (by rfl)) (by rfl)) (by rfl)) (by rfl)) (by rfl) (by rfl) (by rfl) (by rfl)) (by rfl) (by rfl) (by rfl)) (Ai (AI (i:=5) sc_least_stretch.nd rfl (Az (by rfl)) (AE (Bx K (by rfl)) rfl T.b_len PySem.boot_len (Am (cx 3 (by rfl)) (by rfl)) (by decide) (by decide) (by rfl) (by rfl)) (by rfl) (AA (by rfl))) (Ai (P4 (i:=6) ["first","last","hours"] [none,none,some 5] sc_least_stretch.nd rfl (Az (by rfl)) rfl (Cb rfl T.b_range (Am (cx 5 (by rfl)) (by rfl)) (by rfl)) (AQ.of rfl) (λ_ _ _ _=>(Ag 0 (AJ (by rfl)) (by rfl))) (λ_ _ _ _=>Br) (λ_ _ _ _=>(JY rfl T.b_range (Ao (cx 0 (by rfl)) (cx 2 (by rfl)) (by rfl)) (by rfl) (by rfl))) (λ_ _ _ _=>(Ag 1 (AJ (by rfl)) (by rfl))) (λ_ _ _ _=>Br) (λ_ _ _ _=>(BL (Ao (cx 0 (by rfl)) (cx 1 (by rfl)) (by rfl)))) (by rfl) (AA (by rfl)) (by intro _;rfl) (by intro _ _;rfl)) (Ai (Fd (i:=7) ["stretch","terms"] [none,some 0] sc_least_stretch.nd rfl (Az (by rfl)) rfl (Gs K (cx 6 (by rfl)) (by rfl)) (AQ.of rfl) (λ_ _ _ _=>(Ag 0 (AJ (by rfl)) (by rfl))) (λ_ _ _ _=>(DH (BP (Aj D_is_too_much (hr.mono (by decide)) rfl (Ao (cx 1 (by rfl)) (cx 0 (by rfl)) (by rfl)) (by decide) (by rfl) (by rfl)) (by intro _;rfl)))) (λ_ _ _ _=>(cx 0 (by rfl))) (by rfl) (AA (by rfl)) (by intro _;rfl)) (An (Aw (Ey (P6 (cx 7 (by rfl)) (by intro _;rfl)) (AF (Bp K (by rfl)) (cx 7 (by rfl)) Af (λ_ _=>rfl)) BM))))))),?_⟩
 unfold HJ at h
 split at h
 ·rename_i v
  obtain⟨p,T,ok,r,q⟩:=h
  obtain⟨A,C,B,D,M,xc,rfl,hA,hC,rc,hB,hD,hM⟩:=Aa.terms r
  have l8:=ok.l8
  refine⟨A,_,rfl,Ae.of hA,rfl,_,_,rfl,_,_,rfl,_,_,rfl,_,_,rfl,rfl,?_⟩
  refine⟨D,_,rfl,.inr (Ae.of hD),?_⟩
  rw [List.length_map]
  refine⟨_,rfl,by omega,by omega,P2 (n:=T.ds.length) (λi zs H'=>Ab H H'/\Ac p H' ((Cv T.ds.length i).map pD) zs) ⟨Ab.refl _,.nil⟩ (λi zs H1 hi h=>?_) λzs H1 h=>?_⟩
  ·refine⟨⟨rfl,trivial⟩,λ_=>?_,λz=>by cases z⟩
   have lz:=h.2.len
   rw [List.length_map] at lz
   have ls:=Lh (n:=T.ds.length) (k:=i)
   have lm:T.ds.length * i<=8 * 8:=Nat.mul_le_mul l8 (by omega)
   have e0:((T.ds.length:Int)-(0+(i:Int))).toNat=T.ds.length-i:=by omega
   refine⟨_,_,rfl,⟨by omega,by omega,by omega,by omega⟩,?_⟩
   rw [e0]
   refine P1 (n:=T.ds.length-i) (λj ys H2=>Ab H H2/\Ac p H2 ((Cv T.ds.length i++C8 i j).map pD) ys/\j<=8) ⟨h.1,?_,Nat.zero_le _⟩ (λj ys H2 h=>?_) (λj ys H2 hj h2=>?_) λys H2 h2=>?_
   ·have e1:C8 i 0=[]:=rfl
    rw [e1,List.append_nil];exact h.2
   ·have h3:=h.2.1.len
    rw [List.length_map,List.length_append,Lf] at h3
    have:=h.2.2
    omega
   ·refine⟨⟨rfl,rfl,trivial⟩,λ_ t ht=>?_,λz=>by cases z⟩
    have nt:=Ab.new (o:= .tup [.int (0+(i:Int)),.int (0+(i:Int)+(j:Int))]) ht
    refine⟨h2.1.trans nt,?_,by omega⟩
    rw [P7,<-List.append_assoc,List.map_append]
    exact Ac.snoc (Ac.ev (Ev.same nt) _ _ h2.2.1) (Aa.tup Ah (.cons (Aa.intE (by simp)) (.cons (Aa.intE (by simp)) .nil)))
   ·refine⟨h2.1,?_⟩
    rw [Lg]
    exact h2.2.1
  ·intro m hm
   have s1:=h.1.trans (Ab.new (o:= .lst zs) hm)
   have r1:=Ac.ev (Ev.new (p:=p) (o:= .lst zs) hm) _ _ h.2
   have lz:=h.2.len
   rw [List.length_map] at lz
   have ls:=Lh (n:=T.ds.length) (k:=T.ds.length)
   have lm:T.ds.length * T.ds.length<=8 * 8:=Nat.mul_le_mul l8 l8
   refine⟨m,rfl,⟨zs,Al.of Ah⟩,IC (xs:=zs) (λi ys H'=>Ab (upd H1 m (.lst zs)) H'/\Ac p H' ((((Cv T.ds.length T.ds.length).take i).filter λq=>C7 T q.1 q.2).map pD) ys) (by omega) ⟨Ab.refl _,.nil⟩ (λi ys H' h=>?_) (λi ys H' _ h=>Al.of (h.1 _ _ Ah)) (λi x ys H' hx h=>?_) λys H2 h2=>?_⟩
   ·rw [<-h.2.len,List.length_map]
    exact Nat.le_trans (List.length_filter_le _ _) (by rw [List.length_take];omega)
   ·obtain⟨⟨f,l⟩,hf,rd⟩:=Ac.mapGot r1 hx
    obtain⟨hfl,hl⟩:=Li (Nat.le_refl _) _ (List.mem_of_getElem? hf)
    refine⟨⟨rfl,trivial⟩,p,T,f,l,ok,Aa.ev (Ev.same (s1.trans h.1)) _ _ r,Aa.ev (Ev.same h.1) _ _ rd,hfl,hl,λH3 s3=>⟨λc=>?_,λc=>?_⟩⟩
    ·refine⟨h.1.trans s3,?_⟩
     rw [Be hf,List.filter_append,List.filter_cons_of_pos (by exact c),List.map_append]
     exact Ac.snoc (Ac.ev (Ev.same s3) _ _ h.2) (Aa.ev (Ev.same (h.1.trans s3)) _ _ rd)
    ·refine⟨h.1.trans s3,?_⟩
     rw [Be hf,List.filter_append,List.filter_cons_of_neg (by rw [show C7 T (f,l).1 (f,l).2=false from c];decide),List.filter_nil,List.append_nil]
     exact Ac.ev (Ev.same s3) _ _ h.2
   ·intro m2 hm2
    rw [List.take_of_length_le (by omega)] at h2
    have s2:=s1.trans (h2.1.trans (Ab.new (o:= .lst ys) hm2))
    have r2:=Ac.ev (Ev.new (p:=p) (o:= .lst ys) hm2) _ _ h2.2
    refine⟨m2,ys,rfl,Ah,⟨λc=>?_,λc=>?_⟩⟩
    ·cases ys with
     | nil=>cases c
     | cons y ys=>
      refine⟨m2,_,0,y,rfl,rfl,Al.of Ah,C2 (j:=0) rfl,q _ _ s2 ?_⟩
      have eq:EE T=(Cv T.ds.length T.ds.length).filter λq=>C7 T q.1 q.2:=rfl
      unfold AT
      rw [<-eq] at r2
      cases z:EE T with
      | nil=>rw [z] at r2;have:=r2.len;cases this
      | cons a l=>
       rw [z] at r2
       unfold Ac at r2
       obtain⟨x,t,e,rx,_⟩:=r2
       cases e
       exact rx
    ·cases ys with
     | cons y ys=>cases c
     | nil=>
      refine q _ _ s2 ?_
      have eq:EE T=(Cv T.ds.length T.ds.length).filter λq=>C7 T q.1 q.2:=rfl
      unfold AT
      rw [<-eq] at r2
      cases z:EE T with
      | nil=>exact Aa.non
      | cons a l=>rw [z] at r2;have:=r2.len;cases this
 ·exact h.elim
theorem Tl:AB ["row","at","part"] ["row","at","part"] (Au s_replaced):=AG
theorem Tm (F:Df K mg "replaced" s_replaced ["row","at","part"]) (T:Tx mg)  :Fn P w K mg base 1 "replaced" ["row","at","part"] FK:=by
 refine F.fn Tl (λvs H Q E h=>?_) (λf cdv A outer s H vs Q E hr h=>?_)
 ·unfold FK at h;split at h;rfl;exact h.elim
 refine⟨_,(An (Aw (At Fj (At Fj (BN s_tup (cx 0 (by rfl)) Ce (BA (cx 1 (by rfl)))) (BL (Am (cx 2 (by rfl)) (by rfl)))) (BN s_tup (cx 0 (by rfl)) (BA (At AY (cx 1 (by rfl)) Af)) Ce)))),?_⟩
 unfold FK at h
 split at h
 ·rename_i A n y
  obtain⟨xs,k,rfl,hk,l100,hA,q⟩:=h
  refine⟨(k:Int),rfl,A,xs,rfl,hA,λu1 H1 s1 k1 t ht=>?_⟩
  have n1:=Ab.new (o:= .tup [y]) ht
  rw [HH (by omega)] at k1
  refine⟨u1,t,_,_,rfl,rfl,n1 _ _ k1,Ah,(by rw [List.length_take,List.length_singleton];omega),λu2 H2 s2 k2=>?_⟩
  refine⟨(k:Int)+1,rfl,A,xs,rfl,(s1.trans (n1.trans s2)) _ _ hA,λu3 H3 s3 k3=>?_⟩
  refine⟨u2,u3,_,_,rfl,rfl,s3 _ _ k2,k3,?_,λu4 H4 s4 k4=>?_⟩
  ·have:=F9 xs (some ((k:Int)+1)) none
   rw [List.length_append,List.length_take,List.length_singleton]
   omega
  ·refine q u4 H4 (s1.trans (n1.trans (s2.trans (s3.trans s4)))) ?_
   rw [k4]
   congr 2
   have e:Bn xs (some ((k:Int)+1)) none=xs.drop (k+1):=by
    unfold Bn
    rw [show((k:Int)+1)=((k+1:Nat):Int) by omega,HT.sIx_nat,Nat.min_eq_left (by omega)]
    show(xs.drop (k+1)).take (xs.length-(k+1))=_
    rw [List.take_of_length_le (by rw [List.length_drop];exact Nat.le_refl _)]
   rw [e,List.set_eq_take_append_cons_drop,if_pos hk,List.append_assoc];rfl
 ·exact h.elim
end
end MF
end
section
namespace MF
open PySem PySem.Spec PyProof.Rows L2
variable {j : Nat} {T : TM}
def Cz:List Int->List Int->Int->List Int
 | m::r,c::cs,u=>(m+min u (c-m))::Cz r cs (u-min u (c-m))
 | _,_,_=>[]
def DW:List Int->List Int->Int->Nat->Int
 | m::r,c::cs,u,i+1=>DW r cs (u-min u (c-m)) i
 | _,_,u,_=>u
theorem Jv:∀ {rs cs:List Int}{u:Int},rs.length=cs.length->(Cz rs cs u).length=rs.length
 | [],[],_,_=>rfl
 | _::_,_::_,_,h=>by
  show(Cz _ _ _).length+1=_+1
  rw [Jv (by simpa using h)]
theorem Mu {rs cs:List Int}{u:Int}:DW rs cs u 0=u:=by
 cases rs with
 | nil=>rfl
 | cons _ _=>cases cs with
  | nil=>rfl
  | cons _ _=>rfl
theorem Mv:∀ {rs cs:List Int}{u:Int}{i:Nat}{m c:Int},rs[i]? =some m->cs[i]? =some c->(Cz rs cs u)[i]? =some (m+min (DW rs cs u i) (c-m))/\DW rs cs u (i+1)=DW rs cs u i-min (DW rs cs u i) (c-m)
 | _::r,_::cs,u,0,m,c,h1,h2=>by
  cases h1;cases h2
  refine⟨rfl,?_⟩
  show DW r cs _ 0=_
  rw [Mu];rfl
 | x::r,y::cs,u,i+1,m,c,h1,h2=>by
  have:=Mv (rs:=r) (cs:=cs) (u:=u-min u (y-x)) (i:=i) (m:=m) (c:=c) (by simpa using h1) (by simpa using h2)
  exact this
theorem Mw:∀ {rs cs:List Int}{u:Int},rs.length=cs.length->(∀i,rs.getD i 0<=cs.getD i 0)->0<=u->∀i,rs.getD i 0<=(Cz rs cs u).getD i 0/\(Cz rs cs u).getD i 0<=cs.getD i 0
 | [],[],_,_,_,_,i=>⟨Int.le_refl _,Int.le_refl _⟩
 | m::r,c::cs,u,hl,hb,hu,0=>by
  have:=hb 0
  simp only [List.getD_cons_zero] at this
  show m<=m+min u (c-m)/\m+min u (c-m)<=c
  omega
 | m::r,c::cs,u,hl,hb,hu,i+1=>by
  have h0:=hb 0
  simp only [List.getD_cons_zero] at h0
  exact Mw (rs:=r) (cs:=cs) (u:=u-min u (c-m)) (by simpa using hl) (λk=>by have:=hb (k+1);simpa using this) (by omega) i
theorem Mx:∀ {rs cs:List Int}{u:Int},rs.length=cs.length->(∀i,rs.getD i 0<=cs.getD i 0)->0<=u->(Cz rs cs u).sum=rs.sum+min u (cs.sum-rs.sum)
 | [],[],u,_,_,hu=>by show(0:Int)=0+min u (0-0);omega
 | m::r,c::cs,u,hl,hb,hu=>by
  have h0:=hb 0
  simp only [List.getD_cons_zero] at h0
  have hb':∀k,r.getD k 0<=cs.getD k 0:=λk=>by have:=hb (k+1);simpa using this
  have hl':r.length=cs.length:=by simpa using hl
  have ih:=Mx (rs:=r) (cs:=cs) (u:=u-min u (c-m)) hl' hb' (by omega)
  have le:=Ja hl' hb'
  show(m+min u (c-m))+(Cz r cs (u-min u (c-m))).sum=(m+r.sum)+min u ((c+cs.sum)-(m+r.sum))
  rw [ih]
  omega
def bS (fs:List (List Int)) (j:Nat):Int:=(fs.getD j []).sum
def Dy (T:TM) (fs:List (List Int)):List (List Int):=(List.range T.ds.length).map λj=>Cz (fs.getD j []) (T.cs.getD j []) (gL T (bS fs) j)
def Ap (P:PL) (S:SY) (F:List (List Int)) (b h:Nat):TM:=⟨((caps P S).drop h).map λr=>r.set b 0,P.bs.map (·.2),(draws P S).drop h,P.lo,P.hi,Av P S F h⟩
def AH (F:List (List Int)) (b h:Nat):List (List Int):=(F.drop h).map λr=>r.set b 0
def AZ (P:PL) (S:SY) (F:List (List Int)) (b h:Nat):List (List Int):=F.take h++Dy (Ap P S F b h) (AH F b h)
def EU (P:PL) (S:SY) (F:List (List Int)) (b h:Nat):PyData:=match AT (Ap P S F b h) with | none=>FD (AZ P S F b h) | some _=> .none
def Dl (P:PL) (S:SY) (F:List (List Int)) (b h:Nat):Int:=xC (gL (Ap P S F b h) (bS (AH F b h))) (S.ex.length-h)
section
variable {P : PL} {S : SY} {F : List (List Int)} {b h : Nat}
theorem BH:(Ap P S F b h).ds.length=S.ex.length-h:=by show((draws P S).drop h).length=_;rw [List.length_drop,C4]
theorem My:(Ap P S F b h).cs.length=(Ap P S F b h).ds.length:=by
 rw [BH];show(((caps P S).drop h).map _).length=_;rw [List.length_map,List.length_drop,BG]
theorem Mz (so:S.ok P.bs.length):(Ap P S F b h).ok:=⟨by rw [BH];have:=so.x8;omega,My⟩
theorem Jw {xs:List (List Int)} (hj:h+j<xs.length):(((xs.drop h).map λr=>r.set b 0).getD j [])=(xs.getD (h+j) []).set b 0:=by
 rw [List.getD_eq_getElem?_getD,List.getElem?_map,List.getElem?_drop,List.getD_eq_getElem?_getD,List.getElem?_eq_getElem hj];rfl
theorem FL {j:Nat} (hj:h+j<S.ex.length):(Ap P S F b h).cs.getD j []=(AS P.bs S.fs (h+j:Nat)).set b 0:=by
 show(((caps P S).drop h).map λr=>r.set b 0).getD j []=_
 rw [Jw (by rw [BG];exact hj),List.getD_eq_getElem?_getD,CI hj];rfl
theorem HK {j:Nat}:(Ap P S F b h).ds.getD j 0=C6 P S (h+j):=by
 show((draws P S).drop h).getD j 0=(draws P S).getD (h+j) 0
 rw [List.getD_eq_getElem?_getD,List.getElem?_drop,List.getD_eq_getElem?_getD]
theorem EV (fo:FOk P S F) {j:Nat} (hj:h+j<S.ex.length):(AH F b h).getD j []=(F.getD (h+j) []).set b 0:=Jw (by rw [fo.len];exact hj)
theorem CM {r:List Int}{k:Nat}:(r.set b 0).getD k 0=if k=b then 0 else r.getD k 0:=by
 rw [List.getD_eq_getElem?_getD,List.getElem?_set]
 by_cases e:b=k
 ·subst e
  rw [if_pos rfl,if_pos rfl]
  split<;>rfl
 ·rw [if_neg e,if_neg (λz=>e z.symm),List.getD_eq_getElem?_getD]
theorem Dz (fo:FOk P S F) {i:Nat} (hi:i<S.ex.length):(F.getD i []).length=P.bs.length/\∀k,0<=(F.getD i []).getD k 0/\(F.getD i []).getD k 0<=(AS P.bs S.fs (i:Int)).getD k 0:=by
 have hF:F[i]? =some (F.getD i []):=by rw [List.getD_eq_getElem?_getD,List.getElem?_eq_getElem (by rw [fo.len];exact hi)];rfl
 have l1:=fo.row i _ hF
 have l2:(AS P.bs S.fs (i:Int)).length=P.bs.length:=Cu
 refine⟨l1,λk=>?_⟩
 by_cases hk:k<P.bs.length
 ·exact fo.bd i _ k _ _ hF (GJ (by rw [l1];exact hk)) (GJ (by rw [l2];exact hk))
 ·rw [Ly (by omega),Ly (by omega)];exact⟨Int.le_refl _,Int.le_refl _⟩
theorem HL (fo:FOk P S F) {j:Nat} (hj:h+j<S.ex.length):((AH F b h).getD j []).length=((Ap P S F b h).cs.getD j []).length/\(∀k,((AH F b h).getD j []).getD k 0<=((Ap P S F b h).cs.getD j []).getD k 0)/\((AH F b h).getD j []).length=P.bs.length:=by
 obtain⟨l1,bd⟩:=Dz fo hj
 rw [EV fo hj,FL hj]
 refine⟨by rw [List.length_set,List.length_set,l1,Cu],λk=>?_,by rw [List.length_set,l1]⟩
 rw [CM,CM]
 split
 ·exact Int.le_refl _
 ·exact(bd k).2
def Ba (P:PL) (S:SY) (F:List (List Int)) (b h:Nat) (j:Nat):Int:=((Ap P S F b h).cs.getD j []).sum-bS (AH F b h) j
theorem Ej (fo:FOk P S F):Ef (Ap P S F b h) (bS (AH F b h)) (Ba P S F b h):=by
 refine⟨λj hj=>by unfold Ba;omega,λj hj=>?_⟩
 rw [BH] at hj
 obtain⟨a,c,_⟩:=HL fo (b:=b) (h:=h) (j:=j) (by omega)
 have:=Ja a c
 unfold Ba bS
 omega
structure OutOk (P:PL) (S:SY) (F:List (List Int)) (b h:Nat):Prop where
 ok:P.ok
 so:S.ok P.bs.length
 fo:FOk P S F
 ke:BC P S F
 hb:b<P.bs.length
 hh:h<S.ex.length
theorem OutOk.lo (o:OutOk P S F b h):(Ap P S F b h).lo<=(Ap P S F b h).st/\(Ap P S F b h).lo<=(Ap P S F b h).hi:=by
 have:=(PC o.ok (S:=S) (F:=F) (k:=h) (λi hi=>o.ke i (by have:=o.hh;omega)))
 have h1:=o.ok.ls
 have h2:=o.ok.sh
 exact⟨this.1,by show P.lo<=P.hi;omega⟩
theorem OutOk.str (o:OutOk P S F b h):AT (Ap P S F b h)=none↔lz (Ap P S F b h) 0<=(Ap P S F b h).st/\∀j,1<=j->j<=(Ap P S F b h).ds.length->lz (Ap P S F b h) j<=(Ap P S F b h).hi:=QR My o.lo.1 o.lo.2
theorem OutOk.g (o:OutOk P S F b h) (no:AT (Ap P S F b h)=none) {j:Nat} (hj:h+j<S.ex.length):0<=gL (Ap P S F b h) (bS (AH F b h)) j/\gL (Ap P S F b h) (bS (AH F b h)) j<=Ba P S F b h j/\P.lo<=gM (Ap P S F b h) (bS (AH F b h)) (j+1):=by
 obtain⟨a,c⟩:=o.str.mp no
 have hn:j<(Ap P S F b h).ds.length:=by rw [BH];omega
 obtain⟨c1,c2,c3⟩:=(LN (Ej o.fo) a c j (by omega)).2 hn
 exact⟨c1,c2,Int.le_trans (GI (T:=Ap P S F b h)) c3⟩
theorem Tn {fs:List (List Int)} (hj:j<T.ds.length):(Dy T fs).getD j []=Cz (fs.getD j []) (T.cs.getD j []) (gL T (bS fs) j):=by
 unfold Dy
 rw [List.getD_eq_getElem?_getD,List.getElem?_map,List.getElem?_range hj];rfl
theorem HM {fs:List (List Int)}:(Dy T fs).length=T.ds.length:=by unfold Dy;simp
theorem MA (o:OutOk P S F b h):(AZ P S F b h).length=S.ex.length:=by
 unfold AZ
 have:=o.fo.len
 have:=o.hh
 rw [List.length_append,List.length_take,HM,BH];omega
theorem HN (o:OutOk P S F b h) {i:Nat} (hi:i<h):(AZ P S F b h).getD i []=F.getD i []:=by
 have:=o.fo.len
 have:=o.hh
 unfold AZ
 rw [List.getD_eq_getElem?_getD,List.getElem?_append_left (by rw [List.length_take];omega),List.getElem?_take_of_lt hi,List.getD_eq_getElem?_getD]
theorem MB (o:OutOk P S F b h) {j:Nat} (hj:h+j<S.ex.length):(AZ P S F b h).getD (h+j) []=Cz ((AH F b h).getD j []) ((Ap P S F b h).cs.getD j []) (gL (Ap P S F b h) (bS (AH F b h)) j):=by
 have l1:=o.fo.len
 have hh:=o.hh
 have lt:(F.take h).length=h:=by rw [List.length_take];omega
 rw [<-Tn (by rw [BH];omega)]
 unfold AZ
 rw [List.getD_eq_getElem?_getD,List.getElem?_append_right (by omega),lt,show h+j-h=j from by omega,List.getD_eq_getElem?_getD]
theorem MC (o:OutOk P S F b h) (no:AT (Ap P S F b h)=none) {j:Nat} (hj:h+j<S.ex.length):made (AZ P S F b h) (h+j)=bS (AH F b h) j+gL (Ap P S F b h) (bS (AH F b h)) j:=by
 obtain⟨g1,g2,_⟩:=o.g no hj
 obtain⟨a,c,_⟩:=HL o.fo (b:=b) (h:=h) hj
 unfold made
 rw [MB o hj,Mx a c g1]
 unfold Ba at g2
 show bS (AH F b h) j+min _ (_-bS (AH F b h) j)=_
 omega
theorem FM {G:List (List Int)}:∀k,(∀i,i<k->made G i=made F i)->Av P S G k=Av P S F k
 | 0,_=>rfl
 | k+1,e=>by
  have h1:=FM k λi hi=>e i (by omega)
  have h2:=e k (by omega)
  show Av P S G k+(made G k-C6 P S k)-CJ P.hi (Av P S G k+(made G k-C6 P S k))=_
  rw [h1,h2];rfl
theorem To (o:OutOk P S F b h) (no:AT (Ap P S F b h)=none):∀j,h+j<=S.ex.length->Av P S (AZ P S F b h) (h+j)=gM (Ap P S F b h) (bS (AH F b h)) j:=by
 intro j
 induction j with
 | zero=>
  intro _
  exact FM h λi hi=>by unfold made;rw [HN o hi]
 | succ j ih=>
  intro hj
  have e:=ih (by omega)
  show Av P S _ (h+j+1)=_
  rw [Dk,LC]
  unfold Bf
  rw [e,MC o no (by omega),<-HK (F:=F) (b:=b)]
  show min P.hi _=min P.hi (_+(bS (AH F b h) j-_)+gL (Ap P S F b h) (bS (AH F b h)) j)
  congr 1
  omega
theorem Tp (o:OutOk P S F b h) (no:AT (Ap P S F b h)=none):BC P S (AZ P S F b h):=λi hi=>by
 by_cases c:i<h
 ·have e:Av P S (AZ P S F b h) i=Av P S F i:=FM i λk hk=>by unfold made;rw [HN o (by omega)]
  have:=o.ke i hi
  unfold Bf at this ⊢
  rw [e]
  unfold made at this ⊢
  rw [HN o c];exact this
 ·have ei:i=h+(i-h):=by omega
  rw [ei]
  have:=(o.g no (j:=i-h) (by omega)).2.2
  have e:=To o no (i-h+1) (by omega)
  rw [show h+(i-h+1)=h+(i-h)+1 from by omega] at e
  have:=(Lw (P:=P) (S:=S) (F:=AZ P S F b h) (i:=h+(i-h))).1
  omega
theorem Jx (o:OutOk P S F b h) (no:AT (Ap P S F b h)=none) {j:Nat} (hj:h+j<S.ex.length):((AZ P S F b h).getD (h+j) []).length=P.bs.length/\∀k,(((F.getD (h+j) []).set b 0).getD k 0<=((AZ P S F b h).getD (h+j) []).getD k 0)/\((AZ P S F b h).getD (h+j) []).getD k 0<=((AS P.bs S.fs (h+j:Nat)).set b 0).getD k 0:=by
 obtain⟨g1,g2,_⟩:=o.g no hj
 obtain⟨a,c,l⟩:=HL o.fo (b:=b) (h:=h) hj
 have bd:=Mw a c g1
 rw [MB o hj]
 refine⟨by rw [Jv a,l],λk=>?_⟩
 rw [<-EV o.fo hj,<-FL (F:=F) hj]
 exact bd k
theorem MD (o:OutOk P S F b h) (no:AT (Ap P S F b h)=none):FOk P S (AZ P S F b h):=by
 have ml:=MA o
 have gt:∀(i:Nat) (r:List Int),(AZ P S F b h)[i]? =some r->i<S.ex.length/\r=(AZ P S F b h).getD i []:=λi r e=>by
  have hi:=(List.getElem?_eq_some_iff.mp e).1
  exact⟨by omega,by rw [List.getD_eq_getElem?_getD,e];rfl⟩
 have key:∀i,i<S.ex.length->((AZ P S F b h).getD i []).length=P.bs.length/\∀k,0<=((AZ P S F b h).getD i []).getD k 0/\((AZ P S F b h).getD i []).getD k 0<=(AS P.bs S.fs (i:Int)).getD k 0:=λi hi=>by
  by_cases c:i<h
  ·rw [HN o c];exact Dz o.fo hi
  ·have ei:i=h+(i-h):=by omega
   rw [ei]
   obtain⟨l,bd⟩:=Jx o no (j:=i-h) (by omega)
   obtain⟨_,b0⟩:=Dz o.fo (i:=h+(i-h)) (by omega)
   refine⟨l,λk=>?_⟩
   have h1:=bd k
   rw [CM,CM] at h1
   have h2:=b0 k
   by_cases e:k=b
   ·rw [if_pos e,if_pos e] at h1
    omega
   ·rw [if_neg e,if_neg e] at h1
    omega
 refine⟨ml,λi r e=>?_,λi r j x c e hx hc=>?_⟩
 ·obtain⟨hi,rfl⟩:=gt i r e
  exact(key i hi).1
 ·obtain⟨hi,rfl⟩:=gt i r e
  have:=(key i hi).2 j
  rw [List.getD_eq_getElem?_getD,hx,List.getD_eq_getElem?_getD,hc] at this
  exact this
theorem ME (o:OutOk P S F b h) (no:AT (Ap P S F b h)=none) {j:Nat} (hj:h+j<S.ex.length):((AZ P S F b h).getD (h+j) []).getD b 0=0:=by
 have:=(Jx o no hj).2 b
 rw [CM,CM,if_pos rfl,if_pos rfl] at this
 omega
theorem Jy {l:List Int} (hj:j<l.length):(l.take (j+1)).sum=(l.take j).sum+l.getD j 0:=by
 rw [Be (GJ hj),List.sum_append];simp
theorem MG {r s:List Int}{n:Nat} (l1:r.length=n) (l2:s.length=n) (sb:s.getD b 0=0) (le:∀k,(r.set b 0).getD k 0<=s.getD k 0):∀j,j<=n->(CS r s b j).sum=(s.take j).sum-((r.set b 0).take j).sum:=by
 intro j
 induction j with
 | zero=>intro _;rfl
 | succ j ih=>
  intro hj
  have e:=ih (by omega)
  rw [Jt,Jy (by omega),Jy (by rw [List.length_set];omega),CM]
  have hl:=le j
  rw [CM] at hl
  by_cases c:j=b
  ·rw [if_neg (by simp [c]),if_pos c,e,c,sb];omega
  ·rw [if_pos (by simp [c]),if_neg c,List.sum_append,e]
   rw [if_neg c] at hl
   have:FH (r.getD j 0-s.getD j 0)=s.getD j 0-r.getD j 0:=by unfold FH;split<;>omega
   rw [this]
   simp
   omega
theorem Tq (o:OutOk P S F b h) (no:AT (Ap P S F b h)=none) {j:Nat} (hj:h+j<S.ex.length):(CS (F.getD (h+j) []) ((AZ P S F b h).getD (h+j) []) b P.bs.length).sum=gL (Ap P S F b h) (bS (AH F b h)) j:=by
 obtain⟨l,bd⟩:=Jx o no hj
 obtain⟨l1,_⟩:=Dz o.fo hj
 rw [MG l1 l (ME o no hj) (λk=>(bd k).1) P.bs.length (Nat.le_refl _),List.take_of_length_le (by omega),List.take_of_length_le (by rw [List.length_set];omega)]
 have:=MC o no hj
 unfold made at this
 rw [this]
 show bS (AH F b h) j+_-_=_
 unfold bS
 rw [EV o.fo hj]
 omega
theorem Tr (o:OutOk P S F b h) (no:AT (Ap P S F b h)=none):∀j,h+j<=S.ex.length->(Dd F (AZ P S F b h) b h j P.bs.length).sum=xC (gL (Ap P S F b h) (bS (AH F b h))) j:=by
 intro j
 induction j with
 | zero=>intro _;rfl
 | succ j ih=>
  intro hj
  rw [HB,List.sum_append,ih (by omega),Tq o no (by omega)];rfl
theorem MH (o:OutOk P S F b h) (no:AT (Ap P S F b h)=none):ET F (AZ P S F b h) b h S.ex.length P.bs.length=Dl P S F b h:=Tr o no _ (by have:=o.hh;omega)
end
end MF
end
section
namespace MF
open PySem PySem.Spec PyProof.Rows L2
def A7 (P:PL) (S:SY) (F:List (List Int)) (b h:Nat):List (List Int):=F.take h++((caps P S).drop h).map λr=>r.set b 0
def FN (P:PL) (S:SY) (F:List (List Int)) (b k:Nat):List Nat:=(List.range k).filter λh=>decide (AT (Ap P S F b h)=none)
section
variable {P : PL} {S : SY} {F : List (List Int)} {b h : Nat}
theorem MI (o:OutOk P S F b h):(A7 P S F b h).length=S.ex.length:=by
 have:=o.fo.len
 have:=o.hh
 unfold A7
 rw [List.length_append,List.length_take,List.length_map,List.length_drop,BG];omega
theorem HP (o:OutOk P S F b h) {i:Nat} (hi:i<h):(A7 P S F b h).getD i []=F.getD i []:=by
 have:=o.fo.len
 have:=o.hh
 unfold A7
 rw [List.getD_eq_getElem?_getD,List.getElem?_append_left (by rw [List.length_take];omega),List.getElem?_take_of_lt hi,List.getD_eq_getElem?_getD]
theorem FO (o:OutOk P S F b h) {j:Nat} (hj:h+j<S.ex.length):(A7 P S F b h).getD (h+j) []=(AS P.bs S.fs ((h+j:Nat):Int)).set b 0:=by
 have l1:=o.fo.len
 have hh:=o.hh
 have lt:(F.take h).length=h:=by rw [List.length_take];omega
 have e:(A7 P S F b h).getD (h+j) []=(((caps P S).drop h).map λr=>r.set b 0).getD j []:=by
  unfold A7
  rw [List.getD_eq_getElem?_getD,List.getElem?_append_right (by omega),lt,show h+j-h=j from by omega,List.getD_eq_getElem?_getD]
 rw [e,Jw (by rw [BG];exact hj),List.getD_eq_getElem?_getD,CI hj];rfl
theorem Jz (o:OutOk P S F b h) {j:Nat} (hj:h+j<S.ex.length):made (A7 P S F b h) (h+j)=bS (AH F b h) j+Ba P S F b h j:=by
 unfold made Ba
 rw [FO o hj,FL hj];omega
theorem MJ (o:OutOk P S F b h):∀j,h+j<=S.ex.length->Av P S (A7 P S F b h) (h+j)=xM P.hi (Av P S F h) (bS (AH F b h)) (dT (Ap P S F b h)) (Ba P S F b h) j:=by
 intro j
 induction j with
 | zero=>
  intro _
  exact FM h λi hi=>by unfold made;rw [HP o hi]
 | succ j ih=>
  intro hj
  have e:=ih (by omega)
  show Av P S _ (h+j+1)=_
  rw [Dk,LC]
  unfold Bf
  rw [e,Jz o (by omega),<-HK (F:=F) (b:=b)]
  show min P.hi _=min P.hi (_+(bS (AH F b h) j+Ba P S F b h j)-(Ap P S F b h).ds.getD j 0)
  congr 1
  omega
theorem Tt (o:OutOk P S F b h):FOk P S (A7 P S F b h):=by
 have ml:=MI o
 have key:∀i,i<S.ex.length->((A7 P S F b h).getD i []).length=P.bs.length/\∀k,0<=((A7 P S F b h).getD i []).getD k 0/\((A7 P S F b h).getD i []).getD k 0<=(AS P.bs S.fs (i:Int)).getD k 0:=λi hi=>by
  by_cases c:i<h
  ·rw [HP o c];exact Dz o.fo hi
  ·have ei:i=h+(i-h):=by omega
   rw [ei,FO o (by omega)]
   obtain⟨_,b0⟩:=Dz o.fo (i:=h+(i-h)) (by omega)
   refine⟨by rw [List.length_set,Cu],λk=>?_⟩
   have h2:=b0 k
   rw [CM]
   split<;>omega
 have gt:∀(i:Nat) (r:List Int),(A7 P S F b h)[i]? =some r->i<S.ex.length/\r=(A7 P S F b h).getD i []:=λi r e=>by
  have hi:=(List.getElem?_eq_some_iff.mp e).1
  exact⟨by omega,by rw [List.getD_eq_getElem?_getD,e];rfl⟩
 refine⟨ml,λi r e=>?_,λi r j x c e hx hc=>?_⟩
 ·obtain⟨hi,rfl⟩:=gt i r e
  exact(key i hi).1
 ·obtain⟨hi,rfl⟩:=gt i r e
  have:=(key i hi).2 j
  rw [List.getD_eq_getElem?_getD,hx,List.getD_eq_getElem?_getD,hc] at this
  exact this
theorem MK (o:OutOk P S F b h) {j:Nat} (hj:h+j<S.ex.length):((A7 P S F b h).getD (h+j) []).getD b 0=0:=by
 rw [FO o hj,CM,if_pos rfl]
theorem Tu (o:OutOk P S F b h):∀j,h+j<=S.ex.length->(Dd F (A7 P S F b h) b h j P.bs.length).sum=xC (Ba P S F b h) j:=by
 intro j
 induction j with
 | zero=>intro _;rfl
 | succ j ih=>
  intro hj
  rw [HB,List.sum_append,ih (by omega)]
  show _=xC (Ba P S F b h) j+Ba P S F b h j
  congr 1
  obtain⟨l1,bd⟩:=Dz o.fo (i:=h+j) (by omega)
  have l2:((A7 P S F b h).getD (h+j) []).length=P.bs.length:=by rw [FO o (by omega),List.length_set,Cu]
  rw [MG l1 l2 (MK o (by omega)) (λk=>by
   rw [FO o (by omega),CM,CM]
   split
   ·exact Int.le_refl _
   ·exact(bd k).2) P.bs.length (Nat.le_refl _),List.take_of_length_le (by omega),List.take_of_length_le (by rw [List.length_set];omega)]
  have:=Jz o (j:=j) (by omega)
  unfold made at this
  rw [this]
  have eb:bS (AH F b h) j=((F.getD (h+j) []).set b 0).sum:=by unfold bS;rw [EV o.fo (by omega)]
  omega
theorem ML (o:OutOk P S F b h) (ke:BC P S (A7 P S F b h)):Fs P.lo P.hi (Av P S F h) (bS (AH F b h)) (dT (Ap P S F b h)) (Ba P S F b h) (Ba P S F b h) (S.ex.length-h):=λi hi=>by
 have hj:h+i<S.ex.length:=by omega
 have sp:=(Ej o.fo (b:=b) (h:=h)).pos i (by rw [BH];omega)
 refine⟨sp,Int.le_refl _,?_⟩
 rw [<-MJ o (i+1) (by omega)]
 have:=(Lx (P:=P) (S:=S) (F:=A7 P S F b h) (i:=h+i) (ke (h+i) hj) (by have:=o.ok.ls;have:=o.ok.sh;omega))
 exact this
theorem JA (o:OutOk P S F b h):BC P S (A7 P S F b h) ↔AT (Ap P S F b h)=none:=by
 constructor
 ·intro ke
  have xo:=ML o ke
  rw [<-BH (F:=F) (b:=b)] at xo
  have xb:=GM (Ej o.fo) o.lo.1 xo
  refine o.str.mpr ⟨xb (Ap P S F b h).ds.length 0 (by omega),λj h2 h3=>?_⟩
  have:=xb ((Ap P S F b h).ds.length-j) j (by omega)
  cases j with
  | zero=>omega
  | succ j=>
   have e2:xM (Ap P S F b h).hi (Ap P S F b h).st (bS (AH F b h)) (dT (Ap P S F b h)) (Ba P S F b h) (j+1)=min (Ap P S F b h).hi (xM (Ap P S F b h).hi (Ap P S F b h).st (bS (AH F b h)) (dT (Ap P S F b h)) (Ba P S F b h) j+(bS (AH F b h) j+Ba P S F b h j)-(Ap P S F b h).ds.getD j 0):=rfl
   rw [e2] at this
   omega
 ·intro no i hi
  obtain⟨a,c⟩:=o.str.mp no
  by_cases ci:i<h
  ·have e:Av P S (A7 P S F b h) i=Av P S F i:=FM i λk hk=>by unfold made;rw [HP o (by omega)]
   have:=o.ke i hi
   unfold Bf at this ⊢
   rw [e]
   unfold made at this ⊢
   rw [HP o ci];exact this
  ·have key:∀j,h+j<=S.ex.length->lz (Ap P S F b h) j<=Av P S (A7 P S F b h) (h+j):=by
    intro j
    induction j with
    | zero=>
     intro _
     rw [MJ o 0 (by have:=o.hh;omega)];exact a
    | succ j ih=>
     intro hj
     have e:=ih (by omega)
     have hn:j<(Ap P S F b h).ds.length:=by rw [BH];omega
     rw [EG hn] at e
     have e':=Int.le_trans GH e
     have hz:=c (j+1) (by omega) (by rw [BH];omega)
     have hs:=(Ej o.fo (b:=b) (h:=h)).sum j hn
     show _<=Av P S _ (h+j+1)
     refine Lx ?_ hz
     unfold Bf
     rw [Jz o (by omega),<-HK (F:=F) (b:=b)]
     omega
   have ei:i=h+(i-h):=by omega
   have k1:=key (i-h+1) (by omega)
   rw [show h+(i-h+1)=h+(i-h)+1 from by omega] at k1
   have k2:=(Lw (P:=P) (S:=S) (F:=A7 P S F b h) (i:=h+(i-h))).1
   have k3:=GI (T:=Ap P S F b h) (j:=i-h+1)
   have k4:(Ap P S F b h).lo=P.lo:=rfl
   rw [ei]
   omega
theorem Tv (o:OutOk P S F b h) (no:AT (Ap P S F b h)=none):Dl P S F b h<=ET F (A7 P S F b h) b h S.ex.length P.bs.length:=by
 have hh:=o.hh
 unfold ET Dl
 rw [Tu o _ (by omega)]
 have xo:=ML o ((JA o).mpr no)
 rw [<-BH (F:=F) (b:=b)] at xo ⊢
 obtain⟨a,c⟩:=o.str.mp no
 exact(LO (Ej o.fo) o.lo.1 a c xo _ (Nat.le_refl _)).2
theorem MM (o:OutOk P S F b h):(A7 P S F b h).take h=F.take h/\∀r∈(A7 P S F b h).drop h,r.getD b 0=0:=by
 have lF:=o.fo.len
 have hh:=o.hh
 refine⟨?_,λr hr=>?_⟩
 ·unfold A7
  rw [List.take_append_of_le_length (by rw [List.length_take];omega),List.take_take,Nat.min_self]
 ·obtain⟨j,hj⟩:=List.mem_iff_getElem?.mp hr
  rw [List.getElem?_drop] at hj
  have hl:=(List.getElem?_eq_some_iff.mp hj).1
  rw [MI o] at hl
  have:=MK o (j:=j) hl
  rw [List.getD_eq_getElem?_getD (l:=A7 P S F b h),hj] at this
  exact this
theorem MN (o:OutOk P S F b h) (no:AT (Ap P S F b h)=none):(AZ P S F b h).take h=F.take h/\∀r∈(AZ P S F b h).drop h,r.getD b 0=0:=by
 have lF:=o.fo.len
 have hh:=o.hh
 refine⟨?_,λr hr=>?_⟩
 ·unfold AZ
  rw [List.take_append_of_le_length (by rw [List.length_take];omega),List.take_take,Nat.min_self]
 ·obtain⟨j,hj⟩:=List.mem_iff_getElem?.mp hr
  rw [List.getElem?_drop] at hj
  have hl:=(List.getElem?_eq_some_iff.mp hj).1
  rw [MA o] at hl
  have:=ME o no (j:=j) hl
  rw [List.getD_eq_getElem?_getD (l:=AZ P S F b h),hj] at this
  exact this
end
end MF
end
section
namespace MF
open PySem PySem.Spec PyProof.Rows L2
variable {p : Addr} {T : TM} {i : Nat} {H : Hp}
theorem MO {X:Cx}{j:Nat}{p q:Pos}:PE X (.UnaryOp .USub (.Constant (.int 1) j p) q) (tC (.int (-1))):=(NG NI Af).weak fun σ H Q z=>⟨1,rfl,z⟩
def HQ:Sp:=λvs H Q _=>match vs with | [v]=>∃p T,TM.ok T/\1<=T.ds.length/\Aa p H T.d v/\∀L H',Ab H H'->H L=none->H' L=some (.lst ((Ee T).map V.int))->Q (.ref L) H' | _=>False
def DX (T:TM) (i:Nat):List V:=((List.range i).map (EF T)).map V.int
theorem MP:DX T (i+1)=DX T i++[.int (EF T i)]:=by unfold DX;rw [List.range_succ,List.map_append,List.map_append];rfl
theorem Tw:(DX T i).length=i:=by unfold DX;simp
theorem Ty:(DX T T.ds.length).reverse=(Ee T).map V.int:=by
 unfold DX Ee
 rw [<-List.map_reverse,<-List.map_reverse]
 congr 1
 refine List.ext_getElem? λk=>?_
 by_cases hk:k<T.ds.length
 ·rw [List.getElem?_map,List.getElem?_map,List.getElem?_reverse (by simpa using hk),List.getElem?_range hk,List.length_range,List.getElem?_range (by omega)]
  show some (EF T _)=some (lz T (k+1))
  unfold lz
  rw [show T.ds.length-1-k=T.ds.length-(k+1) from by omega]
 ·rw [List.getElem?_eq_none (by simp;omega),List.getElem?_eq_none (by simp;omega)]
theorem Ac.at1 {p:Addr}{H:Hp}{fs:List (List Int)}{xs:List V} (r:Ac p H (fs.map AN) xs) {k:Nat} (hk:k<fs.length):∃ra,xs[k]? =some (.ref ra)/\H ra=some (.tup ((fs.getD k []).map V.int)):=by
 obtain⟨y,hy,ry⟩:=r.get (i:=k) (d:=AN (fs.getD k [])) (by rw [List.getElem?_map,List.getElem?_eq_getElem hk,List.getD_eq_getElem?_getD,List.getElem?_eq_getElem hk];rfl)
 obtain⟨ra,rfl,hra⟩:=Aa.ofRow ry
 exact⟨ra,hy,hra⟩
theorem JB {i j:Int}:(if j<i then j else i)=min i j:=by split<;>omega
def HR:Sp:=λvs H Q _=>match vs with | [.ref r,.ref c,.int u]=>∃rs cs:List Int,H r=some (.tup (rs.map V.int))/\H c=some (.tup (cs.map V.int))/\rs.length=cs.length/\rs.length<=100/\∀A H',Ab H H'->H' A=some (.tup ((Cz rs cs u).map V.int))->Q (.ref A) H' | _=>False
def HS:Sp:=λvs H Q _=>match vs with | [v,.ref r]=>∃p T fs xs,TM.ok T/\1<=T.ds.length/\Aa p H T.d v/\H r=some (.lst xs)/\Ac p H (List.map AN fs) xs/\fs.length=T.ds.length/\(∀j,j<T.ds.length->(fs.getD j []).length=(T.cs.getD j []).length/\(fs.getD j []).length<=100)/\ret H Q p (FD (Dy T fs)) | _=>False
def HU:Sp:=λvs H Q _=>match vs with | [v,u,w,.int b,.int h]=>∃p P S F,∃b' h':Nat,b=(b':Int)/\h=(h':Int)/\Tri p H P S F v u w/\OutOk P S F b' h'/\ret H Q p (Ap P S F b' h').d | _=>False
def JC:Sp:=λvs H Q _=>match vs with | [v,u,w,.int b,.int h]=>∃p P S F,∃b' h':Nat,b=(b':Int)/\h=(h':Int)/\Tri p H P S F v u w/\OutOk P S F b' h'/\ret H Q p (EU P S F b' h') | _=>False
def FP:Sp:=λvs H Q _=>match vs with | [v,u,w,.int b,.int h]=>∃p P S F,∃b' h':Nat,b=(b':Int)/\h=(h':Int)/\Tri p H P S F v u w/\OutOk P S F b' h'/\(AT (Ap P S F b' h')≠none->∀H',Ab H H'->Q .non H')/\(AT (Ap P S F b' h')=none->∀H',Ab H H'->Q (.int (Dl P S F b' h')) H') | _=>False
theorem FQ {xs:List V}{n:Nat}:Bn xs (some ((n:Nat):Int)) none=xs.drop n:=by
 have eN:HT.sIx xs.length xs.length none=xs.length:=rfl
 unfold Bn
 rw [HT.sIx_nat,eN]
 by_cases h:n<=xs.length
 ·rw [Nat.min_eq_left h]
  exact List.take_of_length_le (by rw [List.length_drop];omega)
 ·rw [Nat.min_eq_right (by omega)]
  rw [List.drop_of_length_le (Nat.le_refl _),List.drop_of_length_le (by omega)];simp
theorem Ac.drp:∀ {ds:List PyData}{xs:List V},Ac p H ds xs->∀n,Ac p H (ds.drop n) (xs.drop n)
 | [],xs,r,n=>by unfold Ac at r;subst r;rw [List.drop_nil,List.drop_nil];exact .nil
 | d::ds,xs,r,n=>by
  unfold Ac at r
  obtain⟨x,t,rfl,rx,rt⟩:=r
  cases n with
  | zero=>exact .cons rx rt
  | succ n=>exact Ac.drp rt n
theorem Ac.tkP:∀ {ds:List PyData}{xs:List V},Ac p H ds xs->∀n,Ac p H (ds.take n) (xs.take n)
 | [],xs,r,n=>by unfold Ac at r;subst r;rw [List.take_nil,List.take_nil];exact .nil
 | d::ds,xs,r,n=>by
  unfold Ac at r
  obtain⟨x,t,rfl,rx,rt⟩:=r
  cases n with
  | zero=>exact .nil
  | succ n=>exact .cons rx (Ac.tkP rt n)
def Dm (P:PL) (S:SY) (F:List (List Int)) (k:Nat):List Int:=(List.range k).map λi=>Av P S F (i+1)
theorem Tz {P:PL}{S:SY}{F:List (List Int)}{k h:Nat} (hh:h<=k):([V.int (terms P S).st]++(Dm P S F k).map V.int)[h]? =some (.int (Av P S F h)):=by
 cases h with
 | zero=>rfl
 | succ h=>
  rw [List.singleton_append,List.getElem?_cons_succ]
  unfold Dm
  rw [List.getElem?_map,List.getElem?_map,List.getElem?_range (by omega)];rfl
section
variable {P : Program} {w : World} {K : PySem.W.Frag} {mg : Str -> Option Value} {base : Heap}
theorem sc_least_mains:AB ["terms","caps","coals","draws","low","high","start","told","row","drawn"] ["terms"] (Au s_least_mains):=AG
theorem TC (F:Df K mg "least_mains" s_least_mains ["terms"]) (T:Tx mg)  :Fn P w K mg base 1 "least_mains" ["terms"] HQ:=by
 refine F.fn sc_least_mains (λvs H Q E h=>?_) (λf cdv A outer s H vs Q E hr h=>?_)
 ·unfold HQ at h;split at h;rfl;exact h.elim
 refine⟨_,(@Ai _ _ _ _ _ (@Bl _ _ _ _ _ _ (@cx _ 0 _ _ (by rfl)) (@AL _ K _ _ _ (4) _ (@Ak _ _ _ _ _ (@Ag _ _ _ 1 sc_least_mains.nd (by rfl)) (@Ak _ _ _ _ _ (@Ag _ _ _ 2 sc_least_mains.nd (by rfl)) (@Ak _ _ _ _ _ (@Ag _ _ _ 3 sc_least_mains.nd (by rfl)) (@Ak _ _ _ _ _ (@AL _ K _ _ _ (3) _ (@Ak _ _ _ _ _ (@Ag _ _ _ 4 sc_least_mains.nd (by rfl)) (@Ak _ _ _ _ _ (@Ag _ _ _ 5 sc_least_mains.nd (by rfl)) (@Ak _ _ _ _ _ (@Ag _ _ _ 6 sc_least_mains.nd (by rfl)) (@AK _) (by rfl)) (by rfl)) (by rfl)) (by rfl) (by rfl) (by rfl) (by rfl)) (@AK _) (by rfl)) (by rfl)) (by rfl)) (by rfl)) (by rfl) (by rfl) (by rfl) (by rfl)) (by rfl) (by rfl) (by rfl)) (@Ai _ _ _ _ _ (@AI _ _ (7) _ _ _ _ sc_least_mains.nd rfl (Az (by rfl)) (@Dv _ _ _ _ (@Am _ _ _ (@cx _ 4 _ _ (by rfl)) (by rfl))) (by rfl) (AA (by rfl))) (@Ai _ _ _ _ _ (@Bu _ _ _ _ _ _ _ _ PassesOwn.never rfl (Q7 K rfl T.b_reversed (@Am _ _ _ (Q4 P w K rfl T.b_list rfl T.b_zip (@Ao _ _ _ _ _ (@BN _ _ _ _ _ _ _ _ _ _ (@s_tup _) (@cx _ 1 _ _ (by rfl)) (@BA _ _ _ (@Af _ _ _ _)) (@Ce _)) (@BN _ _ _ _ _ _ _ _ _ _ (@s_tup _) (@cx _ 3 _ _ (by rfl)) (@BA _ _ _ (@Af _ _ _ _)) (@Ce _)) (by rfl))) (by rfl))) (@AL _ K _ _ _ (2) _ (@Ak _ _ _ _ _ (@Ag _ _ _ 8 sc_least_mains.nd (by rfl)) (@Ak _ _ _ _ _ (@Ag _ _ _ 9 sc_least_mains.nd (by rfl)) (@AK _) (by rfl)) (by rfl)) (by rfl) (by rfl) (by rfl) (by rfl)) (@An _ _ _ (@Bq _ _ _ _ (@CG _ _ _ _ _ _ _ _ _ _ _ _ PySem.F.plainAttrs_list PySem.F.slot_list_append PySem.F.type_list_append CH (@cx _ 7 _ _ (by rfl)) (@Am _ _ _ (@AE _ _ _ _ _ _ _ _ _ (@F7 _ rfl) rfl T.b_max boot_max (@Ao _ _ _ _ _ (@cx _ 4 _ _ (by rfl)) (@At _ _ _ _ _ _ _ _ (@BE _) (@At _ _ _ _ _ _ _ _ (@AY _) (@AF _ _ _ _ _ _ _ (@Bp _ K (by rfl)) (@cx _ 7 _ _ (by rfl)) MO (λ_ _=>rfl)) (@cx _ 9 _ _ (by rfl))) (@AE _ _ _ _ _ _ _ _ _ (@C5 _ rfl) rfl T.b_sum boot_sum (@Am _ _ _ (@cx _ 8 _ _ (by rfl)) (by rfl)) (by decide) (by decide) (by rfl) (by rfl))) (by rfl)) (by decide) (by decide) (by rfl) (by rfl)) (by rfl)) (by rfl) (by rfl) (by rfl) (by rfl) (by rfl)) (by rfl))) (by intro _;rfl)) (@An _ _ _ (@Aw _ _ _ _ (@PZ _ _ _ _ _ _ (@cx _ 7 _ _ (by rfl)) (MO))))))),?_⟩
 unfold HQ at h
 split at h
 ·rename_i v
  obtain⟨p,T,ok,n1,r,q⟩:=h
  obtain⟨A',C,B,D,M,xc,rfl,hA,hC,rc,hB,hD,hM⟩:=Aa.terms r
  have l8:=ok.l8
  have lc:=ok.lc
  have lx:=rc.len
  rw [List.length_map] at lx
  refine⟨A',_,rfl,Ae.of hA,rfl,_,_,rfl,_,_,rfl,_,_,rfl,_,_,rfl,M,_,rfl,Ae.of hM,rfl,_,_,rfl,_,_,rfl,_,_,rfl,rfl,rfl,?_⟩
  refine λL H1 s1 hL kL=>?_
  refine⟨1,rfl,C,xc,rfl,s1 _ _ hC,λc1 H2 s2 k2=>⟨1,rfl,D,_,rfl,(s1.trans s2) _ _ hD,λd1 H3 s3 k3=>?_⟩⟩
  rw [Qy] at k2 k3
  refine⟨c1,d1,rfl,⟨_,Ae.of (s3 _ _ k2)⟩,⟨_,Ae.of k3⟩,_,_,Ae.of (s3 _ _ k2),Ae.of k3,by rw [List.length_drop,List.length_drop,List.length_map];omega,by rw [List.length_drop];omega,λZ H4 Ts s4 hZ kZ lT zd=>?_⟩
  rw [List.length_drop] at lT
  have s14:=s2.trans (s3.trans s4)
  have kL4:=s14 _ _ kL
  have sH4:=s1.trans s14
  have nZ:Z≠L:=λe=>by rw [e,(s2.trans s3) _ _ kL] at hZ;cases hZ
  refine⟨Z,_,rfl,Al.of kZ,Q8 (xs:=Ts.map V.ref) (λi σ H'=>(∃x8 x9,σ=[some (.ref A'),some (.ref C),some (.ref B),some (.ref D),some (.int T.lo),some (.int T.hi),some (.int T.st),some (.ref L),x8,x9])/\Ev L H4 H'/\H' L=some (.lst (DX T i++[.int (EF T i)]))) ⟨⟨_,_,rfl⟩,Ev.refl,kL4⟩ (λi σ H' _ h=>Al.of (h.2.1.lst kZ nZ)) (λi x σ H' hi hx h=>?_) fun σ H' h=>?_⟩
  ·obtain⟨⟨x8,x9,rfl⟩,ev,kl⟩:=h
   rw [List.length_map] at hi hx
   obtain⟨t,ht,rfl⟩:∃t,Ts[Ts.length-1-i]? =some t/\x= .ref t:=by
    rw [List.getElem?_map] at hx
    cases z:Ts[Ts.length-1-i]? with
    | none=>rw [z] at hx;cases hx
    | some t=>rw [z] at hx;cases hx;exact⟨t,rfl,rfl⟩
   have ei:Ts.length-1-i+1=T.ds.length-1-i:=by omega
   obtain⟨ra,hra,kra⟩:=Ac.at1 rc (k:=T.ds.length-1-i) (by omega)
   have h1:(xc.drop 1)[Ts.length-1-i]? =some (.ref ra):=by rw [List.getElem?_drop,Nat.add_comm,ei];exact hra
   have h2:((T.ds.map V.int).drop 1)[Ts.length-1-i]? =some (.int (T.ds.getD (T.ds.length-1-i) 0)):=by
    rw [List.getElem?_drop,Nat.add_comm,ei,List.getElem?_map,List.getD_eq_getElem?_getD,List.getElem?_eq_getElem (by omega)];rfl
   have kt:=ev.tup (zd _ _ _ _ ht h1 h2)
   have kra':=ev.tup (sH4 _ _ kra)
   refine⟨t,_,rfl,Ae.of kt,rfl,_,_,rfl,_,_,rfl,rfl,?_⟩
   refine⟨.inl ⟨rfl,_,Al.of kl⟩,L,_,-1,_,rfl,rfl,Al.of kl,N0 _ _,ra,_,rfl,.inr kra',_,_,rfl,L,_,_,rfl,rfl,kl,Co (by rw [List.length_append,Tw,List.length_singleton];omega),⟨_,_,rfl⟩,ev.trans (Ev.pen kl),?_⟩
   rw [MP]
   exact Ah
  ·obtain⟨⟨x8,x9,rfl⟩,ev,kl⟩:=h
   rw [List.length_map,lT,<-MP,show xc.length-1+1=T.ds.length from by omega] at kl
   refine⟨L,_,rfl,kl,λl hl=>?_⟩
   rw [Ty]
   have hl0:H l=none:=sH4.free (by
    cases z:H4 l with
    | none=>rfl
    | some o=>
     rcases ev l o z with⟨e,ys,w'⟩ | w'
     ·rw [e,kl] at hl;cases hl
     ·rw [w'] at hl;cases hl)
   exact q l _ ((Ab.evOwn sH4 hL ev).trans (Ab.new hl)) hl0 Ah
 ·exact h.elim
theorem sc_raised:AB ["row","caps","units","told","made","cap","more"] ["row","caps","units"] (Au s_raised):=AG
theorem TD (F:Df K mg "raised" s_raised ["row","caps","units"]) (T:Tx mg)  :Fn P w K mg base 1 "raised" ["row","caps","units"] HR:=by
 refine F.fn sc_raised (λvs H Q E h=>?_) (λf cdv A outer s H vs Q E hr h=>?_)
 ·unfold HR at h;split at h;rfl;exact h.elim
 refine⟨_,(@Ai _ _ _ _ _ (@AI _ _ (3) _ _ _ _ sc_raised.nd rfl (Az (by rfl)) (@Dv _ _ _ _ (@Cc _)) (by rfl) (AA (by rfl))) (@Ai _ _ _ _ _ (@Bu _ _ _ _ _ _ _ _ PassesOwn.never rfl (@Fl _ P w K _ _ _ _ _ _ _ _ rfl T.b_zip (@Ao _ _ _ _ _ (@cx _ 0 _ _ (by rfl)) (@cx _ 1 _ _ (by rfl)) (by rfl)) (by rfl) (by rfl) (by rfl) (by rfl) (by rfl)) (@AL _ K _ _ _ (2) _ (@Ak _ _ _ _ _ (@Ag _ _ _ 4 sc_raised.nd (by rfl)) (@Ak _ _ _ _ _ (@Ag _ _ _ 5 sc_raised.nd (by rfl)) (@AK _) (by rfl)) (by rfl)) (by rfl) (by rfl) (by rfl) (by rfl)) (@Ai _ _ _ _ _ (@AI _ _ (6) _ _ _ _ sc_raised.nd rfl (Az (by rfl)) (@AE _ _ _ _ _ _ _ _ _ (@D0 _ rfl) rfl T.b_min boot_min (@Ao _ _ _ _ _ (@cx _ 2 _ _ (by rfl)) (@At _ _ _ _ _ _ _ _ (@BE _) (@cx _ 5 _ _ (by rfl)) (@cx _ 4 _ _ (by rfl))) (by rfl)) (by decide) (by decide) (by rfl) (by rfl)) (by rfl) (AA (by rfl))) (@Ai _ _ _ _ _ (@Bq _ _ _ _ (@CG _ _ _ _ _ _ _ _ _ _ _ _ PySem.F.plainAttrs_list PySem.F.slot_list_append PySem.F.type_list_append CH (@cx _ 3 _ _ (by rfl)) (@Am _ _ _ (@At _ _ _ _ _ _ _ _ (@AY _) (@cx _ 4 _ _ (by rfl)) (@cx _ 6 _ _ (by rfl))) (by rfl)) (by rfl) (by rfl) (by rfl) (by rfl) (by rfl)) (by rfl)) (@An _ _ _ (@F1 _ _ (2) _ _ _ _ _ _ sc_raised.nd rfl (Az (by rfl)) (@cx _ 6 _ _ (by rfl)) JT (AA (by rfl)))))) (by intro _;rfl)) (@An _ _ _ (@Aw _ _ _ _ (@Bv _ _ _ _ _ _ _ _ _ (@BT _ K (by rfl)) rfl T.b_tuple BQ (@Am _ _ _ (@cx _ 3 _ _ (by rfl)) (by rfl)) (by decide) (by decide) (by rfl) (by rfl)))))),?_⟩
 unfold HR at h
 split at h
 ·rename_i r c u
  obtain⟨rs,cs,kr,kc,hl,h100,q⟩:=h
  refine λL H1 s1 hL kL=>?_
  have kr1:=s1 _ _ kr
  have kc1:=s1 _ _ kc
  have rl:=Jv (u:=u) hl
  refine⟨r,c,rfl,⟨_,Ae.of kr1⟩,⟨_,Ae.of kc1⟩,I8 (xs:=rs.map V.int) (ys:=cs.map V.int) (λi σ H'=>(∃x4 x5 x6,σ=[some (.ref r),some (.ref c),some (.int (DW rs cs u i)),some (.ref L),x4,x5,x6])/\Ev L H1 H'/\H' L=some (.lst (((Cz rs cs u).take i).map V.int))) (by rw [List.length_map,List.length_map];exact hl) ⟨⟨_,_,_,by rw [Mu];rfl⟩,Ev.refl,kL⟩ (λi σ H' h=>⟨Ae.of (h.2.1.tup kr1),Ae.of (h.2.1.tup kc1)⟩) (λi x y σ H' T hx hy h hT=>?_) fun σ H' h=>?_⟩
  ·obtain⟨⟨x4,x5,x6,rfl⟩,ev,kl⟩:=h
   rw [List.getElem?_map] at hx hy
   cases z1:rs[i]? with
   | none=>rw [z1] at hx;cases hx
   | some m=>
    cases z2:cs[i]? with
    | none=>rw [z2] at hy;cases hy
    | some c0=>
     rw [z1] at hx
     rw [z2] at hy
     cases hx
     cases hy
     obtain⟨a1,a2⟩:=Mv (u:=u) z1 z2
     have hi:i<rs.length:=(List.getElem?_eq_some_iff.mp z1).1
     have nT:=Ab.new (o:= .tup [.int m,.int c0]) hT
     have kl2:=nT _ _ kl
     have ev2:=ev.trans (Ev.same nT)
     refine⟨T,_,rfl,Ae.of Ah,rfl,_,_,rfl,_,_,rfl,rfl,?_⟩
     generalize upd H' T (.tup [.int m,.int c0])=H2 at kl2 ev2 ⊢
     refine⟨_,_,rfl,?_⟩
     rw [JB]
     refine⟨.inl ⟨rfl,_,Al.of kl2⟩,L,_,_,rfl,rfl,kl2,Co (by rw [List.length_map,List.length_take];omega),?_⟩
     refine⟨_,rfl,_,_,rfl,rfl,⟨_,_,_,by rw [a2];rfl⟩,ev2.trans (Ev.pen kl2),?_⟩
     rw [Be a1,List.map_append]
     exact Ah
  ·obtain⟨⟨x4,x5,x6,rfl⟩,ev,kl⟩:=h
   rw [List.length_map,List.take_of_length_le (by omega)] at kl
   refine⟨L,_,rfl,.inl ⟨Al.of kl,λl hl'=>?_⟩⟩
   exact q l _ ((Ab.evOwn s1 hL ev).trans (Ab.new hl')) Ah
 ·exact h.elim
theorem sc_filled_up:AB ["terms","rows","caps","coals","draws","low","high","main","told","row","most","drawn","least","lacking"] ["terms","rows"] (Au s_filled_up):=AG
theorem TF (F:Df K mg "filled_up" s_filled_up ["terms","rows"]) (T:Tx mg) (D_least_mains:Fn P w K mg base 1 "least_mains" ["terms"] HQ) (D_raised:Fn P w K mg base 1 "raised" ["row","caps","units"] HR):Fn P w K mg base 2 "filled_up" ["terms","rows"] HS:=by
 refine F.fn sc_filled_up (λvs H Q E h=>?_) (λf cdv A outer s H vs Q E hr h=>?_)
 ·unfold HS at h;split at h;rfl;exact h.elim
 refine⟨_,(@Ai _ _ _ _ _ (@Bl _ _ _ _ _ _ (@cx _ 0 _ _ (by rfl)) (@AL _ K _ _ _ (4) _ (@Ak _ _ _ _ _ (@Ag _ _ _ 2 sc_filled_up.nd (by rfl)) (@Ak _ _ _ _ _ (@Ag _ _ _ 3 sc_filled_up.nd (by rfl)) (@Ak _ _ _ _ _ (@Ag _ _ _ 4 sc_filled_up.nd (by rfl)) (@Ak _ _ _ _ _ (@AL _ K _ _ _ (3) _ (@Ak _ _ _ _ _ (@Ag _ _ _ 5 sc_filled_up.nd (by rfl)) (@Ak _ _ _ _ _ (@Ag _ _ _ 6 sc_filled_up.nd (by rfl)) (@Ak _ _ _ _ _ (@Ag _ _ _ 7 sc_filled_up.nd (by rfl)) (@AK _) (by rfl)) (by rfl)) (by rfl)) (by rfl) (by rfl) (by rfl) (by rfl)) (@AK _) (by rfl)) (by rfl)) (by rfl)) (by rfl)) (by rfl) (by rfl) (by rfl) (by rfl)) (by rfl) (by rfl) (by rfl)) (@Ai _ _ _ _ _ (@AI _ _ (8) _ _ _ _ sc_filled_up.nd rfl (Az (by rfl)) (@Dv _ _ _ _ (@Cc _)) (by rfl) (AA (by rfl))) (@Ai _ _ _ _ _ (@Bu _ _ _ _ _ _ _ _ PassesOwn.never rfl (Rk P w K rfl T.b_zip (@Bi _ _ _ _ _ _ _ _ _ (@cx _ 1 _ _ (by rfl)) (@cx _ 2 _ _ (by rfl)) (@cx _ 4 _ _ (by rfl)) (@Aj _ _ _ _ _ _ _ _ _ _ D_least_mains (hr.mono (by decide)) rfl (@Am _ _ _ (@cx _ 0 _ _ (by rfl)) (by rfl)) (by decide) (by rfl) (by rfl)) (by rfl))) (@AL _ K _ _ _ (4) _ (@Ak _ _ _ _ _ (@Ag _ _ _ 9 sc_filled_up.nd (by rfl)) (@Ak _ _ _ _ _ (@Ag _ _ _ 10 sc_filled_up.nd (by rfl)) (@Ak _ _ _ _ _ (@Ag _ _ _ 11 sc_filled_up.nd (by rfl)) (@Ak _ _ _ _ _ (@Ag _ _ _ 12 sc_filled_up.nd (by rfl)) (@AK _) (by rfl)) (by rfl)) (by rfl)) (by rfl)) (by rfl) (by rfl) (by rfl) (by rfl)) (@Ai _ _ _ _ _ (@F1 _ _ (7) _ _ _ _ _ _ sc_filled_up.nd rfl (Az (by rfl)) (@At _ _ _ _ _ _ _ _ (@BE _) (@AE _ _ _ _ _ _ _ _ _ (@C5 _ rfl) rfl T.b_sum boot_sum (@Am _ _ _ (@cx _ 9 _ _ (by rfl)) (by rfl)) (by decide) (by decide) (by rfl) (by rfl)) (@cx _ 11 _ _ (by rfl))) JS (AA (by rfl))) (@Ai _ _ _ _ _ (@AI _ _ (13) _ _ _ _ sc_filled_up.nd rfl (Az (by rfl)) (@AE _ _ _ _ _ _ _ _ _ (@F7 _ rfl) rfl T.b_max boot_max (@Ao _ _ _ _ _ (@At _ _ _ _ _ _ _ _ (@BE _) (@cx _ 12 _ _ (by rfl)) (@cx _ 7 _ _ (by rfl))) (@Af _ _ _ _) (by rfl)) (by decide) (by decide) (by rfl) (by rfl)) (by rfl) (AA (by rfl))) (@Ai _ _ _ _ _ (@Bq _ _ _ _ (@CG _ _ _ _ _ _ _ _ _ _ _ _ PySem.F.plainAttrs_list PySem.F.slot_list_append PySem.F.type_list_append CH (@cx _ 8 _ _ (by rfl)) (@Am _ _ _ (@Aj _ _ _ _ _ _ _ _ _ _ D_raised (hr.mono (by decide)) rfl (@AC _ _ _ _ _ _ _ (@cx _ 9 _ _ (by rfl)) (@cx _ 10 _ _ (by rfl)) (@cx _ 13 _ _ (by rfl)) (by rfl)) (by decide) (by rfl) (by rfl)) (by rfl)) (by rfl) (by rfl) (by rfl) (by rfl) (by rfl)) (by rfl)) (@An _ _ _ (@AI _ _ (7) _ _ _ _ sc_filled_up.nd rfl (Az (by rfl)) (@AE _ _ _ _ _ _ _ _ _ (@D0 _ rfl) rfl T.b_min boot_min (@Ao _ _ _ _ _ (@At _ _ _ _ _ _ _ _ (@AY _) (@cx _ 7 _ _ (by rfl)) (@cx _ 13 _ _ (by rfl))) (@cx _ 6 _ _ (by rfl)) (by rfl)) (by decide) (by decide) (by rfl) (by rfl)) (by rfl) (AA (by rfl))))))) (by intro _;rfl)) (@An _ _ _ (@Aw _ _ _ _ (@Bv _ _ _ _ _ _ _ _ _ (@BT _ K (by rfl)) rfl T.b_tuple BQ (@Am _ _ _ (@cx _ 8 _ _ (by rfl)) (by rfl)) (by decide) (by decide) (by rfl) (by rfl))))))),?_⟩
 unfold HS at h
 split at h
 ·rename_i v r
  obtain⟨p,T,fs,xs,ok,n1,rt,kr,rx,lf,lr,q⟩:=h
  obtain⟨A',C,B,D,M,xc,rfl,hA,hC,rc,hB,hD,hM⟩:=Aa.terms rt
  have l8:=ok.l8
  have lc:=ok.lc
  have lxc:=rc.len
  rw [List.length_map] at lxc
  have lxs:=rx.len
  rw [List.length_map] at lxs
  refine⟨A',_,rfl,Ae.of hA,rfl,_,_,rfl,_,_,rfl,_,_,rfl,_,_,rfl,M,_,rfl,Ae.of hM,rfl,_,_,rfl,_,_,rfl,_,_,rfl,rfl,rfl,?_⟩
  refine λL H1 s1 hL kL=>?_
  refine⟨p,T,ok,n1,Aa.ev (Ev.same s1) _ _ rt,λLL H2 s2 hLL kLL=>?_⟩
  have s12:=s1.trans s2
  have kL2:=s2 _ _ kL
  have nLL:LL≠L:=λe=>by rw [e,kL] at hLL;cases hLL
  have nr:r≠L:=λe=>by rw [e,hL] at kr;cases kr
  have kr2:=s12 _ _ kr
  have hC2:=s12 _ _ hC
  have hD2:=s12 _ _ hD
  refine⟨r,C,D,LL,rfl,⟨_,Al.of kr2⟩,⟨_,Ae.of hC2⟩,⟨_,Ae.of hD2⟩,⟨_,Al.of kLL⟩,Rl (xs:=xs) (ys:=xc) (zs:=T.ds.map V.int) (ws:=(Ee T).map V.int) (λi σ H'=>(∃x9 x10 x11 x12 x13,σ=[some (.ref A'),some (.ref r),some (.ref C),some (.ref B),some (.ref D),some (.int T.lo),some (.int T.hi),some (.int (gM T (bS fs) i)),some (.ref L),x9,x10,x11,x12,x13])/\Ev L H2 H'/\∃ys,H' L=some (.lst ys)/\Ac p H' (((Dy T fs).take i).map AN) ys) (by omega) (by rw [List.length_map];omega) (by rw [List.length_map];unfold Ee;simp;omega) ⟨⟨_,_,_,_,_,rfl⟩,Ev.refl,[],kL2,.nil⟩ (λi σ H' h=>⟨Al.of (h.2.1.lst kr2 nr),Ae.of (h.2.1.tup hC2),Ae.of (h.2.1.tup hD2),Al.of (h.2.1.lst kLL nLL)⟩) (λi x y z l0 σ H' T0 hx hy hz hl0 h hT=>?_) fun σ H' h=>?_⟩
  ·obtain⟨⟨x9,x10,x11,x12,x13,rfl⟩,ev,ys,kl,ry⟩:=h
   have hi:i<T.ds.length:=by have:=(List.getElem?_eq_some_iff.mp hx).1;omega
   obtain⟨ra,hra,kra⟩:=Ac.at1 rx (k:=i) (by omega)
   obtain⟨rb,hrb,krb⟩:=Ac.at1 rc (k:=i) (by omega)
   rw [hra] at hx
   rw [hrb] at hy
   have ez:(T.ds.map V.int)[i]? =some (.int (T.ds.getD i 0)):=by rw [List.getElem?_map,List.getD_eq_getElem?_getD,List.getElem?_eq_getElem hi];rfl
   have el:((Ee T).map V.int)[i]? =some (.int (lz T (i+1))):=by unfold Ee;rw [List.getElem?_map,List.getElem?_map,List.getElem?_range hi];rfl
   rw [ez] at hz
   rw [el] at hl0
   cases hx;cases hy;cases hz;cases hl0
   have nT:=Ab.new (o:= .tup [.ref ra,.ref rb,.int (T.ds.getD i 0),.int (lz T (i+1))]) hT
   have kT:upd H' T0 (.tup [.ref ra,.ref rb,.int (T.ds.getD i 0),.int (lz T (i+1))]) T0=_:=Ah
   have kl2:=nT _ _ kl
   have ev2:=ev.trans (Ev.same nT)
   have ry2:=Ac.ev (Ev.same (p:=p) nT) _ _ ry
   generalize upd H' T0 (.tup [.ref ra,.ref rb,.int (T.ds.getD i 0),.int (lz T (i+1))])=H3 at kT kl2 ev2 ry2 ⊢
   have kra3:=ev2.tup (s12 _ _ kra)
   have krb3:=ev2.tup (s12 _ _ krb)
   obtain⟨q1,q2⟩:=lr i hi
   have lys:ys.length<=8:=by
    have:=ry.len
    rw [List.length_map,List.length_take,HM] at this
    omega
   refine⟨T0,_,rfl,Ae.of kT,rfl,_,_,rfl,_,_,rfl,_,_,rfl,_,_,rfl,rfl,?_⟩
   refine⟨_,rfl,ra,_,rfl,.inr kra3,_,_,rfl,rfl,_,_,rfl,.inl ⟨rfl,_,Al.of kl2⟩,_,_,kra3,krb3,q1,q2,λA4 H4 s4 k4=>?_⟩
   have kl4:=s4 _ _ kl2
   refine⟨L,_,_,rfl,rfl,kl4,Co (by omega),_,_,rfl,?_⟩
   rw [JB]
   have e:gM T (bS fs) (i+1)=min (gM T (bS fs) i+((fs.getD i []).sum-T.ds.getD i 0)+Da (lz T (i+1)) (gM T (bS fs) i+((fs.getD i []).sum-T.ds.getD i 0))) T.hi:=by
    show min T.hi _=_
    rw [Int.min_comm];rfl
   refine⟨⟨some (.ref ra),some (.ref rb),some (.int (T.ds.getD i 0)),some (.int (lz T (i+1))),some (.int (gL T (bS fs) i)),by rw [e];rfl⟩,(ev2.trans (Ev.same s4)).trans (Ev.pen kl4),_,Ah,?_⟩
   ·have tv:=TEv.upd (zs:=ys++[.ref A4]) kl4
    have ef:(Dy T fs)[i]? =some (Cz (fs.getD i []) (T.cs.getD i []) (gL T (bS fs) i)):=by unfold Dy;rw [List.getElem?_map,List.getElem?_range hi];rfl
    rw [Be ef,List.map_append]
    refine Ac.snoc (Ac.tev ((Ev.same (p:=p) s4).tev.trans tv) _ _ (DT λd hd=>?_) ry2) (Aa.tev (p:=p) tv _ _ (DU _) (Aa.row k4))
    obtain⟨k,_,rfl⟩:=List.mem_map.mp hd
    exact DU _
  ·obtain⟨⟨x9,x10,x11,x12,x13,rfl⟩,ev,ys,kl,ry⟩:=h
   rw [List.take_of_length_le (by rw [HM];omega)] at ry
   refine⟨L,_,rfl,.inl ⟨Al.of kl,λl hl=>?_⟩⟩
   refine q _ _ ((Ab.evOwn s12 hL ev).trans (Ab.new hl)) (Aa.tup Ah (Ac.ev (Ev.same (Ab.new hl)) _ _ ry))
 ·exact h.elim
theorem sc_terms_from:AB ["plant","story","firing","boiler","hour","caps","coals","draws","low","high","start","mains","rows"] ["plant","story","firing","boiler","hour"] (Au s_terms_from):=AG
theorem TH (F:Df K mg "terms_from" s_terms_from ["plant","story","firing","boiler","hour"]) (T:Tx mg) (D_course:Fn P w K mg base 13 "course" ["plant","story","firing"] Ht) (D_replaced:Fn P w K mg base 1 "replaced" ["row","at","part"] FK) (D_terms_of:Fn P w K mg base 10 "terms_of" ["plant","story"] HG):Fn P w K mg base 14 "terms_from" ["plant","story","firing","boiler","hour"] HU:=by
 refine F.fn sc_terms_from (λvs H Q E h=>?_) (λf cdv A outer s H vs Q E hr h=>?_)
 ·unfold HU at h;split at h;rfl;exact h.elim
 refine⟨_,(@Ai _ _ _ _ _ (@Bl _ _ _ _ _ _ (@Aj _ _ _ _ _ _ _ _ _ _ D_terms_of (hr.mono (by decide)) rfl (@Ao _ _ _ _ _ (@cx _ 0 _ _ (by rfl)) (@cx _ 1 _ _ (by rfl)) (by rfl)) (by decide) (by rfl) (by rfl)) (@AL _ K _ _ _ (4) _ (@Ak _ _ _ _ _ (@Ag _ _ _ 5 sc_terms_from.nd (by rfl)) (@Ak _ _ _ _ _ (@Ag _ _ _ 6 sc_terms_from.nd (by rfl)) (@Ak _ _ _ _ _ (@Ag _ _ _ 7 sc_terms_from.nd (by rfl)) (@Ak _ _ _ _ _ (@AL _ K _ _ _ (3) _ (@Ak _ _ _ _ _ (@Ag _ _ _ 8 sc_terms_from.nd (by rfl)) (@Ak _ _ _ _ _ (@Ag _ _ _ 9 sc_terms_from.nd (by rfl)) (@Ak _ _ _ _ _ (@Ag _ _ _ 10 sc_terms_from.nd (by rfl)) (@AK _) (by rfl)) (by rfl)) (by rfl)) (by rfl) (by rfl) (by rfl) (by rfl)) (@AK _) (by rfl)) (by rfl)) (by rfl)) (by rfl)) (by rfl) (by rfl) (by rfl) (by rfl)) (by rfl) (by rfl) (by rfl)) (@Ai _ _ _ _ _ (@AI _ _ (11) _ _ _ _ sc_terms_from.nd rfl (Az (by rfl)) (@At _ _ _ _ _ _ _ _ (@GF _) (@Dv _ _ _ _ (@Am _ _ _ (@cx _ 10 _ _ (by rfl)) (by rfl))) (@Bw _ _ _ _ _ _ _ _ _ _ _ ["made","drawn","blown","main"] [none,none,none,none] rfl (@Gs _ K _ _ _ (@Aj _ _ _ _ _ _ _ _ _ _ D_course (hr.mono (by decide)) rfl (@AC _ _ _ _ _ _ _ (@cx _ 0 _ _ (by rfl)) (@cx _ 1 _ _ (by rfl)) (@cx _ 2 _ _ (by rfl)) (by rfl)) (by decide) (by rfl) (by rfl)) (by rfl)) (AQ.of rfl) (λ_ _ _ _=>(@AL _ K _ _ _ (4) _ (@Ak _ _ _ _ _ (@Ag _ _ _ 0 (AJ (by rfl)) (by rfl)) (@Ak _ _ _ _ _ (@Ag _ _ _ 1 (AJ (by rfl)) (by rfl)) (@Ak _ _ _ _ _ (@Ag _ _ _ 2 (AJ (by rfl)) (by rfl)) (@Ak _ _ _ _ _ (@Ag _ _ _ 3 (AJ (by rfl)) (by rfl)) (@AK _) (by rfl)) (by rfl)) (by rfl)) (by rfl)) (by rfl) (by rfl) (by rfl) (by rfl))) (λ_ _ _ _=>(@Br _)) (λ_ _ _ _=>(@cx _ 3 _ _ (by rfl))) (by intro _;rfl))) (by rfl) (AA (by rfl))) (@Ai _ _ _ _ _ (@AI _ _ (12) _ _ _ _ sc_terms_from.nd rfl (Az (by rfl)) (@Bv _ _ _ _ _ _ _ _ _ (@BT _ K (by rfl)) rfl T.b_tuple BQ (@Am _ _ _ (@Bw _ _ _ _ _ _ _ _ _ _ _ ["row","boiler"] [none,some 3] rfl (@Cf _ K _ _ _ (@BN _ _ _ _ _ _ _ _ _ _ (@s_tup _) (@cx _ 5 _ _ (by rfl)) (@BA _ _ _ (@cx _ 4 _ _ (by rfl))) (@Ce _)) (by rfl)) (AQ.of rfl) (λ_ _ _ _=>(@Ag _ _ _ 0 (AJ (by rfl)) (by rfl))) (λ_ _ _ _=>(@Br _)) (λ_ _ _ _=>(@Aj _ _ _ _ _ _ _ _ _ _ D_replaced (hr.mono (by decide)) rfl (@AC _ _ _ _ _ _ _ (@cx _ 0 _ _ (by rfl)) (@cx _ 1 _ _ (by rfl)) (@Af _ _ _ _) (by rfl)) (by decide) (by rfl) (by rfl))) (by intro _;rfl)) (by rfl)) (by decide) (by decide) (by rfl) (by rfl)) (by rfl) (AA (by rfl))) (@An _ _ _ (@Aw _ _ _ _ (@By _ _ _ _ _ (@Bi _ _ _ _ _ _ _ _ _ (@cx _ 12 _ _ (by rfl)) (@cx _ 6 _ _ (by rfl)) (@BN _ _ _ _ _ _ _ _ _ _ (@s_tup _) (@cx _ 7 _ _ (by rfl)) (@BA _ _ _ (@cx _ 4 _ _ (by rfl))) (@Ce _)) (@By _ _ _ _ _ (@AC _ _ _ _ _ _ _ (@cx _ 8 _ _ (by rfl)) (@cx _ 9 _ _ (by rfl)) (@AF _ _ _ _ _ _ _ (@Bp _ K (by rfl)) (@cx _ 11 _ _ (by rfl)) (@cx _ 4 _ _ (by rfl)) (λ_ _=>rfl)) (by rfl))) (by rfl)))))))),?_⟩
 unfold HU at h
 split at h
 ·rename_i v u w b h
  obtain⟨p,P,S,F,b',h',rfl,rfl,tr,oo,q⟩:=h
  have hh:=oo.hh
  have x8:=oo.so.x8
  have b4:=oo.ok.b4
  have hb:=oo.hb
  refine⟨p,P,S,oo.ok,oo.so,tr.r,tr.ru,λt H1 s1 rt=>?_⟩
  obtain⟨A',C,B,D,M,xc,rfl,hA,hC,rc,hB,hD,hM⟩:=Aa.terms rt
  have lxc:=rc.len
  rw [List.length_map] at lxc
  have lcs:(terms P S).cs.length=S.ex.length:=BG
  refine⟨A',_,rfl,Ae.of hA,rfl,_,_,rfl,_,_,rfl,_,_,rfl,_,_,rfl,M,_,rfl,Ae.of hM,rfl,_,_,rfl,_,_,rfl,_,_,rfl,rfl,rfl,?_⟩
  refine λL0 G0 g0 hL0 kL0=>?_
  have tr0:=tr.sm (s1.trans g0)
  refine⟨p,P,S,F,tr0,λR H2 k s xs run s2 hR kR rx=>?_⟩
  have lx:=rx.len
  rw [K0] at lx
  have kle:=run.le
  refine⟨R,rfl,⟨_,Al.of kR⟩,IC (xs:=xs) (λi ys H'=>Ab H2 H'/\ys=(Dm P S F i).map V.int) (by omega) ⟨Ab.refl _,rfl⟩ (λi ys H' h=>by rw [h.2,List.length_map];unfold Dm;simp) (λi ys H' _ h=>Al.of (h.1 _ _ kR)) (λi x ys H' hx h=>?_) λys H3 h=>?_⟩
  ·have rx':Ac p H2 ((List.range k).map (IY P S F)) xs:=rx
   obtain⟨j,hj,rj⟩:=Ac.mapGot rx' hx
   have ej:j=i:=by
    have hi:=(List.getElem?_eq_some_iff.mp hj).1
    rw [List.length_range] at hi
    rw [List.getElem?_range hi] at hj
    cases hj;rfl
   subst ej
   obtain⟨s3,rfl⟩:=h
   obtain⟨A2,zs,rfl,hA2,rs⟩:=Aa.shape rj
   obtain⟨y1,y2,y3,y4,rfl,r1,r2,r3,r4⟩:=Ac.four rs
   unfold Aa at r1 r2 r3 r4
   subst r1 r2 r3 r4
   refine⟨A2,_,rfl,Ae.of (s3 _ _ hA2),rfl,_,_,rfl,_,_,rfl,_,_,rfl,_,_,rfl,rfl,⟨trivial,λ_=>⟨s3,?_⟩,λc=>(by cases c)⟩⟩
   unfold Dm
   rw [List.range_succ,List.map_append,List.map_append];rfl
  ·obtain⟨s3,rfl⟩:=h
   have ek:k=S.ex.length:=by
    rcases run.fin with⟨_,z⟩ | ⟨z1,z2,_⟩
    ·exact z
    ·have:=oo.ke k z1;omega
   rw [<-lx]
   intro l hl
   have nl:=Ab.new (o:= .lst ((Dm P S F k).map V.int)) hl
   have kl:upd H3 l (.lst ((Dm P S F k).map V.int)) l=_:=Ah
   have a0:=s2.trans (s3.trans nl)
   generalize upd H3 l (.lst ((Dm P S F k).map V.int))=H4 at nl kl a0 ⊢
   refine⟨L0,l,_,_,rfl,rfl,a0 _ _ kL0,kl,Nat.le_trans (by rw [List.length_map];unfold Dm;simp;omega:[V.int (terms P S).st].length+((Dm P S F k).map V.int).length<=1000) (by decide),λL5 H5 s5 hL5 kL5=>?_⟩
   have a15:=g0.trans (a0.trans s5)
   refine⟨(h':Int),rfl,C,_,rfl,a15 _ _ hC,λc1 H6 s6 k6=>?_⟩
   rw [FQ] at k6
   have a16:=a15.trans s6
   have rc6:=Ac.drp (Ac.ev (Ev.same a16) _ _ rc) h'
   rw [<-List.map_drop] at rc6
   have l6:=rc6.len
   rw [List.length_map] at l6
   refine⟨c1,rfl,⟨_,Ae.of k6⟩,Cm (xs:=xc.drop h') (λi ys H'=>Ab H6 H'/\Ac p H' (((((terms P S).cs.drop h').map λr=>r.set b' 0).take i).map AN) ys/\ys.length=i) (by rw [List.length_drop];omega) ⟨Ab.refl _,.nil,rfl⟩ (λi ys H' h=>Nat.le_of_eq h.2.2) (λi ys H' _ h=>Ae.of (h.1 _ _ k6)) (λi x ys H' hx h=>?_) λys H7 h=>?_⟩
   ·obtain⟨sm,ry,ly⟩:=h
    obtain⟨r0,hr0,rr0⟩:=Ac.mapGot rc6 hx
    obtain⟨ra,rfl,kra⟩:=Aa.ofRow rr0
    have hrl:r0.length=P.bs.length:=(DO (S:=S) oo.ok r0 (List.mem_of_mem_drop (List.mem_of_getElem? hr0))).2
    refine⟨⟨rfl,trivial⟩,λ_=>⟨r0.map V.int,b',rfl,by rw [List.length_map];omega,by rw [List.length_map];omega,sm _ _ kra,λB' H8 s8 k8=>⟨sm.trans s8,?_,by rw [List.length_append,ly];rfl⟩⟩,λc=>(by cases c)⟩
    have ei:(((terms P S).cs.drop h').map λr=>r.set b' 0)[i]? =some (r0.set b' 0):=by rw [List.getElem?_map,hr0];rfl
    rw [Be ei,List.map_append]
    have k8':H8 B'=some (.tup ((r0.set b' 0).map V.int)):=by rw [List.map_set];exact k8
    exact Ac.snoc (Ac.ev (Ev.same s8) _ _ ry) (Aa.row k8')
   ·obtain⟨sm,ry,ly⟩:=h
    have ef:(((((terms P S).cs.drop h').map λr=>r.set b' 0).take (xc.drop h').length).map AN)=(Ap P S F b' h').cs.map AN:=by
     rw [List.take_of_length_le (by rw [List.length_map];omega)];rfl
    rw [ef] at ry
    refine λl7 hl7=>⟨l7,_,rfl,.inl ⟨Al.of Ah,λl8 hl8=>?_⟩⟩
    have n7:=Ab.new (o:= .lst ys) hl7
    have n8:=Ab.new (o:= .tup ys) hl8
    have k8:upd (upd H7 l7 (.lst ys)) l8 (.tup ys) l8=some (.tup ys):=Ah
    have a78:=n7.trans n8
    generalize upd (upd H7 l7 (.lst ys)) l8 (.tup ys)=H8 at n8 k8 a78 ⊢
    have a18:=a16.trans (sm.trans a78)
    refine⟨(h':Int),rfl,D,_,rfl,a18 _ _ hD,λd1 H9 s9 k9=>?_⟩
    rw [FQ,<-List.map_drop] at k9
    have kL9:=(s6.trans (sm.trans (a78.trans s9))) _ _ kL5
    refine⟨L5,_,(h':Int),_,rfl,rfl,Al.of kL9,C2 (Tz (by omega)),λt10 H10 s10 k10=>λt11 H11 s11 k11=>?_⟩
    have b9:=s9.trans (s10.trans s11)
    refine q _ _ (s1.trans (a18.trans b9)) (Aa.tup k11 (.cons (Aa.tup (b9 _ _ k8) (Ac.ev (Ev.same (a78.trans b9)) _ _ ry)) (.cons (Aa.row ((a18.trans b9) _ _ hB)) (.cons (Aa.row ((s10.trans s11) _ _ k9)) (.cons (Aa.tup (s11 _ _ k10) (.cons Aa.int (.cons Aa.int (.cons Aa.int .nil)))) .nil)))))
 ·exact h.elim
theorem sc_moved:AB ["plant","story","firing","boiler","hour","terms"] ["plant","story","firing","boiler","hour"] (Au s_moved):=AG
abbrev HV (P:Program) (w:World) (K:PySem.W.Frag) (mg:Str->Option Value) (base:Heap):Prop:=Fn P w K mg base 17 "moved" ["plant","story","firing","boiler","hour"] JC
theorem TJ (F:Df K mg "moved" s_moved ["plant","story","firing","boiler","hour"]) (T:Tx mg) (D_filled_up:Fn P w K mg base 2 "filled_up" ["terms","rows"] HS) (D_least_stretch:Fn P w K mg base 2 "least_stretch" ["terms"] HJ) (D_need_boiler_of_keeping:HF P w K mg base) (D_need_hour:Fn P w K mg base 3 "need_hour" ["story","hour"] FI) (D_replaced:Fn P w K mg base 1 "replaced" ["row","at","part"] FK) (D_terms_from:Fn P w K mg base 14 "terms_from" ["plant","story","firing","boiler","hour"] HU):HV P w K mg base:=by
 refine F.fn sc_moved (λvs H Q E h=>?_) (λf cdv A outer s H vs Q E hr h=>?_)
 ·unfold JC at h;split at h;rfl;exact h.elim
 refine⟨_,(@Ai _ _ _ _ _ (@Bq _ _ _ _ (@Aj _ _ _ _ _ _ _ _ _ _ D_need_boiler_of_keeping (hr.mono (by decide)) rfl (@Bi _ _ _ _ _ _ _ _ _ (@cx _ 0 _ _ (by rfl)) (@cx _ 1 _ _ (by rfl)) (@cx _ 2 _ _ (by rfl)) (@cx _ 3 _ _ (by rfl)) (by rfl)) (by decide) (by rfl) (by rfl)) (by rfl)) (@Ai _ _ _ _ _ (@Bq _ _ _ _ (@Aj _ _ _ _ _ _ _ _ _ _ D_need_hour (hr.mono (by decide)) rfl (@Ao _ _ _ _ _ (@cx _ 1 _ _ (by rfl)) (@cx _ 4 _ _ (by rfl)) (by rfl)) (by decide) (by rfl) (by rfl)) (by rfl)) (@Ai _ _ _ _ _ (@AI _ _ (5) _ _ _ _ sc_moved.nd rfl (Az (by rfl)) (@Aj _ _ _ _ _ _ _ _ _ _ D_terms_from (hr.mono (by decide)) rfl (@Ci _ _ _ _ _ (@cx _ 0 _ _ (by rfl)) (@Bi _ _ _ _ _ _ _ _ _ (@cx _ 1 _ _ (by rfl)) (@cx _ 2 _ _ (by rfl)) (@cx _ 3 _ _ (by rfl)) (@cx _ 4 _ _ (by rfl)) (by rfl)) (by rfl)) (by decide) (by rfl) (by rfl)) (by rfl) (AA (by rfl))) (@Ai _ _ _ _ _ (@A9 _ _ _ _ _ _ _ _ (@AU _ _ _ _ _ _ _ _ (@E4 _) (@Aj _ _ _ _ _ _ _ _ _ _ D_least_stretch (hr.mono (by decide)) rfl (@Am _ _ _ (@cx _ 5 _ _ (by rfl)) (by rfl)) (by decide) (by rfl) (by rfl)) (@BM _ _ _) (AO _)) (@An _ _ _ (@Aw _ _ _ _ (@BM _ _ _))) (@A8 _)) (@An _ _ _ (@Aw _ _ _ _ (@At _ _ _ _ _ _ _ _ (@Fj _) (@BN _ _ _ _ _ _ _ _ _ _ (@s_tup _) (@cx _ 2 _ _ (by rfl)) (@Ce _) (@BA _ _ _ (@cx _ 4 _ _ (by rfl)))) (@Aj _ _ _ _ _ _ _ _ _ _ D_filled_up (hr.mono (by decide)) rfl (@Ao _ _ _ _ _ (@cx _ 5 _ _ (by rfl)) (@Bw _ _ _ _ _ _ _ _ _ _ _ ["row","boiler"] [none,some 3] rfl (@Cf _ K _ _ _ (@BN _ _ _ _ _ _ _ _ _ _ (@s_tup _) (@cx _ 2 _ _ (by rfl)) (@BA _ _ _ (@cx _ 4 _ _ (by rfl))) (@Ce _)) (by rfl)) (AQ.of rfl) (λ_ _ _ _=>(@Ag _ _ _ 0 (AJ (by rfl)) (by rfl))) (λ_ _ _ _=>(@Br _)) (λ_ _ _ _=>(@Aj _ _ _ _ _ _ _ _ _ _ D_replaced (hr.mono (by decide)) rfl (@AC _ _ _ _ _ _ _ (@cx _ 0 _ _ (by rfl)) (@cx _ 1 _ _ (by rfl)) (@Af _ _ _ _) (by rfl)) (by decide) (by rfl) (by rfl))) (by intro _;rfl)) (by rfl)) (by decide) (by rfl) (by rfl))))))))),?_⟩
 unfold JC at h
 split at h
 ·rename_i v u w b h
  obtain⟨p,P,S,F,b',h',rfl,rfl,tr,oo,q⟩:=h
  have hh:=oo.hh
  have hb:=oo.hb
  have x8:=oo.so.x8
  have b4:=oo.ok.b4
  refine⟨p,P,S,F,tr,oo.ke,by omega,by omega,λH1 s1=>?_⟩
  refine⟨p,S,_,oo.so,Aa.ev (Ev.same s1) _ _ tr.ru,by omega,by omega,λH2 s2=>?_⟩
  have s12:=s1.trans s2
  refine⟨p,P,S,F,b',h',rfl,rfl,tr.sm s12,oo,λt H3 s3 rt=>?_⟩
  have s13:=s12.trans s3
  refine⟨p,_,Mz oo.so,rt,λx H4 s4 rx=>⟨rfl,?_⟩⟩
  have s14:=s13.trans s4
  unfold ret EU at q
  cases z:AT (Ap P S F b' h') with
  | some s0=>
   rw [z] at rx q
   obtain⟨A2,rfl,hA2⟩:=Aa.pair rx
   exact⟨λ_=>q _ _ s14 (by unfold Aa;rfl),λc=>(by simp at c)⟩
  | none=>
   rw [z] at rx q
   have ex:x= .non:=by unfold Lj at rx;unfold Aa at rx;exact rx
   subst ex
   refine⟨λc=>(by simp at c),λ_=>?_⟩
   have tr4:=tr.sm s14
   obtain⟨FA,xf,rfl,hF,rf⟩:=Aa.firing tr4.rw
   have lf:=rf.len
   rw [List.length_map,oo.fo.len] at lf
   refine⟨(h':Int),rfl,FA,_,rfl,hF,λf1 H5 s5 k5=>⟨(h':Int),rfl,FA,_,rfl,s5 _ _ hF,λf2 H6 s6 k6=>?_⟩⟩
   rw [HH (by omega)] at k5
   rw [FQ] at k6
   have s46:=s5.trans s6
   have rf6:=Ac.drp (Ac.ev (Ev.same s46) _ _ rf) h'
   rw [<-List.map_drop] at rf6
   have l6:=rf6.len
   rw [List.length_map] at l6
   refine⟨f2,rfl,⟨_,Ae.of k6⟩,Cm (xs:=xf.drop h') (λi ys H'=>Ab H6 H'/\Ac p H' (((AH F b' h').take i).map AN) ys/\ys.length=i) (by rw [List.length_drop];omega) ⟨Ab.refl _,.nil,rfl⟩ (λi ys H' h=>Nat.le_of_eq h.2.2) (λi ys H' _ h=>Ae.of (h.1 _ _ k6)) (λi x ys H' hx h=>?_) λys H7 h=>?_⟩
   ·obtain⟨sm,ry,ly⟩:=h
    obtain⟨r0,hr0,rr0⟩:=Ac.mapGot rf6 hx
    obtain⟨ra,rfl,kra⟩:=Aa.ofRow rr0
    rw [List.getElem?_drop] at hr0
    have hrl:r0.length=P.bs.length:=oo.fo.row _ _ hr0
    refine⟨⟨rfl,trivial⟩,λ_=>⟨r0.map V.int,b',rfl,by rw [List.length_map];omega,by rw [List.length_map];omega,sm _ _ kra,λB' H8 s8 k8=>⟨sm.trans s8,?_,by rw [List.length_append,ly];rfl⟩⟩,λc=>(by cases c)⟩
    have ei:(AH F b' h')[i]? =some (r0.set b' 0):=by unfold AH;rw [List.getElem?_map,List.getElem?_drop,hr0];rfl
    rw [Be ei,List.map_append]
    have k8':H8 B'=some (.tup ((r0.set b' 0).map V.int)):=by rw [List.map_set];exact k8
    exact Ac.snoc (Ac.ev (Ev.same s8) _ _ ry) (Aa.row k8')
   ·obtain⟨sm,ry,ly⟩:=h
    have lo:(AH F b' h').length=S.ex.length-h':=by unfold AH;rw [List.length_map,List.length_drop,oo.fo.len]
    rw [List.take_of_length_le (by rw [lo,List.length_drop];omega)] at ry
    intro l7 hl7
    have n7:=Ab.new (o:= .lst ys) hl7
    have k7:upd H7 l7 (.lst ys) l7=some (.lst ys):=Ah
    generalize upd H7 l7 (.lst ys)=H8 at n7 k7 ⊢
    have a48:=s46.trans (sm.trans n7)
    refine⟨p,_,AH F b' h',ys,Mz oo.so,by rw [BH];omega,Aa.ev (Ev.same (s4.trans a48)) _ _ rt,k7,Ac.ev (Ev.same n7) _ _ ry,by rw [BH,lo],λj hj=>?_,λy H9 s9 r9=>?_⟩
    ·rw [BH] at hj
     obtain⟨e1,_,e3⟩:=HL oo.fo (b:=b') (h:=h') (j:=j) (by omega)
     exact⟨e1,by omega⟩
    ·obtain⟨YA,xy,rfl,hY,rY⟩:=Aa.shape r9
     have ly9:=rY.len
     rw [List.length_map,HM,BH] at ly9
     have k59:=(s6.trans (sm.trans (n7.trans s9))) _ _ k5
     refine⟨f1,YA,_,_,rfl,rfl,k59,hY,by rw [List.length_take];omega,λt10 H10 s10 k10=>?_⟩
     have a410:=a48.trans (s9.trans s10)
     refine q _ _ (s14.trans a410) (Aa.tup k10 ?_)
     unfold AZ
     rw [List.map_append,List.map_take]
     exact Ac.append (Ac.tkP (Ac.ev (Ev.same a410) _ _ rf) h') (Ac.ev (Ev.same s10) _ _ rY)
 ·exact h.elim
theorem sc_least_moved:AB ["plant","story","firing","boiler","hour","told"] ["plant","story","firing","boiler","hour"] (Au s_least_moved):=AG
theorem TK (F:Df K mg "least_moved" s_least_moved ["plant","story","firing","boiler","hour"]) (T:Tx mg) (D_moved:HV P w K mg base) (D_units_moved:Fn P w K mg base 1 "units_moved" ["firing","other","boiler","hour"] FJ):Fn P w K mg base 18 "least_moved" ["plant","story","firing","boiler","hour"] FP:=by
 refine F.fn sc_least_moved (λvs H Q E h=>?_) (λf cdv A outer s H vs Q E hr h=>?_)
 ·unfold FP at h;split at h;rfl;exact h.elim
 refine⟨_,(@Ai _ _ _ _ _ (@AI _ _ (5) _ _ _ _ sc_least_moved.nd rfl (Az (by rfl)) (@Aj _ _ _ _ _ _ _ _ _ _ D_moved (hr.mono (by decide)) rfl (@Ci _ _ _ _ _ (@cx _ 0 _ _ (by rfl)) (@Bi _ _ _ _ _ _ _ _ _ (@cx _ 1 _ _ (by rfl)) (@cx _ 2 _ _ (by rfl)) (@cx _ 3 _ _ (by rfl)) (@cx _ 4 _ _ (by rfl)) (by rfl)) (by rfl)) (by decide) (by rfl) (by rfl)) (by rfl) (AA (by rfl))) (@An _ _ _ (@Aw _ _ _ _ (@Ey _ _ _ _ _ _ _ _ (@AU _ _ _ _ _ _ _ _ (@DZ _) (@cx _ 5 _ _ (by rfl)) (@BM _ _ _) (AO _)) (@BM _ _ _) (@Aj _ _ _ _ _ _ _ _ _ _ D_units_moved (hr.mono (by decide)) rfl (@Bi _ _ _ _ _ _ _ _ _ (@cx _ 2 _ _ (by rfl)) (@cx _ 5 _ _ (by rfl)) (@cx _ 3 _ _ (by rfl)) (@cx _ 4 _ _ (by rfl)) (by rfl)) (by decide) (by rfl) (by rfl)))))),?_⟩
 unfold FP at h
 split at h
 ·rename_i v u w b h
  obtain⟨p,P,S,F,b',h',rfl,rfl,tr,oo,q1,q2⟩:=h
  have hh:=oo.hh
  have hb:=oo.hb
  refine⟨p,P,S,F,b',h',rfl,rfl,tr,oo,λt H1 s1 rt=>⟨rfl,?_⟩⟩
  unfold EU at rt
  cases z:AT (Ap P S F b' h') with
  | some s0=>
   rw [z] at rt
   have et:t= .non:=by unfold Aa at rt;exact rt
   subst et
   exact⟨λ_=>q1 (by rw [z];intro c;cases c) _ s1,λc=>(by simp at c)⟩
  | none=>
   rw [z] at rt
   have rt':Aa p H1 (FD (AZ P S F b' h')) t:=rt
   obtain⟨TA,xt,rfl,_,_⟩:=Aa.firing rt'
   refine⟨λc=>(by simp at c),λ_=>?_⟩
   refine⟨p,P,S,F,AZ P S F b' h',oo.ok,oo.so,oo.fo,MD oo z,Aa.ev (Ev.same s1) _ _ tr.rw,rt',by omega,by omega,by omega,by omega,λH2 s2=>?_⟩
   rw [Int.toNat_natCast,Int.toNat_natCast,MH oo z]
   exact q2 z _ (s1.trans s2)
 ·exact h.elim
end
end MF
end
section
namespace MF
open PySem PySem.Spec PyProof.Rows L2
variable {t : List (Int × Int)} {H H2 : Hp} {a : Addr} {i : Nat} {σ : L2.St} {Q : List V -> Hp -> Prop} {S : SY} {F : List (List Int)}
def Bb (t:List (Int×Int)):List (Ax×V):=t.map λq=>(.inl q.1,.int q.2)
theorem MQ:(Bb t).length=t.length:=by unfold Bb;rw [List.length_map]
theorem MR {k:Int}:∀(t:List (Int×Int)),Cg (Bb t) (.inl k)=(Bj t k).map V.int
 | []=>rfl
 | p::r=>by
  have ih:=MR r (k:=k)
  by_cases e:p.1=k
  ·have h:Cg (Bb (p::r)) (.inl k)=some (.int p.2):=GV (p:=(Sum.inl p.1,V.int p.2)) (r:=Bb r) (by rw [e])
   rw [h,CP e];rfl
  ·have h:Cg (Bb (p::r)) (.inl k)=Cg (Bb r) (.inl k):=GW (p:=(Sum.inl p.1,V.int p.2)) (r:=Bb r) (λz=>e (Sum.inl.inj z))
   rw [h,ih,C9 e]
theorem TL {k v:Int}:BZ (Bb t) (.inl k) (.int v)=Bb (CK t k v):=by
 have a:((Bb t).any λq=>decide (q.1=Sum.inl k))=(t.any λq=>decide (q.1=k)):=by
  unfold Bb
  rw [List.any_map]
  congr 1
  funext q
  show decide ((Sum.inl q.1:Ax)=Sum.inl k)=decide (q.1=k)
  exact decide_eq_decide.mpr ⟨λz=>Sum.inl.inj z,λz=>by rw [z]⟩
 unfold BZ CK
 rw [a]
 split
 ·unfold Bb
  rw [List.map_map,List.map_map]
  refine List.map_congr_left λq _=>?_
  show(if (Sum.inl q.1:Ax)=Sum.inl k then((Sum.inl q.1:Ax),V.int v) else(Sum.inl q.1,V.int q.2))=(Sum.inl (if q.1=k then(q.1,v) else q).1,V.int (if q.1=k then(q.1,v) else q).2)
  by_cases e:q.1=k
  ·rw [if_pos e,if_pos (by rw [e])]
  ·rw [if_neg e,if_neg (λz=>e (Sum.inl.inj z))]
 ·unfold Bb;rw [List.map_append];rfl
theorem FR {H3:Hp}{o:HO} (s:Ab H H3) (n:H a=none):Ab H (upd H3 a o):=λb o' q=>by
 rw [As (λz=>by rw [z,n] at q;cases q)];exact s b o' q
theorem TN {k c:Int}:(Cg (Bb t) (.inl k)).getD (.int c)= .int ((Bj t k).getD c):=by
 rw [MR];cases Bj t k<;>rfl
theorem TQ {q:Ax×V} (h:(Bb t)[i]? =some q):∃g,t[i]? =some g/\q=(.inl g.1,.int g.2):=by
 unfold Bb at h
 rw [List.getElem?_map] at h
 cases e:t[i]? with
 | none=>rw [e] at h;cases h
 | some g=>rw [e] at h;exact⟨g,rfl,(Option.some.inj h).symm⟩
theorem Ek {H':Hp}{b:Addr} (s:Ab H H') (n:H' b=none):H b=none:=by
 cases e:H b with
 | none=>rfl
 | some o=>rw [s b o e] at n;cases n
def HW:Sp:=λvs H Q _=>match vs with | [v,u,w,.int h]=>∃p P S F,∃h':Nat,h=(h':Int)/\Tri p H P S F v u w/\BC P S F/\h'<S.ex.length/\∀A H',Ab H H'->H' A=some (.tup [.int P.lo,.int P.hi,.int (Av P S F h')])->Q (.ref A) H' | _=>False
def HX:Sp:=λvs H Q _=>match vs with | [v,u,w,.int b,.int h]=>∃p P S F,∃b' h':Nat,b=(b':Int)/\h=(h':Int)/\Tri p H P S F v u w/\OutOk P S F b' h'/\(AT (Ap P S F b' h')≠none->∀H',Ab H H'->Q .non H')/\(AT (Ap P S F b' h')=none->∀H',Ab H H'->Q (.int (Dl P S F b' h')) H') | _=>False
def BU (r:List Int) (b i:Nat):List Int:=((List.range i).filter λk=>k !=b).map λk=>r.getD k 0
theorem JD {r:List Int}{b:Nat}:BU r b (i+1)=if i !=b then BU r b i++[r.getD i 0] else BU r b i:=by
 unfold BU
 rw [List.range_succ,List.filter_append]
 by_cases c:(i !=b)=true
 ·rw [if_pos c,List.filter_cons_of_pos (p:=λk=>k !=b) (a:=i) c,List.map_append];rfl
 ·rw [if_neg c,List.filter_cons_of_neg (p:=λk=>k !=b) (a:=i) c,List.filter_nil,List.append_nil]
theorem TR {r:List Int}{b:Nat}:(BU r b i).length<=i:=by
 unfold BU
 rw [List.length_map]
 exact Nat.le_trans (List.length_filter_le _ _) (by rw [List.length_range];exact Nat.le_refl _)
theorem TU {r:List Int}{b:Nat}:∀j,j<=r.length->(BU r b j).sum=((r.set b 0).take j).sum:=by
 intro j
 induction j with
 | zero=>intro _;rfl
 | succ j ih=>
  intro hj
  rw [JD,Jy (by rw [List.length_set];omega),<-ih (by omega),CM]
  by_cases c:j=b
  ·rw [if_neg (by simp [c]),if_pos c];omega
  ·rw [if_pos (by simp [c]),if_neg c,List.sum_append];simp
theorem JE {r:List Int}{b:Nat}:(BU r b r.length).sum=(r.set b 0).sum:=by
 rw [TU _ (Nat.le_refl _),List.take_of_length_le (by rw [List.length_set];exact Nat.le_refl _)]
theorem MS {P:Program}{w:World}{K:PySem.W.Frag}{r:List Int}{b n:Nat} (ka:H2 a=some (.tup (r.map V.int))) (hl:r.length<=100) (hb:σ[n]? =some (some (.int (b:Int))))
  (q:∀H3,Ab H2 H3->Q ((BU r b r.length).map V.int) H3):DI (DJ (Bd P w K) a) [none,none,some n] (FX K 2 (E3 (DF 0) (E3 (DF 1) Ig))) (cB (Eo J4 (Dj 0) (Dj 2))) (Dj 1) σ Q H2:=by
 have ec:AV [none,none,some n] σ=[none,none,some (.int (b:Int))]:=by
  show [none,none,(match σ[n]? with | some v=>v | none=>none)]=_
  rw [hb]
 refine walk_enum (xs:=r.map V.int) (λi ys H'=>Ab H2 H'/\ys=(BU r b i).map V.int) (by rw [List.length_map];omega) ⟨Ab.refl _,rfl⟩ (λi ys H' h=>by rw [h.2,List.length_map];exact TR) (λi ys H' h=>Ae.of (h.1 _ _ ka)) (λi x ys H' T hx h hT=>?_) λys H3 h=>?_
 ·obtain⟨sm,rfl⟩:=h
  rw [List.getElem?_map] at hx
  cases z:r[i]? with
  | none=>rw [z] at hx;cases hx
  | some y=>
   rw [z] at hx
   cases hx
   have ey:r.getD i 0=y:=by rw [List.getD_eq_getElem?_getD,z];rfl
   rw [ec]
   have nT:=Ab.new (o:= .tup [.int i,.int y]) hT
   refine⟨T,_,rfl,Ae.of Ah,rfl,_,_,rfl,_,_,rfl,rfl,⟨⟨rfl,trivial⟩,rfl,⟨λc=>⟨sm.trans nT,?_⟩,λc=>⟨sm.trans nT,?_⟩⟩⟩⟩
   ·have nb:i≠b:=λe=>by subst e;simp at c
    rw [JD,if_pos (by simp [nb]),ey,List.map_append];rfl
   ·have nb:i=b:=by
     have:decide (V.int (i:Int)=V.int (b:Int))=true:=by simpa using c
     have:=of_decide_eq_true this
     injection this with this
     omega
    rw [JD,if_neg (by simp [nb])]
 ·obtain⟨sm,rfl⟩:=h
  rw [List.length_map]
  exact q _ sm
theorem MT {x:Nat->Int}{B:Int}:∀j,(∀i,i<j->0<=x i/\x i<=B)->0<=xC x j/\xC x j<=B * j
 | 0,_=>⟨Int.le_refl _,by show(0:Int)<=B *((0:Nat):Int);simp⟩
 | j+1,h=>by
  have:=MT j λi hi=>h i (by omega)
  have:=h j (by omega)
  show 0<=xC x j+x j/\xC x j+x j<=B *((j+1:Nat):Int)
  have e:B *((j+1:Nat):Int)=B *(j:Int)+B:=by rw [Int.natCast_add,Int.mul_add];simp
  omega
theorem Xp.bd {lo hi st:Int}{b d sp:Nat->Int}{j:Nat}{q:Int×Int} (h:Xp lo hi st b d sp j q) (hs:∀i,i<j->sp i<=36) (h8:j<=8):0<=q.2/\q.2<=288:=by
 obtain⟨x,ok,rfl⟩:=h
 have:=MT (x:=x) (B:=36) j λi hi=>⟨(ok i hi).1,by have:=(ok i hi).2.1;have:=hs i hi;omega⟩
 show 0<=xC x j/\xC x j<=288
 omega
theorem MU {r:List Int}{b:Nat} (h:∀x∈r,0<=x/\x<=9) (hl:r.length<=4):0<=(r.set b 0).sum/\(r.set b 0).sum<=36:=by
 have:=LD (B:=9) (r:=r.set b 0) λx hx=>by
  rcases List.mem_or_eq_of_mem_set hx with h' | h'
  ·exact h x h'
  ·rw [h'];omega
 rw [List.length_set] at this
 omega
theorem TV {P:PL}{k h:Nat} (hh:h<=k):([V.int P.st]++(CQ P S F k).map V.int)[h]? =some (.int (Av P S F h)):=by
 cases h with
 | zero=>rfl
 | succ h=>
  rw [List.singleton_append,List.getElem?_cons_succ]
  unfold CQ
  rw [List.getElem?_map,List.getElem?_map,List.getElem?_range (by omega)];rfl
theorem JF {P:PL}{S:SY}{F:List (List Int)}{b h:Nat} (oo:OutOk P S F b h) {j:Nat} (hj:h+j<S.ex.length):0<=Ba P S F b h j/\Ba P S F b h j<=36/\0<=bS (AH F b h) j/\bS (AH F b h) j<=36:=by
 have hp:=(Ej oo.fo (b:=b) (h:=h)).pos j (by rw [BH];omega)
 have b4:=oo.ok.b4
 have c9:∀x∈AS P.bs S.fs ((h+j:Nat):Int),0<=x/\x<=9:=λx hx=>(DO (S:=S) oo.ok _ (List.mem_of_getElem? (CI hj))).1 x hx
 have cb:=MU (b:=b) c9 (by rw [Cu];omega)
 obtain⟨l1,bd⟩:=Dz oo.fo hj
 have f9:∀x∈F.getD (h+j) [],0<=x/\x<=9:=λx hx=>by
  obtain⟨k,hk,rfl⟩:=List.mem_iff_getElem.mp hx
  have:=bd k
  have e:(F.getD (h+j) []).getD k 0=(F.getD (h+j) [])[k]:=by rw [List.getD_eq_getElem?_getD,List.getElem?_eq_getElem hk];rfl
  rw [e] at this
  have hc:k<(AS P.bs S.fs ((h+j:Nat):Int)).length:=by rw [Cu];omega
  have e2:(AS P.bs S.fs ((h+j:Nat):Int)).getD k 0=(AS P.bs S.fs ((h+j:Nat):Int))[k]:=by rw [List.getD_eq_getElem?_getD,List.getElem?_eq_getElem hc];rfl
  have:=c9 _ (List.getElem_mem hc)
  omega
 have fb:=MU (b:=b) f9 (by omega)
 have eb:bS (AH F b h) j=((F.getD (h+j) []).set b 0).sum:=by unfold bS;rw [EV oo.fo hj]
 have es:Ba P S F b h j=((AS P.bs S.fs ((h+j:Nat):Int)).set b 0).sum-bS (AH F b h) j:=by unfold Ba;rw [FL hj]
 omega
def BR (P:PL) (S:SY) (F:List (List Int)) (b k:Nat):List Int:=(FN P S F b k).map fun(h:Nat)=>(h:Int)
theorem JG {P:PL}{b k:Nat}:BR P S F b (k+1)=if AT (Ap P S F b k)=none then BR P S F b k++[(k:Int)] else BR P S F b k:=by
 unfold BR FN
 rw [List.range_succ,List.filter_append]
 by_cases c:AT (Ap P S F b k)=none
 ·rw [if_pos c,List.filter_cons_of_pos (by exact decide_eq_true c),List.map_append];rfl
 ·rw [if_neg c,List.filter_cons_of_neg (by rw [decide_eq_false c];decide),List.filter_nil,List.append_nil]
theorem HY {P:PL}{S:SY}{F:List (List Int)}{b k:Nat}:(BR P S F b k).length<=k:=by
 unfold BR FN
 rw [List.length_map]
 exact Nat.le_trans (List.length_filter_le _ _) (by rw [List.length_range];exact Nat.le_refl _)
theorem TW {P:PL}{b k:Nat} (hi:i<k):(i:Int)∈BR P S F b k↔AT (Ap P S F b i)=none:=by
 unfold BR FN
 rw [List.mem_map]
 constructor
 ·rintro⟨j,hj,e⟩
  have:j=i:=by omega
  subst this
  exact of_decide_eq_true (List.mem_filter.mp hj).2
 ·intro no
  exact⟨i,List.mem_filter.mpr ⟨List.mem_range.mpr hi,decide_eq_true no⟩,rfl⟩
theorem TX {P:PL}{b k:Nat}:∀x∈BR P S F b k,0<=x/\x<k:=λx hx=>by
 unfold BR FN at hx
 obtain⟨j,hj,rfl⟩:=List.mem_map.mp hx
 have:=List.mem_range.mp (List.mem_filter.mp hj).1
 omega
theorem MV {i:Int}:∀ {ns:List Int},BO (.int i) (ns.map V.int)=decide (i∈ns)
 | []=>rfl
 | n::r=>by
  have ih:=MV (i:=i) (ns:=r)
  unfold BO at ih ⊢
  rw [List.map_cons,List.any_cons,ih,Bool.eq_iff_iff]
  have e:CO (V.int n) (V.int i)=true↔i=n:=by
   unfold CO
   simp
   exact eq_comm
  rw [Bool.or_eq_true,e]
  simp
theorem JH:∀ {ns:List Int},(ns.map V.int).all C3=true
 | []=>rfl
 | _::r=>by rw [List.map_cons,List.all_cons,JH (ns:=r)];rfl
theorem JI {p:Addr}:∀ {ns:List Int},Ac p H (ns.map .int) (ns.map V.int)
 | []=> .nil
 | _::_=> .cons Aa.int JI
theorem TY {P:PL}{S:SY}{F:List (List Int)}{b k:Nat} (h8:k<=8):IN (.list ((BR P S F b k).map .int)):=by
 have hl:=HY (P:=P) (S:=S) (F:=F) (b:=b) (k:=k)
 refine(Pr (n:=40) (k:=0) (m:=1000) (λd hd=>?_) (by rw [List.length_map];omega)).nice (by decide) (by decide)
 obtain⟨x,hx,rfl⟩:=List.mem_map.mp hd
 have:=TX x hx
 exact Ps (by omega)
theorem MW {P:Program}{w:World}{K:PySem.W.Frag}{r:List Int}{b n:Nat} (ka:H2 a=some (.tup (r.map V.int))) (hl:r.length<=100) (hb:σ[n]? =some (some (.int (b:Int))))
  (q:∀H3,Ab H2 H3->Q ((r.set b 0).map V.int) H3):DI (DJ (Bd P w K) a) [none,none,some n] (FX K 2 (E3 (DF 0) (E3 (DF 1) Ig))) Ks (KG (cB (Eo J3 (Dj 0) (Dj 2))) (tC (V.int 0)) (Dj 1)) σ Q H2:=by
 have ec:AV [none,none,some n] σ=[none,none,some (.int (b:Int))]:=by
  show [none,none,(match σ[n]? with | some v=>v | none=>none)]=_
  rw [hb]
 refine walk_enum (xs:=r.map V.int) (λi ys H'=>Ab H2 H'/\ys=((r.set b 0).take i).map V.int) (by rw [List.length_map];omega) ⟨Ab.refl _,rfl⟩ (λi ys H' h=>by rw [h.2,List.length_map,List.length_take];omega) (λi ys H' h=>Ae.of (h.1 _ _ ka)) (λi x ys H' T hx h hT=>?_) λys H3 h=>?_
 ·obtain⟨sm,rfl⟩:=h
  rw [List.getElem?_map] at hx
  cases z:r[i]? with
  | none=>rw [z] at hx;cases hx
  | some y=>
   rw [z] at hx
   cases hx
   have hi:i<r.length:=(List.getElem?_eq_some_iff.mp z).1
   rw [ec]
   have nT:=Ab.new (o:= .tup [.int i,.int y]) hT
   refine⟨T,_,rfl,Ae.of Ah,rfl,_,_,rfl,_,_,rfl,rfl,⟨⟨rfl,trivial⟩,λ_=>⟨rfl,⟨λc=>⟨sm.trans nT,?_⟩,λc=>⟨sm.trans nT,?_⟩⟩⟩,λc=>(by cases c)⟩⟩
   ·have nb:i=b:=by
     have:=of_decide_eq_true c
     injection this with this
     omega
    have e:(r.set b 0)[i]? =some 0:=by rw [nb,List.getElem?_set_self (by omega)]
    rw [Be e,List.map_append];rfl
   ·have nb:b≠i:=λe=>by subst e;simp at c
    have e:(r.set b 0)[i]? =some y:=by rw [List.getElem?_set_ne nb,z]
    rw [Be e,List.map_append];rfl
 ·obtain⟨sm,rfl⟩:=h
  rw [List.length_map,List.take_of_length_le (by rw [List.length_set];exact Nat.le_refl _)]
  exact q _ sm
def FS:Sp:=λvs H Q _=>match vs with | [v,u,w,.int b]=>∃p P S F,∃b':Nat,b=(b':Int)/\Tri p H P S F v u w/\BC P S F/\b'<P.bs.length/\∀L H',Ab H H'->H L=none->H' L=some (.lst ((BR P S F b' S.ex.length).map V.int))->Q (.ref L) H' | _=>False
def HZ:Sp:=λvs H Q _=>match vs with | [v,u,w,.int b]=>∃p P S F,∃b':Nat,b=(b':Int)/\Tri p H P S F v u w/\BC P S F/\b'<P.bs.length/\∀H',Ab H H'->Q (.bl true) H' | _=>False
section
variable {P : Program} {w : World} {K : PySem.W.Frag} {mg : Str -> Option Value} {base : Heap}
theorem sc__law_ahead:AB ["_law_plant_here","_law_story_here","_law_firing","_law_hour","_law_mains_here"] ["_law_plant_here","_law_story_here","_law_firing","_law_hour"] (Au s__law_ahead):=AG
theorem TZ (F:Df K mg "_law_ahead" s__law_ahead ["_law_plant_here","_law_story_here","_law_firing","_law_hour"]) (T:Tx mg) (D__law_draws:Hz P w K mg base) (D__law_mains:Fn P w K mg base 1 "_law_mains" ["_law_main","_law_draws_here","_law_firing"] FE):Fn P w K mg base 2 "_law_ahead" ["_law_plant_here","_law_story_here","_law_firing","_law_hour"] HW:=by
 refine F.fn sc__law_ahead (λvs H Q E h=>?_) (λf cdv A outer s H vs Q E hr h=>?_)
 ·unfold HW at h;split at h;rfl;exact h.elim
 refine⟨_,(@Ai _ _ _ _ _ (@AI _ _ (4) _ _ _ _ sc__law_ahead.nd rfl (Az (by rfl)) (@At _ _ _ _ _ _ _ _ (@GF _) (@Dv _ _ _ _ (@Am _ _ _ (@AF _ _ _ _ _ _ _ (@AW _ K (by rfl)) (@AF _ _ _ _ _ _ _ (@AW _ K (by rfl)) (@cx _ 0 _ _ (by rfl)) (@Af _ _ _ _) (λ_ _=>rfl)) (@Af _ _ _ _) (λ_ _=>rfl)) (by rfl))) (@Aj _ _ _ _ _ _ _ _ _ _ D__law_mains (hr.mono (by decide)) rfl (@AC _ _ _ _ _ _ _ (@AF _ _ _ _ _ _ _ (@AW _ K (by rfl)) (@cx _ 0 _ _ (by rfl)) (@Af _ _ _ _) (λ_ _=>rfl)) (@Aj _ _ _ _ _ _ _ _ _ _ D__law_draws (hr.mono (by decide)) rfl (@Ao _ _ _ _ _ (@cx _ 0 _ _ (by rfl)) (@cx _ 1 _ _ (by rfl)) (by rfl)) (by decide) (by rfl) (by rfl)) (@cx _ 2 _ _ (by rfl)) (by rfl)) (by decide) (by rfl) (by rfl))) (by rfl) (AA (by rfl))) (@An _ _ _ (@Aw _ _ _ _ (@By _ _ _ _ _ (@AC _ _ _ _ _ _ _ (@AF _ _ _ _ _ _ _ (@AW _ K (by rfl)) (@AF _ _ _ _ _ _ _ (@AW _ K (by rfl)) (@cx _ 0 _ _ (by rfl)) (@Af _ _ _ _) (λ_ _=>rfl)) (@Af _ _ _ _) (λ_ _=>rfl)) (@AF _ _ _ _ _ _ _ (@AW _ K (by rfl)) (@AF _ _ _ _ _ _ _ (@AW _ K (by rfl)) (@cx _ 0 _ _ (by rfl)) (@Af _ _ _ _) (λ_ _=>rfl)) (@Af _ _ _ _) (λ_ _=>rfl)) (@AF _ _ _ _ _ _ _ (@Bp _ K (by rfl)) (@cx _ 4 _ _ (by rfl)) (@cx _ 3 _ _ (by rfl)) (λ_ _=>rfl)) (by rfl)))))),?_⟩
 unfold HW at h
 split at h
 ·rename_i v u w h0
  obtain⟨p,P,S,F,h',rfl,tr,ke,hh,q⟩:=h
  obtain⟨PA,PB,PE,PM,xb,xe,rfl,pA,pB,rb,pE,re,pM⟩:=Aa.plant tr.r
  have lh:=tr.ok.ls
  have sh:=tr.ok.sh
  have x8:=tr.so.x8
  refine⟨PA,_,2,.ref PM,rfl,rfl,Ae.of pA,rfl,PM,_,2,_,rfl,rfl,Ae.of pM,rfl,λL0 H1 s1 hL0 k0=>?_⟩
  refine⟨PA,_,2,.ref PM,rfl,rfl,Ae.of (s1 _ _ pA),rfl,p,P,S,tr.ok,tr.so,Aa.ev (Ev.same s1) _ _ tr.r,Aa.ev (Ev.same s1) _ _ tr.ru,λd H2 s2 rd=>?_⟩
  have s12:=s1.trans s2
  refine⟨p,P,S,F,by omega,x8,tr.fo.len,s12 _ _ pM,rd,Feed.of (Aa.ev (Ev.same s12) _ _ tr.rw),λR H3 k s run s3 hR kR=>?_⟩
  have ek:k=S.ex.length:=by
   rcases run.fin with⟨_,z⟩ | ⟨z1,z2,_⟩
   ·exact z
   ·have:=ke k z1;omega
  have s13:=s12.trans s3
  refine⟨L0,R,_,_,rfl,rfl,(s2.trans s3) _ _ k0,kR,Nat.le_trans (by rw [List.length_map,Hv];show 1+k<=1000;omega) (by decide:1000<=sizeLine),λL4 H4 s4 hL4 k4=>?_⟩
  have s14:=s13.trans s4
  refine⟨PA,_,2,.ref PM,rfl,rfl,Ae.of (s14 _ _ pA),rfl,PM,_,0,_,rfl,rfl,Ae.of (s14 _ _ pM),rfl,PA,_,2,.ref PM,rfl,rfl,Ae.of (s14 _ _ pA),rfl,PM,_,1,_,rfl,rfl,Ae.of (s14 _ _ pM),rfl,L4,_,(h':Int),_,rfl,rfl,Al.of k4,C2 (TV (by omega)),λA5 H5 s5 k5=>?_⟩
  exact q A5 _ (s14.trans s5) k5
 ·exact h.elim
theorem sc__law_out_least:AB ["_law_plant_here","_law_story_here","_law_firing","_law_boiler","_law_hour","_law_caps_here","_law_draws_here","_law_low","_law_high","_law_start","_law_now","_law_at","_law_made","_law_spare","_law_later","_law_here","_law_cost","_law_more","_law_left"] ["_law_plant_here","_law_story_here","_law_firing","_law_boiler","_law_hour"] (Au s__law_out_least):=AG
theorem T1 (F:Df K mg "_law_out_least" s__law_out_least ["_law_plant_here","_law_story_here","_law_firing","_law_boiler","_law_hour"]) (T:Tx mg) (D__law_ahead:Fn P w K mg base 2 "_law_ahead" ["_law_plant_here","_law_story_here","_law_firing","_law_hour"] HW) (D__law_caps:Fy P w K mg base) (D__law_draws:Hz P w K mg base):Fn P w K mg base 3 "_law_out_least" ["_law_plant_here","_law_story_here","_law_firing","_law_boiler","_law_hour"] HX:=by
 refine F.fn sc__law_out_least (λvs H Q E h=>?_) (λf cdv A outer s H vs Q E hr h=>?_)
 ·unfold HX at h;split at h;rfl;exact h.elim
 refine⟨_,(@Ai _ _ _ _ _ (@FZ _ _ (5) (6) _ _ _ _ _ _ _ _ _ _ _ rfl sc__law_out_least.nd rfl rfl (by decide) rfl rfl (@Ao _ _ _ _ _ (@Aj _ _ _ _ _ _ _ _ _ _ D__law_caps (hr.mono (by decide)) rfl (@Ao _ _ _ _ _ (@cx _ 0 _ _ (by rfl)) (@cx _ 1 _ _ (by rfl)) (by rfl)) (by decide) (by rfl) (by rfl)) (@Aj _ _ _ _ _ _ _ _ _ _ D__law_draws (hr.mono (by decide)) rfl (@Ao _ _ _ _ _ (@cx _ 0 _ _ (by rfl)) (@cx _ 1 _ _ (by rfl)) (by rfl)) (by decide) (by rfl) (by rfl)) (by rfl)) (by rfl) (by rfl)) (@Ai _ _ _ _ _ (@Bl _ _ _ _ _ _ (@Aj _ _ _ _ _ _ _ _ _ _ D__law_ahead (hr.mono (by decide)) rfl (@Bi _ _ _ _ _ _ _ _ _ (@cx _ 0 _ _ (by rfl)) (@cx _ 1 _ _ (by rfl)) (@cx _ 2 _ _ (by rfl)) (@cx _ 4 _ _ (by rfl)) (by rfl)) (by decide) (by rfl) (by rfl)) (@AL _ K _ _ _ (3) _ (@Ak _ _ _ _ _ (@Ag _ _ _ 7 sc__law_out_least.nd (by rfl)) (@Ak _ _ _ _ _ (@Ag _ _ _ 8 sc__law_out_least.nd (by rfl)) (@Ak _ _ _ _ _ (@Ag _ _ _ 9 sc__law_out_least.nd (by rfl)) (@AK _) (by rfl)) (by rfl)) (by rfl)) (by rfl) (by rfl) (by rfl) (by rfl)) (by rfl) (by rfl) (by rfl)) (@Ai _ _ _ _ _ (@AI _ _ (10) _ _ _ _ sc__law_out_least.nd rfl (Az (by rfl)) (Ru (Rs (@cx _ 9 _ _ (by rfl)) Af Rr) rfl rfl (λz=>nomatch z) (by decide)) (by rfl) (AA (by rfl))) (@Ai _ _ _ _ _ (@Bu _ _ _ _ _ _ _ _ PassesOwn.never rfl (@JY _ _ _ _ _ _ _ rfl T.b_range (@Ao _ _ _ _ _ (@cx _ 4 _ _ (by rfl)) (@AE _ _ _ _ _ _ _ _ _ (@Bx _ K (by rfl)) rfl T.b_len PySem.boot_len (@Am _ _ _ (@cx _ 6 _ _ (by rfl)) (by rfl)) (by decide) (by decide) (by rfl) (by rfl)) (by rfl)) (by rfl) (by rfl)) (@Ag _ _ _ 11 sc__law_out_least.nd (by rfl)) (@Ai _ _ _ _ _ (@Fd _ (12) _ _ _ _ _ _ _ _ _ _ _ _ _ ["_law_one","_law_steam","_law_boiler"] [none,none,some 3] sc__law_out_least.nd rfl (Az (by rfl)) rfl (@DN _ P w K _ _ _ _ _ _ _ rfl T.b_enumerate (@Am _ _ _ (@AF _ _ _ _ _ _ _ (@AW _ K (by rfl)) (@cx _ 2 _ _ (by rfl)) (@cx _ 11 _ _ (by rfl)) (λ_ _=>rfl)) (by rfl)) (by rfl) (by rfl) (by rfl) (by rfl)) (AQ.of rfl) (λ_ _ _ _=>(@AL _ K _ _ _ (2) _ (@Ak _ _ _ _ _ (@Ag _ _ _ 0 (AJ (by rfl)) (by rfl)) (@Ak _ _ _ _ _ (@Ag _ _ _ 1 (AJ (by rfl)) (by rfl)) (@AK _) (by rfl)) (by rfl)) (by rfl) (by rfl) (by rfl) (by rfl))) (λ_ _ _ _=>(@DH _ _ _ (@AU _ _ _ _ _ _ _ _ (@Di _) (@cx _ 0 _ _ (by rfl)) (@cx _ 2 _ _ (by rfl)) (AO _)))) (λ_ _ _ _=>(@cx _ 1 _ _ (by rfl))) (by rfl) (AA (by rfl)) (by intro _;rfl)) (@Ai _ _ _ _ _ (@AI _ _ (13) _ _ _ _ sc__law_out_least.nd rfl (Az (by rfl)) (@At _ _ _ _ _ _ _ _ (@BE _) (@AE _ _ _ _ _ _ _ _ _ (@C5 _ rfl) rfl T.b_sum boot_sum (@Am _ _ _ (@Bw _ _ _ _ _ _ _ _ _ _ _ ["_law_one","_law_cap","_law_boiler"] [none,none,some 3] rfl (@DN _ P w K _ _ _ _ _ _ _ rfl T.b_enumerate (@Am _ _ _ (@AF _ _ _ _ _ _ _ (@AW _ K (by rfl)) (@cx _ 5 _ _ (by rfl)) (@cx _ 11 _ _ (by rfl)) (λ_ _=>rfl)) (by rfl)) (by rfl) (by rfl) (by rfl) (by rfl)) (AQ.of rfl) (λ_ _ _ _=>(@AL _ K _ _ _ (2) _ (@Ak _ _ _ _ _ (@Ag _ _ _ 0 (AJ (by rfl)) (by rfl)) (@Ak _ _ _ _ _ (@Ag _ _ _ 1 (AJ (by rfl)) (by rfl)) (@AK _) (by rfl)) (by rfl)) (by rfl) (by rfl) (by rfl) (by rfl))) (λ_ _ _ _=>(@DH _ _ _ (@AU _ _ _ _ _ _ _ _ (@Di _) (@cx _ 0 _ _ (by rfl)) (@cx _ 2 _ _ (by rfl)) (AO _)))) (λ_ _ _ _=>(@cx _ 1 _ _ (by rfl))) (by intro _;rfl)) (by rfl)) (by decide) (by decide) (by rfl) (by rfl)) (@AE _ _ _ _ _ _ _ _ _ (@C5 _ rfl) rfl T.b_sum boot_sum (@Am _ _ _ (@cx _ 12 _ _ (by rfl)) (by rfl)) (by decide) (by decide) (by rfl) (by rfl))) (by rfl) (AA (by rfl))) (@Ai _ _ _ _ _ (@AI _ _ (14) _ _ _ _ sc__law_out_least.nd rfl (Az (by rfl)) L1 (by rfl) (AA (by rfl))) (@Ai _ _ _ _ _ (@Bu _ _ _ _ _ _ _ _ PassesOwn.never rfl (QD (RB (@cx _ 10 _ _ (by rfl)))) (@AL _ K _ _ _ (2) _ (@Ak _ _ _ _ _ (@Ag _ _ _ 15 sc__law_out_least.nd (by rfl)) (@Ak _ _ _ _ _ (@Ag _ _ _ 16 sc__law_out_least.nd (by rfl)) (@AK _) (by rfl)) (by rfl)) (by rfl) (by rfl) (by rfl) (by rfl)) (@An _ _ _ (@Bu _ _ _ _ _ _ _ _ PassesOwn.never rfl (@Cb _ _ _ _ _ _ rfl T.b_range (@Am _ _ _ (@At _ _ _ _ _ _ _ _ (@AY _) (@cx _ 13 _ _ (by rfl)) (@Af _ _ _ _)) (by rfl)) (by rfl)) (@Ag _ _ _ 17 sc__law_out_least.nd (by rfl)) (@Ai _ _ _ _ _ (@AI _ _ (18) _ _ _ _ sc__law_out_least.nd rfl (Az (by rfl)) (@AE _ _ _ _ _ _ _ _ _ (@D0 _ rfl) rfl T.b_min boot_min (@Ao _ _ _ _ _ (@cx _ 8 _ _ (by rfl)) (@At _ _ _ _ _ _ _ _ (@BE _) (@At _ _ _ _ _ _ _ _ (@AY _) (@At _ _ _ _ _ _ _ _ (@AY _) (@cx _ 15 _ _ (by rfl)) (@AE _ _ _ _ _ _ _ _ _ (@C5 _ rfl) rfl T.b_sum boot_sum (@Am _ _ _ (@cx _ 12 _ _ (by rfl)) (by rfl)) (by decide) (by decide) (by rfl) (by rfl))) (@cx _ 17 _ _ (by rfl))) (@AF _ _ _ _ _ _ _ (@AW _ K (by rfl)) (@cx _ 6 _ _ (by rfl)) (@cx _ 11 _ _ (by rfl)) (λ_ _=>rfl))) (by rfl)) (by decide) (by decide) (by rfl) (by rfl)) (by rfl) (AA (by rfl))) (@An _ _ _ (@A9 _ _ _ _ _ _ _ _ (@PW.pt _ _ _ (@Fh _ _ _ _ _ _ _ (@AU _ _ _ _ _ _ _ _ (@KC _) (@cx _ 18 _ _ (by rfl)) (@cx _ 7 _ _ (by rfl)) (AO _)) (@FV _ _ _ _ (@AU _ _ _ _ _ _ _ _ (@Ed _) (@At _ _ _ _ _ _ _ _ (@AY _) (@cx _ 16 _ _ (by rfl)) (@cx _ 17 _ _ (by rfl))) (Ry (Mb hr) (@cx _ 14 _ _ (by rfl)) (@cx _ 18 _ _ (by rfl)) (@At _ _ _ _ _ _ _ _ (@II _) (@Af _ _ _ _) (@Af _ _ _ _)) ⟨rfl,rfl,rfl,rfl⟩) (AO _))))) (@An _ _ _ (Rp (Mb hr) (@cx _ 14 _ _ (by rfl)) (@cx _ 18 _ _ (by rfl)) (@At _ _ _ _ _ _ _ _ (@AY _) (@cx _ 16 _ _ (by rfl)) (@cx _ 17 _ _ (by rfl))) rfl)) (@A8 _)))) (by intro _;rfl))) (by intro _;rfl)) (@An _ _ _ (@AI _ _ (10) _ _ _ _ sc__law_out_least.nd rfl (Az (by rfl)) (@cx _ 14 _ _ (by rfl)) (by rfl) (AA (by rfl)))))))) (by intro _;rfl)) (@An _ _ _ (@Aw _ _ _ _ (@Ey _ _ _ _ _ _ _ _ (@AU _ _ _ _ _ _ _ _ (RD (Rz hr)) (@cx _ 10 _ _ (by rfl)) L1 (AO _)) (@AE _ _ _ _ _ _ _ _ _ (@P8 _ rfl) rfl T.b_min boot_min (@Am _ _ _ (@At _ _ _ _ _ _ _ _ (@GF _) (@Bv _ _ _ _ _ _ _ _ _ (RG rfl) rfl T.b_list IK (@Am _ _ _ (RF (@cx _ 10 _ _ (by rfl))) (by rfl)) (by decide) (by decide) (by rfl) (by rfl)) (@Dv _ _ _ _ (@Am _ _ _ (@At _ _ _ _ _ _ _ _ (@II _) (@Af _ _ _ _) (@Af _ _ _ _)) (by rfl)))) (by rfl)) (by decide) (by decide) (by rfl) (by rfl)) (@BM _ _ _)))))))),?_⟩
 unfold HX at h
 split at h
 ·rename_i v u w b h
  obtain⟨p,P,S,F,b',h',rfl,rfl,tr,oo,qn,qs⟩:=h
  have hh:=oo.hh
  have hb:=oo.hb
  have x8:=oo.so.x8
  have b4:=oo.ok.b4
  have lo0:=oo.ok.lo0
  have h40:=oo.ok.h4
  have ls:=oo.ok.ls
  have shi:=oo.ok.sh
  refine⟨p,P,S,oo.ok,oo.so,tr.r,tr.ru,λc Ha sa rc=>⟨p,P,S,oo.ok,oo.so,Aa.ev (Ev.same sa) _ _ tr.r,Aa.ev (Ev.same sa) _ _ tr.ru,λd Hb sb rd=>⟨_,_,rfl,?_⟩⟩⟩
  have sab:=sa.trans sb
  obtain⟨CA,cx,rfl,hCA,rcs⟩:=Aa.firing (F:=caps P S) (Aa.ev (Ev.same sb) _ _ rc)
  obtain⟨DA,rfl,hDA⟩:=Aa.ofRow (r:=draws P S) rd
  have trb:=tr.sm sab
  obtain⟨FA,fx,rfl,hFA,rfs⟩:=Aa.firing trb.rw
  refine⟨p,P,S,F,h',rfl,trb,oo.ke,hh,λA1 Hc sc kA1=>⟨A1,_,rfl,Ae.of kA1,rfl,_,_,rfl,_,_,rfl,_,_,rfl,rfl,λG0 hG0=>⟨Ah,[(.inl (Av P S F h'),.int 0)],rfl,(show 1<=15 from by decide),?_⟩⟩⟩
  have sabc:=sab.trans sc
  have hG0H:H G0=none:=Ek sabc hG0
  have s0:Ab H (upd (upd Hc G0 (.dK [])) G0 (.dK (Dw [] [(.inl (Av P S F h'),.int 0)]))):=FR (sabc.trans (Ab.new hG0)) hG0H
  have hbG:Ab Hb (upd (upd Hc G0 (.dK [])) G0 (.dK (Dw [] [(.inl (Av P S F h'),.int 0)]))):=FR (sc.trans (Ab.new hG0)) (Ek sc hG0)
  have k0:upd (upd Hc G0 (.dK [])) G0 (.dK (Dw [] [(.inl (Av P S F h'),.int 0)])) G0=some (.dK (Bb [(Av P S F h',0)])):=Ah
  have hG0b:Hb G0=none:=Ek sc hG0
  generalize upd (upd Hc G0 (.dK [])) G0 (.dK (Dw [] [(.inl (Av P S F h'),.int 0)]))=H0 at s0 k0 hbG ⊢
  have ld:(draws P S).length=S.ex.length:=C4
  refine⟨DA,_,rfl,.inr (Ae.of (hbG _ _ hDA)),?_⟩
  rw [List.length_map,ld]
  refine⟨(h':Int),(S.ex.length:Int),rfl,⟨by omega,by omega,by omega,by omega⟩,CN (n:=((S.ex.length:Int)-(h':Int)).toNat) (λj σ H'=>∃G t,(∃x11 x12 x13 x14 x15 x16 x17 x18,σ=[some v,some u,some (.ref FA),some (.int b'),some (.int h'),some (.ref CA),some (.ref DA),some (.int P.lo),some (.int P.hi),some (.int (Av P S F h')),some (.ref G),x11,x12,x13,x14,x15,x16,x17,x18])/\Hb G=none/\H' G=some (.dK (Bb t))/\Mn (Xp P.lo P.hi (Av P S F h') (bS (AH F b' h')) (dT (Ap P S F b' h')) (Ba P S F b' h') j) t/\Ab Hb H') ⟨G0,[(Av P S F h',0)],⟨_,_,_,_,_,_,_,_,rfl⟩,hG0b,k0,Mn.one Xp.zero,hbG⟩ (λj σ H1 hj h=>?_) fun σ H1 h=>?_⟩
  ·obtain⟨G,t,⟨x11,x12,x13,x14,x15,x16,x17,x18,rfl⟩,hG,kG,mn,s1⟩:=h
   have hj2:h'+j<S.ex.length:=by omega
   have eat:(h':Int)+(j:Int)=((h'+j:Nat):Int):=by omega
   rw [eat]
   obtain⟨ra,hra,kra⟩:=Ac.at1 rfs (k:=h'+j) (by rw [oo.fo.len];exact hj2)
   obtain⟨rb,hrb,krb⟩:=Ac.at1 rcs (k:=h'+j) (by rw [BG];exact hj2)
   obtain⟨l1,_⟩:=Dz oo.fo hj2
   have ecp:(caps P S).getD (h'+j) []=AS P.bs S.fs ((h'+j:Nat):Int):=by rw [List.getD_eq_getElem?_getD,CI hj2];rfl
   rw [ecp] at krb
   have sp:=JF oo hj2
   have eb:bS (AH F b' h') j=((F.getD (h'+j) []).set b' 0).sum:=by unfold bS;rw [EV oo.fo hj2]
   have es:Ba P S F b' h' j=((AS P.bs S.fs ((h'+j:Nat):Int)).set b' 0).sum-bS (AH F b' h') j:=by unfold Ba;rw [FL hj2]
   have edr:((draws P S).map V.int)[h'+j]? =some (.int (dT (Ap P S F b' h') j)):=by
    show _=some (V.int ((Ap P S F b' h').ds.getD j 0))
    rw [HK,List.getElem?_map,GJ (by omega)];rfl
   refine⟨FA,_,_,_,rfl,rfl,Ae.of (s1 _ _ hFA),C2 hra,ra,rfl,⟨_,Ae.of (s1 _ _ kra)⟩,MS (s1 _ _ kra) (by omega) rfl λH2 s2=>?_⟩
   intro L12 hL12
   have n12:=Ab.new (o:= .lst ((BU (F.getD (h'+j) []) b' (F.getD (h'+j) []).length).map V.int)) hL12
   have k12:upd H2 L12 (.lst ((BU (F.getD (h'+j) []) b' (F.getD (h'+j) []).length).map V.int)) L12=_:=Ah
   have s3:=s1.trans (s2.trans n12)
   have kG3:=(s2.trans n12) _ _ kG
   have hL12b:Hb L12=none:=Ek (s1.trans s2) hL12
   generalize upd H2 L12 (.lst ((BU (F.getD (h'+j) []) b' (F.getD (h'+j) []).length).map V.int))=H3 at n12 k12 s3 kG3 ⊢
   refine⟨CA,_,_,_,rfl,rfl,Ae.of (s3 _ _ hCA),C2 hrb,rb,rfl,⟨_,Ae.of (s3 _ _ krb)⟩,MS (s3 _ _ krb) (by rw [Cu];omega) rfl λH4 s4=>?_⟩
   intro l5 hl5
   have n5:=Ab.new (o:= .lst ((BU (AS P.bs S.fs ((h'+j:Nat):Int)) b' (AS P.bs S.fs ((h'+j:Nat):Int)).length).map V.int)) hl5
   have s5:=s3.trans (s4.trans n5)
   have kG5:=(s4.trans n5) _ _ kG3
   have k12':=(s4.trans n5) _ _ k12
   refine⟨l5,_,rfl,.inl Ah,L12,_,rfl,.inl k12',?_⟩
   rw [JE,JE,<-eb]
   generalize upd H4 l5 (.lst ((BU (AS P.bs S.fs ((h'+j:Nat):Int)) b' (AS P.bs S.fs ((h'+j:Nat):Int)).length).map V.int))=H5 at n5 s5 kG5 k12' ⊢
   refine λM hM=>?_
   have sM:=Ab.new (o:= .dK []) hM
   have s6:=s5.trans sM
   have kG6:=sM _ _ kG5
   have k126:=sM _ _ k12'
   have kM6:upd H5 M (.dK []) M=some (.dK (Bb [])):=Ah
   have hMb:Hb M=none:=Ek s5 hM
   have nGM:G≠M:=Bh kG5 hM
   have nLM:L12≠M:=Bh k12' hM
   have nLG:L12≠G:=λz=>by rw [z,kG3] at k12;cases k12
   generalize upd H5 M (.dK [])=H6 at s6 kG6 k126 kM6 ⊢
   refine⟨G,_,rfl,kG6,λo=>⟨G,o,_,rfl,Ah,?_⟩⟩
   have s7:Ab Hb (upd H6 G (.frz o (.dK (Bb t)))):=FR s6 hG
   have kG7:upd H6 G (.frz o (.dK (Bb t))) G=some (.frz o (.dK (Bb t))):=Ah
   have kM7:upd H6 G (.frz o (.dK (Bb t))) M=some (.dK (Bb [])):=by rw [As (Ne.symm nGM)];exact kM6
   have kL7:upd H6 G (.frz o (.dK (Bb t))) L12=some (.lst ((BU (F.getD (h'+j) []) b' (F.getD (h'+j) []).length).map V.int)):=by rw [As nLG];exact k126
   generalize upd H6 G (.frz o (.dK (Bb t)))=H7 at s7 kG7 kM7 kL7 ⊢
   have hn:((Ba P S F b' h' j+1).toNat:Int)=Ba P S F b' h' j+1:=Int.toNat_of_nonneg (by omega)
   have lB:∀(i k:Nat) z,LsL P.lo P.hi (dT (Ap P S F b' h') j) t (DQ (bS (AH F b' h') j) (Ba P S F b' h' j+1).toNat) i k z->0<=z.1/\z.1<=100:=λi k z ⟨_,_,g',a',_,_,h3,h4',_⟩=>by
    rw [h4'];show 0<=min P.hi (g'.1+a'.1-dT (Ap P S F b' h') j)/\min P.hi (g'.1+a'.1-dT (Ap P S F b' h') j)<=100;omega
   have tB:∀g∈t,0<=g.2/\g.2<=288:=λg hg=>(mn.snd g hg).bd (λi hi=>(JF oo (j:=i) (by omega)).2.1) (by omega)
   refine RC (λi σ H'=>∃m,(∃x15 x16 x17 x18,σ=[some v,some u,some (.ref FA),some (.int b'),some (.int h'),some (.ref CA),some (.ref DA),some (.int P.lo),some (.int P.hi),some (.int (Av P S F h')),some (.ref G),some (.int ((h'+j:Nat):Int)),some (.ref L12),some (.int (Ba P S F b' h' j)),some (.ref M),x15,x16,x17,x18])/\H' M=some (.dK (Bb m))/\H' G=some (.frz o (.dK (Bb t)))/\H' L12=some (.lst ((BU (F.getD (h'+j) []) b' (F.getD (h'+j) []).length).map V.int))/\Mn (LsL P.lo P.hi (dT (Ap P S F b' h') j) t (DQ (bS (AH F b' h') j) (Ba P S F b' h' j+1).toNat) i 0) m/\Ab Hb H') ⟨[],⟨x15,x16,x17,x18,by rw [es];rfl⟩,kM7,kG7,kL7,Mn.nil LsL.zero,s7⟩ (λi σ H' ⟨_,_,_,k,_⟩=>k) (λi q' σ H8 T2 hq h hT2=>?_) fun σ H8 h=>?_
   ·obtain⟨m,⟨x15,x16,x17,x18,rfl⟩,kM8,kG8,kL8,mm,s8⟩:=h
    obtain⟨g,hg,rfl⟩:=TQ hq
    have sT2:=Ab.new (o:= .tup [kV (Sum.inl g.1),.int g.2]) hT2
    refine⟨T2,_,rfl,Ae.of Ah,rfl,_,_,rfl,_,_,rfl,rfl,Ba P S F b' h' j+1,rfl,by omega,by omega,?_⟩
    have s9:=s8.trans sT2
    have kM9:=sT2 _ _ kM8
    have kG9:=sT2 _ _ kG8
    have kL9:=sT2 _ _ kL8
    generalize upd H8 T2 (.tup [kV (Sum.inl g.1),.int g.2])=H9 at s9 kM9 kG9 kL9 ⊢
    have gB:=tB g (List.mem_of_getElem? hg)
    refine CN (n:=(Ba P S F b' h' j+1).toNat) (λk σ H'=>∃m,(∃x17 x18,σ=[some v,some u,some (.ref FA),some (.int b'),some (.int h'),some (.ref CA),some (.ref DA),some (.int P.lo),some (.int P.hi),some (.int (Av P S F h')),some (.ref G),some (.int ((h'+j:Nat):Int)),some (.ref L12),some (.int (Ba P S F b' h' j)),some (.ref M),some (.int g.1),some (.int g.2),x17,x18])/\H' M=some (.dK (Bb m))/\H' G=some (.frz o (.dK (Bb t)))/\H' L12=some (.lst ((BU (F.getD (h'+j) []) b' (F.getD (h'+j) []).length).map V.int))/\Mn (LsL P.lo P.hi (dT (Ap P S F b' h') j) t (DQ (bS (AH F b' h') j) (Ba P S F b' h' j+1).toNat) i k) m/\Ab Hb H') ⟨m,⟨_,_,rfl⟩,kM9,kG9,kL9,mm,s9⟩ (λk σ H10 hk h=>?_) fun σ H10 h=>?_
    ·obtain⟨m7,⟨x17,x18,rfl⟩,kM10,kG10,kL10,mm7,s10⟩:=h
     have ha:=Jd (b:=bS (AH F b' h') j) hk
     rw [Int.zero_add]
     refine⟨L12,_,rfl,.inl kL10,DA,_,_,_,rfl,rfl,Ae.of (s10 _ _ hDA),C2 edr,_,_,rfl,?_⟩
     rw [JE,<-eb,JB]
     have ek:g.1+bS (AH F b' h') j+(k:Int)-dT (Ap P S F b' h') j=g.1+(bS (AH F b' h') j+(k:Int))-dT (Ap P S F b' h') j:=by omega
     rw [ek]
     refine⟨λle=>?_,λle=>?_⟩
     ·have le:=of_decide_eq_true le
      have lm:=mm7.len (lB _ _)
      refine⟨M,rfl,.inl ⟨_,.inl kM10⟩,⟨by decide,by decide,by decide⟩,_,DGet.k (k:= .inl (min P.hi (g.1+(bS (AH F b' h') j+(k:Int))-dT (Ap P S F b' h') j))) kM10,?_⟩
      rw [TN]
      have e9:(10:Int) ^ Int.toNat 9=1000000000:=by decide
      refine⟨λlt=>?_,λlt=>?_⟩
      ·have lt:=of_decide_eq_true lt
       rw [e9] at lt
       refine⟨M,_,rfl,DPut.k (k:= .inl (min P.hi (g.1+(bS (AH F b' h') j+(k:Int))-dT (Ap P S F b' h') j))) kM10 (by rw [MQ,sizeLine_eq];omega),EH m7 (min P.hi (g.1+(bS (AH F b' h') j+(k:Int))-dT (Ap P S F b' h') j)) (g.2+(k:Int)),⟨_,_,rfl⟩,?_,?_,?_,(mm7.less _ _ (by omega)).congr (LsL.step hg ha le),FR s10 hMb⟩
       ·rw [Ah,TL]
        unfold EH
        rw [if_pos lt]
       ·rw [As nGM];exact kG10
       ·rw [As nLM];exact kL10
      ·have lt:=of_decide_eq_false lt
       rw [e9] at lt
       refine⟨EH m7 (min P.hi (g.1+(bS (AH F b' h') j+(k:Int))-dT (Ap P S F b' h') j)) (g.2+(k:Int)),⟨_,_,rfl⟩,?_,kG10,kL10,(mm7.less _ _ (by omega)).congr (LsL.step hg ha le),s10⟩
       unfold EH
       rw [if_neg lt]
       exact kM10
     ·have le:=of_decide_eq_false le
      exact⟨λc=>(by cases c),λ_=>⟨m7,⟨_,_,rfl⟩,kM10,kG10,kL10,mm7.congr (LsL.skip hg ha le),s10⟩⟩
    ·obtain⟨m7,⟨x17,x18,rfl⟩,kM10,kG10,kL10,mm7,s10⟩:=h
     refine⟨m7,⟨_,_,_,_,rfl⟩,kM10,kG10,kL10,?_,s10⟩
     refine Mn.congr ?_ LsL.turn
     rw [LJ];exact mm7
   ·obtain⟨m,⟨x15,x16,x17,x18,rfl⟩,kM8,kG8,kL8,mm,s8⟩:=h
    rw [MQ] at mm
    exact⟨M,m,⟨_,_,_,_,_,_,_,_,rfl⟩,hMb,kM8,Mn.hourX hn mn mm,s8⟩
  ·obtain⟨G,t,⟨x11,x12,x13,x14,x15,x16,x17,x18,rfl⟩,hG,kG,mn,s1⟩:=h
   have en:((S.ex.length:Int)-(h':Int)).toNat=(Ap P S F b' h').ds.length:=by rw [BH];omega
   rw [en] at mn
   have sH1:=sab.trans s1
   have spr:=Ej oo.fo (b:=b') (h:=h')
   refine λN hN=>⟨G,N,_,rfl,rfl,.inl ((Ab.new hN) _ _ kG),.inl Ah,?_⟩
   have sN:=Ab.new (o:= .dK []) hN
   have s2:=sH1.trans sN
   have kG2:=sN _ _ kG
   generalize upd H1 N (.dK [])=H2 at s2 kG2 ⊢
   have no1:t≠ []->AT (Ap P S F b' h')=none:=λne=>by
    cases z:AT (Ap P S F b' h') with
    | none=>rfl
    | some s0=>exact absurd (QT spr oo.lo.1 (λc=>by rw [oo.str.mpr c] at z;cases z) mn) ne
   refine⟨λne=>?_,λe=>qn (λz=>?_) _ s2⟩
   ·have tn:t≠ []:=λz=>by rw [z] at ne;cases ne
    have no:=no1 tn
    obtain⟨a1,a2⟩:=oo.str.mp no
    have ol:=(LP spr oo.lo.1 a1 a2 mn).2
    have tB:∀g∈t,0<=g.2/\g.2<=288:=λg hg=>(mn.snd g hg).bd (λi hi=>(JF oo (j:=i) (by rw [BH] at hi;omega)).2.1) (by rw [BH];omega)
    have ev:(Bb t).map (·.2)=(t.map (·.2)).map V.int:=by unfold Bb;rw [List.map_map,List.map_map];rfl
    refine⟨G,_,rfl,.inl kG2,λvv hv=>⟨vv,G,_,rfl,Ah,.inl ((Ab.new hv) _ _ kG2),λl hl=>?_⟩⟩
    rw [ev]
    have nv:=Ab.new (o:=Fu vv G) hv
    have nl:=Ab.new (o:= .lst ((t.map (·.2)).map V.int)) hl
    refine⟨⟨by decide,by decide,by decide⟩,λL9 H9 s9 hL9 k9=>⟨l,L9,_,_,rfl,rfl,s9 _ _ Ah,k9,?_,λLc Hc' sc' hLc kc=>?_⟩⟩
    ·have lt:=mn.len λq hq=>by
      obtain⟨x,okx,rfl⟩:=hq
      have hl0:=oo.lo.1
      show 0<=xM P.hi (Av P S F h') (bS (AH F b' h')) (dT (Ap P S F b' h')) x (Ap P S F b' h').ds.length/\_<=100
      have hpos:0<(Ap P S F b' h').ds.length:=by rw [BH];omega
      have hh1:=(okx ((Ap P S F b' h').ds.length-1) (by omega)).2.2
      rw [show(Ap P S F b' h').ds.length-1+1=(Ap P S F b' h').ds.length from by omega] at hh1
      have hh2:xM P.hi (Av P S F h') (bS (AH F b' h')) (dT (Ap P S F b' h')) x ((Ap P S F b' h').ds.length-1+1)<=P.hi:=by
       show min P.hi _<=P.hi
       omega
      rw [show(Ap P S F b' h').ds.length-1+1=(Ap P S F b' h').ds.length from by omega] at hh2
      exact⟨by omega,by omega⟩
     exact Nat.le_trans (by rw [List.length_map,List.length_map];show t.length+1<=1000;omega) (by decide:1000<=sizeLine)
    ·have ec:(t.map (·.2)).map V.int++[V.int (10 ^(9:Int).toNat)]=(t.map (λq:Int×Int=>q.2)++[1000000000]).map V.int:=by rw [List.map_append];rfl
     rw [ec] at kc
     refine⟨Lc,_,rfl,kc,λz=>(by simp at z),λm hm hall=>?_⟩
     have hmt:m∈t.map (·.2):=by
      rcases List.mem_append.mp hm with z | z
      ·exact z
      ·rw [List.mem_singleton.mp z] at hall
       cases t with
       | nil=>exact absurd rfl tn
       | cons g r=>
        have h1:=hall g.2 (List.mem_append_left _ (List.mem_map.mpr ⟨g,List.mem_cons_self,rfl⟩))
        have h2:=tB g List.mem_cons_self
        omega
     have em:=ol m hmt λx hx=>hall x (List.mem_append_left _ hx)
     have ef:Dl P S F b' h'=m:=by
      rw [em];unfold Dl;rw [BH]
     rw [<-ef]
     exact qs no _ (s2.trans (nv.trans (nl.trans (s9.trans sc'))))
   ·have te:t=[]:=by
     cases t with
     | nil=>rfl
     | cons _ _=>cases e
    obtain⟨a1,a2⟩:=oo.str.mp z
    exact(LP spr oo.lo.1 a1 a2 mn).1 te
 ·exact h.elim
theorem T3:AB ["plant","story","firing","boiler"] ["plant","story","firing","boiler"] (Au s_outs_let):=AG
theorem T5 (F:Df K mg "outs_let" s_outs_let ["plant","story","firing","boiler"]) (T:Tx mg) (D_moved:HV P w K mg base) (D_need_boiler_of_keeping:HF P w K mg base):Fn P w K mg base 18 "outs_let" ["plant","story","firing","boiler"] FS:=by
 refine F.fn T3 (λvs H Q E h=>?_) (λf cdv A outer s H vs Q E hr h=>?_)
 ·unfold FS at h;split at h;rfl;exact h.elim
 refine⟨_,(@Ai _ _ _ _ _ (@Bq _ _ _ _ (@Aj _ _ _ _ _ _ _ _ _ _ D_need_boiler_of_keeping (hr.mono (by decide)) rfl (@Bi _ _ _ _ _ _ _ _ _ (@cx _ 0 _ _ (by rfl)) (@cx _ 1 _ _ (by rfl)) (@cx _ 2 _ _ (by rfl)) (@cx _ 3 _ _ (by rfl)) (by rfl)) (by decide) (by rfl) (by rfl)) (by rfl)) (@An _ _ _ (@Aw _ _ _ _ (@Bw _ _ _ _ _ _ _ _ _ _ _ ["hour","plant","story","firing","boiler"] [none,some 0,some 1,some 2,some 3] rfl (@Cb _ _ _ _ _ _ rfl T.b_range (@Am _ _ _ (@AE _ _ _ _ _ _ _ _ _ (@Bx _ K (by rfl)) rfl T.b_len PySem.boot_len (@Am _ _ _ (@cx _ 2 _ _ (by rfl)) (by rfl)) (by decide) (by decide) (by rfl) (by rfl)) (by rfl)) (by rfl)) (AQ.of rfl) (λ_ _ _ _=>(@Ag _ _ _ 0 (AJ (by rfl)) (by rfl))) (λ_ _ _ _=>(@DH _ _ _ (@AU _ _ _ _ _ _ _ _ (@E4 _) (@Aj _ _ _ _ _ _ _ _ _ _ D_moved (hr.mono (by decide)) rfl (@Ci _ _ _ _ _ (@cx _ 1 _ _ (by rfl)) (@Bi _ _ _ _ _ _ _ _ _ (@cx _ 2 _ _ (by rfl)) (@cx _ 3 _ _ (by rfl)) (@cx _ 4 _ _ (by rfl)) (@cx _ 0 _ _ (by rfl)) (by rfl)) (by rfl)) (by decide) (by rfl) (by rfl)) (@BM _ _ _) (AO _)))) (λ_ _ _ _=>(@cx _ 0 _ _ (by rfl))) (by intro _;rfl))))),?_⟩
 unfold FS at h
 split at h
 ·rename_i v u w b
  obtain⟨p,P,S,F,b',rfl,tr,ke,hb,q⟩:=h
  have x8:=tr.so.x8
  refine⟨p,P,S,F,tr,ke,by omega,by omega,λH1 s1=>?_⟩
  have tr1:=tr.sm s1
  obtain⟨FA,xf,rfl,hF,rf⟩:=Aa.firing tr1.rw
  have lf:=rf.len
  rw [List.length_map,tr.fo.len] at lf
  refine⟨FA,_,rfl,.inr (Ae.of hF),?_⟩
  rw [<-lf]
  refine⟨(S.ex.length:Int),rfl,by omega,by omega,Gh (n:=((S.ex.length:Int)).toNat) (λi ys H'=>Ab H1 H'/\ys=(BR P S F b' i).map V.int) (by omega) ⟨Ab.refl _,rfl⟩ (λi ys H' h=>by rw [h.2,List.length_map];exact HY) (λi ys H' hi h=>?_) λys H2 h=>?_⟩
  ·obtain⟨sm,rfl⟩:=h
   have oo:OutOk P S F b' i:=⟨tr.ok,tr.so,tr.fo,ke,hb,by omega⟩
   refine⟨⟨rfl,rfl,rfl,rfl,trivial⟩,p,P,S,F,b',i,rfl,Int.zero_add _,tr1.sm sm,oo,λt H3 s3 rt=>⟨rfl,?_⟩⟩
   unfold EU at rt
   rw [JG]
   cases z:AT (Ap P S F b' i) with
   | some s0=>
    rw [z] at rt
    have et:t= .non:=by unfold Aa at rt;exact rt
    subst et
    exact⟨λc=>(by simp at c),λ_=>⟨sm.trans s3,by rw [if_neg (by intro c;cases c)]⟩⟩
   | none=>
    rw [z] at rt
    obtain⟨TA,xt,rfl,_,_⟩:=Aa.firing (F:=AZ P S F b' i) rt
    refine⟨λ_=>⟨sm.trans s3,?_⟩,λc=>(by simp at c)⟩
    rw [if_pos rfl,List.map_append,Int.zero_add];rfl
  ·obtain⟨sm,rfl⟩:=h
   rw [Int.toNat_natCast]
   intro L hL
   exact q L _ (s1.trans (sm.trans (Ab.new hL))) (Ek (s1.trans sm) hL) Ah
 ·exact h.elim
theorem sc__law_right:AB ["_law_plant_here","_law_story_here","_law_firing","_law_boiler","_law_hours","_law_due","_law_turn","_law_told","_law_hour","_law_few","_law_some","_law_full","_law_row","_law_most"] ["_law_plant_here","_law_story_here","_law_firing","_law_boiler"] (Au s__law_right):=AG
theorem T6 (F:Df K mg "_law_right" s__law_right ["_law_plant_here","_law_story_here","_law_firing","_law_boiler"]) (T:Tx mg) (D__law_caps:Fy P w K mg base) (D__law_out_least:Fn P w K mg base 3 "_law_out_least" ["_law_plant_here","_law_story_here","_law_firing","_law_boiler","_law_hour"] HX) (D_least_moved:Fn P w K mg base 18 "least_moved" ["plant","story","firing","boiler","hour"] FP) (D_moved:HV P w K mg base) (D_moved_by:Fn P w K mg base 17 "moved_by" ["plant","story","firing","boiler","hour","thing"] HE) (D_outs_let:Fn P w K mg base 18 "outs_let" ["plant","story","firing","boiler"] FS):Fn P w K mg base 19 "_law_right" ["_law_plant_here","_law_story_here","_law_firing","_law_boiler"] HZ:=by
 refine F.fn sc__law_right (λvs H Q E h=>?_) (λf cdv A outer s H vs Q E hr h=>?_)
 ·unfold HZ at h;split at h;rfl;exact h.elim
 refine⟨_,(@Ai _ _ _ _ _ (@AI _ _ (4) _ _ _ _ sc__law_right.nd rfl (Az (by rfl)) (@AE _ _ _ _ _ _ _ _ _ (@Bx _ K (by rfl)) rfl T.b_len PySem.boot_len (@Am _ _ _ (@AF _ _ _ _ _ _ _ (@AW _ K (by rfl)) (@cx _ 1 _ _ (by rfl)) (@Af _ _ _ _) (λ_ _=>rfl)) (by rfl)) (by decide) (by decide) (by rfl) (by rfl)) (by rfl) (AA (by rfl))) (@Ai _ _ _ _ _ (@Fd _ (5) _ _ _ _ _ _ _ _ _ _ _ _ _ ["_law_hour","_law_plant_here","_law_story_here","_law_firing","_law_boiler"] [none,some 0,some 1,some 2,some 3] sc__law_right.nd rfl (Az (by rfl)) rfl (@Cb _ _ _ _ _ _ rfl T.b_range (@Am _ _ _ (@cx _ 4 _ _ (by rfl)) (by rfl)) (by rfl)) (AQ.of rfl) (λ_ _ _ _=>(@Ag _ _ _ 0 (AJ (by rfl)) (by rfl))) (λ_ _ _ _=>(@DH _ _ _ (@AU _ _ _ _ _ _ _ _ (@E4 _) (@Aj _ _ _ _ _ _ _ _ _ _ D__law_out_least (hr.mono (by decide)) rfl (@Ci _ _ _ _ _ (@cx _ 1 _ _ (by rfl)) (@Bi _ _ _ _ _ _ _ _ _ (@cx _ 2 _ _ (by rfl)) (@cx _ 3 _ _ (by rfl)) (@cx _ 4 _ _ (by rfl)) (@cx _ 0 _ _ (by rfl)) (by rfl)) (by rfl)) (by decide) (by rfl) (by rfl)) (@BM _ _ _) (AO _)))) (λ_ _ _ _=>(@cx _ 0 _ _ (by rfl))) (by rfl) (AA (by rfl)) (by intro _;rfl)) (@Ai _ _ _ _ _ (@Bu _ _ _ _ _ _ _ _ PassesOwn.never rfl (@Cb _ _ _ _ _ _ rfl T.b_range (@Am _ _ _ (@Af _ _ _ _) (by rfl)) (by rfl)) (@Ag _ _ _ 6 sc__law_right.nd (by rfl)) (@Ai _ _ _ _ _ (@AI _ _ (7) _ _ _ _ sc__law_right.nd rfl (Az (by rfl)) (@Aj _ _ _ _ _ _ _ _ _ _ D_outs_let (hr.mono (by decide)) rfl (@Bi _ _ _ _ _ _ _ _ _ (@cx _ 0 _ _ (by rfl)) (@cx _ 1 _ _ (by rfl)) (@cx _ 2 _ _ (by rfl)) (@cx _ 3 _ _ (by rfl)) (by rfl)) (by decide) (by rfl) (by rfl)) (by rfl) (AA (by rfl))) (@Ai _ _ _ _ _ (@A9 _ _ _ _ _ _ _ _ (@AU _ _ _ _ _ _ _ _ (@Di _) (@AE _ _ _ _ _ _ _ _ _ (@KS _ _ hr) rfl T.b_repr boot_repr (@Am _ _ _ (@cx _ 7 _ _ (by rfl)) (by rfl)) (by decide) (by decide) (by rfl) (by rfl)) (@AE _ _ _ _ _ _ _ _ _ (@KS _ _ hr) rfl T.b_repr boot_repr (@Am _ _ _ (@cx _ 5 _ _ (by rfl)) (by rfl)) (by decide) (by decide) (by rfl) (by rfl)) (AO _)) (@An _ _ _ (@Aw _ _ _ _ (@Ch _ _ _ _))) (@A8 _)) (@An _ _ _ (@Bq _ _ _ _ (@CG _ _ _ _ _ _ _ _ _ _ _ _ PySem.F.plainAttrs_list PySem.F.slot_list_append PySem.F.type_list_append CH (@cx _ 7 _ _ (by rfl)) (@Am _ _ _ (@Af _ _ _ _) (by rfl)) (by rfl) (by rfl) (by rfl) (by rfl) (by rfl)) (by rfl))))) (by intro _;rfl)) (@Ai _ _ _ _ _ (@Bu _ _ _ _ _ _ _ _ PassesOwn.never rfl (@Cb _ _ _ _ _ _ rfl T.b_range (@Am _ _ _ (@cx _ 4 _ _ (by rfl)) (by rfl)) (by rfl)) (@Ag _ _ _ 8 sc__law_right.nd (by rfl)) (@Ai _ _ _ _ _ (@FZ _ _ (9) (10) _ _ _ _ _ _ _ _ _ _ _ rfl sc__law_right.nd rfl rfl (by decide) rfl rfl (@Ao _ _ _ _ _ (@Aj _ _ _ _ _ _ _ _ _ _ D_least_moved (hr.mono (by decide)) rfl (@Ci _ _ _ _ _ (@cx _ 0 _ _ (by rfl)) (@Bi _ _ _ _ _ _ _ _ _ (@cx _ 1 _ _ (by rfl)) (@cx _ 2 _ _ (by rfl)) (@cx _ 3 _ _ (by rfl)) (@cx _ 8 _ _ (by rfl)) (by rfl)) (by rfl)) (by decide) (by rfl) (by rfl)) (@Aj _ _ _ _ _ _ _ _ _ _ D_moved (hr.mono (by decide)) rfl (@Ci _ _ _ _ _ (@cx _ 0 _ _ (by rfl)) (@Bi _ _ _ _ _ _ _ _ _ (@cx _ 1 _ _ (by rfl)) (@cx _ 2 _ _ (by rfl)) (@cx _ 3 _ _ (by rfl)) (@cx _ 8 _ _ (by rfl)) (by rfl)) (by rfl)) (by decide) (by rfl) (by rfl)) (by rfl)) (by rfl) (by rfl)) (@Ai _ _ _ _ _ (@A9 _ _ _ _ _ _ _ _ (@PW.pt _ _ _ (@Fi _ _ _ _ _ _ _ (@AU _ _ _ _ _ _ _ _ (@Di _) (@Cr _ _ _ _ _ _ _ _ (@DZ _) (@cx _ 9 _ _ (by rfl)) (@BM _ _ _) (AO _)) (@Cr _ _ _ _ _ _ _ _ (@Pi _ K (by rfl)) (@cx _ 8 _ _ (by rfl)) (@cx _ 5 _ _ (by rfl)) (by with_unfolding_all rfl)) (AO _)) (@E1 _ _ _ _ (@AU _ _ _ _ _ _ _ _ (@Di _) (@Cr _ _ _ _ _ _ _ _ (@DZ _) (@cx _ 10 _ _ (by rfl)) (@BM _ _ _) (AO _)) (@Cr _ _ _ _ _ _ _ _ (@DZ _) (@cx _ 9 _ _ (by rfl)) (@BM _ _ _) (AO _)) (AO _))))) (@An _ _ _ (@Aw _ _ _ _ (@Ch _ _ _ _))) (@A8 _)) (@Ai _ _ _ _ _ (@A9 _ _ _ _ _ _ _ _ (@AU _ _ _ _ _ _ _ _ (@E4 _) (@cx _ 9 _ _ (by rfl)) (@BM _ _ _) (AO _)) (@An _ _ _ (@A9 _ _ _ _ _ _ _ _ (@AU _ _ _ _ _ _ _ _ (@Di _) (@Aj _ _ _ _ _ _ _ _ _ _ D_moved_by (hr.mono (by decide)) rfl (@Ci _ _ _ _ _ (@cx _ 0 _ _ (by rfl)) (@Ci _ _ _ _ _ (@cx _ 1 _ _ (by rfl)) (@Bi _ _ _ _ _ _ _ _ _ (@cx _ 2 _ _ (by rfl)) (@cx _ 3 _ _ (by rfl)) (@cx _ 8 _ _ (by rfl)) (@cx _ 10 _ _ (by rfl)) (by rfl)) (by rfl)) (by rfl)) (by decide) (by rfl) (by rfl)) (@cx _ 9 _ _ (by rfl)) (AO _)) (@An _ _ _ (@Aw _ _ _ _ (@Ch _ _ _ _))) (@A8 _))) (@A8 _)) (@Ai _ _ _ _ _ (@AI _ _ (11) _ _ _ _ sc__law_right.nd rfl (Az (by rfl)) (@Dv _ _ _ _ (@Cc _)) (by rfl) (AA (by rfl))) (@Ai _ _ _ _ _ (@Bu _ _ _ _ _ _ _ _ PassesOwn.never rfl (@Cf _ K _ _ _ (@BN _ _ _ _ _ _ _ _ _ _ (@s_tup _) (@Aj _ _ _ _ _ _ _ _ _ _ D__law_caps (hr.mono (by decide)) rfl (@Ao _ _ _ _ _ (@cx _ 0 _ _ (by rfl)) (@cx _ 1 _ _ (by rfl)) (by rfl)) (by decide) (by rfl) (by rfl)) (@BA _ _ _ (@cx _ 8 _ _ (by rfl))) (@Ce _)) (by rfl)) (@Ag _ _ _ 12 sc__law_right.nd (by rfl)) (@An _ _ _ (@Bq _ _ _ _ (@CG _ _ _ _ _ _ _ _ _ _ _ _ PySem.F.plainAttrs_list PySem.F.slot_list_append PySem.F.type_list_append CH (@cx _ 11 _ _ (by rfl)) (@Am _ _ _ (@Bv _ _ _ _ _ _ _ _ _ (@BT _ K (by rfl)) rfl T.b_tuple BQ (@Am _ _ _ (@Bw _ _ _ _ _ _ _ _ _ _ _ ["_law_one","_law_cap","_law_boiler"] [none,none,some 3] rfl (@DN _ P w K _ _ _ _ _ _ _ rfl T.b_enumerate (@Am _ _ _ (@cx _ 12 _ _ (by rfl)) (by rfl)) (by rfl) (by rfl) (by rfl) (by rfl)) (AQ.of rfl) (λ_ _ _ _=>(@AL _ K _ _ _ (2) _ (@Ak _ _ _ _ _ (@Ag _ _ _ 0 (AJ (by rfl)) (by rfl)) (@Ak _ _ _ _ _ (@Ag _ _ _ 1 (AJ (by rfl)) (by rfl)) (@AK _) (by rfl)) (by rfl)) (by rfl) (by rfl) (by rfl) (by rfl))) (λ_ _ _ _=>(@Br _)) (λ_ _ _ _=>(@Ey _ _ _ _ _ _ _ _ (@AU _ _ _ _ _ _ _ _ (@Ep _) (@cx _ 0 _ _ (by rfl)) (@cx _ 2 _ _ (by rfl)) (AO _)) (@Af _ _ _ _) (@cx _ 1 _ _ (by rfl)))) (by intro _;rfl)) (by rfl)) (by decide) (by decide) (by rfl) (by rfl)) (by rfl)) (by rfl) (by rfl) (by rfl) (by rfl) (by rfl)) (by rfl))) (by intro _;rfl)) (@Ai _ _ _ _ _ (@AI _ _ (13) _ _ _ _ sc__law_right.nd rfl (Az (by rfl)) (@Aj _ _ _ _ _ _ _ _ _ _ D_moved_by (hr.mono (by decide)) rfl (@Ci _ _ _ _ _ (@cx _ 0 _ _ (by rfl)) (@Ci _ _ _ _ _ (@cx _ 1 _ _ (by rfl)) (@Bi _ _ _ _ _ _ _ _ _ (@cx _ 2 _ _ (by rfl)) (@cx _ 3 _ _ (by rfl)) (@cx _ 8 _ _ (by rfl)) (@At _ _ _ _ _ _ _ _ (@Fj _) (@BN _ _ _ _ _ _ _ _ _ _ (@s_tup _) (@cx _ 2 _ _ (by rfl)) (@Ce _) (@BA _ _ _ (@cx _ 8 _ _ (by rfl)))) (@Bv _ _ _ _ _ _ _ _ _ (@BT _ K (by rfl)) rfl T.b_tuple BQ (@Am _ _ _ (@cx _ 11 _ _ (by rfl)) (by rfl)) (by decide) (by decide) (by rfl) (by rfl))) (by rfl)) (by rfl)) (by rfl)) (by decide) (by rfl) (by rfl)) (by rfl) (AA (by rfl))) (@An _ _ _ (@A9 _ _ _ _ _ _ _ _ (@PW.pt _ _ _ (@Fi _ _ _ _ _ _ _ (@AU _ _ _ _ _ _ _ _ (@Di _) (@Cr _ _ _ _ _ _ _ _ (@DZ _) (@cx _ 13 _ _ (by rfl)) (@BM _ _ _) (AO _)) (@Cr _ _ _ _ _ _ _ _ (@DZ _) (@cx _ 9 _ _ (by rfl)) (@BM _ _ _) (AO _)) (AO _)) (@E1 _ _ _ _ (@PW.pt _ _ _ (@Fh _ _ _ _ _ _ _ (@AU _ _ _ _ _ _ _ _ (@E4 _) (@cx _ 9 _ _ (by rfl)) (@BM _ _ _) (AO _)) (@FV _ _ _ _ (@AU _ _ _ _ _ _ _ _ (@Ed _) (@cx _ 13 _ _ (by rfl)) (@cx _ 9 _ _ (by rfl)) (AO _)))))))) (@An _ _ _ (@Aw _ _ _ _ (@Ch _ _ _ _))) (@A8 _))))))))) (by intro _;rfl)) (@An _ _ _ (@Aw _ _ _ _ (@Ch _ _ _ _))))))),?_⟩
 unfold HZ at h
 split at h
 ·rename_i v u w b
  obtain⟨p,P,S,F,b',rfl,tr,ke,hb,q⟩:=h
  have x8:=tr.so.x8
  have b4:=tr.ok.b4
  have f:∀ {H1 H2:Hp},Ab H1 H2->Ev p H1 H2:=λs=>Ev.same s
  obtain⟨SA,SB,SE,xs,rfl,hSA,hSB,hSE,rs⟩:=Aa.story tr.ru
  obtain⟨FA,xf,rfl,hF,rf⟩:=Aa.firing tr.rw
  have lf:=rf.len
  rw [List.length_map,tr.fo.len] at lf
  refine⟨SA,_,0,_,rfl,rfl,Ae.of hSA,rfl,SB,_,rfl,.inr (Ae.of hSB),?_⟩
  rw [List.length_map]
  refine⟨(S.ex.length:Int),rfl,by omega,by omega,Gh (n:=((S.ex.length:Int)).toNat) (λi ys H'=>Ab H H'/\ys=(BR P S F b' i).map V.int) (by omega) ⟨Ab.refl _,rfl⟩ (λi ys H' h=>by rw [h.2,List.length_map];exact HY) (λi ys H' hi h=>?_) λys H1 h=>?_⟩
  ·obtain⟨sm,rfl⟩:=h
   have oo:OutOk P S F b' i:=⟨tr.ok,tr.so,tr.fo,ke,hb,by omega⟩
   refine⟨⟨rfl,rfl,rfl,rfl,trivial⟩,p,P,S,F,b',i,rfl,Int.zero_add _,tr.sm sm,oo,λno H3 s3=>⟨rfl,λc=>(by simp at c),λ_=>⟨sm.trans s3,?_⟩⟩,λno H3 s3=>⟨rfl,λ_=>⟨sm.trans s3,?_⟩,λc=>(by simp at c)⟩⟩
   ·rw [JG,if_neg no]
   ·rw [JG,if_pos no,List.map_append,Int.zero_add];rfl
  obtain⟨sm0,rfl⟩:=h
  rw [Int.toNat_natCast]
  intro L5 hL5
  have n5:=Ab.new (o:= .lst ((BR P S F b' S.ex.length).map V.int)) hL5
  have k5:upd H1 L5 (.lst ((BR P S F b' S.ex.length).map V.int)) L5=_:=Ah
  have s02:=sm0.trans n5
  generalize upd H1 L5 (.lst ((BR P S F b' S.ex.length).map V.int))=H2 at n5 k5 s02 ⊢
  have no8:=TY (P:=P) (S:=S) (F:=F) (b:=b') (k:=S.ex.length) x8
  have ll:=HY (P:=P) (S:=S) (F:=F) (b:=b') (k:=S.ex.length)
  refine⟨2,rfl,by decide,by decide,CN (n:=(2:Int).toNat) (λi σ H'=>(∃x6 x7,σ=[some v,some (.ref SA),some (.ref FA),some (.int b'),some (.int S.ex.length),some (.ref L5),x6,x7,none,none,none,none,none,none])/\Ab H2 H') ⟨⟨_,_,rfl⟩,Ab.refl _⟩ (λi σ H' hi h=>?_) fun σ H' h=>?_⟩
  ·obtain⟨⟨x6,x7,rfl⟩,sg⟩:=h
   have s2g:=s02.trans sg
   refine⟨p,P,S,F,b',rfl,tr.sm s2g,ke,hb,λL7 H3 s3 hL7 k7=>?_⟩
   have k53:=(sg.trans s3) _ _ k5
   refine⟨L7+1,_,Aa.lst (Nat.ne_of_lt (Nat.lt_succ_self _)) k7 JI,no8,L5+1,_,Aa.lst (Nat.ne_of_lt (Nat.lt_succ_self _)) k53 JI,no8,rfl,?_⟩
   rw [decide_eq_true rfl]
   refine⟨λc=>(by cases c),λ_=>⟨.inl ⟨rfl,_,Al.of k7⟩,L7,_,_,rfl,rfl,k7,Co (by rw [List.length_map];omega),⟨_,_,rfl⟩,?_⟩⟩
   exact FR (sg.trans s3) (Ek sg hL7)
  obtain⟨⟨x6,x7,rfl⟩,sg0⟩:=h
  have s2h:=s02.trans sg0
  refine⟨(S.ex.length:Int),rfl,by omega,by omega,CN (n:=((S.ex.length:Int)).toNat) (λi σ G=>(∃x8 x9 x10 x11 x12 x13,σ=[some v,some (.ref SA),some (.ref FA),some (.int b'),some (.int S.ex.length),some (.ref L5),x6,x7,x8,x9,x10,x11,x12,x13])/\Ab H' G) ⟨⟨_,_,_,_,_,_,rfl⟩,Ab.refl _⟩ (λi σ G hi h=>?_) fun σ G h=>q _ (s2h.trans h.2)⟩
  obtain⟨⟨x8',x9,x10,x11,x12,x13,rfl⟩,sgG⟩:=h
  have sg:=s2h.trans sgG
  have trg:=tr.sm sg
  have oo:OutOk P S F b' i:=⟨tr.ok,tr.so,tr.fo,ke,hb,by omega⟩
  have k5G:=(sg0.trans sgG) _ _ k5
  have hin:BO (.int (i:Int)) ((BR P S F b' S.ex.length).map V.int)=decide (AT (Ap P S F b' i)=none):=by
   rw [MV,decide_eq_decide];exact TW (by omega)
  refine⟨p,P,S,F,b',i,rfl,Int.zero_add _,trg,oo,λno G1 g1=>?_,λno G1 g1=>?_⟩
  ·refine⟨p,P,S,F,b',i,rfl,Int.zero_add _,trg.sm g1,oo,λt G2 g2 rt=>⟨_,_,rfl,?_⟩⟩
   have et:t= .non:=by
    unfold EU at rt
    cases z:AT (Ap P S F b' i) with
    | none=>exact absurd z no
    | some s0=>rw [z] at rt;unfold Aa at rt;exact rt
   subst et
   have sm1:=g1.trans g2
   have k52:=sm1 _ _ k5G
   refine⟨rfl,L5,_,rfl,.inl (Al.of k52),rfl,JH,rfl,?_⟩
   rw [Int.zero_add,hin,decide_eq_false no]
   refine⟨λc=>(by simp at c),λ_=>⟨rfl,rfl,rfl,⟨λc=>(by simp at c),λ_=>⟨rfl,⟨λc=>(by simp at c),λ_=>?_⟩⟩⟩⟩⟩
   intro L11 K1 t1 hL11 kL11
   refine⟨p,P,S,tr.ok,tr.so,Aa.ev (f (sm1.trans t1)) _ _ trg.r,Aa.ev (f (sm1.trans t1)) _ _ trg.ru,λcv K2 t2 rc2=>?_⟩
   obtain⟨CA,cx,rfl,hCA,rcs⟩:=Aa.firing (F:=caps P S) rc2
   have lcx:=rcs.len
   rw [List.length_map,BG] at lcx
   refine⟨(i:Int),rfl,CA,_,rfl,hCA,λc1 K3 t3 k3=>?_⟩
   rw [FQ] at k3
   have kL3:=(t2.trans t3) _ _ kL11
   have rc3:=Ac.drp (Ac.ev (f t3) _ _ rcs) i
   rw [<-List.map_drop] at rc3
   have t13:=t1.trans (t2.trans t3)
   refine⟨c1,rfl,⟨_,Ae.of k3⟩,Ih (xs:=cx.drop i) (λk σ H'=>(∃x12 x13,σ=[some v,some (.ref SA),some (.ref FA),some (.int b'),some (.int S.ex.length),some (.ref L5),x6,x7,some (.int (i:Int)),some V.non,some V.non,some (.ref L11),x12,x13])/\Ev L11 K3 H'/\∃ys,H' L11=some (.lst ys)/\ys.length=k/\Ac p H' (((((caps P S).drop i).map λr=>r.set b' 0).take k).map AN) ys) ⟨⟨_,_,rfl⟩,Ev.refl,[],kL3,rfl,.nil⟩ (λk σ H' _ h=>Ae.of (h.2.1.tup k3)) (λk x σ H' hx h=>?_) fun σ H' h=>?_⟩
   ·obtain⟨⟨x12,x13,rfl⟩,ev,ys,kl,ly,ry⟩:=h
    obtain⟨r0,hr0,rr0⟩:=Ac.mapGot rc3 hx
    obtain⟨ra,rfl,kra⟩:=Aa.ofRow rr0
    have kra':=ev.tup kra
    have hk:k<(cx.drop i).length:=(List.getElem?_eq_some_iff.mp hx).1
    rw [List.length_drop] at hk
    have hrl:r0.length=P.bs.length:=(DO (S:=S) tr.ok r0 (List.mem_of_mem_drop (List.mem_of_getElem? hr0))).2
    refine⟨.inl ⟨rfl,_,Al.of kl⟩,ra,rfl,⟨_,Ae.of kra'⟩,MW kra' (by omega) rfl λK4 t4=>λl5 hl5=>⟨l5,_,rfl,.inl ⟨Al.of Ah,λl6 hl6=>?_⟩⟩⟩
    have n5:=Ab.new (o:= .lst ((r0.set b' 0).map V.int)) hl5
    have n6:=Ab.new (o:= .tup ((r0.set b' 0).map V.int)) hl6
    have k6:upd (upd K4 l5 (.lst ((r0.set b' 0).map V.int))) l6 (.tup ((r0.set b' 0).map V.int)) l6=_:=Ah
    have t46:=t4.trans (n5.trans n6)
    generalize upd (upd K4 l5 (.lst ((r0.set b' 0).map V.int))) l6 (.tup ((r0.set b' 0).map V.int))=K6 at k6 t46 ⊢
    have kl6:=t46 _ _ kl
    refine⟨L11,_,_,rfl,rfl,kl6,Co (by omega),⟨_,_,rfl⟩,(ev.trans (Ev.same t46)).trans (Ev.pen kl6),_,Ah,by rw [List.length_append,ly];rfl,?_⟩
    have tv:=TEv.upd (zs:=ys++[.ref l6]) kl6
    have ei:(((caps P S).drop i).map λr=>r.set b' 0)[k]? =some (r0.set b' 0):=by rw [List.getElem?_map,hr0];rfl
    rw [Be ei,List.map_append]
    refine Ac.snoc (Ac.tev ((Ev.same (p:=p) t46).tev.trans tv) _ _ (DT λd hd=>?_) ry) (Aa.tev (p:=p) tv _ _ (DU _) (Aa.row k6))
    obtain⟨k',_,rfl⟩:=List.mem_map.mp hd
    exact DU _
   ·obtain⟨⟨x12,x13,rfl⟩,ev,ys,kl,ly,ry⟩:=h
    rw [List.take_of_length_le (by rw [List.length_map,List.length_drop,List.length_drop,BG];omega)] at ry
    rw [List.length_drop] at ly
    have sK:Ab G2 H':=Ab.evOwn t13 hL11 ev
    have trk:=trg.sm (sm1.trans sK)
    have sgk:=sg.trans (sm1.trans sK)
    have hFk:=sgk _ _ hF
    refine⟨(i:Int),rfl,FA,_,rfl,hFk,λf1 K7 t7 k7=>⟨L11,_,rfl,.inl ⟨Al.of (t7 _ _ kl),λl8 hl8=>?_⟩⟩⟩
    rw [HH (by omega)] at k7
    have n8:=Ab.new (o:= .tup ys) hl8
    refine⟨f1,l8,_,_,rfl,rfl,n8 _ _ k7,Ah,by rw [List.length_take];omega,λt9 K9 t9s k9=>?_⟩
    have t79:=t7.trans (n8.trans t9s)
    have rfull:Aa p K9 (FD (A7 P S F b' i)) (.ref t9):=by
     refine Aa.tup k9 ?_
     unfold A7
     rw [List.map_append,List.map_take]
     exact Ac.append (Ac.tkP (Ac.ev (f (sgk.trans t79)) _ _ rf) i) (Ac.ev (f t79) _ _ ry)
    refine⟨p,P,S,F,_,trk.sm t79,ke,by omega,by omega,by omega,by omega,rfull,λr K10 mv t10=>?_⟩
    rw [Int.toNat_natCast,Int.toNat_natCast] at mv
    have sfin:=sgk.trans (t79.trans t10)
    have er:r= .non:=by
     rcases mv with⟨G',eG,g1',g2',g3',g4',rfl⟩ | ⟨_,e⟩
     ·rw [<-ES eG] at g2'
      exact absurd ((JA oo).mp g2') no
     ·exact e
    subst er
    exact⟨rfl,rfl,rfl,⟨λc=>(by simp at c),λ_=>⟨rfl,⟨λc=>(by simp at c),λ_=>⟨λc=>(by cases c),λ_=>⟨⟨_,_,_,_,_,_,rfl⟩,sgG.trans (sm1.trans (sK.trans (t79.trans t10)))⟩⟩⟩⟩⟩⟩
  ·refine⟨p,P,S,F,b',i,rfl,Int.zero_add _,trg.sm g1,oo,λt G2 g2 rt=>⟨_,_,rfl,?_⟩⟩
   unfold EU at rt
   rw [no] at rt
   have rt':Aa p G2 (FD (AZ P S F b' i)) t:=rt
   obtain⟨TA,xt,rfl,_,_⟩:=Aa.firing rt'
   have sm1:=g1.trans g2
   have k52:=sm1 _ _ k5G
   refine⟨rfl,L5,_,rfl,.inl (Al.of k52),rfl,JH,rfl,?_⟩
   rw [Int.zero_add,hin,decide_eq_true no]
   refine⟨λc=>(by simp at c),λ_=>⟨rfl,rfl,rfl,⟨λc=>(by simp at c),λ_=>⟨rfl,⟨λ_=>?_,λc=>(by simp at c)⟩⟩⟩⟩⟩
   refine⟨p,P,S,F,_,trg.sm sm1,ke,by omega,by omega,by omega,by omega,rt',λr G3 mv g3=>?_⟩
   rw [Int.toNat_natCast,Int.toNat_natCast] at mv
   have er:r= .int (Dl P S F b' i):=by
    rcases mv with⟨G',eG,g1',g2',g3',g4',rfl⟩ | ⟨no2,_⟩
    ·rw [<-ES eG,MH oo no]
    ·exact absurd ⟨_,rfl,MD oo no,Tp oo no,(MN oo no).1,(MN oo no).2⟩ no2
   subst er
   have sm2:=sm1.trans g3
   refine⟨rfl,⟨λc=>(by simp at c),λ_=>?_⟩⟩
   intro L11 K1 t1 hL11 kL11
   refine⟨p,P,S,tr.ok,tr.so,Aa.ev (f (sm2.trans t1)) _ _ trg.r,Aa.ev (f (sm2.trans t1)) _ _ trg.ru,λcv K2 t2 rc2=>?_⟩
   obtain⟨CA,cx,rfl,hCA,rcs⟩:=Aa.firing (F:=caps P S) rc2
   have lcx:=rcs.len
   rw [List.length_map,BG] at lcx
   refine⟨(i:Int),rfl,CA,_,rfl,hCA,λc1 K3 t3 k3=>?_⟩
   rw [FQ] at k3
   have kL3:=(t2.trans t3) _ _ kL11
   have rc3:=Ac.drp (Ac.ev (f t3) _ _ rcs) i
   rw [<-List.map_drop] at rc3
   have t13:=t1.trans (t2.trans t3)
   refine⟨c1,rfl,⟨_,Ae.of k3⟩,Ih (xs:=cx.drop i) (λk σ H'=>(∃x12 x13,σ=[some v,some (.ref SA),some (.ref FA),some (.int b'),some (.int S.ex.length),some (.ref L5),x6,x7,some (.int (i:Int)),some (V.int (Dl P S F b' i)),some (V.ref TA),some (.ref L11),x12,x13])/\Ev L11 K3 H'/\∃ys,H' L11=some (.lst ys)/\ys.length=k/\Ac p H' (((((caps P S).drop i).map λr=>r.set b' 0).take k).map AN) ys) ⟨⟨_,_,rfl⟩,Ev.refl,[],kL3,rfl,.nil⟩ (λk σ H' _ h=>Ae.of (h.2.1.tup k3)) (λk x σ H' hx h=>?_) fun σ H' h=>?_⟩
   ·obtain⟨⟨x12,x13,rfl⟩,ev,ys,kl,ly,ry⟩:=h
    obtain⟨r0,hr0,rr0⟩:=Ac.mapGot rc3 hx
    obtain⟨ra,rfl,kra⟩:=Aa.ofRow rr0
    have kra':=ev.tup kra
    have hk:k<(cx.drop i).length:=(List.getElem?_eq_some_iff.mp hx).1
    rw [List.length_drop] at hk
    have hrl:r0.length=P.bs.length:=(DO (S:=S) tr.ok r0 (List.mem_of_mem_drop (List.mem_of_getElem? hr0))).2
    refine⟨.inl ⟨rfl,_,Al.of kl⟩,ra,rfl,⟨_,Ae.of kra'⟩,MW kra' (by omega) rfl λK4 t4=>λl5 hl5=>⟨l5,_,rfl,.inl ⟨Al.of Ah,λl6 hl6=>?_⟩⟩⟩
    have n5:=Ab.new (o:= .lst ((r0.set b' 0).map V.int)) hl5
    have n6:=Ab.new (o:= .tup ((r0.set b' 0).map V.int)) hl6
    have k6:upd (upd K4 l5 (.lst ((r0.set b' 0).map V.int))) l6 (.tup ((r0.set b' 0).map V.int)) l6=_:=Ah
    have t46:=t4.trans (n5.trans n6)
    generalize upd (upd K4 l5 (.lst ((r0.set b' 0).map V.int))) l6 (.tup ((r0.set b' 0).map V.int))=K6 at k6 t46 ⊢
    have kl6:=t46 _ _ kl
    refine⟨L11,_,_,rfl,rfl,kl6,Co (by omega),⟨_,_,rfl⟩,(ev.trans (Ev.same t46)).trans (Ev.pen kl6),_,Ah,by rw [List.length_append,ly];rfl,?_⟩
    have tv:=TEv.upd (zs:=ys++[.ref l6]) kl6
    have ei:(((caps P S).drop i).map λr=>r.set b' 0)[k]? =some (r0.set b' 0):=by rw [List.getElem?_map,hr0];rfl
    rw [Be ei,List.map_append]
    refine Ac.snoc (Ac.tev ((Ev.same (p:=p) t46).tev.trans tv) _ _ (DT λd hd=>?_) ry) (Aa.tev (p:=p) tv _ _ (DU _) (Aa.row k6))
    obtain⟨k',_,rfl⟩:=List.mem_map.mp hd
    exact DU _
   ·obtain⟨⟨x12,x13,rfl⟩,ev,ys,kl,ly,ry⟩:=h
    rw [List.take_of_length_le (by rw [List.length_map,List.length_drop,List.length_drop,BG];omega)] at ry
    rw [List.length_drop] at ly
    have sK:Ab G3 H':=Ab.evOwn t13 hL11 ev
    have trk:=trg.sm (sm2.trans sK)
    have sgk:=sg.trans (sm2.trans sK)
    have hFk:=sgk _ _ hF
    refine⟨(i:Int),rfl,FA,_,rfl,hFk,λf1 K7 t7 k7=>⟨L11,_,rfl,.inl ⟨Al.of (t7 _ _ kl),λl8 hl8=>?_⟩⟩⟩
    rw [HH (by omega)] at k7
    have n8:=Ab.new (o:= .tup ys) hl8
    refine⟨f1,l8,_,_,rfl,rfl,n8 _ _ k7,Ah,by rw [List.length_take];omega,λt9 K9 t9s k9=>?_⟩
    have t79:=t7.trans (n8.trans t9s)
    have rfull:Aa p K9 (FD (A7 P S F b' i)) (.ref t9):=by
     refine Aa.tup k9 ?_
     unfold A7
     rw [List.map_append,List.map_take]
     exact Ac.append (Ac.tkP (Ac.ev (f (sgk.trans t79)) _ _ rf) i) (Ac.ev (f t79) _ _ ry)
    refine⟨p,P,S,F,_,trk.sm t79,ke,by omega,by omega,by omega,by omega,rfull,λr K10 mv t10=>?_⟩
    rw [Int.toNat_natCast,Int.toNat_natCast] at mv
    have sfin:=sgk.trans (t79.trans t10)
    have er:r= .int (ET F (A7 P S F b' i) b' i S.ex.length P.bs.length):=by
     rcases mv with⟨G',eG,g1',g2',g3',g4',rfl⟩ | ⟨no2,_⟩
     ·rw [<-ES eG]
     ·exact absurd ⟨_,rfl,Tt oo,(JA oo).mpr no,(MM oo).1,(MM oo).2⟩ no2
    subst er
    have le:=Tv oo no
    exact⟨rfl,rfl,rfl,⟨λc=>(by simp at c),λ_=>⟨rfl,⟨λ_=>⟨λc=>absurd (of_decide_eq_true c) (by omega),λ_=>⟨⟨_,_,_,_,_,_,rfl⟩,sgG.trans (sm2.trans (sK.trans (t79.trans t10)))⟩⟩,λc=>(by simp at c)⟩⟩⟩⟩
 ·exact h.elim
end
end MF
end
section
namespace MF
open PySem PySem.Spec PyProof.Rows L2
theorem T7 {n:Nat} (h:n<=1000):n<=sizeLine:=Nat.le_trans h (by decide)
theorem T8 {xs:List V}{lo hi:Option Int}{v:V} (h:v∈Bn xs lo hi):v∈xs:=by unfold Bn at h;exact List.mem_of_mem_drop (List.mem_of_mem_take h)
def P0:PL:=⟨[(2,1),(2,9)],[],0,2,0⟩
def S0:SY:=⟨[0,4,0],[]⟩
def F0:List (List Int):=[[0,0],[2,2],[0,0]]
theorem JJ:P0.ok:=⟨by decide,by decide,by decide,by decide,by decide,by decide,by decide,by decide,by decide⟩
theorem JK:S0.ok P0.bs.length:=⟨by decide,by decide,by decide,by decide,λx hx=>(nomatch hx)⟩
theorem MX:∀i,i<3->(F0.getD i []).length=2/\∀j,j<2->0<=(F0.getD i []).getD j 0/\(F0.getD i []).getD j 0<=(AS P0.bs S0.fs ((i:Nat):Int)).getD j 0:=by decide+kernel
theorem JL:FOk P0 S0 F0:=by
 refine⟨rfl,λi r e=>?_,λi r j x c e hx hc=>?_⟩
 ·have hi:=(List.getElem?_eq_some_iff.mp e).1
  have:=(MX i hi).1
  rw [List.getD_eq_getElem?_getD,e] at this
  exact this
 ·have hi:=(List.getElem?_eq_some_iff.mp e).1
  have k:=MX i hi
  rw [List.getD_eq_getElem?_getD,e] at k
  have hj:j<2:=by have:=(List.getElem?_eq_some_iff.mp hx).1;have:=k.1;simp at this;omega
  have:=k.2 j hj
  rw [List.getD_eq_getElem?_getD (l:=(some r).getD []),List.getD_eq_getElem?_getD (l:=AS P0.bs S0.fs (i:Int)),hc] at this
  simp only [Option.getD_some] at this
  rw [hx] at this
  exact this
theorem MY:BC P0 S0 F0:=by unfold BC;decide+kernel
theorem T9:BR P0 S0 F0 0 S0.ex.length=[0,2]:=by decide+kernel
theorem Ua:AT (Ap P0 S0 F0 0 0)=none:=by decide+kernel
theorem Ub:Dl P0 S0 F0 0 0=2:=by decide+kernel
def sp_lawP (K:PySem.W.Frag):Sp:=λvs H Q _=>match vs with | [.ref a]=>∃ns:List Int,Al K H a (ns.map V.int)/\ns.length<=63/\∀H',Q (.bl true) H' | _=>False
theorem Uc {K vs H Q E} (h:sp_lawP K vs H Q E):vs.length=1:=by unfold sp_lawP at h;split at h;rfl;exact h.elim
section
variable {P : Program} {w : World} {K : PySem.W.Frag} {mg : Str -> Option Value} {base : Heap}
theorem sc_law:AB ["_law_script","_law_plant_here","_law_cell_here","_law_pen_here","_law_turn","_law_story_here","_law_firing","_law_boiler"] ["_law_script"] (Au s_law):=AG
theorem Ud {lf:Addr}{lfd:FuncData} (F:Ea K "law" "law" s_law lf lfd) (T:Tx mg) (D__law_cell:Fn P w K mg base 1 "_law_cell" ["_law_script","_law_k"] (Hd K)) (D__law_kept_firing:Fn P w K mg base 3 "_law_kept_firing" ["_law_pen_here","_law_plant_here","_law_story_here"] HA) (D__law_pair:Fn P w K mg base 3 "_law_pair" ["_law_pen_here","_law_most","_law_hours"] Hy) (D__law_pen:Fn P w K mg base 1 "_law_pen" ["_law_cell_here"] He) (D__law_right:Fn P w K mg base 19 "_law_right" ["_law_plant_here","_law_story_here","_law_firing","_law_boiler"] HZ) (D_least_moved:Fn P w K mg base 18 "least_moved" ["plant","story","firing","boiler","hour"] FP) (D_outs_let:Fn P w K mg base 18 "outs_let" ["plant","story","firing","boiler"] FS):C0 P w K mg base CX0 20 lf lfd ["_law_script"] (sp_lawP K):=by
 refine F.ok sc_law (λvs H Q E h=>?_) (λcdv A outer s H vs Q E hr h=>?_)
 ·exact Uc h
 refine⟨_,(@Ai _ _ _ _ _ (@AI _ _ (1) _ _ _ _ sc_law.nd rfl (Az (by rfl)) (@By _ _ _ _ _ (@AC _ _ _ _ _ _ _ (@By _ _ _ _ _ (@Ao _ _ _ _ _ (@By _ _ _ _ _ (@Ao _ _ _ _ _ (@Af _ _ _ _) (@Af _ _ _ _) (by rfl))) (@By _ _ _ _ _ (@Ao _ _ _ _ _ (@Af _ _ _ _) (@Af _ _ _ _) (by rfl))) (by rfl))) (@By _ _ _ _ _ (@Cc _)) (@By _ _ _ _ _ (@AC _ _ _ _ _ _ _ (@Af _ _ _ _) (@Af _ _ _ _) (@Af _ _ _ _) (by rfl))) (by rfl))) (by rfl) (AA (by rfl))) (@Ai _ _ _ _ _ (@A9 _ _ _ _ _ _ _ _ (@AU _ _ _ _ _ _ _ _ (@Pc _ hr.units0) (@Aj _ _ _ _ _ _ _ _ _ _ D_outs_let (hr.mono (by decide)) rfl (@Bi _ _ _ _ _ _ _ _ _ (@cx _ 1 _ _ (by rfl)) (@By _ _ _ _ _ (@Ao _ _ _ _ _ (@By _ _ _ _ _ (@AC _ _ _ _ _ _ _ (@Af _ _ _ _) (@Af _ _ _ _) (@Af _ _ _ _) (by rfl))) (@By _ _ _ _ _ (@Cc _)) (by rfl))) (@By _ _ _ _ _ (@AC _ _ _ _ _ _ _ (@By _ _ _ _ _ (@Ao _ _ _ _ _ (@Af _ _ _ _) (@Af _ _ _ _) (by rfl))) (@By _ _ _ _ _ (@Ao _ _ _ _ _ (@Af _ _ _ _) (@Af _ _ _ _) (by rfl))) (@By _ _ _ _ _ (@Ao _ _ _ _ _ (@Af _ _ _ _) (@Af _ _ _ _) (by rfl))) (by rfl))) (@Af _ _ _ _) (by rfl)) (by decide) (by rfl) (by rfl)) (@Dv _ _ _ _ (@Ao _ _ _ _ _ (@Af _ _ _ _) (@Af _ _ _ _) (by rfl))) (AO _)) (@An _ _ _ (@Aw _ _ _ _ (@Ch _ _ _ _))) (@A8 _)) (@Ai _ _ _ _ _ (@A9 _ _ _ _ _ _ _ _ (@AU _ _ _ _ _ _ _ _ (@Di _) (@Aj _ _ _ _ _ _ _ _ _ _ D_least_moved (hr.mono (by decide)) rfl (@Ci _ _ _ _ _ (@cx _ 1 _ _ (by rfl)) (@Bi _ _ _ _ _ _ _ _ _ (@By _ _ _ _ _ (@Ao _ _ _ _ _ (@By _ _ _ _ _ (@AC _ _ _ _ _ _ _ (@Af _ _ _ _) (@Af _ _ _ _) (@Af _ _ _ _) (by rfl))) (@By _ _ _ _ _ (@Cc _)) (by rfl))) (@By _ _ _ _ _ (@AC _ _ _ _ _ _ _ (@By _ _ _ _ _ (@Ao _ _ _ _ _ (@Af _ _ _ _) (@Af _ _ _ _) (by rfl))) (@By _ _ _ _ _ (@Ao _ _ _ _ _ (@Af _ _ _ _) (@Af _ _ _ _) (by rfl))) (@By _ _ _ _ _ (@Ao _ _ _ _ _ (@Af _ _ _ _) (@Af _ _ _ _) (by rfl))) (by rfl))) (@Af _ _ _ _) (@Af _ _ _ _) (by rfl)) (by rfl)) (by decide) (by rfl) (by rfl)) (@Af _ _ _ _) (AO _)) (@An _ _ _ (@Aw _ _ _ _ (@Ch _ _ _ _))) (@A8 _)) (@Ai _ _ _ _ _ (@Bu _ _ _ _ _ _ _ _ PassesOwn.never rfl (@Gs _ K _ _ _ (@At _ _ _ _ _ _ _ _ (@GF _) (@Dv _ _ _ _ (@Am _ _ _ (@Aj _ _ _ _ _ _ _ _ _ _ D__law_cell (hr.mono (by decide)) rfl (@Ao _ _ _ _ _ (@cx _ 0 _ _ (by rfl)) (@Af _ _ _ _) (by rfl)) (by decide) (by rfl) (by rfl)) (by rfl))) (@BN _ _ _ _ _ _ _ _ _ _ (@Ph _ K (by rfl)) (@cx _ 0 _ _ (by rfl)) (@BA _ _ _ (@Af _ _ _ _)) (@BA _ _ _ (@Af _ _ _ _)))) (by rfl)) (@Ag _ _ _ 2 sc_law.nd (by rfl)) (@Ai _ _ _ _ _ (@AI _ _ (3) _ _ _ _ sc_law.nd rfl (Az (by rfl)) (@Aj _ _ _ _ _ _ _ _ _ _ D__law_pen (hr.mono (by decide)) rfl (@Am _ _ _ (@cx _ 2 _ _ (by rfl)) (by rfl)) (by decide) (by rfl) (by rfl)) (by rfl) (AA (by rfl))) (@An _ _ _ (@Bu _ _ _ _ _ _ _ _ PassesOwn.never rfl (@Cb _ _ _ _ _ _ rfl T.b_range (@Am _ _ _ (@Af _ _ _ _) (by rfl)) (by rfl)) (@Ag _ _ _ 4 sc_law.nd (by rfl)) (@Ai _ _ _ _ _ (@Bl _ _ _ _ _ _ (@Aj _ _ _ _ _ _ _ _ _ _ D__law_pair (hr.mono (by decide)) rfl (@AC _ _ _ _ _ _ _ (@cx _ 3 _ _ (by rfl)) (@Af _ _ _ _) (@Af _ _ _ _) (by rfl)) (by decide) (by rfl) (by rfl)) (@AL _ K _ _ _ (2) _ (@Ak _ _ _ _ _ (@Ag _ _ _ 1 sc_law.nd (by rfl)) (@Ak _ _ _ _ _ (@Ag _ _ _ 5 sc_law.nd (by rfl)) (@AK _) (by rfl)) (by rfl)) (by rfl) (by rfl) (by rfl) (by rfl)) (by rfl) (by rfl) (by rfl)) (@Ai _ _ _ _ _ (@AI _ _ (6) _ _ _ _ sc_law.nd rfl (Az (by rfl)) (@Aj _ _ _ _ _ _ _ _ _ _ D__law_kept_firing (hr.mono (by decide)) rfl (@AC _ _ _ _ _ _ _ (@cx _ 3 _ _ (by rfl)) (@cx _ 1 _ _ (by rfl)) (@cx _ 5 _ _ (by rfl)) (by rfl)) (by decide) (by rfl) (by rfl)) (by rfl) (AA (by rfl))) (@An _ _ _ (@Bu _ _ _ _ _ _ _ _ PassesOwn.never rfl (@Cb _ _ _ _ _ _ rfl T.b_range (@Am _ _ _ (@AE _ _ _ _ _ _ _ _ _ (@Bx _ K (by rfl)) rfl T.b_len PySem.boot_len (@Am _ _ _ (@AF _ _ _ _ _ _ _ (@AW _ K (by rfl)) (@cx _ 1 _ _ (by rfl)) (@Af _ _ _ _) (λ_ _=>rfl)) (by rfl)) (by decide) (by decide) (by rfl) (by rfl)) (by rfl)) (by rfl)) (@Ag _ _ _ 7 sc_law.nd (by rfl)) (@An _ _ _ (@A9 _ _ _ _ _ _ _ _ (@Ca _ _ _ _ (@BP _ _ _ (@Aj _ _ _ _ _ _ _ _ _ _ D__law_right (hr.mono (by decide)) rfl (@Bi _ _ _ _ _ _ _ _ _ (@cx _ 1 _ _ (by rfl)) (@cx _ 5 _ _ (by rfl)) (@cx _ 6 _ _ (by rfl)) (@cx _ 7 _ _ (by rfl)) (by rfl)) (by decide) (by rfl) (by rfl)) (by intro _;rfl))) (@An _ _ _ (@Aw _ _ _ _ (@Ch _ _ _ _))) (@A8 _))) (by intro _;rfl))))) (by intro _;rfl)))) (by intro _;rfl)) (@An _ _ _ (@Aw _ _ _ _ (@Ch _ _ _ _))))))),?_⟩
 unfold sp_lawP at h
 split at h
 ·rename_i a
  obtain⟨ns,hS,hn63,q⟩:=h
  refine λt1 A1 a1 k1=>λt2 A2 a2 k2=>λt3 A3 a3 k3=>λt4 A4 a4 k4=>λt5 A5 a5 k5=>λt6 A6 a6 k6=>?_
  have rP:Aa a A6 P0.d (.ref t6):=Aa.tup k6 (.cons (Aa.tup ((a4.trans (a5.trans a6)) _ _ k3) (.cons (Aa.tup ((a2.trans (a3.trans (a4.trans (a5.trans a6)))) _ _ k1) (.cons Aa.int (.cons Aa.int .nil))) (.cons (Aa.tup ((a3.trans (a4.trans (a5.trans a6))) _ _ k2) (.cons Aa.int (.cons Aa.int .nil))) .nil))) (.cons (Aa.tup ((a5.trans a6) _ _ k4) .nil) (.cons (Aa.tup (a6 _ _ k5) (.cons Aa.int (.cons Aa.int (.cons Aa.int .nil)))) .nil)))
  have sA6:=a1.trans (a2.trans (a3.trans (a4.trans (a5.trans a6))))
  refine λb1 B1 c1 m1=>λb2 B2 c2 m2=>λb3 B3 c3 m3=>λb4 B4 c4 m4=>λb5 B5 c5 m5=>λb6 B6 c6 m6=>λb7 B7 c7 m7=>?_
  have rS:Aa a B7 S0.d (.ref b3):=Aa.tup ((c4.trans (c5.trans (c6.trans c7))) _ _ m3) (.cons (Aa.tup ((c2.trans (c3.trans (c4.trans (c5.trans (c6.trans c7))))) _ _ m1) (.cons Aa.int (.cons Aa.int (.cons Aa.int .nil)))) (.cons (Aa.tup ((c3.trans (c4.trans (c5.trans (c6.trans c7)))) _ _ m2) .nil) .nil))
  have rF:Aa a B7 (FD F0) (.ref b7):=Aa.tup m7 (.cons (Aa.tup ((c5.trans (c6.trans c7)) _ _ m4) (.cons Aa.int (.cons Aa.int .nil))) (.cons (Aa.tup ((c6.trans c7) _ _ m5) (.cons Aa.int (.cons Aa.int .nil))) (.cons (Aa.tup (c7 _ _ m6) (.cons Aa.int (.cons Aa.int .nil))) .nil)))
  have sB7:=c1.trans (c2.trans (c3.trans (c4.trans (c5.trans (c6.trans c7)))))
  refine⟨a,P0,S0,F0,0,rfl,⟨JJ,JK,JL,Aa.ev (Ev.same sB7) _ _ rP,rS,rF⟩,MY,by decide,λL8 B8 c8 hL8 m8=>λL9 B9 c9 hL9 m9=>?_⟩
  rw [T9] at m8
  refine⟨L8,L9,[0,2],[0,2],rfl,rfl,c9 _ _ m8,m9,rfl,⟨λc=>(by simp at c),λ_=>?_⟩⟩
  have sB9:=sB7.trans (c8.trans c9)
  have rP9:=Aa.ev (Ev.same sB9) _ _ rP
  refine λb1 D1 e1 m1'=>λb2' D2 e2 m2'=>λb3' D3 e3 m3'=>λb4' D4 e4 m4'=>λb5' D5 e5 m5'=>λb6' D6 e6 m6'=>λb7' D7 e7 m7'=>?_
  have rS':Aa a D7 S0.d (.ref b3'):=Aa.tup ((e4.trans (e5.trans (e6.trans e7))) _ _ m3') (.cons (Aa.tup ((e2.trans (e3.trans (e4.trans (e5.trans (e6.trans e7))))) _ _ m1') (.cons Aa.int (.cons Aa.int (.cons Aa.int .nil)))) (.cons (Aa.tup ((e3.trans (e4.trans (e5.trans (e6.trans e7)))) _ _ m2') .nil) .nil))
  have rF':Aa a D7 (FD F0) (.ref b7'):=Aa.tup m7' (.cons (Aa.tup ((e5.trans (e6.trans e7)) _ _ m4') (.cons Aa.int (.cons Aa.int .nil))) (.cons (Aa.tup ((e6.trans e7) _ _ m5') (.cons Aa.int (.cons Aa.int .nil))) (.cons (Aa.tup (e7 _ _ m6') (.cons Aa.int (.cons Aa.int .nil))) .nil)))
  have sD7:=e1.trans (e2.trans (e3.trans (e4.trans (e5.trans (e6.trans e7)))))
  refine⟨a,P0,S0,F0,0,0,rfl,rfl,⟨JJ,JK,JL,Aa.ev (Ev.same sD7) _ _ rP9,rS',rF'⟩,⟨JJ,JK,JL,MY,by decide,by decide⟩,λz=>absurd Ua z,λ_ D8 e8=>?_⟩
  rw [Ub]
  refine⟨rfl,⟨λc=>(by simp at c),λ_=>?_⟩⟩
  have sT:=sA6.trans (sB9.trans (sD7.trans e8))
  have hS:Al K D8 a (ns.map V.int):=sT.seq hS
  refine⟨ns,hS,by decide,λc0 l1 H01 s01 hl1 k01=>?_⟩
  have hS1:Al K H01 a (ns.map V.int):=s01.seq hS
  refine⟨1,rfl,2,rfl,a,_,rfl,hS1,λl2 hl2=>?_⟩
  have lc:(Bn (ns.map V.int) (some 1) (some 2)).length<=63:=Nat.le_trans (F9 _ _ _) (by rw [List.length_map];exact hn63)
  refine⟨l1,l2,[.int c0],_,rfl,rfl,(Ab.new hl2) _ _ k01,Ah,T7 (by rw [List.length_singleton];omega),λL H02 s02 hL kL=>?_⟩
  have allI:∀v∈ [V.int c0]++Bn (ns.map V.int) (some 1) (some 2),∃i,v= .int i:=λv hv=>by
   rcases List.mem_append.mp hv with hv | hv
   ·exact⟨c0,List.mem_singleton.mp hv⟩
   ·obtain⟨i,_,e⟩:=List.mem_map.mp (T8 hv);exact⟨i,e.symm⟩
  generalize [V.int c0]++Bn (ns.map V.int) (some 1) (some 2)=xs at allI kL
  refine⟨L,rfl,⟨xs,Al.of kL⟩,NE (xs:=xs) (λi σ H'=>(∃x1 x2 x3 x4 x5 x6 x7,σ=[some (.ref a),x1,x2,x3,x4,x5,x6,x7])/\H' L=some (.lst xs)) ⟨⟨_,_,_,_,_,_,_,rfl⟩,kL⟩ (λi σ H' _ h=>Al.of h.2) (λi x σ H1 hx h=>?_) fun σ H1 h=>q H1⟩
  obtain⟨⟨x1,x2,x3,x4,x5,x6,x7,rfl⟩,hL1⟩:=h
  obtain⟨c,rfl⟩:=allI x (List.mem_of_getElem? hx)
  refine λp l f hp=>?_
  have nLp:L≠p:=Bh hL1 hp
  have np:=Ab.new (o:= .lst [.int l,.int f]) hp
  have pn2:Bc p (upd H1 p (.lst [.int l,.int f])):=⟨l,f,Ah⟩
  have hL2:=np _ _ hL1
  generalize upd H1 p (.lst [.int l,.int f])=H2 at np pn2 hL2 ⊢
  refine⟨2,rfl,by decide,by decide,CN (n:=2) (λi σ H'=>(∃x1 x4 x5 x6 x7,σ=[some (.ref a),x1,some (.int c),some (.ref p),x4,x5,x6,x7])/\H' L=some (.lst xs)/\Bc p H') ⟨⟨_,_,_,_,_,rfl⟩,hL2,pn2⟩ (λi0 σ H' hi h=>?_) fun σ H' h=>?_⟩
  ·obtain⟨⟨x1,x4,x5,x6,x7,rfl⟩,hL3,pn3⟩:=h
   refine⟨pn3,by decide,by decide,by decide,by decide,λt H3 P S v u ok so ke ht rv ru e3 pn4=>?_⟩
   refine⟨t,_,rfl,Ae.of ht,rfl,_,_,rfl,_,_,rfl,rfl,?_⟩
   refine⟨pn4,P,S,ok,so,ke,rv,ru,λw H4 F fo kF rw4 e4 pn5=>?_⟩
   have b4:=ok.b4
   obtain⟨PA,PB,PE',PM,xb,xe,rfl,pA,pB,rb,pE,re,pM⟩:=Aa.plant (Aa.ev e4 _ _ rv)
   have rv4:=Aa.ev e4 _ _ rv
   have ru4:=Aa.ev e4 _ _ ru
   have lb:=rb.len
   rw [List.length_map] at lb
   have hL4:=(e3.trans e4).lst hL3 nLp
   refine⟨PA,_,0,_,rfl,rfl,Ae.of pA,rfl,PB,_,rfl,.inr (Ae.of pB),?_⟩
   rw [<-lb]
   refine⟨(P.bs.length:Int),rfl,by omega,by omega,CN (n:=((P.bs.length:Int)).toNat) (λi σ G=>(∃x7,σ=[some (.ref a),some (.ref PA),some (.int c),some (.ref p),some (.int (0+(i0:Int))),some u,some w,x7])/\Ab H4 G) ⟨⟨_,rfl⟩,Ab.refl _⟩ (λi σ G hi' h=>?_) fun σ G h=>?_⟩
   ·obtain⟨⟨y7,rfl⟩,sg⟩:=h
    have tri:Tri p G P S F (.ref PA) u w:=⟨ok,so,fo,Aa.ev (Ev.same sg) _ _ rv4,Aa.ev (Ev.same sg) _ _ ru4,Aa.ev (Ev.same sg) _ _ rw4⟩
    refine⟨p,P,S,F,i,Int.zero_add _,tri,kF,by omega,λG3 sg3=>?_⟩
    exact⟨λz=>(by cases z),λ_=>⟨⟨_,rfl⟩,sg.trans sg3⟩⟩
   ·obtain⟨⟨y7,rfl⟩,sg⟩:=h
    exact⟨⟨_,_,_,_,_,rfl⟩,sg _ _ hL4,pn5.same sg⟩
  ·obtain⟨⟨x1,x4,x5,x6,x7,rfl⟩,hL3,pn3⟩:=h
   exact⟨⟨_,_,_,_,_,_,_,rfl⟩,hL3⟩
 ·exact h.elim
end
end MF
end
section
namespace MF
open PySem PySem.Spec PyProof.Rows L2
variable {h : Heap} {p0 p1 p2 p3 p4 : Str}
abbrev D4 (K:PySem.W.Frag) (x:Str) (st:Stmt):Prop:=∃(f:Addr) (oc:Value) (od an:Option Addr) (sl:Array (Option Value)) (kV dc pm cd ct:Value),PySem.W.nsIn K mainGlobals x=some (some (.ref f))/\K.lookup f=some ⟨oc,od,.func (PySem.W.fnOf x x (Ck st) (BW st) (Au st) .none kV dc pm an cd ct),sl⟩/\PySem.W.codeIn K cd x=true/\PySem.W.keepIn K (.ref f)=true
theorem d4_mk {K:PySem.W.Frag}{x:Str}{st:Stmt}{f:Addr}{oc:Value}{od an:Option Addr}{sl:Array (Option Value)}{kV dc pm cd ct:Value} (a:PySem.W.nsIn K mainGlobals x=some (some (.ref f))) (l:K.lookup f=some ⟨oc,od,.func (PySem.W.fnOf x x (Ck st) (BW st) (Au st) .none kV dc pm an cd ct),sl⟩) (c:PySem.W.codeIn K cd x=true) (k:PySem.W.keepIn K (.ref f)=true):D4 K x st:=⟨_,_,_,_,_,_,_,_,_,_,a,l,c,k⟩
theorem EW {K:PySem.W.Frag}{mg:Str->Option Value}{x:Str}{st:Stmt}{ps:List Str} (X:K.In h) (G:h.Ns mainGlobals mg) (d:D4 K x st)
  (hb:∀(kV doc pm:Value) (an:Option Addr) (cdv ct:Value) (us:List Value),us.length=ps.length->bindArgs (PySem.W.fnOf x x (Ck st) (BW st) (Au st) .none kV doc pm an cdv ct) ⟨us,[]⟩=pure (ps.zip us)):Df K mg x st ps:=by
 obtain⟨f,_,_,_,_,_,_,_,_,_,a,l,c,k⟩:=d
 exact⟨f,_,Ip l c k,PySem.W.mg_of X G a,(Ip l c k).binds hb⟩
theorem De {K:PySem.W.Frag}{mg:Str->Option Value}{x:Str}{st:Stmt} (X:K.In h) (G:h.Ns mainGlobals mg) (d:D4 K x st) (hb:∀(kV doc pm:Value) (an:Option Addr) (cdv ct a0:Value),bindArgs (PySem.W.fnOf x x (Ck st) (BW st) (Au st) .none kV doc pm an cdv ct) ⟨[a0],[]⟩=pure ([p0].zip [a0]):=by intros;rfl):Df K mg x st [p0]:=
 EW X G d λ_ _ _ _ _ _ us hl=>match us,hl with | [_],_=>hb _ _ _ _ _ _ _
theorem BV {K:PySem.W.Frag}{mg:Str->Option Value}{x:Str}{st:Stmt} (X:K.In h) (G:h.Ns mainGlobals mg) (d:D4 K x st) (hb:∀(kV doc pm:Value) (an:Option Addr) (cdv ct a0 a1:Value),bindArgs (PySem.W.fnOf x x (Ck st) (BW st) (Au st) .none kV doc pm an cdv ct) ⟨[a0,a1],[]⟩=pure ([p0,p1].zip [a0,a1]):=by intros;rfl):Df K mg x st [p0,p1]:=
 EW X G d λ_ _ _ _ _ _ us hl=>match us,hl with | [_,_],_=>hb _ _ _ _ _ _ _ _
theorem BS {K:PySem.W.Frag}{mg:Str->Option Value}{x:Str}{st:Stmt} (X:K.In h) (G:h.Ns mainGlobals mg) (d:D4 K x st) (hb:∀(kV doc pm:Value) (an:Option Addr) (cdv ct a0 a1 a2:Value),bindArgs (PySem.W.fnOf x x (Ck st) (BW st) (Au st) .none kV doc pm an cdv ct) ⟨[a0,a1,a2],[]⟩=pure ([p0,p1,p2].zip [a0,a1,a2]):=by intros;rfl):Df K mg x st [p0,p1,p2]:=
 EW X G d λ_ _ _ _ _ _ us hl=>match us,hl with | [_,_,_],_=>hb _ _ _ _ _ _ _ _ _
theorem FU {K:PySem.W.Frag}{mg:Str->Option Value}{x:Str}{st:Stmt} (X:K.In h) (G:h.Ns mainGlobals mg) (d:D4 K x st) (hb:∀(kV doc pm:Value) (an:Option Addr) (cdv ct a0 a1 a2 a3:Value),bindArgs (PySem.W.fnOf x x (Ck st) (BW st) (Au st) .none kV doc pm an cdv ct) ⟨[a0,a1,a2,a3],[]⟩=pure ([p0,p1,p2,p3].zip [a0,a1,a2,a3]):=by intros;rfl):Df K mg x st [p0,p1,p2,p3]:=
 EW X G d λ_ _ _ _ _ _ us hl=>match us,hl with | [_,_,_,_],_=>hb _ _ _ _ _ _ _ _ _ _
theorem Ia {K:PySem.W.Frag}{mg:Str->Option Value}{x:Str}{st:Stmt} (X:K.In h) (G:h.Ns mainGlobals mg) (d:D4 K x st) (hb:∀(kV doc pm:Value) (an:Option Addr) (cdv ct a0 a1 a2 a3 a4:Value),bindArgs (PySem.W.fnOf x x (Ck st) (BW st) (Au st) .none kV doc pm an cdv ct) ⟨[a0,a1,a2,a3,a4],[]⟩=pure ([p0,p1,p2,p3,p4].zip [a0,a1,a2,a3,a4]):=by intros;rfl):Df K mg x st [p0,p1,p2,p3,p4]:=
 EW X G d λ_ _ _ _ _ _ us hl=>match us,hl with | [_,_,_,_,_],_=>hb _ _ _ _ _ _ _ _ _ _ _
theorem Ue {K:PySem.W.Frag}{mg:Str->Option Value}{x:Str}{st:Stmt}{p5:Str} (X:K.In h) (G:h.Ns mainGlobals mg) (d:D4 K x st) (hb:∀(kV doc pm:Value) (an:Option Addr) (cdv ct a0 a1 a2 a3 a4 a5:Value),bindArgs (PySem.W.fnOf x x (Ck st) (BW st) (Au st) .none kV doc pm an cdv ct) ⟨[a0,a1,a2,a3,a4,a5],[]⟩=pure ([p0,p1,p2,p3,p4,p5].zip [a0,a1,a2,a3,a4,a5]):=by intros;rfl):Df K mg x st [p0,p1,p2,p3,p4,p5]:=
 EW X G d λ_ _ _ _ _ _ us hl=>match us,hl with | [_,_,_,_,_,_],_=>hb _ _ _ _ _ _ _ _ _ _ _ _
abbrev Uf (x:Str) (st:Stmt) (kV dc pm:Value) (an:Option Addr) (cd ct:Value):FuncData:=PySem.W.fnOf x x (Ck st) (BW st) (Au st) .none kV dc pm an cd ct
open PySem.W in
theorem all_mk {l:OpenLaw}{w:World}{K:Frag}{mg:Str->Option Value}{fa:Addr} (X:K.In h) (G:h.Ns mainGlobals mg) (hfa:mg "law"=some (.ref fa))
  {f:Addr}{od an:Option Addr}{sl:Array (Option Value)}{oc kV dc pm cd ct:Value}
  (a0:D4 K "_law_cell" s__law_cell)
  (a1:D4 K "_law_caps" s__law_caps)
  (a2:D4 K "_law_draw" s__law_draw)
  (a3:D4 K "_law_draws" s__law_draws)
  (a4:D4 K "_law_mains" s__law_mains)
  (a5:D4 K "_law_keeps" s__law_keeps)
  (a6:D4 K "_law_kept_firing" s__law_kept_firing)
  (a7:D4 K "_law_plant" s__law_plant)
  (a8:D4 K "_law_story" s__law_story)
  (a9:D4 K "_law_pair" s__law_pair)
  (a10:D4 K "_law_pen" s__law_pen)
  (a11:D4 K "_law_ahead" s__law_ahead)
  (a12:D4 K "_law_out_least" s__law_out_least)
  (a13:D4 K "least_mains" s_least_mains)
  (a14:D4 K "raised" s_raised)
  (a15:D4 K "filled_up" s_filled_up)
  (a16:D4 K "is_too_much" s_is_too_much)
  (a17:D4 K "least_stretch" s_least_stretch)
  (a18:D4 K "is_whole" s_is_whole)
  (a19:D4 K "is_whole_from" s_is_whole_from)
  (a20:D4 K "need_boiler" s_need_boiler)
  (a21:D4 K "drawn_by" s_drawn_by)
  (a22:D4 K "is_tuple_of" s_is_tuple_of)
  (a23:D4 K "is_fault" s_is_fault)
  (a24:D4 K "is_make_and_coal" s_is_make_and_coal)
  (a25:D4 K "are_boilers" s_are_boilers)
  (a26:D4 K "is_engine" s_is_engine)
  (a27:D4 K "are_engines" s_are_engines)
  (a28:D4 K "is_main" s_is_main)
  (a29:D4 K "is_plant" s_is_plant)
  (a30:D4 K "need_plant" s_need_plant)
  (a31:D4 K "is_story" s_is_story)
  (a32:D4 K "need_story" s_need_story)
  (a33:D4 K "draws_of" s_draws_of)
  (a34:D4 K "cap_under" s_cap_under)
  (a35:D4 K "words_for" s_words_for)
  (a36:D4 K "caps_in" s_caps_in)
  (a37:D4 K "caps_of" s_caps_of)
  (a38:D4 K "is_row" s_is_row)
  (a39:D4 K "is_firing_within" s_is_firing_within)
  (a40:D4 K "is_firing" s_is_firing)
  (a41:D4 K "need_firing" s_need_firing)
  (a42:D4 K "run_day" s_run_day)
  (a43:D4 K "falls_at" s_falls_at)
  (a44:D4 K "keeps_up" s_keeps_up)
  (a45:D4 K "need_keeping" s_need_keeping)
  (a46:D4 K "need_boiler_of_keeping" s_need_boiler_of_keeping)
  (a47:D4 K "need_hour" s_need_hour)
  (a48:D4 K "replaced" s_replaced)
  (a49:D4 K "course" s_course)
  (a50:D4 K "terms_of" s_terms_of)
  (a51:D4 K "terms_from" s_terms_from)
  (a52:D4 K "moved" s_moved)
  (a53:D4 K "units_moved" s_units_moved)
  (a54:D4 K "least_moved" s_least_moved)
  (a55:D4 K "moved_by" s_moved_by)
  (a56:D4 K "outs_let" s_outs_let)
  (a57:D4 K "_law_right" s__law_right)
  (a:nsIn K mainGlobals "law"=some (some (.ref f))) (l0:K.lookup f=some ⟨oc,od,.func (Uf "law" s_law kV dc pm an cd ct),sl⟩) (c:codeIn K cd "law"=true) (k:keepIn K (.ref f)=true)
  (z0:nsIn K mainGlobals "abs"=some none)
  (z1:nsIn K mainGlobals "all"=some none)
  (z2:nsIn K mainGlobals "any"=some none)
  (z3:nsIn K mainGlobals "bool"=some none)
  (z4:nsIn K mainGlobals "divmod"=some none)
  (z5:nsIn K mainGlobals "enumerate"=some none)
  (z6:nsIn K mainGlobals "int"=some none)
  (z7:nsIn K mainGlobals "isinstance"=some none)
  (z8:nsIn K mainGlobals "len"=some none)
  (z9:nsIn K mainGlobals "list"=some none)
  (z10:nsIn K mainGlobals "max"=some none)
  (z11:nsIn K mainGlobals "min"=some none)
  (z12:nsIn K mainGlobals "range"=some none)
  (z13:nsIn K mainGlobals "repr"=some none)
  (z14:nsIn K mainGlobals "reversed"=some none)
  (z15:nsIn K mainGlobals "sum"=some none)
  (z16:nsIn K mainGlobals "tuple"=some none)
  (z17:nsIn K mainGlobals "zip"=some none)
  {t0:Tok} (q0:nsIn K mainGlobals "MOST_BOILERS"=some (some (.int 4 t0)))
  {t1:Tok} (q1:nsIn K mainGlobals "MOST_ENGINES"=some (some (.int 4 t1)))
  {t2:Tok} (q2:nsIn K mainGlobals "MOST_FAULTS"=some (some (.int 4 t2)))
  {t3:Tok} (q3:nsIn K mainGlobals "MOST_HOURS"=some (some (.int 8 t3)))
  {t4:Tok} (q4:nsIn K mainGlobals "MOST_UNITS"=some (some (.int 9 t4)))
  {t5:Tok} (q5:nsIn K mainGlobals "MOST_EXTRA"=some (some (.int 20 t5)))
  {t6:Tok} (q6:nsIn K mainGlobals "MOST_IN_MAIN"=some (some (.int 40 t6)))
  :∃fd:FuncData,(∀(s:Shared) (v:Value),BindsTo s fd ⟨[v],[]⟩ [("_law_script",v)])/\∀base:Heap,K.In base->base.Ns mainGlobals mg->C0 l.prog w K mg base CX0 20 fa fd ["_law_script"] (sp_lawP K):=by
 have e:=hfa.symm.trans (PySem.W.mg_of X G a)
 cases e
 have T:Tx mg:=⟨mg_none_of X G z0,mg_none_of X G z1,mg_none_of X G z2,mg_none_of X G z3,mg_none_of X G z4,mg_none_of X G z5,mg_none_of X G z6,mg_none_of X G z7,mg_none_of X G z8,mg_none_of X G z9,mg_none_of X G z10,mg_none_of X G z11,mg_none_of X G z12,mg_none_of X G z13,mg_none_of X G z14,mg_none_of X G z15,mg_none_of X G z16,mg_none_of X G z17,⟨_,mg_of X G q0⟩,⟨_,mg_of X G q1⟩,⟨_,mg_of X G q2⟩,⟨_,mg_of X G q3⟩,⟨_,mg_of X G q4⟩,⟨_,mg_of X G q5⟩,⟨_,mg_of X G q6⟩⟩
 have F:=Ip (st:=s_law) l0 c k
 refine⟨PySem.W.fnOf "law" "law" (Ck s_law) (BW s_law) (Au s_law) .none kV dc pm an cd ct,λs v=> .of_eq rfl,λbase _ _=>?_⟩
 have B__law_cell:=R4 (P:=l.prog) (w:=w) (base:=base) (BV X G a0) T
 have B__law_caps:=Ss (P:=l.prog) (w:=w) (base:=base) (BV X G a1) T
 have B__law_draw:=R6 (P:=l.prog) (w:=w) (base:=base) (BV X G a2) T
 have B__law_draws:=SR (P:=l.prog) (w:=w) (base:=base) (BV X G a3) T
 have B__law_mains:=SS (P:=l.prog) (w:=w) (base:=base) (BS X G a4) T
 have B__law_keeps:=SU (BS X G a5) T B__law_draws B__law_mains
 have B__law_kept_firing:=SW (BS X G a6) T B__law_caps B__law_draw B__law_keeps
 have B__law_plant:=R7 (BV X G a7) T B__law_draw
 have B__law_story:=Sr (BS X G a8) T B__law_draw
 have B__law_pair:=SV (BS X G a9) T B__law_caps B__law_keeps B__law_plant B__law_story
 have B__law_pen:=R5 (P:=l.prog) (w:=w) (base:=base) (De X G a10) T
 have B__law_ahead:=TZ (FU X G a11) T B__law_draws B__law_mains
 have B__law_out_least:=T1 (Ia X G a12) T B__law_ahead B__law_caps B__law_draws
 have B_least_mains:=TC (P:=l.prog) (w:=w) (base:=base) (De X G a13) T
 have B_raised:=TD (P:=l.prog) (w:=w) (base:=base) (BS X G a14) T
 have B_filled_up:=TF (BV X G a15) T B_least_mains B_raised
 have B_is_too_much:=Tj (P:=l.prog) (w:=w) (base:=base) (BV X G a16) T
 have B_least_stretch:=Tk (De X G a17) T B_is_too_much
 have B_is_whole:=RJ (P:=l.prog) (w:=w) (base:=base) (De X G a18) T
 have B_is_whole_from:=RL (BS X G a19) T B_is_whole
 have B_need_boiler:=S9 (BV X G a20) T B_is_whole_from
 have B_drawn_by:=Sm (P:=l.prog) (w:=w) (base:=base) (BV X G a21) T
 have B_is_tuple_of:=RN (P:=l.prog) (w:=w) (base:=base) (BS X G a22) T
 have B_is_fault:=Sb (BS X G a23) T B_is_tuple_of B_is_whole_from
 have B_is_make_and_coal:=RU (De X G a24) T B_is_tuple_of B_is_whole_from
 have B_are_boilers:=RY (De X G a25) T B_is_make_and_coal B_is_tuple_of
 have B_is_engine:=RV (De X G a26) T B_is_tuple_of B_is_whole_from
 have B_are_engines:=R0 (De X G a27) T B_is_engine B_is_tuple_of
 have B_is_main:=RW (De X G a28) T B_is_tuple_of B_is_whole_from
 have B_is_plant:=R1 (De X G a29) T B_are_boilers B_are_engines B_is_main B_is_tuple_of
 have B_need_plant:=Sa (De X G a30) T B_is_plant
 have B_is_story:=Sc (BV X G a31) T B_is_fault B_is_tuple_of B_is_whole_from B_need_plant
 have B_need_story:=Se (BV X G a32) T B_is_story
 have B_draws_of:=Sn (BV X G a33) T B_drawn_by B_need_story
 have B_cap_under:=Sg (P:=l.prog) (w:=w) (base:=base) (BV X G a34) T
 have B_words_for:=Si (P:=l.prog) (w:=w) (base:=base) (BS X G a35) T
 have B_caps_in:=Sk (BS X G a36) T B_cap_under B_words_for
 have B_caps_of:=Sl (BV X G a37) T B_caps_in B_need_story
 have B_is_row:=Sy (BV X G a38) T B_is_tuple_of B_is_whole_from
 have B_is_firing_within:=SC (BV X G a39) T B_is_row B_is_tuple_of
 have B_is_firing:=SF (BS X G a40) T B_caps_of B_is_firing_within
 have B_need_firing:=SH (BS X G a41) T B_is_firing
 have B_run_day:=SI (BS X G a42) T B_draws_of B_need_firing
 have B_falls_at:=SK (BS X G a43) T B_run_day
 have B_keeps_up:=SM (BS X G a44) T B_falls_at
 have B_need_keeping:=Tb (BS X G a45) T B_keeps_up
 have B_need_boiler_of_keeping:=Td (FU X G a46) T B_need_boiler B_need_keeping
 have B_need_hour:=S7 (BV X G a47) T B_is_whole_from
 have B_replaced:=Tm (P:=l.prog) (w:=w) (base:=base) (BS X G a48) T
 have B_course:=SJ (BS X G a49) T B_run_day
 have B_terms_of:=Ti (BV X G a50) T B_caps_of B_draws_of
 have B_terms_from:=TH (Ia X G a51) T B_course B_replaced B_terms_of
 have B_moved:=TJ (Ia X G a52) T B_filled_up B_least_stretch B_need_boiler_of_keeping B_need_hour B_replaced B_terms_from
 have B_units_moved:=Tf (P:=l.prog) (w:=w) (base:=base) (FU X G a53) T
 have B_least_moved:=TK (Ia X G a54) T B_moved B_units_moved
 have B_moved_by:=Th (Ue X G a55) T B_is_firing B_keeps_up B_need_boiler_of_keeping B_need_hour B_units_moved
 have B_outs_let:=T5 (FU X G a56) T B_moved B_need_boiler_of_keeping
 have B__law_right:=T6 (FU X G a57) T B__law_caps B__law_out_least B_least_moved B_moved B_moved_by B_outs_let
 exact Ud F T B__law_cell B__law_kept_firing B__law_pair B__law_pen B__law_right B_least_moved B_outs_let
end MF
namespace PySem.W.Fast
def tw5524695797700440133:=0
def tw13645588624495808779:=0
def tw17004559853897554580:=0
def tw1908561193769958491:=0
def tw12440931991642420166:=0
def tw4535842519591593091:=0
def tw15022407363712634828:=0
def tw15036281531272407190:=0
def tw7028258151003993355:=0
def tw5049836982622860286:=0
def tw1307266398335650385:=0
def tw6532531891494778517:=0
def tw3474463673084423377:=0
def tw9052986266133129085:=0
def tw15179858532662193762:=0
def tw12602011755949846493:=0
def tw7872121939613915952:=0
def tw6416592280267384096:=0
def tw4194593798713548641:=0
def tw4484124089757606242:=0
def tw12694610513301600327:=0
def tw11261739125596355357:=0
def tw13956604244613917491:=0
def tw9125253465851408344:=0
def tw16292051574925115519:=0
def tw3057615273866394571:=0
def tw4407009573544324411:=0
def tw2539872301750500415:=0
def tw13157526173115446405:=0
def tw17863330442850003451:=0
def tw1726088195933560257:=0
def tw7129256459423334381:=0
def tw2074202756561543068:=0
def tw8306128196967087806:=0
def tw14348864937321780346:=0
def tw6302334678702860046:=0
def tw2530916654343481597:=0
def tw4944218966059825914:=0
def tw8707412522708049941:=0
def tw1054613528093351739:=0
def tw10323664696488742637:=0
def tw2001882457233630805:=0
def tw10849785628506794562:=0
def tw5257637072264392354:=0
def tw4911404103024967817:=0
def tw4329220483328110864:=0
def tw13603279243698871786:=0
def tw12278265160196108920:=0
def tw18210662701272804101:=0
def tw7078491748817590739:=0
def tw7106802216377247834:=0
def tw11851654115687360896:=0
def tw9482552252498950312:=0
def tw16718721097627455402:=0
def tw2951237889681697376:=0
def tw10018839496617542297:=0
def tw9426176877876772611:=0
def tw11626840189223184411:=0
def tw9210749107809308454:=0
def tw18181622576908110361:=0
def tw10102806251160798601:=0
def tw16058986442294512551:=0
def tw6024992737012491758:=0
def tw1335755718687740936:=0
def tw9158318186759541704:=0
def tw16252639813779832422:=0
def tw332250208306523655:=0
def tw1162179456791338985:=0
def tw15733758363620079690:=0
def tw1262676323870499220:=0
def tw16077171029424898501:=0
def tw10108648319000229191:=0
def tw15016508404338290484:=0
def tw4804310913768393871:=0
def tw12990640799159386711:=0
def tw15807772998617182521:=0
def tw10275519010488162786:=0
def tw17945591348288189842:=0
def tw5985895169897121351:=0
def tw290866390058009355:=0
def tw13996423549803827309:=0
def tw14360034946977863117:=0
def tw3305292670036325217:=0
def tw14166248407701754571:=0
def tw8697008575857870614:=0
def tw11127053399368089846:=0
def tw15725834289773837663:=0
def tw8970940082569576865:=0
def tw16739779164879198828:=0
def tw4795384156353556443:=0
def tw6977138948244645892:=0
def tw11805060795095164665:=0
def tw13244893725440887387:=0
def tw8542653896240718700:=0
def tw5865246717847823321:=0
def tw10717313631671756774:=0
def tw4825638649351796884:=0
def tw10149678244092202206:=0
def tw2568861832005641380:=0
def tw4458809516653948227:=0
def tw2243939211832882338:=0
def tw908394775765714467:=0
def tw13992236006140593937:=0
def tw2517895405698362311:=0
def tw2182989090464140708:=0
def tw1323633105002971749:=0
def tw3848059963414838396:=0
def tw18121150993279676726:=0
def tw18442216557516118073:=0
def tw14339023702402701378:=0
def tw15556105411915171578:=0
def tw9292046640059789550:=0
def tw3239593607456858331:=0
def tw14965379042488562509:=0
def tw16226004970653437221:=0
def tw6791499360651735669:=0
def tw17095504803773328364:=0
def tw4498207624706685197:=0
def tw12138508771451654756:=0
def tw6090137564012419285:=0
def tw1703331624971733978:=0
def tw2311885706563103083:=0
def tw6953024658896009316:=0
def tw15365188338476823930:=0
def tw2320871399756752998:=0
def tw12424265366719253138:=0
def tw13595211833373373541:=0
def tw1866045393839215211:=0
def tw8490216987578457646:=0
def tw17548286907737975388:=0
def tw14393374546798730542:=0
def tw11916864967709419162:=0
def tw7013953238403857781:=0
def tw4610574052173453332:=0
def tw6252888903856065075:=0
def tw534944861771043377:=0
def tw5156328891972658760:=0
def tw15952598665403887618:=0
def tw16208482365160986080:=0
def tw7094117940120949860:=0
def tw3430126934331135053:=0
def tw14419273169407732982:=0
end PySem.W.Fast
open PySem PySem.W PyProof.Rows
set_option maxRecDepth 100000 in
set_option maxHeartbeats 0 in
theorem PySem.Challenge.cw_mainfires_k63_whole_outs_that_are_let_holds : PySem.Challenge.rw_mainfires_k63_whole_outs_that_are_let.Holds := by
 w_on;o_law;k_head;(case hw=>w_witness2)
 k_fill
 refine L2.walk_ofK (l := PySem.Challenge.rw_mainfires_k63_whole_outs_that_are_let) (n := 63) (k := 20) (x := "_law_script") (CX := L2.CX0) (sp := MF.sp_lawP) rfl (by decide) rfl ⟨rfl, by decide, by decide, rfl⟩ (λw h Y => PySem.W.kIn_of Y) ?F (λ_ _ a ns hl _ hS => ⟨ns, hS, hl, λ_ => rfl⟩) (λ_ _ _ _ z => z)
 case F=>
  intro w mg fa h KX G hmg
  refine' MF.all_mk KX G hmg ?_ ?_ ?_ ?_ ?_ ?_ ?_ ?_ ?_ ?_ ?_ ?_ ?_ ?_ ?_ ?_ ?_ ?_ ?_ ?_ ?_ ?_ ?_ ?_ ?_ ?_ ?_ ?_ ?_ ?_ ?_ ?_ ?_ ?_ ?_ ?_ ?_ ?_ ?_ ?_ ?_ ?_ ?_ ?_ ?_ ?_ ?_ ?_ ?_ ?_ ?_ ?_ ?_ ?_ ?_ ?_ ?_ ?_ ?_ ?_ ?_ ?_ ?_ ?_ ?_ ?_ ?_ ?_ ?_ ?_ ?_ ?_ ?_ ?_ ?_ ?_ ?_ ?_ ?_ ?_ ?_ ?_ ?_ ?_ ?_ ?_ ?_
  all_goals first | refine' MF.d4_mk ?_ ?_ ?_ ?_ | skip
  any_goals k_is
end
